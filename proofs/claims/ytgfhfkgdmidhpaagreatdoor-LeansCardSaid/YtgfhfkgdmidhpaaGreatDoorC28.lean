import Derived.Test.YtgfhfkgdmidhpaaGreatDoorC27
namespace Go.Proofs.YtgfhfkgdmidhpaaGreatDoor
open Go.RowKit Go.Maps
set_option maxRecDepth 100000
set_option maxHeartbeats 8000000
structure WdI(w0:World)(ob:Obj)(E:List (Nat×List (Nat×Nat)))(X:List (Nat×Nat))(vx:Value)(wr:World):Prop where
 g:wr.heap[w0.heap.size]?=some ob
 r:wr.heap[w0.heap.size+1]?=some (.cells #[.slice none 0 0] 161 (0,0))
 p:wr.heap[w0.heap.size+3]?=some (.cells #[.slice none 0 0,.map (some (w0.heap.size+2))] 268 (0,0))
 f:JW wr (w0.heap.size+2) E.length w0.heap.size (lkF E) vx
 x:wr.ownsRow w0.heap.size 132 2 vx X.length (pcs X)
 b:Below w0.heap.size w0 wr
theorem WdI.keeps{w0 ob E X vx wr wr'}(h:WdI w0 ob E X vx wr)(hz:w0.heap.size<wr.heap.size)(F:Below wr.heap.size wr wr'):WdI w0 ob E X vx wr':=
 ⟨by rw[F.block _ hz];exact h.g,by rw[F.block _ (lt_of_block h.r)];exact h.r,by rw[F.block _ (lt_of_block h.p)];exact h.p,h.f.keeps F,Qd h.x (Qi F) trivial,h.b.trans (F.mono h.b.size)⟩
theorem WdI.lt{w0 ob E X vx wr}(h:WdI w0 ob E X vx wr):w0.heap.size<wr.heap.size:=by have:=lt_of_block h.p;omega
theorem WdI.keep{w0 ob E X vx wr wr'}(h:WdI w0 ob E X vx wr)(F:Below wr.heap.size wr wr'):WdI w0 ob E X vx wr':=h.keeps h.lt F
theorem WdI.upd{w0 cs E X vx wr}(h:WdI w0 (.cells cs 87 (0,0)) E X vx wr){r:Nat}(hr:r<10000)(hk:E.length<maxLen){v:Value}{l:List (Nat×Nat)}{B:Nat}(hB:w0.heap.size≤B)(hx:∀g,vx.ownBlock=some g→g<B)(o:wr.ownsRow B 132 2 v l.length (pcs l)):
  ∃w',(Instr.mapUpdate 266 (.map (some (w0.heap.size+2))) (.int .i64 r) v).run Tryz.prog wr=.ok () w'∧WdI w0 (.cells cs 87 (0,0)) (E++[(r,l)]) X vx w'∧wr.grownBy w' (some (w0.heap.size+2)):=by
 obtain⟨w',h1,h2,h3⟩:=h.f.upd hr hk hB hx o;refine⟨w',h1,⟨?_,?_,?_,?_,?_,?_⟩,h3⟩
 ·rw[h3.block _ h.lt (fun e=>by injection e with e;omega)];exact h.g
 ·rw[h3.block _ (lt_of_block h.r) (fun e=>by injection e with e;omega)];exact h.r
 ·rw[h3.block _ (lt_of_block h.p) (fun e=>by injection e with e;omega)];exact h.p
 ·rw[List.length_append,WU];exact h2
 ·refine Qd h.x (T:=fun _=>True) (fun k c e _ _ hh=>?_) trivial;obtain⟨es,clock,hm⟩:=h.f.r.map;rw[h3.block k (lt_of_block hh) (fun e2=>by cases e2;rw[hm]at hh;cases hh)];exact hh
 ·exact h.b.trans ⟨h3.os,h3.tape,h3.output,h3.size,fun k hk=>h3.block k (by have:=h.lt;omega) (fun e=>by cases e;omega)⟩
theorem WdI.app{w0 cs E X vx wr w' vx'}{l:List (Nat×Nat)}(h:WdI w0 (.cells cs 87 (0,0)) E X vx wr)(o:w'.ownsRow w0.heap.size 132 2 vx' (X.length+l.length) (pcs X++pcs l))(g:wr.grownBy w' vx.ownBlock)(hv:vx'.ownBlock=vx.ownBlock∨vx'.ownBlock=some wr.heap.size):WdI w0 (.cells cs 87 (0,0)) E (X++l) vx' w':=by
 have C:Ch (fun j=>some j=vx.ownBlock) wr w':=Ch.grown g (fun _ h=>h);refine⟨?_,?_,?_,h.f.app h.x g hv,by rw[List.length_append,J3];exact o,h.b.trans (C.toBelow h.b.size (fun j hj=>(h.x.lt j hj.symm).1))⟩
 ·rw[C.block _ h.lt (fun e2=>Qw h.x h.g (by decide) e2.symm)];exact h.g
 ·rw[C.block _ (lt_of_block h.r) (fun e2=>Qw h.x h.r (by decide) e2.symm)];exact h.r
 ·rw[C.block _ (lt_of_block h.p) (fun e2=>Qw h.x h.p (by decide) e2.symm)];exact h.p
theorem GF(t:Qy):(rdsF t).length≤2:=by
 unfold rdsF
 repeat' split
 all_goals simp
theorem Qda(e:Z3):(QZ e).length≤1:=by unfold QZ;split<;>simp
theorem Qfb(bs:List Ql)(base B:Nat)(v va vu:Value)(w:World)(h:Grd w bs base B v va vu)(hk:Hid (LnK bs))(hL:Hid (∀x,(∀y∈lkF (ZV (coF bs) bs bs.length) x,y.1<5000)∧(lkF (ZV (coF bs) bs bs.length) x).length≤1000000))(hF:Hid (∀y∈Z6 (coF bs) bs bs.length,y.1<5000))(hFl:(Z6 (coF bs) bs bs.length).length≤1000000)(hn:bs.length≤12):
  Calls Tryz.prog 106 #[.agg #[v,va,vu,v]] w fun x w'=>∃S vs,x=.returned (.agg #[vs])∧Hid (w'.ownsRow w.heap.size 78 1 vs S.length (Qg S)∧S.Pairwise (· < ·)∧(∀x∈S,x<5000)∧Dfs (lkF (ZV (coF bs) bs bs.length)) (Z6 (coF bs) bs bs.length) [] S∧Below w.heap.size w w'):=by
 obtain⟨⟨p,cp,rfl⟩,⟨pa,ca,rfl⟩,q,d,rfl⟩:=h.form;have H:=Qc h;clear h;have hmm:=@run_makeMap Tryz.prog;go_enter Tryz.func106,Tryz.ntmps106;go_wp2_with fail;clear hmm;obtain⟨W,hW⟩:∃W,W=(((w.alloc (.cells #[.slice p bs.length cp,.slice pa (Qx bs).length ca,.slice q bs.length d,.slice p bs.length cp] 87)).alloc (.cells #[.slice none 0 0] 161)).alloc (.map #[] 0)).alloc (.cells #[.slice none 0 0,.map (some (w.heap.size+1+1))] 268):=⟨_,rfl⟩;rw[←hW];have B0:Hid (WdI w (.cells #[.slice p bs.length cp,.slice pa (Qx bs).length ca,.slice q bs.length d,.slice p bs.length cp] 87 (0,0)) (ZV (coF bs) bs 0) (Z6 (coF bs) bs 0) (.slice none 0 0) W):=by
  have f1:=(Below.refl w.heap.size w).alloc (Nat.le_refl _) (.cells #[.slice p bs.length cp,.slice pa (Qx bs).length ca,.slice q bs.length d,.slice p bs.length cp] 87);have g1:=heap_alloc_last w (.cells #[.slice p bs.length cp,.slice pa (Qx bs).length ca,.slice q bs.length d,.slice p bs.length cp] 87);have z1:=World.size_alloc w (.cells #[.slice p bs.length cp,.slice pa (Qx bs).length ca,.slice q bs.length d,.slice p bs.length cp] 87);generalize w.alloc (.cells #[.slice p bs.length cp,.slice pa (Qx bs).length ca,.slice q bs.length d,.slice p bs.length cp] 87)=w1 at *;have f2:=(Below.refl w1.heap.size w1).alloc (Nat.le_refl _) (.cells #[.slice none 0 0] 161);have g2:=heap_alloc_last w1 (.cells #[.slice none 0 0] 161);have z2:=World.size_alloc w1 (.cells #[.slice none 0 0] 161);generalize w1.alloc (.cells #[.slice none 0 0] 161)=w2 at *;have f3:=(Below.refl w2.heap.size w2).alloc (Nat.le_refl _) (.map #[] 0);have g3:=JW.new w2 w.heap.size (.slice none 0 0);have z3:=World.size_alloc w2 (.map #[] 0);generalize w2.alloc (.map #[] 0)=w3 at *;have f4:=(Below.refl w3.heap.size w3).alloc (Nat.le_refl _) (.cells #[.slice none 0 0,.map (some (w.heap.size+1+1))] 268);have g4:=heap_alloc_last w3 (.cells #[.slice none 0 0,.map (some (w.heap.size+1+1))] 268);rw[←hW]at f4 g4;have F2:=f2.trans (f3.mono (by omega));have F3:=F2.trans (f4.mono (by omega));refine⟨?_,?_,?_,?_,World.ownsRow_nil _ _ _ _,f1.trans (F3.mono (by omega))⟩
  ·rw[F3.block _ (by omega)];exact g1
  ·rw[f4.block _ (by omega),f3.block _ (by omega),←z1];exact g2
  ·rw[show w.heap.size+3=w3.heap.size by omega];exact g4
  ·have:=g3.keeps f4;rw[show w2.heap.size=w.heap.size+2 by omega]at this;exact this
 clear hW
 go_loopw [4,18] (fun vx ii wr=>∃i:Nat,i≤bs.length∧ii=.int .i64 i∧(ZV (coF bs) bs i).length≤i*2000000∧(Z6 (coF bs) bs i).length≤i*2000001∧Hid (WdI w (.cells #[.slice p bs.length cp,.slice pa (Qx bs).length ca,.slice q bs.length d,.slice p bs.length cp] 87 (0,0)) (ZV (coF bs) bs i) (Z6 (coF bs) bs i) vx wr)) (fun _ ii _=>bs.length-(intOf ii).toNat)
 case atStart=>exact⟨0,by omega,rfl,Nat.zero_le _,Nat.zero_le _,B0⟩
 case round=>
  clear B0;obtain⟨i,hi,rfl,hEl,hXl,HI⟩:=hrel;rename World=>wA;obtain⟨E,hE⟩:∃E,E=ZV (coF bs) bs i:=⟨_,rfl⟩;obtain⟨X,hX⟩:∃X,X=Z6 (coF bs) bs i:=⟨_,rfl⟩;rw[←hE]at hEl HI;rw[←hX]at hXl HI;have HE:=Qc (And.intro hE hX);clear hE hX;obtain⟨px,cx,rfl⟩:=Qb HI.o.x;by_cases hlt:i<bs.length
  ·obtain⟨g,qc,cc,pt,ct,rfl,_,hg,hop,OC,OS,d0,d1,d2,d3⟩:=H.o.p.at hlt;have FA:=HI.o.b;obtain⟨T,x,fe,hTx,hem,het,hec⟩:=Qij bs[i].e hop;have HEM:=Qc (And.intro hem (And.intro het hec));have HOC:=Qc (And.intro OC OS);rw[hTx]at d3;replace d0:=(FA.cell (p:=⟨g,i*4,none⟩) hg).trans d0;replace d1:=(FA.cell (p:=⟨g,i*4+1,none⟩) hg).trans d1;replace d2:=(FA.cell (p:=⟨g,i*4+2,none⟩) hg).trans d2;replace d3:=(FA.cell (p:=⟨g,i*4+3,none⟩) hg).trans d3;have hcl:=hk.out.cl _ (List.getElem_mem hlt);have hsl:=hk.out.sl _ (List.getElem_mem hlt);have HCL:Hid (∀c∈bs[i].chs,Ga 5000 bs.length c):=hk.out.ch _ (List.getElem_mem hlt);have HSL:Hid (∀t∈bs[i].sts,StLow 5000 t):=hk.out.st _ (List.getElem_mem hlt);have HBK:Hid (bkF bs i=bs[i]):=Zt hlt;generalize hbb:bs[i]=bb at *;clear hbb;have FB:=(Below.refl wA.heap.size wA).alloc (Nat.le_refl _) (.cells #[.int .i64 bb.at_,.slice qc bb.chs.length cc,.slice pt bb.sts.length ct,.iface T x] 104);have HB:Hid (WdI w (.cells #[.slice (some ⟨g,0,none⟩) bs.length cp,.slice pa (Qx bs).length ca,.slice q bs.length d,.slice (some ⟨g,0,none⟩) bs.length cp] 87 (0,0)) E X (.slice px X.length cx) (wA.alloc (.cells #[.int .i64 bb.at_,.slice qc bb.chs.length cc,.slice pt bb.sts.length ct,.iface T x] 104))∧(wA.alloc (.cells #[.int .i64 bb.at_,.slice qc bb.chs.length cc,.slice pt bb.sts.length ct,.iface T x] 104)).heap[wA.heap.size]?=some (.cells #[.int .i64 bb.at_,.slice qc bb.chs.length cc,.slice pt bb.sts.length ct,.iface T x] 104 (0,0))):=⟨HI.o.keep FB,heap_alloc_last _ _⟩;have e0:=Qa HB.o.1.g 0;have e1:=Qa HB.o.1.g 1;have e2:=Qa HB.o.1.g 2;simp at e0 e1 e2;have hwz:=HI.o.lt;clear OC OS FA FB hem het hec hTx HI;go_wp2_with fail;clear d0 d1 d2 d3 e0 e1 e2;generalize wA.alloc (.cells #[.int .i64 bb.at_,.slice qc bb.chs.length cc,.slice pt bb.sts.length ct,.iface T x] 104)=W1 at *;refine((H.o.keeps HB.o.1.b).reach hlt (by omega)).mono ?_;rintro e w3 ⟨rfl,f3⟩;have H3:Hid (WdI w (.cells #[.slice (some ⟨g,0,none⟩) bs.length cp,.slice pa (Qx bs).length ca,.slice q bs.length d,.slice (some ⟨g,0,none⟩) bs.length cp] 87 (0,0)) E X (.slice px X.length cx) w3∧w3.heap[wA.heap.size]?=some (.cells #[.int .i64 bb.at_,.slice qc bb.chs.length cc,.slice pt bb.sts.length ct,.iface T x] 104 (0,0))):=⟨HB.o.1.keep f3,by rw[f3.block _ (lt_of_block HB.o.2)];exact HB.o.2⟩;clear f3 HB;obtain⟨kk,hkk⟩:∃kk,kk=coF bs i:=⟨_,rfl⟩;rw[←hkk]
   cases kk with
   | false=>
    have HN:Hid (ZV (coF bs) bs (i+1)=E∧Z6 (coF bs) bs (i+1)=X):=by
     refine⟨?_,?_⟩
     ·rw[Ug,←hkk,HE.o.1];simp
     ·rw[YS,←hkk,HE.o.2];simp
    have hE2:(ZV (coF bs) bs (i+1)).length≤(i+1)*2000000:=by
     have:=congrArg List.length HN.o.1;omega
    have hX2:(Z6 (coF bs) bs (i+1)).length≤(i+1)*2000001:=by
     have:=congrArg List.length HN.o.2;omega
    clear hkk;go_wp2_with fail;go_roundw
    case rel=>exact⟨i+1,by omega,by go_num,hE2,hX2,by rw[HN.o.1,HN.o.2];exact H3.o.1⟩
    case measure=>simp[intOf];omega
   | true=>
    have HN:Hid (ZV (coF bs) bs (i+1)=E++(bb.chs.map (entC (coF bs))++bb.sts.filterMap XI)∧Z6 (coF bs) bs (i+1)=X++(bb.sts.flatMap KJ++QZ bb.e)):=by
     refine⟨?_,?_⟩
     ·rw[Ug,←hkk,HE.o.1,HBK.o];rfl
     ·rw[YS,←hkk,HE.o.2,HBK.o];rfl
    clear hkk;have k1:=Qa H3.o.2 1;simp at k1;have hz3:=lt_of_block H3.o.2;go_wp2_with fail;clear k1;have B1:Hid (WdI w (.cells #[.slice (some ⟨g,0,none⟩) bs.length cp,.slice pa (Qx bs).length ca,.slice q bs.length d,.slice (some ⟨g,0,none⟩) bs.length cp] 87 (0,0)) (E++(bb.chs.take 0).map (entC (coF bs))) X (.slice px X.length cx) w3∧w3.heap[wA.heap.size]?=some (.cells #[.int .i64 bb.at_,.slice qc bb.chs.length cc,.slice pt bb.sts.length ct,.iface T x] 104 (0,0))):=by
     rw[List.take_zero,List.map_nil,List.append_nil];exact H3
    clear H3
    go_loopw [31] (fun jj wr=>∃j:Nat,j≤bb.chs.length∧jj=.int .i64 j∧Hid (WdI w (.cells #[.slice (some ⟨g,0,none⟩) bs.length cp,.slice pa (Qx bs).length ca,.slice q bs.length d,.slice (some ⟨g,0,none⟩) bs.length cp] 87 (0,0)) (E++(bb.chs.take j).map (entC (coF bs))) X (.slice px X.length cx) wr∧wr.heap[wA.heap.size]?=some (.cells #[.int .i64 bb.at_,.slice qc bb.chs.length cc,.slice pt bb.sts.length ct,.iface T x] 104 (0,0)))) (fun jj _=>bb.chs.length-(intOf jj).toNat)
    case atStart=>exact⟨0,by omega,rfl,B1⟩
    case round=>
     clear B1 hz3;obtain⟨j,hj,rfl,HJ⟩:=hrel;rename World=>wB;by_cases hjl:j<bb.chs.length
     ·obtain⟨gc,pu,cu,rfl,_,hgc,hgr,OU,c0,c1,c2⟩:=HOC.o.1.at hjl;have FB:=HJ.o.1.b;have HNE:Hid (E++(bb.chs.take (j+1)).map (entC (coF bs))=E++(bb.chs.take j).map (entC (coF bs))++[entC (coF bs) bb.chs[j]]):=by show _=_;rw[List.take_succ_eq_append_getElem hjl,List.map_append,List.append_assoc];rfl
      have HLO:=Qc (HCL.o _ (List.getElem_mem hjl));have HEL:Hid ((E++(bb.chs.take j).map (entC (coF bs))).length<maxLen):=by
       show _<_;rw[List.length_append,List.length_map,List.length_take];unfold maxLen;omega
      have HCR:Hid (ChR w base bb.chs[j] (.slice pu bb.chs[j].gs.length cu)):=⟨hgr,OU⟩;replace c0:=(FB.cell (p:=⟨gc,j*3,none⟩) hgc).trans c0;replace c1:=(FB.cell (p:=⟨gc,j*3+1,none⟩) hgc).trans c1;replace c2:=(FB.cell (p:=⟨gc,j*3+2,none⟩) hgc).trans c2;generalize hEE:E++(bb.chs.take j).map (entC (coF bs))=E2 at *;clear hEE;generalize bb.chs[j]=ch at *;have F5:=(Below.refl wB.heap.size wB).alloc (Nat.le_refl _) (.cells #[.int .i64 ch.to.1,.int .i64 ch.to.2,.slice pu ch.gs.length cu] 140);have H5:Hid (WdI w (.cells #[.slice (some ⟨g,0,none⟩) bs.length cp,.slice pa (Qx bs).length ca,.slice q bs.length d,.slice (some ⟨g,0,none⟩) bs.length cp] 87 (0,0)) E2 X (.slice px X.length cx) (wB.alloc (.cells #[.int .i64 ch.to.1,.int .i64 ch.to.2,.slice pu ch.gs.length cu] 140))∧(wB.alloc (.cells #[.int .i64 ch.to.1,.int .i64 ch.to.2,.slice pu ch.gs.length cu] 140)).heap[wA.heap.size]?=some (.cells #[.int .i64 bb.at_,.slice (some ⟨gc,0,none⟩) bb.chs.length cc,.slice pt bb.sts.length ct,.iface T x] 104 (0,0))∧(wB.alloc (.cells #[.int .i64 ch.to.1,.int .i64 ch.to.2,.slice pu ch.gs.length cu] 140)).heap[wB.heap.size]?=some (.cells #[.int .i64 ch.to.1,.int .i64 ch.to.2,.slice pu ch.gs.length cu] 140 (0,0))):=⟨HJ.o.1.keep F5,by rw[F5.block _ (lt_of_block HJ.o.2)];exact HJ.o.2,heap_alloc_last _ _⟩;clear FB F5 HJ OU hgr;go_wp2_with fail;clear c0 c1 c2;generalize wB.alloc (.cells #[.int .i64 ch.to.1,.int .i64 ch.to.2,.slice pu ch.gs.length cu] 140)=W2 at *;have hGG:W2.heap[w.heap.size]?=some (.cells #[.slice (some ⟨g,0,none⟩) bs.length cp,.slice pa (Qx bs).length ca,.slice q bs.length d,.slice (some ⟨g,0,none⟩) bs.length cp] 87 (0,0)):=H5.o.1.g;have y1:W2.cell? ⟨w.heap.size+1+1+1,1,none⟩=some (.map (some (w.heap.size+1+1))):=by have:=Qa H5.o.1.p 1;simpa using this
      have q0:=Qa hGG 0;have q1:=Qa hGG 1;have q2:=Qa hGG 2;have q3:=Qa hGG 3;have c0:=Qa H5.o.2.2 0;have c1:=Qa H5.o.2.2 1;have c2:=Qa H5.o.2.2 2;simp at q0 q1 q2 q3 c0 c1 c2;clear hGG;have HC:Hid (Calls Tryz.prog 155 #[.agg #[.slice (some ⟨g,0,none⟩) bs.length cp,.slice pa (Qx bs).length ca,.slice q bs.length d,.slice (some ⟨g,0,none⟩) bs.length cp],.agg #[.int .i64 ch.to.1,.int .i64 ch.to.2,.slice pu ch.gs.length cu]] W2.drew fun x w'=>∃v',x=.returned v'∧Hid (w'.ownsRow W2.drew.heap.size 132 2 v' (Jy (coF bs) ch ch.gs.length).length (pcs (Jy (coF bs) ch ch.gs.length))∧Below W2.drew.heap.size W2.drew w')):=by
       have FD:=H5.o.1.b.trans ((QM W2).mono H5.o.1.b.size);exact Qgy bs base B base _ _ _ _ ch W2.drew (H.o.keeps FD) (HCR.o.keeps FD) HLO (by omega)
      have HUP:Hid (∀(v':Value)(w':World),w'.ownsRow W2.drew.heap.size 132 2 v' (Jy (coF bs) ch ch.gs.length).length (pcs (Jy (coF bs) ch ch.gs.length))→Below W2.drew.heap.size W2.drew w'→∃w4,(Instr.mapUpdate 266 (.map (some (w.heap.size+1+1))) (.int .i64 ch.to.1) v').run Tryz.prog w'=.ok () w4∧WdI w (.cells #[.slice (some ⟨g,0,none⟩) bs.length cp,.slice pa (Qx bs).length ca,.slice q bs.length d,.slice (some ⟨g,0,none⟩) bs.length cp] 87 (0,0)) (E2++[entC (coF bs) ch]) X (.slice px X.length cx) w4∧w4.heap[wA.heap.size]?=some (.cells #[.int .i64 bb.at_,.slice (some ⟨gc,0,none⟩) bb.chs.length cc,.slice pt bb.sts.length ct,.iface T x] 104 (0,0))):=by
       intro v' w' o' f';have HD:=H5.o.1.keep (QM W2);have ht:=HLO.o.to;obtain⟨w4,h1,h2,h3⟩:=(HD.keep f').upd (r:=ch.to.1) (by omega) HEL.o HD.b.size (fun g hg=>(HD.x.lt g hg).2) o';refine⟨w4,h1,h2,?_⟩;obtain⟨es,clock,hm⟩:=(HD.keep f').f.r.map;have hA:w'.heap[wA.heap.size]?=some (.cells #[.int .i64 bb.at_,.slice (some ⟨gc,0,none⟩) bb.chs.length cc,.slice pt bb.sts.length ct,.iface T x] 104 (0,0)):=by
        rw[f'.block _ (lt_of_block H5.o.2.1)];exact H5.o.2.1
       rw[h3.block _ (lt_of_block hA) (fun e=>by injection e with e;rw[e,hm]at hA;cases hA)];exact hA
      have HF5:Hid (∀w':World,Below W2.drew.heap.size W2.drew w'→w'.cell? ⟨w.heap.size+1+1+1,1,none⟩=some (.map (some (w.heap.size+1+1)))∧w'.cell? ⟨w.heap.size,0,none⟩=some (.slice (some ⟨g,0,none⟩) bs.length cp)∧w'.cell? ⟨w.heap.size,1,none⟩=some (.slice pa (Qx bs).length ca)∧w'.cell? ⟨w.heap.size,2,none⟩=some (.slice q bs.length d)∧w'.cell? ⟨w.heap.size,3,none⟩=some (.slice (some ⟨g,0,none⟩) bs.length cp)∧w'.cell? ⟨wB.heap.size,0,none⟩=some (.int .i64 ch.to.1)∧w'.cell? ⟨wB.heap.size,1,none⟩=some (.int .i64 ch.to.2)∧w'.cell? ⟨wB.heap.size,2,none⟩=some (.slice pu ch.gs.length cu)):=by
       intro w' f';have z1:=lt_of_block H5.o.1.p;have z2:=H5.o.1.lt;have z3:=lt_of_block H5.o.2.2;exact⟨(f'.cell (p:=⟨w.heap.size+1+1+1,1,none⟩) z1).trans y1,(f'.cell (p:=⟨w.heap.size,0,none⟩) z2).trans q0,(f'.cell (p:=⟨w.heap.size,1,none⟩) z2).trans q1,(f'.cell (p:=⟨w.heap.size,2,none⟩) z2).trans q2,(f'.cell (p:=⟨w.heap.size,3,none⟩) z2).trans q3,(f'.cell (p:=⟨wB.heap.size,0,none⟩) z3).trans c0,(f'.cell (p:=⟨wB.heap.size,1,none⟩) z3).trans c1,(f'.cell (p:=⟨wB.heap.size,2,none⟩) z3).trans c2⟩
      go_region_law (first | (refine ZN rfl 155 #[.agg #[.slice (some ⟨g,0,none⟩) bs.length cp,.slice pa (Qx bs).length ca,.slice q bs.length d,.slice (some ⟨g,0,none⟩) bs.length cp],.agg #[.int .i64 ch.to.1,.int .i64 ch.to.2,.slice pu ch.gs.length cu]] (by go_simp) HC.o ?_;rintro e w5 ⟨v5,rfl,H6⟩;obtain⟨z0,z1,z2,z3,z4,z5,z6,z7⟩:=HF5.o w5 H6.o.2;obtain⟨w6,hrun,HR6⟩:=HUP.o v5 w5 H6.o.1 H6.o.2;obtain⟨p5,c5,rfl⟩:=Qb H6.o.1;have HR7:=Qc HR6;clear HR6 H6) | fail)
      all_goals
       rw[←HNE.o]at HR7;clear hrun z0 z1 z2 z3 z4 z5 z6 z7;go_wp2_with fail;go_roundw
       case rel=>exact⟨j+1,by omega,by go_num,HR7⟩
       case measure=>simp[intOf];omega
     ·have HJ2:Hid (WdI w (.cells #[.slice (some ⟨g,0,none⟩) bs.length cp,.slice pa (Qx bs).length ca,.slice q bs.length d,.slice (some ⟨g,0,none⟩) bs.length cp] 87 (0,0)) (E++bb.chs.map (entC (coF bs))++(bb.sts.take 0).filterMap XI) (X++(bb.sts.take 0).flatMap KJ) (.slice px X.length cx) wB∧wB.heap[wA.heap.size]?=some (.cells #[.int .i64 bb.at_,.slice qc bb.chs.length cc,.slice pt bb.sts.length ct,.iface T x] 104 (0,0))):=by
       have:=HJ.o;rw[List.take_of_length_le (by omega)]at this;rw[List.take_zero,List.filterMap_nil,List.flatMap_nil,List.append_nil,List.append_nil];exact this
      have HEL:Hid ((E++bb.chs.map (entC (coF bs))).length≤i*2000000+1000000):=by
       show _≤_;have e1:(E++bb.chs.map (entC (coF bs))).length=E.length+bb.chs.length:=by rw[List.length_append,List.length_map]
       omega
      clear HJ;have k2:=Qa HJ2.o.2 2;simp at k2;have hzB:=lt_of_block HJ2.o.2;go_wp2_with fail;clear k2 hzB
      go_loopw [4,47] (fun vx jj wr=>∃(s:Nat)(Y:List (Nat×Nat)),s≤bb.sts.length∧jj=.int .i64 s∧Y.length≤X.length+2*s∧Hid (Y=X++(bb.sts.take s).flatMap KJ)∧Hid (WdI w (.cells #[.slice (some ⟨g,0,none⟩) bs.length cp,.slice pa (Qx bs).length ca,.slice q bs.length d,.slice (some ⟨g,0,none⟩) bs.length cp] 87 (0,0)) (E++bb.chs.map (entC (coF bs))++(bb.sts.take s).filterMap XI) Y vx wr∧wr.heap[wA.heap.size]?=some (.cells #[.int .i64 bb.at_,.slice qc bb.chs.length cc,.slice pt bb.sts.length ct,.iface T x] 104 (0,0)))) (fun _ jj _=>bb.sts.length-(intOf jj).toNat)
      case atStart=>exact⟨0,_,by omega,rfl,by simp,rfl,HJ2⟩
      case round=>
       clear HJ2;obtain⟨s,Y,hs,rfl,hYl,HY,HS⟩:=hrel;rename World=>wC;obtain⟨py,cy,rfl⟩:=Qb HS.o.1.x;by_cases hsl2:s<bb.sts.length
       ·obtain⟨gs,rfl,_,hgs⟩:=Qh HOC.o.2 (by omega);have st0:=Qe HOC.o.2 (show (bb.sts.map QE)[s]?=some (QE bb.sts[s]) by simp[hsl2]);obtain⟨TS,xs,fr,fg,hst,m1,m2,m3,m4,m5,m6⟩:=Rx bb.sts[s];rw[hst]at st0;replace st0:=(HS.o.1.b.cell (p:=⟨gs,s,none⟩) hgs).trans st0;have HM:=Qc (And.intro (And.intro m1 (And.intro m2 m3)) (And.intro m4 (And.intro m5 m6)));have HNE:Hid (E++bb.chs.map (entC (coF bs))++(bb.sts.take (s+1)).filterMap XI=E++bb.chs.map (entC (coF bs))++(bb.sts.take s).filterMap XI++(XI bb.sts[s]).toList):=by
         show _=_;rw[List.take_succ_eq_append_getElem hsl2,List.filterMap_append,List.append_assoc _ _ ((XI bb.sts[s]).toList)];cases hh:XI bb.sts[s]<;>simp[hh]
        have HNX:Hid (X++(bb.sts.take (s+1)).flatMap KJ=Y++KJ bb.sts[s]):=by
         show _=_;rw[List.take_succ_eq_append_getElem hsl2,List.flatMap_append,HY.o,List.append_assoc];simp
        have hlow:=HSL.o _ (List.getElem_mem hsl2);have hto:=hlow.1;have HE3:Hid ((E++bb.chs.map (entC (coF bs))++(bb.sts.take s).filterMap XI).length<maxLen):=by
         show _<_;have e1:((bb.sts.take s).filterMap XI).length≤s:=Nat.le_trans (List.length_filterMap_le _ _) (by rw[List.length_take];omega);have e2:(E++bb.chs.map (entC (coF bs))++(bb.sts.take s).filterMap XI).length=(E++bb.chs.map (entC (coF bs))).length+((bb.sts.take s).filterMap XI).length:=List.length_append;have e3:=HEL.o;unfold maxLen;omega
        have hrl:=GF bb.sts[s];generalize E++bb.chs.map (entC (coF bs))++(bb.sts.take s).filterMap XI=E3 at *;generalize bb.sts[s]=tt at *;clear m1 m2 m3 m4 m5 m6 hst hlow;go_wp2_with fail;clear st0;rw[HM.o.2.1,Result.andThen_ok];simp only[HM.o.2.2.1];unfold Oper.upon;refine(HM.o.2.2.2 _).mono ?_;rintro r w5 ⟨rfl,f5⟩;have H5:Hid (WdI w (.cells #[.slice (some ⟨g,0,none⟩) bs.length cp,.slice pa (Qx bs).length ca,.slice q bs.length d,.slice (some ⟨g,0,none⟩) bs.length cp] 87 (0,0)) E3 Y (.slice py Y.length cy) w5∧w5.heap[wA.heap.size]?=some (.cells #[.int .i64 bb.at_,.slice qc bb.chs.length cc,.slice (some ⟨gs,0,none⟩) bb.sts.length ct,.iface T x] 104 (0,0))):=⟨HS.o.1.keep f5,by rw[f5.block _ (lt_of_block HS.o.2)];exact HS.o.2⟩;have hz5:=H5.o.1.lt;clear HS f5;by_cases h33:tt.op=33
        ·have e33:(tt.op != 33)=false:=by simp[h33]
         have HEN:Hid ((XI tt).toList=[]∧KJ tt=rdsF tt):=by
          refine⟨?_,?_⟩
          ·rw[XI,if_pos h33];rfl
          ·rw[KJ,if_pos h33]
         rw[e33,if_pos h33];have F6:=(Below.refl w5.heap.size w5).alloc (Nat.le_refl _) (.cells #[.int .i64 0,.int .i64 0] 132);have H6:Hid (WdI w (.cells #[.slice (some ⟨g,0,none⟩) bs.length cp,.slice pa (Qx bs).length ca,.slice q bs.length d,.slice (some ⟨g,0,none⟩) bs.length cp] 87 (0,0)) E3 Y (.slice py Y.length cy) (w5.alloc (.cells #[.int .i64 0,.int .i64 0] 132))∧(w5.alloc (.cells #[.int .i64 0,.int .i64 0] 132)).heap[wA.heap.size]?=some (.cells #[.int .i64 bb.at_,.slice qc bb.chs.length cc,.slice (some ⟨gs,0,none⟩) bb.sts.length ct,.iface T x] 104 (0,0))):=⟨H5.o.1.keep F6,by rw[F6.block _ (lt_of_block H5.o.2)];exact H5.o.2⟩;clear F6 H5 e33 h33;go_wp2_with fail;generalize w5.alloc (.cells #[.int .i64 0,.int .i64 0] 132)=W5 at *;rw[HM.o.1.1,Result.andThen_ok];simp only[HM.o.1.2.1];unfold Oper.upon;refine(HM.o.1.2.2 _).mono ?_;rintro r w6 ⟨v6,rfl,o6,f6⟩;obtain⟨p6,c6,rfl⟩:=Qb o6;have H7:Hid (WdI w (.cells #[.slice (some ⟨g,0,none⟩) bs.length cp,.slice pa (Qx bs).length ca,.slice q bs.length d,.slice (some ⟨g,0,none⟩) bs.length cp] 87 (0,0)) E3 Y (.slice py Y.length cy) w6∧w6.heap[wA.heap.size]?=some (.cells #[.int .i64 bb.at_,.slice qc bb.chs.length cc,.slice (some ⟨gs,0,none⟩) bb.sts.length ct,.iface T x] 104 (0,0))):=⟨H6.o.1.keep f6,by rw[f6.block _ (lt_of_block H6.o.2)];exact H6.o.2⟩;have HO6:=Qc o6;clear H6 f6 o6;go_wp2_with (at_builtin;refine Qv ?_);refine Qc ?_;have hb7:=H7.o.1.b.size;refine QbG Tryz.underlying196 Tryz.info132 rfl (by decide) rfl _ _ rfl rfl H7.o.1.x rfl HO6.o (Y7 _) (by unfold maxLen;omega) (by omega) hb7 ?_;intro v7 w7 o7 g7 n7;have H8:Hid (WdI w (.cells #[.slice (some ⟨g,0,none⟩) bs.length cp,.slice pa (Qx bs).length ca,.slice q bs.length d,.slice (some ⟨g,0,none⟩) bs.length cp] 87 (0,0)) E3 (Y++rdsF tt) v7 w7∧w7.heap[wA.heap.size]?=some (.cells #[.int .i64 bb.at_,.slice qc bb.chs.length cc,.slice (some ⟨gs,0,none⟩) bb.sts.length ct,.iface T x] 104 (0,0))):=by
          refine⟨H7.o.1.app o7 g7 n7,?_⟩;have C:Ch (fun j=>some j=(Value.slice py Y.length cy).ownBlock) w6 w7:=Ch.grown g7 (fun _ h=>h);rw[C.block _ (lt_of_block H7.o.2) (fun e2=>Qw H7.o.1.x H7.o.2 (by decide) e2.symm)];exact H7.o.2
         obtain⟨p7,c7,rfl⟩:=Qb o7;have HNE2:Hid (E++bb.chs.map (entC (coF bs))++(bb.sts.take (s+1)).filterMap XI=E3):=by show _=_;rw[HNE.o,HEN.o.1,List.append_nil]
         have HNX2:Hid (Y++rdsF tt=X++(bb.sts.take (s+1)).flatMap KJ):=by show _=_;rw[HNX.o,HEN.o.2]
         have hY2:(Y++rdsF tt).length≤X.length+2*(s+1):=by
          have e1:(Y++rdsF tt).length=Y.length+(rdsF tt).length:=List.length_append;omega
         clear o7 g7 n7 H7 HO6 HNE HNX HEN;go_wp2_with fail;go_roundw
         case rel=>exact⟨s+1,Y++rdsF tt,by omega,by go_num,hY2,HNX2,by rw[HNE2.o];exact H8⟩
         case measure=>simp[intOf];omega
        ·have e33:(tt.op != 33)=true:=by simp[h33]
         have HEN:Hid ((XI tt).toList=[(tt.to.1,rdsF tt)]∧KJ tt=[]):=by
          refine⟨?_,?_⟩
          ·rw[XI,if_neg h33];rfl
          ·rw[KJ,if_neg h33]
         rw[e33,if_neg h33];have F6:=(Below.refl w5.heap.size w5).alloc (Nat.le_refl _) (.cells #[.int .i64 tt.to.1,.int .i64 tt.to.2] 132);have H6:Hid (WdI w (.cells #[.slice (some ⟨g,0,none⟩) bs.length cp,.slice pa (Qx bs).length ca,.slice q bs.length d,.slice (some ⟨g,0,none⟩) bs.length cp] 87 (0,0)) E3 Y (.slice py Y.length cy) (w5.alloc (.cells #[.int .i64 tt.to.1,.int .i64 tt.to.2] 132))∧(w5.alloc (.cells #[.int .i64 tt.to.1,.int .i64 tt.to.2] 132)).heap[wA.heap.size]?=some (.cells #[.int .i64 bb.at_,.slice qc bb.chs.length cc,.slice (some ⟨gs,0,none⟩) bb.sts.length ct,.iface T x] 104 (0,0))∧(w5.alloc (.cells #[.int .i64 tt.to.1,.int .i64 tt.to.2] 132)).heap[w5.heap.size]?=some (.cells #[.int .i64 tt.to.1,.int .i64 tt.to.2] 132 (0,0))):=⟨H5.o.1.keep F6,by rw[F6.block _ (lt_of_block H5.o.2)];exact H5.o.2,heap_alloc_last _ _⟩;clear F6 H5 e33 h33;go_wp2_with fail;generalize w5.alloc (.cells #[.int .i64 tt.to.1,.int .i64 tt.to.2] 132)=W5 at *;have y1:W5.cell? ⟨w.heap.size+1+1+1,1,none⟩=some (.map (some (w.heap.size+1+1))):=by have:=Qa H6.o.1.p 1;simpa using this
         have c0:=Qa H6.o.2.2 0;simp at c0;have HUP:Hid (∀(v':Value)(w':World),w'.ownsRow W5.drew.heap.size 132 2 v' (rdsF tt).length (pcs (rdsF tt))→Below W5.drew.heap.size W5.drew w'→∃w4,(Instr.mapUpdate 266 (.map (some (w.heap.size+1+1))) (.int .i64 tt.to.1) v').run Tryz.prog w'=.ok () w4∧WdI w (.cells #[.slice (some ⟨g,0,none⟩) bs.length cp,.slice pa (Qx bs).length ca,.slice q bs.length d,.slice (some ⟨g,0,none⟩) bs.length cp] 87 (0,0)) (E3++[(tt.to.1,rdsF tt)]) Y (.slice py Y.length cy) w4∧w4.heap[wA.heap.size]?=some (.cells #[.int .i64 bb.at_,.slice qc bb.chs.length cc,.slice (some ⟨gs,0,none⟩) bb.sts.length ct,.iface T x] 104 (0,0))):=by
          intro v' w' o' f';have HD:=H6.o.1.keep (QM W5);obtain⟨w4,h1,h2,h3⟩:=(HD.keep f').upd (r:=tt.to.1) (by omega) HE3.o HD.b.size (fun g hg=>(HD.x.lt g hg).2) o';refine⟨w4,h1,h2,?_⟩;obtain⟨es,clock,hm⟩:=(HD.keep f').f.r.map;have hA:w'.heap[wA.heap.size]?=some (.cells #[.int .i64 bb.at_,.slice qc bb.chs.length cc,.slice (some ⟨gs,0,none⟩) bb.sts.length ct,.iface T x] 104 (0,0)):=by
           rw[f'.block _ (lt_of_block H6.o.2.1)];exact H6.o.2.1
          rw[h3.block _ (lt_of_block hA) (fun e=>by injection e with e;rw[e,hm]at hA;cases hA)];exact hA
         have HF5:Hid (∀w':World,Below W5.drew.heap.size W5.drew w'→w'.cell? ⟨w.heap.size+1+1+1,1,none⟩=some (.map (some (w.heap.size+1+1)))∧w'.cell? ⟨w5.heap.size,0,none⟩=some (.int .i64 tt.to.1)):=by
          intro w' f';have z1:=lt_of_block H6.o.1.p;have z3:=lt_of_block H6.o.2.2;exact⟨(f'.cell (p:=⟨w.heap.size+1+1+1,1,none⟩) z1).trans y1,(f'.cell (p:=⟨w5.heap.size,0,none⟩) z3).trans c0⟩
         have HNE2:Hid (E++bb.chs.map (entC (coF bs))++(bb.sts.take (s+1)).filterMap XI=E3++[(tt.to.1,rdsF tt)]):=by show _=_;rw[HNE.o,HEN.o.1]
         have HNX2:Hid (Y=X++(bb.sts.take (s+1)).flatMap KJ):=by show _=_;rw[HNX.o,HEN.o.2,List.append_nil]
         have hY2:Y.length≤X.length+2*(s+1):=by omega
         clear HNE HNX HEN
         go_region_law (first | (refine ZN rfl fr #[xs] (by go_simp;rw[HM.o.1.1,Result.andThen_ok];simp only[HM.o.1.2.1]) (HM.o.1.2.2 _) ?_;rintro e w6 ⟨v6,rfl,o6,f6⟩;obtain⟨z0,z1⟩:=HF5.o w6 f6;obtain⟨w7,hrun,HR6⟩:=HUP.o v6 w6 o6 f6;obtain⟨p5,c5,rfl⟩:=Qb o6;have HR7:=Qc HR6;clear HR6 o6 f6) | fail)
         all_goals
          rw[←HNE2.o]at HR7;clear hrun z0 z1;go_wp2_with fail;go_roundw
          case rel=>exact⟨s+1,Y,by omega,by go_num,hY2,HNX2,HR7⟩
          case measure=>simp[intOf];omega
       ·have hse:s=bb.sts.length:=by omega
        have HNE3:Hid (E++bb.chs.map (entC (coF bs))++(bb.sts.take s).filterMap XI=ZV (coF bs) bs (i+1)):=by
         show _=_;rw[HN.o.1,List.take_of_length_le (by omega),List.append_assoc]
        have HNX3:Hid (Y++QZ bb.e=Z6 (coF bs) bs (i+1)):=by
         show _=_;rw[HN.o.2,HY.o,List.take_of_length_le (by omega),List.append_assoc]
        have hE2:(ZV (coF bs) bs (i+1)).length≤(i+1)*2000000:=by
         have e0:=congrArg List.length HNE3.o;have e1:((bb.sts.take s).filterMap XI).length≤s:=Nat.le_trans (List.length_filterMap_le _ _) (by rw[List.length_take];omega);have e2:(E++bb.chs.map (entC (coF bs))++(bb.sts.take s).filterMap XI).length=(E++bb.chs.map (entC (coF bs))).length+((bb.sts.take s).filterMap XI).length:=List.length_append;have e3:=HEL.o;omega
        have hX2:(Z6 (coF bs) bs (i+1)).length≤(i+1)*2000001:=by
         have e0:=congrArg List.length HNX3.o;have e1:(Y++QZ bb.e).length=Y.length+(QZ bb.e).length:=List.length_append;have e2:=Qda bb.e;omega
        have hrl:=Qda bb.e;have HS2:Hid (WdI w (.cells #[.slice (some ⟨g,0,none⟩) bs.length cp,.slice pa (Qx bs).length ca,.slice q bs.length d,.slice (some ⟨g,0,none⟩) bs.length cp] 87 (0,0)) (ZV (coF bs) bs (i+1)) Y (.slice py Y.length cy) wC):=by
         show WdI _ _ _ _ _ _;rw[←HNE3.o];exact HS.o.1
        have k3:=Qa HS.o.2 3;simp at k3;have hzC:=lt_of_block HS.o.2;clear HS hse;go_wp2_with fail;clear k3;rw[HEM.o.1,Result.andThen_ok];simp only[HEM.o.2.1];unfold Oper.upon;refine(HEM.o.2.2 _).mono ?_;rintro r w6 ⟨v6,rfl,o6,f6⟩;obtain⟨p6,c6,rfl⟩:=Qb o6;have H7:=Qc (HS2.o.keep f6);have HO6:=Qc o6;clear HS2 f6 o6;go_wp2_with (at_builtin;refine Qv ?_);refine Qc ?_;have hb7:=H7.o.b.size;refine QbG Tryz.underlying196 Tryz.info132 rfl (by decide) rfl _ _ rfl rfl H7.o.x rfl HO6.o (Y7 _) (by unfold maxLen;omega) (by omega) hb7 ?_;intro v7 w7 o7 g7 n7;have H8:Hid (WdI w (.cells #[.slice (some ⟨g,0,none⟩) bs.length cp,.slice pa (Qx bs).length ca,.slice q bs.length d,.slice (some ⟨g,0,none⟩) bs.length cp] 87 (0,0)) (ZV (coF bs) bs (i+1)) (Z6 (coF bs) bs (i+1)) v7 w7):=by
         show WdI _ _ _ _ _ _;rw[←HNX3.o];exact H7.o.app o7 g7 n7
        obtain⟨p7,c7,rfl⟩:=Qb o7;clear o7 g7 n7 H7 HO6;go_wp2_with fail;go_roundw
        case rel=>exact⟨i+1,by omega,by go_num,hE2,hX2,H8⟩
        case measure=>simp[intOf];omega
  ·have hie:i=bs.length:=by omega
   have HFN:Hid (E=ZV (coF bs) bs bs.length∧X=Z6 (coF bs) bs bs.length):=by rw[←hie];exact HE
   have HX5:Hid (∀y∈X,y.1<5000):=by rw[HFN.o.2];exact hF
   have hX5:X.length≤1000000:=by have:=HFN.o.2;rw[this];exact hFl
   have HL5:Hid (∀x,(∀y∈lkF E x,y.1<5000)∧(lkF E x).length≤1000000):=by rw[HFN.o.1];exact hL
   have HWT:Hid (WtI (w.heap.size+3) (w.heap.size+2) E.length w.heap.size (lkF E) [] (.slice none 0 0) wA):=⟨HI.o.p,World.ownsRow_nil _ _ _ _,List.Pairwise.nil,fun _ h=>absurd h (by simp),HI.o.f.r,HI.o.b.size⟩;have hz3:=lt_of_block HI.o.p;clear hie HE;go_wp2_with fail;refine(QiG (w.heap.size+3) (w.heap.size+2) E.length w.heap.size (lkF E) HL5 5001 [] X _ _ wA w.heap.size (by simp) HWT HI.o.x HX5 hX5).mono ?_;rintro e w5 ⟨rfl,S,vs,H5⟩;obtain⟨ps,cs,rfl⟩:=Qb H5.o.1.s;have y0:w5.cell? ⟨w.heap.size+1+1+1,0,none⟩=some (.slice ps S.length cs):=by have:=Qa H5.o.1.p 0;simpa using this
   have b1:w5.heap[w.heap.size+1]?=some (.cells #[.slice none 0 0] 161 (0,0)):=by
    rw[H5.o.2.1.block _ (lt_of_block HI.o.r) (by omega) (.inr fun⟨cur,hc⟩=>by rw[HI.o.r]at hc;cases hc)];exact HI.o.r
   have r0:=Qa b1 0;have r1:=Qf b1 0;simp at r0;have HFB:Hid (Below w.heap.size w w5):=HI.o.b.trans (H5.o.2.1.to (by omega) (Nat.le_refl _) HI.o.b.size);have HB1:=Qc b1;clear HWT HI b1;go_wp2_with fail;have q0:=Qa (Qp HB1.o 0 (.slice ps S.length cs)) 0;simp at q0;refine bodyPost_ret (v:=.agg #[.slice ps S.length cs]) (by simp[results,Tryz.results106,go_sem,q0]) rfl ⟨S,_,rfl,?_,H5.o.1.o,H5.o.1.l,?_,Qr HFB.o _ _ _ (by omega)⟩
   ·exact Qd H5.o.1.s (QI (T:=fun e=>e=78) HB1.o (by decide) _) rfl
   ·have:=H5.o.2.2.1;rw[HFN.o.1,HFN.o.2]at this;exact this
theorem Qhj(t:Qy)(h:t.op=63):∃T x,QE t=.iface T x∧∀w:World,(Instr.typeAssert (.iface T x) 150 272 true).run Tryz.prog w=.ok (.tuple #[.agg #[.int .i64 t.to.1,.int .i64 t.to.2],.bool true]) w:=
 ⟨_,_,by rw[QE,if_pos h],fun w=>by kernel_rfl⟩
theorem QiI(t:Qy)(h63:t.op≠63):∃T x,QE t=.iface T x∧∀w:World,(Instr.typeAssert (.iface T x) 150 272 true).run Tryz.prog w=.ok (.tuple #[.agg #[.int .i64 0,.int .i64 0],.bool false]) w:=by
 by_cases h99:t.op=99
 ·exact⟨_,_,by rw[QE,if_neg h63,if_pos h99],fun w=>by kernel_rfl⟩
 by_cases h118:t.op=118
 ·exact⟨_,_,by rw[QE,if_neg h63,if_neg h99,if_pos h118],fun w=>by kernel_rfl⟩
 by_cases h33:t.op=33
 ·exact⟨_,_,by rw[QE,if_neg h63,if_neg h99,if_neg h118,if_pos h33],fun w=>by kernel_rfl⟩
 exact⟨_,_,by rw[QE,if_neg h63,if_neg h99,if_neg h118,if_neg h33],fun w=>by kernel_rfl⟩
theorem QcN(t:Qy)(S:List Nat)(base:Nat)(vs:Value)(w:World)(h:w.ownsRow base 78 1 vs S.length (Qg S))(hs:Hid (S.Pairwise (· < ·)))(hl:S.length≤5000):
  Calls Tryz.prog 109 #[QE t,.agg #[vs]] w fun e w'=>e=.returned (.bool (JF (Qt S) t))∧Below w.heap.size w w':=by
 obtain⟨p,c,rfl⟩:=Qb h;have H:=Qc h;clear h;by_cases h63:t.op=63
 ·obtain⟨T,x,e1,hta⟩:=Qhj t h63;rw[e1];have HS:Hid (JF (Qt S) t=true):=by show _=_;rw[JF,h63];rfl
  rw[HS.o];go_enter Tryz.func109,Tryz.ntmps109;go_wp2_with fail;go_ret;exact⟨rfl,((Below.refl _ _).alloc (Nat.le_refl _) _).alloc (by simp) _⟩
 ·obtain⟨T,x,e1,hta⟩:=QiI t h63;obtain⟨T2,x2,fr,fg,hst,m1,m2,m3,m4,m5,m6⟩:=Rx t;rw[hst]at e1;cases e1;rw[hst];have HM:=Qc (And.intro m4 (And.intro m5 m6));clear m1 m2 m3 m4 m5 m6 hst;go_enter Tryz.func109,Tryz.ntmps109;go_wp2_with fail;rw[HM.o.1,Result.andThen_ok];simp only[HM.o.2.1];unfold Oper.upon;refine(HM.o.2.2 _).mono ?_;rintro r w5 ⟨rfl,f5⟩;have FA:=((Below.refl w.heap.size w).alloc (Nat.le_refl _) (.cells #[.slice p S.length c] 161)).alloc (by simp) (.cells #[.int .i64 0,.int .i64 0] 272);have g1:((w.alloc (.cells #[.slice p S.length c] 161)).alloc (.cells #[.int .i64 0,.int .i64 0] 272)).heap[w.heap.size]?=some (.cells #[.slice p S.length c] 161 (0,0)):=Qj (heap_alloc_last w _) _;have F5:=Qc (FA.trans (f5.mono FA.size));have g5:w5.heap[w.heap.size]?=some (.cells #[.slice p S.length c] 161 (0,0)):=by rw[f5.block _ (lt_of_block g1)];exact g1
  have hz5:=lt_of_block g5;have k0:=Qa g5 0;simp at k0;clear FA g1 f5 g5;by_cases h33:t.op=33
  ·have e33:(t.op != 33)=false:=by simp[h33]
   have HS:Hid (JF (Qt S) t=true):=by show _=_;rw[JF,h33];rfl
   rw[e33,if_pos h33];clear e33 h33 h63;go_wp2_with fail;go_ret;exact⟨by rw[HS.o];rfl,F5.o.alloc F5.o.size _⟩
  ·have e33:(t.op != 33)=true:=by simp[h33]
   have HS:Hid (JF (Qt S) t=Qt S t.to.1):=by show _=_;rw[JF,show (t.op==63)=false by simpa using h63,show (t.op==33)=false by simpa using h33];rfl
   rw[e33,if_neg h33];clear e33 h33 h63;have FB:=(Below.refl w5.heap.size w5).alloc (Nat.le_refl _) (.cells #[.int .i64 t.to.1,.int .i64 t.to.2] 132);have F6:=Qc (F5.o.trans (FB.mono F5.o.size));go_wp2_with fail;refine(Qg1 S t.to.1 base _ _ (Qd H.o (Qi F6.o) trivial) hs (by omega)).mono ?_;rintro r w7 ⟨rfl,f7⟩;have F8:=Qc (F6.o.trans (f7.mono F6.o.size));clear f7 FB;go_wp2_with fail;go_ret;exact⟨by rw[HS.o];rfl,F8.o⟩
end Go.Proofs.YtgfhfkgdmidhpaaGreatDoor
