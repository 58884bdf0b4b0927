import Derived.Test.YtgfhfkgdmidhpaaGreatDoorM37
namespace Go.Proofs.YtgfhfkgdmidhpaaGreatDoor
open Go.RowKit Go.Maps
open Go.Proofs.Tryz
set_option maxRecDepth 100000
set_option maxHeartbeats 8000000
noncomputable def Qdd(bs:List Qm)(f:Nat→List Nat)(b r p:Nat):Nat:=if coF bs p then nmE (absP bs) (mkD bs f) p (orgR (bkF bs b).chs r p) else 0
def UN(bs:List Qm)(b:Nat):List (Nat×Nat):=(aheF bs b).map fun p=>(p,0)
noncomputable def UM(bs:List Qm)(f:Nat→List Nat)(b r:Nat):List (Nat×Nat):=(aheF bs b).map fun p=>(Qdd bs f b r p,0)
noncomputable def Xg(bs:List Qm)(f:Nat→List Nat)(b r:Nat):Q0:=⟨((chN bs f b r).getD 0,0),UN bs b,UM bs f b r⟩
theorem QbT(bs f b r):(UN bs b).length=(aheF bs b).length∧(UM bs f b r).length=(aheF bs b).length:=⟨by simp[UN],by simp[UM]⟩
theorem QeP{bs f b r}{k:Nat}(hk:k<(aheF bs b).length):Q8 ((UN bs b).take (k+1)) ((UM bs f b r).take (k+1))=Q8 ((UN bs b).take k) ((UM bs f b r).take k)++[.int .i64 (aheF bs b)[k],.int .i64 0,.int .i64 (Qdd bs f b r (aheF bs b)[k]),.int .i64 0]:=by
 obtain⟨h1,h2⟩:=QbT bs f b r;rw[Zb (by rw[h1];exact hk),Zb (by rw[h2];exact hk),YZ (by rw[List.length_take,List.length_take,h1,h2])];simp[UN,UM]
structure CcI(w:World)(bs:List Qm)(f:Nat→List Nat)(b r mc k:Nat)(vS:Value)(wr:World):Prop where
 m:wr.heap[mc]?=some (.cells #[.int .i64 ((chN bs f b r).getD 0:Nat),.int .i64 0,vS] 140 (0,0))
 r:wr.ownsRow w.heap.size 147 4 vS k (Q8 ((UN bs b).take k) ((UM bs f b r).take k))
 f:Below w.heap.size w wr
 l:w.heap.size≤mc
theorem CcI.keeps{w bs f b r mc k vS wr wr'}(h:CcI w bs f b r mc k vS wr)(F:Below wr.heap.size wr wr'):CcI w bs f b r mc k vS wr':=
 ⟨by rw[F.block _ (lt_of_block h.m)];exact h.m,Qd h.r (Qh F) trivial,h.f.trans (F.mono h.f.size),h.l⟩
theorem CcI.grow{w bs f b r mc k vS v7 W w7}(h:CcI w bs f b r mc k vS W)(oS:w7.ownsRow w.heap.size 147 4 v7 (k+1) (Q8 ((UN bs b).take (k+1)) ((UM bs f b r).take (k+1))))(gS:W.grownBy w7 vS.ownBlock):
  w7.heap[mc]?=some (.cells #[.int .i64 ((chN bs f b r).getD 0:Nat),.int .i64 0,vS] 140 (0,0))∧CcI w bs f b r mc (k+1) v7 (w7.setCell ⟨mc,2,none⟩ v7):=by
 have hM:w7.heap[mc]?=some (.cells #[.int .i64 ((chN bs f b r).getD 0:Nat),.int .i64 0,vS] 140 (0,0)):=QC gS h.m (fun j hj e=>QG h.r h.m (by decide) (by subst e;exact hj));have hF:Below w.heap.size w w7:=Below.grown h.f gS h.f.size (fun j hj=>(h.r.lt j hj).1);refine⟨hM,⟨Qq hM 2 v7,?_,Qp hF _ _ _ h.l,h.l⟩⟩;exact Xq oS fun j _ hj=>QM (fun e=>QG oS hM (by decide) (by rw[←e];exact hj))
theorem Qj8(bs:List Qm)(f:Nat→List Nat)(b r mb base B Bn Bc:Nat)(v va vu vah vnd vch vgi:Value)(w:World)(hM:MkF bs f mb base B Bn Bc v va vu vah vnd vch vgi w)(hr:Hid (J5 bs))(hf:Hid (∀b∈bs,QU 1000000 b))(hn:bs.length≤12)(hb:b<bs.length)(hr1:r<10000):
  Calls prog 136 #[.pointer (some ⟨mb,0,none⟩),.int .i64 b,.int .i64 r] w fun e w'=>e=.returned (.int .i64 (nmE (absP bs) (mkD bs f) b r))∧Below w.heap.size w w':=by
 obtain⟨d,hd⟩:=ND bs b;have HC:=Qc (QiC bs f mb base B Bn Bc v va vu vah vnd vch vgi hr hf hn d b _ r w hb hd (Qi _) hr1 hM);refine(Qf9 bs f b r mb base B Bn Bc v va vu vah vnd vch vgi w hM hb HC).mono ?_;rintro e w2 ⟨n,rfl,H2⟩;refine⟨?_,H2.o.2⟩;rw[nmE,Ka,H2.o.1.eq]
theorem Qj1{bs f b r}:(if r∈f b then cntN bs f b+(f b).idxOf r+1 else 0:Nat)=(chN bs f b r).getD 0:=by
 unfold chN;split<;>rfl
structure CqI(w:World)(bs:List Qm)(f:Nat→List Nat)(b q:Nat)(vl vc:Value)(wr:World):Prop where
 c:ZU wr w.heap.size (((f b).take q).map (Xg bs f b)) vc
 l:wr.ownsRow w.heap.size 78 1 vl (f b).length (Qe (f b))
 f:Below w.heap.size w wr
theorem Qal(bs:List Qm)(f:Nat→List Nat)(mb base B Bn Bc b:Nat)(v va vu vah vnd vch vgi:Value)(w:World)(hM:MkF bs f mb base B Bn Bc v va vu vah vnd vch vgi w)(hr:Hid (J5 bs))(hf:Hid (∀b∈bs,QU 1000 b))(hn:bs.length≤12)(hb:b<bs.length)(hS:Hid (∀k,SM (f k))):
  Calls prog 79 #[.pointer (some ⟨mb,0,none⟩),.int .i64 b] w fun e w'=>∃v',e=.returned v'∧Hid (ZU w' w.heap.size ((f b).map (Xg bs f b)) v'∧Below w.heap.size w w'):=by
 have HM:=Qc hM;have HF6:Hid (∀b∈bs,QU 1000000 b):=fun b hb=>(hf.out b hb).mono (by omega);obtain⟨⟨pv,cv,rfl⟩,⟨pa,ca,rfl⟩,⟨pu,cu,rfl⟩⟩:=hM.m.g.form;obtain⟨pc,cc,rfl⟩:=hM.ch.slice;obtain⟨gc,bc,kc,rfl,c6,hc6⟩:=hM.ch.at hb;have m6:=Qb hM.m.b 6;simp at m6;have HC:=Qc hc6;have hfl:=(hS.out b).len;clear hM hc6;go_enter func79,ntmps79;go_wp2_with fail;refine(QkG (some bc) w).mono ?_;rintro e w' ⟨rfl,rfl⟩;go_wp2_with fail;refine(QgF bc kc _ _ w HC.o (hS.out b).1 hfl).mono ?_;rintro e w2 ⟨v2,rfl,o2,f2⟩;obtain⟨pl,cl,rfl⟩:=Qa o2;have HB0:Hid (CqI w bs f b 0 (.slice pl (f b).length cl) (.slice none 0 0) w2):=⟨⟨[],Q3 _ _ _ _,trivial⟩,o2,f2⟩;clear m6 c6 HC o2 f2;go_wp2_with fail
 go_loopw [5,22] (fun vc j wr=>∃(q:Nat),q≤(f b).length∧j=.int .i64 q∧Hid (CqI w bs f b q (.slice pl (f b).length cl) vc wr)) (fun _ j _=>(f b).length-(intOf j).toNat)
 case atStart=>exact⟨0,by omega,rfl,HB0⟩
 case round=>
  rename Value=>vc;clear HB0;obtain⟨q,hq,rfl,HI⟩:=hrel;rename World=>wA;obtain⟨pc,cp,rfl⟩:=HI.o.c.slice;have hvl:(((f b).take q).map (Xg bs f b)).length=q:=by rw[List.length_map,List.length_take];omega
  by_cases hlt:q<(f b).length
  ·obtain⟨gl,rfl,_,_⟩:=Qk HI.o.l (by omega);have c0:=Qf HI.o.l (QY hlt);have hxr:=(hS.out b).2 _ (Qx hlt);have HMA:=Qc (HM.o.keeps HI.o.f);obtain⟨gc2,bc2,kc2,hgc,c6,hc6⟩:=HMA.o.ch.at hb;cases hgc;have m6:=Qb HMA.o.m.b 6;have m4:=Qb HMA.o.m.b 4;simp at m6 m4;have hlk:=hc6.get hxr;rw[Qj1]at hlk;obtain⟨pah,cah,rfl⟩:=HMA.o.ah.slice;obtain⟨ga,ua,rfl,_,hga,ca5,_,oa5⟩:=HMA.o.ah.at hb;obtain⟨pua,cua,rfl⟩:=Qa oa5;have HTK:Hid (((f b).take (q+1)).map (Xg bs f b)=((f b).take q).map (Xg bs f b)++[Xg bs f b (f b)[q]]):=by show _=_;rw[Zb hlt,List.map_append];rfl
   generalize (f b)[q]=r at *;have hall:(aheF bs b).length≤12:=by
    have:=List.length_filter_le (WL bs b) (List.range bs.length);rw[List.length_range]at this;unfold aheF Xc;omega
   have FA:=(Below.refl wA.heap.size wA).alloc (Qi _) (.cells #[.int .i64 ((chN bs f b r).getD 0:Nat),.int .i64 0,.slice none 0 0] 140);have m4':=(FA.cell (p:=⟨mb,4,none⟩) (lt_of_block HMA.o.m.b)).trans m4;have ca6:=(FA.cell (p:=⟨ga,b,none⟩) hga).trans ca5;have H1:Hid (CcI wA bs f b r wA.heap.size 0 (.slice none 0 0) (wA.alloc (.cells #[.int .i64 ((chN bs f b r).getD 0:Nat),.int .i64 0,.slice none 0 0] 140))∧(wA.alloc (.cells #[.int .i64 ((chN bs f b r).getD 0:Nat),.int .i64 0,.slice none 0 0] 140)).ownsRow Bn 143 1 (.slice pua (aheF bs b).length cua) (aheF bs b).length (Qe (aheF bs b))):=⟨⟨heap_alloc_last _ _,Q3 _ _ _ _,FA,Qi _⟩,oa5.alloc _⟩;clear FA oa5 m4 ca5 hc6;go_wp2_with fail;clear m4' ca6 c0 c6 m6 hlk;generalize wA.alloc (.cells #[.int .i64 ((chN bs f b r).getD 0:Nat),.int .i64 0,.slice none 0 0] 140)=W1 at *;refine(Qe6 (aheF bs b) Bn _ W1 H1.o.2 (by omega)).mono ?_;rintro e w3 ⟨v3,rfl,o3,f3⟩;obtain⟨p3,c3,rfl⟩:=Qa o3;have hz3:=H1.o.1.f.size;have H3:Hid (CcI wA bs f b r wA.heap.size 0 (.slice none 0 0) w3∧w3.ownsRow wA.heap.size 143 1 (.slice p3 (aheF bs b).length c3) (aheF bs b).length (Qe (aheF bs b))):=⟨H1.o.1.keeps f3,Qj o3 hz3⟩;clear H1 o3 f3;go_wp2_with fail
   go_loopw [46] (fun j wr=>∃(k:Nat)(vS:Value),k≤(aheF bs b).length∧j=.int .i64 k∧Hid (CcI wA bs f b r wA.heap.size k vS wr∧wr.ownsRow wA.heap.size 143 1 (.slice p3 (aheF bs b).length c3) (aheF bs b).length (Qe (aheF bs b)))) (fun j _=>(aheF bs b).length-(intOf j).toNat)
   case atStart=>exact⟨0,_,by omega,rfl,H3⟩
   case round=>
    clear H3;obtain⟨k,vS,hk,rfl,HK⟩:=hrel;rename World=>wC;obtain⟨pS,cS,rfl⟩:=Qa HK.o.1.r;by_cases hkl:k<(aheF bs b).length
    ·obtain⟨g3,rfl,_,_⟩:=Qk HK.o.2 (by omega);have c0:=Qf HK.o.2 (QY hkl);have hpl:(aheF bs b)[k]<bs.length:=by
      have:=Qx hkl;unfold aheF Xc at this;exact List.mem_range.1 (List.mem_filter.1 this).1
     have HX:=Qc (QeP (bs:=bs) (f:=f) (b:=b) (r:=r) hkl);generalize (aheF bs b)[k]=p at *;have HMC:=Qc (HMA.o.keeps HK.o.1.f);obtain⟨gv,qc,cc2,ps,cs1,rfl,_,_,_,OC,_,d0,d1,d2,d3⟩:=HMC.o.m.g.p.at hb;obtain⟨T,x,hT⟩:=QQ bs[b].e;rw[hT]at d3;have m3:=Qb HMC.o.m.b 3;simp at m3;have HBK:Hid (bkF bs b=bs[b]):=Zj hb;have HFI:=Qc (hf.out _ (Qx hb));have hcl:=HFI.o.cl;have HG2:Hid (∀c∈bs[b].chs,c.gs.length≤1000):=fun c hc=>(HFI.o.ch c hc).2.2.1;have HOL:Hid (orgR bs[b].chs r p<10000):=Rt hxr fun c hc y hy=>(HFI.o.ch c hc).2.2.2 y hy;have HS1:Hid (Qdd bs f b r p=if coF bs p then nmE (absP bs) (mkD bs f) p (orgR bs[b].chs r p) else 0):=by
      show _=_;rw[Qdd,HBK.o]
     have HOC:=Qc OC;clear OC hT;go_wp2_with fail;clear d0 d1 d2 d3 m3 c0;refine(QbH bs[b] r p base qc cc2 ps bs[b].sts.length cs1 T x wC HOC.o HG2 (by omega)).mono ?_;rintro e w5 ⟨rfl,f5⟩;have H5:Hid (CcI wA bs f b r wA.heap.size k (.slice pS k cS) w5∧w5.ownsRow wA.heap.size 143 1 (.slice (some ⟨g3,0,none⟩) (aheF bs b).length c3) (aheF bs b).length (Qe (aheF bs b))):=⟨HK.o.1.keeps f5,Qd HK.o.2 (Qh f5) trivial⟩;clear HMC HOC HK f5 HG2 HFI hcl;have hol:=HOL.o;generalize orgR bs[b].chs r p=og at *;go_wp2_with fail;have HSS:Hid (∀w':World,Below wA.heap.size wA w'→w'.heap[wA.heap.size]?=some (.cells #[.int .i64 ((chN bs f b r).getD 0:Nat),.int .i64 0,.slice pS k cS] 140 (0,0))→w'.cell? ⟨mb,0,none⟩=some (.slice (some ⟨gv,0,none⟩) bs.length cv)∧w'.cell? ⟨mb,1,none⟩=some (.slice pa (QT bs).length ca)∧w'.cell? ⟨mb,2,none⟩=some (.slice pu bs.length cu)∧w'.cell? ⟨mb,3,none⟩=some (.slice (some ⟨gv,0,none⟩) bs.length cv)∧w'.cell? ⟨wA.heap.size,2,none⟩=some (.slice pS k cS)):=by
      intro w' hF hM;have hR:=(HMA.o.keeps hF).m.b;have x0:=Qb hR 0;have x1:=Qb hR 1;have x2:=Qb hR 2;have x3:=Qb hR 3;have m2:=Qb hM 2;simp at x0 x1 x2 x3 m2;exact⟨x0,x1,x2,x3,m2⟩
     refine Ro (S:=fun w'=>w'.cell? ⟨mb,0,none⟩=some (.slice (some ⟨gv,0,none⟩) bs.length cv)∧w'.cell? ⟨mb,1,none⟩=some (.slice pa (QT bs).length ca)∧w'.cell? ⟨mb,2,none⟩=some (.slice pu bs.length cu)∧w'.cell? ⟨mb,3,none⟩=some (.slice (some ⟨gv,0,none⟩) bs.length cv)∧w'.cell? ⟨wA.heap.size,2,none⟩=some (.slice pS k cS)) (L:=15) (by kernel_rfl) ?_;have FD:=H5.o.1.f.trans ((Jj w5).mono H5.o.1.f.size);have hS0:=HSS.o w5.drew FD H5.o.1.m;refine Zy (i:=0) (v:=?v0) (some 61) rfl rfl (by kernel_rfl) (by kernel_rfl) (by kernel_rfl) (by kernel_rfl) (fun _ _ _ h=>h) (Or.inl ⟨by rfl,?y0⟩) hS0 ?r0
     case y0=>
      rintro w ⟨t0,t1,t2,t3,t4⟩;go_simp
      with_reducible rfl
     simp only[Act.put,List.setIfInBounds_toArray,List.set_cons_zero,List.set_cons_succ];refine Zy (i:=1) (v:=?v1) (some 62) rfl rfl (by kernel_rfl) (by kernel_rfl) (by kernel_rfl) (by kernel_rfl) (fun _ _ _ h=>h) (Or.inl ⟨by rfl,?y1⟩) hS0 ?r1
     case y1=>
      rintro w ⟨t0,t1,t2,t3,t4⟩;go_simp
      with_reducible rfl
     simp only[Act.put,List.setIfInBounds_toArray,List.set_cons_zero,List.set_cons_succ];refine Zy (i:=2) (v:=?v2) (some 63) rfl rfl (by kernel_rfl) (by kernel_rfl) (by kernel_rfl) (by kernel_rfl) (fun _ _ _ h=>h) (Or.inl ⟨by rfl,?y2⟩) hS0 ?r2
     case y2=>
      rintro w ⟨t0,t1,t2,t3,t4⟩;go_simp
      with_reducible rfl
     simp only[Act.put,List.setIfInBounds_toArray,List.set_cons_zero,List.set_cons_succ];refine Zy (i:=3) (v:=?v3) (some 64) rfl rfl (by kernel_rfl) (by kernel_rfl) (by kernel_rfl) (by kernel_rfl) (fun _ _ _ h=>h) (Or.inl ⟨by rfl,?y3⟩) hS0 ?r3
     case y3=>
      rintro w ⟨t0,t1,t2,t3,t4⟩;go_simp
      with_reducible rfl
     simp only[Act.put,List.setIfInBounds_toArray,List.set_cons_zero,List.set_cons_succ];refine Zy (i:=4) (v:=?v4) (some 65) rfl rfl (by kernel_rfl) (by kernel_rfl) (by kernel_rfl) (by kernel_rfl) (fun _ _ _ h=>h) (Or.inl ⟨by rfl,?y4⟩) hS0 ?r4
     case y4=>
      rintro w ⟨t0,t1,t2,t3,t4⟩;go_simp
      with_reducible rfl
     simp only[Act.put,List.setIfInBounds_toArray,List.set_cons_zero,List.set_cons_succ];refine Zy (i:=5) (v:=?v5) (some 66) rfl rfl (by kernel_rfl) (by kernel_rfl) (by kernel_rfl) (by kernel_rfl) (fun _ _ _ h=>h) (Or.inl ⟨by rfl,?y5⟩) hS0 ?r5
     case y5=>
      rintro w ⟨t0,t1,t2,t3,t4⟩;go_simp
      with_reducible rfl
     simp only[Act.put,List.setIfInBounds_toArray,List.set_cons_zero,List.set_cons_succ];refine Zy (i:=6) (v:=?v6) (some 67) rfl rfl (by kernel_rfl) (by kernel_rfl) (by kernel_rfl) (by kernel_rfl) (fun _ _ _ h=>h) (Or.inl ⟨by rfl,?y6⟩) hS0 ?r6
     case y6=>
      rintro w ⟨t0,t1,t2,t3,t4⟩;go_simp
      with_reducible rfl
     simp only[Act.put,List.setIfInBounds_toArray,List.set_cons_zero,List.set_cons_succ];refine Zy (i:=7) (v:=?v7) (some 68) rfl rfl (by kernel_rfl) (by kernel_rfl) (by kernel_rfl) (by kernel_rfl) (fun _ _ _ h=>h) (Or.inl ⟨by rfl,?y7⟩) hS0 ?r7
     case y7=>
      rintro w ⟨t0,t1,t2,t3,t4⟩;go_simp
      with_reducible rfl
     simp only[Act.put,List.setIfInBounds_toArray,List.set_cons_zero,List.set_cons_succ];refine Zy (i:=8) (v:=?v8) (some 69) rfl rfl (by kernel_rfl) (by kernel_rfl) (by kernel_rfl) (by kernel_rfl) (fun _ _ _ h=>h) (Or.inl ⟨by rfl,?y8⟩) hS0 ?r8
     case y8=>
      rintro w ⟨t0,t1,t2,t3,t4⟩;go_simp
      with_reducible rfl
     simp only[Act.put,List.setIfInBounds_toArray,List.set_cons_zero,List.set_cons_succ];refine Zy (i:=9) (v:=?v9) (some 70) rfl rfl (by kernel_rfl) (by kernel_rfl) (by kernel_rfl) (by kernel_rfl) (fun _ _ _ h=>h) (Or.inl ⟨by rfl,?y9⟩) hS0 ?r9
     case y9=>
      rintro w ⟨t0,t1,t2,t3,t4⟩;go_simp
      with_reducible rfl
     simp only[Act.put,List.setIfInBounds_toArray,List.set_cons_zero,List.set_cons_succ];clear hS0;refine Kp (i:=10) rfl (by kernel_rfl) rfl (fun K hK=>?_);go_simp;refine(Qj8 bs f p og mb base B Bn Bc _ _ _ _ _ _ _ w5.drew (HMA.o.keeps FD) hr HF6 hn hpl hol).mono ?_;rintro e w6 ⟨rfl,f6⟩;have H6:Hid (CcI wA bs f b r wA.heap.size k (.slice pS k cS) w6∧w6.ownsRow wA.heap.size 143 1 (.slice (some ⟨g3,0,none⟩) (aheF bs b).length c3) (aheF bs b).length (Qe (aheF bs b))):=⟨H5.o.1.keeps (Jy f6),Qd H5.o.2 (Qh (Jy f6)) trivial⟩;refine hK.out _ _ (.inr (HSS.o _ H6.o.1.f H6.o.1.m)) ?_;clear hK f6 H5 FD;refine Kp (i:=11) rfl (by kernel_rfl) rfl (fun K hK=>?_);go_simp;refine(QgE bs base B p _ _ _ _ w6 (HMA.o.keeps H6.o.1.f).m.g hpl (by omega)).mono ?_;rintro e w7 ⟨rfl,f7⟩;have H7:Hid (CcI wA bs f b r wA.heap.size k (.slice pS k cS) w7∧w7.ownsRow wA.heap.size 143 1 (.slice (some ⟨g3,0,none⟩) (aheF bs b).length c3) (aheF bs b).length (Qe (aheF bs b))):=⟨H6.o.1.keeps f7,Qd H6.o.2 (Qh f7) trivial⟩;refine hK.out _ _ (.inr (HSS.o _ H7.o.1.f H7.o.1.m)) ?_;clear hK f7 H6;refine Kp (i:=12) rfl (by kernel_rfl) rfl (fun K hK=>?_);go_simp;have FA:=(Below.refl w7.heap.size w7).alloc (Qi _) (.cells #[.int .i64 p,.int .i64 0,.int .i64 (if coF bs p then nmE (absP bs) (mkD bs f) p og else 0:Nat),.int .i64 0] 147);have gA:=heap_alloc_last w7 (.cells #[.int .i64 p,.int .i64 0,.int .i64 (if coF bs p then nmE (absP bs) (mkD bs f) p og else 0:Nat),.int .i64 0] 147);have zA:=Qt w7 (.cells #[.int .i64 p,.int .i64 0,.int .i64 (if coF bs p then nmE (absP bs) (mkD bs f) p og else 0:Nat),.int .i64 0] 147);have H8:Hid (CcI wA bs f b r wA.heap.size k (.slice pS k cS) (w7.alloc (.cells #[.int .i64 p,.int .i64 0,.int .i64 (if coF bs p then nmE (absP bs) (mkD bs f) p og else 0:Nat),.int .i64 0] 147))∧(w7.alloc (.cells #[.int .i64 p,.int .i64 0,.int .i64 (if coF bs p then nmE (absP bs) (mkD bs f) p og else 0:Nat),.int .i64 0] 147)).ownsRow wA.heap.size 143 1 (.slice (some ⟨g3,0,none⟩) (aheF bs b).length c3) (aheF bs b).length (Qe (aheF bs b))):=⟨H7.o.1.keeps FA,H7.o.2.alloc _⟩;refine hK.out _ _ (.inr (HSS.o _ H8.o.1.f H8.o.1.m)) ?_;clear hK FA;generalize w7.alloc (.cells #[.int .i64 p,.int .i64 0,.int .i64 (if coF bs p then nmE (absP bs) (mkD bs f) p og else 0:Nat),.int .i64 0] 147)=W8 at *;refine Kp (i:=13) rfl (by kernel_rfl) rfl (fun K hK=>?_);have hz8:=H8.o.1.f.size;refine Rf underlying138 Qb4 rfl (by decide) (by decide) rfl _ _ rfl rfl H8.o.1.r gA rfl rfl (Xi.1 rfl) (by omega) (by omega) ?_;intro v9 w9 oS gS nS;have hX:=HX.o;rw[HS1.o]at hX;rw[←show Q8 ((UN bs b).take (k+1)) ((UM bs f b r).take (k+1))=_ from hX]at oS;obtain⟨h6,h7⟩:=H8.o.1.grow oS gS;have hF9:Below wA.heap.size wA w9:=Below.grown H8.o.1.f gS H8.o.1.f.size (fun j hj=>(H8.o.1.r.lt j hj).1);have O9:(w9.setCell ⟨wA.heap.size,2,none⟩ v9).ownsRow wA.heap.size 143 1 (.slice (some ⟨g3,0,none⟩) (aheF bs b).length c3) (aheF bs b).length (Qe (aheF bs b)):=by
      refine QL (Qd H8.o.2 (T:=fun e=>e=143) (fun g c e _ ht hh=>?_) rfl) h6 (by decide);subst ht;exact QC gS hh fun j hj e=>QG H8.o.1.r hh (by decide) (by subst e;exact hj)
     have H9:=Qc (And.intro h7 O9);obtain⟨p9,c9,rfl⟩:=Qa oS;have hS9:=HSS.o _ hF9 h6;refine hK.out _ _ (.inr hS9) ?_;have m7:=Qb h6 2;have f7:=Qg h6 2;simp at m7;clear hK oS gS nS h6 h7 gA zA O9 hX;change Xt prog _ _ _ _ _ _ _ (Act.put _ (some 74) _) _;simp only[Act.put,List.setIfInBounds_toArray,List.set_cons_zero,List.set_cons_succ];refine Zy (i:=14) (v:=?v14) (some 75) rfl rfl (by kernel_rfl) (by kernel_rfl) (by kernel_rfl) (by kernel_rfl) (fun _ _ _ h=>h) (Or.inl ⟨by rfl,?y14⟩) hS9 ?r14
     case y14=>
      rintro w ⟨t0,t1,t2,t3,t4⟩;go_simp
      with_reducible rfl
     simp only[Act.put,List.setIfInBounds_toArray,List.set_cons_zero,List.set_cons_succ];clear hS9;refine Kp (i:=15) rfl (by kernel_rfl) rfl (fun K hK=>?_);go_simp;refine hK.out _ _ (.inl rfl) ?_;refine GU (by kernel_rfl) ?_ _;clear hK;go_wp2_with fail;go_roundw
     case rel=>exact⟨k+1,_,by omega,by go_num,H9⟩
     case measure=>simp[intOf];omega
    ·have hke:k=(aheF bs b).length:=by omega
     subst hke;have m0:=Qb HK.o.1.m 0;have m1:=Qb HK.o.1.m 1;have m2:=Qb HK.o.1.m 2;simp at m0 m1 m2;have HQ:=Qc (HI.o.c.keeps (Qh HK.o.1.f) trivial trivial);have hzw:=HI.o.f.size;have hzc:=HK.o.1.f.size;have HR:Hid ((Xg bs f b r).gs.length=(Xg bs f b r).rs.length∧wC.ownsRow w.heap.size 147 4 (.slice pS (aheF bs b).length cS) (Xg bs f b r).gs.length (Q8 (Xg bs f b r).gs (Xg bs f b r).rs)):=by
      obtain⟨l1,l2⟩:=QbT bs f b r;have hr1:=HK.o.1.r;rw[Zg (by omega),Zg (by omega)]at hr1;refine⟨by show (UN bs b).length=(UM bs f b r).length;omega,?_⟩;have e1:(Xg bs f b r).gs.length=(aheF bs b).length:=l1;rw[e1];exact Qj hr1 hzw
     go_wp2_with (at_builtin;refine QA ?_);refine Qc ?_;obtain⟨vs,ha,hba⟩:=HQ.o;rw[hvl]at ha;have gB:=heap_alloc_last wC (.cells #[.int .i64 ((chN bs f b r).getD 0:Nat),.int .i64 0,.slice pS (aheF bs b).length cS] 140);have OB:=ha.alloc (.cells #[.int .i64 ((chN bs f b r).getD 0:Nat),.int .i64 0,.slice pS (aheF bs b).length cS] 140);refine KL underlying99 Qb5 rfl (by decide) (by decide) rfl _ _ rfl rfl OB gB rfl rfl (Xi.1 rfl) (by omega) (by rw[Qt];omega) ?_;intro v9 w9 oS gS;obtain⟨p9,c9,rfl⟩:=Qa oS;have H9:Hid (CqI w bs f b (q+1) (.slice (some ⟨gl,0,none⟩) (f b).length cl) (.slice p9 (q+1) c9) w9):=by
      have K:∀b (T:TypeId→Prop),¬T 140→Qr b T wC w9:=fun b T hT g c e _ ht hh=>QC gS (Qo hh _) fun j hj e2=>by
       subst e2;rcases ha.2 with ⟨e5,_⟩|⟨g2,cap,cur,e5,_,c1,_⟩
       ·rw[e5]at hj;cases hj
       ·rw[e5]at hj;cases hj;rw[c1]at hh;cases hh;exact hT ht
      refine⟨⟨vs++[.slice pS (aheF bs b).length cS],?_,?_⟩,?_,?_⟩
      ·rw[HTK.o,VB _ _ hba.len,Qw,hvl];exact oS
      ·rw[HTK.o];exact ZZ.snoc HR.o.1 (Qd HR.o.2 (K _ (fun e=>e=147) (by decide)) rfl) (hba.keeps (K _ (fun e=>e=147) (by decide)) rfl)
      ·exact Qd (Qd HI.o.l (Qh HK.o.1.f) trivial) (K _ (fun e=>e=78) (by decide)) rfl
      ·exact Below.grown ((HI.o.f.trans (HK.o.1.f.mono hzw)).alloc (by omega) _) gS (by rw[Qt];omega) (fun j hj=>(ha.lt j hj).1)
     clear gS gB OB oS ha hba;go_wp2_with fail;go_roundw
     case rel=>exact⟨q+1,by omega,by go_num,H9⟩
     case measure=>simp[intOf];omega
  ·have hqe:q=(f b).length:=by omega
   rw[hvl]at HI ⊢;have HP:Hid (ZU wA w.heap.size ((f b).map (Xg bs f b)) (.slice pc q cp)∧Below w.heap.size w wA):=by
    have:=HI.o.c;rw[hqe,List.take_length]at this;rw[hqe];exact⟨this,HI.o.f⟩
   subst hqe;go_wp2_with fail;go_ret;exact⟨_,rfl,HP⟩
noncomputable def QaW(bs:List Qm)(f:Nat→List Nat)(b j:Nat)(t:Qz):Qz:=rnQ (nmA (absP bs) (mkD bs f) b j) (giN bs f b j) t
noncomputable def Yk(bs:List Qm)(f:Nat→List Nat)(b:Nat)(ts:List Qz):List Qz:=ts.mapIdx (QaW bs f b)
def zSt:Qz:=⟨118,(0,0),(0,0),(0,0),0⟩
noncomputable def KH(bs:List Qm)(f:Nat→List Nat)(b:Nat):List Qz:=if b=0∧nzF bs f=true then [zSt] else []
noncomputable def Wb(bs:List Qm)(f:Nat→List Nat)(b:Nat)(o:Qm):Qm:=⟨(f b).map (Xg bs f b),KH bs f b++Yk bs f b o.sts,JT (nmA (absP bs) (mkD bs f) b o.sts.length) o.e,0⟩
theorem Qdc{bs f b}{l:List Qz}{k:Nat}(hk:k<l.length):Yk bs f b (l.take (k+1))=Yk bs f b (l.take k)++[QaW bs f b k l[k]]:=by
 unfold Yk;rw[Zb hk,List.mapIdx_append];simp[List.length_take,Nat.min_eq_left (Nat.le_of_lt hk)]
theorem QeO(bs f b)(l:List Qz)(k:Nat)(hk:k≤l.length):(Yk bs f b (l.take k)).length=k:=by
 unfold Yk;rw[List.length_mapIdx,List.length_take];omega
theorem QeN(bs f b):(KH bs f b).length≤1:=by unfold KH;split<;>simp
structure BkI(bs:List Qm)(f:Nat→List Nat)(mb base B Bn Bc:Nat)(v va vu vah vnd vch vgi:Value)(b:Nat)(w:World)(old:Array Value)(wr:World):Prop where
 m0:MkF bs f mb base B Bn Bc v va vu vah vnd vch vgi w
 b0:wr.heap[w.heap.size]?=some (.cells #[.pointer (some ⟨mb,0,none⟩)] 164 (0,0))
 b1:wr.heap[w.heap.size+1]?=some (.cells #[.int .i64 b] 143 (0,0))
 b2:wr.heap[w.heap.size+1+1]?=some (.cells #[.int .i64 0,.slice none 0 0,.slice none 0 0,.nilIface] 104 (0,0))
 b3:wr.heap[w.heap.size+3]?=some (.cells old 104 (0,0))
 fr:Below w.heap.size w wr
theorem BkI.keeps{bs f mb base B Bn Bc v va vu vah vnd vch vgi b w old wr wr'}(h:BkI bs f mb base B Bn Bc v va vu vah vnd vch vgi b w old wr)(F:Below wr.heap.size wr wr'):BkI bs f mb base B Bn Bc v va vu vah vnd vch vgi b w old wr':=
 ⟨h.m0,by rw[F.block _ (lt_of_block h.b0)];exact h.b0,by rw[F.block _ (lt_of_block h.b1)];exact h.b1,by rw[F.block _ (lt_of_block h.b2)];exact h.b2,by rw[F.block _ (lt_of_block h.b3)];exact h.b3,h.fr.trans (F.mono h.fr.size)⟩
theorem BkI.m{bs f mb base B Bn Bc v va vu vah vnd vch vgi b w old wr}(h:BkI bs f mb base B Bn Bc v va vu vah vnd vch vgi b w old wr):MkF bs f mb base B Bn Bc v va vu vah vnd vch vgi wr:=h.m0.keeps h.fr
structure BkJ(bs:List Qm)(f:Nat→List Nat)(mb base B Bn Bc:Nat)(v va vu vah vnd vch vgi:Value)(b:Nat)(w:World)(old:Array Value)(mc:Nat)(E:Value)(cs:List Q0)(ts:List Qz)(vc vt:Value)(wr:World):Prop where
 k:BkI bs f mb base B Bn Bc v va vu vah vnd vch vgi b w old wr
 mm:wr.heap[mc]?=some (.cells #[.int .i64 0,vc,vt,E] 104 (0,0))
 c:ZU wr w.heap.size cs vc
 t:wr.ownsRow w.heap.size 150 1 vt ts.length (ts.map QS)
 l:w.heap.size+3<mc
theorem BkJ.keeps{bs f mb base B Bn Bc v va vu vah vnd vch vgi b w old mc E cs ts vc vt wr wr'}(h:BkJ bs f mb base B Bn Bc v va vu vah vnd vch vgi b w old mc E cs ts vc vt wr)(F:Below wr.heap.size wr wr'):BkJ bs f mb base B Bn Bc v va vu vah vnd vch vgi b w old mc E cs ts vc vt wr':=
 ⟨h.k.keeps F,by rw[F.block _ (lt_of_block h.mm)];exact h.mm,h.c.keeps (Qh F) trivial trivial,Qd h.t (Qh F) trivial,h.l⟩
section
variable {P:Program} {ops:Array Oper} {Q:Exit→Act→World→Prop} {md:Region.Mode} {S:World→Prop} {L:Nat}
theorem QiT{i j:Nat}{oi oj:Oper}{fuel:Nat}{listed:Array Bool}{a:Act}{w:World}(hi:ops[i]?=some oi)(hj:ops[j]?=some oj)(hr:Region.ready md ops listed=[i,j])(hgi:oi.guard=none)(hgj:oj.guard=none)
  (h1:∀K':Act→World→Prop,Hid (∀a w,(i=L∨S w)→Xt P md ops Q S L fuel (listed.setIfInBounds i true) a w→K' a w)→if Region.wanted oi (yielded ops a.tmps)=true then Oper.wp P oi a w K' Q else True)
  (h2:∀K':Act→World→Prop,Hid (∀a w,(j=L∨S w)→Xt P md ops Q S L fuel (listed.setIfInBounds j true) a w→K' a w)→if Region.wanted oj (yielded ops a.tmps)=true then Oper.wp P oj a w K' Q else True):Xt P md ops Q S L (fuel+1) listed a w:=by
 refine⟨fun h0=>(by rw[hr]at h0;cases h0),fun k hk=>?_⟩;rw[hr,List.mem_cons,QF]at hk;rcases hk with e|e<;>rw[e]
 ·skip
  unfold wpOp;simp only[hi];have hw:Region.wanted oi (yielded ops a.tmps)=true:=by rw[Region.wanted,hgi]
  have h:=h1 (fun a' w'=>(i=L∨S w')∧Xt P md ops Q S L fuel (listed.setIfInBounds i true) a' w') fun a w h1 h2=>⟨h1,h2⟩;rw[if_pos hw]at h ⊢;exact .inl h
 ·skip
  unfold wpOp;simp only[hj];have hw:Region.wanted oj (yielded ops a.tmps)=true:=by rw[Region.wanted,hgj]
  have h:=h2 (fun a' w'=>(j=L∨S w')∧Xt P md ops Q S L fuel (listed.setIfInBounds j true) a' w') fun a w h1 h2=>⟨h1,h2⟩;rw[if_pos hw]at h ⊢;exact .inl h
end
theorem R8{bs f mb base B Bn Bc v va vu vah vnd vch vgi b w old mc E cs vc wr}{a0 a1 a2 a3:Value}(h:BkI bs f mb base B Bn Bc v va vu vah vnd vch vgi b w old wr)(hm:wr.heap[mc]?=some (.cells #[a0,a1,a2,a3] 104 (0,0)))(hc:ZU wr w.heap.size cs vc)(hl:w.heap.size+3<mc):
  BkJ bs f mb base B Bn Bc v va vu vah vnd vch vgi b w old mc E cs [] vc (.slice none 0 0) ((((wr.setCell ⟨mc,0,none⟩ (.int .i64 0)).setCell ⟨mc,1,none⟩ vc).setCell ⟨mc,2,none⟩ (.slice none 0 0)).setCell ⟨mc,3,none⟩ E):=by
 have hb:∀k:Nat,k≠mc→((((wr.setCell ⟨mc,0,none⟩ (.int .i64 0)).setCell ⟨mc,1,none⟩ vc).setCell ⟨mc,2,none⟩ (.slice none 0 0)).setCell ⟨mc,3,none⟩ E).heap[k]?=wr.heap[k]?:=fun k hk=>by rw[QM hk,QM hk,QM hk,QM hk]
 have b3:=Qq (Qq (Qq (Qq hm 0 (.int .i64 0)) 1 vc) 2 (.slice none 0 0)) 3 E;simp at b3;have K:∀(B:Nat)(T:TypeId→Prop),¬T 104→Qr B T wr ((((wr.setCell ⟨mc,0,none⟩ (.int .i64 0)).setCell ⟨mc,1,none⟩ vc).setCell ⟨mc,2,none⟩ (.slice none 0 0)).setCell ⟨mc,3,none⟩ E):=fun B T hT g c e _ ht hh=>by
  rw[hb g (fun e2=>by subst e2;rw[hm]at hh;cases hh;exact hT ht)];exact hh
 refine⟨?_,b3,hc.keeps (K _ (fun e=>e=147∨e=140) (by decide)) (.inl rfl) (.inr rfl),Q3 _ _ _ _,hl⟩;exact⟨h.m0,by rw[hb _ (by omega)];exact h.b0,by rw[hb _ (by omega)];exact h.b1,by rw[hb _ (by omega)];exact h.b2,by rw[hb _ (by omega)];exact h.b3,Qp (Qp (Qp (Qp h.fr _ _ _ (by omega)) _ _ _ (by omega)) _ _ _ (by omega)) _ _ _ (by omega)⟩
theorem BkJ.growS{bs f mb base B Bn Bc v va vu vah vnd vch vgi b w old mc E cs ts vc vt W w7 v7 ob}{t:Qz}(h:BkJ bs f mb base B Bn Bc v va vu vah vnd vch vgi b w old mc E cs ts vc vt W)
  (oS:w7.ownsRow w.heap.size 150 1 v7 (ts.length+1) (ts.map QS++[QS t]))(gS:(W.alloc ob).grownBy w7 vt.ownBlock):
  (∀(k:Nat)(o:Obj),W.heap[k]?=some o→(∀c,o≠Obj.cells c 150 (0,0))→w7.heap[k]?=some o)∧w7.heap[mc]?=some (.cells #[.int .i64 0,vc,vt,E] 104 (0,0))∧BkJ bs f mb base B Bn Bc v va vu vah vnd vch vgi b w old mc E cs (ts++[t]) vc v7 (w7.setCell ⟨mc,2,none⟩ v7):=by
 have hot:∀(k:Nat)(o:Obj),W.heap[k]?=some o→(∀c,o≠Obj.cells c 150 (0,0))→w7.heap[k]?=some o:=fun k o hk ho=>QC gS (Qo hk _) fun j hj e=>by
  subst e;rcases h.t.2 with ⟨rfl,_⟩|⟨g2,cap,cur,e5,_,c1,_⟩
  ·cases hj
  ·rw[e5]at hj;cases hj;rw[c1]at hk;cases hk;exact ho _ rfl
 have hM:=hot mc _ h.mm (fun c e=>by cases e);have hl:=h.l;have K:∀(B:Nat)(T:TypeId→Prop),¬T 104→¬T 150→Qr B T W (w7.setCell ⟨mc,2,none⟩ v7):=fun B T hT hT2 g c e _ ht hh=>by
  rw[QM (fun e2=>by subst e2;rw[h.mm]at hh;cases hh;exact hT ht)];exact hot g _ hh (fun c2 e2=>by cases e2;exact hT2 ht)
 have hF:Below w.heap.size w w7:=Below.grown (h.k.fr.alloc h.k.fr.size _) gS (by have:=h.k.fr.size;rw[Qt];omega) (fun j hj=>(h.t.lt j hj).1);refine⟨hot,hM,⟨⟨h.k.m0,?_,?_,?_,?_,Qp hF _ _ _ (by omega)⟩,Qq hM 2 v7,h.c.keeps (K _ (fun e=>e=147∨e=140) (by decide) (by decide)) (.inl rfl) (.inr rfl),?_,hl⟩⟩
 ·rw[QM (by omega)];exact hot _ _ h.k.b0 (fun c e=>by cases e)
 ·rw[QM (by omega)];exact hot _ _ h.k.b1 (fun c e=>by cases e)
 ·rw[QM (by omega)];exact hot _ _ h.k.b2 (fun c e=>by cases e)
 ·rw[QM (by omega)];exact hot _ _ h.k.b3 (fun c e=>by cases e)
 ·rw[Qw,List.map_append];exact QL oS hM (by decide)
theorem OfC.left{I J:World→Prop}{C:Value}{g:Nat→Nat}(h:OfC I C g)(hj:∀w w':World,J w→Below w.heap.size w w'→J w'):OfC (fun w=>I w∧J w) C g:=
 ⟨fun w w' h1 F=>⟨h.1 w w' h1.1 F,hj w w' h1.2 F⟩,fun r a w hr h1=>h.2 r a w hr h1.1⟩
theorem OfC.right{I J:World→Prop}{C:Value}{g:Nat→Nat}(h:OfC J C g)(hi:∀w w':World,I w→Below w.heap.size w w'→I w'):OfC (fun w=>I w∧J w) C g:=
 ⟨fun w w' h1 F=>⟨hi w w' h1.1 F,h.1 w w' h1.2 F⟩,fun r a w hr h1=>h.2 r a w hr h1.2⟩
theorem Qgv(t:Qz){T:TypeId}{x:Value}(h:QS t=.iface T x)(w:World):(nilAhead 500 T x "Renamed").run prog w=.ok (some false) w:=by
 by_cases h63:t.op=63
 ·rw[QS,if_pos h63]at h;cases h;kernel_rfl
 by_cases h99:t.op=99
 ·rw[QS,if_neg h63,if_pos h99]at h;cases h;kernel_rfl
 by_cases h118:t.op=118
 ·rw[QS,if_neg h63,if_neg h99,if_pos h118]at h;cases h;kernel_rfl
 by_cases h33:t.op=33
 ·rw[QS,if_neg h63,if_neg h99,if_neg h118,if_pos h33]at h;cases h;kernel_rfl
 ·rw[QS,if_neg h63,if_neg h99,if_neg h118,if_neg h33]at h;cases h;kernel_rfl
theorem Qin(bs:List Qm)(f:Nat→List Nat)(b r:Nat):Zn (Xg bs f b r)=UO (absP bs) (mkD bs f) (coF bs) b r:=by
 unfold Zn Xg UO;dsimp only
 congr 1
 rw[←Yc];unfold UN UM;rw[List.map_map,List.map_map];generalize aheF bs b=l;have hb:(bkA (absP bs) b).chs=(bkF bs b).chs.map Zn:=by rw[QX];rfl
 induction l with
 | nil=>rfl
 | cons p l ih=>
  rw[List.map_cons,List.map_cons,List.map_cons,List.zip_cons_cons,ih]
  congr 1
  show (p,Qdd bs f b r p)=_;unfold Qdd;rw[VF,hb]
theorem Qcz(bs:List Qm)(f:Nat→List Nat)(b:Nat):∀(l:List Qz)(j:Nat),(l.mapIdx fun i t=>QaW bs f b (j+i) t).map QK=Yl (absP bs) (mkD bs f) b j (l.map QK)
 | [],_=>rfl
 | t::l,j=>by
  rw[List.mapIdx_cons,List.map_cons,List.map_cons,Yl];have ih:=Qcz bs f b l (j+1)
  congr 1
  ·exact Qgf _ _ _
  ·rw[←ih]
   congr 1
   refine List.ext_getElem (by simp) fun i h1 h2=>?_;simp only[List.getElem_mapIdx];rw[show j+(i+1)=j+1+i by omega]
theorem Qio(bs:List Qm)(f:Nat→List Nat)(b:Nat):Xf (Wb bs f b (bkF bs b))=mkB (absP bs) (mkD bs f) (coF bs) f (nzF bs f) b:=by
 unfold Xf Wb mkB;dsimp only
 congr 1
 ·rw[List.map_map];exact List.map_congr_left fun r _=>Qin bs f b r
 ·rw[List.map_append]
  congr 1
  ·unfold KH;split<;>rfl
  ·have h:=Qcz bs f b (bkF bs b).sts 0;have e:Yk bs f b (bkF bs b).sts=(bkF bs b).sts.mapIdx fun i t=>QaW bs f b (0+i) t:=by
    unfold Yk;refine List.ext_getElem (by simp) fun i h1 h2=>?_;simp only[List.getElem_mapIdx,Nat.zero_add]
   rw[e,h,QX];rfl
 ·rw[QcB,show nmE (absP bs) (mkD bs f) b=nmA (absP bs) (mkD bs f) b (bkF bs b).sts.length from funext fun r=>by rw[nmE,Ka],QX];rfl
noncomputable def mkP(bs:List Qm)(f:Nat→List Nat):List Qm:=trI (coF bs) (Wb bs f) bs
theorem RB(bs f):(mkP bs f).length=bs.length:=KN _ _ _
theorem QcA(bs:List Qm)(f:Nat→List Nat):absP (mkP bs f)=mkA (absP bs) (mkD bs f) (coF bs) f (nzF bs f):=by
 unfold mkA;refine List.ext_getElem (by rw[List.length_mapIdx];simp[absP,mkP,trI]) fun i h1 h2=>?_;have hi:i<bs.length:=by simpa[absP,mkP,trI] using h1
 simp only[absP,List.getElem_map,List.getElem_mapIdx];rw[show (mkP bs f)[i]'(by rw[RB];exact hi)=if coF bs i then Wb bs f i bs[i] else YW bs[i] from Ra hi];split
 ·rw[←Zj hi];exact Qio bs f i
 ·exact Qgg _
theorem QeJ{bs:List Qm}(hr:J5 bs)(hq:QOk (absP bs))(hf:∀b∈bs,QU 1000000 b){LM:Nat→Option (List Nat)}{f:Nat→List Nat}(h:PlF bs (ndL bs) LM f bs.length 0)(hS:∀k,SM (f k)):Kn (absP bs) (fun b r=>r∈ndL bs b) (fun r b=>(∃l,LM r=some l∧b∈l)∨LM r=none) (mkD bs f) (coF bs) f (nzF bs f):=by
 refine⟨hq,QhB hr h,Qju hf,Qkj bs f _,fun b=>VT hr b,fun b r=>?_,fun b=>?_,?_⟩
 ·show r∈f b↔chN bs f b r≠none;unfold chN;split<;>simp_all
 ·exact(hS b).1.imp fun h=>Nat.ne_of_lt h
 ·unfold nzF;rw[List.any_eq_true];constructor
  ·rintro⟨r,h1,h2⟩;refine⟨r,h1,?_⟩;show chN bs f 0 r=none;unfold chN;rw[if_neg];intro h3;rw[Bool.not_eq_true']at h2;rw[Ze.2 h3]at h2;cases h2
  ·rintro⟨r,h1,h2⟩;refine⟨r,h1,?_⟩;have h2:chN bs f 0 r=none:=h2;unfold chN at h2;split at h2
   ·cases h2
   ·rename_i h3;rw[Bool.not_eq_true']
    cases e:QD (f 0) r with
    | false=>rfl
    | true=>exact absurd (Ze.1 e) h3
end Go.Proofs.YtgfhfkgdmidhpaaGreatDoor
