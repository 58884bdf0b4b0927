import Derived.Test.YtgfhfkgdmidhpaaGreatDoorC23
namespace Go.Proofs.YtgfhfkgdmidhpaaGreatDoor
open Go.RowKit
set_option maxRecDepth 100000
set_option maxHeartbeats 8000000
def zB4:List Value:=[.int .i64 0,.slice none 0 0,.slice none 0 0,.nilIface]
def zBr(m:Nat):List Value:=(List.replicate m zB4).flatten
theorem QcC(n:Nat):zBr (n+1)=zBr n++zB4:=by
 unfold zBr;rw[List.replicate_succ',List.flatten_append];simp
theorem We(m:Nat):zBr (m+1)=zB4++zBr m:=by
 unfold zBr;rw[List.replicate_succ,List.flatten_cons]
theorem Qga(n:Nat):(madeCells (Value.agg #[.int .i64 0,.slice none 0 0,.slice none 0 0,.nilIface]).cells (n*4)).toList=zBr n:=by
 rw[show (Value.agg #[.int .i64 0,.slice none 0 0,.slice none 0 0,.nilIface]).cells=#[.int .i64 0,.slice none 0 0,.slice none 0 0,.nilIface] from rfl];have e:∀m,(madeCells #[.int .i64 0,.slice none 0 0,.slice none 0 0,.nilIface] m).toList=(List.range m).map (fun i=>(#[Value.int .i64 0,.slice none 0 0,.slice none 0 0,.nilIface]:Array Value)[i % 4]!):=fun m=>by
  unfold madeCells;rw[Array.toList_map,Array.toList_range];rfl
 rw[e];clear e
 induction n with
 | zero=>rfl
 | succ n ih=>
  rw[QcC,←ih,show (n+1)*4=n*4+1+1+1+1 from by omega,List.range_succ,List.range_succ,List.range_succ,List.range_succ,List.map_append,List.map_append,List.map_append,List.map_append];rw[List.append_assoc,List.append_assoc,List.append_assoc]
  congr 1
  simp only[List.map_cons,List.map_nil,List.cons_append,List.nil_append];rw[show n*4 % 4=0 from by omega,show (n*4+1) % 4=1 from by omega,show (n*4+1+1) % 4=2 from by omega,show (n*4+1+1+1) % 4=3 from by omega];rfl
theorem Yr:∀(cs:List Ql)(vs:List (Value×Value)),vs.length=cs.length→(Xs cs vs).length=4*cs.length
 | [],[],_=>rfl
 | [],_::_,h=>by simp at h
 | _::_,[],h=>by simp at h
 | c::cs,v::vs,h=>by
  have e:Xs (c::cs) (v::vs)=QT c v.1 v.2++Xs cs vs:=rfl;have:=Yr cs vs (by simpa using h);rw[e,List.length_append,this,List.length_cons];show 4+_=_;omega
def QbV(x:World)(g k:Nat)(v0 v1 v2 v3:Value):World:=(((x.setCell ⟨g,k*4,none⟩ v0).setCell ⟨g,k*4+1,none⟩ v1).setCell ⟨g,k*4+2,none⟩ v2).setCell ⟨g,k*4+3,none⟩ v3
theorem Qfh(L Z:List Value)(z0 z1 z2 z3 a0 a1 a2 a3:Value){k:Nat}(hl:L.length=4*k):((((L++(z0::z1::z2::z3::Z)).set (k*4) a0).set (k*4+1) a1).set (k*4+2) a2).set (k*4+3) a3=L++(a0::a1::a2::a3::Z):=by
 rw[List.set_append_right (h:=by omega),hl,show k*4-4*k=0 from by omega,List.set_cons_zero];rw[List.set_append_right (h:=by omega),hl,show k*4+1-4*k=1 from by omega,List.set_cons_succ,List.set_cons_zero];rw[List.set_append_right (h:=by omega),hl,show k*4+2-4*k=2 from by omega,List.set_cons_succ,List.set_cons_succ,List.set_cons_zero];rw[List.set_append_right (h:=by omega),hl,show k*4+3-4*k=3 from by omega,List.set_cons_succ,List.set_cons_succ,List.set_cons_succ,List.set_cons_zero]
theorem Qhp(L Z:List Value)(z0 z1 z2 z3 a3:Value){k:Nat}(hl:L.length=4*k):(L++(z0::z1::z2::z3::Z)).set (k*4+3) a3=L++(z0::z1::z2::a3::Z):=by
 rw[List.set_append_right (h:=by omega),hl,show k*4+3-4*k=3 from by omega,List.set_cons_succ,List.set_cons_succ,List.set_cons_succ,List.set_cons_zero]
structure MdR(w0:World)(bx:Nat)(cs:List Ql)(g k:Nat)(wr:World):Prop where
 r:∃vs:List (Value×Value),vs.length=k∧wr.ownsRow bx 104 4 (.slice (some ⟨g,0,none⟩) cs.length cs.length) cs.length (Xs (cs.take k) vs++zBr (cs.length-k))∧Q8 wr bx (cs.take k) vs
 f:Below w0.heap.size w0 wr
 l:w0.heap.size≤g
theorem MdR.blk{w0 bx cs g k wr}(h:MdR w0 bx cs g k wr):∃cur,wr.heap[g]?=some (.cells cur 104 (0,0)):=by
 obtain⟨⟨vs,_,o,_⟩,_,_⟩:=h;exact GA o
theorem MdR.cell{w0 bx cs g k wr}(h:MdR w0 bx cs g k wr)(hk:k<cs.length):∀j,j<4→∃u,wr.cell? ⟨g,k*4+j,none⟩=some u:=by
 obtain⟨⟨vs,hv,o,_⟩,_,_⟩:=h;intro j hj;have ht:(cs.take k).length=k:=by rw[List.length_take];omega
 have hl:(Xs (cs.take k) vs).length=4*k:=by rw[Yr _ _ (by rw[hv,ht]),ht]
 have hx:(Xs (cs.take k) vs++zBr (cs.length-k))[k*4+j]?=zB4[j]?:=by
  rw[List.getElem?_append_right (by omega),hl,show k*4+j-4*k=j from by omega,show cs.length-k=(cs.length-k-1)+1 from by omega,We,List.getElem?_append_left (by show j<4;exact hj)]
 have hz:j<zB4.length:=hj;rw[List.getElem?_eq_getElem hz]at hx;exact⟨_,Qe o hx⟩
theorem MdR.keeps{w0 bx cs g k wr wr'}(h:MdR w0 bx cs g k wr)(F:Below wr.heap.size wr wr'):MdR w0 bx cs g k wr':=by
 obtain⟨⟨vs,hv,o,a⟩,f,l⟩:=h;exact⟨⟨vs,hv,Qd o (Qi F) trivial,a.keeps (Qi F) trivial trivial trivial⟩,f.trans (F.mono f.size),l⟩
theorem Qcf{base g:Nat}{cur:Array Value}{wr:World}(hcur:wr.heap[g]?=some (.cells cur 104 (0,0)))(T:TypeId→Prop)(hT:¬T 104)(v0 v1 v2 v3:Value)(k:Nat):Qs base T wr (QbV wr g k v0 v1 v2 v3):=
 (((QI hcur hT v0).trans (QI (Qp hcur _ v0) hT v1)).trans (QI (Qp (Qp hcur _ v0) _ v1) hT v2)).trans (QI (Qp (Qp (Qp hcur _ v0) _ v1) _ v2) hT v3)
theorem MdR.put{w0 bx cs g k wr}(h:MdR w0 bx cs g k wr)(hk:k<cs.length){c:Ql}(hc:cs[k]=c){vc vt:Value}{B:Nat}(hB:bx≤B)(o:Ks wr B c vc vt)(hop:c.e.op=46∨c.e.op=62∨c.e.op=63):
  MdR w0 bx cs g (k+1) (QbV wr g k (.int .i64 c.at_) vc vt (QP c.e)):=by
 obtain⟨cur,hcur⟩:=h.blk;obtain⟨⟨vs,hv,row,all⟩,f,l⟩:=h;have ht:(cs.take k).length=k:=by rw[List.length_take];omega
 have hl:(Xs (cs.take k) vs).length=4*k:=by rw[Yr _ _ (by rw[hv,ht]),ht]
 have e1:cs.take (k+1)=cs.take k++[c]:=by rw[List.take_succ_eq_append_getElem hk,hc]
 have KP:=Qcf (base:=bx) hcur (fun e=>e=147∨e=140∨e=150) (by decide) (.int .i64 c.at_) vc vt (QP c.e) k;refine⟨⟨vs++[(vc,vt)],by rw[List.length_append,hv];rfl,?_,?_⟩,Qr (Qr (Qr (Qr f _ _ _ l) _ _ _ l) _ _ _ l) _ _ _ l,l⟩
 ·have s:=(((row.stored (k*4) (.int .i64 c.at_)).1.stored (k*4+1) vc).1.stored (k*4+2) vt).1.stored (k*4+3) (QP c.e);have s:=s.1;rw[show cs.length-k=(cs.length-(k+1))+1 from by omega,We]at s;have es:Xs (cs.take k) vs++(zB4++zBr (cs.length-(k+1)))=Xs (cs.take k) vs++(Value.int .i64 0::.slice none 0 0::.slice none 0 0::.nilIface::zBr (cs.length-(k+1))):=rfl;rw[es,Qfh _ _ _ _ _ _ _ _ _ _ hl]at s;rw[e1,Yb _ _ (by rw[hv,ht]),List.append_assoc];exact s
 ·rw[e1];refine Q8.snoc (c:=c) (v:=(vc,vt)) hop ?_ (all.keeps KP (.inl rfl) (.inr (.inl rfl)) (.inr (.inr rfl)));exact⟨(X1.base o.1 hB).keeps KP (.inl rfl) (.inr (.inl rfl)),Qd (Qm o.2 hB) KP (.inr (.inr rfl))⟩
theorem MdR.off{w0 bx cs g k wr}(h:MdR w0 bx cs g k wr)(hk:k<cs.length){b:Ql}(hc:cs[k]=KD b)(hop:b.e.op=46∨b.e.op=62∨b.e.op=63):
  MdR w0 bx cs g (k+1) (wr.setCell ⟨g,k*4+3,none⟩ (QP (KD b).e)):=by
 obtain⟨cur,hcur⟩:=h.blk;obtain⟨⟨vs,hv,row,all⟩,f,l⟩:=h;have ht:(cs.take k).length=k:=by rw[List.length_take];omega
 have hl:(Xs (cs.take k) vs).length=4*k:=by rw[Yr _ _ (by rw[hv,ht]),ht]
 have e1:cs.take (k+1)=cs.take k++[KD b]:=by rw[List.take_succ_eq_append_getElem hk,hc]
 have KP:=QI (base:=bx) (T:=fun e=>e=147∨e=140∨e=150) (o:=k*4+3) hcur (by decide) (QP (KD b).e);have hop2:(KD b).e.op=46∨(KD b).e.op=62∨(KD b).e.op=63:=by
  show (XH (fun _=>0) b.e).op=46∨(XH (fun _=>0) b.e).op=62∨(XH (fun _=>0) b.e).op=63;unfold XH;split<;>exact hop
 refine⟨⟨vs++[(.slice none 0 0,.slice none 0 0)],by rw[List.length_append,hv];rfl,?_,?_⟩,Qr f _ _ _ l,l⟩
 ·have s:=(row.stored (k*4+3) (QP (KD b).e)).1;rw[show cs.length-k=(cs.length-(k+1))+1 from by omega,We]at s;have es:Xs (cs.take k) vs++(zB4++zBr (cs.length-(k+1)))=Xs (cs.take k) vs++(Value.int .i64 0::.slice none 0 0::.slice none 0 0::.nilIface::zBr (cs.length-(k+1))):=rfl;rw[es,Qhp _ _ _ _ _ _ _ hl]at s;rw[e1,Yb _ _ (by rw[hv,ht]),List.append_assoc];exact s
 ·rw[e1];refine Q8.snoc (c:=KD b) (v:=(.slice none 0 0,.slice none 0 0)) hop2 ?_ (all.keeps KP (.inl rfl) (.inr (.inl rfl)) (.inr (.inr rfl)));exact⟨⟨[],World.ownsRow_nil _ _ _ _,trivial⟩,World.ownsRow_nil _ _ _ _⟩
theorem MdR.all{w0 bx cs g k wr}(h:MdR w0 bx cs g k wr)(hk:cs.length≤k):PBs wr bx cs (.slice (some ⟨g,0,none⟩) cs.length cs.length)∧Below w0.heap.size w0 wr:=by
 obtain⟨⟨vs,hv,row,all⟩,f,l⟩:=h;rw[List.take_of_length_le hk]at row all;rw[show cs.length-k=0 by omega,show zBr 0=[] from rfl,List.append_nil]at row;exact⟨⟨vs,row,all⟩,f⟩
theorem Wl{co:Nat→Bool}{f:Ql→Ql}{bs:List Ql}{k:Nat}(hk:k<bs.length):(trR co f bs)[k]'(by rw[Zq];exact hk)=if co k then f bs[k] else KD bs[k]:=by simp[trR]
structure Qe1(bs:List Ql)(w:World)(bx F:Nat)(caps:Array Value)(f:Ql→Ql):Prop where
 en:∀args (w:World),(callFunc F args).run Tryz.prog w=.ok (.enter F args) w
 at_:∀b,(f b).at_=0
 op:∀b,b.e.op=46∨b.e.op=62∨b.e.op=63→(f b).e.op=46∨(f b).e.op=62∨(f b).e.op=63
 run:∀wr (m:Nat) (hm:m<bs.length),Below w.heap.size w wr→Calls Tryz.prog F (#[.int .i64 m]++caps) wr fun e w'=>∃vc vt,e=.returned (.agg (QT (f bs[m]) vc vt).toArray)∧Hid (Ks w' bx (f bs[m]) vc vt∧Below wr.heap.size wr w')
theorem QaG(bs:List Ql)(bx F:Nat)(caps:Array Value)(f:Ql→Ql)(base B:Nat)(v va vu:Value)(w:World)(h:Grd w bs base B v va vu)(hT:Hid (Qe1 bs w bx F caps f))(hbx:bx≤w.heap.size)(hn:bs.length≤1000):
  Calls Tryz.prog 44 #[.agg #[v,va,vu,v],.func (.func F) #[] caps] w fun e w'=>∃v',e=.returned v'∧Hid (PBs w' bx (trR (coF bs) f bs) v'∧Below w.heap.size w w'):=by
 obtain⟨⟨p,cp,rfl⟩,⟨pa,ca,rfl⟩,q,d,rfl⟩:=h.form;have H:=Qc h;clear h;obtain⟨I4,Hi4,Hz4,Hs4,Hb4⟩:=info_parts Tryz.info104;go_enter Tryz.func44,Tryz.ntmps44;go_wp2_with (at_make;refine Qv ?_);refine Qc ?_;refine wpList_make_full _ rfl _ _ 38 rfl (w.heap.size+1) 104 I4 (.agg #[.int .i64 0,.slice none 0 0,.slice none 0 0,.nilIface]) 4 Tryz.underlying38 Hi4 Hz4 Hs4 .i64 .i64 _ _ bs.length rfl rfl rfl rfl (by rw[Hb4];omega) (by unfold maxLen;omega) (by simp) ?_;intro w3 o3 g3;rw[Qga,World.size_alloc]at o3;have hG1:w.heap.size≤(w.alloc (.cells #[.slice p bs.length cp,.slice pa (Qx bs).length ca,.slice q bs.length d,.slice p bs.length cp] 87)).heap.size:=by rw[World.size_alloc];omega
 have gA:=heap_alloc_last w (.cells #[.slice p bs.length cp,.slice pa (Qx bs).length ca,.slice q bs.length d,.slice p bs.length cp] 87);have FA:=(Below.refl w.heap.size w).alloc (Nat.le_refl _) (.cells #[.slice p bs.length cp,.slice pa (Qx bs).length ca,.slice q bs.length d,.slice p bs.length cp] 87);have F3:=FA.trans ((Below.grown (Below.refl _ _) g3 (Nat.le_refl _) (fun k hk=>by cases hk):Below (w.alloc (.cells #[.slice p bs.length cp,.slice pa (Qx bs).length ca,.slice q bs.length d,.slice p bs.length cp] 87)).heap.size (w.alloc (.cells #[.slice p bs.length cp,.slice pa (Qx bs).length ca,.slice q bs.length d,.slice p bs.length cp] 87)) w3).mono hG1);have g4:w3.heap[w.heap.size]?=some (.cells #[.slice p bs.length cp,.slice pa (Qx bs).length ca,.slice q bs.length d,.slice p bs.length cp] 87 (0,0)):=Qz g3 gA (fun j hj=>by cases hj);have M0:Hid (w3.heap[w.heap.size]?=some (.cells #[.slice p bs.length cp,.slice pa (Qx bs).length ca,.slice q bs.length d,.slice p bs.length cp] 87 (0,0))∧MdR w bx (trR (coF bs) f bs) (w.heap.size+1) 0 w3):=⟨g4,⟨[],rfl,by rw[Zq,show (trR (coF bs) f bs).take 0=[] from rfl,Nat.sub_zero];exact Qm o3 (Nat.le_succ_of_le hbx),trivial⟩,F3,Nat.le_succ _⟩;clear g3 o3 Hi4 Hz4 Hs4 Hb4 F3 g4 gA FA hG1;have k1:=Qa M0.o.1 3;simp at k1;have hwz:=lt_of_block M0.o.1;go_wp2_with fail;clear k1
 go_loopw [16] (fun ii wr=>∃i:Nat,i≤bs.length∧ii=.int .i64 i∧Hid (wr.heap[w.heap.size]?=some (.cells #[.slice p bs.length cp,.slice pa (Qx bs).length ca,.slice q bs.length d,.slice p bs.length cp] 87 (0,0))∧MdR w bx (trR (coF bs) f bs) (w.heap.size+1) i wr)) (fun ii _=>bs.length-(intOf ii).toNat)
 case atStart=>exact⟨0,by omega,rfl,M0⟩
 case round=>
  clear M0 hwz;obtain⟨i,hi,rfl,HS⟩:=hrel;rename World=>wA;by_cases hlt:i<bs.length
  ·obtain⟨g,qc,cc,pt,ct,rfl,_,hg,hop,OC,OS,d0,d1,d2,d3⟩:=H.o.p.at hlt;have FA:=HS.o.2.f;obtain⟨T,x,fe,hTx,hem,het,hec⟩:=Qi9 bs[i].e hop;have HE:=Qc (And.intro hem (And.intro het hec));rw[hTx]at d3;replace d0:=(FA.cell (p:=⟨g,i*4,none⟩) hg).trans d0;replace d1:=(FA.cell (p:=⟨g,i*4+1,none⟩) hg).trans d1;replace d2:=(FA.cell (p:=⟨g,i*4+2,none⟩) hg).trans d2;replace d3:=(FA.cell (p:=⟨g,i*4+3,none⟩) hg).trans d3;have FB:=(Below.refl wA.heap.size wA).alloc (Nat.le_refl _) (.cells #[.int .i64 bs[i].at_,.slice qc bs[i].chs.length cc,.slice pt bs[i].sts.length ct,.iface T x] 104);have HB:Hid (((wA.alloc (.cells #[.int .i64 bs[i].at_,.slice qc bs[i].chs.length cc,.slice pt bs[i].sts.length ct,.iface T x] 104)).heap[w.heap.size]?=some (.cells #[.slice (some ⟨g,0,none⟩) bs.length cp,.slice pa (Qx bs).length ca,.slice q bs.length d,.slice (some ⟨g,0,none⟩) bs.length cp] 87 (0,0))∧MdR w bx (trR (coF bs) f bs) (w.heap.size+1) i (wA.alloc (.cells #[.int .i64 bs[i].at_,.slice qc bs[i].chs.length cc,.slice pt bs[i].sts.length ct,.iface T x] 104)))
    ∧(wA.alloc (.cells #[.int .i64 bs[i].at_,.slice qc bs[i].chs.length cc,.slice pt bs[i].sts.length ct,.iface T x] 104)).heap[wA.heap.size]?=some (.cells #[.int .i64 bs[i].at_,.slice qc bs[i].chs.length cc,.slice pt bs[i].sts.length ct,.iface T x] 104 (0,0))):=⟨⟨by rw[FB.block _ (lt_of_block HS.o.1)];exact HS.o.1,HS.o.2.keeps FB⟩,heap_alloc_last _ _⟩
   have hzA:=lt_of_block HS.o.1;clear OC OS FA FB HS hem het hec hTx;have e0:=Qa HB.o.1.1 0;have e1:=Qa HB.o.1.1 1;have e2:=Qa HB.o.1.1 2;simp at e0 e1 e2;go_wp2_with fail;clear d0 d1 d2 d3 e0 e1 e2;generalize wA.alloc (.cells #[.int .i64 bs[i].at_,.slice qc bs[i].chs.length cc,.slice pt bs[i].sts.length ct,.iface T x] 104)=W1 at *;refine((H.o.keeps HB.o.1.2.f).reach hlt hn).mono ?_;rintro e w3 ⟨rfl,f3⟩;have H3:Hid ((w3.heap[w.heap.size]?=some (.cells #[.slice (some ⟨g,0,none⟩) bs.length cp,.slice pa (Qx bs).length ca,.slice q bs.length d,.slice (some ⟨g,0,none⟩) bs.length cp] 87 (0,0))∧MdR w bx (trR (coF bs) f bs) (w.heap.size+1) i w3)∧w3.heap[wA.heap.size]?=some (.cells #[.int .i64 bs[i].at_,.slice qc bs[i].chs.length cc,.slice pt bs[i].sts.length ct,.iface T x] 104 (0,0))):=⟨⟨by rw[f3.block _ (lt_of_block HB.o.1.1)];exact HB.o.1.1,HB.o.1.2.keeps f3⟩,by rw[f3.block _ (lt_of_block HB.o.2)];exact HB.o.2⟩;clear f3 HB;obtain⟨k,hk⟩:∃k,k=coF bs i:=⟨_,rfl⟩;rw[←hk];have HK:=Qc hk;clear hk
   cases k with
   | true=>
    go_wp2_with fail;rw[hT.out.en];unfold Oper.upon;refine(hT.out.run w3 i hlt H3.o.1.2.f).mono ?_;rintro e w4 ⟨vc,vt,rfl,HP⟩;have H4:Hid (w4.heap[w.heap.size]?=some (.cells #[.slice (some ⟨g,0,none⟩) bs.length cp,.slice pa (Qx bs).length ca,.slice q bs.length d,.slice (some ⟨g,0,none⟩) bs.length cp] 87 (0,0))∧MdR w bx (trR (coF bs) f bs) (w.heap.size+1) i w4):=⟨by rw[HP.o.2.block _ (lt_of_block H3.o.1.1)];exact H3.o.1.1,H3.o.1.2.keeps HP.o.2⟩;have hlt2:i<(trR (coF bs) f bs).length:=by rw[Zq];exact hlt
    obtain⟨u0,m0⟩:=H4.o.2.cell hlt2 0 (by omega);obtain⟨u1,m1⟩:=H4.o.2.cell hlt2 1 (by omega);obtain⟨u2,m2⟩:=H4.o.2.cell hlt2 2 (by omega);obtain⟨u3,m3⟩:=H4.o.2.cell hlt2 3 (by omega);obtain⟨cur,hcur⟩:=H4.o.2.blk;have n0:=Qf hcur (i*4);have n1:=Qf hcur (i*4+1);have n2:=Qf hcur (i*4+2);have n3:=Qf hcur (i*4+3);have R5:Hid ((QbV w4 (w.heap.size+1) i (.int .i64 0) vc vt (QP (f bs[i]).e)).heap[w.heap.size]?=some (.cells #[.slice (some ⟨g,0,none⟩) bs.length cp,.slice pa (Qx bs).length ca,.slice q bs.length d,.slice (some ⟨g,0,none⟩) bs.length cp] 87 (0,0))∧MdR w bx (trR (coF bs) f bs) (w.heap.size+1) (i+1) (QbV w4 (w.heap.size+1) i (.int .i64 0) vc vt (QP (f bs[i]).e))):=by
     have P:=H4.o.2.put hlt2 (c:=f bs[i]) (by rw[Wl hlt,if_pos HK.o.symm]) (Nat.le_refl _) HP.o.1 (hT.out.op _ hop);rw[hT.out.at_]at P;refine⟨?_,P⟩;unfold QbV;rw[Qu (by omega),Qu (by omega),Qu (by omega),Qu (by omega)];exact H4.o.1
    obtain⟨pc2,cc2,rfl⟩:=HP.o.1.1.slice;obtain⟨pt2,ct2,rfl⟩:=Qb HP.o.1.2;obtain⟨TE,xE,hE⟩:=QU (f bs[i]).e;rw[hE]at R5;rw[show QT (f bs[i]) (.slice pc2 (f bs[i]).chs.length cc2) (.slice pt2 (f bs[i]).sts.length ct2)=[.int .i64 0,.slice pc2 (f bs[i]).chs.length cc2,.slice pt2 (f bs[i]).sts.length ct2,.iface TE xE] by rw[QT,hE,hT.out.at_];rfl];unfold QbV at R5;clear hE hcur HP H3 H4 HK hlt2;simp only[Nat.add_zero]at m0;go_wp2_with fail;go_roundw
    case rel=>exact⟨i+1,by omega,by go_num,R5⟩
    case measure=>simp[intOf];omega
   | false=>
    have m3:=Qa H3.o.2 3;simp at m3;go_wp2_with fail;rw[HE.o.1,Result.andThen_ok];simp only[HE.o.2.1];unfold Oper.upon;refine(HE.o.2.2 w3).mono ?_;rintro e w4 ⟨rfl,f4⟩;have H4:Hid (w4.heap[w.heap.size]?=some (.cells #[.slice (some ⟨g,0,none⟩) bs.length cp,.slice pa (Qx bs).length ca,.slice q bs.length d,.slice (some ⟨g,0,none⟩) bs.length cp] 87 (0,0))∧MdR w bx (trR (coF bs) f bs) (w.heap.size+1) i w4):=⟨by rw[f4.block _ (lt_of_block H3.o.1.1)];exact H3.o.1.1,H3.o.1.2.keeps f4⟩;have hlt2:i<(trR (coF bs) f bs).length:=by rw[Zq];exact hlt
    obtain⟨u3,x3⟩:=H4.o.2.cell hlt2 3 (by omega);obtain⟨cur,hcur⟩:=H4.o.2.blk;have n3:=Qf hcur (i*4+3);have R5:Hid ((w4.setCell ⟨w.heap.size+1,i*4+3,none⟩ (QP (XH (fun _=>0) bs[i].e))).heap[w.heap.size]?=some (.cells #[.slice (some ⟨g,0,none⟩) bs.length cp,.slice pa (Qx bs).length ca,.slice q bs.length d,.slice (some ⟨g,0,none⟩) bs.length cp] 87 (0,0))∧MdR w bx (trR (coF bs) f bs) (w.heap.size+1) (i+1) (w4.setCell ⟨w.heap.size+1,i*4+3,none⟩ (QP (XH (fun _=>0) bs[i].e)))):=by
     refine⟨?_,H4.o.2.off hlt2 (b:=bs[i]) (by rw[Wl hlt,←HK.o];rfl) hop⟩;rw[Qu (by omega)];exact H4.o.1
    obtain⟨TE,xE,hE⟩:=QU (XH (fun _=>0) bs[i].e);rw[hE]at R5 ⊢;clear hE hcur f4 H3 H4 HK hlt2 m3;go_wp2_with fail;go_roundw
    case rel=>exact⟨i+1,by omega,by go_num,R5⟩
    case measure=>simp[intOf];omega
  ·have HF:=Qc (HS.o.2.all (by rw[Zq];omega));clear HS;go_wp2_with fail;go_ret;have:=HF.o;rw[Zq]at this;exact⟨_,rfl,this⟩
theorem QjE{w0 wr:World}{B:Nat}{c:Ql}{vc vt E:Value}(f:Below w0.heap.size w0 wr)(h:Ks wr B c vc vt)(hB:w0.heap.size≤B){R:Nat}{a b d e:Value}(hR:wr.heap[R]?=some (.cells #[a,b,d,e] 104 (0,0)))(hl:w0.heap.size≤R)(W:World)
  (hW:W=(((wr.setCell ⟨R,0,none⟩ (.int .i64 0)).setCell ⟨R,1,none⟩ vc).setCell ⟨R,2,none⟩ vt).setCell ⟨R,3,none⟩ E):
  W.cell? ⟨R,0,none⟩=some (.int .i64 0)∧W.cell? ⟨R,1,none⟩=some vc∧W.cell? ⟨R,2,none⟩=some vt∧W.cell? ⟨R,3,none⟩=some E∧Ks W w0.heap.size c vc vt∧Below w0.heap.size w0 W:=by
 subst hW;have b0:=Qp hR 0 (.int .i64 0);have b1:=Qp b0 1 vc;have b2:=Qp b1 2 vt;have b3:=Qp b2 3 E;have q0:=Qa b3 0;have q1:=Qa b3 1;have q2:=Qa b3 2;have q3:=Qa b3 3;simp at q0 q1 q2 q3;have K:∀(T:TypeId→Prop),¬T 104→Qs w0.heap.size T wr ((((wr.setCell ⟨R,0,none⟩ (.int .i64 0)).setCell ⟨R,1,none⟩ vc).setCell ⟨R,2,none⟩ vt).setCell ⟨R,3,none⟩ E):=fun T hT=>
  (((QI hR hT (.int .i64 0)).trans (QI b0 hT vc)).trans (QI b1 hT vt)).trans (QI b2 hT E)
 exact⟨q0,q1,q2,q3,⟨(X1.base h.1 hB).keeps (K (fun e=>e=147∨e=140) (by decide)) (.inl rfl) (.inr rfl),Qd (Qm h.2 hB) (K (fun e=>e=150) (by decide)) rfl⟩,Qr (Qr (Qr (Qr f _ _ _ hl) _ _ _ hl) _ _ _ hl) _ _ _ hl⟩
theorem Qf9(bs:List Ql)(st:Nat→Nat)(n base B B3 pn ps m bg bst bnm:Nat)(v va vu vs:Value)(w:World)(h:Grd w bs base B v va vu)(hs:StR w B3 n vs st)(hnm:NmI w n pn ps st)(hk:Hid (StK n st))(hm:Hid (MgK bs n st))(hlt:m<bs.length)(hel:Hid (bs[m].e.a.1<n))(hn:n≤100000)
  (hg:w.heap[bg]?=some (.cells #[v,va,vu,v] 87 (0,0)))(hst:w.cell? ⟨bst,0,none⟩=some vs)(hnmc:w.cell? ⟨bnm,0,none⟩=some (nmV pn ps)):
  Calls Tryz.prog 104 #[.int .i64 m,.pointer (some ⟨bg,0,none⟩),.pointer (some ⟨bst,0,none⟩),.pointer (some ⟨bnm,0,none⟩)] w fun e w'=>∃vc vt,e=.returned (.agg (QT (mgR (coF bs) st bs[m]) vc vt).toArray)∧Hid (Ks w' w.heap.size (mgR (coF bs) st bs[m]) vc vt∧Below w.heap.size w w'):=by
 obtain⟨⟨p,cp,rfl⟩,⟨pa,ca,rfl⟩,q,d,rfl⟩:=h.form;obtain⟨p2,c2,rfl⟩:=hs.slice;have H:=Qc (And.intro h (And.intro hs hnm));have k0:=Qa hg 0;have k1:=Qa hg 1;have k2:=Qa hg 2;have k3:=Qa hg 3;simp at k0 k1 k2 k3;have hbg:=lt_of_block hg;have hbs:=Kq hst;have hbn:=Kq hnmc;unfold nmV at hnmc;clear h hs hnm hg;go_enter Tryz.func104,Tryz.ntmps104;go_wp2_with fail;clear k0 k1 k2 k3 hst hnmc;have FA:=(Below.refl w.heap.size w).alloc (Nat.le_refl _) (.cells #[.int .i64 0,.slice none 0 0,.slice none 0 0,.nilIface] 104);have gA:=heap_alloc_last w (.cells #[.int .i64 0,.slice none 0 0,.slice none 0 0,.nilIface] 104);refine(Qdb bs st n base B B3 pn ps m _ _ _ _ _ (H.o.1.keeps FA) (H.o.2.1.keeps FA) (H.o.2.2.keeps FA) hk hm hlt hel hn).mono ?_;rintro e w1 ⟨vc,vt,rfl,HP⟩;have hz:w.heap.size<(w.alloc (.cells #[.int .i64 0,.slice none 0 0,.slice none 0 0,.nilIface] 104)).heap.size:=by rw[World.size_alloc];omega
 have g1:w1.heap[w.heap.size]?=some (.cells #[.int .i64 0,.slice none 0 0,.slice none 0 0,.nilIface] 104 (0,0)):=by rw[HP.o.2.block _ hz];exact gA
 obtain⟨pc2,cc2,rfl⟩:=HP.o.1.1.slice;obtain⟨pt2,ct2,rfl⟩:=Qb HP.o.1.2;obtain⟨TE,xE,hE⟩:=QU (mgR (coF bs) st bs[m]).e;have HF:=Qc (QjE (E:=.iface TE xE) (FA.trans (HP.o.2.mono FA.size)) HP.o.1 (Nat.le_of_lt hz) g1 (Nat.le_refl _));have HE:Hid (QT (mgR (coF bs) st bs[m]) (.slice pc2 (mgR (coF bs) st bs[m]).chs.length cc2) (.slice pt2 (mgR (coF bs) st bs[m]).sts.length ct2)=[.int .i64 0,.slice pc2 (mgR (coF bs) st bs[m]).chs.length cc2,.slice pt2 (mgR (coF bs) st bs[m]).sts.length ct2,.iface TE xE]):=by show _=_;rw[QT,hE];rfl
 rw[HE.o];have n0:=Qa g1 0;have n1:=Qa g1 1;have n2:=Qa g1 2;have n3:=Qa g1 3;have nf0:=Qf g1 0;have nf1:=Qf g1 1;have nf2:=Qf g1 2;have nf3:=Qf g1 3;simp at n0 n1 n2 n3;clear FA gA g1 hE HP hz;go_wp2_with fail;obtain⟨W9,hW9⟩:∃W9,W9=(((w1.setCell ⟨w.heap.size,0,none⟩ (.int .i64 0)).setCell ⟨w.heap.size,1,none⟩ (.slice pc2 (mgR (coF bs) st bs[m]).chs.length cc2)).setCell ⟨w.heap.size,2,none⟩ (.slice pt2 (mgR (coF bs) st bs[m]).sts.length ct2)).setCell ⟨w.heap.size,3,none⟩ (.iface TE xE):=⟨_,rfl⟩;obtain⟨q0,q1,q2,q3,hc,hf⟩:=HF.o _ hW9;rw[←hW9];refine bodyPost_ret (v:=.agg #[.int .i64 0,.slice pc2 (mgR (coF bs) st bs[m]).chs.length cc2,.slice pt2 (mgR (coF bs) st bs[m]).sts.length ct2,.iface TE xE]) (by simp[results,Tryz.results104,go_sem,q0,q1,q2,q3]) rfl ⟨_,_,?_,hc,hf⟩;rw[HE.o]
theorem Qhe{bs:List Ql}{st:Nat→Nat}{n base B B3 pn ps bg bst bnm:Nat}{v va vu vs:Value}{w:World}(h:Grd w bs base B v va vu)(hs:StR w B3 n vs st)(hnm:NmI w n pn ps st)(hk:Hid (StK n st))(hm:Hid (MgK bs n st))(hel:∀b∈bs,b.e.a.1<n)(hn:n≤100000)
  (hg:w.heap[bg]?=some (.cells #[v,va,vu,v] 87 (0,0)))(hst:w.cell? ⟨bst,0,none⟩=some vs)(hnmc:w.cell? ⟨bnm,0,none⟩=some (nmV pn ps)):
  Qe1 bs w w.heap.size 104 #[.pointer (some ⟨bg,0,none⟩),.pointer (some ⟨bst,0,none⟩),.pointer (some ⟨bnm,0,none⟩)] (mgR (coF bs) st):=by
 refine⟨enters_of Tryz.func104 (by kernel_rfl) rfl,fun _=>rfl,fun b hb=>?_,fun wr m hm2 F=>?_⟩
 ·show (XH (nm st) b.e).op=46∨(XH (nm st) b.e).op=62∨(XH (nm st) b.e).op=63;unfold XH;split<;>exact hb
 ·refine Calls.mono (Qf9 bs st n base B B3 pn ps m bg bst bnm v va vu vs wr (h.keeps F) (hs.keeps F) (hnm.keeps F) hk hm hm2 (hel _ (List.getElem_mem hm2)) hn (by rw[F.block _ (lt_of_block hg)];exact hg) ((F.cell (p:=⟨bst,0,none⟩) (Kq hst)).trans hst) ((F.cell (p:=⟨bnm,0,none⟩) (Kq hnmc)).trans hnmc)) ?_;rintro e w2 ⟨vc,vt,rfl,HP⟩;exact⟨vc,vt,rfl,⟨X1.base HP.o.1.1 F.size,Qm HP.o.1.2 F.size⟩,HP.o.2⟩
structure LnK(bs:List Ql):Prop where
 rd:Kr bs
 pk:POk (absP bs)
 sg:Sgl (absP bs)
 ch:∀b∈bs,∀c∈b.chs,Ga 5000 bs.length c
 st:∀b∈bs,∀t∈b.sts,StLow 5000 t
 e:∀b∈bs,b.e.a.1<5000
 cl:∀b∈bs,b.chs.length≤1000000
 sl:∀b∈bs,b.sts.length≤1000000
theorem LnK.stk{bs}(h:LnK bs){st:Nat→Nat}(hs:SOk (absP bs) st):StK 5000 st:=
 ⟨fun r _=>hs.rtUp r,fun _ hx=>hs.low h.pk hx,fun _ hx=>hs.rlow h.pk hx⟩
theorem LnK.mgk{bs}(h:LnK bs){st:Nat→Nat}(hs:SOk (absP bs) st):MgK bs 5000 st:=
 ⟨h.rd,fun _ hl=>h.stk (Uc h.pk h.sg (QW h.rd) _ hs hl),h.ch,h.st,h.cl,h.sl⟩
theorem LnK.all{bs}(h:LnK bs):Qg9 bs 5000:=
 ⟨fun _ hs=>h.mgk hs,fun _ hs _ hr=>hs.high h.pk hr,fun _ hs=>hs.mg h.pk h.sg (QW h.rd),fun _ hs hne=>Qf5 h.pk h.sg (QW h.rd) hs hne⟩
theorem Grd.set{w bs base B v va vu}(h:Grd w bs base B v va vu){R o:Nat}{cur:Array Value}(hR:w.heap[R]?=some (.cells cur 87 (0,0)))(x:Value):Grd (w.setCell ⟨R,o,none⟩ x) bs base B v va vu:=by
 obtain⟨a,b,us,c,d⟩:=h;exact⟨a.keeps (QI hR (by simp[T7]) x),Qd b (QI (T:=fun e=>e=143∨e=82) hR (by decide) x) (.inl rfl),us,Qd c (QI (T:=fun e=>e=143∨e=82) hR (by decide) x) (.inr rfl),fun k u hu=>Qd (d k u hu) (QI (T:=fun e=>e=143∨e=82) hR (by decide) x) (.inl rfl)⟩
theorem Qbc(bs:List Ql)(base:Nat)(v:Value)(w:World)(h:PBs w base bs v)(hr:Kr bs):
  Calls Tryz.prog 40 #[v] w fun x w'=>∃va vu,x=.returned (.agg #[v,va,vu,v])∧Hid (Grd w' bs base w.heap.size v va vu∧Below w.heap.size w w'):=by
 obtain⟨p,c,rfl⟩:=h.slice;have H:=Qc h;clear h;go_enter Tryz.func40,Tryz.ntmps40;go_wp2_with fail;have FA:=(Below.refl w.heap.size w).alloc (Nat.le_refl _) (.cells #[.slice none 0 0,.slice none 0 0,.slice none 0 0,.slice none 0 0] 87);have gA:=heap_alloc_last w (.cells #[.slice none 0 0,.slice none 0 0,.slice none 0 0,.slice none 0 0] 87);have hz:w.heap.size<(w.alloc (.cells #[.slice none 0 0,.slice none 0 0,.slice none 0 0,.slice none 0 0] 87)).heap.size:=by rw[World.size_alloc];omega
 refine(Qdp bs base _ _ (H.o.keeps (Qs.below FA)) hr.goals hr.pos (by have:=hr.le;omega)).mono ?_;rintro e w1 ⟨va,vu,rfl,oa,ou,f1⟩;have g1:w1.heap[w.heap.size]?=some (.cells #[.slice none 0 0,.slice none 0 0,.slice none 0 0,.slice none 0 0] 87 (0,0)):=by rw[f1.block _ hz];exact gA
 have F1:=FA.trans (f1.mono FA.size);obtain⟨pa,ca,rfl⟩:=Qb oa;obtain⟨q,d,rfl⟩:=ou.slice;have HG:Hid (Grd w1 bs base w.heap.size (.slice p bs.length c) (.slice pa (Qx bs).length ca) (.slice q bs.length d)∧Below w.heap.size w w1):=⟨⟨H.o.keeps (Qs.below F1),Qm oa (Nat.le_of_lt hz),ou.base (Nat.le_of_lt hz)⟩,F1⟩;have n0:=Qa g1 0;have n1:=Qa g1 1;have n2:=Qa g1 2;have n3:=Qa g1 3;have nf0:=Qf g1 0;have nf1:=Qf g1 1;have nf2:=Qf g1 2;have nf3:=Qf g1 3;simp at n0 n1 n2 n3;have HF:Hid (∀W,W=(((w1.setCell ⟨w.heap.size,0,none⟩ (.slice p bs.length c)).setCell ⟨w.heap.size,1,none⟩ (.slice pa (Qx bs).length ca)).setCell ⟨w.heap.size,2,none⟩ (.slice q bs.length d)).setCell ⟨w.heap.size,3,none⟩ (.slice p bs.length c)→(W.cell? ⟨w.heap.size,0,none⟩=some (.slice p bs.length c)∧W.cell? ⟨w.heap.size,1,none⟩=some (.slice pa (Qx bs).length ca)∧W.cell? ⟨w.heap.size,2,none⟩=some (.slice q bs.length d)∧W.cell? ⟨w.heap.size,3,none⟩=some (.slice p bs.length c))∧Grd W bs base w.heap.size (.slice p bs.length c) (.slice pa (Qx bs).length ca) (.slice q bs.length d)∧Below w.heap.size w W):=by
  rintro W rfl;have b0:=Qp g1 0 (.slice p bs.length c);have b1:=Qp b0 1 (.slice pa (Qx bs).length ca);have b2:=Qp b1 2 (.slice q bs.length d);have b3:=Qp b2 3 (.slice p bs.length c);have q0:=Qa b3 0;have q1:=Qa b3 1;have q2:=Qa b3 2;have q3:=Qa b3 3;simp at q0 q1 q2 q3;exact⟨⟨q0,q1,q2,q3⟩,(((HG.o.1.set g1 _).set b0 _).set b1 _).set b2 _,Qr (Qr (Qr (Qr HG.o.2 _ _ _ (Nat.le_refl _)) _ _ _ (Nat.le_refl _)) _ _ _ (Nat.le_refl _)) _ _ _ (Nat.le_refl _)⟩
 clear FA gA oa ou f1 F1 hz H g1 HG;go_wp2_with fail;obtain⟨W9,hW9⟩:∃W9,W9=(((w1.setCell ⟨w.heap.size,0,none⟩ (.slice p bs.length c)).setCell ⟨w.heap.size,1,none⟩ (.slice pa (Qx bs).length ca)).setCell ⟨w.heap.size,2,none⟩ (.slice q bs.length d)).setCell ⟨w.heap.size,3,none⟩ (.slice p bs.length c):=⟨_,rfl⟩;obtain⟨⟨q0,q1,q2,q3⟩,HW⟩:=HF.o _ hW9;rw[←hW9];refine bodyPost_ret (v:=.agg #[.slice p bs.length c,.slice pa (Qx bs).length ca,.slice q bs.length d,.slice p bs.length c]) (by simp[results,Tryz.results40,go_sem,q0,q1,q2,q3]) rfl ⟨_,_,rfl,HW⟩
theorem Rw{P:Program}(w:World)(t:TypeId)(v0 v:Value)(h:v.oneCell'=true):(store ⟨w.heap.size,0,none⟩ v .plain).run P (w.alloc (.cells #[v0] t))=.ok () (w.alloc (.cells #[v] t)):=by
 rw[run_store _ _ _ _ _ h];have f:=Qf (heap_alloc_last w (.cells #[v0] t)) 0;have c:=Qa (heap_alloc_last w (.cells #[v0] t)) 0;rw[c];simp only[List.getElem?_toArray,List.getElem?_cons_zero,f];simp[go_sem]
structure MgL(w0:World)(ob:Obj)(k:Nat)(wr:World):Prop where
 b:wr.heap[w0.heap.size]?=some ob
 r:∃f,StR wr w0.heap.size 5000 (.slice (some ⟨w0.heap.size+1,0,none⟩) 5000 5000) f∧∀r,r<k→f r=r
 f:Below w0.heap.size w0 wr
theorem MgL.set{w0 ob k wr}(h:MgL w0 ob k wr)(hk:k<5000):MgL w0 ob (k+1) (wr.setCell ⟨w0.heap.size+1,k,none⟩ (.int .i64 k)):=by
 obtain⟨b,⟨f,r,e⟩,F⟩:=h;refine⟨by rw[Qu (by omega)];exact b,⟨Xo f k k,?_,fun x hx=>?_⟩,Qr F _ _ _ (Nat.le_succ _)⟩
 ·have:=(r.stored k (.int .i64 k)).1;rw[Gq hk]at this;exact this
 ·by_cases h:x=k
  ·rw[h,Q4]
  ·rw[Zb h];exact e x (by omega)
theorem MgL.all{w0 ob wr}(h:MgL w0 ob 5000 wr):StR wr w0.heap.size 5000 (.slice (some ⟨w0.heap.size+1,0,none⟩) 5000 5000) (fun r=>r):=by
 obtain⟨b,⟨f,r,e⟩,F⟩:=h;have:stL 5000 f=stL 5000 (fun r=>r):=List.map_congr_left fun x hx=>e x (List.mem_range.1 hx);unfold StR at r ⊢;rw[←this];exact r
theorem Qh6(bs:List Ql)(base B:Nat)(v va vu:Value)(w:World)(h:Grd w bs base B v va vu)(hk:Hid (LnK bs)):
  Calls Tryz.prog 64 #[.agg #[v,va,vu,v],.int .i64 4999] w fun x w'=>∃v' st,x=.returned v'∧Hid (PBs w' w.heap.size (trR (coF bs) (mgR (coF bs) st) bs) v'∧SOk (absP bs) st∧mgF (absP bs) (coF bs) st=st∧Below w.heap.size w w'):=by
 obtain⟨⟨p,cp,rfl⟩,⟨pa,ca,rfl⟩,q,d,rfl⟩:=h.form;have H:=Qc h;clear h;obtain⟨I9,Hi9,Hz9,Hs9,Hb9⟩:=info_parts Tryz.info78;go_enter Tryz.func64,Tryz.ntmps64;go_wp2_with (at_make;refine Qv ?_);refine Qc ?_;refine wpList_make_full _ rfl _ _ 208 rfl w.heap.size 78 I9 (.int .i64 0) 1 Tryz.underlying208 Hi9 Hz9 Hs9 .i64 .i64 _ _ 5000 rfl rfl rfl rfl (by rw[Hb9];omega) (by unfold maxLen;omega) (by simp) ?_;intro w1 o1 g1;rw[Y9 _ rfl,←Ry,World.size_alloc]at o1;have z1:=g1.size;rw[World.size_alloc]at z1;have F1:=Below.grown ((Below.refl w.heap.size w).alloc (Nat.le_refl _) (.cells #[.slice p bs.length cp,.slice pa (Qx bs).length ca,.slice q bs.length d,.slice p bs.length cp] 87)) g1 (by simp) (fun k hk=>by cases hk);have b0:w1.heap[w.heap.size]?=some (.cells #[.slice p bs.length cp,.slice pa (Qx bs).length ca,.slice q bs.length d,.slice p bs.length cp] 87 (0,0)):=by
  rw[g1.block _ (by simp) (fun h=>by cases h)];exact heap_alloc_last _ _
 have O1:Hid (MgL w (.cells #[.slice p bs.length cp,.slice pa (Qx bs).length ca,.slice q bs.length d,.slice p bs.length cp] 87 (0,0)) 0 w1):=⟨b0,⟨_,o1,fun r hr=>absurd hr (by omega)⟩,F1⟩;rw[World.size_alloc];have hwz:w.heap.size+1<w1.heap.size:=by
  obtain⟨g',e,_,hlt⟩:=Qh o1 (by omega);cases e;exact hlt
 clear g1 Hi9 Hz9 Hs9 Hb9 o1 F1 b0;go_wp2_with fail
 go_loopw [14] (fun ii wr=>∃i:Nat,i≤5000∧ii=.int .i64 i∧Hid (MgL w (.cells #[.slice p bs.length cp,.slice pa (Qx bs).length ca,.slice q bs.length d,.slice p bs.length cp] 87 (0,0)) i wr)) (fun ii _=>5000-(intOf ii).toNat)
 case atStart=>exact⟨0,by omega,rfl,O1⟩
 case round=>
  clear O1 hwz;obtain⟨i,hi,rfl,HS⟩:=hrel;rename World=>wA;by_cases hlt:i<5000
  ·obtain⟨cx,cf⟩:(∃x,wA.cell? ⟨w.heap.size+1,i,none⟩=some x)∧wA.frozen? ⟨w.heap.size+1,i,none⟩=false:=by
    obtain⟨f,r,_⟩:=HS.o.r;exact⟨⟨_,Qe r (JH (st:=f) hlt)⟩,XE r i⟩
   obtain⟨cx,hc⟩:=cx;have HN:=Qc (HS.o.set hlt);clear HS;go_wp2_with fail;go_roundw
   case rel=>exact⟨i+1,by omega,by go_num,HN⟩
   case measure=>simp[intOf];omega
  ·have hie:i=5000:=by omega
   have k0:=Qa HS.o.b 0;have k1:=Qa HS.o.b 1;have k2:=Qa HS.o.b 2;have k3:=Qa HS.o.b 3;simp at k0 k1 k2 k3;have HM:Hid (StR wA w.heap.size 5000 (.slice (some ⟨w.heap.size+1,0,none⟩) 5000 5000) (fun r=>r)∧wA.heap[w.heap.size]?=some (.cells #[.slice p bs.length cp,.slice pa (Qx bs).length ca,.slice q bs.length d,.slice p bs.length cp] 87 (0,0))∧Below w.heap.size w wA):=by
    rw[hie]at HS;exact⟨HS.o.all,HS.o.b,HS.o.f⟩
   have hbA:=lt_of_block HS.o.b;have HA:=Qc hk.out.all;clear HS hie;go_wp2_with fail;clear k0 k1 k2 k3;refine(Qfq bs (fun r=>r) 5000 base B w.heap.size _ _ _ _ wA (H.o.keeps HM.o.2.2) HM.o.1 HA (SOk.start _) (by omega) (by omega)).mono ?_;rintro e w2 ⟨v2,st,rfl,H2⟩;have F2:=HM.o.2.2.trans (H2.o.2.2.2.mono HM.o.2.2.size);obtain⟨p2,c2,rfl⟩:=H2.o.1.slice;have b2:w2.heap[w.heap.size]?=some (.cells #[.slice p bs.length cp,.slice pa (Qx bs).length ca,.slice q bs.length d,.slice p bs.length cp] 87 (0,0)):=by rw[H2.o.2.2.2.block _ hbA];exact HM.o.2.1
   have HX:Hid (SOk (absP bs) st∧mgF (absP bs) (coF bs) st=st):=⟨H2.o.2.1,H2.o.2.2.1⟩;have HK:=Qc (hk.out.stk H2.o.2.1);have HMK:=Qc (hk.out.mgk H2.o.2.1);have H3:Hid (StR w2 w.heap.size 5000 (.slice p2 5000 c2) st∧w2.heap[w.heap.size]?=some (.cells #[.slice p bs.length cp,.slice pa (Qx bs).length ca,.slice q bs.length d,.slice p bs.length cp] 87 (0,0))∧Below w.heap.size w w2):=⟨Qm H2.o.1 HM.o.2.2.size,b2,F2⟩;clear H2 b2 F2 HM hbA HA;go_wp2_with fail;have FB:=(Below.refl w2.heap.size w2).alloc (Nat.le_refl _) (.cells #[.slice p2 5000 c2] 208);have gB:=heap_alloc_last w2 (.cells #[.slice p2 5000 c2] 208);have H4:Hid ((StR (w2.alloc (.cells #[.slice p2 5000 c2] 208)) w.heap.size 5000 (.slice p2 5000 c2) st∧(w2.alloc (.cells #[.slice p2 5000 c2] 208)).heap[w.heap.size]?=some (.cells #[.slice p bs.length cp,.slice pa (Qx bs).length ca,.slice q bs.length d,.slice p bs.length cp] 87 (0,0))∧Below w.heap.size w (w2.alloc (.cells #[.slice p2 5000 c2] 208)))∧(w2.alloc (.cells #[.slice p2 5000 c2] 208)).heap[w2.heap.size]?=some (.cells #[.slice p2 5000 c2] 208 (0,0))):=
    ⟨⟨H3.o.1.keeps FB,by rw[FB.block _ (lt_of_block H3.o.2.1)];exact H3.o.2.1,H3.o.2.2.trans (FB.mono H3.o.2.2.size)⟩,gB⟩
   generalize w2.alloc (.cells #[.slice p2 5000 c2] 208)=W2 at *;clear FB gB H3;refine(QbZ st 5000 w.heap.size _ _ H4.o.1.1 HK (by omega) (by omega)).mono ?_;rintro e w3 ⟨pn,ps,rfl,n3,f3⟩;have H5:Hid (((StR w3 w.heap.size 5000 (.slice p2 5000 c2) st∧w3.heap[w.heap.size]?=some (.cells #[.slice p bs.length cp,.slice pa (Qx bs).length ca,.slice q bs.length d,.slice p bs.length cp] 87 (0,0))∧Below w.heap.size w w3)∧w3.heap[w2.heap.size]?=some (.cells #[.slice p2 5000 c2] 208 (0,0)))∧NmI w3 5000 pn ps st):=
    ⟨⟨⟨H4.o.1.1.keeps f3,by rw[f3.block _ (lt_of_block H4.o.1.2.1)];exact H4.o.1.2.1,H4.o.1.2.2.trans (f3.mono H4.o.1.2.2.size)⟩,by rw[f3.block _ (lt_of_block H4.o.2)];exact H4.o.2⟩,n3⟩
   have j0:=Qa H5.o.1.1.2.1 0;have j1:=Qa H5.o.1.1.2.1 1;have j2:=Qa H5.o.1.1.2.1 2;have j3:=Qa H5.o.1.1.2.1 3;simp at j0 j1 j2 j3;have hbA:=lt_of_block H5.o.1.1.2.1;clear f3 n3 H4;go_wp2_with fail;rw[Rw w3 172 _ _ rfl];go_wp2_with fail;have FC:=(Below.refl w3.heap.size w3).alloc (Nat.le_refl _) (.cells #[.func (.func 153) #[] #[.pointer (some ⟨pn,0,none⟩),.pointer (some ⟨ps,0,none⟩)]] 172);have gC:=heap_alloc_last w3 (.cells #[.func (.func 153) #[] #[.pointer (some ⟨pn,0,none⟩),.pointer (some ⟨ps,0,none⟩)]] 172);have x5:(w3.alloc (.cells #[.func (.func 153) #[] #[.pointer (some ⟨pn,0,none⟩),.pointer (some ⟨ps,0,none⟩)]] 172)).cell? ⟨w3.heap.size,0,none⟩=some (nmV pn ps):=Qa gC 0;have b5:=Qc (Qj H5.o.1.2 (.cells #[.func (.func 153) #[] #[.pointer (some ⟨pn,0,none⟩),.pointer (some ⟨ps,0,none⟩)]] 172));have x6:=Qa b5.out 0;simp at x6;have F5:=H5.o.1.1.2.2.trans (FC.mono H5.o.1.1.2.2.size);have hT:=Qhe (bst:=w2.heap.size) (bnm:=w3.heap.size) (H.o.keeps F5) (H5.o.1.1.1.keeps FC) (H5.o.2.keeps FC) HK HMK hk.out.e (by omega) (Qj H5.o.1.1.2.1 _) x6 x5;refine(QaG bs _ 104 _ _ base B _ _ _ _ (H.o.keeps F5) hT (Nat.le_refl _) (by have:=hk.out.rd.le;omega)).mono ?_;rintro e w4 ⟨v4,rfl,H6⟩;have HR:Hid (PBs w4 w.heap.size (trR (coF bs) (mgR (coF bs) st) bs) v4∧Below w.heap.size w w4):=⟨H6.o.1.base F5.size,F5.trans (H6.o.2.mono F5.size)⟩;clear H6 hT F5 x6 x5 gC FC b5 H5 j0 j1 j2 j3;go_wp2_with fail;go_ret;exact⟨_,st,rfl,HR.o.1,HX.o.1,HX.o.2,HR.o.2⟩
theorem Tryz.info203:(Tryz.prog.info? 203).map (fun i=>(i.zero,i.size,i.bytes))=some (some (.agg #[.int .i64 0,.int .i64 0,.int .i64 0,.int .i64 0]),4,32):=by kernel_rfl
def QJ(l:List Use):List Value:=l.flatMap fun u=>[.int .i64 u.n,.int .i64 u.p,.int .i64 u.b,.int .i64 u.s]
theorem Kv(l m:List Use):QJ (l++m)=QJ l++QJ m:=by rw[QJ,QJ,QJ,List.flatMap_append]
theorem KZ{l:List Use}{j:Nat}(hj:j<l.length):(QJ l)[j*4]?=some (.int .i64 l[j].n)∧(QJ l)[j*4+1]?=some (.int .i64 l[j].p)∧(QJ l)[j*4+2]?=some (.int .i64 l[j].b)∧(QJ l)[j*4+3]?=some (.int .i64 l[j].s):=by
 have F:=fun k hk=>ZS 4 (l.map fun u:Use=>[Value.int .i64 u.n,.int .i64 u.p,.int .i64 u.b,.int .i64 u.s]) j k [.int .i64 l[j].n,.int .i64 l[j].p,.int .i64 l[j].b,.int .i64 l[j].s] (fun x hx=>by obtain⟨y,_,rfl⟩:=List.mem_map.1 hx;rfl) (by simp[hj]) hk;rw[QJ,List.flatMap_def];exact⟨F 0 (by omega),F 1 (by omega),F 2 (by omega),F 3 (by omega)⟩
theorem Np(bs:List Ql)(base:Nat)(v:Value)(w:World)(hP:PBs w base bs v)(hf:Hid (∀b∈bs,ZG 1000000 b))(hn:bs.length≤1000):
  Calls Tryz.prog 97 #[v] w fun x w'=>∃v',x=.returned v'∧Hid (w'.ownsRow w.heap.size 203 4 v' (gvU bs).length (QJ (gvU bs))∧(gvU bs).length≤100000000000∧Below w.heap.size w w'):=by
 obtain⟨pv,cv,rfl⟩:=hP.slice;have HP:=Qc hP;clear hP;go_enter Tryz.func97,Tryz.ntmps97;go_wp2_with fail
 go_loopw [3,15] (fun o i wr=>∃(m:Nat)(L:List Use),m≤bs.length∧i=.int .i64 m∧Hid (L=VW bs m)∧L.length≤3000000*m∧wr.ownsRow w.heap.size 203 4 o L.length (QJ L)∧Hid (Below w.heap.size w wr)) (fun _ i _=>bs.length-(intOf i).toNat)
 case atStart=>exact⟨0,[],by omega,rfl,rfl,by simp,World.ownsRow_nil _ _ _ _,Below.refl _ _⟩
 case round=>
  obtain⟨m,L,hm,rfl,HL,hll,OL,F⟩:=hrel;rename World=>wA;obtain⟨pl,cl,rfl⟩:=Qb OL;have hz:=F.o.size;have OLH:=Qc OL;clear OL;by_cases hlt:m<bs.length
  ·have HFM:=Qc (hf.out _ (List.getElem_mem hlt));have hcl:=HFM.o.cl;have hsl:=HFM.o.sl;have HBK:=Qc (Zt hlt);obtain⟨gv,qc,cc,ps,cs1,rfl,_,hgv,hop,OC,OS,d0,d1,d2,d3⟩:=HP.o.at hlt;have HOC:=Qc (And.intro OC OS);obtain⟨T,x,hT⟩:=QU bs[m].e;rw[hT]at d3;replace d0:=(F.o.cell (p:=⟨gv,m*4,none⟩) hgv).trans d0;replace d1:=(F.o.cell (p:=⟨gv,m*4+1,none⟩) hgv).trans d1;replace d2:=(F.o.cell (p:=⟨gv,m*4+2,none⟩) hgv).trans d2;replace d3:=(F.o.cell (p:=⟨gv,m*4+3,none⟩) hgv).trans d3;have gW:=heap_alloc_last wA (.cells #[.int .i64 bs[m].at_,.slice qc bs[m].chs.length cc,.slice ps bs[m].sts.length cs1,.iface T x] 104);have HW:Hid ((wA.alloc (.cells #[.int .i64 bs[m].at_,.slice qc bs[m].chs.length cc,.slice ps bs[m].sts.length cs1,.iface T x] 104)).heap[wA.heap.size]?=some (.cells #[.int .i64 bs[m].at_,.slice qc bs[m].chs.length cc,.slice ps bs[m].sts.length cs1,.iface T x] 104 (0,0))∧Below w.heap.size w (wA.alloc (.cells #[.int .i64 bs[m].at_,.slice qc bs[m].chs.length cc,.slice ps bs[m].sts.length cs1,.iface T x] 104))∧(wA.alloc (.cells #[.int .i64 bs[m].at_,.slice qc bs[m].chs.length cc,.slice ps bs[m].sts.length cs1,.iface T x] 104)).ownsRow w.heap.size 203 4 (.slice pl L.length cl) L.length (QJ L)):=⟨gW,F.o.alloc hz _,OLH.o.alloc _⟩;clear hop OC OS hT gW;go_wp2_with fail;clear d0 d1 d2 d3;generalize wA.alloc (.cells #[.int .i64 bs[m].at_,.slice qc bs[m].chs.length cc,.slice ps bs[m].sts.length cs1,.iface T x] 104)=W at *
   go_loopw [3,24] (fun o i wr=>∃(q:Nat)(L2:List Use),q≤bs[m].chs.length∧i=.int .i64 q∧Hid (L2=L++(bs[m].chs.take q).map (chU m))∧L2.length≤3000000*m+q∧wr.ownsRow w.heap.size 203 4 o L2.length (QJ L2)∧Hid (Below w.heap.size w wr∧wr.heap[wA.heap.size]?=some (.cells #[.int .i64 bs[m].at_,.slice qc bs[m].chs.length cc,.slice ps bs[m].sts.length cs1,.iface T x] 104 (0,0)))) (fun _ i _=>bs[m].chs.length-(intOf i).toNat)
   case atStart=>exact⟨0,L,by omega,rfl,by simp[Hid],by omega,HW.o.2.2,HW.o.2.1,HW.o.1⟩
   case round=>
    obtain⟨q,L2,hq,rfl,HL2,hl2,OL2,F2⟩:=hrel;rename World=>wB;obtain⟨pl2,cl2,rfl⟩:=Qb OL2;have hz2:=F2.o.1.size;have OL2H:=Qc OL2;clear OL2;by_cases hql:q<bs[m].chs.length
    ·obtain⟨gc,pu,cu,rfl,_,_,hgr,_,e0,e1,e2⟩:=(HOC.o.1.keeps (Qi F2.o.1) trivial trivial).at hql;clear hgr;have HL3:Hid (L2++[chU m bs[m].chs[q]]=L++(bs[m].chs.take (q+1)).map (chU m)):=by
      show _=_;rw[HL2.o,List.take_succ_eq_append_getElem hql,List.map_append,List.append_assoc];rfl
     have OLW:=Qc (OL2H.o.alloc (.cells #[.int .i64 bs[m].chs[q].to.1,.int .i64 bs[m].chs[q].to.2,.slice pu bs[m].chs[q].gs.length cu] 140));have FW:=Qc (And.intro (F2.o.1.alloc hz2 (.cells #[.int .i64 bs[m].chs[q].to.1,.int .i64 bs[m].chs[q].to.2,.slice pu bs[m].chs[q].gs.length cu] 140)) (Qj F2.o.2 (.cells #[.int .i64 bs[m].chs[q].to.1,.int .i64 bs[m].chs[q].to.2,.slice pu bs[m].chs[q].gs.length cu] 140)));have gW3:=heap_alloc_last wB (.cells #[.int .i64 bs[m].chs[q].to.1,.int .i64 bs[m].chs[q].to.2,.slice pu bs[m].chs[q].gs.length cu] 140);clear gW3;go_wp2_with (at_builtin;refine Qv ?_);refine Qc ?_;have gB:=heap_alloc_last (wB.alloc (.cells #[.int .i64 bs[m].chs[q].to.1,.int .i64 bs[m].chs[q].to.2,.slice pu bs[m].chs[q].gs.length cu] 140)) (.cells #[.int .i64 bs[m].chs[q].to.1,.int .i64 bs[m].chs[q].to.2,.int .i64 m,.int .i64 (-1)] 203);have OB:=OLW.o.alloc (.cells #[.int .i64 bs[m].chs[q].to.1,.int .i64 bs[m].chs[q].to.2,.int .i64 m,.int .i64 (-1)] 203);rw[World.size_alloc]at gB;refine KT Tryz.underlying198 Tryz.info203 rfl (by decide) (by decide) rfl _ _ rfl rfl OB gB rfl rfl (List.all_eq_true.1 rfl) (by omega) (by simp;omega) ?_;intro v3 w3 oS gS;obtain⟨v3p,v3c,rfl⟩:=Qb oS;have F3:Hid (Below w.heap.size w w3∧w3.heap[wA.heap.size]?=some (.cells #[.int .i64 bs[m].at_,.slice (some ⟨gc,0,none⟩) bs[m].chs.length cc,.slice ps bs[m].sts.length cs1,.iface T x] 104 (0,0))):=⟨Below.grown (FW.o.1.alloc (by rw[World.size_alloc];omega) (.cells #[.int .i64 bs[m].chs[q].to.1,.int .i64 bs[m].chs[q].to.2,.int .i64 m,.int .i64 (-1)] 203)) gS (by simp;omega) (fun j hj=>by have:=(OB.lt j hj).1;omega),Qz gS (Qj FW.o.2 _) (fun j hj e=>Qw OLW.o FW.o.2 (by decide) (by subst e;exact hj))⟩;have O3:Hid (w3.ownsRow w.heap.size 203 4 (.slice v3p (L2.length+1) v3c) (L2++[chU m bs[m].chs[q]]).length (QJ (L2++[chU m bs[m].chs[q]]))):=by
      show World.ownsRow _ _ _ _ _ _ _;rw[Kv,List.length_append];exact oS
     clear gS gB OB oS;go_wp2_with fail;go_roundw
     case rel=>exact⟨q+1,L2++[chU m bs[m].chs[q]],by omega,by go_num,HL3,by rw[List.length_append,List.length_singleton];omega,O3.o,F3⟩
     case measure=>simp[intOf];omega
    ·have hqe:q=bs[m].chs.length:=by omega
     have HL3:Hid (L2=L++bs[m].chs.map (chU m)):=by show _=_;rw[HL2.o,hqe,List.take_length]
     have b2:=Qa F2.o.2 2;simp at b2;clear hqe HL2;go_wp2_with fail;clear b2
     go_loopw [3,40] (fun o i wr=>∃(k:Nat)(L4:List Use),k≤bs[m].sts.length∧i=.int .i64 k∧Hid (L4=L2++(List.range k).flatMap (stU bs[m] m))∧L4.length≤3000000*m+1000000+k∧wr.ownsRow w.heap.size 203 4 o L4.length (QJ L4)∧Hid (Below w.heap.size w wr∧wr.heap[wA.heap.size]?=some (.cells #[.int .i64 bs[m].at_,.slice qc bs[m].chs.length cc,.slice ps bs[m].sts.length cs1,.iface T x] 104 (0,0)))) (fun _ i _=>bs[m].sts.length-(intOf i).toNat)
     case atStart=>exact⟨0,L2,by omega,rfl,by simp[Hid],by omega,OL2H.o,F2⟩
     case round=>
      obtain⟨k,L4,hk,rfl,HL4,hl4,OL4,F4⟩:=hrel;rename World=>wC;obtain⟨pl4,cl4,rfl⟩:=Qb OL4;have hz4:=F4.o.1.size;have OL4H:=Qc OL4;clear OL4;by_cases hkl:k<bs[m].sts.length
      ·have OSC:=Qd HOC.o.2 (Qi F4.o.1) trivial;obtain⟨gs,rfl,_,_⟩:=Qh OSC (by omega);obtain⟨T2,x2,fr,fg,hsv,_,_,_,hgm,hgt,hgc⟩:=Rx bs[m].sts[k];have cS:=Qe OSC (j:=k) (u:=.iface T2 x2) (by rw[←hsv];simp[hkl]);have HG:=Qc (And.intro hgm (And.intro hgt hgc));clear hsv hgm hgt hgc OSC;go_wp2_with fail;rw[HG.o.1,Result.andThen_ok];simp only[HG.o.2.1];unfold Oper.upon;by_cases h33:bs[m].sts[k].op=33
       ·have HL5:Hid (L4=L2++(List.range (k+1)).flatMap (stU bs[m] m)):=by
         show _=_;rw[HL4.o,List.range_succ,List.flatMap_append];simp[Gk hkl h33]
        refine(HG.o.2.2 _).mono ?_;rintro r w4 ⟨rfl,f4⟩;rw[if_pos h33,show (bs[m].sts[k].op != 33)=false by simp[h33]];have s4:=f4.size;have H5:Hid ((w4.alloc (.cells #[.int .i64 0,.int .i64 0] 132)).ownsRow w.heap.size 203 4 (.slice pl4 L4.length cl4) L4.length (QJ L4)∧Below w.heap.size w (w4.alloc (.cells #[.int .i64 0,.int .i64 0] 132))∧(w4.alloc (.cells #[.int .i64 0,.int .i64 0] 132)).heap[wA.heap.size]?=some (.cells #[.int .i64 bs[m].at_,.slice qc bs[m].chs.length cc,.slice (some ⟨gs,0,none⟩) bs[m].sts.length cs1,.iface T x] 104 (0,0))):=⟨(Qd OL4H.o (Qi f4) trivial).alloc _,(F4.o.1.trans (f4.mono hz4)).alloc (by omega) _,Qj (by rw[f4.block _ (lt_of_block F4.o.2)];exact F4.o.2) _⟩;clear f4 h33 cS HG;go_wp2_with fail;go_roundw
        case rel=>exact⟨k+1,L4,by omega,by go_num,HL5,by omega,H5.o.1,H5.o.2⟩
        case measure=>simp[intOf];omega
       ·have HL5:Hid (L4++[(⟨bs[m].sts[k].to.1,bs[m].sts[k].to.2,m,k⟩:Use)]=L2++(List.range (k+1)).flatMap (stU bs[m] m)):=by
         show _=_;rw[HL4.o,List.range_succ,List.flatMap_append,List.append_assoc];simp[Wt hkl h33]
        refine(HG.o.2.2 _).mono ?_;rintro r w4 ⟨rfl,f4⟩;rw[if_neg h33,show (bs[m].sts[k].op != 33)=true by simp[h33]];have s4:=f4.size;have OLW:=Qc ((Qd OL4H.o (Qi f4) trivial).alloc (.cells #[.int .i64 bs[m].sts[k].to.1,.int .i64 bs[m].sts[k].to.2] 132));have FW:Hid (Below w.heap.size w (w4.alloc (.cells #[.int .i64 bs[m].sts[k].to.1,.int .i64 bs[m].sts[k].to.2] 132))∧(w4.alloc (.cells #[.int .i64 bs[m].sts[k].to.1,.int .i64 bs[m].sts[k].to.2] 132)).heap[wA.heap.size]?=some (.cells #[.int .i64 bs[m].at_,.slice qc bs[m].chs.length cc,.slice (some ⟨gs,0,none⟩) bs[m].sts.length cs1,.iface T x] 104 (0,0))):=⟨(F4.o.1.trans (f4.mono hz4)).alloc (by omega) _,Qj (by rw[f4.block _ (lt_of_block F4.o.2)];exact F4.o.2) _⟩;clear f4 h33 cS HG;go_wp2_with (at_builtin;refine Qv ?_);refine Qc ?_;have gB:=heap_alloc_last (w4.alloc (.cells #[.int .i64 bs[m].sts[k].to.1,.int .i64 bs[m].sts[k].to.2] 132)) (.cells #[.int .i64 bs[m].sts[k].to.1,.int .i64 bs[m].sts[k].to.2,.int .i64 m,.int .i64 k] 203);have OB:=OLW.o.alloc (.cells #[.int .i64 bs[m].sts[k].to.1,.int .i64 bs[m].sts[k].to.2,.int .i64 m,.int .i64 k] 203);rw[World.size_alloc]at gB;refine KT Tryz.underlying198 Tryz.info203 rfl (by decide) (by decide) rfl _ _ rfl rfl OB gB rfl rfl (List.all_eq_true.1 rfl) (by omega) (by simp;omega) ?_;intro v3 w3 oS gS;obtain⟨v3p,v3c,rfl⟩:=Qb oS;have F3:Hid (Below w.heap.size w w3∧w3.heap[wA.heap.size]?=some (.cells #[.int .i64 bs[m].at_,.slice qc bs[m].chs.length cc,.slice (some ⟨gs,0,none⟩) bs[m].sts.length cs1,.iface T x] 104 (0,0))):=⟨Below.grown (FW.o.1.alloc (by rw[World.size_alloc];omega) (.cells #[.int .i64 bs[m].sts[k].to.1,.int .i64 bs[m].sts[k].to.2,.int .i64 m,.int .i64 k] 203)) gS (by simp;omega) (fun j hj=>by have:=(OB.lt j hj).1;omega),Qz gS (Qj FW.o.2 _) (fun j hj e=>Qw OLW.o FW.o.2 (by decide) (by subst e;exact hj))⟩;have O3:Hid (w3.ownsRow w.heap.size 203 4 (.slice v3p (L4.length+1) v3c) (L4++[(⟨bs[m].sts[k].to.1,bs[m].sts[k].to.2,m,k⟩:Use)]).length (QJ (L4++[(⟨bs[m].sts[k].to.1,bs[m].sts[k].to.2,m,k⟩:Use)]))):=by
         show World.ownsRow _ _ _ _ _ _ _;rw[Kv,List.length_append];exact oS
        clear gS gB OB oS;go_wp2_with fail;go_roundw
        case rel=>exact⟨k+1,L4++[(⟨bs[m].sts[k].to.1,bs[m].sts[k].to.2,m,k⟩:Use)],by omega,by go_num,HL5,by rw[List.length_append,List.length_singleton];omega,O3.o,F3⟩
        case measure=>simp[intOf];omega
      ·have hke:k=bs[m].sts.length:=by omega
       have HL6:Hid (L4=VW bs (m+1)):=by
        show _=_;rw[HL4.o,hke,HL3.o,HL.o,UY,Va,HBK.o,List.append_assoc]
       clear hke HL4;go_wp2_with fail;go_roundw
       case rel=>exact⟨m+1,L4,by omega,by go_num,HL6,by omega,OL4H.o,F4.o.1⟩
       case measure=>simp[intOf];omega
  ·have hme:m=bs.length:=by omega
   have HLE:Hid (L=gvU bs):=by show _=_;rw[HL.o,hme];rfl
   clear hme HL;go_wp2_with fail;go_ret;exact⟨_,rfl,by rw[←HLE.o];exact OLH.o,by rw[←HLE.o];omega,F.o⟩
end Go.Proofs.YtgfhfkgdmidhpaaGreatDoor
