import Derived.Test.YtgfhfkgdmidhpaaGreatDoorC22
namespace Go.Proofs.YtgfhfkgdmidhpaaGreatDoor
open Go.RowKit
set_option maxRecDepth 100000
set_option maxHeartbeats 8000000
structure YB(w:World)(o0 o1 o2:Obj)(wr:World):Prop where
 b0:wr.heap[w.heap.size]?=some o0
 b1:wr.heap[w.heap.size+1]?=some o1
 b2:wr.heap[w.heap.size+2]?=some o2
 f:Below w.heap.size w wr
theorem YB.keeps{w o0 o1 o2 wr wr'}(h:YB w o0 o1 o2 wr)(F:Below wr.heap.size wr wr'):YB w o0 o1 o2 wr':=
 ⟨by rw[F.block _ (lt_of_block h.b0)];exact h.b0,by rw[F.block _ (lt_of_block h.b1)];exact h.b1,by rw[F.block _ (lt_of_block h.b2)];exact h.b2,h.f.trans (F.mono h.f.size)⟩
theorem YB.start(w:World)(c0 c1 c2:Array Value)(t0 t1 t2:TypeId):YB w (.cells c0 t0 (0,0)) (.cells c1 t1 (0,0)) (.cells c2 t2 (0,0)) (((w.alloc (.cells c0 t0)).alloc (.cells c1 t1)).alloc (.cells c2 t2)):=by
 obtain⟨a,b,z,d⟩:=two w (.cells c0 t0) (.cells c1 t1);refine⟨Qj a _,Qj b _,?_,d.alloc (by rw[z];omega) _⟩;have:=heap_alloc_last ((w.alloc (.cells c0 t0)).alloc (.cells c1 t1)) (.cells c2 t2);rw[z]at this;exact this
def rnG(c:QH):List (Nat×Nat):=c.gs.map fun g=>(g.1,0)
noncomputable def rnR(bs:List Ql)(st:Nat→Nat)(c:QH):List (Nat×Nat):=(Yz (coF bs) (nm st) c).rs
theorem Qc6{bs:List Ql}{st:Nat→Nat}{c:QH}(h:c.gs.length=c.rs.length):(rnG c).length=c.gs.length∧(rnR bs st c).length=c.gs.length:=by
 constructor
 ·simp[rnG]
 ·simp[rnR,Yz];omega
theorem Qfu{bs:List Ql}{st:Nat→Nat}{c:QH}(h:c.gs.length=c.rs.length){k:Nat}(hk:k<c.gs.length):QQ ((rnG c).take (k+1)) ((rnR bs st c).take (k+1))=QQ ((rnG c).take k) ((rnR bs st c).take k)++[.int .i64 c.gs[k].1,.int .i64 0,.int .i64 (if coF bs c.gs[k].1 then nm st (c.rs[k]'(by omega)).1 else 0:Nat),.int .i64 0]:=by
 obtain⟨h1,h2⟩:=Qc6 (bs:=bs) (st:=st) h;rw[List.take_succ_eq_append_getElem (by rw[h1];exact hk),List.take_succ_eq_append_getElem (by rw[h2];exact hk),YC (by rw[List.length_take,List.length_take,h1,h2])];simp[rnG,rnR,Yz]
structure RcI(w:World)(bs:List Ql)(st:Nat→Nat)(c:QH)(o0 o1 o2:Obj)(mb k:Nat)(vS:Value)(wr:World):Prop where
 o:YB w o0 o1 o2 wr
 m:wr.heap[mb]?=some (.cells #[.int .i64 (nm st c.to.1),.int .i64 0,vS] 140 (0,0))
 r:wr.ownsRow w.heap.size 147 4 vS k (QQ ((rnG c).take k) ((rnR bs st c).take k))
 l:w.heap.size+2<mb
theorem RcI.keeps{w bs st c o0 o1 o2 mb k vS wr wr'}(h:RcI w bs st c o0 o1 o2 mb k vS wr)(F:Below wr.heap.size wr wr'):RcI w bs st c o0 o1 o2 mb k vS wr':=
 ⟨h.o.keeps F,by rw[F.block _ (lt_of_block h.m)];exact h.m,Qd h.r (Qi F) trivial,h.l⟩
theorem RcI.grow{w bs st c c0 c1 c2 mb k vS v7 W w7}(h:RcI w bs st c (.cells c0 87 (0,0)) (.cells c1 140 (0,0)) (.cells c2 140 (0,0)) mb k vS W)(oS:w7.ownsRow w.heap.size 147 4 v7 (k+1) (QQ ((rnG c).take (k+1)) ((rnR bs st c).take (k+1))))(gS:W.grownBy w7 vS.ownBlock):
  YB w (.cells c0 87 (0,0)) (.cells c1 140 (0,0)) (.cells c2 140 (0,0)) w7∧w7.heap[mb]?=some (.cells #[.int .i64 (nm st c.to.1),.int .i64 0,vS] 140 (0,0))∧RcI w bs st c (.cells c0 87 (0,0)) (.cells c1 140 (0,0)) (.cells c2 140 (0,0)) mb (k+1) v7 (w7.setCell ⟨mb,2,none⟩ v7):=by
 have hO:YB w (.cells c0 87 (0,0)) (.cells c1 140 (0,0)) (.cells c2 140 (0,0)) w7:=
  ⟨Qz gS h.o.b0 (fun j hj e=>Qw h.r h.o.b0 (by decide) (by subst e;exact hj)),Qz gS h.o.b1 (fun j hj e=>Qw h.r h.o.b1 (by decide) (by subst e;exact hj)),Qz gS h.o.b2 (fun j hj e=>Qw h.r h.o.b2 (by decide) (by subst e;exact hj)),Below.grown h.o.f gS h.o.f.size (fun j hj=>(h.r.lt j hj).1)⟩
 have hM:w7.heap[mb]?=some (.cells #[.int .i64 (nm st c.to.1),.int .i64 0,vS] 140 (0,0)):=Qz gS h.m (fun j hj e=>Qw h.r h.m (by decide) (by subst e;exact hj));have hl:=h.l;refine⟨hO,hM,⟨⟨?_,?_,?_,Qr hO.f _ _ _ (by omega)⟩,?_,?_,hl⟩⟩
 ·rw[Qu (by omega)];exact hO.b0
 ·rw[Qu (by omega)];exact hO.b1
 ·rw[Qu (by omega)];exact hO.b2
 ·exact Qp hM 2 v7
 ·exact ZH oS fun j _ hj=>Qu (fun e=>Qw oS hM (by decide) (by rw[←e];exact hj))
theorem Qfv(bs:List Ql)(st:Nat→Nat)(n base B B2 pn ps:Nat)(c:QH)(v va vu vc:Value)(w:World)(h:Grd w bs base B v va vu)(hc:ChR w B2 c vc)(hs:NmI w n pn ps st)(hk:Hid (StK n st))(hl:Hid (Ga n bs.length c))(hn:bs.length≤1000)(hn2:n≤100000):
  Calls Tryz.prog 154 #[.agg #[v,va,vu,v],.agg #[.int .i64 c.to.1,.int .i64 c.to.2,vc],nmV pn ps] w fun e w'=>∃v',e=.returned (.agg #[.int .i64 (nm st c.to.1),.int .i64 0,v'])∧Hid (ChR w' w.heap.size (Yz (coF bs) (nm st) c) v'∧Below w.heap.size w w'):=by
 obtain⟨⟨p,cp,rfl⟩,⟨pa,ca,rfl⟩,q,d,rfl⟩:=h.form;obtain⟨pc,cc,rfl⟩:=Qb hc.row;have H:=Qc (And.intro h (And.intro hc hs));clear h hc hs;have hfew:=hl.out.few;have hto:=hl.out.to;unfold nmV;go_enter Tryz.func154,Tryz.ntmps154;go_wp2_with fail;have B0:=Qc (YB.start w #[.slice p bs.length cp,.slice pa (Qx bs).length ca,.slice q bs.length d,.slice p bs.length cp] #[.int .i64 c.to.1,.int .i64 c.to.2,.slice pc c.gs.length cc] #[.int .i64 0,.int .i64 0,.slice none 0 0] 87 140 140);generalize ((w.alloc (.cells #[.slice p bs.length cp,.slice pa (Qx bs).length ca,.slice q bs.length d,.slice p bs.length cp] 87)).alloc (.cells #[.int .i64 c.to.1,.int .i64 c.to.2,.slice pc c.gs.length cc] 140)).alloc (.cells #[.int .i64 0,.int .i64 0,.slice none 0 0] 140)=W at *;refine(QdF st n c.to.1 pn ps W (H.o.2.2.keeps B0.o.f) hk hto hn2).mono ?_;rintro e w1 ⟨rfl,f1⟩;have H1:=Qc (B0.o.keeps f1);clear f1 B0;have x2:∀o,(w1.alloc o).cell? ⟨w.heap.size+1,2,none⟩=some (.slice pc c.gs.length cc):=fun o=>by have:=Qa (Qj H1.o.b1 o) 2;simpa using this
 go_wp2_with fail;clear x2;have B1:Hid (RcI w bs st c (.cells #[.slice p bs.length cp,.slice pa (Qx bs).length ca,.slice q bs.length d,.slice p bs.length cp] 87 (0,0)) (.cells #[.int .i64 c.to.1,.int .i64 c.to.2,.slice pc c.gs.length cc] 140 (0,0)) (.cells #[.int .i64 0,.int .i64 0,.slice none 0 0] 140 (0,0)) w1.heap.size 0 (.slice none 0 0) (w1.alloc (.cells #[.int .i64 (nm st c.to.1),.int .i64 0,.slice none 0 0] 140))):=
  ⟨H1.o.keeps ((Below.refl _ _).alloc (Nat.le_refl _) _),heap_alloc_last _ _,World.ownsRow_nil _ _ _ _,by have:=lt_of_block H1.o.b2;omega⟩
 generalize hmb:w1.heap.size=mb at *;clear H1
 go_loopw [20] (fun i wr=>∃(k:Nat)(vS:Value),k≤c.gs.length∧i=.int .i64 k∧Hid (RcI w bs st c (.cells #[.slice p bs.length cp,.slice pa (Qx bs).length ca,.slice q bs.length d,.slice p bs.length cp] 87 (0,0)) (.cells #[.int .i64 c.to.1,.int .i64 c.to.2,.slice pc c.gs.length cc] 140 (0,0)) (.cells #[.int .i64 0,.int .i64 0,.slice none 0 0] 140 (0,0)) mb k vS wr)) (fun i _=>c.gs.length-(intOf i).toNat)
 case atStart=>exact⟨0,_,by omega,rfl,B1⟩
 case round=>
  clear B1 hmb;obtain⟨k,vS,hkl,rfl,HI⟩:=hrel;obtain⟨pS,cS,rfl⟩:=Qb HI.o.r;by_cases hlt:k<c.gs.length
  ·obtain⟨gc,rfl,_,_⟩:=Qh H.o.2.1.row (by omega);have HC:=Qc (H.o.2.1.keeps HI.o.o.f);have hlr:k<c.rs.length:=by have:=H.o.2.1.len;omega
   obtain⟨s0,s1,s2,s3⟩:=QF H.o.2.1.len hlt;have c0:=Qe HC.o.row s0;have c1:=Qe HC.o.row s1;have c2:=Qe HC.o.row s2;have c3:=Qe HC.o.row s3;clear s0 s1 s2 s3;have hr:=hl.out.rs _ (List.getElem_mem hlr);have hg:=hl.out.gs _ (List.getElem_mem hlt);have HX:=Qc (Qfu (bs:=bs) (st:=st) H.o.2.1.len hlt);go_wp2_with fail;clear c0 c1 c2 c3;have b1:=heap_alloc_last wr (.cells #[.int .i64 c.gs[k].1,.int .i64 c.gs[k].2,.int .i64 c.rs[k].1,.int .i64 c.rs[k].2] 147);have HW:=Qc (HI.o.keeps ((Below.refl wr.heap.size wr).alloc (Nat.le_refl _) (.cells #[.int .i64 c.gs[k].1,.int .i64 c.gs[k].2,.int .i64 c.rs[k].1,.int .i64 c.rs[k].2] 147)));generalize wr.alloc (.cells #[.int .i64 c.gs[k].1,.int .i64 c.gs[k].2,.int .i64 c.rs[k].1,.int .i64 c.rs[k].2] 147)=W1 at *;have HSS:Hid (∀w':World,w'.heap[w.heap.size]?=some (.cells #[.slice p bs.length cp,.slice pa (Qx bs).length ca,.slice q bs.length d,.slice p bs.length cp] 87 (0,0))→w'.heap[mb]?=some (.cells #[.int .i64 (nm st c.to.1),.int .i64 0,.slice pS k cS] 140 (0,0))→w'.heap[wr.heap.size]?=some (.cells #[.int .i64 c.gs[k].1,.int .i64 c.gs[k].2,.int .i64 c.rs[k].1,.int .i64 c.rs[k].2] 147 (0,0))→w'.cell? ⟨w.heap.size,0,none⟩=some (.slice p bs.length cp)∧w'.cell? ⟨w.heap.size,1,none⟩=some (.slice pa (Qx bs).length ca)∧w'.cell? ⟨w.heap.size,2,none⟩=some (.slice q bs.length d)∧w'.cell? ⟨w.heap.size,3,none⟩=some (.slice p bs.length cp)∧w'.cell? ⟨wr.heap.size,0,none⟩=some (.int .i64 c.gs[k].1)∧w'.cell? ⟨wr.heap.size,2,none⟩=some (.int .i64 c.rs[k].1)∧w'.cell? ⟨mb,2,none⟩=some (.slice pS k cS)):=by
    intro w' hR hM hb;have x0:=Qa hR 0;have x1:=Qa hR 1;have x2:=Qa hR 2;have x3:=Qa hR 3;have z0:=Qa hb 0;have z2:=Qa hb 2;have m2:=Qa hM 2;simp at x0 x1 x2 x3 z0 z2 m2;exact⟨x0,x1,x2,x3,z0,z2,m2⟩
   have HB1:=Qc b1;clear b1;refine V1 (S:=fun w'=>w'.cell? ⟨w.heap.size,0,none⟩=some (.slice p bs.length cp)∧w'.cell? ⟨w.heap.size,1,none⟩=some (.slice pa (Qx bs).length ca)∧w'.cell? ⟨w.heap.size,2,none⟩=some (.slice q bs.length d)∧w'.cell? ⟨w.heap.size,3,none⟩=some (.slice p bs.length cp)∧w'.cell? ⟨wr.heap.size,0,none⟩=some (.int .i64 c.gs[k].1)∧w'.cell? ⟨wr.heap.size,2,none⟩=some (.int .i64 c.rs[k].1)∧w'.cell? ⟨mb,2,none⟩=some (.slice pS k cS)) (L:=15) (by kernel_rfl) ?_;have hS0:=HSS.o W1.drew HW.o.o.b0 HW.o.m HB1.o;refine ZF (i:=0) (v:=?v0) (some 24) rfl rfl (by kernel_rfl) (by kernel_rfl) (by kernel_rfl) (by kernel_rfl) (fun _ _ _ h=>h) (Or.inl ⟨by rfl,?y0⟩) hS0 ?r0
   case y0=>
    rintro w ⟨t0,t1,t2,t3,t4,t5,t6⟩;go_simp
    with_reducible rfl
   simp only[Act.put,List.setIfInBounds_toArray,List.set_cons_zero,List.set_cons_succ];refine ZF (i:=1) (v:=?v1) (some 25) rfl rfl (by kernel_rfl) (by kernel_rfl) (by kernel_rfl) (by kernel_rfl) (fun _ _ _ h=>h) (Or.inl ⟨by rfl,?y1⟩) hS0 ?r1
   case y1=>
    rintro w ⟨t0,t1,t2,t3,t4,t5,t6⟩;go_simp
    with_reducible rfl
   simp only[Act.put,List.setIfInBounds_toArray,List.set_cons_zero,List.set_cons_succ];refine ZF (i:=2) (v:=?v2) (some 26) rfl rfl (by kernel_rfl) (by kernel_rfl) (by kernel_rfl) (by kernel_rfl) (fun _ _ _ h=>h) (Or.inl ⟨by rfl,?y2⟩) hS0 ?r2
   case y2=>
    rintro w ⟨t0,t1,t2,t3,t4,t5,t6⟩;go_simp
    with_reducible rfl
   simp only[Act.put,List.setIfInBounds_toArray,List.set_cons_zero,List.set_cons_succ];refine ZF (i:=3) (v:=?v3) (some 27) rfl rfl (by kernel_rfl) (by kernel_rfl) (by kernel_rfl) (by kernel_rfl) (fun _ _ _ h=>h) (Or.inl ⟨by rfl,?y3⟩) hS0 ?r3
   case y3=>
    rintro w ⟨t0,t1,t2,t3,t4,t5,t6⟩;go_simp
    with_reducible rfl
   simp only[Act.put,List.setIfInBounds_toArray,List.set_cons_zero,List.set_cons_succ];refine ZF (i:=4) (v:=?v4) (some 28) rfl rfl (by kernel_rfl) (by kernel_rfl) (by kernel_rfl) (by kernel_rfl) (fun _ _ _ h=>h) (Or.inl ⟨by rfl,?y4⟩) hS0 ?r4
   case y4=>
    rintro w ⟨t0,t1,t2,t3,t4,t5,t6⟩;go_simp
    with_reducible rfl
   simp only[Act.put,List.setIfInBounds_toArray,List.set_cons_zero,List.set_cons_succ];refine ZF (i:=5) (v:=?v5) (some 29) rfl rfl (by kernel_rfl) (by kernel_rfl) (by kernel_rfl) (by kernel_rfl) (fun _ _ _ h=>h) (Or.inl ⟨by rfl,?y5⟩) hS0 ?r5
   case y5=>
    rintro w ⟨t0,t1,t2,t3,t4,t5,t6⟩;go_simp
    with_reducible rfl
   simp only[Act.put,List.setIfInBounds_toArray,List.set_cons_zero,List.set_cons_succ];refine ZF (i:=6) (v:=?v6) (some 30) rfl rfl (by kernel_rfl) (by kernel_rfl) (by kernel_rfl) (by kernel_rfl) (fun _ _ _ h=>h) (Or.inl ⟨by rfl,?y6⟩) hS0 ?r6
   case y6=>
    rintro w ⟨t0,t1,t2,t3,t4,t5,t6⟩;go_simp
    with_reducible rfl
   simp only[Act.put,List.setIfInBounds_toArray,List.set_cons_zero,List.set_cons_succ];refine ZF (i:=7) (v:=?v7) (some 31) rfl rfl (by kernel_rfl) (by kernel_rfl) (by kernel_rfl) (by kernel_rfl) (fun _ _ _ h=>h) (Or.inl ⟨by rfl,?y7⟩) hS0 ?r7
   case y7=>
    rintro w ⟨t0,t1,t2,t3,t4,t5,t6⟩;go_simp
    with_reducible rfl
   simp only[Act.put,List.setIfInBounds_toArray,List.set_cons_zero,List.set_cons_succ];refine ZF (i:=8) (v:=?v8) (some 32) rfl rfl (by kernel_rfl) (by kernel_rfl) (by kernel_rfl) (by kernel_rfl) (fun _ _ _ h=>h) (Or.inl ⟨by rfl,?y8⟩) hS0 ?r8
   case y8=>
    rintro w ⟨t0,t1,t2,t3,t4,t5,t6⟩;go_simp
    with_reducible rfl
   simp only[Act.put,List.setIfInBounds_toArray,List.set_cons_zero,List.set_cons_succ];refine ZF (i:=9) (v:=?v9) (some 33) rfl rfl (by kernel_rfl) (by kernel_rfl) (by kernel_rfl) (by kernel_rfl) (fun _ _ _ h=>h) (Or.inl ⟨by rfl,?y9⟩) hS0 ?r9
   case y9=>
    rintro w ⟨t0,t1,t2,t3,t4,t5,t6⟩;go_simp
    with_reducible rfl
   simp only[Act.put,List.setIfInBounds_toArray,List.set_cons_zero,List.set_cons_succ];clear hS0;refine YO (i:=10) rfl (by kernel_rfl) rfl (fun K hK=>?_);go_simp;refine(QdF st n c.rs[k].1 pn ps W1.drew (H.o.2.2.keeps (HW.o.o.f.trans ((QM W1).mono HW.o.o.f.size))) hk hr hn2).mono ?_;rintro e w2 ⟨rfl,f2⟩;have H2:=Qc (HW.o.keeps (Ja f2));have HB2:=Qc (((Ja f2).block _ (lt_of_block HB1.o)).trans HB1.o);refine hK.out _ _ (.inr (HSS.o _ H2.o.o.b0 H2.o.m HB2.o)) ?_;clear hK f2 HW HB1;refine YO (i:=11) rfl (by kernel_rfl) rfl (fun K hK=>?_);go_simp;refine(Qfp bs base B c.gs[k].1 (nm st c.rs[k].1) _ _ _ w2 (H.o.1.keeps H2.o.o.f) hg hn).mono ?_;rintro e w3 ⟨rfl,f3⟩;have H3:=Qc (H2.o.keeps f3);have HB3:=Qc ((f3.block _ (lt_of_block HB2.o)).trans HB2.o);refine hK.out _ _ (.inr (HSS.o _ H3.o.o.b0 H3.o.m HB3.o)) ?_;clear hK f3 H2 HB2;refine YO (i:=12) rfl (by kernel_rfl) rfl (fun K hK=>?_);go_simp;have FA:=(Below.refl w3.heap.size w3).alloc (Nat.le_refl _) (.cells #[.int .i64 c.gs[k].1,.int .i64 0,.int .i64 (if coF bs c.gs[k].1 then nm st c.rs[k].1 else 0:Nat),.int .i64 0] 147);have gA:=heap_alloc_last w3 (.cells #[.int .i64 c.gs[k].1,.int .i64 0,.int .i64 (if coF bs c.gs[k].1 then nm st c.rs[k].1 else 0:Nat),.int .i64 0] 147);have zA:=World.size_alloc w3 (.cells #[.int .i64 c.gs[k].1,.int .i64 0,.int .i64 (if coF bs c.gs[k].1 then nm st c.rs[k].1 else 0:Nat),.int .i64 0] 147);have H4:=Qc (H3.o.keeps FA);have HB4:=Qc ((FA.block _ (lt_of_block HB3.o)).trans HB3.o);refine hK.out _ _ (.inr (HSS.o _ H4.o.o.b0 H4.o.m HB4.o)) ?_;clear hK FA HB3;generalize w3.alloc (.cells #[.int .i64 c.gs[k].1,.int .i64 0,.int .i64 (if coF bs c.gs[k].1 then nm st c.rs[k].1 else 0:Nat),.int .i64 0] 147)=W4 at *;refine YO (i:=13) rfl (by kernel_rfl) rfl (fun K hK=>?_);refine Wr Tryz.underlying138 Tryz.info147 rfl (by decide) (by decide) rfl _ _ rfl rfl H4.o.r gA rfl rfl (List.all_eq_true.1 rfl) (by omega) (by have:=H4.o.o.f.size;omega) ?_;intro v7 w7 oS gS nS;rw[←show QQ ((rnG c).take (k+1)) ((rnR bs st c).take (k+1))=_ from HX.o]at oS;obtain⟨h5,h6,h7⟩:=H4.o.grow oS gS;have HB7:=Qz gS HB4.o (fun j hj e=>by have:=(HI.o.r.lt j hj).2;omega);have H7:=Qc h7;obtain⟨p7,c7,rfl⟩:=Qb oS;have hS7:=HSS.o _ h5.b0 h6 HB7;refine hK.out _ _ (.inr hS7) ?_;have m7:=Qa h6 2;have f7:=Qf h6 2;simp at m7;clear hK oS gS nS h5 h6 h7 HB7 gA zA;change XL Tryz.prog _ _ _ _ _ _ _ (Act.put _ (some 37) _) _;simp only[Act.put,List.setIfInBounds_toArray,List.set_cons_zero,List.set_cons_succ];refine ZF (i:=14) (v:=?v14) (some 38) rfl rfl (by kernel_rfl) (by kernel_rfl) (by kernel_rfl) (by kernel_rfl) (fun _ _ _ h=>h) (Or.inl ⟨by rfl,?y14⟩) hS7 ?r14
   case y14=>
    rintro w ⟨t0,t1,t2,t3,t4,t5,t6⟩;go_simp
    with_reducible rfl
   simp only[Act.put,List.setIfInBounds_toArray,List.set_cons_zero,List.set_cons_succ];clear hS7;refine YO (i:=15) rfl (by kernel_rfl) rfl (fun K hK=>?_);go_simp;refine hK.out _ _ (.inl rfl) ?_;refine Qbl (by kernel_rfl) ?_ _;clear hK;go_wp2_with fail;go_roundw
   case rel=>exact⟨k+1,_,by omega,by go_num,H7⟩
   case measure=>simp[intOf];omega
  ·have hke:k=c.gs.length:=by omega
   have m0:=Qa HI.o.m 0;have m1:=Qa HI.o.m 1;have m2:=Qa HI.o.m 2;have n0:=Qa HI.o.o.b2 0;have n1:=Qa HI.o.o.b2 1;have n2:=Qa HI.o.o.b2 2;have nf0:=Qf HI.o.o.b2 0;have nf1:=Qf HI.o.o.b2 1;have nf2:=Qf HI.o.o.b2 2;simp at m0 m1 m2 n0 n1 n2;have hmbl:=HI.o.l;have HR:Hid (∀W5,W5=((wr.setCell ⟨w.heap.size+1+1,0,none⟩ (.int .i64 (nm st c.to.1))).setCell ⟨w.heap.size+1+1,1,none⟩ (.int .i64 0)).setCell ⟨w.heap.size+1+1,2,none⟩ (.slice pS c.gs.length cS)→W5.cell? ⟨w.heap.size+1+1,0,none⟩=some (.int .i64 (nm st c.to.1))∧W5.cell? ⟨w.heap.size+1+1,1,none⟩=some (.int .i64 0)∧W5.cell? ⟨w.heap.size+1+1,2,none⟩=some (.slice pS c.gs.length cS)∧ChR W5 w.heap.size (Yz (coF bs) (nm st) c) (.slice pS c.gs.length cS)∧Below w.heap.size w W5):=by
    rintro W5 rfl;have b4:=Qp (Qp (Qp HI.o.o.b2 0 (.int .i64 (nm st c.to.1))) 1 (.int .i64 0)) 2 (.slice pS c.gs.length cS);have q0:=Qa b4 0;have q1:=Qa b4 1;have q2:=Qa b4 2;simp at q0 q1 q2;have hr:=HI.o.r;subst hke;obtain⟨l1,l2⟩:=Qc6 (bs:=bs) (st:=st) H.o.2.1.len;rw[List.take_of_length_le (by omega),List.take_of_length_le (by omega)]at hr;have hne:∀j,(Value.slice pS c.gs.length cS).ownBlock=some j→j≠w.heap.size+1+1:=fun j hj e=>Qw HI.o.r HI.o.o.b2 (by decide) (by rw[hj,e]);have ho:=ZH (w':=((wr.setCell ⟨w.heap.size+1+1,0,none⟩ (.int .i64 (nm st c.to.1))).setCell ⟨w.heap.size+1+1,1,none⟩ (.int .i64 0)).setCell ⟨w.heap.size+1+1,2,none⟩ (.slice pS c.gs.length cS)) hr fun j _ hj=>by rw[Qu (hne j hj),Qu (hne j hj),Qu (hne j hj)]
    refine⟨q0,q1,q2,⟨by show (rnG c).length=(rnR bs st c).length;omega,?_⟩,Qr (Qr (Qr HI.o.o.f _ _ _ (by omega)) _ _ _ (by omega)) _ _ _ (by omega)⟩;have e1:(Yz (coF bs) (nm st) c).gs.length=c.gs.length:=l1;rw[e1];exact ho
   subst hke;go_wp2_with fail;obtain⟨q0,q1,q2,ho,hf⟩:=HR.o _ rfl;obtain⟨W5,hW5⟩:∃W5,W5=((wr.setCell ⟨w.heap.size+1+1,0,none⟩ (.int .i64 (nm st c.to.1))).setCell ⟨w.heap.size+1+1,1,none⟩ (.int .i64 0)).setCell ⟨w.heap.size+1+1,2,none⟩ (.slice pS c.gs.length cS):=⟨_,rfl⟩;rw[←hW5]at q0 q1 q2 ho hf ⊢;refine bodyPost_ret (v:=.agg #[.int .i64 (nm st c.to.1),.int .i64 0,.slice pS c.gs.length cS]) (by simp[results,Tryz.results154,go_sem,q0,q1,q2]) rfl ⟨_,rfl,ho,hf⟩
structure MdI(w0:World)(mb:Nat)(E:Value)(cs:List QH)(ts:List Qy)(vc vt:Value)(wr:World):Prop where
 m:wr.heap[mb]?=some (.cells #[.int .i64 0,vc,vt,E] 104 (0,0))
 c:X1 wr w0.heap.size cs vc
 t:wr.ownsRow w0.heap.size 150 1 vt ts.length (ts.map QE)
 f:Below w0.heap.size w0 wr
 l:w0.heap.size≤mb
theorem MdI.keeps{w0 mb E cs ts vc vt wr wr'}(h:MdI w0 mb E cs ts vc vt wr)(F:Below wr.heap.size wr wr'):MdI w0 mb E cs ts vc vt wr':=
 ⟨by rw[F.block _ (lt_of_block h.m)];exact h.m,h.c.keeps (Qi F) trivial trivial,Qd h.t (Qi F) trivial,h.f.trans (F.mono h.f.size),h.l⟩
theorem Q7{W w7:World}{b1 e1 s1 n1 k:Nat}{v:Value}{xs:List Value}{cur:Array Value}{t:TypeId}(hr:W.ownsRow b1 e1 s1 v n1 xs)(gS:W.grownBy w7 v.ownBlock)(hb:W.heap[k]?=some (.cells cur t (0,0)))(ht:e1≠t):w7.heap[k]?=some (.cells cur t (0,0)):=
 Qz gS hb (fun j hj e=>Qw hr hb ht (by subst e;exact hj))
theorem MdI.growC{w0 mb E cs ts vc vt W w7 v7 vS}{vs:List Value}{c:QH}(h:MdI w0 mb E cs ts vc vt W)(ha:W.ownsRow w0.heap.size 140 3 vc cs.length (XT cs vs))(hb:Zh W w0.heap.size cs vs)(hc:ChR W w0.heap.size c vS)
  (oS:w7.ownsRow w0.heap.size 140 3 v7 (cs.length+1) (XT cs vs++J4 c vS))(gS:W.grownBy w7 vc.ownBlock):
  w7.heap[mb]?=some (.cells #[.int .i64 0,vc,vt,E] 104 (0,0))∧MdI w0 mb E (cs++[c]) ts v7 vt (w7.setCell ⟨mb,1,none⟩ v7):=by
 have hM:=Q7 ha gS h.m (by decide);have K:Qs w0.heap.size (fun e=>e=147) W w7:=Qs.grown ha gS (by decide);have K2:Qs w0.heap.size (fun e=>e=150) W w7:=Qs.grown ha gS (by decide);have K3:∀(T:TypeId→Prop),¬T 104→Qs w0.heap.size T w7 (w7.setCell ⟨mb,1,none⟩ v7):=fun T hT g cur e _ hTe hh=>by
  rw[Qu (fun e2=>?_)]
  ·exact hh
  ·subst e2;rw[hM]at hh;injection hh with hh;injection hh with _ h2;subst h2;exact hT hTe
 refine⟨hM,⟨Qp hM 1 v7,⟨vs++[vS],?_,?_⟩,Qd (Qd h.t K2 rfl) (K3 (fun e=>e=150) (by decide)) rfl,Qr (Below.grown h.f gS h.f.size (fun j hj=>(ha.lt j hj).1)) _ _ _ h.l,h.l⟩⟩
 ·rw[KC _ _ hb.len,List.length_append];exact Qd oS (K3 (fun e=>e=140) (by decide)) rfl
 ·exact Zh.snoc hc.len (Qd (Qd hc.row K rfl) (K3 (fun e=>e=147) (by decide)) rfl) ((hb.keeps K rfl).keeps (K3 (fun e=>e=147) (by decide)) rfl)
theorem MdI.growS{w0 mb E cs ts vc vt W w7 v7}{t:Qy}(h:MdI w0 mb E cs ts vc vt W)
  (oS:w7.ownsRow w0.heap.size 150 1 v7 (ts.length+1) (ts.map QE++[QE t]))(gS:W.grownBy w7 vt.ownBlock):
  w7.heap[mb]?=some (.cells #[.int .i64 0,vc,vt,E] 104 (0,0))∧MdI w0 mb E cs (ts++[t]) vc v7 (w7.setCell ⟨mb,2,none⟩ v7):=by
 have hM:=Q7 h.t gS h.m (by decide);have K:Qs w0.heap.size (fun e=>e=147∨e=140) W w7:=Qs.grown h.t gS (by decide);have K3:∀(T:TypeId→Prop),¬T 104→Qs w0.heap.size T w7 (w7.setCell ⟨mb,2,none⟩ v7):=fun T hT g cur e _ hTe hh=>by
  rw[Qu (fun e2=>?_)]
  ·exact hh
  ·subst e2;rw[hM]at hh;injection hh with hh;injection hh with _ h2;subst h2;exact hT hTe
 refine⟨hM,⟨Qp hM 2 v7,(h.c.keeps K (.inl rfl) (.inr rfl)).keeps (K3 (fun e=>e=147∨e=140) (by decide)) (.inl rfl) (.inr rfl),?_,Qr (Below.grown h.f gS h.f.size (fun j hj=>(h.t.lt j hj).1)) _ _ _ h.l,h.l⟩⟩;rw[List.length_append,List.map_append];exact Qd oS (K3 (fun e=>e=150) (by decide)) rfl
theorem QI{base:Nat}{T:TypeId→Prop}{w:World}{R o:Nat}{cur:Array Value}{t:TypeId}(hR:w.heap[R]?=some (.cells cur t (0,0)))(hT:¬T t)(x:Value):Qs base T w (w.setCell ⟨R,o,none⟩ x):=fun g c e _ hTe hh=>by
 rw[Qu (fun e2=>?_)]
 ·exact hh
 ·subst e2;rw[hR]at hh;injection hh with hh;injection hh with _ h2;subst h2;exact hT hTe
theorem MdI.fin{w0 mb E cs ts vc vt wr}(h:MdI w0 mb E cs ts vc vt wr){R:Nat}{a b c d:Value}(hR:wr.heap[R]?=some (.cells #[a,b,c,d] 104 (0,0)))(hl:w0.heap.size≤R)(W:World)
  (hW:W=(((wr.setCell ⟨R,0,none⟩ (.int .i64 0)).setCell ⟨R,1,none⟩ vc).setCell ⟨R,2,none⟩ vt).setCell ⟨R,3,none⟩ E):
  W.cell? ⟨R,0,none⟩=some (.int .i64 0)∧W.cell? ⟨R,1,none⟩=some vc∧W.cell? ⟨R,2,none⟩=some vt∧W.cell? ⟨R,3,none⟩=some E∧X1 W w0.heap.size cs vc∧W.ownsRow w0.heap.size 150 1 vt ts.length (ts.map QE)∧Below w0.heap.size w0 W:=by
 subst hW;have b0:=Qp hR 0 (.int .i64 0);have b1:=Qp b0 1 vc;have b2:=Qp b1 2 vt;have b3:=Qp b2 3 E;have q0:=Qa b3 0;have q1:=Qa b3 1;have q2:=Qa b3 2;have q3:=Qa b3 3;simp at q0 q1 q2 q3;have K:∀(T:TypeId→Prop),¬T 104→Qs w0.heap.size T wr ((((wr.setCell ⟨R,0,none⟩ (.int .i64 0)).setCell ⟨R,1,none⟩ vc).setCell ⟨R,2,none⟩ vt).setCell ⟨R,3,none⟩ E):=fun T hT=>
  (((QI hR hT (.int .i64 0)).trans (QI b0 hT vc)).trans (QI b1 hT vt)).trans (QI b2 hT E)
 exact⟨q0,q1,q2,q3,h.c.keeps (K (fun e=>e=147∨e=140) (by decide)) (.inl rfl) (.inr rfl),Qd h.t (K (fun e=>e=150) (by decide)) rfl,Qr (Qr (Qr (Qr h.f _ _ _ hl) _ _ _ hl) _ _ _ hl) _ _ _ hl⟩
noncomputable def X3(bs:List Ql)(st:Nat→Nat)(l:List QH):List QH:=(l.filter fun c=>rt st c.to.1==c.to.1).map (Yz (coF bs) (nm st))
noncomputable def JS(st:Nat→Nat)(l:List Qy):List Qy:=(l.filter fun t=>t.op != 99).map (Ko (nm st))
theorem QdM{bs:List Ql}{st:Nat→Nat}{l:List QH}{k:Nat}(hk:k<l.length)(h:rt st l[k].to.1=l[k].to.1):X3 bs st (l.take (k+1))=X3 bs st (l.take k)++[Yz (coF bs) (nm st) l[k]]:=by
 rw[X3,X3,List.take_succ_eq_append_getElem hk,List.filter_append,List.map_append];rw[List.filter_cons_of_pos (by simpa using h)];rfl
theorem Qf7{bs:List Ql}{st:Nat→Nat}{l:List QH}{k:Nat}(hk:k<l.length)(h:rt st l[k].to.1≠l[k].to.1):X3 bs st (l.take (k+1))=X3 bs st (l.take k):=by
 rw[X3,X3,List.take_succ_eq_append_getElem hk,List.filter_append,List.map_append];rw[List.filter_cons_of_neg (by simpa using h)];simp
theorem QdK{st:Nat→Nat}{l:List Qy}{k:Nat}(hk:k<l.length)(h:l[k].op≠99):JS st (l.take (k+1))=JS st (l.take k)++[Ko (nm st) l[k]]:=by
 rw[JS,JS,List.take_succ_eq_append_getElem hk,List.filter_append,List.map_append];rw[List.filter_cons_of_pos (by simpa using h)];rfl
theorem Qf6{st:Nat→Nat}{l:List Qy}{k:Nat}(hk:k<l.length)(h:l[k].op=99):JS st (l.take (k+1))=JS st (l.take k):=by
 rw[JS,JS,List.take_succ_eq_append_getElem hk,List.filter_append,List.map_append];rw[List.filter_cons_of_neg (by simpa using h)];simp
theorem QdN{bs:List Ql}{st:Nat→Nat}(l:List QH)(k:Nat):(X3 bs st (l.take k)).length≤l.length:=by
 rw[X3,List.length_map];exact Nat.le_trans (List.length_filter_le _ _) (by rw[List.length_take];omega)
theorem QdL{st:Nat→Nat}(l:List Qy)(k:Nat):(JS st (l.take k)).length≤l.length:=by
 rw[JS,List.length_map];exact Nat.le_trans (List.length_filter_le _ _) (by rw[List.length_take];omega)
theorem Qdb(bs:List Ql)(st:Nat→Nat)(n base B B3 pn ps m:Nat)(v va vu vs:Value)(w:World)(h:Grd w bs base B v va vu)(hs:StR w B3 n vs st)(hnm:NmI w n pn ps st)(hk:Hid (StK n st))(hm:Hid (MgK bs n st))(hlt:m<bs.length)(hel:Hid (bs[m].e.a.1<n))(hn:n≤100000):
  Calls Tryz.prog 105 #[.agg #[v,va,vu,v],.int .i64 m,vs,nmV pn ps] w fun e w'=>∃vc vt,e=.returned (.agg (QT (mgR (coF bs) st bs[m]) vc vt).toArray)∧Hid (Ks w' w.heap.size (mgR (coF bs) st bs[m]) vc vt∧Below w.heap.size w w'):=by
 obtain⟨⟨p,cp,rfl⟩,⟨pa,ca,rfl⟩,q,d,rfl⟩:=h.form;obtain⟨p2,c2,rfl⟩:=hs.slice;have H:=Qc (And.intro h (And.intro hs hnm));have hlen:=hm.out.rd.le;have hcl:=hm.out.cl _ (List.getElem_mem hlt);have hsl:=hm.out.sl _ (List.getElem_mem hlt);obtain⟨gv,qc,cc,pt,ct,rfl,_,hgv,hop,OC,OS,d0,d1,d2,d3⟩:=h.p.at hlt;have HOC:=Qc (And.intro OC OS);obtain⟨T,x,fe,hT,hem,het,hec⟩:=Qja st n pn ps bs[m].e hk hn hel.out hop;have HE:=Qc (And.intro hem (And.intro het hec));rw[hT]at d3;have D:∀o:Obj,(w.alloc o).cell? ⟨gv,m*4,none⟩=some (.int .i64 bs[m].at_)∧(w.alloc o).cell? ⟨gv,m*4+1,none⟩=some (.slice qc bs[m].chs.length cc)∧(w.alloc o).cell? ⟨gv,m*4+2,none⟩=some (.slice pt bs[m].sts.length ct)∧(w.alloc o).cell? ⟨gv,m*4+3,none⟩=some (.iface T x):=fun o=>by
  have F:=(Below.refl w.heap.size w).alloc (Nat.le_refl _) o;exact⟨(F.cell (p:=⟨gv,m*4,none⟩) hgv).trans d0,(F.cell (p:=⟨gv,m*4+1,none⟩) hgv).trans d1,(F.cell (p:=⟨gv,m*4+2,none⟩) hgv).trans d2,(F.cell (p:=⟨gv,m*4+3,none⟩) hgv).trans d3⟩
 have D0:=fun o=>(D o).1;have D1:=fun o=>(D o).2.1;have D2:=fun o=>(D o).2.2.1;have D3:=fun o=>(D o).2.2.2;clear h hs hnm D d0 d1 d2 d3 OC OS hT hem het hec;unfold nmV;go_enter Tryz.func105,Tryz.ntmps105;go_wp2_with fail;rw[HE.o.1,Result.andThen_ok];simp only[HE.o.2.1];unfold Oper.upon;have B0:=Qc (YB.start w #[.slice (some ⟨gv,0,none⟩) bs.length cp,.slice pa (Qx bs).length ca,.slice q bs.length d,.slice (some ⟨gv,0,none⟩) bs.length cp] #[.int .i64 0,.slice none 0 0,.slice none 0 0,.nilIface] #[.int .i64 bs[m].at_,.slice qc bs[m].chs.length cc,.slice pt bs[m].sts.length ct,.iface T x] 87 104 104);generalize ((w.alloc (.cells #[.slice (some ⟨gv,0,none⟩) bs.length cp,.slice pa (Qx bs).length ca,.slice q bs.length d,.slice (some ⟨gv,0,none⟩) bs.length cp] 87)).alloc (.cells #[.int .i64 0,.slice none 0 0,.slice none 0 0,.nilIface] 104)).alloc (.cells #[.int .i64 bs[m].at_,.slice qc bs[m].chs.length cc,.slice pt bs[m].sts.length ct,.iface T x] 104)=W at *;refine(HE.o.2.2 W (H.o.2.2.keeps B0.o.f)).mono ?_;rintro e w1 ⟨rfl,f1⟩;have H1:=Qc (B0.o.keeps f1);obtain⟨TE,xE,hTE⟩:=QU (XH (nm st) bs[m].e);rw[hTE];have HTE:=Qc hTE;clear f1 B0 D0 D1 D2 D3 HE hTE;have x1:∀o,(w1.alloc o).cell? ⟨w.heap.size+1+1,1,none⟩=some (.slice qc bs[m].chs.length cc):=fun o=>by have:=Qa (Qj H1.o.b2 o) 1;simpa using this
 go_wp2_with fail;clear x1;have B1:Hid (YB w (.cells #[.slice (some ⟨gv,0,none⟩) bs.length cp,.slice pa (Qx bs).length ca,.slice q bs.length d,.slice (some ⟨gv,0,none⟩) bs.length cp] 87 (0,0)) (.cells #[.int .i64 0,.slice none 0 0,.slice none 0 0,.nilIface] 104 (0,0)) (.cells #[.int .i64 bs[m].at_,.slice qc bs[m].chs.length cc,.slice pt bs[m].sts.length ct,.iface T x] 104 (0,0)) (w1.alloc (.cells #[.int .i64 0,.slice none 0 0,.slice none 0 0,.iface TE xE] 104))∧MdI w w1.heap.size (.iface TE xE) (X3 bs st (bs[m].chs.take 0)) (JS st (bs[m].sts.take 0)) (.slice none 0 0) (.slice none 0 0) (w1.alloc (.cells #[.int .i64 0,.slice none 0 0,.slice none 0 0,.iface TE xE] 104))):=by
  have F:=(Below.refl w1.heap.size w1).alloc (Nat.le_refl _) (.cells #[.int .i64 0,.slice none 0 0,.slice none 0 0,.iface TE xE] 104);refine⟨H1.o.keeps F,⟨heap_alloc_last _ _,⟨[],World.ownsRow_nil _ _ _ _,trivial⟩,World.ownsRow_nil _ _ _ _,H1.o.f.trans (F.mono H1.o.f.size),H1.o.f.size⟩⟩
 have hmbl:w.heap.size+2<w1.heap.size:=lt_of_block H1.o.b2;generalize w1.heap.size=mb at *;clear H1
 go_loopw [30] (fun i wr=>∃(k:Nat)(vc:Value),k≤bs[m].chs.length∧i=.int .i64 k∧Hid (YB w (.cells #[.slice (some ⟨gv,0,none⟩) bs.length cp,.slice pa (Qx bs).length ca,.slice q bs.length d,.slice (some ⟨gv,0,none⟩) bs.length cp] 87 (0,0)) (.cells #[.int .i64 0,.slice none 0 0,.slice none 0 0,.nilIface] 104 (0,0)) (.cells #[.int .i64 bs[m].at_,.slice qc bs[m].chs.length cc,.slice pt bs[m].sts.length ct,.iface T x] 104 (0,0)) wr∧MdI w mb (.iface TE xE) (X3 bs st (bs[m].chs.take k)) (JS st (bs[m].sts.take 0)) vc (.slice none 0 0) wr)) (fun i _=>bs[m].chs.length-(intOf i).toNat)
 case atStart=>exact⟨0,_,by omega,rfl,B1⟩
 case round=>
  clear B1;obtain⟨k,vc,hkl,rfl,HI⟩:=hrel;rename World=>wA;obtain⟨pv,cv,rfl⟩:=HI.o.2.c.slice;by_cases hql:k<bs[m].chs.length
  ·obtain⟨gc,pu,cu,rfl,_,_,hlr,hrow,e0,e1,e2⟩:=(HOC.o.1.keeps (Qi HI.o.1.f) trivial trivial).at hql;have HLR:=Qc (And.intro hlr hrow);clear hlr hrow;have HLOW:=Qc (hm.out.ch _ (List.getElem_mem hlt) _ (List.getElem_mem hql));have hto:=HLOW.o.to;obtain⟨dd,hu⟩:=hk.out.up _ hto;have HU:=Qc hu;have HLT:=Qc hk.out.lt;have hml:=QdN (bs:=bs) (st:=st) bs[m].chs k;clear hu;go_wp2_with fail;clear e0 e1 e2;have gW:=heap_alloc_last wA (.cells #[.int .i64 bs[m].chs[k].to.1,.int .i64 bs[m].chs[k].to.2,.slice pu bs[m].chs[k].gs.length cu] 140);have FW:=(Below.refl wA.heap.size wA).alloc (Nat.le_refl _) (.cells #[.int .i64 bs[m].chs[k].to.1,.int .i64 bs[m].chs[k].to.2,.slice pu bs[m].chs[k].gs.length cu] 140);have HW:=Qc (And.intro (HI.o.1.keeps FW) (And.intro (HI.o.2.keeps FW) (And.intro gW (show ChR _ base bs[m].chs[k] (.slice pu bs[m].chs[k].gs.length cu) from ⟨HLR.o.1,Qd HLR.o.2 (Qi FW) trivial⟩))));clear gW FW;generalize wA.alloc (.cells #[.int .i64 bs[m].chs[k].to.1,.int .i64 bs[m].chs[k].to.2,.slice pu bs[m].chs[k].gs.length cu] 140)=W1 at *;have z0:=Qa HW.o.2.2.1 0;simp at z0;have HST:=Qc (H.o.2.1.keeps HW.o.1.f);by_cases hrt:rt st bs[m].chs[k].to.1=bs[m].chs[k].to.1
   ·have hrt':((rt st bs[m].chs[k].to.1:Int)==(bs[m].chs[k].to.1:Int))=true:=by simp;omega
    have HN:=Qc (QdM (bs:=bs) hql hrt);clear hrt;refine V1 (S:=fun w'=>w'.cell? ⟨wA.heap.size,0,none⟩=some (.int .i64 bs[m].chs[k].to.1)) (L:=100) (by kernel_rfl) ?_;refine ZF (i:=0) (v:=?v0) (some 34) rfl rfl (by kernel_rfl) (by kernel_rfl) (by kernel_rfl) (by kernel_rfl) (fun _ _ _ h=>h) (Or.inl ⟨by rfl,?y0⟩) z0 ?r0
    case y0=>
     intro w t0;go_simp
     with_reducible rfl
    simp only[Act.put,List.setIfInBounds_toArray,List.set_cons_zero,List.set_cons_succ];refine ZF (i:=1) (v:=?v1) (some 35) rfl rfl (by kernel_rfl) (by kernel_rfl) (by kernel_rfl) (by kernel_rfl) (fun _ _ _ h=>h) (Or.inl ⟨by rfl,?y1⟩) z0 ?r1
    case y1=>
     intro w t0;go_simp
     with_reducible rfl
    simp only[Act.put,List.setIfInBounds_toArray,List.set_cons_zero,List.set_cons_succ];refine ZF (i:=2) (v:=?v2) (some 36) rfl rfl (by kernel_rfl) (by kernel_rfl) (by kernel_rfl) (by kernel_rfl) (fun _ _ _ h=>h) (Or.inl ⟨by rfl,?y2⟩) z0 ?r2
    case y2=>
     intro w t0;go_simp
     with_reducible rfl
    simp only[Act.put,List.setIfInBounds_toArray,List.set_cons_zero,List.set_cons_succ];refine ZF (i:=3) (v:=?v3) (some 37) rfl rfl (by kernel_rfl) (by kernel_rfl) (by kernel_rfl) (by kernel_rfl) (fun _ _ _ h=>h) (Or.inl ⟨by rfl,?y3⟩) z0 ?r3
    case y3=>
     intro w t0;go_simp
     with_reducible rfl
    simp only[Act.put,List.setIfInBounds_toArray,List.set_cons_zero,List.set_cons_succ];refine ZF (i:=5) (v:=?v5) (some 39) rfl rfl (by kernel_rfl) (by kernel_rfl) (by kernel_rfl) (by kernel_rfl) (fun _ _ _ h=>h) (Or.inl ⟨by rfl,?y5⟩) z0 ?r5
    case y5=>
     intro w t0;go_simp
     with_reducible rfl
    simp only[Act.put,List.setIfInBounds_toArray,List.set_cons_zero,List.set_cons_succ];refine ZF (i:=6) (v:=?v6) (some 40) rfl rfl (by kernel_rfl) (by kernel_rfl) (by kernel_rfl) (by kernel_rfl) (fun _ _ _ h=>h) (Or.inl ⟨by rfl,?y6⟩) z0 ?r6
    case y6=>
     intro w t0;go_simp
     with_reducible rfl
    simp only[Act.put,List.setIfInBounds_toArray,List.set_cons_zero,List.set_cons_succ];refine ZF (i:=7) (v:=?v7) (some 41) rfl rfl (by kernel_rfl) (by kernel_rfl) (by kernel_rfl) (by kernel_rfl) (fun _ _ _ h=>h) (Or.inl ⟨by rfl,?y7⟩) z0 ?r7
    case y7=>
     intro w t0;go_simp
     with_reducible rfl
    simp only[Act.put,List.setIfInBounds_toArray,List.set_cons_zero,List.set_cons_succ];refine YO (i:=4) rfl (by kernel_rfl) rfl (fun K hK=>?_);go_simp;refine(ofP st n bs[m].chs[k].to.1 (rt st bs[m].chs[k].to.1) dd B3 _ W1.drew HST.o HU HLT hto hn).mono ?_;rintro e w2 ⟨rfl,rfl⟩;refine hK.out _ _ (.inr z0) ?_;clear hK;refine YO (i:=8) rfl (by kernel_rfl) rfl (fun K hK=>?_);go_simp;refine hK.out _ _ (.inr z0) ?_;refine Qbl (by kernel_rfl) ?_ _;clear hK;have H2:Hid (YB w (.cells #[.slice (some ⟨gv,0,none⟩) bs.length cp,.slice pa (Qx bs).length ca,.slice q bs.length d,.slice (some ⟨gv,0,none⟩) bs.length cp] 87 (0,0)) (.cells #[.int .i64 0,.slice none 0 0,.slice none 0 0,.nilIface] 104 (0,0)) (.cells #[.int .i64 bs[m].at_,.slice (some ⟨gc,0,none⟩) bs[m].chs.length cc,.slice pt bs[m].sts.length ct,.iface T x] 104 (0,0)) W1.drew∧MdI w mb (.iface TE xE) (X3 bs st (bs[m].chs.take k)) (JS st (bs[m].sts.take 0)) (.slice pv (X3 bs st (bs[m].chs.take k)).length cv) (.slice none 0 0) W1.drew∧W1.drew.heap[wA.heap.size]?=some (.cells #[.int .i64 bs[m].chs[k].to.1,.int .i64 bs[m].chs[k].to.2,.slice pu bs[m].chs[k].gs.length cu] 140 (0,0))∧ChR W1.drew base bs[m].chs[k] (.slice pu bs[m].chs[k].gs.length cu)):=⟨HW.o.1.keeps (QM W1),HW.o.2.1.keeps (QM W1),HW.o.2.2.1,HW.o.2.2.2.keeps (QM W1)⟩;clear z0 HST HU HLT hrt' HW;generalize W1.drew=W2 at *;go_wp2_with fail;have HSS:Hid (∀w':World,w'.heap[w.heap.size]?=some (.cells #[.slice (some ⟨gv,0,none⟩) bs.length cp,.slice pa (Qx bs).length ca,.slice q bs.length d,.slice (some ⟨gv,0,none⟩) bs.length cp] 87 (0,0))→w'.heap[mb]?=some (.cells #[.int .i64 0,.slice pv (X3 bs st (bs[m].chs.take k)).length cv,.slice none 0 0,.iface TE xE] 104 (0,0))→w'.heap[wA.heap.size]?=some (.cells #[.int .i64 bs[m].chs[k].to.1,.int .i64 bs[m].chs[k].to.2,.slice pu bs[m].chs[k].gs.length cu] 140 (0,0))→w'.cell? ⟨w.heap.size,0,none⟩=some (.slice (some ⟨gv,0,none⟩) bs.length cp)∧w'.cell? ⟨w.heap.size,1,none⟩=some (.slice pa (Qx bs).length ca)∧w'.cell? ⟨w.heap.size,2,none⟩=some (.slice q bs.length d)∧w'.cell? ⟨w.heap.size,3,none⟩=some (.slice (some ⟨gv,0,none⟩) bs.length cp)∧w'.cell? ⟨wA.heap.size,0,none⟩=some (.int .i64 bs[m].chs[k].to.1)∧w'.cell? ⟨wA.heap.size,1,none⟩=some (.int .i64 bs[m].chs[k].to.2)∧w'.cell? ⟨wA.heap.size,2,none⟩=some (.slice pu bs[m].chs[k].gs.length cu)∧w'.cell? ⟨mb,1,none⟩=some (.slice pv (X3 bs st (bs[m].chs.take k)).length cv)):=by
     intro w' hR hM hb;have x0:=Qa hR 0;have x1:=Qa hR 1;have x2:=Qa hR 2;have x3:=Qa hR 3;have y0:=Qa hb 0;have y1:=Qa hb 1;have y2:=Qa hb 2;have m1:=Qa hM 1;simp at x0 x1 x2 x3 y0 y1 y2 m1;exact⟨x0,x1,x2,x3,y0,y1,y2,m1⟩
    refine V1 (S:=fun w'=>w'.cell? ⟨w.heap.size,0,none⟩=some (.slice (some ⟨gv,0,none⟩) bs.length cp)∧w'.cell? ⟨w.heap.size,1,none⟩=some (.slice pa (Qx bs).length ca)∧w'.cell? ⟨w.heap.size,2,none⟩=some (.slice q bs.length d)∧w'.cell? ⟨w.heap.size,3,none⟩=some (.slice (some ⟨gv,0,none⟩) bs.length cp)∧w'.cell? ⟨wA.heap.size,0,none⟩=some (.int .i64 bs[m].chs[k].to.1)∧w'.cell? ⟨wA.heap.size,1,none⟩=some (.int .i64 bs[m].chs[k].to.2)∧w'.cell? ⟨wA.heap.size,2,none⟩=some (.slice pu bs[m].chs[k].gs.length cu)∧w'.cell? ⟨mb,1,none⟩=some (.slice pv (X3 bs st (bs[m].chs.take k)).length cv)) (L:=9) (by kernel_rfl) ?_;have hS0:=HSS.o W2.drew H2.o.1.b0 H2.o.2.1.m H2.o.2.2.1;refine ZF (i:=0) (v:=?vb0) (some 43) rfl rfl (by kernel_rfl) (by kernel_rfl) (by kernel_rfl) (by kernel_rfl) (fun _ _ _ h=>h) (Or.inl ⟨by rfl,?yb0⟩) hS0 ?rb0
    case yb0=>
     rintro w ⟨t0,t1,t2,t3,t4,t5,t6,t7⟩;go_simp
     with_reducible rfl
    simp only[Act.put,List.setIfInBounds_toArray,List.set_cons_zero,List.set_cons_succ];refine ZF (i:=1) (v:=?vb1) (some 44) rfl rfl (by kernel_rfl) (by kernel_rfl) (by kernel_rfl) (by kernel_rfl) (fun _ _ _ h=>h) (Or.inl ⟨by rfl,?yb1⟩) hS0 ?rb1
    case yb1=>
     rintro w ⟨t0,t1,t2,t3,t4,t5,t6,t7⟩;go_simp
     with_reducible rfl
    simp only[Act.put,List.setIfInBounds_toArray,List.set_cons_zero,List.set_cons_succ];refine ZF (i:=2) (v:=?vb2) (some 45) rfl rfl (by kernel_rfl) (by kernel_rfl) (by kernel_rfl) (by kernel_rfl) (fun _ _ _ h=>h) (Or.inl ⟨by rfl,?yb2⟩) hS0 ?rb2
    case yb2=>
     rintro w ⟨t0,t1,t2,t3,t4,t5,t6,t7⟩;go_simp
     with_reducible rfl
    simp only[Act.put,List.setIfInBounds_toArray,List.set_cons_zero,List.set_cons_succ];refine ZF (i:=3) (v:=?vb3) (some 46) rfl rfl (by kernel_rfl) (by kernel_rfl) (by kernel_rfl) (by kernel_rfl) (fun _ _ _ h=>h) (Or.inl ⟨by rfl,?yb3⟩) hS0 ?rb3
    case yb3=>
     rintro w ⟨t0,t1,t2,t3,t4,t5,t6,t7⟩;go_simp
     with_reducible rfl
    simp only[Act.put,List.setIfInBounds_toArray,List.set_cons_zero,List.set_cons_succ];refine ZF (i:=4) (v:=?vb4) (some 47) rfl rfl (by kernel_rfl) (by kernel_rfl) (by kernel_rfl) (by kernel_rfl) (fun _ _ _ h=>h) (Or.inl ⟨by rfl,?yb4⟩) hS0 ?rb4
    case yb4=>
     rintro w ⟨t0,t1,t2,t3,t4,t5,t6,t7⟩;go_simp
     with_reducible rfl
    simp only[Act.put,List.setIfInBounds_toArray,List.set_cons_zero,List.set_cons_succ];clear hS0;refine YO (i:=5) rfl (by kernel_rfl) rfl (fun K hK=>?_);go_simp;refine(Qfv bs st n base B base pn ps bs[m].chs[k] _ _ _ _ W2.drew (H.o.1.keeps (H2.o.1.f.trans ((QM W2).mono H2.o.1.f.size))) (H2.o.2.2.2.keeps (QM W2)) (H.o.2.2.keeps (H2.o.1.f.trans ((QM W2).mono H2.o.1.f.size))) hk HLOW (by omega) hn).mono ?_;rintro e w3 ⟨v3,rfl,H3⟩;obtain⟨p3,c3,rfl⟩:=Qb H3.o.1.row;have f3:Below W2.heap.size W2 w3:=Ja H3.o.2;have hc3:ChR w3 w.heap.size (Yz (coF bs) (nm st) bs[m].chs[k]) (.slice p3 (Yz (coF bs) (nm st) bs[m].chs[k]).gs.length c3):=⟨H3.o.1.len,Qm H3.o.1.row (show w.heap.size≤W2.heap.size from H2.o.1.f.size)⟩;have eg:(Yz (coF bs) (nm st) bs[m].chs[k]).gs.length=bs[m].chs[k].gs.length:=List.length_map _;rw[eg]at hc3 ⊢;have H4:=Qc (And.intro (H2.o.1.keeps f3) (And.intro (H2.o.2.1.keeps f3) (And.intro ((f3.block _ (lt_of_block H2.o.2.2.1)).trans H2.o.2.2.1) hc3)));refine hK.out _ _ (.inr (HSS.o _ H4.o.1.b0 H4.o.2.1.m H4.o.2.2.1)) ?_;clear hK H3 f3 hc3 eg;refine YO (i:=6) rfl (by kernel_rfl) rfl (fun K hK=>?_);go_simp;have FA:=(Below.refl w3.heap.size w3).alloc (Nat.le_refl _) (.cells #[.int .i64 (nm st bs[m].chs[k].to.1),.int .i64 0,.slice p3 bs[m].chs[k].gs.length c3] 140);have gA:=heap_alloc_last w3 (.cells #[.int .i64 (nm st bs[m].chs[k].to.1),.int .i64 0,.slice p3 bs[m].chs[k].gs.length c3] 140);have H5:=Qc (And.intro (H4.o.1.keeps FA) (And.intro (H4.o.2.1.keeps FA) (And.intro ((FA.block _ (lt_of_block H4.o.2.2.1)).trans H4.o.2.2.1) (H4.o.2.2.2.keeps FA))));refine hK.out _ _ (.inr (HSS.o _ H5.o.1.b0 H5.o.2.1.m H5.o.2.2.1)) ?_;clear hK FA H4;generalize w3.alloc (.cells #[.int .i64 (nm st bs[m].chs[k].to.1),.int .i64 0,.slice p3 bs[m].chs[k].gs.length c3] 140)=W5 at *;obtain⟨vs5,ha5,hb5⟩:=H5.o.2.1.c;have HAB:=Qc (And.intro ha5 hb5);refine YO (i:=7) rfl (by kernel_rfl) rfl (fun K hK=>?_);refine Wr Tryz.underlying99 Tryz.info140 rfl (by decide) (by decide) rfl _ _ rfl rfl ha5 gA rfl rfl (List.all_eq_true.1 rfl) (by omega) H5.o.1.f.size ?_;intro v7 w7 oS gS nS;have oS:w7.ownsRow w.heap.size 140 3 v7 ((X3 bs st (bs[m].chs.take k)).length+1) (XT (X3 bs st (bs[m].chs.take k)) vs5++J4 (Yz (coF bs) (nm st) bs[m].chs[k]) (.slice p3 bs[m].chs[k].gs.length c3)):=oS;have h5:=Q7 HAB.o.1 gS H5.o.1.b0 (by decide);have hb7:w7.heap[wA.heap.size]?=some (.cells #[.int .i64 bs[m].chs[k].to.1,.int .i64 bs[m].chs[k].to.2,.slice pu bs[m].chs[k].gs.length cu] 140 (0,0)):=Qz gS H5.o.2.2.1 (fun j hj e=>by
     obtain⟨vsA,aA,_⟩:=HI.o.2.c;have:=(aA.lt j hj).2;omega)
    obtain⟨h6,h7⟩:=H5.o.2.1.growC HAB.o.1 HAB.o.2 H5.o.2.2.2 oS gS;have H7:Hid (YB w (.cells #[.slice (some ⟨gv,0,none⟩) bs.length cp,.slice pa (Qx bs).length ca,.slice q bs.length d,.slice (some ⟨gv,0,none⟩) bs.length cp] 87 (0,0)) (.cells #[.int .i64 0,.slice none 0 0,.slice none 0 0,.nilIface] 104 (0,0)) (.cells #[.int .i64 bs[m].at_,.slice (some ⟨gc,0,none⟩) bs[m].chs.length cc,.slice pt bs[m].sts.length ct,.iface T x] 104 (0,0)) (w7.setCell ⟨mb,1,none⟩ v7)∧MdI w mb (.iface TE xE) (X3 bs st (bs[m].chs.take (k+1))) (JS st (bs[m].sts.take 0)) v7 (.slice none 0 0) (w7.setCell ⟨mb,1,none⟩ v7)):=by
     refine⟨⟨?_,?_,?_,h7.f⟩,by rw[HN.o];exact h7⟩
     ·rw[Qu (by omega)];exact h5
     ·rw[Qu (by omega)];exact Q7 HAB.o.1 gS H5.o.1.b1 (by decide)
     ·rw[Qu (by omega)];exact Q7 HAB.o.1 gS H5.o.1.b2 (by decide)
    obtain⟨p7,c7,rfl⟩:=Qb oS;have hS7:=HSS.o _ h5 h6 hb7;refine hK.out _ _ (.inr hS7) ?_;have m7:=Qa h6 1;have f7:=Qf h6 1;simp at m7;clear hK oS gS nS h5 h6 h7 hb7 gA ha5 hb5;change XL Tryz.prog _ _ _ _ _ _ _ (Act.put _ (some 50) _) _;simp only[Act.put,List.setIfInBounds_toArray,List.set_cons_zero,List.set_cons_succ];refine ZF (i:=8) (v:=?vb8) (some 51) rfl rfl (by kernel_rfl) (by kernel_rfl) (by kernel_rfl) (by kernel_rfl) (fun _ _ _ h=>h) (Or.inl ⟨by rfl,?yb8⟩) hS7 ?rb8
    case yb8=>
     rintro w ⟨t0,t1,t2,t3,t4,t5,t6,t7⟩;go_simp
     with_reducible rfl
    simp only[Act.put,List.setIfInBounds_toArray,List.set_cons_zero,List.set_cons_succ];clear hS7;refine YO (i:=9) rfl (by kernel_rfl) rfl (fun K hK=>?_);go_simp;refine hK.out _ _ (.inl rfl) ?_;refine Qbl (by kernel_rfl) ?_ _;clear hK;go_wp2_with fail;go_roundw
    case rel=>exact⟨k+1,_,by omega,by go_num,H7⟩
    case measure=>simp[intOf];omega
   ·have hrt':((rt st bs[m].chs[k].to.1:Int)==(bs[m].chs[k].to.1:Int))=false:=by simp;omega
    have HN:=Qc (Qf7 (bs:=bs) hql hrt);have HD:=Qc (And.intro (HW.o.1.keeps (QM W1)) (HW.o.2.1.keeps (QM W1)));clear hrt
    go_region_law (first | (refine ZN rfl 152 #[.slice p2 n c2,.int .i64 bs[m].chs[k].to.1] (by go_simp) (ofP st n bs[m].chs[k].to.1 (rt st bs[m].chs[k].to.1) dd B3 _ W1.drew HST.o HU HLT hto hn) ?_;rintro e w2 ⟨rfl,rfl⟩) | fail)
    all_goals
     go_wp2_with fail;go_roundw
     case rel=>exact⟨k+1,_,by omega,by go_num,HD.o.1,by rw[HN.o];exact HD.o.2⟩
     case measure=>simp[intOf];omega
  ·have hke:k=bs[m].chs.length:=by omega
   have HN:Hid (X3 bs st (bs[m].chs.take k)=X3 bs st bs[m].chs):=by show _=_;rw[hke,List.take_length]
   rw[HN.o]at HI;have x2:=Qa HI.o.1.b2 2;simp at x2;clear hke HN;go_wp2_with fail;clear x2
   go_loopw [56] (fun i wr=>∃(j:Nat)(vt:Value),j≤bs[m].sts.length∧i=.int .i64 j∧Hid (YB w (.cells #[.slice (some ⟨gv,0,none⟩) bs.length cp,.slice pa (Qx bs).length ca,.slice q bs.length d,.slice (some ⟨gv,0,none⟩) bs.length cp] 87 (0,0)) (.cells #[.int .i64 0,.slice none 0 0,.slice none 0 0,.nilIface] 104 (0,0)) (.cells #[.int .i64 bs[m].at_,.slice qc bs[m].chs.length cc,.slice pt bs[m].sts.length ct,.iface T x] 104 (0,0)) wr∧MdI w mb (.iface TE xE) (X3 bs st bs[m].chs) (JS st (bs[m].sts.take j)) (.slice pv (X3 bs st bs[m].chs).length cv) vt wr)) (fun i _=>bs[m].sts.length-(intOf i).toNat)
   case atStart=>exact⟨0,_,by omega,rfl,HI⟩
   case round=>
    clear HI;obtain⟨j,vt,hjl,rfl,HJ⟩:=hrel;rename World=>wC;obtain⟨py,cy,rfl⟩:=Qb HJ.o.2.t;by_cases hjt:j<bs[m].sts.length
    ·have OSC:=Qd HOC.o.2 (Qi HJ.o.1.f) trivial;obtain⟨gs,rfl,_,_⟩:=Qh OSC (by omega);have hml:=QdL (st:=st) bs[m].sts j;by_cases h99:bs[m].sts[j].op=99
     ·have hsv:QE bs[m].sts[j]=.iface 142 (.agg #[.int .i64 bs[m].sts[j].to.1,.int .i64 bs[m].sts[j].to.2,.int .i64 bs[m].sts[j].a.1,.int .i64 bs[m].sts[j].a.2]):=by rw[QE,if_neg (by omega),if_pos h99]
      have cS:=Qe OSC (j:=j) (u:=.iface 142 (.agg #[.int .i64 bs[m].sts[j].to.1,.int .i64 bs[m].sts[j].to.2,.int .i64 bs[m].sts[j].a.1,.int .i64 bs[m].sts[j].a.2])) (by rw[←hsv];simp[hjt]);have HN:=Qc (Qf6 (st:=st) hjt h99);have hta:=QcK bs[m].sts[j].to.1 bs[m].sts[j].to.2 bs[m].sts[j].a.1 bs[m].sts[j].a.2;have FW:=(Below.refl wC.heap.size wC).alloc (Nat.le_refl _) (.cells #[.int .i64 bs[m].sts[j].to.1,.int .i64 bs[m].sts[j].to.2,.int .i64 bs[m].sts[j].a.1,.int .i64 bs[m].sts[j].a.2] 142);have HW:=Qc (And.intro (HJ.o.1.keeps FW) (HJ.o.2.keeps FW));clear h99 hsv OSC FW;go_wp2_with fail;go_roundw
      case rel=>exact⟨j+1,_,by omega,by go_num,HW.o.1,by rw[HN.o];exact HW.o.2⟩
      case measure=>simp[intOf];omega
     ·obtain⟨T3,x3,hsv3,hta⟩:=QiJ bs[m].sts[j] h99;obtain⟨T2,x2,fr,hsv,hgm,hgt,hgc⟩:=Qhm st n pn ps bs[m].sts[j] hk hn (hm.out.st _ (List.getElem_mem hlt) _ (List.getElem_mem hjt)) h99;rw[hsv]at hsv3;injection hsv3 with e1 e2;subst e1 e2;have cS:=Qe OSC (j:=j) (u:=.iface T2 x2) (by rw[←hsv];simp[hjt]);have HN:=Qc (QdK (st:=st) hjt h99);have HG:=Qc (And.intro hgm (And.intro hgt hgc));have FW:=(Below.refl wC.heap.size wC).alloc (Nat.le_refl _) (.cells #[.int .i64 0,.int .i64 0,.int .i64 0,.int .i64 0] 142);have HW:=Qc (And.intro (HJ.o.1.keeps FW) (HJ.o.2.keeps FW));clear h99 hsv OSC FW hgm hgt hgc;go_wp2_with fail;clear cS hta;generalize wC.alloc (.cells #[.int .i64 0,.int .i64 0,.int .i64 0,.int .i64 0] 142)=W1 at *;have m0:=Qa HW.o.2.m 2;simp at m0;refine V1 (S:=fun w'=>w'.cell? ⟨mb,2,none⟩=some (.slice py (JS st (bs[m].sts.take j)).length cy)) (L:=9) (by kernel_rfl) ?_;refine ZF (i:=0) (v:=?vc0) (some 67) rfl rfl (by kernel_rfl) (by kernel_rfl) (by kernel_rfl) (by kernel_rfl) (fun _ _ _ h=>h) (Or.inl ⟨by rfl,?yc0⟩) m0 ?rc0
      case yc0=>
       intro w t0;go_simp
       with_reducible rfl
      simp only[Act.put,List.setIfInBounds_toArray,List.set_cons_zero,List.set_cons_succ];refine ZF (i:=1) (v:=?vc1) (some 68) rfl rfl (by kernel_rfl) (by kernel_rfl) (by kernel_rfl) (by kernel_rfl) (fun _ _ _ h=>h) (Or.inl ⟨by rfl,?yc1⟩) m0 ?rc1
      case yc1=>
       intro w t0;go_simp
       with_reducible rfl
      simp only[Act.put,List.setIfInBounds_toArray,List.set_cons_zero,List.set_cons_succ];refine ZF (i:=2) (v:=?vc2) (some 69) rfl rfl (by kernel_rfl) (by kernel_rfl) (by kernel_rfl) (by kernel_rfl) (fun _ _ _ h=>h) (Or.inl ⟨by rfl,?yc2⟩) m0 ?rc2
      case yc2=>
       intro w t0;go_simp
       with_reducible rfl
      simp only[Act.put,List.setIfInBounds_toArray,List.set_cons_zero,List.set_cons_succ];refine ZF (i:=3) (v:=?vc3) (some 70) rfl rfl (by kernel_rfl) (by kernel_rfl) (by kernel_rfl) (by kernel_rfl) (fun _ _ _ h=>h) (Or.inl ⟨by rfl,?yc3⟩) m0 ?rc3
      case yc3=>
       intro w t0;go_simp
       with_reducible rfl
      simp only[Act.put,List.setIfInBounds_toArray,List.set_cons_zero,List.set_cons_succ];refine ZF (i:=4) (v:=?vc4) (some 71) rfl rfl (by kernel_rfl) (by kernel_rfl) (by kernel_rfl) (by kernel_rfl) (fun _ _ _ h=>h) (Or.inl ⟨by rfl,?yc4⟩) m0 ?rc4
      case yc4=>
       intro w t0;go_simp
       with_reducible rfl
      simp only[Act.put,List.setIfInBounds_toArray,List.set_cons_zero,List.set_cons_succ];refine YO (i:=5) rfl (by kernel_rfl) rfl (fun K hK=>?_);go_simp;rw[HG.o.1,Result.andThen_ok];simp only[HG.o.2.1];unfold Oper.upon;refine(HG.o.2.2 W1.drew (H.o.2.2.keeps (HW.o.1.f.trans ((QM W1).mono HW.o.1.f.size)))).mono ?_;rintro e w3 ⟨rfl,f3'⟩;have f3:Below W1.heap.size W1 w3:=Ja f3';have H4:=Qc (And.intro (HW.o.1.keeps f3) (HW.o.2.keeps f3));have m4:=Qa H4.o.2.m 2;simp at m4;obtain⟨T4,x4,hsv4⟩:=K4 (Ko (nm st) bs[m].sts[j]);rw[hsv4];have HSV:=Qc hsv4;refine hK.out _ _ (.inr m4) ?_;clear hK f3 f3' hsv4 HG m0 HW;refine YO (i:=6) rfl (by kernel_rfl) rfl (fun K hK=>?_);go_simp;have FA:=(Below.refl w3.heap.size w3).alloc (Nat.le_refl _) (.cells #[.iface T4 x4] 150);have gA:=heap_alloc_last w3 (.cells #[.iface T4 x4] 150);have H5:=Qc (And.intro (H4.o.1.keeps FA) (H4.o.2.keeps FA));have m5:=Qa H5.o.2.m 2;simp at m5;generalize w3.alloc (.cells #[.iface T4 x4] 150)=W5 at *;refine hK.out _ _ (.inr m5) ?_;clear hK FA H4 m4;refine YO (i:=7) rfl (by kernel_rfl) rfl (fun K hK=>?_);refine Wr Tryz.underlying100 Tryz.info150 rfl (by decide) (by decide) rfl _ _ rfl rfl H5.o.2.t gA rfl rfl (List.all_eq_true.1 rfl) (by omega) H5.o.1.f.size ?_;intro v7 w7 oS gS nS;have oS:w7.ownsRow w.heap.size 150 1 v7 ((JS st (bs[m].sts.take j)).length+1) ((JS st (bs[m].sts.take j)).map QE++[QE (Ko (nm st) bs[m].sts[j])]):=by rw[HSV.o];exact oS
      obtain⟨h6,h7⟩:=H5.o.2.growS oS gS;have H7:Hid (YB w (.cells #[.slice (some ⟨gv,0,none⟩) bs.length cp,.slice pa (Qx bs).length ca,.slice q bs.length d,.slice (some ⟨gv,0,none⟩) bs.length cp] 87 (0,0)) (.cells #[.int .i64 0,.slice none 0 0,.slice none 0 0,.nilIface] 104 (0,0)) (.cells #[.int .i64 bs[m].at_,.slice qc bs[m].chs.length cc,.slice (some ⟨gs,0,none⟩) bs[m].sts.length ct,.iface T x] 104 (0,0)) (w7.setCell ⟨mb,2,none⟩ v7)∧MdI w mb (.iface TE xE) (X3 bs st bs[m].chs) (JS st (bs[m].sts.take (j+1))) (.slice pv (X3 bs st bs[m].chs).length cv) v7 (w7.setCell ⟨mb,2,none⟩ v7)):=by
       refine⟨⟨?_,?_,?_,h7.f⟩,by rw[HN.o];exact h7⟩
       ·rw[Qu (by omega)];exact Q7 H5.o.2.t gS H5.o.1.b0 (by decide)
       ·rw[Qu (by omega)];exact Q7 H5.o.2.t gS H5.o.1.b1 (by decide)
       ·rw[Qu (by omega)];exact Q7 H5.o.2.t gS H5.o.1.b2 (by decide)
      obtain⟨p7,c7,rfl⟩:=Qb oS;have m7:=Qa h6 2;have f7:=Qf h6 2;simp at m7;refine hK.out _ _ (.inr m7) ?_;clear hK oS gS nS h6 h7 gA m5;change XL Tryz.prog _ _ _ _ _ _ _ (Act.put _ (some 74) _) _;simp only[Act.put,List.setIfInBounds_toArray,List.set_cons_zero,List.set_cons_succ];refine ZF (i:=8) (v:=?vc8) (some 75) rfl rfl (by kernel_rfl) (by kernel_rfl) (by kernel_rfl) (by kernel_rfl) (fun _ _ _ h=>h) (Or.inl ⟨by rfl,?yc8⟩) m7 ?rc8
      case yc8=>
       intro w t0;go_simp
       with_reducible rfl
      simp only[Act.put,List.setIfInBounds_toArray,List.set_cons_zero,List.set_cons_succ];refine YO (i:=9) rfl (by kernel_rfl) rfl (fun K hK=>?_);go_simp;refine hK.out _ _ (.inl rfl) ?_;refine Qbl (by kernel_rfl) ?_ _;clear hK;go_wp2_with fail;go_roundw
      case rel=>exact⟨j+1,_,by omega,by go_num,H7⟩
      case measure=>simp[intOf];omega
    ·have hje:j=bs[m].sts.length:=by omega
     have HN2:Hid (JS st (bs[m].sts.take j)=JS st bs[m].sts):=by show _=_;rw[hje,List.take_length]
     rw[HN2.o]at HJ;have x0:=Qa HJ.o.2.m 0;have x1:=Qa HJ.o.2.m 1;have x2:=Qa HJ.o.2.m 2;have x3:=Qa HJ.o.2.m 3;have n0:=Qa HJ.o.1.b1 0;have n1:=Qa HJ.o.1.b1 1;have n2:=Qa HJ.o.1.b1 2;have n3:=Qa HJ.o.1.b1 3;have nf0:=Qf HJ.o.1.b1 0;have nf1:=Qf HJ.o.1.b1 1;have nf2:=Qf HJ.o.1.b1 2;have nf3:=Qf HJ.o.1.b1 3;simp at x0 x1 x2 x3 n0 n1 n2 n3;clear hje HN2;have HF:=Qc (HJ.o.2.fin HJ.o.1.b1 (Nat.le_succ _));go_wp2_with fail;obtain⟨W9,hW9⟩:∃W9,W9=(((wC.setCell ⟨w.heap.size+1,0,none⟩ (.int .i64 0)).setCell ⟨w.heap.size+1,1,none⟩ (.slice pv (X3 bs st bs[m].chs).length cv)).setCell ⟨w.heap.size+1,2,none⟩ (.slice py (JS st bs[m].sts).length cy)).setCell ⟨w.heap.size+1,3,none⟩ (.iface TE xE):=⟨_,rfl⟩;obtain⟨q0,q1,q2,q3,hc,ht,hf⟩:=HF.o _ hW9;rw[←hW9];refine bodyPost_ret (v:=.agg #[.int .i64 0,.slice pv (X3 bs st bs[m].chs).length cv,.slice py (JS st bs[m].sts).length cy,.iface TE xE]) (by simp[results,Tryz.results105,go_sem,q0,q1,q2,q3]) rfl ⟨_,_,?_,⟨hc,ht⟩,hf⟩;rw[QT,show (mgR (coF bs) st bs[m]).e=XH (nm st) bs[m].e from rfl,HTE.o];rfl
end Go.Proofs.YtgfhfkgdmidhpaaGreatDoor
