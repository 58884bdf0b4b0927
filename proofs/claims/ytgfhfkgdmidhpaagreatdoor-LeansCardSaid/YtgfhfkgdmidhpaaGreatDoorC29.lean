import Derived.Test.YtgfhfkgdmidhpaaGreatDoorC28
namespace Go.Proofs.YtgfhfkgdmidhpaaGreatDoor
open Go.RowKit Go.Maps
set_option maxRecDepth 100000
set_option maxHeartbeats 8000000
structure MdJ(w0:World)(bx:Nat)(a0 a1:Array Value)(E:Value)(cs:List QH)(ts:List Qy)(vc vt:Value)(wr:World):Prop where
 b0:wr.heap[w0.heap.size]?=some (.cells a0 104 (0,0))
 b1:wr.heap[w0.heap.size+1]?=some (.cells a1 104 (0,0))
 m:wr.heap[w0.heap.size+1+1]?=some (.cells #[.int .i64 0,vc,vt,E] 104 (0,0))
 c:∃vs,wr.ownsRow w0.heap.size 140 3 vc cs.length (XT cs vs)∧Zh wr bx cs vs
 t:wr.ownsRow w0.heap.size 150 1 vt ts.length (ts.map QE)
 f:Below w0.heap.size w0 wr
theorem MdJ.keeps{w0 bx a0 a1 E cs ts vc vt wr wr'}(h:MdJ w0 bx a0 a1 E cs ts vc vt wr)(F:Below wr.heap.size wr wr'):MdJ w0 bx a0 a1 E cs ts vc vt wr':=by
 obtain⟨b0,b1,m,⟨vs,ca,cb⟩,t,f⟩:=h;exact⟨by rw[F.block _ (lt_of_block b0)];exact b0,by rw[F.block _ (lt_of_block b1)];exact b1,by rw[F.block _ (lt_of_block m)];exact m,⟨vs,Qd ca (Qi F) trivial,cb.keeps (Qi F) trivial⟩,Qd t (Qi F) trivial,f.trans (F.mono f.size)⟩
theorem MdJ.slice{w0 bx a0 a1 E cs ts vc vt wr}(h:MdJ w0 bx a0 a1 E cs ts vc vt wr):(∃p c,vc=.slice p cs.length c)∧∃p c,vt=.slice p ts.length c:=by
 obtain⟨vs,ca,_⟩:=h.c;exact⟨Qb ca,Qb h.t⟩
theorem MdJ.growC{w0 bx a0 a1 E cs ts vc vt W w7 v7 vS}{vs:List Value}{c:QH}(h:MdJ w0 bx a0 a1 E cs ts vc vt W)(ha:W.ownsRow w0.heap.size 140 3 vc cs.length (XT cs vs))(hb:Zh W bx cs vs)(hc:ChR W bx c vS)
  (oS:w7.ownsRow w0.heap.size 140 3 v7 (cs.length+1) (XT cs vs++J4 c vS))(gS:W.grownBy w7 vc.ownBlock):
  w7.heap[w0.heap.size+1+1]?=some (.cells #[.int .i64 0,vc,vt,E] 104 (0,0))∧MdJ w0 bx a0 a1 E (cs++[c]) ts v7 vt (w7.setCell ⟨w0.heap.size+1+1,1,none⟩ v7):=by
 have hM:=Q7 ha gS h.m (by decide);have K:Qs bx (fun e=>e=147) W w7:=fun k cc e _ hT hh=>by
  subst hT;exact Q7 ha gS hh (by decide)
 have K2:Qs w0.heap.size (fun e=>e=150) W w7:=fun k cc e _ hT hh=>by
  subst hT;exact Q7 ha gS hh (by decide)
 refine⟨hM,⟨?_,?_,Qp hM 1 v7,⟨vs++[vS],?_,?_⟩,Qd (Qd h.t K2 rfl) (QI (T:=fun e=>e=150) hM (by decide) v7) rfl,Qr (Below.grown h.f gS h.f.size (fun j hj=>(ha.lt j hj).1)) _ _ _ (by omega)⟩⟩
 ·rw[Qu (by omega)];exact Q7 ha gS h.b0 (by decide)
 ·rw[Qu (by omega)];exact Q7 ha gS h.b1 (by decide)
 ·rw[KC _ _ hb.len,List.length_append];exact Qd oS (QI (T:=fun e=>e=140) hM (by decide) v7) rfl
 ·exact Zh.snoc hc.len (Qd (Qd hc.row K rfl) (QI (T:=fun e=>e=147) hM (by decide) v7) rfl) ((hb.keeps K rfl).keeps (QI (T:=fun e=>e=147) hM (by decide) v7) rfl)
theorem MdJ.growS{w0 bx a0 a1 E cs ts vc vt W w7 v7}{t:Qy}(h:MdJ w0 bx a0 a1 E cs ts vc vt W)
  (oS:w7.ownsRow w0.heap.size 150 1 v7 (ts.length+1) (ts.map QE++[QE t]))(gS:W.grownBy w7 vt.ownBlock):
  w7.heap[w0.heap.size+1+1]?=some (.cells #[.int .i64 0,vc,vt,E] 104 (0,0))∧MdJ w0 bx a0 a1 E cs (ts++[t]) vc v7 (w7.setCell ⟨w0.heap.size+1+1,2,none⟩ v7):=by
 have hM:=Q7 h.t gS h.m (by decide);obtain⟨vs,ca,cb⟩:=h.c;have K:∀b,Qs b (fun e=>e=147∨e=140) W w7:=fun b k cc e _ hT hh=>by
  rcases hT with hT|hT<;>(subst hT;exact Q7 h.t gS hh (by decide))
 have K3:∀b,Qs b (fun e=>e=147∨e=140) w7 (w7.setCell ⟨w0.heap.size+1+1,2,none⟩ v7):=fun b=>QI hM (by decide) v7;refine⟨hM,⟨?_,?_,Qp hM 2 v7,⟨vs,Qd (Qd ca (K _) (.inr rfl)) (K3 _) (.inr rfl),(cb.keeps (K _) (.inl rfl)).keeps (K3 _) (.inl rfl)⟩,?_,Qr (Below.grown h.f gS h.f.size (fun j hj=>(h.t.lt j hj).1)) _ _ _ (by omega)⟩⟩
 ·rw[Qu (by omega)];exact Q7 h.t gS h.b0 (by decide)
 ·rw[Qu (by omega)];exact Q7 h.t gS h.b1 (by decide)
 ·rw[List.length_append,List.map_append];exact Qd oS (QI (T:=fun e=>e=150) hM (by decide) v7) rfl
theorem Qi8{w0 wr:World}{B:Nat}{c:Ql}{vc vt E:Value}(f:Below w0.heap.size w0 wr)(h:Ks wr B c vc vt){R:Nat}{a b d e:Value}(hR:wr.heap[R]?=some (.cells #[a,b,d,e] 104 (0,0)))(hl:w0.heap.size≤R)(W:World)
  (hW:W=(((wr.setCell ⟨R,0,none⟩ (.int .i64 0)).setCell ⟨R,1,none⟩ vc).setCell ⟨R,2,none⟩ vt).setCell ⟨R,3,none⟩ E):
  W.cell? ⟨R,0,none⟩=some (.int .i64 0)∧W.cell? ⟨R,1,none⟩=some vc∧W.cell? ⟨R,2,none⟩=some vt∧W.cell? ⟨R,3,none⟩=some E∧Ks W B c vc vt∧Below w0.heap.size w0 W:=by
 subst hW;have b0:=Qp hR 0 (.int .i64 0);have b1:=Qp b0 1 vc;have b2:=Qp b1 2 vt;have b3:=Qp b2 3 E;have q0:=Qa b3 0;have q1:=Qa b3 1;have q2:=Qa b3 2;have q3:=Qa b3 3;simp at q0 q1 q2 q3;have K:∀(T:TypeId→Prop),¬T 104→Qs B T wr ((((wr.setCell ⟨R,0,none⟩ (.int .i64 0)).setCell ⟨R,1,none⟩ vc).setCell ⟨R,2,none⟩ vt).setCell ⟨R,3,none⟩ E):=fun T hT=>
  (((QI hR hT (.int .i64 0)).trans (QI b0 hT vc)).trans (QI b1 hT vt)).trans (QI b2 hT E)
 exact⟨q0,q1,q2,q3,⟨h.1.keeps (K (fun e=>e=147∨e=140) (by decide)) (.inl rfl) (.inr rfl),Qd h.2 (K (fun e=>e=150) (by decide)) rfl⟩,Qr (Qr (Qr (Qr f _ _ _ hl) _ _ _ hl) _ _ _ hl) _ _ _ hl⟩
def YU(S:List Nat)(cs:List QH):List QH:=cs.filter fun c=>Qt S c.to.1
def YA(S:List Nat)(ts:List Qy):List Qy:=ts.filter (JF (Qt S))
theorem Nx{α:Type}{p:α→Bool}{l:List α}{k:Nat}(hk:k<l.length):(l.take (k+1)).filter p=(l.take k).filter p++(if p l[k] then [l[k]] else []):=by
 rw[List.take_succ_eq_append_getElem hk,List.filter_append];cases h:p l[k]<;>simp[h]
theorem Qep{α:Type}{p:α→Bool}{l:List α}{k:Nat}:((l.take k).filter p).length≤k:=
 Nat.le_trans (List.length_filter_le _ _) (by rw[List.length_take];omega)
theorem Qil(bs:List Ql)(S:List Nat)(base B B2 m bg bw:Nat)(v va vu vs:Value)(w:World)(h:Grd w bs base B v va vu)(hs:w.ownsRow B2 78 1 vs S.length (Qg S))(hsrt:Hid (S.Pairwise (· < ·)))(hl:S.length≤5000)(hlt:m<bs.length)(_hn:bs.length≤12)(hbx:base≤w.heap.size)
  (hcl:bs[m].chs.length≤1000000)(hsl:bs[m].sts.length≤1000000)(hg:w.heap[bg]?=some (.cells #[v,va,vu,v] 87 (0,0)))(hwc:w.heap[bw]?=some (.cells #[vs] 161 (0,0))):
  Calls Tryz.prog 107 #[.int .i64 m,.pointer (some ⟨bg,0,none⟩),.pointer (some ⟨bw,0,none⟩)] w fun e w'=>∃vc vt,e=.returned (.agg (QT (drR (Qt S) bs[m]) vc vt).toArray)∧Hid (Ks w' base (drR (Qt S) bs[m]) vc vt∧Below w.heap.size w w'):=by
 obtain⟨⟨p,cp,rfl⟩,⟨pa,ca,rfl⟩,q,d,rfl⟩:=h.form;obtain⟨p2,c2,rfl⟩:=Qb hs;obtain⟨gv,qc,cc,pt,ct,rfl,_,hgv,hop,OC,OS,d0,d1,d2,d3⟩:=h.p.at hlt;have H:=Qc (And.intro h hs);have HOC:=Qc (And.intro OC OS);obtain⟨T,x,hT⟩:=QU bs[m].e;have HTE:=Qc hT;rw[hT]at d3;have k3:=Qa hg 3;simp at k3;have hbg:=lt_of_block hg;have hbw:=lt_of_block hwc;have HW:=Qc (And.intro hg hwc);clear h hs hg hwc hT OC OS;go_enter Tryz.func107,Tryz.ntmps107;go_wp2_with fail;obtain⟨W,hW⟩:∃W,W=((w.alloc (.cells #[.int .i64 0,.slice none 0 0,.slice none 0 0,.nilIface] 104)).alloc (.cells #[.int .i64 bs[m].at_,.slice qc bs[m].chs.length cc,.slice pt bs[m].sts.length ct,.iface T x] 104)).alloc (.cells #[.int .i64 0,.slice none 0 0,.slice none 0 0,.iface T x] 104):=⟨_,rfl⟩;rw[←hW];have B0:Hid (MdJ w base #[.int .i64 0,.slice none 0 0,.slice none 0 0,.nilIface] #[.int .i64 bs[m].at_,.slice qc bs[m].chs.length cc,.slice pt bs[m].sts.length ct,.iface T x] (.iface T x) (YU S (bs[m].chs.take 0)) (YA S (bs[m].sts.take 0)) (.slice none 0 0) (.slice none 0 0) W):=by
  obtain⟨h1,h2,h3,_,h5⟩:=Wm w (.cells #[.int .i64 0,.slice none 0 0,.slice none 0 0,.nilIface] 104) (.cells #[.int .i64 bs[m].at_,.slice qc bs[m].chs.length cc,.slice pt bs[m].sts.length ct,.iface T x] 104) (.cells #[.int .i64 0,.slice none 0 0,.slice none 0 0,.iface T x] 104);rw[←hW]at h1 h2 h3 h5;exact⟨h1,h2,h3,⟨[],World.ownsRow_nil _ _ _ _,trivial⟩,World.ownsRow_nil _ _ _ _,h5⟩
 clear hW d0 d1 d2 d3 k3
 go_loopw [22] (fun ii wr=>∃(k:Nat)(vc:Value),k≤bs[m].chs.length∧ii=.int .i64 k∧Hid (MdJ w base #[.int .i64 0,.slice none 0 0,.slice none 0 0,.nilIface] #[.int .i64 bs[m].at_,.slice qc bs[m].chs.length cc,.slice pt bs[m].sts.length ct,.iface T x] (.iface T x) (YU S (bs[m].chs.take k)) (YA S (bs[m].sts.take 0)) vc (.slice none 0 0) wr)) (fun ii _=>bs[m].chs.length-(intOf ii).toNat)
 case atStart=>exact⟨0,_,by omega,rfl,B0⟩
 case round=>
  clear B0;obtain⟨k,vc,hkl,rfl,HI⟩:=hrel;rename World=>wA;obtain⟨pv,cv,rfl⟩:=HI.o.slice.1;have hfl:(YU S (bs[m].chs.take k)).length≤k:=Qep;by_cases hql:k<bs[m].chs.length
  ·obtain⟨gc,pu,cu,rfl,_,_,hlr,hrow,e0,e1,e2⟩:=(HOC.o.1.keeps (Qi HI.o.f) trivial trivial).at hql;have HLR:Hid (ChR wA base bs[m].chs[k] (.slice pu bs[m].chs[k].gs.length cu)):=⟨hlr,hrow⟩;have HNX:Hid (YU S (bs[m].chs.take (k+1))=YU S (bs[m].chs.take k)++(if Qt S bs[m].chs[k].to.1 then [bs[m].chs[k]] else [])):=Nx hql;clear hlr hrow;generalize hCS:YU S (bs[m].chs.take k)=CS at *;clear hCS;generalize bs[m].chs[k]=ch at *;have hbA:=HI.o.f.size;have hzA:=lt_of_block HI.o.m;have FA:=(Below.refl wA.heap.size wA).alloc (Nat.le_refl _) (.cells #[.int .i64 ch.to.1,.int .i64 ch.to.2,.slice pu ch.gs.length cu] 140);have H1:Hid (MdJ w base #[.int .i64 0,.slice none 0 0,.slice none 0 0,.nilIface] #[.int .i64 bs[m].at_,.slice (some ⟨gc,0,none⟩) bs[m].chs.length cc,.slice pt bs[m].sts.length ct,.iface T x] (.iface T x) CS (YA S (bs[m].sts.take 0)) (.slice pv CS.length cv) (.slice none 0 0) (wA.alloc (.cells #[.int .i64 ch.to.1,.int .i64 ch.to.2,.slice pu ch.gs.length cu] 140))∧ChR (wA.alloc (.cells #[.int .i64 ch.to.1,.int .i64 ch.to.2,.slice pu ch.gs.length cu] 140)) base ch (.slice pu ch.gs.length cu)∧(wA.alloc (.cells #[.int .i64 ch.to.1,.int .i64 ch.to.2,.slice pu ch.gs.length cu] 140)).heap[wA.heap.size]?=some (.cells #[.int .i64 ch.to.1,.int .i64 ch.to.2,.slice pu ch.gs.length cu] 140 (0,0))):=⟨HI.o.keeps FA,HLR.o.keeps FA,heap_alloc_last _ _⟩;have f1:(wA.alloc (.cells #[.int .i64 ch.to.1,.int .i64 ch.to.2,.slice pu ch.gs.length cu] 140)).cell? ⟨bw,0,none⟩=some (.slice p2 S.length c2):=by
    have:=(H1.o.1.f.cell (p:=⟨bw,0,none⟩) hbw).trans (Qa HW.o.2 0);simpa using this
   clear FA HI HLR;go_wp2_with fail;clear e0 e1 e2 f1;generalize wA.alloc (.cells #[.int .i64 ch.to.1,.int .i64 ch.to.2,.slice pu ch.gs.length cu] 140)=W1 at *;refine(Qg1 S ch.to.1 B2 _ W1 (Qd H.o.2 (Qi H1.o.1.f) trivial) hsrt (by omega)).mono ?_;rintro r w3 ⟨rfl,f3⟩;have H3:Hid (MdJ w base #[.int .i64 0,.slice none 0 0,.slice none 0 0,.nilIface] #[.int .i64 bs[m].at_,.slice (some ⟨gc,0,none⟩) bs[m].chs.length cc,.slice pt bs[m].sts.length ct,.iface T x] (.iface T x) CS (YA S (bs[m].sts.take 0)) (.slice pv CS.length cv) (.slice none 0 0) w3∧ChR w3 base ch (.slice pu ch.gs.length cu)∧w3.heap[wA.heap.size]?=some (.cells #[.int .i64 ch.to.1,.int .i64 ch.to.2,.slice pu ch.gs.length cu] 140 (0,0))):=⟨H1.o.1.keeps f3,H1.o.2.1.keeps f3,by rw[f3.block _ (lt_of_block H1.o.2.2)];exact H1.o.2.2⟩;clear H1 f3;obtain⟨kk,hkk⟩:∃kk,kk=Qt S ch.to.1:=⟨_,rfl⟩;rw[←hkk]at HNX ⊢;clear hkk
   cases kk with
   | false=>
    have HNY:Hid (YU S (bs[m].chs.take (k+1))=CS):=by show _=_;have:=HNX.o;simpa using this
    clear HNX;go_wp2_with fail;go_roundw
    case rel=>exact⟨k+1,_,by omega,by go_num,by rw[HNY.o];exact H3.o.1⟩
    case measure=>simp[intOf];omega
   | true=>
    have HNY:Hid (YU S (bs[m].chs.take (k+1))=CS++[ch]):=HNX.o;clear HNX;have m1:=Qa H3.o.1.m 1;have j0:=Qa H3.o.2.2 0;have j1:=Qa H3.o.2.2 1;have j2:=Qa H3.o.2.2 2;simp at m1 j0 j1 j2;go_wp2_with (at_builtin;refine Qv ?_);refine Qc ?_;clear m1 j0 j1 j2;have hz3:=H3.o.1.f.size;obtain⟨vs,ca,cb⟩:=H3.o.1.c;have HCA:=Qc (And.intro ca cb);have gB:=heap_alloc_last w3 (.cells #[.int .i64 ch.to.1,.int .i64 ch.to.2,.slice pu ch.gs.length cu] 140);have FB:=(Below.refl w3.heap.size w3).alloc (Nat.le_refl _) (.cells #[.int .i64 ch.to.1,.int .i64 ch.to.2,.slice pu ch.gs.length cu] 140);have OB:=ca.alloc (.cells #[.int .i64 ch.to.1,.int .i64 ch.to.2,.slice pu ch.gs.length cu] 140);have H4:Hid (MdJ w base #[.int .i64 0,.slice none 0 0,.slice none 0 0,.nilIface] #[.int .i64 bs[m].at_,.slice (some ⟨gc,0,none⟩) bs[m].chs.length cc,.slice pt bs[m].sts.length ct,.iface T x] (.iface T x) CS (YA S (bs[m].sts.take 0)) (.slice pv CS.length cv) (.slice none 0 0) (w3.alloc (.cells #[.int .i64 ch.to.1,.int .i64 ch.to.2,.slice pu ch.gs.length cu] 140))∧ChR (w3.alloc (.cells #[.int .i64 ch.to.1,.int .i64 ch.to.2,.slice pu ch.gs.length cu] 140)) base ch (.slice pu ch.gs.length cu)∧Zh (w3.alloc (.cells #[.int .i64 ch.to.1,.int .i64 ch.to.2,.slice pu ch.gs.length cu] 140)) base CS vs):=⟨H3.o.1.keeps FB,H3.o.2.1.keeps FB,cb.keeps (Qi FB) trivial⟩;clear ca cb FB H3;refine KU Tryz.underlying99 Tryz.info140 rfl (by decide) (by decide) rfl _ _ rfl rfl OB gB rfl rfl (List.all_eq_true.1 rfl) (by omega) (by simp;omega) ?_;intro v7 w7 oS gS nS;obtain⟨h6,h7⟩:=H4.o.1.growC OB H4.o.2.2 H4.o.2.1 oS gS;have H7:=Qc h7;rw[←HNY.o]at H7;obtain⟨p7,c7,rfl⟩:=Qb oS;have n1:=Qa h6 1;have nf1:=Qf h6 1;simp at n1;clear oS gS nS h6 h7 gB OB HCA H4;go_wp2_with fail;go_roundw
    case rel=>exact⟨k+1,_,by omega,by go_num,H7⟩
    case measure=>simp[intOf];omega
  ·have hte:bs[m].chs.take k=bs[m].chs:=List.take_of_length_le (by omega);rw[hte]at HI;have HE:Hid (MdJ w base #[.int .i64 0,.slice none 0 0,.slice none 0 0,.nilIface] #[.int .i64 bs[m].at_,.slice qc bs[m].chs.length cc,.slice pt bs[m].sts.length ct,.iface T x] (.iface T x) (YU S bs[m].chs) (YA S (bs[m].sts.take 0)) (.slice pv (YU S bs[m].chs).length cv) (.slice none 0 0) wA):=HI;have m2:=Qa HE.o.b1 2;simp at m2;have hzA:=lt_of_block HE.o.m;clear HI hfl hte;go_wp2_with fail;clear m2 hzA
   go_loopw [41] (fun ii wr=>∃(j:Nat)(vt:Value),j≤bs[m].sts.length∧ii=.int .i64 j∧Hid (MdJ w base #[.int .i64 0,.slice none 0 0,.slice none 0 0,.nilIface] #[.int .i64 bs[m].at_,.slice qc bs[m].chs.length cc,.slice pt bs[m].sts.length ct,.iface T x] (.iface T x) (YU S bs[m].chs) (YA S (bs[m].sts.take j)) (.slice pv (YU S bs[m].chs).length cv) vt wr)) (fun ii _=>bs[m].sts.length-(intOf ii).toNat)
   case atStart=>exact⟨0,_,by omega,rfl,HE⟩
   case round=>
    clear HE;obtain⟨j,vt,hjl,rfl,HJ⟩:=hrel;rename World=>wB;obtain⟨pw,cw,rfl⟩:=HJ.o.slice.2;have hfl:(YA S (bs[m].sts.take j)).length≤j:=Qep;by_cases hjl2:j<bs[m].sts.length
    ·obtain⟨gs,rfl,_,hgs⟩:=Qh HOC.o.2 (by omega);have st0:=Qe HOC.o.2 (show (bs[m].sts.map QE)[j]?=some (QE bs[m].sts[j]) by simp[hjl2]);obtain⟨TS,xs,hst⟩:=K4 bs[m].sts[j];rw[hst]at st0;replace st0:=(HJ.o.f.cell (p:=⟨gs,j,none⟩) hgs).trans st0;have HNX:Hid (YA S (bs[m].sts.take (j+1))=YA S (bs[m].sts.take j)++(if JF (Qt S) bs[m].sts[j] then [bs[m].sts[j]] else [])):=Nx hjl2;have HST:=Qc hst;generalize hTS:YA S (bs[m].sts.take j)=TL at *;clear hTS hst;generalize bs[m].sts[j]=tt at *;have f1:wB.cell? ⟨bw,0,none⟩=some (.slice p2 S.length c2):=by
      have:=(HJ.o.f.cell (p:=⟨bw,0,none⟩) hbw).trans (Qa HW.o.2 0);simpa using this
     go_wp2_with fail;clear st0 f1;have HCA:Hid (Calls Tryz.prog 109 #[.iface TS xs,.agg #[.slice p2 S.length c2]] wB fun e w'=>e=.returned (.bool (JF (Qt S) tt))∧Below wB.heap.size wB w'):=by
      rw[←HST.o];exact QcN tt S B2 _ wB (Qd H.o.2 (Qi HJ.o.f) trivial) hsrt hl
     refine HCA.o.mono ?_;rintro r w3 ⟨rfl,f3⟩;have H3:=Qc (HJ.o.keeps f3);clear HJ f3 HCA;obtain⟨kk,hkk⟩:∃kk,kk=JF (Qt S) tt:=⟨_,rfl⟩;rw[←hkk]at HNX ⊢;clear hkk
     cases kk with
     | false=>
      have HNY:Hid (YA S (bs[m].sts.take (j+1))=TL):=by show _=_;have:=HNX.o;simpa using this
      clear HNX;go_wp2_with fail;go_roundw
      case rel=>exact⟨j+1,_,by omega,by go_num,by rw[HNY.o];exact H3⟩
      case measure=>simp[intOf];omega
     | true=>
      have HNY:Hid (YA S (bs[m].sts.take (j+1))=TL++[tt]):=HNX.o;clear HNX;have m1:=Qa H3.o.m 2;simp at m1;go_wp2_with (at_builtin;refine Qv ?_);refine Qc ?_;clear m1;have hz3:=H3.o.f.size;have gB:=heap_alloc_last w3 (.cells #[.iface TS xs] 150);have FB:=(Below.refl w3.heap.size w3).alloc (Nat.le_refl _) (.cells #[.iface TS xs] 150);have OB:=H3.o.t.alloc (.cells #[.iface TS xs] 150);have H4:=Qc (H3.o.keeps FB);clear FB H3;refine KU Tryz.underlying100 Tryz.info150 rfl (by decide) (by decide) rfl _ _ rfl rfl OB gB rfl rfl (List.all_eq_true.1 rfl) (by omega) (by simp;omega) ?_;intro v7 w7 oS gS nS;obtain⟨h6,h7⟩:=H4.o.growS (t:=tt) (by rw[HST.o];exact oS) gS;have H7:=Qc h7;rw[←HNY.o]at H7;obtain⟨p7,c7,rfl⟩:=Qb oS;have n1:=Qa h6 2;have nf1:=Qf h6 2;simp at n1;clear oS gS nS h6 h7 gB OB H4;go_wp2_with fail;go_roundw
      case rel=>exact⟨j+1,_,by omega,by go_num,H7⟩
      case measure=>simp[intOf];omega
    ·have hte:bs[m].sts.take j=bs[m].sts:=List.take_of_length_le (by omega);rw[hte]at HJ;have x0:=Qa HJ.o.m 0;have x1:=Qa HJ.o.m 1;have x2:=Qa HJ.o.m 2;have x3:=Qa HJ.o.m 3;have n0:=Qa HJ.o.b0 0;have n1:=Qa HJ.o.b0 1;have n2:=Qa HJ.o.b0 2;have n3:=Qa HJ.o.b0 3;have nf0:=Qf HJ.o.b0 0;have nf1:=Qf HJ.o.b0 1;have nf2:=Qf HJ.o.b0 2;have nf3:=Qf HJ.o.b0 3;simp at x0 x1 x2 x3 n0 n1 n2 n3;have hzB:=lt_of_block HJ.o.m;have HPB:Hid (Ks wB base (drR (Qt S) bs[m]) (.slice pv (YU S bs[m].chs).length cv) (.slice pw (YA S bs[m].sts).length cw)):=by
      obtain⟨vs,ca,cb⟩:=HJ.o.c;exact⟨⟨vs,Qm ca hbx,cb⟩,Qm HJ.o.t hbx⟩
     have HF:=Qc (Qi8 (E:=.iface T x) HJ.o.f HPB.o HJ.o.b0 (Nat.le_refl _));clear HJ hte HPB;go_wp2_with fail;obtain⟨W9,hW9⟩:∃W9,W9=(((wB.setCell ⟨w.heap.size,0,none⟩ (.int .i64 0)).setCell ⟨w.heap.size,1,none⟩ (.slice pv (YU S bs[m].chs).length cv)).setCell ⟨w.heap.size,2,none⟩ (.slice pw (YA S bs[m].sts).length cw)).setCell ⟨w.heap.size,3,none⟩ (.iface T x):=⟨_,rfl⟩;obtain⟨q0,q1,q2,q3,hc,hf⟩:=HF.o _ hW9;rw[←hW9];refine bodyPost_ret (v:=.agg #[.int .i64 0,.slice pv (YU S bs[m].chs).length cv,.slice pw (YA S bs[m].sts).length cw,.iface T x]) (by simp[results,Tryz.results107,go_sem,q0,q1,q2,q3]) rfl ⟨_,_,?_,hc,hf⟩;rw[QT,show (drR (Qt S) bs[m]).e=bs[m].e from rfl,HTE.o];rfl
theorem Qhf{bs:List Ql}{S:List Nat}{base B B2 bg bw:Nat}{v va vu vs:Value}{w:World}(h:Grd w bs base B v va vu)(hs:w.ownsRow B2 78 1 vs S.length (Qg S))(hsrt:Hid (S.Pairwise (· < ·)))(hl:S.length≤5000)(hn:bs.length≤12)(hbx:base≤w.heap.size)
  (hcl:∀b∈bs,b.chs.length≤1000000)(hsl:∀b∈bs,b.sts.length≤1000000)(hg:w.heap[bg]?=some (.cells #[v,va,vu,v] 87 (0,0)))(hwc:w.heap[bw]?=some (.cells #[vs] 161 (0,0))):
  Qe1 bs w base 107 #[.pointer (some ⟨bg,0,none⟩),.pointer (some ⟨bw,0,none⟩)] (drR (Qt S)):=by
 refine⟨enters_of Tryz.func107 (by kernel_rfl) rfl,fun _=>rfl,fun b hb=>hb,fun wr m hm2 F=>?_⟩;exact Qil bs S base B B2 m bg bw v va vu vs wr (h.keeps F) (Qd hs (Qi F) trivial) hsrt hl hm2 hn (Nat.le_trans hbx F.size) (hcl _ (List.getElem_mem hm2)) (hsl _ (List.getElem_mem hm2)) (by rw[F.block _ (lt_of_block hg)];exact hg) (by rw[F.block _ (lt_of_block hwc)];exact hwc)
theorem Nn(f:Nat→Nat)(e:Z3):goalsF (XH f e)=goalsF e:=by unfold XH;split<;>rfl
theorem Rs{co:Nat→Bool}{f:Ql→Ql}{bs:List Ql}(hf:∀b,goalsF (f b).e=goalsF b.e){i:Nat}(hi:i<bs.length):goalsF ((trR co f bs)[i]'(by rw[Zq];exact hi)).e=goalsF bs[i].e:=by
 rw[Wl hi];split
 ·exact hf _
 ·exact Nn _ _
theorem Qhg{co:Nat→Bool}{f:Ql→Ql}{bs:List Ql}(hf:∀b,goalsF (f b).e=goalsF b.e)(k:Nat):aheF (trR co f bs) k=aheF bs k:=by
 unfold aheF ZP;rw[Zq];refine List.filter_congr fun i hi=>?_;have hi:=List.mem_range.1 hi;unfold VP;rw[List.getElem?_eq_getElem (by rw[Zq];exact hi),List.getElem?_eq_getElem hi];show Qt (Xl (goalsF _)) k=Qt (Xl (goalsF _)) k;rw[Rs hf hi]
theorem QcH{co:Nat→Bool}{f:Ql→Ql}{bs:List Ql}{b:Ql}(h:b∈trR co f bs):∃i,∃hi:i<bs.length,b=(trR co f bs)[i]'(by rw[Zq];exact hi):=by
 obtain⟨i,hi,rfl⟩:=List.mem_iff_getElem.1 h;rw[Zq]at hi;exact⟨i,hi,rfl⟩
theorem XM{co:Nat→Bool}{f:Ql→Ql}{bs:List Ql}{b:Ql}(h:b∈trR co f bs):∃a∈bs,b=f a∨b=KD a:=by
 obtain⟨i,hi,rfl⟩:=QcH h;refine⟨bs[i],List.getElem_mem hi,?_⟩;rw[Wl hi];split
 ·exact .inl rfl
 ·exact .inr rfl
theorem QiH{co:Nat→Bool}{f:Ql→Ql}{bs:List Ql}(hr:Kr bs)(hf:∀b,goalsF (f b).e=goalsF b.e)(hc:∀b,∀c'∈(f b).chs,∃c∈b.chs,Q3 c'.gs=Q3 c.gs∧(c.rs.length=c.gs.length→c'.rs.length=c'.gs.length)):Kr (trR co f bs):=by
 refine⟨by rw[Zq];exact hr.pos,by rw[Zq];exact hr.le,fun b hb p hp=>?_,fun b hb c hc2=>?_,fun i hi c hc2=>?_⟩
 ·obtain⟨i,hi,rfl⟩:=QcH hb;rw[Rs hf hi]at hp;rw[Zq];exact hr.goals _ (List.getElem_mem hi) p hp
 ·obtain⟨a,ha,rfl|rfl⟩:=XM hb
  ·obtain⟨c0,h0,_,h2⟩:=hc a c hc2;exact h2 (hr.rs a ha c0 h0)
  ·simp[KD]at hc2
 ·have hi':=hi;rw[Zq]at hi';rw[Qhg hf];rw[Wl hi']at hc2;split at hc2
  ·obtain⟨c0,h0,h1,_⟩:=hc _ c hc2;rw[h1];exact hr.ahead i hi' c0 h0
  ·simp[KD]at hc2
theorem QhW(l:List (Nat×Nat)):Q3 (l.map fun g=>(g.1,0))=Q3 l:=by
 unfold Q3;rw[List.map_map];rfl
theorem Qa2{co:Nat→Bool}{st:Nat→Nat}{b:Ql}{c':QH}(h:c'∈(mgR co st b).chs):∃c∈b.chs,c'=Yz co (nm st) c:=by
 obtain⟨c,hc,rfl⟩:=List.mem_map.1 h;exact⟨c,(List.mem_filter.1 hc).1,rfl⟩
theorem Qh4{bs:List Ql}(hr:Kr bs)(co:Nat→Bool)(st:Nat→Nat):Kr (trR co (mgR co st) bs):=by
 refine QiH hr (fun _=>Nn _ _) fun b c' h=>?_;obtain⟨c,hc,rfl⟩:=Qa2 h;refine⟨c,hc,QhW _,fun e=>?_⟩;show (List.zipWith _ c.gs c.rs).length=(c.gs.map _).length;rw[List.length_zipWith,List.length_map,e];omega
theorem UO{st:Nat→Nat}{r:Nat}(h:r<5000):nm st r<5000:=Nat.lt_of_le_of_lt (YE st r).2 h
theorem Qcz{α β γ:Type}{f:α→β→γ}:∀{a:List α}{b:List β}{p:γ},p∈List.zipWith f a b→∃x y,x∈a∧y∈b∧p=f x y
 | [],_,_,h=>by simp at h
 | _::_,[],_,h=>by simp at h
 | x::a,y::b,p,h=>by
  rw[List.zipWith_cons_cons]at h;rcases List.mem_cons.1 h with h|h
  ·exact⟨x,y,List.mem_cons_self ..,List.mem_cons_self ..,h⟩
  ·obtain⟨x',y',h1,h2,h3⟩:=Qcz h;exact⟨x',y',List.mem_cons_of_mem _ h1,List.mem_cons_of_mem _ h2,h3⟩
theorem LnK.mg{bs:List Ql}(h:LnK bs){st:Nat→Nat}(hs:SOk (absP bs) st)(he:mgF (absP bs) (coF bs) st=st):LnK (trR (coF bs) (mgR (coF bs) st) bs):=by
 have ea:absP (trR (coF bs) (mgR (coF bs) st) bs)=mgA (coF bs) st (absP bs):=Vn (fun b=>Wd _ _ b) bs;have S1:=Qa1 h.pk h.sg (QW h.rd) hs he;refine⟨Qh4 h.rd _ _,by rw[ea];exact GK h.pk (QW h.rd),by rw[ea];exact QdJ h.pk h.sg (QW h.rd) S1,fun b hb c hc=>?_,fun b hb t ht=>?_,fun b hb=>?_,fun b hb=>?_,fun b hb=>?_⟩
 ·obtain⟨a,ha,rfl|rfl⟩:=XM hb
  ·obtain⟨c0,h0,rfl⟩:=Qa2 hc;have l:=h.ch a ha c0 h0;refine⟨UO l.to,fun p hp=>?_,fun p hp=>?_,by show (c0.gs.map _).length≤_;rw[List.length_map];exact l.few⟩
   ·obtain⟨q,hq,rfl⟩:=List.mem_map.1 hp;rw[Zq];exact l.gs q hq
   ·obtain⟨x,y,_,hy,rfl⟩:=Qcz hp;show (if coF bs x.1 then nm st y.1 else 0)<5000;split
    ·exact UO (l.rs _ hy)
    ·omega
  ·simp[KD]at hc
 ·obtain⟨a,ha,rfl|rfl⟩:=XM hb
  ·obtain⟨t0,h0,rfl⟩:=List.mem_map.1 ht;obtain⟨h1,h2,h3⟩:=h.st a ha t0 (List.mem_filter.1 h0).1;exact⟨UO h1,UO h2,UO h3⟩
  ·simp[KD]at ht
 ·obtain⟨a,ha,rfl|rfl⟩:=XM hb
  ·have:=h.e a ha;show (XH (nm st) a.e).a.1<5000;unfold XH;split
   ·exact UO this
   ·exact this
  ·have:=h.e a ha;show (XH (fun _=>0) a.e).a.1<5000;unfold XH;split
   ·show 0<5000;omega
   ·exact this
 ·obtain⟨a,ha,rfl|rfl⟩:=XM hb
  ·have:=h.cl a ha;show (((a.chs.filter _).map _)).length≤_;rw[List.length_map];exact Nat.le_trans (List.length_filter_le _ _) this
  ·exact Nat.zero_le _
 ·obtain⟨a,ha,rfl|rfl⟩:=XM hb
  ·have:=h.sl a ha;show (((a.sts.filter _).map _)).length≤_;rw[List.length_map];exact Nat.le_trans (List.length_filter_le _ _) this
  ·exact Nat.zero_le _
theorem QdI{bs:List Ql}{co:Nat→Bool}{st:Nat→Nat}{n:Nat}(h:∀b∈bs,b.sts.length≤n):∀b∈trR co (mgR co st) bs,b.sts.length≤n:=fun b hb=>by
 obtain⟨a,ha,rfl|rfl⟩:=XM hb
 ·have:=h a ha;show (((a.sts.filter _).map _)).length≤_;rw[List.length_map];exact Nat.le_trans (List.length_filter_le _ _) this
 ·exact Nat.zero_le _
theorem Vf{co:Nat→Bool}{bs:List Ql}{n x:Nat}{l:List (Nat×Nat)}:(x,l)∈ZV co bs n↔∃j,j<n∧co j=true∧((∃c∈(bkF bs j).chs,x=c.to.1∧l=Jy co c c.gs.length)∨∃t∈(bkF bs j).sts,t.op≠33∧x=t.to.1∧l=rdsF t):=by
 unfold ZV;rw[List.mem_flatMap];constructor
 ·rintro⟨j,hj,h⟩;refine⟨j,List.mem_range.1 hj,?_⟩;split at h
  ·rename_i hc;refine⟨hc,?_⟩;rcases List.mem_append.1 h with h|h
   ·obtain⟨c,hc,e⟩:=List.mem_map.1 h;cases e;exact .inl ⟨c,hc,rfl,rfl⟩
   ·obtain⟨t,ht,e⟩:=List.mem_filterMap.1 h;unfold XI at e;split at e
    ·cases e
    ·rename_i hn;cases e;exact .inr ⟨t,ht,hn,rfl,rfl⟩
  ·simp at h
 ·rintro⟨j,hj,hc,h⟩;refine⟨j,List.mem_range.2 hj,?_⟩;rw[if_pos hc];rcases h with ⟨c,h1,rfl,rfl⟩|⟨t,h1,h2,rfl,rfl⟩
  ·exact List.mem_append_left _ (List.mem_map.2 ⟨c,h1,rfl⟩)
  ·exact List.mem_append_right _ (List.mem_filterMap.2 ⟨t,h1,by rw[XI,if_neg h2]⟩)
theorem V9{co:Nat→Bool}{bs:List Ql}{n:Nat}{y:Nat×Nat}:y∈Z6 co bs n↔∃j,j<n∧co j=true∧((∃t∈(bkF bs j).sts,t.op=33∧y∈rdsF t)∨y∈QZ (bkF bs j).e):=by
 unfold Z6;rw[List.mem_flatMap];constructor
 ·rintro⟨j,hj,h⟩;refine⟨j,List.mem_range.1 hj,?_⟩;split at h
  ·rename_i hc;refine⟨hc,?_⟩;rcases List.mem_append.1 h with h|h
   ·obtain⟨t,ht,e⟩:=List.mem_flatMap.1 h;unfold KJ at e;split at e
    ·rename_i h33;exact .inl ⟨t,ht,h33,e⟩
    ·simp at e
   ·exact .inr h
  ·simp at h
 ·rintro⟨j,hj,hc,h⟩;refine⟨j,List.mem_range.2 hj,?_⟩;rw[if_pos hc];rcases h with ⟨t,h1,h2,h3⟩|h
  ·exact List.mem_append_left _ (List.mem_flatMap.2 ⟨t,h1,by rw[KJ,if_pos h2];exact h3⟩)
  ·exact List.mem_append_right _ h
theorem GZ{co:Nat→Bool}{c:QH}{y:Nat×Nat}:y∈Jy co c c.gs.length↔∃p∈c.gs.zip c.rs,co p.1.1=true∧p.2=y:=by
 unfold Jy;rw[List.take_of_length_le (by rw[List.length_zip];omega),List.mem_map];constructor
 ·rintro⟨p,hp,rfl⟩;obtain⟨h1,h2⟩:=List.mem_filter.1 hp;exact⟨p,h1,h2,rfl⟩
 ·rintro⟨p,h1,h2,rfl⟩;exact⟨p,List.mem_filter.2 ⟨h1,h2⟩,rfl⟩
theorem JV{c:QH}{p:Nat×Nat}:p∈(QL c).src↔∃q∈c.gs.zip c.rs,p=(q.1.1,q.2.1):=by
 show p∈(c.gs.map (·.1)).zip (c.rs.map (·.1))↔_;rw[List.zip_map,List.mem_map];constructor
 ·rintro⟨q,h1,rfl⟩;exact⟨q,h1,rfl⟩
 ·rintro⟨q,h1,rfl⟩;exact⟨q,h1,rfl⟩
theorem RE{α β:Type}(g:Option α→List β):∀l:List α,(List.range l.length).flatMap (fun j=>g l[j]?)=l.flatMap fun a=>g (some a)
 | []=>rfl
 | a::l=>by
  have ih:=RE g l;rw[List.length_cons,List.range_succ_eq_map,List.flatMap_cons,List.flatMap_map,List.flatMap_cons]
  congr 1
theorem Ru{α β:Type}(co:α→Bool)(A:α→List β):∀l:List α,(l.flatMap fun j=>if co j then A j else []).Sublist (l.flatMap A)
 | []=>List.Sublist.refl _
 | a::l=>by
  rw[List.flatMap_cons,List.flatMap_cons];refine List.Sublist.append ?_ (Ru co A l);split
  ·exact List.Sublist.refl _
  ·exact List.nil_sublist _
theorem Qie(b:Ql)(i:Nat)(co:Nat→Bool):(Va b i).map (·.n)=(b.chs.map (entC co)++b.sts.filterMap XI).map (·.1):=by
 unfold Va;rw[List.map_append,List.map_append,List.map_map,List.map_map]
 congr 1
 have e:∀j,(stU b i j).map (·.n)=(fun o:Option Qy=>match o with|some t=>(if t.op=33 then [] else [t.to.1])|none=>[]) b.sts[j]?:=fun j=>by
  unfold stU
  cases b.sts[j]? with
  | none=>rfl
  | some t=>show List.map _ (if t.op=33 then [] else _)=(if t.op=33 then [] else _);split<;>rfl
 rw[List.map_flatMap];simp only[e];rw[RE (fun o:Option Qy=>match o with|some t=>(if t.op=33 then [] else [t.to.1])|none=>[])]
 generalize b.sts=l
 induction l with
 | nil=>rfl
 | cons t l ih=>
  rw[List.flatMap_cons,ih,List.filterMap_cons];unfold XI;by_cases h:t.op=33
  ·simp[h]
  ·simp[h]
theorem VE{bs:List Ql}(h:LnK bs):((ZV (coF bs) bs bs.length).map (·.1)).Nodup:=by
 have hsg:=QcX h.rd (fun b hb c hc p hp=>(h.ch b hb c hc).gs p hp) h.sg;have htw:twF (gvU bs)=none:=by
  cases ht:twF (gvU bs) with
  | none=>rfl
  | some u=>
   rw[sgE,ht]at hsg;cases hsg
 have hd:=(YZ.1 htw).1;have e:(gvU bs).map (·.n)=((List.range bs.length).flatMap fun j=>(bkF bs j).chs.map (entC (coF bs))++(bkF bs j).sts.filterMap XI).map (·.1):=by
  unfold gvU VW;rw[List.map_flatMap,List.map_flatMap]
  congr 1
  funext j
  exact Qie _ _ _
 rw[e]at hd;exact hd.sublist ((Ru (coF bs) (fun j=>(bkF bs j).chs.map (entC (coF bs))++(bkF bs j).sts.filterMap XI) (List.range bs.length)).map _)
theorem QbC{bs:List Ql}(h:LnK bs){j:Nat}(hc:coF bs j=true):j<bs.length:=by
 have:=((QW h.rd j).1 hc).lt h.pk;simpa[absP] using this
theorem Qfc{bs:List Ql}(h:LnK bs){S:List Nat}(hd:Dfs (lkF (ZV (coF bs) bs bs.length)) (Z6 (coF bs) bs bs.length) [] S)(r:Nat):Qt S r=true↔Wn (absP bs) r:=by
 rw[Qt,List.contains_iff_mem];have hst:∀{j:Nat} {t:Qy},t∈(bkF bs j).sts→QA t∈(bkA (absP bs) j).sts:=fun {j t} ht=>by rw[QO];exact List.mem_map.2 ⟨t,ht,rfl⟩
 have hch:∀{j:Nat} {c:QH},c∈(bkF bs j).chs→QL c∈(bkA (absP bs) j).chs:=fun {j c} hc=>by rw[QO];exact List.mem_map.2 ⟨c,hc,rfl⟩
 have hen:∀{j:Nat} {y:Nat×Nat},y∈QZ (bkF bs j).e→y.1∈rdE (bkA (absP bs) j).e:=fun {j y} hy=>by
  rw[QO];show y.1∈rdE (Zc (bkF bs j).e);unfold QZ at hy;unfold rdE;show y.1∈if (bkF bs j).e.op=63 then _ else _;split at hy
  ·rename_i h63;rw[if_pos h63];rw[List.mem_singleton]at hy;rw[hy];exact List.mem_singleton.2 rfl
  ·simp at hy
 constructor
 ·intro hr;refine(hd.low (Wn (absP bs)) (fun y hy=>?_) (fun x hx y hy=>?_) r hr).resolve_left (by simp)
  ·obtain⟨j,_,hc,h1⟩:=V9.1 hy;have hcm:=(QW h.rd j).1 hc;rcases h1 with ⟨t,ht,h33,h3⟩|h1
   ·have e1:QA t=.out t.a.1:=by unfold QA;rw[if_neg (by omega),if_neg (by omega),if_pos h33]
    have e2:y=t.a:=by
     unfold rdsF at h3;rw[if_neg (by omega),if_pos h33]at h3;exact List.mem_singleton.1 h3
    rw[e2];exact .out hcm (by rw[←e1];exact hst ht)
   ·exact .fin hcm (hen h1)
  ·obtain⟨l,h1,h2⟩:=V5 _ _ rfl hy;obtain⟨j,_,hc,h3⟩:=Vf.1 h1;have hcm:=(QW h.rd j).1 hc;rcases h3 with ⟨c,h4,rfl,rfl⟩|⟨t,h4,h33,rfl,rfl⟩
   ·obtain⟨p,h5,h6,rfl⟩:=GZ.1 h2;exact Wn.ch (p:=(p.1.1,p.2.1)) hcm (hch h4) hx (JV.2 ⟨p,h5,rfl⟩) ((QW h.rd _).1 h6)
   ·exact .st hcm (hst h4) (by rw[Jv,if_neg h33]) hx (by rw[Yp];exact List.mem_map.2 ⟨y,h2,rfl⟩)
 ·intro hw
  induction hw with
  | @out b a hcm ha=>
   have hc:=(QW h.rd b).2 hcm;rw[QO]at ha;obtain⟨t,ht,e⟩:=List.mem_map.1 ha;have h33:t.op=33:=by
    have:=Jv t;rw[e]at this;by_cases h33:t.op=33
    ·exact h33
    ·rw[if_neg h33]at this;cases this
   have e1:QA t=.out t.a.1:=by unfold QA;rw[if_neg (by omega),if_neg (by omega),if_pos h33]
   rw[e1]at e;cases e;exact hd.has t.a (V9.2 ⟨b,QbC h hc,hc,.inl ⟨t,ht,h33,by unfold rdsF;rw[if_neg (by omega),if_pos h33];exact List.mem_singleton.2 rfl⟩⟩)
  | @fin b r hcm hr=>
   have hc:=(QW h.rd b).2 hcm;rw[QO]at hr;have hr:r∈rdE (Zc (bkF bs b).e):=hr;unfold rdE at hr;split at hr
   ·rename_i h63;have h63:(bkF bs b).e.op=63:=h63;rw[List.mem_singleton]at hr;subst hr;exact hd.has (bkF bs b).e.a (V9.2 ⟨b,QbC h hc,hc,.inr (by unfold QZ;rw[if_pos h63];exact List.mem_singleton.2 rfl)⟩)
   ·simp at hr
  | @st b x r t hcm ht hg _ hr ih=>
   have hc:=(QW h.rd b).2 hcm;rw[QO]at ht;obtain⟨t0,h0,rfl⟩:=List.mem_map.1 ht;rw[Jv]at hg;rw[Yp]at hr;obtain⟨y,hy,rfl⟩:=List.mem_map.1 hr;have h33:t0.op≠33:=fun e=>by rw[if_pos e]at hg;cases hg
   rw[if_neg h33]at hg;cases hg;have e1:=Ys _ _ rfl (VE h) (Vf.2 ⟨b,QbC h hc,hc,.inr ⟨t0,h0,h33,rfl,rfl⟩⟩);exact hd.cl _ ih (by simp) y (by rw[e1];exact hy)
  | @ch b c p hcm hc2 _ hp hcp ih=>
   have hc:=(QW h.rd b).2 hcm;rw[QO]at hc2;obtain⟨c0,h0,rfl⟩:=List.mem_map.1 hc2;obtain⟨q,hq,rfl⟩:=JV.1 hp;have e1:=Ys _ _ rfl (VE h) (Vf.2 ⟨b,QbC h hc,hc,.inl ⟨c0,h0,rfl,rfl⟩⟩);exact hd.cl _ ih (by simp) q.2 (by rw[show (QL c0).to=c0.to.1 from rfl,e1];exact GZ.2 ⟨q,hq,(QW h.rd _).2 hcp,rfl⟩)
theorem QaM{t:Qy}(h:StLow 5000 t){y:Nat×Nat}(hy:y∈rdsF t):y.1<5000:=by
 obtain⟨_,h2,h3⟩:=h;unfold rdsF at hy
 repeat' split at hy
 all_goals simp at hy
 ·rw[hy];exact h2
 ·rw[hy];exact h2
 ·rcases hy with rfl|rfl
  ·exact h2
  ·exact h3
theorem Qia{bs:List Ql}(h:LnK bs):∀x,(∀y∈lkF (ZV (coF bs) bs bs.length) x,y.1<5000)∧(lkF (ZV (coF bs) bs bs.length) x).length≤1000000:=fun x=>by
 refine⟨fun y hy=>?_,?_⟩
 ·obtain⟨l,h1,h2⟩:=V5 _ _ rfl hy;obtain⟨j,hj,hc,h3⟩:=Vf.1 h1;rcases h3 with ⟨c,h4,rfl,rfl⟩|⟨t,h4,h33,rfl,rfl⟩
  ·obtain⟨p,h5,_,rfl⟩:=GZ.1 h2;exact(h.ch _ (Jz hj) c h4).rs _ (List.of_mem_zip h5).2
  ·exact QaM (h.st _ (Jz hj) t h4) h2
 ·rcases hl:lkF (ZV (coF bs) bs bs.length) x with _|⟨y,l⟩
  ·exact Nat.zero_le _
  ·obtain⟨k,h1,h2⟩:=V5 (y:=y) (x:=x) _ _ rfl (by rw[hl];exact List.mem_cons_self ..);rw[←hl,Ys _ _ rfl (VE h) h1];obtain⟨j,hj,hc,h3⟩:=Vf.1 h1;rcases h3 with ⟨c,h4,rfl,rfl⟩|⟨t,h4,h33,rfl,rfl⟩
   ·have:=NA (coF bs) c c.gs.length;have:=(h.ch _ (Jz hj) c h4).few;omega
   ·have:=GF t;omega
theorem Qgr{bs:List Ql}(h:LnK bs):∀y∈Z6 (coF bs) bs bs.length,y.1<5000:=fun y hy=>by
 obtain⟨j,hj,hc,h3⟩:=V9.1 hy;rcases h3 with ⟨t,h4,h33,h5⟩|h5
 ·exact QaM (h.st _ (Jz hj) t h4) h5
 ·unfold QZ at h5;split at h5
  ·rw[List.mem_singleton.1 h5];exact h.e _ (Jz hj)
  ·simp at h5
theorem Qbf{bs:List Ql}{n:Nat}(h:∀b∈bs,b.sts.length≤n)(co:Nat→Bool):∀i,i≤bs.length→(Z6 co bs i).length≤i*(2*n+1)
 | 0,_=>by simp[Z6]
 | i+1,hi=>by
  have ih:=Qbf h co i (by omega);rw[YS,List.length_append];have e1:(if co i then (bkF bs i).sts.flatMap KJ++QZ (bkF bs i).e else []).length≤2*n+1:=by
   split
   ·rw[List.length_append];have a1:=Qda (bkF bs i).e;have a2:((bkF bs i).sts.flatMap KJ).length≤2*(bkF bs i).sts.length:=by
     generalize (bkF bs i).sts=l
     induction l with
     | nil=>exact Nat.le_refl _
     | cons t l ih=>
      rw[List.flatMap_cons,List.length_append,List.length_cons];have:(KJ t).length≤2:=by
       unfold KJ;split
       ·exact GF t
       ·exact Nat.zero_le _
      omega
    have a3:=h _ (Jz (show i<bs.length by omega));omega
   ·exact Nat.zero_le _
  rw[Nat.succ_mul];omega
theorem Qjb(bs:List Ql)(base B:Nat)(v va vu:Value)(w:World)(h:Grd w bs base B v va vu)(hk:Hid (LnK bs))(hbx:base≤w.heap.size)(hsl:Hid (∀b∈bs,b.sts.length≤20000)):
  Calls Tryz.prog 65 #[.agg #[v,va,vu,v]] w fun x w'=>∃v' S,x=.returned v'∧Hid (PBs w' base (trR (coF bs) (drR (Qt S)) bs) v'∧(∀r,Qt S r=true↔Wn (absP bs) r)∧Below w.heap.size w w'):=by
 obtain⟨⟨p,cp,rfl⟩,⟨pa,ca,rfl⟩,q,d,rfl⟩:=h.form;have H:=Qc h;clear h;have hn:=hk.out.rd.le;have HL:=Qc (Qia hk.out);have HFL:=Qc (Qgr hk.out);have hfl:(Z6 (coF bs) bs bs.length).length≤1000000:=by
  have h1:=Qbf hsl.out (coF bs) bs.length (Nat.le_refl _);have h2:bs.length*(2*20000+1)≤12*(2*20000+1):=Nat.mul_le_mul_right _ hn;omega
 go_enter Tryz.func65,Tryz.ntmps65;go_wp2_with fail;have FA:=(Below.refl w.heap.size w).alloc (Nat.le_refl _) (.cells #[.slice p bs.length cp,.slice pa (Qx bs).length ca,.slice q bs.length d,.slice p bs.length cp] 87);have HA:Hid ((w.alloc (.cells #[.slice p bs.length cp,.slice pa (Qx bs).length ca,.slice q bs.length d,.slice p bs.length cp] 87)).heap[w.heap.size]?=some (.cells #[.slice p bs.length cp,.slice pa (Qx bs).length ca,.slice q bs.length d,.slice p bs.length cp] 87 (0,0))∧Below w.heap.size w (w.alloc (.cells #[.slice p bs.length cp,.slice pa (Qx bs).length ca,.slice q bs.length d,.slice p bs.length cp] 87))):=⟨heap_alloc_last _ _,FA⟩;clear FA;generalize w.alloc (.cells #[.slice p bs.length cp,.slice pa (Qx bs).length ca,.slice q bs.length d,.slice p bs.length cp] 87)=W1 at *;refine(Qfb bs base B _ _ _ W1 (H.o.keeps HA.o.2) hk HL HFL hfl hn).mono ?_;rintro e w2 ⟨S,vs,rfl,H2⟩;obtain⟨ps,cs,rfl⟩:=Qb H2.o.1;have HB:Hid (w2.heap[w.heap.size]?=some (.cells #[.slice p bs.length cp,.slice pa (Qx bs).length ca,.slice q bs.length d,.slice p bs.length cp] 87 (0,0))∧Below w.heap.size w w2):=⟨by rw[H2.o.2.2.2.2.block _ (lt_of_block HA.o.1)];exact HA.o.1,HA.o.2.trans (H2.o.2.2.2.2.mono HA.o.2.size)⟩;have hSl:S.length≤5000:=Gu (a:=0) H2.o.2.1 fun x hx=>⟨Nat.zero_le _,H2.o.2.2.1 x hx⟩;have HS:Hid (S.Pairwise (· < ·)):=H2.o.2.1;have HWN:=Qc (Qfc hk.out H2.o.2.2.2.1);have HO:Hid (w2.ownsRow W1.heap.size 78 1 (.slice ps S.length cs) S.length (Qg S)):=H2.o.1;have j0:=Qa HB.o.1 0;have j1:=Qa HB.o.1 1;have j2:=Qa HB.o.1 2;have j3:=Qa HB.o.1 3;simp at j0 j1 j2 j3;have hz2:=lt_of_block HB.o.1;clear H2 HA HL HFL hfl;go_wp2_with fail;have FC:=(Below.refl w2.heap.size w2).alloc (Nat.le_refl _) (.cells #[.slice ps S.length cs] 161);have F5:=HB.o.2.trans (FC.mono HB.o.2.size);have hT:=Qhf (bw:=w2.heap.size) (H.o.keeps F5) (Qd HO.o (Qi FC) trivial) HS hSl hn (Nat.le_trans hbx F5.size) hk.out.cl hk.out.sl (Qj HB.o.1 _) (heap_alloc_last _ _);refine(QaG bs _ 107 _ _ base B _ _ _ _ (H.o.keeps F5) hT (Nat.le_trans hbx F5.size) (by omega)).mono ?_;rintro e w4 ⟨v4,rfl,H6⟩;have HR:Hid (PBs w4 base (trR (coF bs) (drR (Qt S)) bs) v4∧Below w.heap.size w w4):=⟨H6.o.1,F5.trans (H6.o.2.mono F5.size)⟩;clear H6 hT F5 FC j0 j1 j2 j3;go_wp2_with fail;go_ret;exact⟨_,S,rfl,HR.o.1,HWN.o,HR.o.2⟩
noncomputable def lnR(bs:List Ql)(st:Nat→Nat)(S:List Nat):List Ql:=trR (coF (trR (coF bs) (mgR (coF bs) st) bs)) (drR (Qt S)) (trR (coF bs) (mgR (coF bs) st) bs)
structure LnS(bs:List Ql)(st:Nat→Nat)(S:List Nat):Prop where
 ok:SOk (absP bs) st
 fix:mgF (absP bs) (coF bs) st=st
 wn:∀r,Qt S r=true↔Wn (absP (trR (coF bs) (mgR (coF bs) st) bs)) r
theorem Qi1(bs:List Ql)(base:Nat)(v:Value)(w:World)(h:PBs w base bs v)(hk:Hid (LnK bs))(hsl:Hid (∀b∈bs,b.sts.length≤20000)):
  Calls Tryz.prog 36 #[v,.int .i64 4999] w fun x w'=>∃v' st S B',x=.returned v'∧Hid (PBs w' B' (lnR bs st S) v'∧LnS bs st S∧Below w.heap.size w w'):=by
 obtain⟨p,c,rfl⟩:=h.slice;have H:=Qc h;clear h;go_enter Tryz.func36,Tryz.ntmps36;go_wp2_with fail;refine(Qbc bs base _ w H.o hk.out.rd).mono ?_;rintro e w1 ⟨va,vu,rfl,H1⟩;obtain⟨_,⟨pa,ca,rfl⟩,q,d,rfl⟩:=H1.o.1.form;go_wp2_with fail;refine(Qh6 bs base _ _ _ _ w1 H1.o.1 hk).mono ?_;rintro e w2 ⟨v2,st,rfl,H2⟩;obtain⟨p2,c2,rfl⟩:=H2.o.1.slice;have F2:=Qc (H1.o.2.trans (H2.o.2.2.2.mono H1.o.2.size));have HK2:=Qc (hk.out.mg H2.o.2.1 H2.o.2.2.1);have HSL2:Hid (∀b∈trR (coF bs) (mgR (coF bs) st) bs,b.sts.length≤20000):=QdI hsl.out;have HX:Hid (SOk (absP bs) st∧mgF (absP bs) (coF bs) st=st):=⟨H2.o.2.1,H2.o.2.2.1⟩;have HP2:Hid (PBs w2 w1.heap.size (trR (coF bs) (mgR (coF bs) st) bs) (.slice p2 (trR (coF bs) (mgR (coF bs) st) bs).length c2)∧w1.heap.size≤w2.heap.size):=⟨H2.o.1,H2.o.2.2.2.size⟩;clear H2 H1;go_wp2_with fail;refine(Qbc _ w1.heap.size _ w2 HP2.o.1 HK2.o.rd).mono ?_;rintro e w3 ⟨va3,vu3,rfl,H3⟩;obtain⟨_,⟨pa3,ca3,rfl⟩,q3,d3,rfl⟩:=H3.o.1.form;have F3:=Qc (F2.o.trans (H3.o.2.mono F2.o.size));go_wp2_with fail;refine(Qjb _ w1.heap.size _ _ _ _ w3 H3.o.1 HK2 (Nat.le_trans HP2.o.2 H3.o.2.size) HSL2).mono ?_;rintro e w4 ⟨v4,S,rfl,H4⟩;have F4:=Qc (F3.o.trans (H4.o.2.2.mono F3.o.size));go_wp2_with fail;go_ret;exact⟨_,st,S,_,rfl,H4.o.1,⟨HX.o.1,HX.o.2,H4.o.2.1⟩,F4.o⟩
end Go.Proofs.YtgfhfkgdmidhpaaGreatDoor
