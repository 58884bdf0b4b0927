import Derived.Test.YtgfhfkgdmidhpaaGreatDoorC25
namespace Go.Proofs.YtgfhfkgdmidhpaaGreatDoor
open Go.RowKit
set_option maxRecDepth 100000
set_option maxHeartbeats 8000000
theorem U3{α:Type}(l:List α)(f:α→List (Nat×Nat))(t:Nat):((l.take t).flatMap f).length≤(l.flatMap f).length:=by
 conv=>rhs;rw[←List.take_append_drop t l,List.flatMap_append,List.length_append]
 omega
theorem Qfw(b:Ql)(at_ base:Nat)(qc:Option Addr)(cc:Nat)(ps:Option Addr)(cs:Nat)(w:World)(hC:X1 w base b.chs (.slice qc b.chs.length cc))(hS:w.ownsRow base 150 1 (.slice ps b.sts.length cs) b.sts.length (b.sts.map QE))(hop:b.e.op=46∨b.e.op=62∨b.e.op=63)(hl:(regsB b).length≤10000000):
  Calls Tryz.prog 96 #[.agg #[.int .i64 at_,.slice qc b.chs.length cc,.slice ps b.sts.length cs,QP b.e]] w fun x w'=>∃v,x=.returned v∧Hid (w'.ownsRow w.heap.size 132 2 v (regsB b).length (pcs (regsB b))∧Below w.heap.size w w'):=by
 obtain⟨TE,xe,fe,hev,hem,het,hec⟩:=Qij b.e hop;rw[hev];have HES:=Qc (And.intro hem (And.intro het hec));have HC:=Qc hC;have HS:=Qc hS;have hb1:∀t,((b.chs.take t).flatMap ZO).length≤10000000:=fun t=>by
  have h1:=U3 b.chs ZO t;unfold regsB Xg at hl;rw[List.length_append,List.length_append]at hl;omega
 have hb3:∀t,(b.chs.flatMap ZO++(b.sts.take t).flatMap Zj).length≤10000000:=fun t=>by
  have h1:=U3 b.sts Zj t;unfold regsB Xg at hl;rw[List.length_append,List.length_append]at hl;rw[List.length_append];omega
 have HB1:=Qc hb1;have HB3:=Qc hb3;have hcl:b.chs.length≤10000000:=by
  have h1:=hb1 b.chs.length;rw[List.take_length]at h1;have h2:∀l:List QH,l.length≤(l.flatMap ZO).length:=fun l=>by
   induction l with
   | nil=>exact Nat.le_refl _
   | cons c l ih=>rw[List.flatMap_cons,List.length_append,List.length_cons];unfold ZO at ih ⊢;rw[List.length_cons];omega
  have:=h2 b.chs;omega
 have hslen:b.sts.length≤10000000:=by
  have h1:=hb3 b.sts.length;rw[List.take_length,List.length_append]at h1;have h2:∀l:List Qy,l.length≤(l.flatMap Zj).length:=fun l=>by
   induction l with
   | nil=>exact Nat.le_refl _
   | cons c l ih=>
    have h3:1≤(Zj c).length:=by
     unfold Zj;by_cases h:c.op=33
     ·rw[if_pos h];unfold JL;rw[if_neg (by omega),if_neg (by omega),if_pos h];simp
     ·rw[if_neg h];simp
    rw[List.flatMap_cons,List.length_append,List.length_cons];omega
  have:=h2 b.sts;omega
 clear hev hem het hec hC hS hop hb1 hb3;go_enter Tryz.func96,Tryz.ntmps96;go_wp2_with fail;have F0:Hid (Below w.heap.size w (w.alloc (.cells #[.int .i64 at_,.slice qc b.chs.length cc,.slice ps b.sts.length cs,.iface TE xe] 104))∧(w.alloc (.cells #[.int .i64 at_,.slice qc b.chs.length cc,.slice ps b.sts.length cs,.iface TE xe] 104)).heap[w.heap.size]?=some (.cells #[.int .i64 at_,.slice qc b.chs.length cc,.slice ps b.sts.length cs,.iface TE xe] 104 (0,0))):=⟨(Below.refl _ _).alloc (Nat.le_refl _) _,heap_alloc_last _ _⟩
 go_loopw [3,15] (fun v ii wr=>∃(t:Nat)(R:List (Nat×Nat)),t≤b.chs.length∧ii=.int .i64 t∧Hid (R=(b.chs.take t).flatMap ZO)∧wr.ownsRow w.heap.size 132 2 v R.length (pcs R)∧Hid (Below w.heap.size w wr∧wr.heap[w.heap.size]?=some (.cells #[.int .i64 at_,.slice qc b.chs.length cc,.slice ps b.sts.length cs,.iface TE xe] 104 (0,0)))) (fun _ ii _=>b.chs.length-(intOf ii).toNat)
 case atStart=>exact⟨0,[],by omega,rfl,rfl,World.ownsRow_nil _ _ _ _,F0⟩
 case round=>
  clear F0;obtain⟨t,R,ht,rfl,HR,OV,HF⟩:=hrel;rename World=>wA;obtain⟨pV,cV,rfl⟩:=Qb OV;have HOV:=Qc OV;have hzA:=HF.o.1.size;have hgA:=lt_of_block HF.o.2;have hRl:R.length≤10000000:=by have:=HB1.o t;rw[←HR.o]at this;exact this
  clear OV;by_cases htl:t<b.chs.length
  ·obtain⟨gc,pu,cu,rfl,_,hgc,hgr,OU,c0,c1,c2⟩:=HC.o.at htl;replace c0:=(HF.o.1.cell (p:=⟨gc,t*3,none⟩) hgc).trans c0;replace c1:=(HF.o.1.cell (p:=⟨gc,t*3+1,none⟩) hgc).trans c1;replace c2:=(HF.o.1.cell (p:=⟨gc,t*3+2,none⟩) hgc).trans c2;have HOU:=Qc OU;have HGR:=Qc hgr;have HN:Hid ((b.chs.take (t+1)).flatMap ZO=R++[b.chs[t].to]++b.chs[t].rs):=by
    show _=_;rw[List.take_succ_eq_append_getElem htl,List.flatMap_append,List.flatMap_cons,List.flatMap_nil,List.append_nil,HR.o,List.append_assoc];rfl
   have hRn:(R++[b.chs[t].to]++b.chs[t].rs).length≤10000000:=by have:=HB1.o (t+1);rw[HN.o]at this;exact this
   rw[List.length_append,List.length_append,List.length_singleton]at hRn;have F3:=(Below.refl wA.heap.size wA).alloc (Nat.le_refl _) (.cells #[.int .i64 b.chs[t].to.1,.int .i64 b.chs[t].to.2,.slice pu b.chs[t].gs.length cu] 140);have H3:Hid ((wA.alloc (.cells #[.int .i64 b.chs[t].to.1,.int .i64 b.chs[t].to.2,.slice pu b.chs[t].gs.length cu] 140)).ownsRow w.heap.size 132 2 (.slice pV R.length cV) R.length (pcs R)∧Below w.heap.size w (wA.alloc (.cells #[.int .i64 b.chs[t].to.1,.int .i64 b.chs[t].to.2,.slice pu b.chs[t].gs.length cu] 140))∧(wA.alloc (.cells #[.int .i64 b.chs[t].to.1,.int .i64 b.chs[t].to.2,.slice pu b.chs[t].gs.length cu] 140)).heap[w.heap.size]?=some (.cells #[.int .i64 at_,.slice (some ⟨gc,0,none⟩) b.chs.length cc,.slice ps b.sts.length cs,.iface TE xe] 104 (0,0))∧(wA.alloc (.cells #[.int .i64 b.chs[t].to.1,.int .i64 b.chs[t].to.2,.slice pu b.chs[t].gs.length cu] 140)).heap[wA.heap.size]?=some (.cells #[.int .i64 b.chs[t].to.1,.int .i64 b.chs[t].to.2,.slice pu b.chs[t].gs.length cu] 140 (0,0))):=⟨HOV.o.alloc _,HF.o.1.trans (F3.mono hzA),by rw[F3.block _ hgA];exact HF.o.2,heap_alloc_last _ _⟩;clear OU hgr F3 HF HOV;go_wp2_with (at_builtin;refine Qv ?_);refine Qc ?_;clear c0 c1 c2;have hW:=World.size_alloc wA (.cells #[.int .i64 b.chs[t].to.1,.int .i64 b.chs[t].to.2,.slice pu b.chs[t].gs.length cu] 140);generalize wA.alloc (.cells #[.int .i64 b.chs[t].to.1,.int .i64 b.chs[t].to.2,.slice pu b.chs[t].gs.length cu] 140)=W1 at *;have hz1:=H3.o.2.1.size;have gB:=heap_alloc_last W1 (.cells #[.int .i64 b.chs[t].to.1,.int .i64 b.chs[t].to.2] 132);rw[hW]at gB;clear hW;have OB:=H3.o.1.alloc (.cells #[.int .i64 b.chs[t].to.1,.int .i64 b.chs[t].to.2] 132);refine KU Tryz.underlying196 Tryz.info132 rfl (by decide) (by decide) rfl _ _ rfl rfl OB gB rfl rfl (List.all_eq_true.1 rfl) (by omega) (by simp;omega) ?_;intro v6 w6 oS gS nS;obtain⟨v6p,v6c,rfl⟩:=Qb oS;have C6:=ZB gS;have H6:Hid (w6.ownsRow w.heap.size 132 2 (.slice v6p (R.length+1) v6c) (R++[b.chs[t].to]).length (pcs (R++[b.chs[t].to]))∧Below w.heap.size w w6∧w6.heap[w.heap.size]?=some (.cells #[.int .i64 at_,.slice (some ⟨gc,0,none⟩) b.chs.length cc,.slice ps b.sts.length cs,.iface TE xe] 104 (0,0))∧w6.heap[wA.heap.size]?=some (.cells #[.int .i64 b.chs[t].to.1,.int .i64 b.chs[t].to.2,.slice pu b.chs[t].gs.length cu] 140 (0,0))):=by
    refine⟨by rw[J3,List.length_append];exact oS,H3.o.2.1.trans (C6.toBelow hz1 (fun j hj=>(H3.o.1.lt j hj.symm).1)),?_,?_⟩
    ·rw[C6.block _ (lt_of_block H3.o.2.2.1) (fun e2=>Qw H3.o.1 H3.o.2.2.1 (by decide) e2.symm)];exact H3.o.2.2.1
    ·rw[C6.block _ (lt_of_block H3.o.2.2.2) (fun e2=>Qw H3.o.1 H3.o.2.2.2 (by decide) e2.symm)];exact H3.o.2.2.2
   clear oS gS nS gB OB C6 H3;have y2:=Qa H6.o.2.2.2 2;simp at y2;go_wp2_with fail;clear y2;obtain⟨R1,hR1⟩:∃R1,R1=R++[b.chs[t].to]:=⟨_,rfl⟩;have hR1l:R1.length=R.length+1:=by rw[hR1];simp
   have H7:Hid (w6.ownsRow w.heap.size 132 2 (.slice v6p (R.length+1) v6c) R1.length (pcs R1)∧Below w.heap.size w w6∧w6.heap[w.heap.size]?=some (.cells #[.int .i64 at_,.slice (some ⟨gc,0,none⟩) b.chs.length cc,.slice ps b.sts.length cs,.iface TE xe] 104 (0,0))):=by
    rw[hR1];exact⟨H6.o.1,H6.o.2.1,H6.o.2.2.1⟩
   have HR1:=Qc hR1;have hR1b:R1.length+b.chs[t].rs.length≤10000000:=by omega
   clear hR1 H6 hR1l
   go_loopw [3,27] (fun v jj wr=>∃(q:Nat)(X:List (Nat×Nat)),q≤b.chs[t].gs.length∧jj=.int .i64 q∧X.length=R1.length+q∧Hid (X=R1++b.chs[t].rs.take q)∧wr.ownsRow w.heap.size 132 2 v X.length (pcs X)∧Hid (Below w.heap.size w wr∧wr.heap[w.heap.size]?=some (.cells #[.int .i64 at_,.slice (some ⟨gc,0,none⟩) b.chs.length cc,.slice ps b.sts.length cs,.iface TE xe] 104 (0,0)))) (fun _ jj _=>b.chs[t].gs.length-(intOf jj).toNat)
   case atStart=>exact⟨0,R1,by omega,rfl,rfl,by show _=_;simp,H7.o.1,H7.o.2⟩
   case round=>
    clear H7;obtain⟨q,X,hq,rfl,hXl,HX,OV,HF⟩:=hrel;rename World=>wB;obtain⟨pX,cX,rfl⟩:=Qb OV;have HOV:=Qc OV;have hzB:=HF.o.1.size;have hgB:=lt_of_block HF.o.2;have HXL:=Qc hXl;have hXb:X.length≤10000000:=by have:=HGR.o;omega
    clear OV hXl;by_cases hql:q<b.chs[t].gs.length
    ·have hqr:q<b.chs[t].rs.length:=by have:=HGR.o;omega
     have OU:=Qd HOU.o (Qi HF.o.1) trivial;obtain⟨gu,rfl,_,_⟩:=Qh OU (by omega);have f0:=Qe OU (QF HGR.o hql).1;have f1:=Qe OU (QF HGR.o hql).2.1;have f2:=Qe OU (QF HGR.o hql).2.2.1;have f3:=Qe OU (QF HGR.o hql).2.2.2;have HNX:Hid (X++[b.chs[t].rs[q]]=R1++b.chs[t].rs.take (q+1)):=by show _=_;rw[List.take_succ_eq_append_getElem hqr,←List.append_assoc,HX.o]
     generalize b.chs[t].rs[q]=rr at *;generalize b.chs[t].gs[q]=gg at *;have F5:=(Below.refl wB.heap.size wB).alloc (Nat.le_refl _) (.cells #[.int .i64 gg.1,.int .i64 gg.2,.int .i64 rr.1,.int .i64 rr.2] 147);have H5:Hid ((wB.alloc (.cells #[.int .i64 gg.1,.int .i64 gg.2,.int .i64 rr.1,.int .i64 rr.2] 147)).ownsRow w.heap.size 132 2 (.slice pX X.length cX) X.length (pcs X)∧Below w.heap.size w (wB.alloc (.cells #[.int .i64 gg.1,.int .i64 gg.2,.int .i64 rr.1,.int .i64 rr.2] 147))∧(wB.alloc (.cells #[.int .i64 gg.1,.int .i64 gg.2,.int .i64 rr.1,.int .i64 rr.2] 147)).heap[w.heap.size]?=some (.cells #[.int .i64 at_,.slice (some ⟨gc,0,none⟩) b.chs.length cc,.slice ps b.sts.length cs,.iface TE xe] 104 (0,0))):=⟨HOV.o.alloc _,HF.o.1.trans (F5.mono hzB),by rw[F5.block _ hgB];exact HF.o.2⟩;clear OU F5 HF HOV;go_wp2_with (at_builtin;refine Qv ?_);refine Qc ?_;clear f0 f1 f2 f3;have hW:=World.size_alloc wB (.cells #[.int .i64 gg.1,.int .i64 gg.2,.int .i64 rr.1,.int .i64 rr.2] 147);generalize wB.alloc (.cells #[.int .i64 gg.1,.int .i64 gg.2,.int .i64 rr.1,.int .i64 rr.2] 147)=W2 at *;have hz2:=H5.o.2.1.size;have gB:=heap_alloc_last W2 (.cells #[.int .i64 rr.1,.int .i64 rr.2] 132);rw[hW]at gB;clear hW;have OB:=H5.o.1.alloc (.cells #[.int .i64 rr.1,.int .i64 rr.2] 132);refine KU Tryz.underlying196 Tryz.info132 rfl (by decide) (by decide) rfl _ _ rfl rfl OB gB rfl rfl (List.all_eq_true.1 rfl) (by omega) (by simp;omega) ?_;intro v8 w8 oS gS nS;obtain⟨v8p,v8c,rfl⟩:=Qb oS;have C8:=ZB gS;have H8:Hid (w8.ownsRow w.heap.size 132 2 (.slice v8p (X.length+1) v8c) (X++[rr]).length (pcs (X++[rr]))∧Below w.heap.size w w8∧w8.heap[w.heap.size]?=some (.cells #[.int .i64 at_,.slice (some ⟨gc,0,none⟩) b.chs.length cc,.slice ps b.sts.length cs,.iface TE xe] 104 (0,0))):=by
      refine⟨by rw[J3,List.length_append];exact oS,H5.o.2.1.trans (C8.toBelow hz2 (fun j hj=>(H5.o.1.lt j hj.symm).1)),?_⟩;rw[C8.block _ (lt_of_block H5.o.2.2) (fun e2=>Qw H5.o.1 H5.o.2.2 (by decide) e2.symm)];exact H5.o.2.2
     clear oS gS nS gB OB C8 H5;go_wp2_with fail;go_roundw
     case rel=>exact⟨q+1,X++[rr],by omega,by go_num,by rw[List.length_append,List.length_singleton];have:=HXL.o;omega,HNX,H8.o.1,H8.o.2⟩
     case measure=>simp[intOf];omega
    ·have HXE:Hid (X=(b.chs.take (t+1)).flatMap ZO):=by
      show _=_;rw[HN.o,HX.o,List.take_of_length_le (by have:=HGR.o;omega),HR1.o]
     go_wp2_with fail;go_roundw
     case rel=>exact⟨t+1,X,by omega,by go_num,HXE,HOV.o,HF⟩
     case measure=>simp[intOf];omega
  ·have HRE:Hid (R=b.chs.flatMap ZO):=by show _=_;rw[HR.o,List.take_of_length_le (by omega)]
   have k2:=Qa HF.o.2 2;simp at k2;go_wp2_with fail;clear k2;have HF2:=HF;have HOV2:=HOV;have HRR:Hid (R=b.chs.flatMap ZO++(b.sts.take 0).flatMap Zj):=by show _=_;rw[HRE.o];simp
   clear HF HOV HR HRE
   go_loopw [3,41] (fun v ii wr=>∃(t:Nat)(X:List (Nat×Nat)),t≤b.sts.length∧ii=.int .i64 t∧Hid (X=b.chs.flatMap ZO++(b.sts.take t).flatMap Zj)∧wr.ownsRow w.heap.size 132 2 v X.length (pcs X)∧Hid (Below w.heap.size w wr∧wr.heap[w.heap.size]?=some (.cells #[.int .i64 at_,.slice qc b.chs.length cc,.slice ps b.sts.length cs,.iface TE xe] 104 (0,0)))) (fun _ ii _=>b.sts.length-(intOf ii).toNat)
   case atStart=>exact⟨0,R,by omega,rfl,HRR,HOV2.o,HF2⟩
   case round=>
    clear HF2 HOV2 HRR hgA hzA hRl;obtain⟨t,X,ht,rfl,HX,OV,HF⟩:=hrel;rename World=>wB;obtain⟨pX,cX,rfl⟩:=Qb OV;have HOV:=Qc OV;have hzB:=HF.o.1.size;have hgB:=lt_of_block HF.o.2;have hXb:X.length≤10000000:=by have:=HB3.o t;rw[←HX.o]at this;exact this
    clear OV;by_cases htl:t<b.sts.length
    ·have OS:=Qd HS.o (Qi HF.o.1) trivial;obtain⟨gs,rfl,_,_⟩:=Qh OS (by omega);obtain⟨T,x,fr,fg,hsv,hrm,hrt,hrc,hgm,hgt,hgc⟩:=Rx b.sts[t];have cS:=Qe OS (j:=t) (u:=.iface T x) (by rw[←hsv];simp[htl]);have HR:=Qc (And.intro hrm (And.intro hrt hrc));have HG:=Qc (And.intro hgm (And.intro hgt hgc));have HNX:Hid (b.chs.flatMap ZO++(b.sts.take (t+1)).flatMap Zj=X++Zj b.sts[t]):=by
      show _=_;rw[List.take_succ_eq_append_getElem htl,List.flatMap_append,List.flatMap_cons,List.flatMap_nil,List.append_nil,←List.append_assoc,HX.o]
     have hXn:(X++Zj b.sts[t]).length≤10000000:=by have:=HB3.o (t+1);rw[HNX.o]at this;exact this
     rw[List.length_append]at hXn;have HRD:=Qc (QaO b.sts[t]);clear hsv hrm hrt hrc hgm hgt hgc OS;go_wp2_with fail;rw[HG.o.1,Result.andThen_ok];simp only[HG.o.2.1];unfold Oper.upon;refine(HG.o.2.2 _).mono ?_;rintro r w1 ⟨rfl,f1⟩;have H1:Hid (w1.ownsRow w.heap.size 132 2 (.slice pX X.length cX) X.length (pcs X)∧Below w.heap.size w w1∧w1.heap[w.heap.size]?=some (.cells #[.int .i64 at_,.slice qc b.chs.length cc,.slice (some ⟨gs,0,none⟩) b.sts.length cs,.iface TE xe] 104 (0,0))):=⟨Qd HOV.o (Qi f1) trivial,HF.o.1.trans (f1.mono hzB),by rw[f1.block _ hgB];exact HF.o.2⟩;clear f1 HG HF HOV cS;by_cases h33:b.sts[t].op=33
     ·have e33:(b.sts[t].op != 33)=false:=by simp[h33]
      have HRS:Hid (Zj b.sts[t]=rdsF b.sts[t]):=by show _=_;rw[HRD.o];unfold Zj;rw[if_pos h33];rfl
      rw[e33,if_pos h33];have H3:Hid ((w1.alloc (.cells #[.int .i64 0,.int .i64 0] 132)).ownsRow w.heap.size 132 2 (.slice pX X.length cX) X.length (pcs X)∧Below w.heap.size w (w1.alloc (.cells #[.int .i64 0,.int .i64 0] 132))∧(w1.alloc (.cells #[.int .i64 0,.int .i64 0] 132)).heap[w.heap.size]?=some (.cells #[.int .i64 at_,.slice qc b.chs.length cc,.slice (some ⟨gs,0,none⟩) b.sts.length cs,.iface TE xe] 104 (0,0))):=⟨H1.o.1.alloc _,H1.o.2.1.alloc H1.o.2.1.size _,by rw[Below.heap_alloc _ _ _ (lt_of_block H1.o.2.2)];exact H1.o.2.2⟩;have hrl:(rdsF b.sts[t]).length≤10000000:=by have:=HRS.o;rw[this]at hXn;omega
      clear e33 h33 H1;go_wp2_with fail;rw[HR.o.1,Result.andThen_ok];simp only[HR.o.2.1];unfold Oper.upon;refine(HR.o.2.2 _).mono ?_;rintro r w4 ⟨v4,rfl,o4,f4⟩;obtain⟨p4,c4,rfl⟩:=Qb o4;have H4:Hid (w4.ownsRow w.heap.size 132 2 (.slice pX X.length cX) X.length (pcs X)∧Below w.heap.size w w4∧w4.heap[w.heap.size]?=some (.cells #[.int .i64 at_,.slice qc b.chs.length cc,.slice (some ⟨gs,0,none⟩) b.sts.length cs,.iface TE xe] 104 (0,0))):=⟨Qd H3.o.1 (Qi f4) trivial,H3.o.2.1.trans (f4.mono H3.o.2.1.size),by rw[f4.block _ (lt_of_block H3.o.2.2)];exact H3.o.2.2⟩;have hz4:=H4.o.2.1.size;have HO4:=Qc o4;clear f4 HR H3 o4;go_wp2_with (at_builtin;refine Qv ?_);refine Qc ?_;refine Rh Tryz.underlying196 Tryz.info132 rfl (by decide) rfl _ _ rfl rfl H4.o.1 rfl HO4.o (Y7 _) (by unfold maxLen;omega) (by omega) hz4 ?_;intro v6 w6 o6 g6;obtain⟨p6,c6,rfl⟩:=Qb o6;have H6:Hid (w6.ownsRow w.heap.size 132 2 (.slice p6 (X.length+(rdsF b.sts[t]).length) c6) (X++Zj b.sts[t]).length (pcs (X++Zj b.sts[t]))∧Below w.heap.size w w6∧w6.heap[w.heap.size]?=some (.cells #[.int .i64 at_,.slice qc b.chs.length cc,.slice (some ⟨gs,0,none⟩) b.sts.length cs,.iface TE xe] 104 (0,0))):=by
       have C6:Ch (fun j=>some j=(Value.slice pX X.length cX).ownBlock) w4 w6:=Ch.grown g6 (fun _ h=>h);refine⟨?_,H4.o.2.1.trans (C6.toBelow hz4 (fun j hj=>(H4.o.1.lt j hj.symm).1)),?_⟩
       ·rw[HRS.o,J3,List.length_append];exact o6
       ·rw[C6.block _ (lt_of_block H4.o.2.2) (fun e2=>Qw H4.o.1 H4.o.2.2 (by decide) e2.symm)];exact H4.o.2.2
      clear o6 g6 H4 HO4;go_wp2_with fail;go_roundw
      case rel=>exact⟨t+1,X++Zj b.sts[t],by omega,by go_num,HNX.o.symm,H6.o.1,H6.o.2⟩
      case measure=>simp[intOf];omega
     ·have e33:(b.sts[t].op != 33)=true:=by simp[h33]
      have HRS:Hid (Zj b.sts[t]=[b.sts[t].to]++rdsF b.sts[t]):=by show _=_;rw[HRD.o];unfold Zj;rw[if_neg h33]
      rw[e33,if_neg h33];have hrl:(rdsF b.sts[t]).length≤10000000:=by have:=HRS.o;rw[this,List.length_append]at hXn;omega
      have H2:Hid ((w1.alloc (.cells #[.int .i64 b.sts[t].to.1,.int .i64 b.sts[t].to.2] 132)).ownsRow w.heap.size 132 2 (.slice pX X.length cX) X.length (pcs X)∧Below w.heap.size w (w1.alloc (.cells #[.int .i64 b.sts[t].to.1,.int .i64 b.sts[t].to.2] 132))∧(w1.alloc (.cells #[.int .i64 b.sts[t].to.1,.int .i64 b.sts[t].to.2] 132)).heap[w.heap.size]?=some (.cells #[.int .i64 at_,.slice qc b.chs.length cc,.slice (some ⟨gs,0,none⟩) b.sts.length cs,.iface TE xe] 104 (0,0))):=⟨H1.o.1.alloc _,H1.o.2.1.alloc H1.o.2.1.size _,by rw[Below.heap_alloc _ _ _ (lt_of_block H1.o.2.2)];exact H1.o.2.2⟩;have hW:=World.size_alloc w1 (.cells #[.int .i64 b.sts[t].to.1,.int .i64 b.sts[t].to.2] 132);clear e33 h33 H1;go_wp2_with (at_builtin;refine Qv ?_);refine Qc ?_;generalize w1.alloc (.cells #[.int .i64 b.sts[t].to.1,.int .i64 b.sts[t].to.2] 132)=W2 at *;have hz2:=H2.o.2.1.size;have gB:=heap_alloc_last W2 (.cells #[.int .i64 b.sts[t].to.1,.int .i64 b.sts[t].to.2] 132);have OB:=H2.o.1.alloc (.cells #[.int .i64 b.sts[t].to.1,.int .i64 b.sts[t].to.2] 132);rw[hW]at gB;clear hW;refine KU Tryz.underlying196 Tryz.info132 rfl (by decide) (by decide) rfl _ _ rfl rfl OB gB rfl rfl (List.all_eq_true.1 rfl) (by omega) (by simp;omega) ?_;intro v5 w5 oS gS nS;obtain⟨v5p,v5c,rfl⟩:=Qb oS;have C5:=ZB gS;have H3:Hid (w5.ownsRow w.heap.size 132 2 (.slice v5p (X.length+1) v5c) (X.length+1) (pcs (X++[b.sts[t].to]))∧Below w.heap.size w w5∧w5.heap[w.heap.size]?=some (.cells #[.int .i64 at_,.slice qc b.chs.length cc,.slice (some ⟨gs,0,none⟩) b.sts.length cs,.iface TE xe] 104 (0,0))):=by
       refine⟨by rw[J3];exact oS,H2.o.2.1.trans (C5.toBelow hz2 (fun j hj=>(H2.o.1.lt j hj.symm).1)),?_⟩;rw[C5.block _ (lt_of_block H2.o.2.2) (fun e2=>Qw H2.o.1 H2.o.2.2 (by decide) e2.symm)];exact H2.o.2.2
      clear oS gS nS gB OB C5 H2;go_wp2_with fail;rw[HR.o.1,Result.andThen_ok];simp only[HR.o.2.1];unfold Oper.upon;refine(HR.o.2.2 _).mono ?_;rintro r w4 ⟨v4,rfl,o4,f4⟩;obtain⟨p4,c4,rfl⟩:=Qb o4;have H4:Hid (w4.ownsRow w.heap.size 132 2 (.slice v5p (X.length+1) v5c) (X.length+1) (pcs (X++[b.sts[t].to]))∧Below w.heap.size w w4∧w4.heap[w.heap.size]?=some (.cells #[.int .i64 at_,.slice qc b.chs.length cc,.slice (some ⟨gs,0,none⟩) b.sts.length cs,.iface TE xe] 104 (0,0))):=⟨Qd H3.o.1 (Qi f4) trivial,H3.o.2.1.trans (f4.mono H3.o.2.1.size),by rw[f4.block _ (lt_of_block H3.o.2.2)];exact H3.o.2.2⟩;have hz4:=H4.o.2.1.size;have HO4:=Qc o4;clear f4 HR H3 o4;go_wp2_with (at_builtin;refine Qv ?_);refine Qc ?_;refine Rh Tryz.underlying196 Tryz.info132 rfl (by decide) rfl _ _ rfl rfl H4.o.1 rfl HO4.o (Y7 _) (by unfold maxLen;omega) (by omega) hz4 ?_;intro v6 w6 o6 g6;obtain⟨p6,c6,rfl⟩:=Qb o6;have H6:Hid (w6.ownsRow w.heap.size 132 2 (.slice p6 ((X.length+1)+(rdsF b.sts[t]).length) c6) (X++Zj b.sts[t]).length (pcs (X++Zj b.sts[t]))∧Below w.heap.size w w6∧w6.heap[w.heap.size]?=some (.cells #[.int .i64 at_,.slice qc b.chs.length cc,.slice (some ⟨gs,0,none⟩) b.sts.length cs,.iface TE xe] 104 (0,0))):=by
       have C6:Ch (fun j=>some j=(Value.slice v5p (X.length+1) v5c).ownBlock) w4 w6:=Ch.grown g6 (fun _ h=>h);refine⟨?_,H4.o.2.1.trans (C6.toBelow hz4 (fun j hj=>(H4.o.1.lt j hj.symm).1)),?_⟩
       ·rw[HRS.o,←List.append_assoc,J3,List.length_append,List.length_append,List.length_singleton];exact o6
       ·rw[C6.block _ (lt_of_block H4.o.2.2) (fun e2=>Qw H4.o.1 H4.o.2.2 (by decide) e2.symm)];exact H4.o.2.2
      clear o6 g6 H4 HO4;go_wp2_with fail;go_roundw
      case rel=>exact⟨t+1,X++Zj b.sts[t],by omega,by go_num,HNX.o.symm,H6.o.1,H6.o.2⟩
      case measure=>simp[intOf];omega
    ·have HXE:Hid (X++QZ b.e=regsB b):=by
      show _=_;rw[HX.o,List.take_of_length_le (by omega)];rfl
     have k3:=Qa HF.o.2 3;simp at k3;have hel:(QZ b.e).length≤1:=by unfold QZ;split<;>simp
     go_wp2_with fail;rw[HES.o.1,Result.andThen_ok];simp only[HES.o.2.1];unfold Oper.upon;refine(HES.o.2.2 _).mono ?_;rintro r w4 ⟨v4,rfl,o4,f4⟩;obtain⟨p4,c4,rfl⟩:=Qb o4;have H4:Hid (w4.ownsRow w.heap.size 132 2 (.slice pX X.length cX) X.length (pcs X)∧Below w.heap.size w w4):=⟨Qd HOV.o (Qi f4) trivial,HF.o.1.trans (f4.mono hzB)⟩;have hz4:=H4.o.2.size;have HO4:=Qc o4;clear f4 HES HF HOV o4 k3;go_wp2_with (at_builtin;refine Qv ?_);refine Qc ?_;refine Rh Tryz.underlying196 Tryz.info132 rfl (by decide) rfl _ _ rfl rfl H4.o.1 rfl HO4.o (Y7 _) (by unfold maxLen;omega) (by omega) hz4 ?_;intro v6 w6 o6 g6;obtain⟨p6,c6,rfl⟩:=Qb o6;have R6:Hid (w6.ownsRow w.heap.size 132 2 (.slice p6 (X.length+(QZ b.e).length) c6) (regsB b).length (pcs (regsB b))∧Below w.heap.size w w6):=by
      refine⟨?_,Below.grown H4.o.2 g6 hz4 (fun j hj=>(H4.o.1.lt j hj).1)⟩;rw[←HXE.o,J3,List.length_append];exact o6
     clear o6 g6 H4 HO4;go_wp2_with fail;go_ret;exact⟨_,rfl,R6.o⟩
theorem Qeo{p:Nat×Nat→Bool}{pre post:List (Nat×Nat)}{r:Nat×Nat}(h:∀x∈pre,p x=false)(hr:p r=true):(pre++r::post).find? p=some r:=by
 rw[List.find?_append,List.find?_eq_none.2 (fun x hx=>by rw[h x hx];simp),List.find?_cons_of_pos hr];rfl
def grt(r:Nat×Nat):Bool:=decide (4999<r.1)
theorem QdD{bs:List Ql}{k t:Nat}(hk:k<bs.length)(ht:t<(regsB bs[k]).length)(h1:∀x∈(bs.take k).flatMap regsB,grt x=false)(h2:∀x∈(regsB bs[k]).take t,grt x=false)(hr:grt (regsB bs[k])[t]=true):JQ bs=some (regsB bs[k])[t].2:=by
 have e:bs.flatMap regsB=((bs.take k).flatMap regsB++(regsB bs[k]).take t)++(regsB bs[k])[t]::((regsB bs[k]).drop (t+1)++(bs.drop (k+1)).flatMap regsB):=by
  have e1:bs=bs.take k++bs[k]::bs.drop (k+1):=by rw[List.getElem_cons_drop,List.take_append_drop]
  have e2:regsB bs[k]=(regsB bs[k]).take t++(regsB bs[k])[t]::(regsB bs[k]).drop (t+1):=by rw[List.getElem_cons_drop,List.take_append_drop]
  have e3:bs.flatMap regsB=(bs.take k).flatMap regsB++(regsB bs[k]++(bs.drop (k+1)).flatMap regsB):=by
   conv=>lhs;rw[e1]
   rw[List.flatMap_append,List.flatMap_cons]
  have e4:regsB bs[k]++(bs.drop (k+1)).flatMap regsB=((regsB bs[k]).take t++(regsB bs[k])[t]::(regsB bs[k]).drop (t+1))++(bs.drop (k+1)).flatMap regsB:=by rw[←e2]
  rw[e3,e4];simp only[List.append_assoc,List.cons_append]
 unfold JQ;rw[e];have:=Qeo (p:=grt) (pre:=(bs.take k).flatMap regsB++(regsB bs[k]).take t) (post:=(regsB bs[k]).drop (t+1)++(bs.drop (k+1)).flatMap regsB) (fun x hx=>by
  rcases List.mem_append.1 hx with hx|hx
  ·exact h1 x hx
  ·exact h2 x hx) hr
 rw[show (fun r:Nat×Nat=>decide (4999<r.1))=grt from rfl,this];rfl
theorem Qf1{bs:List Ql}(h:∀x∈bs.flatMap regsB,grt x=false):JQ bs=none:=by
 unfold JQ;rw[show (fun r:Nat×Nat=>decide (4999<r.1))=grt from rfl,List.find?_eq_none.2 (fun x hx=>by rw[h x hx];simp)];rfl
theorem QaX(bs:List Ql)(base:Nat)(v:Value)(w:World)(h:PBs w base bs v)(hn:bs.length≤1000)(hl:∀b∈bs,(regsB b).length≤10000000):
  Calls Tryz.prog 61 #[v] w fun x w'=>x=.returned (.tuple #[.int .i64 ((JQ bs).getD 0:Nat),.bool (JQ bs).isSome])∧Below w.heap.size w w':=by
 obtain⟨pv,cv,rfl⟩:=h.slice;have HB:=Qc h;have HL:=Qc hl;clear h hl;go_enter Tryz.func61,Tryz.ntmps61;go_wp2_with fail
 go_loopw [10] (fun ii wr=>∃k:Nat,k≤bs.length∧ii=.int .i64 k∧Hid (∀x∈(bs.take k).flatMap regsB,grt x=false)∧Hid (Below w.heap.size w wr)) (fun ii _=>bs.length-(intOf ii).toNat)
 case atStart=>exact⟨0,by omega,rfl,(fun x hx=>by simp at hx),Below.refl _ _⟩
 case round=>
  obtain⟨k,hk,rfl,HN,F⟩:=hrel;rename World=>wA;by_cases hlt:k<bs.length
  ·obtain⟨g,qc,cc,ps,cs1,rfl,_,hg,hop,OC,OS,d0,d1,d2,d3⟩:=HB.o.at hlt;replace d0:=(F.o.cell (p:=⟨g,k*4,none⟩) hg).trans d0;replace d1:=(F.o.cell (p:=⟨g,k*4+1,none⟩) hg).trans d1;replace d2:=(F.o.cell (p:=⟨g,k*4+2,none⟩) hg).trans d2;replace d3:=(F.o.cell (p:=⟨g,k*4+3,none⟩) hg).trans d3;obtain⟨TE,xe,eV⟩:∃TE xe,QP bs[k].e=.iface TE xe:=by
    unfold QP
    repeat' split
    all_goals exact⟨_,_,rfl⟩
   have hzA:=F.o.size;have hrl:=HL.o _ (List.getElem_mem hlt);have F1:=Qc (F.o.alloc hzA (.cells #[.int .i64 bs[k].at_,.slice qc bs[k].chs.length cc,.slice ps bs[k].sts.length cs1,.iface TE xe] 104));have HCALL:Hid (Calls Tryz.prog 96 #[.agg #[.int .i64 bs[k].at_,.slice qc bs[k].chs.length cc,.slice ps bs[k].sts.length cs1,.iface TE xe]] (wA.alloc (.cells #[.int .i64 bs[k].at_,.slice qc bs[k].chs.length cc,.slice ps bs[k].sts.length cs1,.iface TE xe] 104)) fun x w'=>∃v,x=.returned v∧Hid (w'.ownsRow (wA.alloc (.cells #[.int .i64 bs[k].at_,.slice qc bs[k].chs.length cc,.slice ps bs[k].sts.length cs1,.iface TE xe] 104)).heap.size 132 2 v (regsB bs[k]).length (pcs (regsB bs[k]))∧Below (wA.alloc (.cells #[.int .i64 bs[k].at_,.slice qc bs[k].chs.length cc,.slice ps bs[k].sts.length cs1,.iface TE xe] 104)).heap.size (wA.alloc (.cells #[.int .i64 bs[k].at_,.slice qc bs[k].chs.length cc,.slice ps bs[k].sts.length cs1,.iface TE xe] 104)) w')):=by
    have:=Qfw bs[k] bs[k].at_ base qc cc ps cs1 (wA.alloc (.cells #[.int .i64 bs[k].at_,.slice qc bs[k].chs.length cc,.slice ps bs[k].sts.length cs1,.iface TE xe] 104)) (OC.keeps (Qi F1.o) trivial trivial) (Qd OS (Qi F1.o) trivial) hop hrl;rw[eV]at this;exact this
   rw[eV]at d3;clear OC OS eV hop;go_wp2_with fail;refine HCALL.o.mono ?_;rintro x w2 ⟨v2,rfl,H2⟩;obtain⟨p2,c2,rfl⟩:=Qb H2.o.1;have F2:=Qc (F1.o.trans (H2.o.2.mono F1.o.size));have HO:=Qc H2.o.1;clear d0 d1 d2 d3 HCALL F1 F H2;have HLK:Hid (∀t (ht:t<(regsB bs[k]).length),(∀x∈(regsB bs[k]).take t,grt x=false)→grt (regsB bs[k])[t]=true→JQ bs=some (regsB bs[k])[t].2):=fun t ht h2 h3=>QdD hlt ht HN.o h2 h3;have HNE:Hid ((∀x∈regsB bs[k],grt x=false)→∀x∈(bs.take (k+1)).flatMap regsB,grt x=false):=fun h x hx=>by
    rw[List.take_succ_eq_append_getElem hlt,List.flatMap_append,List.mem_append]at hx;rcases hx with hx|hx
    ·exact HN.o x hx
    ·rw[List.flatMap_cons,List.flatMap_nil,List.append_nil]at hx;exact h x hx
   clear HN;generalize regsB bs[k]=L at *;go_wp2_with fail
   go_loopw [17] (fun jj wr=>∃t:Nat,t≤L.length∧jj=.int .i64 t∧Hid (∀x∈L.take t,grt x=false)∧Hid (Below w2.heap.size w2 wr)) (fun jj _=>L.length-(intOf jj).toNat)
   case atStart=>exact⟨0,by omega,rfl,(fun x hx=>by simp at hx),Below.refl _ _⟩
   case round=>
    obtain⟨t,ht,rfl,HT,FB⟩:=hrel;rename World=>wB;have hz2:=F2.o.size;have hz3:=FB.o.size;by_cases htl:t<L.length
    ·have OB:=Qd HO.o (Qi FB.o) trivial;obtain⟨gl,rfl,_,_⟩:=Qh OB (by omega);have f0:=Qe OB (QX htl).1;have f1:=Qe OB (QX htl).2;have F3:=Qc ((Below.refl wB.heap.size wB).alloc (Nat.le_refl _) (.cells #[.int .i64 L[t].1,.int .i64 L[t].2] 132));clear OB;by_cases hgr:4999<L[t].1
     ·have hd:decide ((4999:Int)<(L[t].1:Int))=true:=by simp;omega
      have HF:Hid (JQ bs=some L[t].2):=HLK.o t htl HT.o (by simp[grt,hgr]);clear hgr;go_wp2_with fail
      go_ret2
      refine⟨by rw[HF.o];rfl,?_⟩;exact F2.o.trans ((FB.o.trans (F3.o.mono hz3)).mono hz2)
     ·have hd:decide ((4999:Int)<(L[t].1:Int))=false:=by simp;omega
      have HT2:Hid (∀x∈L.take (t+1),grt x=false):=fun x hx=>by
       rw[List.take_succ_eq_append_getElem htl,List.mem_append]at hx;rcases hx with hx|hx
       ·exact HT.o x hx
       ·rw[List.mem_singleton]at hx;subst hx;simp[grt];omega
      have F4:=Qc (FB.o.trans (F3.o.mono hz3));clear hgr HT FB F3;go_wp2_with fail;go_roundw
      case rel=>exact⟨t+1,by omega,by go_num,HT2,F4⟩
      case measure=>simp[intOf];omega
    ·have HA:Hid (∀x∈(bs.take (k+1)).flatMap regsB,grt x=false):=HNE.o (fun x hx=>HT.o x (by rw[List.take_of_length_le (by omega)];exact hx));have F5:=Qc (F2.o.trans (FB.o.mono hz2));clear HT FB F2;go_wp2_with fail;go_roundw
     case rel=>exact⟨k+1,by omega,by go_num,HA,F5⟩
     case measure=>simp[intOf];omega
  ·have HF:Hid (JQ bs=none):=Qf1 (fun x hx=>HN.o x (by rw[List.take_of_length_le (by omega)];exact hx));clear HN;go_wp2_with fail
   go_ret2
   exact⟨by rw[HF.o];rfl,F.o⟩
end Go.Proofs.YtgfhfkgdmidhpaaGreatDoor
namespace Go.Proofs.YtgfhfkgdmidhpaaGreatDoor
open Go.RowKit Go.Maps
set_option maxRecDepth 100000
set_option maxHeartbeats 8000000
theorem U4{α:Type}{P:α→Bool}{l:List α}{k:Nat}(hk:k<l.length)(h:(l.take k).find? P=none)(hb:P l[k]=true):l.find? P=some l[k]:=by
 have h2:(l.take k++l[k]::l.drop (k+1)).find? P=some l[k]:=by rw[List.find?_append,h,List.find?_cons,hb];rfl
 rwa [←List.drop_eq_getElem_cons hk,List.take_append_drop]at h2
theorem Qdi{bs:List Ql}(hf:∀b∈bs,ZG 1000000 b)(hcg:∀b∈bs,∀c∈b.chs,∀p∈c.gs,p.1<bs.length){u:Use}(hu:u∈rdU bs):u.n<10000∧u.b<bs.length:=by
 obtain⟨i,hi,hu⟩:=List.mem_flatMap.1 hu;have hi:=List.mem_range.1 hi;rw[Zt hi,QfH,List.mem_append,List.mem_append]at hu;have hfb:=hf _ (List.getElem_mem hi);rcases hu with hu|hu|hu
 ·obtain⟨c,hc,hu⟩:=List.mem_flatMap.1 hu;obtain⟨p,hp,rfl⟩:=List.mem_map.1 hu;have h1:=List.of_mem_zip hp;exact⟨(hfb.ch c hc).2.2.2 p.2 h1.2,hcg _ (List.getElem_mem hi) c hc p.1 h1.1⟩
 ·obtain⟨j,hj,hu⟩:=List.mem_flatMap.1 hu;have hj:=List.mem_range.1 hj;rw[stR,List.getElem?_eq_getElem hj]at hu;obtain⟨r,hr,rfl⟩:=List.mem_map.1 hu;exact⟨QaN (hfb.st _ (List.getElem_mem hj)) r hr,hi⟩
 ·obtain⟨r,hr,rfl⟩:=List.mem_map.1 hu;refine⟨?_,hi⟩;unfold QZ at hr;split at hr
  ·rw[List.mem_singleton]at hr;rw[hr];exact hfb.e
  ·simp at hr
theorem QgK{bs:List Ql}{u:Use}(h:rchF (suF bs) bs.length noB u.b=false):X4 bs u=false:=by
 rw[X4,KH,h];rfl
theorem QeV{bs:List Ql}{u:Use}(h:rchF (suF bs) bs.length noB u.b=true)(hf:(gvU bs).find? (fun x=>x.n==u.n)=none):X4 bs u=true:=by
 rw[X4,KH,h,hf];rfl
theorem QeU{bs:List Ql}{u g:Use}(h:rchF (suF bs) bs.length noB u.b=true)(hf:(gvU bs).find? (fun x=>x.n==u.n)=some g):X4 bs u=!N5 bs g.b g.s u.b u.s:=by
 rw[X4,KH,h,hf];rfl
theorem Qbh{α:Type}{P:α→Bool}{l:List α}{k:Nat}(hk:k<l.length)(h:(l.take k).find? P=none)(hb:P l[k]=false):(l.take (k+1)).find? P=none:=by
 rw[List.take_succ_eq_append_getElem hk,List.find?_append,h];simp[hb]
theorem Qe9{n:Nat}(h:n<10000):(Lit.int .i64 (n:Int)).wf=true:=by
 have h1:IntKind.i64.min=-9223372036854775808:=rfl;have h2:IntKind.i64.max=9223372036854775807:=rfl;simp[Lit.wf,h1,h2];omega
def RaI(w:World)(n:Nat)(D:DataW Unit)(wr:World):Prop:=
 wr.heap[w.heap.size]?=some (.cells #[.int .i64 0,.int .i64 0] 132 (0,0))∧wr.ownsMap Tryz.prog 78 JJ (w.heap.size+1) n D∧Below w.heap.size w wr
theorem Qca{w w':World}{b n:Nat}{D:DataW Unit}(h:w.ownsMap Tryz.prog 78 JJ b n D)(F:Below w.heap.size w w'):w'.ownsMap Tryz.prog 78 JJ b n D:=by
 have hl:=h.lt;obtain⟨es,clock,hb,r⟩:=h;exact⟨es,clock,by rw[F.block _ hl];exact hb,r⟩
theorem RaI.keeps{w n D wr wr'}(h:RaI w n D wr)(F:Below wr.heap.size wr wr'):RaI w n D wr':=by
 obtain⟨a,b,c⟩:=h;exact⟨by rw[F.block _ (lt_of_block a)];exact a,Qca b F,c.trans (F.mono c.size)⟩
theorem UQ{w w':World}{base b n:Nat}{D:DataW Unit}{T:TypeId→Prop}(h:w.ownsMap Tryz.prog 78 JJ b n D)(g:w.grownBy w' (some b)):Qs base T w w':=fun k c e _ _ hh=>by
 obtain⟨es,clock,hb,r⟩:=h;rw[g.block k (lt_of_block hh) (fun e2=>by cases e2;rw[hb]at hh;cases hh)];exact hh
theorem Qah{w w':World}{b c:Nat}(g:w.grownBy w' (some b))(hb:c≤b)(hc:c≤w.heap.size):Below c w w':=⟨g.os,g.tape,g.output,g.size,fun k hk=>g.block k (by omega) (fun e=>by cases e;omega)⟩
def RbI(w:World)(bs:List Ql)(L R:List Use)(g:Nat)(v va vu vR:Value)(wr:World):Prop:=
 RaI w L.length (mD L) wr∧wr.heap[g]?=some (.cells #[v,va,vu] 85 (0,0))∧wr.ownsRow w.heap.size 143 1 va (Qx bs).length (Qg (Qx bs))∧Jd w.heap.size wr vu bs.length (JX bs)∧wr.ownsRow w.heap.size 203 4 vR R.length (QJ R)
theorem RbI.keeps{w bs L R g v va vu vR wr wr'}(h:RbI w bs L R g v va vu vR wr)(F:Below wr.heap.size wr wr'):RbI w bs L R g v va vu vR wr':=by
 obtain⟨a,b,c,d,e⟩:=h;exact⟨a.keeps F,by rw[F.block _ (lt_of_block b)];exact b,Qd c (Qi F) trivial,d.keeps F,Qd e (Qi F) trivial⟩
theorem N1(bs:List Ql)(base:Nat)(v:Value)(w:World)(hP:PBs w base bs v)(hf:Hid (∀b∈bs,ZG 1000000 b))(hg2:Hid (∀b∈bs,∀c∈b.chs,c.gs.length≤1000))(hcg:Hid (∀b∈bs,∀c∈b.chs,∀p∈c.gs,p.1<bs.length))(hgl:Hid (∀b∈bs,∀p∈goalsF b.e,p.1<bs.length))(htw:Hid (twF (gvU bs)=none))(hn0:0<bs.length)(hn:bs.length≤12):
  Calls Tryz.prog 63 #[v] w fun x w'=>((∃u,amF bs=some u∧x=.returned (.tuple #[.agg #[.int .i64 u.n,.int .i64 u.p],.bool true]))∨(amF bs=none∧x=.returned (.tuple #[.agg #[.int .i64 0,.int .i64 0],.bool false])))∧Below w.heap.size w w':=by
 obtain⟨pv,cv,rfl⟩:=hP.slice;have HP:=Qc hP;have HN:Hid (∀u∈gvU bs,u.n<10000):=fun u hu=>Qg2 hf.out hu;clear hP;have hmm:=@run_makeMap Tryz.prog;go_enter Tryz.func63,Tryz.ntmps63;go_wp2_with fail;clear hmm;obtain⟨W,hW⟩:∃W,W=(w.alloc (.cells #[.int .i64 0,.int .i64 0] 132)).alloc (.map #[] 0):=⟨_,rfl⟩;rw[←hW];obtain⟨g0,g1,hz,f2⟩:=two w (.cells #[.int .i64 0,.int .i64 0] 132) (.map #[] 0);have om:=World.ownsMap_made (H:=Unit) (w.alloc (.cells #[.int .i64 0,.int .i64 0] 132)) Tryz.prog 78 JJ;rw[World.size_alloc]at om;rw[←hW]at g0 g1 hz f2 om;refine(Np bs base _ W (HP.o.keeps (Qs.below f2)) hf (by omega)).mono ?_;rintro x w3 ⟨v3,rfl,H3⟩;obtain⟨p3,c3,rfl⟩:=Qb H3.o.1;have hl:=H3.o.2.1;have B0:Hid (RaI w 0 (mD ((gvU bs).take 0)) w3∧w3.ownsRow w.heap.size 203 4 (.slice p3 (gvU bs).length c3) (gvU bs).length (QJ (gvU bs))):=⟨RaI.keeps ⟨g0,om,f2⟩ H3.o.2.2,Qm H3.o.1 (by omega)⟩;generalize hLL:gvU bs=L at *;have HLE:=Qc hLL;clear hLL hW g0 g1 hz f2 H3 om;go_wp2_with fail
 go_loopw [16] (fun i wr=>∃k:Nat,k≤L.length∧i=.int .i64 k∧Hid (RaI w k (mD (L.take k)) wr∧wr.ownsRow w.heap.size 203 4 (.slice p3 L.length c3) L.length (QJ L))) (fun i _=>L.length-(intOf i).toNat)
 case atStart=>exact⟨0,by omega,rfl,B0⟩
 case round=>
  clear B0;obtain⟨k,hk,rfl,HI⟩:=hrel;rename World=>wA;have hzA:=HI.o.1.2.2.size;have hgA:=HI.o.1.2.1.lt;by_cases hlt:k<L.length
  ·obtain⟨gl,rfl,_,_⟩:=Qh HI.o.2 (by omega);obtain⟨u0,u1,u2,u3⟩:=KZ hlt;have c0:=Qe HI.o.2 u0;have c1:=Qe HI.o.2 u1;have c2:=Qe HI.o.2 u2;have c3':=Qe HI.o.2 u3;have hLn:=HN.o _ (List.getElem_mem hlt);have HD:Hid ((mD (L.take k)).put (.int .i64 L[k].n) (spD L[k])=mD (L.take (k+1))):=by show _=_;rw[List.take_succ_eq_append_getElem hlt,Qa3]
   have FW:=(Below.refl wA.heap.size wA).alloc (Nat.le_refl _) (.cells #[.int .i64 L[k].n,.int .i64 L[k].p,.int .i64 L[k].b,.int .i64 L[k].s] 203);have HIW:=Qc (And.intro (HI.o.1.keeps FW) (HI.o.2.alloc (.cells #[.int .i64 L[k].n,.int .i64 L[k].p,.int .i64 L[k].b,.int .i64 L[k].s] 203)));obtain⟨w1,hrun,ho1,hg1⟩:=HIW.o.1.2.1.update Qge Tryz.underlying205 (by unfold maxLen;omega) (keyOf_int_mk Tryz.underlying78 (a:=(L[k].n:Int)) (Qe9 hLn)) (val:=.agg #[.int .i64 L[k].b,.int .i64 L[k].s]) (d:=spD L[k]) (ps:=[]) rfl;have HI1:Hid (RaI w (k+1) (mD (L.take (k+1))) w1∧w1.ownsRow w.heap.size 203 4 (.slice (some ⟨gl,0,none⟩) L.length c3) L.length (QJ L)):=by
    rw[HD.o]at ho1;exact⟨⟨UQ (base:=0) (T:=fun _=>True) HIW.o.1.2.1 hg1 _ _ _ (Nat.zero_le _) trivial HIW.o.1.1,ho1,HIW.o.1.2.2.trans (Qah hg1 (by omega) HIW.o.1.2.2.size)⟩,Qd HIW.o.2 (UQ (T:=fun _=>True) HIW.o.1.2.1 hg1) trivial⟩
   clear u0 u1 u2 u3 HI FW ho1 hg1 HIW HD;go_wp2_with fail;go_roundw
   case rel=>exact⟨k+1,by omega,by go_num,HI1⟩
   case measure=>simp[intOf];omega
  ·have hke:k=L.length:=by omega
   have HI2:Hid (RaI w L.length (mD L) wA):=by have:=HI.o.1;rw[hke,List.take_length]at this;exact this
   clear hke HI;go_wp2_with fail;refine(Qdp bs base _ wA (HP.o.keeps (Qs.below HI2.o.2.2)) hgl hn0 (by omega)).mono ?_;rintro x w4 ⟨va,vu,rfl,oa,ou,f4⟩;obtain⟨pa,ca,rfl⟩:=Qb oa;obtain⟨pu,cu,rfl⟩:=ou.slice;have H4:=Qc (And.intro (HI2.o.keeps f4) (And.intro (Qm oa HI2.o.2.2.size) (ou.base HI2.o.2.2.size)));clear oa ou f4 HI2;go_wp2_with fail;have fW:=(Below.refl w4.heap.size w4).alloc (Nat.le_refl _) (.cells #[.slice pv bs.length cv,.slice pa (Qx bs).length ca,.slice pu bs.length cu] 85);have gW:=heap_alloc_last w4 (.cells #[.slice pv bs.length cv,.slice pa (Qx bs).length ca,.slice pu bs.length cu] 85);have HW:=Qc (And.intro (H4.o.1.keeps fW) (And.intro gW (And.intro (H4.o.2.1.alloc (.cells #[.slice pv bs.length cv,.slice pa (Qx bs).length ca,.slice pu bs.length cu] 85)) (H4.o.2.2.keeps fW))));clear fW gW H4;generalize w4.alloc (.cells #[.slice pv bs.length cv,.slice pa (Qx bs).length ca,.slice pu bs.length cu] 85)=W at *;refine(Qb0 bs base _ W (HP.o.keeps (Qs.below HW.o.1.2.2)) hf hg2 hcg hn).mono ?_;rintro x w5 ⟨v5,rfl,H5⟩;obtain⟨p5,c5,rfl⟩:=Qb H5.o.1;have hl5:=H5.o.2.1;have HRF:Hid (∀u∈rdU bs,u.n<10000∧u.b<bs.length):=fun u hu=>Qdi hf.out hcg.out hu;have HGB:Hid (∀u∈L,u.b<bs.length):=fun u hu=>Qg3 (HLE.o ▸ hu);have B1:Hid (RbI w bs L (rdU bs) w4.heap.size (.slice pv bs.length cv) (.slice pa (Qx bs).length ca) (.slice pu bs.length cu) (.slice p5 (rdU bs).length c5) w5):=by
    obtain⟨a,b,c,d⟩:=HW.o;have F:=H5.o.2.2;exact⟨a.keeps F,by rw[F.block _ (lt_of_block b)];exact b,Qd c (Qi F) trivial,d.keeps F,Qm H5.o.1 a.2.2.size⟩
   have HTW:=Qc htw.out;generalize hRR:rdU bs=R at *;have HRE:Hid (amF bs=R.find? (X4 bs)):=by show _=_;rw[amF,hRR]
   clear hRR H5 HW;go_wp2_with fail
   go_loopw [32] (fun i wr=>∃k:Nat,k≤R.length∧i=.int .i64 k∧Hid ((R.take k).find? (X4 bs)=none)∧Hid (RbI w bs L R w4.heap.size (.slice pv bs.length cv) (.slice pa (Qx bs).length ca) (.slice pu bs.length cu) (.slice p5 R.length c5) wr)) (fun i _=>R.length-(intOf i).toNat)
   case atStart=>exact⟨0,by omega,rfl,rfl,B1⟩
   case round=>
    clear B1;obtain⟨j,hj,rfl,HT,HI⟩:=hrel;rename World=>wB;have hzB:=HI.o.1.2.2.size;have hgB:=lt_of_block HI.o.2.1;by_cases hjl:j<R.length
    ·obtain⟨gl,rfl,_,_⟩:=Qh HI.o.2.2.2.2 (by omega);obtain⟨u0,u1,u2,u3⟩:=KZ hjl;have c0:=Qe HI.o.2.2.2.2 u0;have c1:=Qe HI.o.2.2.2.2 u1;have c2:=Qe HI.o.2.2.2.2 u2;have c3':=Qe HI.o.2.2.2.2 u3;have b0:=Qa HI.o.2.1 0;have b1:=Qa HI.o.2.1 1;have b2:=Qa HI.o.2.1 2;simp at b0 b1 b2;obtain⟨hRn,hRb⟩:=HRF.o _ (List.getElem_mem hjl);have FW:=(Below.refl wB.heap.size wB).alloc (Nat.le_refl _) (.cells #[.int .i64 R[j].n,.int .i64 R[j].p,.int .i64 R[j].b,.int .i64 R[j].s] 203);have gW:=heap_alloc_last wB (.cells #[.int .i64 R[j].n,.int .i64 R[j].p,.int .i64 R[j].b,.int .i64 R[j].s] 203);have HIW:=Qc (And.intro (HI.o.keeps FW) gW);clear u0 u1 u2 u3 HI FW gW;go_wp2_with fail;clear c0 c1 c2 c3' b0 b1 b2;generalize wB.alloc (.cells #[.int .i64 R[j].n,.int .i64 R[j].p,.int .i64 R[j].b,.int .i64 R[j].s] 203)=W5 at *;refine(Qdf bs w.heap.size R[j].b _ _ _ W5 ⟨_,_,_,rfl⟩ ⟨_,_,_,rfl⟩ HIW.o.1.2.2.1 hRb (by omega)).mono ?_;rintro e w6 ⟨rfl,f6⟩;have HI6:=Qc (And.intro (HIW.o.1.keeps f6) (by rw[f6.block _ (lt_of_block HIW.o.2)];exact HIW.o.2:w6.heap[wB.heap.size]?=some (.cells #[.int .i64 R[j].n,.int .i64 R[j].p,.int .i64 R[j].b,.int .i64 R[j].s] 203 (0,0))));clear HIW f6;generalize hrb:rchF (suF bs) bs.length noB R[j].b=rb;have HRB:=Qc hrb;clear hrb
     cases rb with
     | false=>
      have HT2:=Qc (Qbh hjl HT.o (QgK HRB.o));clear HT;go_wp2_with fail;go_roundw
      case rel=>exact⟨j+1,by omega,by go_num,HT2,HI6.o.1⟩
      case measure=>simp[intOf];omega
     | true=>
      have HSP:=Qc (Qgb R[j].n (.agg [.lit (.int .i64 0),.lit (.int .i64 0)]) _ L rfl HTW.o);obtain⟨x6,ps6,hrun6,hx6⟩:=HI6.o.1.1.2.1.look_ok Qge Tryz.underlying205 (QiE w6) (zd:=.agg [.lit (.int .i64 0),.lit (.int .i64 0)]) (zp:=[]) rfl (keyOf_int_mk Tryz.underlying78 (Qe9 hRn));obtain⟨a6,d6,rfl,hx7⟩:=Gx hx6;have HX:=Qc hx7;clear hx6 hx7;have m0:=Qa HI6.o.2 0;have m1:=Qa HI6.o.2 1;have m2:=Qa HI6.o.2 2;have m3:=Qa HI6.o.2 3;simp at m0 m1 m2 m3;have hs6:=lt_of_block HI6.o.2;have hs4:=lt_of_block HI6.o.1.2.1;have hsw:=lt_of_block HI6.o.1.1.1
      cases hfd:L.find? (fun u=>u.n==R[j].n) with
      | none=>
       have hhb:=HSP.o.1 hfd;rw[hhb]at hrun6;have HT2:=Qc (U4 hjl HT.o (QeV HRB.o (by rw[HLE.o];exact hfd)));clear HT HSP hfd hhb HX;have r0:=Qa HI6.o.1.1.1 0;have r1:=Qa HI6.o.1.1.1 1;have z0:=Qf HI6.o.1.1.1 0;have z1:=Qf HI6.o.1.1.1 1;simp at r0 r1;go_wp2_with fail;have q1:=Qp HI6.o.1.1.1 0 (.int .i64 R[j].n);have q2:=Qp q1 1 (.int .i64 R[j].p);have q3:=Qj q2 (.cells #[.int .i64 a6,.int .i64 d6] 201);have k0:=Qa q3 0;have k1:=Qa q3 1;simp at k0 k1;have F7:=Qr (Qr HI6.o.1.1.2.2 _ 0 (.int .i64 R[j].n) (Nat.le_refl _)) _ 1 (.int .i64 R[j].p) (Nat.le_refl _);refine bodyPost_ret (v:=.tuple #[.agg #[.int .i64 R[j].n,.int .i64 R[j].p],.bool true]) (by simp[results,Tryz.results63,go_sem,k0,k1]) rfl ⟨.inl ⟨R[j],by rw[HRE.o];exact HT2.o,rfl⟩,F7.alloc F7.size _⟩
      | some g=>
       obtain⟨hhb,hat⟩:=HSP.o.2 g hfd;rw[hhb]at hrun6;have hx7:=HX.o;rw[hat]at hx7;obtain⟨rfl,rfl⟩:a6=g.b∧d6=g.s:=by
        simp only[spD]at hx7;injection hx7 with h1 _;injection h1 with h1;injection h1 with h1 h2;injection h2 with h2 _;injection h1 with h1;injection h2 with h2;injection h1 with _ h1;injection h2 with _ h2;exact⟨h1.symm,h2.symm⟩
       have hgb:=HGB.o _ (List.mem_of_find?_eq_some hfd);have HBS:=Qc (QeU HRB.o (by rw[HLE.o];exact hfd));clear HSP hfd hhb HX hat hx7;have b0:=Qa HI6.o.1.2.1 0;have b1:=Qa HI6.o.1.2.1 1;have b2:=Qa HI6.o.1.2.1 2;simp at b0 b1 b2;go_wp2_with fail;clear b0 b1 b2 m0 m1 m2 m3 hrun6;have fW:=(Below.refl w6.heap.size w6).alloc (Nat.le_refl _) (.cells #[.int .i64 g.b,.int .i64 g.s] 201);have HI7:=Qc (And.intro (HI6.o.1.keeps fW) (Qj HI6.o.2 (.cells #[.int .i64 g.b,.int .i64 g.s] 201)));clear fW HI6;generalize w6.alloc (.cells #[.int .i64 g.b,.int .i64 g.s] 201)=W7 at *;refine(Qdm bs w.heap.size g.b R[j].b g.s R[j].s _ _ _ W7 ⟨_,_,_,rfl⟩ ⟨_,_,_,rfl⟩ HI7.o.1.2.2.2.1 hgb hRb (by omega)).mono ?_;rintro e w8 ⟨rfl,f8⟩;have HI8:=Qc (And.intro (HI7.o.1.keeps f8) (by rw[f8.block _ (lt_of_block HI7.o.2)];exact HI7.o.2:w8.heap[wB.heap.size]?=some (.cells #[.int .i64 R[j].n,.int .i64 R[j].p,.int .i64 R[j].b,.int .i64 R[j].s] 203 (0,0))));clear HI7 f8;generalize hpb:N5 bs g.b g.s R[j].b R[j].s=pb at *;have HPB:=Qc hpb;clear hpb
       cases pb with
       | true=>
        have HT2:=Qc (Qbh hjl HT.o (by rw[HBS.o];rfl));clear HT HBS;go_wp2_with fail;go_roundw
        case rel=>exact⟨j+1,by omega,by go_num,HT2,HI8.o.1⟩
        case measure=>simp[intOf];omega
       | false=>
        have HT2:=Qc (U4 hjl HT.o (by rw[HBS.o];rfl));clear HT HBS;have r0:=Qa HI8.o.1.1.1 0;have r1:=Qa HI8.o.1.1.1 1;have z0:=Qf HI8.o.1.1.1 0;have z1:=Qf HI8.o.1.1.1 1;have m0:=Qa HI8.o.2 0;have m1:=Qa HI8.o.2 1;simp at r0 r1 m0 m1;go_wp2_with fail;have q1:=Qp HI8.o.1.1.1 0 (.int .i64 R[j].n);have q2:=Qp q1 1 (.int .i64 R[j].p);have k0:=Qa q2 0;have k1:=Qa q2 1;simp at k0 k1;have F9:=Qr (Qr HI8.o.1.1.2.2 _ 0 (.int .i64 R[j].n) (Nat.le_refl _)) _ 1 (.int .i64 R[j].p) (Nat.le_refl _);refine bodyPost_ret (v:=.tuple #[.agg #[.int .i64 R[j].n,.int .i64 R[j].p],.bool true]) (by simp[results,Tryz.results63,go_sem,k0,k1]) rfl ⟨.inl ⟨R[j],by rw[HRE.o];exact HT2.o,rfl⟩,F9⟩
    ·have hke:j=R.length:=by omega
     have HT2:Hid (amF bs=none):=by have:=HT.o;rw[hke,List.take_length,←HRE.o]at this;exact this
     have r0:=Qa HI.o.1.1 0;have r1:=Qa HI.o.1.1 1;have z0:=Qf HI.o.1.1 0;have z1:=Qf HI.o.1.1 1;simp at r0 r1;clear hke HT;go_wp2_with fail;have q1:=Qp HI.o.1.1 0 (.int .i64 0);have q2:=Qp q1 1 (.int .i64 0);have k0:=Qa q2 0;have k1:=Qa q2 1;simp at k0 k1;refine bodyPost_ret (v:=.tuple #[.agg #[.int .i64 0,.int .i64 0],.bool false]) (by simp[results,Tryz.results63,go_sem,k0,k1]) rfl ⟨.inr ⟨HT2.o,rfl⟩,Qr (Qr HI.o.1.2.2 _ _ _ (Nat.le_refl _)) _ _ _ (Nat.le_refl _)⟩
end Go.Proofs.YtgfhfkgdmidhpaaGreatDoor
