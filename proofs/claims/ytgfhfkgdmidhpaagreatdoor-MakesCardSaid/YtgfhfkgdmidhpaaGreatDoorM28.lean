import Derived.Test.YtgfhfkgdmidhpaaGreatDoorM27
namespace Go.Proofs.YtgfhfkgdmidhpaaGreatDoor
open Go.RowKit Go.Maps
open Go.Proofs.Tryz
set_option maxRecDepth 100000
set_option maxHeartbeats 8000000
theorem Qaz{n:Nat}:∀{S:List Nat}{a:Nat},S.Pairwise (· < ·)→(∀x∈S,a≤x∧x<n)→S.length≤n-a
 | [],_,_,_=>Nat.zero_le _
 | x::S,a,h,hl=>by
  have h1:=hl x (List.mem_cons_self ..);have h2:=Qaz (S:=S) (a:=x+1) (List.pairwise_cons.1 h).2 (fun y hy=>⟨(List.pairwise_cons.1 h).1 y hy,(hl y (ZD _ hy)).2⟩);rw[QO];omega
theorem Qbx:∀{l:List Nat}{x:Nat},l.Pairwise (· < ·)→x∉l→∃k:List Nat,k.Pairwise (· < ·)∧(∀y,y∈k↔y∈l∨y=x)∧k.length=l.length+1
 | [],x,_,_=>⟨[x],by simp,by simp,rfl⟩
 | a::l,x,h,hx=>by
  obtain⟨h1,h2⟩:=List.pairwise_cons.1 h;have hxa:x≠a:=fun e=>hx (by rw[e];exact List.mem_cons_self ..);by_cases hlt:x<a
  ·refine⟨x::a::l,List.pairwise_cons.2 ⟨fun y hy=>?_,h⟩,fun y=>?_,rfl⟩
   ·rcases List.mem_cons.1 hy with rfl|hy
    ·exact hlt
    ·have:=h1 y hy;omega
   ·rw[List.mem_cons,or_comm]
  ·obtain⟨k,k1,k2,k3⟩:=Qbx (x:=x) h2 (fun e=>hx (ZD _ e));refine⟨a::k,List.pairwise_cons.2 ⟨fun y hy=>?_,k1⟩,fun y=>?_,by rw[QO,k3,QO]⟩
   ·rcases (k2 y).1 hy with hy|hy
    ·exact h1 y hy
    ·omega
   ·rw[List.mem_cons,List.mem_cons,k2];constructor
    ·rintro (h|h|h)
     ·exact .inl (.inl h)
     ·exact .inl (.inr h)
     ·exact .inr h
    ·rintro ((h|h)|h)
     ·exact .inl h
     ·exact .inr (.inl h)
     ·exact .inr (.inr h)
theorem Qjc(t:Qz):(rdsF t).length≤2:=by
 unfold rdsF
 repeat' split
 all_goals simp
theorem QkO{w0 wr:World}{B:Nat}{c:Qm}{vc vt E:Value}(f:Below w0.heap.size w0 wr)(h:YY wr B c vc vt){R:Nat}{a b d e:Value}(hR:wr.heap[R]?=some (.cells #[a,b,d,e] 104 (0,0)))(hl:w0.heap.size≤R)(W:World)
  (hW:W=(((wr.setCell ⟨R,0,none⟩ (.int .i64 0)).setCell ⟨R,1,none⟩ vc).setCell ⟨R,2,none⟩ vt).setCell ⟨R,3,none⟩ E):
  W.cell? ⟨R,0,none⟩=some (.int .i64 0)∧W.cell? ⟨R,1,none⟩=some vc∧W.cell? ⟨R,2,none⟩=some vt∧W.cell? ⟨R,3,none⟩=some E∧YY W B c vc vt∧Below w0.heap.size w0 W:=by
 subst hW;have b0:=Qq hR 0 (.int .i64 0);have b1:=Qq b0 1 vc;have b2:=Qq b1 2 vt;have b3:=Qq b2 3 E;have q0:=Qb b3 0;have q1:=Qb b3 1;have q2:=Qb b3 2;have q3:=Qb b3 3;simp at q0 q1 q2 q3;have K:∀(T:TypeId→Prop),¬T 104→Qr B T wr ((((wr.setCell ⟨R,0,none⟩ (.int .i64 0)).setCell ⟨R,1,none⟩ vc).setCell ⟨R,2,none⟩ vt).setCell ⟨R,3,none⟩ E):=fun T hT=>
  (((ZQ hR hT (.int .i64 0)).trans (ZQ b0 hT vc)).trans (ZQ b1 hT vt)).trans (ZQ b2 hT E)
 exact⟨q0,q1,q2,q3,⟨h.1.keeps (K (fun e=>e=147∨e=140) (by decide)) (.inl rfl) (.inr rfl),Qd h.2 (K (fun e=>e=150) (by decide)) rfl⟩,Qp (Qp (Qp (Qp f _ _ _ hl) _ _ _ hl) _ _ _ hl) _ _ _ hl⟩
theorem Gg{c:Q0}{p:Nat×Nat}:p∈(Zn c).src↔∃q∈c.gs.zip c.rs,p=(q.1.1,q.2.1):=by
 show p∈(c.gs.map (·.1)).zip (c.rs.map (·.1))↔_;rw[List.zip_map,Qv];constructor
 ·rintro⟨q,h1,rfl⟩;exact⟨q,h1,rfl⟩
 ·rintro⟨q,h1,rfl⟩;exact⟨q,h1,rfl⟩
end Go.Proofs.YtgfhfkgdmidhpaaGreatDoor
namespace Go.Proofs.YtgfhfkgdmidhpaaGreatDoor
open Go.RowKit
open Go.Proofs.Tryz
set_option maxRecDepth 100000
set_option maxHeartbeats 8000000
theorem QcN{l:List (Nat×Nat)}{t:Nat}(ht:t<l.length)(frm:Nat)(r:Nat→Int):YU (l.take (t+1)) frm r=if l[t].1=frm then r l[t].2 else YU (l.take t) frm r:=by
 rw[YU,Zb ht,List.foldl_append];rfl
def chV(chs:List Q0)(frm:Nat)(r:Nat→Int):List Int:=chs.map fun c=>YU (Zn c).src frm r
theorem QfU{chs:List Q0}{k:Nat}(hk:k<chs.length) (frm r):(chV chs frm r).take (k+1)=(chV chs frm r).take k++[YU (Zn chs[k]).src frm r]:=by
 rw[List.take_succ_eq_append_getElem (by rw[chV,List.length_map];exact hk)];simp[chV]
theorem Qcn(chs frm r):(chV chs frm r).length=chs.length:=List.length_map ..
theorem QaC(l:List (Nat×Int)){k:Nat}(hk:k<l.length) (r):Vx (l.take (k+1)) r=upd (Vx (l.take k) r) l[k].1 l[k].2:=by
 rw[Vx,Zb hk,List.foldl_append];rfl
def Wj(chs:List Q0)(frm k:Nat)(r:Nat→Int):Nat→Int:=Vx (((chs.map Zn).map fun c=>(c.to,YU c.src frm r)).take k) r
theorem Qdw{chs:List Q0}{k:Nat}(hk:k<chs.length) (frm r):Wj chs frm (k+1) r=upd (Wj chs frm k r) chs[k].to.1 ((chV chs frm r)[k]'(by rw[Qcn];exact hk)):=by
 rw[Wj,QaC _ (by simpa using hk)];simp[chV,Wj,Zn]
theorem QfZ(chs:List Q0) (frm r):Wj chs frm chs.length r=chA (chs.map Zn) frm r:=by
 rw[Wj,List.take_of_length_le (by simp)];rfl
theorem Qib(base0 g q frm:Nat)(b:Qm)(vc vs:Value)(m:Mac)(w0 w:World)(h:Xw w0.heap.size g q m w)(F0:Below w0.heap.size w0 w)(hC:XH w0 base0 b.chs vc)(hvs:∃p n c,vs=.slice p n c)(hf:QU 1000000 b)(hg2:∀c∈b.chs,c.gs.length≤1000)(hq:q≤100000000):
  Calls prog 58 #[.pointer (some ⟨g,0,none⟩),.agg #[vc,vs,.int .u8 b.e.op,.int .i64 b.e.a.1,.int .i64 b.e.a.2,.int .i64 b.e.one.1,.int .i64 b.e.one.2,.int .i64 b.e.two.1,.int .i64 b.e.two.2,.int .i64 b.at_],.int .i64 frm] w fun x w'=>x=.returned (.tuple #[])∧Hid (Xw w0.heap.size g (q+b.chs.length) { m with r:=chA (b.chs.map Zn) frm m.r } w'∧Kg g w w'∧Below w0.heap.size w w'):=by
 obtain⟨pc0,cc0,rfl⟩:∃p c,vc=.slice p b.chs.length c:=hC.slice;obtain⟨ps,ns0,cs,rfl⟩:=hvs;have HM:=Qc h;have HC:=Qc hC;have HF0:=Qc F0;have h0w:=F0.size;have hcl:=hf.cl;have HF:=Qc hf;have HG2:=Qc hg2;clear h F0 hC hf hg2;have B0:Hid ((w.alloc (.cells #[.slice pc0 b.chs.length cc0,.slice ps ns0 cs,.int .u8 b.e.op,.int .i64 b.e.a.1,.int .i64 b.e.a.2,.int .i64 b.e.one.1,.int .i64 b.e.one.2,.int .i64 b.e.two.1,.int .i64 b.e.two.2,.int .i64 b.at_] 53)).heap[w.heap.size]?=some (.cells #[.slice pc0 b.chs.length cc0,.slice ps ns0 cs,.int .u8 b.e.op,.int .i64 b.e.a.1,.int .i64 b.e.a.2,.int .i64 b.e.one.1,.int .i64 b.e.one.2,.int .i64 b.e.two.1,.int .i64 b.e.two.2,.int .i64 b.at_] 53 (0,0))∧Below w.heap.size w (w.alloc (.cells #[.slice pc0 b.chs.length cc0,.slice ps ns0 cs,.int .u8 b.e.op,.int .i64 b.e.a.1,.int .i64 b.e.a.2,.int .i64 b.e.one.1,.int .i64 b.e.one.2,.int .i64 b.e.two.1,.int .i64 b.e.two.2,.int .i64 b.at_] 53))):=⟨heap_alloc_last _ _,(Below.refl _ _).alloc (Qi _) _⟩;go_enter func58,ntmps58;go_wp2_with fail;have hb0:Hid ((#[.slice pc0 b.chs.length cc0,.slice ps ns0 cs,.int .u8 b.e.op,.int .i64 b.e.a.1,.int .i64 b.e.a.2,.int .i64 b.e.one.1,.int .i64 b.e.one.2,.int .i64 b.e.two.1,.int .i64 b.e.two.2,.int .i64 b.at_]:Array Value)[0]?=some (.slice pc0 b.chs.length cc0)):=rfl;generalize (#[.slice pc0 b.chs.length cc0,.slice ps ns0 cs,.int .u8 b.e.op,.int .i64 b.e.a.1,.int .i64 b.e.a.2,.int .i64 b.e.one.1,.int .i64 b.e.one.2,.int .i64 b.e.two.1,.int .i64 b.e.two.2,.int .i64 b.at_]:Array Value)=BX at *
 go_loopw [6,7] (fun v i wr=>∃(k:Nat)(V:List Int),k≤b.chs.length∧i=.int .i64 k∧V.length=k∧Hid (V=(chV b.chs frm m.r).take k)∧wr.ownsRow w.heap.size 3 1 v V.length (Xa V)∧Hid (wr.heap[w.heap.size]?=some (.cells BX 53 (0,0))∧Below w.heap.size w wr)) (fun _ i _=>b.chs.length-(intOf i).toNat)
 case atStart=>exact⟨0,[],by omega,rfl,rfl,rfl,Q3 _ _ _ _,B0⟩
 case round=>
  clear B0;obtain⟨k,V,hk,rfl,hvk,HV,OV,HI⟩:=hrel;rename World=>wA;obtain⟨pV,cV,rfl⟩:=Qa OV;have HOV:=Qc OV;have hzA:=HI.o.2.size;have hgA:=lt_of_block HI.o.1;have k0:wA.cell? ⟨w.heap.size,0,none⟩=some (.slice pc0 b.chs.length cc0):=(Qb HI.o.1 0).trans hb0.out;have HK:=Qc hvk;have hV1:V.length≤1000000:=by omega
  clear OV hvk;by_cases hlt:k<b.chs.length
  ·obtain⟨gc,pf,cf,pr,cr,rfl,_,hgc,OF,OR,e0,e1,e2,e3⟩:=HC.o.at hlt;have FA:=Qc (HF0.o.trans (HI.o.2.mono h0w));replace e0:=(FA.o.cell (p:=⟨gc,k*4,none⟩) hgc).trans e0;replace e1:=(FA.o.cell (p:=⟨gc,k*4+1,none⟩) hgc).trans e1;replace e2:=(FA.o.cell (p:=⟨gc,k*4+2,none⟩) hgc).trans e2;replace e3:=(FA.o.cell (p:=⟨gc,k*4+3,none⟩) hgc).trans e3;have HCH:=Qc (HF.o.ch _ (Qx hlt));have hgl:=HG2.o _ (Qx hlt);have HOF:=Qc (And.intro OF OR);have gW:=heap_alloc_last wA (.cells #[.int .i64 b.chs[k].to.1,.int .i64 b.chs[k].to.2,.slice pf b.chs[k].gs.length cf,.slice pr b.chs[k].rs.length cr] 64);have FW:=(Below.refl wA.heap.size wA).alloc (Qi _) (.cells #[.int .i64 b.chs[k].to.1,.int .i64 b.chs[k].to.2,.slice pf b.chs[k].gs.length cf,.slice pr b.chs[k].rs.length cr] 64);have sW:wA.heap.size<(wA.alloc (.cells #[.int .i64 b.chs[k].to.1,.int .i64 b.chs[k].to.2,.slice pf b.chs[k].gs.length cf,.slice pr b.chs[k].rs.length cr] 64)).heap.size:=by rw[Qt];omega
   have HW:=Qc (And.intro gW (And.intro FW (HOV.o.alloc (.cells #[.int .i64 b.chs[k].to.1,.int .i64 b.chs[k].to.2,.slice pf b.chs[k].gs.length cf,.slice pr b.chs[k].rs.length cr] 64))));clear OF OR gW FW;go_wp2_with fail;clear e0 e1 e2 e3 k0;generalize wA.alloc (.cells #[.int .i64 b.chs[k].to.1,.int .i64 b.chs[k].to.2,.slice pf b.chs[k].gs.length cf,.slice pr b.chs[k].rs.length cr] 64)=W at *;have zW:=HW.o.2.1.size
   go_loopw [9,10] (fun n i wr=>∃(t:Nat)(y:Int),t≤b.chs[k].gs.length∧i=.int .i64 t∧n=.int .i64 y∧Hid (y=YU ((Zn b.chs[k]).src.take t) frm m.r)∧Hid (Below W.heap.size W wr)) (fun _ i _=>b.chs[k].gs.length-(intOf i).toNat)
   case atStart=>exact⟨0,0,by omega,rfl,rfl,rfl,Below.refl _ _⟩
   case round=>
    obtain⟨t,y,ht,rfl,rfl,HY,F2⟩:=hrel;rename World=>wB;have z2:=F2.o.size;have gB:wB.heap[wA.heap.size]?=some (.cells #[.int .i64 b.chs[k].to.1,.int .i64 b.chs[k].to.2,.slice pf b.chs[k].gs.length cf,.slice pr b.chs[k].rs.length cr] 64 (0,0)):=by rw[F2.o.block _ (by omega)];exact HW.o.1
    have b2:=Qb gB 2;have b3:=Qb gB 3;simp at b2 b3;clear gB;have FB:=Qc (FA.o.trans ((HW.o.2.1.trans (F2.o.mono zW)).mono (by have:=FA.o.size;omega)));by_cases htl:t<b.chs[k].gs.length
    ·have htr:t<b.chs[k].rs.length:=by have:=HCH.o.2.1;omega
     have OFB:=Qd HOF.o.1 (Qh FB.o) trivial;have ORB:=Qd HOF.o.2 (Qh FB.o) trivial;obtain⟨gf,rfl,_,_⟩:=Qk OFB (by omega);obtain⟨gr,rfl,_,_⟩:=Qk ORB (by omega);have f0:=Qf OFB (Zt htl).1;have r0:=Qf ORB (Zt htr).1;have hsl:t<(Zn b.chs[k]).src.length:=by simp[Zn];omega
     have hse:(Zn b.chs[k]).src[t]=(b.chs[k].gs[t].1,b.chs[k].rs[t].1):=by simp[Zn]
     have HNX:=Qc (QcN hsl frm m.r);have HSE:=Qc hse;clear OFB ORB hse;by_cases he:b.chs[k].gs[t].1=frm
     ·have HN2:Hid (m.r b.chs[k].rs[t].1=YU ((Zn b.chs[k]).src.take (t+1)) frm m.r):=by show _=_;rw[HNX.o,HSE.o,if_pos he]
      have hd:((b.chs[k].gs[t].1:Int)==(frm:Int))=true:=by simp;omega
      clear he HNX HSE;go_wp2_with fail;refine(RO w0.heap.size g b.chs[k].rs[t].1 q m wB (HM.o.keeps ((HI.o.2.trans ((HW.o.2.1.trans (F2.o.mono zW)).mono hzA)))) (by omega)).mono ?_;rintro e w5 ⟨rfl,f5⟩;have F5:=Qc (F2.o.trans (f5.mono z2));clear f5;go_wp2_with fail;go_roundw
      case rel=>exact⟨t+1,_,by omega,by go_num,rfl,HN2,F5⟩
      case measure=>simp[intOf];omega
     ·have HN2:Hid (y=YU ((Zn b.chs[k]).src.take (t+1)) frm m.r):=by show _=_;rw[HNX.o,HSE.o,if_neg he];exact HY.o
      have hd:((b.chs[k].gs[t].1:Int)==(frm:Int))=false:=by simp;omega
      clear he HNX HSE;go_wp2_with fail;go_roundw
      case rel=>exact⟨t+1,_,by omega,by go_num,rfl,HN2,F2⟩
      case measure=>simp[intOf];omega
    ·have hte:t=b.chs[k].gs.length:=by omega
     have HYE:Hid (V++[y]=(chV b.chs frm m.r).take (k+1)):=by
      show _=_;rw[QfU hlt,←HV.o,HY.o,List.take_of_length_le (by simp[Zn];omega)]
     clear hte HY;go_wp2_with (at_builtin;refine QA ?_);refine Qc ?_;have OVB:=Qd HW.o.2.2 (Qh F2.o) trivial;have gB:=heap_alloc_last wB (.cells #[.int .i64 y] 3);have OB:=OVB.alloc (.cells #[.int .i64 y] 3);refine GY underlying22 JF rfl (by decide) (by decide) rfl _ _ rfl rfl OB gB rfl rfl (List.all_eq_true.1 rfl) (by omega) (by simp;omega) ?_;intro v6 w6 oS gS nS;obtain⟨v6p,v6c,rfl⟩:=Qa oS;have C6:=XF gS;have R6:Hid (w6.ownsRow w.heap.size 3 1 (.slice v6p (V.length+1) v6c) (V++[y]).length (Xa (V++[y]))∧w6.heap[w.heap.size]?=some (.cells BX 53 (0,0))∧Below w.heap.size w w6):=by
      refine⟨by rw[YG,Qw];exact oS,?_,?_⟩
      ·have hbB:wB.heap[w.heap.size]?=some (.cells BX 53 (0,0)):=by rw[F2.o.block _ (by omega),HW.o.2.1.block _ hgA];exact HI.o.1
       rw[C6.block _ (by omega) (fun e2=>QG OVB hbB (by decide) e2.symm)];exact hbB
      ·exact(HI.o.2.trans ((HW.o.2.1.trans (F2.o.mono zW)).mono hzA)).trans (C6.toBelow (by omega) (fun k hk=>(OVB.lt k hk.symm).1))
     clear oS gS nS gB OB OVB C6 b2 b3;go_wp2_with fail;go_roundw
     case rel=>exact⟨k+1,V++[y],by omega,by go_num,by rw[Qw,List.length_singleton,HK.o],HYE,R6.o.1,R6.o.2⟩
     case measure=>simp[intOf];omega
  ·have hke:k=b.chs.length:=by omega
   have HVE:Hid (V=chV b.chs frm m.r):=by show _=_;rw[HV.o,hke,Zg (by rw[Qcn];omega)]
   have hVl:V.length=b.chs.length:=by have:=HK.o;omega
   have HVL:=Qc hVl;obtain⟨ns,hs,vN,vH,vI,vO,hM,hnq⟩:=HM.o;have ap:Q4 (.slice pV V.length cV) vN∧Q4 (.slice pV V.length cV) vH:=⟨fun j hj hj2=>by have:=(HOV.o.lt j hj2).1;have:=(hM.1.2.1.1.lt j hj).2;omega,fun j hj hj2=>by have:=(HOV.o.lt j hj2).1;have:=(hM.1.2.1.2.1.lt j hj).2;omega⟩;have B2:Hid (Ye w0.heap.size g ns hs vN vH vI vO { m with r:=Wj b.chs frm 0 m.r } wA∧wA.heap[w.heap.size]?=some (.cells BX 53 (0,0))∧wA.ownsRow w.heap.size 3 1 (.slice pV V.length cV) V.length (Xa V)∧Q4 (.slice pV V.length cV) vN∧Q4 (.slice pV V.length cV) vH∧Kg g w wA∧Below w0.heap.size w wA):=⟨hM.keeps HI.o.2,HI.o.1,HOV.o,ap.1,ap.2,Kg.below HI.o.2,HI.o.2.mono h0w⟩;have hgw:g<w.heap.size:=lt_of_block hM.1.1.1;clear hM ap hke HV HK HOV HI hVl;go_wp2_with fail;clear k0
   go_loopw [11] (fun i wr=>∃(j:Nat)(ns:List Nat)(hs:List Int)(vN vH vI vO:Value),j≤b.chs.length∧i=.int .i64 j∧ns.length≤q+j∧Hid (Ye w0.heap.size g ns hs vN vH vI vO { m with r:=Wj b.chs frm j m.r } wr∧wr.heap[w.heap.size]?=some (.cells BX 53 (0,0))∧wr.ownsRow w.heap.size 3 1 (.slice pV V.length cV) V.length (Xa V)∧Q4 (.slice pV V.length cV) vN∧Q4 (.slice pV V.length cV) vH∧Kg g w wr∧Below w0.heap.size w wr)) (fun i _=>b.chs.length-(intOf i).toNat)
   case atStart=>exact⟨0,ns,hs,vN,vH,vI,vO,by omega,rfl,by omega,B2⟩
   case round=>
    clear B2;obtain⟨j,ns,hs,vN,vH,vI,vO,hj,rfl,hnj,H2⟩:=hrel;rename World=>wB;have b0:wB.cell? ⟨w.heap.size,0,none⟩=some (.slice pc0 b.chs.length cc0):=(Qb H2.o.2.1 0).trans hb0.out;have hzB:=H2.o.2.2.2.2.2.2.size;by_cases hjl:j<b.chs.length
    ·obtain⟨gc,pf,cf,pr,cr,rfl,_,hgc,_,_,e0,_,_,_⟩:=HC.o.at hjl;replace e0:=((HF0.o.trans H2.o.2.2.2.2.2.2).cell (p:=⟨gc,j*4,none⟩) hgc).trans e0;have hjV:j<V.length:=by have:=HVL.o;omega
     obtain⟨gV,rfl,_,_⟩:=Qk H2.o.2.2.1 (by omega);have cV0:=Qf H2.o.2.2.1 (Kw hjV);have HNX:Hid (upd (Wj b.chs frm j m.r) b.chs[j].to.1 V[j]=Wj b.chs frm (j+1) m.r):=by
      show _=_;rw[Qdw hjl]
      congr 1
      simp[HVE.o]
     go_wp2_with fail;have HS:Hid (Calls prog 94 #[.pointer (some ⟨g,0,none⟩),.int .i64 b.chs[j].to.1,.int .i64 V[j]] wB.drew fun x w'=>x=.returned (.tuple #[])∧∃ns' hs' vN' vH',Hid (Ye w0.heap.size g ns' hs' vN' vH' vI vO { m with r:=upd (Wj b.chs frm j m.r) b.chs[j].to.1 V[j] } w'∧ns'.length≤ns.length+1∧Sf g vN vH vN' vH' wB.drew w')):=Qkn w0.heap.size g b.chs[j].to.1 V[j] ns hs vN vH vI vO _ wB.drew (H2.o.1.keeps (w':=wB.drew) ⟨rfl,rfl,rfl,Qi _,fun _ _=>rfl⟩) (by omega) (Qy h0w hzB)
     go_region_law (first | (refine Z1 rfl 94 #[.pointer (some ⟨g,0,none⟩),.int .i64 b.chs[j].to.1,.int .i64 V[j]] (by go_simp) HS.o ?_;rintro x w5 ⟨rfl,ns5,hs5,vN5,vH5,H5d⟩;have H5:Hid (Ye w0.heap.size g ns5 hs5 vN5 vH5 vI vO { m with r:=upd (Wj b.chs frm j m.r) b.chs[j].to.1 V[j] } w5∧ns5.length≤ns.length+1∧Sf g vN vH vN5 vH5 wB w5):=⟨H5d.o.1,H5d.o.2.1,⟨⟨H5d.o.2.2.ch.os,H5d.o.2.2.ch.tape,H5d.o.2.2.ch.output,H5d.o.2.2.ch.size,H5d.o.2.2.ch.block⟩,H5d.o.2.2.newN,H5d.o.2.2.newH⟩⟩;clear H5d) | fail)
     all_goals
      clear e0 cV0 b0 HS;have K5:=H2.o.1.kg H5.o.2.2;have hV5:Q4 (.slice (some ⟨gV,0,none⟩) V.length cV) vN5∧Q4 (.slice (some ⟨gV,0,none⟩) V.length cV) vH5:=⟨H5.o.2.2.newN.apart H2.o.2.2.1 H2.o.2.2.2.1,H5.o.2.2.newH.apart H2.o.2.2.1 H2.o.2.2.2.2.1⟩;have R5:Hid (Ye w0.heap.size g ns5 hs5 vN5 vH5 vI vO { m with r:=Wj b.chs frm (j+1) m.r } w5∧w5.heap[w.heap.size]?=some (.cells BX 53 (0,0))∧w5.ownsRow w.heap.size 3 1 (.slice (some ⟨gV,0,none⟩) V.length cV) V.length (Xa V)∧Q4 (.slice (some ⟨gV,0,none⟩) V.length cV) vN5∧Q4 (.slice (some ⟨gV,0,none⟩) V.length cV) vH5∧Kg g w w5∧Below w0.heap.size w w5):=by
       refine⟨by rw[←HNX.o];exact H5.o.1,K5 _ _ _ (by omega) (by decide) H2.o.2.1,Xq H2.o.2.2.1 (fun i hi hi2=>H5.o.2.2.ch.block i hi (fun hp=>hp.elim (fun e2=>QG H2.o.2.2.1 H2.o.1.1.1.1 (by decide) (by rw[←e2];exact hi2)) (fun hp=>hp.elim (fun e2=>H2.o.2.2.2.1 i e2.symm hi2) (fun e2=>H2.o.2.2.2.2.1 i e2.symm hi2)))),hV5.1,hV5.2,H2.o.2.2.2.2.2.1.trans K5,H2.o.2.2.2.2.2.2.trans (H2.o.1.bel H5.o.2.2 (by omega))⟩
      have hn5:ns5.length≤q+(j+1):=by have:=H5.o.2.1;omega
      clear H5 K5 hV5 H2;go_wp2_with fail;go_roundw
      case rel=>exact⟨j+1,ns5,hs5,vN5,vH5,vI,vO,by omega,by go_num,hn5,R5⟩
      case measure=>simp[intOf];omega
    ·have hje:j=b.chs.length:=by omega
     have R:Hid (Xw w0.heap.size g (q+b.chs.length) { m with r:=chA (b.chs.map Zn) frm m.r } wB∧Kg g w wB∧Below w0.heap.size w wB):=by
      refine⟨⟨ns,hs,vN,vH,vI,vO,?_,by omega⟩,H2.o.2.2.2.2.2.1,H2.o.2.2.2.2.2.2⟩;rw[←QfZ,←hje];exact H2.o.1
     clear hje H2;go_wp2_with fail
     go_end0
     exact⟨rfl,R.o⟩
end Go.Proofs.YtgfhfkgdmidhpaaGreatDoor
