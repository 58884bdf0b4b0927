import Derived.Test.YtgfhfkgdmidhpaaGreatDoorM08
namespace Go.Proofs.YtgfhfkgdmidhpaaGreatDoor
open Go.RowKit
open Tryz
set_option maxRecDepth 100000
set_option maxHeartbeats 8000000
def ZZ(w:World)(base:Nat):List Q0→List Value→Prop
 | [],[]=>True
 | c::cs,v::vs=>(c.gs.length=c.rs.length∧w.ownsRow base 147 4 v c.gs.length (Q8 c.gs c.rs))∧ZZ w base cs vs
 | _,_=>False
def VD(c:Q0)(v:Value):List Value:=[.int .i64 c.to.1,.int .i64 c.to.2,v]
def VC(cs:List Q0)(vs:List Value):List Value:=(List.zipWith VD cs vs).flatten
def ZU(w:World)(base:Nat)(cs:List Q0)(v:Value):Prop:=∃vs,w.ownsRow base 140 3 v cs.length (VC cs vs)∧ZZ w base cs vs
theorem ZZ.len{w base}:∀{cs vs},ZZ w base cs vs→vs.length=cs.length
 | [],[],_=>rfl
 | _::_,_::_,h=>by simp[ZZ.len h.2]
 | [],_::_,h=>h.elim
 | _::_,[],h=>h.elim
theorem ZZ.keeps{w w' base}{T:TypeId→Prop}(k:Qr base T w w')(h1:T 147):∀{cs vs},ZZ w base cs vs→ZZ w' base cs vs
 | [],[],_=>trivial
 | _::_,_::_,h=>⟨⟨h.1.1,Qd h.1.2 k h1⟩,ZZ.keeps k h1 h.2⟩
 | [],_::_,h=>h.elim
 | _::_,[],h=>h.elim
theorem ZZ.snoc{w base}{c:Q0} {v}(h1:c.gs.length=c.rs.length)(h2:w.ownsRow base 147 4 v c.gs.length (Q8 c.gs c.rs)):∀{cs vs},ZZ w base cs vs→ZZ w base (cs++[c]) (vs++[v])
 | [],[],_=>⟨⟨h1,h2⟩,trivial⟩
 | _::_,_::_,h=>⟨h.1,ZZ.snoc h1 h2 h.2⟩
 | [],_::_,h=>h.elim
 | _::_,[],h=>h.elim
theorem ZZ.base{w base base'}(hb:base'≤base):∀{cs vs},ZZ w base cs vs→ZZ w base' cs vs
 | [],[],_=>trivial
 | _::_,_::_,h=>⟨⟨h.1.1,Qj h.1.2 hb⟩,ZZ.base hb h.2⟩
 | [],_::_,h=>h.elim
 | _::_,[],h=>h.elim
theorem VB{cs vs} (c v)(h:vs.length=cs.length):VC (cs++[c]) (vs++[v])=VC cs vs++VD c v:=by
 simp[VC,List.zipWith_append h.symm]
theorem ZU.keeps{w w' base cs v}{T:TypeId→Prop}(h:ZU w base cs v)(k:Qr base T w w')(h1:T 147)(h3:T 140):ZU w' base cs v:=by
 obtain⟨vs,a,b⟩:=h;exact⟨vs,Qd a k h3,b.keeps k h1⟩
theorem ZU.base{w base base' cs v}(h:ZU w base cs v)(hb:base'≤base):ZU w base' cs v:=by
 obtain⟨vs,a,b⟩:=h;exact⟨vs,Qj a hb,b.base hb⟩
theorem ZU.slice{w base cs v}(h:ZU w base cs v):∃p c,v=.slice p cs.length c:=by
 obtain⟨vs,a,_⟩:=h;exact Qa a
def T4(e:TypeId):Prop:=e=147∨e=140
def T5(e:TypeId):Prop:=e=147∨e=150
structure BP(b g:Nat)(s:ByteArray)(w0:World)(i0:Nat)(chs:List Q0)(sts:List Qz)(vc vs ev:Value)(i:Nat)(w:World):Prop where
 G1:w.heap[w0.heap.size]?=some (.cells #[.int .i64 0,.slice none 0 0,.slice none 0 0,.nilIface] 104 (0,0))
 G2:w.heap[w0.heap.size+1]?=some (.cells #[.int .i64 i0,vc,vs,ev] 104 (0,0))
 C:ZU w (w0.heap.size+2) chs vc
 S:w.ownsRow (w0.heap.size+2) 150 1 vs sts.length (sts.map QS)
 P:RS w b g s i
 F:Fr b w0 w
 Z:w0.heap.size+2≤w.heap.size
section
variable {b g:Nat} {s:ByteArray} {w0:World} {i0:Nat} {chs:List Q0} {sts:List Qz} {vc vs ev:Value} {i:Nat} {w:World}
theorem BP.alloc(h:BP b g s w0 i0 chs sts vc vs ev i w)(o:Obj):BP b g s w0 i0 chs sts vc vs ev i (w.alloc o):=
 ⟨Qo h.G1 o,Qo h.G2 o,h.C.keeps (Qr.alloc _ T4 w o) (by simp[T4]) (by simp[T4]),h.S.alloc o,h.P.alloc o,h.F.alloc o,by have:=h.Z;simp;omega⟩
theorem BP.drew(h:BP b g s w0 i0 chs sts vc vs ev i w):BP b g s w0 i0 chs sts vc vs ev i w.drew:=
 ⟨h.G1,h.G2,h.C.keeps (T:=T4) (fun _ _ _ _ _ h=>h) (by simp[T4]) (by simp[T4]),h.S,h.P.drew,h.F.drew,h.Z⟩
theorem BP.call{i':Nat}{w':World}(h:BP b g s w0 i0 chs sts vc vs ev i w)(hb:b<w0.heap.size)(P:RS w' b g s i')(f:Fr b w w'):BP b g s w0 i0 chs sts vc vs ev i' w':=
 ⟨Qn f h.G1 (by omega),Qn f h.G2 (by omega),h.C.keeps (Qr.fr (T:=T4) f (by omega)) (by simp[T4]) (by simp[T4]),Xn h.S f (by omega),P,h.F.trans f,Nat.le_trans h.Z f.size⟩
theorem BP.setE(h:BP b g s w0 i0 chs sts vc vs ev i w)(hb:b<w0.heap.size)(hg:g<w0.heap.size)(ev':Value):BP b g s w0 i0 chs sts vc vs ev' i (w.setCell ⟨w0.heap.size+1,3,none⟩ ev'):=
 ⟨Ql h.G1 (by omega) _ _,Qq h.G2 3 ev',h.C.keeps (Qr.setk T4 w _ 3 _ (by omega)) (by simp[T4]) (by simp[T4]),QE h.S _ 3 _ (by omega),h.P.setk _ 3 _ (by omega) (by omega),h.F.setk _ 3 _ (by omega),by rw[Zs];exact h.Z⟩
theorem BP.grownS{w':World}(h:BP b g s w0 i0 chs sts vc vs ev i w)(hb:b<w0.heap.size)(hg:g<w0.heap.size)(gr:w.grownBy w' vs.ownBlock):
  w'.heap[w0.heap.size]?=some (.cells #[.int .i64 0,.slice none 0 0,.slice none 0 0,.nilIface] 104 (0,0))∧w'.heap[w0.heap.size+1]?=some (.cells #[.int .i64 i0,vc,vs,ev] 104 (0,0))∧ZU w' (w0.heap.size+2) chs vc∧RS w' b g s i∧Fr b w0 w'∧w0.heap.size+2≤w'.heap.size:=by
 have r:∀j,vs.ownBlock=some j→w0.heap.size+2≤j:=fun j hj=>(h.S.lt j hj).1;exact⟨QC gr h.G1 (fun j hj=>by have:=r j hj;omega),QC gr h.G2 (fun j hj=>by have:=r j hj;omega),h.C.keeps (Qr.grown (T:=T4) h.S gr (by simp[T4])) (by simp[T4]) (by simp[T4]),
  h.P.grown gr (fun j hj=>by have:=r j hj;constructor<;>omega),h.F.grown gr (fun j hj=>by have:=r j hj;omega),Qy h.Z gr.size⟩
theorem BP.grownC{w':World}(h:BP b g s w0 i0 chs sts vc vs ev i w)(hb:b<w0.heap.size)(hg:g<w0.heap.size) {us}(hu:w.ownsRow (w0.heap.size+2) 140 3 vc chs.length (VC chs us))(gr:w.grownBy w' vc.ownBlock):
  w'.heap[w0.heap.size]?=some (.cells #[.int .i64 0,.slice none 0 0,.slice none 0 0,.nilIface] 104 (0,0))∧w'.heap[w0.heap.size+1]?=some (.cells #[.int .i64 i0,vc,vs,ev] 104 (0,0))∧w'.ownsRow (w0.heap.size+2) 150 1 vs sts.length (sts.map QS)∧RS w' b g s i∧Fr b w0 w'∧w0.heap.size+2≤w'.heap.size:=by
 have r:∀j,vc.ownBlock=some j→w0.heap.size+2≤j:=fun j hj=>(hu.lt j hj).1;exact⟨QC gr h.G1 (fun j hj=>by have:=r j hj;omega),QC gr h.G2 (fun j hj=>by have:=r j hj;omega),Qd h.S (Qr.grown (T:=T5) hu gr (by simp[T5])) (by simp[T5]),
  h.P.grown gr (fun j hj=>by have:=r j hj;constructor<;>omega),h.F.grown gr (fun j hj=>by have:=r j hj;omega),Qy h.Z gr.size⟩
end
theorem WZ:(prog.info? 150).map (fun i=>(i.zero,i.size,i.bytes))=some (some .nilIface,1,16):=by kernel_rfl
theorem Qb5:(prog.info? 140).map (fun i=>(i.zero,i.size,i.bytes))=some (some (.agg #[.int .i64 0,.int .i64 0,.slice none 0 0]),3,40):=by kernel_rfl
def Qbn(b g:Nat)(s:ByteArray)(w0:World)(i0 k i:Nat)(R:Blk)(e:Ending)(w':World):Prop:=
 (e=.returned (.tuple #[])∧∃chs sts vc vs ee i',R=⟨⟨chs,sts,ee,i0⟩,i',-1⟩∧ee.op=63∧BP b g s w0 i0 chs sts vc vs (Zc ee) i' w') ∨
 (e=.returned (.tuple #[])∧∃chs sts vc vs i',R=QP s i0 k chs sts i' (-1)∧i<i'∧chs.length≤i'∧sts.length≤i'∧BP b g s w0 i0 chs sts vc vs .nilIface i' w') ∨
 (e=.panicked (brk R.bad)∧0≤R.bad∧Fr b w0 w')
theorem Qig{s i0 k chs sts i}(h46:onF s i (-1) 46=false)(h62:onF s i (-1) 62=false)(h33:onF s i (-1) 33=false):
  QP s i0 (k+1) chs sts i (-1)=if onF s (regI s i (-1)) (regB s i (-1)) 61 then QP s i0 k chs (sts++[(givF s (regN s i (-1),i) (regI s i (-1)+1) (regB s i (-1))).st]) (gotI s (givF s (regN s i (-1),i) (regI s i (-1)+1) (regB s i (-1))).i (givF s (regN s i (-1),i) (regI s i (-1)+1) (regB s i (-1))).bad 59) (mustB s (givF s (regN s i (-1),i) (regI s i (-1)+1) (regB s i (-1))).i (givF s (regN s i (-1),i) (regI s i (-1)+1) (regB s i (-1))).bad 59)
   else if onF s (regI s i (-1)) (regB s i (-1)) 64&&sts.isEmpty then QP s i0 k (chs++[⟨(regN s i (-1),i),(choF s (regI s i (-1)) (regB s i (-1))).gs,(choF s (regI s i (-1)) (regB s i (-1))).rs⟩]) sts (gotI s (choF s (regI s i (-1)) (regB s i (-1))).i (choF s (regI s i (-1)) (regB s i (-1))).bad 59) (mustB s (choF s (regI s i (-1)) (regB s i (-1))).i (choF s (regI s i (-1)) (regB s i (-1))).bad 59)
   else ⟨⟨chs,sts,(braF s (regN s i (-1),i) (regI s i (-1)) (regB s i (-1))).e,i0⟩,(braF s (regN s i (-1),i) (regI s i (-1)) (regB s i (-1))).i,(braF s (regN s i (-1),i) (regI s i (-1)) (regB s i (-1))).bad⟩:=by
 rw[QP,if_pos (by decide),if_neg (by simp[h46]),if_neg (by simp[h62]),if_neg (by simp[h33])]
section
variable {b g:Nat} {s:ByteArray} {w0:World} {i0:Nat} {chs:List Q0} {sts:List Qz} {vc vs ev:Value} {i:Nat}
theorem BP.newS{w':World}(h:w'.heap[w0.heap.size]?=some (.cells #[.int .i64 0,.slice none 0 0,.slice none 0 0,.nilIface] 104 (0,0))∧w'.heap[w0.heap.size+1]?=some (.cells #[.int .i64 i0,vc,vs,ev] 104 (0,0))∧ZU w' (w0.heap.size+2) chs vc∧RS w' b g s i∧Fr b w0 w'∧w0.heap.size+2≤w'.heap.size)(hb:b<w0.heap.size)(hg:g<w0.heap.size)
  {sts':List Qz}{vs':Value}(o:w'.ownsRow (w0.heap.size+2) 150 1 vs' sts'.length (sts'.map QS)):BP b g s w0 i0 chs sts' vc vs' ev i (w'.setCell ⟨w0.heap.size+1,2,none⟩ vs'):=by
 obtain⟨h1,h2,h3,h4,h5,h6⟩:=h;exact⟨Ql h1 (by omega) _ _,Qq h2 2 vs',h3.keeps (Qr.setk T4 w' _ 2 _ (by omega)) (by simp[T4]) (by simp[T4]),QE o _ 2 _ (by omega),h4.setk _ 2 _ (by omega) (by omega),h5.setk _ 2 _ (by omega),by rw[Zs];exact h6⟩
theorem BP.newC{w':World}(h:w'.heap[w0.heap.size]?=some (.cells #[.int .i64 0,.slice none 0 0,.slice none 0 0,.nilIface] 104 (0,0))∧w'.heap[w0.heap.size+1]?=some (.cells #[.int .i64 i0,vc,vs,ev] 104 (0,0))∧w'.ownsRow (w0.heap.size+2) 150 1 vs sts.length (sts.map QS)∧RS w' b g s i∧Fr b w0 w'∧w0.heap.size+2≤w'.heap.size)(hb:b<w0.heap.size)(hg:g<w0.heap.size)
  {chs':List Q0}{vc':Value}(o:ZU w' (w0.heap.size+2) chs' vc'):BP b g s w0 i0 chs' sts vc' vs ev i (w'.setCell ⟨w0.heap.size+1,1,none⟩ vc'):=by
 obtain⟨h1,h2,h3,h4,h5,h6⟩:=h;exact⟨Ql h1 (by omega) _ _,Qq h2 1 vc',o.keeps (Qr.setk T4 w' _ 1 _ (by omega)) (by simp[T4]) (by simp[T4]),QE h3 _ 1 _ (by omega),h4.setk _ 1 _ (by omega) (by omega),h5.setk _ 1 _ (by omega),by rw[Zs];exact h6⟩
end
theorem Qag{b g:Nat}{s:ByteArray}{w0:World}{i0 k i:Nat}{chs:List Q0}{sts:List Qz}{vc vs:Value}{w:World}(R:Blk)
  (I:BP b g s w0 i0 chs sts vc vs .nilIface i w)(hb:b<w0.heap.size)(hg:g<w0.heap.size)(hs:s.size≤200000)(hcl:chs.length≤i)(hsl:sts.length≤i)
  (HR:Hid (R=QP s i0 (k+1) chs sts i (-1)))(H46:Hid (onF s i (-1) 46=false))(H62:Hid (onF s i (-1) 62=false))(H33:Hid (onF s i (-1) 33=false)):
  Calls prog 200 #[.pointer (some ⟨b,0,none⟩),.pointer (some ⟨w0.heap.size+1,0,none⟩)] w fun e w'=>Qbn b g s w0 i0 k i R e w':=by
 have HE:=Qc (HR.o.trans (Qig H46.o H62.o H33.o));have hi:=I.P.le;obtain⟨pc1,cc1,rfl⟩:=I.C.slice;obtain⟨ps1,cs1,rfl⟩:=Qa I.S;clear HR H46 H62 H33;go_enter func200,ntmps200;go_wp2_with fail;rcases Int.lt_or_le (regB s i (-1)) 0 with h1|h1
 ·have e1:=(Ux h1).2.2.1;have H1:=Qc h1;have HE2:=HE.o;rw[e1]at HE2;have HE3:=Qc HE2;clear h1 HE e1 HE2;refine(Kd I.P hs H1.o).mono ?_;rintro e w1 ⟨rfl,P1,f1⟩;replace I:=I.call hb P1 f1;have hZ1:=I.Z;have hi1:=P1.le;have hi1g:=Xl (s:=s) (i:=i) (bad:=-1);have hi1s:i<regI s i (-1):=by
   have:=(Ux H1.o);rw[this.2.2.2.2];exact QH (Nat.lt_succ_self i) XT
  generalize regI s i (-1)=i1 at *;generalize regN s i (-1)=n1 at *;have kr:=heap_alloc_last w1 (.cells #[.int .i64 n1,.int .i64 i] 132);replace I:=I.alloc (.cells #[.int .i64 n1,.int .i64 i] 132);have kne:w1.heap.size≠b:=by have:=I.P.lt;omega
  have bne:w0.heap.size+1≠b:=by omega
  go_wp2_with fail
  cases h63:onF s i1 (-1) 63 with
  | true=>
   have HE4:=HE3.o;rw[if_neg (by simp[ZX h63 (show 63≠61 by decide)]),if_neg (by simp[ZX h63 (show 63≠64 by decide)]),Qf3 h63]at HE4;have HE5:=Qc HE4;have H63:=Qc h63;clear h63 HE4 HE3;refine(XD (c:=63) I.P hs (by decide) H63.o).mono ?_;rintro e w2 ⟨rfl,P2,f2⟩;replace I:=I.call hb P2 f2;replace kr:=Qn f2 kr (by omega);have qr:=Qb kr;clear f2 P2;go_wp2_with fail;refine(QfE I.P hs).mono ?_;rintro e w3 (⟨rfl,hr,P3,f3⟩|⟨rfl,hr,f3⟩)
   ·replace I:=I.call hb P3 f3;have q2:=Qb I.G2;have z2:=Qg I.G2;have HRB:=Qc hr;have hev:∃T x,Zc (Wn s (n1,i) (i1+1)).e=.iface T x:=⟨_,_,rfl⟩;obtain⟨T,x,hev⟩:=hev;have HEV:=Qc hev;rw[hev];clear hr hev;go_wp2_with fail
    go_end0
    refine .inl ⟨rfl,chs,sts,.slice pc1 chs.length cc1,.slice ps1 sts.length cs1,(Wn s (n1,i) (i1+1)).e,(Wn s (n1,i) (i1+1)).i,?_,rfl,?_⟩
    ·rw[HE5.o,HRB.o]
    ·rw[HEV.o];exact I.setE hb hg _
   ·go_wp2_with fail;refine⟨rfl,.inr (.inr ⟨?_,?_,I.F.trans f3⟩)⟩
    ·rw[HE5.o]
    ·rw[HE5.o];exact hr
  | false=>
   have H63:=Qc h63;refine(X2 (c:=63) I.P (by decide) H63.o).mono ?_;rintro e w2 ⟨rfl,P2,f2⟩;replace I:=I.call hb P2 f2;replace kr:=Qn f2 kr (by omega);clear f2 P2;go_wp2_with fail
   cases h61:onF s i1 (-1) 61 with
   | true=>
    have HE4:=HE3.o;rw[if_pos h61]at HE4;have HE5:=Qc HE4;have H61:=Qc h61;have hl61:=(Zf h61).2.1;clear h61 h63 HE4 HE3 H63;refine(XD (c:=61) I.P hs (by decide) H61.o).mono ?_;rintro e w3 ⟨rfl,P3,f3⟩;replace I:=I.call hb P3 f3;replace kr:=Qn f3 kr (by omega);clear f3 P3;have a0:=Qb kr 0;have a1:=Qb kr 1;have b2:=Qb I.G2 2;have b2z:=Qg I.G2 2;simp at a0 a1 b2;have kl:=lt_of_block kr;have bl:=lt_of_block I.G2;have FIN:Hid (∀w5,Fr b w3.drew w5→0≤mustB s (givF s (n1,i) (i1+1) (-1)).i (givF s (n1,i) (i1+1) (-1)).bad 59→Qbn b g s w0 i0 k i R (.panicked (brk (mustB s (givF s (n1,i) (i1+1) (-1)).i (givF s (n1,i) (i1+1) (-1)).bad 59))) w5):=fun w5 f5 h0=>by
     have hB:R.bad=mustB s (givF s (n1,i) (i1+1) (-1)).i (givF s (n1,i) (i1+1) (-1)).bad 59:=by rw[HE5.o];exact V7 _ h0
     exact .inr (.inr ⟨by rw[hB],by rw[hB];exact h0,I.F.drew.trans f5⟩)
    obtain⟨T,x,hst⟩:=Nt (givF s (n1,i) (i1+1) (-1)).st;have HSV:=Qc hst;clear hst;go_wp2_with fail
    go_region_law (first | (refine Z1 rfl 220 #[.pointer (some ⟨b,0,none⟩),.agg #[.int .i64 n1,.int .i64 i]] (by go_simp) (Qbb (RS.drew I.P) hs) ?_;rintro e w5 (⟨rfl,hgb,P5,f5⟩ | ⟨rfl,hgb,f5⟩);rw[HSV.o];have HGB:=Qc hgb;clear hgb;have c0:=f5.cells (k:=w1.heap.size) kl kne 0;have c1:=f5.cells (k:=w1.heap.size) kl kne 1;have c2:=f5.cells (k:=w0.heap.size+1) bl bne 2;have IB:=BP.call (BP.drew I) hb P5 f5;have z5:=Qg IB.G2 2;have l5:w0.heap.size+1<w5.heap.size:=Nat.lt_of_lt_of_le bl f5.size;have l5b:w1.heap.size<w5.heap.size:=Nat.lt_of_lt_of_le kl f5.size;have HIB:=Qc IB;have o5:=IB.S;clear IB;rotate_left;exact⟨rfl,FIN.o _ f5 hgb⟩) | (refine step1 underlying100 WZ rfl (by decide) (by decide) rfl _ _ rfl rfl (o5.alloc _) (heap_alloc_last w5 _) rfl rfl (List.all_eq_true.1 rfl) (by omega) (by rw[World.size_alloc];omega) ?_;intro v6 w6 o6 gr6;obtain⟨p6,c6,rfl⟩:=Qa o6;have HI6:=Qc (BP.grownS (BP.alloc HIB.o _) hb hg gr6);have x6:=Qb HI6.o.2.1 2;have z6:=Qg HI6.o.2.1 2) | fail)
    all_goals
     replace o6:w6.ownsRow (w0.heap.size+2) 150 1 (.slice p6 (sts.length+1) c6) (sts++[(givF s (n1,i) (i1+1) (-1)).st]).length ((sts++[(givF s (n1,i) (i1+1) (-1)).st]).map QS):=by
      rw[Qw,List.map_append];have:=o6;rw[←HSV.o]at this;exact this
     have J:=BP.newS HI6.o hb hg o6;clear o6 HI6 gr6 x6 z6 c0 c1 c2 z5 l5 l5b HIB o5 f5 P5 a0 a1 b2 b2z kl bl I kr;generalize w6.setCell ⟨w0.heap.size+1,2,none⟩ (.slice p6 (sts.length+1) c6)=w7 at *;have hg1:=Ud (s:=s) (to:=(n1,i)) (i:=i1+1) (bad:=-1);have HE6:=HE5.o;rw[HGB.o]at HE6;generalize (givF s (n1,i) (i1+1) (-1)).st=st at *;generalize (givF s (n1,i) (i1+1) (-1)).i=i5 at *;go_wp2_with fail
     cases h59:onF s i5 (-1) 59 with
     | true=>
      have e1:gotI s i5 (-1) 59=i5+1:=by rw[gotI,if_pos h59]
      have e2:mustB s i5 (-1) 59=-1:=by rw[mustB,if_pos h59]
      rw[e1,e2]at HE6;have HE7:=Qc HE6;refine(Jo (c:=59) J.P hs (by decide) h59).mono ?_;rintro e w8 ⟨rfl,P8,f8⟩;clear h59 HE6 e1 e2;go_wp2_with fail
      go_end0
      exact .inr (.inl ⟨rfl,chs,sts++[st],_,_,i5+1,HE7.o,by omega,by omega,by simp;omega,J.call hb P8 f8⟩)
     | false=>
      have e2:mustB s i5 (-1) 59=i5:=by rw[JA,h59];rfl
      rw[e2]at HE6;have HB:Hid (R.bad=i5):=by show _=_;rw[HE6];exact V7 _ (by omega)
      refine(KM (c:=59) J.P (by decide) h59).mono ?_;rintro e w8 ⟨rfl,f8⟩;clear h59 HE6 e2;go_wp2_with fail;exact⟨rfl,.inr (.inr ⟨by rw[HB.o],by rw[HB.o];omega,J.F.trans f8⟩)⟩
   | false=>
    have H61:=Qc h61;refine(X2 (c:=61) I.P (by decide) H61.o).mono ?_;rintro e w3 ⟨rfl,P3,f3⟩;replace I:=I.call hb P3 f3;replace kr:=Qn f3 kr (by omega);clear f3 P3;have a0:=Qb kr 0;have a1:=Qb kr 1;have d0:=Qb I.G2 2;have b2:=Qb I.G2 1;have b2z:=Qg I.G2 1;simp at a0 a1 b2 d0;have kl:=lt_of_block kr;have bl:=lt_of_block I.G2;have HE4:=HE3.o;rw[if_neg (by simp[h61])]at HE4
    cases sts with
    | cons t0 ts=>
     rw[if_neg (by simp)]at HE4;have HB:Hid (R.bad=i1):=by show _=_;rw[HE4];exact Qco (a:=(n1,i)) h63
     have hne:(((t0::ts).length:Int)==0)=false:=by simp;omega
     generalize t0::ts=sts at *;clear HE4 HE3 h61 h63 H61 H63;go_wp2_with fail;refine(Vq I.P).mono ?_;rintro e w5 ⟨rfl,f5⟩;go_wp2_with fail;exact⟨rfl,.inr (.inr ⟨by rw[HB.o],by rw[HB.o];omega,I.F.trans f5⟩)⟩
    | nil=>
     cases h64:onF s i1 (-1) 64 with
     | false=>
      rw[if_neg (by simp[h64])]at HE4;have HB:Hid (R.bad=i1):=by show _=_;rw[HE4];exact Qco (a:=(n1,i)) h63
      have H64:=Qc h64;clear HE4 HE3 h61 h63 H61 H63 h64;go_wp2_with fail;refine(X2 (c:=64) I.P (by decide) H64.o).mono ?_;rintro e w4 ⟨rfl,P4,f4⟩;go_wp2_with fail;refine(Vq P4).mono ?_;rintro e w5 ⟨rfl,f5⟩;go_wp2_with fail;exact⟨rfl,.inr (.inr ⟨by rw[HB.o],by rw[HB.o];omega,(I.F.trans f4).trans f5⟩)⟩
     | true=>
      rw[if_pos (by simp[h64]),QfS h64]at HE4;have HE5:=Qc HE4;have H64:=Qc h64;have hl64:=(Zf h64).2.1;clear HE4 HE3 h61 h63 H61 H63 h64;go_wp2_with fail;refine(XD (c:=64) I.P hs (by decide) H64.o).mono ?_;rintro e w4 ⟨rfl,P4,f4⟩;replace I:=I.call hb P4 f4;replace kr:=Qn f4 kr (by omega);clear f4 P4;replace a0:=Qb kr 0;replace a1:=Qb kr 1;replace b2:=Qb I.G2 1;replace b2z:=Qg I.G2 1;simp at a0 a1 b2;replace kl:=lt_of_block kr;replace bl:=lt_of_block I.G2;clear d0;have FIN:Hid (∀w5,Fr b w4.drew w5→0≤(choT s (i1+1)).bad→Qbn b g s w0 i0 k i R (.panicked (brk (choT s (i1+1)).bad)) w5):=fun w5 f5 h0=>by
       have hB:R.bad=(choT s (i1+1)).bad:=by rw[HE5.o,ZV h0];exact V7 _ h0
       exact .inr (.inr ⟨by rw[hB],by rw[hB];exact h0,I.F.drew.trans f5⟩)
      go_wp2_with fail
      go_region_law (first | (refine Z1 rfl 221 #[.pointer (some ⟨b,0,none⟩),.agg #[.int .i64 n1,.int .i64 i]] (by go_simp) (Qam (RS.drew I.P) hs) ?_;rintro e w5 (⟨us,rfl,hgb,hgl2,OS,P5,f5⟩ | ⟨rfl,hgb,f5⟩);obtain⟨pu,mu,cu,rfl⟩:=Xm OS;have HGB:=Qc hgb;have HGL:=Qc hgl2;clear hgb hgl2;have c0:=f5.cells (k:=w1.heap.size) kl kne 0;have c1:=f5.cells (k:=w1.heap.size) kl kne 1;have c2:=f5.cells (k:=w0.heap.size+1) bl bne 1;have IB:=BP.call (BP.drew I) hb P5 f5;have z5:=Qg IB.G2 1;have l5:w0.heap.size+1<w5.heap.size:=Nat.lt_of_lt_of_le bl f5.size;have l5b:w1.heap.size<w5.heap.size:=Nat.lt_of_lt_of_le kl f5.size;have HIB:=Qc IB;have o5:=IB.C;clear IB;rotate_left;exact⟨rfl,FIN.o _ f5 hgb⟩) | (obtain⟨us,OC,hAll⟩:=o5;refine step1 underlying99 Qb5 rfl (by decide) (by decide) rfl _ _ rfl rfl (OC.alloc _) (heap_alloc_last w5 _) rfl rfl (List.all_eq_true.1 rfl) (by omega) (by rw[World.size_alloc];omega) ?_;intro v6 w6 o6 gr6;obtain⟨p6,c6,rfl⟩:=Qa o6;have HI6:=Qc (BP.grownC (BP.alloc HIB.o _) hb hg (OC.alloc _) gr6);have x6:=Qb HI6.o.2.1 1;have z6:=Qg HI6.o.2.1 1) | fail)
      all_goals
       have K:Qr (w0.heap.size+2) (fun e=>e=147) w5 w6:=(Qr.alloc _ _ _ _).trans (Qr.grown (OC.alloc _) gr6 (by decide));have OP:ZU w6 (w0.heap.size+2) (chs++[⟨(n1,i),(choT s (i1+1)).gs,(choT s (i1+1)).rs⟩]) (.slice p6 (chs.length+1) c6):=by
        refine⟨us++[.slice pu mu cu],?_,?_⟩
        ·rw[VB _ _ hAll.len,Qw];exact o6
        ·exact ZZ.snoc HGL.o (Qd (Qj OS (show w0.heap.size+2≤w4.drew.heap.size from I.Z)) K rfl) (hAll.keeps K rfl)
       have J:=BP.newC HI6.o hb hg OP;clear o6 HI6 gr6 x6 z6 c0 c1 c2 z5 l5 l5b HIB OC hAll K OP OS f5 P5 a0 a1 b2 b2z kl bl I kr;generalize w6.setCell ⟨w0.heap.size+1,1,none⟩ (.slice p6 (chs.length+1) c6)=w7 at *;have hg1:i1+1≤(choT s (i1+1)).i:=Qan (s.size+1) ⟨[],[],i1+1,-1⟩;have HE6:=HE5.o;rw[HGB.o]at HE6;generalize (choT s (i1+1)).gs=gs at *;generalize (choT s (i1+1)).rs=rs at *;generalize (choT s (i1+1)).i=i5 at *;go_wp2_with fail
       cases h59:onF s i5 (-1) 59 with
       | true=>
        have e1:gotI s i5 (-1) 59=i5+1:=by rw[gotI,if_pos h59]
        have e2:mustB s i5 (-1) 59=-1:=by rw[mustB,if_pos h59]
        rw[e1,e2]at HE6;have HE7:=Qc HE6;refine(Jo (c:=59) J.P hs (by decide) h59).mono ?_;rintro e w8 ⟨rfl,P8,f8⟩;clear h59 HE6 e1 e2;go_wp2_with fail
        go_end0
        exact .inr (.inl ⟨rfl,chs++[⟨(n1,i),gs,rs⟩],[],_,_,i5+1,HE7.o,by omega,by simp;omega,by simp,J.call hb P8 f8⟩)
       | false=>
        have e2:mustB s i5 (-1) 59=i5:=by rw[JA,h59];rfl
        rw[e2]at HE6;have HB:Hid (R.bad=i5):=by show _=_;rw[HE6];exact V7 _ (by omega)
        refine(KM (c:=59) J.P (by decide) h59).mono ?_;rintro e w8 ⟨rfl,f8⟩;clear h59 HE6 e2;go_wp2_with fail;exact⟨rfl,.inr (.inr ⟨by rw[HB.o],by rw[HB.o];omega,J.F.trans f8⟩)⟩
 ·have H1:=Qc h1;have HB:Hid (R.bad=regB s i (-1)):=by
   show _=_;rw[HE.o,if_neg (by simp[Uo h1]),if_neg (by simp[Uo h1])];exact Qgx (a:=(regN s i (-1),i)) h1
  clear h1 HE;refine(Uw I.P hs H1.o).mono ?_;rintro e w1 ⟨rfl,f1⟩;go_wp2_with fail;exact⟨rfl,.inr (.inr ⟨by rw[HB.o],by rw[HB.o];exact H1.o,I.F.trans f1⟩)⟩
def YY(w:World)(base:Nat)(r:Qm)(vc vs:Value):Prop:=ZU w base r.chs vc∧w.ownsRow base 150 1 vs r.sts.length (r.sts.map QS)
def Zv(r:Qm)(vc vs:Value):List Value:=[.int .i64 r.at_,vc,vs,Zc r.e]
def Qgl(b g:Nat)(s:ByteArray)(w:World)(R:Blk)(e:Ending)(w':World):Prop:=
 (∃vc vs,e=.returned (.agg (Zv R.b vc vs).toArray)∧R.bad=-1∧(R.b.e.op=46∨R.b.e.op=62∨R.b.e.op=63)∧YY w' w.heap.size R.b vc vs∧RS w' b g s R.i∧Fr b w w') ∨
 (e=.panicked (brk R.bad)∧0≤R.bad∧Fr b w w')
theorem QQ(e:Z6):∃T x,Zc e=.iface T x:=by
 unfold Zc
 repeat' split
 all_goals exact⟨_,_,rfl⟩
theorem Qk1{b g:Nat}{s:ByteArray}{i:Nat}{w:World}(hp:RS w b g s i):
  Calls prog 196 #[.pointer (some ⟨b,0,none⟩)] w fun e w'=>∃n,e=.returned (.int .i64 i)∧w'=w.drewN n:=by
 obtain⟨ms,k,cap,hm,⟨hk,rfl⟩,hr⟩:=hp;exact Qbl b s ms k g cap w hr hk
def U2:Value→Nat | .nilIface=>1|_=>0
theorem Qbg{b g:Nat}{s:ByteArray}{i0:Nat}{w:World}(hp:RS w b g s i0)(hs:s.size≤200000):
  Calls prog 157 #[.pointer (some ⟨b,0,none⟩)] w fun e w'=>Qgl b g s w (blkF s i0 (-1)) e w':=by
 have hb:=hp.lt;have hg:=hp.glt;have hi0:=hp.le;go_enter func157,ntmps157;go_wp2_with fail;refine(Qk1 (hp.alloc _)).mono ?_;rintro e w1 ⟨n,rfl,rfl⟩;go_wp2_with fail
 go_loopw [12] (fun _ wr=>∃(k:Nat)(chs:List Q0)(sts:List Qz)(vc vs ev:Value)(i:Nat),BP b g s w i0 chs sts vc vs ev i wr∧((ev=.nilIface∧s.size<k+i∧chs.length≤i∧sts.length≤i∧Hid (blkF s i0 (-1)=QP s i0 k chs sts i (-1)))∨(∃ee,ev=Zc ee∧Hid (blkF s i0 (-1)=⟨⟨chs,sts,ee,i0⟩,i,-1⟩)∧Hid (ee.op=46∨ee.op=62∨ee.op=63))))
  (fun _ wr=>2*(s.size-rdI wr b)+U2 ((wr.cell? ⟨w.heap.size+1,3,none⟩).getD .nilIface))
 case atStart=>
  refine⟨s.size+1,[],[],.slice none 0 0,.slice none 0 0,.nilIface,i0,⟨?_,?_,⟨[],World.ownsRow_nil _ _ _ _,trivial⟩,World.ownsRow_nil _ _ _ _,((hp.alloc _).drewN n).alloc _,(((Fr.refl _ _).alloc _).drewN n).alloc _,by simp⟩,.inl ⟨rfl,by omega,by simp,by simp,rfl⟩⟩
  ·exact Qo (w:=(w.alloc _).drewN n) (heap_alloc_last w _) _
  ·have:=heap_alloc_last ((w.alloc (.cells #[.int .i64 0,.slice none 0 0,.slice none 0 0,.nilIface] 104)).drewN n) (.cells #[.int .i64 i0,.slice none 0 0,.slice none 0 0,.nilIface] 104)
   rwa [show ((w.alloc (.cells #[.int .i64 0,.slice none 0 0,.slice none 0 0,.nilIface] 104)).drewN n).heap.size=w.heap.size+1 from Qt _ _]at this
 case round=>
  clear hp;obtain⟨k,chs,sts,vc,vs,ev,i,I,hst⟩:=hrel;obtain⟨pc1,cc1,rfl⟩:=I.C.slice;obtain⟨ps1,cs1,rfl⟩:=Qa I.S;rcases hst with ⟨rfl,hk,hcl,hsl,HR⟩|⟨ee,rfl,HV,HOP⟩
  ·have HRI:Hid (rdI wr b=i):=I.P.rdI;have HFL:Hid (U2 ((wr.cell? ⟨w.heap.size+1,3,none⟩).getD .nilIface)=1):=by show _=_;rw[Qb I.G2 3];rfl
   have hi:=I.P.le;obtain⟨k,rfl⟩:∃j,k=j+1:=⟨k-1,by omega⟩;have q3:=Qb I.G2 3;simp at q3;go_wp2_with fail
   cases h46:onF s i (-1) 46 with
   | true=>
    have HV:=Qc (HR.o.trans (show QP s i0 (k+1) chs sts i (-1)=⟨⟨chs,sts,⟨46,(0,0),(0,0),(0,0)⟩,i0⟩,i+1,-1⟩ from by rw[QP,if_pos (by decide),if_pos h46]));have hlt:=(Zf h46).2.1;refine(XD (c:=46) I.P hs (by decide) h46).mono ?_;rintro e w2 ⟨rfl,P2,f2⟩;replace I:=I.call hb P2 f2;clear h46 HR f2 P2 q3;have q2:=Qb I.G2;have z2:=Qg I.G2;go_wp2_with fail;have J:=I.setE hb hg (.iface 309 (.agg #[]));go_roundw
    case rel=>exact⟨0,chs,sts,_,_,_,i+1,J,.inr ⟨⟨46,(0,0),(0,0),(0,0)⟩,rfl,HV,.inl rfl⟩⟩
    case measure=>rw[J.P.rdI,HRI.o,HFL.o,Qb J.G2 3];simp[U2];omega
   | false=>
    refine(X2 (c:=46) I.P (by decide) h46).mono ?_;rintro e w2 ⟨rfl,P2,f2⟩;replace I:=I.call hb P2 f2;clear f2 P2 q3;go_wp2_with fail
    cases h62:onF s i (-1) 62 with
    | true=>
     have HV:=Qc (HR.o.trans (show QP s i0 (k+1) chs sts i (-1)=⟨⟨chs,sts,⟨62,(0,0),(numN s (i+1) (-1),i+1),(0,0)⟩,i0⟩,numI s (i+1) (-1),Zx s (i+1) (-1)⟩ from by rw[QP,if_pos (by decide),if_neg (by simp[h46]),if_pos h62]));have hlt:=(Zf h62).2.1;refine(XD (c:=62) I.P hs (by decide) h62).mono ?_;rintro e w3 ⟨rfl,P3,f3⟩;replace I:=I.call hb P3 f3;clear h46 h62 HR f3 P3;go_wp2_with fail
     cases hd:Zr s (i+1) (-1) with
     | true=>
      have HV2:Hid (blkF s i0 (-1)=⟨⟨chs,sts,⟨62,(0,0),(numN s (i+1) (-1),i+1),(0,0)⟩,i0⟩,numI s (i+1) (-1),-1⟩):=by
       show _=_;rw[HV.o,Kj,hd];rfl
      have hge:=XT (s:=s) (i:=i+1) (bad:=-1);refine(VM I.P hs hd).mono ?_;rintro e w4 ⟨rfl,P4,f4⟩;replace I:=I.call hb P4 f4;clear hd f4 P4 HV;have q2:=Qb I.G2;have z2:=Qg I.G2;go_wp2_with fail;have J:=I.setE hb hg (.iface 312 (.agg #[.int .i64 (numN s (i+1) (-1)),.int .i64 ((i:Int)+1)]));go_roundw
      case rel=>exact⟨0,chs,sts,_,_,_,numI s (i+1) (-1),J,.inr ⟨⟨62,(0,0),(numN s (i+1) (-1),i+1),(0,0)⟩,rfl,HV2,.inr (.inl rfl)⟩⟩
      case measure=>rw[J.P.rdI,HRI.o,HFL.o,Qb J.G2 3];simp[U2];omega
     | false=>
      have HB:Hid ((blkF s i0 (-1)).bad=((i+1:Nat):Int)):=by show _=_;rw[HV.o,Kj,hd];rfl
      refine(Uc I.P hd).mono ?_;rintro e w4 ⟨rfl,f4⟩;clear hd HV;go_wp2_with fail;exact⟨rfl,.inr ⟨by rw[HB.o];rfl,by rw[HB.o];omega,I.F.trans f4⟩⟩
    | false=>
     refine(X2 (c:=62) I.P (by decide) h62).mono ?_;rintro e w3 ⟨rfl,P3,f3⟩;replace I:=I.call hb P3 f3;clear f3 P3;go_wp2_with fail
     cases h33:onF s i (-1) 33 with
     | true=>
      have hlt:=(Zf h33).2.1;have HE:=Qc (HR.o.trans (show QP s i0 (k+1) chs sts i (-1)=QP s i0 k chs (sts++[⟨33,(0,0),(regN s (i+1) (-1),i+1),(0,0),0⟩]) (gotI s (regI s (i+1) (-1)) (regB s (i+1) (-1)) 59) (mustB s (regI s (i+1) (-1)) (regB s (i+1) (-1)) 59) from by rw[QP,if_pos (by decide),if_neg (by simp[h46]),if_neg (by simp[h62]),if_pos h33]));refine(XD (c:=33) I.P hs (by decide) h33).mono ?_;rintro e w4 ⟨rfl,P4,f4⟩;replace I:=I.call hb P4 f4;clear h46 h62 h33 HR f4 P4;have b2:=Qb I.G2 2;have b2z:=Qg I.G2 2;simp at b2;have bl:=lt_of_block I.G2;have bne:w.heap.size+1≠b:=by omega
      go_wp2_with fail;rcases Int.lt_or_le (regB s (i+1) (-1)) 0 with h1|h1
      ·have H1:=Qc h1;have HB1:=Qc (Ux h1).2.2.1;have hge:=Xl (s:=s) (i:=i+1) (bad:=-1);have hle:=ZM (bad:=-1) (show i+1≤s.size by omega);clear h1
       go_region_law (first | (refine Z1 rfl 199 #[.pointer (some ⟨b,0,none⟩)] (by go_simp) (Kd (RS.drew I.P) hs H1.o) ?_;rintro e w5 ⟨rfl,P5,f5⟩;have c2:=f5.cells (k:=w.heap.size+1) bl bne 2;have IB:=BP.call (BP.drew I) hb P5 f5;have z5:=Qg IB.G2 2;have l5:w.heap.size+1<w5.heap.size:=Nat.lt_of_lt_of_le bl f5.size;have HIB:=Qc IB;have o5:=IB.S;clear IB) | (refine step1 underlying100 WZ rfl (by decide) (by decide) rfl _ _ rfl rfl (o5.alloc _) (heap_alloc_last w5 _) rfl rfl (List.all_eq_true.1 rfl) (by omega) (by rw[World.size_alloc];omega) ?_;intro v6 w6 o6 gr6;obtain⟨p6,c6,rfl⟩:=Qa o6;have HI6:=Qc (BP.grownS (BP.alloc HIB.o _) hb hg gr6);have x6:=Qb HI6.o.2.1 2;have z6:=Qg HI6.o.2.1 2) | fail)
       all_goals
        replace o6:w6.ownsRow (w.heap.size+2) 150 1 (.slice p6 (sts.length+1) c6) (sts++[(⟨33,(0,0),(regN s (i+1) (-1),i+1),(0,0),0⟩:Qz)]).length ((sts++[(⟨33,(0,0),(regN s (i+1) (-1),i+1),(0,0),0⟩:Qz)]).map QS):=by
         rw[Qw,List.map_append];exact o6
        have J:=BP.newS HI6.o hb hg o6;clear o6 HI6 gr6 x6 z6 c2 z5 l5 HIB o5 f5 P5 b2 b2z bl I;generalize w6.setCell ⟨w.heap.size+1,2,none⟩ (.slice p6 (sts.length+1) c6)=w7 at *;have HE6:=HE.o;rw[HB1.o]at HE6;generalize regI s (i+1) (-1)=i5 at *;go_wp2_with fail
        cases h59:onF s i5 (-1) 59 with
        | true=>
         have e1:gotI s i5 (-1) 59=i5+1:=by rw[gotI,if_pos h59]
         have e2:mustB s i5 (-1) 59=-1:=by rw[mustB,if_pos h59]
         have hl59:=(Zf h59).2.1;rw[e1,e2]at HE6;have HE7:=Qc HE6;refine(Jo (c:=59) J.P hs (by decide) h59).mono ?_;rintro e w8 ⟨rfl,P8,f8⟩;clear h59 HE6 e1 e2;have J8:=J.call hb P8 f8;go_wp2_with fail;go_roundw
         case rel=>exact⟨k,chs,_,_,_,_,i5+1,J8,.inl ⟨rfl,by omega,by omega,by simp;omega,HE7⟩⟩
         case measure=>rw[J8.P.rdI,HRI.o,HFL.o,Qb J8.G2 3];simp[U2];omega
        | false=>
         have e2:mustB s i5 (-1) 59=i5:=by rw[JA,h59];rfl
         rw[e2]at HE6;have HB:Hid ((blkF s i0 (-1)).bad=i5):=by show _=_;rw[HE6];exact V7 _ (by omega)
         refine(KM (c:=59) J.P (by decide) h59).mono ?_;rintro e w8 ⟨rfl,f8⟩;clear h59 HE6 e2;go_wp2_with fail;exact⟨rfl,.inr ⟨by rw[HB.o],by rw[HB.o];omega,J.F.trans f8⟩⟩
      ·have H1:=Qc h1;have HB:Hid ((blkF s i0 (-1)).bad=regB s (i+1) (-1)):=by show _=_;rw[HE.o,ZV h1];exact V7 _ h1
       have FIN:Hid (∀w5,Fr b w4.drew w5→Qgl b g s w (blkF s i0 (-1)) (.panicked (brk (regB s (i+1) (-1)))) w5):=fun w5 f5=>.inr ⟨by rw[HB.o],by rw[HB.o];exact h1,I.F.drew.trans f5⟩;clear h1 HE
       go_region_law (first | (refine Z1 rfl 199 #[.pointer (some ⟨b,0,none⟩)] (by go_simp) (Qew (Uw (RS.drew I.P) hs H1.o) (.agg #[.int .i64 0,.int .i64 0])) ?_;rintro e w5 (⟨rfl,f5⟩ | ⟨rfl,rfl,hF⟩);exact⟨rfl,FIN.o _ f5⟩) | (refine Un hF (.slice none 0 0) ?_) | fail)
       all_goals exact hF.out.elim
     | false=>
      refine(X2 (c:=33) I.P (by decide) h33).mono ?_;rintro e w4 ⟨rfl,P4,f4⟩;replace I:=I.call hb P4 f4;have H46:=Qc h46;have H62:=Qc h62;have H33:=Qc h33;clear f4 P4 h46 h62 h33;go_wp2_with fail;refine(Qag (blkF s i0 (-1)) I hb hg hs hcl hsl HR H46 H62 H33).mono ?_;rintro e w5 (⟨rfl,chs2,sts2,vc2,vs2,ee,i2,HV,hop,J⟩|⟨rfl,chs2,sts2,vc2,vs2,i2,HE,hi2,h3,h4,J⟩|⟨rfl,hbad,f5⟩)
      ·replace HV:=Qc HV;replace hop:=Qc hop;have hle:=J.P.le;go_wp2_with fail;go_roundw
       case rel=>exact⟨0,chs2,sts2,_,_,_,i2,J,.inr ⟨ee,rfl,HV,.inr (.inr hop)⟩⟩
       case measure=>
        have hge:i≤i2:=by
         have h1:=Qas (s:=s) (i0:=i0) (k+1) chs sts i (-1);rw[←HR.o,HV.o]at h1;exact h1
        rw[J.P.rdI,HRI.o,HFL.o,Qb J.G2 3];have:U2 (Zc ee)=0:=by obtain⟨T,x,h⟩:=QQ ee;rw[h];rfl
        simp[this];omega
      ·replace HE:=Qc HE;have hle:=J.P.le;go_wp2_with fail;go_roundw
       case rel=>exact⟨k,chs2,sts2,_,_,_,i2,J,.inl ⟨rfl,by omega,h3,h4,HE⟩⟩
       case measure=>rw[J.P.rdI,HRI.o,HFL.o,Qb J.G2 3];simp[U2];omega
      ·replace hbad:=Qc hbad;go_wp2_with fail;exact⟨rfl,.inr ⟨rfl,hbad.out,f5⟩⟩
  ·obtain⟨T,x,hev⟩:=QQ ee;have HEV:=Qc hev;rw[hev]at I;clear hev;have q1:=Qb I.G1;have z1:=Qg I.G1;have q2:=Qb I.G2;go_wp2_with fail;refine bodyPost_ret (v:=.agg #[.int .i64 i0,(.slice pc1 chs.length cc1),(.slice ps1 sts.length cs1),.iface T x]) (by simp[results,results157,go_sem,q1]) rfl (.inl ⟨.slice pc1 chs.length cc1,.slice ps1 sts.length cs1,?_,?_,?_,?_,?_,?_⟩)
   ·rw[HV.o];rw[Zv,HEV.o]
   ·rw[HV.o]
   ·rw[HV.o];exact HOP.o
   ·rw[HV.o];exact⟨ZU.base (((((I.C).keeps (Qr.setk T4 _ w.heap.size 0 _ (by omega)) (by simp[T4]) (by simp[T4])).keeps (Qr.setk T4 _ w.heap.size 1 _ (by omega)) (by simp[T4]) (by simp[T4])).keeps (Qr.setk T4 _ w.heap.size 2 _ (by omega)) (by simp[T4]) (by simp[T4])).keeps (Qr.setk T4 _ w.heap.size 3 _ (by omega)) (by simp[T4]) (by simp[T4])) (by omega),Qj (QE (QE (QE (QE (I.S) w.heap.size 0 _ (by omega)) w.heap.size 1 _ (by omega)) w.heap.size 2 _ (by omega)) w.heap.size 3 _ (by omega)) (by omega)⟩
   ·rw[HV.o];exact((((I.P).setk w.heap.size 0 _ (by omega) (by omega)).setk w.heap.size 1 _ (by omega) (by omega)).setk w.heap.size 2 _ (by omega) (by omega)).setk w.heap.size 3 _ (by omega) (by omega)
   ·exact((((I.F).setk w.heap.size 0 _ (by omega)).setk w.heap.size 1 _ (by omega)).setk w.heap.size 2 _ (by omega)).setk w.heap.size 3 _ (by omega)
end Go.Proofs.YtgfhfkgdmidhpaaGreatDoor
