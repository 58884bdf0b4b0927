import Derived.Test.YtgfhfkgdmidhpaaGreatDoorM03
namespace Go.Proofs.YtgfhfkgdmidhpaaGreatDoor
open Go.RowKit
open Tryz
set_option maxRecDepth 100000
set_option maxHeartbeats 8000000
def Z9(w:World)(base:Nat):List Qm→List (Value×Value)→Prop
 | [],[]=>True
 | c::cs,v::vs=>(XH w base c.chs v.1∧w.ownsRow base 66 8 v.2 c.sts.length (c.sts.flatMap ZP))∧Z9 w base cs vs
 | _,_=>False
def Qcs(c:Qm)(v:Value×Value):List Value:=XS v.1 v.2 c.e c.at_
def VX(cs:List Qm)(vs:List (Value×Value)):List Value:=(List.zipWith Qcs cs vs).flatten
def QR(w:World)(base:Nat)(cs:List Qm)(v:Value):Prop:=∃vs,w.ownsRow base 53 10 v cs.length (VX cs vs)∧Z9 w base cs vs
def T2(e:TypeId):Prop:=e=48∨e=49∨e=64∨e=66
def T3(e:TypeId):Prop:=e=48∨e=49∨e=64∨e=66∨e=53
theorem Z9.len{w base}:∀{cs vs},Z9 w base cs vs→vs.length=cs.length
 | [],[],_=>rfl
 | _::_,_::_,h=>by simp[Z9.len h.2]
 | [],_::_,h=>h.elim
 | _::_,[],h=>h.elim
theorem Z9.keeps{w w' base}{T:TypeId→Prop}(k:Qr base T w w')(h1:T 49)(h2:T 48)(h3:T 64)(h4:T 66):∀{cs vs},Z9 w base cs vs→Z9 w' base cs vs
 | [],[],_=>trivial
 | _::_,_::_,h=>⟨⟨h.1.1.keeps k h1 h2 h3,Qd h.1.2 k h4⟩,Z9.keeps k h1 h2 h3 h4 h.2⟩
 | [],_::_,h=>h.elim
 | _::_,[],h=>h.elim
theorem Z9.snoc{w base c v}(h1:XH w base c.chs v.1)(h2:w.ownsRow base 66 8 v.2 c.sts.length (c.sts.flatMap ZP)):∀{cs vs},Z9 w base cs vs→Z9 w base (cs++[c]) (vs++[v])
 | [],[],_=>⟨⟨h1,h2⟩,trivial⟩
 | _::_,_::_,h=>⟨h.1,Z9.snoc h1 h2 h.2⟩
 | [],_::_,h=>h.elim
 | _::_,[],h=>h.elim
theorem Z9.base{w base base'}(hb:base'≤base):∀{cs vs},Z9 w base cs vs→Z9 w base' cs vs
 | [],[],_=>trivial
 | _::_,_::_,h=>⟨⟨h.1.1.base hb,Qj h.1.2 hb⟩,Z9.base hb h.2⟩
 | [],_::_,h=>h.elim
 | _::_,[],h=>h.elim
theorem R0{cs vs} (c v)(h:vs.length=cs.length):VX (cs++[c]) (vs++[v])=VX cs vs++Qcs c v:=by
 simp[VX,List.zipWith_append h.symm]
theorem QR.keeps{w w' base cs v}{T:TypeId→Prop}(h:QR w base cs v)(k:Qr base T w w')(h1:T 49)(h2:T 48)(h3:T 64)(h4:T 66)(h5:T 53):QR w' base cs v:=by
 obtain⟨vs,a,b⟩:=h;exact⟨vs,Qd a k h5,b.keeps k h1 h2 h3 h4⟩
theorem QR.keeps3{w w' base cs v}(h:QR w base cs v)(k:Qr base T3 w w'):QR w' base cs v:=
 h.keeps k (by simp[T3]) (by simp[T3]) (by simp[T3]) (by simp[T3]) (by simp[T3])
theorem QR.base{w base base' cs v}(h:QR w base cs v)(hb:base'≤base):QR w base' cs v:=by
 obtain⟨vs,a,b⟩:=h;exact⟨vs,Qj a hb,b.base hb⟩
theorem QR.slice{w base cs v}(h:QR w base cs v):∃p c,v=.slice p cs.length c:=by
 obtain⟨vs,a,_⟩:=h;exact Qa a
theorem Qas{s i0}(k:Nat):∀chs sts i bad,i≤(QP s i0 k chs sts i bad).i:=by
 induction k with
 | zero=>intro chs sts i bad;exact Qi _
 | succ k ih=>
  intro chs sts i bad;rw[QP];by_cases hb:bad<0
  ·rw[if_pos hb];by_cases h1:onF s i bad 46=true
   ·rw[if_pos h1];exact Nat.le_succ _
   rw[if_neg h1];by_cases h2:onF s i bad 62=true
   ·rw[if_pos h2];exact Qy (Nat.le_succ _) XT
   rw[if_neg h2];by_cases h3:onF s i bad 33=true
   ·rw[if_pos h3];exact Qy (Qy (Nat.le_succ _) (Qy Xl Z3)) (ih _ _ _ _)
   rw[if_neg h3];dsimp only;by_cases h4:onF s (regI s i bad) (regB s i bad) 61=true
   ·rw[if_pos h4];exact Qy (Qy (Qy Xl (Nat.le_succ _)) (Qy Ud Z3)) (ih _ _ _ _)
   rw[if_neg h4];by_cases h5:(onF s (regI s i bad) (regB s i bad) 64&&sts.isEmpty)=true
   ·rw[if_pos h5];exact Qy (Qy Xl (Qy (Qy Z3 Qcm) Z3)) (ih _ _ _ _)
   rw[if_neg h5];exact Qy Xl (Qy Z3 (Qy XT (Qy Z3 XT)))
  ·rw[if_neg hb];exact Qi _
theorem Qf4{s i0}(k:Nat):∀chs sts i bad,i≤s.size→(QP s i0 k chs sts i bad).i≤s.size:=by
 induction k with
 | zero=>intro chs sts i bad h;exact h
 | succ k ih=>
  intro chs sts i bad h;rw[QP];by_cases hb:bad<0
  ·rw[if_pos hb];by_cases h1:onF s i bad 46=true
   ·rw[if_pos h1];exact(Zf h1).2.1
   rw[if_neg h1];by_cases h2:onF s i bad 62=true
   ·rw[if_pos h2];exact Jl (Zf h2).2.1
   rw[if_neg h2];by_cases h3:onF s i bad 33=true
   ·rw[if_pos h3];exact ih _ _ _ _ (Zd (ZM (Zf h3).2.1))
   rw[if_neg h3];dsimp only;by_cases h4:onF s (regI s i bad) (regB s i bad) 61=true
   ·rw[if_pos h4];exact ih _ _ _ _ (Zd (VO (Zf h4).2.1))
   rw[if_neg h4];by_cases h5:(onF s (regI s i bad) (regB s i bad) 64&&sts.isEmpty)=true
   ·rw[if_pos h5];exact ih _ _ _ _ (Zd (Ue (ZM h)))
   rw[if_neg h5];exact Jl (Zd (Jl (Zd (ZM h))))
  ·rw[if_neg hb];exact h
theorem Qcq{s i bad}:i≤(blkF s i bad).i:=Qas _ _ _ _ _
theorem R3{s i bad}(h:i≤s.size):(blkF s i bad).i≤s.size:=Qf4 _ _ _ _ _ h
structure Par where
 bs:List Qm
 i:Nat
 bad:Int
def Xj(s:ByteArray):Nat→Par→Par
 | 0,p=>p
 | k+1,p=>
  let d:=blkF s p.i p.bad
  let q:Par:=⟨p.bs++[d.b],gotI s d.i d.bad 124,d.bad⟩
  if onF s d.i d.bad 124 then Xj s k q else q
def Wz(s:ByteArray)(a:Bool)(k:Nat)(p:Par):Par:=if a then Xj s k p else p
theorem Vi{s k p}(hk:0<k):Wz s true k p=Wz s (onF s (blkF s p.i p.bad).i (blkF s p.i p.bad).bad 124) (k-1) ⟨p.bs++[(blkF s p.i p.bad).b],gotI s (blkF s p.i p.bad).i (blkF s p.i p.bad).bad 124,(blkF s p.i p.bad).bad⟩:=by
 obtain⟨k,rfl⟩:∃j,k=j+1:=⟨k-1,by omega⟩;simp only[Wz,if_true,Xj,Nat.add_sub_cancel]
def Qu(s:ByteArray):Par:=Xj s (s.size+1) ⟨[],0,-1⟩
def Q9(s:ByteArray):Int:=if (Qu s).i<s.size then Ja (Qu s).i (Qu s).bad else (Qu s).bad
theorem QjJ:(prog.info? 53).map (fun i=>(i.zero,i.size,i.bytes))=some (some (.agg #[.slice none 0 0,.slice none 0 0,.int .u8 0,.int .i64 0,.int .i64 0,.int .i64 0,.int .i64 0,.int .i64 0,.int .i64 0,.int .i64 0]),10,112):=by kernel_rfl
theorem QcY(s:ByteArray)(w:World)(hs:s.size≤200000):
  Calls prog 22 #[.string s] w fun e w'=>∃v,e=.returned (.tuple #[v,.int .i64 (Q9 s)])∧QR w' w.heap.size (Qu s).bs v∧Fr w.heap.size w w':=by
 go_enter func22,ntmps22;go_wp2_with fail
 go_loopw [5,6] (fun l ag wr=>∃(a:Bool)(k:Nat)(p:Par),ag=.bool a∧p.i≤s.size∧(a=true→s.size<k+p.i∧p.bs.length≤p.i)∧Hid (Qu s=Wz s a k p) ∧
   QR wr (w.heap.size+1) p.bs l∧QJ wr w.heap.size s p.i p.bad∧Fr w.heap.size w wr∧w.heap.size+1≤wr.heap.size)
  (fun _ ag wr=>2*(s.size-penI wr w.heap.size)+Qai ag)
 case atStart=>
  exact⟨true,s.size+1,⟨[],0,-1⟩,rfl,by simp,fun _=>⟨by show _<_;omega,by simp⟩,rfl,⟨[],World.ownsRow_nil _ _ _ _,trivial⟩,⟨_,heap_alloc_last w _⟩,(Fr.refl _ _).alloc _,by simp⟩
 case round=>
  obtain⟨a,k,p,rfl,hpi,hab,HR,O,P,F,hz⟩:=hrel
  cases a with
  | true=>
   obtain⟨hk,hbl⟩:=hab rfl;clear hab;have HR2:=Qc (HR.o.trans (Vi (by omega)));have HPI:Hid (penI wr w.heap.size=p.i):=P.penI;have hg1:=Qcq (s:=s) (i:=p.i) (bad:=p.bad);have hg2:=R3 (bad:=p.bad) hpi;clear HR;go_wp2_with fail;refine(Qdx _ s _ _ _ P hs hpi).mono ?_;rintro e w1 ⟨vc,vs,rfl,oc,os,P1,f1⟩;replace oc:=oc.base hz;replace os:=Qj os hz;replace O:=O.keeps3 (Qr.fr f1 (by omega));replace F:=F.trans f1;have hz1:w.heap.size+1≤w1.heap.size:=Qy hz f1.size;obtain⟨pc1,cc1,rfl⟩:=oc.slice;obtain⟨ps1,cs1,rfl⟩:=Qa os;rw[show (XS (.slice pc1 (blkF s p.i p.bad).b.chs.length cc1) (.slice ps1 (blkF s p.i p.bad).b.sts.length cs1) (blkF s p.i p.bad).b.e (blkF s p.i p.bad).b.at_).toArray=#[.slice pc1 (blkF s p.i p.bad).b.chs.length cc1,.slice ps1 (blkF s p.i p.bad).b.sts.length cs1,.int .u8 (blkF s p.i p.bad).b.e.op,.int .i64 (blkF s p.i p.bad).b.e.a.1,.int .i64 (blkF s p.i p.bad).b.e.a.2,.int .i64 (blkF s p.i p.bad).b.e.one.1,.int .i64 (blkF s p.i p.bad).b.e.one.2,.int .i64 (blkF s p.i p.bad).b.e.two.1,.int .i64 (blkF s p.i p.bad).b.e.two.2,.int .i64 (blkF s p.i p.bad).b.at_] from rfl];obtain⟨pl,cl,rfl⟩:=O.slice;clear f1 P hz;go_wp2_with (at_builtin;refine QA ?_);refine Qc ?_;have W0:=heap_alloc_last (w1.alloc (.cells #[.slice pc1 (blkF s p.i p.bad).b.chs.length cc1,.slice ps1 (blkF s p.i p.bad).b.sts.length cs1,.int .u8 (blkF s p.i p.bad).b.e.op,.int .i64 (blkF s p.i p.bad).b.e.a.1,.int .i64 (blkF s p.i p.bad).b.e.a.2,.int .i64 (blkF s p.i p.bad).b.e.one.1,.int .i64 (blkF s p.i p.bad).b.e.one.2,.int .i64 (blkF s p.i p.bad).b.e.two.1,.int .i64 (blkF s p.i p.bad).b.e.two.2,.int .i64 (blkF s p.i p.bad).b.at_] 53)) (.cells #[.slice pc1 (blkF s p.i p.bad).b.chs.length cc1,.slice ps1 (blkF s p.i p.bad).b.sts.length cs1,.int .u8 (blkF s p.i p.bad).b.e.op,.int .i64 (blkF s p.i p.bad).b.e.a.1,.int .i64 (blkF s p.i p.bad).b.e.a.2,.int .i64 (blkF s p.i p.bad).b.e.one.1,.int .i64 (blkF s p.i p.bad).b.e.one.2,.int .i64 (blkF s p.i p.bad).b.e.two.1,.int .i64 (blkF s p.i p.bad).b.e.two.2,.int .i64 (blkF s p.i p.bad).b.at_] 53);have gB:((w1.alloc (.cells #[.slice pc1 (blkF s p.i p.bad).b.chs.length cc1,.slice ps1 (blkF s p.i p.bad).b.sts.length cs1,.int .u8 (blkF s p.i p.bad).b.e.op,.int .i64 (blkF s p.i p.bad).b.e.a.1,.int .i64 (blkF s p.i p.bad).b.e.a.2,.int .i64 (blkF s p.i p.bad).b.e.one.1,.int .i64 (blkF s p.i p.bad).b.e.one.2,.int .i64 (blkF s p.i p.bad).b.e.two.1,.int .i64 (blkF s p.i p.bad).b.e.two.2,.int .i64 (blkF s p.i p.bad).b.at_] 53)).alloc (.cells #[.slice pc1 (blkF s p.i p.bad).b.chs.length cc1,.slice ps1 (blkF s p.i p.bad).b.sts.length cs1,.int .u8 (blkF s p.i p.bad).b.e.op,.int .i64 (blkF s p.i p.bad).b.e.a.1,.int .i64 (blkF s p.i p.bad).b.e.a.2,.int .i64 (blkF s p.i p.bad).b.e.one.1,.int .i64 (blkF s p.i p.bad).b.e.one.2,.int .i64 (blkF s p.i p.bad).b.e.two.1,.int .i64 (blkF s p.i p.bad).b.e.two.2,.int .i64 (blkF s p.i p.bad).b.at_] 53)).heap[w1.heap.size+1]?=some (.cells #[.slice pc1 (blkF s p.i p.bad).b.chs.length cc1,.slice ps1 (blkF s p.i p.bad).b.sts.length cs1,.int .u8 (blkF s p.i p.bad).b.e.op,.int .i64 (blkF s p.i p.bad).b.e.a.1,.int .i64 (blkF s p.i p.bad).b.e.a.2,.int .i64 (blkF s p.i p.bad).b.e.one.1,.int .i64 (blkF s p.i p.bad).b.e.one.2,.int .i64 (blkF s p.i p.bad).b.e.two.1,.int .i64 (blkF s p.i p.bad).b.e.two.2,.int .i64 (blkF s p.i p.bad).b.at_] 53 (0,0)):=by simpa using W0
   clear W0;replace O:=(O.keeps3 (Qr.alloc _ _ _ (.cells #[.slice pc1 (blkF s p.i p.bad).b.chs.length cc1,.slice ps1 (blkF s p.i p.bad).b.sts.length cs1,.int .u8 (blkF s p.i p.bad).b.e.op,.int .i64 (blkF s p.i p.bad).b.e.a.1,.int .i64 (blkF s p.i p.bad).b.e.a.2,.int .i64 (blkF s p.i p.bad).b.e.one.1,.int .i64 (blkF s p.i p.bad).b.e.one.2,.int .i64 (blkF s p.i p.bad).b.e.two.1,.int .i64 (blkF s p.i p.bad).b.e.two.2,.int .i64 (blkF s p.i p.bad).b.at_] 53))).keeps3 (Qr.alloc _ _ _ (.cells #[.slice pc1 (blkF s p.i p.bad).b.chs.length cc1,.slice ps1 (blkF s p.i p.bad).b.sts.length cs1,.int .u8 (blkF s p.i p.bad).b.e.op,.int .i64 (blkF s p.i p.bad).b.e.a.1,.int .i64 (blkF s p.i p.bad).b.e.a.2,.int .i64 (blkF s p.i p.bad).b.e.one.1,.int .i64 (blkF s p.i p.bad).b.e.one.2,.int .i64 (blkF s p.i p.bad).b.e.two.1,.int .i64 (blkF s p.i p.bad).b.e.two.2,.int .i64 (blkF s p.i p.bad).b.at_] 53));replace P1:=(P1.alloc (.cells #[.slice pc1 (blkF s p.i p.bad).b.chs.length cc1,.slice ps1 (blkF s p.i p.bad).b.sts.length cs1,.int .u8 (blkF s p.i p.bad).b.e.op,.int .i64 (blkF s p.i p.bad).b.e.a.1,.int .i64 (blkF s p.i p.bad).b.e.a.2,.int .i64 (blkF s p.i p.bad).b.e.one.1,.int .i64 (blkF s p.i p.bad).b.e.one.2,.int .i64 (blkF s p.i p.bad).b.e.two.1,.int .i64 (blkF s p.i p.bad).b.e.two.2,.int .i64 (blkF s p.i p.bad).b.at_] 53)).alloc (.cells #[.slice pc1 (blkF s p.i p.bad).b.chs.length cc1,.slice ps1 (blkF s p.i p.bad).b.sts.length cs1,.int .u8 (blkF s p.i p.bad).b.e.op,.int .i64 (blkF s p.i p.bad).b.e.a.1,.int .i64 (blkF s p.i p.bad).b.e.a.2,.int .i64 (blkF s p.i p.bad).b.e.one.1,.int .i64 (blkF s p.i p.bad).b.e.one.2,.int .i64 (blkF s p.i p.bad).b.e.two.1,.int .i64 (blkF s p.i p.bad).b.e.two.2,.int .i64 (blkF s p.i p.bad).b.at_] 53);replace F:=(F.alloc (.cells #[.slice pc1 (blkF s p.i p.bad).b.chs.length cc1,.slice ps1 (blkF s p.i p.bad).b.sts.length cs1,.int .u8 (blkF s p.i p.bad).b.e.op,.int .i64 (blkF s p.i p.bad).b.e.a.1,.int .i64 (blkF s p.i p.bad).b.e.a.2,.int .i64 (blkF s p.i p.bad).b.e.one.1,.int .i64 (blkF s p.i p.bad).b.e.one.2,.int .i64 (blkF s p.i p.bad).b.e.two.1,.int .i64 (blkF s p.i p.bad).b.e.two.2,.int .i64 (blkF s p.i p.bad).b.at_] 53)).alloc (.cells #[.slice pc1 (blkF s p.i p.bad).b.chs.length cc1,.slice ps1 (blkF s p.i p.bad).b.sts.length cs1,.int .u8 (blkF s p.i p.bad).b.e.op,.int .i64 (blkF s p.i p.bad).b.e.a.1,.int .i64 (blkF s p.i p.bad).b.e.a.2,.int .i64 (blkF s p.i p.bad).b.e.one.1,.int .i64 (blkF s p.i p.bad).b.e.one.2,.int .i64 (blkF s p.i p.bad).b.e.two.1,.int .i64 (blkF s p.i p.bad).b.e.two.2,.int .i64 (blkF s p.i p.bad).b.at_] 53);replace oc:=(oc.keeps (Qr.alloc _ T2 _ (.cells #[.slice pc1 (blkF s p.i p.bad).b.chs.length cc1,.slice ps1 (blkF s p.i p.bad).b.sts.length cs1,.int .u8 (blkF s p.i p.bad).b.e.op,.int .i64 (blkF s p.i p.bad).b.e.a.1,.int .i64 (blkF s p.i p.bad).b.e.a.2,.int .i64 (blkF s p.i p.bad).b.e.one.1,.int .i64 (blkF s p.i p.bad).b.e.one.2,.int .i64 (blkF s p.i p.bad).b.e.two.1,.int .i64 (blkF s p.i p.bad).b.e.two.2,.int .i64 (blkF s p.i p.bad).b.at_] 53)) (by simp[T2]) (by simp[T2]) (by simp[T2])).keeps (Qr.alloc _ T2 _ (.cells #[.slice pc1 (blkF s p.i p.bad).b.chs.length cc1,.slice ps1 (blkF s p.i p.bad).b.sts.length cs1,.int .u8 (blkF s p.i p.bad).b.e.op,.int .i64 (blkF s p.i p.bad).b.e.a.1,.int .i64 (blkF s p.i p.bad).b.e.a.2,.int .i64 (blkF s p.i p.bad).b.e.one.1,.int .i64 (blkF s p.i p.bad).b.e.one.2,.int .i64 (blkF s p.i p.bad).b.e.two.1,.int .i64 (blkF s p.i p.bad).b.e.two.2,.int .i64 (blkF s p.i p.bad).b.at_] 53)) (by simp[T2]) (by simp[T2]) (by simp[T2]);replace os:=(os.alloc (.cells #[.slice pc1 (blkF s p.i p.bad).b.chs.length cc1,.slice ps1 (blkF s p.i p.bad).b.sts.length cs1,.int .u8 (blkF s p.i p.bad).b.e.op,.int .i64 (blkF s p.i p.bad).b.e.a.1,.int .i64 (blkF s p.i p.bad).b.e.a.2,.int .i64 (blkF s p.i p.bad).b.e.one.1,.int .i64 (blkF s p.i p.bad).b.e.one.2,.int .i64 (blkF s p.i p.bad).b.e.two.1,.int .i64 (blkF s p.i p.bad).b.e.two.2,.int .i64 (blkF s p.i p.bad).b.at_] 53)).alloc (.cells #[.slice pc1 (blkF s p.i p.bad).b.chs.length cc1,.slice ps1 (blkF s p.i p.bad).b.sts.length cs1,.int .u8 (blkF s p.i p.bad).b.e.op,.int .i64 (blkF s p.i p.bad).b.e.a.1,.int .i64 (blkF s p.i p.bad).b.e.a.2,.int .i64 (blkF s p.i p.bad).b.e.one.1,.int .i64 (blkF s p.i p.bad).b.e.one.2,.int .i64 (blkF s p.i p.bad).b.e.two.1,.int .i64 (blkF s p.i p.bad).b.e.two.2,.int .i64 (blkF s p.i p.bad).b.at_] 53);obtain⟨us,O1,hAll⟩:=O;refine J7 underlying26 QjJ rfl (by decide) (by decide) rfl _ _ rfl rfl O1 gB rfl rfl (List.all_eq_true.1 rfl) (by omega) (by simp;omega) ?_;intro v1 wS oS gS;have K:Qr (w.heap.size+1) T2 _ wS:=Qr.grown O1 gS (by simp[T2]);replace P1:=P1.grown gS (fun j hj=>by have:=(O1.lt j hj).1;omega);replace F:=F.grown gS (fun j hj=>by have:=(O1.lt j hj).1;omega);have hz2:w.heap.size+1≤wS.heap.size:=by have:=gS.size;simp at this;omega
   have OB:QR wS (w.heap.size+1) (p.bs++[(blkF s p.i p.bad).b]) v1:=by
    refine⟨us++[(.slice pc1 (blkF s p.i p.bad).b.chs.length cc1,.slice ps1 (blkF s p.i p.bad).b.sts.length cs1)],?_,?_⟩
    ·rw[R0 _ _ hAll.len,Qw];exact oS
    ·exact Z9.snoc (oc.keeps K (by simp[T2]) (by simp[T2]) (by simp[T2])) (Qd os K (by simp[T2])) (hAll.keeps K (by simp[T2]) (by simp[T2]) (by simp[T2]) (by simp[T2]))
   clear K O1 hAll gS oS gB oc os hz1;obtain⟨p5,c5,h5⟩:=OB.slice;rw[Qw,List.length_singleton]at h5;subst h5;go_wp2_with fail;refine(YO _ s _ 124 _ _ P1 hs hg2).mono ?_;rintro e w3 ⟨rfl,P3,f3⟩;go_wp2_with fail;go_roundw
   case rel=>
    refine⟨_,k-1,⟨_,_,_⟩,rfl,Zd hg2,?_,HR2,OB.keeps3 (Qr.fr f3 (by omega)),P3,F.trans f3,Qy hz2 f3.size⟩;intro ha;have h1:gotI s (blkF s p.i p.bad).i (blkF s p.i p.bad).bad 124=(blkF s p.i p.bad).i+1:=by rw[gotI];exact if_pos ha
    refine⟨?_,?_⟩
    ·show s.size<k-1+gotI s (blkF s p.i p.bad).i (blkF s p.i p.bad).bad 124;rw[h1];omega
    ·show (p.bs++[(blkF s p.i p.bad).b]).length≤gotI s (blkF s p.i p.bad).i (blkF s p.i p.bad).bad 124;rw[h1];simp;omega
   case measure=>
    rw[P3.penI,HPI.o];generalize blkF s p.i p.bad=d at *
    cases ha:onF s d.i d.bad 124 with
    | true=>
     have h3:=(Zf ha).2.1;rw[gotI,if_pos ha];simp only[Qai];omega
    | false=>
     rw[gotI,if_neg (by simp[ha])];simp only[Qai];omega
  | false=>
   have HC:Hid (Qu s=p):=HR;obtain⟨pl,cl,rfl⟩:=O.slice;have h1:=P.c1;by_cases hlt:p.i<s.size
   ·have HB:Hid (Q9 s=Ja p.i p.bad):=by show Q9 s=_;rw[Q9,HC.o,if_pos hlt]
    go_wp2_with fail;refine(VP _ s _ _ _ P).mono ?_;rintro e w1 ⟨rfl,P1,f1⟩;have h2:=P1.c2;replace O:=O.keeps3 (Qr.fr f1 (by omega));replace F:=F.trans f1
    go_wp2
    go_quiet (fail)
    go_wp2
    go_ret2
    rw[HB.o,HC.o];exact⟨_,rfl,QR.base (O.keeps3 (Qr.drewN _ _)) (by omega),F.drewN _⟩
   ·have HB:Hid (Q9 s=p.bad):=by show Q9 s=_;rw[Q9,HC.o,if_neg hlt]
    have h2:=P.c2
    go_wp2
    go_quiet (fail)
    go_wp2
    go_ret2
    rw[HB.o,HC.o];exact⟨_,rfl,QR.base (O.keeps3 (Qr.drewN _ _)) (by omega),F.drewN _⟩
def goalsF(e:Z6):List (Nat×Nat):=if e.op=62 then [e.one] else if e.op=63 then [e.one,e.two] else []
theorem Qr.below{base:Nat}{T:TypeId→Prop}{w w':World}(h:Below w.heap.size w w'):Qr base T w w':=fun g c e _ _ hh=>by
 rw[h.block g (lt_of_block hh)];exact hh
theorem Qh{base:Nat}{w w':World}(h:Below w.heap.size w w'):Qr base (fun _=>True) w w':=Qr.below h
theorem ZK(w:World)(base:Nat)(e:TypeId)(size n:Nat)(cur:Array Value)(hb:base≤w.heap.size)(hs:cur.size=n*size)(hn:n≤maxLen):
  (w.alloc (.cells cur e)).ownsRow base e size (.slice (some ⟨w.heap.size,0,none⟩) n n) n cur.toList:=
 ⟨by simpa using hs,.inr ⟨w.heap.size,n,cur,rfl,hb,heap_alloc_last w _,Nat.le_refl _,hn,hs,by rw[←hs,←Array.length_toList,List.take_length]⟩⟩
theorem Qf{w:World} {base e size n xs g cap}(h:w.ownsRow base e size (.slice (some ⟨g,0,none⟩) n cap) n xs){j:Nat}{u:Value}(hj:xs[j]?=some u):w.cell? ⟨g,j,none⟩=some u:=by
 have:=h.cells (g:=g) rfl j u hj;by_cases h0:j=0
 ·subst h0;simpa[Addr.add] using this
 ·simpa[Addr.add,h0] using this
theorem Qk{w:World} {base e size p n cap xs}(h:w.ownsRow base e size (.slice p n cap) n xs)(hn:0<n):∃g,p=some ⟨g,0,none⟩∧base≤g∧g<w.heap.size:=by
 rcases h.2 with ⟨h0,h1⟩|⟨g,cap,cur,hv,hb,hc,_⟩
 ·omega
 ·cases hv;exact⟨g,rfl,hb,lt_of_block hc⟩
theorem GP(pc:Option Addr)(mc cc:Nat)(ps:Option Addr)(ms cs:Nat)(e:Z6)(at_:Nat)(w:World):
  Calls prog 51 #[.agg #[.slice pc mc cc,.slice ps ms cs,.int .u8 e.op,.int .i64 e.a.1,.int .i64 e.a.2,.int .i64 e.one.1,.int .i64 e.one.2,.int .i64 e.two.1,.int .i64 e.two.2,.int .i64 at_]] w
   fun x w'=>∃v,x=.returned v∧w'.ownsRow w.heap.size 49 2 v (goalsF e).length (pcs (goalsF e))∧Below w.heap.size w w':=by
 by_cases h1:e.op=62
 ·have HG:Hid (goalsF e=[e.one]):=by simp[Hid,goalsF,h1]
  have h1':((e.op:Int)==62)=true:=by simp;omega
  clear h1;go_enter func51,ntmps51
  go_wp2
  go_ret;rw[HG.o];refine⟨_,rfl,?_,((Below.refl _ _).alloc (Nat.le_refl _) _).alloc (by simp) _⟩;have ON:=ZK (w.alloc (.cells #[.slice pc mc cc,.slice ps ms cs,.int .u8 e.op,.int .i64 e.a.1,.int .i64 e.a.2,.int .i64 e.one.1,.int .i64 e.one.2,.int .i64 e.two.1,.int .i64 e.two.2,.int .i64 at_] 53)) w.heap.size 49 2 1 #[.int .i64 e.one.1,.int .i64 e.one.2] (by simp) rfl (by decide);rw[Qt]at ON;exact ON
 ·by_cases h2:e.op=63
  ·have HG:Hid (goalsF e=[e.one,e.two]):=by simp[Hid,goalsF,h2]
   have h1':((e.op:Int)==62)=false:=by simp;omega
   have h2':((e.op:Int)==63)=true:=by simp;omega
   clear h1 h2;go_enter func51,ntmps51
   go_wp2
   go_ret;rw[HG.o];refine⟨_,rfl,?_,((Below.refl _ _).alloc (Nat.le_refl _) _).alloc (by simp) _⟩;have ON:=ZK (w.alloc (.cells #[.slice pc mc cc,.slice ps ms cs,.int .u8 e.op,.int .i64 e.a.1,.int .i64 e.a.2,.int .i64 e.one.1,.int .i64 e.one.2,.int .i64 e.two.1,.int .i64 e.two.2,.int .i64 at_] 53)) w.heap.size 49 2 2 #[.int .i64 e.one.1,.int .i64 e.one.2,.int .i64 e.two.1,.int .i64 e.two.2] (by simp) rfl (by decide);rw[Qt]at ON;exact ON
  ·have HG:Hid (goalsF e=[]):=by simp[Hid,goalsF,h1,h2]
   have h1':((e.op:Int)==62)=false:=by simp;omega
   have h2':((e.op:Int)==63)=false:=by simp;omega
   clear h1 h2;go_enter func51,ntmps51
   go_wp2
   go_ret;rw[HG.o];exact⟨_,rfl,Q3 _ _ _ _,(Below.refl _ _).alloc (Qi _) _⟩
def QD(l:List Nat)(n:Nat):Bool:=l.contains n
def Qe(l:List Nat):List Value:=l.map fun (n:Nat)=>Value.int .i64 n
theorem Ub(l:List Nat)(n:Nat)(base:Nat)(v:Value)(w:World)(h:w.ownsRow base 3 1 v l.length (Qe l))(hl:l.length≤1000000):
  Calls prog 31 #[v,.int .i64 n] w fun x w'=>x=.returned (.bool (QD l n))∧w'=w:=by
 obtain⟨p,c,rfl⟩:=Qa h;go_enter func31,ntmps31;go_wp2_with fail
 go_loop [5] (fun i=>∃k:Nat,k≤l.length∧i=.int .i64 k∧∀j,j<k→Hid (l[j]?≠some n)) (fun i=>l.length-(intOf i).toNat)
 case atStart=>exact⟨0,by omega,rfl,fun j h=>by omega⟩
 case round=>
  obtain⟨k,hk,rfl,HN⟩:=hrel;by_cases hlt:k<l.length
  ·obtain⟨g,rfl,_,_⟩:=Qk h (by omega);have hc:=Qf h (j:=k) (u:=.int .i64 l[k]) (by simp[Qe,hlt]);by_cases he:l[k]=n
   ·have he':((l[k]:Int)==(n:Int))=true:=by simp;omega
    have HR:Hid (QD l n=true):=by
     show l.contains n=true;rw[List.contains_iff_mem,←he];exact Qx hlt
    clear he;go_wp2_with fail;go_ret;exact⟨by rw[HR.o];rfl,rfl⟩
   ·have he':((l[k]:Int)==(n:Int))=false:=by simp;omega
    have HN2:∀j,j<k+1→Hid (l[j]?≠some n):=fun j hj=>by
     rcases Nat.lt_succ_iff_lt_or_eq.1 hj with h|rfl
     ·exact HN j h
     ·show _≠_;simp[hlt,he]
    clear he;go_wp2_with fail
    go_round
    case rel=>exact⟨k+1,by omega,by go_num,HN2⟩
    case measure=>simp[intOf];omega
  ·have HR:Hid (QD l n=false):=by
    show l.contains n=false;rw[←Bool.not_eq_true,List.contains_iff_mem];intro hm;obtain⟨j,hj,he⟩:=List.mem_iff_getElem.1 hm;exact(HN j (by omega)).out (by simp[hj,he])
   go_wp2_with fail;go_ret;exact⟨by rw[HR.o];rfl,rfl⟩
def XY(gl:List (Nat×Nat)):List Nat:=match gl with
 | []=>[]
 | [x]=>[x.1]
 | x::y::_=>if y.1=x.1 then [x.1] else [x.1,y.1]
def YC(gl:List (Nat×Nat))(k:Nat):List Nat:=XY (gl.take k)
theorem ZH(e:Z6):(goalsF e).length≤2:=by
 unfold goalsF;by_cases h1:e.op=62
 ·simp[h1]
 ·by_cases h2:e.op=63<;>simp[h1,h2]
theorem JF:(prog.info? 3).map (fun i=>(i.zero,i.size,i.bytes))=some (some (.int .i64 0),1,8):=by kernel_rfl
theorem Ga(qc:Option Addr)(mc cc:Nat)(ps:Option Addr)(ms cs:Nat)(e:Z6)(at_:Nat)(w:World):
  Calls prog 56 #[.agg #[.slice qc mc cc,.slice ps ms cs,.int .u8 e.op,.int .i64 e.a.1,.int .i64 e.a.2,.int .i64 e.one.1,.int .i64 e.one.2,.int .i64 e.two.1,.int .i64 e.two.2,.int .i64 at_]] w
   fun x w'=>∃v,x=.returned v∧w'.ownsRow w.heap.size 3 1 v (XY (goalsF e)).length (Qe (XY (goalsF e)))∧Below w.heap.size w w':=by
 have hgl:=ZH e;go_enter func56,ntmps56;go_wp2_with fail;refine(GP qc mc cc ps ms cs e at_ _).mono ?_;rintro x w1 ⟨vg,rfl,OG,f1⟩;have F:Below w.heap.size w w1:=((Below.refl _ _).alloc (Nat.le_refl _) _).trans (f1.mono (by simp));rw[Qt]at OG;have hz:w.heap.size+1≤w1.heap.size:=by simpa using f1.size
 clear f1;generalize hgl2:goalsF e=gl at *;have HGL:=Qc hgl2;clear hgl2;obtain⟨pg,cg,rfl⟩:=Qa OG;go_wp2_with fail
 go_loopw [3,5] (fun l i wr=>∃k:Nat,k≤gl.length∧i=.int .i64 k∧wr.ownsRow (w.heap.size+1) 3 1 l (YC gl k).length (Qe (YC gl k))∧wr.ownsRow (w.heap.size+1) 49 2 (.slice pg gl.length cg) gl.length (pcs gl)∧Below w.heap.size w wr∧w.heap.size+1≤wr.heap.size) (fun _ i _=>gl.length-(intOf i).toNat)
 case atStart=>exact⟨0,by omega,rfl,Q3 _ _ _ _,OG,F,hz⟩
 case round=>
  clear OG F hz;obtain⟨k,hk,rfl,OL,OG,F,hz⟩:=hrel;obtain⟨pl,cl,rfl⟩:=Qa OL;by_cases hlt:k<gl.length
  ·obtain⟨gg,rfl,hgb,hgs⟩:=Qk OG (by omega)
   match gl,k,hgl,hk,hlt with
   | [x],0,_,_,_=>
    have c0:=Qf OG (j:=0) (u:=.int .i64 x.1) (by simp[pcs,pc]);have hd:((0:Int)==0)=true:=rfl;go_wp2_with fail
    go_quiet (fail)
    go_wp2_with (at_builtin;refine QA ?_);refine Qc ?_;have gB:=heap_alloc_last (wr.drewN nq) (.cells #[.int .i64 x.1] 3);replace OL:((wr.drewN nq).alloc (.cells #[.int .i64 x.1] 3)).ownsRow _ 3 1 _ _ _:=(Qd OL (Qr.drewN (T:=fun _=>True) wr nq) trivial).alloc (.cells #[.int .i64 x.1] 3);replace OG:((wr.drewN nq).alloc (.cells #[.int .i64 x.1] 3)).ownsRow _ 49 2 _ _ _:=(Qd OG (Qr.drewN (T:=fun _=>True) wr nq) trivial).alloc (.cells #[.int .i64 x.1] 3);refine J7 underlying22 JF rfl (by decide) (by decide) rfl _ _ rfl rfl OL gB rfl rfl (List.all_eq_true.1 rfl) (by simp[YC,XY]) (by simp;omega) ?_;intro v1 wS oS gS;replace OG:=Qd OG (Qr.grown (T:=fun x=>x=49) OL gS (by simp)) rfl;replace F:=Below.grown ((below_drewN F nq).alloc (by simp;omega) (.cells #[.int .i64 x.1] 3)) gS (by simp;omega) (fun j hj=>by have:=(OL.lt j hj).1;omega);have hz2:w.heap.size+1≤wS.heap.size:=by have:=gS.size;simp at this;omega
    clear gS OL gB;obtain⟨p5,c5,rfl⟩:=Qa oS;go_wp2_with fail;go_roundw
    case rel=>exact⟨1,by simp,rfl,by simpa[YC,XY,Qe] using oS,OG⟩
    case measure=>simp[intOf]
   | [x,y],0,_,_,_=>
    have c0:=Qf OG (j:=0) (u:=.int .i64 x.1) (by simp[pcs,pc]);have hd:((0:Int)==0)=true:=rfl;go_wp2_with fail
    go_quiet (fail)
    go_wp2_with (at_builtin;refine QA ?_);refine Qc ?_;have gB:=heap_alloc_last (wr.drewN nq) (.cells #[.int .i64 x.1] 3);replace OL:((wr.drewN nq).alloc (.cells #[.int .i64 x.1] 3)).ownsRow _ 3 1 _ _ _:=(Qd OL (Qr.drewN (T:=fun _=>True) wr nq) trivial).alloc (.cells #[.int .i64 x.1] 3);replace OG:((wr.drewN nq).alloc (.cells #[.int .i64 x.1] 3)).ownsRow _ 49 2 _ _ _:=(Qd OG (Qr.drewN (T:=fun _=>True) wr nq) trivial).alloc (.cells #[.int .i64 x.1] 3);refine J7 underlying22 JF rfl (by decide) (by decide) rfl _ _ rfl rfl OL gB rfl rfl (List.all_eq_true.1 rfl) (by simp[YC,XY]) (by simp;omega) ?_;intro v1 wS oS gS;replace OG:=Qd OG (Qr.grown (T:=fun x=>x=49) OL gS (by simp)) rfl;replace F:=Below.grown ((below_drewN F nq).alloc (by simp;omega) (.cells #[.int .i64 x.1] 3)) gS (by simp;omega) (fun j hj=>by have:=(OL.lt j hj).1;omega);have hz2:w.heap.size+1≤wS.heap.size:=by have:=gS.size;simp at this;omega
    clear gS OL gB;obtain⟨p5,c5,rfl⟩:=Qa oS;go_wp2_with fail;go_roundw
    case rel=>exact⟨1,by simp,rfl,by simpa[YC,XY,Qe] using oS,OG⟩
    case measure=>simp[intOf]
   | [x,y],1,_,_,_=>
    have c0:=Qf OG (j:=0) (u:=.int .i64 x.1) (by simp[pcs,pc]);have c2:=Qf OG (j:=2) (u:=.int .i64 y.1) (by simp[pcs,pc]);by_cases hxy:y.1=x.1
    ·have hn:((y.1:Int) != (x.1:Int))=false:=by simp;omega
     have HXY:=Qc hxy;clear hxy;go_wp2_with fail
     go_quiet (fail)
     go_wp2_with fail;go_roundw
     case rel=>exact⟨2,by simp,rfl,by simpa[YC,XY,Qe,HXY.o] using (Qd OL (Qr.drewN (T:=fun _=>True) wr nq) trivial),Qd OG (Qr.drewN (T:=fun _=>True) wr nq) trivial,below_drewN F nq,hz⟩
     case measure=>simp[intOf]
    ·have hn:((y.1:Int) != (x.1:Int))=true:=by simp;omega
     go_wp2_with fail
     go_quiet (fail)
     go_wp2_with (at_builtin;refine QA ?_);refine Qc ?_;have gB:=heap_alloc_last (wr.drewN nq) (.cells #[.int .i64 y.1] 3);replace OL:((wr.drewN nq).alloc (.cells #[.int .i64 y.1] 3)).ownsRow _ 3 1 _ _ _:=(Qd OL (Qr.drewN (T:=fun _=>True) wr nq) trivial).alloc (.cells #[.int .i64 y.1] 3);replace OG:((wr.drewN nq).alloc (.cells #[.int .i64 y.1] 3)).ownsRow _ 49 2 _ _ _:=(Qd OG (Qr.drewN (T:=fun _=>True) wr nq) trivial).alloc (.cells #[.int .i64 y.1] 3);refine J7 underlying22 JF rfl (by decide) (by decide) rfl _ _ rfl rfl OL gB rfl rfl (List.all_eq_true.1 rfl) (by simp[YC,XY]) (by simp;omega) ?_;intro v1 wS oS gS;replace OG:=Qd OG (Qr.grown (T:=fun x=>x=49) OL gS (by simp)) rfl;replace F:=Below.grown ((below_drewN F nq).alloc (by simp;omega) (.cells #[.int .i64 y.1] 3)) gS (by simp;omega) (fun j hj=>by have:=(OL.lt j hj).1;omega);have hz2:w.heap.size+1≤wS.heap.size:=by have:=gS.size;simp at this;omega
     clear gS OL gB;obtain⟨p5,c5,rfl⟩:=Qa oS;go_wp2_with fail;go_roundw
     case rel=>exact⟨2,by simp,rfl,by simpa[YC,XY,Qe,hxy] using oS,OG⟩
     case measure=>simp[intOf]
  ·have hke:k=gl.length:=by omega
   subst hke;go_wp2_with fail;go_ret;have OL2:=Qj (base':=w.heap.size) OL (by omega);rw[YC,List.take_length]at OL2;rw[HGL.o];exact⟨.slice pl (XY gl).length cl,by simp[YC],OL2,F⟩
theorem Z4{α:Type}(c:Nat):∀(L:List (List α))(k j:Nat)(l:List α),(∀x∈L,x.length=c)→L[k]?=some l→j<c→L.flatten[k*c+j]?=l[j]?
 | [],k,j,l,_,h,_=>by simp at h
 | x::L,0,j,l,hc,h,hj=>by
  simp at h;subst h;have:=hc x (by simp);simp[List.getElem?_append_left (show j<x.length by omega)]
 | x::L,k+1,j,l,hc,h,hj=>by
  have hx:=hc x (by simp);rw[List.flatten_cons,List.getElem?_append_right (by rw[hx,Nat.add_mul];omega),hx,show (k+1)*c+j-c=k*c+j from by rw[Nat.add_mul];omega];exact Z4 c L k j l (fun y hy=>hc y (by simp[hy])) (by simpa using h) hj
theorem Z9.at{w base}:∀{bs vs},Z9 w base bs vs→∀{k}(hk:k<bs.length),∃v,vs[k]?=some v∧XH w base bs[k].chs v.1∧w.ownsRow base 66 8 v.2 bs[k].sts.length (bs[k].sts.flatMap ZP)
 | [],[],_,k,hk=>absurd hk (by simp)
 | c::cs,v::vs,h,0,_=>⟨v,rfl,h.1.1,h.1.2⟩
 | c::cs,v::vs,h,k+1,hk=>by
  obtain⟨u,a,b,d⟩:=Z9.at h.2 (k:=k) (by simpa using hk);exact⟨u,by simpa using a,by simpa using b,by simpa using d⟩
 | [],_::_,h,_,_=>h.elim
 | _::_,[],h,_,_=>h.elim
theorem Qbi{bs vs}{k:Nat}(hk:k<bs.length) {v}(hv:vs[k]?=some v){j:Nat}(hj:j<10):(VX bs vs)[k*10+j]?=(XS v.1 v.2 bs[k].e bs[k].at_)[j]?:=by
 refine Z4 10 _ k j _ ?_ ?_ hj
 ·intro x hx;rw[List.mem_iff_getElem?]at hx;obtain⟨n,hn⟩:=hx;rw[List.getElem?_zipWith]at hn;split at hn
  ·cases hn;rfl
  ·cases hn
 ·rw[List.getElem?_zipWith,hv,Zl hk];rfl
theorem QR.at{w:World}{base:Nat}{bs:List Qm}{p:Option Addr}{m cap:Nat}(h:QR w base bs (.slice p m cap)){k:Nat}(hk:k<bs.length):
  ∃g qc cc ps cs,p=some ⟨g,0,none⟩∧base≤g∧g<w.heap.size∧XH w base bs[k].chs (.slice qc bs[k].chs.length cc)∧w.ownsRow base 66 8 (.slice ps bs[k].sts.length cs) bs[k].sts.length (bs[k].sts.flatMap ZP) ∧
   (∀j u,(XS (.slice qc bs[k].chs.length cc) (.slice ps bs[k].sts.length cs) bs[k].e bs[k].at_)[j]?=some u→w.cell? ⟨g,k*10+j,none⟩=some u):=by
 obtain⟨vs,a,b⟩:=h;obtain⟨v,hv,hc,hs⟩:=b.at hk;obtain⟨p',c',e1⟩:=Qa a;cases e1;obtain⟨g,rfl,hb,hg⟩:=Qk a (by omega);obtain⟨qc,cc,e2⟩:=hc.slice;obtain⟨ps,cs,e3⟩:=Qa hs;refine⟨g,qc,cc,ps,cs,rfl,hb,hg,by rw[←e2];exact hc,by rw[←e3];exact hs,?_⟩;intro j u hu;refine Qf a ?_;have hj:j<10:=by
  have:j<(XS (.slice qc bs[k].chs.length cc) (.slice ps bs[k].sts.length cs) bs[k].e bs[k].at_).length:=by
   rcases Nat.lt_or_ge j (XS (.slice qc bs[k].chs.length cc) (.slice ps bs[k].sts.length cs) bs[k].e bs[k].at_).length with h|h
   ·exact h
   ·rw[ZI h]at hu;cases hu
  exact this
 rw[Qbi hk hv hj,e2,e3];exact hu
def WL(bs:List Qm)(k i:Nat):Bool:=match bs[i]? with|some b=>QD (XY (goalsF b.e)) k|none=>false
def Xc(bs:List Qm)(k m:Nat):List Nat:=(List.range m).filter (WL bs k)
def aheF(bs:List Qm)(k:Nat):List Nat:=Xc bs k bs.length
theorem Ge(bs k m):Xc bs k (m+1)=if WL bs k m then Xc bs k m++[m] else Xc bs k m:=by
 rw[Xc,List.range_succ,List.filter_append];cases h:WL bs k m<;>simp[h,Xc]
theorem YT(bs k m):(Xc bs k m).length≤m:=by
 have:=List.length_filter_le (WL bs k) (List.range m);simpa[Xc] using this
theorem QdC(bs:List Qm)(k:Nat)(base:Nat)(v:Value)(w:World)(h:QR w base bs v)(hl:bs.length≤1000000):
  Calls prog 52 #[v,.int .i64 k] w fun x w'=>∃v',x=.returned v'∧w'.ownsRow w.heap.size 3 1 v' (aheF bs k).length (Qe (aheF bs k))∧Below w.heap.size w w':=by
 obtain⟨pv,cv,rfl⟩:=h.slice;go_enter func52,ntmps52;go_wp2_with fail
 go_loopw [5,6] (fun l i wr=>∃m:Nat,m≤bs.length∧i=.int .i64 m∧wr.ownsRow w.heap.size 3 1 l (Xc bs k m).length (Qe (Xc bs k m))∧Hid (Below w.heap.size w wr)) (fun _ i _=>bs.length-(intOf i).toNat)
 case atStart=>exact⟨0,by omega,rfl,Q3 _ _ _ _,Below.refl _ _⟩
 case round=>
  obtain⟨m,hm,rfl,OL,F⟩:=hrel;obtain⟨pl,cl,rfl⟩:=Qa OL;by_cases hlt:m<bs.length
  ·have hB:=h.keeps3 (Qr.below F.o);obtain⟨g,qc,cc,ps,cs,rfl,_,_,_,_,hc⟩:=hB.at hlt;have d0:wr.cell? ⟨g,m*10,none⟩=_:=hc 0 _ rfl;have d1:=hc 1 _ rfl;have d2:=hc 2 _ rfl;have d3:=hc 3 _ rfl;have d4:=hc 4 _ rfl;have d5:=hc 5 _ rfl;have d6:=hc 6 _ rfl;have d7:=hc 7 _ rfl;have d8:=hc 8 _ rfl;have d9:=hc 9 _ rfl;clear hc hB;go_wp2_with fail;refine(Ga qc _ cc ps _ cs bs[m].e _ _).mono ?_;rintro x w1 ⟨v1,rfl,O1,f1⟩;replace OL:=Qd OL (Qh f1) trivial;have hz1:=f1.size;have hz0:=F.o.size;replace F:=Qc (F.o.trans (f1.mono hz0));replace O1:=Qj O1 hz0;clear f1 d0 d1 d2 d3 d4 d5 d6 d7 d8 d9;obtain⟨p1,c1,rfl⟩:=Qa O1;have HE:WL bs k m=QD (XY (goalsF bs[m].e)) k:=by simp[WL,hlt]
   go_wp2_with fail;have hbl:(XY (goalsF bs[m].e)).length≤1000000:=by
    have:=ZH bs[m].e;generalize goalsF bs[m].e=gl at *
    match gl,this with
    | [],_=>simp[XY]
    | [x],_=>simp[XY]
    | [x,y],_=>simp only[XY];split<;>simp
   refine(Ub _ k _ _ _ O1 hbl).mono ?_;rintro x w2 ⟨rfl,rfl⟩;rw[←HE];have HA:=Ge bs k m;have hal:=YT bs k m
   cases hh:WL bs k m with
   | true=>
    rw[hh,if_pos rfl]at HA;have HA':=Qc HA;clear HA HE hh O1 hbl;go_wp2_with (at_builtin;refine QA ?_);refine Qc ?_;have gB:=heap_alloc_last w2 (.cells #[.int .i64 m] 3);replace OL:=OL.alloc (.cells #[.int .i64 m] 3);refine J7 underlying22 JF rfl (by decide) (by decide) rfl _ _ rfl rfl OL gB rfl rfl (List.all_eq_true.1 rfl) (by omega) (by simp;omega) ?_;intro v3 wS oS gS;replace F:=Qc (Below.grown (F.o.alloc (by omega) (.cells #[.int .i64 m] 3)) gS (by simp;omega) (fun j hj=>by have:=(OL.lt j hj).1;omega));clear gS gB OL;obtain⟨p5,c5,rfl⟩:=Qa oS;go_wp2_with fail;go_roundw
    case rel=>exact⟨m+1,by omega,by go_num,by rw[HA'.o,List.length_append];simpa[Qe] using oS,F⟩
    case measure=>simp[intOf];omega
   | false=>
    rw[hh,if_neg (by simp)]at HA;have HA':=Qc HA;clear HA HE hh O1 hbl;go_wp2_with fail;go_roundw
    case rel=>exact⟨m+1,by omega,by go_num,by rw[HA'.o];exact OL,F⟩
    case measure=>simp[intOf];omega
  ·have hme:m=bs.length:=by omega
   subst hme;go_wp2_with fail;go_ret;exact⟨_,rfl,OL,F.o⟩
end Go.Proofs.YtgfhfkgdmidhpaaGreatDoor
