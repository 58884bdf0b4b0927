import Derived.Test.YtgfhfkgdmidhpaaGreatDoorC03
namespace Go.Proofs.YtgfhfkgdmidhpaaGreatDoor
open Go.RowKit
set_option maxRecDepth 100000
set_option maxHeartbeats 8000000
def ZL(w:World)(base:Nat):List Ql→List (Value×Value)→Prop
 | [],[]=>True
 | c::cs,v::vs=>(Xn w base c.chs v.1∧w.ownsRow base 66 8 v.2 c.sts.length (c.sts.flatMap Zw))∧ZL w base cs vs
 | _,_=>False
def QbB(c:Ql)(v:Value×Value):List Value:=XD v.1 v.2 c.e c.at_
def Vl(cs:List Ql)(vs:List (Value×Value)):List Value:=(List.zipWith QbB cs vs).flatten
def QK(w:World)(base:Nat)(cs:List Ql)(v:Value):Prop:=∃vs,w.ownsRow base 53 10 v cs.length (Vl cs vs)∧ZL w base cs vs
def T2(e:TypeId):Prop:=e=48∨e=49∨e=64∨e=66
def T3(e:TypeId):Prop:=e=48∨e=49∨e=64∨e=66∨e=53
theorem ZL.len{w base}:∀{cs vs},ZL w base cs vs→vs.length=cs.length
 | [],[],_=>rfl
 | _::_,_::_,h=>by simp[ZL.len h.2]
 | [],_::_,h=>h.elim
 | _::_,[],h=>h.elim
theorem ZL.keeps{w w' base}{T:TypeId→Prop}(k:Qs base T w w')(h1:T 49)(h2:T 48)(h3:T 64)(h4:T 66):∀{cs vs},ZL w base cs vs→ZL w' base cs vs
 | [],[],_=>trivial
 | _::_,_::_,h=>⟨⟨h.1.1.keeps k h1 h2 h3,Qd h.1.2 k h4⟩,ZL.keeps k h1 h2 h3 h4 h.2⟩
 | [],_::_,h=>h.elim
 | _::_,[],h=>h.elim
theorem ZL.snoc{w base c v}(h1:Xn w base c.chs v.1)(h2:w.ownsRow base 66 8 v.2 c.sts.length (c.sts.flatMap Zw)):∀{cs vs},ZL w base cs vs→ZL w base (cs++[c]) (vs++[v])
 | [],[],_=>⟨⟨h1,h2⟩,trivial⟩
 | _::_,_::_,h=>⟨h.1,ZL.snoc h1 h2 h.2⟩
 | [],_::_,h=>h.elim
 | _::_,[],h=>h.elim
theorem ZL.base{w base base'}(hb:base'≤base):∀{cs vs},ZL w base cs vs→ZL w base' cs vs
 | [],[],_=>trivial
 | _::_,_::_,h=>⟨⟨h.1.1.base hb,Qm h.1.2 hb⟩,ZL.base hb h.2⟩
 | [],_::_,h=>h.elim
 | _::_,[],h=>h.elim
theorem Rb{cs vs} (c v)(h:vs.length=cs.length):Vl (cs++[c]) (vs++[v])=Vl cs vs++QbB c v:=by
 simp[Vl,List.zipWith_append h.symm]
theorem QK.keeps{w w' base cs v}{T:TypeId→Prop}(h:QK w base cs v)(k:Qs base T w w')(h1:T 49)(h2:T 48)(h3:T 64)(h4:T 66)(h5:T 53):QK w' base cs v:=by
 obtain⟨vs,a,b⟩:=h;exact⟨vs,Qd a k h5,b.keeps k h1 h2 h3 h4⟩
theorem QK.keeps3{w w' base cs v}(h:QK w base cs v)(k:Qs base T3 w w'):QK w' base cs v:=
 h.keeps k (by simp[T3]) (by simp[T3]) (by simp[T3]) (by simp[T3]) (by simp[T3])
theorem QK.base{w base base' cs v}(h:QK w base cs v)(hb:base'≤base):QK w base' cs v:=by
 obtain⟨vs,a,b⟩:=h;exact⟨vs,Qm a hb,b.base hb⟩
theorem QK.slice{w base cs v}(h:QK w base cs v):∃p c,v=.slice p cs.length c:=by
 obtain⟨vs,a,_⟩:=h;exact Qb a
theorem NJ{s i0}(k:Nat):∀chs sts i bad,i≤(QG s i0 k chs sts i bad).i:=by
 induction k with
 | zero=>intro chs sts i bad;exact Nat.le_refl _
 | succ k ih=>
  intro chs sts i bad;rw[QG];by_cases hb:bad<0
  ·rw[if_pos hb];by_cases h1:onF s i bad 46=true
   ·rw[if_pos h1];exact Nat.le_succ _
   rw[if_neg h1];by_cases h2:onF s i bad 62=true
   ·rw[if_pos h2];exact Nat.le_trans (Nat.le_succ _) XF
   rw[if_neg h2];by_cases h3:onF s i bad 33=true
   ·rw[if_pos h3];exact Nat.le_trans (Nat.le_trans (Nat.le_succ _) (Nat.le_trans ZY ZK)) (ih _ _ _ _)
   rw[if_neg h3];dsimp only;by_cases h4:onF s (regI s i bad) (regB s i bad) 61=true
   ·rw[if_pos h4];exact Nat.le_trans (Nat.le_trans (Nat.le_trans ZY (Nat.le_succ _)) (Nat.le_trans V8 ZK)) (ih _ _ _ _)
   rw[if_neg h4];by_cases h5:(onF s (regI s i bad) (regB s i bad) 64&&sts.isEmpty)=true
   ·rw[if_pos h5];exact Nat.le_trans (Nat.le_trans ZY (Nat.le_trans (Nat.le_trans ZK Qbv) ZK)) (ih _ _ _ _)
   rw[if_neg h5];exact Nat.le_trans ZY (Nat.le_trans ZK (Nat.le_trans XF (Nat.le_trans ZK XF)))
  ·rw[if_neg hb];exact Nat.le_refl _
theorem QeP{s i0}(k:Nat):∀chs sts i bad,i≤s.size→(QG s i0 k chs sts i bad).i≤s.size:=by
 induction k with
 | zero=>intro chs sts i bad h;exact h
 | succ k ih=>
  intro chs sts i bad h;rw[QG];by_cases hb:bad<0
  ·rw[if_pos hb];by_cases h1:onF s i bad 46=true
   ·rw[if_pos h1];exact(QV h1).2.1
   rw[if_neg h1];by_cases h2:onF s i bad 62=true
   ·rw[if_pos h2];exact Je (QV h2).2.1
   rw[if_neg h2];by_cases h3:onF s i bad 33=true
   ·rw[if_pos h3];exact ih _ _ _ _ (QS (Zs (QV h3).2.1))
   rw[if_neg h3];dsimp only;by_cases h4:onF s (regI s i bad) (regB s i bad) 61=true
   ·rw[if_pos h4];exact ih _ _ _ _ (QS (Vd (QV h4).2.1))
   rw[if_neg h4];by_cases h5:(onF s (regI s i bad) (regB s i bad) 64&&sts.isEmpty)=true
   ·rw[if_pos h5];exact ih _ _ _ _ (QS (Wa (Zs h)))
   rw[if_neg h5];exact Je (QS (Je (QS (Zs h))))
  ·rw[if_neg hb];exact h
theorem Qbz{s i bad}:i≤(blkF s i bad).i:=NJ _ _ _ _ _
theorem Rc{s i bad}(h:i≤s.size):(blkF s i bad).i≤s.size:=QeP _ _ _ _ _ h
structure Par where
 bs:List Ql
 i:Nat
 bad:Int
def ZU(s:ByteArray):Nat→Par→Par
 | 0,p=>p
 | k+1,p=>
  let d:=blkF s p.i p.bad
  let q:Par:=⟨p.bs++[d.b],gotI s d.i d.bad 124,d.bad⟩
  if onF s d.i d.bad 124 then ZU s k q else q
def VT(s:ByteArray)(a:Bool)(k:Nat)(p:Par):Par:=if a then ZU s k p else p
theorem YN{s k p}(hk:0<k):VT s true k p=VT s (onF s (blkF s p.i p.bad).i (blkF s p.i p.bad).bad 124) (k-1) ⟨p.bs++[(blkF s p.i p.bad).b],gotI s (blkF s p.i p.bad).i (blkF s p.i p.bad).bad 124,(blkF s p.i p.bad).bad⟩:=by
 obtain⟨k,rfl⟩:∃j,k=j+1:=⟨k-1,by omega⟩;simp only[VT,if_true,ZU,Nat.add_sub_cancel]
def Qq(s:ByteArray):Par:=ZU s (s.size+1) ⟨[],0,-1⟩
def QR(s:ByteArray):Int:=if (Qq s).i<s.size then X0 (Qq s).i (Qq s).bad else (Qq s).bad
theorem Tryz.info53:(Tryz.prog.info? 53).map (fun i=>(i.zero,i.size,i.bytes))=some (some (.agg #[.slice none 0 0,.slice none 0 0,.int .u8 0,.int .i64 0,.int .i64 0,.int .i64 0,.int .i64 0,.int .i64 0,.int .i64 0,.int .i64 0]),10,112):=by kernel_rfl
theorem Qb5(s:ByteArray)(w:World)(hs:s.size≤200000):
  Calls Tryz.prog 22 #[.string s] w fun e w'=>∃v,e=.returned (.tuple #[v,.int .i64 (QR s)])∧QK w' w.heap.size (Qq s).bs v∧Fr w.heap.size w w':=by
 go_enter Tryz.func22,Tryz.ntmps22;go_wp2_with fail
 go_loopw [5,6] (fun l ag wr=>∃(a:Bool)(k:Nat)(p:Par),ag=.bool a∧p.i≤s.size∧(a=true→s.size<k+p.i∧p.bs.length≤p.i)∧Hid (Qq s=VT s a k p) ∧
   QK wr (w.heap.size+1) p.bs l∧QD wr w.heap.size s p.i p.bad∧Fr w.heap.size w wr∧w.heap.size+1≤wr.heap.size)
  (fun _ ag wr=>2*(s.size-penI wr w.heap.size)+Nu ag)
 case atStart=>
  exact⟨true,s.size+1,⟨[],0,-1⟩,rfl,by simp,fun _=>⟨by show _<_;omega,by simp⟩,rfl,⟨[],World.ownsRow_nil _ _ _ _,trivial⟩,⟨_,heap_alloc_last w _⟩,(Fr.refl _ _).alloc _,by simp⟩
 case round=>
  obtain⟨a,k,p,rfl,hpi,hab,HR,O,P,F,hz⟩:=hrel
  cases a with
  | true=>
   obtain⟨hk,hbl⟩:=hab rfl;clear hab;have HR2:=Qc (HR.o.trans (YN (by omega)));have HPI:Hid (penI wr w.heap.size=p.i):=P.penI;have hg1:=Qbz (s:=s) (i:=p.i) (bad:=p.bad);have hg2:=Rc (bad:=p.bad) hpi;clear HR;go_wp2_with fail;refine(Qcq _ s _ _ _ P hs hpi).mono ?_;rintro e w1 ⟨vc,vs,rfl,oc,os,P1,f1⟩;replace oc:=oc.base hz;replace os:=Qm os hz;replace O:=O.keeps3 (Qs.fr f1 (by omega));replace F:=F.trans f1;have hz1:w.heap.size+1≤w1.heap.size:=Nat.le_trans hz f1.size;obtain⟨pc1,cc1,rfl⟩:=oc.slice;obtain⟨ps1,cs1,rfl⟩:=Qb os;rw[show (XD (.slice pc1 (blkF s p.i p.bad).b.chs.length cc1) (.slice ps1 (blkF s p.i p.bad).b.sts.length cs1) (blkF s p.i p.bad).b.e (blkF s p.i p.bad).b.at_).toArray=#[.slice pc1 (blkF s p.i p.bad).b.chs.length cc1,.slice ps1 (blkF s p.i p.bad).b.sts.length cs1,.int .u8 (blkF s p.i p.bad).b.e.op,.int .i64 (blkF s p.i p.bad).b.e.a.1,.int .i64 (blkF s p.i p.bad).b.e.a.2,.int .i64 (blkF s p.i p.bad).b.e.one.1,.int .i64 (blkF s p.i p.bad).b.e.one.2,.int .i64 (blkF s p.i p.bad).b.e.two.1,.int .i64 (blkF s p.i p.bad).b.e.two.2,.int .i64 (blkF s p.i p.bad).b.at_] from rfl];obtain⟨pl,cl,rfl⟩:=O.slice;clear f1 P hz;go_wp2_with (at_builtin;refine Qv ?_);refine Qc ?_;have W0:=heap_alloc_last (w1.alloc (.cells #[.slice pc1 (blkF s p.i p.bad).b.chs.length cc1,.slice ps1 (blkF s p.i p.bad).b.sts.length cs1,.int .u8 (blkF s p.i p.bad).b.e.op,.int .i64 (blkF s p.i p.bad).b.e.a.1,.int .i64 (blkF s p.i p.bad).b.e.a.2,.int .i64 (blkF s p.i p.bad).b.e.one.1,.int .i64 (blkF s p.i p.bad).b.e.one.2,.int .i64 (blkF s p.i p.bad).b.e.two.1,.int .i64 (blkF s p.i p.bad).b.e.two.2,.int .i64 (blkF s p.i p.bad).b.at_] 53)) (.cells #[.slice pc1 (blkF s p.i p.bad).b.chs.length cc1,.slice ps1 (blkF s p.i p.bad).b.sts.length cs1,.int .u8 (blkF s p.i p.bad).b.e.op,.int .i64 (blkF s p.i p.bad).b.e.a.1,.int .i64 (blkF s p.i p.bad).b.e.a.2,.int .i64 (blkF s p.i p.bad).b.e.one.1,.int .i64 (blkF s p.i p.bad).b.e.one.2,.int .i64 (blkF s p.i p.bad).b.e.two.1,.int .i64 (blkF s p.i p.bad).b.e.two.2,.int .i64 (blkF s p.i p.bad).b.at_] 53);have gB:((w1.alloc (.cells #[.slice pc1 (blkF s p.i p.bad).b.chs.length cc1,.slice ps1 (blkF s p.i p.bad).b.sts.length cs1,.int .u8 (blkF s p.i p.bad).b.e.op,.int .i64 (blkF s p.i p.bad).b.e.a.1,.int .i64 (blkF s p.i p.bad).b.e.a.2,.int .i64 (blkF s p.i p.bad).b.e.one.1,.int .i64 (blkF s p.i p.bad).b.e.one.2,.int .i64 (blkF s p.i p.bad).b.e.two.1,.int .i64 (blkF s p.i p.bad).b.e.two.2,.int .i64 (blkF s p.i p.bad).b.at_] 53)).alloc (.cells #[.slice pc1 (blkF s p.i p.bad).b.chs.length cc1,.slice ps1 (blkF s p.i p.bad).b.sts.length cs1,.int .u8 (blkF s p.i p.bad).b.e.op,.int .i64 (blkF s p.i p.bad).b.e.a.1,.int .i64 (blkF s p.i p.bad).b.e.a.2,.int .i64 (blkF s p.i p.bad).b.e.one.1,.int .i64 (blkF s p.i p.bad).b.e.one.2,.int .i64 (blkF s p.i p.bad).b.e.two.1,.int .i64 (blkF s p.i p.bad).b.e.two.2,.int .i64 (blkF s p.i p.bad).b.at_] 53)).heap[w1.heap.size+1]?=some (.cells #[.slice pc1 (blkF s p.i p.bad).b.chs.length cc1,.slice ps1 (blkF s p.i p.bad).b.sts.length cs1,.int .u8 (blkF s p.i p.bad).b.e.op,.int .i64 (blkF s p.i p.bad).b.e.a.1,.int .i64 (blkF s p.i p.bad).b.e.a.2,.int .i64 (blkF s p.i p.bad).b.e.one.1,.int .i64 (blkF s p.i p.bad).b.e.one.2,.int .i64 (blkF s p.i p.bad).b.e.two.1,.int .i64 (blkF s p.i p.bad).b.e.two.2,.int .i64 (blkF s p.i p.bad).b.at_] 53 (0,0)):=by simpa using W0
   clear W0;replace O:=(O.keeps3 (Qs.alloc _ _ _ (.cells #[.slice pc1 (blkF s p.i p.bad).b.chs.length cc1,.slice ps1 (blkF s p.i p.bad).b.sts.length cs1,.int .u8 (blkF s p.i p.bad).b.e.op,.int .i64 (blkF s p.i p.bad).b.e.a.1,.int .i64 (blkF s p.i p.bad).b.e.a.2,.int .i64 (blkF s p.i p.bad).b.e.one.1,.int .i64 (blkF s p.i p.bad).b.e.one.2,.int .i64 (blkF s p.i p.bad).b.e.two.1,.int .i64 (blkF s p.i p.bad).b.e.two.2,.int .i64 (blkF s p.i p.bad).b.at_] 53))).keeps3 (Qs.alloc _ _ _ (.cells #[.slice pc1 (blkF s p.i p.bad).b.chs.length cc1,.slice ps1 (blkF s p.i p.bad).b.sts.length cs1,.int .u8 (blkF s p.i p.bad).b.e.op,.int .i64 (blkF s p.i p.bad).b.e.a.1,.int .i64 (blkF s p.i p.bad).b.e.a.2,.int .i64 (blkF s p.i p.bad).b.e.one.1,.int .i64 (blkF s p.i p.bad).b.e.one.2,.int .i64 (blkF s p.i p.bad).b.e.two.1,.int .i64 (blkF s p.i p.bad).b.e.two.2,.int .i64 (blkF s p.i p.bad).b.at_] 53));replace P1:=(P1.alloc (.cells #[.slice pc1 (blkF s p.i p.bad).b.chs.length cc1,.slice ps1 (blkF s p.i p.bad).b.sts.length cs1,.int .u8 (blkF s p.i p.bad).b.e.op,.int .i64 (blkF s p.i p.bad).b.e.a.1,.int .i64 (blkF s p.i p.bad).b.e.a.2,.int .i64 (blkF s p.i p.bad).b.e.one.1,.int .i64 (blkF s p.i p.bad).b.e.one.2,.int .i64 (blkF s p.i p.bad).b.e.two.1,.int .i64 (blkF s p.i p.bad).b.e.two.2,.int .i64 (blkF s p.i p.bad).b.at_] 53)).alloc (.cells #[.slice pc1 (blkF s p.i p.bad).b.chs.length cc1,.slice ps1 (blkF s p.i p.bad).b.sts.length cs1,.int .u8 (blkF s p.i p.bad).b.e.op,.int .i64 (blkF s p.i p.bad).b.e.a.1,.int .i64 (blkF s p.i p.bad).b.e.a.2,.int .i64 (blkF s p.i p.bad).b.e.one.1,.int .i64 (blkF s p.i p.bad).b.e.one.2,.int .i64 (blkF s p.i p.bad).b.e.two.1,.int .i64 (blkF s p.i p.bad).b.e.two.2,.int .i64 (blkF s p.i p.bad).b.at_] 53);replace F:=(F.alloc (.cells #[.slice pc1 (blkF s p.i p.bad).b.chs.length cc1,.slice ps1 (blkF s p.i p.bad).b.sts.length cs1,.int .u8 (blkF s p.i p.bad).b.e.op,.int .i64 (blkF s p.i p.bad).b.e.a.1,.int .i64 (blkF s p.i p.bad).b.e.a.2,.int .i64 (blkF s p.i p.bad).b.e.one.1,.int .i64 (blkF s p.i p.bad).b.e.one.2,.int .i64 (blkF s p.i p.bad).b.e.two.1,.int .i64 (blkF s p.i p.bad).b.e.two.2,.int .i64 (blkF s p.i p.bad).b.at_] 53)).alloc (.cells #[.slice pc1 (blkF s p.i p.bad).b.chs.length cc1,.slice ps1 (blkF s p.i p.bad).b.sts.length cs1,.int .u8 (blkF s p.i p.bad).b.e.op,.int .i64 (blkF s p.i p.bad).b.e.a.1,.int .i64 (blkF s p.i p.bad).b.e.a.2,.int .i64 (blkF s p.i p.bad).b.e.one.1,.int .i64 (blkF s p.i p.bad).b.e.one.2,.int .i64 (blkF s p.i p.bad).b.e.two.1,.int .i64 (blkF s p.i p.bad).b.e.two.2,.int .i64 (blkF s p.i p.bad).b.at_] 53);replace oc:=(oc.keeps (Qs.alloc _ T2 _ (.cells #[.slice pc1 (blkF s p.i p.bad).b.chs.length cc1,.slice ps1 (blkF s p.i p.bad).b.sts.length cs1,.int .u8 (blkF s p.i p.bad).b.e.op,.int .i64 (blkF s p.i p.bad).b.e.a.1,.int .i64 (blkF s p.i p.bad).b.e.a.2,.int .i64 (blkF s p.i p.bad).b.e.one.1,.int .i64 (blkF s p.i p.bad).b.e.one.2,.int .i64 (blkF s p.i p.bad).b.e.two.1,.int .i64 (blkF s p.i p.bad).b.e.two.2,.int .i64 (blkF s p.i p.bad).b.at_] 53)) (by simp[T2]) (by simp[T2]) (by simp[T2])).keeps (Qs.alloc _ T2 _ (.cells #[.slice pc1 (blkF s p.i p.bad).b.chs.length cc1,.slice ps1 (blkF s p.i p.bad).b.sts.length cs1,.int .u8 (blkF s p.i p.bad).b.e.op,.int .i64 (blkF s p.i p.bad).b.e.a.1,.int .i64 (blkF s p.i p.bad).b.e.a.2,.int .i64 (blkF s p.i p.bad).b.e.one.1,.int .i64 (blkF s p.i p.bad).b.e.one.2,.int .i64 (blkF s p.i p.bad).b.e.two.1,.int .i64 (blkF s p.i p.bad).b.e.two.2,.int .i64 (blkF s p.i p.bad).b.at_] 53)) (by simp[T2]) (by simp[T2]) (by simp[T2]);replace os:=(os.alloc (.cells #[.slice pc1 (blkF s p.i p.bad).b.chs.length cc1,.slice ps1 (blkF s p.i p.bad).b.sts.length cs1,.int .u8 (blkF s p.i p.bad).b.e.op,.int .i64 (blkF s p.i p.bad).b.e.a.1,.int .i64 (blkF s p.i p.bad).b.e.a.2,.int .i64 (blkF s p.i p.bad).b.e.one.1,.int .i64 (blkF s p.i p.bad).b.e.one.2,.int .i64 (blkF s p.i p.bad).b.e.two.1,.int .i64 (blkF s p.i p.bad).b.e.two.2,.int .i64 (blkF s p.i p.bad).b.at_] 53)).alloc (.cells #[.slice pc1 (blkF s p.i p.bad).b.chs.length cc1,.slice ps1 (blkF s p.i p.bad).b.sts.length cs1,.int .u8 (blkF s p.i p.bad).b.e.op,.int .i64 (blkF s p.i p.bad).b.e.a.1,.int .i64 (blkF s p.i p.bad).b.e.a.2,.int .i64 (blkF s p.i p.bad).b.e.one.1,.int .i64 (blkF s p.i p.bad).b.e.one.2,.int .i64 (blkF s p.i p.bad).b.e.two.1,.int .i64 (blkF s p.i p.bad).b.e.two.2,.int .i64 (blkF s p.i p.bad).b.at_] 53);obtain⟨us,O1,hAll⟩:=O;refine Kd Tryz.underlying26 Tryz.info53 rfl (by decide) (by decide) rfl _ _ rfl rfl O1 gB rfl rfl (List.all_eq_true.1 rfl) (by omega) (by simp;omega) ?_;intro v1 wS oS gS;have K:Qs (w.heap.size+1) T2 _ wS:=Qs.grown O1 gS (by simp[T2]);replace P1:=P1.grown gS (fun j hj=>by have:=(O1.lt j hj).1;omega);replace F:=F.grown gS (fun j hj=>by have:=(O1.lt j hj).1;omega);have hz2:w.heap.size+1≤wS.heap.size:=by have:=gS.size;simp at this;omega
   have OB:QK wS (w.heap.size+1) (p.bs++[(blkF s p.i p.bad).b]) v1:=by
    refine⟨us++[(.slice pc1 (blkF s p.i p.bad).b.chs.length cc1,.slice ps1 (blkF s p.i p.bad).b.sts.length cs1)],?_,?_⟩
    ·rw[Rb _ _ hAll.len,List.length_append];exact oS
    ·exact ZL.snoc (oc.keeps K (by simp[T2]) (by simp[T2]) (by simp[T2])) (Qd os K (by simp[T2])) (hAll.keeps K (by simp[T2]) (by simp[T2]) (by simp[T2]) (by simp[T2]))
   clear K O1 hAll gS oS gB oc os hz1;obtain⟨p5,c5,h5⟩:=OB.slice;rw[List.length_append,List.length_singleton]at h5;subst h5;go_wp2_with fail;refine(Yu _ s _ 124 _ _ P1 hs hg2).mono ?_;rintro e w3 ⟨rfl,P3,f3⟩;go_wp2_with fail;go_roundw
   case rel=>
    refine⟨_,k-1,⟨_,_,_⟩,rfl,QS hg2,?_,HR2,OB.keeps3 (Qs.fr f3 (by omega)),P3,F.trans f3,Nat.le_trans hz2 f3.size⟩;intro ha;have h1:gotI s (blkF s p.i p.bad).i (blkF s p.i p.bad).bad 124=(blkF s p.i p.bad).i+1:=by rw[gotI];exact if_pos ha
    refine⟨?_,?_⟩
    ·show s.size<k-1+gotI s (blkF s p.i p.bad).i (blkF s p.i p.bad).bad 124;rw[h1];omega
    ·show (p.bs++[(blkF s p.i p.bad).b]).length≤gotI s (blkF s p.i p.bad).i (blkF s p.i p.bad).bad 124;rw[h1];simp;omega
   case measure=>
    rw[P3.penI,HPI.o];generalize blkF s p.i p.bad=d at *
    cases ha:onF s d.i d.bad 124 with
    | true=>
     have h3:=(QV ha).2.1;rw[gotI,if_pos ha];simp only[Nu];omega
    | false=>
     rw[gotI,if_neg (by simp[ha])];simp only[Nu];omega
  | false=>
   have HC:Hid (Qq s=p):=HR;obtain⟨pl,cl,rfl⟩:=O.slice;have h1:=P.c1;by_cases hlt:p.i<s.size
   ·have HB:Hid (QR s=X0 p.i p.bad):=by show QR s=_;rw[QR,HC.o,if_pos hlt]
    go_wp2_with fail;refine(Ve _ s _ _ _ P).mono ?_;rintro e w1 ⟨rfl,P1,f1⟩;have h2:=P1.c2;replace O:=O.keeps3 (Qs.fr f1 (by omega));replace F:=F.trans f1
    go_wp2
    go_quiet (fail)
    go_wp2
    go_ret2
    rw[HB.o,HC.o];exact⟨_,rfl,QK.base (O.keeps3 (Qs.drewN _ _)) (by omega),F.drewN _⟩
   ·have HB:Hid (QR s=p.bad):=by show QR s=_;rw[QR,HC.o,if_neg hlt]
    have h2:=P.c2
    go_wp2
    go_quiet (fail)
    go_wp2
    go_ret2
    rw[HB.o,HC.o];exact⟨_,rfl,QK.base (O.keeps3 (Qs.drewN _ _)) (by omega),F.drewN _⟩
def goalsF(e:Z3):List (Nat×Nat):=if e.op=62 then [e.one] else if e.op=63 then [e.one,e.two] else []
theorem Qs.below{base:Nat}{T:TypeId→Prop}{w w':World}(h:Below w.heap.size w w'):Qs base T w w':=fun g c e _ _ hh=>by
 rw[h.block g (lt_of_block hh)];exact hh
theorem Qi{base:Nat}{w w':World}(h:Below w.heap.size w w'):Qs base (fun _=>True) w w':=Qs.below h
theorem ZA(w:World)(base:Nat)(e:TypeId)(size n:Nat)(cur:Array Value)(hb:base≤w.heap.size)(hs:cur.size=n*size)(hn:n≤maxLen):
  (w.alloc (.cells cur e)).ownsRow base e size (.slice (some ⟨w.heap.size,0,none⟩) n n) n cur.toList:=
 ⟨by simpa using hs,.inr ⟨w.heap.size,n,cur,rfl,hb,heap_alloc_last w _,Nat.le_refl _,hn,hs,by rw[←hs,←Array.length_toList,List.take_length]⟩⟩
theorem Qe{w:World} {base e size n xs g cap}(h:w.ownsRow base e size (.slice (some ⟨g,0,none⟩) n cap) n xs){j:Nat}{u:Value}(hj:xs[j]?=some u):w.cell? ⟨g,j,none⟩=some u:=by
 have:=h.cells (g:=g) rfl j u hj;by_cases h0:j=0
 ·subst h0;simpa[Addr.add] using this
 ·simpa[Addr.add,h0] using this
theorem Qh{w:World} {base e size p n cap xs}(h:w.ownsRow base e size (.slice p n cap) n xs)(hn:0<n):∃g,p=some ⟨g,0,none⟩∧base≤g∧g<w.heap.size:=by
 rcases h.2 with ⟨h0,h1⟩|⟨g,cap,cur,hv,hb,hc,_⟩
 ·omega
 ·cases hv;exact⟨g,rfl,hb,lt_of_block hc⟩
theorem U0(pc:Option Addr)(mc cc:Nat)(ps:Option Addr)(ms cs:Nat)(e:Z3)(at_:Nat)(w:World):
  Calls Tryz.prog 51 #[.agg #[.slice pc mc cc,.slice ps ms cs,.int .u8 e.op,.int .i64 e.a.1,.int .i64 e.a.2,.int .i64 e.one.1,.int .i64 e.one.2,.int .i64 e.two.1,.int .i64 e.two.2,.int .i64 at_]] w
   fun x w'=>∃v,x=.returned v∧w'.ownsRow w.heap.size 49 2 v (goalsF e).length (pcs (goalsF e))∧Below w.heap.size w w':=by
 by_cases h1:e.op=62
 ·have HG:Hid (goalsF e=[e.one]):=by simp[Hid,goalsF,h1]
  have h1':((e.op:Int)==62)=true:=by simp;omega
  clear h1;go_enter Tryz.func51,Tryz.ntmps51
  go_wp2
  go_ret;rw[HG.o];refine⟨_,rfl,?_,((Below.refl _ _).alloc (Nat.le_refl _) _).alloc (by simp) _⟩;have ON:=ZA (w.alloc (.cells #[.slice pc mc cc,.slice ps ms cs,.int .u8 e.op,.int .i64 e.a.1,.int .i64 e.a.2,.int .i64 e.one.1,.int .i64 e.one.2,.int .i64 e.two.1,.int .i64 e.two.2,.int .i64 at_] 53)) w.heap.size 49 2 1 #[.int .i64 e.one.1,.int .i64 e.one.2] (by simp) rfl (by decide);rw[World.size_alloc]at ON;exact ON
 ·by_cases h2:e.op=63
  ·have HG:Hid (goalsF e=[e.one,e.two]):=by simp[Hid,goalsF,h2]
   have h1':((e.op:Int)==62)=false:=by simp;omega
   have h2':((e.op:Int)==63)=true:=by simp;omega
   clear h1 h2;go_enter Tryz.func51,Tryz.ntmps51
   go_wp2
   go_ret;rw[HG.o];refine⟨_,rfl,?_,((Below.refl _ _).alloc (Nat.le_refl _) _).alloc (by simp) _⟩;have ON:=ZA (w.alloc (.cells #[.slice pc mc cc,.slice ps ms cs,.int .u8 e.op,.int .i64 e.a.1,.int .i64 e.a.2,.int .i64 e.one.1,.int .i64 e.one.2,.int .i64 e.two.1,.int .i64 e.two.2,.int .i64 at_] 53)) w.heap.size 49 2 2 #[.int .i64 e.one.1,.int .i64 e.one.2,.int .i64 e.two.1,.int .i64 e.two.2] (by simp) rfl (by decide);rw[World.size_alloc]at ON;exact ON
  ·have HG:Hid (goalsF e=[]):=by simp[Hid,goalsF,h1,h2]
   have h1':((e.op:Int)==62)=false:=by simp;omega
   have h2':((e.op:Int)==63)=false:=by simp;omega
   clear h1 h2;go_enter Tryz.func51,Tryz.ntmps51
   go_wp2
   go_ret;rw[HG.o];exact⟨_,rfl,World.ownsRow_nil _ _ _ _,(Below.refl _ _).alloc (Nat.le_refl _) _⟩
def Qt(l:List Nat)(n:Nat):Bool:=l.contains n
def Qg(l:List Nat):List Value:=l.map fun (n:Nat)=>Value.int .i64 n
theorem Yt(l:List Nat)(n:Nat)(base:Nat)(v:Value)(w:World)(h:w.ownsRow base 3 1 v l.length (Qg l))(hl:l.length≤1000000):
  Calls Tryz.prog 31 #[v,.int .i64 n] w fun x w'=>x=.returned (.bool (Qt l n))∧w'=w:=by
 obtain⟨p,c,rfl⟩:=Qb h;go_enter Tryz.func31,Tryz.ntmps31;go_wp2_with fail
 go_loop [5] (fun i=>∃k:Nat,k≤l.length∧i=.int .i64 k∧∀j,j<k→Hid (l[j]?≠some n)) (fun i=>l.length-(intOf i).toNat)
 case atStart=>exact⟨0,by omega,rfl,fun j h=>by omega⟩
 case round=>
  obtain⟨k,hk,rfl,HN⟩:=hrel;by_cases hlt:k<l.length
  ·obtain⟨g,rfl,_,_⟩:=Qh h (by omega);have hc:=Qe h (j:=k) (u:=.int .i64 l[k]) (by simp[Qg,hlt]);by_cases he:l[k]=n
   ·have he':((l[k]:Int)==(n:Int))=true:=by simp;omega
    have HR:Hid (Qt l n=true):=by
     show l.contains n=true;rw[List.contains_iff_mem,←he];exact List.getElem_mem hlt
    clear he;go_wp2_with fail;go_ret;exact⟨by rw[HR.o];rfl,rfl⟩
   ·have he':((l[k]:Int)==(n:Int))=false:=by simp;omega
    have HN2:∀j,j<k+1→Hid (l[j]?≠some n):=fun j hj=>by
     rcases Nat.lt_succ_iff_lt_or_eq.1 hj with h|rfl
     ·exact HN j h
     ·show _≠_;simp[hlt,he]
    clear he;go_wp2_with fail
    go_round
    case rel=>exact⟨k+1,by omega,by go_num,HN2⟩
    case measure=>simp[intOf];omega
  ·have HR:Hid (Qt l n=false):=by
    show l.contains n=false;rw[←Bool.not_eq_true,List.contains_iff_mem];intro hm;obtain⟨j,hj,he⟩:=List.mem_iff_getElem.1 hm;exact(HN j (by omega)).out (by simp[hj,he])
   go_wp2_with fail;go_ret;exact⟨by rw[HR.o];rfl,rfl⟩
def Xl(gl:List (Nat×Nat)):List Nat:=match gl with
 | []=>[]
 | [x]=>[x.1]
 | x::y::_=>if y.1=x.1 then [x.1] else [x.1,y.1]
def Yk(gl:List (Nat×Nat))(k:Nat):List Nat:=Xl (gl.take k)
theorem Zx(e:Z3):(goalsF e).length≤2:=by
 unfold goalsF;by_cases h1:e.op=62
 ·simp[h1]
 ·by_cases h2:e.op=63<;>simp[h1,h2]
theorem Tryz.info3:(Tryz.prog.info? 3).map (fun i=>(i.zero,i.size,i.bytes))=some (some (.int .i64 0),1,8):=by kernel_rfl
theorem Un(qc:Option Addr)(mc cc:Nat)(ps:Option Addr)(ms cs:Nat)(e:Z3)(at_:Nat)(w:World):
  Calls Tryz.prog 56 #[.agg #[.slice qc mc cc,.slice ps ms cs,.int .u8 e.op,.int .i64 e.a.1,.int .i64 e.a.2,.int .i64 e.one.1,.int .i64 e.one.2,.int .i64 e.two.1,.int .i64 e.two.2,.int .i64 at_]] w
   fun x w'=>∃v,x=.returned v∧w'.ownsRow w.heap.size 3 1 v (Xl (goalsF e)).length (Qg (Xl (goalsF e)))∧Below w.heap.size w w':=by
 have hgl:=Zx e;go_enter Tryz.func56,Tryz.ntmps56;go_wp2_with fail;refine(U0 qc mc cc ps ms cs e at_ _).mono ?_;rintro x w1 ⟨vg,rfl,OG,f1⟩;have F:Below w.heap.size w w1:=((Below.refl _ _).alloc (Nat.le_refl _) _).trans (f1.mono (by simp));rw[World.size_alloc]at OG;have hz:w.heap.size+1≤w1.heap.size:=by simpa using f1.size
 clear f1;generalize hgl2:goalsF e=gl at *;have HGL:=Qc hgl2;clear hgl2;obtain⟨pg,cg,rfl⟩:=Qb OG;go_wp2_with fail
 go_loopw [3,5] (fun l i wr=>∃k:Nat,k≤gl.length∧i=.int .i64 k∧wr.ownsRow (w.heap.size+1) 3 1 l (Yk gl k).length (Qg (Yk gl k))∧wr.ownsRow (w.heap.size+1) 49 2 (.slice pg gl.length cg) gl.length (pcs gl)∧Below w.heap.size w wr∧w.heap.size+1≤wr.heap.size) (fun _ i _=>gl.length-(intOf i).toNat)
 case atStart=>exact⟨0,by omega,rfl,World.ownsRow_nil _ _ _ _,OG,F,hz⟩
 case round=>
  clear OG F hz;obtain⟨k,hk,rfl,OL,OG,F,hz⟩:=hrel;obtain⟨pl,cl,rfl⟩:=Qb OL;by_cases hlt:k<gl.length
  ·obtain⟨gg,rfl,hgb,hgs⟩:=Qh OG (by omega)
   match gl,k,hgl,hk,hlt with
   | [x],0,_,_,_=>
    have c0:=Qe OG (j:=0) (u:=.int .i64 x.1) (by simp[pcs,pc]);have hd:((0:Int)==0)=true:=rfl;go_wp2_with fail
    go_quiet (fail)
    go_wp2_with (at_builtin;refine Qv ?_);refine Qc ?_;have gB:=heap_alloc_last (wr.drewN nq) (.cells #[.int .i64 x.1] 3);replace OL:((wr.drewN nq).alloc (.cells #[.int .i64 x.1] 3)).ownsRow _ 3 1 _ _ _:=(Qd OL (Qs.drewN (T:=fun _=>True) wr nq) trivial).alloc (.cells #[.int .i64 x.1] 3);replace OG:((wr.drewN nq).alloc (.cells #[.int .i64 x.1] 3)).ownsRow _ 49 2 _ _ _:=(Qd OG (Qs.drewN (T:=fun _=>True) wr nq) trivial).alloc (.cells #[.int .i64 x.1] 3);refine Kd Tryz.underlying22 Tryz.info3 rfl (by decide) (by decide) rfl _ _ rfl rfl OL gB rfl rfl (List.all_eq_true.1 rfl) (by simp[Yk,Xl]) (by simp;omega) ?_;intro v1 wS oS gS;replace OG:=Qd OG (Qs.grown (T:=fun x=>x=49) OL gS (by simp)) rfl;replace F:=Below.grown ((below_drewN F nq).alloc (by simp;omega) (.cells #[.int .i64 x.1] 3)) gS (by simp;omega) (fun j hj=>by have:=(OL.lt j hj).1;omega);have hz2:w.heap.size+1≤wS.heap.size:=by have:=gS.size;simp at this;omega
    clear gS OL gB;obtain⟨p5,c5,rfl⟩:=Qb oS;go_wp2_with fail;go_roundw
    case rel=>exact⟨1,by simp,rfl,by simpa[Yk,Xl,Qg] using oS,OG⟩
    case measure=>simp[intOf]
   | [x,y],0,_,_,_=>
    have c0:=Qe OG (j:=0) (u:=.int .i64 x.1) (by simp[pcs,pc]);have hd:((0:Int)==0)=true:=rfl;go_wp2_with fail
    go_quiet (fail)
    go_wp2_with (at_builtin;refine Qv ?_);refine Qc ?_;have gB:=heap_alloc_last (wr.drewN nq) (.cells #[.int .i64 x.1] 3);replace OL:((wr.drewN nq).alloc (.cells #[.int .i64 x.1] 3)).ownsRow _ 3 1 _ _ _:=(Qd OL (Qs.drewN (T:=fun _=>True) wr nq) trivial).alloc (.cells #[.int .i64 x.1] 3);replace OG:((wr.drewN nq).alloc (.cells #[.int .i64 x.1] 3)).ownsRow _ 49 2 _ _ _:=(Qd OG (Qs.drewN (T:=fun _=>True) wr nq) trivial).alloc (.cells #[.int .i64 x.1] 3);refine Kd Tryz.underlying22 Tryz.info3 rfl (by decide) (by decide) rfl _ _ rfl rfl OL gB rfl rfl (List.all_eq_true.1 rfl) (by simp[Yk,Xl]) (by simp;omega) ?_;intro v1 wS oS gS;replace OG:=Qd OG (Qs.grown (T:=fun x=>x=49) OL gS (by simp)) rfl;replace F:=Below.grown ((below_drewN F nq).alloc (by simp;omega) (.cells #[.int .i64 x.1] 3)) gS (by simp;omega) (fun j hj=>by have:=(OL.lt j hj).1;omega);have hz2:w.heap.size+1≤wS.heap.size:=by have:=gS.size;simp at this;omega
    clear gS OL gB;obtain⟨p5,c5,rfl⟩:=Qb oS;go_wp2_with fail;go_roundw
    case rel=>exact⟨1,by simp,rfl,by simpa[Yk,Xl,Qg] using oS,OG⟩
    case measure=>simp[intOf]
   | [x,y],1,_,_,_=>
    have c0:=Qe OG (j:=0) (u:=.int .i64 x.1) (by simp[pcs,pc]);have c2:=Qe OG (j:=2) (u:=.int .i64 y.1) (by simp[pcs,pc]);by_cases hxy:y.1=x.1
    ·have hn:((y.1:Int) != (x.1:Int))=false:=by simp;omega
     have HXY:=Qc hxy;clear hxy;go_wp2_with fail
     go_quiet (fail)
     go_wp2_with fail;go_roundw
     case rel=>exact⟨2,by simp,rfl,by simpa[Yk,Xl,Qg,HXY.o] using (Qd OL (Qs.drewN (T:=fun _=>True) wr nq) trivial),Qd OG (Qs.drewN (T:=fun _=>True) wr nq) trivial,below_drewN F nq,hz⟩
     case measure=>simp[intOf]
    ·have hn:((y.1:Int) != (x.1:Int))=true:=by simp;omega
     go_wp2_with fail
     go_quiet (fail)
     go_wp2_with (at_builtin;refine Qv ?_);refine Qc ?_;have gB:=heap_alloc_last (wr.drewN nq) (.cells #[.int .i64 y.1] 3);replace OL:((wr.drewN nq).alloc (.cells #[.int .i64 y.1] 3)).ownsRow _ 3 1 _ _ _:=(Qd OL (Qs.drewN (T:=fun _=>True) wr nq) trivial).alloc (.cells #[.int .i64 y.1] 3);replace OG:((wr.drewN nq).alloc (.cells #[.int .i64 y.1] 3)).ownsRow _ 49 2 _ _ _:=(Qd OG (Qs.drewN (T:=fun _=>True) wr nq) trivial).alloc (.cells #[.int .i64 y.1] 3);refine Kd Tryz.underlying22 Tryz.info3 rfl (by decide) (by decide) rfl _ _ rfl rfl OL gB rfl rfl (List.all_eq_true.1 rfl) (by simp[Yk,Xl]) (by simp;omega) ?_;intro v1 wS oS gS;replace OG:=Qd OG (Qs.grown (T:=fun x=>x=49) OL gS (by simp)) rfl;replace F:=Below.grown ((below_drewN F nq).alloc (by simp;omega) (.cells #[.int .i64 y.1] 3)) gS (by simp;omega) (fun j hj=>by have:=(OL.lt j hj).1;omega);have hz2:w.heap.size+1≤wS.heap.size:=by have:=gS.size;simp at this;omega
     clear gS OL gB;obtain⟨p5,c5,rfl⟩:=Qb oS;go_wp2_with fail;go_roundw
     case rel=>exact⟨2,by simp,rfl,by simpa[Yk,Xl,Qg,hxy] using oS,OG⟩
     case measure=>simp[intOf]
  ·have hke:k=gl.length:=by omega
   subst hke;go_wp2_with fail;go_ret;have OL2:=Qm (base':=w.heap.size) OL (by omega);rw[Yk,List.take_length]at OL2;rw[HGL.o];exact⟨.slice pl (Xl gl).length cl,by simp[Yk],OL2,F⟩
theorem ZS{α:Type}(c:Nat):∀(L:List (List α))(k j:Nat)(l:List α),(∀x∈L,x.length=c)→L[k]?=some l→j<c→L.flatten[k*c+j]?=l[j]?
 | [],k,j,l,_,h,_=>by simp at h
 | x::L,0,j,l,hc,h,hj=>by
  simp at h;subst h;have:=hc x (by simp);simp[List.getElem?_append_left (show j<x.length by omega)]
 | x::L,k+1,j,l,hc,h,hj=>by
  have hx:=hc x (by simp);rw[List.flatten_cons,List.getElem?_append_right (by rw[hx,Nat.add_mul];omega),hx,show (k+1)*c+j-c=k*c+j from by rw[Nat.add_mul];omega];exact ZS c L k j l (fun y hy=>hc y (by simp[hy])) (by simpa using h) hj
theorem ZL.at{w base}:∀{bs vs},ZL w base bs vs→∀{k}(hk:k<bs.length),∃v,vs[k]?=some v∧Xn w base bs[k].chs v.1∧w.ownsRow base 66 8 v.2 bs[k].sts.length (bs[k].sts.flatMap Zw)
 | [],[],_,k,hk=>absurd hk (by simp)
 | c::cs,v::vs,h,0,_=>⟨v,rfl,h.1.1,h.1.2⟩
 | c::cs,v::vs,h,k+1,hk=>by
  obtain⟨u,a,b,d⟩:=ZL.at h.2 (k:=k) (by simpa using hk);exact⟨u,by simpa using a,by simpa using b,by simpa using d⟩
 | [],_::_,h,_,_=>h.elim
 | _::_,[],h,_,_=>h.elim
theorem Qaw{bs vs}{k:Nat}(hk:k<bs.length) {v}(hv:vs[k]?=some v){j:Nat}(hj:j<10):(Vl bs vs)[k*10+j]?=(XD v.1 v.2 bs[k].e bs[k].at_)[j]?:=by
 refine ZS 10 _ k j _ ?_ ?_ hj
 ·intro x hx;rw[List.mem_iff_getElem?]at hx;obtain⟨n,hn⟩:=hx;rw[List.getElem?_zipWith]at hn;split at hn
  ·cases hn;rfl
  ·cases hn
 ·rw[List.getElem?_zipWith,hv,List.getElem?_eq_getElem hk];rfl
theorem QK.at{w:World}{base:Nat}{bs:List Ql}{p:Option Addr}{m cap:Nat}(h:QK w base bs (.slice p m cap)){k:Nat}(hk:k<bs.length):
  ∃g qc cc ps cs,p=some ⟨g,0,none⟩∧base≤g∧g<w.heap.size∧Xn w base bs[k].chs (.slice qc bs[k].chs.length cc)∧w.ownsRow base 66 8 (.slice ps bs[k].sts.length cs) bs[k].sts.length (bs[k].sts.flatMap Zw) ∧
   (∀j u,(XD (.slice qc bs[k].chs.length cc) (.slice ps bs[k].sts.length cs) bs[k].e bs[k].at_)[j]?=some u→w.cell? ⟨g,k*10+j,none⟩=some u):=by
 obtain⟨vs,a,b⟩:=h;obtain⟨v,hv,hc,hs⟩:=b.at hk;obtain⟨p',c',e1⟩:=Qb a;cases e1;obtain⟨g,rfl,hb,hg⟩:=Qh a (by omega);obtain⟨qc,cc,e2⟩:=hc.slice;obtain⟨ps,cs,e3⟩:=Qb hs;refine⟨g,qc,cc,ps,cs,rfl,hb,hg,by rw[←e2];exact hc,by rw[←e3];exact hs,?_⟩;intro j u hu;refine Qe a ?_;have hj:j<10:=by
  have:j<(XD (.slice qc bs[k].chs.length cc) (.slice ps bs[k].sts.length cs) bs[k].e bs[k].at_).length:=by
   rcases Nat.lt_or_ge j (XD (.slice qc bs[k].chs.length cc) (.slice ps bs[k].sts.length cs) bs[k].e bs[k].at_).length with h|h
   ·exact h
   ·rw[List.getElem?_eq_none h]at hu;cases hu
  exact this
 rw[Qaw hk hv hj,e2,e3];exact hu
def VP(bs:List Ql)(k i:Nat):Bool:=match bs[i]? with|some b=>Qt (Xl (goalsF b.e)) k|none=>false
def ZP(bs:List Ql)(k m:Nat):List Nat:=(List.range m).filter (VP bs k)
def aheF(bs:List Ql)(k:Nat):List Nat:=ZP bs k bs.length
theorem Uq(bs k m):ZP bs k (m+1)=if VP bs k m then ZP bs k m++[m] else ZP bs k m:=by
 rw[ZP,List.range_succ,List.filter_append];cases h:VP bs k m<;>simp[h,ZP]
theorem Yx(bs k m):(ZP bs k m).length≤m:=by
 have:=List.length_filter_le (VP bs k) (List.range m);simpa[ZP] using this
theorem Qcw(bs:List Ql)(k:Nat)(base:Nat)(v:Value)(w:World)(h:QK w base bs v)(hl:bs.length≤1000000):
  Calls Tryz.prog 52 #[v,.int .i64 k] w fun x w'=>∃v',x=.returned v'∧w'.ownsRow w.heap.size 3 1 v' (aheF bs k).length (Qg (aheF bs k))∧Below w.heap.size w w':=by
 obtain⟨pv,cv,rfl⟩:=h.slice;go_enter Tryz.func52,Tryz.ntmps52;go_wp2_with fail
 go_loopw [5,6] (fun l i wr=>∃m:Nat,m≤bs.length∧i=.int .i64 m∧wr.ownsRow w.heap.size 3 1 l (ZP bs k m).length (Qg (ZP bs k m))∧Hid (Below w.heap.size w wr)) (fun _ i _=>bs.length-(intOf i).toNat)
 case atStart=>exact⟨0,by omega,rfl,World.ownsRow_nil _ _ _ _,Below.refl _ _⟩
 case round=>
  obtain⟨m,hm,rfl,OL,F⟩:=hrel;obtain⟨pl,cl,rfl⟩:=Qb OL;by_cases hlt:m<bs.length
  ·have hB:=h.keeps3 (Qs.below F.o);obtain⟨g,qc,cc,ps,cs,rfl,_,_,_,_,hc⟩:=hB.at hlt;have d0:wr.cell? ⟨g,m*10,none⟩=_:=hc 0 _ rfl;have d1:=hc 1 _ rfl;have d2:=hc 2 _ rfl;have d3:=hc 3 _ rfl;have d4:=hc 4 _ rfl;have d5:=hc 5 _ rfl;have d6:=hc 6 _ rfl;have d7:=hc 7 _ rfl;have d8:=hc 8 _ rfl;have d9:=hc 9 _ rfl;clear hc hB;go_wp2_with fail;refine(Un qc _ cc ps _ cs bs[m].e _ _).mono ?_;rintro x w1 ⟨v1,rfl,O1,f1⟩;replace OL:=Qd OL (Qi f1) trivial;have hz1:=f1.size;have hz0:=F.o.size;replace F:=Qc (F.o.trans (f1.mono hz0));replace O1:=Qm O1 hz0;clear f1 d0 d1 d2 d3 d4 d5 d6 d7 d8 d9;obtain⟨p1,c1,rfl⟩:=Qb O1;have HE:VP bs k m=Qt (Xl (goalsF bs[m].e)) k:=by simp[VP,hlt]
   go_wp2_with fail;have hbl:(Xl (goalsF bs[m].e)).length≤1000000:=by
    have:=Zx bs[m].e;generalize goalsF bs[m].e=gl at *
    match gl,this with
    | [],_=>simp[Xl]
    | [x],_=>simp[Xl]
    | [x,y],_=>simp only[Xl];split<;>simp
   refine(Yt _ k _ _ _ O1 hbl).mono ?_;rintro x w2 ⟨rfl,rfl⟩;rw[←HE];have HA:=Uq bs k m;have hal:=Yx bs k m
   cases hh:VP bs k m with
   | true=>
    rw[hh,if_pos rfl]at HA;have HA':=Qc HA;clear HA HE hh O1 hbl;go_wp2_with (at_builtin;refine Qv ?_);refine Qc ?_;have gB:=heap_alloc_last w2 (.cells #[.int .i64 m] 3);replace OL:=OL.alloc (.cells #[.int .i64 m] 3);refine Kd Tryz.underlying22 Tryz.info3 rfl (by decide) (by decide) rfl _ _ rfl rfl OL gB rfl rfl (List.all_eq_true.1 rfl) (by omega) (by simp;omega) ?_;intro v3 wS oS gS;replace F:=Qc (Below.grown (F.o.alloc (by omega) (.cells #[.int .i64 m] 3)) gS (by simp;omega) (fun j hj=>by have:=(OL.lt j hj).1;omega));clear gS gB OL;obtain⟨p5,c5,rfl⟩:=Qb oS;go_wp2_with fail;go_roundw
    case rel=>exact⟨m+1,by omega,by go_num,by rw[HA'.o,List.length_append];simpa[Qg] using oS,F⟩
    case measure=>simp[intOf];omega
   | false=>
    rw[hh,if_neg (by simp)]at HA;have HA':=Qc HA;clear HA HE hh O1 hbl;go_wp2_with fail;go_roundw
    case rel=>exact⟨m+1,by omega,by go_num,by rw[HA'.o];exact OL,F⟩
    case measure=>simp[intOf];omega
  ·have hme:m=bs.length:=by omega
   subst hme;go_wp2_with fail;go_ret;exact⟨_,rfl,OL,F.o⟩
section find
variable {α β:Type}
theorem Xk{P:α→Bool}{l:List α}{j:Nat}(hj:j<l.length)(h:(l.take j).find? P=none)(hn:P l[j]=false):(l.take (j+1)).find? P=none:=by
 rw[List.take_succ_eq_append_getElem hj,List.find?_append,h];simp[hn]
theorem XB{P:α→Bool}{l:List α}{j:Nat}(hj:j<l.length)(h:(l.take j).find? P=none)(hn:P l[j]=true):l.find? P=some l[j]:=by
 conv=>lhs;rw[←List.take_append_drop j l]
 rw[List.find?_append,h,List.drop_eq_getElem_cons hj,List.find?_cons_of_pos hn];rfl
theorem XZ{P:β→Bool}{f:α→List β}{l:List α}{k:Nat}(hk:k<l.length)(h:((l.take k).flatMap f).find? P=none)(hn:(f l[k]).find? P=none):((l.take (k+1)).flatMap f).find? P=none:=by
 rw[List.take_succ_eq_append_getElem hk,List.flatMap_append,List.find?_append,h];simpa using hn
theorem XA{P:β→Bool}{f:α→List β}{l:List α}{k:Nat}{g:β}(hk:k<l.length)(h:((l.take k).flatMap f).find? P=none)(hn:(f l[k]).find? P=some g):(l.flatMap f).find? P=some g:=by
 conv=>lhs;rw[←List.take_append_drop k l]
 rw[List.flatMap_append,List.find?_append,h,List.drop_eq_getElem_cons hk,List.flatMap_cons,List.find?_append,hn];rfl
theorem Yl{P:α→Bool}{a b:List α}(h:a.find? P=none)(hb:b.find? P=none):(a++b).find? P=none:=by rw[List.find?_append,h,hb];rfl
theorem Wb{P:α→Bool}{a b:List α}{g:α}(h:a.find? P=none)(hb:b.find? P=some g):(a++b).find? P=some g:=by rw[List.find?_append,h,hb];rfl
theorem Uo{P:α→Bool}{a b:List α}{g:α}(h:a.find? P=some g):(a++b).find? P=some g:=by rw[List.find?_append,h];rfl
end find
def chG(b:Ql):List (Nat×Nat):=b.chs.flatMap (·.gs)
def Kf(b:Ql):List (Nat×Nat):=chG b++goalsF b.e
def Xd(n:Nat)(g:Nat×Nat):Bool:=decide (n≤g.1)
def QiR(o:Option (Nat×Nat)):Int:=match o with|some g=>g.2|none=>-1
def ZR(bs:List Ql):Int:=QiR ((bs.flatMap Kf).find? (Xd bs.length))
theorem Qdn(l:List (Nat×Nat)):pcs l=(l.map pc).flatten:=by rw[pcs,List.flatMap_def]
theorem QX{l:List (Nat×Nat)}{j:Nat}(hj:j<l.length):(pcs l)[j*2]?=some (.int .i64 l[j].1)∧(pcs l)[j*2+1]?=some (.int .i64 l[j].2):=by
 have h:∀x∈l.map pc,x.length=2:=by intro x hx;simp at hx;obtain⟨a,b,_,rfl⟩:=hx;rfl
 have hk:(l.map pc)[j]?=some (pc l[j]):=by simp[hj]
 rw[Qdn];exact⟨ZS 2 _ j 0 _ h hk (by omega),ZS 2 _ j 1 _ h hk (by omega)⟩
theorem X8.at{w base}:∀{cs vs},X8 w base cs vs→∀{k}(hk:k<cs.length),∃v,vs[k]?=some v∧w.ownsRow base 49 2 v.1 cs[k].gs.length (pcs cs[k].gs)∧w.ownsRow base 48 2 v.2 cs[k].rs.length (pcs cs[k].rs)
 | [],[],_,k,hk=>absurd hk (by simp)
 | c::cs,v::vs,h,0,_=>⟨v,rfl,h.1.1,h.1.2⟩
 | c::cs,v::vs,h,k+1,hk=>by
  obtain⟨u,a,b,d⟩:=X8.at h.2 (k:=k) (by simpa using hk);exact⟨u,by simpa using a,by simpa using b,by simpa using d⟩
 | [],_::_,h,_,_=>h.elim
 | _::_,[],h,_,_=>h.elim
theorem Xn.at{w:World}{base:Nat}{cs:List QH}{p:Option Addr}{m cap:Nat}(h:Xn w base cs (.slice p m cap)){k:Nat}(hk:k<cs.length):
  ∃g pf cf pr cr,p=some ⟨g,0,none⟩∧base≤g∧g<w.heap.size∧w.ownsRow base 49 2 (.slice pf cs[k].gs.length cf) cs[k].gs.length (pcs cs[k].gs)∧w.ownsRow base 48 2 (.slice pr cs[k].rs.length cr) cs[k].rs.length (pcs cs[k].rs) ∧
   w.cell? ⟨g,k*4,none⟩=some (.int .i64 cs[k].to.1)∧w.cell? ⟨g,k*4+1,none⟩=some (.int .i64 cs[k].to.2)∧w.cell? ⟨g,k*4+2,none⟩=some (.slice pf cs[k].gs.length cf)∧w.cell? ⟨g,k*4+3,none⟩=some (.slice pr cs[k].rs.length cr):=by
 obtain⟨vs,a,b⟩:=h;obtain⟨v,hv,hc,hs⟩:=b.at hk;obtain⟨p',c',e1⟩:=Qb a;cases e1;obtain⟨g,rfl,hb,hg⟩:=Qh a (by omega);obtain⟨pf,cf,e2⟩:=Qb hc;obtain⟨pr,cr,e3⟩:=Qb hs;have hl:∀x∈List.zipWith VH cs vs,x.length=4:=by
  intro x hx;rw[List.mem_iff_getElem?]at hx;obtain⟨n,hn⟩:=hx;rw[List.getElem?_zipWith]at hn;split at hn
  ·cases hn;rfl
  ·cases hn
 have hk2:(List.zipWith VH cs vs)[k]?=some (VH cs[k] v):=by rw[List.getElem?_zipWith,hv,List.getElem?_eq_getElem hk]
 have F:=fun j hj=>ZS 4 _ k j _ hl hk2 hj;refine⟨g,pf,cf,pr,cr,rfl,hb,hg,by rw[←e2];exact hc,by rw[←e3];exact hs,?_,?_,?_,?_⟩
 ·exact Qe a (F 0 (by omega))
 ·exact Qe a (F 1 (by omega))
 ·rw[←e2];exact Qe a (F 2 (by omega))
 ·rw[←e3];exact Qe a (F 3 (by omega))
theorem QdP(bs:List Ql)(base:Nat)(v:Value)(w:World)(h:QK w base bs v)(hl:bs.length≤1000000)(hc1:∀b∈bs,b.chs.length≤1000000)(hc2:∀b∈bs,∀c∈b.chs,c.gs.length≤1000000):
  Calls Tryz.prog 23 #[v] w fun x w'=>x=.returned (.int .i64 (ZR bs))∧Below w.heap.size w w':=by
 obtain⟨pv,cv,rfl⟩:=h.slice;go_enter Tryz.func23,Tryz.ntmps23;go_wp2_with fail
 go_loopw [3] (fun i wr=>∃m:Nat,m≤bs.length∧i=.int .i64 m∧Hid (((bs.take m).flatMap Kf).find? (Xd bs.length)=none)∧Hid (Below w.heap.size w wr)) (fun i _=>bs.length-(intOf i).toNat)
 case atStart=>exact⟨0,by omega,rfl,by simp[Hid],Below.refl _ _⟩
 case round=>
  obtain⟨m,hm,rfl,H1,F⟩:=hrel;by_cases hlt:m<bs.length
  ·have hB:=h.keeps3 (Qs.below F.o);obtain⟨g,qc,cc,ps,cs,rfl,_,_,OC,_,hc⟩:=hB.at hlt;have d0:wr.cell? ⟨g,m*10,none⟩=_:=hc 0 _ rfl;have d1:=hc 1 _ rfl;have d2:=hc 2 _ rfl;have d3:=hc 3 _ rfl;have d4:=hc 4 _ rfl;have d5:=hc 5 _ rfl;have d6:=hc 6 _ rfl;have d7:=hc 7 _ rfl;have d8:=hc 8 _ rfl;have d9:=hc 9 _ rfl;have L1:=hc1 _ (List.getElem_mem hlt);have L2:=hc2 _ (List.getElem_mem hlt);clear hc hB;go_wp2_with fail
   go_loop [4] (fun k=>∃q:Nat,q≤bs[m].chs.length∧k=.int .i64 q∧Hid (((bs[m].chs.take q).flatMap (·.gs)).find? (Xd bs.length)=none)) (fun k=>bs[m].chs.length-(intOf k).toNat)
   case atStart=>exact⟨0,by omega,rfl,by simp[Hid]⟩
   case round=>
    obtain⟨q,hq,rfl,H2⟩:=hrel;by_cases hql:q<bs[m].chs.length
    ·obtain⟨gc,pf,cf,pr,cr,rfl,_,_,OF,_,_,_,e2,_⟩:=OC.at hql;have L3:=L2 _ (List.getElem_mem hql);go_wp2_with fail
     go_loop [6] (fun j=>∃t:Nat,t≤bs[m].chs[q].gs.length∧j=.int .i64 t∧Hid ((bs[m].chs[q].gs.take t).find? (Xd bs.length)=none)) (fun j=>bs[m].chs[q].gs.length-(intOf j).toNat)
     case atStart=>exact⟨0,by omega,rfl,by simp[Hid]⟩
     case round=>
      obtain⟨t,ht,rfl,H3⟩:=hrel;by_cases htl:t<bs[m].chs[q].gs.length
      ·obtain⟨gf,rfl,_,_⟩:=Qh OF (by omega);have f0:=Qe OF (QX htl).1;have f1:=Qe OF (QX htl).2;by_cases hst:bs.length≤bs[m].chs[q].gs[t].1
       ·have HP:Hid (ZR bs=bs[m].chs[q].gs[t].2):=by
         show ZR bs=_;rw[ZR,XA hlt H1.o (Uo (XA hql H2.o (XB htl H3.o (by simpa[Xd] using hst))))];rfl
        go_wp2_with fail;go_ret;exact⟨by rw[HP.o];rfl,F.o⟩
       ·have H3':=Qc (Xk htl H3.o (by simpa[Xd] using hst));go_wp2_with fail
        go_round
        case rel=>exact⟨t+1,by omega,by go_num,H3'⟩
        case measure=>simp[intOf];omega
      ·have H2':Hid (((bs[m].chs.take (q+1)).flatMap (·.gs)).find? (Xd bs.length)=none):=XZ hql H2.o (by have:=H3.o;rwa [List.take_of_length_le (by omega)]at this);go_wp2_with fail
       go_round
       case rel=>exact⟨q+1,by omega,by go_num,H2'⟩
       case measure=>simp[intOf];omega
    ·have HC:Hid ((chG bs[m]).find? (Xd bs.length)=none):=by
      have:=H2.o
      rwa [List.take_of_length_le (by omega)]at this
     clear H2;go_wp2_with fail;refine(U0 qc _ cc ps _ cs bs[m].e _ _).mono ?_;rintro x w1 ⟨vg,rfl,OG,f1⟩;have hz0:=F.o.size;have F2:=Qc (F.o.trans (f1.mono hz0));have hgl:=Zx bs[m].e;obtain⟨pg,cg,rfl⟩:=Qb OG;clear d0 d1 d2 d3 d4 d5 d6 d7 d8 d9 f1;go_wp2_with fail
     go_loop [8] (fun j=>∃t:Nat,t≤(goalsF bs[m].e).length∧j=.int .i64 t∧Hid (((goalsF bs[m].e).take t).find? (Xd bs.length)=none)) (fun j=>(goalsF bs[m].e).length-(intOf j).toNat)
     case atStart=>exact⟨0,by omega,rfl,by simp[Hid]⟩
     case round=>
      obtain⟨t,ht,rfl,H3⟩:=hrel;by_cases htl:t<(goalsF bs[m].e).length
      ·obtain⟨gf,rfl,_,_⟩:=Qh OG (by omega);have f0:=Qe OG (QX htl).1;have f1:=Qe OG (QX htl).2;by_cases hst:bs.length≤(goalsF bs[m].e)[t].1
       ·have HP:Hid (ZR bs=(goalsF bs[m].e)[t].2):=by
         show ZR bs=_;rw[ZR,XA hlt H1.o (Wb HC.o (XB htl H3.o (by simpa[Xd] using hst)))];rfl
        go_wp2_with fail;go_ret;exact⟨by rw[HP.o];rfl,F2.o⟩
       ·have H3':=Qc (Xk htl H3.o (by simpa[Xd] using hst));go_wp2_with fail
        go_round
        case rel=>exact⟨t+1,by omega,by go_num,H3'⟩
        case measure=>simp[intOf];omega
      ·have H1':Hid (((bs.take (m+1)).flatMap Kf).find? (Xd bs.length)=none):=XZ hlt H1.o (Yl HC.o (by have:=H3.o;rwa [List.take_of_length_le (by omega)]at this));go_wp2_with fail;go_roundw
       case rel=>exact⟨m+1,by omega,by go_num,H1',F2⟩
       case measure=>simp[intOf];omega
  ·have HP:Hid (ZR bs=-1):=by
    show ZR bs=_;have:=H1.o;rw[List.take_of_length_le (by omega)]at this;rw[ZR,this];rfl
   go_wp2_with fail;go_ret;exact⟨by rw[HP.o];rfl,F.o⟩
end Go.Proofs.YtgfhfkgdmidhpaaGreatDoor
