import Derived.Test.YtgfhfkgdmidhpaaGreatDoorM09
import Derived.Recover
import Derived.RegionTactic
import Derived.Laws.Pointers
import Derived.Deep.AppendSrc
namespace Go.Proofs.YtgfhfkgdmidhpaaGreatDoor
open Go.RowKit
open Tryz
set_option maxRecDepth 100000
set_option maxHeartbeats 8000000
def Zq(w:World)(base:Nat):List Qm→List (Value×Value)→Prop
 | [],[]=>True
 | c::cs,v::vs=>((c.e.op=46∨c.e.op=62∨c.e.op=63)∧YY w base c v.1 v.2)∧Zq w base cs vs
 | _,_=>False
def XL(cs:List Qm)(vs:List (Value×Value)):List Value:=(List.zipWith (fun c v=>Zv c v.1 v.2) cs vs).flatten
def PBs(w:World)(base:Nat)(cs:List Qm)(v:Value):Prop:=∃vs,w.ownsRow base 104 4 v cs.length (XL cs vs)∧Zq w base cs vs
def T6(e:TypeId):Prop:=e=147∨e=140∨e=150
def T7(e:TypeId):Prop:=e=147∨e=140∨e=150∨e=104
theorem YY.keeps{w w' base r vc vs}{T:TypeId→Prop}(h:YY w base r vc vs)(k:Qr base T w w')(h1:T 147)(h2:T 140)(h3:T 150):YY w' base r vc vs:=
 ⟨h.1.keeps k h1 h2,Qd h.2 k h3⟩
theorem YY.base{w base base' r vc vs}(h:YY w base r vc vs)(hb:base'≤base):YY w base' r vc vs:=⟨h.1.base hb,Qj h.2 hb⟩
theorem Zq.len{w base}:∀{cs vs},Zq w base cs vs→vs.length=cs.length
 | [],[],_=>rfl
 | _::_,_::_,h=>by simp[Zq.len h.2]
 | [],_::_,h=>h.elim
 | _::_,[],h=>h.elim
theorem Zq.keeps{w w' base}{T:TypeId→Prop}(k:Qr base T w w')(h1:T 147)(h2:T 140)(h3:T 150):∀{cs vs},Zq w base cs vs→Zq w' base cs vs
 | [],[],_=>trivial
 | _::_,_::_,h=>⟨⟨h.1.1,h.1.2.keeps k h1 h2 h3⟩,Zq.keeps k h1 h2 h3 h.2⟩
 | [],_::_,h=>h.elim
 | _::_,[],h=>h.elim
theorem Zq.base{w base base'}(hb:base'≤base):∀{cs vs},Zq w base cs vs→Zq w base' cs vs
 | [],[],_=>trivial
 | _::_,_::_,h=>⟨⟨h.1.1,h.1.2.base hb⟩,Zq.base hb h.2⟩
 | [],_::_,h=>h.elim
 | _::_,[],h=>h.elim
theorem Zq.snoc{w base}{c:Qm}{v:Value×Value}(h1:c.e.op=46∨c.e.op=62∨c.e.op=63)(h2:YY w base c v.1 v.2):∀{cs vs},Zq w base cs vs→Zq w base (cs++[c]) (vs++[v])
 | [],[],_=>⟨⟨h1,h2⟩,trivial⟩
 | _::_,_::_,h=>⟨h.1,Zq.snoc h1 h2 h.2⟩
 | [],_::_,h=>h.elim
 | _::_,[],h=>h.elim
theorem Yr{cs:List Qm}{vs:List (Value×Value)} (c v)(h:vs.length=cs.length):XL (cs++[c]) (vs++[v])=XL cs vs++Zv c v.1 v.2:=by
 simp[XL,List.zipWith_append h.symm]
theorem PBs.keeps{w w' base cs v}(h:PBs w base cs v)(k:Qr base T7 w w'):PBs w' base cs v:=by
 obtain⟨vs,a,b⟩:=h;exact⟨vs,Qd a k (by simp[T7]),b.keeps k (by simp[T7]) (by simp[T7]) (by simp[T7])⟩
theorem PBs.base{w base base' cs v}(h:PBs w base cs v)(hb:base'≤base):PBs w base' cs v:=by
 obtain⟨vs,a,b⟩:=h;exact⟨vs,Qj a hb,b.base hb⟩
theorem PBs.slice{w base cs v}(h:PBs w base cs v):∃p c,v=.slice p cs.length c:=by
 obtain⟨vs,a,_⟩:=h;exact Qa a
theorem Qb6:(prog.info? 104).map (fun i=>(i.zero,i.size,i.bytes))=some (some (.agg #[.int .i64 0,.slice none 0 0,.slice none 0 0,.nilIface]),4,72):=by kernel_rfl
def Qkd(b:Nat)(s:ByteArray)(w:World)(e:Ending)(w':World):Prop:=
 (∃v,e=.returned v∧Q9 s<0∧PBs w' w.heap.size (Qu s).bs v∧Fr b w w')∨(e=.panicked (brk (Q9 s))∧0≤Q9 s∧Fr b w w')
theorem Rr{s a k p}(h:Qu s=Wz s true k p)(hk:0<k)(ha:onF s (blkF s p.i p.bad).i (blkF s p.i p.bad).bad 124=a)(hf:a=false):Qu s=⟨p.bs++[(blkF s p.i p.bad).b],(blkF s p.i p.bad).i,(blkF s p.i p.bad).bad⟩:=by
 rw[h,Vi hk,ha,hf,Wz,if_neg (by simp),gotI,ha,hf,if_neg (by simp)]
theorem NF{b g:Nat}{s:ByteArray}{w:World}(hp:RS w b g s 0)(hs:s.size≤200000):
  Calls prog 113 #[.pointer (some ⟨b,0,none⟩)] w fun e w'=>Qkd b s w e w':=by
 have hb:=hp.lt;have hg:=hp.glt;go_enter func113,ntmps113;go_wp2_with fail
 go_loopw [3] (fun l wr=>∃(k:Nat)(p:Par),s.size<k+p.i∧p.i≤s.size∧p.bs.length≤p.i∧Hid (p.bad=-1)∧Hid (Qu s=Wz s true k p)∧PBs wr w.heap.size p.bs l∧RS wr b g s p.i∧Hid (Fr b w wr)∧w.heap.size≤wr.heap.size) (fun _ wr=>s.size-rdI wr b)
 case atStart=>exact⟨s.size+1,⟨[],0,-1⟩,by show _<_;omega,by simp,by simp,rfl,rfl,⟨[],World.ownsRow_nil _ _ _ _,trivial⟩,hp,Fr.refl _ _,Nat.le_refl _⟩
 case round=>
  obtain⟨k,p,hk,hpi,hpl,HPB,HR,O,P,F,hz⟩:=hrel;have HRI:Hid (rdI wr b=p.i):=P.rdI;have HK:Hid (0<k):=by show 0<k;omega
  obtain⟨pl,cl,rfl⟩:=O.slice;clear hp;go_wp2_with fail;refine(Qbg P hs).mono ?_;have HD:Hid (blkF s p.i p.bad=blkF s p.i (-1)):=by show _=_;rw[HPB.o]
  have hge:=Qcq (s:=s) (i:=p.i) (bad:=-1);have hle:=R3 (bad:=-1) hpi;generalize hd:blkF s p.i (-1)=d at *;clear hd;rintro e w1 (⟨vc,vs,rfl,hbad,hop,OB,P1,f1⟩|⟨rfl,hbad,f1⟩)
  ·have HB:=Qc hbad;have HOP:=Qc hop;clear hbad hop;replace OB:=OB.base hz;replace O:=O.keeps (Qr.fr f1 (by omega));replace F:=Qc (F.o.trans f1);have hz1:=Qy hz f1.size;obtain⟨pc1,cc1,rfl⟩:=OB.1.slice;obtain⟨ps1,cs1,rfl⟩:=Qa OB.2;obtain⟨T,x,hev⟩:=QQ d.b.e;have HEV:=Qc hev;rw[show (Zv d.b (.slice pc1 d.b.chs.length cc1) (.slice ps1 d.b.sts.length cs1)).toArray=#[.int .i64 d.b.at_,.slice pc1 d.b.chs.length cc1,.slice ps1 d.b.sts.length cs1,.iface T x] from by rw[Zv,hev]];clear hev f1 P hz;go_wp2_with (at_builtin;refine QA ?_);refine Qc ?_;have gB:=heap_alloc_last w1 (.cells #[.int .i64 d.b.at_,.slice pc1 d.b.chs.length cc1,.slice ps1 d.b.sts.length cs1,.iface T x] 104);replace O:=O.keeps (Qr.alloc _ _ _ (.cells #[.int .i64 d.b.at_,.slice pc1 d.b.chs.length cc1,.slice ps1 d.b.sts.length cs1,.iface T x] 104));replace OB:=OB.keeps (Qr.alloc _ T6 _ (.cells #[.int .i64 d.b.at_,.slice pc1 d.b.chs.length cc1,.slice ps1 d.b.sts.length cs1,.iface T x] 104)) (by simp[T6]) (by simp[T6]) (by simp[T6]);replace P1:=P1.alloc (.cells #[.int .i64 d.b.at_,.slice pc1 d.b.chs.length cc1,.slice ps1 d.b.sts.length cs1,.iface T x] 104);replace F:=Qc (F.o.alloc (.cells #[.int .i64 d.b.at_,.slice pc1 d.b.chs.length cc1,.slice ps1 d.b.sts.length cs1,.iface T x] 104));obtain⟨us,O1,hAll⟩:=O;refine J7 underlying38 Qb6 rfl (by decide) (by decide) rfl _ _ rfl rfl O1 gB rfl rfl (Xi.1 rfl) (by omega) (by rw[Qt];omega) ?_;intro v3 wS oS gS;have K:Qr w.heap.size T6 _ wS:=Qr.grown O1 gS (by simp[T6]);have O3:PBs wS w.heap.size (p.bs++[d.b]) v3:=by
    refine⟨us++[(.slice pc1 d.b.chs.length cc1,.slice ps1 d.b.sts.length cs1)],?_,?_⟩
    ·rw[Yr _ _ hAll.len,Qw,Zv,HEV.o];exact oS
    ·exact Zq.snoc HOP.o (OB.keeps K (by simp[T6]) (by simp[T6]) (by simp[T6])) (hAll.keeps K (by simp[T6]) (by simp[T6]) (by simp[T6]))
   have P3:=P1.grown gS (fun j hj=>by have:=(O1.lt j hj).1;constructor<;>omega);have F3:=Qc (F.o.grown gS (fun j hj=>by have:=(O1.lt j hj).1;omega));have hz3:w.heap.size≤wS.heap.size:=by have:=gS.size;rw[Qt]at this;omega
   obtain⟨p5,c5,h5⟩:=O3.slice;rw[Qw,List.length_singleton]at h5;subst h5;clear K O1 hAll gS oS gB OB P1 F hz1;go_wp2_with fail;refine(XI P3).mono ?_;rintro e w4 ⟨y,rfl,hy,P4,f4⟩;replace O3:=O3.keeps (Qr.fr f4 (by omega));replace F3:=Qc (F3.o.trans f4);have hz4:=Qy hz3 f4.size;have hfin:=hy.fin;clear f4 P3 hz3 hy;by_cases hend:d.i=s.size
   ·have hy1:(y==-1)=true:=by simp[hfin.2 hend]
    have HP:Hid (Qu s=⟨p.bs++[d.b],d.i,d.bad⟩):=by
     have:=Rr HR.o HK.o rfl (by rw[HD.o,←Bool.not_eq_true];intro e;have:=(Zf e).2.1;omega)
     rwa [HD.o]at this
    have HPB2:Hid (Q9 s=-1):=by show _=_;rw[Q9,HP.o,if_neg (by show ¬d.i<s.size;omega)];exact HB.o
    clear hfin HR hend;go_wp2_with fail;go_ret;exact .inl ⟨_,rfl,by rw[HPB2.o];omega,by rw[HP.o];exact O3,F3.o⟩
   ·have hy1:(y==-1)=false:=by simp;intro e;exact hend (hfin.1 e)
    clear hfin;go_wp2_with fail
    cases h124:onF s d.i (-1) 124 with
    | true=>
     have hlt:=(Zf h124).2.1;have HR2:Hid (Qu s=Wz s true (k-1) ⟨p.bs++[d.b],d.i+1,d.bad⟩):=by
      show _=_;rw[HR.o,Vi HK.o,HD.o,HB.o,h124,gotI,if_pos h124]
     refine(Jo (c:=124) P4 hs (by decide) h124).mono ?_;rintro e w5 ⟨rfl,P5,f5⟩;clear h124;go_wp2_with fail;go_roundw
     case rel=>exact⟨k-1,⟨p.bs++[d.b],d.i+1,d.bad⟩,by show s.size<k-1+(d.i+1);omega,by show d.i+1≤s.size;omega,by show (p.bs++[d.b]).length≤d.i+1;simp;omega,HB,HR2,O3.keeps (Qr.fr f5 (by omega)),P5,F3.o.trans f5,Nat.le_trans hz4 f5.size⟩
     case measure=>rw[P5.rdI,HRI.o];omega
    | false=>
     have HP:Hid (Qu s=⟨p.bs++[d.b],d.i,d.bad⟩):=by
      have:=Rr HR.o HK.o rfl (by rw[HD.o,HB.o];exact h124)
      rwa [HD.o]at this
     have HPB2:Hid (Q9 s=d.i):=by
      show _=_;rw[Q9,HP.o,if_pos (by show d.i<s.size;omega)];show Ja d.i d.bad=d.i;rw[HB.o,RP]
     refine(KM (c:=124) P4 (by decide) h124).mono ?_;rintro e w5 ⟨rfl,f5⟩;clear h124;go_wp2_with fail;exact⟨rfl,.inr ⟨by rw[HPB2.o],by rw[HPB2.o];omega,F3.o.trans f5⟩⟩
  ·have HB:=Qc hbad;have HP:Hid (Qu s=⟨p.bs++[d.b],d.i,d.bad⟩):=by
    have:=Rr HR.o HK.o rfl (by rw[HD.o];exact Uo hbad)
    rwa [HD.o]at this
   have HPB2:Hid (Q9 s=d.bad):=by
    show _=_;rw[Q9,HP.o];show (if d.i<s.size then Ja d.i d.bad else d.bad)=d.bad;rw[Rh hbad];simp
   clear hbad;go_wp2_with fail;exact⟨rfl,.inr ⟨by rw[HPB2.o],by rw[HPB2.o];exact HB.o,F.o.trans f1⟩⟩
theorem Qid(B k0 k1 k2:Nat)(b0:B≤k0)(b1:B≤k1)(b2:B≤k2)(v0 v1 v2:Value)(p:Int)(w:World)(h0:w.cell? ⟨k0,0,none⟩=some v0)(h1:w.cell? ⟨k1,0,none⟩=some v1)(h2:w.cell? ⟨k2,0,none⟩=some v2)
  (z0:w.frozen? ⟨k0,0,none⟩=false)(z1:w.frozen? ⟨k1,0,none⟩=false)(z2:w.frozen? ⟨k2,0,none⟩=false)(d1:k0≠k1)(d2:k0≠k2)(d3:k1≠k2)(l0:k0<w.heap.size)(l1:k1<w.heap.size)(l2:k2<w.heap.size):
  CallsD prog 111 #[.pointer (some ⟨k0,0,none⟩),.pointer (some ⟨k1,0,none⟩),.pointer (some ⟨k2,0,none⟩)] (.panicking ({ v:=.iface 217 (.agg #[.int .i64 p]),recovered:=false }::[])) w fun e u' w'=>
   e=.returned (.tuple #[])∧u'=.panicking ({ v:=.iface 217 (.agg #[.int .i64 p]),recovered:=true }::[]) ∧
   w'.cell? ⟨k0,0,none⟩=some (.slice none 0 0)∧w'.cell? ⟨k1,0,none⟩=some (.int .i64 p)∧w'.cell? ⟨k2,0,none⟩=some (.bool false)∧Below B w w':=by
 refine callsD_of_wpS func111 rfl fun c₀ cs hu=>?_;apply wpS_seq;apply wpS_region;simp[wpOpsS,go_sem,recoverD,hu,ntmps111,Exit.thenS];refine wpS_of_wp ?_;have hta:∀w:World,(Instr.typeAssert (.iface 217 (.agg #[.int .i64 p])) 20 217 true).run prog w=.ok (.tuple #[.agg #[.int .i64 p],.bool true]) w:=fun w=>by kernel_rfl
 go_wp2
 go_region
 all_goals
  go_wp2
  refine⟨rfl,.panicking [{ v:=.iface 217 (.agg #[.int .i64 p]),recovered:=true }],rfl,.tuple #[],by simp[results,results111],rfl,rfl,?_,?_,?_,?_⟩
  ·simp[go_sem,h0,l0]
  ·simp[go_sem,h1,l1]
  ·simp[go_sem,h2,l2]
  ·exact(((((Below.refl B w).setCell (p:=⟨k0,0,none⟩) b0 _).setCell (p:=⟨k1,0,none⟩) b1 _).setCell (p:=⟨k2,0,none⟩) b2 _).alloc (by rw[Zs,Zs,Zs];omega) _).drew
theorem Qie(a0 a1 a2:Value)(w:World):
  CallsD prog 111 #[a0,a1,a2] .returning w fun e u' w'=>e=.returned (.tuple #[])∧u'=.returning∧w'=w:=by
 refine callsD_of_wpS func111 rfl fun c₀ cs hu=>?_;apply wpS_seq;apply wpS_region;simp[wpOpsS,go_sem,recoverD,hu,ntmps111,Exit.thenS];refine wpS_of_wp ?_
 go_wp2
 refine⟨rfl,.returning,?_,.tuple #[],by simp[results,results111],rfl,rfl,rfl⟩;cases c₀;simp_all
def Qkc(s:ByteArray)(w:World)(e:Ending)(w':World):Prop:=
 (∃v,e=.returned (.tuple #[v,.int .i64 0,.bool true])∧Q9 s<0∧PBs w' w.heap.size (Qu s).bs v∧Below w.heap.size w w') ∨
 (e=.returned (.tuple #[.slice none 0 0,.int .i64 (Q9 s),.bool false])∧0≤Q9 s∧Below w.heap.size w w')
theorem Fr.below{b:Nat}{u v:World}(h:Fr b u v){B:Nat}(hB:B≤b)(hs:B≤u.heap.size):Below B u v:=⟨h.os,h.tape,h.output,h.size,fun k hk=>h.block k (by omega) (by omega)⟩
theorem RT(s:ByteArray)(w:World)(hs:s.size≤200000):
  Calls prog 67 #[.string s] w fun e w'=>Qkc s w e w':=by
 have hmf:∀(fn:Fn)(first cap:Array Value)(w:World),(Instr.makeFunc fn first cap).run prog w=.ok (.func fn first cap) w:=fun _ _ _ _=>rfl
 go_enter_defers func67,ntmps67
 go_wp2_with fail;refine(NQ s _ hs).mono ?_;rintro e w1 ⟨ms,g,cap,rfl,HM,O,f1⟩;rw[Qt,Qt,Qt]at O f1;have F:Below w.heap.size w w1:=((((Below.refl _ _).alloc (Nat.le_refl _) _).alloc (by simp) _).alloc (by simp;omega) _).trans (f1.mono (by omega));have hz1:w.heap.size+3≤w1.heap.size:=by have:=f1.size;simp at this;omega
 have g0:w1.heap[w.heap.size]?=some (.cells #[.slice none 0 0] 38 (0,0)):=by
  rw[f1.block _ (by omega),Below.heap_alloc _ _ _ (by simp;omega),Below.heap_alloc _ _ _ (by simp)];exact heap_alloc_last w _
 have g1:w1.heap[w.heap.size+1]?=some (.cells #[.int .i64 0] 3 (0,0)):=by
  rw[f1.block _ (by omega),Below.heap_alloc _ _ _ (by simp)];simpa using heap_alloc_last (w.alloc _) _
 have g2:w1.heap[w.heap.size+2]?=some (.cells #[.bool false] 4 (0,0)):=by
  rw[f1.block _ (by omega)];simpa using heap_alloc_last ((w.alloc _).alloc _) _
 have hge:=(O.lt g rfl);clear f1;go_wp2_with fail;have hP:RS (w1.alloc (.cells #[.string s,.slice (some ⟨g,0,none⟩) ms.length cap,.int .i64 0] 221)) w1.heap.size g s 0:=
  ⟨ms,0,cap,HM,⟨HM.pos,HM.first HM.pos⟩,⟨⟨221,heap_alloc_last w1 _⟩,(Qj O (Nat.zero_le _)).alloc _,by omega⟩⟩
 refine(NF hP hs).mono ?_;rintro e w2 (⟨v,rfl,hpb,OB,f2⟩|⟨rfl,hpb,f2⟩)
 ·have HB:=Qc hpb;rw[Qt]at OB;have F2:Below w.heap.size w w2:=(F.alloc (by omega) _).trans (f2.below (by omega) (by simp;omega));replace g0:=Qn f2 (Qo g0 _) (by omega);replace g1:=Qn f2 (Qo g1 _) (by omega);replace g2:=Qn f2 (Qo g2 _) (by omega);obtain⟨pv,cv,rfl⟩:=OB.slice;have q0:=Qb g0;have z0:=Qg g0;have q1:=Qb g1;have z1:=Qg g1;have q2:=Qb g2;have z2:=Qg g2;clear hpb hP HM O f2 F hge;go_wp2_with fail;refine leaves_cons (f:=111) (args:=#[.pointer (some ⟨w.heap.size,0,none⟩),.pointer (some ⟨w.heap.size+1,0,none⟩),.pointer (some ⟨w.heap.size+1+1,0,none⟩)]) (by simp) (by simp[go_sem]) ?_;refine(Qie _ _ _ _).mono ?_;rintro e u' w'' ⟨rfl,rfl,rfl⟩;refine⟨.tuple #[.slice pv (Qu s).bs.length cv,.int .i64 0,.bool true],by simp[results,results67,go_sem,q0,q1,q2],.inl ⟨_,rfl,HB.o,?_,?_⟩⟩
  ·exact((((OB.base (show w.heap.size+3≤w1.heap.size+1 by omega)).keeps (Qr.setk T7 _ w.heap.size 0 _ (by omega))).keeps (Qr.setk T7 _ (w.heap.size+1) 0 _ (by omega))).keeps (Qr.setk T7 _ (w.heap.size+1+1) 0 _ (by omega))).base (by omega)
  ·exact((F2.setCell (p:=⟨w.heap.size,0,none⟩) (Qi _) _).setCell (p:=⟨w.heap.size+1,0,none⟩) (show w.heap.size≤w.heap.size+1 by omega) _).setCell (p:=⟨w.heap.size+1+1,0,none⟩) (show w.heap.size≤w.heap.size+1+1 by omega) _
 ·have HB:=Qc hpb;have F2:Below w.heap.size w w2:=(F.alloc (by omega) _).trans (f2.below (by omega) (by simp;omega));replace g0:=Qn f2 (Qo g0 _) (by omega);replace g1:=Qn f2 (Qo g1 _) (by omega);replace g2:w2.heap[w.heap.size+1+1]?=_:=Qn f2 (Qo g2 _) (by omega);have l0:=lt_of_block g0;have l1:=lt_of_block g1;have l2:=lt_of_block g2;clear hpb hP HM O f2 F hge;go_wp2_with fail;refine leaves_cons (f:=111) (args:=#[.pointer (some ⟨w.heap.size,0,none⟩),.pointer (some ⟨w.heap.size+1,0,none⟩),.pointer (some ⟨w.heap.size+1+1,0,none⟩)]) (by simp) (by simp[go_sem]) ?_;refine(Qid w.heap.size w.heap.size (w.heap.size+1) (w.heap.size+1+1) (Qi _) (by omega) (by omega) _ _ _ (Q9 s) w2 (Qb g0 0) (Qb g1 0) (Qb g2 0) (Qg g0 0) (Qg g1 0) (Qg g2 0) (by omega) (by omega) (by omega) l0 l1 l2).mono ?_;rintro e u' w'' ⟨rfl,rfl,c0,c1,c2,f3⟩;refine⟨.tuple #[.slice none 0 0,.int .i64 (Q9 s),.bool false],by simp[results,results67,go_sem,c0,c1,c2],.inr ⟨rfl,HB.o,F2.trans f3⟩⟩
theorem Qga{t e:TypeId}{z:Value}{size bytes:Nat}(ht:prog.underlying t=some (.slice e))(hi:(prog.info? e).map (fun i=>(i.zero,i.size,i.bytes))=some (some z,size,bytes))
  {ops:Array Oper}{rest:List Oper}{o:Oper}{a:Act}{Q:Exit→Act→World→Prop}{w:World}(hgd:o.guard=none)(s x:Operand)
  (ho:o.op=.call { callee:=.builtin .append,args:=#[s,x],argTypes:=#[t,t] })
  {base:Nat}{v:Value}{n:Nat}{xs:List Value}(hs:a.eval s=v)(hown:w.ownsRow base e size v n xs)(hx:a.eval x=.slice none 0 0)
  (h:wpList prog ops Q rest (a.put o.dst v) w):wpList prog ops Q (o::rest) a w:=by
 obtain⟨I,Hi,Hz,Hs,Hb⟩:=info_parts hi;have hr:∀ty,(Builtin.append_ #[t,t] ty #[v,.slice none 0 0]).run prog w=.ok v w:=by
  intro ty;rcases hown.2 with ⟨rfl,_⟩|⟨g,cap,cur,rfl,_,_,hnc,_⟩
  ·have hs:=Src.ofNil (P:=prog) w (size:=I.size) ht 0;simp[Builtin.append_,run_underlying ht,sizeOf,typeInfo,Hi,hs.len,hs.cells]
  ·have:=run_append_room_src (P:=prog) w t t ty e I ht Hi g 0 n cap (.slice none 0 0) 0 [] (Src.ofNil w ht 0) (by omega) (by simp) (by simp);simpa[World.setCells] using this
 refine wpList_plain hgd fun _ hK=>?_;unfold Oper.wp execOp;simp only[ho,resolve,invoke,builtin,Sem.run_bind,Sem.run_pure,Result.andThen_ok,List.map_toArray,List.map_cons,List.map_nil,hs,hx,hr];exact hK _ _ h
theorem UZ(w:World):Calls prog 307 #[.agg #[]] w fun x w'=>x=.returned (.slice none 0 0)∧Below w.heap.size w w':=by
 go_enter func307,ntmps307
 go_wp2
 go_ret;exact⟨rfl,(Below.refl _ _).alloc (Qi _) _⟩
theorem UY(a b:Nat)(w:World):Calls prog 311 #[.agg #[.int .i64 a,.int .i64 b]] w fun x w'=>∃g,x=.returned (.slice (some ⟨g,0,none⟩) 1 1)∧w'.ownsRow w.heap.size 145 2 (.slice (some ⟨g,0,none⟩) 1 1) 1 (pcs [(a,b)])∧Below w.heap.size w w':=by
 go_enter func311,ntmps311
 go_wp2
 go_ret;refine⟨w.heap.size+1,rfl,?_,((Below.refl _ _).alloc (Nat.le_refl _) _).alloc (by simp) _⟩;have ON:=ZK (w.alloc (.cells #[.int .i64 a,.int .i64 b] 312)) w.heap.size 145 2 1 #[.int .i64 a,.int .i64 b] (by simp) rfl (by decide);rw[Qt]at ON;exact ON
theorem Wg(p q a b c d:Nat)(w:World):Calls prog 319 #[.agg #[.int .i64 p,.int .i64 q,.int .i64 a,.int .i64 b,.int .i64 c,.int .i64 d]] w fun x w'=>∃g,x=.returned (.slice (some ⟨g,0,none⟩) 2 2)∧w'.ownsRow w.heap.size 145 2 (.slice (some ⟨g,0,none⟩) 2 2) 2 (pcs [(a,b),(c,d)])∧Below w.heap.size w w':=by
 go_enter func319,ntmps319
 go_wp2
 go_ret;refine⟨w.heap.size+1,rfl,?_,((Below.refl _ _).alloc (Nat.le_refl _) _).alloc (by simp) _⟩;have ON:=ZK (w.alloc (.cells #[.int .i64 p,.int .i64 q,.int .i64 a,.int .i64 b,.int .i64 c,.int .i64 d] 353)) w.heap.size 145 2 2 #[.int .i64 a,.int .i64 b,.int .i64 c,.int .i64 d] (by simp) rfl (by decide);rw[Qt]at ON;exact ON
theorem Ua:(prog.info? 145).map (fun i=>(i.zero,i.size,i.bytes))=some (some (.agg #[.int .i64 0,.int .i64 0]),2,16):=by kernel_rfl
theorem Zp{gs rs:List (Nat×Nat)}(h:gs.length=rs.length){j:Nat}(hj:j<gs.length):
  (Q8 gs rs)[j*4]?=some (.int .i64 gs[j].1)∧(Q8 gs rs)[j*4+1]?=some (.int .i64 gs[j].2)∧(Q8 gs rs)[j*4+2]?=some (.int .i64 (rs[j]'(by omega)).1)∧(Q8 gs rs)[j*4+3]?=some (.int .i64 (rs[j]'(by omega)).2):=by
 have hl:∀x∈List.zipWith (fun g r=>pc g++pc r) gs rs,x.length=4:=by
  intro x hx;rw[List.mem_iff_getElem?]at hx;obtain⟨n,hn⟩:=hx;rw[List.getElem?_zipWith]at hn;split at hn
  ·cases hn;rfl
  ·cases hn
 have hk:(List.zipWith (fun g r=>pc g++pc r) gs rs)[j]?=some (pc gs[j]++pc (rs[j]'(by omega))):=by
  rw[List.getElem?_zipWith,Zl hj,Zl (show j<rs.length by omega)]
 have F:=fun i hi=>Z4 4 _ j i _ hl hk hi;exact⟨F 0 (by omega),F 1 (by omega),F 2 (by omega),F 3 (by omega)⟩
theorem ZZ.at{w base}:∀{cs vs},ZZ w base cs vs→∀{k}(hk:k<cs.length),∃v,vs[k]?=some v∧cs[k].gs.length=cs[k].rs.length∧w.ownsRow base 147 4 v cs[k].gs.length (Q8 cs[k].gs cs[k].rs)
 | [],[],_,k,hk=>absurd hk (by simp)
 | c::cs,v::vs,h,0,_=>⟨v,rfl,h.1.1,h.1.2⟩
 | c::cs,v::vs,h,k+1,hk=>by
  obtain⟨u,a,b,d⟩:=ZZ.at h.2 (k:=k) (by simpa using hk);exact⟨u,by simpa using a,by simpa using b,by simpa using d⟩
 | [],_::_,h,_,_=>h.elim
 | _::_,[],h,_,_=>h.elim
theorem ZU.at{w:World}{base:Nat}{cs:List Q0}{p:Option Addr}{m cap:Nat}(h:ZU w base cs (.slice p m cap)){k:Nat}(hk:k<cs.length):
  ∃g pu cu,p=some ⟨g,0,none⟩∧base≤g∧g<w.heap.size∧cs[k].gs.length=cs[k].rs.length∧w.ownsRow base 147 4 (.slice pu cs[k].gs.length cu) cs[k].gs.length (Q8 cs[k].gs cs[k].rs) ∧
   w.cell? ⟨g,k*3,none⟩=some (.int .i64 cs[k].to.1)∧w.cell? ⟨g,k*3+1,none⟩=some (.int .i64 cs[k].to.2)∧w.cell? ⟨g,k*3+2,none⟩=some (.slice pu cs[k].gs.length cu):=by
 obtain⟨vs,a,b⟩:=h;obtain⟨v,hv,hc,hs⟩:=b.at hk;obtain⟨p',c',e1⟩:=Qa a;cases e1;obtain⟨g,rfl,hb,hg⟩:=Qk a (by omega);obtain⟨pu,cu,e2⟩:=Qa hs;have hl:∀x∈List.zipWith VD cs vs,x.length=3:=by
  intro x hx;rw[List.mem_iff_getElem?]at hx;obtain⟨n,hn⟩:=hx;rw[List.getElem?_zipWith]at hn;split at hn
  ·cases hn;rfl
  ·cases hn
 have hk2:(List.zipWith VD cs vs)[k]?=some (VD cs[k] v):=by rw[List.getElem?_zipWith,hv,Zl hk]
 have F:=fun j hj=>Z4 3 _ k j _ hl hk2 hj;refine⟨g,pu,cu,rfl,hb,hg,hc,by rw[←e2];exact hs,?_,?_,?_⟩
 ·exact Qf a (F 0 (by omega))
 ·exact Qf a (F 1 (by omega))
 ·rw[←e2];exact Qf a (F 2 (by omega))
theorem KL{t e:TypeId}{z:Value}{size bytes:Nat}(ht:prog.underlying t=some (.slice e))(hi:(prog.info? e).map (fun i=>(i.zero,i.size,i.bytes))=some (some z,size,bytes))(hzs:z.cells.size=size)(hsz:0<size)(hby:bytes≤1000)
  {ops:Array Oper}{rest:List Oper}{o:Oper}{a:Act}{Q:Exit→Act→World→Prop}{w:World}(hgd:o.guard=none)(s x:Operand)
  (ho:o.op=.call { callee:=.builtin .append,args:=#[s,x],argTypes:=#[t,t] })
  {base:Nat}{v:Value}{n:Nat}{xs:List Value}(hs:a.eval s=v)(hown:w.ownsRow base e size v n xs)
  {B:Nat}{cs:Array Value}{tt:TypeId}{fr:Nat×Nat}(hB:w.heap[B]?=some (.cells cs tt fr))(hx:a.eval x=.slice (some ⟨B,0,none⟩) 1 1)(hl:cs.size=size)(h1:∀u∈cs.toList,u.oneCell'=true)
  (hn:n≤100000000000)(hbase:base≤w.heap.size)
  (h:∀v' w',w'.ownsRow base e size v' (n+1) (xs++cs.toList)→w.grownBy w' v.ownBlock→wpList prog ops Q rest (a.put o.dst v') w'):wpList prog ops Q (o::rest) a w:=by
 obtain⟨I,Hi,Hz,Hs,Hb⟩:=info_parts hi;refine wpList_append_own w hgd s x t ho base e I z size bytes ht Hi Hz Hs Hb hzs hsz v n xs hs hown ⟨B,0,none⟩ 1 1 cs.toList hx (by simpa using hl) (World.news_of_block hB) h1 (by unfold maxLen;omega) ?_ hbase (fun v' w' h1 h2 _=>h v' w' h1 h2);have:(n+1)*bytes≤100000000001*1000:=Nat.mul_le_mul (by omega) hby
 omega
def Gp(l:List Q0)(q:Nat):List (Nat×Nat):=(l.take q).flatMap (·.gs)
def Xu(l:List Q0)(q t:Nat):List (Nat×Nat):=Gp l q++(match l[q]? with|some c=>c.gs.take t|none=>[])
theorem QfY(r:Qm):Gp r.chs r.chs.length=chG r:=by rw[Gp,List.take_length,chG]
theorem QfX(l:List Q0)(q:Nat):Xu l q 0=Gp l q:=by unfold Xu;cases l[q]?<;>simp
theorem QfV{l:List Q0}{q t:Nat}(hq:q<l.length)(ht:t<l[q].gs.length):Xu l q (t+1)=Xu l q t++[l[q].gs[t]]:=by
 simp only[Xu,List.getElem?_eq_getElem hq,List.append_assoc];rw[Zb ht]
theorem QfW{l:List Q0}{q:Nat}(hq:q<l.length):Xu l q l[q].gs.length=Gp l (q+1):=by
 simp only[Xu,List.getElem?_eq_getElem hq,List.take_length,Gp]
 conv=>rhs;rw[Zb hq,List.flatMap_append,List.flatMap_cons,List.flatMap_nil,List.append_nil]
theorem Qdv(l:List Q0)(q t:Nat):(Xu l q t).length≤(l.flatMap (·.gs)).length:=by
 unfold Xu Gp
 conv=>rhs;rw[←List.take_append_drop q l,List.flatMap_append,Qw]
 rw[Qw]
 cases h:l[q]? with
 | none=>simp
 | some c=>
  have hq:q<l.length:=by
   rcases Nat.lt_or_ge q l.length with g|g
   ·exact g
   ·rw[ZI g]at h;cases h
  rw[Zl hq]at h;cases h;rw[List.drop_eq_getElem_cons hq,List.flatMap_cons,Qw];simp only[List.length_take];omega
theorem K6{e:Z6}(h:e.op=46):Zc e=.iface 309 (.agg #[])∧goalsF e=[]:=by simp[Zc,goalsF,h]
theorem K7{e:Z6}(h:e.op=62):Zc e=.iface 312 (.agg #[.int .i64 e.one.1,.int .i64 e.one.2])∧goalsF e=[e.one]:=by simp[Zc,goalsF,h]
theorem JI{e:Z6}(h:e.op=63):Zc e=.iface 353 (.agg #[.int .i64 e.a.1,.int .i64 e.a.2,.int .i64 e.one.1,.int .i64 e.one.2,.int .i64 e.two.1,.int .i64 e.two.2])∧goalsF e=[e.one,e.two]:=by simp[Zc,goalsF,h]
theorem Qad(r:Qm)(base:Nat)(qc:Option Addr)(cc:Nat)(vs:Value)(w:World)(h:ZU w base r.chs (.slice qc r.chs.length cc))(hvs:∃p m c,vs=.slice p m c)(hop:r.e.op=46∨r.e.op=62∨r.e.op=63)
  (hc1:r.chs.length≤400000)(hc2:((chG r).length≤50000000000)):
  Calls prog 114 #[.agg #[.int .i64 r.at_,.slice qc r.chs.length cc,vs,Zc r.e]] w fun x w'=>∃v,x=.returned v∧w'.ownsRow w.heap.size 145 2 v (Ks r).length (pcs (Ks r))∧Below w.heap.size w w':=by
 obtain⟨p0,m0,c0,rfl⟩:=hvs;obtain⟨T,x,hev⟩:=QQ r.e;have HEV:=Qc hev;rw[hev];clear hev;go_enter func114,ntmps114;go_wp2_with fail
 go_loopw [3,11] (fun l k wr=>∃q:Nat,q≤r.chs.length∧k=.int .i64 q∧wr.ownsRow (w.heap.size+1) 145 2 l (Gp r.chs q).length (pcs (Gp r.chs q))∧Hid (Below (w.heap.size+1) (w.alloc (.cells #[.int .i64 r.at_,.slice qc r.chs.length cc,.slice p0 m0 c0,.iface T x] 104)) wr)) (fun _ k _=>r.chs.length-(intOf k).toNat)
 case atStart=>exact⟨0,by omega,rfl,Q3 _ _ _ _,Below.refl _ _⟩
 case round=>
  obtain⟨q,hq,rfl,O,F⟩:=hrel;have hz:w.heap.size+1≤wr.heap.size:=by have:=F.o.size;rw[Qt]at this;exact this
  have hC:=(h.keeps (Qr.alloc _ T4 w _) (by simp[T4]) (by simp[T4])).keeps (T:=T4) (fun g cur e hb ht hh=>by rw[F.o.block g (by have:=lt_of_block hh;rw[World.size_alloc]at this;exact this)];exact hh) (by simp[T4]) (by simp[T4]);obtain⟨pl,cl,rfl⟩:=Qa O;by_cases hql:q<r.chs.length
  ·obtain⟨gc,pu,cu,rfl,_,hgc,hgl,OF,e0,e1,e2⟩:=hC.at hql;have HGL:=Qc hgl;have hml:∀t,(Xu r.chs q t).length≤50000000000:=fun t=>Qy (Qdv _ _ _) hc2;have hgs:r.chs[q].gs.length≤50000000000:=by
    have h1:=hml r.chs[q].gs.length;simp only[Xu,List.getElem?_eq_getElem hql,List.take_length,List.length_append]at h1;omega
   generalize hcq:r.chs[q]=c at *;have HCQ:=Qc hcq;clear hgl hcq hC;go_wp2_with fail
   go_loopw [3,18] (fun l j wz=>∃t:Nat,t≤c.gs.length∧j=.int .i64 t∧wz.ownsRow (w.heap.size+1) 145 2 l (Xu r.chs q t).length (pcs (Xu r.chs q t))∧Hid (Below (w.heap.size+1) (w.alloc (.cells #[.int .i64 r.at_,.slice (some ⟨gc,0,none⟩) r.chs.length cc,.slice p0 m0 c0,.iface T x] 104)) wz)∧wz.ownsRow base 147 4 (.slice pu c.gs.length cu) c.gs.length (Q8 c.gs c.rs)) (fun _ j _=>c.gs.length-(intOf j).toNat)
   case atStart=>
    refine⟨0,by omega,rfl,by rw[QfX];exact O.alloc _,F.o.alloc hz _,OF.alloc _⟩
   case round=>
    clear O F OF e0 e1 e2 hz hgc;obtain⟨t,ht,rfl,O,F,OF⟩:=hrel;have hz:w.heap.size+1≤wr.heap.size:=by have:=F.o.size;rw[Qt]at this;exact this
    obtain⟨pl2,cl2,rfl⟩:=Qa O;by_cases htl:t<c.gs.length
    ·obtain⟨gf,rfl,_,hgf⟩:=Qk OF (by omega);have f0:=Qf OF (Zp HGL.o htl).1;have f1:=Qf OF (Zp HGL.o htl).2.1;have f2:=Qf OF (Zp HGL.o htl).2.2.1;have f3:=Qf OF (Zp HGL.o htl).2.2.2;have hln:=hml t;have HS:Hid (Xu r.chs q (t+1)=Xu r.chs q t++[c.gs[t]]):=by
      show _=_;have:=QfV (l:=r.chs) hql (t:=t) (by rw[HCQ.o];exact htl);rw[this]
      congr 2
      simp[HCQ.o]
     go_wp2_with (at_builtin;refine QA ?_);refine Qc ?_;have gB:((wr.alloc (.cells #[.int .i64 c.gs[t].1,.int .i64 c.gs[t].2,.int .i64 (c.rs[t]'(by have:=HGL.o;omega)).1,.int .i64 (c.rs[t]'(by have:=HGL.o;omega)).2] 147)).alloc (.cells #[.int .i64 c.gs[t].1,.int .i64 c.gs[t].2] 145)).heap[wr.heap.size+1]?=some (.cells #[.int .i64 c.gs[t].1,.int .i64 c.gs[t].2] 145 (0,0)):=by
      simpa using heap_alloc_last (wr.alloc (.cells #[.int .i64 c.gs[t].1,.int .i64 c.gs[t].2,.int .i64 (c.rs[t]'(by have:=HGL.o;omega)).1,.int .i64 (c.rs[t]'(by have:=HGL.o;omega)).2] 147)) (.cells #[.int .i64 c.gs[t].1,.int .i64 c.gs[t].2] 145)
     have O2:=(O.alloc (.cells #[.int .i64 c.gs[t].1,.int .i64 c.gs[t].2,.int .i64 (c.rs[t]'(by have:=HGL.o;omega)).1,.int .i64 (c.rs[t]'(by have:=HGL.o;omega)).2] 147)).alloc (.cells #[.int .i64 c.gs[t].1,.int .i64 c.gs[t].2] 145);have F2:=(F.o.alloc hz (.cells #[.int .i64 c.gs[t].1,.int .i64 c.gs[t].2,.int .i64 (c.rs[t]'(by have:=HGL.o;omega)).1,.int .i64 (c.rs[t]'(by have:=HGL.o;omega)).2] 147)).alloc (by rw[Qt];omega) (.cells #[.int .i64 c.gs[t].1,.int .i64 c.gs[t].2] 145);have OF2:=(OF.alloc (.cells #[.int .i64 c.gs[t].1,.int .i64 c.gs[t].2,.int .i64 (c.rs[t]'(by have:=HGL.o;omega)).1,.int .i64 (c.rs[t]'(by have:=HGL.o;omega)).2] 147)).alloc (.cells #[.int .i64 c.gs[t].1,.int .i64 c.gs[t].2] 145);have hz2:=F2.size;rw[Qt]at hz2;refine KL underlying154 Ua rfl (by decide) (by decide) rfl _ _ rfl rfl O2 gB rfl rfl (Xi.1 rfl) (by omega) hz2 ?_;intro v6 w6 o6 gr6;have F6:=Qc (Below.grown F2 gr6 hz2 (fun j hj=>(O2.lt j hj).1));have OF6:=Qd OF2 (Qr.grown (T:=fun e=>e=147) O2 gr6 (by decide)) rfl;have o7:w6.ownsRow (w.heap.size+1) 145 2 v6 (Xu r.chs q (t+1)).length (pcs (Xu r.chs q (t+1))):=by
      rw[HS.o,←UA,Qw];exact o6
     obtain⟨p6,c6,rfl⟩:=Qa o6;clear gB O2 F2 OF2 gr6 o6 O F OF hz2 f0 f1 f2 f3;go_wp2_with fail;go_roundw
     case rel=>exact⟨t+1,by omega,by go_num,o7,F6,OF6⟩
     case measure=>simp[intOf];omega
    ·have hte:t=c.gs.length:=by omega
     subst hte;have HS:Hid (Xu r.chs q c.gs.length=Gp r.chs (q+1)):=by
      show _=_;have:=QfW (l:=r.chs) hql;rw[HCQ.o]at this;exact this
     go_wp2_with fail;go_roundw
     case rel=>exact⟨q+1,by omega,by go_num,by rw[←HS.o];exact O,F⟩
     case measure=>simp[intOf];omega
  ·have hqe:q=r.chs.length:=by omega
   subst hqe;have g0:wr.heap[w.heap.size]?=some (.cells #[.int .i64 r.at_,.slice qc r.chs.length cc,.slice p0 m0 c0,.iface T x] 104 (0,0)):=by
    rw[F.o.block _ (by omega)];exact heap_alloc_last w _
   have q3:=Qb g0 3;simp at q3;rw[QfY]at *;have FF:Hid (Below w.heap.size w wr):=((Below.refl _ _).alloc (Qi _) _).trans (F.o.mono (by omega));clear hC F;rcases hop with hop|hop|hop
   ·obtain⟨a1,a2⟩:=K6 hop;rw[HEV.o]at a1;cases a1;have HAG:Hid (Ks r=chG r):=by show _=_;rw[Ks,a2,List.append_nil]
    have hmt:∀w:World,(method 500 309 (.agg #[]) "Goals").run prog w=.ok (307,.agg #[]) w:=fun w=>by kernel_rfl
    clear a2 hop;go_wp2_with fail;refine(UZ _).mono ?_;rintro e w5 ⟨rfl,f5⟩;replace O:=Qd O (Qh f5) trivial;have F5:=Qc (FF.o.trans (f5.mono (by omega)));go_wp2_with (at_builtin;refine QA ?_);refine Qc ?_;refine Qga underlying154 Ua rfl _ _ rfl rfl O rfl ?_;go_wp2_with fail;go_ret;refine⟨_,rfl,?_,F5.o⟩;rw[HAG.o];exact Qj (base':=w.heap.size) O (by omega)
   ·obtain⟨a1,a2⟩:=K7 hop;rw[HEV.o]at a1;cases a1;have HAG:Hid (Ks r=chG r++[r.e.one]):=by show _=_;rw[Ks,a2]
    have hmt:∀w:World,(method 500 312 (.agg #[.int .i64 r.e.one.1,.int .i64 r.e.one.2]) "Goals").run prog w=.ok (311,.agg #[.int .i64 r.e.one.1,.int .i64 r.e.one.2]) w:=fun w=>by kernel_rfl
    clear a2 hop;go_wp2_with fail;refine(UY _ _ _).mono ?_;rintro e w5 ⟨g5,rfl,O5,f5⟩;replace O:=Qd O (Qh f5) trivial;have F5:=Qc (FF.o.trans (f5.mono (by omega)));obtain⟨I9,Hi9,Hz9,Hs9,Hb9⟩:=info_parts Ua;go_wp2_with (at_builtin;refine QA ?_);refine Qc ?_;refine wpList_append_own w5 rfl _ _ 154 rfl (w.heap.size+1) 145 I9 (.agg #[.int .i64 0,.int .i64 0]) 2 16 underlying154 Hi9 Hz9 Hs9 Hb9 rfl (by decide) _ _ _ rfl O ⟨g5,0,none⟩ 1 1 (pcs [r.e.one]) rfl rfl (O5.cells rfl) (Xi.1 rfl) (by unfold maxLen;omega) (by omega) (by have:=f5.size;omega) ?_;intro v6 w6 o6 gr6 _;have F6:=Qc (Below.grown F5.o gr6 (by have:=f5.size;omega) (fun j hj=>by have:=(O.lt j hj).1;omega));obtain⟨p6,c6,rfl⟩:=Qa o6;clear gr6;go_wp2_with fail;go_ret;refine⟨_,rfl,?_,F6.o⟩;rw[HAG.o,Qw];have:=Qj (base':=w.heap.size) o6 (by omega);simpa[pcs] using this
   ·obtain⟨a1,a2⟩:=JI hop;rw[HEV.o]at a1;cases a1;have HAG:Hid (Ks r=chG r++[r.e.one,r.e.two]):=by show _=_;rw[Ks,a2]
    have hmt:∀w:World,(method 500 353 (.agg #[.int .i64 r.e.a.1,.int .i64 r.e.a.2,.int .i64 r.e.one.1,.int .i64 r.e.one.2,.int .i64 r.e.two.1,.int .i64 r.e.two.2]) "Goals").run prog w=.ok (319,.agg #[.int .i64 r.e.a.1,.int .i64 r.e.a.2,.int .i64 r.e.one.1,.int .i64 r.e.one.2,.int .i64 r.e.two.1,.int .i64 r.e.two.2]) w:=fun w=>by kernel_rfl
    clear a2 hop;go_wp2_with fail;refine(Wg _ _ _ _ _ _ _).mono ?_;rintro e w5 ⟨g5,rfl,O5,f5⟩;replace O:=Qd O (Qh f5) trivial;have F5:=Qc (FF.o.trans (f5.mono (by omega)));obtain⟨I9,Hi9,Hz9,Hs9,Hb9⟩:=info_parts Ua;go_wp2_with (at_builtin;refine QA ?_);refine Qc ?_;refine wpList_append_own w5 rfl _ _ 154 rfl (w.heap.size+1) 145 I9 (.agg #[.int .i64 0,.int .i64 0]) 2 16 underlying154 Hi9 Hz9 Hs9 Hb9 rfl (by decide) _ _ _ rfl O ⟨g5,0,none⟩ 2 2 (pcs [r.e.one,r.e.two]) rfl rfl (O5.cells rfl) (Xi.1 rfl) (by unfold maxLen;omega) (by omega) (by have:=f5.size;omega) ?_;intro v6 w6 o6 gr6 _;have F6:=Qc (Below.grown F5.o gr6 (by have:=f5.size;omega) (fun j hj=>by have:=(O.lt j hj).1;omega));obtain⟨p6,c6,rfl⟩:=Qa o6;clear gr6;go_wp2_with fail;go_ret;refine⟨_,rfl,?_,F6.o⟩;rw[HAG.o,Qw];have:=Qj (base':=w.heap.size) o6 (by omega);simpa[pcs] using this
theorem Zq.at{w base}:∀{cs vs},Zq w base cs vs→∀{k}(hk:k<cs.length),∃v,vs[k]?=some v∧(cs[k].e.op=46∨cs[k].e.op=62∨cs[k].e.op=63)∧YY w base cs[k] v.1 v.2
 | [],[],_,k,hk=>absurd hk (by simp)
 | c::cs,v::vs,h,0,_=>⟨v,rfl,h.1.1,h.1.2⟩
 | c::cs,v::vs,h,k+1,hk=>by
  obtain⟨u,a,b,d⟩:=Zq.at h.2 (k:=k) (by simpa using hk);exact⟨u,by simpa using a,by simpa using b,by simpa using d⟩
 | [],_::_,h,_,_=>h.elim
 | _::_,[],h,_,_=>h.elim
theorem PBs.at{w:World}{base:Nat}{cs:List Qm}{p:Option Addr}{m cap:Nat}(h:PBs w base cs (.slice p m cap)){k:Nat}(hk:k<cs.length):
  ∃g qc cc ps cs1,p=some ⟨g,0,none⟩∧base≤g∧g<w.heap.size∧(cs[k].e.op=46∨cs[k].e.op=62∨cs[k].e.op=63)∧ZU w base cs[k].chs (.slice qc cs[k].chs.length cc)∧w.ownsRow base 150 1 (.slice ps cs[k].sts.length cs1) cs[k].sts.length (cs[k].sts.map QS) ∧
   w.cell? ⟨g,k*4,none⟩=some (.int .i64 cs[k].at_)∧w.cell? ⟨g,k*4+1,none⟩=some (.slice qc cs[k].chs.length cc)∧w.cell? ⟨g,k*4+2,none⟩=some (.slice ps cs[k].sts.length cs1)∧w.cell? ⟨g,k*4+3,none⟩=some (Zc cs[k].e):=by
 obtain⟨vs,a,b⟩:=h;obtain⟨v,hv,hc,hs⟩:=b.at hk;obtain⟨p',c',e1⟩:=Qa a;cases e1;obtain⟨g,rfl,hb,hg⟩:=Qk a (by omega);obtain⟨qc,cc,e2⟩:=hs.1.slice;obtain⟨ps,cs1,e3⟩:=Qa hs.2;have hl:∀x∈List.zipWith (fun (c:Qm)(v:Value×Value)=>Zv c v.1 v.2) cs vs,x.length=4:=by
  intro x hx;rw[List.mem_iff_getElem?]at hx;obtain⟨n,hn⟩:=hx;rw[List.getElem?_zipWith]at hn;split at hn
  ·cases hn;rfl
  ·cases hn
 have hk2:(List.zipWith (fun (c:Qm)(v:Value×Value)=>Zv c v.1 v.2) cs vs)[k]?=some (Zv cs[k] v.1 v.2):=by rw[List.getElem?_zipWith,hv,Zl hk]
 have F:=fun j hj=>Z4 4 _ k j _ hl hk2 hj;refine⟨g,qc,cc,ps,cs1,rfl,hb,hg,hc,by rw[←e2];exact hs.1,by rw[←e3];exact hs.2,?_,?_,?_,?_⟩
 ·exact Qf a (F 0 (by omega))
 ·rw[←e2];exact Qf a (F 1 (by omega))
 ·rw[←e3];exact Qf a (F 2 (by omega))
 ·exact Qf a (F 3 (by omega))
def Qbm(p:Int)(w:World)(e:Ending)(w':World):Prop:=
 (0≤p∧e=.returned (.tuple #[.int .i64 p,.bool true])∧Below w.heap.size w w')∨(p<0∧e=.returned (.tuple #[.int .i64 0,.bool false])∧Below w.heap.size w w')
theorem Qde{bs:List Qm}(h:(bs.flatMap Ks).find? (XC bs.length)=none):Xb bs<0:=by rw[Xb,h];decide
theorem GJ{bs:List Qm}{g:Nat×Nat}(h:(bs.flatMap Ks).find? (XC bs.length)=some g):Xb bs=g.2:=by rw[Xb,h];rfl
theorem Gj(bs:List Qm)(base:Nat)(v:Value)(w:World)(h:PBs w base bs v)(hl:bs.length≤400000)(hc1:∀b∈bs,b.chs.length≤400000)(hc2:∀b∈bs,(chG b).length≤50000000000):
  Calls prog 68 #[v] w fun x w'=>Qbm (Xb bs) w x w':=by
 obtain⟨pv,cv,rfl⟩:=h.slice;go_enter func68,ntmps68;go_wp2_with fail
 go_loopw [10] (fun i wr=>∃m:Nat,m≤bs.length∧i=.int .i64 m∧Hid (((bs.take m).flatMap Ks).find? (XC bs.length)=none)∧Hid (Below w.heap.size w wr)) (fun i _=>bs.length-(intOf i).toNat)
 case atStart=>exact⟨0,by omega,rfl,by simp[Hid],Below.refl _ _⟩
 case round=>
  obtain⟨m,hm,rfl,H1,F⟩:=hrel;by_cases hlt:m<bs.length
  ·have hB:=h.keeps (Qr.below F.o);obtain⟨g,qc,cc,ps,cs1,rfl,_,hgz,hop,OC,OS,d0,d1,d2,d3⟩:=hB.at hlt;have L1:=hc1 _ (Qx hlt);have L2:=hc2 _ (Qx hlt);obtain⟨T,x,hev⟩:=QQ bs[m].e;have HEV:=Qc hev;rw[hev]at d3;have hz0:=F.o.size;have HOP:=Qc hop;clear hB hev hop;go_wp2_with fail;have HG:=Qad bs[m] base qc cc (.slice ps bs[m].sts.length cs1) (wr.alloc (.cells #[.int .i64 bs[m].at_,.slice qc bs[m].chs.length cc,.slice ps bs[m].sts.length cs1,.iface T x] 104)) (OC.keeps (Qr.alloc _ T4 _ _) (by simp[T4]) (by simp[T4])) ⟨_,_,_,rfl⟩ HOP.o L1 L2;rw[HEV.o]at HG;refine HG.mono ?_;rintro e w1 ⟨vg,rfl,OG,f1⟩;have F2:Hid (Below w.heap.size w w1):=(F.o.alloc hz0 _).trans (f1.mono (by rw[Qt];omega));obtain⟨pg,cg,rfl⟩:=Qa OG;have hal:(Ks bs[m]).length≤50000000002:=by
    have:=ZH bs[m].e;rw[Ks,Qw];omega
   clear HG d0 d1 d2 d3 OC OS f1;generalize hag:Ks bs[m]=ag at *;have HAG:=Qc hag;clear hag;go_wp2_with fail
   go_loopw [17] (fun j wz=>∃t:Nat,t≤ag.length∧j=.int .i64 t∧Hid ((ag.take t).find? (XC bs.length)=none)∧Hid (Below w1.heap.size w1 wz)) (fun j _=>ag.length-(intOf j).toNat)
   case atStart=>exact⟨0,by omega,rfl,by simp[Hid],Below.refl _ _⟩
   case round=>
    obtain⟨t,ht,rfl,H3,F3⟩:=hrel;have hz3:=F3.o.size;have hz2:=F2.o.size;have OG2:=Qd OG (Qh F3.o) trivial;by_cases htl:t<ag.length
    ·obtain⟨gf,rfl,_,hgf⟩:=Qk OG2 (by omega);have f0:=Qf OG2 (Zt htl).1;have f1:=Qf OG2 (Zt htl).2;by_cases hst:bs.length≤ag[t].1
     ·have HP:Hid (Xb bs=ag[t].2):=GJ (XR hlt H1.o (by rw[HAG.o];exact Z8 htl H3.o (by simpa[XC] using hst)));go_wp2_with fail
      go_ret2
      exact .inl ⟨by rw[HP.o];omega,by rw[HP.o];rfl,F2.o.trans ((F3.o.alloc hz3 _).mono (by omega))⟩
     ·have H3':=Qc (Xe htl H3.o (by simpa[XC] using hst));go_wp2_with fail;go_roundw
      case rel=>exact⟨t+1,by omega,by go_num,H3',F3.o.alloc hz3 _⟩
      case measure=>simp[intOf];omega
    ·have H1':Hid (((bs.take (m+1)).flatMap Ks).find? (XC bs.length)=none):=X9 hlt H1.o (by rw[HAG.o];have:=H3.o;rwa [Zg (by omega)]at this);have F4:=Qc (F2.o.trans (F3.o.mono hz2));go_wp2_with fail;go_roundw
     case rel=>exact⟨m+1,by omega,by go_num,H1',F4⟩
     case measure=>simp[intOf];omega
  ·have HP:Hid (Xb bs<0):=by
    have:=H1.o;rw[Zg (by omega)]at this;exact Qde this
   go_wp2_with fail
   go_ret2
   exact .inr ⟨HP.o,rfl,F.o⟩
end Go.Proofs.YtgfhfkgdmidhpaaGreatDoor
