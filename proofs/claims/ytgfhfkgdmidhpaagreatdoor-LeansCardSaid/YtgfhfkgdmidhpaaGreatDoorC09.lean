import Derived.Test.YtgfhfkgdmidhpaaGreatDoorC08
import Derived.Recover
import Derived.RegionTactic
import Derived.Laws.Pointers
import Derived.Deep.AppendSrc
namespace Go.Proofs.YtgfhfkgdmidhpaaGreatDoor
open Go.RowKit
set_option maxRecDepth 100000
set_option maxHeartbeats 8000000
def Q8(w:World)(base:Nat):List Ql→List (Value×Value)→Prop
 | [],[]=>True
 | c::cs,v::vs=>((c.e.op=46∨c.e.op=62∨c.e.op=63)∧Ks w base c v.1 v.2)∧Q8 w base cs vs
 | _,_=>False
def Xs(cs:List Ql)(vs:List (Value×Value)):List Value:=(List.zipWith (fun c v=>QT c v.1 v.2) cs vs).flatten
def PBs(w:World)(base:Nat)(cs:List Ql)(v:Value):Prop:=∃vs,w.ownsRow base 104 4 v cs.length (Xs cs vs)∧Q8 w base cs vs
def T6(e:TypeId):Prop:=e=147∨e=140∨e=150
def T7(e:TypeId):Prop:=e=147∨e=140∨e=150∨e=104
theorem Ks.keeps{w w' base r vc vs}{T:TypeId→Prop}(h:Ks w base r vc vs)(k:Qs base T w w')(h1:T 147)(h2:T 140)(h3:T 150):Ks w' base r vc vs:=
 ⟨h.1.keeps k h1 h2,Qd h.2 k h3⟩
theorem Ks.base{w base base' r vc vs}(h:Ks w base r vc vs)(hb:base'≤base):Ks w base' r vc vs:=⟨h.1.base hb,Qm h.2 hb⟩
theorem Q8.len{w base}:∀{cs vs},Q8 w base cs vs→vs.length=cs.length
 | [],[],_=>rfl
 | _::_,_::_,h=>by simp[Q8.len h.2]
 | [],_::_,h=>h.elim
 | _::_,[],h=>h.elim
theorem Q8.keeps{w w' base}{T:TypeId→Prop}(k:Qs base T w w')(h1:T 147)(h2:T 140)(h3:T 150):∀{cs vs},Q8 w base cs vs→Q8 w' base cs vs
 | [],[],_=>trivial
 | _::_,_::_,h=>⟨⟨h.1.1,h.1.2.keeps k h1 h2 h3⟩,Q8.keeps k h1 h2 h3 h.2⟩
 | [],_::_,h=>h.elim
 | _::_,[],h=>h.elim
theorem Q8.base{w base base'}(hb:base'≤base):∀{cs vs},Q8 w base cs vs→Q8 w base' cs vs
 | [],[],_=>trivial
 | _::_,_::_,h=>⟨⟨h.1.1,h.1.2.base hb⟩,Q8.base hb h.2⟩
 | [],_::_,h=>h.elim
 | _::_,[],h=>h.elim
theorem Q8.snoc{w base}{c:Ql}{v:Value×Value}(h1:c.e.op=46∨c.e.op=62∨c.e.op=63)(h2:Ks w base c v.1 v.2):∀{cs vs},Q8 w base cs vs→Q8 w base (cs++[c]) (vs++[v])
 | [],[],_=>⟨⟨h1,h2⟩,trivial⟩
 | _::_,_::_,h=>⟨h.1,Q8.snoc h1 h2 h.2⟩
 | [],_::_,h=>h.elim
 | _::_,[],h=>h.elim
theorem Yb{cs:List Ql}{vs:List (Value×Value)} (c v)(h:vs.length=cs.length):Xs (cs++[c]) (vs++[v])=Xs cs vs++QT c v.1 v.2:=by
 simp[Xs,List.zipWith_append h.symm]
theorem PBs.keeps{w w' base cs v}(h:PBs w base cs v)(k:Qs base T7 w w'):PBs w' base cs v:=by
 obtain⟨vs,a,b⟩:=h;exact⟨vs,Qd a k (by simp[T7]),b.keeps k (by simp[T7]) (by simp[T7]) (by simp[T7])⟩
theorem PBs.base{w base base' cs v}(h:PBs w base cs v)(hb:base'≤base):PBs w base' cs v:=by
 obtain⟨vs,a,b⟩:=h;exact⟨vs,Qm a hb,b.base hb⟩
theorem PBs.slice{w base cs v}(h:PBs w base cs v):∃p c,v=.slice p cs.length c:=by
 obtain⟨vs,a,_⟩:=h;exact Qb a
theorem Tryz.info104:(Tryz.prog.info? 104).map (fun i=>(i.zero,i.size,i.bytes))=some (some (.agg #[.int .i64 0,.slice none 0 0,.slice none 0 0,.nilIface]),4,72):=by kernel_rfl
def QiB(b:Nat)(s:ByteArray)(w:World)(e:Ending)(w':World):Prop:=
 (∃v,e=.returned v∧QR s<0∧PBs w' w.heap.size (Qq s).bs v∧Fr b w w')∨(e=.panicked (brk (QR s))∧0≤QR s∧Fr b w w')
theorem GG{s a k p}(h:Qq s=VT s true k p)(hk:0<k)(ha:onF s (blkF s p.i p.bad).i (blkF s p.i p.bad).bad 124=a)(hf:a=false):Qq s=⟨p.bs++[(blkF s p.i p.bad).b],(blkF s p.i p.bad).i,(blkF s p.i p.bad).bad⟩:=by
 rw[h,YN hk,ha,hf,VT,if_neg (by simp),gotI,ha,hf,if_neg (by simp)]
theorem RK{b g:Nat}{s:ByteArray}{w:World}(hp:RS w b g s 0)(hs:s.size≤200000):
  Calls Tryz.prog 113 #[.pointer (some ⟨b,0,none⟩)] w fun e w'=>QiB b s w e w':=by
 have hb:=hp.lt;have hg:=hp.glt;go_enter Tryz.func113,Tryz.ntmps113;go_wp2_with fail
 go_loopw [3] (fun l wr=>∃(k:Nat)(p:Par),s.size<k+p.i∧p.i≤s.size∧p.bs.length≤p.i∧Hid (p.bad=-1)∧Hid (Qq s=VT s true k p)∧PBs wr w.heap.size p.bs l∧RS wr b g s p.i∧Hid (Fr b w wr)∧w.heap.size≤wr.heap.size) (fun _ wr=>s.size-rdI wr b)
 case atStart=>exact⟨s.size+1,⟨[],0,-1⟩,by show _<_;omega,by simp,by simp,rfl,rfl,⟨[],World.ownsRow_nil _ _ _ _,trivial⟩,hp,Fr.refl _ _,Nat.le_refl _⟩
 case round=>
  obtain⟨k,p,hk,hpi,hpl,HPB,HR,O,P,F,hz⟩:=hrel;have HRI:Hid (rdI wr b=p.i):=P.rdI;have HK:Hid (0<k):=by show 0<k;omega
  obtain⟨pl,cl,rfl⟩:=O.slice;clear hp;go_wp2_with fail;refine(Qau P hs).mono ?_;have HD:Hid (blkF s p.i p.bad=blkF s p.i (-1)):=by show _=_;rw[HPB.o]
  have hge:=Qbz (s:=s) (i:=p.i) (bad:=-1);have hle:=Rc (bad:=-1) hpi;generalize hd:blkF s p.i (-1)=d at *;clear hd;rintro e w1 (⟨vc,vs,rfl,hbad,hop,OB,P1,f1⟩|⟨rfl,hbad,f1⟩)
  ·have HB:=Qc hbad;have HOP:=Qc hop;clear hbad hop;replace OB:=OB.base hz;replace O:=O.keeps (Qs.fr f1 (by omega));replace F:=Qc (F.o.trans f1);have hz1:=Nat.le_trans hz f1.size;obtain⟨pc1,cc1,rfl⟩:=OB.1.slice;obtain⟨ps1,cs1,rfl⟩:=Qb OB.2;obtain⟨T,x,hev⟩:=QU d.b.e;have HEV:=Qc hev;rw[show (QT d.b (.slice pc1 d.b.chs.length cc1) (.slice ps1 d.b.sts.length cs1)).toArray=#[.int .i64 d.b.at_,.slice pc1 d.b.chs.length cc1,.slice ps1 d.b.sts.length cs1,.iface T x] from by rw[QT,hev]];clear hev f1 P hz;go_wp2_with (at_builtin;refine Qv ?_);refine Qc ?_;have gB:=heap_alloc_last w1 (.cells #[.int .i64 d.b.at_,.slice pc1 d.b.chs.length cc1,.slice ps1 d.b.sts.length cs1,.iface T x] 104);replace O:=O.keeps (Qs.alloc _ _ _ (.cells #[.int .i64 d.b.at_,.slice pc1 d.b.chs.length cc1,.slice ps1 d.b.sts.length cs1,.iface T x] 104));replace OB:=OB.keeps (Qs.alloc _ T6 _ (.cells #[.int .i64 d.b.at_,.slice pc1 d.b.chs.length cc1,.slice ps1 d.b.sts.length cs1,.iface T x] 104)) (by simp[T6]) (by simp[T6]) (by simp[T6]);replace P1:=P1.alloc (.cells #[.int .i64 d.b.at_,.slice pc1 d.b.chs.length cc1,.slice ps1 d.b.sts.length cs1,.iface T x] 104);replace F:=Qc (F.o.alloc (.cells #[.int .i64 d.b.at_,.slice pc1 d.b.chs.length cc1,.slice ps1 d.b.sts.length cs1,.iface T x] 104));obtain⟨us,O1,hAll⟩:=O;refine Kd Tryz.underlying38 Tryz.info104 rfl (by decide) (by decide) rfl _ _ rfl rfl O1 gB rfl rfl (List.all_eq_true.1 rfl) (by omega) (by rw[World.size_alloc];omega) ?_;intro v3 wS oS gS;have K:Qs w.heap.size T6 _ wS:=Qs.grown O1 gS (by simp[T6]);have O3:PBs wS w.heap.size (p.bs++[d.b]) v3:=by
    refine⟨us++[(.slice pc1 d.b.chs.length cc1,.slice ps1 d.b.sts.length cs1)],?_,?_⟩
    ·rw[Yb _ _ hAll.len,List.length_append,QT,HEV.o];exact oS
    ·exact Q8.snoc HOP.o (OB.keeps K (by simp[T6]) (by simp[T6]) (by simp[T6])) (hAll.keeps K (by simp[T6]) (by simp[T6]) (by simp[T6]))
   have P3:=P1.grown gS (fun j hj=>by have:=(O1.lt j hj).1;constructor<;>omega);have F3:=Qc (F.o.grown gS (fun j hj=>by have:=(O1.lt j hj).1;omega));have hz3:w.heap.size≤wS.heap.size:=by have:=gS.size;rw[World.size_alloc]at this;omega
   obtain⟨p5,c5,h5⟩:=O3.slice;rw[List.length_append,List.length_singleton]at h5;subst h5;clear K O1 hAll gS oS gB OB P1 F hz1;go_wp2_with fail;refine(Xp P3).mono ?_;rintro e w4 ⟨y,rfl,hy,P4,f4⟩;replace O3:=O3.keeps (Qs.fr f4 (by omega));replace F3:=Qc (F3.o.trans f4);have hz4:=Nat.le_trans hz3 f4.size;have hfin:=hy.fin;clear f4 P3 hz3 hy;by_cases hend:d.i=s.size
   ·have hy1:(y==-1)=true:=by simp[hfin.2 hend]
    have HP:Hid (Qq s=⟨p.bs++[d.b],d.i,d.bad⟩):=by
     have:=GG HR.o HK.o rfl (by rw[HD.o,←Bool.not_eq_true];intro e;have:=(QV e).2.1;omega)
     rwa [HD.o]at this
    have HPB2:Hid (QR s=-1):=by show _=_;rw[QR,HP.o,if_neg (by show ¬d.i<s.size;omega)];exact HB.o
    clear hfin HR hend;go_wp2_with fail;go_ret;exact .inl ⟨_,rfl,by rw[HPB2.o];omega,by rw[HP.o];exact O3,F3.o⟩
   ·have hy1:(y==-1)=false:=by simp;intro e;exact hend (hfin.1 e)
    clear hfin;go_wp2_with fail
    cases h124:onF s d.i (-1) 124 with
    | true=>
     have hlt:=(QV h124).2.1;have HR2:Hid (Qq s=VT s true (k-1) ⟨p.bs++[d.b],d.i+1,d.bad⟩):=by
      show _=_;rw[HR.o,YN HK.o,HD.o,HB.o,h124,gotI,if_pos h124]
     refine(Jg (c:=124) P4 hs (by decide) h124).mono ?_;rintro e w5 ⟨rfl,P5,f5⟩;clear h124;go_wp2_with fail;go_roundw
     case rel=>exact⟨k-1,⟨p.bs++[d.b],d.i+1,d.bad⟩,by show s.size<k-1+(d.i+1);omega,by show d.i+1≤s.size;omega,by show (p.bs++[d.b]).length≤d.i+1;simp;omega,HB,HR2,O3.keeps (Qs.fr f5 (by omega)),P5,F3.o.trans f5,Nat.le_trans hz4 f5.size⟩
     case measure=>rw[P5.rdI,HRI.o];omega
    | false=>
     have HP:Hid (Qq s=⟨p.bs++[d.b],d.i,d.bad⟩):=by
      have:=GG HR.o HK.o rfl (by rw[HD.o,HB.o];exact h124)
      rwa [HD.o]at this
     have HPB2:Hid (QR s=d.i):=by
      show _=_;rw[QR,HP.o,if_pos (by show d.i<s.size;omega)];show X0 d.i d.bad=d.i;rw[HB.o,GV]
     refine(Kt (c:=124) P4 (by decide) h124).mono ?_;rintro e w5 ⟨rfl,f5⟩;clear h124;go_wp2_with fail;exact⟨rfl,.inr ⟨by rw[HPB2.o],by rw[HPB2.o];omega,F3.o.trans f5⟩⟩
  ·have HB:=Qc hbad;have HP:Hid (Qq s=⟨p.bs++[d.b],d.i,d.bad⟩):=by
    have:=GG HR.o HK.o rfl (by rw[HD.o];exact Ws hbad)
    rwa [HD.o]at this
   have HPB2:Hid (QR s=d.bad):=by
    show _=_;rw[QR,HP.o];show (if d.i<s.size then X0 d.i d.bad else d.bad)=d.bad;rw[Gj hbad];simp
   clear hbad;go_wp2_with fail;exact⟨rfl,.inr ⟨by rw[HPB2.o],by rw[HPB2.o];exact HB.o,F.o.trans f1⟩⟩
theorem QgC(B k0 k1 k2:Nat)(b0:B≤k0)(b1:B≤k1)(b2:B≤k2)(v0 v1 v2:Value)(p:Int)(w:World)(h0:w.cell? ⟨k0,0,none⟩=some v0)(h1:w.cell? ⟨k1,0,none⟩=some v1)(h2:w.cell? ⟨k2,0,none⟩=some v2)
  (z0:w.frozen? ⟨k0,0,none⟩=false)(z1:w.frozen? ⟨k1,0,none⟩=false)(z2:w.frozen? ⟨k2,0,none⟩=false)(d1:k0≠k1)(d2:k0≠k2)(d3:k1≠k2)(l0:k0<w.heap.size)(l1:k1<w.heap.size)(l2:k2<w.heap.size):
  CallsD Tryz.prog 111 #[.pointer (some ⟨k0,0,none⟩),.pointer (some ⟨k1,0,none⟩),.pointer (some ⟨k2,0,none⟩)] (.panicking ({ v:=.iface 217 (.agg #[.int .i64 p]),recovered:=false }::[])) w fun e u' w'=>
   e=.returned (.tuple #[])∧u'=.panicking ({ v:=.iface 217 (.agg #[.int .i64 p]),recovered:=true }::[]) ∧
   w'.cell? ⟨k0,0,none⟩=some (.slice none 0 0)∧w'.cell? ⟨k1,0,none⟩=some (.int .i64 p)∧w'.cell? ⟨k2,0,none⟩=some (.bool false)∧Below B w w':=by
 refine callsD_of_wpS Tryz.func111 rfl fun c₀ cs hu=>?_;apply wpS_seq;apply wpS_region;simp[wpOpsS,go_sem,recoverD,hu,Tryz.ntmps111,Exit.thenS];refine wpS_of_wp ?_;have hta:∀w:World,(Instr.typeAssert (.iface 217 (.agg #[.int .i64 p])) 20 217 true).run Tryz.prog w=.ok (.tuple #[.agg #[.int .i64 p],.bool true]) w:=fun w=>by kernel_rfl
 go_wp2
 go_region
 all_goals
  go_wp2
  refine⟨rfl,.panicking [{ v:=.iface 217 (.agg #[.int .i64 p]),recovered:=true }],rfl,.tuple #[],by simp[results,Tryz.results111],rfl,rfl,?_,?_,?_,?_⟩
  ·simp[go_sem,h0,l0]
  ·simp[go_sem,h1,l1]
  ·simp[go_sem,h2,l2]
  ·exact(((((Below.refl B w).setCell (p:=⟨k0,0,none⟩) b0 _).setCell (p:=⟨k1,0,none⟩) b1 _).setCell (p:=⟨k2,0,none⟩) b2 _).alloc (by rw[Zo,Zo,Zo];omega) _).drew
theorem QgD(a0 a1 a2:Value)(w:World):
  CallsD Tryz.prog 111 #[a0,a1,a2] .returning w fun e u' w'=>e=.returned (.tuple #[])∧u'=.returning∧w'=w:=by
 refine callsD_of_wpS Tryz.func111 rfl fun c₀ cs hu=>?_;apply wpS_seq;apply wpS_region;simp[wpOpsS,go_sem,recoverD,hu,Tryz.ntmps111,Exit.thenS];refine wpS_of_wp ?_
 go_wp2
 refine⟨rfl,.returning,?_,.tuple #[],by simp[results,Tryz.results111],rfl,rfl,rfl⟩;cases c₀;simp_all
def QiA(s:ByteArray)(w:World)(e:Ending)(w':World):Prop:=
 (∃v,e=.returned (.tuple #[v,.int .i64 0,.bool true])∧QR s<0∧PBs w' w.heap.size (Qq s).bs v∧Below w.heap.size w w') ∨
 (e=.returned (.tuple #[.slice none 0 0,.int .i64 (QR s),.bool false])∧0≤QR s∧Below w.heap.size w w')
theorem Fr.below{b:Nat}{u v:World}(h:Fr b u v){B:Nat}(hB:B≤b)(hs:B≤u.heap.size):Below B u v:=⟨h.os,h.tape,h.output,h.size,fun k hk=>h.block k (by omega) (by omega)⟩
theorem G0(s:ByteArray)(w:World)(hs:s.size≤200000):
  Calls Tryz.prog 67 #[.string s] w fun e w'=>QiA s w e w':=by
 have hmf:∀(fn:Fn)(first cap:Array Value)(w:World),(Instr.makeFunc fn first cap).run Tryz.prog w=.ok (.func fn first cap) w:=fun _ _ _ _=>rfl
 go_enter_defers Tryz.func67,Tryz.ntmps67
 go_wp2_with fail;refine(RY s _ hs).mono ?_;rintro e w1 ⟨ms,g,cap,rfl,HM,O,f1⟩;rw[World.size_alloc,World.size_alloc,World.size_alloc]at O f1;have F:Below w.heap.size w w1:=((((Below.refl _ _).alloc (Nat.le_refl _) _).alloc (by simp) _).alloc (by simp;omega) _).trans (f1.mono (by omega));have hz1:w.heap.size+3≤w1.heap.size:=by have:=f1.size;simp at this;omega
 have g0:w1.heap[w.heap.size]?=some (.cells #[.slice none 0 0] 38 (0,0)):=by
  rw[f1.block _ (by omega),Below.heap_alloc _ _ _ (by simp;omega),Below.heap_alloc _ _ _ (by simp)];exact heap_alloc_last w _
 have g1:w1.heap[w.heap.size+1]?=some (.cells #[.int .i64 0] 3 (0,0)):=by
  rw[f1.block _ (by omega),Below.heap_alloc _ _ _ (by simp)];simpa using heap_alloc_last (w.alloc _) _
 have g2:w1.heap[w.heap.size+2]?=some (.cells #[.bool false] 4 (0,0)):=by
  rw[f1.block _ (by omega)];simpa using heap_alloc_last ((w.alloc _).alloc _) _
 have hge:=(O.lt g rfl);clear f1;go_wp2_with fail;have hP:RS (w1.alloc (.cells #[.string s,.slice (some ⟨g,0,none⟩) ms.length cap,.int .i64 0] 221)) w1.heap.size g s 0:=
  ⟨ms,0,cap,HM,⟨HM.pos,HM.first HM.pos⟩,⟨⟨221,heap_alloc_last w1 _⟩,(Qm O (Nat.zero_le _)).alloc _,by omega⟩⟩
 refine(RK hP hs).mono ?_;rintro e w2 (⟨v,rfl,hpb,OB,f2⟩|⟨rfl,hpb,f2⟩)
 ·have HB:=Qc hpb;rw[World.size_alloc]at OB;have F2:Below w.heap.size w w2:=(F.alloc (by omega) _).trans (f2.below (by omega) (by simp;omega));replace g0:=Qk f2 (Qj g0 _) (by omega);replace g1:=Qk f2 (Qj g1 _) (by omega);replace g2:=Qk f2 (Qj g2 _) (by omega);obtain⟨pv,cv,rfl⟩:=OB.slice;have q0:=Qa g0;have z0:=Qf g0;have q1:=Qa g1;have z1:=Qf g1;have q2:=Qa g2;have z2:=Qf g2;clear hpb hP HM O f2 F hge;go_wp2_with fail;refine leaves_cons (f:=111) (args:=#[.pointer (some ⟨w.heap.size,0,none⟩),.pointer (some ⟨w.heap.size+1,0,none⟩),.pointer (some ⟨w.heap.size+1+1,0,none⟩)]) (by simp) (by simp[go_sem]) ?_;refine(QgD _ _ _ _).mono ?_;rintro e u' w'' ⟨rfl,rfl,rfl⟩;refine⟨.tuple #[.slice pv (Qq s).bs.length cv,.int .i64 0,.bool true],by simp[results,Tryz.results67,go_sem,q0,q1,q2],.inl ⟨_,rfl,HB.o,?_,?_⟩⟩
  ·exact((((OB.base (show w.heap.size+3≤w1.heap.size+1 by omega)).keeps (Qs.setk T7 _ w.heap.size 0 _ (by omega))).keeps (Qs.setk T7 _ (w.heap.size+1) 0 _ (by omega))).keeps (Qs.setk T7 _ (w.heap.size+1+1) 0 _ (by omega))).base (by omega)
  ·exact((F2.setCell (p:=⟨w.heap.size,0,none⟩) (Nat.le_refl _) _).setCell (p:=⟨w.heap.size+1,0,none⟩) (show w.heap.size≤w.heap.size+1 by omega) _).setCell (p:=⟨w.heap.size+1+1,0,none⟩) (show w.heap.size≤w.heap.size+1+1 by omega) _
 ·have HB:=Qc hpb;have F2:Below w.heap.size w w2:=(F.alloc (by omega) _).trans (f2.below (by omega) (by simp;omega));replace g0:=Qk f2 (Qj g0 _) (by omega);replace g1:=Qk f2 (Qj g1 _) (by omega);replace g2:w2.heap[w.heap.size+1+1]?=_:=Qk f2 (Qj g2 _) (by omega);have l0:=lt_of_block g0;have l1:=lt_of_block g1;have l2:=lt_of_block g2;clear hpb hP HM O f2 F hge;go_wp2_with fail;refine leaves_cons (f:=111) (args:=#[.pointer (some ⟨w.heap.size,0,none⟩),.pointer (some ⟨w.heap.size+1,0,none⟩),.pointer (some ⟨w.heap.size+1+1,0,none⟩)]) (by simp) (by simp[go_sem]) ?_;refine(QgC w.heap.size w.heap.size (w.heap.size+1) (w.heap.size+1+1) (Nat.le_refl _) (by omega) (by omega) _ _ _ (QR s) w2 (Qa g0 0) (Qa g1 0) (Qa g2 0) (Qf g0 0) (Qf g1 0) (Qf g2 0) (by omega) (by omega) (by omega) l0 l1 l2).mono ?_;rintro e u' w'' ⟨rfl,rfl,c0,c1,c2,f3⟩;refine⟨.tuple #[.slice none 0 0,.int .i64 (QR s),.bool false],by simp[results,Tryz.results67,go_sem,c0,c1,c2],.inr ⟨rfl,HB.o,F2.trans f3⟩⟩
theorem Ri{t e:TypeId}{z:Value}{size bytes:Nat}(ht:Tryz.prog.underlying t=some (.slice e))(hi:(Tryz.prog.info? e).map (fun i=>(i.zero,i.size,i.bytes))=some (some z,size,bytes))
  {ops:Array Oper}{rest:List Oper}{o:Oper}{a:Act}{Q:Exit→Act→World→Prop}{w:World}(hgd:o.guard=none)(s x:Operand)
  (ho:o.op=.call { callee:=.builtin .append,args:=#[s,x],argTypes:=#[t,t] })
  {base:Nat}{v:Value}{n:Nat}{xs:List Value}(hs:a.eval s=v)(hown:w.ownsRow base e size v n xs)(hx:a.eval x=.slice none 0 0)
  (h:wpList Tryz.prog ops Q rest (a.put o.dst v) w):wpList Tryz.prog ops Q (o::rest) a w:=by
 obtain⟨I,Hi,Hz,Hs,Hb⟩:=info_parts hi;have hr:∀ty,(Builtin.append_ #[t,t] ty #[v,.slice none 0 0]).run Tryz.prog w=.ok v w:=by
  intro ty;rcases hown.2 with ⟨rfl,_⟩|⟨g,cap,cur,rfl,_,_,hnc,_⟩
  ·have hs:=Src.ofNil (P:=Tryz.prog) w (size:=I.size) ht 0;simp[Builtin.append_,run_underlying ht,sizeOf,typeInfo,Hi,hs.len,hs.cells]
  ·have:=run_append_room_src (P:=Tryz.prog) w t t ty e I ht Hi g 0 n cap (.slice none 0 0) 0 [] (Src.ofNil w ht 0) (by omega) (by simp) (by simp);simpa[World.setCells] using this
 refine wpList_plain hgd fun _ hK=>?_;unfold Oper.wp execOp;simp only[ho,resolve,invoke,builtin,Sem.run_bind,Sem.run_pure,Result.andThen_ok,List.map_toArray,List.map_cons,List.map_nil,hs,hx,hr];exact hK _ _ h
theorem Ua(w:World):Calls Tryz.prog 307 #[.agg #[]] w fun x w'=>x=.returned (.slice none 0 0)∧Below w.heap.size w w':=by
 go_enter Tryz.func307,Tryz.ntmps307
 go_wp2
 go_ret;exact⟨rfl,(Below.refl _ _).alloc (Nat.le_refl _) _⟩
theorem W8(a b:Nat)(w:World):Calls Tryz.prog 311 #[.agg #[.int .i64 a,.int .i64 b]] w fun x w'=>∃g,x=.returned (.slice (some ⟨g,0,none⟩) 1 1)∧w'.ownsRow w.heap.size 145 2 (.slice (some ⟨g,0,none⟩) 1 1) 1 (pcs [(a,b)])∧Below w.heap.size w w':=by
 go_enter Tryz.func311,Tryz.ntmps311
 go_wp2
 go_ret;refine⟨w.heap.size+1,rfl,?_,((Below.refl _ _).alloc (Nat.le_refl _) _).alloc (by simp) _⟩;have ON:=ZA (w.alloc (.cells #[.int .i64 a,.int .i64 b] 312)) w.heap.size 145 2 1 #[.int .i64 a,.int .i64 b] (by simp) rfl (by decide);rw[World.size_alloc]at ON;exact ON
theorem VC(p q a b c d:Nat)(w:World):Calls Tryz.prog 319 #[.agg #[.int .i64 p,.int .i64 q,.int .i64 a,.int .i64 b,.int .i64 c,.int .i64 d]] w fun x w'=>∃g,x=.returned (.slice (some ⟨g,0,none⟩) 2 2)∧w'.ownsRow w.heap.size 145 2 (.slice (some ⟨g,0,none⟩) 2 2) 2 (pcs [(a,b),(c,d)])∧Below w.heap.size w w':=by
 go_enter Tryz.func319,Tryz.ntmps319
 go_wp2
 go_ret;refine⟨w.heap.size+1,rfl,?_,((Below.refl _ _).alloc (Nat.le_refl _) _).alloc (by simp) _⟩;have ON:=ZA (w.alloc (.cells #[.int .i64 p,.int .i64 q,.int .i64 a,.int .i64 b,.int .i64 c,.int .i64 d] 353)) w.heap.size 145 2 2 #[.int .i64 a,.int .i64 b,.int .i64 c,.int .i64 d] (by simp) rfl (by decide);rw[World.size_alloc]at ON;exact ON
theorem Tryz.info145:(Tryz.prog.info? 145).map (fun i=>(i.zero,i.size,i.bytes))=some (some (.agg #[.int .i64 0,.int .i64 0]),2,16):=by kernel_rfl
theorem QF{gs rs:List (Nat×Nat)}(h:gs.length=rs.length){j:Nat}(hj:j<gs.length):
  (QQ gs rs)[j*4]?=some (.int .i64 gs[j].1)∧(QQ gs rs)[j*4+1]?=some (.int .i64 gs[j].2)∧(QQ gs rs)[j*4+2]?=some (.int .i64 (rs[j]'(by omega)).1)∧(QQ gs rs)[j*4+3]?=some (.int .i64 (rs[j]'(by omega)).2):=by
 have hl:∀x∈List.zipWith (fun g r=>pc g++pc r) gs rs,x.length=4:=by
  intro x hx;rw[List.mem_iff_getElem?]at hx;obtain⟨n,hn⟩:=hx;rw[List.getElem?_zipWith]at hn;split at hn
  ·cases hn;rfl
  ·cases hn
 have hk:(List.zipWith (fun g r=>pc g++pc r) gs rs)[j]?=some (pc gs[j]++pc (rs[j]'(by omega))):=by
  rw[List.getElem?_zipWith,List.getElem?_eq_getElem hj,List.getElem?_eq_getElem (show j<rs.length by omega)]
 have F:=fun i hi=>ZS 4 _ j i _ hl hk hi;exact⟨F 0 (by omega),F 1 (by omega),F 2 (by omega),F 3 (by omega)⟩
theorem Zh.at{w base}:∀{cs vs},Zh w base cs vs→∀{k}(hk:k<cs.length),∃v,vs[k]?=some v∧cs[k].gs.length=cs[k].rs.length∧w.ownsRow base 147 4 v cs[k].gs.length (QQ cs[k].gs cs[k].rs)
 | [],[],_,k,hk=>absurd hk (by simp)
 | c::cs,v::vs,h,0,_=>⟨v,rfl,h.1.1,h.1.2⟩
 | c::cs,v::vs,h,k+1,hk=>by
  obtain⟨u,a,b,d⟩:=Zh.at h.2 (k:=k) (by simpa using hk);exact⟨u,by simpa using a,by simpa using b,by simpa using d⟩
 | [],_::_,h,_,_=>h.elim
 | _::_,[],h,_,_=>h.elim
theorem X1.at{w:World}{base:Nat}{cs:List QH}{p:Option Addr}{m cap:Nat}(h:X1 w base cs (.slice p m cap)){k:Nat}(hk:k<cs.length):
  ∃g pu cu,p=some ⟨g,0,none⟩∧base≤g∧g<w.heap.size∧cs[k].gs.length=cs[k].rs.length∧w.ownsRow base 147 4 (.slice pu cs[k].gs.length cu) cs[k].gs.length (QQ cs[k].gs cs[k].rs) ∧
   w.cell? ⟨g,k*3,none⟩=some (.int .i64 cs[k].to.1)∧w.cell? ⟨g,k*3+1,none⟩=some (.int .i64 cs[k].to.2)∧w.cell? ⟨g,k*3+2,none⟩=some (.slice pu cs[k].gs.length cu):=by
 obtain⟨vs,a,b⟩:=h;obtain⟨v,hv,hc,hs⟩:=b.at hk;obtain⟨p',c',e1⟩:=Qb a;cases e1;obtain⟨g,rfl,hb,hg⟩:=Qh a (by omega);obtain⟨pu,cu,e2⟩:=Qb hs;have hl:∀x∈List.zipWith J4 cs vs,x.length=3:=by
  intro x hx;rw[List.mem_iff_getElem?]at hx;obtain⟨n,hn⟩:=hx;rw[List.getElem?_zipWith]at hn;split at hn
  ·cases hn;rfl
  ·cases hn
 have hk2:(List.zipWith J4 cs vs)[k]?=some (J4 cs[k] v):=by rw[List.getElem?_zipWith,hv,List.getElem?_eq_getElem hk]
 have F:=fun j hj=>ZS 3 _ k j _ hl hk2 hj;refine⟨g,pu,cu,rfl,hb,hg,hc,by rw[←e2];exact hs,?_,?_,?_⟩
 ·exact Qe a (F 0 (by omega))
 ·exact Qe a (F 1 (by omega))
 ·rw[←e2];exact Qe a (F 2 (by omega))
theorem KT{t e:TypeId}{z:Value}{size bytes:Nat}(ht:Tryz.prog.underlying t=some (.slice e))(hi:(Tryz.prog.info? e).map (fun i=>(i.zero,i.size,i.bytes))=some (some z,size,bytes))(hzs:z.cells.size=size)(hsz:0<size)(hby:bytes≤1000)
  {ops:Array Oper}{rest:List Oper}{o:Oper}{a:Act}{Q:Exit→Act→World→Prop}{w:World}(hgd:o.guard=none)(s x:Operand)
  (ho:o.op=.call { callee:=.builtin .append,args:=#[s,x],argTypes:=#[t,t] })
  {base:Nat}{v:Value}{n:Nat}{xs:List Value}(hs:a.eval s=v)(hown:w.ownsRow base e size v n xs)
  {B:Nat}{cs:Array Value}{tt:TypeId}{fr:Nat×Nat}(hB:w.heap[B]?=some (.cells cs tt fr))(hx:a.eval x=.slice (some ⟨B,0,none⟩) 1 1)(hl:cs.size=size)(h1:∀u∈cs.toList,u.oneCell'=true)
  (hn:n≤100000000000)(hbase:base≤w.heap.size)
  (h:∀v' w',w'.ownsRow base e size v' (n+1) (xs++cs.toList)→w.grownBy w' v.ownBlock→wpList Tryz.prog ops Q rest (a.put o.dst v') w'):wpList Tryz.prog ops Q (o::rest) a w:=by
 obtain⟨I,Hi,Hz,Hs,Hb⟩:=info_parts hi;refine wpList_append_own w hgd s x t ho base e I z size bytes ht Hi Hz Hs Hb hzs hsz v n xs hs hown ⟨B,0,none⟩ 1 1 cs.toList hx (by simpa using hl) (World.news_of_block hB) h1 (by unfold maxLen;omega) ?_ hbase (fun v' w' h1 h2 _=>h v' w' h1 h2);have:(n+1)*bytes≤100000000001*1000:=Nat.mul_le_mul (by omega) hby
 omega
def Uy(l:List QH)(q:Nat):List (Nat×Nat):=(l.take q).flatMap (·.gs)
def Z9(l:List QH)(q t:Nat):List (Nat×Nat):=Uy l q++(match l[q]? with|some c=>c.gs.take t|none=>[])
theorem QeI(r:Ql):Uy r.chs r.chs.length=chG r:=by rw[Uy,List.take_length,chG]
theorem QeH(l:List QH)(q:Nat):Z9 l q 0=Uy l q:=by unfold Z9;cases l[q]?<;>simp
theorem QeF{l:List QH}{q t:Nat}(hq:q<l.length)(ht:t<l[q].gs.length):Z9 l q (t+1)=Z9 l q t++[l[q].gs[t]]:=by
 simp only[Z9,List.getElem?_eq_getElem hq,List.append_assoc];rw[List.take_succ_eq_append_getElem ht]
theorem QeG{l:List QH}{q:Nat}(hq:q<l.length):Z9 l q l[q].gs.length=Uy l (q+1):=by
 simp only[Z9,List.getElem?_eq_getElem hq,List.take_length,Uy]
 conv=>rhs;rw[List.take_succ_eq_append_getElem hq,List.flatMap_append,List.flatMap_cons,List.flatMap_nil,List.append_nil]
theorem Qco(l:List QH)(q t:Nat):(Z9 l q t).length≤(l.flatMap (·.gs)).length:=by
 unfold Z9 Uy
 conv=>rhs;rw[←List.take_append_drop q l,List.flatMap_append,List.length_append]
 rw[List.length_append]
 cases h:l[q]? with
 | none=>simp
 | some c=>
  have hq:q<l.length:=by
   rcases Nat.lt_or_ge q l.length with g|g
   ·exact g
   ·rw[List.getElem?_eq_none g]at h;cases h
  rw[List.getElem?_eq_getElem hq]at h;cases h;rw[List.drop_eq_getElem_cons hq,List.flatMap_cons,List.length_append];simp only[List.length_take];omega
theorem KK{e:Z3}(h:e.op=46):QP e=.iface 309 (.agg #[])∧goalsF e=[]:=by simp[QP,goalsF,h]
theorem KL{e:Z3}(h:e.op=62):QP e=.iface 312 (.agg #[.int .i64 e.one.1,.int .i64 e.one.2])∧goalsF e=[e.one]:=by simp[QP,goalsF,h]
theorem Jx{e:Z3}(h:e.op=63):QP e=.iface 353 (.agg #[.int .i64 e.a.1,.int .i64 e.a.2,.int .i64 e.one.1,.int .i64 e.one.2,.int .i64 e.two.1,.int .i64 e.two.2])∧goalsF e=[e.one,e.two]:=by simp[QP,goalsF,h]
theorem No(r:Ql)(base:Nat)(qc:Option Addr)(cc:Nat)(vs:Value)(w:World)(h:X1 w base r.chs (.slice qc r.chs.length cc))(hvs:∃p m c,vs=.slice p m c)(hop:r.e.op=46∨r.e.op=62∨r.e.op=63)
  (hc1:r.chs.length≤400000)(hc2:((chG r).length≤50000000000)):
  Calls Tryz.prog 114 #[.agg #[.int .i64 r.at_,.slice qc r.chs.length cc,vs,QP r.e]] w fun x w'=>∃v,x=.returned v∧w'.ownsRow w.heap.size 145 2 v (Kf r).length (pcs (Kf r))∧Below w.heap.size w w':=by
 obtain⟨p0,m0,c0,rfl⟩:=hvs;obtain⟨T,x,hev⟩:=QU r.e;have HEV:=Qc hev;rw[hev];clear hev;go_enter Tryz.func114,Tryz.ntmps114;go_wp2_with fail
 go_loopw [3,11] (fun l k wr=>∃q:Nat,q≤r.chs.length∧k=.int .i64 q∧wr.ownsRow (w.heap.size+1) 145 2 l (Uy r.chs q).length (pcs (Uy r.chs q))∧Hid (Below (w.heap.size+1) (w.alloc (.cells #[.int .i64 r.at_,.slice qc r.chs.length cc,.slice p0 m0 c0,.iface T x] 104)) wr)) (fun _ k _=>r.chs.length-(intOf k).toNat)
 case atStart=>exact⟨0,by omega,rfl,World.ownsRow_nil _ _ _ _,Below.refl _ _⟩
 case round=>
  obtain⟨q,hq,rfl,O,F⟩:=hrel;have hz:w.heap.size+1≤wr.heap.size:=by have:=F.o.size;rw[World.size_alloc]at this;exact this
  have hC:=(h.keeps (Qs.alloc _ T4 w _) (by simp[T4]) (by simp[T4])).keeps (T:=T4) (fun g cur e hb ht hh=>by rw[F.o.block g (by have:=lt_of_block hh;rw[World.size_alloc]at this;exact this)];exact hh) (by simp[T4]) (by simp[T4]);obtain⟨pl,cl,rfl⟩:=Qb O;by_cases hql:q<r.chs.length
  ·obtain⟨gc,pu,cu,rfl,_,hgc,hgl,OF,e0,e1,e2⟩:=hC.at hql;have HGL:=Qc hgl;have hml:∀t,(Z9 r.chs q t).length≤50000000000:=fun t=>Nat.le_trans (Qco _ _ _) hc2;have hgs:r.chs[q].gs.length≤50000000000:=by
    have h1:=hml r.chs[q].gs.length;simp only[Z9,List.getElem?_eq_getElem hql,List.take_length,List.length_append]at h1;omega
   generalize hcq:r.chs[q]=c at *;have HCQ:=Qc hcq;clear hgl hcq hC;go_wp2_with fail
   go_loopw [3,18] (fun l j wz=>∃t:Nat,t≤c.gs.length∧j=.int .i64 t∧wz.ownsRow (w.heap.size+1) 145 2 l (Z9 r.chs q t).length (pcs (Z9 r.chs q t))∧Hid (Below (w.heap.size+1) (w.alloc (.cells #[.int .i64 r.at_,.slice (some ⟨gc,0,none⟩) r.chs.length cc,.slice p0 m0 c0,.iface T x] 104)) wz)∧wz.ownsRow base 147 4 (.slice pu c.gs.length cu) c.gs.length (QQ c.gs c.rs)) (fun _ j _=>c.gs.length-(intOf j).toNat)
   case atStart=>
    refine⟨0,by omega,rfl,by rw[QeH];exact O.alloc _,F.o.alloc hz _,OF.alloc _⟩
   case round=>
    clear O F OF e0 e1 e2 hz hgc;obtain⟨t,ht,rfl,O,F,OF⟩:=hrel;have hz:w.heap.size+1≤wr.heap.size:=by have:=F.o.size;rw[World.size_alloc]at this;exact this
    obtain⟨pl2,cl2,rfl⟩:=Qb O;by_cases htl:t<c.gs.length
    ·obtain⟨gf,rfl,_,hgf⟩:=Qh OF (by omega);have f0:=Qe OF (QF HGL.o htl).1;have f1:=Qe OF (QF HGL.o htl).2.1;have f2:=Qe OF (QF HGL.o htl).2.2.1;have f3:=Qe OF (QF HGL.o htl).2.2.2;have hln:=hml t;have HS:Hid (Z9 r.chs q (t+1)=Z9 r.chs q t++[c.gs[t]]):=by
      show _=_;have:=QeF (l:=r.chs) hql (t:=t) (by rw[HCQ.o];exact htl);rw[this]
      congr 2
      simp[HCQ.o]
     go_wp2_with (at_builtin;refine Qv ?_);refine Qc ?_;have gB:((wr.alloc (.cells #[.int .i64 c.gs[t].1,.int .i64 c.gs[t].2,.int .i64 (c.rs[t]'(by have:=HGL.o;omega)).1,.int .i64 (c.rs[t]'(by have:=HGL.o;omega)).2] 147)).alloc (.cells #[.int .i64 c.gs[t].1,.int .i64 c.gs[t].2] 145)).heap[wr.heap.size+1]?=some (.cells #[.int .i64 c.gs[t].1,.int .i64 c.gs[t].2] 145 (0,0)):=by
      simpa using heap_alloc_last (wr.alloc (.cells #[.int .i64 c.gs[t].1,.int .i64 c.gs[t].2,.int .i64 (c.rs[t]'(by have:=HGL.o;omega)).1,.int .i64 (c.rs[t]'(by have:=HGL.o;omega)).2] 147)) (.cells #[.int .i64 c.gs[t].1,.int .i64 c.gs[t].2] 145)
     have O2:=(O.alloc (.cells #[.int .i64 c.gs[t].1,.int .i64 c.gs[t].2,.int .i64 (c.rs[t]'(by have:=HGL.o;omega)).1,.int .i64 (c.rs[t]'(by have:=HGL.o;omega)).2] 147)).alloc (.cells #[.int .i64 c.gs[t].1,.int .i64 c.gs[t].2] 145);have F2:=(F.o.alloc hz (.cells #[.int .i64 c.gs[t].1,.int .i64 c.gs[t].2,.int .i64 (c.rs[t]'(by have:=HGL.o;omega)).1,.int .i64 (c.rs[t]'(by have:=HGL.o;omega)).2] 147)).alloc (by rw[World.size_alloc];omega) (.cells #[.int .i64 c.gs[t].1,.int .i64 c.gs[t].2] 145);have OF2:=(OF.alloc (.cells #[.int .i64 c.gs[t].1,.int .i64 c.gs[t].2,.int .i64 (c.rs[t]'(by have:=HGL.o;omega)).1,.int .i64 (c.rs[t]'(by have:=HGL.o;omega)).2] 147)).alloc (.cells #[.int .i64 c.gs[t].1,.int .i64 c.gs[t].2] 145);have hz2:=F2.size;rw[World.size_alloc]at hz2;refine KT Tryz.underlying154 Tryz.info145 rfl (by decide) (by decide) rfl _ _ rfl rfl O2 gB rfl rfl (List.all_eq_true.1 rfl) (by omega) hz2 ?_;intro v6 w6 o6 gr6;have F6:=Qc (Below.grown F2 gr6 hz2 (fun j hj=>(O2.lt j hj).1));have OF6:=Qd OF2 (Qs.grown (T:=fun e=>e=147) O2 gr6 (by decide)) rfl;have o7:w6.ownsRow (w.heap.size+1) 145 2 v6 (Z9 r.chs q (t+1)).length (pcs (Z9 r.chs q (t+1))):=by
      rw[HS.o,←WH,List.length_append];exact o6
     obtain⟨p6,c6,rfl⟩:=Qb o6;clear gB O2 F2 OF2 gr6 o6 O F OF hz2 f0 f1 f2 f3;go_wp2_with fail;go_roundw
     case rel=>exact⟨t+1,by omega,by go_num,o7,F6,OF6⟩
     case measure=>simp[intOf];omega
    ·have hte:t=c.gs.length:=by omega
     subst hte;have HS:Hid (Z9 r.chs q c.gs.length=Uy r.chs (q+1)):=by
      show _=_;have:=QeG (l:=r.chs) hql;rw[HCQ.o]at this;exact this
     go_wp2_with fail;go_roundw
     case rel=>exact⟨q+1,by omega,by go_num,by rw[←HS.o];exact O,F⟩
     case measure=>simp[intOf];omega
  ·have hqe:q=r.chs.length:=by omega
   subst hqe;have g0:wr.heap[w.heap.size]?=some (.cells #[.int .i64 r.at_,.slice qc r.chs.length cc,.slice p0 m0 c0,.iface T x] 104 (0,0)):=by
    rw[F.o.block _ (by omega)];exact heap_alloc_last w _
   have q3:=Qa g0 3;simp at q3;rw[QeI]at *;have FF:Hid (Below w.heap.size w wr):=((Below.refl _ _).alloc (Nat.le_refl _) _).trans (F.o.mono (by omega));clear hC F;rcases hop with hop|hop|hop
   ·obtain⟨a1,a2⟩:=KK hop;rw[HEV.o]at a1;cases a1;have HAG:Hid (Kf r=chG r):=by show _=_;rw[Kf,a2,List.append_nil]
    have hmt:∀w:World,(method 500 309 (.agg #[]) "Goals").run Tryz.prog w=.ok (307,.agg #[]) w:=fun w=>by kernel_rfl
    clear a2 hop;go_wp2_with fail;refine(Ua _).mono ?_;rintro e w5 ⟨rfl,f5⟩;replace O:=Qd O (Qi f5) trivial;have F5:=Qc (FF.o.trans (f5.mono (by omega)));go_wp2_with (at_builtin;refine Qv ?_);refine Qc ?_;refine Ri Tryz.underlying154 Tryz.info145 rfl _ _ rfl rfl O rfl ?_;go_wp2_with fail;go_ret;refine⟨_,rfl,?_,F5.o⟩;rw[HAG.o];exact Qm (base':=w.heap.size) O (by omega)
   ·obtain⟨a1,a2⟩:=KL hop;rw[HEV.o]at a1;cases a1;have HAG:Hid (Kf r=chG r++[r.e.one]):=by show _=_;rw[Kf,a2]
    have hmt:∀w:World,(method 500 312 (.agg #[.int .i64 r.e.one.1,.int .i64 r.e.one.2]) "Goals").run Tryz.prog w=.ok (311,.agg #[.int .i64 r.e.one.1,.int .i64 r.e.one.2]) w:=fun w=>by kernel_rfl
    clear a2 hop;go_wp2_with fail;refine(W8 _ _ _).mono ?_;rintro e w5 ⟨g5,rfl,O5,f5⟩;replace O:=Qd O (Qi f5) trivial;have F5:=Qc (FF.o.trans (f5.mono (by omega)));obtain⟨I9,Hi9,Hz9,Hs9,Hb9⟩:=info_parts Tryz.info145;go_wp2_with (at_builtin;refine Qv ?_);refine Qc ?_;refine wpList_append_own w5 rfl _ _ 154 rfl (w.heap.size+1) 145 I9 (.agg #[.int .i64 0,.int .i64 0]) 2 16 Tryz.underlying154 Hi9 Hz9 Hs9 Hb9 rfl (by decide) _ _ _ rfl O ⟨g5,0,none⟩ 1 1 (pcs [r.e.one]) rfl rfl (O5.cells rfl) (List.all_eq_true.1 rfl) (by unfold maxLen;omega) (by omega) (by have:=f5.size;omega) ?_;intro v6 w6 o6 gr6 _;have F6:=Qc (Below.grown F5.o gr6 (by have:=f5.size;omega) (fun j hj=>by have:=(O.lt j hj).1;omega));obtain⟨p6,c6,rfl⟩:=Qb o6;clear gr6;go_wp2_with fail;go_ret;refine⟨_,rfl,?_,F6.o⟩;rw[HAG.o,List.length_append];have:=Qm (base':=w.heap.size) o6 (by omega);simpa[pcs] using this
   ·obtain⟨a1,a2⟩:=Jx hop;rw[HEV.o]at a1;cases a1;have HAG:Hid (Kf r=chG r++[r.e.one,r.e.two]):=by show _=_;rw[Kf,a2]
    have hmt:∀w:World,(method 500 353 (.agg #[.int .i64 r.e.a.1,.int .i64 r.e.a.2,.int .i64 r.e.one.1,.int .i64 r.e.one.2,.int .i64 r.e.two.1,.int .i64 r.e.two.2]) "Goals").run Tryz.prog w=.ok (319,.agg #[.int .i64 r.e.a.1,.int .i64 r.e.a.2,.int .i64 r.e.one.1,.int .i64 r.e.one.2,.int .i64 r.e.two.1,.int .i64 r.e.two.2]) w:=fun w=>by kernel_rfl
    clear a2 hop;go_wp2_with fail;refine(VC _ _ _ _ _ _ _).mono ?_;rintro e w5 ⟨g5,rfl,O5,f5⟩;replace O:=Qd O (Qi f5) trivial;have F5:=Qc (FF.o.trans (f5.mono (by omega)));obtain⟨I9,Hi9,Hz9,Hs9,Hb9⟩:=info_parts Tryz.info145;go_wp2_with (at_builtin;refine Qv ?_);refine Qc ?_;refine wpList_append_own w5 rfl _ _ 154 rfl (w.heap.size+1) 145 I9 (.agg #[.int .i64 0,.int .i64 0]) 2 16 Tryz.underlying154 Hi9 Hz9 Hs9 Hb9 rfl (by decide) _ _ _ rfl O ⟨g5,0,none⟩ 2 2 (pcs [r.e.one,r.e.two]) rfl rfl (O5.cells rfl) (List.all_eq_true.1 rfl) (by unfold maxLen;omega) (by omega) (by have:=f5.size;omega) ?_;intro v6 w6 o6 gr6 _;have F6:=Qc (Below.grown F5.o gr6 (by have:=f5.size;omega) (fun j hj=>by have:=(O.lt j hj).1;omega));obtain⟨p6,c6,rfl⟩:=Qb o6;clear gr6;go_wp2_with fail;go_ret;refine⟨_,rfl,?_,F6.o⟩;rw[HAG.o,List.length_append];have:=Qm (base':=w.heap.size) o6 (by omega);simpa[pcs] using this
theorem Q8.at{w base}:∀{cs vs},Q8 w base cs vs→∀{k}(hk:k<cs.length),∃v,vs[k]?=some v∧(cs[k].e.op=46∨cs[k].e.op=62∨cs[k].e.op=63)∧Ks w base cs[k] v.1 v.2
 | [],[],_,k,hk=>absurd hk (by simp)
 | c::cs,v::vs,h,0,_=>⟨v,rfl,h.1.1,h.1.2⟩
 | c::cs,v::vs,h,k+1,hk=>by
  obtain⟨u,a,b,d⟩:=Q8.at h.2 (k:=k) (by simpa using hk);exact⟨u,by simpa using a,by simpa using b,by simpa using d⟩
 | [],_::_,h,_,_=>h.elim
 | _::_,[],h,_,_=>h.elim
theorem PBs.at{w:World}{base:Nat}{cs:List Ql}{p:Option Addr}{m cap:Nat}(h:PBs w base cs (.slice p m cap)){k:Nat}(hk:k<cs.length):
  ∃g qc cc ps cs1,p=some ⟨g,0,none⟩∧base≤g∧g<w.heap.size∧(cs[k].e.op=46∨cs[k].e.op=62∨cs[k].e.op=63)∧X1 w base cs[k].chs (.slice qc cs[k].chs.length cc)∧w.ownsRow base 150 1 (.slice ps cs[k].sts.length cs1) cs[k].sts.length (cs[k].sts.map QE) ∧
   w.cell? ⟨g,k*4,none⟩=some (.int .i64 cs[k].at_)∧w.cell? ⟨g,k*4+1,none⟩=some (.slice qc cs[k].chs.length cc)∧w.cell? ⟨g,k*4+2,none⟩=some (.slice ps cs[k].sts.length cs1)∧w.cell? ⟨g,k*4+3,none⟩=some (QP cs[k].e):=by
 obtain⟨vs,a,b⟩:=h;obtain⟨v,hv,hc,hs⟩:=b.at hk;obtain⟨p',c',e1⟩:=Qb a;cases e1;obtain⟨g,rfl,hb,hg⟩:=Qh a (by omega);obtain⟨qc,cc,e2⟩:=hs.1.slice;obtain⟨ps,cs1,e3⟩:=Qb hs.2;have hl:∀x∈List.zipWith (fun (c:Ql)(v:Value×Value)=>QT c v.1 v.2) cs vs,x.length=4:=by
  intro x hx;rw[List.mem_iff_getElem?]at hx;obtain⟨n,hn⟩:=hx;rw[List.getElem?_zipWith]at hn;split at hn
  ·cases hn;rfl
  ·cases hn
 have hk2:(List.zipWith (fun (c:Ql)(v:Value×Value)=>QT c v.1 v.2) cs vs)[k]?=some (QT cs[k] v.1 v.2):=by rw[List.getElem?_zipWith,hv,List.getElem?_eq_getElem hk]
 have F:=fun j hj=>ZS 4 _ k j _ hl hk2 hj;refine⟨g,qc,cc,ps,cs1,rfl,hb,hg,hc,by rw[←e2];exact hs.1,by rw[←e3];exact hs.2,?_,?_,?_,?_⟩
 ·exact Qe a (F 0 (by omega))
 ·rw[←e2];exact Qe a (F 1 (by omega))
 ·rw[←e3];exact Qe a (F 2 (by omega))
 ·exact Qe a (F 3 (by omega))
def QaB(p:Int)(w:World)(e:Ending)(w':World):Prop:=
 (0≤p∧e=.returned (.tuple #[.int .i64 p,.bool true])∧Below w.heap.size w w')∨(p<0∧e=.returned (.tuple #[.int .i64 0,.bool false])∧Below w.heap.size w w')
theorem Qcc{bs:List Ql}(h:(bs.flatMap Kf).find? (Xd bs.length)=none):ZR bs<0:=by rw[ZR,h];decide
theorem UR{bs:List Ql}{g:Nat×Nat}(h:(bs.flatMap Kf).find? (Xd bs.length)=some g):ZR bs=g.2:=by rw[ZR,h];rfl
theorem Uu(bs:List Ql)(base:Nat)(v:Value)(w:World)(h:PBs w base bs v)(hl:bs.length≤400000)(hc1:∀b∈bs,b.chs.length≤400000)(hc2:∀b∈bs,(chG b).length≤50000000000):
  Calls Tryz.prog 68 #[v] w fun x w'=>QaB (ZR bs) w x w':=by
 obtain⟨pv,cv,rfl⟩:=h.slice;go_enter Tryz.func68,Tryz.ntmps68;go_wp2_with fail
 go_loopw [10] (fun i wr=>∃m:Nat,m≤bs.length∧i=.int .i64 m∧Hid (((bs.take m).flatMap Kf).find? (Xd bs.length)=none)∧Hid (Below w.heap.size w wr)) (fun i _=>bs.length-(intOf i).toNat)
 case atStart=>exact⟨0,by omega,rfl,by simp[Hid],Below.refl _ _⟩
 case round=>
  obtain⟨m,hm,rfl,H1,F⟩:=hrel;by_cases hlt:m<bs.length
  ·have hB:=h.keeps (Qs.below F.o);obtain⟨g,qc,cc,ps,cs1,rfl,_,hgz,hop,OC,OS,d0,d1,d2,d3⟩:=hB.at hlt;have L1:=hc1 _ (List.getElem_mem hlt);have L2:=hc2 _ (List.getElem_mem hlt);obtain⟨T,x,hev⟩:=QU bs[m].e;have HEV:=Qc hev;rw[hev]at d3;have hz0:=F.o.size;have HOP:=Qc hop;clear hB hev hop;go_wp2_with fail;have HG:=No bs[m] base qc cc (.slice ps bs[m].sts.length cs1) (wr.alloc (.cells #[.int .i64 bs[m].at_,.slice qc bs[m].chs.length cc,.slice ps bs[m].sts.length cs1,.iface T x] 104)) (OC.keeps (Qs.alloc _ T4 _ _) (by simp[T4]) (by simp[T4])) ⟨_,_,_,rfl⟩ HOP.o L1 L2;rw[HEV.o]at HG;refine HG.mono ?_;rintro e w1 ⟨vg,rfl,OG,f1⟩;have F2:Hid (Below w.heap.size w w1):=(F.o.alloc hz0 _).trans (f1.mono (by rw[World.size_alloc];omega));obtain⟨pg,cg,rfl⟩:=Qb OG;have hal:(Kf bs[m]).length≤50000000002:=by
    have:=Zx bs[m].e;rw[Kf,List.length_append];omega
   clear HG d0 d1 d2 d3 OC OS f1;generalize hag:Kf bs[m]=ag at *;have HAG:=Qc hag;clear hag;go_wp2_with fail
   go_loopw [17] (fun j wz=>∃t:Nat,t≤ag.length∧j=.int .i64 t∧Hid ((ag.take t).find? (Xd bs.length)=none)∧Hid (Below w1.heap.size w1 wz)) (fun j _=>ag.length-(intOf j).toNat)
   case atStart=>exact⟨0,by omega,rfl,by simp[Hid],Below.refl _ _⟩
   case round=>
    obtain⟨t,ht,rfl,H3,F3⟩:=hrel;have hz3:=F3.o.size;have hz2:=F2.o.size;have OG2:=Qd OG (Qi F3.o) trivial;by_cases htl:t<ag.length
    ·obtain⟨gf,rfl,_,hgf⟩:=Qh OG2 (by omega);have f0:=Qe OG2 (QX htl).1;have f1:=Qe OG2 (QX htl).2;by_cases hst:bs.length≤ag[t].1
     ·have HP:Hid (ZR bs=ag[t].2):=UR (XA hlt H1.o (by rw[HAG.o];exact XB htl H3.o (by simpa[Xd] using hst)));go_wp2_with fail
      go_ret2
      exact .inl ⟨by rw[HP.o];omega,by rw[HP.o];rfl,F2.o.trans ((F3.o.alloc hz3 _).mono (by omega))⟩
     ·have H3':=Qc (Xk htl H3.o (by simpa[Xd] using hst));go_wp2_with fail;go_roundw
      case rel=>exact⟨t+1,by omega,by go_num,H3',F3.o.alloc hz3 _⟩
      case measure=>simp[intOf];omega
    ·have H1':Hid (((bs.take (m+1)).flatMap Kf).find? (Xd bs.length)=none):=XZ hlt H1.o (by rw[HAG.o];have:=H3.o;rwa [List.take_of_length_le (by omega)]at this);have F4:=Qc (F2.o.trans (F3.o.mono hz2));go_wp2_with fail;go_roundw
     case rel=>exact⟨m+1,by omega,by go_num,H1',F4⟩
     case measure=>simp[intOf];omega
  ·have HP:Hid (ZR bs<0):=by
    have:=H1.o;rw[List.take_of_length_le (by omega)]at this;exact Qcc this
   go_wp2_with fail
   go_ret2
   exact .inr ⟨HP.o,rfl,F.o⟩
theorem Tryz.info143:(Tryz.prog.info? 143).map (fun i=>(i.zero,i.size,i.bytes))=some (some (.int .i64 0),1,8):=by kernel_rfl
theorem Tryz.info78:(Tryz.prog.info? 78).map (fun i=>(i.zero,i.size,i.bytes))=some (some (.int .i64 0),1,8):=by kernel_rfl
theorem ZI{l:List Nat}{j:Nat}(hj:j<l.length):(Qg l)[j]?=some (.int .i64 l[j]):=by simp[Qg,hj]
def eqF(a b:List Nat):Bool:=decide (a=b)
theorem Qbi{a b:List Nat}(h:a.length≠b.length):eqF a b=false:=by simp[eqF];intro e;exact h (by rw[e])
theorem Qbj{a b:List Nat}(h:a.length=b.length)(hx:∀j,(h1:j<a.length)→(h2:j<b.length)→a[j]=b[j]):eqF a b=true:=by
 simp[eqF];exact List.ext_getElem h (fun i h1 h2=>hx i h1 h2)
theorem Qer{a b:List Nat}{j:Nat}(h1:j<a.length)(h2:j<b.length)(h:a[j]≠b[j]):eqF a b=false:=by
 simp[eqF];intro e;subst e;exact h rfl
theorem U5(a b:List Nat)(B1 B2:Nat)(va vb:Value)(w:World)(ha:w.ownsRow B1 143 1 va a.length (Qg a))(hb:w.ownsRow B2 143 1 vb b.length (Qg b))(la:a.length≤1000000)(lb:b.length≤1000000):
  Calls Tryz.prog 160 #[va,vb] w fun x w'=>x=.returned (.bool (eqF a b))∧∃n,w'=w.drewN n:=by
 obtain⟨p1,c1,rfl⟩:=Qb ha;obtain⟨p2,c2,rfl⟩:=Qb hb;by_cases hl:a.length=b.length
 ·have hl':((a.length:Int) != (b.length:Int))=false:=by simp;omega
  have HL:=Qc hl;clear hl;go_enter Tryz.func160,Tryz.ntmps160;go_wp2_with fail
  go_loopw [13] (fun i wr=>∃k n:Nat,k≤a.length∧i=.int .i64 k∧wr=w.drewN n∧Hid (∀j,j<k→(h1:j<a.length)→(h2:j<b.length)→a[j]=b[j])) (fun i _=>a.length-(intOf i).toNat)
  case atStart=>exact⟨0,0,by omega,rfl,rfl,fun j hj=>by omega⟩
  case round=>
   obtain⟨k,n,hk,rfl,rfl,HE⟩:=hrel;by_cases hlt:k<a.length
   ·have hlb:k<b.length:=by have:=HL.o;omega
    obtain⟨g1,rfl,_,_⟩:=Qh ha (by omega);obtain⟨g2,rfl,_,_⟩:=Qh hb (by omega);have f1:=Qe ha (ZI hlt);have f2:=Qe hb (ZI hlb);by_cases he:a[k]=b[k]
    ·have he':((a[k]:Int) != (b[k]:Int))=false:=by simp;omega
     have HE2:Hid (∀j,j<k+1→(h1:j<a.length)→(h2:j<b.length)→a[j]=b[j]):=fun j hj h1 h2=>by
      rcases Nat.lt_succ_iff_lt_or_eq.1 hj with hj|rfl
      ·exact HE.o j hj h1 h2
      ·exact he
     clear he;go_wp2_with fail
     go_quiet (fail)
     go_wp2_with fail;go_roundw
     case rel=>exact⟨k+1,n+nq,by omega,by go_num,by simp,HE2⟩
     case measure=>simp[intOf];omega
    ·have he':((a[k]:Int) != (b[k]:Int))=true:=by simp;omega
     have HN:=Qc (Qer hlt hlb he);clear he;go_wp2_with fail
     go_quiet (fail)
     go_wp2_with fail;go_ret;exact⟨by rw[HN.o];rfl,n+nq,by simp⟩
   ·have HN:=Qc (Qbj HL.o (fun j h1 h2=>HE.o j (by omega) h1 h2));go_wp2_with fail;go_ret;exact⟨by rw[HN.o];rfl,n,rfl⟩
 ·have hl':((a.length:Int) != (b.length:Int))=true:=by simp;omega
  have HN:=Qc (Qbi hl);clear hl;go_enter Tryz.func160,Tryz.ntmps160;go_wp2_with fail;go_ret;exact⟨by rw[HN.o];rfl,0,rfl⟩
theorem Zz{w:World}{base e g n cap:Nat}{xs:List Value}(h:w.ownsRow base e 1 (.slice (some ⟨g,0,none⟩) n cap) n xs)(j:Nat)(x:Value):(w.setCell ⟨g,j,none⟩ x).ownsRow base e 1 (.slice (some ⟨g,0,none⟩) n cap) n (xs.set j x):=by
 obtain⟨h1,h2⟩:=h;refine⟨by simpa using h1,?_⟩;rcases h2 with ⟨h0,_⟩|⟨g',cap',cur,hv,a,c,d,e1,e2,e3⟩
 ·cases h0
 ·cases hv;refine .inr ⟨g,cap,cur.setIfInBounds j x,rfl,a,Qp c j x,d,e1,by simpa using e2,?_⟩;rw[Array.toList_setIfInBounds,←e3,List.take_set]
theorem XE{w:World}{base e size g n cap:Nat}{xs:List Value}(h:w.ownsRow base e size (.slice (some ⟨g,0,none⟩) n cap) n xs)(o:Nat):w.frozen? ⟨g,o,none⟩=false:=by
 rcases h.2 with ⟨h0,_⟩|⟨g',cap',cur,hv,a,c,d⟩
 ·cases h0
 ·cases hv;exact Qf c o
theorem Qs.storeRow{w:World}{base base' e g n cap:Nat}{xs:List Value}{T:TypeId→Prop}(h:w.ownsRow base' e 1 (.slice (some ⟨g,0,none⟩) n cap) n xs)(he:¬T e)(j:Nat)(x:Value):Qs base T w (w.setCell ⟨g,j,none⟩ x):=by
 intro k cur e2 _ ht hh;refine Qo hh ?_ j x;intro e1;subst e1;rcases h.2 with ⟨h0,_⟩|⟨g',cap',cur',hv,a,c,d⟩
 ·cases h0
 ·cases hv;rw[hh]at c;cases c;exact he ht
theorem Y9(z:Value)(hz:z.cells=#[z])(n:Nat):(madeCells z.cells (n*1)).toList=List.replicate n z:=by
 rw[hz,Nat.mul_one];apply List.ext_getElem
 ·simp[madeCells]
 ·intro i h1 h2;simp[madeCells,Nat.mod_one]
def half(l:List (Nat×Nat))(t:Nat):List Value:=Qg (Q3 (l.take t))++List.replicate (l.length-t) (.int .i64 0)
theorem Qch(l):half l 0=List.replicate l.length (.int .i64 0):=by simp[half,Qg,Q3]
theorem Qea(l):half l l.length=Qg (Q3 l):=by simp[half]
theorem Qd8{l:List (Nat×Nat)}{t:Nat}(ht:t<l.length):(half l t).set t (.int .i64 l[t].1)=half l (t+1):=by
 apply List.ext_getElem
 ·simp[half,Qg,Q3];omega
 ·intro i h1 h2;simp only[half,Qg,Q3,List.length_set,List.length_append,List.length_map,List.length_take,List.length_replicate]at h1 h2;rw[List.getElem_set];by_cases hi:t=i
  ·subst hi;rw[if_pos rfl];simp only[half,Qg,Q3];rw[List.getElem_append_left (by simp;omega)];simp
  ·rw[if_neg hi];simp only[half,Qg,Q3];by_cases hl:i<t
   ·rw[List.getElem_append_left (by simp;omega),List.getElem_append_left (by simp;omega)];simp
   ·rw[List.getElem_append_right (by simp;omega),List.getElem_append_right (by simp;omega)];simp
theorem Qd9(l t)(h:t≤l.length):(half l t).length=l.length:=by simp[half,Qg,Q3];omega
theorem G9(c:QH)(base:Nat)(vs:Value)(w:World)(h:w.ownsRow base 147 4 vs c.gs.length (QQ c.gs c.rs))(hgl:c.gs.length=c.rs.length)(hc:c.gs.length≤400000):
  Calls Tryz.prog 161 #[.agg #[.int .i64 c.to.1,.int .i64 c.to.2,vs]] w fun x w'=>∃v,x=.returned v∧w'.ownsRow w.heap.size 143 1 v (Q3 c.gs).length (Qg (Q3 c.gs))∧Below w.heap.size w w':=by
 obtain⟨pv,cv,rfl⟩:=Qb h;have HGL:=Qc hgl;clear hgl;obtain⟨I9,Hi9,Hz9,Hs9,Hb9⟩:=info_parts Tryz.info143;go_enter Tryz.func161,Tryz.ntmps161;go_wp2_with (at_make;refine Qv ?_);refine Qc ?_;refine wpList_make_full _ rfl _ _ 80 rfl (w.heap.size+1) 143 I9 (.int .i64 0) 1 Tryz.underlying80 Hi9 Hz9 Hs9 .i64 .i64 _ _ c.gs.length rfl rfl rfl rfl (by rw[Hb9];omega) (by unfold maxLen;omega) (by simp) ?_;intro w1 o1 g1;rw[Y9 _ rfl,←Qch,World.size_alloc]at o1;rw[World.size_alloc];have F1:Below w.heap.size w w1:=Below.grown ((Below.refl _ _).alloc (Nat.le_refl _) _) g1 (by simp) (fun k hk=>by cases hk);have hz1:w.heap.size+1≤w1.heap.size:=by have:=g1.size;rw[World.size_alloc]at this;exact this
 have gb:w1.heap[w.heap.size]?=some (.cells #[.int .i64 c.to.1,.int .i64 c.to.2,.slice pv c.gs.length cv] 140 (0,0)):=Qz g1 (heap_alloc_last w _) (fun j hj=>by cases hj);have h1:=Qd (h.alloc (.cells #[.int .i64 c.to.1,.int .i64 c.to.2,.slice pv c.gs.length cv] 140)) (T:=fun _=>True) (fun g cur e _ _ hh=>Qz g1 hh (fun j hj=>by cases hj)) trivial;have qb:=Qa gb 2;simp at qb;clear g1 gb;go_wp2_with fail
 go_loopw [13] (fun k wr=>∃t:Nat,t≤c.gs.length∧k=.int .i64 t∧wr.ownsRow (w.heap.size+1) 143 1 (.slice (some ⟨w.heap.size+1,0,none⟩) c.gs.length c.gs.length) c.gs.length (half c.gs t)∧Hid (Below w.heap.size w wr)∧wr.ownsRow base 147 4 (.slice pv c.gs.length cv) c.gs.length (QQ c.gs c.rs)∧w.heap.size+1≤wr.heap.size) (fun k _=>c.gs.length-(intOf k).toNat)
 case atStart=>exact⟨0,by omega,rfl,o1,F1,h1,hz1⟩
 case round=>
  clear o1 F1 h1 qb hz1;obtain⟨t,ht,rfl,O,F,OF,hz⟩:=hrel;by_cases htl:t<c.gs.length
  ·obtain⟨gf,rfl,_,hgf⟩:=Qh OF (by omega);have f0:=Qe OF (QF HGL.o htl).1;have f1:=Qe OF (QF HGL.o htl).2.1;have f2:=Qe OF (QF HGL.o htl).2.2.1;have f3:=Qe OF (QF HGL.o htl).2.2.2;have hlen:=Qd9 c.gs t ht;have s0:wr.cell? ⟨w.heap.size+1,t,none⟩=some ((half c.gs t)[t]'(by omega)):=Qe O (List.getElem?_eq_getElem (by omega));have s1:=XE O t;have ll:w.heap.size+1<wr.heap.size:=(O.lt _ rfl).2;generalize (half c.gs t)[t]'(by omega)=old at s0;clear hlen;go_wp2_with fail;refine⟨⟨t+1,by omega,by go_num,?_,?_,?_,?_⟩,by simp[intOf];omega⟩
   ·rw[←Qd8 htl];exact(Zz O t _).alloc _
   ·exact(F.o.setCell (p:=⟨w.heap.size+1,t,none⟩) (show w.heap.size≤w.heap.size+1 by omega) _).alloc (by rw[Zo];omega) _
   ·exact(Qd OF (Qs.storeRow (T:=fun e=>e=147) O (by decide) t _) rfl).alloc _
   ·rw[World.size_alloc,Zo];omega
  ·have hte:t=c.gs.length:=by omega
   subst hte;rw[Qea]at O;go_wp2_with fail;go_ret;refine⟨_,rfl,?_,F.o⟩;have:=Qm (base':=w.heap.size) O (by omega);simpa[Q3] using this
end Go.Proofs.YtgfhfkgdmidhpaaGreatDoor
