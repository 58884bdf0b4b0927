import Derived.Test.YtgfhfkgdmidhpaaGreatDoorM18
import Derived.Test.YtgfhfkgdmidhpaaGreatDoorM17
import Derived.WalkMore
namespace Go.Proofs.YtgfhfkgdmidhpaaGreatDoor
open Go.RowKit
open Go.Proofs.Tryz
set_option maxRecDepth 100000
set_option maxHeartbeats 8000000
theorem JM{i:Nat}{bad:Int}:¬Ja i bad<0:=by unfold Ja;split<;>omega
theorem Zz{s i bad c}(h:mustB s i bad c<0):bad<0∧gotI s i bad c=i+1∧mustB s i bad c=bad:=by
 unfold mustB at h ⊢;unfold gotI
 cases ho:onF s i bad c with
 | true=>rw[ho,if_pos rfl]at h;exact⟨h,rfl,rfl⟩
 | false=>rw[ho,if_neg (by simp)]at h;exact absurd h JM
theorem Qc6{s bad fm}(k i n:Nat):i≤(Zm s bad fm k i n).2:=by
 induction k generalizing i n with
 | zero=>exact Qi _
 | succ k ih=>
  rw[Zm];split
  ·exact Qy (Nat.le_succ i) (ih _ _)
  ·exact Qi _
theorem X8{s i bad}(h:Zx s i bad<0):bad<0∧i+1≤numI s i bad∧Zx s i bad=bad:=by
 unfold Zx at h ⊢;unfold numI
 cases ho:Zr s i bad with
 | true=>
  rw[ho,if_pos rfl]at h;refine⟨h,?_,rfl⟩;rw[if_pos rfl,Zm,ho,show (i==i)=true from by simp,Bool.true_or,Bool.and_true,if_pos rfl];exact Qc6 _ _ _
 | false=>rw[ho,if_neg (by simp)]at h;exact absurd h JM
theorem X5{s i bad}(h:regB s i bad<0):bad<0∧i+2≤regI s i bad∧regB s i bad=bad:=by
 unfold regB at h ⊢;unfold regI;obtain⟨h1,h2,h3⟩:=X8 h;obtain⟨k1,k2,k3⟩:=Zz h1;refine⟨k1,?_,by rw[h3,k3]⟩;have:i+1≤gotI s i bad 114:=by omega
 omega
def Asc(l:List (Nat×Nat)):Prop:=l.Pairwise fun a b=>a.2<b.2
def Wi(i j:Nat)(l:List (Nat×Nat)):Prop:=∀x∈l,i≤x.2∧x.2<j
theorem Asc.app{l k:List (Nat×Nat)}{i j m:Nat}(h1:Asc l)(h2:Asc k)(w1:Wi i j l)(w2:Wi j m k):Asc (l++k):=
 List.pairwise_append.2 ⟨h1,h2,fun a ha b hb=>QH (w1 a ha).2 (w2 b hb).1⟩
theorem Wi.app{l k:List (Nat×Nat)}{i j m:Nat}(w1:Wi i j l)(w2:Wi j m k)(h:i≤j)(h2:j≤m):Wi i m (l++k):=fun x hx=>by
 rcases QB.1 hx with hx|hx
 ·have:=w1 x hx;omega
 ·have:=w2 x hx;omega
theorem Wi.mono{l:List (Nat×Nat)}{i j i' j':Nat}(w:Wi i j l)(h:i'≤i)(h2:j≤j'):Wi i' j' l:=fun x hx=>by have:=w x hx;omega
theorem Wi.nil{i j}:Wi i j []:=fun x hx=>absurd hx (by simp)
theorem Wi.one{i j n}(h:i<j):Wi i j [(n,i)]:=fun x hx=>by rw[QF]at hx;subst hx;exact⟨Qi _,h⟩
theorem Asc.one{x}:Asc [x]:=List.pairwise_singleton _ _
def Yg(t:Qz):List (Nat×Nat):=if t.op=118 then [] else if t.op=99 then [t.a] else if t.op=33 then [t.a] else if t.op=63 then [] else [t.a,t.b]
def Y4(t:Qz):List (Nat×Nat):=(if t.op=33 then [] else [t.to])++Yg t
def Kc(c:Q0):List (Nat×Nat):=c.to::c.rs
def Nz(e:Z6):List (Nat×Nat):=if e.op=63 then [e.a] else []
def JV(chs:List Q0)(sts:List Qz):List (Nat×Nat):=chs.flatMap Kc++sts.flatMap Y4
def Yn(b:Qm):List (Nat×Nat):=JV b.chs b.sts++Nz b.e
def Dum(t:Qz):Prop:=(t.op=118→t.a.1=0∧t.b.1=0)∧(t.op=63→t.a.1=0∧t.b.1=0)∧(t.op=99→t.b.1=0)∧(t.op=33→t.to.1=0∧t.b.1=0)
theorem Qeq(s i bad):opC s i bad=0∨opC s i bad=43∨opC s i bad=45∨opC s i bad=42∨opC s i bad=60:=by
 unfold opC
 repeat' split
 all_goals simp
theorem QbL{s i bad}:i≤opI s i bad:=by
 unfold opI gotI
 repeat' split
 all_goals omega
theorem Ru{s i bad}(h:opB s i bad<0):bad<0:=by
 unfold opB at h
 repeat' split at h
 all_goals first
  | exact h
  | exact(Zz h).1
theorem QbK{s i bad}:opC s i bad≠0→i+1≤opI s i bad:=by
 unfold opC opI
 repeat' split
 all_goals first
  | (intro;omega)
  | (intro;unfold gotI;split<;>omega)
structure Qk4(to:Nat×Nat)(i:Nat)(bad:Int)(g:Giv):Prop where
 neg:bad<0
 gi:i+1≤g.i
 ok:OkS (QK g.st)
 dum:Dum g.st
 to:g.st.op≠33∧g.st.to=to
 asc:Asc (Yg g.st)
 wi:Wi i g.i (Yg g.st)
theorem Qfy{s to i bad}(h:(givF s to i bad).bad<0)(ht:to.1<10000):Qk4 to i bad (givF s to i bad):=by
 revert h;unfold givF;by_cases h1:onF s i bad 63=true
 ·rw[if_pos h1];intro h;exact⟨h,Nat.le_refl _,ht,⟨fun e=>by simp at e,fun _=>⟨rfl,rfl⟩,fun e=>by simp at e,fun e=>by simp at e⟩,⟨by simp,rfl⟩,List.Pairwise.nil,Wi.nil⟩
 rw[if_neg h1];by_cases h2:onF s i bad 114=true
 ·rw[if_pos h2];by_cases h3:opC s (regI s i bad) (regB s i bad)=0
  ·dsimp only;rw[if_pos h3];intro h;have b1:=Ru h;obtain⟨c1,c2,c3⟩:=X5 b1;have c4:regI s i bad≤opI s (regI s i bad) (regB s i bad):=QbL;exact⟨c1,by show i+1≤opI s (regI s i bad) (regB s i bad);omega,⟨ht,Xo _ _ _⟩,⟨fun e=>by simp at e,fun e=>by simp at e,fun _=>rfl,fun e=>by simp at e⟩,⟨by simp,rfl⟩,Asc.one,Wi.one (show i<opI s (regI s i bad) (regB s i bad) by omega)⟩
  ·dsimp only;rw[if_neg h3];intro h;obtain⟨d1,d2,d3⟩:=X5 h;have b1:=Ru d1;have b2:=QbK h3;obtain⟨c1,c2,c3⟩:=X5 b1;generalize hI:opI s (regI s i bad) (regB s i bad)=I at *;generalize hJ:regI s I (opB s (regI s i bad) (regB s i bad))=J at *;have hR:∀o,o=43∨o=45∨o=42∨o=60→Qk4 to i bad ⟨⟨o,to,(regN s i bad,i),(regN s I (opB s (regI s i bad) (regB s i bad)),I),0⟩,J,regB s I (opB s (regI s i bad) (regB s i bad))⟩:=by
    intro o ho;have e1:QK ⟨o,to,(regN s i bad,i),(regN s I (opB s (regI s i bad) (regB s i bad)),I),0⟩=.op o to.1 (regN s i bad) (regN s I (opB s (regI s i bad) (regB s i bad))):=by
     unfold QK;rw[if_neg (by show ¬o=118;omega),if_neg (by show ¬o=99;omega),if_neg (by show ¬o=33;omega),if_neg (by show ¬o=63;omega)]
    have e2:Yg ⟨o,to,(regN s i bad,i),(regN s I (opB s (regI s i bad) (regB s i bad)),I),0⟩=[(regN s i bad,i)]++[(regN s I (opB s (regI s i bad) (regB s i bad)),I)]:=by
     unfold Yg;rw[if_neg (by show ¬o=118;omega),if_neg (by show ¬o=99;omega),if_neg (by show ¬o=33;omega),if_neg (by show ¬o=63;omega)];rfl
    refine⟨c1,by show i+1≤J;omega,?_,⟨fun e=>?_,fun e=>?_,fun e=>?_,fun e=>?_⟩,⟨by show o≠33;omega,rfl⟩,?_,?_⟩
    ·show OkS (QK _);rw[e1];exact⟨ho,ht,Xo _ _ _,Xo _ _ _⟩
    ·have e:o=118:=e;omega
    ·have e:o=63:=e;omega
    ·have e:o=99:=e;omega
    ·have e:o=33:=e;omega
    ·show Asc (Yg _);rw[e2];exact Asc.app Asc.one Asc.one (Wi.one (j:=I) (by omega)) (Wi.one (j:=J) (by omega))
    ·show Wi i J (Yg _);rw[e2];exact Wi.app (Wi.one (j:=I) (by omega)) (Wi.one (j:=J) (by omega)) (by omega) (by omega)
   refine hR _ ?_;rcases Qeq s (regI s i bad) (regB s i bad) with e|e|e|e|e
   ·exact absurd e h3
   ·exact .inl e
   ·exact .inr (.inl e)
   ·exact .inr (.inr (.inl e))
   ·exact .inr (.inr (.inr e))
 rw[if_neg h2];have dm:∀n:Int,Dum ⟨118,to,(0,0),(0,0),n⟩:=fun n=>⟨fun _=>⟨rfl,rfl⟩,fun e=>by simp at e,fun e=>by simp at e,fun e=>by simp at e⟩;by_cases h4:onF s i bad 45=true
 ·rw[if_pos h4];dsimp only;intro h;obtain⟨c1,c2,c3⟩:=X8 h;have c4:bad<0:=by
   split at c1
   ·exact absurd c1 JM
   ·exact c1
  refine⟨c4,by dsimp only;omega,⟨ht,?_⟩,dm _,⟨by simp,rfl⟩,List.Pairwise.nil,Wi.nil⟩;have:=Xo s (i+1) (if onF s (i+1) bad 48=true then Ja (i+1) bad else bad);show (-(numN s (i+1) _:Int)).natAbs<10000;omega
 ·rw[if_neg h4];dsimp only;intro h;obtain⟨c1,c2,c3⟩:=X8 h;refine⟨c1,c2,⟨ht,?_⟩,dm _,⟨by simp,rfl⟩,List.Pairwise.nil,Wi.nil⟩;have:=Xo s i bad;show ((numN s i bad:Int)).natAbs<10000;omega
theorem QfQ{s c}(h:(choR s c).bad<0):c.bad<0∧∃j n g,(choR s c).rs=c.rs++[(n,j)]∧(choR s c).gs=c.gs++[g]∧c.i+2≤j∧j+2≤(choR s c).i:=by
 have h:regB s (gotI s (numI s c.i c.bad) (Zx s c.i c.bad) 58) (mustB s (numI s c.i c.bad) (Zx s c.i c.bad) 58)<0:=h;obtain⟨a1,a2,_⟩:=X5 h;obtain⟨b1,b2,_⟩:=Zz a1;obtain⟨c1,c2,_⟩:=X8 b1;exact⟨c1,gotI s (numI s c.i c.bad) (Zx s c.i c.bad) 58,_,_,rfl,rfl,by omega,a2⟩
theorem U4{s:ByteArray}{i1:Nat}:∀(k:Nat)(c:Cho),(ZO s k c).bad<0→i1+5*c.gs.length≤c.i→Asc c.rs→Wi i1 c.i c.rs →
  c.bad<0∧i1+5*(ZO s k c).gs.length≤(ZO s k c).i+1∧Asc (ZO s k c).rs∧Wi i1 (ZO s k c).i (ZO s k c).rs∧c.gs.length+(if k=0 then 0 else 1)≤(ZO s k c).gs.length
 | 0,c,h,hl,ha,hw=>⟨h,by show i1+5*c.gs.length≤c.i+1;omega,ha,hw,by show c.gs.length+0≤c.gs.length;omega⟩
 | k+1,c,h,hl,ha,hw=>by
  rw[ZO]at h ⊢;have hb:(choR s c).bad<0:=by
   cases ho:onF s (choR s c).i (choR s c).bad 44 with
   | true=>exact(Zf ho).1
   | false=>rw[ho,if_neg (by simp)]at h;exact h
  obtain⟨c1,j,n,g,e1,e2,l1,l2⟩:=QfQ hb;have ha':Asc (choR s c).rs:=by rw[e1];exact Asc.app ha Asc.one hw ((Wi.one (j:=j+1) (by omega)).mono (by omega) (Qi _))
  have hw':Wi i1 (choR s c).i (choR s c).rs:=by
   rw[e1];exact(hw.mono (Qi _) (show c.i≤j by omega)).app (Wi.one (j:=(choR s c).i) (by omega)) (by omega) (by omega)
  have hl':(choR s c).gs.length=c.gs.length+1:=by rw[e2,Qw,List.length_singleton]
  cases ho:onF s (choR s c).i (choR s c).bad 44 with
  | true=>
   rw[ho,if_pos rfl]at h;rw[if_pos rfl];have eg:gotI s (choR s c).i (choR s c).bad 44=(choR s c).i+1:=by rw[gotI,ho];rfl
   rw[eg]at h ⊢;obtain⟨_,r2,r3,r4,r5⟩:=U4 k ⟨(choR s c).gs,(choR s c).rs,(choR s c).i+1,(choR s c).bad⟩ h (by show i1+5*(choR s c).gs.length≤(choR s c).i+1;rw[hl'];omega) ha' (hw'.mono (Qi _) (Nat.le_succ _));refine⟨c1,r2,r3,r4,?_⟩;have r5:(choR s c).gs.length+_≤_:=r5;rw[if_neg (by omega)];omega
  | false=>
   have eg:gotI s (choR s c).i (choR s c).bad 44=(choR s c).i:=by rw[gotI,ho];rfl
   rw[if_neg (by simp),eg];refine⟨c1,?_,ha',hw',?_⟩
   ·show i1+5*(choR s c).gs.length≤(choR s c).i+1;rw[hl'];omega
   ·show c.gs.length+_≤(choR s c).gs.length;rw[if_neg (by omega),hl'];omega
theorem QfP{s i bad}(h:(choF s i bad).bad<0):bad<0∧i+5*(choF s i bad).gs.length≤(choF s i bad).i∧Asc (choF s i bad).rs∧Wi i (choF s i bad).i (choF s i bad).rs∧0<(choF s i bad).gs.length:=by
 have key:=U4 (s:=s) (i1:=gotI s i bad 64) (s.size+1) { gs:=[],rs:=[],i:=gotI s i bad 64,bad:=mustB s i bad 64 } h (by simp) List.Pairwise.nil Wi.nil;have er:ZO s (s.size+1) { gs:=[],rs:=[],i:=gotI s i bad 64,bad:=mustB s i bad 64 }=choF s i bad:=rfl;rw[er]at key;obtain⟨a1,a2,a3,a4,a5⟩:=key;obtain⟨b1,b2,_⟩:=Zz a1;rw[if_neg (by omega)]at a5;generalize choF s i bad=r at *;rw[b2]at a2 a4;have a5:0+1≤r.gs.length:=a5;exact⟨b1,by omega,a3,a4.mono (Nat.le_succ _) (Qi _),by omega⟩
def chW(chs:List Q0):Nat:=(chs.map fun c=>3+5*c.gs.length).sum
structure J(i0:Nat)(chs:List Q0)(sts:List Qz)(i:Nat):Prop where
 w:i0+4*sts.length+chW chs≤i
 asc:Asc (JV chs sts)
 wi:Wi i0 i (JV chs sts)
 ch:∀c∈chs,0<c.gs.length
 st:∀t∈sts,OkS (QK t)∧Dum t
theorem J.step{i0 chs sts i j}(h:J i0 chs sts i)(t:Qz)(hi:i+4≤j)(ha:Asc (Y4 t))(hw:Wi i j (Y4 t))(hk:OkS (QK t))(hd:Dum t):J i0 chs (sts++[t]) j:=by
 have e:JV chs (sts++[t])=JV chs sts++Y4 t:=by simp[JV]
 have h0:i0≤i:=by have:=h.w;omega
 refine⟨by rw[Qw,List.length_singleton];have:=h.w;omega,?_,?_,h.ch,?_⟩
 ·rw[e];exact Asc.app h.asc ha h.wi hw
 ·rw[e];exact h.wi.app hw h0 (by omega)
 ·intro x hx;rcases QB.1 hx with hx|hx
  ·exact h.st x hx
  ·rw[QF]at hx;subst hx;exact⟨hk,hd⟩
theorem J.cho{i0 chs i j}(h:J i0 chs [] i)(c:Q0)(hi:i+3+5*c.gs.length≤j)(ha:Asc (Kc c))(hw:Wi i j (Kc c))(hc:0<c.gs.length):J i0 (chs++[c]) [] j:=by
 have e:JV (chs++[c]) []=JV chs []++Kc c:=by simp[JV]
 have h0:i0≤i:=by have:=h.w;omega
 have ew:chW (chs++[c])=chW chs+(3+5*c.gs.length):=by simp[chW]
 refine⟨by rw[ew];have:=h.w;omega,?_,?_,?_,h.st⟩
 ·rw[e];exact Asc.app h.asc ha h.wi hw
 ·rw[e];exact h.wi.app hw h0 (by omega)
 ·intro x hx;rcases QB.1 hx with hx|hx
  ·exact h.ch x hx
  ·rw[QF]at hx;subst hx;exact hc
structure JB(i0:Nat)(b:Qm)(i:Nat):Prop where
 w:i0+4*b.sts.length+chW b.chs≤i
 asc:Asc (Yn b)
 wi:Wi i0 i (Yn b)
 ch:∀c∈b.chs,0<c.gs.length
 st:∀t∈b.sts,OkS (QK t)∧Dum t
 e:OkE (ZT b.e)
theorem J.fin{i0 chs sts i j at_}(h:J i0 chs sts i)(e:Z6)(hi:i≤j)(ha:Asc (Nz e))(hw:Wi i j (Nz e))(he:OkE (ZT e)):JB i0 ⟨chs,sts,e,at_⟩ j:=
 ⟨by have:=h.w;show i0+4*sts.length+chW chs≤j;omega,Asc.app h.asc ha h.wi hw,h.wi.app hw (by have:=h.w;omega) hi,h.ch,h.st,he⟩
theorem VW{s:ByteArray}{i0 at_:Nat}:∀(k:Nat)(chs:List Q0)(sts:List Qz)(i:Nat)(bad:Int),(QP s at_ k chs sts i bad).bad<0→J i0 chs sts i→s.size<k+i→i≤s.size →
  bad<0∧JB i0 (QP s at_ k chs sts i bad).b (QP s at_ k chs sts i bad).i
 | 0,chs,sts,i,bad,h,hj,hk,hi=>by omega
 | k+1,chs,sts,i,bad,h,hj,hk,hi=>by
  revert h;rw[QP];by_cases hb:bad<0
  ·rw[if_pos hb];by_cases h1:onF s i bad 46=true
   ·rw[if_pos h1];intro h;exact⟨hb,hj.fin _ (Nat.le_succ _) List.Pairwise.nil Wi.nil (.inl ⟨rfl,rfl,rfl,rfl⟩)⟩
   rw[if_neg h1];by_cases h2:onF s i bad 62=true
   ·rw[if_pos h2];intro h;obtain⟨_,c2,_⟩:=X8 h;exact⟨hb,hj.fin _ (show i≤numI s (i+1) bad by omega) List.Pairwise.nil Wi.nil (.inr (.inl ⟨rfl,rfl,Xo _ _ _,rfl⟩))⟩
   rw[if_neg h2];by_cases h3:onF s i bad 33=true
   ·rw[if_pos h3];dsimp only;intro h;have key:∀i' b',mustB s (regI s (i+1) bad) (regB s (i+1) bad) 59<0→gotI s (regI s (i+1) bad) (regB s (i+1) bad) 59=i'→mustB s (regI s (i+1) bad) (regB s (i+1) bad) 59=b'→J i0 chs (sts++[⟨33,(0,0),(regN s (i+1) bad,i+1),(0,0),0⟩]) i':=by
     intro i' b' hm e1 e2;obtain⟨m1,m2,_⟩:=Zz hm;obtain⟨r1,r2,_⟩:=X5 m1;refine hj.step _ (by omega) Asc.one ?_ (Xo _ _ _) ⟨fun e=>by simp at e,fun e=>by simp at e,fun e=>by simp at e,fun _=>⟨rfl,rfl⟩⟩;exact(Wi.one (i:=i+1) (j:=i') (by omega)).mono (Nat.le_succ _) (Qi _)
    by_cases hm:mustB s (regI s (i+1) bad) (regB s (i+1) bad) 59<0
    ·obtain⟨m1,m2,_⟩:=Zz hm;obtain⟨r1,r2,_⟩:=X5 m1;have i1:i<s.size:=(Zf h3).2.1;exact⟨hb,(VW k _ _ _ _ h (key _ _ hm rfl rfl) (by omega) (Zd (ZM i1))).2⟩
    ·exfalso
     cases k with
     | zero=>exact hm h
     | succ k=>rw[QP,if_neg hm]at h;exact hm h
   rw[if_neg h3];dsimp only;by_cases h4:onF s (regI s i bad) (regB s i bad) 61=true
   ·rw[if_pos h4];intro h;by_cases hm:mustB s (givF s (regN s i bad,i) (regI s i bad+1) (regB s i bad)).i (givF s (regN s i bad,i) (regI s i bad+1) (regB s i bad)).bad 59<0
    ·obtain⟨m1,m2,_⟩:=Zz hm;have g:=Qfy m1 (Xo _ _ _);obtain⟨r1,r2,_⟩:=X5 g.neg;have gi:=g.gi;have ea:Y4 (givF s (regN s i bad,i) (regI s i bad+1) (regB s i bad)).st=[(regN s i bad,i)]++Yg (givF s (regN s i bad,i) (regI s i bad+1) (regB s i bad)).st:=by
      unfold Y4;rw[if_neg g.to.1,g.to.2]
     have w1:Wi i (i+1) [(regN s i bad,i)]:=Wi.one (Nat.lt_succ_self _);have w2:Wi (i+1) (gotI s (givF s (regN s i bad,i) (regI s i bad+1) (regB s i bad)).i (givF s (regN s i bad,i) (regI s i bad+1) (regB s i bad)).bad 59) (Yg (givF s (regN s i bad,i) (regI s i bad+1) (regB s i bad)).st):=g.wi.mono (by omega) (by omega);refine⟨hb,(VW k _ _ _ _ h (hj.step _ (by omega) ?_ ?_ g.ok g.dum) ?_ ?_).2⟩
     ·rw[ea];exact Asc.app Asc.one g.asc w1 w2
     ·rw[ea];exact w1.app w2 (by omega) (by omega)
     ·omega
     ·exact Zd (VO (Zf h4).2.1)
    ·exfalso
     cases k with
     | zero=>exact hm h
     | succ k=>rw[QP,if_neg hm]at h;exact hm h
   rw[if_neg h4];by_cases h5:(onF s (regI s i bad) (regB s i bad) 64&&sts.isEmpty)=true
   ·rw[if_pos h5];intro h;have hse:sts=[]:=by
     rw[Bool.and_eq_true]at h5;exact List.isEmpty_iff.1 h5.2
    subst hse;by_cases hm:mustB s (choF s (regI s i bad) (regB s i bad)).i (choF s (regI s i bad) (regB s i bad)).bad 59<0
    ·obtain⟨m1,m2,_⟩:=Zz hm;obtain⟨c1,c2,c3,c4,c5⟩:=QfP m1;obtain⟨r1,r2,_⟩:=X5 c1;have w1:Wi i (i+1) [(regN s i bad,i)]:=Wi.one (Nat.lt_succ_self _);have w2:Wi (i+1) (gotI s (choF s (regI s i bad) (regB s i bad)).i (choF s (regI s i bad) (regB s i bad)).bad 59) (choF s (regI s i bad) (regB s i bad)).rs:=c4.mono (by omega) (by omega);exact⟨hb,(VW k _ _ _ _ h (hj.cho ⟨(regN s i bad,i),(choF s (regI s i bad) (regB s i bad)).gs,(choF s (regI s i bad) (regB s i bad)).rs⟩ (by dsimp only;omega) (Asc.app Asc.one c3 w1 w2) (w1.app w2 (by omega) (by omega)) c5) (by omega) (Zd (Ue (ZM hi)))).2⟩
    ·exfalso
     cases k with
     | zero=>exact hm h
     | succ k=>rw[QP,if_neg hm]at h;exact hm h
   rw[if_neg h5];intro h;have h:(braF s (regN s i bad,i) (regI s i bad) (regB s i bad)).bad<0:=h;unfold braF at h;obtain⟨d1,d2,_⟩:=X8 h;obtain⟨e1,e2,_⟩:=Zz d1;obtain⟨f1,f2,_⟩:=X8 e1;obtain⟨g1,g2,_⟩:=Zz f1;obtain⟨r1,r2,_⟩:=X5 g1;refine⟨hb,hj.fin _ ?_ Asc.one (Wi.one ?_) (.inr (.inr ⟨rfl,Xo _ _ _,Xo _ _ _,Xo _ _ _⟩))⟩
   ·show i≤(braF s (regN s i bad,i) (regI s i bad) (regB s i bad)).i;unfold braF;dsimp only;omega
   ·show i<(braF s (regN s i bad,i) (regI s i bad) (regB s i bad)).i;unfold braF;dsimp only;omega
  ·rw[if_neg hb];intro h;exact absurd h hb
theorem Qcp{s i bad}(h:(blkF s i bad).bad<0)(hi:i≤s.size):bad<0∧JB i (blkF s i bad).b (blkF s i bad).i:=
 VW (i0:=i) (s.size+1) [] [] i bad h ⟨by simp[chW],List.Pairwise.nil,Wi.nil,fun c hc=>absurd hc (by simp),fun c hc=>absurd hc (by simp)⟩ (by omega) hi
def blW(b:Qm):Nat:=4*b.sts.length+chW b.chs
def bsW(bs:List Qm):Nat:=(bs.map blW).sum
structure JP(bs:List Qm)(i:Nat):Prop where
 w:bsW bs≤i
 asc:Asc (bs.flatMap Yn)
 wi:Wi 0 i (bs.flatMap Yn)
 ch:∀b∈bs,∀c∈b.chs,0<c.gs.length
 st:∀b∈bs,∀t∈b.sts,OkS (QK t)∧Dum t
 e:∀b∈bs,OkE (ZT b.e)
theorem JP.snoc{bs i b j}(h:JP bs i)(hb:JB i b j){k:Nat}(hk:j≤k):JP (bs++[b]) k:=by
 have e:(bs++[b]).flatMap Yn=bs.flatMap Yn++Yn b:=by simp
 have ew:bsW (bs++[b])=bsW bs+blW b:=by simp[bsW]
 have hw:=hb.w;have hij:i≤j:=by omega
 refine⟨by rw[ew];have:=h.w;unfold blW;omega,?_,?_,?_,?_,?_⟩
 ·rw[e];exact Asc.app h.asc hb.asc h.wi hb.wi
 ·rw[e];exact(h.wi.app hb.wi (Nat.zero_le _) hij).mono (Qi _) hk
 all_goals
  intro x hx;rcases QB.1 hx with hx|hx
 ·exact h.ch x hx
 ·rw[QF]at hx;subst hx;exact hb.ch
 ·exact h.st x hx
 ·rw[QF]at hx;subst hx;exact hb.st
 ·exact h.e x hx
 ·rw[QF]at hx;subst hx;exact hb.e
theorem NH{s:ByteArray}:∀(k:Nat)(p:Par),(Xj s k p).bad<0→JP p.bs p.i→p.i≤s.size→p.bad<0∧JP (Xj s k p).bs (Xj s k p).i
 | 0,p,h,hj,_=>⟨h,hj⟩
 | k+1,p,h,hj,hi=>by
  rw[Xj]at h ⊢
  cases ho:onF s (blkF s p.i p.bad).i (blkF s p.i p.bad).bad 124 with
  | true=>
   rw[ho,if_pos rfl]at h;rw[if_pos rfl];obtain⟨b1,b2⟩:=Qcp (Zf ho).1 hi;have eg:gotI s (blkF s p.i p.bad).i (blkF s p.i p.bad).bad 124=(blkF s p.i p.bad).i+1:=by rw[gotI,ho];rfl
   rw[eg]at h ⊢;exact⟨b1,(NH k _ h (hj.snoc b2 (Nat.le_succ _)) (Zf ho).2.1).2⟩
  | false=>
   rw[ho,if_neg (by simp)]at h;rw[if_neg (by simp)];have eg:gotI s (blkF s p.i p.bad).i (blkF s p.i p.bad).bad 124=(blkF s p.i p.bad).i:=by rw[gotI,ho];rfl
   rw[eg];obtain⟨b1,b2⟩:=Qcp h hi;exact⟨b1,hj.snoc b2 (Qi _)⟩
theorem V9{s:ByteArray}:∀(k:Nat)(p:Par),p.i≤s.size→(Xj s k p).i≤s.size
 | 0,_,h=>h
 | k+1,p,h=>by
  have hb:(blkF s p.i p.bad).i≤s.size:=R3 h;rw[Xj];split
  ·exact V9 k _ (Zd hb)
  ·exact Zd hb
theorem Qjl{s:ByteArray}(h:Q9 s<0):JP (Qu s).bs s.size:=by
 unfold Q9 at h;split at h
 ·exact absurd h JM
 ·rename_i hi;obtain⟨_,r⟩:=NH (s.size+1) ⟨[],0,-1⟩ h ⟨Nat.le_refl _,List.Pairwise.nil,Wi.nil,fun b hb=>absurd hb (by simp),fun b hb=>absurd hb (by simp),fun b hb=>absurd hb (by simp)⟩ (Nat.zero_le _);have hle:(Qu s).i≤s.size:=V9 _ _ (Nat.zero_le _);have e:(Qu s).i=s.size:=by omega
  have r:JP (Qu s).bs (Qu s).i:=r
  rwa [e]at r
def gr(at_:Int)(r:Nat×Nat):Int:=if 4999<r.1∧(at_<0∨(r.2:Int)<at_) then r.2 else at_
def Vy(b:Qm):List (Nat×Nat):=b.chs.flatMap Kc++b.sts.flatMap (fun t=>[t.to,t.a,t.b])++[b.e.a]
def Qfw(bs:List Qm):Int:=(bs.flatMap Vy).foldl gr (-1)
def Qev(bs:List Qm):Option Nat:=((bs.flatMap Yn).find? fun r=>decide (4999<r.1)).map (·.2)
theorem Jv{a:Int}{r:Nat×Nat}(h:r.1=0):gr a r=a:=by unfold gr;rw[if_neg (by omega)]
theorem QhW{t:Qz}(h:Dum t)(a:Int):[t.to,t.a,t.b].foldl gr a=(Y4 t).foldl gr a:=by
 obtain⟨h1,h2,h3,h4⟩:=h;unfold Y4 Yg;by_cases e1:t.op=118
 ·rw[if_neg (by omega),if_pos e1];simp only[List.foldl_cons,List.foldl_nil,List.append_nil];rw[Jv (h1 e1).2,Jv (h1 e1).1]
 rw[if_neg e1];by_cases e2:t.op=99
 ·rw[if_neg (by omega),if_pos e2];simp only[List.foldl_cons,List.foldl_nil,List.cons_append,List.nil_append];rw[Jv (h3 e2)]
 rw[if_neg e2];by_cases e3:t.op=33
 ·rw[if_pos e3,if_pos e3];simp only[List.foldl_cons,List.foldl_nil,List.nil_append];rw[Jv (h4 e3).1,Jv (h4 e3).2]
 rw[if_neg e3,if_neg e3];by_cases e4:t.op=63
 ·rw[if_pos e4];simp only[List.foldl_cons,List.foldl_nil,List.append_nil];rw[Jv (h2 e4).2,Jv (h2 e4).1]
 rw[if_neg e4];rfl
theorem Wh{α:Type}{f g:α→List (Nat×Nat)}:∀(l:List α)(a:Int),(∀x∈l,∀a,(f x).foldl gr a=(g x).foldl gr a)→(l.flatMap f).foldl gr a=(l.flatMap g).foldl gr a
 | [],_,_=>rfl
 | x::l,a,h=>by
  rw[List.flatMap_cons,List.flatMap_cons,List.foldl_append,List.foldl_append,h x (List.mem_cons_self ..) a];exact Wh l _ (fun y hy=>h y (ZD _ hy))
theorem Qfx:∀(l:List (Nat×Nat)),Asc l→l.foldl gr (-1)=match (l.find? fun r=>decide (4999<r.1)).map (·.2) with|some x=>(x:Int)|none=>-1
 | [],_=>rfl
 | x::l,h=>by
  rw[Asc,List.pairwise_cons]at h;by_cases hx:4999<x.1
  ·rw[List.find?_cons_of_pos (by simpa using hx),List.foldl_cons];have e:gr (-1) x=x.2:=by unfold gr;rw[if_pos ⟨hx,.inl (by omega)⟩]
   rw[e];show l.foldl gr x.2=x.2;have h1:=h.1;clear h e
   induction l with
   | nil=>rfl
   | cons y l ih=>
    have e:gr x.2 y=x.2:=by
     unfold gr;have:=h1 y (List.mem_cons_self ..);rw[if_neg (by omega)]
    rw[List.foldl_cons,e];exact ih (fun z hz=>h1 z (ZD _ hz))
  ·rw[List.find?_cons_of_neg (by simpa using hx),List.foldl_cons];have e:gr (-1) x=-1:=by unfold gr;rw[if_neg (by omega)]
   rw[e];exact Qfx l h.2
theorem QhV{bs:List Qm}{i:Nat}(h:JP bs i):Qfw bs=match Qev bs with|some x=>(x:Int)|none=>-1:=by
 unfold Qfw Qev;rw[←Qfx _ h.asc];refine Wh bs _ (fun b hb a=>?_);unfold Vy Yn JV;rw[List.foldl_append,List.foldl_append,List.foldl_append,List.foldl_append];rw[Wh (f:=fun t:Qz=>[t.to,t.a,t.b]) (g:=Y4) b.sts _ (fun t ht a=>QhW (h.st b hb t ht).2 a)];have he:=h.e b hb;unfold Nz;by_cases e:b.e.op=63
 ·rw[if_pos e]
 ·rw[if_neg e];show gr _ b.e.a=_;refine Jv ?_;rcases he with he|he|he
  ·exact he.2.1
  ·exact he.2.1
  ·exact absurd he.1 e
structure J5(bs:List Qm):Prop where
 pos:0<bs.length
 le:bs.length≤12
 goals:∀b∈bs,∀p∈goalsF b.e,p.1<bs.length
 rs:∀b∈bs,∀c∈b.chs,c.rs.length=c.gs.length
 ahead:∀i (hi:i<bs.length),∀c∈bs[i].chs,Zw c.gs=aheF bs i
theorem QjW{e:AEn}(h:OkE e):(enT e).length≤15:=by
 unfold enT;rcases h with ⟨h1,_,_,_⟩|⟨h1,_,h3,_⟩|⟨h1,h2,h3,h4⟩
 ·rw[if_pos h1];decide
 ·rw[if_neg (by omega),if_pos h1,QO];have:=XJ h3;omega
 ·rw[if_neg (by omega),if_neg (by omega)];have h2:=X3 h2;have h3:=XJ h3;have h4:=XJ h4;simp only[List.length_append,List.length_cons];omega
def Zu(n:Nat)(f:Nat→Bool):List Value:=(List.range n).map fun j=>Value.bool (f j)
theorem YS(n f):(Zu n f).length=n:=by simp[Zu]
theorem ZS{n:Nat}{f:Nat→Bool}{j:Nat}(hj:j<n):(Zu n f)[j]?=some (.bool (f j)):=by simp[Zu,hj]
theorem GX{n:Nat}{f g:Nat→Bool}{k:Nat}(hg:∀j,j<n→g j=(f j||j==k)):(Zu n f).set k (.bool true)=Zu n g:=by
 apply List.ext_getElem?;intro j;rw[List.getElem?_set];by_cases hj:j<n
 ·rw[ZS hj,ZS hj,hg j hj,YS];by_cases e:k=j
  ·subst e;simp[hj]
  ·have:(j==k)=false:=by simp;omega
   simp[e,this]
 ·have h1:(Zu n f)[j]?=none:=ZI (by rw[YS];omega);have h2:(Zu n g)[j]?=none:=ZI (by rw[YS];omega);rw[h1,h2,YS];by_cases e:k=j
  ·subst e;simp[hj]
  ·simp[e]
theorem Km{n:Nat}{f g:Nat→Bool}(h:∀j,j<n→f j=g j):Zu n f=Zu n g:=List.map_congr_left fun j hj=>by rw[h j (by simpa using hj)]
theorem QdB(n:Nat):Zu n (fun _=>false)=List.replicate n (.bool false):=by
 apply List.ext_getElem (by simp[Zu]);intro i h1 h2;simp[Zu]
def Xv(wo:Int)(j:Nat):Bool:=decide ((j:Int)=wo)
theorem Nb:Xv (-1)=noB:=by funext j;simp[Xv,noB]
theorem Qij(a:Nat):Xv (a:Int)=isB a:=by funext j;rw[Bool.eq_iff_iff];simp[Xv,isB];omega
def toR(e:Z6):List Nat:=XY (goalsF e)
theorem WN{e x}:x∈toR e↔x∈bhd e:=by
 rw[Qcu,toR];have hle:=ZH e;generalize goalsF e=gl at *
 match gl,hle with
 | [],_=>simp[XY]
 | [p],_=>simp[XY];exact eq_comm
 | [p,q],_=>
  simp only[XY];by_cases h:q.1=p.1
  ·rw[if_pos h];simp[h];exact eq_comm
  ·rw[if_neg h];simp[eq_comm]
theorem Qgq(e):(toR e).length≤2:=by
 have hle:=ZH e;unfold toR;generalize goalsF e=gl at *
 match gl,hle with
 | [],_=>simp[XY]
 | [p],_=>simp[XY]
 | [p,q],_=>simp only[XY];split<;>simp
def XM(bar f:Nat→Bool)(to:List Nat)(q:Nat):Nat→Bool:=fun j=>f j||((to.take q).contains j&&!bar j)
theorem QaY{bs:List Qm}{bar f:Nat→Bool}{i:Nat}(hi:i<bs.length)(hf:f i=true):XM bar f (toR bs[i].e) (toR bs[i].e).length=Yj (suF bs) bar f i:=by
 funext j
 rw[Yj,if_pos hf,XM,QaZ,List.take_length,V5 hi];have:(toR bs[i].e).contains j=(bhd bs[i].e).contains j:=by rw[Bool.eq_iff_iff,List.contains_iff_mem,List.contains_iff_mem,WN]
 rw[this]
theorem QaX{bar f:Nat→Bool}{to:List Nat}{q:Nat}(hq:q<to.length)(hb:bar to[q]=false)(j:Nat):XM bar f to (q+1) j=(XM bar f to q j||j==to[q]):=by
 rw[XM,XM,Zb hq];rw[Bool.eq_iff_iff];simp only[Bool.or_eq_true,Bool.and_eq_true,List.contains_iff_mem,List.mem_append,List.mem_singleton,Bool.not_eq_true',beq_iff_eq];constructor
 ·rintro (h|⟨h|h,h2⟩)
  ·exact .inl (.inl h)
  ·exact .inl (.inr ⟨h,h2⟩)
  ·exact .inr h
 ·rintro ((h|h)|h)
  ·exact .inl h
  ·exact .inr ⟨.inl h.1,h.2⟩
  ·exact .inr ⟨.inr h,by rw[h];exact hb⟩
theorem NR{bar f:Nat→Bool}{to:List Nat}{q:Nat}(hq:q<to.length)(hb:bar to[q]=true)(j:Nat):XM bar f to (q+1) j=XM bar f to q j:=by
 rw[XM,XM,Zb hq];rw[Bool.eq_iff_iff];simp only[Bool.or_eq_true,Bool.and_eq_true,List.contains_iff_mem,List.mem_append,List.mem_singleton,Bool.not_eq_true'];constructor
 ·rintro (h|⟨h|h,h2⟩)
  ·exact .inl h
  ·exact .inr ⟨h,h2⟩
  ·rw[h,hb]at h2;cases h2
 ·rintro (h|h)
  ·exact .inl h
  ·exact .inr ⟨.inl h.1,h.2⟩
theorem QiK:(prog.info? 4).map (fun i=>(i.zero,i.size,i.bytes))=some (some (.bool false),1,1):=by kernel_rfl
theorem Rp(bs:List Qm)(wo:Int)(base:Nat)(v:Value)(w:World)(h:QR w base bs v)(hgl:Hid (∀b∈bs,∀p∈goalsF b.e,p.1<bs.length))(hn0:0<bs.length)(hn:bs.length≤1000):
  Calls prog 29 #[v,.int .i64 wo] w fun x w'=>∃v',x=.returned v'∧w'.ownsRow w.heap.size 4 1 v' bs.length (Zu bs.length (rchF (suF bs) bs.length (Xv wo)))∧Below w.heap.size w w':=by
 obtain⟨pv,cv,rfl⟩:=h.slice;have HB:=Qc h;clear h;obtain⟨I9,Hi9,Hz9,Hs9,Hb9⟩:=info_parts QiK;go_enter func29,ntmps29;go_wp2_with (at_make;refine QA ?_);refine Qc ?_;refine wpList_make_full _ rfl _ _ 67 rfl w.heap.size 4 I9 (.bool false) 1 underlying67 Hi9 Hz9 Hs9 .i64 .i64 _ _ bs.length rfl rfl rfl rfl (by rw[Hb9];omega) (by unfold maxLen;omega) (Qi _) ?_;intro w1 o1 g1;rw[UR _ rfl,←QdB]at o1;have F1:=Qc (Below.grown (Below.refl w.heap.size w) g1 (Qi _) (fun k hk=>by cases hk));clear g1 Hi9 Hz9 Hs9 Hb9;by_cases hwo:wo=0
 ·subst hwo;have HC:Hid (Zu bs.length (rchF (suF bs) bs.length (Xv 0))=Zu bs.length (fun _=>false)):=Km fun j _=>by simp[rchF,Xv]
  have O1:=Qc o1;clear o1;go_wp2_with fail;go_ret;exact⟨_,rfl,by rw[HC.o];exact O1.o,F1.o⟩
 ·have hd:(wo==0)=false:=by simpa using hwo
  have c0:=Qf o1 (ZS hn0);have cf:=Xz o1 0;have o2:=ZA o1 0 (.bool true);rw[GX (g:=ZJ) (fun j _=>by simp[ZJ])]at o2;have B0:Hid ((w1.setCell ⟨w.heap.size,0,none⟩ (.bool true)).ownsRow w.heap.size 4 1 (.slice (some ⟨w.heap.size,0,none⟩) bs.length bs.length) bs.length (Zu bs.length (Jh (suF bs) (Xv wo) bs.length ZJ 0))∧Below w.heap.size w (w1.setCell ⟨w.heap.size,0,none⟩ (.bool true))):=⟨o2,Qp F1.o _ _ _ (Qi _)⟩;clear o1 o2 F1;go_wp2_with fail
  go_loopw [6] (fun i wr=>∃r:Nat,r≤bs.length∧i=.int .i64 r∧Hid (wr.ownsRow w.heap.size 4 1 (.slice (some ⟨w.heap.size,0,none⟩) bs.length bs.length) bs.length (Zu bs.length (Jh (suF bs) (Xv wo) bs.length ZJ r))∧Below w.heap.size w wr)) (fun i _=>bs.length-(intOf i).toNat)
  case atStart=>exact⟨0,by omega,rfl,B0⟩
  case round=>
   clear B0 c0 cf;obtain⟨r,hr,rfl,HR⟩:=hrel;by_cases hrl:r<bs.length
   ·go_wp2_with fail
    go_loopw [7] (fun i wr2=>∃m:Nat,m≤bs.length∧i=.int .i64 m∧Hid (wr2.ownsRow w.heap.size 4 1 (.slice (some ⟨w.heap.size,0,none⟩) bs.length bs.length) bs.length (Zu bs.length (Jd (suF bs) (Xv wo) (Jh (suF bs) (Xv wo) bs.length ZJ r) m))∧Below w.heap.size w wr2)) (fun i _=>bs.length-(intOf i).toNat)
    case atStart=>exact⟨0,by omega,rfl,HR⟩
    case round=>
     clear HR;obtain⟨m,hm,rfl,HR2⟩:=hrel;by_cases hml:m<bs.length
     ·have hB:=HB.o.keeps3 (Qr.below HR2.o.2);obtain⟨g,qc,cc,ps,cs,rfl,_,_,_,_,hc⟩:=hB.at hml;have d0:wr.cell? ⟨g,m*10,none⟩=_:=hc 0 _ rfl;have d1:=hc 1 _ rfl;have d2:=hc 2 _ rfl;have d3:=hc 3 _ rfl;have d4:=hc 4 _ rfl;have d5:=hc 5 _ rfl;have d6:=hc 6 _ rfl;have d7:=hc 7 _ rfl;have d8:=hc 8 _ rfl;have d9:=hc 9 _ rfl;have HTM:=Qc (QaY (bs:=bs) (bar:=Xv wo) (f:=Jd (suF bs) (Xv wo) (Jh (suF bs) (Xv wo) bs.length ZJ r) m) hml);have HNE:Hid (Jd (suF bs) (Xv wo) (Jh (suF bs) (Xv wo) bs.length ZJ r) (m+1)=Yj (suF bs) (Xv wo) (Jd (suF bs) (Xv wo) (Jh (suF bs) (Xv wo) bs.length ZJ r) m) m):=rfl;have HTL:Hid (∀x∈toR bs[m].e,x<bs.length):=fun x hx=>XB hgl.out m x (by rw[V5 hml];exact WN.1 hx);obtain⟨f,hf⟩:∃f,f=Jd (suF bs) (Xv wo) (Jh (suF bs) (Xv wo) bs.length ZJ r) m:=⟨_,rfl⟩;rw[←hf]at HTM HNE HR2;clear hc hB hf;go_wp2_with fail;refine(Ga qc _ cc ps _ cs bs[m].e _ _).mono ?_;rintro x w2 ⟨vt,rfl,OT,f2⟩;have hz2:=f2.size;have hz1:=HR2.o.2.size;have htl:=Qgq bs[m].e;have OT2:w2.ownsRow wr.heap.size 3 1 vt (toR bs[m].e).length (Qe (toR bs[m].e)):=OT;generalize toR bs[m].e=to at *;obtain⟨pt,ct,rfl⟩:=Qa OT2;have H3:Hid (w2.ownsRow w.heap.size 4 1 (.slice (some ⟨w.heap.size,0,none⟩) bs.length bs.length) bs.length (Zu bs.length f)∧w2.ownsRow w.heap.size 3 1 (.slice pt to.length ct) to.length (Qe to)∧Below w.heap.size w w2):=⟨Qd HR2.o.1 (Qh f2) trivial,Qj OT2 hz1,HR2.o.2.trans (f2.mono hz1)⟩;clear OT OT2 f2 d0 d1 d2 d3 d4 d5 d6 d7 d8 d9 HR2;go_wp2_with fail
      cases hfm:f m with
      | false=>
       have HF:Hid (Yj (suF bs) (Xv wo) f m=f):=by show _=_;rw[Yj,hfm];rfl
       go_loopw [9] (fun k wr3=>k=.int .i64 0∧Hid (wr3.ownsRow w.heap.size 4 1 (.slice (some ⟨w.heap.size,0,none⟩) bs.length bs.length) bs.length (Zu bs.length f)∧Below w.heap.size w wr3)) (fun _ _=>0)
       case atStart=>exact⟨rfl,H3.o.1,H3.o.2.2⟩
       case round=>
        clear H3;obtain⟨rfl,HR3⟩:=hrel;have cm:=Qf HR3.o.1 (ZS hml);rw[hfm]at cm;clear hfm;by_cases h0:to.length=0
        ·have hd0:decide ((0:Int)<(to.length:Int))=false:=by simp[h0]
         go_wp2_with fail;go_roundw
         case rel=>exact⟨m+1,by omega,by go_num,by rw[HNE.o,HF.o];exact HR3⟩
         case measure=>simp[intOf];omega
        ·have hd0:decide ((0:Int)<(to.length:Int))=true:=by simp;omega
         go_wp2_with fail;go_roundw
         case rel=>exact⟨m+1,by omega,by go_num,by rw[HNE.o,HF.o];exact HR3⟩
         case measure=>simp[intOf];omega
      | true=>
       have HF:=Qc (HTM.o hfm)
       go_loopw [9] (fun k wr3=>∃q:Nat,q≤to.length∧k=.int .i64 q∧Hid (wr3.ownsRow w.heap.size 4 1 (.slice (some ⟨w.heap.size,0,none⟩) bs.length bs.length) bs.length (Zu bs.length (XM (Xv wo) f to q))∧wr3.ownsRow w.heap.size 3 1 (.slice pt to.length ct) to.length (Qe to)∧Below w.heap.size w wr3)) (fun k _=>to.length-(intOf k).toNat)
       case atStart=>exact⟨0,by omega,rfl,by rw[Km (g:=f) (fun j _=>by simp[XM])];exact H3.o.1,H3.o.2⟩
       case round=>
        clear H3;obtain⟨q,hq,rfl,HR3⟩:=hrel;by_cases hql:q<to.length
        ·have cm:=Qf HR3.o.1 (ZS hml);have hmm:XM (Xv wo) f to q m=true:=by simp[XM,hfm]
         rw[hmm]at cm;obtain⟨gt,rfl,_,_⟩:=Qk HR3.o.2.1 (by omega);have ct0:=Qf HR3.o.2.1 (QY hql);have htq:=HTL.o _ (Qx hql);have cq:=Qf HR3.o.1 (ZS (f:=XM (Xv wo) f to q) htq);have cqf:=Xz HR3.o.1 to[q];clear hfm hmm;by_cases hbq:Xv wo to[q]=true
         ·have hd1:((to[q]:Int) != wo)=false:=by simpa[Xv] using hbq
          have HM:=Qc (Km (n:=bs.length) (fun j _=>NR (f:=f) hql hbq j));clear hbq;go_wp2_with fail;go_roundw
          case rel=>exact⟨q+1,by omega,by go_num,by rw[HM.o];exact HR3.o.1,HR3.o.2⟩
          case measure=>simp[intOf];omega
         ·have hbq':Xv wo to[q]=false:=by simpa using hbq
          have hd1:((to[q]:Int) != wo)=true:=by simpa[Xv] using hbq'
          have HM:Hid ((wr.setCell ⟨w.heap.size,to[q],none⟩ (.bool true)).ownsRow w.heap.size 4 1 (.slice (some ⟨w.heap.size,0,none⟩) bs.length bs.length) bs.length (Zu bs.length (XM (Xv wo) f to (q+1)))∧(wr.setCell ⟨w.heap.size,to[q],none⟩ (.bool true)).ownsRow w.heap.size 3 1 (.slice (some ⟨gt,0,none⟩) to.length ct) to.length (Qe to)∧Below w.heap.size w (wr.setCell ⟨w.heap.size,to[q],none⟩ (.bool true))):=by
           refine⟨?_,?_,Qp HR3.o.2.2 _ _ _ (Qi _)⟩
           ·have:=ZA HR3.o.1 to[q] (.bool true)
            rwa [GX (fun j _=>QaX (f:=f) hql hbq' j)]at this
           ·rcases HR3.o.1.2 with ⟨h0,_⟩|⟨g',cap',cur',hv,_,hc',_⟩
            ·cases h0
            ·cases hv;exact QL HR3.o.2.1 hc' (by decide)
          clear hbq hbq';go_wp2_with fail;go_roundw
          case rel=>exact⟨q+1,by omega,by go_num,HM⟩
          case measure=>simp[intOf];omega
        ·have hqe:q=to.length:=by omega
         subst hqe;have HR4:Hid (wr.ownsRow w.heap.size 4 1 (.slice (some ⟨w.heap.size,0,none⟩) bs.length bs.length) bs.length (Zu bs.length (Jd (suF bs) (Xv wo) (Jh (suF bs) (Xv wo) bs.length ZJ r) (m+1)))∧Below w.heap.size w wr):=⟨by rw[HNE.o,←HF.o];exact HR3.o.1,HR3.o.2.2⟩;clear hfm;go_wp2_with fail;go_roundw
         case rel=>exact⟨m+1,by omega,by go_num,HR4⟩
         case measure=>simp[intOf];omega
     ·have hme:m=bs.length:=by omega
      subst hme;have HR4:Hid (wr.ownsRow w.heap.size 4 1 (.slice (some ⟨w.heap.size,0,none⟩) bs.length bs.length) bs.length (Zu bs.length (Jh (suF bs) (Xv wo) bs.length ZJ (r+1)))∧Below w.heap.size w wr):=HR2;go_wp2_with fail;go_roundw
      case rel=>exact⟨r+1,by omega,by go_num,HR4⟩
      case measure=>simp[intOf];omega
   ·have hre:r=bs.length:=by omega
    subst hre;have HC:Hid (Zu bs.length (rchF (suF bs) bs.length (Xv wo))=Zu bs.length (Jh (suF bs) (Xv wo) bs.length ZJ bs.length)):=Km fun j _=>by
     have:Xv wo 0=false:=by simp[Xv];omega
     rw[rchF,this];rfl
    go_wp2_with fail;go_ret;exact⟨_,rfl,by rw[HC.o];exact HR.o.1,HR.o.2⟩
theorem Qgb{α:Type}{P:α→Bool}{L:List α}{k:Nat}(hk:k<L.length):(L.take (k+1)).any P=((L.take k).any P||P L[k]):=by
 rw[List.take_succ_eq_append_getElem hk,List.any_append];simp
def wo(l:List Nat)(x:Nat):List Nat:=l.filter fun y=>y != x
theorem G8{l:List Nat}{x y:Nat}:y∈wo l x↔y∈l∧y≠x:=by simp[wo]
end Go.Proofs.YtgfhfkgdmidhpaaGreatDoor
