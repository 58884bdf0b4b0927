import Derived.Test.YtgfhfkgdmidhpaaGreatDoorC17
import Derived.Test.YtgfhfkgdmidhpaaGreatDoorC15
import Derived.WalkMore
namespace Go.Proofs.YtgfhfkgdmidhpaaGreatDoor
open Go.RowKit
set_option maxRecDepth 100000
set_option maxHeartbeats 8000000
theorem JA{i:Nat}{bad:Int}:¬X0 i bad<0:=by unfold X0;split<;>omega
theorem Zg{s i bad c}(h:mustB s i bad c<0):bad<0∧gotI s i bad c=i+1∧mustB s i bad c=bad:=by
 unfold mustB at h ⊢;unfold gotI
 cases ho:onF s i bad c with
 | true=>rw[ho,if_pos rfl]at h;exact⟨h,rfl,rfl⟩
 | false=>rw[ho,if_neg (by simp)]at h;exact absurd h JA
theorem Qb9{s bad fm}(k i n:Nat):i≤(QY s bad fm k i n).2:=by
 induction k generalizing i n with
 | zero=>exact Nat.le_refl _
 | succ k ih=>
  rw[QY];split
  ·exact Nat.le_trans (Nat.le_succ i) (ih _ _)
  ·exact Nat.le_refl _
theorem XY{s i bad}(h:Zd s i bad<0):bad<0∧i+1≤numI s i bad∧Zd s i bad=bad:=by
 unfold Zd at h ⊢;unfold numI
 cases ho:Q9 s i bad with
 | true=>
  rw[ho,if_pos rfl]at h;refine⟨h,?_,rfl⟩;rw[if_pos rfl,QY,ho,show (i==i)=true from by simp,Bool.true_or,Bool.and_true,if_pos rfl];exact Qb9 _ _ _
 | false=>rw[ho,if_neg (by simp)]at h;exact absurd h JA
theorem XR{s i bad}(h:regB s i bad<0):bad<0∧i+2≤regI s i bad∧regB s i bad=bad:=by
 unfold regB at h ⊢;unfold regI;obtain⟨h1,h2,h3⟩:=XY h;obtain⟨k1,k2,k3⟩:=Zg h1;refine⟨k1,?_,by rw[h3,k3]⟩;have:i+1≤gotI s i bad 114:=by omega
 omega
def Asc(l:List (Nat×Nat)):Prop:=l.Pairwise fun a b=>a.2<b.2
def Wi(i j:Nat)(l:List (Nat×Nat)):Prop:=∀x∈l,i≤x.2∧x.2<j
theorem Asc.app{l k:List (Nat×Nat)}{i j m:Nat}(h1:Asc l)(h2:Asc k)(w1:Wi i j l)(w2:Wi j m k):Asc (l++k):=
 List.pairwise_append.2 ⟨h1,h2,fun a ha b hb=>Nat.lt_of_lt_of_le (w1 a ha).2 (w2 b hb).1⟩
theorem Wi.app{l k:List (Nat×Nat)}{i j m:Nat}(w1:Wi i j l)(w2:Wi j m k)(h:i≤j)(h2:j≤m):Wi i m (l++k):=fun x hx=>by
 rcases List.mem_append.1 hx with hx|hx
 ·have:=w1 x hx;omega
 ·have:=w2 x hx;omega
theorem Wi.mono{l:List (Nat×Nat)}{i j i' j':Nat}(w:Wi i j l)(h:i'≤i)(h2:j≤j'):Wi i' j' l:=fun x hx=>by have:=w x hx;omega
theorem Wi.nil{i j}:Wi i j []:=fun x hx=>absurd hx (by simp)
theorem Wi.one{i j n}(h:i<j):Wi i j [(n,i)]:=fun x hx=>by rw[List.mem_singleton]at hx;subst hx;exact⟨Nat.le_refl _,h⟩
theorem Asc.one{x}:Asc [x]:=List.pairwise_singleton _ _
def JL(t:Qy):List (Nat×Nat):=if t.op=118 then [] else if t.op=99 then [t.a] else if t.op=33 then [t.a] else if t.op=63 then [] else [t.a,t.b]
def Zj(t:Qy):List (Nat×Nat):=(if t.op=33 then [] else [t.to])++JL t
def ZO(c:QH):List (Nat×Nat):=c.to::c.rs
def UI(e:Z3):List (Nat×Nat):=if e.op=63 then [e.a] else []
def Xg(chs:List QH)(sts:List Qy):List (Nat×Nat):=chs.flatMap ZO++sts.flatMap Zj
def regsB(b:Ql):List (Nat×Nat):=Xg b.chs b.sts++UI b.e
def Dum(t:Qy):Prop:=(t.op=118→t.a.1=0∧t.b.1=0)∧(t.op=63→t.a.1=0∧t.b.1=0)∧(t.op=99→t.b.1=0)∧(t.op=33→t.to.1=0∧t.b.1=0)
theorem Qdw(s i bad):opC s i bad=0∨opC s i bad=43∨opC s i bad=45∨opC s i bad=42∨opC s i bad=60:=by
 unfold opC
 repeat' split
 all_goals simp
theorem QaT{s i bad}:i≤opI s i bad:=by
 unfold opI gotI
 repeat' split
 all_goals omega
theorem GH{s i bad}(h:opB s i bad<0):bad<0:=by
 unfold opB at h
 repeat' split at h
 all_goals first
  | exact h
  | exact(Zg h).1
theorem QaS{s i bad}:opC s i bad≠0→i+1≤opI s i bad:=by
 unfold opC opI
 repeat' split
 all_goals first
  | (intro;omega)
  | (intro;unfold gotI;split<;>omega)
structure Qjj(to:Nat×Nat)(i:Nat)(bad:Int)(g:Giv):Prop where
 neg:bad<0
 gi:i+1≤g.i
 ok:OkS (QA g.st)
 dum:Dum g.st
 to:g.st.op≠33∧g.st.to=to
 asc:Asc (JL g.st)
 wi:Wi i g.i (JL g.st)
theorem Qej{s to i bad}(h:(givF s to i bad).bad<0)(ht:to.1<10000):Qjj to i bad (givF s to i bad):=by
 revert h;unfold givF;by_cases h1:onF s i bad 63=true
 ·rw[if_pos h1];intro h;exact⟨h,Nat.le_refl _,ht,⟨fun e=>by simp at e,fun _=>⟨rfl,rfl⟩,fun e=>by simp at e,fun e=>by simp at e⟩,⟨by simp,rfl⟩,List.Pairwise.nil,Wi.nil⟩
 rw[if_neg h1];by_cases h2:onF s i bad 114=true
 ·rw[if_pos h2];by_cases h3:opC s (regI s i bad) (regB s i bad)=0
  ·dsimp only;rw[if_pos h3];intro h;have b1:=GH h;obtain⟨c1,c2,c3⟩:=XR b1;have c4:regI s i bad≤opI s (regI s i bad) (regB s i bad):=QaT;exact⟨c1,by show i+1≤opI s (regI s i bad) (regB s i bad);omega,⟨ht,Z2 _ _ _⟩,⟨fun e=>by simp at e,fun e=>by simp at e,fun _=>rfl,fun e=>by simp at e⟩,⟨by simp,rfl⟩,Asc.one,Wi.one (show i<opI s (regI s i bad) (regB s i bad) by omega)⟩
  ·dsimp only;rw[if_neg h3];intro h;obtain⟨d1,d2,d3⟩:=XR h;have b1:=GH d1;have b2:=QaS h3;obtain⟨c1,c2,c3⟩:=XR b1;generalize hI:opI s (regI s i bad) (regB s i bad)=I at *;generalize hJ:regI s I (opB s (regI s i bad) (regB s i bad))=J at *;have hR:∀o,o=43∨o=45∨o=42∨o=60→Qjj to i bad ⟨⟨o,to,(regN s i bad,i),(regN s I (opB s (regI s i bad) (regB s i bad)),I),0⟩,J,regB s I (opB s (regI s i bad) (regB s i bad))⟩:=by
    intro o ho;have e1:QA ⟨o,to,(regN s i bad,i),(regN s I (opB s (regI s i bad) (regB s i bad)),I),0⟩=.op o to.1 (regN s i bad) (regN s I (opB s (regI s i bad) (regB s i bad))):=by
     unfold QA;rw[if_neg (by show ¬o=118;omega),if_neg (by show ¬o=99;omega),if_neg (by show ¬o=33;omega),if_neg (by show ¬o=63;omega)]
    have e2:JL ⟨o,to,(regN s i bad,i),(regN s I (opB s (regI s i bad) (regB s i bad)),I),0⟩=[(regN s i bad,i)]++[(regN s I (opB s (regI s i bad) (regB s i bad)),I)]:=by
     unfold JL;rw[if_neg (by show ¬o=118;omega),if_neg (by show ¬o=99;omega),if_neg (by show ¬o=33;omega),if_neg (by show ¬o=63;omega)];rfl
    refine⟨c1,by show i+1≤J;omega,?_,⟨fun e=>?_,fun e=>?_,fun e=>?_,fun e=>?_⟩,⟨by show o≠33;omega,rfl⟩,?_,?_⟩
    ·show OkS (QA _);rw[e1];exact⟨ho,ht,Z2 _ _ _,Z2 _ _ _⟩
    ·have e:o=118:=e;omega
    ·have e:o=63:=e;omega
    ·have e:o=99:=e;omega
    ·have e:o=33:=e;omega
    ·show Asc (JL _);rw[e2];exact Asc.app Asc.one Asc.one (Wi.one (j:=I) (by omega)) (Wi.one (j:=J) (by omega))
    ·show Wi i J (JL _);rw[e2];exact Wi.app (Wi.one (j:=I) (by omega)) (Wi.one (j:=J) (by omega)) (by omega) (by omega)
   refine hR _ ?_;rcases Qdw s (regI s i bad) (regB s i bad) with e|e|e|e|e
   ·exact absurd e h3
   ·exact .inl e
   ·exact .inr (.inl e)
   ·exact .inr (.inr (.inl e))
   ·exact .inr (.inr (.inr e))
 rw[if_neg h2];have dm:∀n:Int,Dum ⟨118,to,(0,0),(0,0),n⟩:=fun n=>⟨fun _=>⟨rfl,rfl⟩,fun e=>by simp at e,fun e=>by simp at e,fun e=>by simp at e⟩;by_cases h4:onF s i bad 45=true
 ·rw[if_pos h4];dsimp only;intro h;obtain⟨c1,c2,c3⟩:=XY h;have c4:bad<0:=by
   split at c1
   ·exact absurd c1 JA
   ·exact c1
  refine⟨c4,by dsimp only;omega,⟨ht,?_⟩,dm _,⟨by simp,rfl⟩,List.Pairwise.nil,Wi.nil⟩;have:=Z2 s (i+1) (if onF s (i+1) bad 48=true then X0 (i+1) bad else bad);show (-(numN s (i+1) _:Int)).natAbs<10000;omega
 ·rw[if_neg h4];dsimp only;intro h;obtain⟨c1,c2,c3⟩:=XY h;refine⟨c1,c2,⟨ht,?_⟩,dm _,⟨by simp,rfl⟩,List.Pairwise.nil,Wi.nil⟩;have:=Z2 s i bad;show ((numN s i bad:Int)).natAbs<10000;omega
theorem QeA{s c}(h:(choR s c).bad<0):c.bad<0∧∃j n g,(choR s c).rs=c.rs++[(n,j)]∧(choR s c).gs=c.gs++[g]∧c.i+2≤j∧j+2≤(choR s c).i:=by
 have h:regB s (gotI s (numI s c.i c.bad) (Zd s c.i c.bad) 58) (mustB s (numI s c.i c.bad) (Zd s c.i c.bad) 58)<0:=h;obtain⟨a1,a2,_⟩:=XR h;obtain⟨b1,b2,_⟩:=Zg a1;obtain⟨c1,c2,_⟩:=XY b1;exact⟨c1,gotI s (numI s c.i c.bad) (Zd s c.i c.bad) 58,_,_,rfl,rfl,by omega,a2⟩
theorem Uh{s:ByteArray}{i1:Nat}:∀(k:Nat)(c:Cho),(Zv s k c).bad<0→i1+5*c.gs.length≤c.i→Asc c.rs→Wi i1 c.i c.rs →
  c.bad<0∧i1+5*(Zv s k c).gs.length≤(Zv s k c).i+1∧Asc (Zv s k c).rs∧Wi i1 (Zv s k c).i (Zv s k c).rs∧c.gs.length+(if k=0 then 0 else 1)≤(Zv s k c).gs.length
 | 0,c,h,hl,ha,hw=>⟨h,by show i1+5*c.gs.length≤c.i+1;omega,ha,hw,by show c.gs.length+0≤c.gs.length;omega⟩
 | k+1,c,h,hl,ha,hw=>by
  rw[Zv]at h ⊢;have hb:(choR s c).bad<0:=by
   cases ho:onF s (choR s c).i (choR s c).bad 44 with
   | true=>exact(QV ho).1
   | false=>rw[ho,if_neg (by simp)]at h;exact h
  obtain⟨c1,j,n,g,e1,e2,l1,l2⟩:=QeA hb;have ha':Asc (choR s c).rs:=by rw[e1];exact Asc.app ha Asc.one hw ((Wi.one (j:=j+1) (by omega)).mono (by omega) (Nat.le_refl _))
  have hw':Wi i1 (choR s c).i (choR s c).rs:=by
   rw[e1];exact(hw.mono (Nat.le_refl _) (show c.i≤j by omega)).app (Wi.one (j:=(choR s c).i) (by omega)) (by omega) (by omega)
  have hl':(choR s c).gs.length=c.gs.length+1:=by rw[e2,List.length_append,List.length_singleton]
  cases ho:onF s (choR s c).i (choR s c).bad 44 with
  | true=>
   rw[ho,if_pos rfl]at h;rw[if_pos rfl];have eg:gotI s (choR s c).i (choR s c).bad 44=(choR s c).i+1:=by rw[gotI,ho];rfl
   rw[eg]at h ⊢;obtain⟨_,r2,r3,r4,r5⟩:=Uh k ⟨(choR s c).gs,(choR s c).rs,(choR s c).i+1,(choR s c).bad⟩ h (by show i1+5*(choR s c).gs.length≤(choR s c).i+1;rw[hl'];omega) ha' (hw'.mono (Nat.le_refl _) (Nat.le_succ _));refine⟨c1,r2,r3,r4,?_⟩;have r5:(choR s c).gs.length+_≤_:=r5;rw[if_neg (by omega)];omega
  | false=>
   have eg:gotI s (choR s c).i (choR s c).bad 44=(choR s c).i:=by rw[gotI,ho];rfl
   rw[if_neg (by simp),eg];refine⟨c1,?_,ha',hw',?_⟩
   ·show i1+5*(choR s c).gs.length≤(choR s c).i+1;rw[hl'];omega
   ·show c.gs.length+_≤(choR s c).gs.length;rw[if_neg (by omega),hl'];omega
theorem Qez{s i bad}(h:(choF s i bad).bad<0):bad<0∧i+5*(choF s i bad).gs.length≤(choF s i bad).i∧Asc (choF s i bad).rs∧Wi i (choF s i bad).i (choF s i bad).rs∧0<(choF s i bad).gs.length:=by
 have key:=Uh (s:=s) (i1:=gotI s i bad 64) (s.size+1) { gs:=[],rs:=[],i:=gotI s i bad 64,bad:=mustB s i bad 64 } h (by simp) List.Pairwise.nil Wi.nil;have er:Zv s (s.size+1) { gs:=[],rs:=[],i:=gotI s i bad 64,bad:=mustB s i bad 64 }=choF s i bad:=rfl;rw[er]at key;obtain⟨a1,a2,a3,a4,a5⟩:=key;obtain⟨b1,b2,_⟩:=Zg a1;rw[if_neg (by omega)]at a5;generalize choF s i bad=r at *;rw[b2]at a2 a4;have a5:0+1≤r.gs.length:=a5;exact⟨b1,by omega,a3,a4.mono (Nat.le_succ _) (Nat.le_refl _),by omega⟩
def chW(chs:List QH):Nat:=(chs.map fun c=>3+5*c.gs.length).sum
structure J(i0:Nat)(chs:List QH)(sts:List Qy)(i:Nat):Prop where
 w:i0+4*sts.length+chW chs≤i
 asc:Asc (Xg chs sts)
 wi:Wi i0 i (Xg chs sts)
 ch:∀c∈chs,0<c.gs.length
 st:∀t∈sts,OkS (QA t)∧Dum t
theorem J.step{i0 chs sts i j}(h:J i0 chs sts i)(t:Qy)(hi:i+4≤j)(ha:Asc (Zj t))(hw:Wi i j (Zj t))(hk:OkS (QA t))(hd:Dum t):J i0 chs (sts++[t]) j:=by
 have e:Xg chs (sts++[t])=Xg chs sts++Zj t:=by simp[Xg]
 have h0:i0≤i:=by have:=h.w;omega
 refine⟨by rw[List.length_append,List.length_singleton];have:=h.w;omega,?_,?_,h.ch,?_⟩
 ·rw[e];exact Asc.app h.asc ha h.wi hw
 ·rw[e];exact h.wi.app hw h0 (by omega)
 ·intro x hx;rcases List.mem_append.1 hx with hx|hx
  ·exact h.st x hx
  ·rw[List.mem_singleton]at hx;subst hx;exact⟨hk,hd⟩
theorem J.cho{i0 chs i j}(h:J i0 chs [] i)(c:QH)(hi:i+3+5*c.gs.length≤j)(ha:Asc (ZO c))(hw:Wi i j (ZO c))(hc:0<c.gs.length):J i0 (chs++[c]) [] j:=by
 have e:Xg (chs++[c]) []=Xg chs []++ZO c:=by simp[Xg]
 have h0:i0≤i:=by have:=h.w;omega
 have ew:chW (chs++[c])=chW chs+(3+5*c.gs.length):=by simp[chW]
 refine⟨by rw[ew];have:=h.w;omega,?_,?_,?_,h.st⟩
 ·rw[e];exact Asc.app h.asc ha h.wi hw
 ·rw[e];exact h.wi.app hw h0 (by omega)
 ·intro x hx;rcases List.mem_append.1 hx with hx|hx
  ·exact h.ch x hx
  ·rw[List.mem_singleton]at hx;subst hx;exact hc
structure JB(i0:Nat)(b:Ql)(i:Nat):Prop where
 w:i0+4*b.sts.length+chW b.chs≤i
 asc:Asc (regsB b)
 wi:Wi i0 i (regsB b)
 ch:∀c∈b.chs,0<c.gs.length
 st:∀t∈b.sts,OkS (QA t)∧Dum t
 e:OkE (Zc b.e)
theorem J.fin{i0 chs sts i j at_}(h:J i0 chs sts i)(e:Z3)(hi:i≤j)(ha:Asc (UI e))(hw:Wi i j (UI e))(he:OkE (Zc e)):JB i0 ⟨chs,sts,e,at_⟩ j:=
 ⟨by have:=h.w;show i0+4*sts.length+chW chs≤j;omega,Asc.app h.asc ha h.wi hw,h.wi.app hw (by have:=h.w;omega) hi,h.ch,h.st,he⟩
theorem Vk{s:ByteArray}{i0 at_:Nat}:∀(k:Nat)(chs:List QH)(sts:List Qy)(i:Nat)(bad:Int),(QG s at_ k chs sts i bad).bad<0→J i0 chs sts i→s.size<k+i→i≤s.size →
  bad<0∧JB i0 (QG s at_ k chs sts i bad).b (QG s at_ k chs sts i bad).i
 | 0,chs,sts,i,bad,h,hj,hk,hi=>by omega
 | k+1,chs,sts,i,bad,h,hj,hk,hi=>by
  revert h;rw[QG];by_cases hb:bad<0
  ·rw[if_pos hb];by_cases h1:onF s i bad 46=true
   ·rw[if_pos h1];intro h;exact⟨hb,hj.fin _ (Nat.le_succ _) List.Pairwise.nil Wi.nil (.inl ⟨rfl,rfl,rfl,rfl⟩)⟩
   rw[if_neg h1];by_cases h2:onF s i bad 62=true
   ·rw[if_pos h2];intro h;obtain⟨_,c2,_⟩:=XY h;exact⟨hb,hj.fin _ (show i≤numI s (i+1) bad by omega) List.Pairwise.nil Wi.nil (.inr (.inl ⟨rfl,rfl,Z2 _ _ _,rfl⟩))⟩
   rw[if_neg h2];by_cases h3:onF s i bad 33=true
   ·rw[if_pos h3];dsimp only;intro h;have key:∀i' b',mustB s (regI s (i+1) bad) (regB s (i+1) bad) 59<0→gotI s (regI s (i+1) bad) (regB s (i+1) bad) 59=i'→mustB s (regI s (i+1) bad) (regB s (i+1) bad) 59=b'→J i0 chs (sts++[⟨33,(0,0),(regN s (i+1) bad,i+1),(0,0),0⟩]) i':=by
     intro i' b' hm e1 e2;obtain⟨m1,m2,_⟩:=Zg hm;obtain⟨r1,r2,_⟩:=XR m1;refine hj.step _ (by omega) Asc.one ?_ (Z2 _ _ _) ⟨fun e=>by simp at e,fun e=>by simp at e,fun e=>by simp at e,fun _=>⟨rfl,rfl⟩⟩;exact(Wi.one (i:=i+1) (j:=i') (by omega)).mono (Nat.le_succ _) (Nat.le_refl _)
    by_cases hm:mustB s (regI s (i+1) bad) (regB s (i+1) bad) 59<0
    ·obtain⟨m1,m2,_⟩:=Zg hm;obtain⟨r1,r2,_⟩:=XR m1;have i1:i<s.size:=(QV h3).2.1;exact⟨hb,(Vk k _ _ _ _ h (key _ _ hm rfl rfl) (by omega) (QS (Zs i1))).2⟩
    ·exfalso
     cases k with
     | zero=>exact hm h
     | succ k=>rw[QG,if_neg hm]at h;exact hm h
   rw[if_neg h3];dsimp only;by_cases h4:onF s (regI s i bad) (regB s i bad) 61=true
   ·rw[if_pos h4];intro h;by_cases hm:mustB s (givF s (regN s i bad,i) (regI s i bad+1) (regB s i bad)).i (givF s (regN s i bad,i) (regI s i bad+1) (regB s i bad)).bad 59<0
    ·obtain⟨m1,m2,_⟩:=Zg hm;have g:=Qej m1 (Z2 _ _ _);obtain⟨r1,r2,_⟩:=XR g.neg;have gi:=g.gi;have ea:Zj (givF s (regN s i bad,i) (regI s i bad+1) (regB s i bad)).st=[(regN s i bad,i)]++JL (givF s (regN s i bad,i) (regI s i bad+1) (regB s i bad)).st:=by
      unfold Zj;rw[if_neg g.to.1,g.to.2]
     have w1:Wi i (i+1) [(regN s i bad,i)]:=Wi.one (Nat.lt_succ_self _);have w2:Wi (i+1) (gotI s (givF s (regN s i bad,i) (regI s i bad+1) (regB s i bad)).i (givF s (regN s i bad,i) (regI s i bad+1) (regB s i bad)).bad 59) (JL (givF s (regN s i bad,i) (regI s i bad+1) (regB s i bad)).st):=g.wi.mono (by omega) (by omega);refine⟨hb,(Vk k _ _ _ _ h (hj.step _ (by omega) ?_ ?_ g.ok g.dum) ?_ ?_).2⟩
     ·rw[ea];exact Asc.app Asc.one g.asc w1 w2
     ·rw[ea];exact w1.app w2 (by omega) (by omega)
     ·omega
     ·exact QS (Vd (QV h4).2.1)
    ·exfalso
     cases k with
     | zero=>exact hm h
     | succ k=>rw[QG,if_neg hm]at h;exact hm h
   rw[if_neg h4];by_cases h5:(onF s (regI s i bad) (regB s i bad) 64&&sts.isEmpty)=true
   ·rw[if_pos h5];intro h;have hse:sts=[]:=by
     rw[Bool.and_eq_true]at h5;exact List.isEmpty_iff.1 h5.2
    subst hse;by_cases hm:mustB s (choF s (regI s i bad) (regB s i bad)).i (choF s (regI s i bad) (regB s i bad)).bad 59<0
    ·obtain⟨m1,m2,_⟩:=Zg hm;obtain⟨c1,c2,c3,c4,c5⟩:=Qez m1;obtain⟨r1,r2,_⟩:=XR c1;have w1:Wi i (i+1) [(regN s i bad,i)]:=Wi.one (Nat.lt_succ_self _);have w2:Wi (i+1) (gotI s (choF s (regI s i bad) (regB s i bad)).i (choF s (regI s i bad) (regB s i bad)).bad 59) (choF s (regI s i bad) (regB s i bad)).rs:=c4.mono (by omega) (by omega);exact⟨hb,(Vk k _ _ _ _ h (hj.cho ⟨(regN s i bad,i),(choF s (regI s i bad) (regB s i bad)).gs,(choF s (regI s i bad) (regB s i bad)).rs⟩ (by dsimp only;omega) (Asc.app Asc.one c3 w1 w2) (w1.app w2 (by omega) (by omega)) c5) (by omega) (QS (Wa (Zs hi)))).2⟩
    ·exfalso
     cases k with
     | zero=>exact hm h
     | succ k=>rw[QG,if_neg hm]at h;exact hm h
   rw[if_neg h5];intro h;have h:(braF s (regN s i bad,i) (regI s i bad) (regB s i bad)).bad<0:=h;unfold braF at h;obtain⟨d1,d2,_⟩:=XY h;obtain⟨e1,e2,_⟩:=Zg d1;obtain⟨f1,f2,_⟩:=XY e1;obtain⟨g1,g2,_⟩:=Zg f1;obtain⟨r1,r2,_⟩:=XR g1;refine⟨hb,hj.fin _ ?_ Asc.one (Wi.one ?_) (.inr (.inr ⟨rfl,Z2 _ _ _,Z2 _ _ _,Z2 _ _ _⟩))⟩
   ·show i≤(braF s (regN s i bad,i) (regI s i bad) (regB s i bad)).i;unfold braF;dsimp only;omega
   ·show i<(braF s (regN s i bad,i) (regI s i bad) (regB s i bad)).i;unfold braF;dsimp only;omega
  ·rw[if_neg hb];intro h;exact absurd h hb
theorem Qby{s i bad}(h:(blkF s i bad).bad<0)(hi:i≤s.size):bad<0∧JB i (blkF s i bad).b (blkF s i bad).i:=
 Vk (i0:=i) (s.size+1) [] [] i bad h ⟨by simp[chW],List.Pairwise.nil,Wi.nil,fun c hc=>absurd hc (by simp),fun c hc=>absurd hc (by simp)⟩ (by omega) hi
def blW(b:Ql):Nat:=4*b.sts.length+chW b.chs
def bsW(bs:List Ql):Nat:=(bs.map blW).sum
structure JP(bs:List Ql)(i:Nat):Prop where
 w:bsW bs≤i
 asc:Asc (bs.flatMap regsB)
 wi:Wi 0 i (bs.flatMap regsB)
 ch:∀b∈bs,∀c∈b.chs,0<c.gs.length
 st:∀b∈bs,∀t∈b.sts,OkS (QA t)∧Dum t
 e:∀b∈bs,OkE (Zc b.e)
theorem JP.snoc{bs i b j}(h:JP bs i)(hb:JB i b j){k:Nat}(hk:j≤k):JP (bs++[b]) k:=by
 have e:(bs++[b]).flatMap regsB=bs.flatMap regsB++regsB b:=by simp
 have ew:bsW (bs++[b])=bsW bs+blW b:=by simp[bsW]
 have hw:=hb.w;have hij:i≤j:=by omega
 refine⟨by rw[ew];have:=h.w;unfold blW;omega,?_,?_,?_,?_,?_⟩
 ·rw[e];exact Asc.app h.asc hb.asc h.wi hb.wi
 ·rw[e];exact(h.wi.app hb.wi (Nat.zero_le _) hij).mono (Nat.le_refl _) hk
 all_goals
  intro x hx;rcases List.mem_append.1 hx with hx|hx
 ·exact h.ch x hx
 ·rw[List.mem_singleton]at hx;subst hx;exact hb.ch
 ·exact h.st x hx
 ·rw[List.mem_singleton]at hx;subst hx;exact hb.st
 ·exact h.e x hx
 ·rw[List.mem_singleton]at hx;subst hx;exact hb.e
theorem RM{s:ByteArray}:∀(k:Nat)(p:Par),(ZU s k p).bad<0→JP p.bs p.i→p.i≤s.size→p.bad<0∧JP (ZU s k p).bs (ZU s k p).i
 | 0,p,h,hj,_=>⟨h,hj⟩
 | k+1,p,h,hj,hi=>by
  rw[ZU]at h ⊢
  cases ho:onF s (blkF s p.i p.bad).i (blkF s p.i p.bad).bad 124 with
  | true=>
   rw[ho,if_pos rfl]at h;rw[if_pos rfl];obtain⟨b1,b2⟩:=Qby (QV ho).1 hi;have eg:gotI s (blkF s p.i p.bad).i (blkF s p.i p.bad).bad 124=(blkF s p.i p.bad).i+1:=by rw[gotI,ho];rfl
   rw[eg]at h ⊢;exact⟨b1,(RM k _ h (hj.snoc b2 (Nat.le_succ _)) (QV ho).2.1).2⟩
  | false=>
   rw[ho,if_neg (by simp)]at h;rw[if_neg (by simp)];have eg:gotI s (blkF s p.i p.bad).i (blkF s p.i p.bad).bad 124=(blkF s p.i p.bad).i:=by rw[gotI,ho];rfl
   rw[eg];obtain⟨b1,b2⟩:=Qby h hi;exact⟨b1,hj.snoc b2 (Nat.le_refl _)⟩
theorem Vu{s:ByteArray}:∀(k:Nat)(p:Par),p.i≤s.size→(ZU s k p).i≤s.size
 | 0,_,h=>h
 | k+1,p,h=>by
  have hb:(blkF s p.i p.bad).i≤s.size:=Rc h;rw[ZU];split
  ·exact Vu k _ (QS hb)
  ·exact QS hb
theorem QhL{s:ByteArray}(h:QR s<0):JP (Qq s).bs s.size:=by
 unfold QR at h;split at h
 ·exact absurd h JA
 ·rename_i hi;obtain⟨_,r⟩:=RM (s.size+1) ⟨[],0,-1⟩ h ⟨Nat.le_refl _,List.Pairwise.nil,Wi.nil,fun b hb=>absurd hb (by simp),fun b hb=>absurd hb (by simp),fun b hb=>absurd hb (by simp)⟩ (Nat.zero_le _);have hle:(Qq s).i≤s.size:=Vu _ _ (Nat.zero_le _);have e:(Qq s).i=s.size:=by omega
  have r:JP (Qq s).bs (Qq s).i:=r
  rwa [e]at r
def gr(at_:Int)(r:Nat×Nat):Int:=if 4999<r.1∧(at_<0∨(r.2:Int)<at_) then r.2 else at_
def Y4(b:Ql):List (Nat×Nat):=b.chs.flatMap ZO++b.sts.flatMap (fun t=>[t.to,t.a,t.b])++[b.e.a]
def Qao(bs:List Ql):Int:=(bs.flatMap Y4).foldl gr (-1)
def JQ(bs:List Ql):Option Nat:=((bs.flatMap regsB).find? fun r=>decide (4999<r.1)).map (·.2)
theorem Jl{a:Int}{r:Nat×Nat}(h:r.1=0):gr a r=a:=by unfold gr;rw[if_neg (by omega)]
theorem Qgo{t:Qy}(h:Dum t)(a:Int):[t.to,t.a,t.b].foldl gr a=(Zj t).foldl gr a:=by
 obtain⟨h1,h2,h3,h4⟩:=h;unfold Zj JL;by_cases e1:t.op=118
 ·rw[if_neg (by omega),if_pos e1];simp only[List.foldl_cons,List.foldl_nil,List.append_nil];rw[Jl (h1 e1).2,Jl (h1 e1).1]
 rw[if_neg e1];by_cases e2:t.op=99
 ·rw[if_neg (by omega),if_pos e2];simp only[List.foldl_cons,List.foldl_nil,List.cons_append,List.nil_append];rw[Jl (h3 e2)]
 rw[if_neg e2];by_cases e3:t.op=33
 ·rw[if_pos e3,if_pos e3];simp only[List.foldl_cons,List.foldl_nil,List.nil_append];rw[Jl (h4 e3).1,Jl (h4 e3).2]
 rw[if_neg e3,if_neg e3];by_cases e4:t.op=63
 ·rw[if_pos e4];simp only[List.foldl_cons,List.foldl_nil,List.append_nil];rw[Jl (h2 e4).2,Jl (h2 e4).1]
 rw[if_neg e4];rfl
theorem VD{α:Type}{f g:α→List (Nat×Nat)}:∀(l:List α)(a:Int),(∀x∈l,∀a,(f x).foldl gr a=(g x).foldl gr a)→(l.flatMap f).foldl gr a=(l.flatMap g).foldl gr a
 | [],_,_=>rfl
 | x::l,a,h=>by
  rw[List.flatMap_cons,List.flatMap_cons,List.foldl_append,List.foldl_append,h x (List.mem_cons_self ..) a];exact VD l _ (fun y hy=>h y (List.mem_cons_of_mem _ hy))
theorem Qei:∀(l:List (Nat×Nat)),Asc l→l.foldl gr (-1)=match (l.find? fun r=>decide (4999<r.1)).map (·.2) with|some x=>(x:Int)|none=>-1
 | [],_=>rfl
 | x::l,h=>by
  rw[Asc,List.pairwise_cons]at h;by_cases hx:4999<x.1
  ·rw[List.find?_cons_of_pos (by simpa using hx),List.foldl_cons];have e:gr (-1) x=x.2:=by unfold gr;rw[if_pos ⟨hx,.inl (by omega)⟩]
   rw[e];show l.foldl gr x.2=x.2;have h1:=h.1;clear h e
   induction l with
   | nil=>rfl
   | cons y l ih=>
    have e:gr x.2 y=x.2:=by
     unfold gr;have:=h1 y (List.mem_cons_self ..);rw[if_neg (by omega)]
    rw[List.foldl_cons,e];exact ih (fun z hz=>h1 z (List.mem_cons_of_mem _ hz))
  ·rw[List.find?_cons_of_neg (by simpa using hx),List.foldl_cons];have e:gr (-1) x=-1:=by unfold gr;rw[if_neg (by omega)]
   rw[e];exact Qei l h.2
theorem Qbd{bs:List Ql}{i:Nat}(h:JP bs i):Qao bs=match JQ bs with|some x=>(x:Int)|none=>-1:=by
 unfold Qao JQ;rw[←Qei _ h.asc];refine VD bs _ (fun b hb a=>?_);unfold Y4 regsB Xg;rw[List.foldl_append,List.foldl_append,List.foldl_append,List.foldl_append];rw[VD (f:=fun t:Qy=>[t.to,t.a,t.b]) (g:=Zj) b.sts _ (fun t ht a=>Qgo (h.st b hb t ht).2 a)];have he:=h.e b hb;unfold UI;by_cases e:b.e.op=63
 ·rw[if_pos e]
 ·rw[if_neg e];show gr _ b.e.a=_;refine Jl ?_;rcases he with he|he|he
  ·exact he.2.1
  ·exact he.2.1
  ·exact absurd he.1 e
theorem RV{bs:List Ql}(h:JQ bs=none):∀b∈bs,∀r∈regsB b,r.1<5000:=by
 intro b hb r hr;unfold JQ at h;rw[Option.map_eq_none_iff,List.find?_eq_none]at h;have:=h r (List.mem_flatMap.2 ⟨b,hb,hr⟩);simp at this;omega
theorem QhQ{t:Qy}(h:∀r∈Zj t,r.1<5000):OldS (QA t):=by
 unfold Zj JL at h;unfold QA;by_cases e1:t.op=118
 ·rw[if_pos e1];rw[if_neg (by omega)]at h;exact h t.to (by simp)
 rw[if_neg e1]at h ⊢;by_cases e2:t.op=99
 ·rw[if_pos e2]at h ⊢;rw[if_neg (by omega)]at h;exact⟨h t.to (by simp),h t.a (by simp)⟩
 rw[if_neg e2]at h ⊢;by_cases e3:t.op=33
 ·rw[if_pos e3]at h ⊢;rw[if_pos e3]at h;exact h t.a (by simp)
 rw[if_neg e3]at h ⊢;rw[if_neg e3]at h;by_cases e4:t.op=63
 ·rw[if_pos e4]at h ⊢;exact h t.to (by simp)
 rw[if_neg e4]at h ⊢;exact⟨h t.to (by simp),h t.a (by simp),h t.b (by simp)⟩
structure Kr(bs:List Ql):Prop where
 pos:0<bs.length
 le:bs.length≤12
 goals:∀b∈bs,∀p∈goalsF b.e,p.1<bs.length
 rs:∀b∈bs,∀c∈b.chs,c.rs.length=c.gs.length
 ahead:∀i (hi:i<bs.length),∀c∈bs[i].chs,Q3 c.gs=aheF bs i
theorem QgN{bs:List Ql}{i k:Nat}(hi:i<bs.length)(h:k∈(goalsF bs[i].e).map (·.1)):i∈aheF bs k:=by
 unfold aheF ZP;rw[List.mem_filter];refine⟨by simpa using hi,?_⟩;unfold VP;rw[List.getElem?_eq_getElem hi];show Qt (Xl (goalsF bs[i].e)) k=true;unfold Qt;rw[List.contains_iff_mem];revert h;unfold goalsF;split
 ·intro h;simpa[Xl] using h
 ·split
  ·intro h;simp only[List.map_cons,List.map_nil,List.mem_cons,List.not_mem_nil,or_false]at h;show k∈(if bs[i].e.two.1=bs[i].e.one.1 then [bs[i].e.one.1] else [bs[i].e.one.1,bs[i].e.two.1]);split
   ·rename_i e;rw[List.mem_singleton];omega
   ·simpa using h
  ·intro h;simp at h
theorem QhJ{bs:List Ql}{n:Nat}(hj:JP bs n)(hr:Kr bs)(hn:JQ bs=none):Qjh (absP bs):=by
 have hl:(absP bs).length=bs.length:=by simp[absP]
 have hm:∀b∈absP bs,∃c∈bs,b=Zy c:=fun b hb=>by
  obtain⟨c,hc,rfl⟩:=List.mem_map.1 hb;exact⟨c,hc,rfl⟩
 refine⟨fun b hb=>?_,fun b hb h=>?_,fun b hb h=>?_,?_⟩
 ·obtain⟨c,hc,rfl⟩:=hm b hb;have hreg:=RV hn c hc;have hC:∀x∈c.chs,∀r∈ZO x,r.1<5000:=fun x hx r hr=>hreg r (by
   unfold regsB Xg;exact List.mem_append_left _ (List.mem_append_left _ (List.mem_flatMap.2 ⟨x,hx,hr⟩)))
  have hS:∀x∈c.sts,∀r∈Zj x,r.1<5000:=fun x hx r hr=>hreg r (by
   unfold regsB Xg;exact List.mem_append_left _ (List.mem_append_right _ (List.mem_flatMap.2 ⟨x,hx,hr⟩)))
  refine⟨fun t ht=>?_,fun x hx=>?_,?_⟩
  ·obtain⟨t,h2,rfl⟩:=List.mem_map.1 ht;exact QhQ (hS t h2)
  ·obtain⟨x,h2,rfl⟩:=List.mem_map.1 hx;refine⟨hC x h2 x.to (List.mem_cons_self ..),fun p hp=>?_⟩;have:=List.of_mem_zip hp;obtain⟨r,h3,h4⟩:=List.mem_map.1 this.2;rw[←h4];exact hC x h2 r (List.mem_cons_of_mem _ h3)
  ·have he:=hj.e c hc;by_cases e:c.e.op=63
   ·exact hreg c.e.a (by unfold regsB UI;rw[if_pos e];exact List.mem_append_right _ (List.mem_singleton.2 rfl))
   ·rcases he with he|he|he
    ·show c.e.a.1<5000;rw[show c.e.a.1=0 from he.2.1];omega
    ·show c.e.a.1<5000;rw[show c.e.a.1=0 from he.2.1];omega
    ·exact absurd he.1 e
 ·obtain⟨c,hc,rfl⟩:=hm b hb;rw[hl];refine hr.goals c hc c.e.one ?_;have he:=hj.e c hc;have h:¬c.e.op=46:=h;rcases he with he|he|he
  ·exact absurd he.1 h
  ·have e:c.e.op=62:=he.1;unfold goalsF;rw[if_pos e];simp
  ·have e:c.e.op=63:=he.1;unfold goalsF;rw[if_neg (by omega),if_pos e];simp
 ·obtain⟨c,hc,rfl⟩:=hm b hb;rw[hl];have e:c.e.op=63:=h;refine hr.goals c hc c.e.two ?_;unfold goalsF;rw[if_neg (by omega),if_pos e];simp
 ·intro i hi t ht h46 hor c hc;have hi':i<bs.length:=by rwa [hl]at hi
  have ht':t<bs.length:=by rwa [hl]at ht
  have ei:(absP bs)[i]=Zy bs[i]:=by simp[absP]
  have et:(absP bs)[t]=Zy bs[t]:=by simp[absP]
  rw[ei]at h46 hor;rw[et]at hc;obtain⟨x,hx,rfl⟩:=List.mem_map.1 hc;have he:=hj.e bs[i] (List.getElem_mem _);have h46:¬bs[i].e.op=46:=h46;have hmem:t∈(goalsF bs[i].e).map (·.1):=by
   rcases he with he|he|he
   ·exact absurd he.1 h46
   ·have e:bs[i].e.op=62:=he.1;unfold goalsF;rw[if_pos e];rcases hor with h|⟨h,_⟩
    ·have h:t=bs[i].e.one.1:=h;simp[h]
    ·have h:bs[i].e.op=63:=h;omega
   ·have e:bs[i].e.op=63:=he.1;unfold goalsF;rw[if_neg (by omega),if_pos e];rcases hor with h|⟨_,h⟩
    ·have h:t=bs[i].e.one.1:=h;simp[h]
    ·have h:t=bs[i].e.two.1:=h;simp[h]
  have:=QgN hi' hmem;rw[←hr.ahead t ht' x hx]at this;obtain⟨g,hg,e⟩:=List.mem_map.1 this;obtain⟨q,hq,eq⟩:=List.getElem_of_mem hg;have hrl:=hr.rs bs[t] (List.getElem_mem _) x hx;refine⟨(x.gs[q].1,x.rs[q].1),?_,by rw[eq];exact e⟩;show _∈(x.gs.map (·.1)).zip (x.rs.map (·.1));rw[List.mem_iff_getElem];exact⟨q,by simp;omega,by simp⟩
theorem Qik{e:AEn}(h:OkE e):(enT e).length≤15:=by
 unfold enT;rcases h with ⟨h1,_,_,_⟩|⟨h1,_,h3,_⟩|⟨h1,h2,h3,h4⟩
 ·rw[if_pos h1];decide
 ·rw[if_neg (by omega),if_pos h1,List.length_cons];have:=Xr h3;omega
 ·rw[if_neg (by omega),if_neg (by omega)];have h2:=XQ h2;have h3:=Xr h3;have h4:=Xr h4;simp only[List.length_append,List.length_cons];omega
def Q0(n:Nat)(f:Nat→Bool):List Value:=(List.range n).map fun j=>Value.bool (f j)
theorem Yw(n f):(Q0 n f).length=n:=by simp[Q0]
theorem Zp{n:Nat}{f:Nat→Bool}{j:Nat}(hj:j<n):(Q0 n f)[j]?=some (.bool (f j)):=by simp[Q0,hj]
theorem U7{n:Nat}{f g:Nat→Bool}{k:Nat}(hg:∀j,j<n→g j=(f j||j==k)):(Q0 n f).set k (.bool true)=Q0 n g:=by
 apply List.ext_getElem?;intro j;rw[List.getElem?_set];by_cases hj:j<n
 ·rw[Zp hj,Zp hj,hg j hj,Yw];by_cases e:k=j
  ·subst e;simp[hj]
  ·have:(j==k)=false:=by simp;omega
   simp[e,this]
 ·have h1:(Q0 n f)[j]?=none:=List.getElem?_eq_none (by rw[Yw];omega);have h2:(Q0 n g)[j]?=none:=List.getElem?_eq_none (by rw[Yw];omega);rw[h1,h2,Yw];by_cases e:k=j
  ·subst e;simp[hj]
  ·simp[e]
theorem J7{n:Nat}{f g:Nat→Bool}(h:∀j,j<n→f j=g j):Q0 n f=Q0 n g:=List.map_congr_left fun j hj=>by rw[h j (by simpa using hj)]
theorem Qcv(n:Nat):Q0 n (fun _=>false)=List.replicate n (.bool false):=by
 apply List.ext_getElem (by simp[Q0]);intro i h1 h2;simp[Q0]
def Xa(wo:Int)(j:Nat):Bool:=decide ((j:Int)=wo)
theorem Rf:Xa (-1)=noB:=by funext j;simp[Xa,noB]
theorem QgJ(a:Nat):Xa (a:Int)=isB a:=by funext j;rw[Bool.eq_iff_iff];simp[Xa,isB];omega
def toR(e:Z3):List Nat:=Xl (goalsF e)
theorem VZ{e x}:x∈toR e↔x∈bhd e:=by
 rw[QbE,toR];have hle:=Zx e;generalize goalsF e=gl at *
 match gl,hle with
 | [],_=>simp[Xl]
 | [p],_=>simp[Xl];exact eq_comm
 | [p,q],_=>
  simp only[Xl];by_cases h:q.1=p.1
  ·rw[if_pos h];simp[h];exact eq_comm
  ·rw[if_neg h];simp[eq_comm]
theorem Qfe(e):(toR e).length≤2:=by
 have hle:=Zx e;unfold toR;generalize goalsF e=gl at *
 match gl,hle with
 | [],_=>simp[Xl]
 | [p],_=>simp[Xl]
 | [p,q],_=>simp only[Xl];split<;>simp
def Xt(bar f:Nat→Bool)(to:List Nat)(q:Nat):Nat→Bool:=fun j=>f j||((to.take q).contains j&&!bar j)
theorem Qaf{bs:List Ql}{bar f:Nat→Bool}{i:Nat}(hi:i<bs.length)(hf:f i=true):Xt bar f (toR bs[i].e) (toR bs[i].e).length=KY (suF bs) bar f i:=by
 funext j
 rw[KY,if_pos hf,Xt,Qag,List.take_length,Wo hi];have:(toR bs[i].e).contains j=(bhd bs[i].e).contains j:=by rw[Bool.eq_iff_iff,List.contains_iff_mem,List.contains_iff_mem,VZ]
 rw[this]
theorem Qae{bar f:Nat→Bool}{to:List Nat}{q:Nat}(hq:q<to.length)(hb:bar to[q]=false)(j:Nat):Xt bar f to (q+1) j=(Xt bar f to q j||j==to[q]):=by
 rw[Xt,Xt,List.take_succ_eq_append_getElem hq];rw[Bool.eq_iff_iff];simp only[Bool.or_eq_true,Bool.and_eq_true,List.contains_iff_mem,List.mem_append,List.mem_singleton,Bool.not_eq_true',beq_iff_eq];constructor
 ·rintro (h|⟨h|h,h2⟩)
  ·exact .inl (.inl h)
  ·exact .inl (.inr ⟨h,h2⟩)
  ·exact .inr h
 ·rintro ((h|h)|h)
  ·exact .inl h
  ·exact .inr ⟨.inl h.1,h.2⟩
  ·exact .inr ⟨.inr h,by rw[h];exact hb⟩
theorem RZ{bar f:Nat→Bool}{to:List Nat}{q:Nat}(hq:q<to.length)(hb:bar to[q]=true)(j:Nat):Xt bar f to (q+1) j=Xt bar f to q j:=by
 rw[Xt,Xt,List.take_succ_eq_append_getElem hq];rw[Bool.eq_iff_iff];simp only[Bool.or_eq_true,Bool.and_eq_true,List.contains_iff_mem,List.mem_append,List.mem_singleton,Bool.not_eq_true'];constructor
 ·rintro (h|⟨h|h,h2⟩)
  ·exact .inl h
  ·exact .inr ⟨h,h2⟩
  ·rw[h,hb]at h2;cases h2
 ·rintro (h|h)
  ·exact .inl h
  ·exact .inr ⟨.inl h.1,h.2⟩
theorem Tryz.info4:(Tryz.prog.info? 4).map (fun i=>(i.zero,i.size,i.bytes))=some (some (.bool false),1,1):=by kernel_rfl
theorem GE(bs:List Ql)(wo:Int)(base:Nat)(v:Value)(w:World)(h:QK w base bs v)(hgl:Hid (∀b∈bs,∀p∈goalsF b.e,p.1<bs.length))(hn0:0<bs.length)(hn:bs.length≤1000):
  Calls Tryz.prog 29 #[v,.int .i64 wo] w fun x w'=>∃v',x=.returned v'∧w'.ownsRow w.heap.size 4 1 v' bs.length (Q0 bs.length (rchF (suF bs) bs.length (Xa wo)))∧Below w.heap.size w w':=by
 obtain⟨pv,cv,rfl⟩:=h.slice;have HB:=Qc h;clear h;obtain⟨I9,Hi9,Hz9,Hs9,Hb9⟩:=info_parts Tryz.info4;go_enter Tryz.func29,Tryz.ntmps29;go_wp2_with (at_make;refine Qv ?_);refine Qc ?_;refine wpList_make_full _ rfl _ _ 67 rfl w.heap.size 4 I9 (.bool false) 1 Tryz.underlying67 Hi9 Hz9 Hs9 .i64 .i64 _ _ bs.length rfl rfl rfl rfl (by rw[Hb9];omega) (by unfold maxLen;omega) (Nat.le_refl _) ?_;intro w1 o1 g1;rw[Y9 _ rfl,←Qcv]at o1;have F1:=Qc (Below.grown (Below.refl w.heap.size w) g1 (Nat.le_refl _) (fun k hk=>by cases hk));clear g1 Hi9 Hz9 Hs9 Hb9;by_cases hwo:wo=0
 ·subst hwo;have HC:Hid (Q0 bs.length (rchF (suF bs) bs.length (Xa 0))=Q0 bs.length (fun _=>false)):=J7 fun j _=>by simp[rchF,Xa]
  have O1:=Qc o1;clear o1;go_wp2_with fail;go_ret;exact⟨_,rfl,by rw[HC.o];exact O1.o,F1.o⟩
 ·have hd:(wo==0)=false:=by simpa using hwo
  have c0:=Qe o1 (Zp hn0);have cf:=XE o1 0;have o2:=Zz o1 0 (.bool true);rw[U7 (g:=Zn) (fun j _=>by simp[Zn])]at o2;have B0:Hid ((w1.setCell ⟨w.heap.size,0,none⟩ (.bool true)).ownsRow w.heap.size 4 1 (.slice (some ⟨w.heap.size,0,none⟩) bs.length bs.length) bs.length (Q0 bs.length (X9 (suF bs) (Xa wo) bs.length Zn 0))∧Below w.heap.size w (w1.setCell ⟨w.heap.size,0,none⟩ (.bool true))):=⟨o2,Qr F1.o _ _ _ (Nat.le_refl _)⟩;clear o1 o2 F1;go_wp2_with fail
  go_loopw [6] (fun i wr=>∃r:Nat,r≤bs.length∧i=.int .i64 r∧Hid (wr.ownsRow w.heap.size 4 1 (.slice (some ⟨w.heap.size,0,none⟩) bs.length bs.length) bs.length (Q0 bs.length (X9 (suF bs) (Xa wo) bs.length Zn r))∧Below w.heap.size w wr)) (fun i _=>bs.length-(intOf i).toNat)
  case atStart=>exact⟨0,by omega,rfl,B0⟩
  case round=>
   clear B0 c0 cf;obtain⟨r,hr,rfl,HR⟩:=hrel;by_cases hrl:r<bs.length
   ·go_wp2_with fail
    go_loopw [7] (fun i wr2=>∃m:Nat,m≤bs.length∧i=.int .i64 m∧Hid (wr2.ownsRow w.heap.size 4 1 (.slice (some ⟨w.heap.size,0,none⟩) bs.length bs.length) bs.length (Q0 bs.length (X5 (suF bs) (Xa wo) (X9 (suF bs) (Xa wo) bs.length Zn r) m))∧Below w.heap.size w wr2)) (fun i _=>bs.length-(intOf i).toNat)
    case atStart=>exact⟨0,by omega,rfl,HR⟩
    case round=>
     clear HR;obtain⟨m,hm,rfl,HR2⟩:=hrel;by_cases hml:m<bs.length
     ·have hB:=HB.o.keeps3 (Qs.below HR2.o.2);obtain⟨g,qc,cc,ps,cs,rfl,_,_,_,_,hc⟩:=hB.at hml;have d0:wr.cell? ⟨g,m*10,none⟩=_:=hc 0 _ rfl;have d1:=hc 1 _ rfl;have d2:=hc 2 _ rfl;have d3:=hc 3 _ rfl;have d4:=hc 4 _ rfl;have d5:=hc 5 _ rfl;have d6:=hc 6 _ rfl;have d7:=hc 7 _ rfl;have d8:=hc 8 _ rfl;have d9:=hc 9 _ rfl;have HTM:=Qc (Qaf (bs:=bs) (bar:=Xa wo) (f:=X5 (suF bs) (Xa wo) (X9 (suF bs) (Xa wo) bs.length Zn r) m) hml);have HNE:Hid (X5 (suF bs) (Xa wo) (X9 (suF bs) (Xa wo) bs.length Zn r) (m+1)=KY (suF bs) (Xa wo) (X5 (suF bs) (Xa wo) (X9 (suF bs) (Xa wo) bs.length Zn r) m) m):=rfl;have HTL:Hid (∀x∈toR bs[m].e,x<bs.length):=fun x hx=>Kw hgl.out m x (by rw[Wo hml];exact VZ.1 hx);obtain⟨f,hf⟩:∃f,f=X5 (suF bs) (Xa wo) (X9 (suF bs) (Xa wo) bs.length Zn r) m:=⟨_,rfl⟩;rw[←hf]at HTM HNE HR2;clear hc hB hf;go_wp2_with fail;refine(Un qc _ cc ps _ cs bs[m].e _ _).mono ?_;rintro x w2 ⟨vt,rfl,OT,f2⟩;have hz2:=f2.size;have hz1:=HR2.o.2.size;have htl:=Qfe bs[m].e;have OT2:w2.ownsRow wr.heap.size 3 1 vt (toR bs[m].e).length (Qg (toR bs[m].e)):=OT;generalize toR bs[m].e=to at *;obtain⟨pt,ct,rfl⟩:=Qb OT2;have H3:Hid (w2.ownsRow w.heap.size 4 1 (.slice (some ⟨w.heap.size,0,none⟩) bs.length bs.length) bs.length (Q0 bs.length f)∧w2.ownsRow w.heap.size 3 1 (.slice pt to.length ct) to.length (Qg to)∧Below w.heap.size w w2):=⟨Qd HR2.o.1 (Qi f2) trivial,Qm OT2 hz1,HR2.o.2.trans (f2.mono hz1)⟩;clear OT OT2 f2 d0 d1 d2 d3 d4 d5 d6 d7 d8 d9 HR2;go_wp2_with fail
      cases hfm:f m with
      | false=>
       have HF:Hid (KY (suF bs) (Xa wo) f m=f):=by show _=_;rw[KY,hfm];rfl
       go_loopw [9] (fun k wr3=>k=.int .i64 0∧Hid (wr3.ownsRow w.heap.size 4 1 (.slice (some ⟨w.heap.size,0,none⟩) bs.length bs.length) bs.length (Q0 bs.length f)∧Below w.heap.size w wr3)) (fun _ _=>0)
       case atStart=>exact⟨rfl,H3.o.1,H3.o.2.2⟩
       case round=>
        clear H3;obtain⟨rfl,HR3⟩:=hrel;have cm:=Qe HR3.o.1 (Zp hml);rw[hfm]at cm;clear hfm;by_cases h0:to.length=0
        ·have hd0:decide ((0:Int)<(to.length:Int))=false:=by simp[h0]
         go_wp2_with fail;go_roundw
         case rel=>exact⟨m+1,by omega,by go_num,by rw[HNE.o,HF.o];exact HR3⟩
         case measure=>simp[intOf];omega
        ·have hd0:decide ((0:Int)<(to.length:Int))=true:=by simp;omega
         go_wp2_with fail;go_roundw
         case rel=>exact⟨m+1,by omega,by go_num,by rw[HNE.o,HF.o];exact HR3⟩
         case measure=>simp[intOf];omega
      | true=>
       have HF:=Qc (HTM.o hfm)
       go_loopw [9] (fun k wr3=>∃q:Nat,q≤to.length∧k=.int .i64 q∧Hid (wr3.ownsRow w.heap.size 4 1 (.slice (some ⟨w.heap.size,0,none⟩) bs.length bs.length) bs.length (Q0 bs.length (Xt (Xa wo) f to q))∧wr3.ownsRow w.heap.size 3 1 (.slice pt to.length ct) to.length (Qg to)∧Below w.heap.size w wr3)) (fun k _=>to.length-(intOf k).toNat)
       case atStart=>exact⟨0,by omega,rfl,by rw[J7 (g:=f) (fun j _=>by simp[Xt])];exact H3.o.1,H3.o.2⟩
       case round=>
        clear H3;obtain⟨q,hq,rfl,HR3⟩:=hrel;by_cases hql:q<to.length
        ·have cm:=Qe HR3.o.1 (Zp hml);have hmm:Xt (Xa wo) f to q m=true:=by simp[Xt,hfm]
         rw[hmm]at cm;obtain⟨gt,rfl,_,_⟩:=Qh HR3.o.2.1 (by omega);have ct0:=Qe HR3.o.2.1 (ZI hql);have htq:=HTL.o _ (List.getElem_mem hql);have cq:=Qe HR3.o.1 (Zp (f:=Xt (Xa wo) f to q) htq);have cqf:=XE HR3.o.1 to[q];clear hfm hmm;by_cases hbq:Xa wo to[q]=true
         ·have hd1:((to[q]:Int) != wo)=false:=by simpa[Xa] using hbq
          have HM:=Qc (J7 (n:=bs.length) (fun j _=>RZ (f:=f) hql hbq j));clear hbq;go_wp2_with fail;go_roundw
          case rel=>exact⟨q+1,by omega,by go_num,by rw[HM.o];exact HR3.o.1,HR3.o.2⟩
          case measure=>simp[intOf];omega
         ·have hbq':Xa wo to[q]=false:=by simpa using hbq
          have hd1:((to[q]:Int) != wo)=true:=by simpa[Xa] using hbq'
          have HM:Hid ((wr.setCell ⟨w.heap.size,to[q],none⟩ (.bool true)).ownsRow w.heap.size 4 1 (.slice (some ⟨w.heap.size,0,none⟩) bs.length bs.length) bs.length (Q0 bs.length (Xt (Xa wo) f to (q+1)))∧(wr.setCell ⟨w.heap.size,to[q],none⟩ (.bool true)).ownsRow w.heap.size 3 1 (.slice (some ⟨gt,0,none⟩) to.length ct) to.length (Qg to)∧Below w.heap.size w (wr.setCell ⟨w.heap.size,to[q],none⟩ (.bool true))):=by
           refine⟨?_,?_,Qr HR3.o.2.2 _ _ _ (Nat.le_refl _)⟩
           ·have:=Zz HR3.o.1 to[q] (.bool true)
            rwa [U7 (fun j _=>Qae (f:=f) hql hbq' j)]at this
           ·rcases HR3.o.1.2 with ⟨h0,_⟩|⟨g',cap',cur',hv,_,hc',_⟩
            ·cases h0
            ·cases hv;exact Xq HR3.o.2.1 hc' (by decide)
          clear hbq hbq';go_wp2_with fail;go_roundw
          case rel=>exact⟨q+1,by omega,by go_num,HM⟩
          case measure=>simp[intOf];omega
        ·have hqe:q=to.length:=by omega
         subst hqe;have HR4:Hid (wr.ownsRow w.heap.size 4 1 (.slice (some ⟨w.heap.size,0,none⟩) bs.length bs.length) bs.length (Q0 bs.length (X5 (suF bs) (Xa wo) (X9 (suF bs) (Xa wo) bs.length Zn r) (m+1)))∧Below w.heap.size w wr):=⟨by rw[HNE.o,←HF.o];exact HR3.o.1,HR3.o.2.2⟩;clear hfm;go_wp2_with fail;go_roundw
         case rel=>exact⟨m+1,by omega,by go_num,HR4⟩
         case measure=>simp[intOf];omega
     ·have hme:m=bs.length:=by omega
      subst hme;have HR4:Hid (wr.ownsRow w.heap.size 4 1 (.slice (some ⟨w.heap.size,0,none⟩) bs.length bs.length) bs.length (Q0 bs.length (X9 (suF bs) (Xa wo) bs.length Zn (r+1)))∧Below w.heap.size w wr):=HR2;go_wp2_with fail;go_roundw
      case rel=>exact⟨r+1,by omega,by go_num,HR4⟩
      case measure=>simp[intOf];omega
   ·have hre:r=bs.length:=by omega
    subst hre;have HC:Hid (Q0 bs.length (rchF (suF bs) bs.length (Xa wo))=Q0 bs.length (X9 (suF bs) (Xa wo) bs.length Zn bs.length)):=J7 fun j _=>by
     have:Xa wo 0=false:=by simp[Xa];omega
     rw[rchF,this];rfl
    go_wp2_with fail;go_ret;exact⟨_,rfl,by rw[HC.o];exact HR.o.1,HR.o.2⟩
theorem QeX{α:Type}{P:α→Bool}{L:List α}{k:Nat}(hk:k<L.length):(L.take (k+1)).any P=((L.take k).any P||P L[k]):=by
 rw[List.take_succ_eq_append_getElem hk,List.any_append];simp
def ptF(l:List Nat)(x:Nat):List Nat:=ofL (l++[x])
theorem Zf{l:List Nat}{x y:Nat}:y∈ptF l x↔y∈l∨y=x:=by rw[ptF,Z1,List.mem_append,List.mem_singleton]
theorem XS(l x):(ptF l x).Pairwise (· < ·):=XX _
theorem QfM(l:List Nat)(x:Nat):(ptF l x).length≤l.length+1:=by
 have:=GI (l++[x]);rw[List.length_append]at this;exact this
def dnF(l:List Nat)(x m:Nat):Bool:=(l.take m).any fun y=>decide (x≤y)
def Ju(l:List Nat)(x m:Nat):List Nat:=if dnF l x m then ptF (l.take m) x else l.take m
theorem Vh{l:List Nat}{x m:Nat}(hm:m<l.length):dnF l x (m+1)=(dnF l x m||decide (x≤l[m])):=QeX hm
theorem Qdk(l:List Nat)(x m:Nat):(Ju l x m).length≤l.length+1:=by
 unfold Ju;have hm:(l.take m).length≤l.length:=by rw[List.length_take];omega
 split
 ·have:=QfM (l.take m) x;omega
 ·omega
theorem V0{l:List Nat}(h:l.Pairwise (· < ·)){m:Nat}(hm:m<l.length):∀y∈l.take m,y<l[m]:=fun y hy=>by
 obtain⟨j,hj,rfl⟩:=List.getElem_of_mem hy;rw[List.length_take]at hj;rw[List.getElem_take];exact List.pairwise_iff_getElem.1 h j m (by omega) hm (by omega)
theorem Rt{l:List Nat}(h:l.Pairwise (· < ·))(m:Nat):(l.take m).Pairwise (· < ·):=h.sublist (List.take_sublist _ _)
theorem K6{l:List Nat}{x:Nat}(h:l.Pairwise (· < ·))(hx:∀y∈l,y<x):(l++[x]).Pairwise (· < ·):=by
 rw[List.pairwise_append];exact⟨h,List.pairwise_singleton _ _,fun a ha b hb=>by rw[List.mem_singleton]at hb;subst hb;exact hx a ha⟩
theorem Qeu{l:List Nat}{x m:Nat}(h:dnF l x m=false):∀y∈l.take m,y<x:=fun y hy=>by
 have:=List.any_eq_false.1 h y hy;simpa using this
theorem Qgu{l:List Nat}{x m:Nat}(h:dnF l x m=true):∃y∈l.take m,x≤y:=by
 obtain⟨y,hy,hx⟩:=List.any_eq_true.1 h;exact⟨y,hy,by simpa using hx⟩
theorem Qjp{l:List Nat}{x m:Nat}(hl:l.Pairwise (· < ·))(hm:m<l.length)(hd:dnF l x m=false)(hx:x<l[m]):dnF l x (m+1)=true∧Ju l x (m+1)=Ju l x m++[x]++[l[m]]:=by
 have h1:dnF l x (m+1)=true:=by rw[Vh hm,hd];simp;omega
 refine⟨h1,?_⟩;rw[Ju,if_pos h1,Ju,hd,if_neg (by simp)];have s1:=K6 (Rt hl m) (Qeu hd);refine ZX (XS _ _) (K6 s1 fun y hy=>?_) fun y=>?_
 ·rcases List.mem_append.1 hy with h|h
  ·exact V0 hl hm y h
  ·rw[List.mem_singleton.1 h];exact hx
 ·rw[Zf,List.take_succ_eq_append_getElem hm];simp only[List.mem_append,List.mem_singleton];constructor
  ·rintro ((h|h)|h)
   ·exact .inl (.inl h)
   ·exact .inr h
   ·exact .inl (.inr h)
  ·rintro ((h|h)|h)
   ·exact .inl (.inl h)
   ·exact .inr h
   ·exact .inl (.inr h)
theorem Qjo{l:List Nat}{x m:Nat}(hl:l.Pairwise (· < ·))(hm:m<l.length)(hd:dnF l x m=false)(hx:x=l[m]):dnF l x (m+1)=true∧Ju l x (m+1)=Ju l x m++[l[m]]:=by
 have h1:dnF l x (m+1)=true:=by rw[Vh hm,hd];simp;omega
 refine⟨h1,?_⟩;rw[Ju,if_pos h1,Ju,hd,if_neg (by simp)];refine ZX (XS _ _) (K6 (Rt hl m) (V0 hl hm)) fun y=>?_;rw[Zf,List.take_succ_eq_append_getElem hm,←hx];simp only[List.mem_append,List.mem_singleton];constructor
 ·rintro (h|h)
  ·exact h
  ·exact .inr h
 ·exact .inl
theorem Qjn{l:List Nat}{x m:Nat}(hm:m<l.length)(hd:dnF l x m=false)(hx:l[m]<x):dnF l x (m+1)=false∧Ju l x (m+1)=Ju l x m++[l[m]]:=by
 have h1:dnF l x (m+1)=false:=by rw[Vh hm,hd];simp;omega
 refine⟨h1,?_⟩;rw[Ju,h1,if_neg (by simp),Ju,hd,if_neg (by simp),List.take_succ_eq_append_getElem hm]
theorem Qjm{l:List Nat}{x m:Nat}(hl:l.Pairwise (· < ·))(hm:m<l.length)(hd:dnF l x m=true):x<l[m]∧dnF l x (m+1)=true∧Ju l x (m+1)=Ju l x m++[l[m]]:=by
 obtain⟨z,hz,hxz⟩:=Qgu hd;have hzm:=V0 hl hm z hz;have h1:dnF l x (m+1)=true:=by rw[Vh hm,hd];rfl
 refine⟨by omega,h1,?_⟩;rw[Ju,if_pos h1,Ju,if_pos hd];refine ZX (XS _ _) (K6 (XS _ _) fun y hy=>?_) fun y=>?_
 ·rcases Zf.1 hy with h|h
  ·exact V0 hl hm y h
  ·rw[h];omega
 ·rw[Zf,List.take_succ_eq_append_getElem hm,List.mem_append,List.mem_append,Zf,List.mem_singleton];constructor
  ·rintro ((h|h)|h)
   ·exact .inl (.inl h)
   ·exact .inr h
   ·exact .inl (.inr h)
  ·rintro ((h|h)|h)
   ·exact .inl (.inl h)
   ·exact .inr h
   ·exact .inl (.inr h)
theorem QhH{l:List Nat}{x:Nat}(hl:l.Pairwise (· < ·))(hd:dnF l x l.length=false):ptF l x=Ju l x l.length++[x]:=by
 have hx:=Qeu hd;rw[Ju,hd,if_neg (by simp)];rw[List.take_length]at hx ⊢;exact ZX (XS _ _) (K6 hl hx) fun y=>by rw[Zf,List.mem_append,List.mem_singleton]
theorem QfK{l:List Nat}{x:Nat}(hd:dnF l x l.length=true):ptF l x=Ju l x l.length:=by
 rw[Ju,if_pos hd,List.take_length]
theorem QhG(l:List Nat)(x base:Nat)(v:Value)(w:World)(h:w.ownsRow base 3 1 v l.length (Qg l))(hsrt:Hid (l.Pairwise (· < ·)))(hl:l.length≤500000):
  Calls Tryz.prog 57 #[v,.int .i64 x] w fun r w'=>∃v',r=.returned v'∧w'.ownsRow w.heap.size 3 1 v' (ptF l x).length (Qg (ptF l x))∧Below w.heap.size w w':=by
 obtain⟨p1,c1,rfl⟩:=Qb h;have HA:=Qc h;clear h;go_enter Tryz.func57,Tryz.ntmps57;go_wp2_with fail
 go_loopw [5,6,7] (fun o d i wr=>∃m:Nat,m≤l.length∧i=.int .i64 m∧d=.bool (dnF l x m)∧wr.ownsRow w.heap.size 3 1 o (Ju l x m).length (Qg (Ju l x m))∧Hid (Below w.heap.size w wr)) (fun _ _ i _=>l.length-(intOf i).toNat)
 case atStart=>exact⟨0,by omega,rfl,rfl,World.ownsRow_nil _ _ _ _,Below.refl _ _⟩
 case round=>
  obtain⟨m,hm,rfl,rfl,OL,F⟩:=hrel;obtain⟨pl,cl,rfl⟩:=Qb OL;have hz:=F.o.size;have hal:=Qdk l x m;by_cases hlt:m<l.length
  ·have OA:=Qd HA.o (Qi F.o) trivial;obtain⟨g1,rfl,_,_⟩:=Qh OA (by omega);have k1:=Qe OA (ZI hlt);clear OA
   cases hd:dnF l x m with
   | true=>
    have HT2:=Qjm hsrt.out hlt hd;have hxl:=HT2.1;have HT:=Qc HT2.2;have h2:¬(x=l[m]):=by omega
    clear hd HT2 hxl;have OLH:=Qc OL;clear OL;go_wp2_with (at_builtin;refine Qv ?_);refine Qc ?_;have gB:=heap_alloc_last wr (.cells #[.int .i64 l[m]] 3);have OB:=OLH.o.alloc (.cells #[.int .i64 l[m]] 3);refine Kd Tryz.underlying22 Tryz.info3 rfl (by decide) (by decide) rfl _ _ rfl rfl OB gB rfl rfl (List.all_eq_true.1 rfl) (by omega) (by simp;omega) ?_;intro v3 w3 oS gS;have F3:=Qc (Below.grown (F.o.alloc (by omega) (.cells #[.int .i64 l[m]] 3)) gS (by simp;omega) (fun j hj=>by have:=(OB.lt j hj).1;omega));have w3z:=F3.o.size;obtain⟨v3p,v3c,rfl⟩:=Qb oS;have O3:=Qc oS;clear gS gB OB oS;go_wp2_with fail;go_roundw
    case rel=>exact⟨m+1,by omega,by go_num,by rw[HT.o.1],by rw[HT.o.2,List.length_append];simpa[Qg] using O3.o,F3⟩
    case measure=>simp[intOf];omega
   | false=>
    by_cases hx:x<l[m]
    ·have HT:=Qc (Qjp hsrt.out hlt hd hx);have h1:x<l[m]:=hx;have h2:¬(x=l[m]):=by omega
     clear hd hx;have OLH:=Qc OL;clear OL;go_wp2_with (at_builtin;refine Qv ?_);refine Qc ?_;have gB:=heap_alloc_last wr (.cells #[.int .i64 x] 3);have OB:=OLH.o.alloc (.cells #[.int .i64 x] 3);refine Kd Tryz.underlying22 Tryz.info3 rfl (by decide) (by decide) rfl _ _ rfl rfl OB gB rfl rfl (List.all_eq_true.1 rfl) (by omega) (by simp;omega) ?_;intro v3 w3 oS gS;have F3:=Qc (Below.grown (F.o.alloc (by omega) (.cells #[.int .i64 x] 3)) gS (by simp;omega) (fun j hj=>by have:=(OB.lt j hj).1;omega));have w3z:=F3.o.size;obtain⟨v3p,v3c,rfl⟩:=Qb oS;have O3:=Qc oS;clear gS gB OB oS;have k3:=Qe (Qd HA.o (Qi F3.o) trivial) (ZI hlt);clear k1;go_wp2_with (at_builtin;refine Qv ?_);refine Qc ?_;have gB:=heap_alloc_last w3 (.cells #[.int .i64 l[m]] 3);have OB:=O3.o.alloc (.cells #[.int .i64 l[m]] 3);refine Kd Tryz.underlying22 Tryz.info3 rfl (by decide) (by decide) rfl _ _ rfl rfl OB gB rfl rfl (List.all_eq_true.1 rfl) (by omega) (by simp;omega) ?_;intro v4 w4 oS gS;have F4:=Qc (Below.grown (F3.o.alloc (by omega) (.cells #[.int .i64 l[m]] 3)) gS (by simp;omega) (fun j hj=>by have:=(OB.lt j hj).1;omega));have w4z:=F4.o.size;obtain⟨v4p,v4c,rfl⟩:=Qb oS;have O4:=Qc oS;clear gS gB OB oS;go_wp2_with fail;go_roundw
     case rel=>exact⟨m+1,by omega,by go_num,by rw[HT.o.1],by rw[HT.o.2,List.length_append,List.length_append];simpa[Qg] using O4.o,F4⟩
     case measure=>simp[intOf];omega
    ·by_cases hx2:x=l[m]
     ·clear hx;have hx:=hx2;clear hx2;have HT:=Qc (Qjo hsrt.out hlt hd hx);have hb1:=ZI hlt;rw[←hx]at HT k1;clear hd hx hb1;have OLH:=Qc OL;clear OL;go_wp2_with (at_builtin;refine Qv ?_);refine Qc ?_;have gB:=heap_alloc_last wr (.cells #[.int .i64 x] 3);have OB:=OLH.o.alloc (.cells #[.int .i64 x] 3);refine Kd Tryz.underlying22 Tryz.info3 rfl (by decide) (by decide) rfl _ _ rfl rfl OB gB rfl rfl (List.all_eq_true.1 rfl) (by omega) (by simp;omega) ?_;intro v3 w3 oS gS;have F3:=Qc (Below.grown (F.o.alloc (by omega) (.cells #[.int .i64 x] 3)) gS (by simp;omega) (fun j hj=>by have:=(OB.lt j hj).1;omega));have w3z:=F3.o.size;obtain⟨v3p,v3c,rfl⟩:=Qb oS;have O3:=Qc oS;clear gS gB OB oS;go_wp2_with fail;go_roundw
      case rel=>exact⟨m+1,by omega,by go_num,by rw[HT.o.1],by rw[HT.o.2,List.length_append];simpa[Qg] using O3.o,F3⟩
      case measure=>simp[intOf];omega
     ·have HT:=Qc (Qjn hlt hd (by omega:l[m]<x));have h1:¬(x<l[m]):=hx;have h2:¬(x=l[m]):=hx2;clear hd hx hx2;have OLH:=Qc OL;clear OL;go_wp2_with (at_builtin;refine Qv ?_);refine Qc ?_;have gB:=heap_alloc_last wr (.cells #[.int .i64 l[m]] 3);have OB:=OLH.o.alloc (.cells #[.int .i64 l[m]] 3);refine Kd Tryz.underlying22 Tryz.info3 rfl (by decide) (by decide) rfl _ _ rfl rfl OB gB rfl rfl (List.all_eq_true.1 rfl) (by omega) (by simp;omega) ?_;intro v3 w3 oS gS;have F3:=Qc (Below.grown (F.o.alloc (by omega) (.cells #[.int .i64 l[m]] 3)) gS (by simp;omega) (fun j hj=>by have:=(OB.lt j hj).1;omega));have w3z:=F3.o.size;obtain⟨v3p,v3c,rfl⟩:=Qb oS;have O3:=Qc oS;clear gS gB OB oS;go_wp2_with fail;go_roundw
      case rel=>exact⟨m+1,by omega,by go_num,by rw[HT.o.1],by rw[HT.o.2,List.length_append];simpa[Qg] using O3.o,F3⟩
      case measure=>simp[intOf];omega
  ·have hme:m=l.length:=by omega
   subst hme
   cases hd:dnF l x l.length with
   | true=>
    have HT:=Qc (QfK hd);have OLH:=Qc OL;clear hd OL;go_wp2_with fail;go_ret;exact⟨_,rfl,by rw[HT.o];exact OLH.o,F.o⟩
   | false=>
    have HT:=Qc (QhH hsrt.out hd);clear hd;have OLH:=Qc OL;clear OL;go_wp2_with (at_builtin;refine Qv ?_);refine Qc ?_;have gB:=heap_alloc_last wr (.cells #[.int .i64 x] 3);have OB:=OLH.o.alloc (.cells #[.int .i64 x] 3);refine Kd Tryz.underlying22 Tryz.info3 rfl (by decide) (by decide) rfl _ _ rfl rfl OB gB rfl rfl (List.all_eq_true.1 rfl) (by omega) (by simp;omega) ?_;intro v3 w3 oS gS;have F3:=Qc (Below.grown (F.o.alloc (by omega) (.cells #[.int .i64 x] 3)) gS (by simp;omega) (fun j hj=>by have:=(OB.lt j hj).1;omega));have w3z:=F3.o.size;obtain⟨v3p,v3c,rfl⟩:=Qb oS;have O3:=Qc oS;clear gS gB OB oS;go_wp2_with fail;go_ret;exact⟨_,rfl,by rw[HT.o,List.length_append];simpa[Qg] using O3.o,F3.o⟩
end Go.Proofs.YtgfhfkgdmidhpaaGreatDoor
