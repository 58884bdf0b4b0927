import Derived.Test.YtgfhfkgdmidhpaaGreatDoorC03
namespace Go.Proofs.YtgfhfkgdmidhpaaGreatDoor
set_option maxRecDepth 100000
set_option maxHeartbeats 8000000
inductive Rch(su:Nat→List Nat)(bar:Nat→Bool):Nat→Prop
 | zero:bar 0=false→Rch su bar 0
 | step {i k:Nat}:Rch su bar i→k∈su i→bar k=false→Rch su bar k
theorem Rch.nb{su bar k}(h:Rch su bar k):bar k=false:=by cases h<;>assumption
theorem Rch.lt{su:Nat→List Nat} {bar k n}(hn:0<n)(hs:∀i k,k∈su i→k<n)(h:Rch su bar k):k<n:=by
 cases h with
 | zero=>exact hn
 | step _ h _=>exact hs _ _ h
def QC(n:Nat)(f:Nat→Bool):List Nat:=(List.range n).filter f
theorem Z4{n f j}:j∈QC n f↔j<n∧f j=true:=by simp[QC]
theorem K8(n f):(QC n f).Pairwise (· < ·):=List.Pairwise.filter _ List.pairwise_lt_range
theorem Xy(n f):(QC n f).length≤n:=by
 have:=List.length_filter_le f (List.range n);simpa[QC] using this
theorem ZX:∀{l m:List Nat},l.Pairwise (· < ·)→m.Pairwise (· < ·)→(∀x,x∈l↔x∈m)→l=m
 | [],[],_,_,_=>rfl
 | [],b::m,_,_,h=>absurd ((h b).2 (List.mem_cons_self ..)) (by simp)
 | a::l,[],_,_,h=>absurd ((h a).1 (List.mem_cons_self ..)) (by simp)
 | a::l,b::m,hl,hm,h=>by
  rw[List.pairwise_cons]at hl hm;have hab:a=b:=by
   have h1:=(h a).1 (List.mem_cons_self ..);have h2:=(h b).2 (List.mem_cons_self ..);rcases List.mem_cons.1 h1 with e|h1
   ·exact e
   ·rcases List.mem_cons.1 h2 with e|h2
    ·exact e.symm
    ·have:=hm.1 a h1;have:=hl.1 b h2;omega
  subst hab
  congr 1
  refine ZX hl.2 hm.2 fun x=>?_;constructor
  ·intro hx;rcases List.mem_cons.1 ((h x).1 (List.mem_cons_of_mem _ hx)) with e|h1
   ·have:=hl.1 x hx;omega
   ·exact h1
  ·intro hx;rcases List.mem_cons.1 ((h x).2 (List.mem_cons_of_mem _ hx)) with e|h1
   ·have:=hm.1 x hx;omega
   ·exact h1
theorem Y3{n:Nat}{f:Nat→Bool}{l:List Nat}(hl:l.Pairwise (· < ·))(h:∀x,x∈l↔x<n∧f x=true):l=QC n f:=
 ZX hl (K8 n f) fun x=>by rw[h,Z4]
theorem Wx{n:Nat}{f g:Nat→Bool}(h:∀j,j<n→f j=g j):QC n f=QC n g:=
 List.filter_congr fun x hx=>h x (by simpa using hx)
theorem Ww{n:Nat}{f g:Nat→Bool}(h:QC n f=QC n g):∀j,j<n→f j=g j:=fun j hj=>by
 have h1:j∈QC n f↔j∈QC n g:=by rw[h]
 rw[Z4,Z4]at h1;cases hf:f j<;>cases hg:g j<;>simp_all
theorem Gz{f g:Nat→Bool}:∀{n:Nat},(∀j,j<n→f j=true→g j=true)→QC n f≠QC n g→(QC n f).length<(QC n g).length:=by
 have le:∀{n:Nat},(∀j,j<n→f j=true→g j=true)→(QC n f).length≤(QC n g).length:=by
  intro n
  induction n with
  | zero=>intro _;simp[QC]
  | succ n ih=>
   intro h;have h1:=ih (fun j hj=>h j (by omega));have h2:=h n (by omega);simp only[QC,List.range_succ,List.filter_append,List.length_append]at h1 ⊢;cases hf:f n<;>cases hg:g n<;>simp_all<;>omega
 intro n
 induction n with
 | zero=>intro _ h;exact absurd rfl h
 | succ n ih=>
  intro h hne;have h2:=h n (by omega);have h3:=le (n:=n) (fun j hj=>h j (by omega));by_cases he:QC n f=QC n g
  ·have:f n≠g n:=fun e=>hne (by simp only[QC,List.range_succ,List.filter_append]at he ⊢;rw[he];simp[List.filter_cons,e]);simp only[QC,List.range_succ,List.filter_append,List.length_append]at h3 ⊢;cases hf:f n<;>cases hg:g n<;>simp_all<;>omega
  ·have h1:=ih (fun j hj=>h j (by omega)) he;simp only[QC,List.range_succ,List.filter_append,List.length_append]at h1 ⊢;cases hf:f n<;>cases hg:g n<;>simp_all<;>omega
def Qag(bar:Nat→Bool)(f:Nat→Bool)(ks:List Nat):Nat→Bool:=fun j=>f j||(ks.contains j&&!bar j)
def KY(su:Nat→List Nat)(bar f:Nat→Bool)(i:Nat):Nat→Bool:=if f i then Qag bar f (su i) else f
def X5(su:Nat→List Nat)(bar f:Nat→Bool):Nat→(Nat→Bool)
 | 0=>f
 | m+1=>KY su bar (X5 su bar f m) m
def X9(su:Nat→List Nat)(bar:Nat→Bool)(n:Nat)(f:Nat→Bool):Nat→(Nat→Bool)
 | 0=>f
 | r+1=>X5 su bar (X9 su bar n f r) n
def Zn(j:Nat):Bool:=j==0
theorem UH{su bar f i j}(h:f j=true):KY su bar f i j=true:=by
 unfold KY;split<;>simp[Qag,h]
theorem KB{su bar f j}(h:f j=true):∀m,X5 su bar f m j=true
 | 0=>h
 | m+1=>UH (KB h m)
theorem VS{su bar f j}:∀{m m':Nat},m≤m'→X5 su bar f m j=true→X5 su bar f m' j=true
 | m,0,h,hj=>by rw[show m=0 by omega]at hj;exact hj
 | m,k+1,h,hj=>by
  rcases Nat.lt_or_ge k m with h1|h1
  ·rw[show m=k+1 by omega]at hj;exact hj
  ·exact UH (VS h1 hj)
theorem N0{su bar f i}(h:∀j,f j=true→Rch su bar j):∀j,KY su bar f i j=true→Rch su bar j:=by
 intro j hj;unfold KY at hj;by_cases hi:f i=true
 ·rw[if_pos hi]at hj;simp only[Qag,Bool.or_eq_true,Bool.and_eq_true,List.contains_iff_mem,Bool.not_eq_true']at hj;rcases hj with hj|⟨h1,h2⟩
  ·exact h j hj
  ·exact .step (h i hi) h1 h2
 ·rw[if_neg hi]at hj;exact h j hj
theorem VR{su bar f}(h:∀j,f j=true→Rch su bar j):∀m j,X5 su bar f m j=true→Rch su bar j
 | 0=>h
 | m+1=>N0 (VR h m)
theorem WA{su bar n f}(h:∀j,f j=true→Rch su bar j):∀r j,X9 su bar n f r j=true→Rch su bar j
 | 0=>h
 | r+1=>VR (WA h r) n
theorem UG{su bar n f j}(h:f j=true):∀r,X9 su bar n f r j=true
 | 0=>h
 | r+1=>KB (UG h r) n
theorem GB{su bar f n}(h:∀j,j<n→X5 su bar f n j=f j){i k:Nat}(hi:i<n)(hk:k<n)(hf:f i=true)(hs:k∈su i)(hb:bar k=false):f k=true:=by
 rw[←h k hk];refine VS (m:=i+1) hi ?_;show KY su bar (X5 su bar f i) i k=true;rw[KY,if_pos (KB hf i)];simp[Qag,hs,hb]
theorem RF{su bar n f}(h0:QC n f≠[]):∀r,(∀j,j<n→X9 su bar n f (r+1) j=X9 su bar n f r j)∨r<(QC n (X9 su bar n f r)).length:=by
 have stepc:∀r,(∀j,j<n→X9 su bar n f (r+1) j=X9 su bar n f r j)∨(QC n (X9 su bar n f r)).length<(QC n (X9 su bar n f (r+1))).length:=by
  intro r;by_cases he:QC n (X9 su bar n f r)=QC n (X9 su bar n f (r+1))
  ·exact .inl fun j hj=>(Ww he j hj).symm
  ·exact .inr (Gz (fun j _ hj=>KB hj n) he)
 intro r
 induction r with
 | zero=>
  rcases List.length_pos_iff.2 h0 with h;exact .inr h
 | succ r ih=>
  rcases ih with h|h
  ·left;have eqv:∀{g g':Nat→Bool},(∀j,j<n→g j=g' j)→(∀i k,k∈su i→k<n)∨True→∀m,m≤n→∀j,j<n→X5 su bar g m j=X5 su bar g' m j:=by
    intro g g' hg _ m
    induction m with
    | zero=>intro _ j hj;exact hg j hj
    | succ m ihm=>
     intro hm j hj;show KY su bar _ m j=KY su bar _ m j;have e1:=ihm (by omega) m (by omega);have e2:=ihm (by omega) j hj;unfold KY;rw[e1];split
     ·simp[Qag,e2]
     ·exact e2
   intro j hj;exact eqv h (.inr trivial) n (Nat.le_refl _) j hj
  ·rcases stepc r with h1|h1
   ·left;have eqv:∀{g g':Nat→Bool},(∀j,j<n→g j=g' j)→∀m,m≤n→∀j,j<n→X5 su bar g m j=X5 su bar g' m j:=by
     intro g g' hg m
     induction m with
     | zero=>intro _ j hj;exact hg j hj
     | succ m ihm=>
      intro hm j hj;show KY su bar _ m j=KY su bar _ m j;have e1:=ihm (by omega) m (by omega);have e2:=ihm (by omega) j hj;unfold KY;rw[e1];split
      ·simp[Qag,e2]
      ·exact e2
    intro j hj;exact eqv h1 n (Nat.le_refl _) j hj
   ·right;omega
theorem Qc5{su bar n}(hn:0<n)(hs:∀i k,k∈su i→k<n)(hb:bar 0=false){j:Nat}:X9 su bar n Zn n j=true↔Rch su bar j:=by
 have hs0:∀j,Zn j=true→Rch su bar j:=fun j h=>by
  have:j=0:=by simpa[Zn] using h
  subst this;exact .zero hb
 constructor
 ·exact WA hs0 n j
 ·intro h;have h0:QC n Zn≠[]:=fun e=>by
   have:(0:Nat)∈QC n Zn:=Z4.2 ⟨hn,rfl⟩;rw[e]at this;cases this
  have hc:∀j,j<n→X9 su bar n Zn (n+1) j=X9 su bar n Zn n j:=by
   rcases RF (su:=su) (bar:=bar) h0 n with h|h
   ·exact h
   ·have:=Xy n (X9 su bar n Zn n);omega
  induction h with
  | zero _=>exact UG rfl n
  | step hi hk hbk ih=>exact GB hc (hi.lt hn hs) (hs _ _ hk) ih hk hbk
def jac(su:Nat→List Nat)(bar:Nat→Bool)(n:Nat)(f:Nat→Bool):Nat→Bool:=fun j=>(f j||(List.range n).any fun i=>f i&&(su i).contains j)&&!bar j
def GO(bar:Nat→Bool)(j:Nat):Bool:=Zn j&&!bar j
structure Jn(su:Nat→List Nat)(bar:Nat→Bool)(n:Nat)(f:Nat→Bool):Prop where
 sound:∀j,f j=true→Rch su bar j
 zero:bar 0=false→f 0=true
theorem Jn.start(su bar n):Jn su bar n (GO bar):=
 ⟨fun j h=>by
  simp only[GO,Zn,Bool.and_eq_true,beq_iff_eq,Bool.not_eq_true']at h;obtain⟨rfl,h⟩:=h;exact .zero h,fun h=>by simp[GO,Zn,h]⟩
theorem Jn.step{su bar n f}(h:Jn su bar n f):Jn su bar n (jac su bar n f):=by
 refine⟨fun j hj=>?_,fun h0=>by simp[jac,h.zero h0,h0]⟩;simp only[jac,Bool.and_eq_true,Bool.or_eq_true,List.any_eq_true,List.mem_range,List.contains_iff_mem,Bool.not_eq_true']at hj;rcases hj with ⟨h1|⟨i,_,h1,h2⟩,hb⟩
 ·exact h.sound j h1
 ·exact .step (h.sound i h1) h2 hb
theorem Jn.mono{su bar n f}(h:Jn su bar n f)(j:Nat)(hj:f j=true):jac su bar n f j=true:=by
 simp[jac,hj,(h.sound j hj).nb]
theorem Jn.done{su bar n f}(h:Jn su bar n f)(hn:0<n)(hs:∀i k,k∈su i→k<n)(he:QC n (jac su bar n f)=QC n f){j:Nat}:f j=true↔Rch su bar j:=by
 constructor
 ·exact h.sound j
 ·intro hr
  induction hr with
  | zero hb=>exact h.zero hb
  | step hi hk hbk ih=>
   rw[←Ww he _ (hs _ _ hk)];simp only[jac,Bool.and_eq_true,Bool.or_eq_true,List.any_eq_true,List.mem_range,List.contains_iff_mem,Bool.not_eq_true'];exact⟨.inr ⟨_,hi.lt hn hs,ih,hk⟩,hbk⟩
theorem Jn.less{su bar n f}(h:Jn su bar n f)(he:QC n (jac su bar n f)≠QC n f):(QC n f).length<(QC n (jac su bar n f)).length:=
 Gz (fun j _ hj=>h.mono j hj) (fun e=>he e.symm)
def rchF(su:Nat→List Nat)(n:Nat)(bar:Nat→Bool)(j:Nat):Bool:=!bar 0&&X9 su bar n Zn n j
theorem Y6{su n bar j}(hn:0<n)(hs:∀i k,k∈su i→k<n):rchF su n bar j=true↔Rch su bar j:=by
 cases hb:bar 0 with
 | true=>
  simp only[rchF,hb];constructor
  ·intro h;cases h
  ·intro h;exfalso;have:∀j,Rch su bar j→False:=fun j h=>by induction h with
    | zero h=>rw[hb]at h;cases h
    | step _ _ _ ih=>exact ih
   exact this j h
 | false=>simp only[rchF,hb,Bool.not_false,Bool.true_and];exact Qc5 hn hs hb
def noB(_:Nat):Bool:=false
def isB(a j:Nat):Bool:=j==a
def X6(su:Nat→List Nat)(n a b:Nat):Bool:=rchF su n noB b&&!rchF su n (isB a) b
theorem QdX{su bar n f}(h:Jn su bar n f)(hn:0<n)(hs:∀i k,k∈su i→k<n)(he:QC n (jac su bar n f)=QC n f):QC n f=QC n (rchF su n bar):=
 Wx fun j _=>by rw[Bool.eq_iff_iff,h.done hn hs he,Y6 hn hs]
theorem RJ{su bar k}(h:Rch su bar k):Rch su noB k:=by
 induction h with
 | zero _=>exact .zero rfl
 | step _ h2 _ ih=>exact .step ih h2 rfl
theorem Qb3{su x k}(hx:¬Rch su noB x)(h:Rch su noB k):Rch su (isB x) k:=by
 induction h with
 | zero _=>
  refine .zero ?_;simp only[isB,beq_eq_false_iff_ne];rintro rfl;exact hx (.zero rfl)
 | step h1 h2 _ ih=>
  refine .step ih h2 ?_;simp only[isB,beq_eq_false_iff_ne];rintro rfl;exact hx (.step h1 h2 rfl)
section dom
variable {su:Nat→List Nat}{n:Nat}
def Ovr(su:Nat→List Nat)(a b:Nat):Prop:=Rch su noB b∧¬Rch su (isB a) b
theorem Qb7(hn:0<n)(hs:∀i k,k∈su i→k<n){a b:Nat}:X6 su n a b=true↔Ovr su a b:=by
 rw[X6,Ovr,←Y6 (bar:=noB) hn hs,←Y6 (bar:=isB a) hn hs];cases rchF su n noB b<;>cases rchF su n (isB a) b<;>simp
theorem Jb{a k:Nat}(h:k≠a):isB a k=false:=by simpa[isB] using h
theorem UW{a k:Nat}(h:isB a k=false):k≠a:=by simpa[isB] using h
theorem Ovr.trans{a b c:Nat}(h1:Ovr su a b)(h2:Ovr su b c):Ovr su a c:=by
 refine⟨h2.1,fun h=>?_⟩;have key:∀j,Rch su (isB a) j→Rch su (isB b) j∨Rch su (isB a) b:=by
  intro j hj
  induction hj with
  | zero h0=>
   by_cases e:(0:Nat)=b
   ·exact .inr (by rw[←e];exact .zero h0)
   ·exact .inl (.zero (Jb e))
  | @step i k hi hk hb ih=>
   rcases ih with ih|ih
   ·by_cases e:k=b
    ·exact .inr (by rw[←e];exact .step hi hk hb)
    ·exact .inl (.step ih hk (Jb e))
   ·exact .inr ih
 rcases key c h with h|h
 ·exact h2.2 h
 ·exact h1.2 h
theorem Ovr.antisymm{a b:Nat}(h1:Ovr su a b)(h2:Ovr su b a):a=b:=by
 by_cases e:a=b
 ·exact e
 exfalso;have key:∀j,Rch su noB j→Rch su (fun k=>isB a k||isB b k) j:=by
  intro j hj
  induction hj with
  | zero _=>
   refine .zero ?_;have e1:(0:Nat)≠a:=fun h=>h2.2 (by rw[←h];exact .zero (Jb (by omega)));have e2:(0:Nat)≠b:=fun h=>h1.2 (by rw[←h];exact .zero (Jb (by omega)));rw[Jb e1,Jb e2];rfl
  | @step i k hi hk hb ih=>
   have w1:Rch su (isB a) i:=by
    clear hi hk hb
    induction ih with
    | zero h=>exact .zero (by simp only[Bool.or_eq_false_iff]at h;exact h.1)
    | step _ hk h ih=>exact .step ih hk (by simp only[Bool.or_eq_false_iff]at h;exact h.1)
   have w2:Rch su (isB b) i:=by
    clear hi hk hb w1
    induction ih with
    | zero h=>exact .zero (by simp only[Bool.or_eq_false_iff]at h;exact h.2)
    | step _ hk h ih=>exact .step ih hk (by simp only[Bool.or_eq_false_iff]at h;exact h.2)
   refine .step ih hk ?_;have e1:k≠a:=fun h=>h2.2 (by rw[←h];exact .step w2 hk (Jb (by omega)));have e2:k≠b:=fun h=>h1.2 (by rw[←h];exact .step w1 hk (Jb (by omega)));rw[Jb e1,Jb e2];rfl
 have:=(key b h1.1).nb;simp[isB]at this
theorem Ovr.up{a b:Nat}(h:Ovr su a b):Rch su noB a:=by
 by_cases ha:Rch su noB a
 ·exact ha
 ·exact absurd (Qb3 ha h.1) h.2
theorem Ovr.ahead{a k y:Nat}(h:Ovr su a y)(hk:Rch su noB k)(he:y∈su k)(hne:a≠y):Ovr su a k:=
 ⟨hk,fun g=>h.2 (.step g he (Jb (fun e=>hne e.symm)))⟩
end dom
end Go.Proofs.YtgfhfkgdmidhpaaGreatDoor
namespace Go.Proofs.YtgfhfkgdmidhpaaGreatDoor
open Go.RowKit
set_option maxRecDepth 100000
set_option maxHeartbeats 8000000
def gvS:ASt→Option Nat
 | .val t _=>some t
 | .cp t _=>some t
 | .op _ t _ _=>some t
 | .inp t=>some t
 | .out _=>none
def rdS:ASt→List Nat
 | .val _ _=>[]
 | .cp _ a=>[a]
 | .op _ _ a b=>[a,b]
 | .inp _=>[]
 | .out a=>[a]
def gsA(e:AEn):List Nat:=if e.op=62 then [e.one] else if e.op=63 then [e.one,e.two] else []
def rdE(e:AEn):List Nat:=if e.op=63 then [e.a] else []
def suA(bs:List ABk)(i:Nat):List Nat:=gsA (bkA bs i).e
def Cm(bs:List ABk)(b:Nat):Prop:=Rch (suA bs) noB b
def Gv(bs:List ABk)(r b:Nat)(s:Int):Prop:=
 (s=-1∧∃c∈(bkA bs b).chs,c.to=r)∨∃j:Nat,s=j∧∃t,(bkA bs b).sts[j]?=some t∧gvS t=some r
def Rea(bs:List ABk)(r b:Nat)(k:Nat):Prop:=
 (∃t,(bkA bs b).sts[k]?=some t∧r∈rdS t)∨(k=(bkA bs b).sts.length∧(r∈rdE (bkA bs b).e∨∃b2 c,c∈(bkA bs b2).chs∧(b,r)∈c.src))
def Pre(bs:List ABk)(b1:Nat)(s1:Int)(b2:Nat)(s2:Int):Prop:=(b1=b2∧s1<s2)∨(b1≠b2∧Ovr (suA bs) b1 b2)
structure Sgl(bs:List ABk):Prop where
 one:∀{r b b' s s'},Gv bs r b s→Gv bs r b' s'→b=b'∧s=s'
 chs:∀b,((bkA bs b).chs.map (·.to)).Nodup
 rd:∀{r b k},Rea bs r b k→Cm bs b→∃b' s',Gv bs r b' s'∧Pre bs b' s' b k
theorem Pre.trans{bs b1 s1 b2 s2 b3 s3}(h:Pre bs b1 s1 b2 s2)(k:Pre bs b2 s2 b3 s3):Pre bs b1 s1 b3 s3:=by
 rcases h with ⟨rfl,h⟩|⟨hn,h⟩
 ·rcases k with ⟨rfl,k⟩|⟨kn,k⟩
  ·exact .inl ⟨rfl,by omega⟩
  ·exact .inr ⟨kn,k⟩
 ·rcases k with ⟨rfl,k⟩|⟨kn,k⟩
  ·exact .inr ⟨hn,h⟩
  ·refine .inr ⟨?_,h.trans k⟩;rintro rfl;exact hn (h.antisymm k)
theorem Pre.irr{bs b s}(h:Pre bs b s b s):False:=by
 rcases h with ⟨_,h⟩|⟨h,_⟩
 ·omega
 ·exact h rfl
inductive Up(st:Nat→Nat):Nat→Nat→Nat→Prop
 | here {r:Nat}:st r=r→Up st r r 0
 | next {r t k:Nat}:st r≠r→Up st (st r) t k→Up st r t (k+1)
theorem Up.one{st r t k t' k'}(h:Up st r t k)(h':Up st r t' k'):t=t'∧k=k':=by
 induction h generalizing t' k' with
 | here h=>cases h' with
  | here _=>exact⟨rfl,rfl⟩
  | next h1 _=>exact absurd h h1
 | next h _ ih=>cases h' with
  | here h1=>exact absurd h1 h
  | next _ h2=>obtain⟨rfl,rfl⟩:=ih h2;exact⟨rfl,rfl⟩
theorem Up.fix{st r t k}(h:Up st r t k):st t=t:=by
 induction h with
 | here h=>exact h
 | next _ _ ih=>exact ih
open Classical in
noncomputable def rt(st:Nat→Nat)(r:Nat):Nat:=if h:∃t k,Up st r t k then h.choose else r
theorem Up.rt{st r t k}(h:Up st r t k):rt st r=t:=by
 have e:∃t k,Up st r t k:=⟨t,k,h⟩;unfold Proofs.YtgfhfkgdmidhpaaGreatDoor.rt;rw[dif_pos e];obtain⟨k',hk⟩:=e.choose_spec;exact(hk.one h).1
def Xo(st:Nat→Nat)(o v:Nat):Nat→Nat:=fun r=>if r=o then v else st r
theorem Q4(st o v):Xo st o v o=v:=if_pos rfl
theorem Zb{st:Nat→Nat}{o v r:Nat}(h:r≠o):Xo st o v r=st r:=if_neg h
theorem Qha{st:Nat→Nat}{o v:Nat}(hv:st v=v)(hne:v≠o) {r t k}(h:Up st r t k)(ho:st o=o∨∃k,Up st o v k):
  ∃k',Up (Xo st o v) r (if t=o then v else t) k':=by
 have hv':Xo st o v v=v:=by rw[Zb hne];exact hv
 have hoo:Up (Xo st o v) o v 1:=.next (by rw[Q4];exact hne) (by rw[Q4];exact .here hv')
 induction h with
 | @here r h=>
  by_cases e:r=o
  ·subst e;rw[if_pos rfl];exact⟨1,hoo⟩
  ·rw[if_neg e];exact⟨0,.here (by rw[Zb e];exact h)⟩
 | @next r t k h hu ih=>
  by_cases e:r=o
  ·subst e;rcases ho with ho|⟨k',ho⟩
   ·exact absurd ho h
   ·have:=((Up.next h hu).one ho).1;subst this;rw[if_neg hne];exact⟨1,hoo⟩
  ·obtain⟨k',ih⟩:=ih;refine⟨k'+1,.next (by rw[Zb e];exact h) ?_⟩;rw[Zb e];exact ih
structure SOk(bs:List ABk)(st:Nat→Nat):Prop where
 up:∀r,∃t k,Up st r t k
 link:∀{r},st r≠r→∀{b s},Gv bs r b s→∃b' s',Gv bs (st r) b' s'∧Pre bs b' s' b s
 just:∀{r},st r≠r→(∃b,∃j:Nat,∃a,Cm bs b∧(bkA bs b).sts[j]?=some (ASt.cp r a)∧rt st a=rt st r)∨(∃b c,Cm bs b∧b≠0∧c∈(bkA bs b).chs∧c.to=r∧∀p∈c.src,Cm bs p.1→rt st p.2=rt st r)
theorem SOk.rtUp{bs st}(h:SOk bs st)(r:Nat):∃k,Up st r (rt st r) k:=by
 obtain⟨t,k,hu⟩:=h.up r;rw[hu.rt];exact⟨k,hu⟩
theorem SOk.fix{bs st}(h:SOk bs st)(r:Nat):st (rt st r)=rt st r:=by
 obtain⟨k,hu⟩:=h.rtUp r;exact hu.fix
theorem SOk.idem{bs st}(h:SOk bs st)(r:Nat):rt st (rt st r)=rt st r:=(Up.here (h.fix r)).rt
theorem SOk.self{bs st}(_h:SOk bs st){r:Nat}:st r=r→rt st r=r:=fun e=>(Up.here e).rt
theorem SOk.site{bs st}(h:SOk bs st) {r b s}(hg:Gv bs r b s):rt st r=r∨∃b' s',Gv bs (rt st r) b' s'∧Pre bs b' s' b s:=by
 obtain⟨k,hu⟩:=h.rtUp r;generalize rt st r=t at hu ⊢
 induction hu generalizing b s with
 | here _=>exact .inl rfl
 | next hn _ ih=>
  obtain⟨b',s',g,p⟩:=h.link hn hg;rcases ih g with e|⟨b2,s2,g2,p2⟩
  ·rw[e];exact .inr ⟨b',s',g,p⟩
  ·exact .inr ⟨b2,s2,g2,p2.trans p⟩
theorem SOk.set{bs:List ABk}{st:Nat→Nat}(h:SOk bs st){o v:Nat}(hv:st v=v)(hne:v≠o)
  (hl:∀{b s},Gv bs o b s→∃b' s',Gv bs v b' s'∧Pre bs b' s' b s)
  (hc:(st o≠o∧rt st o=v)∨(st o=o∧((∃b,∃j:Nat,∃a,Cm bs b∧(bkA bs b).sts[j]?=some (ASt.cp o a)∧(rt st a=v∨rt st a=o))∨(∃b c,Cm bs b∧b≠0∧c∈(bkA bs b).chs∧c.to=o∧∀p∈c.src,Cm bs p.1→rt st p.2=v∨rt st p.2=o)))):
  SOk bs (Xo st o v)∧∀r,rt (Xo st o v) r=if rt st r=o then v else rt st r:=by
 have hR:∀r,∃k,Up (Xo st o v) r (if rt st r=o then v else rt st r) k:=fun r=>by
  obtain⟨k,hu⟩:=h.rtUp r;refine Qha hv hne hu ?_;rcases hc with ⟨_,hc⟩|⟨hc,_⟩
  ·obtain⟨k,hk⟩:=h.rtUp o;rw[hc]at hk;exact .inr ⟨k,hk⟩
  ·exact .inl hc
 have hE:∀r,rt (Xo st o v) r=if rt st r=o then v else rt st r:=fun r=>by obtain⟨k,hk⟩:=hR r;exact hk.rt
 refine⟨⟨fun r=>by obtain⟨k,hk⟩:=hR r;exact⟨_,k,hk⟩,fun {r} hr {b s} hg=>?_,fun {r} hr=>?_⟩,hE⟩
 ·by_cases e:r=o
  ·subst e;rw[Q4];exact hl hg
  ·rw[Zb e]at hr ⊢;exact h.link hr hg
 ·by_cases e:r=o
  ·subst e;rcases hc with ⟨hc,hv2⟩|⟨hc,hj⟩
   ·rcases h.just hc with ⟨b,j,a,h1,h2,h3⟩|⟨b,c,h1,h2,h3,h4,h5⟩
    ·exact .inl ⟨b,j,a,h1,h2,by rw[hE,hE,h3]⟩
    ·exact .inr ⟨b,c,h1,h2,h3,h4,fun p hp hcm=>by rw[hE,hE,h5 p hp hcm]⟩
   ·have e2:rt (Xo st r v) r=v:=by rw[hE,h.self hc,if_pos rfl]
    have e3:∀x,rt st x=v∨rt st x=r→rt (Xo st r v) x=v:=fun x hx=>by
     rw[hE];rcases hx with hx|hx
     ·rw[hx,if_neg hne]
     ·rw[hx,if_pos rfl]
    rcases hj with ⟨b,j,a,h1,h2,h3⟩|⟨b,c,h1,h2,h3,h4,h5⟩
    ·exact .inl ⟨b,j,a,h1,h2,by rw[e2,e3 a h3]⟩
    ·exact .inr ⟨b,c,h1,h2,h3,h4,fun p hp hcm=>by rw[e2,e3 _ (h5 p hp hcm)]⟩
  ·rw[Zb e]at hr;rcases h.just hr with ⟨b,j,a,h1,h2,h3⟩|⟨b,c,h1,h2,h3,h4,h5⟩
   ·exact .inl ⟨b,j,a,h1,h2,by rw[hE,hE,h3]⟩
   ·exact .inr ⟨b,c,h1,h2,h3,h4,fun p hp hcm=>by rw[hE,hE,h5 p hp hcm]⟩
theorem Nv{su:Nat→List Nat}{bar:Nat→Bool}{b:Nat}(h:Rch su bar b)(h0:b≠0):∃p,b∈su p∧Rch su bar p∧Rch su (isB b) p:=by
 have key:∀k,Rch su bar k→(Rch su bar k∧Rch su (isB b) k)∨∃p,b∈su p∧Rch su bar p∧Rch su (isB b) p:=by
  intro k hk
  induction hk with
  | zero hb=>exact .inl ⟨.zero hb,.zero (Jb (Ne.symm h0))⟩
  | @step i k hi hk hb ih=>
   rcases ih with ⟨h1,h2⟩|h1
   ·by_cases e:k=b
    ·subst e;exact .inr ⟨i,hk,h1,h2⟩
    ·exact .inl ⟨.step hi hk hb,.step h2 hk (Jb e)⟩
   ·exact .inr h1
 rcases key b h with ⟨_,h1⟩|h1
 ·exact absurd rfl (UW h1.nb)
 ·exact h1
def NO(bs:List ABk)(b:Nat):List Nat:=(List.range bs.length).filter fun i=>(suA bs i).contains b
structure POk(bs:List ABk):Prop where
 pos:0<bs.length
 goal:∀i k,k∈suA bs i→k<bs.length
 op:∀i,i<bs.length→(bkA bs i).e.op=46∨(bkA bs i).e.op=62∨(bkA bs i).e.op=63
 src:∀{b c},c∈(bkA bs b).chs→c.src.map (·.1)=NO bs b
 old:∀{r b s},Gv bs r b s→r<5000
 oldR:∀{r b k},Rea bs r b k→r<5000
theorem Cm.lt{bs b}(hP:POk bs)(h:Cm bs b):b<bs.length:=Rch.lt hP.pos hP.goal h
theorem QiK{bs:List ABk}{p b:Nat}(h:b∈suA bs p):p<bs.length:=by
 rcases Nat.lt_or_ge p bs.length with h1|h1
 ·exact h1
 ·rw[suA,bkA,List.getElem?_eq_none h1]at h;simp[WQ,gsA]at h
theorem POk.from{bs b p}(hP:POk bs){c:ACh}(h:c∈(bkA bs b).chs)(hp:b∈suA bs p):∃r,(p,r)∈c.src:=by
 have:p∈c.src.map (·.1):=by
  rw[hP.src h,NO,List.mem_filter,List.mem_range];exact⟨QiK hp,List.contains_iff_mem.2 hp⟩
 obtain⟨x,hx,rfl⟩:=List.mem_map.1 this;exact⟨x.2,hx⟩
theorem Qbp{bs b}(hS:Sgl bs){c d:ACh}(hc:c∈(bkA bs b).chs)(hd:d∈(bkA bs b).chs)(h:c.to=d.to):c=d:=by
 have:=hS.chs b;generalize (bkA bs b).chs=l at hc hd this
 induction l with
 | nil=>simp at hc
 | cons x l ih=>
  rw[List.map_cons,List.nodup_cons]at this;rcases List.mem_cons.1 hc with rfl|hc
  ·rcases List.mem_cons.1 hd with rfl|hd
   ·rfl
   ·exact absurd (List.mem_map.2 ⟨d,hd,h.symm⟩) this.1
  ·rcases List.mem_cons.1 hd with hx|hd
   ·exact absurd (List.mem_map.2 ⟨c,hc,by rw[h,hx]⟩) this.1
   ·exact ih hc hd this.2
theorem Rz{bs st b p r}(hS:Sgl bs)(h:SOk bs st){c:ACh}(hc:c∈(bkA bs b).chs)(hp:(p,r)∈c.src)(hcm:Cm bs p):
  ∃b' s',Gv bs (rt st r) b' s'∧Pre bs b' s' p (bkA bs p).sts.length:=by
 obtain⟨b',s',g,q⟩:=hS.rd (r:=r) (b:=p) (k:=(bkA bs p).sts.length) (.inr ⟨rfl,.inr ⟨b,c,hc,hp⟩⟩) hcm;rcases h.site g with e|⟨b2,s2,g2,q2⟩
 ·rw[e];exact⟨b',s',g,q⟩
 ·exact⟨b2,s2,g2,q2.trans q⟩
theorem V3{bs b s p k}(h:Pre bs b s p k)(hr:Rch (suA bs) (isB b) p):False:=by
 rcases h with ⟨rfl,_⟩|⟨_,_,h⟩
 ·exact UW hr.nb rfl
 ·exact h hr
theorem NG{bs st b}(hP:POk bs)(hS:Sgl bs)(h:SOk bs st)(hb:Cm bs b)(h0:b≠0){c:ACh}(hc:c∈(bkA bs b).chs):∃p∈c.src,Cm bs p.1∧rt st p.2≠c.to:=by
 obtain⟨p,hp,hr,hr2⟩:=Nv hb h0;obtain⟨r,hs⟩:=hP.from hc hp;refine⟨(p,r),hs,hr,fun e=>?_⟩;obtain⟨b',s',g,q⟩:=Rz hS h hc hs hr;have e:rt st r=c.to:=e;rw[e]at g;have:=hS.one g (.inl ⟨rfl,c,hc,rfl⟩:Gv bs c.to b (-1));obtain⟨rfl,rfl⟩:=this;exact V3 q hr2
theorem QgB{bs st b v}(hP:POk bs)(hS:Sgl bs)(h:SOk bs st)(hb:Cm bs b)(h0:b≠0){c:ACh}(hc:c∈(bkA bs b).chs)(hv:∀p∈c.src,Cm bs p.1→rt st p.2=c.to∨rt st p.2=v):
  ∃b' s',Gv bs v b' s'∧Pre bs b' s' b (-1):=by
 have key:∀{bar:Nat→Bool},Rch (suA bs) bar b→∃p b' s',Rch (suA bs) bar p∧Rch (suA bs) (isB b) p∧Gv bs v b' s'∧Pre bs b' s' p (bkA bs p).sts.length:=by
  intro bar hbar;obtain⟨p,hp,hr,hr2⟩:=Nv hbar h0;obtain⟨r,hs⟩:=hP.from hc hp;obtain⟨b',s',g,q⟩:=Rz hS h hc hs (RJ hr);rcases hv _ hs (RJ hr) with e|e
  ·have e:rt st r=c.to:=e;rw[e]at g;obtain⟨rfl,rfl⟩:=hS.one g (.inl ⟨rfl,c,hc,rfl⟩:Gv bs c.to b (-1));exact(V3 q hr2).elim
  ·have e:rt st r=v:=e;rw[e]at g;exact⟨p,b',s',hr,hr2,g,q⟩
 obtain⟨p,x,s,hr,hr2,g,q⟩:=key hb;have hx:x≠b:=by rintro rfl;exact V3 q hr2
 refine⟨x,s,g,.inr ⟨hx,hb,fun hn=>?_⟩⟩;obtain⟨p',x',s',hr',_,g',q'⟩:=key hn;obtain⟨rfl,rfl⟩:=hS.one g g';exact V3 q' hr'
inductive MOp where
 | ch (b:Nat)(c:ACh)
 | cp (t a:Nat)
def XV:MOp→Nat
 | .ch _ c=>c.to
 | .cp t _=>t
noncomputable def Xh(co:Nat→Bool)(st:Nat→Nat)(own:Nat):Nat→List (Nat×Nat)→Option Nat
 | one,[]=>if one=own then none else some one
 | one,p::src=>if rt st p.2=own∨rt st p.2=one∨co p.1=false then Xh co st own one src else if one=own then Xh co st own (rt st p.2) src else none
noncomputable def XW(co:Nat→Bool)(st:Nat→Nat)(c:ACh):Option Nat:=Xh co st c.to c.to c.src
theorem Ye{co st own v}:∀{one src},Xh co st own one src=some v→v≠own∧(one=own∨one=v)∧(one=v∨∃p∈src,co p.1=true∧rt st p.2=v)∧∀p∈src,co p.1=true→rt st p.2=own∨rt st p.2=v
 | one,[],h=>by
  rw[Xh]at h;by_cases e:one=own
  ·rw[if_pos e]at h;cases h
  ·rw[if_neg e]at h;cases h;exact⟨e,.inr rfl,.inl rfl,fun p hp=>by simp at hp⟩
 | one,p::src,h=>by
  rw[Xh]at h;by_cases e:rt st p.2=own∨rt st p.2=one∨co p.1=false
  ·rw[if_pos e]at h;obtain⟨h1,h2,h3,h4⟩:=Ye h;refine⟨h1,h2,?_,fun q hq hc=>?_⟩
   ·rcases h3 with h3|⟨q,hq,h3⟩
    ·exact .inl h3
    ·exact .inr ⟨q,List.mem_cons_of_mem _ hq,h3⟩
   ·rcases List.mem_cons.1 hq with rfl|hq
    ·rcases e with e|e|e
     ·exact .inl e
     ·rcases h2 with h2|h2
      ·exact .inl (e.trans h2)
      ·exact .inr (e.trans h2)
     ·rw[e]at hc;cases hc
    ·exact h4 q hq hc
  ·rw[if_neg e]at h;by_cases e1:one=own
   ·rw[if_pos e1]at h;obtain⟨h1,h2,h3,h4⟩:=Ye h;have hpv:rt st p.2=v:=by
     rcases h2 with h2|h2
     ·exact absurd (.inl h2) e
     ·exact h2
    refine⟨h1,.inl e1,.inr ⟨p,List.mem_cons_self ..,?_,hpv⟩,fun q hq hc=>?_⟩
    ·cases hc:co p.1 with
     | true=>rfl
     | false=>exact absurd (.inr (.inr hc)) e
    ·rcases List.mem_cons.1 hq with rfl|hq
     ·exact .inr hpv
     ·exact h4 q hq hc
   ·rw[if_neg e1]at h;cases h
theorem Yf{co st own}:∀{one src},Xh co st own one src=none→(one=own∧∀p∈src,co p.1=true→rt st p.2=own)∨(∃q∈src,co q.1=true∧rt st q.2≠own∧((one≠own∧rt st q.2≠one)∨∃p∈src,co p.1=true∧rt st p.2≠own∧rt st p.2≠rt st q.2))
 | one,[],h=>by
  rw[Xh]at h;by_cases e:one=own
  ·exact .inl ⟨e,fun p hp=>by simp at hp⟩
  ·rw[if_neg e]at h;cases h
 | one,p::src,h=>by
  rw[Xh]at h;by_cases e:rt st p.2=own∨rt st p.2=one∨co p.1=false
  ·rw[if_pos e]at h;rcases Yf h with ⟨h1,h2⟩|⟨q,hq,h1,h2,h3⟩
   ·refine .inl ⟨h1,fun q hq hc=>?_⟩;rcases List.mem_cons.1 hq with rfl|hq
    ·rcases e with e|e|e
     ·exact e
     ·exact e.trans h1
     ·rw[e]at hc;cases hc
    ·exact h2 q hq hc
   ·refine .inr ⟨q,List.mem_cons_of_mem _ hq,h1,h2,?_⟩;rcases h3 with h3|⟨p',hp',h3⟩
    ·exact .inl h3
    ·exact .inr ⟨p',List.mem_cons_of_mem _ hp',h3⟩
  ·rw[if_neg e]at h;have hc:co p.1=true:=by
    cases hc:co p.1 with
    | true=>rfl
    | false=>exact absurd (.inr (.inr hc)) e
   have hn:rt st p.2≠own:=fun h=>e (.inl h);by_cases e1:one=own
   ·rw[if_pos e1]at h;rcases Yf h with ⟨h1,_⟩|⟨q,hq,h1,h2,h3⟩
    ·exact absurd h1 hn
    ·refine .inr ⟨q,List.mem_cons_of_mem _ hq,h1,h2,?_⟩;rcases h3 with ⟨_,h3⟩|⟨p',hp',h3⟩
     ·exact .inr ⟨p,List.mem_cons_self ..,hc,hn,fun h=>h3 h.symm⟩
     ·exact .inr ⟨p',List.mem_cons_of_mem _ hp',h3⟩
   ·exact .inr ⟨p,List.mem_cons_self ..,hc,hn,.inl ⟨e1,fun h=>e (.inr (.inl h))⟩⟩
theorem WM{co st c v}(h:XW co st c=some v):v≠c.to∧(∃p∈c.src,co p.1=true∧rt st p.2=v)∧∀p∈c.src,co p.1=true→rt st p.2=c.to∨rt st p.2=v:=by
 obtain⟨h1,_,h3,h4⟩:=Ye h;refine⟨h1,?_,h4⟩;rcases h3 with h3|h3
 ·exact absurd h3.symm h1
 ·exact h3
theorem WN{co st c}(h:XW co st c=none):(∀p∈c.src,co p.1=true→rt st p.2=c.to)∨(∃q∈c.src,∃p∈c.src,co q.1=true∧co p.1=true∧rt st q.2≠c.to∧rt st p.2≠c.to∧rt st p.2≠rt st q.2):=by
 rcases Yf h with ⟨_,h1⟩|⟨q,hq,h1,h2,h3⟩
 ·exact .inl h1
 ·rcases h3 with ⟨h3,_⟩|⟨p,hp,h3,h4,h5⟩
  ·exact absurd rfl h3
  ·exact .inr ⟨q,hq,p,hp,h1,h3,h2,h4,h5⟩
noncomputable def opF(co:Nat→Bool)(st:Nat→Nat):MOp→Nat→Nat
 | .ch b c=>match XW co st c with
  | some v=>if b=0 then st else Xo st c.to v
  | none=>st
 | .cp t a=>Xo st t (rt st a)
def Vo(bs:List ABk):MOp→Prop
 | .ch b c=>Cm bs b∧c∈(bkA bs b).chs
 | .cp t a=>∃b,∃j:Nat,Cm bs b∧(bkA bs b).sts[j]?=some (ASt.cp t a)
theorem WL{bs co st op}(hP:POk bs)(hS:Sgl bs)(hco:∀b,co b=true↔Cm bs b)(h:SOk bs st)(ho:Vo bs op):
  (opF co st op=st∧(st (XV op)≠XV op→False))∨∃v,opF co st op=Xo st (XV op) v∧v≠XV op∧SOk bs (Xo st (XV op) v)∧(∀r,rt (Xo st (XV op) v) r=if rt st r=XV op then v else rt st r)∧(st (XV op)≠XV op→rt st (XV op)=v):=by
 cases op with
 | cp t a=>
  obtain⟨b,j,hb,hj⟩:=ho;right;obtain⟨b',s',g,q⟩:=hS.rd (r:=a) (b:=b) (k:=j) (.inl ⟨_,hj,by simp[rdS]⟩) hb;have gt:Gv bs t b j:=.inr ⟨j,rfl,_,hj,rfl⟩;have key:∃b' s',Gv bs (rt st a) b' s'∧Pre bs b' s' b j:=by
   rcases h.site g with e|⟨b2,s2,g2,q2⟩
   ·rw[e];exact⟨b',s',g,q⟩
   ·exact⟨b2,s2,g2,q2.trans q⟩
  obtain⟨b2,s2,g2,q2⟩:=key;have hne:rt st a≠t:=by
   intro e;rw[e]at g2;obtain⟨rfl,rfl⟩:=hS.one g2 gt;exact q2.irr
  have hl:∀{b s},Gv bs t b s→∃b' s',Gv bs (rt st a) b' s'∧Pre bs b' s' b s:=fun {b3 s3} g3=>by
   obtain⟨rfl,rfl⟩:=hS.one gt g3;exact⟨b2,s2,g2,q2⟩
  have hroot:st t≠t→rt st t=rt st a:=fun hn=>by
   rcases h.just hn with ⟨b3,j3,a3,h1,h2,h3⟩|⟨b3,c,h1,_,h2,rfl,_⟩
   ·obtain⟨rfl,e⟩:=hS.one gt (.inr ⟨j3,rfl,_,h2,rfl⟩:Gv bs t b3 j3);have:j=j3:=by omega
    subst this;rw[hj]at h2;cases h2;exact h3.symm
   ·obtain⟨_,e⟩:=hS.one gt (.inl ⟨rfl,c,h2,rfl⟩:Gv bs c.to b3 (-1));omega
  have hset:=h.set (o:=t) (v:=rt st a) (h.fix a) hne hl (by
   by_cases hn:st t=t
   ·exact .inr ⟨hn,.inl ⟨b,j,a,hb,hj,.inl rfl⟩⟩
   ·exact .inl ⟨hn,hroot hn⟩)
  exact⟨rt st a,rfl,hne,hset.1,hset.2,hroot⟩
 | ch b c=>
  obtain⟨hb,hc⟩:=ho;have gt:Gv bs c.to b (-1):=.inl ⟨rfl,c,hc,rfl⟩;have hjust:st c.to≠c.to→b≠0∧∀p∈c.src,Cm bs p.1→rt st p.2=rt st c.to:=fun hn=>by
   rcases h.just hn with ⟨b3,j3,a3,h1,h2,h3⟩|⟨b3,d,h1,h0,h2,h3,h4⟩
   ·obtain⟨_,e⟩:=hS.one gt (.inr ⟨j3,rfl,_,h2,rfl⟩:Gv bs c.to b3 j3);omega
   ·obtain⟨rfl,_⟩:=hS.one gt (.inl ⟨rfl,d,h2,h3⟩:Gv bs c.to b3 (-1));have:=Qbp hS h2 hc h3;subst this;exact⟨h0,h4⟩
  have hopF:opF co st (.ch b c)=match XW co st c with|some v=>if b=0 then st else Xo st c.to v|none=>st:=rfl
  cases ho:XW co st c with
  | none=>
   refine .inl ⟨by rw[hopF,ho],fun hn=>?_⟩;obtain⟨h0,hj⟩:=hjust hn;obtain⟨p,hp,hcp,hpn⟩:=NG hP hS h hb h0 hc;rcases WN ho with h1|⟨q,hq,p2,hp2,c1,c2,n1,n2,n3⟩
   ·exact hpn (h1 p hp ((hco _).2 hcp))
   ·exact n3 ((hj p2 hp2 ((hco _).1 c2)).trans (hj q hq ((hco _).1 c1)).symm)
  | some v=>
   obtain⟨hne,⟨p,hp,hcp,hpv⟩,hall⟩:=WM ho;by_cases h0:b=0
   ·exact .inl ⟨by rw[hopF,ho];exact if_pos h0,fun hn=>(hjust hn).1 h0⟩
   ·right;have hv:st v=v:=by rw[←hpv];exact h.fix p.2
    have hl:∀{b s},Gv bs c.to b s→∃b' s',Gv bs v b' s'∧Pre bs b' s' b s:=fun {b3 s3} g3=>by
     obtain⟨rfl,rfl⟩:=hS.one gt g3;exact QgB hP hS h hb h0 hc fun p hp hcm=>hall p hp ((hco _).2 hcm)
    have hroot:st c.to≠c.to→rt st c.to=v:=fun hn=>by rw[←hpv];exact((hjust hn).2 p hp ((hco _).1 hcp)).symm
    have hset:=h.set (o:=c.to) (v:=v) hv hne hl (by
     by_cases hn:st c.to=c.to
     ·exact .inr ⟨hn,.inr ⟨b,c,hb,h0,hc,rfl,fun p hp hcm=>(hall p hp ((hco _).2 hcm)).symm⟩⟩
     ·exact .inl ⟨hn,hroot hn⟩)
    exact⟨v,by rw[hopF,ho];exact if_neg h0,hne,hset.1,hset.2,hroot⟩
section
variable {bs:List ABk}{co:Nat→Bool}
noncomputable def Zm(co:Nat→Bool)(st:Nat→Nat)(l:List MOp):Nat→Nat:=l.foldl (opF co) st
theorem Ue(st:Nat→Nat)(o:MOp)(l:List MOp):Zm co st (o::l)=Zm co (opF co st o) l:=rfl
theorem U2(st:Nat→Nat)(l k:List MOp):Zm co st (l++k)=Zm co (Zm co st l) k:=by rw[Zm,List.foldl_append];rfl
theorem QaR{st op}(hP:POk bs)(hS:Sgl bs)(hco:∀b,co b=true↔Cm bs b)(h:SOk bs st)(ho:Vo bs op):SOk bs (opF co st op):=by
 rcases WL hP hS hco h ho with ⟨e,_⟩|⟨v,e,_,h1,_⟩
 ·rw[e];exact h
 ·rw[e];exact h1
theorem QhN{st op r}(hP:POk bs)(hS:Sgl bs)(hco:∀b,co b=true↔Cm bs b)(h:SOk bs st)(ho:Vo bs op)(hr:st r≠r):opF co st op r≠r:=by
 rcases WL hP hS hco h ho with ⟨e,_⟩|⟨v,e,hv,_⟩
 ·rw[e];exact hr
 ·rw[e];by_cases e2:r=XV op
  ·subst e2;rw[Q4];exact hv
  ·rw[Zb e2];exact hr
theorem Uc(hP:POk bs)(hS:Sgl bs)(hco:∀b,co b=true↔Cm bs b):∀(l:List MOp){st:Nat→Nat},SOk bs st→(∀o∈l,Vo bs o)→SOk bs (Zm co st l)
 | [],_,h,_=>h
 | o::l,_,h,ho=>Uc hP hS hco l (QaR hP hS hco h (ho o (List.mem_cons_self ..))) fun o h=>ho o (List.mem_cons_of_mem _ h)
theorem Yi(hP:POk bs)(hS:Sgl bs)(hco:∀b,co b=true↔Cm bs b){r:Nat}:∀(l:List MOp){st:Nat→Nat},SOk bs st→(∀o∈l,Vo bs o)→st r≠r→Zm co st l r≠r
 | [],_,_,_,hr=>hr
 | o::l,_,h,ho,hr=>Yi hP hS hco l (QaR hP hS hco h (ho o (List.mem_cons_self ..))) (fun o h=>ho o (List.mem_cons_of_mem _ h)) (QhN hP hS hco h (ho o (List.mem_cons_self ..)) hr)
theorem YT(hP:POk bs)(hS:Sgl bs)(hco:∀b,co b=true↔Cm bs b):∀(l:List MOp){st:Nat→Nat},SOk bs st→(∀o∈l,Vo bs o)→(∀r,st r=r→Zm co st l r=r) →
  (∀r,rt (Zm co st l) r=rt st r)∧(∀r,Zm co st l r=st r∨Zm co st l r=rt st r)∧(∀o∈l,st (XV o)≠XV o→Zm co st l (XV o)=rt st (XV o))
 | [],st,_,_,_=>⟨fun _=>rfl,fun _=>.inl rfl,fun o ho=>by simp at ho⟩
 | o::l,st,h,ho,hk=>by
  have ho1:=ho o (List.mem_cons_self ..);have ho2:∀o∈l,Vo bs o:=fun o h=>ho o (List.mem_cons_of_mem _ h);have h1:=QaR hP hS hco h ho1;rw[Ue]at hk ⊢;rcases WL hP hS hco h ho1 with ⟨e,hn⟩|⟨v,e,hv,_,hE,hR⟩
  ·rw[e]at hk h1 ⊢;obtain⟨a,b,c⟩:=YT hP hS hco l h ho2 hk;refine⟨a,b,fun o' ho' hne=>?_⟩;rcases List.mem_cons.1 ho' with rfl|ho'
   ·exact(hn hne).elim
   ·exact c o' ho' hne
  ·have hown:st (XV o)≠XV o:=fun hx=>by
    have h2:opF co st o (XV o)≠XV o:=by rw[e,Q4];exact hv
    exact Yi hP hS hco l h1 ho2 h2 (hk _ hx)
   have hrt:=hR hown;have hE2:∀r,rt (opF co st o) r=rt st r:=fun r=>by
    rw[e,hE,if_neg (fun hx=>hown (by have:=h.fix r;rw[hx]at this;exact this))]
   have hs:∀r,opF co st o r=st r∨opF co st o r=rt st r:=fun r=>by
    rw[e];by_cases e2:r=XV o
    ·subst e2;rw[Q4];exact .inr hrt.symm
    ·rw[Zb e2];exact .inl rfl
   obtain⟨a,b,c⟩:=YT hP hS hco l h1 ho2 (fun r hr=>hk r (by
    by_cases e2:r=XV o
    ·subst e2;rw[e,Q4]at hr;exact absurd hr hv
    ·rw[e,Zb e2]at hr;exact hr))
   refine⟨fun r=>(a r).trans (hE2 r),fun r=>?_,fun o' ho' hne=>?_⟩
   ·rcases b r with h2|h2
    ·rw[h2];exact hs r
    ·rw[h2];exact .inr (hE2 r)
   ·rcases List.mem_cons.1 ho' with rfl|ho'
    ·rcases b (XV o') with h2|h2
     ·rw[h2,e,Q4];exact hrt.symm
     ·rw[h2];exact hE2 _
    ·rw[c o' ho' (by
      by_cases e2:XV o'=XV o
      ·rw[e2,e,Q4];exact hv
      ·rw[e,Zb e2];exact hne)]
     exact hE2 _
theorem Nt(hP:POk bs)(hS:Sgl bs)(hco:∀b,co b=true↔Cm bs b){st:Nat→Nat}(h:SOk bs st)(hf:∀r,st r=rt st r):∀(l:List MOp),(∀o∈l,Vo bs o)→(∀r,st r=r→Zm co st l r=r)→∀o∈l,opF co st o=st
 | [],_,_,o,ho=>by simp at ho
 | o::l,ho,hk,o',ho'=>by
  have ho1:=ho o (List.mem_cons_self ..);have ho2:∀o∈l,Vo bs o:=fun o h=>ho o (List.mem_cons_of_mem _ h);have he:opF co st o=st:=by
   rcases WL hP hS hco h ho1 with ⟨e,_⟩|⟨v,e,hv,_,_,hR⟩
   ·exact e
   ·have hown:st (XV o)≠XV o:=fun hx=>by
     have h2:opF co st o (XV o)≠XV o:=by rw[e,Q4];exact hv
     exact Yi hP hS hco l (QaR hP hS hco h ho1) ho2 h2 (hk _ hx)
    rw[e]
    funext r
    by_cases e2:r=XV o
    ·subst e2;rw[Q4,hf,hR hown]
    ·exact Zb e2
  rcases List.mem_cons.1 ho' with rfl|ho'
  ·exact he
  ·rw[Ue,he]at hk;exact Nt hP hS hco h hf l ho2 hk o' ho'
def cpO:ASt→Option MOp
 | .cp t a=>some (.cp t a)
 | _=>none
def QfT(b:ABk)(i:Nat):List MOp:=b.chs.map (.ch i)++b.sts.filterMap cpO
def XK(bs:List ABk)(co:Nat→Bool)(m:Nat):List MOp:=(List.range m).flatMap fun i=>if co i then QfT (bkA bs i) i else []
theorem WK(m:Nat):XK bs co (m+1)=XK bs co m++(if co m then QfT (bkA bs m) m else []):=by rw[XK,XK,List.range_succ,List.flatMap_append];simp
noncomputable def mgF(bs:List ABk)(co:Nat→Bool)(st:Nat→Nat):Nat→Nat:=Zm co st (XK bs co bs.length)
theorem Qew{t:ASt}{o:MOp}(h:cpO t=some o):∃x a,t=.cp x a∧o=.cp x a:=by
 cases t<;>simp[cpO]at h;exact⟨_,_,rfl,h.symm⟩
theorem QfS{i:Nat}(hi:Cm bs i):∀o∈QfT (bkA bs i) i,Vo bs o:=fun o ho=>by
 rcases List.mem_append.1 ho with h|h
 ·obtain⟨c,hc,rfl⟩:=List.mem_map.1 h;exact⟨hi,hc⟩
 ·obtain⟨t,ht,he⟩:=List.mem_filterMap.1 h;obtain⟨x,a,rfl,rfl⟩:=Qew he;obtain⟨j,hj,e⟩:=List.getElem_of_mem ht;exact⟨i,j,hi,by rw[List.getElem?_eq_getElem hj,e]⟩
theorem Yc(hco:∀b,co b=true↔Cm bs b)(m:Nat):∀o∈XK bs co m,Vo bs o:=fun o ho=>by
 obtain⟨i,_,hi⟩:=List.mem_flatMap.1 ho;by_cases hc:co i=true
 ·rw[if_pos hc]at hi;exact QfS ((hco i).1 hc) o hi
 ·rw[if_neg hc]at hi;simp at hi
theorem Qds(hP:POk bs)(hco:∀b,co b=true↔Cm bs b){b:Nat}{c:ACh}(hb:Cm bs b)(hc:c∈(bkA bs b).chs):MOp.ch b c∈XK bs co bs.length:=
 List.mem_flatMap.2 ⟨b,List.mem_range.2 (hb.lt hP),by rw[if_pos ((hco b).2 hb)];exact List.mem_append_left _ (List.mem_map.2 ⟨c,hc,rfl⟩)⟩
theorem N7(hP:POk bs)(hco:∀b,co b=true↔Cm bs b){b j t a:Nat}(hb:Cm bs b)(hj:(bkA bs b).sts[j]?=some (ASt.cp t a)):MOp.cp t a∈XK bs co bs.length:=
 List.mem_flatMap.2 ⟨b,List.mem_range.2 (hb.lt hP),by rw[if_pos ((hco b).2 hb)];exact List.mem_append_right _ (List.mem_filterMap.2 ⟨_,List.mem_of_getElem? hj,rfl⟩)⟩
theorem SOk.start(bs:List ABk):SOk bs fun r=>r:=⟨fun r=>⟨r,0,.here rfl⟩,fun h=>absurd rfl h,fun h=>absurd rfl h⟩
theorem SOk.mg{st}(hP:POk bs)(hS:Sgl bs)(hco:∀b,co b=true↔Cm bs b)(h:SOk bs st):SOk bs (mgF bs co st):=Uc hP hS hco _ h (Yc hco _)
theorem SOk.gv{st r}(h:SOk bs st)(hr:st r≠r):∃b s,Gv bs r b s:=by
 rcases h.just hr with ⟨b,j,a,_,h2,_⟩|⟨b,c,_,_,h2,h3,_⟩
 ·exact⟨b,j,.inr ⟨j,rfl,_,h2,rfl⟩⟩
 ·exact⟨b,-1,.inl ⟨rfl,c,h2,h3⟩⟩
theorem SOk.high{st r}(hP:POk bs)(h:SOk bs st)(hr:5000≤r):st r=r:=by
 apply Classical.byContradiction;intro hn;obtain⟨b,s,g⟩:=h.gv hn;have:=hP.old g;omega
theorem SOk.low{st r}(hP:POk bs)(h:SOk bs st)(hr:r<5000):st r<5000:=by
 by_cases hn:st r=r
 ·omega
 ·obtain⟨b,s,g⟩:=h.gv hn;obtain⟨_,_,g2,_⟩:=h.link hn g;exact hP.old g2
theorem SOk.rlow{st r}(hP:POk bs)(h:SOk bs st)(hr:r<5000):rt st r<5000:=by
 obtain⟨k,hu⟩:=h.rtUp r;generalize rt st r=t at hu
 induction hu with
 | here _=>exact hr
 | next _ _ ih=>exact ih (h.low hP hr)
theorem Qa0{st}(hP:POk bs)(hS:Sgl bs)(hco:∀b,co b=true↔Cm bs b)(h:SOk bs st)(hk:∀r,st r=r→mgF bs co st r=r):(∀r,mgF bs co st r=rt st r)∧∀r,rt (mgF bs co st) r=rt st r:=by
 obtain⟨a,b,c⟩:=YT hP hS hco _ h (Yc hco _) hk;refine⟨fun r=>?_,a⟩;by_cases hr:st r=r
 ·rw[hk r hr,h.self hr]
 ·rcases h.just hr with ⟨b,j,a,h1,h2,_⟩|⟨b,d,h1,_,h2,rfl,_⟩
  ·exact c _ (N7 hP hco h1 h2) hr
  ·exact c _ (Qds hP hco h1 h2) hr
open Classical in
noncomputable def mgM(st:Nat→Nat):Nat:=2*(QC 5000 fun r=>st r==r).length+(if ∀r,st r=rt st r then 0 else 1)
theorem Qf5{st}(hP:POk bs)(hS:Sgl bs)(hco:∀b,co b=true↔Cm bs b)(h:SOk bs st)(hne:mgF bs co st≠st):mgM (mgF bs co st)<mgM st:=by
 have hm:=h.mg hP hS hco;by_cases hk:∀r,st r=r→mgF bs co st r=r
 ·obtain⟨a,b⟩:=Qa0 hP hS hco h hk;have h1:∀r,mgF bs co st r=rt (mgF bs co st) r:=fun r=>by rw[a,b]
  have h2:¬∀r,st r=rt st r:=fun hx=>hne (funext fun r=>by rw[a,←hx]);have h3:(QC 5000 fun r=>mgF bs co st r==r)=QC 5000 fun r=>st r==r:=Wx fun j _=>by
   by_cases hj:st j=j
   ·show (mgF bs co st j==j)=(st j==j);rw[hk j hj,hj]
   ·have:=Yi hP hS hco _ h (Yc hco bs.length) hj;have:mgF bs co st j≠j:=this;show (mgF bs co st j==j)=(st j==j);rw[show (mgF bs co st j==j)=false by simpa using this,show (st j==j)=false by simpa using hj]
  rw[mgM,mgM,if_pos h1,if_neg h2,h3];omega
 ·have h4:(QC 5000 fun r=>mgF bs co st r==r).length<(QC 5000 fun r=>st r==r).length:=by
   refine Gz (fun j _ hj=>?_) fun e=>?_
   ·have hj:mgF bs co st j=j:=by simpa using hj
    have:st j=j:=by
     apply Classical.byContradiction;intro hn;exact Yi hP hS hco _ h (Yc hco bs.length) hn hj
    simpa using this
   ·apply hk;intro r hr;rcases Nat.lt_or_ge r 5000 with h5|h5
    ·have:=Ww e r h5;rw[show (st r==r)=true by simpa using hr]at this;simpa using this
    ·exact hm.high hP h5
  unfold mgM;split<;>split<;>omega
structure Us(bs:List ABk)(co:Nat→Bool)(st:Nat→Nat):Prop where
 ok:SOk bs st
 cp:∀{b:Nat}{j:Nat}{t a:Nat},Cm bs b→(bkA bs b).sts[j]?=some (ASt.cp t a)→rt st t=rt st a∧st t≠t
 ch:∀{b:Nat}{c:ACh},Cm bs b→b≠0→c∈(bkA bs b).chs→st c.to=c.to→XW co st c=none
theorem Qa1{st}(hP:POk bs)(hS:Sgl bs)(hco:∀b,co b=true↔Cm bs b)(h:SOk bs st)(he:mgF bs co st=st):Us bs co st:=by
 have hk:∀r,st r=r→mgF bs co st r=r:=fun r hr=>by rw[he];exact hr
 obtain⟨a,_⟩:=Qa0 hP hS hco h hk;have hf:∀r,st r=rt st r:=fun r=>by rw[←a,he]
 have hx:=Nt hP hS hco h hf _ (Yc hco bs.length) hk;refine⟨h,fun {b j t a} hb hj=>?_,fun {b c} hb h0 hc hr=>?_⟩
 ·have h1:=hx _ (N7 hP hco hb hj);have h2:st t=rt st a:=by
   have:Xo st t (rt st a) t=st t:=congrFun h1 t;rw[Q4]at this;exact this.symm
  refine⟨by rw[←h2,←hf],fun hn=>?_⟩;rcases WL hP hS hco h (Yc hco _ _ (N7 hP hco hb hj)) with ⟨_,_⟩|⟨v,e,hv,_⟩
  ·obtain⟨b',s',g,q⟩:=hS.rd (r:=a) (b:=b) (k:=j) (.inl ⟨_,hj,by simp[rdS]⟩) hb;have gt:Gv bs t b j:=.inr ⟨j,rfl,_,hj,rfl⟩;rw[hn]at h2;rcases h.site g with e|⟨b2,s2,g2,q2⟩
   ·rw[←h2]at e;subst e;obtain⟨rfl,rfl⟩:=hS.one g gt;exact q.irr
   ·rw[←h2]at g2;obtain⟨rfl,rfl⟩:=hS.one g2 gt;exact(q2.trans q).irr
  ·rw[h1]at e;have:Xo st t v t=st t:=by rw[show Xo st t v=st from e.symm]
   rw[Q4]at this;exact hv (this.trans hn)
 ·have h1:=hx _ (Qds hP hco hb hc)
  cases ho:XW co st c with
  | none=>rfl
  | some v=>
   exfalso;have h2:(match XW co st c with|some v=>if b=0 then st else Xo st c.to v|none=>st)=st:=h1
   rw[ho]at h2;have h2:(if b=0 then st else Xo st c.to v)=st:=h2;rw[if_neg h0]at h2;have h3:Xo st c.to v c.to=st c.to:=by rw[h2]
   rw[Q4,hr]at h3;exact(WM ho).1 h3
end
end Go.Proofs.YtgfhfkgdmidhpaaGreatDoor
