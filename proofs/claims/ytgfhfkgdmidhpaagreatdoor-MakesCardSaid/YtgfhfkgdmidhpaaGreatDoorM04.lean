import Derived.Test.YtgfhfkgdmidhpaaGreatDoorM03
namespace Go.Proofs.YtgfhfkgdmidhpaaGreatDoor
open Go.RowKit
open Tryz
set_option maxRecDepth 100000
set_option maxHeartbeats 8000000
inductive ASt where
 | val (to:Nat) (n:Int)
 | cp (to a:Nat)
 | op (o to a b:Nat)
 | inp (to:Nat)
 | out (a:Nat)
structure ACh where
 to:Nat
 src:List (Nat×Nat)
structure AEn where
 op:Nat
 a:Nat
 one:Nat
 two:Nat
structure ABk where
 chs:List ACh
 sts:List ASt
 e:AEn
def QK(t:Qz):ASt:=if t.op=118 then .val t.to.1 t.n else if t.op=99 then .cp t.to.1 t.a.1 else if t.op=33 then .out t.a.1 else if t.op=63 then .inp t.to.1 else .op t.op t.to.1 t.a.1 t.b.1
def Zn(c:Q0):ACh:=⟨c.to.1,(c.gs.map (·.1)).zip (c.rs.map (·.1))⟩
def ZT(e:Z6):AEn:=⟨e.op,e.a.1,e.one.1,e.two.1⟩
def Xf(b:Qm):ABk:=⟨b.chs.map Zn,b.sts.map QK,ZT b.e⟩
def absP(bs:List Qm):List ABk:=bs.map Xf
structure Mac where
 r:Nat→Int
 inp:List Int
 out:List Int
def upd(r:Nat→Int)(n:Nat)(v:Int):Nat→Int:=fun m=>if m=n then v else r m
theorem Vs(r n v):upd r n v n=v:=if_pos rfl
theorem Kx{r:Nat→Int}{n m:Nat}(v:Int)(h:m≠n):upd r n v m=r m:=if_neg h
def wkF(o:Nat)(a b:Int):Int:=if o=43 then wrap64 (a+b) else if o=45 then wrap64 (a-b) else if o=42 then wrap64 (a*b) else if a<b then 1 else 0
def stA:ASt→Mac→Mac
 | .val t n,m=>{ m with r:=upd m.r t n }
 | .cp t a,m=>{ m with r:=upd m.r t (m.r a) }
 | .op o t a b,m=>{ m with r:=upd m.r t (wkF o (m.r a) (m.r b)) }
 | .inp t,m=>{ m with r:=upd m.r t (m.inp.head?.getD 0),inp:=m.inp.tail }
 | .out a,m=>{ m with out:=m.out++[m.r a] }
def Yi(l:List ASt)(m:Mac):Mac:=l.foldl (fun m s=>stA s m) m
theorem V6(s l m):Yi (s::l) m=Yi l (stA s m):=rfl
theorem Nq(l k m):Yi (l++k) m=Yi k (Yi l m):=by rw[Yi,List.foldl_append];rfl
def YU(src:List (Nat×Nat))(frm:Nat)(r:Nat→Int):Int:=src.foldl (fun n p=>if p.1=frm then r p.2 else n) 0
def Vx(l:List (Nat×Int))(r:Nat→Int):Nat→Int:=l.foldl (fun r p=>upd r p.1 p.2) r
def chA(chs:List ACh)(frm:Nat)(r:Nat→Int):Nat→Int:=Vx (chs.map fun c=>(c.to,YU c.src frm r)) r
def entA(b:ABk)(frm:Int)(m:Mac):Mac:=if 0≤frm then { m with r:=chA b.chs frm.toNat m.r } else m
def blA(b:ABk)(frm:Int)(m:Mac):Mac:=Yi b.sts (entA b frm m)
def UH:ABk:=⟨[],[],⟨0,0,0,0⟩⟩
def bkA(bs:List ABk)(i:Nat):ABk:=bs[i]?.getD UH
theorem Ya{bs:List ABk}{i:Nat}(h:i<bs.length):bkA bs i=bs[i]:=by rw[bkA,Zl h];rfl
def nxA(b:ABk)(m:Mac):Nat:=if b.e.op=63∧m.r b.e.a=0 then b.e.two else b.e.one
def plA(bs:List ABk):Nat→Nat→Int→Mac→List Int×Nat
 | 0,_,_,m=>(m.out,1)
 | k+1,i,frm,m=>if (bkA bs i).e.op=46 then ((blA (bkA bs i) frm m).out,0) else plA bs k (nxA (bkA bs i) (blA (bkA bs i) frm m)) i (blA (bkA bs i) frm m)
def playA(bs:List ABk)(input:List Int)(fuel:Nat):List Int×Nat:=plA bs fuel 0 (-1) ⟨fun _=>0,input,[]⟩
def look:List Nat→List Int→Nat→Int
 | a::ns,h::hs,n=>if a=n then h else look ns hs n
 | _,_,_=>0
theorem NX:∀{ns:List Nat}{hs:List Int}{n i:Nat}(hi:i<ns.length)(hl:ns.length=hs.length),ns[i]=n→(∀j (hj:j<i),ns[j]'(by omega)≠n)→look ns hs n=hs[i]'(by omega)
 | [],_,_,_,hi,_,_,_=>by simp at hi
 | a::ns,[],_,_,_,hl,_,_=>by simp at hl
 | a::ns,h::hs,n,0,_,_,h1,_=>by rw[look,if_pos (by simpa using h1)];rfl
 | a::ns,h::hs,n,i+1,hi,hl,h1,h2=>by
  rw[look,if_neg (by simpa using h2 0 (by omega))];exact NX (by simpa using hi) (by simpa using hl) (by simpa using h1) (fun j hj=>by simpa using h2 (j+1) (by omega))
theorem GL(hs:List Int)(n:Nat):look [] hs n=0:=by unfold look;rfl
theorem Qdf(ns:List Nat)(n:Nat):look ns [] n=0:=by cases ns<;>(unfold look;rfl)
theorem GK:∀{ns:List Nat}{hs:List Int}{n:Nat},(∀j (hj:j<ns.length),ns[j]≠n)→look ns hs n=0
 | [],_,_,_=>GL _ _
 | a::ns,[],_,_=>Qdf _ _
 | a::ns,h::hs,n,h2=>by
  rw[look,if_neg (show ¬a=n from h2 0 (Nat.zero_lt_succ _))];exact GK (fun j hj=>h2 (j+1) (Nat.succ_lt_succ hj))
theorem NV:∀{ns:List Nat}{hs:List Int}{n i:Nat}{v:Int}(hi:i<ns.length)(hl:ns.length=hs.length),ns[i]=n→(∀j (hj:j<i),ns[j]'(by omega)≠n)→∀m,look ns (hs.set i v) m=upd (look ns hs) n v m
 | [],_,_,_,_,hi,_,_,_,_=>by simp at hi
 | a::ns,[],_,_,_,_,hl,_,_,_=>by simp at hl
 | a::ns,h::hs,n,0,v,_,_,h1,_,m=>by
  have h1:a=n:=by simpa using h1
  subst h1;rw[List.set_cons_zero,look,upd];by_cases e:a=m
  ·rw[if_pos e,if_pos e.symm]
  ·rw[if_neg e,if_neg (fun h=>e h.symm),look,if_neg e]
 | a::ns,h::hs,n,i+1,v,hi,hl,h1,h2,m=>by
  have h0:a≠n:=by simpa using h2 0 (by omega)
  have ih:=NV (v:=v) (by simpa using hi) (by simpa using hl) (by simpa using h1) (fun j hj=>by simpa using h2 (j+1) (by omega)) (ns:=ns) (hs:=hs) (i:=i) m;rw[List.set_cons_succ,look,upd];by_cases e:a=m
  ·rw[if_pos e,if_neg (by omega),look,if_pos e]
  ·rw[if_neg e,ih,upd,look,if_neg e]
theorem NY:∀{ns:List Nat}{hs:List Int}{n:Nat}{v:Int},ns.length=hs.length→(∀j (hj:j<ns.length),ns[j]≠n)→∀m,look (ns++[n]) (hs++[v]) m=upd (look ns hs) n v m
 | [],[],n,v,_,_,m=>by
  show (if n=m then v else look [] [] m)=_;rw[upd];by_cases e:n=m
  ·rw[if_pos e,if_pos e.symm]
  ·rw[if_neg e,if_neg (fun h=>e h.symm)]
 | [],h::hs,_,_,hl,_,_=>by simp at hl
 | a::ns,[],_,_,hl,_,_=>by simp at hl
 | a::ns,h::hs,n,v,hl,h2,m=>by
  have h0:a≠n:=h2 0 (Nat.zero_lt_succ _);have ih:=NY (v:=v) (ns:=ns) (hs:=hs) (by simpa using hl) (fun j hj=>h2 (j+1) (Nat.succ_lt_succ hj)) m;rw[List.cons_append,List.cons_append,look,upd];by_cases e:a=m
  ·rw[if_pos e,if_neg (by omega),look,if_pos e]
  ·rw[if_neg e,ih,upd,look,if_neg e]
end Go.Proofs.YtgfhfkgdmidhpaaGreatDoor
namespace Go.Proofs.YtgfhfkgdmidhpaaGreatDoor
open Tryz
set_option maxRecDepth 100000
set_option maxHeartbeats 8000000
inductive Rch(su:Nat→List Nat)(bar:Nat→Bool):Nat→Prop
 | zero:bar 0=false→Rch su bar 0
 | step {i k:Nat}:Rch su bar i→k∈su i→bar k=false→Rch su bar k
theorem Rch.nb{su bar k}(h:Rch su bar k):bar k=false:=by cases h<;>assumption
theorem Rch.lt{su:Nat→List Nat} {bar k n}(hn:0<n)(hs:∀i k,k∈su i→k<n)(h:Rch su bar k):k<n:=by
 cases h with
 | zero=>exact hn
 | step _ h _=>exact hs _ _ h
def QI(n:Nat)(f:Nat→Bool):List Nat:=(List.range n).filter f
theorem Zk{n f j}:j∈QI n f↔j<n∧f j=true:=by simp[QI]
theorem Kz(n f):(QI n f).Pairwise (· < ·):=List.Pairwise.filter _ List.pairwise_lt_range
theorem Z2(n f):(QI n f).length≤n:=by
 have:=List.length_filter_le f (List.range n);simpa[QI] using this
theorem Zo:∀{l m:List Nat},l.Pairwise (· < ·)→m.Pairwise (· < ·)→(∀x,x∈l↔x∈m)→l=m
 | [],[],_,_,_=>rfl
 | [],b::m,_,_,h=>absurd ((h b).2 (List.mem_cons_self ..)) (by simp)
 | a::l,[],_,_,h=>absurd ((h a).1 (List.mem_cons_self ..)) (by simp)
 | a::l,b::m,hl,hm,h=>by
  rw[List.pairwise_cons]at hl hm;have hab:a=b:=by
   have h1:=(h a).1 (List.mem_cons_self ..);have h2:=(h b).2 (List.mem_cons_self ..);rcases List.mem_cons.1 h1 with e|h1
   ·exact e
   ·rcases List.mem_cons.1 h2 with e|h2
    ·exact e.symm
    ·have:=hm.1 a h1;have:=hl.1 b h2;omega
  subst hab
  congr 1
  refine Zo hl.2 hm.2 fun x=>?_;constructor
  ·intro hx;rcases List.mem_cons.1 ((h x).1 (ZD _ hx)) with e|h1
   ·have:=hl.1 x hx;omega
   ·exact h1
  ·intro hx;rcases List.mem_cons.1 ((h x).2 (ZD _ hx)) with e|h1
   ·have:=hm.1 x hx;omega
   ·exact h1
theorem YH{n:Nat}{f:Nat→Bool}{l:List Nat}(hl:l.Pairwise (· < ·))(h:∀x,x∈l↔x<n∧f x=true):l=QI n f:=
 Zo hl (Kz n f) fun x=>by rw[h,Zk]
theorem QaD{n:Nat}{f g:Nat→Bool}(h:∀j,j<n→f j=g j):QI n f=QI n g:=
 List.filter_congr fun x hx=>h x (by simpa using hx)
theorem Nx{n:Nat}{f g:Nat→Bool}(h:QI n f=QI n g):∀j,j<n→f j=g j:=fun j hj=>by
 have h1:j∈QI n f↔j∈QI n g:=by rw[h]
 rw[Zk,Zk]at h1;cases hf:f j<;>cases hg:g j<;>simp_all
theorem Qbz{f g:Nat→Bool}:∀{n:Nat},(∀j,j<n→f j=true→g j=true)→QI n f≠QI n g→(QI n f).length<(QI n g).length:=by
 have le:∀{n:Nat},(∀j,j<n→f j=true→g j=true)→(QI n f).length≤(QI n g).length:=by
  intro n
  induction n with
  | zero=>intro _;simp[QI]
  | succ n ih=>
   intro h;have h1:=ih (fun j hj=>h j (by omega));have h2:=h n (by omega);simp only[QI,List.range_succ,List.filter_append,List.length_append]at h1 ⊢;cases hf:f n<;>cases hg:g n<;>simp_all<;>omega
 intro n
 induction n with
 | zero=>intro _ h;exact absurd rfl h
 | succ n ih=>
  intro h hne;have h2:=h n (by omega);have h3:=le (n:=n) (fun j hj=>h j (by omega));by_cases he:QI n f=QI n g
  ·have:f n≠g n:=fun e=>hne (by simp only[QI,List.range_succ,List.filter_append]at he ⊢;rw[he];simp[List.filter_cons,e]);simp only[QI,List.range_succ,List.filter_append,List.length_append]at h3 ⊢;cases hf:f n<;>cases hg:g n<;>simp_all<;>omega
  ·have h1:=ih (fun j hj=>h j (by omega)) he;simp only[QI,List.range_succ,List.filter_append,List.length_append]at h1 ⊢;cases hf:f n<;>cases hg:g n<;>simp_all<;>omega
def QaZ(bar:Nat→Bool)(f:Nat→Bool)(ks:List Nat):Nat→Bool:=fun j=>f j||(ks.contains j&&!bar j)
def Yj(su:Nat→List Nat)(bar f:Nat→Bool)(i:Nat):Nat→Bool:=if f i then QaZ bar f (su i) else f
def Jd(su:Nat→List Nat)(bar f:Nat→Bool):Nat→(Nat→Bool)
 | 0=>f
 | m+1=>Yj su bar (Jd su bar f m) m
def Jh(su:Nat→List Nat)(bar:Nat→Bool)(n:Nat)(f:Nat→Bool):Nat→(Nat→Bool)
 | 0=>f
 | r+1=>Jd su bar (Jh su bar n f r) n
def ZJ(j:Nat):Bool:=j==0
theorem GB{su bar f i j}(h:f j=true):Yj su bar f i j=true:=by
 unfold Yj;split<;>simp[QaZ,h]
theorem KR{su bar f j}(h:f j=true):∀m,Jd su bar f m j=true
 | 0=>h
 | m+1=>GB (KR h m)
theorem Wy{su bar f j}:∀{m m':Nat},m≤m'→Jd su bar f m j=true→Jd su bar f m' j=true
 | m,0,h,hj=>by rw[show m=0 by omega]at hj;exact hj
 | m,k+1,h,hj=>by
  rcases Nat.lt_or_ge k m with h1|h1
  ·rw[show m=k+1 by omega]at hj;exact hj
  ·exact GB (Wy h1 hj)
theorem QaE{su bar f i}(h:∀j,f j=true→Rch su bar j):∀j,Yj su bar f i j=true→Rch su bar j:=by
 intro j hj;unfold Yj at hj;by_cases hi:f i=true
 ·rw[if_pos hi]at hj;simp only[QaZ,Bool.or_eq_true,Bool.and_eq_true,List.contains_iff_mem,Bool.not_eq_true']at hj;rcases hj with hj|⟨h1,h2⟩
  ·exact h j hj
  ·exact .step (h i hi) h1 h2
 ·rw[if_neg hi]at hj;exact h j hj
theorem Wx{su bar f}(h:∀j,f j=true→Rch su bar j):∀m j,Jd su bar f m j=true→Rch su bar j
 | 0=>h
 | m+1=>QaE (Wx h m)
theorem Uv{su bar n f}(h:∀j,f j=true→Rch su bar j):∀r j,Jh su bar n f r j=true→Rch su bar j
 | 0=>h
 | r+1=>Wx (Uv h r) n
theorem GA{su bar n f j}(h:f j=true):∀r,Jh su bar n f r j=true
 | 0=>h
 | r+1=>KR (GA h r) n
theorem Rl{su bar f n}(h:∀j,j<n→Jd su bar f n j=f j){i k:Nat}(hi:i<n)(hk:k<n)(hf:f i=true)(hs:k∈su i)(hb:bar k=false):f k=true:=by
 rw[←h k hk];refine Wy (m:=i+1) hi ?_;show Yj su bar (Jd su bar f i) i k=true;rw[Yj,if_pos (KR hf i)];simp[QaZ,hs,hb]
theorem Ny{su bar n f}(h0:QI n f≠[]):∀r,(∀j,j<n→Jh su bar n f (r+1) j=Jh su bar n f r j)∨r<(QI n (Jh su bar n f r)).length:=by
 have stepc:∀r,(∀j,j<n→Jh su bar n f (r+1) j=Jh su bar n f r j)∨(QI n (Jh su bar n f r)).length<(QI n (Jh su bar n f (r+1))).length:=by
  intro r;by_cases he:QI n (Jh su bar n f r)=QI n (Jh su bar n f (r+1))
  ·exact .inl fun j hj=>(Nx he j hj).symm
  ·exact .inr (Qbz (fun j _ hj=>KR hj n) he)
 intro r
 induction r with
 | zero=>
  rcases List.length_pos_iff.2 h0 with h;exact .inr h
 | succ r ih=>
  rcases ih with h|h
  ·left;have eqv:∀{g g':Nat→Bool},(∀j,j<n→g j=g' j)→(∀i k,k∈su i→k<n)∨True→∀m,m≤n→∀j,j<n→Jd su bar g m j=Jd su bar g' m j:=by
    intro g g' hg _ m
    induction m with
    | zero=>intro _ j hj;exact hg j hj
    | succ m ihm=>
     intro hm j hj;show Yj su bar _ m j=Yj su bar _ m j;have e1:=ihm (by omega) m (by omega);have e2:=ihm (by omega) j hj;unfold Yj;rw[e1];split
     ·simp[QaZ,e2]
     ·exact e2
   intro j hj;exact eqv h (.inr trivial) n (Qi _) j hj
  ·rcases stepc r with h1|h1
   ·left;have eqv:∀{g g':Nat→Bool},(∀j,j<n→g j=g' j)→∀m,m≤n→∀j,j<n→Jd su bar g m j=Jd su bar g' m j:=by
     intro g g' hg m
     induction m with
     | zero=>intro _ j hj;exact hg j hj
     | succ m ihm=>
      intro hm j hj;show Yj su bar _ m j=Yj su bar _ m j;have e1:=ihm (by omega) m (by omega);have e2:=ihm (by omega) j hj;unfold Yj;rw[e1];split
      ·simp[QaZ,e2]
      ·exact e2
    intro j hj;exact eqv h1 n (Qi _) j hj
   ·right;omega
theorem Qd3{su bar n}(hn:0<n)(hs:∀i k,k∈su i→k<n)(hb:bar 0=false){j:Nat}:Jh su bar n ZJ n j=true↔Rch su bar j:=by
 have hs0:∀j,ZJ j=true→Rch su bar j:=fun j h=>by
  have:j=0:=by simpa[ZJ] using h
  subst this;exact .zero hb
 constructor
 ·exact Uv hs0 n j
 ·intro h;have h0:QI n ZJ≠[]:=fun e=>by
   have:(0:Nat)∈QI n ZJ:=Zk.2 ⟨hn,rfl⟩;rw[e]at this;cases this
  have hc:∀j,j<n→Jh su bar n ZJ (n+1) j=Jh su bar n ZJ n j:=by
   rcases Ny (su:=su) (bar:=bar) h0 n with h|h
   ·exact h
   ·have:=Z2 n (Jh su bar n ZJ n);omega
  induction h with
  | zero _=>exact GA rfl n
  | step hi hk hbk ih=>exact Rl hc (hi.lt hn hs) (hs _ _ hk) ih hk hbk
def jac(su:Nat→List Nat)(bar:Nat→Bool)(n:Nat)(f:Nat→Bool):Nat→Bool:=fun j=>(f j||(List.range n).any fun i=>f i&&(su i).contains j)&&!bar j
def RG(bar:Nat→Bool)(j:Nat):Bool:=ZJ j&&!bar j
structure Jw(su:Nat→List Nat)(bar:Nat→Bool)(n:Nat)(f:Nat→Bool):Prop where
 sound:∀j,f j=true→Rch su bar j
 zero:bar 0=false→f 0=true
theorem Jw.start(su bar n):Jw su bar n (RG bar):=
 ⟨fun j h=>by
  simp only[RG,ZJ,Bool.and_eq_true,beq_iff_eq,Bool.not_eq_true']at h;obtain⟨rfl,h⟩:=h;exact .zero h,fun h=>by simp[RG,ZJ,h]⟩
theorem Jw.step{su bar n f}(h:Jw su bar n f):Jw su bar n (jac su bar n f):=by
 refine⟨fun j hj=>?_,fun h0=>by simp[jac,h.zero h0,h0]⟩;simp only[jac,Bool.and_eq_true,Bool.or_eq_true,List.any_eq_true,List.mem_range,List.contains_iff_mem,Bool.not_eq_true']at hj;rcases hj with ⟨h1|⟨i,_,h1,h2⟩,hb⟩
 ·exact h.sound j h1
 ·exact .step (h.sound i h1) h2 hb
theorem Jw.mono{su bar n f}(h:Jw su bar n f)(j:Nat)(hj:f j=true):jac su bar n f j=true:=by
 simp[jac,hj,(h.sound j hj).nb]
theorem Jw.done{su bar n f}(h:Jw su bar n f)(hn:0<n)(hs:∀i k,k∈su i→k<n)(he:QI n (jac su bar n f)=QI n f){j:Nat}:f j=true↔Rch su bar j:=by
 constructor
 ·exact h.sound j
 ·intro hr
  induction hr with
  | zero hb=>exact h.zero hb
  | step hi hk hbk ih=>
   rw[←Nx he _ (hs _ _ hk)];simp only[jac,Bool.and_eq_true,Bool.or_eq_true,List.any_eq_true,List.mem_range,List.contains_iff_mem,Bool.not_eq_true'];exact⟨.inr ⟨_,hi.lt hn hs,ih,hk⟩,hbk⟩
theorem Jw.less{su bar n f}(h:Jw su bar n f)(he:QI n (jac su bar n f)≠QI n f):(QI n f).length<(QI n (jac su bar n f)).length:=
 Qbz (fun j _ hj=>h.mono j hj) (fun e=>he e.symm)
def rchF(su:Nat→List Nat)(n:Nat)(bar:Nat→Bool)(j:Nat):Bool:=!bar 0&&Jh su bar n ZJ n j
theorem KB{su n bar j}(hn:0<n)(hs:∀i k,k∈su i→k<n):rchF su n bar j=true↔Rch su bar j:=by
 cases hb:bar 0 with
 | true=>
  simp only[rchF,hb];constructor
  ·intro h;cases h
  ·intro h;exfalso;have:∀j,Rch su bar j→False:=fun j h=>by induction h with
    | zero h=>rw[hb]at h;cases h
    | step _ _ _ ih=>exact ih
   exact this j h
 | false=>simp only[rchF,hb,Bool.not_false,Bool.true_and];exact Qd3 hn hs hb
def noB(_:Nat):Bool:=false
def isB(a j:Nat):Bool:=j==a
def ZG(su:Nat→List Nat)(n a b:Nat):Bool:=rchF su n noB b&&!rchF su n (isB a) b
def KC(su:Nat→List Nat)(n b a:Nat):Bool:=a != b&&ZG su n a b
def QbX(su:Nat→List Nat)(n b a:Nat):Bool:=KC su n b a&&(List.range n).all fun c=>!KC su n b c||ZG su n c a
def WK(su:Nat→List Nat)(n b:Nat):Option Nat:=(List.range n).find? (QbX su n b)
def QjF(su:Nat→List Nat)(n b:Nat):Int:=if rchF su n noB b then (match WK su n b with|some a=>(a:Int)|none=>-1) else -2
theorem Qe2{su bar n f}(h:Jw su bar n f)(hn:0<n)(hs:∀i k,k∈su i→k<n)(he:QI n (jac su bar n f)=QI n f):QI n f=QI n (rchF su n bar):=
 QaD fun j _=>by rw[Bool.eq_iff_iff,h.done hn hs he,KB hn hs]
def Vk(su:Nat→List Nat)(n b:Nat):List Nat:=QI n (KC su n b)
theorem UX(su n b):WK su n b=(Vk su n b).find? fun a=>(Vk su n b).all fun c=>ZG su n c a:=by
 rw[WK,Vk,QI,List.find?_filter]
 congr 1
 funext a
 rw[QbX];have e:((List.range n).all fun c=>!KC su n b c||ZG su n c a)=((List.range n).filter (KC su n b)).all fun c=>ZG su n c a:=by
  rw[Bool.eq_iff_iff,Xi,Xi];constructor
  ·intro h c hc;rw[List.mem_filter]at hc;have:=h c hc.1;rw[hc.2]at this;simpa using this
  ·intro h c hc
   cases hh:KC su n b c with
   | false=>rfl
   | true=>simpa using h c (List.mem_filter.2 ⟨hc,hh⟩)
 rw[e];generalize ((List.range n).filter (KC su n b)).all (fun c=>ZG su n c a)=q;cases KC su n b a<;>cases q<;>rfl
def QgU(su:Nat→List Nat)(n x y:Nat):Bool:=((List.range n).any fun k=>(su k).contains y&&ZG su n x k)&&(x==y||!ZG su n x y)
def JU(su:Nat→List Nat)(n x:Nat):List Nat:=QI n (QgU su n x)
theorem QcV{su x k}(hx:¬Rch su noB x)(h:Rch su noB k):Rch su (isB x) k:=by
 induction h with
 | zero _=>
  refine .zero ?_;simp only[isB,beq_eq_false_iff_ne];rintro rfl;exact hx (.zero rfl)
 | step h1 h2 _ ih=>
  refine .step ih h2 ?_;simp only[isB,beq_eq_false_iff_ne];rintro rfl;exact hx (.step h1 h2 rfl)
section dom
variable {su:Nat→List Nat} {n:Nat}
def Ovr(su:Nat→List Nat)(a b:Nat):Prop:=Rch su noB b∧¬Rch su (isB a) b
theorem YL(hn:0<n)(hs:∀i k,k∈su i→k<n){a b:Nat}:ZG su n a b=true↔Ovr su a b:=by
 rw[ZG,Ovr,←KB (bar:=noB) hn hs,←KB (bar:=isB a) hn hs];cases rchF su n noB b<;>cases rchF su n (isB a) b<;>simp
theorem Xp{a k:Nat}(h:k≠a):isB a k=false:=by simpa[isB] using h
theorem Qdj{a k:Nat}(h:isB a k=false):k≠a:=by simpa[isB] using h
theorem Ovr.refl{b:Nat}(h:Rch su noB b):Ovr su b b:=⟨h,fun g=>Qdj g.nb rfl⟩
theorem Ovr.trans{a b c:Nat}(h1:Ovr su a b)(h2:Ovr su b c):Ovr su a c:=by
 refine⟨h2.1,fun h=>?_⟩;have key:∀j,Rch su (isB a) j→Rch su (isB b) j∨Rch su (isB a) b:=by
  intro j hj
  induction hj with
  | zero h0=>
   by_cases e:(0:Nat)=b
   ·exact .inr (by rw[←e];exact .zero h0)
   ·exact .inl (.zero (Xp e))
  | @step i k hi hk hb ih=>
   rcases ih with ih|ih
   ·by_cases e:k=b
    ·exact .inr (by rw[←e];exact .step hi hk hb)
    ·exact .inl (.step ih hk (Xp e))
   ·exact .inr ih
 rcases key c h with h|h
 ·exact h2.2 h
 ·exact h1.2 h
theorem Ovr.antisymm{a b:Nat}(h1:Ovr su a b)(h2:Ovr su b a):a=b:=by
 by_cases e:a=b
 ·exact e
 exfalso;have key:∀j,Rch su noB j→Rch su (fun k=>isB a k||isB b k) j:=by
  intro j hj
  induction hj with
  | zero _=>
   refine .zero ?_;have e1:(0:Nat)≠a:=fun h=>h2.2 (by rw[←h];exact .zero (Xp (by omega)));have e2:(0:Nat)≠b:=fun h=>h1.2 (by rw[←h];exact .zero (Xp (by omega)));rw[Xp e1,Xp e2];rfl
  | @step i k hi hk hb ih=>
   have w1:Rch su (isB a) i:=by
    clear hi hk hb
    induction ih with
    | zero h=>exact .zero (by simp only[Bool.or_eq_false_iff]at h;exact h.1)
    | step _ hk h ih=>exact .step ih hk (by simp only[Bool.or_eq_false_iff]at h;exact h.1)
   have w2:Rch su (isB b) i:=by
    clear hi hk hb w1
    induction ih with
    | zero h=>exact .zero (by simp only[Bool.or_eq_false_iff]at h;exact h.2)
    | step _ hk h ih=>exact .step ih hk (by simp only[Bool.or_eq_false_iff]at h;exact h.2)
   refine .step ih hk ?_;have e1:k≠a:=fun h=>h2.2 (by rw[←h];exact .step w2 hk (Xp (by omega)));have e2:k≠b:=fun h=>h1.2 (by rw[←h];exact .step w1 hk (Xp (by omega)));rw[Xp e1,Xp e2];rfl
 have:=(key b h1.1).nb;simp[isB]at this
theorem Ovr.chain{a c i:Nat}(ha:Ovr su a i)(hc:Ovr su c i)(ra:Rch su noB a)(rc:Rch su noB c):Ovr su a c∨Ovr su c a:=by
 by_cases h1:Rch su (isB a) c
 ·by_cases h2:Rch su (isB c) a
  ·exfalso;have key:∀j,Rch su noB j→Rch su (isB a) j∨Rch su (isB c) j:=by
    intro j hj
    induction hj with
    | zero _=>
     by_cases e:(0:Nat)=a
     ·exact .inr (by rw[e];exact h2)
     ·exact .inl (.zero (Xp e))
    | @step i k hi hk hb ih=>
     rcases ih with ih|ih
     ·by_cases e:k=a
      ·exact .inr (by rw[e];exact h2)
      ·exact .inl (.step ih hk (Xp e))
     ·by_cases e:k=c
      ·exact .inl (by rw[e];exact h1)
      ·exact .inr (.step ih hk (Xp e))
   rcases key i ha.1 with h|h
   ·exact ha.2 h
   ·exact hc.2 h
  ·exact .inr ⟨ra,h2⟩
 ·exact .inl ⟨rc,h1⟩
theorem Ovr.zero{b:Nat}(h:Rch su noB b):Ovr su 0 b:=by
 refine⟨h,fun g=>?_⟩;clear h
 induction g with
 | zero h=>simp[isB]at h
 | step _ _ _ ih=>exact ih
theorem Ovr.up{a b:Nat}(h:Ovr su a b):Rch su noB a:=by
 by_cases ha:Rch su noB a
 ·exact ha
 ·exact absurd (QcV ha h.1) h.2
theorem Ovr.ahead{a k y:Nat}(h:Ovr su a y)(hk:Rch su noB k)(he:y∈su k)(hne:a≠y):Ovr su a k:=
 ⟨hk,fun g=>h.2 (.step g he (Xp (fun e=>hne e.symm)))⟩
theorem QbW{b:Nat}:∀{L:List Nat},L≠[]→(∀a∈L,Ovr su a b)→∃a∈L,∀c∈L,Ovr su c a
 | [],h,_=>absurd rfl h
 | [x],_,h=>⟨x,QF.2 rfl,fun c hc=>by rw[QF.1 hc];exact .refl (h x (QF.2 rfl)).up⟩
 | x::y::L,_,h=>by
  obtain⟨a,ha,hc⟩:=QbW (L:=y::L) (by simp) (fun a ha=>h a (List.mem_cons_of_mem _ ha));have hx:=h x (List.mem_cons_self ..);have ha':=h a (ZD _ ha);rcases hx.chain ha' hx.up ha'.up with g|g
  ·exact⟨a,ZD _ ha,fun c hc'=>by
    rcases List.mem_cons.1 hc' with rfl|hc'
    ·exact g
    ·exact hc c hc'⟩
  ·exact⟨x,List.mem_cons_self ..,fun c hc'=>by
    rcases List.mem_cons.1 hc' with rfl|hc'
    ·exact .refl hx.up
    ·exact(hc c hc').trans g⟩
theorem QeZ(hn:0<n)(hs:∀i k,k∈su i→k<n){b:Nat}(hb:Rch su noB b)(h0:b≠0):
  ∃a:Nat,QjF su n b=(a:Int)∧a<n∧a≠b∧Ovr su a b∧∀c,c≠b→Ovr su c b→Ovr su c a:=by
 have hmem:∀a,a∈Vk su n b↔a≠b∧Ovr su a b:=by
  intro a;rw[Vk,Zk,KC,Bool.and_eq_true,YL hn hs,bne_iff_ne];constructor
  ·exact fun h=>h.2
  ·exact fun h=>⟨h.2.up.lt hn hs,h⟩
 have hne:Vk su n b≠[]:=fun e=>by
  have:(0:Nat)∈Vk su n b:=(hmem 0).2 ⟨by omega,.zero hb⟩;rw[e]at this;cases this
 obtain⟨a,ha,hl⟩:=QbW (su:=su) (b:=b) hne (fun a ha=>((hmem a).1 ha).2);have hf:((Vk su n b).find? fun a=>(Vk su n b).all fun c=>ZG su n c a).isSome=true:=by
  rw[List.find?_isSome];exact⟨a,ha,by rw[Xi];exact fun c hc=>(YL hn hs).2 (hl c hc)⟩
 rw[←UX]at hf;obtain⟨q,hq⟩:=Option.isSome_iff_exists.1 hf;have hq2:=hq;rw[UX]at hq2;have hm:=List.mem_of_find?_eq_some hq2;have hp:=List.find?_some hq2;rw[Xi]at hp;refine⟨q,?_,((hmem q).1 hm).2.up.lt hn hs,((hmem q).1 hm).1,((hmem q).1 hm).2,fun c h1 h2=>(YL hn hs).1 (hp c ((hmem c).2 ⟨h1,h2⟩))⟩;rw[QjF,if_pos ((KB hn hs).2 hb),hq]
end dom
end Go.Proofs.YtgfhfkgdmidhpaaGreatDoor
namespace Go.Proofs.YtgfhfkgdmidhpaaGreatDoor
open Go.RowKit
open Tryz
set_option maxRecDepth 100000
set_option maxHeartbeats 8000000
def gvS:ASt→Option Nat
 | .val t _=>some t
 | .cp t _=>some t
 | .op _ t _ _=>some t
 | .inp t=>some t
 | .out _=>none
def rdS:ASt→List Nat
 | .val _ _=>[]
 | .cp _ a=>[a]
 | .op _ _ a b=>[a,b]
 | .inp _=>[]
 | .out a=>[a]
def gsA(e:AEn):List Nat:=if e.op=62 then [e.one] else if e.op=63 then [e.one,e.two] else []
def rdE(e:AEn):List Nat:=if e.op=63 then [e.a] else []
def suA(bs:List ABk)(i:Nat):List Nat:=gsA (bkA bs i).e
def Cm(bs:List ABk)(b:Nat):Prop:=Rch (suA bs) noB b
def Gv(bs:List ABk)(r b:Nat)(s:Int):Prop:=
 (s=-1∧∃c∈(bkA bs b).chs,c.to=r)∨∃j:Nat,s=j∧∃t,(bkA bs b).sts[j]?=some t∧gvS t=some r
def Rea(bs:List ABk)(r b:Nat)(k:Nat):Prop:=
 (∃t,(bkA bs b).sts[k]?=some t∧r∈rdS t)∨(k=(bkA bs b).sts.length∧(r∈rdE (bkA bs b).e∨∃b2 c,c∈(bkA bs b2).chs∧(b,r)∈c.src))
def Pre(bs:List ABk)(b1:Nat)(s1:Int)(b2:Nat)(s2:Int):Prop:=(b1=b2∧s1<s2)∨(b1≠b2∧Ovr (suA bs) b1 b2)
structure Sgl(bs:List ABk):Prop where
 one:∀{r b b' s s'},Gv bs r b s→Gv bs r b' s'→b=b'∧s=s'
 chs:∀b,((bkA bs b).chs.map (·.to)).Nodup
 rd:∀{r b k},Rea bs r b k→Cm bs b→∃b' s',Gv bs r b' s'∧Pre bs b' s' b k
theorem Pre.trans{bs b1 s1 b2 s2 b3 s3}(h:Pre bs b1 s1 b2 s2)(k:Pre bs b2 s2 b3 s3):Pre bs b1 s1 b3 s3:=by
 rcases h with ⟨rfl,h⟩|⟨hn,h⟩
 ·rcases k with ⟨rfl,k⟩|⟨kn,k⟩
  ·exact .inl ⟨rfl,by omega⟩
  ·exact .inr ⟨kn,k⟩
 ·rcases k with ⟨rfl,k⟩|⟨kn,k⟩
  ·exact .inr ⟨hn,h⟩
  ·refine .inr ⟨?_,h.trans k⟩;rintro rfl;exact hn (h.antisymm k)
theorem Pre.irr{bs b s}(h:Pre bs b s b s):False:=by
 rcases h with ⟨_,h⟩|⟨h,_⟩
 ·omega
 ·exact h rfl
theorem Pre.le{bs b s b' s' s''}(h:Pre bs b s b' s')(hs:s'≤s''):Pre bs b s b' s'':=by
 rcases h with ⟨h1,h⟩|h
 ·exact .inl ⟨h1,by omega⟩
 ·exact .inr h
def Jk(bs:List ABk)(b:Nat):List Nat:=(List.range bs.length).filter fun i=>(suA bs i).contains b
structure POk(bs:List ABk):Prop where
 pos:0<bs.length
 goal:∀i k,k∈suA bs i→k<bs.length
 op:∀i,i<bs.length→(bkA bs i).e.op=46∨(bkA bs i).e.op=62∨(bkA bs i).e.op=63
 src:∀{b c},c∈(bkA bs b).chs→c.src.map (·.1)=Jk bs b
 old:∀{r b s},Gv bs r b s→r<5000
 oldR:∀{r b k},Rea bs r b k→r<5000
theorem Cm.lt{bs b}(hP:POk bs)(h:Cm bs b):b<bs.length:=Rch.lt hP.pos hP.goal h
theorem Qip{bs:List ABk}{p b:Nat}(h:b∈suA bs p):p<bs.length:=by
 rcases Nat.lt_or_ge p bs.length with h1|h1
 ·exact h1
 ·rw[suA,bkA,List.getElem?_eq_none h1]at h;simp[UH,gsA]at h
end Go.Proofs.YtgfhfkgdmidhpaaGreatDoor
