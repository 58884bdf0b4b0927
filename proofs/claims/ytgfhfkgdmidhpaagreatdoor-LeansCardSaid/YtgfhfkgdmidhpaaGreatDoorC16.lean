import Derived.Test.YtgfhfkgdmidhpaaGreatDoorC11
import Derived.Shelf.Strings.Builder1
import Derived.Shelf.Strings.Builder2
import Derived.Shelf.Strings.OnBuilder
import Derived.Shelf.Strconv.Itoa0
import Derived.Shelf.Strconv.Itoa1
import Derived.Shelf.LaysM
import Derived.Shelf.Strconv.Itoa2
import Derived.Shelf.Strconv.Itoa3
import Derived.Shelf.Strconv.Itoa4
namespace Go.Proofs.YtgfhfkgdmidhpaaGreatDoor
open Go.RowKit
set_option maxRecDepth 100000
set_option maxHeartbeats 8000000
section
variable {bs:List ABk} {co:Nat→Bool} {st:Nat→Nat}
theorem QaW{bs:List ABk}{i:Nat}{m:Mac}(h:(bkA bs i).e.op=62∨(bkA bs i).e.op=63):nxA (bkA bs i) m∈suA bs i:=by
 unfold nxA suA gsA;rcases h with h|h
 ·simp[h]
 ·by_cases e:m.r (bkA bs i).e.a=0<;>simp[h,e]
def Ent(bs:List ABk)(R:Nat→Int→Mac→Mac→Prop)(frm:Int)(i:Nat)(m m2:Mac):Prop:=
 (frm=-1∧i=0∧R 0 0 m m2)∨∃p:Nat,frm=p∧Cm bs p∧i∈suA bs p∧R p (bkA bs p).sts.length m m2
theorem QgW(hP:POk bs)(hS:Sgl bs)(hco:∀b,co b=true↔Cm bs b)(h:Us bs co st):∀(k i:Nat)(frm:Int)(m m2:Mac),Cm bs i→Ent bs (Sim bs st) frm i m m2→plA bs k i frm m=plA (mgA co st bs) k i frm m2
 | 0,i,frm,m,m2,_,he=>by
  have:m2.out=m.out:=by
   rcases he with ⟨_,_,he⟩|⟨p,_,_,_,he⟩<;>exact he.out
  rw[plA,plA,this]
 | k+1,i,frm,m,m2,hi,he=>by
  have hin:=hi.lt hP;have hb:bkA (mgA co st bs) i=mgB co st (bkA bs i):=by rw[mgA,Xc hin,if_pos ((hco i).2 hi)]
  have h1:Sim bs st i 0 (Kb (bkA bs i) frm m) (Kb (mgB co st (bkA bs i)) frm m2):=by
   rcases he with ⟨rfl,rfl,he⟩|⟨p,rfl,hp,hs,he⟩
   ·rw[Kb,Kb,if_neg (by omega),if_neg (by omega)];exact he
   ·exact QbY hP hS hco h hp hs he
  have h2:=UE hP hS h hi (bkA bs i).sts 0 _ _ rfl h1 (Nat.zero_le _);have h3:Sim bs st i (bkA bs i).sts.length (blA (bkA bs i) frm m) (blA (mgB co st (bkA bs i)) frm m2):=h2;have eop:(mgB co st (bkA bs i)).e.op=(bkA bs i).e.op:=YJ _ _;rw[plA,plA,hb,eop];by_cases ho:(bkA bs i).e.op=46
  ·rw[if_pos ho,if_pos ho,h3.out]
  ·rw[if_neg ho,if_neg ho];have hop:(bkA bs i).e.op=62∨(bkA bs i).e.op=63:=by
    rcases hP.op i hin with h|h
    ·exact absurd h ho
    ·exact h
   have hnx:nxA (mgB co st (bkA bs i)) (blA (mgB co st (bkA bs i)) frm m2)=nxA (bkA bs i) (blA (bkA bs i) frm m):=by
    unfold nxA;rw[eop,show (mgB co st (bkA bs i)).e.one=(bkA bs i).e.one from GD _ _,show (mgB co st (bkA bs i)).e.two=(bkA bs i).e.two from GC _ _];by_cases h63:(bkA bs i).e.op=63
    ·have ha:(mgB co st (bkA bs i)).e.a=nm st (bkA bs i).e.a:=by show (rnE (nm st) (bkA bs i).e).a=_;rw[rnE,if_pos h63]
     rw[ha,h3.r _ (hS.rd (.inr ⟨rfl,.inl (by rw[rdE,if_pos h63];simp)⟩) hi)]
    ·rw[if_neg (fun h=>h63 h.1),if_neg (fun h=>h63 h.1)]
   rw[hnx];exact QgW hP hS hco h k _ _ _ _ (.step hi (QaW hop) rfl) (.inr ⟨i,rfl,hi,QaW hop,h3⟩)
theorem Qf4(hP:POk bs)(hS:Sgl bs)(hco:∀b,co b=true↔Cm bs b)(h:Us bs co st)(V:List Int)(f:Nat):playA bs V f=playA (mgA co st bs) V f:=
 QgW hP hS hco h f 0 (-1) _ _ (.zero rfl) (.inl ⟨rfl,rfl,fun _ _=>rfl,rfl,rfl⟩)
inductive Wn(bs:List ABk):Nat→Prop
 | out {b a:Nat}:Cm bs b→ASt.out a∈(bkA bs b).sts→Wn bs a
 | fin {b r:Nat}:Cm bs b→r∈rdE (bkA bs b).e→Wn bs r
 | st {b x r:Nat} {t:ASt}:Cm bs b→t∈(bkA bs b).sts→gvS t=some x→Wn bs x→r∈rdS t→Wn bs r
 | ch {b:Nat} {c:ACh} {p:Nat×Nat}:Cm bs b→c∈(bkA bs b).chs→Wn bs c.to→p∈c.src→Cm bs p.1→Wn bs p.2
def JG(W:Nat→Bool):ASt→Bool
 | .val t _=>W t
 | .cp t _=>W t
 | .op _ t _ _=>W t
 | .inp _=>true
 | .out _=>true
def drB(W:Nat→Bool)(b:ABk):ABk:=⟨b.chs.filter fun c=>W c.to,b.sts.filter (JG W),b.e⟩
def drA(co W:Nat→Bool)(bs:List ABk):List ABk:=trA co (drB W) bs
theorem NV(co W bs):suA (drA co W bs)=suA bs:=NT fun _=>rfl
structure QaD(W:Nat→Bool)(m m2:Mac):Prop where
 r:∀r,W r=true→m2.r r=m.r r
 inp:m2.inp=m.inp
 out:m2.out=m.out
variable {W:Nat→Bool}
theorem Qgt(hW:∀r,W r=true↔Wn bs r){b:Nat}{t:ASt}(hb:Cm bs b)(ht:t∈(bkA bs b).sts){m m2:Mac}(hm:QaD W m m2):QaD W (stA t m) (if JG W t then stA t m2 else m2):=by
 have hset:∀{x:Nat} {v v2:Int},(W x=true→v2=v)→∀r,W r=true→upd m2.r x v2 r=upd m.r x v r:=by
  intro x v v2 hv r hr;by_cases e:r=x
  ·subst e;rw[Jh,Jh,hv hr]
  ·rw[Z7 _ e,Z7 _ e];exact hm.r r hr
 have hoff:∀{x:Nat} {v:Int},W x=false→∀r,W r=true→m2.r r=upd m.r x v r:=by
  intro x v hx r hr;rw[Z7 _ (fun e=>by rw[e,hx]at hr;cases hr)];exact hm.r r hr
 have hrd:∀{x},gvS t=some x→W x=true→∀r∈rdS t,m2.r r=m.r r:=fun hg hx r hr=>hm.r r ((hW r).2 (.st hb ht hg ((hW _).1 hx) hr))
 cases t with
 | val t n=>
  cases hx:W t with
  | true=>rw[if_pos (by exact hx)];exact⟨hset fun _=>rfl,hm.inp,hm.out⟩
  | false=>rw[if_neg (by rw[JG,hx];decide)];exact⟨hoff hx,hm.inp,hm.out⟩
 | cp t a=>
  cases hx:W t with
  | true=>rw[if_pos (by exact hx)];exact⟨hset fun h=>hrd rfl h a (by simp[rdS]),hm.inp,hm.out⟩
  | false=>rw[if_neg (by rw[JG,hx];decide)];exact⟨hoff hx,hm.inp,hm.out⟩
 | op o t a b2=>
  cases hx:W t with
  | true=>rw[if_pos (by exact hx)];exact⟨hset fun h=>by rw[hrd rfl h a (by simp[rdS]),hrd rfl h b2 (by simp[rdS])],hm.inp,hm.out⟩
  | false=>rw[if_neg (by rw[JG,hx];decide)];exact⟨hoff hx,hm.inp,hm.out⟩
 | inp t=>rw[if_pos (show JG W (.inp t)=true from rfl)];exact⟨hset fun _=>by rw[hm.inp],by show m2.inp.tail=_;rw[hm.inp];rfl,hm.out⟩
 | out a=>rw[if_pos (show JG W (.out a)=true from rfl)];exact⟨hm.r,hm.inp,by show m2.out++[m2.r a]=_;rw[hm.out,hm.r a ((hW a).2 (.out hb ht))];rfl⟩
theorem Ny(hW:∀r,W r=true↔Wn bs r){b:Nat}(hb:Cm bs b):∀(l:List ASt)(m m2:Mac),(∀t∈l,t∈(bkA bs b).sts)→QaD W m m2→QaD W (KV l m) (KV (l.filter (JG W)) m2)
 | [],_,_,_,hm=>hm
 | t::l,m,m2,hl,hm=>by
  have h1:=Qgt hW hb (hl t (List.mem_cons_self ..)) hm;have h2:=Ny hW hb l _ _ (fun t h=>hl t (List.mem_cons_of_mem _ h)) h1;rw[Kl]
  cases hs:JG W t with
  | true=>rw[hs,if_pos rfl]at h2;rw[List.filter_cons_of_pos hs,Kl];exact h2
  | false=>rw[hs,if_neg (by decide)]at h2;rw[List.filter_cons_of_neg (by rw[hs];decide)];exact h2
theorem Gy{g g2:ACh→Int}:∀(l:List ACh)(q q2:Nat→Int),(∀r,W r=true→q2 r=q r)→(∀c∈l,W c.to=true→g2 c=g c)→∀r,W r=true→K7 ((l.filter fun c=>W c.to).map fun c=>(c.to,g2 c)) q2 r=K7 (l.map fun c=>(c.to,g c)) q r
 | [],_,_,hq,_,r,hr=>hq r hr
 | c::l,q,q2,hq,hg,r,hr=>by
  cases hc:W c.to with
  | true=>
   rw[List.filter_cons_of_pos (p:=fun c:ACh=>W c.to) hc,List.map_cons,List.map_cons,JK,JK];refine Gy l _ _ (fun x hx=>?_) (fun d hd=>hg d (List.mem_cons_of_mem _ hd)) r hr;show upd q2 c.to (g2 c) x=upd q c.to (g c) x;rw[hg c (List.mem_cons_self ..) hc];by_cases e:x=c.to
   ·subst e;rw[Jh,Jh]
   ·rw[Z7 _ e,Z7 _ e];exact hq x hx
  | false=>
   rw[List.filter_cons_of_neg (p:=fun c:ACh=>W c.to) (by rw[hc];decide),List.map_cons,JK];refine Gy l _ _ (fun x hx=>?_) (fun d hd=>hg d (List.mem_cons_of_mem _ hd)) r hr;show q2 x=upd q c.to (g c) x;rw[Z7 _ (fun e=>by rw[e,hc]at hx;cases hx)];exact hq x hx
theorem QbW{src:List (Nat×Nat)}{p:Nat}{q q2:Nat→Int}(h:∀x,(p,x)∈src→q2 x=q x):KX src p q2=KX src p q:=by
 unfold KX;generalize (0:Int)=a
 induction src generalizing a with
 | nil=>rfl
 | cons y src ih=>
  rw[List.foldl_cons,List.foldl_cons];by_cases e:y.1=p
  ·rw[if_pos e,if_pos e,h y.2 (by rw[←e];exact List.mem_cons_self ..)];exact ih (fun x hx=>h x (List.mem_cons_of_mem _ hx)) _
  ·rw[if_neg e,if_neg e];exact ih (fun x hx=>h x (List.mem_cons_of_mem _ hx)) _
theorem Qg6(hP:POk bs)(hco:∀b,co b=true↔Cm bs b)(hW:∀r,W r=true↔Wn bs r):∀(k i:Nat)(frm:Int)(m m2:Mac),Cm bs i→Ent bs (fun _ _=>QaD W) frm i m m2→plA bs k i frm m=plA (drA co W bs) k i frm m2
 | 0,i,frm,m,m2,_,he=>by
  have:m2.out=m.out:=by
   rcases he with ⟨_,_,he⟩|⟨p,_,_,_,he⟩<;>exact he.out
  rw[plA,plA,this]
 | k+1,i,frm,m,m2,hi,he=>by
  have hin:=hi.lt hP;have hb:bkA (drA co W bs) i=drB W (bkA bs i):=by rw[drA,Xc hin,if_pos ((hco i).2 hi)]
  have h1:QaD W (Kb (bkA bs i) frm m) (Kb (drB W (bkA bs i)) frm m2):=by
   rcases he with ⟨rfl,rfl,he⟩|⟨p,rfl,hp,hs,he⟩
   ·rw[Kb,Kb,if_neg (by omega),if_neg (by omega)];exact he
   ·rw[Kb,Kb,if_pos (by omega),if_pos (by omega),Int.toNat_natCast];refine⟨fun r hr=>Gy _ _ _ he.r (fun c hc hw=>?_) r hr,he.inp,he.out⟩;exact QbW fun x hx=>he.r x ((hW x).2 (.ch hi hc ((hW _).1 hw) hx hp))
  have h3:QaD W (blA (bkA bs i) frm m) (blA (drB W (bkA bs i)) frm m2):=Ny hW hi (bkA bs i).sts _ _ (fun t ht=>ht) h1;rw[plA,plA,hb];show _=if (bkA bs i).e.op=46 then _ else _;by_cases ho:(bkA bs i).e.op=46
  ·rw[if_pos ho,if_pos ho,h3.out]
  ·rw[if_neg ho,if_neg ho];have hop:(bkA bs i).e.op=62∨(bkA bs i).e.op=63:=by
    rcases hP.op i hin with h|h
    ·exact absurd h ho
    ·exact h
   have hnx:nxA (drB W (bkA bs i)) (blA (drB W (bkA bs i)) frm m2)=nxA (bkA bs i) (blA (bkA bs i) frm m):=by
    unfold nxA;show (if (bkA bs i).e.op=63∧(blA (drB W (bkA bs i)) frm m2).r (bkA bs i).e.a=0 then (bkA bs i).e.two else (bkA bs i).e.one)=_;by_cases h63:(bkA bs i).e.op=63
    ·rw[h3.r _ ((hW _).2 (.fin hi (by rw[rdE,if_pos h63];simp)))]
    ·rw[if_neg (fun h=>h63 h.1),if_neg (fun h=>h63 h.1)]
   rw[hnx];exact Qg6 hP hco hW k _ _ _ _ (.step hi (QaW hop) rfl) (.inr ⟨i,rfl,hi,QaW hop,h3⟩)
end
def idx{α:Type}(p:α→Bool)(l:List α)(j:Nat):Nat:=((l.take j).filter p).length
theorem Qgj{α:Type}(p:α→Bool)(l:List α):idx p l l.length=(l.filter p).length:=by rw[idx,List.take_length]
theorem Qa9{α:Type}{p:α→Bool}:∀{l:List α}{j:Nat}{t:α},l[j]?=some t→p t=true→(l.filter p)[idx p l j]?=some t
 | [],j,t,h,_=>by simp at h
 | x::l,0,t,h,hp=>by
  have:x=t:=by simpa using h
  subst this;rw[List.filter_cons_of_pos hp];rfl
 | x::l,j+1,t,h,hp=>by
  have h1:l[j]?=some t:=by simpa using h
  have ih:=Qa9 h1 hp
  cases hx:p x with
  | true=>
   rw[List.filter_cons_of_pos hx,idx,List.take_succ_cons,List.filter_cons_of_pos hx,List.length_cons,List.getElem?_cons_succ];exact ih
  | false=>
   rw[List.filter_cons_of_neg (by rw[hx];decide),idx,List.take_succ_cons,List.filter_cons_of_neg (by rw[hx];decide)];exact ih
theorem GP{α:Type}{p:α→Bool}:∀{l:List α}{k:Nat}{t:α},(l.filter p)[k]?=some t→∃j:Nat,l[j]?=some t∧p t=true∧idx p l j=k
 | [],k,t,h=>by simp at h
 | x::l,k,t,h=>by
  cases hx:p x with
  | true=>
   rw[List.filter_cons_of_pos hx]at h
   cases k with
   | zero=>
    have:x=t:=by simpa using h
    subst this;exact⟨0,rfl,hx,rfl⟩
   | succ k=>
    obtain⟨j,h1,h2,h3⟩:=GP (l:=l) (k:=k) (t:=t) (by simpa using h);exact⟨j+1,by simpa using h1,h2,by rw[idx,List.take_succ_cons,List.filter_cons_of_pos hx,List.length_cons];exact congrArg (· + 1) h3⟩
  | false=>
   rw[List.filter_cons_of_neg (by rw[hx];decide)]at h;obtain⟨j,h1,h2,h3⟩:=GP h;exact⟨j+1,by simpa using h1,h2,by rw[idx,List.take_succ_cons,List.filter_cons_of_neg (by rw[hx];decide)];exact h3⟩
theorem Qd5{α:Type}{p:α→Bool}:∀{l:List α}{j k:Nat}{t:α},l[j]?=some t→p t=true→j<k→idx p l j<idx p l k
 | [],j,k,t,h,_,_=>by simp at h
 | x::l,0,0,t,_,_,hk=>by omega
 | x::l,j+1,0,t,_,_,hk=>by omega
 | x::l,0,k+1,t,h,hp,_=>by
  have:x=t:=by simpa using h
  subst this;rw[idx,idx,List.take_succ_cons,List.filter_cons_of_pos hp,List.take_zero,List.length_cons];exact Nat.zero_lt_succ _
 | x::l,j+1,k+1,t,h,hp,hk=>by
  have ih:=Qd5 (l:=l) (j:=j) (k:=k) (by simpa using h) hp (by omega)
  cases hx:p x with
  | true=>
   rw[idx,idx,List.take_succ_cons,List.take_succ_cons,List.filter_cons_of_pos hx,List.filter_cons_of_pos hx,List.length_cons,List.length_cons];exact Nat.succ_lt_succ ih
  | false=>
   rw[idx,idx,List.take_succ_cons,List.take_succ_cons,List.filter_cons_of_neg (by rw[hx];decide),List.filter_cons_of_neg (by rw[hx];decide)];exact ih
theorem Qeb(f:Nat→Nat)(t:ASt):gvS (rnS f t)=(gvS t).map f:=by cases t<;>rfl
theorem QhD(f:Nat→Nat)(t:ASt):rdS (rnS f t)=(rdS t).map f:=by cases t<;>rfl
theorem N3(f:Nat→Nat)(e:AEn):rdE (rnE f e)=(rdE e).map f:=by
 unfold rdE;rw[YJ];by_cases h:e.op=63
 ·rw[if_pos h,if_pos h,rnE,if_pos h];rfl
 ·rw[if_neg h,if_neg h];rfl
structure Tr(A A':List ABk)(co:Nat→Bool)(f:Nat→Nat)(pc:ACh→Bool)(ps:ASt→Bool):Prop where
 chs:∀b,Cm A b→(bkA A' b).chs=((bkA A b).chs.filter pc).map (rnC co f)
 sts:∀b,Cm A b→(bkA A' b).sts=((bkA A b).sts.filter ps).map (rnS f)
 e:∀b,Cm A b→(bkA A' b).e=rnE f (bkA A b).e
 chs0:∀b,¬Cm A b→(bkA A' b).chs=[]
 sts0:∀b,¬Cm A b→(bkA A' b).sts=[]
 su:suA A'=suA A
 co:∀b,co b=true↔Cm A b
def KGv(A:List ABk)(pc:ACh→Bool)(ps:ASt→Bool)(x b:Nat)(s:Int):Prop:=
 Cm A b∧((s=-1∧∃c∈(bkA A b).chs,pc c=true∧c.to=x)∨∃j:Nat,s=j∧∃t,(bkA A b).sts[j]?=some t∧ps t=true∧gvS t=some x)
def KRd(A:List ABk)(pc:ACh→Bool)(ps:ASt→Bool)(r b k:Nat):Prop:=
 (∃t,(bkA A b).sts[k]?=some t∧ps t=true∧r∈rdS t)∨(k=(bkA A b).sts.length∧(r∈rdE (bkA A b).e∨∃b2 c,Cm A b2∧c∈(bkA A b2).chs∧pc c=true∧(b,r)∈c.src))
theorem KGv.gv{A pc ps x b s}(h:KGv A pc ps x b s):Gv A x b s:=by
 rcases h.2 with ⟨h1,c,h2,_,h3⟩|⟨j,h1,t,h2,_,h3⟩
 ·exact .inl ⟨h1,c,h2,h3⟩
 ·exact .inr ⟨j,h1,t,h2,h3⟩
def shI(ps:ASt→Bool)(l:List ASt)(s:Int):Int:=if s=-1 then -1 else idx ps l s.toNat
section
variable {A A':List ABk} {co:Nat→Bool} {f:Nat→Nat} {pc:ACh→Bool} {ps:ASt→Bool}
theorem Tr.cm(T:Tr A A' co f pc ps)(b:Nat):Cm A' b↔Cm A b:=by unfold Cm;rw[T.su]
theorem Tr.gv(T:Tr A A' co f pc ps){r b:Nat}{s:Int}(h:Gv A' r b s):∃x s0,KGv A pc ps x b s0∧f x=r∧s=shI ps (bkA A b).sts s0:=by
 by_cases hb:Cm A b
 ·rcases h with ⟨rfl,c,hc,rfl⟩|⟨k,rfl,t,ht,hg⟩
  ·rw[T.chs b hb]at hc;obtain⟨d,hd,rfl⟩:=List.mem_map.1 hc;obtain⟨h1,h2⟩:=List.mem_filter.1 hd;exact⟨d.to,-1,⟨hb,.inl ⟨rfl,d,h1,h2,rfl⟩⟩,rfl,rfl⟩
  ·rw[T.sts b hb,List.getElem?_map]at ht
   cases hu:((bkA A b).sts.filter ps)[k]? with
   | none=>rw[hu]at ht;cases ht
   | some u=>
    rw[hu]at ht;have ht:rnS f u=t:=by simpa using ht
    subst ht;obtain⟨j,h1,h2,h3⟩:=GP hu;rw[Qeb]at hg
    cases hx:gvS u with
    | none=>rw[hx]at hg;cases hg
    | some x=>
     rw[hx]at hg;refine⟨x,j,⟨hb,.inr ⟨j,rfl,u,h1,h2,hx⟩⟩,by simpa using hg,?_⟩;rw[shI,if_neg (by omega),Int.toNat_natCast,h3]
 ·rcases h with ⟨_,c,hc,_⟩|⟨k,_,t,ht,_⟩
  ·rw[T.chs0 b hb]at hc;simp at hc
  ·rw[T.sts0 b hb]at ht;simp at ht
theorem Tr.gv'(T:Tr A A' co f pc ps){x b:Nat}{s0:Int}(h:KGv A pc ps x b s0):Gv A' (f x) b (shI ps (bkA A b).sts s0):=by
 obtain⟨hb,h⟩:=h;rcases h with ⟨rfl,c,h1,h2,rfl⟩|⟨j,rfl,t,h1,h2,h3⟩
 ·refine .inl ⟨rfl,rnC co f c,?_,rfl⟩;rw[T.chs b hb];exact List.mem_map.2 ⟨c,List.mem_filter.2 ⟨h1,h2⟩,rfl⟩
 ·refine .inr ⟨idx ps (bkA A b).sts j,by rw[shI,if_neg (by omega),Int.toNat_natCast],rnS f t,?_,by rw[Qeb,h3];rfl⟩;rw[T.sts b hb,List.getElem?_map,Qa9 h1 h2];rfl
theorem Tr.rd(T:Tr A A' co f pc ps){r b k:Nat}(h:Rea A' r b k)(hb:Cm A b):∃x k0,KRd A pc ps x b k0∧f x=r∧k=idx ps (bkA A b).sts k0:=by
 rcases h with ⟨t,ht,hr⟩|⟨rfl,h⟩
 ·rw[T.sts b hb,List.getElem?_map]at ht
  cases hu:((bkA A b).sts.filter ps)[k]? with
  | none=>rw[hu]at ht;cases ht
  | some u=>
   rw[hu]at ht;have ht:rnS f u=t:=by simpa using ht
   subst ht;obtain⟨j,h1,h2,h3⟩:=GP hu;rw[QhD]at hr;obtain⟨x,hx,rfl⟩:=List.mem_map.1 hr;exact⟨x,j,.inl ⟨u,h1,h2,hx⟩,rfl,h3.symm⟩
 ·have hl:(bkA A' b).sts.length=idx ps (bkA A b).sts (bkA A b).sts.length:=by rw[T.sts b hb,List.length_map,Qgj]
  rcases h with h|⟨b2,c,hc,hs⟩
  ·rw[T.e b hb,N3]at h;obtain⟨x,hx,rfl⟩:=List.mem_map.1 h;exact⟨x,_,.inr ⟨rfl,.inl hx⟩,rfl,hl⟩
  ·by_cases hb2:Cm A b2
   ·rw[T.chs b2 hb2]at hc;obtain⟨d,hd,rfl⟩:=List.mem_map.1 hc;obtain⟨h1,h2⟩:=List.mem_filter.1 hd;obtain⟨p,hp,e⟩:=List.mem_map.1 hs;have e1:p.1=b:=congrArg (·.1) e;have e2:(if co p.1 then f p.2 else 0)=r:=congrArg (·.2) e;subst e1;rw[if_pos ((T.co _).2 hb)]at e2;exact⟨p.2,_,.inr ⟨rfl,.inr ⟨b2,d,hb2,h1,h2,hp⟩⟩,e2,hl⟩
   ·rw[T.chs0 b2 hb2]at hc;simp at hc
theorem Tr.pre(T:Tr A A' co f pc ps){x b b' k:Nat}{s:Int}(hg:KGv A pc ps x b' s)(h:Pre A b' s b k):Pre A' b' (shI ps (bkA A b').sts s) b (idx ps (bkA A b).sts k):=by
 rcases h with ⟨rfl,h⟩|⟨h1,h2⟩
 ·refine .inl ⟨rfl,?_⟩;rcases hg.2 with ⟨rfl,_⟩|⟨j,rfl,t,h1,h2,_⟩
  ·rw[shI,if_pos rfl];omega
  ·rw[shI,if_neg (by omega),Int.toNat_natCast];have:=Qd5 (k:=k) h1 h2 (by omega);omega
 ·exact .inr ⟨h1,by rw[T.su];exact h2⟩
theorem Tr.sgl(T:Tr A A' co f pc ps)(hS:Sgl A)(h1:∀{x y b s b' s'},KGv A pc ps x b s→KGv A pc ps y b' s'→f x=f y→x=y)
  (h2:∀{r b k},KRd A pc ps r b k→Cm A b→∃q b' s',KGv A pc ps q b' s'∧f q=f r∧Pre A b' s' b k):Sgl A':=by
 refine⟨fun {r b b' s s'} g g'=>?_,fun b=>?_,fun {r b k} hr hb=>?_⟩
 ·obtain⟨x,t,k,e,rfl⟩:=T.gv g;obtain⟨y,t',k',e',rfl⟩:=T.gv g';have:=h1 k k' (e.trans e'.symm);subst this;obtain⟨rfl,rfl⟩:=hS.one k.gv k'.gv;exact⟨rfl,rfl⟩
 ·by_cases hb:Cm A b
  ·rw[T.chs b hb,List.map_map];refine List.pairwise_map.2 ?_;refine List.Pairwise.imp_of_mem ?_ (List.Pairwise.filter pc (List.pairwise_map.1 (hS.chs b)));intro c d hc hd hne e;obtain⟨c1,c2⟩:=List.mem_filter.1 hc;obtain⟨d1,d2⟩:=List.mem_filter.1 hd;exact hne (h1 (b:=b) (s:=-1) (b':=b) (s':=-1) ⟨hb,.inl ⟨rfl,c,c1,c2,rfl⟩⟩ ⟨hb,.inl ⟨rfl,d,d1,d2,rfl⟩⟩ e)
  ·rw[T.chs0 b hb];exact List.nodup_nil
 ·have hb:=(T.cm b).1 hb;obtain⟨x,k0,kr,rfl,rfl⟩:=T.rd hr hb;obtain⟨q,b',s',kg,e,p⟩:=h2 kr hb;exact⟨b',_,by rw[←e];exact T.gv' kg,T.pre kg p⟩
end
section
variable {bs:List ABk} {co:Nat→Bool} {st:Nat→Nat}
theorem Av.cm{r b:Nat}{k:Int}(hb:Cm bs b) {b' s'}(_g:Gv bs r b' s')(h:Pre bs b' s' b k):Cm bs b':=by
 rcases h with ⟨rfl,_⟩|⟨_,h⟩
 ·exact hb
 ·exact h.up
noncomputable def pcM(st:Nat→Nat)(c:ACh):Bool:=rt st c.to==c.to
def psM(t:ASt):Bool:=!WX t
theorem RW(hP:POk bs)(hco:∀b,co b=true↔Cm bs b):Tr bs (mgA co st bs) co (nm st) (pcM st) psM:=by
 have on:∀b,Cm bs b→bkA (mgA co st bs) b=mgB co st (bkA bs b):=fun b hb=>by rw[mgA,Xc (hb.lt hP),if_pos ((hco b).2 hb)]
 have off:∀b,¬Cm bs b→(bkA (mgA co st bs) b).chs=[]∧(bkA (mgA co st bs) b).sts=[]:=fun b hb=>by
  rcases Nat.lt_or_ge b bs.length with h|h
  ·rw[mgA,Xc h,if_neg (fun e=>hb ((hco b).1 e))];exact⟨rfl,rfl⟩
  ·rw[mgA,Y0 h];exact⟨rfl,rfl⟩
 exact⟨fun b hb=>by rw[on b hb];rfl,fun b hb=>by rw[on b hb];rfl,fun b hb=>by rw[on b hb];rfl,fun b hb=>(off b hb).1,fun b hb=>(off b hb).2,NU _ _ _,hco⟩
theorem Ni(hS:Sgl bs)(h:Us bs co st){x b:Nat}{s:Int}(hk:KGv bs (pcM st) psM x b s):rt st x=x:=by
 rcases hk.2 with ⟨_,c,_,h2,rfl⟩|⟨j,_,t,h1,h2,h3⟩
 ·simpa[pcM] using h2
 ·exact UF hS h.ok h1 h3 (by simpa[psM] using h2)
theorem RD(h:Us bs co st){x b:Nat}{s:Int}(hb:Cm bs b)(g:Gv bs x b s)(hx:rt st x=x):KGv bs (pcM st) psM x b s:=by
 refine⟨hb,?_⟩;rcases g with ⟨e,c,hc,rfl⟩|⟨j,e,t,ht,hg⟩
 ·exact .inl ⟨e,c,hc,by simpa[pcM] using hx,rfl⟩
 ·refine .inr ⟨j,e,t,ht,?_,hg⟩
  cases t with
  | cp y a=>
   exfalso;cases hg;exact(h.cp hb ht).2 (by have:=h.ok.fix x;rw[hx]at this;exact this)
  | _=>rfl
theorem GN{A:List ABk} {pc ps}{r b k:Nat}(h:KRd A pc ps r b k):Rea A r b k:=by
 rcases h with ⟨t,h1,_,h2⟩|⟨h1,h2|⟨b2,c,_,h3,_,h4⟩⟩
 ·exact .inl ⟨t,h1,h2⟩
 ·exact .inr ⟨h1,.inl h2⟩
 ·exact .inr ⟨h1,.inr ⟨b2,c,h3,h4⟩⟩
theorem QdJ(hP:POk bs)(hS:Sgl bs)(hco:∀b,co b=true↔Cm bs b)(h:Us bs co st):Sgl (mgA co st bs):=by
 refine(RW hP hco).sgl hS (fun kx ky e=>?_) (fun {r b k} kr hb=>?_)
 ·have:=YP e;rw[Ni hS h kx,Ni hS h ky]at this;exact this
 ·obtain⟨b',s',g,p⟩:=hS.rd (GN kr) hb;rcases h.ok.site g with e|⟨b2,s2,g2,p2⟩
  ·exact⟨r,b',s',RD h (Av.cm hb g p) g e,rfl,p⟩
  ·exact⟨rt st r,b2,s2,RD h (Av.cm hb g2 (p2.trans p)) g2 (h.ok.idem r),QdC (h.ok.idem r),p2.trans p⟩
theorem U9{A A':List ABk}(hl:A'.length=A.length)(hs:suA A'=suA A)(b:Nat):NO A' b=NO A b:=by unfold NO;rw[hl,hs]
theorem GK(hP:POk bs)(hco:∀b,co b=true↔Cm bs b):POk (mgA co st bs):=by
 have T:=RW (st:=st) hP hco;have hl:(mgA co st bs).length=bs.length:=JY _ _ _;have hnm:∀{x},x<5000→nm st x<5000:=fun {x} hx=>by have:=(YE st x).2;omega
 refine⟨by rw[hl];exact hP.pos,fun i k hk=>by rw[T.su]at hk;rw[hl];exact hP.goal i k hk,fun i hi=>?_,fun {b c} hc=>?_,fun {r b s} g=>?_,fun {r b k} hr=>?_⟩
 ·rw[hl]at hi;have:=hP.op i hi;rw[mgA,Xc hi];by_cases hc:co i=true
  ·rw[if_pos hc,show (mgB co st (bkA bs i)).e.op=(bkA bs i).e.op from YJ _ _];exact this
  ·rw[if_neg hc,show (Y8 (bkA bs i)).e.op=(bkA bs i).e.op from YJ _ _];exact this
 ·by_cases hb:Cm bs b
  ·rw[T.chs b hb]at hc;obtain⟨d,hd,rfl⟩:=List.mem_map.1 hc;rw[U9 hl T.su,←hP.src (List.mem_filter.1 hd).1];show ((d.src.map fun p=>(p.1,if co p.1 then nm st p.2 else 0)).map (·.1))=_;rw[List.map_map];rfl
  ·rw[T.chs0 b hb]at hc;simp at hc
 ·obtain⟨x,s0,k,rfl,_⟩:=T.gv g;exact hnm (hP.old k.gv)
 ·by_cases hb:Cm bs b
  ·obtain⟨x,k0,kr,rfl,_⟩:=T.rd hr hb;exact hnm (hP.oldR (GN kr))
  ·rcases hr with ⟨t,ht,_⟩|⟨_,h|⟨b2,c,hc,hs⟩⟩
   ·rw[T.sts0 b hb]at ht;simp at ht
   ·rcases Nat.lt_or_ge b bs.length with h1|h1
    ·rw[mgA,Xc h1,if_neg (fun e=>hb ((hco b).1 e)),show (Y8 (bkA bs b)).e=rnE (fun _=>0) (bkA bs b).e from rfl,N3]at h;obtain⟨x,_,rfl⟩:=List.mem_map.1 h;omega
    ·rw[mgA,Y0 h1]at h;simp[WQ,rdE]at h
   ·by_cases hb2:Cm bs b2
    ·rw[T.chs b2 hb2]at hc;obtain⟨d,hd,rfl⟩:=List.mem_map.1 hc;obtain⟨p,hp,e⟩:=List.mem_map.1 hs;have e1:p.1=b:=congrArg (·.1) e;have e2:(if co p.1 then nm st p.2 else 0)=r:=congrArg (·.2) e;subst e1;rw[if_neg (fun e=>hb ((hco _).1 e))]at e2;omega
    ·rw[T.chs0 b2 hb2]at hc;simp at hc
def Zr(bs:List ABk)(co:Nat→Bool):Prop:=∀b c,c∈(bkA bs b).chs→rnC co (fun x=>x) c=c
theorem Qc8(t:ASt):rnS (fun x=>x) t=t:=by cases t<;>rfl
theorem Qhy(e:AEn):rnE (fun x=>x) e=e:=by unfold rnE;split<;>rfl
theorem QiY(hP:POk bs)(hco:∀b,co b=true↔Cm bs b):Zr (mgA co st bs) co:=fun b c hc=>by
 have T:=RW (st:=st) hP hco;by_cases hb:Cm bs b
 ·rw[T.chs b hb]at hc;obtain⟨d,_,rfl⟩:=List.mem_map.1 hc;unfold rnC;simp only[List.map_map]
  congr 1
  refine List.map_congr_left fun p _=>?_;show (p.1,if co p.1 then (if co p.1 then nm st p.2 else 0) else 0)=_;cases co p.1<;>rfl
 ·rw[T.chs0 b hb]at hc;simp at hc
variable {W:Nat→Bool}
theorem Qg5(hP:POk bs)(hco:∀b,co b=true↔Cm bs b)(hZ:Zr bs co):Tr bs (drA co W bs) co (fun x=>x) (fun c=>W c.to) (JG W):=by
 have on:∀b,Cm bs b→bkA (drA co W bs) b=drB W (bkA bs b):=fun b hb=>by rw[drA,Xc (hb.lt hP),if_pos ((hco b).2 hb)]
 have off:∀b,¬Cm bs b→(bkA (drA co W bs) b).chs=[]∧(bkA (drA co W bs) b).sts=[]:=fun b hb=>by
  rcases Nat.lt_or_ge b bs.length with h|h
  ·rw[drA,Xc h,if_neg (fun e=>hb ((hco b).1 e))];exact⟨rfl,rfl⟩
  ·rw[drA,Y0 h];exact⟨rfl,rfl⟩
 refine⟨fun b hb=>?_,fun b hb=>?_,fun b hb=>by rw[on b hb,Qhy];rfl,fun b hb=>(off b hb).1,fun b hb=>(off b hb).2,NV _ _ _,hco⟩
 ·rw[on b hb];show (bkA bs b).chs.filter _=_;rw[List.map_congr_left (g:=id) fun c hc=>hZ b c (List.mem_filter.1 hc).1,List.map_id]
 ·rw[on b hb];show (bkA bs b).sts.filter _=_;rw[List.map_congr_left (g:=id) fun t _=>Qc8 t,List.map_id]
theorem QaI{t:ASt}{x:Nat}(hg:gvS t=some x)(hx:W x=true):JG W t=true:=by
 cases t with
 | inp y=>rfl
 | out a=>rfl
 | val y n=>cases hg;exact hx
 | cp y n=>cases hg;exact hx
 | op o y a b=>cases hg;exact hx
theorem Qfg(hW:∀r,W r=true↔Wn bs r){b r:Nat}{t:ASt}(hb:Cm bs b)(ht:t∈(bkA bs b).sts)(hs:JG W t=true)(hr:r∈rdS t):W r=true:=by
 rw[hW]
 cases t with
 | inp y=>simp[rdS]at hr
 | out a=>have:r=a:=(by simpa[rdS] using hr);subst this;exact .out hb ht
 | val y n=>exact .st hb ht rfl ((hW _).1 hs) hr
 | cp y n=>exact .st hb ht rfl ((hW _).1 hs) hr
 | op o y a b2=>exact .st hb ht rfl ((hW _).1 hs) hr
theorem Qi2(hW:∀r,W r=true↔Wn bs r){r b k:Nat}(h:KRd bs (fun c=>W c.to) (JG W) r b k)(hb:Cm bs b):W r=true:=by
 rcases h with ⟨t,h1,h2,h3⟩|⟨_,h2|⟨b2,c,hb2,h3,h4,h5⟩⟩
 ·exact Qfg hW hb (List.mem_of_getElem? h1) h2 h3
 ·exact(hW r).2 (.fin hb h2)
 ·exact(hW r).2 (.ch hb2 h3 ((hW _).1 h4) h5 hb)
theorem Qim(hP:POk bs)(hS:Sgl bs)(hco:∀b,co b=true↔Cm bs b)(hZ:Zr bs co)(hW:∀r,W r=true↔Wn bs r):Sgl (drA co W bs):=by
 refine(Qg5 hP hco hZ).sgl hS (fun _ _ e=>e) (fun {r b k} kr hb=>?_);obtain⟨b',s',g,p⟩:=hS.rd (GN kr) hb;have hw:=Qi2 hW kr hb;refine⟨r,b',s',⟨Av.cm hb g p,?_⟩,rfl,p⟩;rcases g with ⟨e,c,hc,rfl⟩|⟨j,e,t,ht,hg⟩
 ·exact .inl ⟨e,c,hc,hw,rfl⟩
 ·exact .inr ⟨j,e,t,ht,QaI hg hw,hg⟩
theorem Qin(hP:POk bs)(hco:∀b,co b=true↔Cm bs b)(hZ:Zr bs co):POk (drA co W bs):=by
 have T:=Qg5 (W:=W) hP hco hZ;have hl:(drA co W bs).length=bs.length:=JY _ _ _;refine⟨by rw[hl];exact hP.pos,fun i k hk=>by rw[T.su]at hk;rw[hl];exact hP.goal i k hk,fun i hi=>?_,fun {b c} hc=>?_,fun {r b s} g=>?_,fun {r b k} hr=>?_⟩
 ·rw[hl]at hi;have:=hP.op i hi;rw[drA,Xc hi];by_cases hc:co i=true
  ·rw[if_pos hc];exact this
  ·rw[if_neg hc,show (Y8 (bkA bs i)).e.op=(bkA bs i).e.op from YJ _ _];exact this
 ·by_cases hb:Cm bs b
  ·rw[drA,Xc (hb.lt hP),if_pos ((hco b).2 hb)]at hc;rw[U9 hl T.su];exact hP.src (List.mem_filter.1 hc).1
  ·rw[T.chs0 b hb]at hc;simp at hc
 ·obtain⟨x,s0,k,rfl,_⟩:=T.gv g;exact hP.old k.gv
 ·by_cases hb:Cm bs b
  ·obtain⟨x,k0,kr,rfl,_⟩:=T.rd hr hb;exact hP.oldR (GN kr)
  ·rcases hr with ⟨t,ht,_⟩|⟨_,h|⟨b2,c,hc,hs⟩⟩
   ·rw[T.sts0 b hb]at ht;simp at ht
   ·rcases Nat.lt_or_ge b bs.length with h1|h1
    ·rw[drA,Xc h1,if_neg (fun e=>hb ((hco b).1 e)),show (Y8 (bkA bs b)).e=rnE (fun _=>0) (bkA bs b).e from rfl,N3]at h;obtain⟨x,_,rfl⟩:=List.mem_map.1 h;omega
    ·rw[drA,Y0 h1]at h;simp[WQ,rdE]at h
   ·by_cases hb2:Cm bs b2
    ·rw[drA,Xc (hb2.lt hP),if_pos ((hco b2).2 hb2)]at hc;exact hP.oldR (.inr ⟨rfl,.inr ⟨b2,c,(List.mem_filter.1 hc).1,hs⟩⟩:Rea bs r b _)
    ·rw[T.chs0 b2 hb2]at hc;simp at hc
theorem Qbk(hP:POk bs)(hco:∀b,co b=true↔Cm bs b)(hW:∀r,W r=true↔Wn bs r){r:Nat}(h:Wn bs r):Wn (drA co W bs) r:=by
 have on:∀{b},Cm bs b→bkA (drA co W bs) b=drB W (bkA bs b):=fun {b} hb=>by rw[drA,Xc (hb.lt hP),if_pos ((hco b).2 hb)]
 have cm:∀{b},Cm bs b→Cm (drA co W bs) b:=fun {b} hb=>by unfold Cm;rw[NV];exact hb
 induction h with
 | out hb ht=>exact .out (cm hb) (by rw[on hb];exact List.mem_filter.2 ⟨ht,rfl⟩)
 | fin hb hr=>exact .fin (cm hb) (by rw[on hb];exact hr)
 | st hb ht hg hx hr ih=>exact .st (cm hb) (by rw[on hb];exact List.mem_filter.2 ⟨ht,QaI hg ((hW _).2 hx)⟩) hg ih hr
 | ch hb hc hx hp hp2 ih=>exact .ch (cm hb) (by rw[on hb];exact List.mem_filter.2 ⟨hc,(hW _).2 hx⟩) ih hp (cm hp2)
structure Ln(bs:List ABk):Prop where
 ch:∀{b c},Cm bs b→c∈(bkA bs b).chs→Wn bs c.to
 ch2:∀{b c},Cm bs b→c∈(bkA bs b).chs→b≠0→∃p∈c.src,∃q∈c.src,Cm bs p.1∧Cm bs q.1∧p.2≠c.to∧q.2≠c.to∧p.2≠q.2
 st:∀{b t},Cm bs b→t∈(bkA bs b).sts→WX t=false
 st2:∀{b t x},Cm bs b→t∈(bkA bs b).sts→gvS t=some x→(∃y,t=.inp y)∨Wn bs x
theorem Qgd(hP:POk bs)(hS:Sgl bs)(hco:∀b,co b=true↔Cm bs b)(h:Us bs co st)(hW:∀r,W r=true↔Wn (mgA co st bs) r):Ln (drA co W (mgA co st bs)):=by
 have hP2:=GK (st:=st) hP hco;have T:=RW (st:=st) hP hco;have hco2:∀b,co b=true↔Cm (mgA co st bs) b:=fun b=>(hco b).trans (T.cm b).symm;have cm:∀b,Cm (drA co W (mgA co st bs)) b↔Cm bs b:=fun b=>by unfold Cm;rw[NV,NU]
 have on:∀{b},Cm bs b→bkA (drA co W (mgA co st bs)) b=drB W (bkA (mgA co st bs) b):=fun {b} hb=>by
  rw[drA,Xc (((T.cm b).2 hb).lt hP2),if_pos ((hco b).2 hb)]
 refine⟨fun {b c} hb hc=>?_,fun {b c} hb hc h0=>?_,fun {b t} hb ht=>?_,fun {b t x} hb ht hg=>?_⟩
 ·have hb:=(cm b).1 hb;rw[on hb]at hc;exact Qbk hP2 hco2 hW ((hW _).1 (List.mem_filter.1 hc).2)
 ·have hb:=(cm b).1 hb;rw[on hb]at hc;have hc:=(List.mem_filter.1 hc).1;rw[T.chs b hb]at hc;obtain⟨d,hd,rfl⟩:=List.mem_map.1 hc;obtain⟨d1,d2⟩:=List.mem_filter.1 hd;have hroot:rt st d.to=d.to:=by simpa[pcM] using d2
  have hst:st d.to=d.to:=by have:=h.ok.fix d.to;rw[hroot]at this;exact this
  have key:∀{p:Nat×Nat},p∈d.src→co p.1=true→(p.1,nm st p.2)∈(rnC co (nm st) d).src:=fun {p} hp hc=>List.mem_map.2 ⟨p,hp,by rw[if_pos hc]⟩;rcases WN (h.ch hb h0 d1 hst) with h1|⟨q,hq,p,hp,c1,c2,n1,n2,n3⟩
  ·obtain⟨p,hp,hcp,hne⟩:=NG hP hS h.ok hb h0 d1;exact absurd (h1 p hp ((hco _).2 hcp)) hne
  ·refine⟨_,key hp c2,_,key hq c1,(cm _).2 ((hco _).1 c2),(cm _).2 ((hco _).1 c1),fun e=>?_,fun e=>?_,fun e=>n3 (YP e)⟩
   ·exact n2 ((YP (show nm st p.2=nm st d.to from e)).trans hroot)
   ·exact n1 ((YP (show nm st q.2=nm st d.to from e)).trans hroot)
 ·have hb:=(cm b).1 hb;rw[on hb]at ht;have ht:=(List.mem_filter.1 ht).1;rw[T.sts b hb]at ht;obtain⟨u,hu,rfl⟩:=List.mem_map.1 ht;have:=(List.mem_filter.1 hu).2;cases u<;>first | rfl | (simp[psM,WX]at this)
 ·have hb:=(cm b).1 hb;rw[on hb]at ht;have hs:=(List.mem_filter.1 ht).2
  cases t with
  | inp y=>exact .inl ⟨y,rfl⟩
  | out a=>cases hg
  | val y n=>cases hg;exact .inr (Qbk hP2 hco2 hW ((hW _).1 hs))
  | cp y n=>cases hg;exact .inr (Qbk hP2 hco2 hW ((hW _).1 hs))
  | op o y a b2=>cases hg;exact .inr (Qbk hP2 hco2 hW ((hW _).1 hs))
theorem Qce(hP:POk bs)(hS:Sgl bs)(hco:∀b,co b=true↔Cm bs b)(h:Us bs co st)(hW:∀r,W r=true↔Wn (mgA co st bs) r)(V:List Int)(f:Nat):playA bs V f=playA (drA co W (mgA co st bs)) V f:=by
 have hP2:=GK (st:=st) hP hco;have hco2:∀b,co b=true↔Cm (mgA co st bs) b:=fun b=>(hco b).trans ((RW (st:=st) hP hco).cm b).symm;rw[Qf4 hP hS hco h];exact Qg6 hP2 hco2 hW f 0 (-1) _ _ (.zero rfl) (.inl ⟨rfl,rfl,fun _ _=>rfl,rfl,rfl⟩)
end
end Go.Proofs.YtgfhfkgdmidhpaaGreatDoor
namespace Go.Proofs.YtgfhfkgdmidhpaaGreatDoor
open Go.Shelf
set_option maxRecDepth 100000
set_option maxHeartbeats 8000000
def Tryz.lays156_ren:Go.Shelf.Ren:=⟨fun|156=>47|165=>84|166=>85|169=>86|240=>141|241=>142|276=>189|277=>190|n=>n,fun|31=>98|9=>9|3=>3|4=>4|0=>0|20=>20|72=>182|76=>186|70=>179|37=>180|75=>185|127=>253|164=>300|5=>5|80=>42|n=>n,fun|n=>n⟩
theorem Tryz.lays156:Go.Proofs.Lays.n156 Tryz.prog Tryz.lays156_ren:={
 mixed:=by kernel_rfl
 f156:=Tryz.func47.trans (congrArg some (by kernel_rfl))
 f165:=Tryz.func84.trans (congrArg some (by kernel_rfl))
 f166:=Tryz.func85.trans (congrArg some (by kernel_rfl))
 f169:=Tryz.func86.trans (congrArg some (by kernel_rfl))
 f240:=Tryz.func141.trans (congrArg some (by kernel_rfl))
 f241:=Tryz.func142.trans (congrArg some (by kernel_rfl))
 f276:=Tryz.func189.trans (congrArg some (by kernel_rfl))
 f277:=Tryz.func190.trans (congrArg some (by kernel_rfl))
 t0:=Tryz.underlying0
 a0:=Tryz.isAgg0
 z0:=Tryz.sizeOf0
 v0:=Tryz.zeroValue0
 t3:=Tryz.underlying3
 a3:=Tryz.isAgg3
 z3:=Tryz.sizeOf3
 v3:=Tryz.zeroValue3
 t4:=Tryz.underlying4
 a4:=Tryz.isAgg4
 z4:=Tryz.sizeOf4
 v4:=Tryz.zeroValue4
 t9:=Tryz.underlying9
 a9:=Tryz.isAgg9
 z9:=Tryz.sizeOf9
 v9:=Tryz.zeroValue9
 t20:=Tryz.underlying20
 a20:=Tryz.isAgg20
 z20:=Tryz.sizeOf20
 v20:=Tryz.zeroValue20
 t31:=Tryz.underlying98
 a31:=Tryz.isAgg98
 z31:=Tryz.sizeOf98
 v31:=Tryz.zeroValue98
 t37:=Tryz.underlying180
 a37:=Tryz.isAgg180
 z37:=Tryz.sizeOf180
 v37:=Tryz.zeroValue180
 t70:=Tryz.underlying179
 a70:=Tryz.isAgg179
 z70:=Tryz.sizeOf179
 v70:=Tryz.zeroValue179
 t72:=Tryz.underlying182
 a72:=Tryz.isAgg182
 z72:=Tryz.sizeOf182
 v72:=Tryz.zeroValue182
 t75:=Tryz.underlying185
 a75:=Tryz.isAgg185
 z75:=Tryz.sizeOf185
 v75:=Tryz.zeroValue185
 t76:=Tryz.underlying186
 a76:=Tryz.isAgg186
 z76:=Tryz.sizeOf186
 v76:=Tryz.zeroValue186
 t127:=Tryz.underlying253
 a127:=Tryz.isAgg253
 z127:=Tryz.sizeOf253
 v127:=Tryz.zeroValue253
 t164:=Tryz.underlying300
 a164:=Tryz.isAgg300
 z164:=Tryz.sizeOf300
 v164:=Tryz.zeroValue300 }
theorem Tryz.Builder_Extra_156:Builder.Extra Tryz.prog Tryz.lays156_ren:={
 sizeBuilder:=by kernel_rfl
 liesBuilder:=by kernel_rfl
 t5:=Tryz.underlying5
 a5:=Tryz.isAgg5
 z5:=Tryz.sizeOf5
 v5:=Tryz.zeroValue5
 infoByte:=by kernel_rfl
 cellsByte:=by kernel_rfl
 sizeByte:=by kernel_rfl
 neB5:=by decide }
open Go.RowKit in
theorem Tryz.strings_Join_none(a:Option Addr)(c:Nat)(sep:ByteArray)(w:World):
  Calls Tryz.prog 47 #[.slice a 0 c,.string sep] w fun e w'=>e=.returned (.string ⟨#[]⟩)∧w'=w:=Any.strings_Join_none Tryz.lays156 Tryz.Builder_Extra_156 a c sep w
open Go.RowKit in
theorem Tryz.strings_Join(bk o c:Nat)(xs:List ByteArray)(sep:ByteArray)(w:World)(hcells:∀(j:Nat) x,xs[j]?=some x→w.cell? ⟨bk,o+j,none⟩=some (.string x))(hbk:bk<w.heap.size)(hN:xs.length≤140737488355328)(hcap:xs.length≤c)(hlen:(Lib.join (xs.map (·.data.toList)) sep.data.toList).length≤140737488355328):
  Calls Tryz.prog 47 #[.slice (some ⟨bk,o,none⟩) xs.length c,.string sep] w fun e w'=>e=.returned (.string ⟨(Lib.join (xs.map (·.data.toList)) sep.data.toList).toArray⟩)∧Below w.heap.size w w':=Any.strings_Join Tryz.lays156 Tryz.Builder_Extra_156 bk o c xs sep w hcells hbk hN hcap hlen
def Tryz.laysM171_ren:Go.Shelf.Ren:=⟨fun|171=>188|243=>215|246=>242|283=>254|284=>255|285=>256|286=>257|129=>232|317=>261|318=>262|319=>263|320=>264|337=>267|338=>268|n=>n,fun|3=>3|9=>9|2=>2|4=>4|171=>363|0=>0|53=>345|37=>180|5=>5|173=>365|212=>375|51=>343|20=>20|213=>376|46=>286|232=>380|233=>381|n=>n,fun|17=>1|18=>2|19=>3|n=>n⟩
theorem Tryz.laysM171:Go.Proofs.LaysM.n171 Tryz.prog Tryz.laysM171_ren:={
 mixed:=by kernel_rfl
 f129:=Tryz.func232.trans (congrArg some (by kernel_rfl))
 f171:=Tryz.func188.trans (congrArg some (by kernel_rfl))
 f243:=Tryz.func215.trans (congrArg some (by kernel_rfl))
 f246:=Tryz.func242.trans (congrArg some (by kernel_rfl))
 f283:=Tryz.func254.trans (congrArg some (by kernel_rfl))
 f284:=Tryz.func255.trans (congrArg some (by kernel_rfl))
 f285:=Tryz.func256.trans (congrArg some (by kernel_rfl))
 f286:=Tryz.func257.trans (congrArg some (by kernel_rfl))
 f317:=Tryz.func261.trans (congrArg some (by kernel_rfl))
 f318:=Tryz.func262.trans (congrArg some (by kernel_rfl))
 f319:=Tryz.func263.trans (congrArg some (by kernel_rfl))
 f320:=Tryz.func264.trans (congrArg some (by kernel_rfl))
 f337:=Tryz.func267.trans (congrArg some (by kernel_rfl))
 f338:=Tryz.func268.trans (congrArg some (by kernel_rfl))
 t0:=Tryz.underlying0
 a0:=Tryz.isAgg0
 z0:=Tryz.sizeOf0
 v0:=Tryz.zeroValue0
 t2:=Tryz.underlying2
 a2:=Tryz.isAgg2
 z2:=Tryz.sizeOf2
 v2:=Tryz.zeroValue2
 t3:=Tryz.underlying3
 a3:=Tryz.isAgg3
 z3:=Tryz.sizeOf3
 v3:=Tryz.zeroValue3
 t4:=Tryz.underlying4
 a4:=Tryz.isAgg4
 z4:=Tryz.sizeOf4
 v4:=Tryz.zeroValue4
 t5:=Tryz.underlying5
 a5:=Tryz.isAgg5
 z5:=Tryz.sizeOf5
 v5:=Tryz.zeroValue5
 t9:=Tryz.underlying9
 a9:=Tryz.isAgg9
 z9:=Tryz.sizeOf9
 v9:=Tryz.zeroValue9
 t20:=Tryz.underlying20
 a20:=Tryz.isAgg20
 z20:=Tryz.sizeOf20
 v20:=Tryz.zeroValue20
 t37:=Tryz.underlying180
 a37:=Tryz.isAgg180
 z37:=Tryz.sizeOf180
 v37:=Tryz.zeroValue180
 t46:=Tryz.underlying286
 a46:=Tryz.isAgg286
 z46:=Tryz.sizeOf286
 v46:=Tryz.zeroValue286
 t51:=Tryz.underlying343
 a51:=Tryz.isAgg343
 z51:=Tryz.sizeOf343
 v51:=Tryz.zeroValue343
 t53:=Tryz.underlying345
 a53:=Tryz.isAgg345
 z53:=Tryz.sizeOf345
 v53:=Tryz.zeroValue345
 t171:=Tryz.underlying363
 a171:=Tryz.isAgg363
 z171:=Tryz.sizeOf363
 v171:=Tryz.zeroValue363
 t173:=Tryz.underlying365
 a173:=Tryz.isAgg365
 z173:=Tryz.sizeOf365
 v173:=Tryz.zeroValue365
 t212:=Tryz.underlying375
 a212:=Tryz.isAgg375
 z212:=Tryz.sizeOf375
 v212:=Tryz.zeroValue375
 t213:=Tryz.underlying376
 a213:=Tryz.isAgg376
 z213:=Tryz.sizeOf376
 t232:=Tryz.underlying380
 a232:=Tryz.isAgg380
 z232:=Tryz.sizeOf380
 v232:=Tryz.zeroValue380
 t233:=Tryz.underlying381
 a233:=Tryz.isAgg381
 z233:=Tryz.sizeOf381
 v233:=Tryz.zeroValue381
 g17:=by kernel_rfl
 g18:=by kernel_rfl
 g19:=by kernel_rfl
 i0:=by kernel_rfl
 i2:=by kernel_rfl
 i3:=by kernel_rfl
 i4:=by kernel_rfl
 i5:=by kernel_rfl
 i9:=by kernel_rfl
 i20:=by kernel_rfl
 i37:=by kernel_rfl
 i46:=by kernel_rfl
 i51:=by kernel_rfl
 i53:=by kernel_rfl
 i171:=by kernel_rfl
 i173:=by kernel_rfl
 i212:=by kernel_rfl
 i232:=by kernel_rfl
 i233:=by kernel_rfl
 m17:=by kernel_rfl
 m18:=by kernel_rfl
 m19:=by kernel_rfl }
open Go.RowKit Go.Sort Go.Lib in
theorem Tryz.strconv_Itoa(n:Int)(h0:-9223372036854775808≤n)(h1:n≤9223372036854775807)(w:World)(htab:Lib.TabIs Tryz.prog w "internal/strconv.uint64pow10" .u64 Lib.pow10Tab):
  Calls Tryz.prog 188 #[.int .i64 n] w fun e w'=>e=.returned (.string ⟨(Lib.itoa n).toArray⟩)∧∃k os,w'=grow (w.drewN k) os:=Any.strconv_Itoa Tryz.laysM171 n h0 h1 w htab
def Tryz.laysM173_ren:Go.Shelf.Ren:=⟨fun|173=>299|246=>242|283=>254|284=>255|285=>256|286=>257|129=>232|317=>261|318=>262|319=>263|320=>264|337=>267|338=>268|n=>n,fun|2=>2|3=>3|9=>9|4=>4|171=>363|0=>0|53=>345|37=>180|5=>5|173=>365|212=>375|51=>343|20=>20|213=>376|46=>286|232=>380|233=>381|n=>n,fun|17=>1|18=>2|19=>3|n=>n⟩
theorem Tryz.laysM173:Go.Proofs.LaysM.n173 Tryz.prog Tryz.laysM173_ren:={
 mixed:=by kernel_rfl
 f129:=Tryz.func232.trans (congrArg some (by kernel_rfl))
 f173:=Tryz.func299.trans (congrArg some (by kernel_rfl))
 f246:=Tryz.func242.trans (congrArg some (by kernel_rfl))
 f283:=Tryz.func254.trans (congrArg some (by kernel_rfl))
 f284:=Tryz.func255.trans (congrArg some (by kernel_rfl))
 f285:=Tryz.func256.trans (congrArg some (by kernel_rfl))
 f286:=Tryz.func257.trans (congrArg some (by kernel_rfl))
 f317:=Tryz.func261.trans (congrArg some (by kernel_rfl))
 f318:=Tryz.func262.trans (congrArg some (by kernel_rfl))
 f319:=Tryz.func263.trans (congrArg some (by kernel_rfl))
 f320:=Tryz.func264.trans (congrArg some (by kernel_rfl))
 f337:=Tryz.func267.trans (congrArg some (by kernel_rfl))
 f338:=Tryz.func268.trans (congrArg some (by kernel_rfl))
 t0:=Tryz.underlying0
 a0:=Tryz.isAgg0
 z0:=Tryz.sizeOf0
 v0:=Tryz.zeroValue0
 t2:=Tryz.underlying2
 a2:=Tryz.isAgg2
 z2:=Tryz.sizeOf2
 v2:=Tryz.zeroValue2
 t3:=Tryz.underlying3
 a3:=Tryz.isAgg3
 z3:=Tryz.sizeOf3
 v3:=Tryz.zeroValue3
 t4:=Tryz.underlying4
 a4:=Tryz.isAgg4
 z4:=Tryz.sizeOf4
 v4:=Tryz.zeroValue4
 t5:=Tryz.underlying5
 a5:=Tryz.isAgg5
 z5:=Tryz.sizeOf5
 v5:=Tryz.zeroValue5
 t9:=Tryz.underlying9
 a9:=Tryz.isAgg9
 z9:=Tryz.sizeOf9
 v9:=Tryz.zeroValue9
 t20:=Tryz.underlying20
 a20:=Tryz.isAgg20
 z20:=Tryz.sizeOf20
 v20:=Tryz.zeroValue20
 t37:=Tryz.underlying180
 a37:=Tryz.isAgg180
 z37:=Tryz.sizeOf180
 v37:=Tryz.zeroValue180
 t46:=Tryz.underlying286
 a46:=Tryz.isAgg286
 z46:=Tryz.sizeOf286
 v46:=Tryz.zeroValue286
 t51:=Tryz.underlying343
 a51:=Tryz.isAgg343
 z51:=Tryz.sizeOf343
 v51:=Tryz.zeroValue343
 t53:=Tryz.underlying345
 a53:=Tryz.isAgg345
 z53:=Tryz.sizeOf345
 v53:=Tryz.zeroValue345
 t171:=Tryz.underlying363
 a171:=Tryz.isAgg363
 z171:=Tryz.sizeOf363
 v171:=Tryz.zeroValue363
 t173:=Tryz.underlying365
 a173:=Tryz.isAgg365
 z173:=Tryz.sizeOf365
 v173:=Tryz.zeroValue365
 t212:=Tryz.underlying375
 a212:=Tryz.isAgg375
 z212:=Tryz.sizeOf375
 v212:=Tryz.zeroValue375
 t213:=Tryz.underlying376
 a213:=Tryz.isAgg376
 z213:=Tryz.sizeOf376
 t232:=Tryz.underlying380
 a232:=Tryz.isAgg380
 z232:=Tryz.sizeOf380
 v232:=Tryz.zeroValue380
 t233:=Tryz.underlying381
 a233:=Tryz.isAgg381
 z233:=Tryz.sizeOf381
 v233:=Tryz.zeroValue381
 g17:=by kernel_rfl
 g18:=by kernel_rfl
 g19:=by kernel_rfl
 i0:=by kernel_rfl
 i2:=by kernel_rfl
 i3:=by kernel_rfl
 i4:=by kernel_rfl
 i5:=by kernel_rfl
 i9:=by kernel_rfl
 i20:=by kernel_rfl
 i37:=by kernel_rfl
 i46:=by kernel_rfl
 i51:=by kernel_rfl
 i53:=by kernel_rfl
 i171:=by kernel_rfl
 i173:=by kernel_rfl
 i212:=by kernel_rfl
 i232:=by kernel_rfl
 i233:=by kernel_rfl
 m17:=by kernel_rfl
 m18:=by kernel_rfl
 m19:=by kernel_rfl }
open Go.RowKit Go.Sort Go.Lib in
theorem Tryz.strconv_FormatInt_10(n:Int)(h0:-9223372036854775808≤n)(h1:n≤9223372036854775807)(w:World)(htab:Lib.TabIs Tryz.prog w "internal/strconv.uint64pow10" .u64 Lib.pow10Tab):
  Calls Tryz.prog 299 #[.int .i64 n,.int .i64 10] w fun e w'=>e=.returned (.string ⟨(Lib.itoa n).toArray⟩)∧∃k os,w'=grow (w.drewN k) os:=Any.strconv_FormatInt_10 Tryz.laysM173 n h0 h1 w htab
end Go.Proofs.YtgfhfkgdmidhpaaGreatDoor
