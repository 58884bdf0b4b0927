import Derived.Test.YtgfhfkgdmidhpaaGreatDoorM20
import Derived.Lib.Join
namespace Go.Proofs.YtgfhfkgdmidhpaaGreatDoor
open Go.RowKit
open Go.Proofs.Tryz
set_option maxRecDepth 100000
set_option maxHeartbeats 8000000
def spT(p:Nat×Nat):List UInt8:=Lib.decDigits p.1++58::rgT p.2
def srT:List (Nat×Nat)→List UInt8
 | []=>[]
 | p::ps=>spT p++(match ps with | []=>[] | _=>44::srT ps)
theorem Kb(p:Nat×Nat):srT [p]=spT p:=by simp[srT]
theorem XP(p q:Nat×Nat)(ps:List (Nat×Nat)):srT (p::q::ps)=spT p++44::srT (q::ps):=rfl
def chT(c:ACh):List UInt8:=rgT c.to++64::srT c.src
def OkP(p:Nat×Nat):Prop:=p.1<10000∧p.2<10000
def OkC(c:ACh):Prop:=c.to<10000∧0<c.src.length∧∀p∈c.src,OkP p
structure Qk5(r:Cho)(gs rs:List Nat)(i:Nat):Prop where
 gs:r.gs.map (·.1)=gs
 rs:r.rs.map (·.1)=rs
 i:r.i=i
 bad:r.bad=-1
theorem Qcl{s:ByteArray}{c:Cho}{p:Nat×Nat}(hp:OkP p)(hb:c.bad=-1)(h:At s c.i (spT p))(hN:Nd s (c.i+(spT p).length)):
  Qk5 (choR s c) (c.gs.map (·.1)++[p.1]) (c.rs.map (·.1)++[p.2]) (c.i+(spT p).length):=by
 obtain⟨hA,hB⟩:=Xx.1 h;obtain⟨n1,n2,n3⟩:=Wa hp.1 hA (Yw hB (by decide));have g1:gotI s (c.i+(Lib.decDigits p.1).length) (-1) 58=_:=Yz (c:=58) hB;have m1:mustB s (c.i+(Lib.decDigits p.1).length) (-1) 58=_:=KX (c:=58) hB;have el:c.i+(spT p).length=c.i+(Lib.decDigits p.1).length+1+(rgT p.2).length:=by
  unfold spT;rw[Qw,QO];omega
 rw[el]at hN ⊢;obtain⟨r1,r2,r3⟩:=Yo hp.2 hB.2.2 hN;unfold choR;dsimp only;rw[hb,n2,n3,g1,m1];refine⟨?_,?_,r2,r3⟩
 ·show (c.gs++[(numN s c.i (-1),c.i)]).map (·.1)=_;rw[List.map_append,n1];rfl
 ·dsimp only;rw[List.map_append,r1];rfl
theorem Qao{s:ByteArray}:∀(ps:List (Nat×Nat))(k:Nat)(c:Cho),(∀p∈ps,OkP p)→0<ps.length→ps.length≤k→c.bad=-1→∀l,At s c.i (srT ps++59::l) →
  Qk5 (ZO s k c) (c.gs.map (·.1)++ps.map (·.1)) (c.rs.map (·.1)++ps.map (·.2)) (c.i+(srT ps).length)
 | [],k,c,_,h0,_,_,_,_=>absurd h0 (by simp)
 | [p],k,c,hp,_,hk,hb,l,h=>by
  obtain⟨k,rfl⟩:∃j,k=j+1:=⟨k-1,by simp at hk;omega⟩;rw[Kb]at h ⊢;obtain⟨hA,hB⟩:=Xx.1 h;have r:=Qcl (hp p (List.mem_cons_self ..)) hb hA (Yw hB (by decide));have no:onF s (choR s c).i (choR s c).bad 44=false:=by rw[r.i,r.bad];exact ZR hB (by decide)
  have gi:gotI s (choR s c).i (choR s c).bad 44=(choR s c).i:=by rw[gotI,no];rfl
  rw[ZO,no,if_neg (by simp),gi];exact⟨r.gs,r.rs,r.i,r.bad⟩
 | p::q::ps,k,c,hp,_,hk,hb,l,h=>by
  obtain⟨k,rfl⟩:∃j,k=j+1:=⟨k-1,by simp at hk;omega⟩;rw[XP,List.append_assoc,List.cons_append]at h;obtain⟨hA,hB⟩:=Xx.1 h;have r:=Qcl (hp p (List.mem_cons_self ..)) hb hA (Yw hB (by decide));have on:onF s (choR s c).i (choR s c).bad 44=true:=by rw[r.i,r.bad];exact KE (c:=44) hB
  have gi:gotI s (choR s c).i (choR s c).bad 44=c.i+(spT p).length+1:=by rw[gotI,on,if_pos rfl,r.i]
  rw[ZO,on,if_pos rfl,gi];have ih:=Qao (q::ps) k ⟨(choR s c).gs,(choR s c).rs,c.i+(spT p).length+1,(choR s c).bad⟩ (fun x hx=>hp x (List.mem_cons_of_mem _ hx)) (by simp) (by simp at hk ⊢;omega) r.bad l hB.2.2;refine⟨?_,?_,?_,ih.bad⟩
  ·rw[ih.gs,r.gs,List.append_assoc];rfl
  ·rw[ih.rs,r.rs,List.append_assoc];rfl
  ·rw[ih.i,XP,Qw,QO];show c.i+(spT p).length+1+(srT (q::ps)).length=_;omega
theorem QdI(l:List (Nat×Nat)):(l.map (·.1)).zip (l.map (·.2))=l:=by
 induction l with
 | nil=>rfl
 | cons x l ih=>rw[List.map_cons,List.map_cons,List.zip_cons_cons,ih]
theorem QgD(ps:List (Nat×Nat)):ps.length≤(srT ps).length+1:=by
 induction ps with
 | nil=>simp
 | cons p ps ih=>
  cases ps with
  | nil=>simp
  | cons q ps=>simp only[XP,List.length_append,List.length_cons]at ih ⊢;omega
def KK(l:List ACh):List UInt8:=l.flatMap fun c=>chT c++[59]
theorem JO(c:ACh)(l:List ACh):KK (c::l)=chT c++59::KK l:=by simp[KK]
def bcT(b:ABk):List UInt8:=KK b.chs++(XZ b.sts++enT b.e)
structure Qk7(r:Blk)(b:ABk)(i:Nat):Prop where
 chs:r.b.chs.map Zn=b.chs
 sts:r.b.sts.map QK=b.sts
 e:ZT r.b.e=b.e
 i:r.i=i
 bad:r.bad=-1
theorem RZ{s:ByteArray}{i0:Nat}{e:AEn}(he:OkE e):∀(sts:List ASt)(k i:Nat)(cacc:List Q0)(acc:List Qz),(∀t∈sts,OkS t)→sts.length<k→At s i (XZ sts++enT e)→Nd s (i+(XZ sts++enT e).length) →
  (QP s i0 k cacc acc i (-1)).b.chs=cacc∧Qk6 ⟨⟨[],(QP s i0 k cacc acc i (-1)).b.sts,(QP s i0 k cacc acc i (-1)).b.e,0⟩,(QP s i0 k cacc acc i (-1)).i,(QP s i0 k cacc acc i (-1)).bad⟩ (acc.map QK++sts) e (i+(XZ sts++enT e).length)
 | [],k,i,cacc,acc,_,hk,h,hN=>by
  obtain⟨k,rfl⟩:∃j,k=j+1:=⟨k-1,by simp at hk;omega⟩;have h:At s i (enT e):=h;have hN:Nd s (i+(enT e).length):=hN;show _∧Qk6 _ (acc.map QK++[]) e (i+(enT e).length);rw[List.append_nil];obtain⟨op,a,one,two⟩:=e;rcases he with ⟨h1,h2,h3,h4⟩|⟨h1,h2,h3,h4⟩|⟨h1,h2,h3,h4⟩
  ·have h1:op=46:=h1;have h2:a=0:=h2;have h3:one=0:=h3;have h4:two=0:=h4;subst h1 h2 h3 h4;have on:onF s i (-1) 46=true:=KE (c:=46) (l:=[]) h;rw[QP,if_pos (by omega),if_pos on];exact⟨rfl,⟨rfl,rfl,rfl,rfl,rfl⟩⟩
  ·have h1:op=62:=h1;have h2:a=0:=h2;have h4:two=0:=h4;subst h1 h2 h4;have h:At s i (62::Lib.decDigits one):=h;have n0:onF s i (-1) 46=false:=ZR h (by decide);have on:onF s i (-1) 62=true:=KE (c:=62) h;have e2:i+(enT ⟨62,0,one,0⟩).length=i+1+(Lib.decDigits one).length:=by
    show i+(62::Lib.decDigits one).length=_;rw[QO];omega
   rw[e2]at hN ⊢;obtain⟨q1,q2,q3⟩:=Wa h3 h.2.2 hN;rw[QP,if_pos (by omega),if_neg (by rw[n0];simp),if_pos on];exact⟨rfl,⟨rfl,rfl,by show AEn.mk _ _ _ _=_;rw[show (numN s (i+1) (-1),i+1).1=one from q1],q2,q3⟩⟩
  ·have h1:op=63:=h1;subst h1;have h:At s i (rgT a++63::(Lib.decDigits one++58::Lib.decDigits two)):=h;have n0:onF s i (-1) 46=false:=JY h (by decide);have n1:onF s i (-1) 62=false:=JY h (by decide);have n2:onF s i (-1) 33=false:=JY h (by decide);obtain⟨hA,hB⟩:=Xx.1 h;obtain⟨r1,r2,r3⟩:=Yo h2 hA (Yw hB (by decide));have n3:onF s (i+(rgT a).length) (-1) 61=false:=ZR hB (by decide);have n4:onF s (i+(rgT a).length) (-1) 64=false:=ZR hB (by decide);have g1:gotI s (i+(rgT a).length) (-1) 63=_:=Yz (c:=63) hB;have m1:mustB s (i+(rgT a).length) (-1) 63=_:=KX (c:=63) hB;obtain⟨hC,hD⟩:=Xx.1 hB.2.2;obtain⟨p1,p2,p3⟩:=Wa h3 hC (Yw hD (by decide));have g2:gotI s (i+(rgT a).length+1+(Lib.decDigits one).length) (-1) 58=_:=Yz (c:=58) hD;have m2:mustB s (i+(rgT a).length+1+(Lib.decDigits one).length) (-1) 58=_:=KX (c:=58) hD;have e2:i+(enT ⟨63,a,one,two⟩).length=i+(rgT a).length+1+(Lib.decDigits one).length+1+(Lib.decDigits two).length:=by
    show i+(rgT a++63::(Lib.decDigits one++58::Lib.decDigits two)).length=_;simp only[List.length_append,List.length_cons];omega
   rw[e2]at hN ⊢;obtain⟨q1,q2,q3⟩:=Wa h4 hD.2.2 hN;rw[QP,if_pos (by omega),if_neg (by rw[n0];simp),if_neg (by rw[n1];simp),if_neg (by rw[n2];simp)];dsimp only;rw[r2,r3,if_neg (by rw[n3];simp),if_neg (by rw[n4];simp)];unfold braF;dsimp only;rw[g1,m1,p2,p3,g2,m2];exact⟨rfl,⟨rfl,rfl,by show AEn.mk _ _ _ _=_;rw[show (regN s i (-1),i).1=a from r1,show (numN s (i+(rgT a).length+1) (-1),i+(rgT a).length+1).1=one from p1];exact congrArg (AEn.mk 63 a one) q1,q2,q3⟩⟩
 | t::sts,k,i,cacc,acc,ht,hk,h,hN=>by
  obtain⟨k,rfl⟩:∃j,k=j+1:=⟨k-1,by simp at hk;omega⟩;rw[JK,List.append_assoc,List.cons_append]at h hN ⊢;obtain⟨hA,hB⟩:=Xx.1 h;have ok:=ht t (List.mem_cons_self ..);have gB:gotI s (i+(stT t).length) (-1) 59=_:=Yz (c:=59) hB;have mB:mustB s (i+(stT t).length) (-1) 59=_:=KX (c:=59) hB;have el:i+(stT t++59::(XZ sts++enT e)).length=i+(stT t).length+1+(XZ sts++enT e).length:=by
   rw[Qw,QO];omega
  rw[el]at hN ⊢;by_cases hout:Qb0 t
  ·obtain⟨a,rfl⟩:∃a,t=.out a:=by
    cases t with
    | out a=>exact⟨a,rfl⟩
    | _=>exact absurd hout (by simp[Qb0])
   have h:At s i (33::(rgT a++59::(XZ sts++enT e))):=h;have n0:onF s i (-1) 46=false:=ZR h (by decide);have n1:onF s i (-1) 62=false:=ZR h (by decide);have n2:onF s i (-1) 33=true:=KE (c:=33) h;have le:i+(stT (.out a)).length=i+1+(rgT a).length:=by show i+(33::rgT a).length=_;rw[QO];omega
   rw[le]at gB mB hB hN ⊢;obtain⟨r1,r2,r3⟩:=Yo ok (Xx.1 h.2.2).1 (Yw hB (by decide));rw[QP,if_pos (by omega),if_neg (by rw[n0];simp),if_neg (by rw[n1];simp),if_pos n2];dsimp only;rw[r2,r3,gB,mB];have:=RZ (i0:=i0) he sts k (i+1+(rgT a).length+1) cacc (acc++[⟨33,(0,0),(regN s (i+1) (-1),i+1),(0,0),0⟩]) (fun t h=>ht t (List.mem_cons_of_mem _ h)) (by simp at hk;omega) hB.2.2 hN;have ea:(acc++[(⟨33,(0,0),(regN s (i+1) (-1),i+1),(0,0),0⟩:Qz)]).map QK++sts=acc.map QK++ASt.out a::sts:=by
    rw[List.map_append,List.append_assoc,r1];rfl
   rwa [ea]at this
  ·rw[QdT hout]at hA gB mB hB hN ⊢;have h':=h;rw[QdT hout,List.append_assoc]at h';have n0:onF s i (-1) 46=false:=JY h' (by decide);have n1:onF s i (-1) 62=false:=JY h' (by decide);have n2:onF s i (-1) 33=false:=JY h' (by decide);obtain⟨hR,hG⟩:=Xx.1 h';have hG:At s (i+(rgT (toS t)).length) (61::(gvT t++59::(XZ sts++enT e))):=hG;obtain⟨r1,r2,r3⟩:=Yo (QiU ok) hR (Yw hG (by decide));have o1:onF s (i+(rgT (toS t)).length) (-1) 61=true:=KE (c:=61) hG;obtain⟨q1,q2,q3⟩:=QjP (tn:=regN s i (-1)) (ti:=i) ok hout hG.2.2 r1;have le:i+(rgT (toS t)++61::gvT t).length=i+(rgT (toS t)).length+1+(gvT t).length:=by rw[Qw,QO];omega
   rw[le]at gB mB hB hN ⊢;rw[QP,if_pos (by omega),if_neg (by rw[n0];simp),if_neg (by rw[n1];simp),if_neg (by rw[n2];simp)];dsimp only;rw[r2,r3,if_pos o1,q2,q3,gB,mB];have:=RZ (i0:=i0) he sts k (i+(rgT (toS t)).length+1+(gvT t).length+1) cacc (acc++[(givF s (regN s i (-1),i) (i+(rgT (toS t)).length+1) (-1)).st]) (fun t h=>ht t (List.mem_cons_of_mem _ h)) (by simp at hk;omega) hB.2.2 hN;have ea:(acc++[(givF s (regN s i (-1),i) (i+(rgT (toS t)).length+1) (-1)).st]).map QK++sts=acc.map QK++t::sts:=by
    rw[List.map_append,List.append_assoc,List.map_singleton,q1];rfl
   rwa [ea]at this
theorem QiO{s:ByteArray}{i0:Nat}{sts:List ASt}{e:AEn}(hs:∀t∈sts,OkS t)(he:OkE e):∀(chs:List ACh)(k i:Nat)(cacc:List Q0),(∀c∈chs,OkC c)→chs.length+sts.length<k→(∀c∈chs,c.src.length≤s.size+1)→At s i (KK chs++(XZ sts++enT e))→Nd s (i+(KK chs++(XZ sts++enT e)).length) →
  Qk7 (QP s i0 k cacc [] i (-1)) ⟨cacc.map Zn++chs,sts,e⟩ (i+(KK chs++(XZ sts++enT e)).length)
 | [],k,i,cacc,_,hk,_,h,hN=>by
  obtain⟨c1,r⟩:=RZ (i0:=i0) he sts k i cacc [] hs (by simpa using hk) h hN;refine⟨by rw[c1];simp,?_,r.e,r.i,r.bad⟩;have:=r.sts;simpa using this
 | c::chs,k,i,cacc,hc,hk,hz,h,hN=>by
  obtain⟨k,rfl⟩:∃j,k=j+1:=⟨k-1,by simp at hk;omega⟩;rw[JO,List.append_assoc,List.cons_append]at h hN ⊢;obtain⟨hA,hB⟩:=Xx.1 h;have ok:=hc c (List.mem_cons_self ..);have h':=h;unfold chT at h';rw[List.append_assoc,List.cons_append]at h';have n0:onF s i (-1) 46=false:=JY h' (by decide);have n1:onF s i (-1) 62=false:=JY h' (by decide);have n2:onF s i (-1) 33=false:=JY h' (by decide);obtain⟨hR,hG⟩:=Xx.1 h';obtain⟨r1,r2,r3⟩:=Yo ok.1 hR (Yw hG (by decide));have n3:onF s (i+(rgT c.to).length) (-1) 61=false:=ZR hG (by decide);have n4:onF s (i+(rgT c.to).length) (-1) 64=true:=KE (c:=64) hG;have g4:gotI s (i+(rgT c.to).length) (-1) 64=_:=Yz (c:=64) hG;have m4:mustB s (i+(rgT c.to).length) (-1) 64=_:=KX (c:=64) hG;have q:=Qao c.src (s.size+1) ⟨[],[],i+(rgT c.to).length+1,-1⟩ ok.2.2 ok.2.1 (hz c (List.mem_cons_self ..)) rfl _ hG.2.2;have eF:choF s (i+(rgT c.to).length) (-1)=ZO s (s.size+1) ⟨[],[],i+(rgT c.to).length+1,-1⟩:=by
   unfold choF;rw[g4,m4]
  rw[←eF]at q;have ei:(choF s (i+(rgT c.to).length) (-1)).i=i+(chT c).length:=by
   rw[q.i];unfold chT;rw[Qw,QO];show i+(rgT c.to).length+1+(srT c.src).length=_;omega
  have gB:gotI s (i+(chT c).length) (-1) 59=_:=Yz (c:=59) hB;have mB:mustB s (i+(chT c).length) (-1) 59=_:=KX (c:=59) hB;rw[QP,if_pos (by omega),if_neg (by rw[n0];simp),if_neg (by rw[n1];simp),if_neg (by rw[n2];simp)];dsimp only;rw[r2,r3,if_neg (by rw[n3];simp),if_pos (by rw[n4];rfl),ei,q.bad,gB,mB];have el:i+(chT c++59::(KK chs++(XZ sts++enT e))).length=i+(chT c).length+1+(KK chs++(XZ sts++enT e)).length:=by
   rw[Qw,QO];omega
  rw[el]at hN ⊢;have ih:=QiO (i0:=i0) hs he chs k (i+(chT c).length+1) (cacc++[⟨(regN s i (-1),i),(choF s (i+(rgT c.to).length) (-1)).gs,(choF s (i+(rgT c.to).length) (-1)).rs⟩]) (fun x hx=>hc x (List.mem_cons_of_mem _ hx)) (by simp at hk;omega) (fun x hx=>hz x (List.mem_cons_of_mem _ hx)) hB.2.2 hN;have ea:(cacc++[(⟨(regN s i (-1),i),(choF s (i+(rgT c.to).length) (-1)).gs,(choF s (i+(rgT c.to).length) (-1)).rs⟩:Q0)]).map Zn++chs=cacc.map Zn++c::chs:=by
   rw[List.map_append,List.append_assoc]
   congr 1
   have eg:=q.gs;have er:=q.rs;show [Zn _]++chs=c::chs;have:Zn ⟨(regN s i (-1),i),(choF s (i+(rgT c.to).length) (-1)).gs,(choF s (i+(rgT c.to).length) (-1)).rs⟩=c:=by
    unfold Zn;dsimp only;rw[eg,er,r1];show ACh.mk c.to ((c.src.map (·.1)).zip (c.src.map (·.2)))=c;rw[QdI]
   rw[this];rfl
  rwa [ea]at ih
def pcT:List ABk→List UInt8
 | []=>[]
 | b::bs=>bcT b++(match bs with | []=>[] | _=>124::pcT bs)
theorem Ki(b:ABk):pcT [b]=bcT b:=by simp[pcT]
theorem X7(b c:ABk)(bs:List ABk):pcT (b::c::bs)=bcT b++124::pcT (c::bs):=rfl
structure OkX(b:ABk):Prop where
 chs:∀c∈b.chs,OkC c
 sts:∀t∈b.sts,OkS t
 e:OkE b.e
theorem Qci(l:List ACh):l.length≤(KK l).length:=by
 induction l with
 | nil=>exact Qi _
 | cons t l ih=>rw[JO,Qw,QO,QO];omega
theorem QfN(l:List ACh):∀c∈l,c.src.length≤(KK l).length+1:=by
 induction l with
 | nil=>intro c hc;simp at hc
 | cons d l ih=>
  intro c hc;rw[JO,Qw,QO];rcases List.mem_cons.1 hc with rfl|hc
  ·have:=QgD c.src;unfold chT;rw[Qw,QO];omega
  ·have:=ih c hc;omega
theorem Qcr{s:ByteArray}{b:ABk}(ob:OkX b){i:Nat}(hi:i+(bcT b).length≤s.size)(h:At s i (bcT b))(hN:Nd s (i+(bcT b).length)):Xf (blkF s i (-1)).b=b∧(blkF s i (-1)).i=i+(bcT b).length∧(blkF s i (-1)).bad=-1:=by
 have hl:b.chs.length+b.sts.length<s.size+1:=by
  have h1:=Qci b.chs;have h2:=Qgt b.sts;unfold bcT at hi;rw[Qw,Qw]at hi;omega
 have r:=QiO (i0:=i) ob.sts ob.e b.chs (s.size+1) i [] ob.chs hl (fun c hc=>by
  have h1:=QfN b.chs c hc;unfold bcT at hi;rw[Qw]at hi;omega) h hN
 have r:Qk7 (blkF s i (-1)) ⟨[].map Zn++b.chs,b.sts,b.e⟩ (i+(bcT b).length):=r;refine⟨?_,r.i,r.bad⟩;have e1:=r.chs;have e2:=r.sts;have e3:=r.e;show ABk.mk _ _ _=b;rw[e1,e2,e3];rfl
theorem Qel{s:ByteArray}:∀(bs:List ABk)(k i:Nat)(acc:List Qm),(∀b∈bs,OkX b)→0<bs.length→bs.length≤k→At s i (pcT bs)→i+(pcT bs).length=s.size →
  (Xj s k ⟨acc,i,-1⟩).bs.map Xf=acc.map Xf++bs∧(Xj s k ⟨acc,i,-1⟩).i=s.size∧(Xj s k ⟨acc,i,-1⟩).bad=-1
 | [],k,i,acc,_,h0,_,_,_=>absurd h0 (by simp)
 | [b],k,i,acc,hb,_,hk,h,hs=>by
  obtain⟨k,rfl⟩:∃j,k=j+1:=⟨k-1,by simp at hk;omega⟩;rw[Ki]at h hs;obtain⟨eb,ei,ed⟩:=Qcr (hb b (List.mem_cons_self ..)) (by omega) h (Qjt hs);rw[hs]at ei;rw[Xj];dsimp only;rw[ei,ed,if_neg (by rw[Qer rfl];simp)];refine⟨?_,?_,rfl⟩
  ·show (acc++[(blkF s i (-1)).b]).map Xf=_;rw[List.map_append,List.map_singleton,eb]
  ·show gotI s s.size (-1) 124=_;rw[gotI,Qer rfl];rfl
 | b::c::bs,k,i,acc,hb,_,hk,h,hs=>by
  obtain⟨k,rfl⟩:∃j,k=j+1:=⟨k-1,by simp at hk;omega⟩;rw[X7]at h hs;obtain⟨hA,hB⟩:=Xx.1 h;rw[Qw,QO]at hs;obtain⟨eb,ei,ed⟩:=Qcr (hb b (List.mem_cons_self ..)) (by omega) hA (Yw hB (by decide));have on:onF s (i+(bcT b).length) (-1) 124=true:=KE (c:=124) hB;have gt:gotI s (i+(bcT b).length) (-1) 124=i+(bcT b).length+1:=Yz (c:=124) hB;rw[Xj];dsimp only;rw[ei,ed,if_pos on,gt];have ih:=Qel (c::bs) k (i+(bcT b).length+1) (acc++[(blkF s i (-1)).b]) (fun x hx=>hb x (List.mem_cons_of_mem _ hx)) (by simp) (by simp at hk ⊢;omega) hB.2.2 (by omega);rw[List.map_append,List.map_singleton,eb,List.append_assoc]at ih;exact ih
theorem Qhk{bs:List ABk}(hb:∀b∈bs,OkX b)(h0:0<bs.length)(s:ByteArray)(hs:s=⟨(pcT bs).toArray⟩):
  absP (Qu s).bs=bs∧Q9 s=-1:=by
 have hz:s.size=(pcT bs).length:=by subst hs;simp[ByteArray.size]
 have hA:At s 0 (pcT bs):=by subst hs;exact Qgm _
 have hl:bs.length≤s.size+1:=by
  rw[hz];clear hs hz hA h0 hb
  induction bs with
  | nil=>simp
  | cons b bs ih=>
   cases bs with
   | nil=>simp
   | cons c bs=>simp only[X7,List.length_append,List.length_cons]at ih ⊢;omega
 obtain⟨h1,h2,h3⟩:=Qel bs (s.size+1) 0 [] hb h0 hl hA (by rw[hz];omega);refine⟨h1,?_⟩;have h2:(Qu s).i=s.size:=h2;have h3:(Qu s).bad=-1:=h3;rw[Q9,h2,if_neg (by omega),h3]
theorem Qda{a b:Nat}(h:a≤b):Lib.nDigits a≤Lib.nDigits b:=by
 induction b using Nat.strongRecOn generalizing a with
 | _ b ih=>
  by_cases ha:a<10
  ·rw[Lib.nDigits_small ha];exact Lib.nDigits_pos b
  ·rw[Lib.nDigits_big ha,Lib.nDigits_big (u:=b) (by omega)];have:=ih (b / 10) (by omega) (a:=a / 10) (by omega);omega
theorem Ry:∀(k n:Nat),n<10 ^ (k+1)→Lib.nDigits n≤k+1
 | 0,n,h=>by rw[Lib.nDigits_small (by simpa using h)];exact Nat.le_refl _
 | k+1,n,h=>by
  by_cases hn:n<10
  ·rw[Lib.nDigits_small hn];omega
  ·rw[Lib.nDigits_big hn];have:=Ry k (n / 10) (by rw[Nat.pow_succ]at h;omega);omega
theorem GG{s bad fm}:∀(k i n:Nat),fm≤i→n<10 ^ (i-fm)→(Zm s bad fm k i n).1<10 ^ ((Zm s bad fm k i n).2-fm)∧i≤(Zm s bad fm k i n).2
 | 0,i,n,_,h=>⟨h,Qi _⟩
 | k+1,i,n,hi,h=>by
  rw[Zm];by_cases hd:(Zr s i bad&&(i==fm||byt s fm != 48))=true
  ·rw[if_pos hd];have h9:byt s i-48≤9:=by
    rw[Bool.and_eq_true]at hd;have:=hd.1;simp[Zr]at this;omega
   have ih:=GG (s:=s) (bad:=bad) (fm:=fm) k (i+1) (10*n+(byt s i-48)) (by omega) (by
    rw[show i+1-fm=(i-fm)+1 by omega,Nat.pow_succ];omega)
   exact⟨ih.1,by omega⟩
  ·rw[if_neg hd];exact⟨h,Qi _⟩
theorem KU{s i bad}(h:Zx s i bad<0):i+(Lib.decDigits (numN s i bad)).length≤numI s i bad:=by
 obtain⟨_,h2,_⟩:=X8 h;unfold Zx at h
 cases ho:Zr s i bad with
 | true=>
  rw[Lib.decDigits_length];rw[numI,ho,if_pos rfl]at h2;rw[numN,numI,ho,if_pos rfl,if_pos rfl];have:=(GG (s:=s) (bad:=bad) (fm:=i) 4 i 0 (Nat.le_refl _) (by simp)).1;have h3:=Ry ((Zm s bad i 4 i 0).2-i-1) (Zm s bad i 4 i 0).1 (by rw[show (Zm s bad i 4 i 0).2-i-1+1=(Zm s bad i 4 i 0).2-i by omega];exact this);omega
 | false=>rw[ho,if_neg (by simp)]at h;exact absurd h JM
theorem Kf{s i bad}(h:regB s i bad<0):i+(rgT (regN s i bad)).length≤regI s i bad:=by
 obtain⟨h1,_,_⟩:=X8 h;obtain⟨_,k2,_⟩:=Zz h1;have:=KU h;unfold regN regI;rw[rgT,QO];omega
theorem Qh0{s to i bad}(h:(givF s to i bad).bad<0):i+(gvT (QK (givF s to i bad).st)).length≤(givF s to i bad).i:=by
 revert h;unfold givF;by_cases h1:onF s i bad 63=true
 ·rw[if_pos h1];intro _;exact Qi _
 rw[if_neg h1];by_cases h2:onF s i bad 114=true
 ·rw[if_pos h2];by_cases h3:opC s (regI s i bad) (regB s i bad)=0
  ·dsimp only;rw[if_pos h3];intro h;have b1:=Ru h;have c2:=Kf b1;have c4:regI s i bad≤opI s (regI s i bad) (regB s i bad):=QbL;show i+(rgT (regN s i bad)).length≤opI s (regI s i bad) (regB s i bad);omega
  ·dsimp only;rw[if_neg h3];intro h;have d2:=Kf h;obtain⟨d1,_,_⟩:=X5 h;have b1:=Ru d1;have b2:=QbK h3;have c2:=Kf b1;generalize hI:opI s (regI s i bad) (regB s i bad)=I at *;have hR:∀o,o=43∨o=45∨o=42∨o=60→i+(gvT (QK ⟨o,to,(regN s i bad,i),(regN s I (opB s (regI s i bad) (regB s i bad)),I),0⟩)).length≤regI s I (opB s (regI s i bad) (regB s i bad)):=by
    intro o ho;have e1:QK ⟨o,to,(regN s i bad,i),(regN s I (opB s (regI s i bad) (regB s i bad)),I),0⟩=.op o to.1 (regN s i bad) (regN s I (opB s (regI s i bad) (regB s i bad))):=by
     unfold QK;rw[if_neg (by show ¬o=118;omega),if_neg (by show ¬o=99;omega),if_neg (by show ¬o=33;omega),if_neg (by show ¬o=63;omega)]
    rw[e1];simp only[gvT,List.length_append,List.length_cons];omega
   refine hR _ ?_;rcases Qeq s (regI s i bad) (regB s i bad) with e|e|e|e|e
   ·exact absurd e h3
   ·exact .inl e
   ·exact .inr (.inl e)
   ·exact .inr (.inr (.inl e))
   ·exact .inr (.inr (.inr e))
 rw[if_neg h2];by_cases h4:onF s i bad 45=true
 ·rw[if_pos h4];dsimp only;intro h;have c2:=KU h;show i+(Lib.itoa (-(numN s (i+1) _:Int))).length≤_;generalize numN s (i+1) (if onF s (i+1) bad 48=true then Ja (i+1) bad else bad)=n at *;unfold Lib.itoa;split
  ·rw[QO,show (-(n:Int)).natAbs=n by omega];omega
  ·rw[show (-(n:Int)).toNat=0 by omega];have:=Qda (Nat.zero_le n);rw[Lib.decDigits_length]at c2 ⊢;omega
 ·rw[if_neg h4];dsimp only;intro h;have c2:=KU h;show i+(Lib.itoa (numN s i bad:Int)).length≤_;unfold Lib.itoa;rw[if_neg (by omega),Int.toNat_natCast];exact c2
theorem Nw:∀(l:List (Nat×Nat))(p:Nat×Nat),(srT (l++[p])).length=(srT l).length+(if l=[] then 0 else 1)+(spT p).length
 | [],p=>by rw[List.nil_append,Kb,if_pos rfl];simp[srT]
 | [q],p=>by
  show (srT (q::p::[])).length=_;rw[XP,Kb,Kb,if_neg (by simp),List.length_append,List.length_cons];omega
 | q::x::l,p=>by
  have ih:=Nw (x::l) p;rw[if_neg (by simp)]at ih ⊢;rw[List.cons_append,List.cons_append]at *;rw[XP,XP,Qw,Qw,QO,QO];omega
def prs(c:Cho):List (Nat×Nat):=(c.gs.map (·.1)).zip (c.rs.map (·.1))
theorem U5{s:ByteArray}{i1:Nat}:∀(k:Nat)(c:Cho),(ZO s k c).bad<0→c.rs.length=c.gs.length→i1+(srT (prs c)).length+(if prs c=[] then 0 else 1)≤c.i →
  i1+(srT (prs (ZO s k c))).length≤(ZO s k c).i
 | 0,c,_,_,hi=>by show i1+(srT (prs c)).length≤c.i;omega
 | k+1,c,h,hl,hi=>by
  rw[ZO]at h ⊢;have hb:(choR s c).bad<0:=by
   cases ho:onF s (choR s c).i (choR s c).bad 44 with
   | true=>exact(Zf ho).1
   | false=>rw[ho,if_neg (by simp)]at h;exact h
  have hb':regB s (gotI s (numI s c.i c.bad) (Zx s c.i c.bad) 58) (mustB s (numI s c.i c.bad) (Zx s c.i c.bad) 58)<0:=hb;have l1:=Kf hb';obtain⟨a1,_,_⟩:=X5 hb';obtain⟨b1,b2,_⟩:=Zz a1;have l2:=KU b1;have e1:prs (choR s c)=prs c++[(numN s c.i c.bad,regN s (gotI s (numI s c.i c.bad) (Zx s c.i c.bad) 58) (mustB s (numI s c.i c.bad) (Zx s c.i c.bad) 58))]:=by
   have eg:(choR s c).gs=c.gs++[(numN s c.i c.bad,c.i)]:=rfl;have er:(choR s c).rs=c.rs++[(regN s (gotI s (numI s c.i c.bad) (Zx s c.i c.bad) 58) (mustB s (numI s c.i c.bad) (Zx s c.i c.bad) 58),gotI s (numI s c.i c.bad) (Zx s c.i c.bad) 58)]:=rfl;rw[prs,eg,er,List.map_append,List.map_append,List.zip_append (by simp[hl])];rfl
  have e2:i1+(srT (prs (choR s c))).length≤(choR s c).i:=by
   rw[e1,Nw];show _≤regI s _ _;rw[spT,Qw,QO];dsimp only;omega
  have e3:prs (choR s c)≠[]:=by rw[e1];simp
  cases ho:onF s (choR s c).i (choR s c).bad 44 with
  | true=>
   rw[ho,if_pos rfl]at h;rw[if_pos rfl];have eg:gotI s (choR s c).i (choR s c).bad 44=(choR s c).i+1:=by rw[gotI,ho];rfl
   rw[eg]at h ⊢;exact U5 k ⟨(choR s c).gs,(choR s c).rs,(choR s c).i+1,(choR s c).bad⟩ h (by simp[choR,hl]) (by
    show i1+(srT (prs (choR s c))).length+(if prs (choR s c)=[] then 0 else 1)≤(choR s c).i+1;rw[if_neg e3];omega)
  | false=>
   have eg:gotI s (choR s c).i (choR s c).bad 44=(choR s c).i:=by rw[gotI,ho];rfl
   rw[if_neg (by simp),eg];exact e2
theorem Qic{s i bad}(h:(choF s i bad).bad<0):i+1+(srT (prs (choF s i bad))).length≤(choF s i bad).i:=by
 obtain⟨a1,_⟩:=U4 (s:=s) (i1:=gotI s i bad 64) (s.size+1) { gs:=[],rs:=[],i:=gotI s i bad 64,bad:=mustB s i bad 64 } h (by simp) List.Pairwise.nil Wi.nil;obtain⟨_,b2,_⟩:=Zz a1;have key:=U5 (s:=s) (i1:=gotI s i bad 64) (s.size+1) { gs:=[],rs:=[],i:=gotI s i bad 64,bad:=mustB s i bad 64 } h rfl (by simp[prs,srT]);have key:gotI s i bad 64+(srT (prs (choF s i bad))).length≤(choF s i bad).i:=key;omega
theorem Gw(l:List ASt)(t:ASt):(XZ (l++[t])).length=(XZ l).length+(stT t).length+1:=by simp[XZ];omega
theorem Qds(l:List ACh)(c:ACh):(KK (l++[c])).length=(KK l).length+(chT c).length+1:=by simp[KK];omega
theorem Qgz{t:Qz}(h:t.op≠33):(stT (QK t)).length=(rgT t.to.1).length+1+(gvT (QK t)).length:=by
 unfold QK;by_cases h1:t.op=118
 ·rw[if_pos h1];simp only[stT,List.length_append,List.length_cons];omega
 rw[if_neg h1];by_cases h2:t.op=99
 ·rw[if_pos h2];simp only[stT,List.length_append,List.length_cons];omega
 rw[if_neg h2,if_neg h];by_cases h3:t.op=63
 ·rw[if_pos h3];simp only[stT,List.length_append,List.length_cons];omega
 rw[if_neg h3];simp only[stT,List.length_append,List.length_cons];omega
theorem K9{s:ByteArray}{i0 at_:Nat}:∀(k:Nat)(chs:List Q0)(sts:List Qz)(i:Nat)(bad:Int),(QP s at_ k chs sts i bad).bad<0→i0+(KK (chs.map Zn)).length+(XZ (sts.map QK)).length≤i→s.size<k+i→i≤s.size →
  i0+(bcT (Xf (QP s at_ k chs sts i bad).b)).length≤(QP s at_ k chs sts i bad).i
 | 0,chs,sts,i,bad,h,hj,hk,hi=>by omega
 | k+1,chs,sts,i,bad,h,hj,hk,hi=>by
  have eB:∀(e:Z6)(a:Nat),(bcT (Xf ⟨chs,sts,e,a⟩)).length=(KK (chs.map Zn)).length+((XZ (sts.map QK)).length+(enT (ZT e)).length):=fun e a=>by
   rw[bcT,Qw,Qw];rfl
  revert h;rw[QP];by_cases hb:bad<0
  ·rw[if_pos hb];by_cases h1:onF s i bad 46=true
   ·rw[if_pos h1];intro h;rw[eB];show _+(_+(_+1))≤i+1;omega
   rw[if_neg h1];by_cases h2:onF s i bad 62=true
   ·rw[if_pos h2];intro h;have c2:=KU h;rw[eB];show _+(_+(_+(62::Lib.decDigits (numN s (i+1) bad)).length))≤numI s (i+1) bad;rw[QO];omega
   rw[if_neg h2];by_cases h3:onF s i bad 33=true
   ·rw[if_pos h3];dsimp only;intro h;by_cases hm:mustB s (regI s (i+1) bad) (regB s (i+1) bad) 59<0
    ·obtain⟨m1,m2,_⟩:=Zz hm;have r2:=Kf m1;have i1:i<s.size:=(Zf h3).2.1;refine K9 k _ _ _ _ h ?_ (by omega) (Zd (ZM i1));rw[List.map_append,List.map_cons,List.map_nil,Gw];show _+(_+(33::rgT (regN s (i+1) bad)).length+1)≤_;rw[QO];omega
    ·exfalso
     cases k with
     | zero=>exact hm h
     | succ k=>rw[QP,if_neg hm]at h;exact hm h
   rw[if_neg h3];dsimp only;by_cases h4:onF s (regI s i bad) (regB s i bad) 61=true
   ·rw[if_pos h4];intro h;by_cases hm:mustB s (givF s (regN s i bad,i) (regI s i bad+1) (regB s i bad)).i (givF s (regN s i bad,i) (regI s i bad+1) (regB s i bad)).bad 59<0
    ·obtain⟨m1,m2,_⟩:=Zz hm;have g:=Qfy m1 (Xo _ _ _);have gl:=Qh0 m1;have r2:=Kf g.neg;have gi:=g.gi;refine K9 k _ _ _ _ h ?_ (by omega) (Zd (VO (Zf h4).2.1));rw[List.map_append,List.map_cons,List.map_nil,Gw,Qgz g.to.1,g.to.2];dsimp only;omega
    ·exfalso
     cases k with
     | zero=>exact hm h
     | succ k=>rw[QP,if_neg hm]at h;exact hm h
   rw[if_neg h4];by_cases h5:(onF s (regI s i bad) (regB s i bad) 64&&sts.isEmpty)=true
   ·rw[if_pos h5];intro h;have hse:sts=[]:=by
     rw[Bool.and_eq_true]at h5;exact List.isEmpty_iff.1 h5.2
    subst hse;by_cases hm:mustB s (choF s (regI s i bad) (regB s i bad)).i (choF s (regI s i bad) (regB s i bad)).bad 59<0
    ·obtain⟨m1,m2,_⟩:=Zz hm;have cl:=Qic m1;obtain⟨c1,c2,_,_,c5⟩:=QfP m1;have r2:=Kf c1;refine K9 k _ _ _ _ h ?_ (by omega) (Zd (Ue (ZM hi)));rw[List.map_append,List.map_cons,List.map_nil,Qds];have ec:(chT (Zn ⟨(regN s i bad,i),(choF s (regI s i bad) (regB s i bad)).gs,(choF s (regI s i bad) (regB s i bad)).rs⟩)).length=(rgT (regN s i bad)).length+((srT (prs (choF s (regI s i bad) (regB s i bad)))).length+1):=by
      rw[chT,Qw,QO];rfl
     rw[ec];have e0:(XZ (([]:List Qz).map QK)).length=0:=rfl;rw[e0]at hj ⊢;omega
    ·exfalso
     cases k with
     | zero=>exact hm h
     | succ k=>rw[QP,if_neg hm]at h;exact hm h
   rw[if_neg h5];intro h;have h:(braF s (regN s i bad,i) (regI s i bad) (regB s i bad)).bad<0:=h;unfold braF at h;have d2:=KU h;obtain⟨d1,_,_⟩:=X8 h;obtain⟨e1,e2,_⟩:=Zz d1;have f2:=KU e1;obtain⟨f1,_,_⟩:=X8 e1;obtain⟨g1,g2,_⟩:=Zz f1;have r2:=Kf g1;rw[eB];show _+(_+(_+(enT ⟨63,regN s i bad,_,_⟩).length))≤(braF s (regN s i bad,i) (regI s i bad) (regB s i bad)).i;unfold braF;dsimp only;rw[enT,if_neg (show ¬(63:Nat)=46 by decide),if_neg (show ¬(63:Nat)=62 by decide)];simp only[List.length_append,List.length_cons];omega
  ·rw[if_neg hb];intro h;exact absurd h hb
theorem Qf5{s i bad}(h:(blkF s i bad).bad<0)(hi:i≤s.size):i+(bcT (Xf (blkF s i bad).b)).length≤(blkF s i bad).i:=
 K9 (i0:=i) (s.size+1) [] [] i bad h (by simp[KK,XZ]) (by omega) hi
theorem NG:∀(l:List ABk)(b:ABk),(pcT (l++[b])).length=(pcT l).length+(if l.length=0 then 0 else 1)+(bcT b).length
 | [],p=>by rw[List.nil_append,Ki];simp[pcT]
 | [q],p=>by
  show (pcT (q::p::[])).length=_;rw[X7,Ki,Ki,if_neg (by simp),List.length_append,List.length_cons];omega
 | q::x::l,p=>by
  have ih:=NG (x::l) p;rw[if_neg (by simp)]at ih ⊢;rw[List.cons_append,List.cons_append]at *;rw[X7,X7,Qw,Qw,QO,QO];omega
theorem GE{s:ByteArray}:∀(k:Nat)(p:Par),(Xj s k p).bad<0→(pcT (absP p.bs)).length+(if p.bs.length=0 then 0 else 1)≤p.i→p.i≤s.size→(pcT (absP (Xj s k p).bs)).length≤(Xj s k p).i
 | 0,p,_,hj,_=>by show (pcT (absP p.bs)).length≤p.i;omega
 | k+1,p,h,hj,hi=>by
  rw[Xj]at h ⊢;have hb:(blkF s p.i p.bad).bad<0:=by
   cases ho:onF s (blkF s p.i p.bad).i (blkF s p.i p.bad).bad 124 with
   | true=>exact(Zf ho).1
   | false=>rw[ho,if_neg (by simp)]at h;exact h
  have hl:=Qf5 hb hi;have e1:(pcT (absP (p.bs++[(blkF s p.i p.bad).b]))).length≤(blkF s p.i p.bad).i:=by
   rw[absP,List.map_append,List.map_cons,List.map_nil,NG,List.length_map];have:(pcT (p.bs.map Xf)).length=(pcT (absP p.bs)).length:=rfl;omega
  cases ho:onF s (blkF s p.i p.bad).i (blkF s p.i p.bad).bad 124 with
  | true=>
   rw[ho,if_pos rfl]at h;rw[if_pos rfl];have eg:gotI s (blkF s p.i p.bad).i (blkF s p.i p.bad).bad 124=(blkF s p.i p.bad).i+1:=by rw[gotI,ho];rfl
   rw[eg]at h ⊢;exact GE k _ h (by
    show (pcT (absP (p.bs++[(blkF s p.i p.bad).b]))).length+(if (p.bs++[(blkF s p.i p.bad).b]).length=0 then 0 else 1)≤(blkF s p.i p.bad).i+1;rw[if_neg (by simp)];omega) (Zf ho).2.1
  | false=>
   have eg:gotI s (blkF s p.i p.bad).i (blkF s p.i p.bad).bad 124=(blkF s p.i p.bad).i:=by rw[gotI,ho];rfl
   rw[if_neg (by simp),eg];exact e1
theorem Qhl{s:ByteArray}(h:Q9 s<0):(pcT (absP (Qu s).bs)).length≤s.size:=by
 unfold Q9 at h;split at h
 ·exact absurd h JM
 ·have h1:=GE (s:=s) (s.size+1) ⟨[],0,-1⟩ h (by simp[absP,pcT]) (Nat.zero_le _);exact Qy h1 (V9 _ _ (Nat.zero_le _))
theorem Va:∀(sts:List ASt)(e:List UInt8),Lib.join (sts.map stT++[e]) [59]=XZ sts++e
 | [],e=>by rw[List.map_nil,List.nil_append,Lib.join_one];rfl
 | [t],e=>by
  rw[JK];show Lib.join [stT t,e] [59]=_;rw[Lib.join_cons];simp[Lib.joinTail,XZ]
 | t::u::sts,e=>by
  have ih:=Va (u::sts) e;rw[JK,List.append_assoc,List.cons_append,←ih];rw[List.map_cons,List.cons_append,Lib.join_cons,List.map_cons,List.cons_append,Lib.join_cons];simp[Lib.joinTail]
theorem QiY(t:Qz)(hk:OkS (QK t)):∃T x fn,QS t=.iface T x∧(∀w:World,(method 500 T x "solo/code.text").run prog w=.ok (fn,x) w)∧(∀args (w:World),(callFunc fn args).run prog w=.ok (.enter fn args) w) ∧
  ∀w:World,Tab w→Calls prog fn #[x] w fun r w'=>r=.returned (.string ⟨(stT (QK t)).toArray⟩)∧Below w.heap.size w w':=by
 by_cases h1:t.op=118
 ·have eA:QK t=.val t.to.1 t.n:=by rw[QK,if_pos h1]
  have eV:QS t=.iface 177 (.agg #[.int .i64 t.to.1,.int .i64 t.to.2,.int .i64 t.n]):=by rw[QS,if_neg (by omega),if_neg (by omega),if_pos h1]
  rw[eA]at hk ⊢;exact⟨_,_,298,eV,fun w=>by kernel_rfl,enters_of func298 (by kernel_rfl) rfl,fun w ht=>QjD _ _ _ w hk.1 hk.2 ht⟩
 by_cases h2:t.op=99
 ·have eA:QK t=.cp t.to.1 t.a.1:=by rw[QK,if_neg h1,if_pos h2]
  have eV:QS t=.iface 142 (.agg #[.int .i64 t.to.1,.int .i64 t.to.2,.int .i64 t.a.1,.int .i64 t.a.2]):=by rw[QS,if_neg (by omega),if_pos h2]
  rw[eA]at hk ⊢;exact⟨_,_,288,eV,fun w=>by kernel_rfl,enters_of func288 (by kernel_rfl) rfl,fun w ht=>QjY _ _ _ _ w hk.1 hk.2 ht⟩
 by_cases h3:t.op=33
 ·have eA:QK t=.out t.a.1:=by rw[QK,if_neg h1,if_neg h2,if_pos h3]
  have eV:QS t=.iface 315 (.agg #[.int .i64 t.a.1,.int .i64 t.a.2]):=by rw[QS,if_neg (by omega),if_neg (by omega),if_neg (by omega),if_pos h3]
  rw[eA]at hk ⊢;exact⟨_,_,318,eV,fun w=>by kernel_rfl,enters_of func318 (by kernel_rfl) rfl,fun w ht=>Qkr _ _ w hk ht⟩
 by_cases h4:t.op=63
 ·have eA:QK t=.inp t.to.1:=by rw[QK,if_neg h1,if_neg h2,if_neg h3,if_pos h4]
  have eV:QS t=.iface 272 (.agg #[.int .i64 t.to.1,.int .i64 t.to.2]):=by rw[QS,if_pos h4]
  rw[eA]at hk ⊢;exact⟨_,_,306,eV,fun w=>by kernel_rfl,enters_of func306 (by kernel_rfl) rfl,fun w ht=>QiV _ _ w hk ht⟩
 have eA:QK t=.op t.op t.to.1 t.a.1 t.b.1:=by rw[QK,if_neg h1,if_neg h2,if_neg h3,if_neg h4]
 have eV:QS t=.iface 370 (.agg #[.int .i64 t.to.1,.int .i64 t.to.2,.int .i64 t.a.1,.int .i64 t.a.2,.int .i64 (Je t.op),.int .i64 t.b.1,.int .i64 t.b.2]):=by rw[QS,if_neg (by omega),if_neg (by omega),if_neg (by omega),if_neg (by omega)]
 rw[eA]at hk ⊢;obtain⟨ho,k1,k2,k3⟩:=hk;have e:Je t.op<4∧opS (Je t.op)=t.op:=by
  rcases ho with h|h|h|h<;>(rw[h];decide)
 refine⟨_,_,327,eV,fun w=>by kernel_rfl,enters_of func327 (by kernel_rfl) rfl,fun w ht=>?_⟩;have:=QjZ t.to.1 t.to.2 t.a.1 t.a.2 (Je t.op) t.b.1 t.b.2 w k1 k2 k3 e.1 ht;rw[e.2]at this;exact this
theorem QiX(w:World):Calls prog 310 #[.agg #[]] w fun e w'=>e=.returned (.string ⟨[46].toArray⟩)∧Below w.heap.size w w':=by
 go_enter func310,ntmps310;go_wp2_with fail;go_ret;exact⟨rfl,(Below.refl _ _).alloc (Qi _) _⟩
theorem QiL(e:Z6)(hk:OkE (ZT e)):∃T x fn,Zc e=.iface T x∧(∀w:World,(method 500 T x "solo/code.text").run prog w=.ok (fn,x) w)∧(∀args (w:World),(callFunc fn args).run prog w=.ok (.enter fn args) w) ∧
  ∀w:World,Tab w→Calls prog fn #[x] w fun r w'=>r=.returned (.string ⟨(enT (ZT e)).toArray⟩)∧Below w.heap.size w w':=by
 rcases hk with ⟨h1,h2,h3,h4⟩|⟨h1,h2,h3,h4⟩|⟨h1,h2,h3,h4⟩
 ·have h1:e.op=46:=h1;obtain⟨a1,_⟩:=K6 h1;refine⟨_,_,310,a1,fun w=>by kernel_rfl,enters_of func310 (by kernel_rfl) rfl,fun w _=>?_⟩;have e2:enT (ZT e)=[46]:=by unfold enT;rw[if_pos (show (ZT e).op=46 from h1)]
  rw[e2];exact QiX w
 ·have h1:e.op=62:=h1;obtain⟨a1,_⟩:=K7 h1;refine⟨_,_,314,a1,fun w=>by kernel_rfl,enters_of func314 (by kernel_rfl) rfl,fun w ht=>?_⟩;have e2:enT (ZT e)=62::Lib.decDigits e.one.1:=by unfold enT;rw[if_neg (show ¬(ZT e).op=46 from by show ¬e.op=46;omega),if_pos (show (ZT e).op=62 from h1)];rfl
  rw[e2];exact QjG _ _ w h3 ht
 ·have h1:e.op=63:=h1;obtain⟨a1,_⟩:=JI h1;refine⟨_,_,322,a1,fun w=>by kernel_rfl,enters_of func322 (by kernel_rfl) rfl,fun w ht=>?_⟩;have e2:enT (ZT e)=rgT e.a.1++63::(Lib.decDigits e.one.1++58::Lib.decDigits e.two.1):=by unfold enT;rw[if_neg (show ¬(ZT e).op=46 from by show ¬e.op=46;omega),if_neg (show ¬(ZT e).op=62 from by show ¬e.op=62;omega)];rfl
  rw[e2];exact QjS _ _ _ _ _ _ w h2 h3 h4 ht
theorem N5:(prog.info? 9).map (fun i=>(i.zero,i.size,i.bytes))=some (some (.string ⟨#[]⟩),1,16):=by kernel_rfl
def X0(l:List (List UInt8)):List Value:=l.map fun x=>Value.string ⟨x.toArray⟩
theorem Um(a b:List (List UInt8)):X0 (a++b)=X0 a++X0 b:=List.map_append ..
theorem Re{l:List (List UInt8)}{j:Nat}(h:j<l.length):(X0 l)[j]?=some (.string ⟨l[j].toArray⟩):=by simp[X0,h]
theorem Qe0(l:List (List UInt8))(sep:UInt8)(base:Nat)(v:Value)(w:World)(h:w.ownsRow base 9 1 v l.length (X0 l))(hl:l.length≤1000000)(hn:(Lib.join l [sep]).length≤100000000):
  Calls prog 47 #[v,.string ⟨#[sep]⟩] w fun e w'=>e=.returned (.string ⟨(Lib.join l [sep]).toArray⟩)∧Below w.heap.size w w':=by
 obtain⟨p,c,rfl⟩:=Qa h;have em:(l.map (fun x=>(⟨x.toArray⟩:ByteArray))).map (·.data.toList)=l:=by
  rw[List.map_map];exact(List.map_congr_left (fun x _=>by simp)).trans (List.map_id' l)
 have es:(⟨#[sep]⟩:ByteArray).data.toList=[sep]:=rfl;by_cases h0:0<l.length
 ·obtain⟨g,rfl,_,hg⟩:=Qk h h0;have hc:l.length≤c:=by
   rcases h.2 with ⟨h1,_⟩|⟨g',cap,cur,hv,_,_,hcap,_⟩
   ·cases h1
   ·cases hv;exact hcap
  have:=Tryz.strings_Join g 0 c (l.map (fun x=>(⟨x.toArray⟩:ByteArray))) ⟨#[sep]⟩ w (fun j x hx=>by
   rw[Nat.zero_add];rw[List.getElem?_map,Option.map_eq_some_iff]at hx;obtain⟨y,hy,rfl⟩:=hx;obtain⟨hj,rfl⟩:=List.getElem?_eq_some_iff.1 hy;exact Qf h (Re hj)) hg (by rw[List.length_map];omega) (by rw[List.length_map];exact hc) (by rw[em,es];omega)
  rw[List.length_map,em,es]at this;exact this
 ·obtain rfl:l=[]:=List.length_eq_zero_iff.1 (by omega);refine(Tryz.strings_Join_none p c ⟨#[sep]⟩ w).mono ?_;rintro e w' ⟨he,hw⟩;exact⟨he,hw ▸ Below.refl _ _⟩
def Ri(l:List Qz):List (List UInt8):=l.map fun t=>stT (QK t)
theorem QcL{l:List Qz}{k:Nat}(hk:k<l.length):Ri (l.take (k+1))=Ri (l.take k)++[stT (QK l[k])]:=by
 rw[Ri,Zb hk,List.map_append];rfl
theorem Nr(l:List (List UInt8))(k:Nat)(x:List UInt8):(X0 l).set k (.string ⟨x.toArray⟩)=X0 (l.set k x):=by simp[X0,List.map_set]
theorem NT(n:Nat):(madeCells (Value.string ⟨#[]⟩).cells (n*1)).toList=X0 (List.replicate n []):=by
 rw[show (Value.string ⟨#[]⟩).cells=#[.string ⟨#[]⟩] from rfl,Nat.mul_one];apply List.ext_getElem
 ·simp[madeCells,X0]
 ·intro i h1 h2;simp[madeCells,Nat.mod_one,X0]
end Go.Proofs.YtgfhfkgdmidhpaaGreatDoor
