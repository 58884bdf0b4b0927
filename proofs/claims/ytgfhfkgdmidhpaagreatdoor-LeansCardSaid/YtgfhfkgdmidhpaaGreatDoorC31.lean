import Derived.Test.YtgfhfkgdmidhpaaGreatDoorC26
import Derived.Test.YtgfhfkgdmidhpaaGreatDoorC30
import Derived.Lib.Join
namespace Go.Proofs.YtgfhfkgdmidhpaaGreatDoor
open Go.RowKit
set_option maxRecDepth 100000
set_option maxHeartbeats 8000000
theorem QbF:∀(l:List (Nat×Nat))(i n:Nat),Asc l→Wi i n l→l.length≤n-i
 | [],_,_,_,_=>Nat.zero_le _
 | x::l,i,n,ha,hw=>by
  rw[Asc,List.pairwise_cons]at ha;have h1:=hw x (List.mem_cons_self ..);have h2:=QbF l (x.2+1) n ha.2 (fun y hy=>⟨ha.1 y hy,(hw y (List.mem_cons_of_mem _ hy)).2⟩);rw[List.length_cons];omega
theorem QiU{t:Qy}(h:OkS (QA t)):t.op<256:=by
 unfold QA at h;by_cases h1:t.op=118
 ·omega
 rw[if_neg h1]at h;by_cases h2:t.op=99
 ·omega
 rw[if_neg h2]at h;by_cases h3:t.op=33
 ·omega
 rw[if_neg h3]at h;by_cases h4:t.op=63
 ·omega
 rw[if_neg h4]at h;obtain⟨ho,_⟩:=h;omega
theorem NS{α:Type}(f:α→Nat):∀(l:List α),∀x∈l,f x≤(l.map f).sum
 | [],x,h=>absurd h (by simp)
 | y::l,x,h=>by
  rw[List.map_cons,List.sum_cons];rcases List.mem_cons.1 h with rfl|h
  ·omega
  ·have:=NS f l x h;omega
structure Rdd(s:ByteArray):Prop where
 jp:JP (Qq s).bs s.size
 rd:Kr (Qq s).bs
theorem Qdh{s:ByteArray}(h:(rdF s).e=0):QR s<0:=by
 unfold rdF at h;by_cases h1:200000<s.size
 ·rw[if_pos h1]at h;cases h
 rw[if_neg h1]at h;by_cases h2:0≤QR s
 ·rw[if_pos h2]at h;cases h
 omega
theorem Ya{s:ByteArray}(h:(rdF s).e=0):Rdd s:=by
 obtain⟨_,h1,h2,h3⟩:=rd0 h;refine⟨QhL (Qdh h),h1,h2,h3,fun b hb c hc=>(((KS h).1 b hb).ch c hc).2.1,(QfI h).2⟩
theorem Rdd.reg{s:ByteArray}(h:Rdd s)(hs:s.size≤200000):∀b∈(Qq s).bs,(regsB b).length≤10000000:=fun b hb=>by
 have h1:=QbF _ 0 s.size h.jp.asc h.jp.wi;have h2:(regsB b).length≤((Qq s).bs.flatMap regsB).length:=by
  rw[List.length_flatMap];exact NS (fun b=>(regsB b).length) _ b hb
 omega
theorem Rdd.w{s:ByteArray}(h:Rdd s):∀b∈(Qq s).bs,4*b.sts.length+chW b.chs≤s.size:=fun b hb=>by
 have h1:=h.jp.w;have h2:=NS blW _ b hb;unfold bsW at h1;unfold blW at h1 h2;omega
theorem Qit(l:List QH):3*l.length≤chW l:=by
 induction l with
 | nil=>exact Nat.le_refl _
 | cons c l ih=>
  have e:chW (c::l)=3+5*c.gs.length+chW l:=by simp[chW]
  rw[e,List.length_cons];omega
theorem Rdd.play{s:ByteArray}(h:Rdd s)(h0:(rdF s).e=0):Qe4 (Qq s).bs:=by
 have hs:=(QfI h0).1;refine⟨h.rd.pos,(KS h0).1,fun b hb=>?_,(KS h0).2.2,fun b hb t ht=>QiU (h.jp.st b hb t ht).1,fun b hb=>?_⟩
 ·have h1:=h.w b hb;have h2:=Qit b.chs;omega
 ·have he:=h.jp.e b hb;have hg:=h.rd.goals b hb;rcases he with he|he|he
  ·have e:b.e.op=46:=he.1;exact⟨by omega,fun h=>absurd e h,fun h=>by omega⟩
  ·have e:b.e.op=62:=he.1;refine⟨by omega,fun _=>hg b.e.one ?_,fun h=>by omega⟩;unfold goalsF;rw[if_pos e];simp
  ·have e:b.e.op=63:=he.1;refine⟨by omega,fun _=>hg b.e.one ?_,fun _=>hg b.e.two ?_⟩
   ·unfold goalsF;rw[if_neg (by omega),if_pos e];simp
   ·unfold goalsF;rw[if_neg (by omega),if_pos e];simp
def oldE(s:ByteArray):Nat:=if upE 40000 s=0 then (if (JQ (Qq s).bs).isSome then 5 else 0) else upE 40000 s
def Vw(s:ByteArray):Int:=if upE 40000 s=0 then (((JQ (Qq s).bs).getD 0:Nat):Int) else (rdF s).at_
theorem Qde(s:ByteArray)(w:World)(hs:s.size≤maxLen):
  Calls Tryz.prog 34 #[.string s] w fun x w'=>∃v,x=.returned (.tuple #[v,.int .i64 (oldE s),.int .i64 (Vw s)])∧Hid ((oldE s=0→PBs w' w.heap.size (Qq s).bs v)∧Below w.heap.size w w'):=by
 go_enter Tryz.func34,Tryz.ntmps34;go_wp2_with fail;refine(Qfy 40000 (by omega) s w hs).mono ?_;rintro x w1 ⟨v1,rfl,H1⟩;by_cases h0:upE 40000 s=0
 ·have HP:=Qc (H1.o.1 h0);obtain⟨h1,h2⟩:=K1 h0;have hR:=Ya h1;have hreg:=hR.reg (by omega);have h12:=hR.rd.le;have HREG:=Qc hreg;rw[h0]
  cases hn:JQ (Qq s).bs with
  | none=>
   have HE:Hid (oldE s=0∧Vw s=0):=⟨by rw[oldE,if_pos h0,hn];rfl,by rw[Vw,if_pos h0,hn];rfl⟩;have HNW:Hid (∀w',Calls Tryz.prog 61 #[v1] w' (fun x w''=>x=.returned (.tuple #[.int .i64 0,.bool false])∧Below w'.heap.size w' w'')∨True):=fun _=>.inr trivial;obtain⟨p1,c1,rfl⟩:=HP.o.slice;have HC:=Qc (QaX (Qq s).bs w.heap.size _ w1 HP.o (by omega) HREG.o);rw[hn]at HC;clear h0 h1 h2 hR hreg hn HNW;go_wp2_with fail;refine HC.o.mono ?_;rintro x w2 ⟨rfl,f2⟩;have R:Hid (PBs w2 w.heap.size (Qq s).bs (.slice p1 (Qq s).bs.length c1)∧Below w.heap.size w w2):=⟨HP.o.keeps (Qs.below f2),H1.o.2.trans (f2.mono H1.o.2.size)⟩;clear f2 HC;go_wp2_with fail
   go_ret3
   exact⟨_,by rw[HE.o.1,HE.o.2];rfl,fun _=>R.o.1,R.o.2⟩
  | some a=>
   have HE:Hid (oldE s=5∧Vw s=a):=⟨by rw[oldE,if_pos h0,hn];rfl,by rw[Vw,if_pos h0,hn];rfl⟩;obtain⟨p1,c1,rfl⟩:=HP.o.slice;have HC:=Qc (QaX (Qq s).bs w.heap.size _ w1 HP.o (by omega) HREG.o);rw[hn]at HC;clear h0 h1 h2 hR hreg hn;go_wp2_with fail;refine HC.o.mono ?_;rintro x w2 ⟨rfl,f2⟩;have F2:=Qc (H1.o.2.trans (f2.mono H1.o.2.size));clear f2 HC;go_wp2_with fail
   go_ret3
   exact⟨_,by rw[HE.o.1,HE.o.2];rfl,(fun h=>by rw[HE.o.1]at h;cases h),F2.o⟩
 ·have HE:Hid (oldE s=upE 40000 s∧Vw s=(rdF s).at_∧upE 40000 s≠0):=⟨by rw[oldE,if_neg h0],by rw[Vw,if_neg h0],h0⟩;have hd:((upE 40000 s:Int) != 0)=true:=by simp;omega
  clear h0;go_wp2_with fail
  go_ret3
  exact⟨_,by rw[HE.o.1,HE.o.2.1];rfl,(fun h=>by rw[HE.o.1]at h;exact absurd h HE.o.2.2),H1.o.2⟩
theorem Vv{s:ByteArray}(h:oldE s=0):upE 40000 s=0∧JQ (Qq s).bs=none:=by
 unfold oldE at h;by_cases h0:upE 40000 s=0
 ·rw[if_pos h0]at h;refine⟨h0,?_⟩
  cases hn:JQ (Qq s).bs with
  | none=>rfl
  | some x=>rw[hn]at h;cases h
 ·rw[if_neg h0]at h;exact absurd h h0
def spT(p:Nat×Nat):List UInt8:=Lib.decDigits p.1++58::rgT p.2
def srT:List (Nat×Nat)→List UInt8
 | []=>[]
 | p::ps=>spT p++(match ps with | []=>[] | _=>44::srT ps)
theorem JZ(p:Nat×Nat):srT [p]=spT p:=by simp[srT]
theorem Xx(p q:Nat×Nat)(ps:List (Nat×Nat)):srT (p::q::ps)=spT p++44::srT (q::ps):=rfl
def chT(c:ACh):List UInt8:=rgT c.to++64::srT c.src
def OkP(p:Nat×Nat):Prop:=p.1<10000∧p.2<10000
def OkC(c:ACh):Prop:=c.to<10000∧0<c.src.length∧∀p∈c.src,OkP p
structure Qjk(r:Cho)(gs rs:List Nat)(i:Nat):Prop where
 gs:r.gs.map (·.1)=gs
 rs:r.rs.map (·.1)=rs
 i:r.i=i
 bad:r.bad=-1
theorem Qbu{s:ByteArray}{c:Cho}{p:Nat×Nat}(hp:OkP p)(hb:c.bad=-1)(h:At s c.i (spT p))(hN:Nd s (c.i+(spT p).length)):
  Qjk (choR s c) (c.gs.map (·.1)++[p.1]) (c.rs.map (·.1)++[p.2]) (c.i+(spT p).length):=by
 obtain⟨hA,hB⟩:=ZC.1 h;obtain⟨n1,n2,n3⟩:=KF hp.1 hA (JR hB (by decide));have g1:gotI s (c.i+(Lib.decDigits p.1).length) (-1) 58=_:=JT (c:=58) hB;have m1:mustB s (c.i+(Lib.decDigits p.1).length) (-1) 58=_:=Jf (c:=58) hB;have el:c.i+(spT p).length=c.i+(Lib.decDigits p.1).length+1+(rgT p.2).length:=by
  unfold spT;rw[List.length_append,List.length_cons];omega
 rw[el]at hN ⊢;obtain⟨r1,r2,r3⟩:=JM hp.2 hB.2.2 hN;unfold choR;dsimp only;rw[hb,n2,n3,g1,m1];refine⟨?_,?_,r2,r3⟩
 ·show (c.gs++[(numN s c.i (-1),c.i)]).map (·.1)=_;rw[List.map_append,n1];rfl
 ·dsimp only;rw[List.map_append,r1];rfl
theorem NE{s:ByteArray}:∀(ps:List (Nat×Nat))(k:Nat)(c:Cho),(∀p∈ps,OkP p)→0<ps.length→ps.length≤k→c.bad=-1→∀l,At s c.i (srT ps++59::l) →
  Qjk (Zv s k c) (c.gs.map (·.1)++ps.map (·.1)) (c.rs.map (·.1)++ps.map (·.2)) (c.i+(srT ps).length)
 | [],k,c,_,h0,_,_,_,_=>absurd h0 (by simp)
 | [p],k,c,hp,_,hk,hb,l,h=>by
  obtain⟨k,rfl⟩:∃j,k=j+1:=⟨k-1,by simp at hk;omega⟩;rw[JZ]at h ⊢;obtain⟨hA,hB⟩:=ZC.1 h;have r:=Qbu (hp p (List.mem_cons_self ..)) hb hA (JR hB (by decide));have no:onF s (choR s c).i (choR s c).bad 44=false:=by rw[r.i,r.bad];exact Ze hB (by decide)
  have gi:gotI s (choR s c).i (choR s c).bad 44=(choR s c).i:=by rw[gotI,no];rfl
  rw[Zv,no,if_neg (by simp),gi];exact⟨r.gs,r.rs,r.i,r.bad⟩
 | p::q::ps,k,c,hp,_,hk,hb,l,h=>by
  obtain⟨k,rfl⟩:∃j,k=j+1:=⟨k-1,by simp at hk;omega⟩;rw[Xx,List.append_assoc,List.cons_append]at h;obtain⟨hA,hB⟩:=ZC.1 h;have r:=Qbu (hp p (List.mem_cons_self ..)) hb hA (JR hB (by decide));have on:onF s (choR s c).i (choR s c).bad 44=true:=by rw[r.i,r.bad];exact Jk (c:=44) hB
  have gi:gotI s (choR s c).i (choR s c).bad 44=c.i+(spT p).length+1:=by rw[gotI,on,if_pos rfl,r.i]
  rw[Zv,on,if_pos rfl,gi];have ih:=NE (q::ps) k ⟨(choR s c).gs,(choR s c).rs,c.i+(spT p).length+1,(choR s c).bad⟩ (fun x hx=>hp x (List.mem_cons_of_mem _ hx)) (by simp) (by simp at hk ⊢;omega) r.bad l hB.2.2;refine⟨?_,?_,?_,ih.bad⟩
  ·rw[ih.gs,r.gs,List.append_assoc];rfl
  ·rw[ih.rs,r.rs,List.append_assoc];rfl
  ·rw[ih.i,Xx,List.length_append,List.length_cons];show c.i+(spT p).length+1+(srT (q::ps)).length=_;omega
theorem QcB(l:List (Nat×Nat)):(l.map (·.1)).zip (l.map (·.2))=l:=by
 induction l with
 | nil=>rfl
 | cons x l ih=>rw[List.map_cons,List.map_cons,List.zip_cons_cons,ih]
theorem Qfo(ps:List (Nat×Nat)):ps.length≤(srT ps).length+1:=by
 induction ps with
 | nil=>simp
 | cons p ps ih=>
  cases ps with
  | nil=>simp
  | cons q ps=>simp only[Xx,List.length_append,List.length_cons]at ih ⊢;omega
def JU(l:List ACh):List UInt8:=l.flatMap fun c=>chT c++[59]
theorem Z8(c:ACh)(l:List ACh):JU (c::l)=chT c++59::JU l:=by simp[JU]
def bcT(b:ABk):List UInt8:=JU b.chs++(ZW b.sts++enT b.e)
structure Qjl(r:Blk)(b:ABk)(i:Nat):Prop where
 chs:r.b.chs.map QL=b.chs
 sts:r.b.sts.map QA=b.sts
 e:Zc r.b.e=b.e
 i:r.i=i
 bad:r.bad=-1
theorem Ra{s:ByteArray}{i0:Nat}{e:AEn}(he:OkE e):∀(sts:List ASt)(k i:Nat)(cacc:List QH)(acc:List Qy),(∀t∈sts,OkS t)→sts.length<k→At s i (ZW sts++enT e)→Nd s (i+(ZW sts++enT e).length) →
  (QG s i0 k cacc acc i (-1)).b.chs=cacc∧QgR ⟨⟨[],(QG s i0 k cacc acc i (-1)).b.sts,(QG s i0 k cacc acc i (-1)).b.e,0⟩,(QG s i0 k cacc acc i (-1)).i,(QG s i0 k cacc acc i (-1)).bad⟩ (acc.map QA++sts) e (i+(ZW sts++enT e).length)
 | [],k,i,cacc,acc,_,hk,h,hN=>by
  obtain⟨k,rfl⟩:∃j,k=j+1:=⟨k-1,by simp at hk;omega⟩;have h:At s i (enT e):=h;have hN:Nd s (i+(enT e).length):=hN;show _∧QgR _ (acc.map QA++[]) e (i+(enT e).length);rw[List.append_nil];obtain⟨op,a,one,two⟩:=e;rcases he with ⟨h1,h2,h3,h4⟩|⟨h1,h2,h3,h4⟩|⟨h1,h2,h3,h4⟩
  ·have h1:op=46:=h1;have h2:a=0:=h2;have h3:one=0:=h3;have h4:two=0:=h4;subst h1 h2 h3 h4;have on:onF s i (-1) 46=true:=Jk (c:=46) (l:=[]) h;rw[QG,if_pos (by omega),if_pos on];exact⟨rfl,⟨rfl,rfl,rfl,rfl,rfl⟩⟩
  ·have h1:op=62:=h1;have h2:a=0:=h2;have h4:two=0:=h4;subst h1 h2 h4;have h:At s i (62::Lib.decDigits one):=h;have n0:onF s i (-1) 46=false:=Ze h (by decide);have on:onF s i (-1) 62=true:=Jk (c:=62) h;have e2:i+(enT ⟨62,0,one,0⟩).length=i+1+(Lib.decDigits one).length:=by
    show i+(62::Lib.decDigits one).length=_;rw[List.length_cons];omega
   rw[e2]at hN ⊢;obtain⟨q1,q2,q3⟩:=KF h3 h.2.2 hN;rw[QG,if_pos (by omega),if_neg (by rw[n0];simp),if_pos on];exact⟨rfl,⟨rfl,rfl,by show AEn.mk _ _ _ _=_;rw[show (numN s (i+1) (-1),i+1).1=one from q1],q2,q3⟩⟩
  ·have h1:op=63:=h1;subst h1;have h:At s i (rgT a++63::(Lib.decDigits one++58::Lib.decDigits two)):=h;have n0:onF s i (-1) 46=false:=Xi h (by decide);have n1:onF s i (-1) 62=false:=Xi h (by decide);have n2:onF s i (-1) 33=false:=Xi h (by decide);obtain⟨hA,hB⟩:=ZC.1 h;obtain⟨r1,r2,r3⟩:=JM h2 hA (JR hB (by decide));have n3:onF s (i+(rgT a).length) (-1) 61=false:=Ze hB (by decide);have n4:onF s (i+(rgT a).length) (-1) 64=false:=Ze hB (by decide);have g1:gotI s (i+(rgT a).length) (-1) 63=_:=JT (c:=63) hB;have m1:mustB s (i+(rgT a).length) (-1) 63=_:=Jf (c:=63) hB;obtain⟨hC,hD⟩:=ZC.1 hB.2.2;obtain⟨p1,p2,p3⟩:=KF h3 hC (JR hD (by decide));have g2:gotI s (i+(rgT a).length+1+(Lib.decDigits one).length) (-1) 58=_:=JT (c:=58) hD;have m2:mustB s (i+(rgT a).length+1+(Lib.decDigits one).length) (-1) 58=_:=Jf (c:=58) hD;have e2:i+(enT ⟨63,a,one,two⟩).length=i+(rgT a).length+1+(Lib.decDigits one).length+1+(Lib.decDigits two).length:=by
    show i+(rgT a++63::(Lib.decDigits one++58::Lib.decDigits two)).length=_;simp only[List.length_append,List.length_cons];omega
   rw[e2]at hN ⊢;obtain⟨q1,q2,q3⟩:=KF h4 hD.2.2 hN;rw[QG,if_pos (by omega),if_neg (by rw[n0];simp),if_neg (by rw[n1];simp),if_neg (by rw[n2];simp)];dsimp only;rw[r2,r3,if_neg (by rw[n3];simp),if_neg (by rw[n4];simp)];unfold braF;dsimp only;rw[g1,m1,p2,p3,g2,m2];exact⟨rfl,⟨rfl,rfl,by show AEn.mk _ _ _ _=_;rw[show (regN s i (-1),i).1=a from r1,show (numN s (i+(rgT a).length+1) (-1),i+(rgT a).length+1).1=one from p1];exact congrArg (AEn.mk 63 a one) q1,q2,q3⟩⟩
 | t::sts,k,i,cacc,acc,ht,hk,h,hN=>by
  obtain⟨k,rfl⟩:∃j,k=j+1:=⟨k-1,by simp at hk;omega⟩;rw[XJ,List.append_assoc,List.cons_append]at h hN ⊢;obtain⟨hA,hB⟩:=ZC.1 h;have ok:=ht t (List.mem_cons_self ..);have gB:gotI s (i+(stT t).length) (-1) 59=_:=JT (c:=59) hB;have mB:mustB s (i+(stT t).length) (-1) 59=_:=Jf (c:=59) hB;have el:i+(stT t++59::(ZW sts++enT e)).length=i+(stT t).length+1+(ZW sts++enT e).length:=by
   rw[List.length_append,List.length_cons];omega
  rw[el]at hN ⊢;by_cases hout:UV t
  ·obtain⟨a,rfl⟩:∃a,t=.out a:=by
    cases t with
    | out a=>exact⟨a,rfl⟩
    | _=>exact absurd hout (by simp[UV])
   have h:At s i (33::(rgT a++59::(ZW sts++enT e))):=h;have n0:onF s i (-1) 46=false:=Ze h (by decide);have n1:onF s i (-1) 62=false:=Ze h (by decide);have n2:onF s i (-1) 33=true:=Jk (c:=33) h;have le:i+(stT (.out a)).length=i+1+(rgT a).length:=by show i+(33::rgT a).length=_;rw[List.length_cons];omega
   rw[le]at gB mB hB hN ⊢;obtain⟨r1,r2,r3⟩:=JM ok (ZC.1 h.2.2).1 (JR hB (by decide));rw[QG,if_pos (by omega),if_neg (by rw[n0];simp),if_neg (by rw[n1];simp),if_pos n2];dsimp only;rw[r2,r3,gB,mB];have:=Ra (i0:=i0) he sts k (i+1+(rgT a).length+1) cacc (acc++[⟨33,(0,0),(regN s (i+1) (-1),i+1),(0,0),0⟩]) (fun t h=>ht t (List.mem_cons_of_mem _ h)) (by simp at hk;omega) hB.2.2 hN;have ea:(acc++[(⟨33,(0,0),(regN s (i+1) (-1),i+1),(0,0),0⟩:Qy)]).map QA++sts=acc.map QA++ASt.out a::sts:=by
    rw[List.map_append,List.append_assoc,r1];rfl
   rwa [ea]at this
  ·rw[Gp hout]at hA gB mB hB hN ⊢;have h':=h;rw[Gp hout,List.append_assoc]at h';have n0:onF s i (-1) 46=false:=Xi h' (by decide);have n1:onF s i (-1) 62=false:=Xi h' (by decide);have n2:onF s i (-1) 33=false:=Xi h' (by decide);obtain⟨hR,hG⟩:=ZC.1 h';have hG:At s (i+(rgT (toS t)).length) (61::(gvT t++59::(ZW sts++enT e))):=hG;obtain⟨r1,r2,r3⟩:=JM (QcJ ok) hR (JR hG (by decide));have o1:onF s (i+(rgT (toS t)).length) (-1) 61=true:=Jk (c:=61) hG;obtain⟨q1,q2,q3⟩:=Qek (tn:=regN s i (-1)) (ti:=i) ok hout hG.2.2 r1;have le:i+(rgT (toS t)++61::gvT t).length=i+(rgT (toS t)).length+1+(gvT t).length:=by rw[List.length_append,List.length_cons];omega
   rw[le]at gB mB hB hN ⊢;rw[QG,if_pos (by omega),if_neg (by rw[n0];simp),if_neg (by rw[n1];simp),if_neg (by rw[n2];simp)];dsimp only;rw[r2,r3,if_pos o1,q2,q3,gB,mB];have:=Ra (i0:=i0) he sts k (i+(rgT (toS t)).length+1+(gvT t).length+1) cacc (acc++[(givF s (regN s i (-1),i) (i+(rgT (toS t)).length+1) (-1)).st]) (fun t h=>ht t (List.mem_cons_of_mem _ h)) (by simp at hk;omega) hB.2.2 hN;have ea:(acc++[(givF s (regN s i (-1),i) (i+(rgT (toS t)).length+1) (-1)).st]).map QA++sts=acc.map QA++t::sts:=by
    rw[List.map_append,List.append_assoc,List.map_singleton,q1];rfl
   rwa [ea]at this
theorem Qg8{s:ByteArray}{i0:Nat}{sts:List ASt}{e:AEn}(hs:∀t∈sts,OkS t)(he:OkE e):∀(chs:List ACh)(k i:Nat)(cacc:List QH),(∀c∈chs,OkC c)→chs.length+sts.length<k→(∀c∈chs,c.src.length≤s.size+1)→At s i (JU chs++(ZW sts++enT e))→Nd s (i+(JU chs++(ZW sts++enT e)).length) →
  Qjl (QG s i0 k cacc [] i (-1)) ⟨cacc.map QL++chs,sts,e⟩ (i+(JU chs++(ZW sts++enT e)).length)
 | [],k,i,cacc,_,hk,_,h,hN=>by
  obtain⟨c1,r⟩:=Ra (i0:=i0) he sts k i cacc [] hs (by simpa using hk) h hN;refine⟨by rw[c1];simp,?_,r.e,r.i,r.bad⟩;have:=r.sts;simpa using this
 | c::chs,k,i,cacc,hc,hk,hz,h,hN=>by
  obtain⟨k,rfl⟩:∃j,k=j+1:=⟨k-1,by simp at hk;omega⟩;rw[Z8,List.append_assoc,List.cons_append]at h hN ⊢;obtain⟨hA,hB⟩:=ZC.1 h;have ok:=hc c (List.mem_cons_self ..);have h':=h;unfold chT at h';rw[List.append_assoc,List.cons_append]at h';have n0:onF s i (-1) 46=false:=Xi h' (by decide);have n1:onF s i (-1) 62=false:=Xi h' (by decide);have n2:onF s i (-1) 33=false:=Xi h' (by decide);obtain⟨hR,hG⟩:=ZC.1 h';obtain⟨r1,r2,r3⟩:=JM ok.1 hR (JR hG (by decide));have n3:onF s (i+(rgT c.to).length) (-1) 61=false:=Ze hG (by decide);have n4:onF s (i+(rgT c.to).length) (-1) 64=true:=Jk (c:=64) hG;have g4:gotI s (i+(rgT c.to).length) (-1) 64=_:=JT (c:=64) hG;have m4:mustB s (i+(rgT c.to).length) (-1) 64=_:=Jf (c:=64) hG;have q:=NE c.src (s.size+1) ⟨[],[],i+(rgT c.to).length+1,-1⟩ ok.2.2 ok.2.1 (hz c (List.mem_cons_self ..)) rfl _ hG.2.2;have eF:choF s (i+(rgT c.to).length) (-1)=Zv s (s.size+1) ⟨[],[],i+(rgT c.to).length+1,-1⟩:=by
   unfold choF;rw[g4,m4]
  rw[←eF]at q;have ei:(choF s (i+(rgT c.to).length) (-1)).i=i+(chT c).length:=by
   rw[q.i];unfold chT;rw[List.length_append,List.length_cons];show i+(rgT c.to).length+1+(srT c.src).length=_;omega
  have gB:gotI s (i+(chT c).length) (-1) 59=_:=JT (c:=59) hB;have mB:mustB s (i+(chT c).length) (-1) 59=_:=Jf (c:=59) hB;rw[QG,if_pos (by omega),if_neg (by rw[n0];simp),if_neg (by rw[n1];simp),if_neg (by rw[n2];simp)];dsimp only;rw[r2,r3,if_neg (by rw[n3];simp),if_pos (by rw[n4];rfl),ei,q.bad,gB,mB];have el:i+(chT c++59::(JU chs++(ZW sts++enT e))).length=i+(chT c).length+1+(JU chs++(ZW sts++enT e)).length:=by
   rw[List.length_append,List.length_cons];omega
  rw[el]at hN ⊢;have ih:=Qg8 (i0:=i0) hs he chs k (i+(chT c).length+1) (cacc++[⟨(regN s i (-1),i),(choF s (i+(rgT c.to).length) (-1)).gs,(choF s (i+(rgT c.to).length) (-1)).rs⟩]) (fun x hx=>hc x (List.mem_cons_of_mem _ hx)) (by simp at hk;omega) (fun x hx=>hz x (List.mem_cons_of_mem _ hx)) hB.2.2 hN;have ea:(cacc++[(⟨(regN s i (-1),i),(choF s (i+(rgT c.to).length) (-1)).gs,(choF s (i+(rgT c.to).length) (-1)).rs⟩:QH)]).map QL++chs=cacc.map QL++c::chs:=by
   rw[List.map_append,List.append_assoc]
   congr 1
   have eg:=q.gs;have er:=q.rs;show [QL _]++chs=c::chs;have:QL ⟨(regN s i (-1),i),(choF s (i+(rgT c.to).length) (-1)).gs,(choF s (i+(rgT c.to).length) (-1)).rs⟩=c:=by
    unfold QL;dsimp only;rw[eg,er,r1];show ACh.mk c.to ((c.src.map (·.1)).zip (c.src.map (·.2)))=c;rw[QcB]
   rw[this];rfl
  rwa [ea]at ih
def pcT:List ABk→List UInt8
 | []=>[]
 | b::bs=>bcT b++(match bs with | []=>[] | _=>124::pcT bs)
theorem J5(b:ABk):pcT [b]=bcT b:=by simp[pcT]
theorem XU(b c:ABk)(bs:List ABk):pcT (b::c::bs)=bcT b++124::pcT (c::bs):=rfl
structure OkX(b:ABk):Prop where
 chs:∀c∈b.chs,OkC c
 sts:∀t∈b.sts,OkS t
 e:OkE b.e
theorem Qbq(l:List ACh):l.length≤(JU l).length:=by
 induction l with
 | nil=>exact Nat.le_refl _
 | cons t l ih=>rw[Z8,List.length_append,List.length_cons,List.length_cons];omega
theorem Qex(l:List ACh):∀c∈l,c.src.length≤(JU l).length+1:=by
 induction l with
 | nil=>intro c hc;simp at hc
 | cons d l ih=>
  intro c hc;rw[Z8,List.length_append,List.length_cons];rcases List.mem_cons.1 hc with rfl|hc
  ·have:=Qfo c.src;unfold chT;rw[List.length_append,List.length_cons];omega
  ·have:=ih c hc;omega
theorem QbA{s:ByteArray}{b:ABk}(ob:OkX b){i:Nat}(hi:i+(bcT b).length≤s.size)(h:At s i (bcT b))(hN:Nd s (i+(bcT b).length)):Zy (blkF s i (-1)).b=b∧(blkF s i (-1)).i=i+(bcT b).length∧(blkF s i (-1)).bad=-1:=by
 have hl:b.chs.length+b.sts.length<s.size+1:=by
  have h1:=Qbq b.chs;have h2:=Qff b.sts;unfold bcT at hi;rw[List.length_append,List.length_append]at hi;omega
 have r:=Qg8 (i0:=i) ob.sts ob.e b.chs (s.size+1) i [] ob.chs hl (fun c hc=>by
  have h1:=Qex b.chs c hc;unfold bcT at hi;rw[List.length_append]at hi;omega) h hN
 have r:Qjl (blkF s i (-1)) ⟨[].map QL++b.chs,b.sts,b.e⟩ (i+(bcT b).length):=r;refine⟨?_,r.i,r.bad⟩;have e1:=r.chs;have e2:=r.sts;have e3:=r.e;show ABk.mk _ _ _=b;rw[e1,e2,e3];rfl
theorem Qdq{s:ByteArray}:∀(bs:List ABk)(k i:Nat)(acc:List Ql),(∀b∈bs,OkX b)→0<bs.length→bs.length≤k→At s i (pcT bs)→i+(pcT bs).length=s.size →
  (ZU s k ⟨acc,i,-1⟩).bs.map Zy=acc.map Zy++bs∧(ZU s k ⟨acc,i,-1⟩).i=s.size∧(ZU s k ⟨acc,i,-1⟩).bad=-1
 | [],k,i,acc,_,h0,_,_,_=>absurd h0 (by simp)
 | [b],k,i,acc,hb,_,hk,h,hs=>by
  obtain⟨k,rfl⟩:∃j,k=j+1:=⟨k-1,by simp at hk;omega⟩;rw[J5]at h hs;obtain⟨eb,ei,ed⟩:=QbA (hb b (List.mem_cons_self ..)) (by omega) h (QhX hs);rw[hs]at ei;rw[ZU];dsimp only;rw[ei,ed,if_neg (by rw[Qdy rfl];simp)];refine⟨?_,?_,rfl⟩
  ·show (acc++[(blkF s i (-1)).b]).map Zy=_;rw[List.map_append,List.map_singleton,eb]
  ·show gotI s s.size (-1) 124=_;rw[gotI,Qdy rfl];rfl
 | b::c::bs,k,i,acc,hb,_,hk,h,hs=>by
  obtain⟨k,rfl⟩:∃j,k=j+1:=⟨k-1,by simp at hk;omega⟩;rw[XU]at h hs;obtain⟨hA,hB⟩:=ZC.1 h;rw[List.length_append,List.length_cons]at hs;obtain⟨eb,ei,ed⟩:=QbA (hb b (List.mem_cons_self ..)) (by omega) hA (JR hB (by decide));have on:onF s (i+(bcT b).length) (-1) 124=true:=Jk (c:=124) hB;have gt:gotI s (i+(bcT b).length) (-1) 124=i+(bcT b).length+1:=JT (c:=124) hB;rw[ZU];dsimp only;rw[ei,ed,if_pos on,gt];have ih:=Qdq (c::bs) k (i+(bcT b).length+1) (acc++[(blkF s i (-1)).b]) (fun x hx=>hb x (List.mem_cons_of_mem _ hx)) (by simp) (by simp at hk ⊢;omega) hB.2.2 (by omega);rw[List.map_append,List.map_singleton,eb,List.append_assoc]at ih;exact ih
theorem QfP{bs:List ABk}(hb:∀b∈bs,OkX b)(h0:0<bs.length)(s:ByteArray)(hs:s=⟨(pcT bs).toArray⟩):
  absP (Qq s).bs=bs∧QR s=-1:=by
 have hz:s.size=(pcT bs).length:=by subst hs;simp[ByteArray.size]
 have hA:At s 0 (pcT bs):=by subst hs;exact Qe7 _
 have hl:bs.length≤s.size+1:=by
  rw[hz];clear hs hz hA h0 hb
  induction bs with
  | nil=>simp
  | cons b bs ih=>
   cases bs with
   | nil=>simp
   | cons c bs=>simp only[XU,List.length_append,List.length_cons]at ih ⊢;omega
 obtain⟨h1,h2,h3⟩:=Qdq bs (s.size+1) 0 [] hb h0 hl hA (by rw[hz];omega);refine⟨h1,?_⟩;have h2:(Qq s).i=s.size:=h2;have h3:(Qq s).bad=-1:=h3;rw[QR,h2,if_neg (by omega),h3]
theorem UP{a b:Nat}(h:a≤b):Lib.nDigits a≤Lib.nDigits b:=by
 induction b using Nat.strongRecOn generalizing a with
 | _ b ih=>
  by_cases ha:a<10
  ·rw[Lib.nDigits_small ha];exact Lib.nDigits_pos b
  ·rw[Lib.nDigits_big ha,Lib.nDigits_big (u:=b) (by omega)];have:=ih (b / 10) (by omega) (a:=a / 10) (by omega);omega
theorem Z5{a b:Nat}(h:a≤b):(rgT a).length≤(rgT b).length:=by
 rw[rgT,rgT,List.length_cons,List.length_cons,Lib.decDigits_length,Lib.decDigits_length];have:=UP h;omega
theorem Qhr{f:Nat→Nat}(hf:∀x,f x≤x)(t:ASt):(stT (rnS f t)).length≤(stT t).length:=by
 cases t with
 | val t n=>
  have:=Z5 (hf t);simp only[rnS,stT,gvT,List.length_append,List.length_cons];omega
 | cp t a=>
  have:=Z5 (hf t);have:=Z5 (hf a);simp only[rnS,stT,gvT,List.length_append,List.length_cons];omega
 | op o t a b=>
  have:=Z5 (hf t);have:=Z5 (hf a);have:=Z5 (hf b);simp only[rnS,stT,gvT,List.length_append,List.length_cons];omega
 | inp t=>
  have:=Z5 (hf t);simp only[rnS,stT,gvT,List.length_append,List.length_cons];omega
 | out a=>
  have:=Z5 (hf a);simp only[rnS,stT,List.length_cons];omega
theorem Qet{f:Nat→Nat}(hf:∀x,f x≤x)(e:AEn):(enT (rnE f e)).length≤(enT e).length:=by
 unfold enT;rw[YJ,GD,GC];split
 ·exact Nat.le_refl _
 ·split
  ·exact Nat.le_refl _
  ·have:(rnE f e).a≤e.a:=by unfold rnE;split<;>simp[hf]
   have:=Z5 this;simp only[List.length_append,List.length_cons];omega
theorem QcT{g:Nat×Nat→Nat×Nat}(h1:∀p,(g p).1=p.1)(h2:∀p,(g p).2≤p.2):∀(l:List (Nat×Nat)),(srT (l.map g)).length≤(srT l).length
 | []=>Nat.le_refl _
 | [p]=>by
  rw[List.map_cons,List.map_nil,JZ,JZ];have:=Z5 (h2 p);simp only[spT,List.length_append,List.length_cons,h1];omega
 | p::q::l=>by
  have ih:=QcT h1 h2 (q::l);rw[List.map_cons]at ih;rw[List.map_cons,List.map_cons,Xx,Xx];have:=Z5 (h2 p);simp only[spT,List.length_append,List.length_cons,h1]at ih ⊢;omega
theorem Qiu{co:Nat→Bool}{f:Nat→Nat}(hf:∀x,f x≤x)(c:ACh):(chT (rnC co f c)).length≤(chT c).length:=by
 have h1:=Z5 (hf c.to);have h2:=QcT (g:=fun p=>(p.1,if co p.1 then f p.2 else 0)) (fun _=>rfl) (fun p=>by
  show (if co p.1 then f p.2 else 0)≤p.2;split
  ·exact hf _
  ·exact Nat.zero_le _) c.src
 simp only[chT,rnC,List.length_append,List.length_cons];omega
theorem Gg{f:Nat→Nat}(hf:∀x,f x≤x)(p:ASt→Bool):∀(l:List ASt),(ZW ((l.filter p).map (rnS f))).length≤(ZW l).length
 | []=>Nat.le_refl _
 | t::l=>by
  have ih:=Gg hf p l;have:=Qhr hf t
  cases h:p t with
  | true=>rw[List.filter_cons_of_pos h,List.map_cons,XJ,XJ];simp only[List.length_append,List.length_cons];omega
  | false=>rw[List.filter_cons_of_neg (by rw[h];decide),XJ];simp only[List.length_append,List.length_cons];omega
theorem Qbr{co:Nat→Bool}{f:Nat→Nat}(hf:∀x,f x≤x)(p:ACh→Bool):∀(l:List ACh),(JU ((l.filter p).map (rnC co f))).length≤(JU l).length
 | []=>Nat.le_refl _
 | t::l=>by
  have ih:=Qbr (co:=co) hf p l;have:=Qiu (co:=co) hf t
  cases h:p t with
  | true=>rw[List.filter_cons_of_pos h,List.map_cons,Z8,Z8];simp only[List.length_append,List.length_cons];omega
  | false=>rw[List.filter_cons_of_neg (by rw[h];decide),Z8];simp only[List.length_append,List.length_cons];omega
theorem QcL(p:ASt→Bool)(l:List ASt):(ZW (l.filter p)).length≤(ZW l).length:=by
 have:=Gg (f:=fun x=>x) (fun _=>Nat.le_refl _) p l;rw[List.map_congr_left (g:=id) fun t _=>Qc8 t,List.map_id]at this;exact this
theorem NB(p:ACh→Bool):∀(l:List ACh),(JU (l.filter p)).length≤(JU l).length
 | []=>Nat.le_refl _
 | t::l=>by
  have ih:=NB p l
  cases h:p t with
  | true=>rw[List.filter_cons_of_pos h,Z8,Z8];simp only[List.length_append,List.length_cons];omega
  | false=>rw[List.filter_cons_of_neg (by rw[h];decide),Z8];simp only[List.length_append,List.length_cons];omega
theorem Qdo:∀{l k:List ABk},l.length=k.length→(∀i (h1:i<l.length)(h2:i<k.length),(bcT l[i]).length≤(bcT k[i]).length)→(pcT l).length≤(pcT k).length
 | [],[],_,_=>Nat.le_refl _
 | [],b::k,h,_=>by simp at h
 | a::l,[],h,_=>by simp at h
 | [a],[b],_,h2=>by
  rw[J5,J5];exact h2 0 (by simp) (by simp)
 | [a],b::c::k,h,_=>by simp at h
 | a::d::l,[b],h,_=>by simp at h
 | a::d::l,b::c::k,h,h2=>by
  have ih:=Qdo (l:=d::l) (k:=c::k) (by simpa using h) (fun i h3 h4=>h2 (i+1) (by simpa using h3) (by simpa using h4));have:=h2 0 (by simp) (by simp);have this:(bcT a).length≤(bcT b).length:=this;rw[XU,XU];simp only[List.length_append,List.length_cons]at ih ⊢;omega
theorem QfW(b:ABk):(bcT (Y8 b)).length≤(bcT b).length:=by
 have:=Qet (f:=fun _=>0) (fun _=>Nat.zero_le _) b.e;simp only[bcT,Y8,JU,ZW,List.flatMap_nil,List.length_append,List.length_nil];omega
theorem QcI{co:Nat→Bool}{f:ABk→ABk}(hf:∀b,(bcT (f b)).length≤(bcT b).length)(bs:List ABk):(pcT (trA co f bs)).length≤(pcT bs).length:=by
 refine Qdo (JY _ _ _) fun i h1 h2=>?_;have:(trA co f bs)[i]=if co i then f bs[i] else Y8 bs[i]:=by simp[trA]
 rw[this];split
 ·exact hf _
 ·exact QfW _
theorem Qh3(co:Nat→Bool)(st:Nat→Nat)(bs:List ABk):(pcT (mgA co st bs)).length≤(pcT bs).length:=by
 refine QcI (fun b=>?_) bs;have h1:=Qbr (co:=co) (f:=nm st) (fun x=>(YE st x).2) (fun c=>rt st c.to==c.to) b.chs;have h2:=Gg (f:=nm st) (fun x=>(YE st x).2) (fun t=>!WX t) b.sts;have h3:=Qet (f:=nm st) (fun x=>(YE st x).2) b.e;simp only[bcT,mgB,List.length_append];omega
theorem Qip(co W:Nat→Bool)(bs:List ABk):(pcT (drA co W bs)).length≤(pcT bs).length:=by
 refine QcI (fun b=>?_) bs;have h1:=NB (fun c=>W c.to) b.chs;have h2:=QcL (JG W) b.sts;simp only[bcT,drB,List.length_append];omega
theorem QhS{f:Nat→Nat}(hf:∀x,f x≤x){t:ASt}(h:OkS t):OkS (rnS f t):=by
 cases t with
 | val t n=>exact⟨Nat.lt_of_le_of_lt (hf _) h.1,h.2⟩
 | cp t a=>exact⟨Nat.lt_of_le_of_lt (hf _) h.1,Nat.lt_of_le_of_lt (hf _) h.2⟩
 | op o t a b=>exact⟨h.1,Nat.lt_of_le_of_lt (hf _) h.2.1,Nat.lt_of_le_of_lt (hf _) h.2.2.1,Nat.lt_of_le_of_lt (hf _) h.2.2.2⟩
 | inp t=>exact Nat.lt_of_le_of_lt (hf t) h
 | out a=>exact Nat.lt_of_le_of_lt (hf a) h
theorem Qdz{f:Nat→Nat}(hf:∀x,f x≤x){e:AEn}(h:OkE e):OkE (rnE f e):=by
 unfold rnE;split
 ·rename_i h1;rcases h with ⟨h,_⟩|⟨h,_⟩|⟨h,h2,h3⟩
  ·omega
  ·omega
  ·exact .inr (.inr ⟨h,Nat.lt_of_le_of_lt (hf _) h2,h3⟩)
 ·exact h
theorem QhT{co:Nat→Bool}{f:Nat→Nat}(hf:∀x,f x≤x){c:ACh}(h:OkC c):OkC (rnC co f c):=by
 refine⟨Nat.lt_of_le_of_lt (hf _) h.1,by simpa[rnC] using h.2.1,fun p hp=>?_⟩;obtain⟨q,hq,rfl⟩:=List.mem_map.1 hp;refine⟨(h.2.2 q hq).1,?_⟩;show (if co q.1 then f q.2 else 0)<10000;split
 ·exact Nat.lt_of_le_of_lt (hf _) (h.2.2 q hq).2
 ·omega
theorem QhU{b:ABk}(h:OkX b):OkX (Y8 b):=⟨fun c hc=>by simp[Y8]at hc,fun c hc=>by simp[Y8]at hc,Qdz (fun _=>Nat.zero_le _) h.e⟩
theorem QgS{co:Nat→Bool}{f:ABk→ABk}(hf:∀b,OkX b→OkX (f b)){bs:List ABk}(h:∀b∈bs,OkX b):∀b∈trA co f bs,OkX b:=fun b hb=>by
 unfold trA at hb;rw[List.mem_mapIdx]at hb;obtain⟨i,hi,rfl⟩:=hb;split
 ·exact hf _ (h _ (List.getElem_mem hi))
 ·exact QhU (h _ (List.getElem_mem hi))
theorem Qh2{co:Nat→Bool}{st:Nat→Nat}{bs:List ABk}(h:∀b∈bs,OkX b):∀b∈mgA co st bs,OkX b:=QgS (fun b hb=>by
 refine⟨fun c hc=>?_,fun t ht=>?_,Qdz (fun x=>(YE st x).2) hb.e⟩
 ·obtain⟨d,hd,rfl⟩:=List.mem_map.1 hc;exact QhT (fun x=>(YE st x).2) (hb.chs d (List.mem_filter.1 hd).1)
 ·obtain⟨d,hd,rfl⟩:=List.mem_map.1 ht;exact QhS (fun x=>(YE st x).2) (hb.sts d (List.mem_filter.1 hd).1)) h
theorem Qio{co W:Nat→Bool}{bs:List ABk}(h:∀b∈bs,OkX b):∀b∈drA co W bs,OkX b:=QgS (f:=drB W) (fun _ hb=>
 ⟨fun c hc=>hb.chs c (List.mem_filter.1 hc).1,fun t ht=>hb.sts t (List.mem_filter.1 ht).1,hb.e⟩) h
theorem QaY:∀(k n:Nat),n<10 ^ (k+1)→Lib.nDigits n≤k+1
 | 0,n,h=>by rw[Lib.nDigits_small (by simpa using h)];exact Nat.le_refl _
 | k+1,n,h=>by
  by_cases hn:n<10
  ·rw[Lib.nDigits_small hn];omega
  ·rw[Lib.nDigits_big hn];have:=QaY k (n / 10) (by rw[Nat.pow_succ]at h;omega);omega
theorem UN{s bad fm}:∀(k i n:Nat),fm≤i→n<10 ^ (i-fm)→(QY s bad fm k i n).1<10 ^ ((QY s bad fm k i n).2-fm)∧i≤(QY s bad fm k i n).2
 | 0,i,n,_,h=>⟨h,Nat.le_refl _⟩
 | k+1,i,n,hi,h=>by
  rw[QY];by_cases hd:(Q9 s i bad&&(i==fm||byt s fm != 48))=true
  ·rw[if_pos hd];have h9:byt s i-48≤9:=by
    rw[Bool.and_eq_true]at hd;have:=hd.1;simp[Q9]at this;omega
   have ih:=UN (s:=s) (bad:=bad) (fm:=fm) k (i+1) (10*n+(byt s i-48)) (by omega) (by
    rw[show i+1-fm=(i-fm)+1 by omega,Nat.pow_succ];omega)
   exact⟨ih.1,by omega⟩
  ·rw[if_neg hd];exact⟨h,Nat.le_refl _⟩
theorem KE{s i bad}(h:Zd s i bad<0):i+(Lib.decDigits (numN s i bad)).length≤numI s i bad:=by
 obtain⟨_,h2,_⟩:=XY h;unfold Zd at h
 cases ho:Q9 s i bad with
 | true=>
  rw[Lib.decDigits_length];rw[numI,ho,if_pos rfl]at h2;rw[numN,numI,ho,if_pos rfl,if_pos rfl];have:=(UN (s:=s) (bad:=bad) (fm:=i) 4 i 0 (Nat.le_refl _) (by simp)).1;have h3:=QaY ((QY s bad i 4 i 0).2-i-1) (QY s bad i 4 i 0).1 (by rw[show (QY s bad i 4 i 0).2-i-1+1=(QY s bad i 4 i 0).2-i by omega];exact this);omega
 | false=>rw[ho,if_neg (by simp)]at h;exact absurd h JA
theorem J1{s i bad}(h:regB s i bad<0):i+(rgT (regN s i bad)).length≤regI s i bad:=by
 obtain⟨h1,_,_⟩:=XY h;obtain⟨_,k2,_⟩:=Zg h1;have:=KE h;unfold regN regI;rw[rgT,List.length_cons];omega
theorem Qgq{s to i bad}(h:(givF s to i bad).bad<0):i+(gvT (QA (givF s to i bad).st)).length≤(givF s to i bad).i:=by
 revert h;unfold givF;by_cases h1:onF s i bad 63=true
 ·rw[if_pos h1];intro _;exact Nat.le_refl _
 rw[if_neg h1];by_cases h2:onF s i bad 114=true
 ·rw[if_pos h2];by_cases h3:opC s (regI s i bad) (regB s i bad)=0
  ·dsimp only;rw[if_pos h3];intro h;have b1:=GH h;have c2:=J1 b1;have c4:regI s i bad≤opI s (regI s i bad) (regB s i bad):=QaT;show i+(rgT (regN s i bad)).length≤opI s (regI s i bad) (regB s i bad);omega
  ·dsimp only;rw[if_neg h3];intro h;have d2:=J1 h;obtain⟨d1,_,_⟩:=XR h;have b1:=GH d1;have b2:=QaS h3;have c2:=J1 b1;generalize hI:opI s (regI s i bad) (regB s i bad)=I at *;have hR:∀o,o=43∨o=45∨o=42∨o=60→i+(gvT (QA ⟨o,to,(regN s i bad,i),(regN s I (opB s (regI s i bad) (regB s i bad)),I),0⟩)).length≤regI s I (opB s (regI s i bad) (regB s i bad)):=by
    intro o ho;have e1:QA ⟨o,to,(regN s i bad,i),(regN s I (opB s (regI s i bad) (regB s i bad)),I),0⟩=.op o to.1 (regN s i bad) (regN s I (opB s (regI s i bad) (regB s i bad))):=by
     unfold QA;rw[if_neg (by show ¬o=118;omega),if_neg (by show ¬o=99;omega),if_neg (by show ¬o=33;omega),if_neg (by show ¬o=63;omega)]
    rw[e1];simp only[gvT,List.length_append,List.length_cons];omega
   refine hR _ ?_;rcases Qdw s (regI s i bad) (regB s i bad) with e|e|e|e|e
   ·exact absurd e h3
   ·exact .inl e
   ·exact .inr (.inl e)
   ·exact .inr (.inr (.inl e))
   ·exact .inr (.inr (.inr e))
 rw[if_neg h2];by_cases h4:onF s i bad 45=true
 ·rw[if_pos h4];dsimp only;intro h;have c2:=KE h;show i+(Lib.itoa (-(numN s (i+1) _:Int))).length≤_;generalize numN s (i+1) (if onF s (i+1) bad 48=true then X0 (i+1) bad else bad)=n at *;unfold Lib.itoa;split
  ·rw[List.length_cons,show (-(n:Int)).natAbs=n by omega];omega
  ·rw[show (-(n:Int)).toNat=0 by omega];have:=UP (Nat.zero_le n);rw[Lib.decDigits_length]at c2 ⊢;omega
 ·rw[if_neg h4];dsimp only;intro h;have c2:=KE h;show i+(Lib.itoa (numN s i bad:Int)).length≤_;unfold Lib.itoa;rw[if_neg (by omega),Int.toNat_natCast];exact c2
theorem RB:∀(l:List (Nat×Nat))(p:Nat×Nat),(srT (l++[p])).length=(srT l).length+(if l=[] then 0 else 1)+(spT p).length
 | [],p=>by rw[List.nil_append,JZ,if_pos rfl];simp[srT]
 | [q],p=>by
  show (srT (q::p::[])).length=_;rw[Xx,JZ,JZ,if_neg (by simp),List.length_append,List.length_cons];omega
 | q::x::l,p=>by
  have ih:=RB (x::l) p;rw[if_neg (by simp)]at ih ⊢;rw[List.cons_append,List.cons_append]at *;rw[Xx,Xx,List.length_append,List.length_append,List.length_cons,List.length_cons];omega
def prs(c:Cho):List (Nat×Nat):=(c.gs.map (·.1)).zip (c.rs.map (·.1))
theorem Ui{s:ByteArray}{i1:Nat}:∀(k:Nat)(c:Cho),(Zv s k c).bad<0→c.rs.length=c.gs.length→i1+(srT (prs c)).length+(if prs c=[] then 0 else 1)≤c.i →
  i1+(srT (prs (Zv s k c))).length≤(Zv s k c).i
 | 0,c,_,_,hi=>by show i1+(srT (prs c)).length≤c.i;omega
 | k+1,c,h,hl,hi=>by
  rw[Zv]at h ⊢;have hb:(choR s c).bad<0:=by
   cases ho:onF s (choR s c).i (choR s c).bad 44 with
   | true=>exact(QV ho).1
   | false=>rw[ho,if_neg (by simp)]at h;exact h
  have hb':regB s (gotI s (numI s c.i c.bad) (Zd s c.i c.bad) 58) (mustB s (numI s c.i c.bad) (Zd s c.i c.bad) 58)<0:=hb;have l1:=J1 hb';obtain⟨a1,_,_⟩:=XR hb';obtain⟨b1,b2,_⟩:=Zg a1;have l2:=KE b1;have e1:prs (choR s c)=prs c++[(numN s c.i c.bad,regN s (gotI s (numI s c.i c.bad) (Zd s c.i c.bad) 58) (mustB s (numI s c.i c.bad) (Zd s c.i c.bad) 58))]:=by
   have eg:(choR s c).gs=c.gs++[(numN s c.i c.bad,c.i)]:=rfl;have er:(choR s c).rs=c.rs++[(regN s (gotI s (numI s c.i c.bad) (Zd s c.i c.bad) 58) (mustB s (numI s c.i c.bad) (Zd s c.i c.bad) 58),gotI s (numI s c.i c.bad) (Zd s c.i c.bad) 58)]:=rfl;rw[prs,eg,er,List.map_append,List.map_append,List.zip_append (by simp[hl])];rfl
  have e2:i1+(srT (prs (choR s c))).length≤(choR s c).i:=by
   rw[e1,RB];show _≤regI s _ _;rw[spT,List.length_append,List.length_cons];dsimp only;omega
  have e3:prs (choR s c)≠[]:=by rw[e1];simp
  cases ho:onF s (choR s c).i (choR s c).bad 44 with
  | true=>
   rw[ho,if_pos rfl]at h;rw[if_pos rfl];have eg:gotI s (choR s c).i (choR s c).bad 44=(choR s c).i+1:=by rw[gotI,ho];rfl
   rw[eg]at h ⊢;exact Ui k ⟨(choR s c).gs,(choR s c).rs,(choR s c).i+1,(choR s c).bad⟩ h (by simp[choR,hl]) (by
    show i1+(srT (prs (choR s c))).length+(if prs (choR s c)=[] then 0 else 1)≤(choR s c).i+1;rw[if_neg e3];omega)
  | false=>
   have eg:gotI s (choR s c).i (choR s c).bad 44=(choR s c).i:=by rw[gotI,ho];rfl
   rw[if_neg (by simp),eg];exact e2
theorem QgA{s i bad}(h:(choF s i bad).bad<0):i+1+(srT (prs (choF s i bad))).length≤(choF s i bad).i:=by
 obtain⟨a1,_⟩:=Uh (s:=s) (i1:=gotI s i bad 64) (s.size+1) { gs:=[],rs:=[],i:=gotI s i bad 64,bad:=mustB s i bad 64 } h (by simp) List.Pairwise.nil Wi.nil;obtain⟨_,b2,_⟩:=Zg a1;have key:=Ui (s:=s) (i1:=gotI s i bad 64) (s.size+1) { gs:=[],rs:=[],i:=gotI s i bad 64,bad:=mustB s i bad 64 } h rfl (by simp[prs,srT]);have key:gotI s i bad 64+(srT (prs (choF s i bad))).length≤(choF s i bad).i:=key;omega
theorem UA(l:List ASt)(t:ASt):(ZW (l++[t])).length=(ZW l).length+(stT t).length+1:=by simp[ZW];omega
theorem Qcl(l:List ACh)(c:ACh):(JU (l++[c])).length=(JU l).length+(chT c).length+1:=by simp[JU];omega
theorem Qfj{t:Qy}(h:t.op≠33):(stT (QA t)).length=(rgT t.to.1).length+1+(gvT (QA t)).length:=by
 unfold QA;by_cases h1:t.op=118
 ·rw[if_pos h1];simp only[stT,List.length_append,List.length_cons];omega
 rw[if_neg h1];by_cases h2:t.op=99
 ·rw[if_pos h2];simp only[stT,List.length_append,List.length_cons];omega
 rw[if_neg h2,if_neg h];by_cases h3:t.op=63
 ·rw[if_pos h3];simp only[stT,List.length_append,List.length_cons];omega
 rw[if_neg h3];simp only[stT,List.length_append,List.length_cons];omega
theorem KN{s:ByteArray}{i0 at_:Nat}:∀(k:Nat)(chs:List QH)(sts:List Qy)(i:Nat)(bad:Int),(QG s at_ k chs sts i bad).bad<0→i0+(JU (chs.map QL)).length+(ZW (sts.map QA)).length≤i→s.size<k+i→i≤s.size →
  i0+(bcT (Zy (QG s at_ k chs sts i bad).b)).length≤(QG s at_ k chs sts i bad).i
 | 0,chs,sts,i,bad,h,hj,hk,hi=>by omega
 | k+1,chs,sts,i,bad,h,hj,hk,hi=>by
  have eB:∀(e:Z3)(a:Nat),(bcT (Zy ⟨chs,sts,e,a⟩)).length=(JU (chs.map QL)).length+((ZW (sts.map QA)).length+(enT (Zc e)).length):=fun e a=>by
   rw[bcT,List.length_append,List.length_append];rfl
  revert h;rw[QG];by_cases hb:bad<0
  ·rw[if_pos hb];by_cases h1:onF s i bad 46=true
   ·rw[if_pos h1];intro h;rw[eB];show _+(_+(_+1))≤i+1;omega
   rw[if_neg h1];by_cases h2:onF s i bad 62=true
   ·rw[if_pos h2];intro h;have c2:=KE h;rw[eB];show _+(_+(_+(62::Lib.decDigits (numN s (i+1) bad)).length))≤numI s (i+1) bad;rw[List.length_cons];omega
   rw[if_neg h2];by_cases h3:onF s i bad 33=true
   ·rw[if_pos h3];dsimp only;intro h;by_cases hm:mustB s (regI s (i+1) bad) (regB s (i+1) bad) 59<0
    ·obtain⟨m1,m2,_⟩:=Zg hm;have r2:=J1 m1;have i1:i<s.size:=(QV h3).2.1;refine KN k _ _ _ _ h ?_ (by omega) (QS (Zs i1));rw[List.map_append,List.map_cons,List.map_nil,UA];show _+(_+(33::rgT (regN s (i+1) bad)).length+1)≤_;rw[List.length_cons];omega
    ·exfalso
     cases k with
     | zero=>exact hm h
     | succ k=>rw[QG,if_neg hm]at h;exact hm h
   rw[if_neg h3];dsimp only;by_cases h4:onF s (regI s i bad) (regB s i bad) 61=true
   ·rw[if_pos h4];intro h;by_cases hm:mustB s (givF s (regN s i bad,i) (regI s i bad+1) (regB s i bad)).i (givF s (regN s i bad,i) (regI s i bad+1) (regB s i bad)).bad 59<0
    ·obtain⟨m1,m2,_⟩:=Zg hm;have g:=Qej m1 (Z2 _ _ _);have gl:=Qgq m1;have r2:=J1 g.neg;have gi:=g.gi;refine KN k _ _ _ _ h ?_ (by omega) (QS (Vd (QV h4).2.1));rw[List.map_append,List.map_cons,List.map_nil,UA,Qfj g.to.1,g.to.2];dsimp only;omega
    ·exfalso
     cases k with
     | zero=>exact hm h
     | succ k=>rw[QG,if_neg hm]at h;exact hm h
   rw[if_neg h4];by_cases h5:(onF s (regI s i bad) (regB s i bad) 64&&sts.isEmpty)=true
   ·rw[if_pos h5];intro h;have hse:sts=[]:=by
     rw[Bool.and_eq_true]at h5;exact List.isEmpty_iff.1 h5.2
    subst hse;by_cases hm:mustB s (choF s (regI s i bad) (regB s i bad)).i (choF s (regI s i bad) (regB s i bad)).bad 59<0
    ·obtain⟨m1,m2,_⟩:=Zg hm;have cl:=QgA m1;obtain⟨c1,c2,_,_,c5⟩:=Qez m1;have r2:=J1 c1;refine KN k _ _ _ _ h ?_ (by omega) (QS (Wa (Zs hi)));rw[List.map_append,List.map_cons,List.map_nil,Qcl];have ec:(chT (QL ⟨(regN s i bad,i),(choF s (regI s i bad) (regB s i bad)).gs,(choF s (regI s i bad) (regB s i bad)).rs⟩)).length=(rgT (regN s i bad)).length+((srT (prs (choF s (regI s i bad) (regB s i bad)))).length+1):=by
      rw[chT,List.length_append,List.length_cons];rfl
     rw[ec];have e0:(ZW (([]:List Qy).map QA)).length=0:=rfl;rw[e0]at hj ⊢;omega
    ·exfalso
     cases k with
     | zero=>exact hm h
     | succ k=>rw[QG,if_neg hm]at h;exact hm h
   rw[if_neg h5];intro h;have h:(braF s (regN s i bad,i) (regI s i bad) (regB s i bad)).bad<0:=h;unfold braF at h;have d2:=KE h;obtain⟨d1,_,_⟩:=XY h;obtain⟨e1,e2,_⟩:=Zg d1;have f2:=KE e1;obtain⟨f1,_,_⟩:=XY e1;obtain⟨g1,g2,_⟩:=Zg f1;have r2:=J1 g1;rw[eB];show _+(_+(_+(enT ⟨63,regN s i bad,_,_⟩).length))≤(braF s (regN s i bad,i) (regI s i bad) (regB s i bad)).i;unfold braF;dsimp only;rw[enT,if_neg (show ¬(63:Nat)=46 by decide),if_neg (show ¬(63:Nat)=62 by decide)];simp only[List.length_append,List.length_cons];omega
  ·rw[if_neg hb];intro h;exact absurd h hb
theorem QeQ{s i bad}(h:(blkF s i bad).bad<0)(hi:i≤s.size):i+(bcT (Zy (blkF s i bad).b)).length≤(blkF s i bad).i:=
 KN (i0:=i) (s.size+1) [] [] i bad h (by simp[JU,ZW]) (by omega) hi
theorem RL:∀(l:List ABk)(b:ABk),(pcT (l++[b])).length=(pcT l).length+(if l.length=0 then 0 else 1)+(bcT b).length
 | [],p=>by rw[List.nil_append,J5];simp[pcT]
 | [q],p=>by
  show (pcT (q::p::[])).length=_;rw[XU,J5,J5,if_neg (by simp),List.length_append,List.length_cons];omega
 | q::x::l,p=>by
  have ih:=RL (x::l) p;rw[if_neg (by simp)]at ih ⊢;rw[List.cons_append,List.cons_append]at *;rw[XU,XU,List.length_append,List.length_append,List.length_cons,List.length_cons];omega
theorem UL{s:ByteArray}:∀(k:Nat)(p:Par),(ZU s k p).bad<0→(pcT (absP p.bs)).length+(if p.bs.length=0 then 0 else 1)≤p.i→p.i≤s.size→(pcT (absP (ZU s k p).bs)).length≤(ZU s k p).i
 | 0,p,_,hj,_=>by show (pcT (absP p.bs)).length≤p.i;omega
 | k+1,p,h,hj,hi=>by
  rw[ZU]at h ⊢;have hb:(blkF s p.i p.bad).bad<0:=by
   cases ho:onF s (blkF s p.i p.bad).i (blkF s p.i p.bad).bad 124 with
   | true=>exact(QV ho).1
   | false=>rw[ho,if_neg (by simp)]at h;exact h
  have hl:=QeQ hb hi;have e1:(pcT (absP (p.bs++[(blkF s p.i p.bad).b]))).length≤(blkF s p.i p.bad).i:=by
   rw[absP,List.map_append,List.map_cons,List.map_nil,RL,List.length_map];have:(pcT (p.bs.map Zy)).length=(pcT (absP p.bs)).length:=rfl;omega
  cases ho:onF s (blkF s p.i p.bad).i (blkF s p.i p.bad).bad 124 with
  | true=>
   rw[ho,if_pos rfl]at h;rw[if_pos rfl];have eg:gotI s (blkF s p.i p.bad).i (blkF s p.i p.bad).bad 124=(blkF s p.i p.bad).i+1:=by rw[gotI,ho];rfl
   rw[eg]at h ⊢;exact UL k _ h (by
    show (pcT (absP (p.bs++[(blkF s p.i p.bad).b]))).length+(if (p.bs++[(blkF s p.i p.bad).b]).length=0 then 0 else 1)≤(blkF s p.i p.bad).i+1;rw[if_neg (by simp)];omega) (QV ho).2.1
  | false=>
   have eg:gotI s (blkF s p.i p.bad).i (blkF s p.i p.bad).bad 124=(blkF s p.i p.bad).i:=by rw[gotI,ho];rfl
   rw[if_neg (by simp),eg];exact e1
theorem QfQ{s:ByteArray}(h:QR s<0):(pcT (absP (Qq s).bs)).length≤s.size:=by
 unfold QR at h;split at h
 ·exact absurd h JA
 ·have h1:=UL (s:=s) (s.size+1) ⟨[],0,-1⟩ h (by simp[absP,pcT]) (Nat.zero_le _);exact Nat.le_trans h1 (Vu _ _ (Nat.zero_le _))
theorem YF:∀(sts:List ASt)(e:List UInt8),Lib.join (sts.map stT++[e]) [59]=ZW sts++e
 | [],e=>by rw[List.map_nil,List.nil_append,Lib.join_one];rfl
 | [t],e=>by
  rw[XJ];show Lib.join [stT t,e] [59]=_;rw[Lib.join_cons];simp[Lib.joinTail,ZW]
 | t::u::sts,e=>by
  have ih:=YF (u::sts) e;rw[XJ,List.append_assoc,List.cons_append,←ih];rw[List.map_cons,List.cons_append,Lib.join_cons,List.map_cons,List.cons_append,Lib.join_cons];simp[Lib.joinTail]
theorem Qhl(t:Qy)(hk:OkS (QA t)):∃T x fn,QE t=.iface T x∧(∀w:World,(method 500 T x "solo/code.text").run Tryz.prog w=.ok (fn,x) w)∧(∀args (w:World),(callFunc fn args).run Tryz.prog w=.ok (.enter fn args) w) ∧
  ∀w:World,Tab w→Calls Tryz.prog fn #[x] w fun r w'=>r=.returned (.string ⟨(stT (QA t)).toArray⟩)∧Below w.heap.size w w':=by
 by_cases h1:t.op=118
 ·have eA:QA t=.val t.to.1 t.n:=by rw[QA,if_pos h1]
  have eV:QE t=.iface 177 (.agg #[.int .i64 t.to.1,.int .i64 t.to.2,.int .i64 t.n]):=by rw[QE,if_neg (by omega),if_neg (by omega),if_pos h1]
  rw[eA]at hk ⊢;exact⟨_,_,298,eV,fun w=>by kernel_rfl,enters_of Tryz.func298 (by kernel_rfl) rfl,fun w ht=>Qh8 _ _ _ w hk.1 hk.2 ht⟩
 by_cases h2:t.op=99
 ·have eA:QA t=.cp t.to.1 t.a.1:=by rw[QA,if_neg h1,if_pos h2]
  have eV:QE t=.iface 142 (.agg #[.int .i64 t.to.1,.int .i64 t.to.2,.int .i64 t.a.1,.int .i64 t.a.2]):=by rw[QE,if_neg (by omega),if_pos h2]
  rw[eA]at hk ⊢;exact⟨_,_,288,eV,fun w=>by kernel_rfl,enters_of Tryz.func288 (by kernel_rfl) rfl,fun w ht=>Qiq _ _ _ _ w hk.1 hk.2 ht⟩
 by_cases h3:t.op=33
 ·have eA:QA t=.out t.a.1:=by rw[QA,if_neg h1,if_neg h2,if_pos h3]
  have eV:QE t=.iface 315 (.agg #[.int .i64 t.a.1,.int .i64 t.a.2]):=by rw[QE,if_neg (by omega),if_neg (by omega),if_neg (by omega),if_pos h3]
  rw[eA]at hk ⊢;exact⟨_,_,318,eV,fun w=>by kernel_rfl,enters_of Tryz.func318 (by kernel_rfl) rfl,fun w ht=>QiQ _ _ w hk ht⟩
 by_cases h4:t.op=63
 ·have eA:QA t=.inp t.to.1:=by rw[QA,if_neg h1,if_neg h2,if_neg h3,if_pos h4]
  have eV:QE t=.iface 272 (.agg #[.int .i64 t.to.1,.int .i64 t.to.2]):=by rw[QE,if_pos h4]
  rw[eA]at hk ⊢;exact⟨_,_,306,eV,fun w=>by kernel_rfl,enters_of Tryz.func306 (by kernel_rfl) rfl,fun w ht=>Qhh _ _ w hk ht⟩
 have eA:QA t=.op t.op t.to.1 t.a.1 t.b.1:=by rw[QA,if_neg h1,if_neg h2,if_neg h3,if_neg h4]
 have eV:QE t=.iface 370 (.agg #[.int .i64 t.to.1,.int .i64 t.to.2,.int .i64 t.a.1,.int .i64 t.a.2,.int .i64 (X7 t.op),.int .i64 t.b.1,.int .i64 t.b.2]):=by rw[QE,if_neg (by omega),if_neg (by omega),if_neg (by omega),if_neg (by omega)]
 rw[eA]at hk ⊢;obtain⟨ho,k1,k2,k3⟩:=hk;have e:X7 t.op<4∧opS (X7 t.op)=t.op:=by
  rcases ho with h|h|h|h<;>(rw[h];decide)
 refine⟨_,_,327,eV,fun w=>by kernel_rfl,enters_of Tryz.func327 (by kernel_rfl) rfl,fun w ht=>?_⟩;have:=Qir t.to.1 t.to.2 t.a.1 t.a.2 (X7 t.op) t.b.1 t.b.2 w k1 k2 k3 e.1 ht;rw[e.2]at this;exact this
theorem Qhk(w:World):Calls Tryz.prog 310 #[.agg #[]] w fun e w'=>e=.returned (.string ⟨[46].toArray⟩)∧Below w.heap.size w w':=by
 go_enter Tryz.func310,Tryz.ntmps310;go_wp2_with fail;go_ret;exact⟨rfl,(Below.refl _ _).alloc (Nat.le_refl _) _⟩
theorem Qg4(e:Z3)(hk:OkE (Zc e)):∃T x fn,QP e=.iface T x∧(∀w:World,(method 500 T x "solo/code.text").run Tryz.prog w=.ok (fn,x) w)∧(∀args (w:World),(callFunc fn args).run Tryz.prog w=.ok (.enter fn args) w) ∧
  ∀w:World,Tab w→Calls Tryz.prog fn #[x] w fun r w'=>r=.returned (.string ⟨(enT (Zc e)).toArray⟩)∧Below w.heap.size w w':=by
 rcases hk with ⟨h1,h2,h3,h4⟩|⟨h1,h2,h3,h4⟩|⟨h1,h2,h3,h4⟩
 ·have h1:e.op=46:=h1;obtain⟨a1,_⟩:=KK h1;refine⟨_,_,310,a1,fun w=>by kernel_rfl,enters_of Tryz.func310 (by kernel_rfl) rfl,fun w _=>?_⟩;have e2:enT (Zc e)=[46]:=by unfold enT;rw[if_pos (show (Zc e).op=46 from h1)]
  rw[e2];exact Qhk w
 ·have h1:e.op=62:=h1;obtain⟨a1,_⟩:=KL h1;refine⟨_,_,314,a1,fun w=>by kernel_rfl,enters_of Tryz.func314 (by kernel_rfl) rfl,fun w ht=>?_⟩;have e2:enT (Zc e)=62::Lib.decDigits e.one.1:=by unfold enT;rw[if_neg (show ¬(Zc e).op=46 from by show ¬e.op=46;omega),if_pos (show (Zc e).op=62 from h1)];rfl
  rw[e2];exact Qib _ _ w h3 ht
 ·have h1:e.op=63:=h1;obtain⟨a1,_⟩:=Jx h1;refine⟨_,_,322,a1,fun w=>by kernel_rfl,enters_of Tryz.func322 (by kernel_rfl) rfl,fun w ht=>?_⟩;have e2:enT (Zc e)=rgT e.a.1++63::(Lib.decDigits e.one.1++58::Lib.decDigits e.two.1):=by unfold enT;rw[if_neg (show ¬(Zc e).op=46 from by show ¬e.op=46;omega),if_neg (show ¬(Zc e).op=62 from by show ¬e.op=62;omega)];rfl
  rw[e2];exact Qig _ _ _ _ _ _ w h2 h3 h4 ht
theorem Tryz.info9:(Tryz.prog.info? 9).map (fun i=>(i.zero,i.size,i.bytes))=some (some (.string ⟨#[]⟩),1,16):=by kernel_rfl
def XN(l:List (List UInt8)):List Value:=l.map fun x=>Value.string ⟨x.toArray⟩
theorem Wp(a b:List (List UInt8)):XN (a++b)=XN a++XN b:=List.map_append ..
theorem Gh{l:List (List UInt8)}{j:Nat}(h:j<l.length):(XN l)[j]?=some (.string ⟨l[j].toArray⟩):=by simp[XN,h]
theorem QdV(l:List (List UInt8))(sep:UInt8)(base:Nat)(v:Value)(w:World)(h:w.ownsRow base 9 1 v l.length (XN l))(hl:l.length≤1000000)(hn:(Lib.join l [sep]).length≤100000000):
  Calls Tryz.prog 47 #[v,.string ⟨#[sep]⟩] w fun e w'=>e=.returned (.string ⟨(Lib.join l [sep]).toArray⟩)∧Below w.heap.size w w':=by
 obtain⟨p,c,rfl⟩:=Qb h;have em:(l.map (fun x=>(⟨x.toArray⟩:ByteArray))).map (·.data.toList)=l:=by
  rw[List.map_map];exact(List.map_congr_left (fun x _=>by simp)).trans (List.map_id' l)
 have es:(⟨#[sep]⟩:ByteArray).data.toList=[sep]:=rfl;by_cases h0:0<l.length
 ·obtain⟨g,rfl,_,hg⟩:=Qh h h0;have hc:l.length≤c:=by
   rcases h.2 with ⟨h1,_⟩|⟨g',cap,cur,hv,_,_,hcap,_⟩
   ·cases h1
   ·cases hv;exact hcap
  have:=Tryz.strings_Join g 0 c (l.map (fun x=>(⟨x.toArray⟩:ByteArray))) ⟨#[sep]⟩ w (fun j x hx=>by
   rw[Nat.zero_add];rw[List.getElem?_map,Option.map_eq_some_iff]at hx;obtain⟨y,hy,rfl⟩:=hx;obtain⟨hj,rfl⟩:=List.getElem?_eq_some_iff.1 hy;exact Qe h (Gh hj)) hg (by rw[List.length_map];omega) (by rw[List.length_map];exact hc) (by rw[em,es];omega)
  rw[List.length_map,em,es]at this;exact this
 ·obtain rfl:l=[]:=List.length_eq_zero_iff.1 (by omega);refine(Tryz.strings_Join_none p c ⟨#[sep]⟩ w).mono ?_;rintro e w' ⟨he,hw⟩;exact⟨he,hw ▸ Below.refl _ _⟩
def Gn(l:List Qy):List (List UInt8):=l.map fun t=>stT (QA t)
theorem QbU{l:List Qy}{k:Nat}(hk:k<l.length):Gn (l.take (k+1))=Gn (l.take k)++[stT (QA l[k])]:=by
 rw[Gn,List.take_succ_eq_append_getElem hk,List.map_append];rfl
theorem Rv(l:List (List UInt8))(k:Nat)(x:List UInt8):(XN l).set k (.string ⟨x.toArray⟩)=XN (l.set k x):=by simp[XN,List.map_set]
theorem R0(n:Nat):(madeCells (Value.string ⟨#[]⟩).cells (n*1)).toList=XN (List.replicate n []):=by
 rw[show (Value.string ⟨#[]⟩).cells=#[.string ⟨#[]⟩] from rfl,Nat.mul_one];apply List.ext_getElem
 ·simp[madeCells,XN]
 ·intro i h1 h2;simp[madeCells,Nat.mod_one,XN]
end Go.Proofs.YtgfhfkgdmidhpaaGreatDoor
