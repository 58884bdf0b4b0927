import Derived.Test.YtgfhfkgdmidhpaaGreatDoorM20
namespace Go.Proofs.YtgfhfkgdmidhpaaGreatDoor
open Go.RowKit
open Go.Proofs.Tryz
set_option maxRecDepth 100000
set_option maxHeartbeats 8000000
structure Ad(pb:Nat)(v v':Value)(w w':World):Prop where
 os:w'.os=w.os
 tape:w'.tape=w.tape
 output:w'.output=w.output
 size:w.heap.size≤w'.heap.size
 block:∀k,k<w.heap.size→k≠pb→some k≠v.ownBlock→w'.heap[k]?=w.heap[k]?
 new:VZ w v v'
theorem Qhd{l:List Nat}{x:Nat}(hs:l.Pairwise (· < ·))(hx:x∈l):ptF l x=l:=Zo (X6 _ _) hs fun y=>by
 rw[ZW];constructor
 ·rintro (h|rfl)
  ·exact h
  ·exact hx
 ·exact .inl
theorem Qhe{l:List Nat}{x i:Nat}(hs:l.Pairwise (· < ·))(hx:x∉l)(hp:Kt l x i):ptF l x=Xh l i x:=Zo (X6 _ _) (Qb1 hs hx hp) fun y=>by
 rw[ZW,Qb2,or_comm]
theorem QdY{cs:Array Value}{o:Nat}{v:Value}(h:cs[o]?=some v):cs.setIfInBounds o v=cs:=by
 apply Array.ext_getElem?;intro i;rw[Array.getElem?_setIfInBounds];split
 ·rename_i e;subst e;split
  ·exact h.symm
  ·rename_i h2;rw[Array.getElem?_eq_none (by omega)]at h;cases h
 ·rfl
theorem Qar{w:World}{k:Nat}{cs:Array Value}{t:TypeId}{v:Value}(h:w.heap[k]?=some (.cells cs t (0,0))){o:Nat}(ho:cs[o]?=some v):w.cell? ⟨k,o,none⟩=some v:=(Qb h o).trans ho
theorem Qim(l:List Nat)(x:Nat)(hsrt:Hid (l.Pairwise (· < ·)))(pb po base:Nat)(cs:Array Value)(t:TypeId)(v:Value)(w:World)(hB:w.heap[pb]?=some (.cells cs t (0,0)))(hp:cs[po]?=some v)(h:w.ownsRow base 78 1 v l.length (Qe l))(hl:l.length≤1000000)(hb:base≤w.heap.size)(hpv:v.ownBlock≠some pb):
  Calls prog 98 #[.pointer (some ⟨pb,po,none⟩),.int .i64 x] w fun e w'=>∃(bb:Bool)(v':Value),e=.returned (.bool bb)∧Hid (bb=!(QD l x)∧w'.heap[pb]?=some (.cells (cs.setIfInBounds po v') t (0,0))∧w'.ownsRow base 78 1 v' (ptF l x).length (Qe (ptF l x))∧Ad pb v v' w w'):=by
 by_cases hx:x∈l
 ·refine(Qcx l x hx hsrt pb po base v w (Qar hB hp) h hl).mono ?_;rintro e w' ⟨rfl,HW⟩;have hW:=HW.o;subst hW;refine⟨false,v,rfl,?_,?_,?_,⟨rfl,rfl,rfl,Qi _,fun _ _ _ _=>rfl,.inl rfl⟩⟩
  ·rw[QD,List.contains_iff_mem.2 hx];rfl
  ·rw[QdY hp];exact hB
  ·rw[Qhd hsrt.out hx];exact h
 ·refine(Qcy l x hx hsrt pb po base v w (Qar hB hp) (Qg hB po) h hl hb hpv).mono ?_;rintro e w' ⟨rfl,i,v',H⟩;obtain⟨_,hsp,o',P⟩:=H.o;refine⟨true,v',rfl,?_,?_,?_,⟨P.os,P.tape,P.output,P.size,P.block,P.new⟩⟩
  ·have:l.contains x=false:=by rw[←Bool.not_eq_true,List.contains_iff_mem];exact hx
   rw[QD,this];rfl
  ·rw[P.at_,Qq hB]
  ·rw[Qhe hsrt.out hx hsp];exact o'
theorem Ad.below{pb base:Nat}{v v':Value}{w0 w w':World}(A:Ad pb v v' w w')(F:Below base w0 w)(hb:base≤pb)(hv:∀k,v.ownBlock=some k→base≤k)(hs:base≤w.heap.size):Below base w0 w':=
 F.trans ⟨A.os,A.tape,A.output,A.size,fun j hj=>A.block j (by omega) (by omega) (fun e=>by have:=hv j e.symm;omega)⟩
theorem Ad.owns{pb base e size n:Nat}{v v' u:Value}{xs:List Value}{w w':World}(A:Ad pb v v' w w')(h:w.ownsRow base e size u n xs)(h1:u.ownBlock≠some pb)(h2:∀k,v.ownBlock=some k→u.ownBlock≠some k):w'.ownsRow base e size u n xs:=by
 obtain⟨a,b⟩:=h;refine⟨a,b.imp id ?_⟩;rintro⟨g,cap,cur,rfl,b1,c1,d1⟩;refine⟨g,cap,cur,rfl,b1,?_,d1⟩;rw[A.block g (lt_of_block c1) (fun e=>h1 (by rw[e];rfl)) (fun e=>h2 g e.symm rfl)];exact c1
theorem Qau{w:World}{b1 b2 e1 e2 s1 s2 n1 n2:Nat}{u v:Value}{xs ys:List Value}(hu:w.ownsRow b1 e1 s1 u n1 xs)(hv:w.ownsRow b2 e2 s2 v n2 ys)(he:e1≠e2):Q4 u v:=by
 intro k hk hk2;rcases hu.2 with ⟨rfl,_⟩|⟨g,cap,cur,rfl,_,c1,_⟩
 ·cases hk2
 rcases hv.2 with ⟨rfl,_⟩|⟨g',cap',cur',rfl,_,c2,_⟩
 ·cases hk
 cases hk;cases hk2;rw[c1]at c2;cases c2;exact he rfl
end Go.Proofs.YtgfhfkgdmidhpaaGreatDoor
namespace Go.Proofs.YtgfhfkgdmidhpaaGreatDoor
open Go.RowKit
open Go.Sort
open Go.Proofs.Tryz
set_option maxRecDepth 100000
set_option maxHeartbeats 8000000
theorem Qff(l:List Nat)(x base:Nat)(v:Value)(w:World)(h:w.ownsRow base 78 1 v l.length (Qe l))(hsrt:Hid (l.Pairwise (· < ·)))(hl:l.length≤1000000):
  Calls prog 108 #[.agg #[v],.int .i64 x] w fun e w'=>e=.returned (.bool (QD l x))∧Below w.heap.size w w':=by
 obtain⟨p,c,rfl⟩:=Qa h;go_enter func108,ntmps108;go_wp2_with fail;refine(U7 l x hsrt base _ _ (h.alloc _) hl).mono ?_;rintro e w1 ⟨hw1,i,hi,hsp,rfl⟩;have F:Hid (Below w.heap.size w w1):=by rw[hw1];exact(Below.refl _ _).alloc (Qi _) _
 rw[Qah hsrt.out hsp];clear hw1 hsp;go_wp2_with fail;go_ret;exact⟨rfl,F.o⟩
end Go.Proofs.YtgfhfkgdmidhpaaGreatDoor
namespace Go.Proofs.YtgfhfkgdmidhpaaGreatDoor
open Go.RowKit
open Go.Proofs.Tryz
set_option maxRecDepth 100000
set_option maxHeartbeats 8000000
def Ke(b:Nat)(w w':World):Prop:=∀(g:Nat)(cur:Array Value)(e:TypeId),g≠b→e≠78→w.heap[g]?=some (.cells cur e (0,0))→w'.heap[g]?=some (.cells cur e (0,0))
theorem Ke.refl(b w):Ke b w w:=fun _ _ _ _ _ h=>h
theorem Ke.trans{b:Nat}{u v w:World}(h:Ke b u v)(k:Ke b v w):Ke b u w:=fun g c e h1 h2 h3=>k g c e h1 h2 (h g c e h1 h2 h3)
theorem Ke.below{b:Nat}{w w':World}(F:Below w.heap.size w w'):Ke b w w':=fun g c e _ _ h=>by rw[F.block g (lt_of_block h)];exact h
theorem Ke.ad{b base n:Nat}{v v':Value}{xs:List Value}{w w':World}(A:Ad b v v' w w')(h:w.ownsRow base 78 1 v n xs):Ke b w w':=fun g c e h1 h2 h3=>by
 rw[A.block g (lt_of_block h3) h1 (fun e1=>QG h h3 (fun e2=>h2 e2.symm) e1.symm)];exact h3
theorem Ke.owns{b base e size n:Nat}{u:Value}{xs:List Value}{w w':World}(K:Ke b w w')(h:w.ownsRow base e size u n xs)(he:e≠78)(hb:u.ownBlock≠some b):w'.ownsRow base e size u n xs:=by
 obtain⟨a1,b1⟩:=h;refine⟨a1,b1.imp id ?_⟩;rintro⟨g,cap,cur,rfl,b2,c1,d1⟩;exact⟨g,cap,cur,rfl,b2,K g cur e (fun e1=>hb (by rw[e1];rfl)) he c1,d1⟩
theorem QgZ(t:Qz):(rdsF t).length≤2:=by
 unfold rdsF
 repeat' split
 all_goals simp
theorem QbD{t:Qz}(h:StFine t):∀p∈rdsF t,p.1<10000:=fun p hp=>Qec h (Qv.2 ⟨p,hp,rfl⟩)
def EfI(b:Qm)(w:World)(box:Array Value)(k:Nat)(vr vg:Value)(wr:World):Prop:=
 wr.heap[w.heap.size]?=some (.cells box 104 (0,0))∧wr.heap[w.heap.size+1]?=some (.cells #[.slice none 0 0,.slice none 0 0] 234 (0,0))∧wr.heap[w.heap.size+1+1]?=some (.cells #[vr,vg] 234 (0,0)) ∧
 wr.ownsRow w.heap.size 78 1 vr (Yq b.sts k).length (Qe (Yq b.sts k))∧wr.ownsRow w.heap.size 78 1 vg (Ju b.sts k).length (Qe (Ju b.sts k))∧Q4 vg vr∧Below w.heap.size w wr
theorem EfI.keeps{b w box k vr vg wr wr'}(h:EfI b w box k vr vg wr)(F:Below wr.heap.size wr wr'):EfI b w box k vr vg wr':=by
 obtain⟨a1,a2,a3,a4,a5,a6,a7⟩:=h;have K:=Qr.below (base:=w.heap.size) (T:=fun _=>True) F;exact⟨by rw[F.block _ (lt_of_block a1)];exact a1,by rw[F.block _ (lt_of_block a2)];exact a2,by rw[F.block _ (lt_of_block a3)];exact a3,Qd a4 K trivial,Qd a5 K trivial,a6,a7.trans (F.mono a7.size)⟩
def VJ(bs:List Qm)(n b:Nat)(k:Int):Bool:=
 if rchF (suF bs) bs.length noB b then
  match (gvU bs).find? (fun u=>u.n==n) with
  | none=>false
  | some u=>if u.b=b then decide (u.s<k) else ZG (suF bs) bs.length u.b b
 else true
theorem Ni{l:List Use}{n:Nat}:(whF l n<0→l.find? (fun u=>u.n==n)=none)∧(0≤whF l n→∃(i:Nat)(hi:i<l.length),whF l n=i∧l.find? (fun u=>u.n==n)=some l[i]):=by
 constructor
 ·intro h;rw[List.find?_eq_none];intro u hu e;have:n∈l.map (·.n):=List.mem_map.2 ⟨u,hu,by simpa using e⟩;have:=Vr.2 this;omega
 ·intro h;unfold whF at h ⊢
  cases hf:l.findIdx? (fun u=>u.n==n) with
  | none=>rw[hf]at h;exact absurd h (by decide)
  | some i=>
   rw[List.findIdx?_eq_some_iff_getElem]at hf;obtain⟨hi,h1,h2⟩:=hf;refine⟨i,hi,rfl,?_⟩;rw[List.find?_eq_some_iff_getElem];exact⟨h1,i,hi,rfl,fun j hj=>by have:=h2 j hj;simpa using this⟩
theorem Qfq{b:Qm}{i:Nat}{u:Use}(h:u∈Qa8 b i):u.b=i:=by
 rw[Qa8,QB]at h;rcases h with h|h
 ·obtain⟨c,_,rfl⟩:=Qv.1 h;rfl
 ·obtain⟨j,_,hj⟩:=List.mem_flatMap.1 h;unfold stU at hj;split at hj
  ·split at hj
   ·simp at hj
   ·rw[QF]at hj;rw[hj]
  ·simp at hj
theorem QkI{bs:List Qm}{u:Use}(h:u∈gvU bs):u.b<bs.length:=by
 obtain⟨i,hi,hu⟩:=List.mem_flatMap.1 h;rw[Qfq hu];exact List.mem_range.1 hi
def Nf(base:Nat)(w:World)(v:Value)(n:Nat)(f:Nat→Nat→Bool)(m:Nat):Prop:=
 ∃us:List Value,w.ownsRow base 67 1 v n us∧∀(k:Nat)(u:Value),us[k]?=some u→w.ownsRow base 4 1 u m (Zu m (f k))
theorem Nf.slice{base w v n f m}(h:Nf base w v n f m):∃p c,v=.slice p n c:=by obtain⟨us,a,_⟩:=h;exact Qa a
theorem Nf.keeps{base:Nat}{w w':World}{v:Value}{n m:Nat}{f:Nat→Nat→Bool}(h:Nf base w v n f m)(k:Below w.heap.size w w'):Nf base w' v n f m:=by
 obtain⟨us,a,b⟩:=h;exact⟨us,Qd a (Qh k) trivial,fun j u hu=>Qd (b j u hu) (Qh k) trivial⟩
theorem Nf.at{base:Nat}{w:World}{p:Option Addr}{c n m:Nat}{f:Nat→Nat→Bool}(h:Nf base w (.slice p n c) n f m){k:Nat}(hk:k<n):
  ∃g u,p=some ⟨g,0,none⟩∧base≤g∧g<w.heap.size∧w.cell? ⟨g,k,none⟩=some u∧w.ownsRow base 4 1 u m (Zu m (f k)):=by
 obtain⟨us,a,b⟩:=h;obtain⟨g,rfl,hb,hg⟩:=Qk a (by omega);have hl:us.length=n:=by have:=a.1;omega
 have hu:us[k]?=some us[k]:=Zl (by omega);exact⟨g,us[k],rfl,hb,hg,Qf a hu,b k _ hu⟩
def GrI(bs:List Qm)(base B gp:Nat)(vL:Value)(w:World):Prop:=
 ∃vS vC vO,w.heap[gp]?=some (.cells #[vL,vS,vC,vO] 118 (0,0))∧QR w base bs vL∧w.ownsRow B 115 3 vS (gvU bs).length (QV (gvU bs))∧w.ownsRow B 4 1 vC bs.length (Zu bs.length (rchF (suF bs) bs.length noB))∧Nf B w vO bs.length (fun a=>ZG (suF bs) bs.length a) bs.length
theorem GrI.keeps{bs base B gp vL w w'}(h:GrI bs base B gp vL w)(F:Below w.heap.size w w'):GrI bs base B gp vL w':=by
 obtain⟨vS,vC,vO,a,b,c,d,e⟩:=h;exact⟨vS,vC,vO,by rw[F.block _ (lt_of_block a)];exact a,b.keeps3 (Qr.below F),Qd c (Qh F) trivial,Qd d (Qh F) trivial,e.keeps F⟩
theorem QjC(bs:List Qm)(base B gp:Nat)(vL:Value)(n b:Nat)(k:Nat)(w:World)(h:GrI bs base B gp vL w)(hb:b<bs.length)(hl:(gvU bs).length≤100000000000):
  Calls prog 54 #[.pointer (some ⟨gp,0,none⟩),.int .i64 n,.int .i64 b,.int .i64 k] w fun x w'=>x=.returned (.bool (VJ bs n b k))∧Below w.heap.size w w':=by
 obtain⟨vS,vC,vO,a,_,oS,oC,oO⟩:=h;obtain⟨pS,cS,rfl⟩:=Qa oS;obtain⟨pC,cC,rfl⟩:=Qa oC;obtain⟨pO,cO,rfl⟩:=oO.slice;have k1:=Qb a 1;have k2:=Qb a 2;have k3:=Qb a 3;simp at k1 k2 k3;obtain⟨gC,rfl,_,_⟩:=Qk oC (by omega);have kc:=Qf oC (ZS hb);have HS:=Qc oS;have HO:=Qc oO;have hgp:=lt_of_block a;have HA:=Qc a;clear oS oC oO a
 cases hr:rchF (suF bs) bs.length noB b with
 | false=>
  rw[hr]at kc;have HM:Hid (VJ bs n b k=true):=by show _=_;rw[VJ,hr];rfl
  clear hr;go_enter func54,ntmps54;go_wp2_with fail;go_ret;exact⟨by rw[HM.o];rfl,Below.refl _ _⟩
 | true=>
  rw[hr]at kc;by_cases hw:0≤whF (gvU bs) n
  ·obtain⟨i,hi,hwi,hfi⟩:=Ni.2 hw;have hub:=QkI (Qx hi);obtain⟨gS,rfl,_,_⟩:=Qk HS.o (by omega);have s0:=Qf HS.o (JG hi).1;have s1:=Qf HS.o (JG hi).2.1;have s2:=Qf HS.o (JG hi).2.2;by_cases hbb:(gvU bs)[i].b=b
   ·have HM:Hid (VJ bs n b k=decide ((gvU bs)[i].s<k)):=by show _=_;rw[VJ,hr,if_pos rfl,hfi];simp only;rw[if_pos hbb]
    have hd:(((gvU bs)[i].b:Int)==(b:Int))=true:=by simp;omega
    have HWI:=Qc hwi;clear hr hw hfi hwi hbb;go_enter func54,ntmps54;go_wp2_with fail;refine(Uk (gvU bs) n B _ w HS.o hl).mono ?_;rintro x w' ⟨rfl,hw'⟩;rw[hw',HWI.o];clear hw' w';generalize (gvU bs)[i]=u at *;go_wp2_with fail;go_ret;exact⟨by rw[HM.o];rfl,(Below.refl _ _).alloc (Qi _) _⟩
   ·have HM:Hid (VJ bs n b k=ZG (suF bs) bs.length (gvU bs)[i].b b):=by show _=_;rw[VJ,hr,if_pos rfl,hfi];simp only;rw[if_neg hbb]
    have hd:(((gvU bs)[i].b:Int)==(b:Int))=false:=by simp;omega
    have HWI:=Qc hwi;obtain⟨gO,uO,rfl,_,hgO,co,oo⟩:=HO.o.at hub;obtain⟨pu,cu,rfl⟩:=Qa oo;obtain⟨gu,rfl,_,hgu⟩:=Qk oo (by omega);have cb:=Qf oo (ZS hb);clear hr hw hfi hwi hbb oo;go_enter func54,ntmps54;go_wp2_with fail;refine(Uk (gvU bs) n B _ w HS.o hl).mono ?_;rintro x w' ⟨rfl,hw'⟩;rw[hw',HWI.o];clear hw' w';have FF:=Qc ((Below.refl w.heap.size w).alloc (Qi _) (.cells #[.int .i64 (gvU bs)[i].n,.int .i64 (gvU bs)[i].b,.int .i64 (gvU bs)[i].s] 115));go_wp2_with fail;have gW:=heap_alloc_last w (.cells #[.int .i64 (gvU bs)[i].n,.int .i64 (gvU bs)[i].b,.int .i64 (gvU bs)[i].s] 115);generalize w.alloc (.cells #[.int .i64 (gvU bs)[i].n,.int .i64 (gvU bs)[i].b,.int .i64 (gvU bs)[i].s] 115)=W at *;have x1:=Qb gW 1;have x3:=(FF.o.cell (p:=⟨gp,3,none⟩) hgp).trans k3;have x4:=(FF.o.cell (p:=⟨gO,(gvU bs)[i].b,none⟩) hgO).trans co;have x5:=(FF.o.cell (p:=⟨gu,b,none⟩) hgu).trans cb;simp at x1;clear gW s0 s1 s2 k1 k2 k3 kc co cb
    go_region
    all_goals
     go_wp2_with fail;go_ret;exact⟨by rw[HM.o];rfl,⟨FF.o.os,FF.o.tape,FF.o.output,FF.o.size,FF.o.block⟩⟩
  ·have HM:Hid (VJ bs n b k=false):=by show _=_;rw[VJ,hr,if_pos rfl,Ni.1 (by omega)]
   have hw2:whF (gvU bs) n<0:=by omega
   clear hr hw;go_enter func54,ntmps54;go_wp2_with fail;refine(Uk (gvU bs) n B _ w HS.o hl).mono ?_;rintro x w' ⟨rfl,hw'⟩;rw[hw'];clear hw' w';generalize whF (gvU bs) n=wv at *;go_wp2_with fail;go_ret;exact⟨by rw[HM.o];rfl,Below.refl _ _⟩
theorem Wf(a:Int)(n p:Nat)(w:World):Calls prog 28 #[.int .i64 a,.agg #[.int .i64 n,.int .i64 p]] w fun e w'=>e=.returned (.int .i64 (gr a (n,p)))∧Below w.heap.size w w':=by
 have F1:=Qc ((Below.refl w.heap.size w).alloc (Qi _) (.cells #[.int .i64 n,.int .i64 p] 48));by_cases h1:4999<n
 ·have hd1:decide ((4999:Int)<(n:Int))=true:=by simp;omega
  by_cases h2:a<0
  ·have hd2:decide (a<0)=true:=by simpa using h2
   have HG:Hid (gr a (n,p)=p):=by show _=_;unfold gr;rw[if_pos ⟨h1,.inl h2⟩]
   clear h1 h2;go_enter func28,ntmps28;go_wp2_with fail;go_ret;exact⟨by rw[HG.o];rfl,F1.o⟩
  ·have hd2:decide (a<0)=false:=by simpa using h2
   by_cases h3:(p:Int)<a
   ·have hd3:decide ((p:Int)<a)=true:=by simpa using h3
    have HG:Hid (gr a (n,p)=p):=by show _=_;unfold gr;rw[if_pos ⟨h1,.inr h3⟩]
    clear h1 h2 h3;go_enter func28,ntmps28;go_wp2_with fail;go_ret;exact⟨by rw[HG.o];rfl,F1.o⟩
   ·have hd3:decide ((p:Int)<a)=false:=by simpa using h3
    have HG:Hid (gr a (n,p)=a):=by show _=_;unfold gr;rw[if_neg (by omega)]
    clear h1 h2 h3;go_enter func28,ntmps28;go_wp2_with fail;go_ret;exact⟨by rw[HG.o];rfl,F1.o⟩
 ·have hd1:decide ((4999:Int)<(n:Int))=false:=by simp;omega
  have HG:Hid (gr a (n,p)=a):=by show _=_;unfold gr;rw[if_neg (by omega)]
  clear h1;go_enter func28,ntmps28;go_wp2_with fail;go_ret;exact⟨by rw[HG.o];rfl,F1.o⟩
theorem Qs{l:List Qz}{j:Nat}(hj:j<l.length){k:Nat}(hk:k<8):(l.flatMap ZP)[j*8+k]?=(ZP l[j])[k]?:=by
 rw[List.flatMap_def];refine Z4 8 _ j k _ (fun x hx=>?_) (by simp[hj]) hk;simp only[List.mem_map]at hx;obtain⟨t,_,rfl⟩:=hx;rfl
theorem Vn{l:List (Nat×Nat)}{y:Int}(h:y=l.foldl gr (-1))(x:Nat×Nat):gr y x=(l++[x]).foldl gr (-1):=by
 rw[List.foldl_append,←h];rfl
theorem Qkf(bs:List Qm)(base:Nat)(v:Value)(w:World)(h:QR w base bs v)(hl:bs.length≤1000)(hf:∀b∈bs,QU 1000000 b):
  Calls prog 10 #[v] w fun e w'=>e=.returned (.int .i64 (Qfw bs))∧Below w.heap.size w w':=by
 obtain⟨pv,cv,rfl⟩:=h.slice;have HB:=Qc h;have HF:=Qc hf;clear h hf;go_enter func10,ntmps10;go_wp2_with fail
 go_loopw [3,4] (fun a i wr=>∃(k:Nat)(y:Int),k≤bs.length∧i=.int .i64 k∧a=.int .i64 y∧Hid (y=((bs.take k).flatMap Vy).foldl gr (-1))∧Hid (Below w.heap.size w wr)) (fun _ i _=>bs.length-(intOf i).toNat)
 case atStart=>exact⟨0,-1,by omega,rfl,rfl,rfl,Below.refl _ _⟩
 case round=>
  obtain⟨k,y,hk,rfl,rfl,HY,F⟩:=hrel;rename World=>wA;by_cases hlt:k<bs.length
  ·obtain⟨g,qc,cc,ps,cs,rfl,_,hg,OC,OS,hc⟩:=HB.o.at hlt;have d0:=hc 0 _ rfl;have d1:=hc 1 _ rfl;have d3:=hc 3 _ rfl;have d4:=hc 4 _ rfl;simp only[Nat.add_zero]at d0;have HD:=Qc (And.intro d0 (And.intro d1 (And.intro d3 d4)));have HOC:=Qc (And.intro OC OS);have HBF:=Qc (HF.o _ (Qx hlt));have hcl:=HBF.o.cl;have hsl:=HBF.o.sl;have HN:Hid ((bs.take (k+1)).flatMap Vy=(bs.take k).flatMap Vy++Vy bs[k]):=by show _=_;rw[Zb hlt,List.flatMap_append,List.flatMap_cons,List.flatMap_nil,List.append_nil]
   replace d0:=(F.o.cell (p:=⟨g,k*10,none⟩) hg).trans d0;obtain⟨L0,hL0⟩:∃L0,L0=(bs.take k).flatMap Vy:=⟨_,rfl⟩;rw[←hL0]at HY HN;have HL0:=Qc hL0;clear d1 d3 d4 hc OC OS hL0;go_wp2_with fail;clear d0
   go_loopw [3,5] (fun a i wr=>∃(t:Nat)(y:Int),t≤bs[k].chs.length∧i=.int .i64 t∧a=.int .i64 y∧Hid (y=(L0++(bs[k].chs.take t).flatMap Kc).foldl gr (-1))∧Hid (Below w.heap.size w wr)) (fun _ i _=>bs[k].chs.length-(intOf i).toNat)
   case atStart=>exact⟨0,y,by omega,rfl,rfl,by show _=_;simpa using HY.o,F⟩
   case round=>
    clear HY F;obtain⟨t,y,ht,rfl,rfl,HY,F⟩:=hrel;rename World=>wB;have e0:=(F.o.cell (p:=⟨g,k*10,none⟩) hg).trans HD.o.1;by_cases htl:t<bs[k].chs.length
    ·obtain⟨gc,pf,cf,pr,cr,rfl,_,hgc,_,OR,c0,c1,_,c3⟩:=HOC.o.1.at htl;replace c0:=(F.o.cell (p:=⟨gc,t*4,none⟩) hgc).trans c0;replace c1:=(F.o.cell (p:=⟨gc,t*4+1,none⟩) hgc).trans c1;have HC3:=Qc c3;have HOR:=Qc OR;have hrl:bs[k].chs[t].rs.length≤1000000:=by have:=(HBF.o.ch _ (Qx htl));have h1:=this.2.1;have h2:=this.2.2.1;omega
     have HN2:Hid (L0++(bs[k].chs.take (t+1)).flatMap Kc=(L0++(bs[k].chs.take t).flatMap Kc)++Kc bs[k].chs[t]):=by show _=_;rw[Zb htl,List.flatMap_append,List.flatMap_cons,List.flatMap_nil,List.append_nil,List.append_assoc]
     obtain⟨L2,hL2⟩:∃L2,L2=L0++(bs[k].chs.take t).flatMap Kc:=⟨_,rfl⟩;rw[←hL2]at HY HN2;clear hL2 c3 OR;go_wp2_with fail;refine(Wf y bs[k].chs[t].to.1 bs[k].chs[t].to.2 _).mono ?_;rintro e w2 ⟨rfl,f2⟩;have F2:=Qc (F.o.trans (f2.mono F.o.size));have HY2:=Qc (Vn HY.o (bs[k].chs[t].to.1,bs[k].chs[t].to.2));clear f2 HY F c0 c1 e0;go_wp2_with fail
     go_loopw [3,6] (fun a i wr=>∃(q:Nat)(y:Int),q≤bs[k].chs[t].rs.length∧i=.int .i64 q∧a=.int .i64 y∧Hid (y=(L2++[bs[k].chs[t].to]++bs[k].chs[t].rs.take q).foldl gr (-1))∧Hid (Below w.heap.size w wr)) (fun _ i _=>bs[k].chs[t].rs.length-(intOf i).toNat)
     case atStart=>exact⟨0,_,by omega,rfl,rfl,by show _=_;rw[HY2.o];simp,F2⟩
     case round=>
      clear HY2 F2;obtain⟨q,y,hq,rfl,rfl,HY,F⟩:=hrel;rename World=>wC;have e0:=(F.o.cell (p:=⟨g,k*10,none⟩) hg).trans HD.o.1;have c3:=(F.o.cell (p:=⟨gc,t*4+3,none⟩) hgc).trans HC3.o;by_cases hql:q<bs[k].chs[t].rs.length
      ·have OR:=Qd HOR.o (Qh F.o) trivial;obtain⟨gr',rfl,_,_⟩:=Qk OR (by omega);have r0:=Qf OR (Zt hql).1;have r1:=Qf OR (Zt hql).2;clear OR;go_wp2_with fail;refine(Wf y bs[k].chs[t].rs[q].1 bs[k].chs[t].rs[q].2 _).mono ?_;rintro e w2 ⟨rfl,f2⟩;have F2:=Qc (F.o.trans (f2.mono F.o.size));have HY2:Hid (gr y (bs[k].chs[t].rs[q].1,bs[k].chs[t].rs[q].2)=(L2++[bs[k].chs[t].to]++bs[k].chs[t].rs.take (q+1)).foldl gr (-1)):=by
        show _=_;rw[Zb hql,←List.append_assoc];exact Vn HY.o _
       clear f2 HY F r0 r1 e0 c3;go_wp2_with fail;go_roundw
       case rel=>exact⟨q+1,_,by omega,by go_num,rfl,HY2,F2⟩
       case measure=>simp[intOf];omega
      ·have HY2:Hid (y=(L0++(bs[k].chs.take (t+1)).flatMap Kc).foldl gr (-1)):=by
        show _=_;rw[HN2.o,HY.o,Zg (by omega),List.append_assoc];rfl
       clear HY;go_wp2_with fail;go_roundw
       case rel=>exact⟨t+1,_,by omega,by go_num,rfl,HY2,F⟩
       case measure=>simp[intOf];omega
    ·have HY2:Hid (y=(L0++bs[k].chs.flatMap Kc).foldl gr (-1)):=by
      show _=_;rw[HY.o,Zg (by omega)]
     clear HY;have e1:=(F.o.cell (p:=⟨g,k*10+1,none⟩) hg).trans HD.o.2.1;go_wp2_with fail;clear e0 e1
     go_loopw [3,7] (fun a i wr=>∃(q:Nat)(y:Int),q≤bs[k].sts.length∧i=.int .i64 q∧a=.int .i64 y∧Hid (y=((L0++bs[k].chs.flatMap Kc)++(bs[k].sts.take q).flatMap (fun t=>[t.to,t.a,t.b])).foldl gr (-1))∧Hid (Below w.heap.size w wr)) (fun _ i _=>bs[k].sts.length-(intOf i).toNat)
     case atStart=>exact⟨0,y,by omega,rfl,rfl,by show _=_;simpa using HY2.o,F⟩
     case round=>
      clear HY2 F;obtain⟨q,y,hq,rfl,rfl,HY,F⟩:=hrel;rename World=>wC;have e1:=(F.o.cell (p:=⟨g,k*10+1,none⟩) hg).trans HD.o.2.1;by_cases hql:q<bs[k].sts.length
      ·have OS:=Qd HOC.o.2 (Qh F.o) trivial;obtain⟨gs,rfl,_,hgs⟩:=Qk OS (by omega);have t1:wC.cell? ⟨gs,q*8+1,none⟩=some (.int .i64 bs[k].sts[q].to.1):=Qf OS (Qs hql (k:=1) (by omega));have t2:wC.cell? ⟨gs,q*8+2,none⟩=some (.int .i64 bs[k].sts[q].to.2):=Qf OS (Qs hql (k:=2) (by omega));have t3:wC.cell? ⟨gs,q*8+3,none⟩=some (.int .i64 bs[k].sts[q].a.1):=Qf OS (Qs hql (k:=3) (by omega));have t4:wC.cell? ⟨gs,q*8+4,none⟩=some (.int .i64 bs[k].sts[q].a.2):=Qf OS (Qs hql (k:=4) (by omega));have t5:wC.cell? ⟨gs,q*8+5,none⟩=some (.int .i64 bs[k].sts[q].b.1):=Qf OS (Qs hql (k:=5) (by omega));have t6:wC.cell? ⟨gs,q*8+6,none⟩=some (.int .i64 bs[k].sts[q].b.2):=Qf OS (Qs hql (k:=6) (by omega));have hgC:g<wC.heap.size:=QH hg F.o.size;clear OS;go_wp2_with fail;refine(Wf y bs[k].sts[q].to.1 bs[k].sts[q].to.2 _).mono ?_;rintro e w2 ⟨rfl,f2⟩;replace e1:=(f2.cell (p:=⟨g,k*10+1,none⟩) hgC).trans e1;replace t3:=(f2.cell (p:=⟨gs,q*8+3,none⟩) hgs).trans t3;replace t4:=(f2.cell (p:=⟨gs,q*8+4,none⟩) hgs).trans t4;replace t5:=(f2.cell (p:=⟨gs,q*8+5,none⟩) hgs).trans t5;replace t6:=(f2.cell (p:=⟨gs,q*8+6,none⟩) hgs).trans t6;have hgC2:g<w2.heap.size:=QH hgC f2.size;have hgs2:gs<w2.heap.size:=QH hgs f2.size;have F2:=Qc (F.o.trans (f2.mono F.o.size));clear f2 t1 t2;go_wp2_with fail;refine(Wf _ bs[k].sts[q].a.1 bs[k].sts[q].a.2 _).mono ?_;rintro e w3 ⟨rfl,f3⟩;replace e1:=(f3.cell (p:=⟨g,k*10+1,none⟩) hgC2).trans e1;replace t5:=(f3.cell (p:=⟨gs,q*8+5,none⟩) hgs2).trans t5;replace t6:=(f3.cell (p:=⟨gs,q*8+6,none⟩) hgs2).trans t6;have F3:=Qc (F2.o.trans (f3.mono F2.o.size));clear f3 t3 t4;go_wp2_with fail;refine(Wf _ bs[k].sts[q].b.1 bs[k].sts[q].b.2 _).mono ?_;rintro e w4 ⟨rfl,f4⟩;have F4:=Qc (F3.o.trans (f4.mono F3.o.size));have HY2:Hid (gr (gr (gr y (bs[k].sts[q].to.1,bs[k].sts[q].to.2)) (bs[k].sts[q].a.1,bs[k].sts[q].a.2)) (bs[k].sts[q].b.1,bs[k].sts[q].b.2)=((L0++bs[k].chs.flatMap Kc)++(bs[k].sts.take (q+1)).flatMap (fun t=>[t.to,t.a,t.b])).foldl gr (-1)):=by
        show _=_;rw[Zb hql,List.flatMap_append,←List.append_assoc,List.foldl_append,←HY.o];rfl
       clear f4 HY F F2 F3 t5 t6 e1;go_wp2_with fail;go_roundw
       case rel=>exact⟨q+1,_,by omega,by go_num,rfl,HY2,F4⟩
       case measure=>simp[intOf];omega
      ·have e3:=(F.o.cell (p:=⟨g,k*10+3,none⟩) hg).trans HD.o.2.2.1;have e4:=(F.o.cell (p:=⟨g,k*10+4,none⟩) hg).trans HD.o.2.2.2;go_wp2_with fail;refine(Wf y bs[k].e.a.1 bs[k].e.a.2 _).mono ?_;rintro e w2 ⟨rfl,f2⟩;have F2:=Qc (F.o.trans (f2.mono F.o.size));have HY2:Hid (gr y (bs[k].e.a.1,bs[k].e.a.2)=((bs.take (k+1)).flatMap Vy).foldl gr (-1)):=by
        show _=_;rw[HN.o];unfold Vy;rw[HY.o,Zg (by omega),←List.append_assoc,←List.append_assoc];exact Vn rfl _
       clear f2 HY F e3 e4 e1;go_wp2_with fail;go_roundw
       case rel=>exact⟨k+1,_,by omega,by go_num,rfl,HY2,F2⟩
       case measure=>simp[intOf];omega
  ·have HE:Hid (y=Qfw bs):=by
    show _=_;rw[HY.o,Zg (by omega)];rfl
   clear HY;go_wp2_with fail;go_ret;exact⟨by rw[←HE.o];rfl,F.o⟩
end Go.Proofs.YtgfhfkgdmidhpaaGreatDoor
