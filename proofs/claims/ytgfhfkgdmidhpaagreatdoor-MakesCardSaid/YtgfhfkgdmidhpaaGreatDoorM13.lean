import Derived.Test.YtgfhfkgdmidhpaaGreatDoorM12
import Derived.Laws.OwnMore
namespace Go.Proofs.YtgfhfkgdmidhpaaGreatDoor
open Go.RowKit
open Tryz
set_option maxRecDepth 100000
set_option maxHeartbeats 8000000
structure Ch(P:Nat→Prop)(w w':World):Prop where
 os:w'.os=w.os
 tape:w'.tape=w.tape
 output:w'.output=w.output
 size:w.heap.size≤w'.heap.size
 block:∀k,k<w.heap.size→¬P k→w'.heap[k]?=w.heap[k]?
theorem Ch.trans{P a b c}(h:Ch P a b)(k:Ch P b c):Ch P a c:=⟨k.os.trans h.os,k.tape.trans h.tape,k.output.trans h.output,Qy h.size k.size,fun i hi hp=>(k.block i (QH hi h.size) hp).trans (h.block i hi hp)⟩
theorem Ch.trans2{P Q:Nat→Prop} {a b c}(h:Ch P a b)(k:Ch Q b c)(hq:∀i,i<a.heap.size→Q i→P i):Ch P a c:=⟨k.os.trans h.os,k.tape.trans h.tape,k.output.trans h.output,Qy h.size k.size,fun i hi hp=>(k.block i (QH hi h.size) (fun q=>hp (hq i hi q))).trans (h.block i hi hp)⟩
theorem Ch.mono{P Q:Nat→Prop} {a b}(h:Ch P a b)(hq:∀i,P i→Q i):Ch Q a b:=⟨h.os,h.tape,h.output,h.size,fun i hi hp=>h.block i hi (fun p=>hp (hq i p))⟩
theorem Ch.below(P) {w w'}(F:Below w.heap.size w w'):Ch P w w':=⟨F.os,F.tape,F.output,F.size,fun k hk _=>F.block k hk⟩
theorem Ch.alloc(P)(w:World)(o:Obj):Ch P w (w.alloc o):=Ch.below P ((Below.refl _ _).alloc (Qi _) o)
theorem Ch.grown{P:Nat→Prop}{w w':World}{r:Option Nat}(g:w.grownBy w' r)(hP:∀k,some k=r→P k):Ch P w w':=⟨g.os,g.tape,g.output,g.size,fun k hk hp=>g.block k hk (fun e=>hp (hP k e))⟩
theorem QM{w:World}{g k o:Nat}{x:Value}(h:k≠g):(w.setCell ⟨g,o,none⟩ x).heap[k]?=w.heap[k]?:=Below.heap_setCell _ _ _ _ (by simpa using h)
theorem Ch.set{P:Nat→Prop}(w:World){g:Nat}(o:Nat)(x:Value)(hP:P g):Ch P w (w.setCell ⟨g,o,none⟩ x):=⟨rfl,rfl,rfl,by simp[World.setCell],fun k _ hp=>QM (fun e=>hp (by rw[e];exact hP))⟩
theorem Ch.toBelow{P:Nat→Prop}{w w':World}{base:Nat}(h:Ch P w w')(hb:base≤w.heap.size)(hP:∀k,P k→base≤k):Below base w w':=⟨h.os,h.tape,h.output,h.size,fun k hk=>h.block k (by omega) (fun p=>by have:=hP k p;omega)⟩
theorem QG{w:World}{b1 e1 s1 n1 pb:Nat}{u:Value}{xs:List Value}{cs:Array Value}{t:TypeId}(hu:w.ownsRow b1 e1 s1 u n1 xs)(hB:w.heap[pb]?=some (.cells cs t (0,0)))(he:e1≠t):u.ownBlock≠some pb:=by
 intro hk;rcases hu.2 with ⟨rfl,_⟩|⟨g,cap,cur,rfl,_,c1,_⟩
 ·cases hk
 cases hk;rw[c1]at hB;cases hB;exact he rfl
theorem GY{t e:TypeId}{z:Value}{size bytes:Nat}(ht:prog.underlying t=some (.slice e))(hi:(prog.info? e).map (fun i=>(i.zero,i.size,i.bytes))=some (some z,size,bytes))(hzs:z.cells.size=size)(hsz:0<size)(hby:bytes≤1000)
  {ops:Array Oper}{rest:List Oper}{o:Oper}{a:Act}{Q:Exit→Act→World→Prop}{w:World}(hgd:o.guard=none)(s x:Operand)
  (ho:o.op=.call { callee:=.builtin .append,args:=#[s,x],argTypes:=#[t,t] })
  {base:Nat}{v:Value}{n:Nat}{xs:List Value}(hs:a.eval s=v)(hown:w.ownsRow base e size v n xs)
  {B:Nat}{cs:Array Value}{tt:TypeId}{fr:Nat×Nat}(hB:w.heap[B]?=some (.cells cs tt fr))(hx:a.eval x=.slice (some ⟨B,0,none⟩) 1 1)(hl:cs.size=size)(h1:∀u∈cs.toList,u.oneCell'=true)
  (hn:n≤100000000000)(hbase:base≤w.heap.size)
  (h:∀v' w',w'.ownsRow base e size v' (n+1) (xs++cs.toList)→w.grownBy w' v.ownBlock→(v'.ownBlock=v.ownBlock∨v'.ownBlock=some w.heap.size)→wpList prog ops Q rest (a.put o.dst v') w'):wpList prog ops Q (o::rest) a w:=by
 obtain⟨I,Hi,Hz,Hs,Hb⟩:=info_parts hi;refine wpList_append_own_at w hgd s x t ho base e I z size bytes ht Hi Hz Hs Hb hzs hsz v n xs hs hown ⟨B,0,none⟩ 1 1 cs.toList hx (by simpa using hl) (World.news_of_block hB) h1 (by unfold maxLen;omega) ?_ hbase (fun v' w' h1 h2 _ h4=>h v' w' h1 h2 h4);have:(n+1)*bytes≤100000000001*1000:=Nat.mul_le_mul (by omega) hby
 omega
def Jc(w:World)(v v':Value):Prop:=v'.ownBlock=v.ownBlock∨∃k,v'.ownBlock=some k∧w.heap.size≤k
def SfP(g:Nat)(vN vH:Value)(k:Nat):Prop:=k=g∨some k=vN.ownBlock∨some k=vH.ownBlock
structure Sf(g:Nat)(vN vH vN' vH':Value)(w w':World):Prop where
 ch:Ch (SfP g vN vH) w w'
 newN:Jc w vN vN'
 newH:Jc w vH vH'
theorem Xq{w w':World}{base e size n:Nat}{v:Value}{xs:List Value}(h:w.ownsRow base e size v n xs)(hk:∀k,k<w.heap.size→v.ownBlock=some k→w'.heap[k]?=w.heap[k]?):w'.ownsRow base e size v n xs:=by
 obtain⟨a,b⟩:=h;refine⟨a,b.imp id ?_⟩;rintro⟨g,cap,cur,rfl,b1,c1,d1⟩;exact⟨g,cap,cur,rfl,b1,by rw[hk g (lt_of_block c1) rfl];exact c1,d1⟩
theorem V1{base v l w w'}(h:InR base v l w)(hk:∀k,k<w.heap.size→XE v=some k→w'.heap[k]?=w.heap[k]?):InR base v l w':=by
 obtain⟨p,c,rfl,hc,h⟩:=h;refine⟨p,c,rfl,hc,fun h0=>?_⟩;obtain⟨g,o,cs,rfl,b,c,d⟩:=h h0;exact⟨g,o,cs,rfl,b,by rw[hk g (lt_of_block c) (by rw[XE,if_neg (by omega)])];exact c,d⟩
theorem Ye.stored{base g ns hs vN gH cH vI vO m w}(h:Ye base g ns hs vN (.slice (some ⟨gH,0,none⟩) hs.length cH) vI vO m w){k n:Nat}(hk:k<ns.length)(h1:ns[k]=n)(h2:∀j (hj:j<k),ns[j]'(by omega)≠n)(v:Int):
  Ye base g ns (hs.set k v) vN (.slice (some ⟨gH,0,none⟩) (hs.set k v).length cH) vI vO { m with r:=upd m.r n v } (w.setCell ⟨gH,k,none⟩ (.int .i64 v)):=by
 obtain⟨⟨⟨a,a2⟩,⟨b,c,d⟩,e,⟨f1,f2,f3⟩,i1⟩,he,hr⟩:=h;have hne:g≠gH:=fun e2=>by
  subst e2;exact QG c a (by decide) rfl
 rw[List.length_set];refine⟨⟨⟨by rw[QM hne];exact a,a2⟩,⟨Xq b (fun j _ hj=>QM (fun e2=>f1 gH rfl (by rw[←e2];exact hj))),?_,Xq d (fun j _ hj=>QM (fun e2=>f3 j hj (by rw[e2];rfl)))⟩,V1 e (fun j _ hj=>QM (fun e2=>(i1 j hj).2.1 (by rw[e2];rfl))),⟨f1,f2,f3⟩,i1⟩,by rw[List.length_set];exact he,?_⟩
 ·rw[List.length_set,←QcE];exact(c.stored k _).1
 ·funext j
  show upd m.r n v j=_;rw[NV hk he h1 h2,hr]
theorem Jc.apart{w:World}{base e size n:Nat}{v v' u:Value}{xs:List Value}(h:Jc w v v')(hu:w.ownsRow base e size u n xs)(ha:Q4 u v):Q4 u v':=by
 intro k hk hu2;rcases h with h|⟨j,h,hj⟩
 ·rw[h]at hk;exact ha k hk hu2
 ·rw[h]at hk;cases hk;have:=(hu.lt _ hu2).2;omega
theorem Jc.no{w:World}{v v':Value}{k:Nat}(h:Jc w v v')(hv:v.ownBlock≠some k)(hk:k<w.heap.size):v'.ownBlock≠some k:=by
 rcases h with h|⟨j,h,hj⟩
 ·rw[h];exact hv
 ·rw[h];intro e;cases e;omega
theorem Jc.of{w:World}{v v':Value}{o:Obj}(h:v'.ownBlock=v.ownBlock∨v'.ownBlock=some (w.alloc o).heap.size):Jc w v v':=by
 rcases h with h|h
 ·exact .inl h
 ·exact .inr ⟨_,h,by rw[Qt];omega⟩
theorem InR.lt{base v l w}(h:InR base v l w){k:Nat}(hk:XE v=some k):k<w.heap.size:=by
 obtain⟨p,c,rfl,hc,h⟩:=h;by_cases h0:0<l.length
 ·obtain⟨g,o,cs,rfl,b,c,d⟩:=h h0;rw[XE,if_neg (by omega)]at hk;cases hk;exact lt_of_block c
 ·have:l.length=0:=by omega
  rw[this]at hk;cases p<;>simp[XE]at hk
theorem XF{w w':World}{o:Obj}{v:Value}(g:(w.alloc o).grownBy w' v.ownBlock):Ch (fun k=>some k=v.ownBlock) w w':=(Ch.alloc _ w o).trans (Ch.grown g (fun _ h=>h))
theorem Kv.appN{base g ns hs inp out vN vH vI vO w w3 v3 o}{x:Nat}(h:Kv base g ns hs inp out vN vH vI vO w)(oS:w3.ownsRow base 3 1 v3 (ns.length+1) (Qe ns++[.int .i64 x]))(gS:(w.alloc o).grownBy w3 vN.ownBlock)(nS:v3.ownBlock=vN.ownBlock∨v3.ownBlock=some (w.alloc o).heap.size):
  Kv base g (ns++[x]) hs inp out v3 vH vI vO (w3.setCell ⟨g,0,none⟩ v3)∧Ch (fun k=>k=g∨some k=vN.ownBlock) w (w3.setCell ⟨g,0,none⟩ v3)∧Jc w vN v3:=by
 obtain⟨⟨a,a2⟩,⟨b,c,d⟩,e,⟨f1,f2,f3⟩,i1⟩:=h;have N:=Jc.of nS;have C:=XF gS;have hg:some g≠vN.ownBlock:=fun e2=>QG b a (by decide) e2.symm;have a3:w3.heap[g]?=some (.cells #[vN,vH,vI,vO] 125 (0,0)):=by rw[C.block g (lt_of_block a) hg];exact a
 have C2:Ch (fun k=>k=g∨some k=vN.ownBlock) w (w3.setCell ⟨g,0,none⟩ v3):=(C.mono (fun _ h=>.inr h)).trans (Ch.set _ _ _ (.inl rfl));have row:∀{u:Value} {n:Nat} {xs:List Value},w.ownsRow base 3 1 u n xs→Q4 u vN→(w3.setCell ⟨g,0,none⟩ v3).ownsRow base 3 1 u n xs:=fun hu ha=>Xq hu (fun k hk hk2=>C2.block k hk (fun hp=>hp.elim (fun e2=>QG hu a (by decide) (by rw[←e2];exact hk2)) (fun e2=>ha k e2.symm hk2)));have r3:(w3.setCell ⟨g,0,none⟩ v3).ownsRow base 3 1 v3 (ns++[x]).length (Qe (ns++[x])):=by
  rw[Qw,KI];exact Xq oS (fun k _ hk2=>QM (fun e2=>QG oS a3 (by decide) (by rw[←e2];exact hk2)))
 have ir:InR base vI inp (w3.setCell ⟨g,0,none⟩ v3):=V1 e (fun k hk hk2=>C2.block k hk (fun hp=>hp.elim (fun e2=>by
  obtain⟨p,c,rfl,hc,h⟩:=e;by_cases h0:0<inp.length
  ·obtain⟨g',o',cs,rfl,b',c',d'⟩:=h h0;rw[XE,if_neg (by omega)]at hk2;cases hk2;subst e2;rw[a]at c';cases c'
  ·have:inp.length=0:=by omega
   rw[this]at hk2;cases p<;>simp[XE]at hk2) (fun e2=>(i1 k hk2).1 e2.symm)))
 exact⟨⟨⟨by rw[Qq a3];rfl,a2⟩,⟨r3,row c (Q4.symm f1),row d (Q4.symm f2)⟩,ir,⟨(N.apart c (Q4.symm f1)).symm,(N.apart d (Q4.symm f2)).symm,f3⟩,fun k hk=>⟨N.no (i1 k hk).1 (e.lt hk),(i1 k hk).2⟩⟩,C2,N⟩
theorem Kv.appH{base g ns hs inp out vN vH vI vO w w3 v3 o}{x:Int}(h:Kv base g ns hs inp out vN vH vI vO w)(oS:w3.ownsRow base 3 1 v3 (hs.length+1) (Xa hs++[.int .i64 x]))(gS:(w.alloc o).grownBy w3 vH.ownBlock)(nS:v3.ownBlock=vH.ownBlock∨v3.ownBlock=some (w.alloc o).heap.size):
  Kv base g ns (hs++[x]) inp out vN v3 vI vO (w3.setCell ⟨g,1,none⟩ v3)∧Ch (fun k=>k=g∨some k=vH.ownBlock) w (w3.setCell ⟨g,1,none⟩ v3)∧Jc w vH v3:=by
 obtain⟨⟨a,a2⟩,⟨b,c,d⟩,e,⟨f1,f2,f3⟩,i1⟩:=h;have N:=Jc.of nS;have C:=XF gS;have hg:some g≠vH.ownBlock:=fun e2=>QG c a (by decide) e2.symm;have a3:w3.heap[g]?=some (.cells #[vN,vH,vI,vO] 125 (0,0)):=by rw[C.block g (lt_of_block a) hg];exact a
 have C2:Ch (fun k=>k=g∨some k=vH.ownBlock) w (w3.setCell ⟨g,1,none⟩ v3):=(C.mono (fun _ h=>.inr h)).trans (Ch.set _ _ _ (.inl rfl));have row:∀{u:Value} {n:Nat} {xs:List Value},w.ownsRow base 3 1 u n xs→Q4 u vH→(w3.setCell ⟨g,1,none⟩ v3).ownsRow base 3 1 u n xs:=fun hu ha=>Xq hu (fun k hk hk2=>C2.block k hk (fun hp=>hp.elim (fun e2=>QG hu a (by decide) (by rw[←e2];exact hk2)) (fun e2=>ha k e2.symm hk2)));have r3:(w3.setCell ⟨g,1,none⟩ v3).ownsRow base 3 1 v3 (hs++[x]).length (Xa (hs++[x])):=by
  rw[Qw,YG];exact Xq oS (fun k _ hk2=>QM (fun e2=>QG oS a3 (by decide) (by rw[←e2];exact hk2)))
 have ir:InR base vI inp (w3.setCell ⟨g,1,none⟩ v3):=V1 e (fun k hk hk2=>C2.block k hk (fun hp=>hp.elim (fun e2=>by
  obtain⟨p,c,rfl,hc,h⟩:=e;by_cases h0:0<inp.length
  ·obtain⟨g',o',cs,rfl,b',c',d'⟩:=h h0;rw[XE,if_neg (by omega)]at hk2;cases hk2;subst e2;rw[a]at c';cases c'
  ·have:inp.length=0:=by omega
   rw[this]at hk2;cases p<;>simp[XE]at hk2) (fun e2=>(i1 k hk2).2.1 e2.symm)))
 exact⟨⟨⟨by rw[Qq a3];rfl,a2⟩,⟨row b f1,r3,row d (Q4.symm f3)⟩,ir,⟨N.apart b f1,f2,(N.apart d (Q4.symm f3)).symm⟩,fun k hk=>⟨(i1 k hk).1,N.no (i1 k hk).2.1 (e.lt hk),(i1 k hk).2.2⟩⟩,C2,N⟩
theorem Kv.appO{base g ns hs inp out vN vH vI vO w w3 v3 o}{x:Int}(h:Kv base g ns hs inp out vN vH vI vO w)(oS:w3.ownsRow base 3 1 v3 (out.length+1) (Xa out++[.int .i64 x]))(gS:(w.alloc o).grownBy w3 vO.ownBlock)(nS:v3.ownBlock=vO.ownBlock∨v3.ownBlock=some (w.alloc o).heap.size):
  Kv base g ns hs inp (out++[x]) vN vH vI v3 (w3.setCell ⟨g,3,none⟩ v3)∧Ch (fun k=>k=g∨some k=vO.ownBlock) w (w3.setCell ⟨g,3,none⟩ v3)∧Jc w vO v3:=by
 obtain⟨⟨a,a2⟩,⟨b,c,d⟩,e,⟨f1,f2,f3⟩,i1⟩:=h;have N:=Jc.of nS;have C:=XF gS;have hg:some g≠vO.ownBlock:=fun e2=>QG d a (by decide) e2.symm;have a3:w3.heap[g]?=some (.cells #[vN,vH,vI,vO] 125 (0,0)):=by rw[C.block g (lt_of_block a) hg];exact a
 have C2:Ch (fun k=>k=g∨some k=vO.ownBlock) w (w3.setCell ⟨g,3,none⟩ v3):=(C.mono (fun _ h=>.inr h)).trans (Ch.set _ _ _ (.inl rfl));have row:∀{u:Value} {n:Nat} {xs:List Value},w.ownsRow base 3 1 u n xs→Q4 u vO→(w3.setCell ⟨g,3,none⟩ v3).ownsRow base 3 1 u n xs:=fun hu ha=>Xq hu (fun k hk hk2=>C2.block k hk (fun hp=>hp.elim (fun e2=>QG hu a (by decide) (by rw[←e2];exact hk2)) (fun e2=>ha k e2.symm hk2)));have r3:(w3.setCell ⟨g,3,none⟩ v3).ownsRow base 3 1 v3 (out++[x]).length (Xa (out++[x])):=by
  rw[Qw,YG];exact Xq oS (fun k _ hk2=>QM (fun e2=>QG oS a3 (by decide) (by rw[←e2];exact hk2)))
 have ir:InR base vI inp (w3.setCell ⟨g,3,none⟩ v3):=V1 e (fun k hk hk2=>C2.block k hk (fun hp=>hp.elim (fun e2=>by
  obtain⟨p,c,rfl,hc,h⟩:=e;by_cases h0:0<inp.length
  ·obtain⟨g',o',cs,rfl,b',c',d'⟩:=h h0;rw[XE,if_neg (by omega)]at hk2;cases hk2;subst e2;rw[a]at c';cases c'
  ·have:inp.length=0:=by omega
   rw[this]at hk2;cases p<;>simp[XE]at hk2) (fun e2=>(i1 k hk2).2.2 e2.symm)))
 exact⟨⟨⟨by rw[Qq a3];rfl,a2⟩,⟨row b f2,row c f3,r3⟩,ir,⟨f1,N.apart b f2,N.apart c f3⟩,fun k hk=>⟨(i1 k hk).1,(i1 k hk).2.1,N.no (i1 k hk).2.2 (e.lt hk)⟩⟩,C2,N⟩
theorem Sf.set{g gH k cH n:Nat}{vN x:Value}{w w':World}(F:Below w.heap.size w w'):Sf g vN (.slice (some ⟨gH,0,none⟩) n cH) vN (.slice (some ⟨gH,0,none⟩) n cH) w (w'.setCell ⟨gH,k,none⟩ x):=
 ⟨(Ch.below _ F).trans (Ch.set _ _ _ (.inr (.inr rfl))),.inl rfl,.inl rfl⟩
theorem Qkn(base g n:Nat)(v:Int)(ns:List Nat)(hs:List Int)(vN vH vI vO:Value)(m:Mac)(w:World)(h:Ye base g ns hs vN vH vI vO m w)(hl:ns.length≤1000000000)(hb:base≤w.heap.size):
  Calls prog 94 #[.pointer (some ⟨g,0,none⟩),.int .i64 n,.int .i64 v] w fun x w'=>x=.returned (.tuple #[])∧∃ns' hs' vN' vH',Hid (Ye base g ns' hs' vN' vH' vI vO { m with r:=upd m.r n v } w'∧ns'.length≤ns.length+1∧Sf g vN vH vN' vH' w w'):=by
 have HM:=Qc h;obtain⟨⟨⟨h1,_⟩,⟨h2,h3,_⟩,_⟩,he,hr⟩:=h;obtain⟨pN,cN,rfl⟩:=Qa h2;obtain⟨pH,cH,rfl⟩:=Qa h3;have hgw:=lt_of_block h1;have k0:=Qb h1 0;have k1:=Qb h1 1;simp at k0 k1;have K0:=Qc (And.intro k0 k1);have HR:=Qc hr;have HE:=Qc he;have H2:=Qc h2;have H3:=Qc h3;clear h1 h2 h3 hr he k0 k1;go_enter func94,ntmps94;go_wp2_with fail
 go_loopw [6] (fun i wr=>∃k:Nat,k≤ns.length∧i=.int .i64 k∧Hid (∀j (hj:j<ns.length),j<k→ns[j]≠n)∧Hid (Below w.heap.size w wr)) (fun i _=>ns.length-(intOf i).toNat)
 case atStart=>exact⟨0,by omega,rfl,(fun j _ h=>by omega),Below.refl _ _⟩
 case round=>
  obtain⟨k,hk,rfl,HN,F⟩:=hrel;rename World=>wA;have k0:=(F.o.cell (p:=⟨g,0,none⟩) hgw).trans K0.o.1;have k1:=(F.o.cell (p:=⟨g,1,none⟩) hgw).trans K0.o.2;by_cases hlt:k<ns.length
  ·have hlt2:k<hs.length:=by have:=HE.o;omega
   have O2:=Qd H2.o (Qh F.o) trivial;have O3:=Qd H3.o (Qh F.o) trivial;obtain⟨gN,rfl,_,_⟩:=Qk O2 (by omega);obtain⟨gH,rfl,_,_⟩:=Qk O3 (by omega);have c2:=Qf O2 (j:=k) (u:=.int .i64 ns[k]) (by simp[Qe,hlt]);have c3:=Qf O3 (Kw hlt2);have H3B:=Qc O3;clear O2 O3;by_cases he:ns[k]=n
   ·have hd:((ns[k]:Int)==(n:Int))=true:=by simp;omega
    have HEQ:=Qc he;clear he;have z3:=H3B.o.frozenAt k;go_wp2_with fail;refine bodyPost_ret (v:=.tuple #[]) (by simp[results,results94,go_sem]) rfl ⟨rfl,ns,hs.set k v,_,_,(HM.o.keeps F.o).stored hlt HEQ.o (fun j hj=>HN.o j (by omega) hj) v,by omega,by rw[List.length_set];exact Sf.set F.o⟩
   ·have HN2:Hid (∀j (hj:j<ns.length),j<k+1→ns[j]≠n):=fun j hj hjk=>by
     by_cases e:j=k
     ·subst e;exact he
     ·exact HN.o j hj (by omega)
    have hd:((ns[k]:Int)==(n:Int))=false:=by simp;omega
    clear he;go_wp2_with fail;go_roundw
    case rel=>exact⟨k+1,by omega,by go_num,HN2,F⟩
    case measure=>simp[intOf];omega
  ·have hke:k=ns.length:=by omega
   clear hke;go_wp2_with (at_builtin;refine QA ?_);refine Qc ?_;have HMA:=Qc (HM.o.keeps F.o);have hbA:base≤wA.heap.size:=Qy hb F.o.size;have gB:=heap_alloc_last wA (.cells #[.int .i64 n] 3);have OB:=HMA.o.1.2.1.1.alloc (.cells #[.int .i64 n] 3);refine GY underlying22 JF rfl (by decide) (by decide) rfl _ _ rfl rfl OB gB rfl rfl (List.all_eq_true.1 rfl) (by omega) (by simp;omega) ?_;intro v3 w3 oS gS nS;obtain⟨v3p,v3c,rfl⟩:=Qa oS;have H4:=Qc (Kv.appN HMA.o.1 oS gS nS);have a3:w3.heap[g]?=some (.cells #[.slice pN ns.length cN,.slice pH hs.length cH,vI,vO] 125 (0,0)):=by rw[(XF gS).block g (lt_of_block HMA.o.1.1.1) (fun e2=>QG HMA.o.1.2.1.1 HMA.o.1.1.1 (by decide) e2.symm)];exact HMA.o.1.1.1
   have y0:=Qb a3 0;have y1:=Qb a3 1;have y0f:=Qg a3 0;simp at y0 y1;have HC:=Qc (Ch.below (SfP g (.slice pN ns.length cN) (.slice pH hs.length cH)) F.o);clear oS gS nS gB OB a3 k0 k1;go_wp2_with (at_builtin;refine QA ?_);refine Qc ?_;clear y0 y1 y0f;have hz4:(w3.setCell ⟨g,0,none⟩ (.slice v3p (ns.length+1) v3c)).heap.size=w3.heap.size:=by simp[World.setCell]
   generalize hW4:w3.setCell ⟨g,0,none⟩ (.slice v3p (ns.length+1) v3c)=W4 at *;clear hW4;have h4z:base≤W4.heap.size:=Qy hbA H4.o.2.1.size;have gB:=heap_alloc_last W4 (.cells #[.int .i64 v] 3);have OB:=H4.o.1.2.1.2.1.alloc (.cells #[.int .i64 v] 3);rw[hz4]at gB;clear hz4;refine GY underlying22 JF rfl (by decide) (by decide) rfl _ _ rfl rfl OB gB rfl rfl (List.all_eq_true.1 rfl) (by have:=HE.o;omega) (by simp;omega) ?_;intro v6 w6 oS gS nS;obtain⟨v6p,v6c,rfl⟩:=Qa oS;have H7:=Qc (Kv.appH H4.o.1 oS gS nS);have a3:w6.heap[g]?=some (.cells #[.slice v3p (ns.length+1) v3c,.slice pH hs.length cH,vI,vO] 125 (0,0)):=by rw[(XF gS).block g (lt_of_block H4.o.1.1.1) (fun e2=>QG H4.o.1.2.1.2.1 H4.o.1.1.1 (by decide) e2.symm)];exact H4.o.1.1.1
   have y1:=Qb a3 1;have y1f:=Qg a3 1;simp at y1;clear oS gS nS gB OB a3;go_wp2_with fail
   go_end0
   refine⟨rfl,ns++[n],hs++[v],_,_,⟨H7.o.1,by rw[List.length_append,List.length_append,HE.o];rfl,?_⟩,by simp,⟨HC.o.trans ((H4.o.2.1.mono (fun k h=>h.elim .inl (fun h=>.inr (.inl h)))).trans2 (H7.o.2.1.mono (fun k h=>h.elim .inl (fun h=>.inr (.inr h)))) (fun _ _ h=>h)),?_,?_⟩⟩
   ·funext j
    show upd m.r n v j=_;rw[NY HE.o (fun j hj=>HN.o j hj (by omega)),HR.o]
   ·rcases H4.o.2.2 with h|⟨k2,h,hk2⟩
    ·exact .inl h
    ·exact .inr ⟨k2,h,Qy F.o.size hk2⟩
   ·rcases H7.o.2.2 with h|⟨k2,h,hk2⟩
    ·exact .inl h
    ·exact .inr ⟨k2,h,Qy (Qy F.o.size H4.o.2.1.size) hk2⟩
theorem Rf{t e:TypeId}{z:Value}{size bytes:Nat}(ht:prog.underlying t=some (.slice e))(hi:(prog.info? e).map (fun i=>(i.zero,i.size,i.bytes))=some (some z,size,bytes))(hzs:z.cells.size=size)(hsz:0<size)(hby:bytes≤1000)
  {ops:Array Oper}{o:Oper}{a:Act}{K:Act→World→Prop}{Q:Exit→Act→World→Prop}{E:Prop}{w:World}(hgd:o.guard=none)(s x:Operand)
  (ho:o.op=.call { callee:=.builtin .append,args:=#[s,x],argTypes:=#[t,t] })
  {base:Nat}{v:Value}{n:Nat}{xs:List Value}(hs:a.eval s=v)(hown:w.ownsRow base e size v n xs)
  {B:Nat}{cs:Array Value}{tt:TypeId}{fr:Nat×Nat}(hB:w.heap[B]?=some (.cells cs tt fr))(hx:a.eval x=.slice (some ⟨B,0,none⟩) 1 1)(hl:cs.size=size)(h1:∀u∈cs.toList,u.oneCell'=true)
  (hn:n≤100000000000)(hbase:base≤w.heap.size)
  (h:∀v' w',w'.ownsRow base e size v' (n+1) (xs++cs.toList)→w.grownBy w' v.ownBlock→(v'.ownBlock=v.ownBlock∨v'.ownBlock=some w.heap.size)→K (a.put o.dst v') w'):
  if Region.wanted o (yielded ops a.tmps)=true then Oper.wp prog o a w K Q else E:=by
 obtain⟨I,Hi,Hz,Hs,Hb⟩:=info_parts hi;have hw:Region.wanted o (yielded ops a.tmps)=true:=by simp[Region.wanted,hgd]
 rw[if_pos hw];obtain⟨v',w',hr,h2,h3,_,h5⟩:=run_append_own_at (P:=prog) w base t o.type e I z size bytes ht Hi Hz Hs Hb hzs hsz v n xs hown ⟨B,0,none⟩ 1 1 cs.toList (by simpa using hl) (World.news_of_block hB) h1 (by unfold maxLen;omega) (by have:(n+1)*bytes≤100000000001*1000:=Nat.mul_le_mul (by omega) hby;omega) hbase;unfold Oper.wp execOp;simp only[ho,resolve,invoke,builtin,Sem.run_bind,Sem.run_pure,Result.andThen_ok,List.map_toArray,List.map_cons,List.map_nil,hs,hx,hr];exact h v' w' h2 h3 h5
theorem Qkh(o:Nat)(a b:Int)(w:World)(ho:o<256):Calls prog 95 #[.int .u8 o,.int .i64 a,.int .i64 b] w fun x w'=>x=.returned (.int .i64 (wkF o a b))∧Below w.heap.size w w':=by
 go_enter func95,ntmps95;by_cases h1:o=43
 ·subst h1;have HW:Hid (wkF 43 a b=wrap64 (a+b)):=rfl;go_wp2_with fail;go_ret;exact⟨by rw[HW.o];rfl,Below.refl _ _⟩
 by_cases h2:o=45
 ·subst h2;have HW:Hid (wkF 45 a b=wrap64 (a-b)):=rfl;clear h1;go_wp2_with fail;go_ret;exact⟨by rw[HW.o];rfl,Below.refl _ _⟩
 by_cases h3:o=42
 ·subst h3;have HW:Hid (wkF 42 a b=wrap64 (a*b)):=rfl;clear h1 h2;go_wp2_with fail;go_ret;exact⟨by rw[HW.o];rfl,Below.refl _ _⟩
 have hd1:((o:Int)==43)=false:=by simp;omega
 have hd2:((o:Int)==45)=false:=by simp;omega
 have hd3:((o:Int)==42)=false:=by simp;omega
 by_cases h4:a<b
 ·have HW:Hid (wkF o a b=1):=by show _=_;rw[wkF,if_neg h1,if_neg h2,if_neg h3,if_pos h4]
  clear h1 h2 h3;go_wp2_with fail;go_ret;exact⟨by rw[HW.o];rfl,Below.refl _ _⟩
 ·have HW:Hid (wkF o a b=0):=by show _=_;rw[wkF,if_neg h1,if_neg h2,if_neg h3,if_neg h4]
  clear h1 h2 h3;go_wp2_with fail;go_ret;exact⟨by rw[HW.o];rfl,Below.refl _ _⟩
def Kg(g:Nat)(w w':World):Prop:=∀k cur e,k≠g→e≠3→w.heap[k]?=some (.cells cur e (0,0))→w'.heap[k]?=some (.cells cur e (0,0))
theorem Kg.trans{g u v w}(h:Kg g u v)(k:Kg g v w):Kg g u w:=fun i c e a b x=>k i c e a b (h i c e a b x)
theorem Kg.below{g w w'}(F:Below w.heap.size w w'):Kg g w w':=fun i c e _ _ x=>by rw[F.block i (lt_of_block x)];exact x
theorem Ye.kg{base g ns hs vN vH vI vO m vN' vH' w w'}(h:Ye base g ns hs vN vH vI vO m w)(S:Sf g vN vH vN' vH' w w'):Kg g w w':=fun i c e a b x=>by
 rw[S.ch.block i (lt_of_block x) (fun hp=>hp.elim a (fun hp=>hp.elim (fun e2=>QG h.1.2.1.1 x (fun e3=>b e3.symm) e2.symm) (fun e2=>QG h.1.2.1.2.1 x (fun e3=>b e3.symm) e2.symm)))];exact x
theorem Ye.bel{base g ns hs vN vH vI vO m vN' vH' w w'}(h:Ye base g ns hs vN vH vI vO m w)(S:Sf g vN vH vN' vH' w w')(hb:base≤w.heap.size):Below base w w':=S.ch.toBelow hb (fun k hp=>hp.elim (fun e=>by rw[e];exact h.1.1.2) (fun hp=>hp.elim (fun e=>(h.1.2.1.1.lt k e.symm).1) (fun e=>(h.1.2.1.2.1.lt k e.symm).1)))
theorem QkY{base g n:Nat}{v:Value}{xs:List Value}{w w':World}(hv:w.ownsRow base 3 1 v n xs)(C:Ch (fun k=>k=g∨some k=v.ownBlock) w w'):Kg g w w':=fun i c e a b x=>by
 rw[C.block i (lt_of_block x) (fun hp=>hp.elim a (fun e2=>QG hv x (fun e3=>b e3.symm) e2.symm))];exact x
theorem QfT{base g n:Nat}{v:Value}{xs:List Value}{w w':World}(hv:w.ownsRow base 3 1 v n xs)(C:Ch (fun k=>k=g∨some k=v.ownBlock) w w')(hg:base≤g)(hb:base≤w.heap.size):Below base w w':=C.toBelow hb (fun k hp=>hp.elim (fun e=>by omega) (fun e=>(hv.lt k e.symm).1))
theorem Qp{base:Nat}{u v:World}(F:Below base u v)(k o:Nat)(x:Value)(hk:base≤k):Below base u (v.setCell ⟨k,o,none⟩ x):=
 F.trans ⟨rfl,rfl,rfl,by simp[World.setCell],fun j hj=>Below.heap_setCell _ _ _ _ (by simp;omega)⟩
theorem Kv.inp{base g ns hs inp l out vN vH vI vI' vO w}(h:Kv base g ns hs inp out vN vH vI vO w)(hi:InR base vI' l w)(hk:∀k,XE vI'=some k→XE vI=some k):Kv base g ns hs l out vN vH vI' vO (w.setCell ⟨g,2,none⟩ vI'):=by
 obtain⟨⟨a,a2⟩,⟨b,c,d⟩,e,ap,i1⟩:=h;have row:∀{u:Value} {n:Nat} {xs:List Value},w.ownsRow base 3 1 u n xs→(w.setCell ⟨g,2,none⟩ vI').ownsRow base 3 1 u n xs:=fun hu=>Xq hu (fun k hk hk2=>QM (fun e2=>QG hu a (by decide) (by rw[←e2];exact hk2)));refine⟨⟨by rw[Qq a];rfl,a2⟩,⟨row b,row c,row d⟩,V1 hi (fun k hk hk2=>QM (fun e2=>?_)),ap,fun k h=>i1 k (hk k h)⟩;obtain⟨p,c',rfl,hc,h⟩:=hi;by_cases h0:0<l.length
 ·obtain⟨g',o',cs,rfl,b',c',d'⟩:=h h0;rw[XE,if_neg (by omega)]at hk2;cases hk2;subst e2;rw[a]at c';cases c'
 ·have:l.length=0:=by omega
  rw[this]at hk2;cases p<;>simp[XE]at hk2
def Xw(base g n:Nat)(m:Mac)(w:World):Prop:=∃ns hs vN vH vI vO,Ye base g ns hs vN vH vI vO m w∧ns.length≤n
theorem Xw.keeps{base g n m w w'}(h:Xw base g n m w)(F:Below w.heap.size w w'):Xw base g n m w':=by
 obtain⟨ns,hs,vN,vH,vI,vO,h,hl⟩:=h;exact⟨ns,hs,vN,vH,vI,vO,h.keeps F,hl⟩
theorem setE(base g n q:Nat)(v:Int)(m:Mac)(w:World)(h:Xw base g q m w)(hl:q≤1000000000)(hb:base≤w.heap.size):
  Calls prog 94 #[.pointer (some ⟨g,0,none⟩),.int .i64 n,.int .i64 v] w fun x w'=>x=.returned (.tuple #[])∧Hid (Xw base g (q+1) { m with r:=upd m.r n v } w'∧Kg g w w'∧Below base w w'):=by
 obtain⟨ns,hs,vN,vH,vI,vO,h,hn⟩:=h;refine(Qkn base g n v ns hs vN vH vI vO m w h (by omega) hb).mono ?_;rintro x w' ⟨rfl,ns',hs',vN',vH',H⟩;exact⟨rfl,⟨ns',hs',vN',vH',vI,vO,H.o.1,by have:=H.o.2.1;omega⟩,h.kg H.o.2.2,h.bel H.o.2.2 hb⟩
theorem RO(base g n q:Nat)(m:Mac)(w:World)(h:Xw base g q m w)(hl:q≤1000000000):
  Calls prog 60 #[.pointer (some ⟨g,0,none⟩),.int .i64 n] w fun x w'=>x=.returned (.int .i64 (m.r n))∧Below w.heap.size w w':=by
 obtain⟨ns,hs,vN,vH,vI,vO,h,hn⟩:=h;exact Qlq base g n ns hs vN vH vI vO m w h (by omega)
theorem Qiq(base g q:Nat)(t:Qz)(m:Mac)(w:World)(h:Xw base g q m w)(hop:t.op<256)(hl:q≤1000000000)(hol:m.out.length≤1000000000)(hb:base≤w.heap.size):
  Calls prog 59 #[.pointer (some ⟨g,0,none⟩),.agg #[.int .u8 t.op,.int .i64 t.to.1,.int .i64 t.to.2,.int .i64 t.a.1,.int .i64 t.a.2,.int .i64 t.b.1,.int .i64 t.b.2,.int .i64 t.n]] w fun x w'=>x=.returned (.tuple #[])∧Hid (Xw base g (q+1) (stA (QK t) m) w'∧Kg g w w'∧Below base w w'):=by
 have HM:=Qc h;clear h;by_cases h1:t.op=118
 ·have HA:Hid (stA (QK t) m={ m with r:=upd m.r t.to.1 t.n }):=by show _=_;rw[QK,if_pos h1];rfl
  rw[h1];clear h1;go_enter func59,ntmps59;go_wp2_with fail;have F1:=Qc ((Below.refl w.heap.size w).alloc (Qi _) (.cells #[.int .u8 118,.int .i64 t.to.1,.int .i64 t.to.2,.int .i64 t.a.1,.int .i64 t.a.2,.int .i64 t.b.1,.int .i64 t.b.2,.int .i64 t.n] 66));refine(setE base g t.to.1 q t.n m _ (HM.o.keeps F1.o) hl (Qy hb F1.o.size)).mono ?_;rintro x w2 ⟨rfl,H2⟩;have H3:Hid (Xw base g (q+1) (stA (QK t) m) w2∧Kg g w w2∧Below base w w2):=⟨by rw[HA.o];exact H2.o.1,(Kg.below F1.o).trans H2.o.2.1,(F1.o.mono hb).trans H2.o.2.2⟩;clear H2;go_wp2_with fail
  go_end0
  exact⟨rfl,H3.o⟩
 by_cases h2:t.op=99
 ·have HA:Hid (stA (QK t) m={ m with r:=upd m.r t.to.1 (m.r t.a.1) }):=by show _=_;rw[QK,if_neg h1,if_pos h2];rfl
  rw[h2];clear h1 h2;go_enter func59,ntmps59;go_wp2_with fail;have g1:=heap_alloc_last w (.cells #[.int .u8 99,.int .i64 t.to.1,.int .i64 t.to.2,.int .i64 t.a.1,.int .i64 t.a.2,.int .i64 t.b.1,.int .i64 t.b.2,.int .i64 t.n] 66);have F1:=Qc ((Below.refl w.heap.size w).alloc (Qi _) (.cells #[.int .u8 99,.int .i64 t.to.1,.int .i64 t.to.2,.int .i64 t.a.1,.int .i64 t.a.2,.int .i64 t.b.1,.int .i64 t.b.2,.int .i64 t.n] 66));have sW:w.heap.size<(w.alloc (.cells #[.int .u8 99,.int .i64 t.to.1,.int .i64 t.to.2,.int .i64 t.a.1,.int .i64 t.a.2,.int .i64 t.b.1,.int .i64 t.b.2,.int .i64 t.n] 66)).heap.size:=by rw[Qt];omega
  generalize w.alloc (.cells #[.int .u8 99,.int .i64 t.to.1,.int .i64 t.to.2,.int .i64 t.a.1,.int .i64 t.a.2,.int .i64 t.b.1,.int .i64 t.b.2,.int .i64 t.n] 66)=W at *;have hbW:base≤W.heap.size:=by omega
  have k0:=Qb g1 0;have k1:=Qb g1 1;have k3:=Qb g1 3;have k5:=Qb g1 5;simp at k0 k1 k3 k5;have HG:Hid (Calls prog 60 #[.pointer (some ⟨g,0,none⟩),.int .i64 t.a.1] W.drew fun x w'=>x=.returned (.int .i64 (m.r t.a.1))∧Below W.drew.heap.size W.drew w'):=RO base g t.a.1 q m W.drew (HM.o.keeps (w':=W.drew) (⟨F1.o.os,F1.o.tape,F1.o.output,F1.o.size,F1.o.block⟩:Below w.heap.size w W.drew)) hl;clear g1
  go_region_law (first | (refine Z1 rfl 60 #[.pointer (some ⟨g,0,none⟩),.int .i64 t.a.1] (by go_simp) HG.o ?_;rintro e w6 ⟨rfl,f6⟩;have f6':Below W.heap.size W w6:=⟨f6.os,f6.tape,f6.output,f6.size,f6.block⟩;have s6:=f6'.size;have y0:=(f6'.cell (p:=⟨w.heap.size,0,none⟩) sW).trans k0;have y1:=(f6'.cell (p:=⟨w.heap.size,1,none⟩) sW).trans k1;have y3:=(f6'.cell (p:=⟨w.heap.size,3,none⟩) sW).trans k3;have y5:=(f6'.cell (p:=⟨w.heap.size,5,none⟩) sW).trans k5;have O6:=Qc (F1.o.trans (f6'.mono (by omega)));clear f6 f6') | (refine Z1 rfl 94 #[.pointer (some ⟨g,0,none⟩),.int .i64 t.to.1,.int .i64 (m.r t.a.1)] (by go_simp) (setE base g t.to.1 q (m.r t.a.1) m w6 (HM.o.keeps O6.o) hl (by omega)) ?_;rintro e w7 ⟨rfl,H7⟩;have R7:Hid (Xw base g (q+1) (stA (QK t) m) w7∧Kg g w w7∧Below base w w7):=⟨by rw[HA.o];exact H7.o.1,(Kg.below O6.o).trans H7.o.2.1,(O6.o.mono hb).trans H7.o.2.2⟩;clear H7) | fail)
  all_goals
   go_wp2_with fail
   go_end0
   exact⟨rfl,R7.o⟩
 by_cases h3:t.op=33
 ·have HA:Hid (stA (QK t) m={ m with out:=m.out++[m.r t.a.1] }):=by show _=_;rw[QK,if_neg h1,if_neg h2,if_pos h3];rfl
  rw[h3];clear h1 h2 h3;go_enter func59,ntmps59;go_wp2_with fail;have g1:=heap_alloc_last w (.cells #[.int .u8 33,.int .i64 t.to.1,.int .i64 t.to.2,.int .i64 t.a.1,.int .i64 t.a.2,.int .i64 t.b.1,.int .i64 t.b.2,.int .i64 t.n] 66);have F1:=Qc ((Below.refl w.heap.size w).alloc (Qi _) (.cells #[.int .u8 33,.int .i64 t.to.1,.int .i64 t.to.2,.int .i64 t.a.1,.int .i64 t.a.2,.int .i64 t.b.1,.int .i64 t.b.2,.int .i64 t.n] 66));have sW:w.heap.size<(w.alloc (.cells #[.int .u8 33,.int .i64 t.to.1,.int .i64 t.to.2,.int .i64 t.a.1,.int .i64 t.a.2,.int .i64 t.b.1,.int .i64 t.b.2,.int .i64 t.n] 66)).heap.size:=by rw[Qt];omega
  generalize w.alloc (.cells #[.int .u8 33,.int .i64 t.to.1,.int .i64 t.to.2,.int .i64 t.a.1,.int .i64 t.a.2,.int .i64 t.b.1,.int .i64 t.b.2,.int .i64 t.n] 66)=W at *;have hbW:base≤W.heap.size:=by omega
  have k0:=Qb g1 0;have k1:=Qb g1 1;have k3:=Qb g1 3;have k5:=Qb g1 5;simp at k0 k1 k3 k5;have HG:Hid (Calls prog 60 #[.pointer (some ⟨g,0,none⟩),.int .i64 t.a.1] W.drew fun x w'=>x=.returned (.int .i64 (m.r t.a.1))∧Below W.drew.heap.size W.drew w'):=RO base g t.a.1 q m W.drew (HM.o.keeps (w':=W.drew) (⟨F1.o.os,F1.o.tape,F1.o.output,F1.o.size,F1.o.block⟩:Below w.heap.size w W.drew)) hl;clear g1;obtain⟨ns,hs,vN,vH,vI,vO,hM,hnq⟩:=HM.o;have HMX:=Qc hM;obtain⟨pO,cO,rfl⟩:=Qa hM.1.2.1.2.2;have hgw:=lt_of_block hM.1.1.1;have o3:W.cell? ⟨g,3,none⟩=some (.slice pO m.out.length cO):=by
   rw[F1.o.cell (p:=⟨g,3,none⟩) hgw];have:=Qb hM.1.1.1 3;simpa using this
  clear hM
  go_region_law (first | (refine Z1 rfl 60 #[.pointer (some ⟨g,0,none⟩),.int .i64 t.a.1] (by go_simp) HG.o ?_;rintro e w6 ⟨rfl,f6⟩;have f6':Below W.heap.size W w6:=⟨f6.os,f6.tape,f6.output,f6.size,f6.block⟩;have s6:=f6'.size;have y0:=(f6'.cell (p:=⟨w.heap.size,0,none⟩) sW).trans k0;have y1:=(f6'.cell (p:=⟨w.heap.size,1,none⟩) sW).trans k1;have y3:=(f6'.cell (p:=⟨w.heap.size,3,none⟩) sW).trans k3;have y5:=(f6'.cell (p:=⟨w.heap.size,5,none⟩) sW).trans k5;have x3:=(f6'.cell (p:=⟨g,3,none⟩) (Nat.lt_of_lt_of_le hgw F1.o.size)).trans o3;have hg6:g<w6.heap.size:=Nat.lt_of_lt_of_le (Nat.lt_of_lt_of_le hgw F1.o.size) f6'.size;have O6:=Qc (F1.o.trans (f6'.mono (by omega)));clear f6 f6') | (refine Rf underlying22 JF rfl (by decide) (by decide) rfl _ _ rfl rfl ((HMX.o.keeps O6.o).1.2.1.2.2.alloc _) (heap_alloc_last w6 (.cells #[.int .i64 (m.r t.a.1)] 3)) rfl rfl (List.all_eq_true.1 rfl) (by omega) (by rw[World.size_alloc];omega) ?_;intro v7 w7 oS gS nS;obtain⟨v7p,v7c,rfl⟩:=Qa oS;have H7:=Qc (Kv.appO (HMX.o.keeps O6.o).1 oS gS nS);have a7:w7.heap[g]?=some (.cells #[vN,vH,vI,.slice pO m.out.length cO] 125 (0,0)):=(by rw[(XF gS).block g (lt_of_block (HMX.o.keeps O6.o).1.1.1) (fun e2=>QG (HMX.o.keeps O6.o).1.2.1.2.2 (HMX.o.keeps O6.o).1.1.1 (by decide) e2.symm)];exact(HMX.o.keeps O6.o).1.1.1);have z3:=Qb a7 3;have z3f:=Qg a7 3;simp at z3;clear oS gS nS a7) | fail)
  all_goals
   go_wp2_with fail
   go_end0
   exact⟨rfl,⟨ns,hs,vN,vH,vI,.slice v7p (m.out.length+1) v7c,⟨by rw[HA.o];exact H7.o.1,by rw[HA.o];exact HMX.o.2⟩,by omega⟩,(Kg.below O6.o).trans (QkY (HMX.o.keeps O6.o).1.2.1.2.2 H7.o.2.1),(O6.o.mono hb).trans (QfT (HMX.o.keeps O6.o).1.2.1.2.2 H7.o.2.1 (HMX.o.1.1.2) (by omega))⟩
 by_cases h4:t.op=63
 ·have HA:Hid (stA (QK t) m={ m with r:=upd m.r t.to.1 (m.inp.head?.getD 0),inp:=m.inp.tail }):=by show _=_;rw[QK,if_neg h1,if_neg h2,if_neg h3,if_pos h4];rfl
  rw[h4];clear h1 h2 h3 h4;go_enter func59,ntmps59;obtain⟨ns,hs,vN,vH,vI,vO,hM,hnq⟩:=HM.o;have HMX:=Qc hM;have hgw:=lt_of_block hM.1.1.1;obtain⟨pI,cI,rfl,hc,hin⟩:=hM.1.2.2.1;have o2:=Qb hM.1.1.1 2;have o2f:=Qg hM.1.1.1 2;simp at o2;have HIN:=Qc hin;clear hM hin
  cases hI:m.inp with
  | nil=>
   rw[hI]at o2;simp at o2;have HA2:Hid (stA (QK t) m={ m with r:=upd m.r t.to.1 0 }):=by show _=_;rw[HA.o,hI];simp
   go_wp2_with fail;have F1:=Qc ((Below.refl w.heap.size w).alloc (Qi _) (.cells #[.int .u8 63,.int .i64 t.to.1,.int .i64 t.to.2,.int .i64 t.a.1,.int .i64 t.a.2,.int .i64 t.b.1,.int .i64 t.b.2,.int .i64 t.n] 66));have KW:Hid (Kg g w w∧Below base w w):=⟨fun _ _ _ _ _ h=>h,Below.refl _ _⟩;have hbX:=hb;refine(setE base g t.to.1 q 0 m _ (HM.o.keeps F1.o) hl (Qy hbX F1.o.size)).mono ?_;rintro x2 w2 ⟨rfl,H2⟩;have H3:Hid (Xw base g (q+1) (stA (QK t) m) w2∧Kg g w w2∧Below base w w2):=⟨by rw[HA2.o];exact H2.o.1,KW.o.1.trans ((Kg.below F1.o).trans H2.o.2.1),KW.o.2.trans ((F1.o.mono hbX).trans H2.o.2.2)⟩;clear H2;go_wp2_with fail
   go_end0
   exact⟨rfl,H3.o⟩
  | cons x l=>
   rw[hI]at o2;obtain⟨gI,oI,cs,rfl,bI,hcs,hcx⟩:=HIN.o (by rw[hI];simp);have c0:w.cell? ⟨gI,oI,none⟩=some (.int .i64 x):=by
    have:=Qb hcs oI;rw[this];have h2:=hcx 0 (by rw[hI];simp);simpa[hI] using h2
   have hgI:=lt_of_block hcs;have HA2:Hid (stA (QK t) m={ m with r:=upd m.r t.to.1 x,inp:=l }):=by show _=_;rw[HA.o,hI];rfl
   have HCX:Hid (∀j (h:j<l.length),cs[oI+1+j]?=some (.int .i64 l[j])):=fun j h=>by
    have h2:=hcx (j+1) (by rw[hI];simpa using h);rw[show oI+(j+1)=oI+1+j from by omega]at h2;simpa[hI] using h2
   have hlc:l.length+1≤cI:=by rw[hI]at hc;simpa using hc
   have HCS:=Qc hcs;clear hcs hcx hc HA;simp at o2;by_cases h1c:cI=1
   ·subst h1c;obtain rfl:l=[]:=List.length_eq_zero_iff.1 (by omega);have HIR:Hid (InR base (.slice (some ⟨gI,oI,none⟩) 0 0) [] w∧∀k,XE (.slice (some ⟨gI,oI,none⟩) 0 0)=some k→XE (.slice (some ⟨gI,oI,none⟩) m.inp.length 1)=some k):=⟨⟨_,_,rfl,by simp,fun h=>by simp at h⟩,fun k h=>by rw[XE,if_pos rfl]at h;cases h⟩;go_wp2_with fail;have HMN:Hid (Xw base g q { m with inp:=[] } (w.setCell ⟨g,2,none⟩ (.slice (some ⟨gI,oI,none⟩) 0 0))):=⟨ns,hs,vN,vH,_,vO,⟨Kv.inp HMX.o.1 HIR.o.1 HIR.o.2,HMX.o.2⟩,hnq⟩;have KW:Hid (Kg g w (w.setCell ⟨g,2,none⟩ (.slice (some ⟨gI,oI,none⟩) 0 0))∧Below base w (w.setCell ⟨g,2,none⟩ (.slice (some ⟨gI,oI,none⟩) 0 0))):=⟨fun i c e a b x=>by rw[QM a];exact x,Qp (Below.refl base w) _ _ _ HMX.o.1.1.2⟩;have hbX:base≤(w.setCell ⟨g,2,none⟩ (.slice (some ⟨gI,oI,none⟩) 0 0)).heap.size:=KW.o.2.size |> Qy hb;have F1:=Qc ((Below.refl (w.setCell ⟨g,2,none⟩ (.slice (some ⟨gI,oI,none⟩) 0 0)).heap.size (w.setCell ⟨g,2,none⟩ (.slice (some ⟨gI,oI,none⟩) 0 0))).alloc (Qi _) (.cells #[.int .u8 63,.int .i64 t.to.1,.int .i64 t.to.2,.int .i64 t.a.1,.int .i64 t.a.2,.int .i64 t.b.1,.int .i64 t.b.2,.int .i64 t.n] 66));refine(setE base g t.to.1 q x { m with inp:=[] } _ (HMN.o.keeps F1.o) hl (Qy hbX F1.o.size)).mono ?_;rintro x2 w2 ⟨rfl,H2⟩;have H3:Hid (Xw base g (q+1) (stA (QK t) m) w2∧Kg g w w2∧Below base w w2):=⟨by rw[HA2.o];exact H2.o.1,KW.o.1.trans ((Kg.below F1.o).trans H2.o.2.1),KW.o.2.trans ((F1.o.mono hbX).trans H2.o.2.2)⟩;clear H2;go_wp2_with fail
    go_end0
    exact⟨rfl,H3.o⟩
   ·have HIR:Hid (InR base (.slice (some ⟨gI,oI+1,none⟩) l.length (cI-1)) l w∧∀k,XE (.slice (some ⟨gI,oI+1,none⟩) l.length (cI-1))=some k→XE (.slice (some ⟨gI,oI,none⟩) m.inp.length cI)=some k):=⟨⟨_,_,rfl,by omega,fun h=>⟨gI,oI+1,cs,rfl,bI,HCS.o,HCX.o⟩⟩,fun k h=>by
     rw[XE]at h;split at h
     ·cases h
     ·rw[XE,if_neg (by rw[hI];simp)];exact h⟩
    go_wp2_with fail;have HMN:Hid (Xw base g q { m with inp:=l } (w.setCell ⟨g,2,none⟩ (.slice (some ⟨gI,oI+1,none⟩) l.length (cI-1)))):=⟨ns,hs,vN,vH,_,vO,⟨Kv.inp HMX.o.1 HIR.o.1 HIR.o.2,HMX.o.2⟩,hnq⟩;have KW:Hid (Kg g w (w.setCell ⟨g,2,none⟩ (.slice (some ⟨gI,oI+1,none⟩) l.length (cI-1)))∧Below base w (w.setCell ⟨g,2,none⟩ (.slice (some ⟨gI,oI+1,none⟩) l.length (cI-1)))):=⟨fun i c e a b x=>by rw[QM a];exact x,Qp (Below.refl base w) _ _ _ HMX.o.1.1.2⟩;have hbX:base≤(w.setCell ⟨g,2,none⟩ (.slice (some ⟨gI,oI+1,none⟩) l.length (cI-1))).heap.size:=KW.o.2.size |> Qy hb;have F1:=Qc ((Below.refl (w.setCell ⟨g,2,none⟩ (.slice (some ⟨gI,oI+1,none⟩) l.length (cI-1))).heap.size (w.setCell ⟨g,2,none⟩ (.slice (some ⟨gI,oI+1,none⟩) l.length (cI-1)))).alloc (Qi _) (.cells #[.int .u8 63,.int .i64 t.to.1,.int .i64 t.to.2,.int .i64 t.a.1,.int .i64 t.a.2,.int .i64 t.b.1,.int .i64 t.b.2,.int .i64 t.n] 66));refine(setE base g t.to.1 q x { m with inp:=l } _ (HMN.o.keeps F1.o) hl (Qy hbX F1.o.size)).mono ?_;rintro x2 w2 ⟨rfl,H2⟩;have H3:Hid (Xw base g (q+1) (stA (QK t) m) w2∧Kg g w w2∧Below base w w2):=⟨by rw[HA2.o];exact H2.o.1,KW.o.1.trans ((Kg.below F1.o).trans H2.o.2.1),KW.o.2.trans ((F1.o.mono hbX).trans H2.o.2.2)⟩;clear H2;go_wp2_with fail
    go_end0
    exact⟨rfl,H3.o⟩
 ·have HA:Hid (stA (QK t) m={ m with r:=upd m.r t.to.1 (wkF t.op (m.r t.a.1) (m.r t.b.1)) }):=by show _=_;rw[QK,if_neg h1,if_neg h2,if_neg h3,if_neg h4];rfl
  have hd1:((t.op:Int)==118)=false:=by simp;omega
  have hd2:((t.op:Int)==99)=false:=by simp;omega
  have hd3:((t.op:Int)==33)=false:=by simp;omega
  have hd4:((t.op:Int)==63)=false:=by simp;omega
  clear h1 h2 h3 h4;go_enter func59,ntmps59;go_wp2_with fail;have g1:=heap_alloc_last w (.cells #[.int .u8 t.op,.int .i64 t.to.1,.int .i64 t.to.2,.int .i64 t.a.1,.int .i64 t.a.2,.int .i64 t.b.1,.int .i64 t.b.2,.int .i64 t.n] 66);have F1:=Qc ((Below.refl w.heap.size w).alloc (Qi _) (.cells #[.int .u8 t.op,.int .i64 t.to.1,.int .i64 t.to.2,.int .i64 t.a.1,.int .i64 t.a.2,.int .i64 t.b.1,.int .i64 t.b.2,.int .i64 t.n] 66));have sW:w.heap.size<(w.alloc (.cells #[.int .u8 t.op,.int .i64 t.to.1,.int .i64 t.to.2,.int .i64 t.a.1,.int .i64 t.a.2,.int .i64 t.b.1,.int .i64 t.b.2,.int .i64 t.n] 66)).heap.size:=by rw[Qt];omega
  generalize w.alloc (.cells #[.int .u8 t.op,.int .i64 t.to.1,.int .i64 t.to.2,.int .i64 t.a.1,.int .i64 t.a.2,.int .i64 t.b.1,.int .i64 t.b.2,.int .i64 t.n] 66)=W at *;have hbW:base≤W.heap.size:=by omega
  have k0:=Qb g1 0;have k1:=Qb g1 1;have k3:=Qb g1 3;have k5:=Qb g1 5;simp at k0 k1 k3 k5;have HG:Hid (Calls prog 60 #[.pointer (some ⟨g,0,none⟩),.int .i64 t.a.1] W.drew fun x w'=>x=.returned (.int .i64 (m.r t.a.1))∧Below W.drew.heap.size W.drew w'):=RO base g t.a.1 q m W.drew (HM.o.keeps (w':=W.drew) (⟨F1.o.os,F1.o.tape,F1.o.output,F1.o.size,F1.o.block⟩:Below w.heap.size w W.drew)) hl;clear g1
  go_region_law (first | (refine Z1 rfl 60 #[.pointer (some ⟨g,0,none⟩),.int .i64 t.a.1] (by go_simp) HG.o ?_;rintro e w6 ⟨rfl,f6⟩;have f6':Below W.heap.size W w6:=⟨f6.os,f6.tape,f6.output,f6.size,f6.block⟩;have s6:=f6'.size;have y0:=(f6'.cell (p:=⟨w.heap.size,0,none⟩) sW).trans k0;have y1:=(f6'.cell (p:=⟨w.heap.size,1,none⟩) sW).trans k1;have y3:=(f6'.cell (p:=⟨w.heap.size,3,none⟩) sW).trans k3;have y5:=(f6'.cell (p:=⟨w.heap.size,5,none⟩) sW).trans k5;have O6:=Qc (F1.o.trans (f6'.mono (by omega)));clear f6 f6') | (refine Z1 rfl 60 #[.pointer (some ⟨g,0,none⟩),.int .i64 t.b.1] (by go_simp) (RO base g t.b.1 q m w6 (HM.o.keeps O6.o) hl) ?_;rintro e w7 ⟨rfl,f7⟩;have s7:=f7.size;have v0:=(f7.cell (p:=⟨w.heap.size,0,none⟩) (Nat.lt_of_lt_of_le sW s6)).trans y0;have v1:=(f7.cell (p:=⟨w.heap.size,1,none⟩) (Nat.lt_of_lt_of_le sW s6)).trans y1;have O7:=Qc (O6.o.trans (f7.mono (by omega)));clear f7) | (refine Z1 rfl 95 #[.int .u8 t.op,.int .i64 (m.r t.a.1),.int .i64 (m.r t.b.1)] (by go_simp) (Qkh t.op (m.r t.a.1) (m.r t.b.1) w7 hop) ?_;rintro e w8 ⟨rfl,f8⟩;have s8:=f8.size;have u1:=(f8.cell (p:=⟨w.heap.size,1,none⟩) (Nat.lt_of_lt_of_le sW (Nat.le_trans s6 s7))).trans v1;have O8:=Qc (O7.o.trans (f8.mono (by omega)));clear f8) | fail)
  all_goals
   clear HG;go_wp2_with fail;refine(setE base g t.to.1 q (wkF t.op (m.r t.a.1) (m.r t.b.1)) m w8 (HM.o.keeps O8.o) hl (by omega)).mono ?_;rintro e w9 ⟨rfl,H9⟩;have R9:Hid (Xw base g (q+1) (stA (QK t) m) w9∧Kg g w w9∧Below base w w9):=⟨by rw[HA.o];exact H9.o.1,(Kg.below O8.o).trans H9.o.2.1,(O8.o.mono hb).trans H9.o.2.2⟩;clear H9;go_wp2_with fail
   go_end0
   exact⟨rfl,R9.o⟩
theorem Jj(w:World):Below w.heap.size w w.drew:=⟨rfl,rfl,rfl,Qi _,fun _ _=>rfl⟩
end Go.Proofs.YtgfhfkgdmidhpaaGreatDoor
