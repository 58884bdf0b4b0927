import Derived.Test.YtgfhfkgdmidhpaaGreatDoorM11
import Derived.Test.YtgfhfkgdmidhpaaGreatDoorM04
namespace Go.Proofs.YtgfhfkgdmidhpaaGreatDoor
open Go.RowKit
open Tryz
set_option maxRecDepth 100000
set_option maxHeartbeats 8000000
structure Put(pb po:Nat)(v v':Value)(w w':World):Prop where
 os:w'.os=w.os
 tape:w'.tape=w.tape
 output:w'.output=w.output
 size:w.heap.size≤w'.heap.size
 at_:w'.heap[pb]?=(w.setCell ⟨pb,po,none⟩ v').heap[pb]?
 block:∀k,k<w.heap.size→k≠pb→some k≠v.ownBlock→w'.heap[k]?=w.heap[k]?
 new:VZ w v v'
theorem U1{l:List Nat}{x i:Nat}(hx:x∈l)(hsrt:l.Pairwise (· < ·))(hs:Kt l x i):ZB l x i=true:=by
 obtain⟨k,hk,he⟩:=List.getElem_of_mem hx;have hki:¬k<i:=fun h=>by have:=hs.1 k h hk;omega
 have hle:=hs.2 i (Qi _) (by omega);have hie:i=k:=by
  rcases Nat.lt_or_ge i k with h|h
  ·have:=List.pairwise_iff_getElem.1 hsrt i k (by omega) hk h;omega
  ·omega
 subst hie;simp[ZB,hk,he]
theorem QaI{pb po:Nat}{v v':Value}{w w1:World}{o:Obj}(g:(w.alloc o).grownBy w1 v.ownBlock)(hpb:pb<w.heap.size)(hpv:v.ownBlock≠some pb)(hn:VZ (w.alloc o) v v'):Put pb po v v' w (w1.setCell ⟨pb,po,none⟩ v'):=by
 have hb:w1.heap[pb]?=w.heap[pb]?:=(g.block pb (by simp;omega) (fun e=>hpv e.symm)).trans (Below.heap_alloc w _ pb hpb);refine⟨g.os,g.tape,g.output,by have:=g.size;simp[World.setCell]at this ⊢;omega,?_,?_,?_⟩
 ·simp only[World.setCell,Array.getElem?_modify,hb]
 ·intro k hk hne hv;rw[Below.heap_setCell _ _ _ _ hne,g.block k (by simp;omega) hv];exact Below.heap_alloc w _ k hk
 ·rcases hn with h|⟨g',h,hle⟩
  ·exact .inl h
  ·exact .inr ⟨g',h,by simp at hle;omega⟩
theorem YA{l:List Nat}{x i:Nat}(hx:x∉l):ZB l x i=false:=by
 unfold ZB
 cases h:l[i]? with
 | none=>rfl
 | some y=>
  have:=List.mem_of_getElem? h;simp only[beq_eq_false_iff_ne];rintro rfl;exact hx this
theorem UB{pb po base e n:Nat}{v v':Value}{xs:List Value}{w w1:World}{o:Obj}(h:w1.ownsRow base e 1 v' n xs)(hn:VZ (w.alloc o) v v')(hpb:pb<w.heap.size)(hpv:v.ownBlock≠some pb):(w1.setCell ⟨pb,po,none⟩ v').ownsRow base e 1 v' n xs:=by
 obtain⟨h1,h2⟩:=h;refine⟨h1,h2.imp id ?_⟩;rintro⟨g,cap,cur,rfl,b,c,d⟩;refine⟨g,cap,cur,rfl,b,?_,d⟩;rw[Below.heap_setCell _ _ _ _ ?_]
 ·exact c
 ·rintro rfl;rcases hn with h|⟨g',h,hle⟩
  ·exact hpv (h.symm.trans rfl)
  ·simp[Value.ownBlock]at h hle;omega
theorem Qcx(l:List Nat)(x:Nat)(hx:Hid (x∈l))(hsrt:Hid (l.Pairwise (· < ·)))(pb po base:Nat)(v:Value)(w:World)(hp:w.cell? ⟨pb,po,none⟩=some v)(h:w.ownsRow base 78 1 v l.length (Qe l))(hl:l.length≤1000000):
  Calls prog 98 #[.pointer (some ⟨pb,po,none⟩),.int .i64 x] w fun e w'=>e=.returned (.bool false)∧Hid (w'=w):=by
 go_enter func98,ntmps98;go_wp2_with fail;refine(U7 l x hsrt base v w h hl).mono ?_;rintro e w1 ⟨hw1,i,hi,hsp,rfl⟩;rw[U1 hx.out hsrt.out hsp];have HW:=Qc hw1;clear hw1;go_wp2_with fail;go_ret;exact⟨rfl,HW.o⟩
theorem Qcy(l:List Nat)(x:Nat)(hx:Hid (x∉l))(hsrt:Hid (l.Pairwise (· < ·)))(pb po base:Nat)(v:Value)(w:World)(hp:w.cell? ⟨pb,po,none⟩=some v)(hf:w.frozen? ⟨pb,po,none⟩=false)(h:w.ownsRow base 78 1 v l.length (Qe l))(hl:l.length≤1000000)(hb:base≤w.heap.size)(hpv:Hid (v.ownBlock≠some pb)):
  Calls prog 98 #[.pointer (some ⟨pb,po,none⟩),.int .i64 x] w fun e w'=>e=.returned (.bool true)∧∃i v',Hid (i≤l.length∧Kt l x i∧w'.ownsRow base 78 1 v' (Xh l i x).length (Qe (Xh l i x))∧Put pb po v v' w w'):=by
 go_enter func98,ntmps98;go_wp2_with fail;refine(U7 l x hsrt base v w h hl).mono ?_;rintro e w1 ⟨rfl,i,hi,hsp,rfl⟩;rw[YA hx.out];have hpb:pb<w1.heap.size:=Zh _ _ hp;have HP:=Qc hpv.out;have HF:=Qc hf;have HI:=Qc (And.intro hi hsp);clear hsp hf hx hsrt hpv;go_wp2_with fail;refine(Qll l x i hi (base:=base) (v:=v) (w1.alloc (.cells #[.int .i64 x] 78)) (h.alloc _) hl (by simp;omega) (heap_alloc_new _ _) (fun e=>by obtain⟨_,h2⟩:=World.ownsRow.lt h _ e;omega)).mono ?_;rintro e w2 ⟨v2,rfl,o2,g2,n2⟩;obtain⟨p2,c2,rfl⟩:=Qa o2;have hb2:w2.heap[pb]?=w1.heap[pb]?:=(g2.block pb (by simp;omega) (fun e=>HP.o e.symm)).trans (Below.heap_alloc _ _ _ hpb);have hp2:w2.cell? ⟨pb,po,none⟩=some v:=by rw[World.cell?_of_block (w:=w1) hb2];exact hp
 have hf2:w2.frozen? ⟨pb,po,none⟩=false:=by rw[World.frozen?_of_block (w:=w1) hb2];exact HF.o
 have HR:=Qc (And.intro o2 (And.intro g2 n2));clear o2 g2 n2 hb2 hp h;go_wp2_with fail;go_ret;obtain⟨o2,g2,n2⟩:=HR.o;refine⟨rfl,_,_,HI.o.1,HI.o.2,UB o2 n2 hpb HP.o,QaI g2 hpb HP.o n2⟩
theorem Uh(l:List Nat)(x:Nat)(hx:Hid (x∈l))(hsrt:Hid (l.Pairwise (· < ·)))(pb po base:Nat)(v:Value)(w:World)(hp:w.cell? ⟨pb,po,none⟩=some v)(h:w.ownsRow base 143 1 v l.length (Qe l))(hl:l.length≤1000000):
  Calls prog 71 #[.pointer (some ⟨pb,po,none⟩),.int .i64 x] w fun e w'=>e=.returned (.bool false)∧Hid (w'=w):=by
 go_enter func71,ntmps71;go_wp2_with fail;refine(VV l x hsrt base v w h hl).mono ?_;rintro e w1 ⟨hw1,i,hi,hsp,rfl⟩;rw[U1 hx.out hsrt.out hsp];have HW:=Qc hw1;clear hw1;go_wp2_with fail;go_ret;exact⟨rfl,HW.o⟩
theorem VY(l:List Nat)(x:Nat)(hx:Hid (∀y∈l,y<x))(hsrt:Hid (l.Pairwise (· < ·)))(pb po base:Nat)(v:Value)(w:World)(hp:w.cell? ⟨pb,po,none⟩=some v)(hf:w.frozen? ⟨pb,po,none⟩=false)(h:w.ownsRow base 143 1 v l.length (Qe l))(hl:l.length≤1000000)(hb:base≤w.heap.size)(hpv:Hid (v.ownBlock≠some pb)):
  Calls prog 71 #[.pointer (some ⟨pb,po,none⟩),.int .i64 x] w fun e w'=>e=.returned (.bool true)∧∃v',Hid (w'.ownsRow base 143 1 v' (l.length+1) (Qe (l++[x]))∧Put pb po v v' w w'):=by
 go_enter func71,ntmps71;go_wp2_with fail;refine(VV l x hsrt base v w h hl).mono ?_;rintro e w1 ⟨rfl,i,hi,hsp,rfl⟩;rw[YA (fun h=>Nat.lt_irrefl _ (hx.out x h))];have hpb:pb<w1.heap.size:=Zh _ _ hp;have hie:i=l.length:=by
  rcases Nat.lt_or_ge i l.length with hlt|hge
  ·have h1:=hsp.2 i (Qi _) hlt;have h2:=hx.out l[i] (Qx hlt);omega
  ·omega
 subst hie;have HP:=Qc hpv.out;have HF:=Qc hf;have HI:=Qc (And.intro hi hsp);clear hsp hf hx hsrt hpv;go_wp2_with fail;refine(Qb3 l x (base:=base) (v:=v) (w1.alloc (.cells #[.int .i64 x] 143)) (h.alloc _) hl (by simp;omega) (heap_alloc_new _ _)).mono ?_;rintro e w2 ⟨v2,rfl,o2,g2,n2⟩;obtain⟨p2,c2,rfl⟩:=Qa o2;have hb2:w2.heap[pb]?=w1.heap[pb]?:=(g2.block pb (by simp;omega) (fun e=>HP.o e.symm)).trans (Below.heap_alloc _ _ _ hpb);have hp2:w2.cell? ⟨pb,po,none⟩=some v:=by rw[World.cell?_of_block (w:=w1) hb2];exact hp
 have hf2:w2.frozen? ⟨pb,po,none⟩=false:=by rw[World.frozen?_of_block (w:=w1) hb2];exact HF.o
 have HR:=Qc (And.intro o2 (And.intro g2 n2));clear o2 g2 n2 hb2 hp h;go_wp2_with fail;go_ret;obtain⟨o2,g2,n2⟩:=HR.o;refine⟨rfl,_,UB o2 n2 hpb HP.o,QaI g2 hpb HP.o n2⟩
theorem Qj0(l:List Nat)(base:Nat)(v:Value)(w:World)(h:w.ownsRow base 143 1 v l.length (Qe l))(hl:l.length≤1000000):
  Calls prog 162 #[v] w fun e w'=>∃v',e=.returned v'∧w'.ownsRow w.heap.size 143 1 v' l.length (Qe l)∧Below w.heap.size w w':=by
 have HO:=Qc h;rcases h.2 with ⟨rfl,h0⟩|⟨g,c,cur,rfl,hbg,hg,hnc,hcm,hcs,ht⟩
 ·have he:∀w,(binOp BinOp.eql 80 (.slice none 0 0) (.slice none 0 0)).run prog w=.ok (.bool true) w:=fun w=>by kernel_rfl
  go_enter func162,ntmps162;go_wp2_with (at_builtin;refine QA ?_);go_ret;exact⟨_,rfl,⟨HO.o.1,HO.o.2.imp id (fun⟨_,_,_,e,_⟩=>by cases e)⟩,Below.refl _ _⟩
 ·clear h;have HG:=Qc hg;clear hg ht;have he:∀w,(binOp BinOp.eql 80 (.slice (some ⟨g,0,none⟩) l.length c) (.slice none 0 0)).run prog w=.ok (.bool false) w:=fun w=>by kernel_rfl
  go_enter func162,ntmps162;go_wp2_with (at_builtin;refine QA ?_);refine Qc ?_;obtain⟨I,Hi,Hz,Hs,Hb⟩:=info_parts XV;refine wpList_append_own _ rfl _ _ 80 rfl w.heap.size 143 I (.int .i64 0) 1 8 underlying80 Hi Hz Hs Hb rfl (by decide) (.slice (some ⟨w.heap.size,0,none⟩) 0 0) 0 [] rfl (World.ownsRow_made w #[] 0 (Nat.le_refl _) (by decide) rfl) ⟨g,0,none⟩ l.length c (Qe l) rfl (by simp[Qe]) (fun j u hj=>?_) (fun u hu=>?_) (by unfold maxLen;omega) (by omega) (by simp) ?_
  ·exact(HO.o.alloc (.cells #[] 143)).cells rfl j u hj
  ·obtain⟨n,_,rfl⟩:=Qv.1 hu;rfl
  ·intro v1 w1 o1 g1 _;rw[Nat.zero_add,List.nil_append]at o1;have O1:=Qc (And.intro o1 g1);clear o1 g1;go_wp2_with fail;go_ret;exact⟨v1,rfl,O1.o.1,Below.grown ((Below.refl _ _).alloc (Nat.le_refl _) _) O1.o.2 (by simp) (fun k hk=>by cases hk;exact Nat.le_refl _)⟩
theorem Qe7(l:List Nat)(base:Nat)(v:Value)(w:World)(h:w.ownsRow base 143 1 v l.length (Qe l))(hl:l.length≤1000000):
  Calls prog 116 #[.agg #[v]] w fun e w'=>∃v',e=.returned v'∧w'.ownsRow w.heap.size 143 1 v' l.length (Qe l)∧Below w.heap.size w w':=by
 obtain⟨p,c,rfl⟩:=Qa h;go_enter func116,ntmps116;go_wp2_with fail;refine(Qj0 l base _ _ (h.alloc _) hl).mono ?_;rintro e w1 ⟨v1,rfl,o1,f1⟩;have O1:Hid (w1.ownsRow w.heap.size 143 1 v1 l.length (Qe l)∧Below w.heap.size w w1):=⟨Qj o1 (by simp),((Below.refl _ _).alloc (Nat.le_refl _) _).trans (f1.mono (by simp))⟩;clear o1 f1;go_wp2_with fail;go_ret;exact⟨v1,rfl,O1.o.1,O1.o.2⟩
theorem Qfe:(prog.info? 82).map (fun i=>(i.zero,i.size,i.bytes))=some (some (.agg #[.slice none 0 0]),1,24):=by kernel_rfl
def Ku(base:Nat)(w:World)(v:Value)(n:Nat)(f:Nat→List Nat):Prop:=
 ∃us:List Value,w.ownsRow base 82 1 v n us∧(∀(k:Nat)(u:Value),us[k]?=some u→w.ownsRow base 143 1 u (f k).length (Qe (f k)))∧(∀(j k:Nat)(u u':Value),us[j]?=some u→us[k]?=some u'→j≠k→u.ownBlock=none∨u.ownBlock≠u'.ownBlock)
theorem Ku.at{base:Nat}{w:World}{p:Option Addr}{c n:Nat}{f:Nat→List Nat}(h:Ku base w (.slice p n c) n f){k:Nat}(hk:k<n):
  ∃g u,p=some ⟨g,0,none⟩∧base≤g∧w.cell? ⟨g,k,none⟩=some u∧w.frozen? ⟨g,k,none⟩=false∧w.ownsRow base 143 1 u (f k).length (Qe (f k))∧u.ownBlock≠some g:=by
 obtain⟨us,a,b,c1⟩:=h;obtain⟨g,rfl,hb,hg⟩:=Qk a (by omega);have hl:us.length=n:=by have:=a.1;omega
 have hu:us[k]?=some us[k]:=Zl (by omega);have o:=b k _ hu;refine⟨g,us[k],rfl,hb,Qf a hu,Xz a k,o,fun e=>?_⟩;rcases a.2 with ⟨h0,_⟩|⟨g',cap',cur',hv,_,hc',_⟩
 ·cases h0
 ·cases hv;rcases o.2 with ⟨h0,_⟩|⟨g2,cap2,cur2,hv2,_,hc2,_⟩
  ·rw[h0]at e;cases e
  ·rw[hv2]at e;cases e;rw[hc']at hc2;cases hc2
theorem Qr.put{base base1 base2:Nat}{T:TypeId→Prop}{w w':World}{g k n c m:Nat}{us ys:List Value}{u u':Value}(a:w.ownsRow base1 82 1 (.slice (some ⟨g,0,none⟩) n c) n us)(b:w.ownsRow base2 143 1 u m ys)(hp:Put g k u u' w w')(h1:¬T 82)(h2:¬T 143):Qr base T w w':=by
 intro j cur e _ ht hh;rw[hp.block j (lt_of_block hh) ?_ ?_]
 ·exact hh
 ·rintro rfl;rcases a.2 with ⟨h0,_⟩|⟨g',cap',cur',hv,_,hc',_⟩
  ·cases h0
  ·cases hv;rw[hc']at hh;cases hh;exact h1 ht
 ·intro e1;rcases b.2 with ⟨rfl,_⟩|⟨g2,cap2,cur2,rfl,_,hc2,_⟩
  ·cases e1
  ·cases e1;rw[hc2]at hh;cases hh;exact h2 ht
theorem Ku.put{base:Nat}{w w':World}{g c n:Nat}{f:Nat→List Nat}(h:Ku base w (.slice (some ⟨g,0,none⟩) n c) n f){k:Nat}(hk:k<n){u u':Value}(hu:w.cell? ⟨g,k,none⟩=some u)
  (hp:Put g k u u' w w'){l:List Nat}(o':w'.ownsRow base 143 1 u' l.length (Qe l))(f':Nat→List Nat)(hf:f' k=l)(hf2:∀j,j≠k→f' j=f j):Ku base w' (.slice (some ⟨g,0,none⟩) n c) n f':=by
 obtain⟨us,a,b,d⟩:=h;have hl:us.length=n:=by have:=a.1;omega
 have huk:us[k]?=some us[k]:=Zl (by omega);have e0:us[k]=u:=by have:=Qf a huk;rw[hu]at this;cases this;rfl
 rw[e0]at huk;have ob:=b k u huk;refine⟨us.set k u',?_,?_,?_⟩
 ·have s:=ZA a k u';obtain⟨s1,s2⟩:=s;refine⟨s1,s2.imp id ?_⟩;rintro⟨g',cap',cur',hv,b1,c1,d1⟩;cases hv;exact⟨g,c,cur',rfl,b1,by rw[hp.at_];exact c1,d1⟩
 ·intro j x hx;rw[List.getElem?_set]at hx;by_cases hj:k=j
  ·subst hj;rw[if_pos rfl,if_pos (by omega)]at hx;cases hx;rw[hf];exact o'
  ·rw[if_neg hj]at hx;rw[hf2 j (fun e=>hj e.symm)];have oj:=b j x hx;obtain⟨o1,o2⟩:=oj;refine⟨o1,o2.imp id ?_⟩;rintro⟨g2,cap2,cur2,rfl,b2,c2,d2⟩;refine⟨g2,cap2,cur2,rfl,b2,?_,d2⟩;rw[hp.block g2 (lt_of_block c2) ?_ ?_]
   ·exact c2
   ·rintro rfl;rcases a.2 with ⟨h0,_⟩|⟨g',cap',cur',hv,_,hc',_⟩
    ·cases h0
    ·cases hv;rw[hc']at c2;cases c2
   ·rcases d j k _ _ hx huk (fun e=>hj e.symm) with h0|h0
    ·cases h0
    ·exact h0
 ·have lt:∀(j:Nat)(x:Value),us[j]?=some x→∀b,x.ownBlock=some b→b<w.heap.size:=fun j x hx bb hb=>((b j x hx).lt bb hb).2;intro i j x y hx hy hij;rw[List.getElem?_set]at hx hy;by_cases hi:k=i
  ·subst hi;rw[if_pos rfl,if_pos (by omega)]at hx;rw[if_neg hij]at hy;cases hx;rcases hp.new with h0|⟨g',h0,hle⟩
   ·rw[h0];exact d k j u y huk hy hij
   ·right;rw[h0];intro e1;have:=lt j y hy g' e1.symm;omega
  ·rw[if_neg hi]at hx;by_cases hj:k=j
   ·subst hj;rw[if_pos rfl,if_pos (by omega)]at hy;cases hy;rcases hp.new with h0|⟨g',h0,hle⟩
    ·rw[h0];exact d i k x u hx huk hij
    ·right;rw[h0];intro e1;have:=lt i x hx g' e1;omega
   ·rw[if_neg hj]at hy;exact d i j x y hx hy hij
theorem Ku.keeps{base:Nat}{w w':World}{v:Value}{n:Nat}{f:Nat→List Nat}(h:Ku base w v n f)(k:Below w.heap.size w w'):Ku base w' v n f:=by
 obtain⟨us,a,b,d⟩:=h;exact⟨us,Qd a (Qh k) trivial,fun j u hu=>Qd (b j u hu) (Qh k) trivial,d⟩
theorem Ku.congr{base:Nat}{w:World}{v:Value}{n:Nat}{f f':Nat→List Nat}(h:Ku base w v n f)(e:∀k,k<n→f' k=f k):Ku base w v n f':=by
 obtain⟨us,a,b,d⟩:=h;have hl:us.length=n:=by have:=a.1;omega
 refine⟨us,a,fun j u hu=>?_,d⟩;have hj:j<n:=by
  rcases Nat.lt_or_ge j us.length with h|h
  ·omega
  ·rw[ZI h]at hu;cases hu
 rw[e j hj];exact b j u hu
theorem Put.below{base:Nat}{w0 w w':World}{g k m:Nat}{u u':Value}{ys:List Value}(F:Below base w0 w)(hb:base≤g)(o:w.ownsRow base 143 1 u m ys)(hp:Put g k u u' w w')(hs:base≤w.heap.size):Below base w0 w':=by
 refine F.trans ⟨hp.os,hp.tape,hp.output,hp.size,fun j hj=>hp.block j (by omega) (by omega) (fun e=>?_)⟩;have:=(o.lt j e.symm).1;omega
def ZE(bs:List Qm)(m:Nat)(gs:List (Nat×Nat))(k:Nat):List Nat:=if QD (Zw gs) k then Xc bs k m++[m] else Xc bs k m
theorem Wq(bs m k):ZE bs m [] k=Xc bs k m:=rfl
theorem Qf8(gl:List (Nat×Nat))(h:gl.length≤2)(k:Nat):QD (XY gl) k=QD (Zw gl) k:=by
 match gl,h with
 | [],_=>rfl
 | [x],_=>rfl
 | [x,y],_=>
  unfold XY QD Zw;by_cases e:y.1=x.1
  ·simp[e]
  ·simp[e]
theorem Wt{bs:List Qm}{m:Nat}(hm:m<bs.length)(k:Nat):ZE bs m (goalsF bs[m].e) k=Xc bs k (m+1):=by
 rw[Ge,ZE,WL,Zl hm];simp only[Qf8 _ (ZH _)]
theorem Gf{bs:List Qm}{k m y:Nat}(h:y∈Xc bs k m):y<m:=by
 have:=(List.mem_filter.1 h).1;simpa using this
theorem Wo(bs:List Qm)(k m:Nat):(Xc bs k m).Pairwise (· < ·):=List.pairwise_lt_range.filter _
theorem JQ(bs:List Qm)(m:Nat) (gs k):(ZE bs m gs k).Pairwise (· < ·):=by
 unfold ZE;cases QD (Zw gs) k
 ·exact Wo _ _ _
 ·refine List.pairwise_append.2 ⟨Wo _ _ _,by simp,fun a ha b hb=>?_⟩;have:=Gf ha;simp at hb;omega
theorem Ws(bs:List Qm)(m:Nat) (gs k):(ZE bs m gs k).length≤m+1:=by
 have:=YT bs k m;unfold ZE;cases QD (Zw gs) k<;>simp<;>omega
theorem Wp{bs:List Qm}{m:Nat}{gs:List (Nat×Nat)}{t:Nat}(ht:t<gs.length)(h:QD (Zw (gs.take t)) gs[t].1=true)(k:Nat):ZE bs m (gs.take (t+1)) k=ZE bs m (gs.take t) k:=by
 unfold ZE;rw[show QD (Zw (gs.take (t+1))) k=QD (Zw (gs.take t)) k from ?_];rw[Zb ht];unfold QD Zw at *;rw[List.map_append,Bool.eq_iff_iff];simp only[List.contains_iff_mem,List.mem_append]at *;constructor
 ·rintro (h1|h1)
  ·exact h1
  ·simp at h1;rw[h1];exact h
 ·exact .inl
theorem Yd{bs:List Qm}{m:Nat}{gs:List (Nat×Nat)}{k:Nat}(h:QD (Zw gs) k=true):m∈ZE bs m gs k:=by simp[ZE,h]
theorem Wr{bs:List Qm}{m:Nat}{gs:List (Nat×Nat)}{t:Nat}(ht:t<gs.length)(h:QD (Zw (gs.take t)) gs[t].1=false):ZE bs m (gs.take (t+1)) gs[t].1=ZE bs m (gs.take t) gs[t].1++[m]:=by
 unfold ZE;rw[h,show QD (Zw (gs.take (t+1))) gs[t].1=true from ?_]
 ·rfl
 rw[Zb ht];unfold QD Zw;rw[List.map_append,List.contains_iff_mem];exact List.mem_append.2 (.inr (by simp))
theorem YF{bs:List Qm}{m:Nat}{gs:List (Nat×Nat)}{k:Nat}(h:QD (Zw gs) k=false):∀y∈ZE bs m gs k,y<m:=by
 intro y hy;rw[ZE,h]at hy;exact Gf hy
theorem YE{bs:List Qm}{m:Nat}{gs:List (Nat×Nat)}{t:Nat}(ht:t<gs.length){k:Nat}(hk:k≠gs[t].1):ZE bs m (gs.take (t+1)) k=ZE bs m (gs.take t) k:=by
 unfold ZE;rw[show QD (Zw (gs.take (t+1))) k=QD (Zw (gs.take t)) k from ?_];rw[Zb ht];unfold QD Zw at *;rw[List.map_append,Bool.eq_iff_iff];simp only[List.contains_iff_mem,List.mem_append];constructor
 ·rintro (h1|h1)
  ·exact h1
  ·simp at h1;exact absurd h1 hk
 ·exact .inl
theorem Kl{n k:Nat}{x u:Value}(h:(List.replicate n x)[k]?=some u):k<n∧u=x:=by
 rw[List.getElem?_replicate]at h;split at h
 ·cases h;exact⟨by assumption,rfl⟩
 ·cases h
def Qgk(e:Z6)(w:World)(r:Ending)(w':World):Prop:=∃v,r=.returned v∧w'.ownsRow w.heap.size 145 2 v (goalsF e).length (pcs (goalsF e))∧Below w.heap.size w w'
theorem Qlu(e:Z6)(h:goalsF e=[])(w:World):Calls prog 307 #[.agg #[]] w (Qgk e w):=by
 refine(UZ w).mono ?_;rintro r w' ⟨rfl,f⟩;exact⟨_,rfl,by rw[h];exact Q3 _ _ _ _,f⟩
theorem Qlt(e:Z6)(h:goalsF e=[e.one])(w:World):Calls prog 311 #[.agg #[.int .i64 e.one.1,.int .i64 e.one.2]] w (Qgk e w):=by
 refine(UY _ _ w).mono ?_;rintro r w' ⟨g,rfl,o,f⟩;exact⟨_,rfl,by rw[h];exact o,f⟩
theorem Qls(e:Z6)(h:goalsF e=[e.one,e.two])(w:World):Calls prog 319 #[.agg #[.int .i64 e.a.1,.int .i64 e.a.2,.int .i64 e.one.1,.int .i64 e.one.2,.int .i64 e.two.1,.int .i64 e.two.2]] w (Qgk e w):=by
 refine(Wg _ _ _ _ _ _ w).mono ?_;rintro r w' ⟨g,rfl,o,f⟩;exact⟨_,rfl,by rw[h];exact o,f⟩
theorem J2(n:Nat):(madeCells (Value.agg #[.slice none 0 0]).cells (n*1)).toList=List.replicate n (.slice none 0 0):=by
 rw[show (Value.agg #[.slice none 0 0]).cells=#[.slice none 0 0] from rfl,Nat.mul_one];apply List.ext_getElem
 ·simp[madeCells]
 ·intro i h1 h2;simp[madeCells,Nat.mod_one]
theorem Gd(bs:List Qm)(base:Nat)(v:Value)(w:World)(h:PBs w base bs v)(hn:bs.length≤1000)(hgl:Hid (∀b∈bs,∀p∈goalsF b.e,p.1<bs.length)):
  Calls prog 41 #[v] w fun e w'=>∃v',e=.returned v'∧Ku w.heap.size w' v' bs.length (aheF bs)∧Below w.heap.size w w':=by
 obtain⟨pv,cv,rfl⟩:=h.slice;obtain⟨I9,Hi9,Hz9,Hs9,Hb9⟩:=info_parts Qfe;go_enter func41,ntmps41;go_wp2_with (at_make;refine QA ?_);refine Qc ?_;refine wpList_make_full _ rfl _ _ 83 rfl w.heap.size 82 I9 (.agg #[.slice none 0 0]) 1 underlying83 Hi9 Hz9 Hs9 .i64 .i64 _ _ bs.length rfl rfl rfl rfl (by rw[Hb9];omega) (by unfold maxLen;omega) (by simp) ?_;intro w1 o1 g1;have S1:Ku w.heap.size w1 (.slice (some ⟨w.heap.size,0,none⟩) bs.length bs.length) bs.length (fun k=>Xc bs k 0):=by
  refine⟨_,o1,fun k u hu=>?_,fun j k u u' hu hu' _=>?_⟩
  ·rw[J2]at hu;obtain⟨_,rfl⟩:=Kl hu;exact Q3 _ _ _ _
  ·rw[J2]at hu;obtain⟨_,rfl⟩:=Kl hu;exact .inl rfl
 have F1:Hid (Below w.heap.size w w1):=Below.grown (Below.refl _ _) g1 (Qi _) (fun k hk=>by cases hk);clear o1 g1 Hi9 Hz9 Hs9 Hb9;go_wp2_with fail
 go_loopw [13] (fun i wr=>∃m:Nat,m≤bs.length∧i=.int .i64 m∧Ku w.heap.size wr (.slice (some ⟨w.heap.size,0,none⟩) bs.length bs.length) bs.length (fun k=>Xc bs k m)∧Hid (Below w.heap.size w wr)) (fun i _=>bs.length-(intOf i).toNat)
 case atStart=>exact⟨0,by omega,rfl,S1,F1⟩
 case round=>
  clear S1 F1;obtain⟨m,hm,rfl,S,F⟩:=hrel;by_cases hlt:m<bs.length
  ·have hB:=h.keeps (Qr.below F.o);obtain⟨g,qc,cc,ps,cs1,rfl,_,hgz,hop,OC,OS,d0,d1,d2,d3⟩:=hB.at hlt;have hz0:=F.o.size;clear hB OC OS;rcases hop with hop|hop|hop
   ·obtain⟨a1,a2⟩:=K6 hop;rw[a1]at d3;have hmt:∀w:World,(method 500 309 (.agg #[]) "Goals").run prog w=.ok (307,(.agg #[])) w:=fun w=>by kernel_rfl
    have HA:=Qc a2;clear a1 a2 hop;go_wp2_with fail;refine(Qlu bs[m].e HA.o _).mono ?_;rintro e w2 ⟨vg,rfl,OG,f2⟩;obtain⟨pg,cg,rfl⟩:=Qa OG;have hz1:w.heap.size≤w2.heap.size:=by have:=f2.size;rw[Qt]at this;omega
    have F2:Hid (Below w.heap.size w w2):=(F.o.alloc hz0 _).trans (f2.mono (by rw[Qt];omega));have S2:=S.keeps (((Below.refl _ _).alloc (Qi _) (.cells #[.int .i64 bs[m].at_,.slice qc bs[m].chs.length cc,.slice ps bs[m].sts.length cs1,.iface 309 (.agg #[])] 104)).trans (f2.mono (by rw[Qt];omega)));have HGL:Hid (∀p∈goalsF bs[m].e,p.1<bs.length):=hgl.out _ (Qx hlt);have hg2:=ZH bs[m].e;have HAI:Hid (∀k,ZE bs m (goalsF bs[m].e) k=Xc bs k (m+1)):=Wt hlt;clear d0 d1 d2 d3 f2 hmt S F HA;generalize hgs:goalsF bs[m].e=gs at *;clear hgs;go_wp2_with fail
    go_loopw [22] (fun j wz=>∃t:Nat,t≤gs.length∧j=.int .i64 t∧Ku w.heap.size wz (.slice (some ⟨w.heap.size,0,none⟩) bs.length bs.length) bs.length (ZE bs m (gs.take t))∧Hid (Below w.heap.size w wz)∧wz.ownsRow (wr.heap.size+1) 145 2 (.slice pg gs.length cg) gs.length (pcs gs)) (fun j _=>gs.length-(intOf j).toNat)
    case atStart=>
     refine⟨0,by omega,rfl,S2.congr (fun k _=>Wq bs m k),F2,?_⟩;rw[Qt]at OG;exact OG
    case round=>
     clear OG S2 F2 hz1 hz0;obtain⟨t,ht,rfl,S,F,OG⟩:=hrel;by_cases htl:t<gs.length
     ·obtain⟨gf,rfl,_,hgf⟩:=Qk OG (by omega);have f0:=Qf OG (Zt htl).1;have f1:=Qf OG (Zt htl).2;have hk:gs[t].1<bs.length:=HGL.o _ (Qx htl);have hz:=F.o.size;have S2:=S.keeps ((Below.refl _ _).alloc (Qi _) (.cells #[.int .i64 gs[t].1,.int .i64 gs[t].2] 145));have F2:=Qc (F.o.alloc hz (.cells #[.int .i64 gs[t].1,.int .i64 gs[t].2] 145));have OG2:=OG.alloc (.cells #[.int .i64 gs[t].1,.int .i64 gs[t].2] 145);obtain⟨g9,u,e9,hb9,hc9,hf9,o9,n9⟩:=S2.at hk;cases e9;have hlen:=Ws bs m (gs.take t) gs[t].1;have HU:=Qc (And.intro hc9 (And.intro hf9 (And.intro o9 n9)));clear hc9 hf9 o9 n9 S F OG;by_cases hh:QD (Zw (gs.take t)) gs[t].1=true
      ·have HH:=Qc hh;clear hh;go_wp2_with fail;refine(Uh (ZE bs m (gs.take t) gs[t].1) m (Yd HH.o) (JQ _ _ _ _) w.heap.size gs[t].1 w.heap.size u _ HU.o.1 HU.o.2.2.1 (by omega)).mono ?_;rintro e w5 ⟨rfl,hw5⟩;have S5:=S2.congr (fun k _=>Wp htl HH.o k);rw[←hw5.out]at S5 F2 OG2;clear HU S2 hw5;go_wp2_with fail;go_roundw
       case rel=>exact⟨t+1,by omega,by go_num,S5,F2,OG2⟩
       case measure=>simp[intOf];omega
      ·have HH:=Qc (Bool.eq_false_iff.2 hh);clear hh;go_wp2_with fail;refine(VY (ZE bs m (gs.take t) gs[t].1) m (YF HH.o) (JQ _ _ _ _) w.heap.size gs[t].1 w.heap.size u _ HU.o.1 HU.o.2.1 HU.o.2.2.1 (by omega) (by rw[Qt];omega) HU.o.2.2.2).mono ?_;rintro e w5 ⟨rfl,u5,h5⟩;have S5:Ku w.heap.size w5 (.slice (some ⟨w.heap.size,0,none⟩) bs.length bs.length) bs.length (ZE bs m (gs.take (t+1))):=S2.put hk HU.o.1 h5.out.2 (by rw[Qw];exact h5.out.1) _ (Wr htl HH.o) (fun j hj=>YE htl hj);have F5:=Qc (Put.below F2.o (Qi _) HU.o.2.2.1 h5.out.2 (by rw[Qt];omega));obtain⟨us2,a2,_,_⟩:=S2;have OG5:=Qd OG2 (Qr.put (T:=fun e=>e=145) a2 HU.o.2.2.1 h5.out.2 (by decide) (by decide)) rfl;clear HU h5 a2 F2 OG2;go_wp2_with fail;go_roundw
       case rel=>exact⟨t+1,by omega,by go_num,S5,F5,OG5⟩
       case measure=>simp[intOf];omega
     ·have hte:t=gs.length:=by omega
      subst hte;have S5:=S.congr (f':=fun k=>Xc bs k (m+1)) (fun k _=>by rw[List.take_length];exact(HAI.o k).symm);clear S OG;go_wp2_with fail;go_roundw
      case rel=>exact⟨m+1,by omega,by go_num,S5,F⟩
      case measure=>simp[intOf];omega
   ·obtain⟨a1,a2⟩:=K7 hop;rw[a1]at d3;have hmt:∀w:World,(method 500 312 (.agg #[.int .i64 bs[m].e.one.1,.int .i64 bs[m].e.one.2]) "Goals").run prog w=.ok (311,(.agg #[.int .i64 bs[m].e.one.1,.int .i64 bs[m].e.one.2])) w:=fun w=>by kernel_rfl
    have HA:=Qc a2;clear a1 a2 hop;go_wp2_with fail;refine(Qlt bs[m].e HA.o _).mono ?_;rintro e w2 ⟨vg,rfl,OG,f2⟩;obtain⟨pg,cg,rfl⟩:=Qa OG;have hz1:w.heap.size≤w2.heap.size:=by have:=f2.size;rw[Qt]at this;omega
    have F2:Hid (Below w.heap.size w w2):=(F.o.alloc hz0 _).trans (f2.mono (by rw[Qt];omega));have S2:=S.keeps (((Below.refl _ _).alloc (Qi _) (.cells #[.int .i64 bs[m].at_,.slice qc bs[m].chs.length cc,.slice ps bs[m].sts.length cs1,.iface 312 (.agg #[.int .i64 bs[m].e.one.1,.int .i64 bs[m].e.one.2])] 104)).trans (f2.mono (by rw[Qt];omega)));have HGL:Hid (∀p∈goalsF bs[m].e,p.1<bs.length):=hgl.out _ (Qx hlt);have hg2:=ZH bs[m].e;have HAI:Hid (∀k,ZE bs m (goalsF bs[m].e) k=Xc bs k (m+1)):=Wt hlt;clear d0 d1 d2 d3 f2 hmt S F HA;generalize hgs:goalsF bs[m].e=gs at *;clear hgs;go_wp2_with fail
    go_loopw [22] (fun j wz=>∃t:Nat,t≤gs.length∧j=.int .i64 t∧Ku w.heap.size wz (.slice (some ⟨w.heap.size,0,none⟩) bs.length bs.length) bs.length (ZE bs m (gs.take t))∧Hid (Below w.heap.size w wz)∧wz.ownsRow (wr.heap.size+1) 145 2 (.slice pg gs.length cg) gs.length (pcs gs)) (fun j _=>gs.length-(intOf j).toNat)
    case atStart=>
     refine⟨0,by omega,rfl,S2.congr (fun k _=>Wq bs m k),F2,?_⟩;rw[Qt]at OG;exact OG
    case round=>
     clear OG S2 F2 hz1 hz0;obtain⟨t,ht,rfl,S,F,OG⟩:=hrel;by_cases htl:t<gs.length
     ·obtain⟨gf,rfl,_,hgf⟩:=Qk OG (by omega);have f0:=Qf OG (Zt htl).1;have f1:=Qf OG (Zt htl).2;have hk:gs[t].1<bs.length:=HGL.o _ (Qx htl);have hz:=F.o.size;have S2:=S.keeps ((Below.refl _ _).alloc (Qi _) (.cells #[.int .i64 gs[t].1,.int .i64 gs[t].2] 145));have F2:=Qc (F.o.alloc hz (.cells #[.int .i64 gs[t].1,.int .i64 gs[t].2] 145));have OG2:=OG.alloc (.cells #[.int .i64 gs[t].1,.int .i64 gs[t].2] 145);obtain⟨g9,u,e9,hb9,hc9,hf9,o9,n9⟩:=S2.at hk;cases e9;have hlen:=Ws bs m (gs.take t) gs[t].1;have HU:=Qc (And.intro hc9 (And.intro hf9 (And.intro o9 n9)));clear hc9 hf9 o9 n9 S F OG;by_cases hh:QD (Zw (gs.take t)) gs[t].1=true
      ·have HH:=Qc hh;clear hh;go_wp2_with fail;refine(Uh (ZE bs m (gs.take t) gs[t].1) m (Yd HH.o) (JQ _ _ _ _) w.heap.size gs[t].1 w.heap.size u _ HU.o.1 HU.o.2.2.1 (by omega)).mono ?_;rintro e w5 ⟨rfl,hw5⟩;have S5:=S2.congr (fun k _=>Wp htl HH.o k);rw[←hw5.out]at S5 F2 OG2;clear HU S2 hw5;go_wp2_with fail;go_roundw
       case rel=>exact⟨t+1,by omega,by go_num,S5,F2,OG2⟩
       case measure=>simp[intOf];omega
      ·have HH:=Qc (Bool.eq_false_iff.2 hh);clear hh;go_wp2_with fail;refine(VY (ZE bs m (gs.take t) gs[t].1) m (YF HH.o) (JQ _ _ _ _) w.heap.size gs[t].1 w.heap.size u _ HU.o.1 HU.o.2.1 HU.o.2.2.1 (by omega) (by rw[Qt];omega) HU.o.2.2.2).mono ?_;rintro e w5 ⟨rfl,u5,h5⟩;have S5:Ku w.heap.size w5 (.slice (some ⟨w.heap.size,0,none⟩) bs.length bs.length) bs.length (ZE bs m (gs.take (t+1))):=S2.put hk HU.o.1 h5.out.2 (by rw[Qw];exact h5.out.1) _ (Wr htl HH.o) (fun j hj=>YE htl hj);have F5:=Qc (Put.below F2.o (Qi _) HU.o.2.2.1 h5.out.2 (by rw[Qt];omega));obtain⟨us2,a2,_,_⟩:=S2;have OG5:=Qd OG2 (Qr.put (T:=fun e=>e=145) a2 HU.o.2.2.1 h5.out.2 (by decide) (by decide)) rfl;clear HU h5 a2 F2 OG2;go_wp2_with fail;go_roundw
       case rel=>exact⟨t+1,by omega,by go_num,S5,F5,OG5⟩
       case measure=>simp[intOf];omega
     ·have hte:t=gs.length:=by omega
      subst hte;have S5:=S.congr (f':=fun k=>Xc bs k (m+1)) (fun k _=>by rw[List.take_length];exact(HAI.o k).symm);clear S OG;go_wp2_with fail;go_roundw
      case rel=>exact⟨m+1,by omega,by go_num,S5,F⟩
      case measure=>simp[intOf];omega
   ·obtain⟨a1,a2⟩:=JI hop;rw[a1]at d3;have hmt:∀w:World,(method 500 353 (.agg #[.int .i64 bs[m].e.a.1,.int .i64 bs[m].e.a.2,.int .i64 bs[m].e.one.1,.int .i64 bs[m].e.one.2,.int .i64 bs[m].e.two.1,.int .i64 bs[m].e.two.2]) "Goals").run prog w=.ok (319,(.agg #[.int .i64 bs[m].e.a.1,.int .i64 bs[m].e.a.2,.int .i64 bs[m].e.one.1,.int .i64 bs[m].e.one.2,.int .i64 bs[m].e.two.1,.int .i64 bs[m].e.two.2])) w:=fun w=>by kernel_rfl
    have HA:=Qc a2;clear a1 a2 hop;go_wp2_with fail;refine(Qls bs[m].e HA.o _).mono ?_;rintro e w2 ⟨vg,rfl,OG,f2⟩;obtain⟨pg,cg,rfl⟩:=Qa OG;have hz1:w.heap.size≤w2.heap.size:=by have:=f2.size;rw[Qt]at this;omega
    have F2:Hid (Below w.heap.size w w2):=(F.o.alloc hz0 _).trans (f2.mono (by rw[Qt];omega));have S2:=S.keeps (((Below.refl _ _).alloc (Qi _) (.cells #[.int .i64 bs[m].at_,.slice qc bs[m].chs.length cc,.slice ps bs[m].sts.length cs1,.iface 353 (.agg #[.int .i64 bs[m].e.a.1,.int .i64 bs[m].e.a.2,.int .i64 bs[m].e.one.1,.int .i64 bs[m].e.one.2,.int .i64 bs[m].e.two.1,.int .i64 bs[m].e.two.2])] 104)).trans (f2.mono (by rw[Qt];omega)));have HGL:Hid (∀p∈goalsF bs[m].e,p.1<bs.length):=hgl.out _ (Qx hlt);have hg2:=ZH bs[m].e;have HAI:Hid (∀k,ZE bs m (goalsF bs[m].e) k=Xc bs k (m+1)):=Wt hlt;clear d0 d1 d2 d3 f2 hmt S F HA;generalize hgs:goalsF bs[m].e=gs at *;clear hgs;go_wp2_with fail
    go_loopw [22] (fun j wz=>∃t:Nat,t≤gs.length∧j=.int .i64 t∧Ku w.heap.size wz (.slice (some ⟨w.heap.size,0,none⟩) bs.length bs.length) bs.length (ZE bs m (gs.take t))∧Hid (Below w.heap.size w wz)∧wz.ownsRow (wr.heap.size+1) 145 2 (.slice pg gs.length cg) gs.length (pcs gs)) (fun j _=>gs.length-(intOf j).toNat)
    case atStart=>
     refine⟨0,by omega,rfl,S2.congr (fun k _=>Wq bs m k),F2,?_⟩;rw[Qt]at OG;exact OG
    case round=>
     clear OG S2 F2 hz1 hz0;obtain⟨t,ht,rfl,S,F,OG⟩:=hrel;by_cases htl:t<gs.length
     ·obtain⟨gf,rfl,_,hgf⟩:=Qk OG (by omega);have f0:=Qf OG (Zt htl).1;have f1:=Qf OG (Zt htl).2;have hk:gs[t].1<bs.length:=HGL.o _ (Qx htl);have hz:=F.o.size;have S2:=S.keeps ((Below.refl _ _).alloc (Qi _) (.cells #[.int .i64 gs[t].1,.int .i64 gs[t].2] 145));have F2:=Qc (F.o.alloc hz (.cells #[.int .i64 gs[t].1,.int .i64 gs[t].2] 145));have OG2:=OG.alloc (.cells #[.int .i64 gs[t].1,.int .i64 gs[t].2] 145);obtain⟨g9,u,e9,hb9,hc9,hf9,o9,n9⟩:=S2.at hk;cases e9;have hlen:=Ws bs m (gs.take t) gs[t].1;have HU:=Qc (And.intro hc9 (And.intro hf9 (And.intro o9 n9)));clear hc9 hf9 o9 n9 S F OG;by_cases hh:QD (Zw (gs.take t)) gs[t].1=true
      ·have HH:=Qc hh;clear hh;go_wp2_with fail;refine(Uh (ZE bs m (gs.take t) gs[t].1) m (Yd HH.o) (JQ _ _ _ _) w.heap.size gs[t].1 w.heap.size u _ HU.o.1 HU.o.2.2.1 (by omega)).mono ?_;rintro e w5 ⟨rfl,hw5⟩;have S5:=S2.congr (fun k _=>Wp htl HH.o k);rw[←hw5.out]at S5 F2 OG2;clear HU S2 hw5;go_wp2_with fail;go_roundw
       case rel=>exact⟨t+1,by omega,by go_num,S5,F2,OG2⟩
       case measure=>simp[intOf];omega
      ·have HH:=Qc (Bool.eq_false_iff.2 hh);clear hh;go_wp2_with fail;refine(VY (ZE bs m (gs.take t) gs[t].1) m (YF HH.o) (JQ _ _ _ _) w.heap.size gs[t].1 w.heap.size u _ HU.o.1 HU.o.2.1 HU.o.2.2.1 (by omega) (by rw[Qt];omega) HU.o.2.2.2).mono ?_;rintro e w5 ⟨rfl,u5,h5⟩;have S5:Ku w.heap.size w5 (.slice (some ⟨w.heap.size,0,none⟩) bs.length bs.length) bs.length (ZE bs m (gs.take (t+1))):=S2.put hk HU.o.1 h5.out.2 (by rw[Qw];exact h5.out.1) _ (Wr htl HH.o) (fun j hj=>YE htl hj);have F5:=Qc (Put.below F2.o (Qi _) HU.o.2.2.1 h5.out.2 (by rw[Qt];omega));obtain⟨us2,a2,_,_⟩:=S2;have OG5:=Qd OG2 (Qr.put (T:=fun e=>e=145) a2 HU.o.2.2.1 h5.out.2 (by decide) (by decide)) rfl;clear HU h5 a2 F2 OG2;go_wp2_with fail;go_roundw
       case rel=>exact⟨t+1,by omega,by go_num,S5,F5,OG5⟩
       case measure=>simp[intOf];omega
     ·have hte:t=gs.length:=by omega
      subst hte;have S5:=S.congr (f':=fun k=>Xc bs k (m+1)) (fun k _=>by rw[List.take_length];exact(HAI.o k).symm);clear S OG;go_wp2_with fail;go_roundw
      case rel=>exact⟨m+1,by omega,by go_num,S5,F⟩
      case measure=>simp[intOf];omega
  ·have hme:m=bs.length:=by omega
   subst hme;go_wp2_with fail;go_ret;exact⟨_,rfl,S,F.o⟩
theorem Ur(p:Nat×Int)(l:List (Nat×Int))(r:Nat→Int):Vx (p::l) r=Vx l (upd r p.1 p.2):=rfl
theorem Ky{x:Nat}:∀{l:List (Nat×Int)}{r:Nat→Int},x∉l.map (·.1)→Vx l r x=r x
 | [],_,_=>rfl
 | p::l,r,h=>by
  rw[List.map_cons,List.mem_cons,not_or]at h;rw[Ur,Ky h.2,Kx _ h.1]
theorem Up{x:Nat}{v:Int}:∀{l:List (Nat×Int)}{r:Nat→Int},(l.map (·.1)).Nodup→(x,v)∈l→Vx l r x=v
 | [],_,_,h=>by simp at h
 | p::l,r,hd,h=>by
  rw[List.map_cons,List.nodup_cons]at hd;rw[Ur];rcases List.mem_cons.1 h with rfl|h
  ·rw[Ky hd.1,Vs]
  ·exact Up hd.2 h
theorem Gz{p:Nat}{r:Nat→Int}:∀{src:List (Nat×Nat)}{a:Int},p∉src.map (·.1)→src.foldl (fun n q=>if q.1=p then r q.2 else n) a=a
 | [],_,_=>rfl
 | q::src,a,h=>by
  rw[List.map_cons,List.mem_cons,not_or]at h;rw[List.foldl_cons,if_neg (fun e=>h.1 e.symm)];exact Gz h.2
theorem Nv{p q:Nat}{r:Nat→Int}:∀{src:List (Nat×Nat)}{a:Int},(src.map (·.1)).Nodup→(p,q)∈src→src.foldl (fun n x=>if x.1=p then r x.2 else n) a=r q
 | [],_,_,h=>by simp at h
 | x::src,a,hd,h=>by
  rw[List.map_cons,List.nodup_cons]at hd;rw[List.foldl_cons];rcases List.mem_cons.1 h with rfl|h
  ·rw[if_pos rfl,Gz hd.1]
  ·exact Nv hd.2 h
theorem Qby{src:List (Nat×Nat)}{p q:Nat}{r:Nat→Int}(hd:(src.map (·.1)).Nodup)(h:(p,q)∈src):YU src p r=r q:=Nv hd h
theorem GZ(bs:List ABk)(b:Nat):(Jk bs b).Nodup:=List.Pairwise.filter _ List.nodup_range
def rnE(f:Nat→Nat)(e:AEn):AEn:=if e.op=63 then { e with a:=f e.a } else e
def Qc5(b:ABk):ABk:=⟨[],[],rnE (fun _=>0) b.e⟩
theorem KS(f e):(rnE f e).op=e.op:=by unfold rnE;split<;>rfl
theorem Rn(f e):(rnE f e).one=e.one:=by unfold rnE;split<;>rfl
theorem Rm(f e):(rnE f e).two=e.two:=by unfold rnE;split<;>rfl
theorem Qfv(f e):gsA (rnE f e)=gsA e:=by unfold gsA;rw[KS,Rn,Rm]
section
variable {bs:List ABk} {co:Nat→Bool} {st:Nat→Nat}
end
def Xa(l:List Int):List Value:=l.map fun (n:Int)=>Value.int .i64 n
theorem KI(a b:List Nat):Qe (a++b)=Qe a++Qe b:=List.map_append ..
theorem YG(a b:List Int):Xa (a++b)=Xa a++Xa b:=List.map_append ..
theorem Kw{l:List Int}{j:Nat}(h:j<l.length):(Xa l)[j]?=some (.int .i64 l[j]):=by simp[Xa,h]
theorem QcE(l:List Int)(i:Nat)(y:Int):(Xa l).set i (.int .i64 y)=Xa (l.set i y):=by simp[Xa,List.map_set]
def Q4(u v:Value):Prop:=∀k,v.ownBlock=some k→u.ownBlock≠some k
theorem Q4.symm{u v:Value}(h:Q4 u v):Q4 v u:=fun k hk hv=>h k hv hk
def InR(base:Nat)(v:Value)(l:List Int)(w:World):Prop:=
 ∃p c,v=.slice p l.length c∧l.length≤c∧(0<l.length→∃g o cs,p=some ⟨g,o,none⟩∧base≤g∧w.heap[g]?=some (.cells cs 3 (0,0))∧∀j (h:j<l.length),cs[o+j]?=some (.int .i64 l[j]))
def XE:Value→Option Nat
 | .slice (some a) n _=>if n=0 then none else some a.block
 | _=>none
def Kv(base g:Nat)(ns:List Nat)(hs inp out:List Int)(vN vH vI vO:Value)(wr:World):Prop:=
 (wr.heap[g]?=some (.cells #[vN,vH,vI,vO] 125 (0,0))∧base≤g)∧(wr.ownsRow base 3 1 vN ns.length (Qe ns)∧wr.ownsRow base 3 1 vH hs.length (Xa hs)∧wr.ownsRow base 3 1 vO out.length (Xa out))∧InR base vI inp wr∧(Q4 vN vH∧Q4 vN vO∧Q4 vH vO)∧(∀k,XE vI=some k→vN.ownBlock≠some k∧vH.ownBlock≠some k∧vO.ownBlock≠some k)
def Ye(base g:Nat)(ns:List Nat)(hs:List Int)(vN vH vI vO:Value)(m:Mac)(wr:World):Prop:=
 Kv base g ns hs m.inp m.out vN vH vI vO wr∧ns.length=hs.length∧m.r=look ns hs
theorem InR.keeps{base v l w w'}(h:InR base v l w)(F:Below w.heap.size w w'):InR base v l w':=by
 obtain⟨p,c,rfl,hc,h⟩:=h;refine⟨p,c,rfl,hc,fun h0=>?_⟩;obtain⟨g,o,cs,a,b,c,d⟩:=h h0;exact⟨g,o,cs,a,b,by rw[F.block _ (lt_of_block c)];exact c,d⟩
theorem Kv.keeps{base g ns hs inp out vN vH vI vO w w'}(h:Kv base g ns hs inp out vN vH vI vO w)(F:Below w.heap.size w w'):Kv base g ns hs inp out vN vH vI vO w':=by
 obtain⟨⟨a,a2⟩,⟨b,c,d⟩,e,f⟩:=h;exact⟨⟨by rw[F.block _ (lt_of_block a)];exact a,a2⟩,⟨Qd b (Qh F) trivial,Qd c (Qh F) trivial,Qd d (Qh F) trivial⟩,e.keeps F,f⟩
theorem Ye.keeps{base g ns hs vN vH vI vO m w w'}(h:Ye base g ns hs vN vH vI vO m w)(F:Below w.heap.size w w'):Ye base g ns hs vN vH vI vO m w':=⟨h.1.keeps F,h.2⟩
theorem Qlq(base g n:Nat)(ns:List Nat)(hs:List Int)(vN vH vI vO:Value)(m:Mac)(w:World)(h:Ye base g ns hs vN vH vI vO m w)(hl:ns.length≤1000000000000):
  Calls prog 60 #[.pointer (some ⟨g,0,none⟩),.int .i64 n] w fun x w'=>x=.returned (.int .i64 (m.r n))∧Below w.heap.size w w':=by
 obtain⟨⟨⟨h1,_⟩,⟨h2,h3,_⟩,_⟩,he,hr⟩:=h;obtain⟨pN,cN,rfl⟩:=Qa h2;obtain⟨pH,cH,rfl⟩:=Qa h3;have hgw:=lt_of_block h1;have k0:=Qb h1 0;have k1:=Qb h1 1;simp at k0 k1;have K0:=Qc (And.intro k0 k1);have HR:=Qc hr;have HE:=Qc he;have H2:=Qc h2;have H3:=Qc h3;clear h1 h2 h3 hr he k0 k1;go_enter func60,ntmps60;go_wp2_with fail
 go_loopw [5] (fun i wr=>∃k:Nat,k≤ns.length∧i=.int .i64 k∧Hid (∀j (hj:j<ns.length),j<k→ns[j]≠n)∧Hid (Below w.heap.size w wr)) (fun i _=>ns.length-(intOf i).toNat)
 case atStart=>exact⟨0,by omega,rfl,(fun j _ h=>by omega),Below.refl _ _⟩
 case round=>
  obtain⟨k,hk,rfl,HN,F⟩:=hrel;rename World=>wA;have k0:=(F.o.cell (p:=⟨g,0,none⟩) hgw).trans K0.o.1;have k1:=(F.o.cell (p:=⟨g,1,none⟩) hgw).trans K0.o.2;by_cases hlt:k<ns.length
  ·have hlt2:k<hs.length:=by have:=HE.o;omega
   have O2:=Qd H2.o (Qh F.o) trivial;have O3:=Qd H3.o (Qh F.o) trivial;obtain⟨gN,rfl,_,_⟩:=Qk O2 (by omega);obtain⟨gH,rfl,_,_⟩:=Qk O3 (by omega);have c2:=Qf O2 (j:=k) (u:=.int .i64 ns[k]) (by simp[Qe,hlt]);have c3:=Qf O3 (Kw hlt2);clear O2 O3;by_cases he:ns[k]=n
   ·have HV:Hid (m.r n=hs[k]):=by
     show _=_;rw[HR.o];exact NX hlt HE.o he (fun j hj=>HN.o j (by omega) hj)
    have hd:((ns[k]:Int)==(n:Int))=true:=by simp;omega
    clear he;go_wp2_with fail;go_ret;exact⟨by rw[HV.o];rfl,F.o⟩
   ·have HN2:Hid (∀j (hj:j<ns.length),j<k+1→ns[j]≠n):=fun j hj hjk=>by
     by_cases e:j=k
     ·subst e;exact he
     ·exact HN.o j hj (by omega)
    have hd:((ns[k]:Int)==(n:Int))=false:=by simp;omega
    clear he;go_wp2_with fail;go_roundw
    case rel=>exact⟨k+1,by omega,by go_num,HN2,F⟩
    case measure=>simp[intOf];omega
  ·have hke:k=ns.length:=by omega
   have HV:Hid (m.r n=0):=by
    show _=_;rw[HR.o];exact GK (fun j hj=>HN.o j hj (by omega))
   clear hke;go_wp2_with fail;go_ret;exact⟨by rw[HV.o];rfl,F.o⟩
end Go.Proofs.YtgfhfkgdmidhpaaGreatDoor
