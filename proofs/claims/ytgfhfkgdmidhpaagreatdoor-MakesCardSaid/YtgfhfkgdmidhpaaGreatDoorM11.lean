import Derived.Test.YtgfhfkgdmidhpaaGreatDoorM10
import Derived.Maps.AppendAt
import Derived.Lib.AppendZerosOnto
import Derived.Lib.Overlaps
import Derived.Shelf.Spec.SlicesInsert
namespace Go.Proofs.YtgfhfkgdmidhpaaGreatDoor
open Go.RowKit
open Tryz
set_option maxRecDepth 100000
set_option maxHeartbeats 8000000
theorem XV:(prog.info? 143).map (fun i=>(i.zero,i.size,i.bytes))=some (some (.int .i64 0),1,8):=by kernel_rfl
theorem Kq:(prog.info? 78).map (fun i=>(i.zero,i.size,i.bytes))=some (some (.int .i64 0),1,8):=by kernel_rfl
theorem QY{l:List Nat}{j:Nat}(hj:j<l.length):(Qe l)[j]?=some (.int .i64 l[j]):=by simp[Qe,hj]
def eqF(a b:List Nat):Bool:=decide (a=b)
theorem Qcc{a b:List Nat}(h:a.length≠b.length):eqF a b=false:=by simp[eqF];intro e;exact h (by rw[e])
theorem Qce{a b:List Nat}(h:a.length=b.length)(hx:∀j,(h1:j<a.length)→(h2:j<b.length)→a[j]=b[j]):eqF a b=true:=by
 simp[eqF];exact List.ext_getElem h (fun i h1 h2=>hx i h1 h2)
theorem QfG{a b:List Nat}{j:Nat}(h1:j<a.length)(h2:j<b.length)(h:a[j]≠b[j]):eqF a b=false:=by
 simp[eqF];intro e;subst e;exact h rfl
theorem GT(a b:List Nat)(B1 B2:Nat)(va vb:Value)(w:World)(ha:w.ownsRow B1 143 1 va a.length (Qe a))(hb:w.ownsRow B2 143 1 vb b.length (Qe b))(la:a.length≤1000000)(lb:b.length≤1000000):
  Calls prog 160 #[va,vb] w fun x w'=>x=.returned (.bool (eqF a b))∧∃n,w'=w.drewN n:=by
 obtain⟨p1,c1,rfl⟩:=Qa ha;obtain⟨p2,c2,rfl⟩:=Qa hb;by_cases hl:a.length=b.length
 ·have hl':((a.length:Int) != (b.length:Int))=false:=by simp;omega
  have HL:=Qc hl;clear hl;go_enter func160,ntmps160;go_wp2_with fail
  go_loopw [13] (fun i wr=>∃k n:Nat,k≤a.length∧i=.int .i64 k∧wr=w.drewN n∧Hid (∀j,j<k→(h1:j<a.length)→(h2:j<b.length)→a[j]=b[j])) (fun i _=>a.length-(intOf i).toNat)
  case atStart=>exact⟨0,0,by omega,rfl,rfl,fun j hj=>by omega⟩
  case round=>
   obtain⟨k,n,hk,rfl,rfl,HE⟩:=hrel;by_cases hlt:k<a.length
   ·have hlb:k<b.length:=by have:=HL.o;omega
    obtain⟨g1,rfl,_,_⟩:=Qk ha (by omega);obtain⟨g2,rfl,_,_⟩:=Qk hb (by omega);have f1:=Qf ha (QY hlt);have f2:=Qf hb (QY hlb);by_cases he:a[k]=b[k]
    ·have he':((a[k]:Int) != (b[k]:Int))=false:=by simp;omega
     have HE2:Hid (∀j,j<k+1→(h1:j<a.length)→(h2:j<b.length)→a[j]=b[j]):=fun j hj h1 h2=>by
      rcases Nat.lt_succ_iff_lt_or_eq.1 hj with hj|rfl
      ·exact HE.o j hj h1 h2
      ·exact he
     clear he;go_wp2_with fail
     go_quiet (fail)
     go_wp2_with fail;go_roundw
     case rel=>exact⟨k+1,n+nq,by omega,by go_num,by simp,HE2⟩
     case measure=>simp[intOf];omega
    ·have he':((a[k]:Int) != (b[k]:Int))=true:=by simp;omega
     have HN:=Qc (QfG hlt hlb he);clear he;go_wp2_with fail
     go_quiet (fail)
     go_wp2_with fail;go_ret;exact⟨by rw[HN.o];rfl,n+nq,by simp⟩
   ·have HN:=Qc (Qce HL.o (fun j h1 h2=>HE.o j (by omega) h1 h2));go_wp2_with fail;go_ret;exact⟨by rw[HN.o];rfl,n,rfl⟩
 ·have hl':((a.length:Int) != (b.length:Int))=true:=by simp;omega
  have HN:=Qc (Qcc hl);clear hl;go_enter func160,ntmps160;go_wp2_with fail;go_ret;exact⟨by rw[HN.o];rfl,0,rfl⟩
theorem ZA{w:World}{base e g n cap:Nat}{xs:List Value}(h:w.ownsRow base e 1 (.slice (some ⟨g,0,none⟩) n cap) n xs)(j:Nat)(x:Value):(w.setCell ⟨g,j,none⟩ x).ownsRow base e 1 (.slice (some ⟨g,0,none⟩) n cap) n (xs.set j x):=by
 obtain⟨h1,h2⟩:=h;refine⟨by simpa using h1,?_⟩;rcases h2 with ⟨h0,_⟩|⟨g',cap',cur,hv,a,c,d,e1,e2,e3⟩
 ·cases h0
 ·cases hv;refine .inr ⟨g,cap,cur.setIfInBounds j x,rfl,a,Qq c j x,d,e1,by simpa using e2,?_⟩;rw[Array.toList_setIfInBounds,←e3,List.take_set]
theorem Xz{w:World}{base e size g n cap:Nat}{xs:List Value}(h:w.ownsRow base e size (.slice (some ⟨g,0,none⟩) n cap) n xs)(o:Nat):w.frozen? ⟨g,o,none⟩=false:=by
 rcases h.2 with ⟨h0,_⟩|⟨g',cap',cur,hv,a,c,d⟩
 ·cases h0
 ·cases hv;exact Qg c o
theorem Qr.storeRow{w:World}{base base' e g n cap:Nat}{xs:List Value}{T:TypeId→Prop}(h:w.ownsRow base' e 1 (.slice (some ⟨g,0,none⟩) n cap) n xs)(he:¬T e)(j:Nat)(x:Value):Qr base T w (w.setCell ⟨g,j,none⟩ x):=by
 intro k cur e2 _ ht hh;refine Ql hh ?_ j x;intro e1;subst e1;rcases h.2 with ⟨h0,_⟩|⟨g',cap',cur',hv,a,c,d⟩
 ·cases h0
 ·cases hv;rw[hh]at c;cases c;exact he ht
theorem UR(z:Value)(hz:z.cells=#[z])(n:Nat):(madeCells z.cells (n*1)).toList=List.replicate n z:=by
 rw[hz,Nat.mul_one];apply List.ext_getElem
 ·simp[madeCells]
 ·intro i h1 h2;simp[madeCells,Nat.mod_one]
def half(l:List (Nat×Nat))(t:Nat):List Value:=Qe (Zw (l.take t))++List.replicate (l.length-t) (.int .i64 0)
theorem Qdk(l):half l 0=List.replicate l.length (.int .i64 0):=by simp[half,Qe,Zw]
theorem Qfk(l):half l l.length=Qe (Zw l):=by simp[half]
theorem Qfi{l:List (Nat×Nat)}{t:Nat}(ht:t<l.length):(half l t).set t (.int .i64 l[t].1)=half l (t+1):=by
 apply List.ext_getElem
 ·simp[half,Qe,Zw];omega
 ·intro i h1 h2;simp only[half,Qe,Zw,List.length_set,List.length_append,List.length_map,List.length_take,List.length_replicate]at h1 h2;rw[List.getElem_set];by_cases hi:t=i
  ·subst hi;rw[if_pos rfl];simp only[half,Qe,Zw];rw[List.getElem_append_left (by simp;omega)];simp
  ·rw[if_neg hi];simp only[half,Qe,Zw];by_cases hl:i<t
   ·rw[List.getElem_append_left (by simp;omega),List.getElem_append_left (by simp;omega)];simp
   ·rw[List.getElem_append_right (by simp;omega),List.getElem_append_right (by simp;omega)];simp
theorem Qfj(l t)(h:t≤l.length):(half l t).length=l.length:=by simp[half,Qe,Zw];omega
theorem RY(c:Q0)(base:Nat)(vs:Value)(w:World)(h:w.ownsRow base 147 4 vs c.gs.length (Q8 c.gs c.rs))(hgl:c.gs.length=c.rs.length)(hc:c.gs.length≤400000):
  Calls prog 161 #[.agg #[.int .i64 c.to.1,.int .i64 c.to.2,vs]] w fun x w'=>∃v,x=.returned v∧w'.ownsRow w.heap.size 143 1 v (Zw c.gs).length (Qe (Zw c.gs))∧Below w.heap.size w w':=by
 obtain⟨pv,cv,rfl⟩:=Qa h;have HGL:=Qc hgl;clear hgl;obtain⟨I9,Hi9,Hz9,Hs9,Hb9⟩:=info_parts XV;go_enter func161,ntmps161;go_wp2_with (at_make;refine QA ?_);refine Qc ?_;refine wpList_make_full _ rfl _ _ 80 rfl (w.heap.size+1) 143 I9 (.int .i64 0) 1 underlying80 Hi9 Hz9 Hs9 .i64 .i64 _ _ c.gs.length rfl rfl rfl rfl (by rw[Hb9];omega) (by unfold maxLen;omega) (by simp) ?_;intro w1 o1 g1;rw[UR _ rfl,←Qdk,Qt]at o1;rw[Qt];have F1:Below w.heap.size w w1:=Below.grown ((Below.refl _ _).alloc (Nat.le_refl _) _) g1 (by simp) (fun k hk=>by cases hk);have hz1:w.heap.size+1≤w1.heap.size:=by have:=g1.size;rw[Qt]at this;exact this
 have gb:w1.heap[w.heap.size]?=some (.cells #[.int .i64 c.to.1,.int .i64 c.to.2,.slice pv c.gs.length cv] 140 (0,0)):=QC g1 (heap_alloc_last w _) (fun j hj=>by cases hj);have h1:=Qd (h.alloc (.cells #[.int .i64 c.to.1,.int .i64 c.to.2,.slice pv c.gs.length cv] 140)) (T:=fun _=>True) (fun g cur e _ _ hh=>QC g1 hh (fun j hj=>by cases hj)) trivial;have qb:=Qb gb 2;simp at qb;clear g1 gb;go_wp2_with fail
 go_loopw [13] (fun k wr=>∃t:Nat,t≤c.gs.length∧k=.int .i64 t∧wr.ownsRow (w.heap.size+1) 143 1 (.slice (some ⟨w.heap.size+1,0,none⟩) c.gs.length c.gs.length) c.gs.length (half c.gs t)∧Hid (Below w.heap.size w wr)∧wr.ownsRow base 147 4 (.slice pv c.gs.length cv) c.gs.length (Q8 c.gs c.rs)∧w.heap.size+1≤wr.heap.size) (fun k _=>c.gs.length-(intOf k).toNat)
 case atStart=>exact⟨0,by omega,rfl,o1,F1,h1,hz1⟩
 case round=>
  clear o1 F1 h1 qb hz1;obtain⟨t,ht,rfl,O,F,OF,hz⟩:=hrel;by_cases htl:t<c.gs.length
  ·obtain⟨gf,rfl,_,hgf⟩:=Qk OF (by omega);have f0:=Qf OF (Zp HGL.o htl).1;have f1:=Qf OF (Zp HGL.o htl).2.1;have f2:=Qf OF (Zp HGL.o htl).2.2.1;have f3:=Qf OF (Zp HGL.o htl).2.2.2;have hlen:=Qfj c.gs t ht;have s0:wr.cell? ⟨w.heap.size+1,t,none⟩=some ((half c.gs t)[t]'(by omega)):=Qf O (Zl (by omega));have s1:=Xz O t;have ll:w.heap.size+1<wr.heap.size:=(O.lt _ rfl).2;generalize (half c.gs t)[t]'(by omega)=old at s0;clear hlen;go_wp2_with fail;refine⟨⟨t+1,by omega,by go_num,?_,?_,?_,?_⟩,by simp[intOf];omega⟩
   ·rw[←Qfi htl];exact(ZA O t _).alloc _
   ·exact(F.o.setCell (p:=⟨w.heap.size+1,t,none⟩) (show w.heap.size≤w.heap.size+1 by omega) _).alloc (by rw[Zs];omega) _
   ·exact(Qd OF (Qr.storeRow (T:=fun e=>e=147) O (by decide) t _) rfl).alloc _
   ·rw[Qt,Zs];omega
  ·have hte:t=c.gs.length:=by omega
   subst hte;rw[Qfk]at O;go_wp2_with fail;go_ret;refine⟨_,rfl,?_,F.o⟩;have:=Qj (base':=w.heap.size) O (by omega);simpa[Zw] using this
def Kt(l:List Nat)(x i:Nat):Prop:=(∀k,k<i→(hk:k<l.length)→l[k]<x)∧(∀k,i≤k→(hk:k<l.length)→x≤l[k])
def ZB(l:List Nat)(x i:Nat):Bool:=match l[i]? with|some y=>y==x|none=>false
theorem Qkx(x:Int)(w:World):Calls prog 206 #[.int .i64 x] w fun e w'=>e=.returned (.bool false)∧w'=w:=by
 go_enter func206,ntmps206
 go_wp2
 go_ret;exact⟨by simp,rfl⟩
theorem Qlj(x:Int)(w:World):Calls prog 171 #[.int .i64 x] w fun e w'=>e=.returned (.bool false)∧w'=w:=by
 go_enter func171,ntmps171
 go_wp2
 go_ret;exact⟨by simp,rfl⟩
theorem QiH(x y:Int)(w:World):Calls prog 170 #[.int .i64 x,.int .i64 y] w fun e w'=>e=.returned (.bool (decide (x<y)))∧w'=w:=by
 go_enter func170,ntmps170;go_wp2_with fail;refine(Qkx _ _).mono ?_;rintro e w1 ⟨rfl,rfl⟩;go_wp2_with fail;go_ret;exact⟨rfl,rfl⟩
theorem VV(l:List Nat)(x:Nat)(hsrt:Hid (l.Pairwise (· < ·)))(base:Nat)(v:Value)(w:World)(h:w.ownsRow base 143 1 v l.length (Qe l))(hl:l.length≤1000000):
  Calls prog 120 #[v,.int .i64 x] w fun e w'=>w'=w∧∃i,i≤l.length∧Kt l x i∧e=.returned (.tuple #[.int .i64 (i:Nat),.bool (ZB l x i)]):=by
 obtain⟨p,c,rfl⟩:=Qa h;go_enter func120,ntmps120;go_wp2_with fail
 go_loopw [7,8,9] (fun i j _ wr=>∃a b:Nat,a≤b∧b≤l.length∧i=.int .i64 a∧j=.int .i64 b∧Hid (wr=w)∧Hid ((∀k,k<a→(hk:k<l.length)→l[k]<x)∧(∀k,b≤k→(hk:k<l.length)→x≤l[k]))) (fun i j _ _=>(intOf j).toNat-(intOf i).toNat)
 case atStart=>exact⟨0,l.length,by omega,by omega,rfl,rfl,rfl,fun k hk=>by omega,fun k hk h2=>by omega⟩
 case round=>
  obtain⟨a,b,hab,hbl,rfl,rfl,HW,HI⟩:=hrel;have h2:wr.ownsRow base 143 1 (.slice p l.length c) l.length (Qe l):=by rw[HW.o];exact h
  by_cases hlt:a<b
  ·have hm1:(a+b) / 2<b:=by omega
   have hm2:a≤(a+b) / 2:=by omega
   have hml:(a+b) / 2<l.length:=by omega
   obtain⟨g,rfl,_,_⟩:=Qk h2 (by omega);have f0:=Qf h2 (QY hml);by_cases hc:l[(a+b) / 2]<x
   ·have HI2:Hid ((∀k,k<(a+b) / 2+1→(hk:k<l.length)→l[k]<x)∧(∀k,b≤k→(hk:k<l.length)→x≤l[k])):=by
     refine⟨fun k hk hkl=>?_,HI.o.2⟩;by_cases he:k=(a+b) / 2
     ·subst he;exact hc
     ·have:=List.pairwise_iff_getElem.1 hsrt.out k ((a+b) / 2) hkl hml (by omega);omega
    have hd:decide ((l[(a+b) / 2]:Int)<(x:Int))=true:=by simp;omega
    clear hc;go_wp2_with fail;refine(QiH _ _ _).mono ?_;rintro e w1 ⟨rfl,hw1⟩;rw[hd];have HW1:Hid (w1=w):=hw1.trans HW.o;clear hw1;go_wp2_with fail;go_roundw
    case rel=>exact⟨(a+b) / 2+1,b,by omega,by omega,by go_num,rfl,HW1,HI2⟩
    case measure=>simp[intOf];omega
   ·have HI2:Hid ((∀k,k<a→(hk:k<l.length)→l[k]<x)∧(∀k,(a+b) / 2≤k→(hk:k<l.length)→x≤l[k])):=by
     refine⟨HI.o.1,fun k hk hkl=>?_⟩;by_cases he:k=(a+b) / 2
     ·subst he;omega
     ·have:=List.pairwise_iff_getElem.1 hsrt.out ((a+b) / 2) k hml hkl (by omega);omega
    have hd:decide ((l[(a+b) / 2]:Int)<(x:Int))=false:=by simp;omega
    clear hc;go_wp2_with fail;refine(QiH _ _ _).mono ?_;rintro e w1 ⟨rfl,hw1⟩;rw[hd];have HW1:Hid (w1=w):=hw1.trans HW.o;clear hw1;go_wp2_with fail;go_roundw
    case rel=>exact⟨a,(a+b) / 2,by omega,by omega,rfl,by go_num,HW1,HI2⟩
    case measure=>simp[intOf];omega
  ·have hae:a=b:=by omega
   subst hae;by_cases hal:a<l.length
   ·obtain⟨g,rfl,_,_⟩:=Qk h2 (by omega);have f0:=Qf h2 (QY hal);by_cases hx:l[a]=x
    ·have hx':((l[a]:Int)==(x:Int))=true:=by simp;omega
     have HF:Hid (ZB l x a=true):=by show _=_;simp[ZB,hal,hx]
     clear hx;go_wp2_with fail
     go_ret2
     exact⟨HW.o,a,hbl,HI.o,by rw[HF.o];rfl⟩
    ·have hx':((l[a]:Int)==(x:Int))=false:=by simp;omega
     have HF:Hid (ZB l x a=false):=by show _=_;simp[ZB,hal,hx]
     clear hx;go_wp2_with fail;refine(Qlj _ _).mono ?_;rintro e w1 ⟨rfl,hw1⟩;have HW1:Hid (w1=w):=hw1.trans HW.o;clear hw1;go_wp2_with fail
     go_ret2
     exact⟨HW1.o,a,hbl,HI.o,by rw[HF.o];rfl⟩
   ·have HF:Hid (ZB l x a=false):=by show _=_;simp[ZB,List.getElem?_eq_none (show l.length≤a by omega)]
    go_wp2_with fail
    go_ret2
    exact⟨HW.o,a,hbl,HI.o,by rw[HF.o];rfl⟩
theorem Qkw(x:Int)(w:World):Calls prog 216 #[.int .i64 x] w fun e w'=>e=.returned (.bool false)∧w'=w:=by
 go_enter func216,ntmps216
 go_wp2
 go_ret;exact⟨by simp,rfl⟩
theorem Qli(x:Int)(w:World):Calls prog 193 #[.int .i64 x] w fun e w'=>e=.returned (.bool false)∧w'=w:=by
 go_enter func193,ntmps193
 go_wp2
 go_ret;exact⟨by simp,rfl⟩
theorem QiG(x y:Int)(w:World):Calls prog 192 #[.int .i64 x,.int .i64 y] w fun e w'=>e=.returned (.bool (decide (x<y)))∧w'=w:=by
 go_enter func192,ntmps192;go_wp2_with fail;refine(Qkw _ _).mono ?_;rintro e w1 ⟨rfl,rfl⟩;go_wp2_with fail;go_ret;exact⟨rfl,rfl⟩
theorem U7(l:List Nat)(x:Nat)(hsrt:Hid (l.Pairwise (· < ·)))(base:Nat)(v:Value)(w:World)(h:w.ownsRow base 78 1 v l.length (Qe l))(hl:l.length≤1000000):
  Calls prog 145 #[v,.int .i64 x] w fun e w'=>w'=w∧∃i,i≤l.length∧Kt l x i∧e=.returned (.tuple #[.int .i64 (i:Nat),.bool (ZB l x i)]):=by
 obtain⟨p,c,rfl⟩:=Qa h;go_enter func145,ntmps145;go_wp2_with fail
 go_loopw [7,8,9] (fun i j _ wr=>∃a b:Nat,a≤b∧b≤l.length∧i=.int .i64 a∧j=.int .i64 b∧Hid (wr=w)∧Hid ((∀k,k<a→(hk:k<l.length)→l[k]<x)∧(∀k,b≤k→(hk:k<l.length)→x≤l[k]))) (fun i j _ _=>(intOf j).toNat-(intOf i).toNat)
 case atStart=>exact⟨0,l.length,by omega,by omega,rfl,rfl,rfl,fun k hk=>by omega,fun k hk h2=>by omega⟩
 case round=>
  obtain⟨a,b,hab,hbl,rfl,rfl,HW,HI⟩:=hrel;have h2:wr.ownsRow base 78 1 (.slice p l.length c) l.length (Qe l):=by rw[HW.o];exact h
  by_cases hlt:a<b
  ·have hm1:(a+b) / 2<b:=by omega
   have hm2:a≤(a+b) / 2:=by omega
   have hml:(a+b) / 2<l.length:=by omega
   obtain⟨g,rfl,_,_⟩:=Qk h2 (by omega);have f0:=Qf h2 (QY hml);by_cases hc:l[(a+b) / 2]<x
   ·have HI2:Hid ((∀k,k<(a+b) / 2+1→(hk:k<l.length)→l[k]<x)∧(∀k,b≤k→(hk:k<l.length)→x≤l[k])):=by
     refine⟨fun k hk hkl=>?_,HI.o.2⟩;by_cases he:k=(a+b) / 2
     ·subst he;exact hc
     ·have:=List.pairwise_iff_getElem.1 hsrt.out k ((a+b) / 2) hkl hml (by omega);omega
    have hd:decide ((l[(a+b) / 2]:Int)<(x:Int))=true:=by simp;omega
    clear hc;go_wp2_with fail;refine(QiG _ _ _).mono ?_;rintro e w1 ⟨rfl,hw1⟩;rw[hd];have HW1:Hid (w1=w):=hw1.trans HW.o;clear hw1;go_wp2_with fail;go_roundw
    case rel=>exact⟨(a+b) / 2+1,b,by omega,by omega,by go_num,rfl,HW1,HI2⟩
    case measure=>simp[intOf];omega
   ·have HI2:Hid ((∀k,k<a→(hk:k<l.length)→l[k]<x)∧(∀k,(a+b) / 2≤k→(hk:k<l.length)→x≤l[k])):=by
     refine⟨HI.o.1,fun k hk hkl=>?_⟩;by_cases he:k=(a+b) / 2
     ·subst he;omega
     ·have:=List.pairwise_iff_getElem.1 hsrt.out ((a+b) / 2) k hml hkl (by omega);omega
    have hd:decide ((l[(a+b) / 2]:Int)<(x:Int))=false:=by simp;omega
    clear hc;go_wp2_with fail;refine(QiG _ _ _).mono ?_;rintro e w1 ⟨rfl,hw1⟩;rw[hd];have HW1:Hid (w1=w):=hw1.trans HW.o;clear hw1;go_wp2_with fail;go_roundw
    case rel=>exact⟨a,(a+b) / 2,by omega,by omega,rfl,by go_num,HW1,HI2⟩
    case measure=>simp[intOf];omega
  ·have hae:a=b:=by omega
   subst hae;by_cases hal:a<l.length
   ·obtain⟨g,rfl,_,_⟩:=Qk h2 (by omega);have f0:=Qf h2 (QY hal);by_cases hx:l[a]=x
    ·have hx':((l[a]:Int)==(x:Int))=true:=by simp;omega
     have HF:Hid (ZB l x a=true):=by show _=_;simp[ZB,hal,hx]
     clear hx;go_wp2_with fail
     go_ret2
     exact⟨HW.o,a,hbl,HI.o,by rw[HF.o];rfl⟩
    ·have hx':((l[a]:Int)==(x:Int))=false:=by simp;omega
     have HF:Hid (ZB l x a=false):=by show _=_;simp[ZB,hal,hx]
     clear hx;go_wp2_with fail;refine(Qli _ _).mono ?_;rintro e w1 ⟨rfl,hw1⟩;have HW1:Hid (w1=w):=hw1.trans HW.o;clear hw1;go_wp2_with fail
     go_ret2
     exact⟨HW1.o,a,hbl,HI.o,by rw[HF.o];rfl⟩
   ·have HF:Hid (ZB l x a=false):=by show _=_;simp[ZB,List.getElem?_eq_none (show l.length≤a by omega)]
    go_wp2_with fail
    go_ret2
    exact⟨HW.o,a,hbl,HI.o,by rw[HF.o];rfl⟩
def VZ(w:World)(v v':Value):Prop:=v'.ownBlock=v.ownBlock∨∃g,v'.ownBlock=some g∧w.heap.size≤g
theorem Qil{t e:TypeId}{z:Value}{size bytes:Nat}(ht:prog.underlying t=some (.slice e))(hi:(prog.info? e).map (fun i=>(i.zero,i.size,i.bytes))=some (some z,size,bytes))(hzs:z.cells.size=size)(hsz:0<size)(hby:bytes≤1000)
  {ops:Array Oper}{rest:List Oper}{o:Oper}{a:Act}{Q:Exit→Act→World→Prop}{w:World}(hgd:o.guard=none)(s x:Operand)
  (ho:o.op=.call { callee:=.builtin .append,args:=#[s,x],argTypes:=#[t,t] })
  {base:Nat}{v:Value}{n:Nat}{xs:List Value}(hs:a.eval s=v)(hown:w.ownsRow base e size v n xs)
  {B:Nat}{cs:Array Value}{tt:TypeId}{fr:Nat×Nat}(hB:w.heap[B]?=some (.cells cs tt fr))(hx:a.eval x=.slice (some ⟨B,0,none⟩) 1 1)(hl:cs.size=size)(h1:∀u∈cs.toList,u.oneCell'=true)
  (hn:n≤1000000)(hbase:base≤w.heap.size)
  (h:∀v' w',w'.ownsRow base e size v' (n+1) (xs++cs.toList)→w.grownBy w' v.ownBlock→VZ w v v'→wpList prog ops Q rest (a.put o.dst v') w'):wpList prog ops Q (o::rest) a w:=by
 obtain⟨I,Hi,Hz,Hs,Hb⟩:=info_parts hi;refine wpList_append_own_at w hgd s x t ho base e I z size bytes ht Hi Hz Hs Hb hzs hsz v n xs hs hown ⟨B,0,none⟩ 1 1 cs.toList hx (by simpa using hl) (World.news_of_block hB) h1 (by unfold maxLen;omega) ?_ hbase (fun v' w' h1 h2 _ h4=>h v' w' h1 h2 (h4.imp id fun h=>⟨_,h,Nat.le_refl _⟩));have:(n+1)*bytes≤1000001*1000:=Nat.mul_le_mul (by omega) hby
 omega
theorem Qb3(l:List Nat)(x:Nat)(base:Nat)(v:Value)(w:World)(h:w.ownsRow base 143 1 v l.length (Qe l))(hl:l.length≤1000000)(hb:base≤w.heap.size)
  {B:Nat}{tt:TypeId}(hB:w.heap[B]?=some (.cells #[.int .i64 x] tt (0,0))):
  Calls prog 121 #[v,.int .i64 l.length,.slice (some ⟨B,0,none⟩) 1 1] w fun e w'=>∃v',e=.returned v'∧w'.ownsRow base 143 1 v' (l.length+1) (Qe (l++[x]))∧w.grownBy w' v.ownBlock∧VZ w v v':=by
 have HO:=Qc h;have HB:=Qc hB;have HL:=Qc hl;have HS:=Qc hb;clear hB hl hb;obtain⟨p,c,rfl⟩:=Qa h;clear h;by_cases hc:c=l.length
 ·subst hc;go_enter func121,ntmps121;go_wp2_with (at_builtin;refine QA ?_);refine Qc ?_;refine Qil (v:=.slice p l.length l.length) underlying80 XV rfl (by decide) (by decide) rfl _ _ rfl rfl HO.o HB.o rfl rfl (Xi.1 rfl) HL.o HS.o ?_;intro v1 w1 o1 g1 n1;rw[show Qe l++#[Value.int .i64 x].toList=Qe (l++[x]) by simp[Qe]]at o1;have O1:=Qc o1;have G1:=Qc g1;clear o1 g1;go_wp2_with fail;go_ret;exact⟨v1,rfl,O1.o,G1.o,n1⟩
 ·have HC:=hc;go_enter func121,ntmps121;go_wp2_with (at_builtin;refine QA ?_);refine Qc ?_;refine Qil (v:=.slice p l.length c) underlying80 XV rfl (by decide) (by decide) rfl _ _ rfl rfl HO.o HB.o rfl rfl (Xi.1 rfl) HL.o HS.o ?_;intro v1 w1 o1 g1 n1;rw[show Qe l++#[Value.int .i64 x].toList=Qe (l++[x]) by simp[Qe]]at o1;have O1:=Qc o1;have G1:=Qc g1;clear o1 g1;go_wp2_with fail;go_ret;exact⟨v1,rfl,O1.o,G1.o,n1⟩
theorem QhM(l:List Nat)(x:Nat)(base:Nat)(v:Value)(w:World)(h:w.ownsRow base 78 1 v l.length (Qe l))(hl:l.length≤1000000)(hb:base≤w.heap.size)
  {B:Nat}{tt:TypeId}(hB:w.heap[B]?=some (.cells #[.int .i64 x] tt (0,0))):
  Calls prog 146 #[v,.int .i64 l.length,.slice (some ⟨B,0,none⟩) 1 1] w fun e w'=>∃v',e=.returned v'∧w'.ownsRow base 78 1 v' (l.length+1) (Qe (l++[x]))∧w.grownBy w' v.ownBlock∧VZ w v v':=by
 have HO:=Qc h;have HB:=Qc hB;have HL:=Qc hl;have HS:=Qc hb;clear hB hl hb;obtain⟨p,c,rfl⟩:=Qa h;clear h;by_cases hc:c=l.length
 ·subst hc;go_enter func146,ntmps146;go_wp2_with (at_builtin;refine QA ?_);refine Qc ?_;refine Qil (v:=.slice p l.length l.length) underlying159 Kq rfl (by decide) (by decide) rfl _ _ rfl rfl HO.o HB.o rfl rfl (Xi.1 rfl) HL.o HS.o ?_;intro v1 w1 o1 g1 n1;rw[show Qe l++#[Value.int .i64 x].toList=Qe (l++[x]) by simp[Qe]]at o1;have O1:=Qc o1;have G1:=Qc g1;clear o1 g1;go_wp2_with fail;go_ret;exact⟨v1,rfl,O1.o,G1.o,n1⟩
 ·have HC:=hc;go_enter func146,ntmps146;go_wp2_with (at_builtin;refine QA ?_);refine Qc ?_;refine Qil (v:=.slice p l.length c) underlying159 Kq rfl (by decide) (by decide) rfl _ _ rfl rfl HO.o HB.o rfl rfl (Xi.1 rfl) HL.o HS.o ?_;intro v1 w1 o1 g1 n1;rw[show Qe l++#[Value.int .i64 x].toList=Qe (l++[x]) by simp[Qe]]at o1;have O1:=Qc o1;have G1:=Qc g1;clear o1 g1;go_wp2_with fail;go_ret;exact⟨v1,rfl,O1.o,G1.o,n1⟩
theorem NZ{α:Type}(L il:List α)(x:α)(i n:Nat)(ht:L.take n=il)(hn:n+1≤L.length)(hi:i<n):
  ((((L.take (i+1)++il.drop i++L.drop (i+1+(il.drop i).length)).toArray.toList.take i++[x]++(L.take (i+1)++il.drop i++L.drop (i+1+(il.drop i).length)).toArray.toList.drop (i+1)).toArray.toList).take (n+1))=il.take i++x::il.drop i:=by
 have hil:il.length=n:=by rw[←ht,List.length_take];omega
 have e2:(L.take (i+1)).length=i+1:=by rw[List.length_take];omega
 have e1:(L.take (i+1)).take i=il.take i:=by rw[←ht,List.take_take,List.take_take,show min i (i+1)=min i n by omega]
 have a1:(L.take (i+1)++(il.drop i++L.drop (i+1+(il.drop i).length))).take i=il.take i:=by rw[List.take_append_of_le_length (by omega),e1]
 have a2:(L.take (i+1)++(il.drop i++L.drop (i+1+(il.drop i).length))).drop (i+1)=il.drop i++L.drop (i+1+(il.drop i).length):=List.drop_left' e2;simp only[List.append_assoc];rw[a1,a2,←List.append_assoc,←List.append_assoc,List.take_left' (by simp;omega),List.append_assoc];rfl
def Xh(l:List Nat)(i x:Nat):List Nat:=l.take i++x::l.drop i
theorem QhK(l:List Nat)(x i:Nat)(hi:i<l.length)(g c:Nat)(cur:Array Value)(w:World)(hg:w.heap[g]?=some (.cells cur 78 (0,0)))(hc:l.length+1≤c)(hc2:c≤maxLen)(hcs:cur.size=c)(ht:cur.toList.take l.length=Qe l)
  {B:Nat}{tt:TypeId}(hB:w.heap[B]?=some (.cells #[.int .i64 x] tt (0,0)))(hBg:B≠g):
  Calls prog 146 #[.slice (some ⟨g,0,none⟩) l.length c,.int .i64 i,.slice (some ⟨B,0,none⟩) 1 1] w fun e w'=>∃A,e=.returned (.slice (some ⟨g,0,none⟩) (l.length+1) c)∧Hid (w'.heap[g]?=some (.cells A 78 (0,0))∧A.size=c∧A.toList.take (l.length+1)=Qe (Xh l i x)∧w.grownBy w' (some g)):=by
 have hz2:¬((i:Int)=(l.length:Int)):=by omega
 have hc63:c≤9223372036854775807:=by unfold maxLen at hc2;omega
 have hov:∀lb cb,(callFunc 194 #[.slice (some ⟨B,0,none⟩) 1 1,.slice (some ⟨g,i+1,none⟩) lb cb]).run prog w=.ok (.value (.bool false)) w:=fun lb cb=>by
  rw[run_callFunc_extern func194 (by kernel_rfl) (by kernel_rfl) (by kernel_rfl) (e:=Extern.SlicesOverlaps.overlaps #[159,159] #[4]) (by kernel_rfl),
   Lib.run_overlaps_apart w 159 4 78 underlying159 1 (fun w=>by obtain⟨I,Hi,Hz,Hs,Hb⟩:=info_parts Kq;simp[Go.sizeOf,typeInfo,Hi,Hs]) ⟨B,0,none⟩ ⟨g,i+1,none⟩ 1 1 lb cb hBg tt 78 1 c (by simp[World.shape?,hB]) (by simp[World.shape?,hg,hcs]) (by omega) (by simp[World.frozen?,hB]) (by simp[World.frozen?,hB])]
  rfl
 have hlen:(Qe l).length=l.length:=by simp[Qe]
 have hcl:cur.toList.length=c:=by simpa using hcs
 have hdl:((Qe l).drop i).length=l.length-i:=by rw[List.length_drop,hlen]
 obtain⟨A1,hA1⟩:∃A1:Array Value,A1=(cur.toList.take (i+1)++(Qe l).drop i++cur.toList.drop (i+1+((Qe l).drop i).length)).toArray:=⟨_,rfl⟩;obtain⟨A2,hA2⟩:∃A2:Array Value,A2=(A1.toList.take i++[Value.int .i64 x]++A1.toList.drop (i+1)).toArray:=⟨_,rfl⟩;have hs1:A1.toList.length=c:=by
  rw[hA1];simp only[List.length_append,List.length_take,List.length_drop,hlen,hcl];omega
 have hs1':A1.size=c:=by simpa using hs1
 have hs2:A2.toList.length=c:=by
  rw[hA2];simp only[List.length_append,List.length_take,List.length_drop,List.length_cons,List.length_nil,hs1];omega
 have hsz:(prog.info? 78).map (·.size)=some 1:=by
  obtain⟨i0,hi0,_,h1,_⟩:=info_parts Kq;rw[hi0];simp[h1]
 have hone:∀v∈(Qe l).drop i,v.oneCell'=true:=fun v hv=>by
  obtain⟨n,_,rfl⟩:=Qv.1 (List.mem_of_mem_drop hv);rfl
 have hcp1:∀(W:World),W.heap=w.heap→∀ty dc sc,(Builtin.copy_ #[159,159] ty #[.slice (some ⟨g,i+1,none⟩) (l.length-i) dc,.slice (some ⟨g,i,none⟩) (l.length+1-i) sc]).run prog W=.ok (goInt ((Qe l).drop i).length) (W.setRow g A1):=fun W hW ty dc sc=>by
  rw[hA1];refine run_copy_row prog W 159 159 ty 78 g (i+1) _ dc ⟨g,i,none⟩ _ sc cur 78 ((Qe l).drop i) underlying159 hsz (by rw[hW];exact hg) (by rw[hdl];simp only[Nat.min_def];split<;>omega) (fun j v hj=>?_) (by rw[hdl,hcs];omega) hone;rw[Addr.add_lit];rw[List.getElem?_drop,←ht,List.getElem?_take]at hj;split at hj
  ·simp only[World.cell?,hW,hg];simpa using hj
  ·cases hj
 have hcp2:∀(W:World),W.heap=(w.setRow g A1).heap→∀ty dc,(Builtin.copy_ #[159,159] ty #[.slice (some ⟨g,i,none⟩) (l.length+1-i) dc,.slice (some ⟨B,0,none⟩) 1 1]).run prog W=.ok (goInt 1) (W.setRow g A2):=fun W hW ty dc=>by
  rw[hA2];refine run_copy_row prog W 159 159 ty 78 g i (l.length+1-i) dc ⟨B,0,none⟩ 1 1 A1 78 [.int .i64 x] underlying159 hsz (by rw[hW];exact setRow_heap w g cur _ 78 _ hg) (by simp only[Nat.min_def,List.length_cons,List.length_nil];split<;>omega) (fun j v hj=>?_) (by simp only[List.length_cons,List.length_nil];omega) (List.all_eq_true.1 rfl);rw[Addr.add_lit];simp only[World.cell?,hW,setRow_other w g B _ hBg,hB]
  match j,hj with
  | 0,hj=>simpa using hj
 have hw1:IntKind.i64.wrap ((i:Int)+1)=(i:Int)+1:=by rw[IntKind.wrap_i64];unfold maxLen at hc2;omega
 have hb1:(0:Int)≤(i:Int)+1:=by omega
 have htn:((i:Int)+1).toNat=i+1:=by omega
 have hb2:¬(c=i+1):=by omega
 have hb3:(i:Int)≤(l.length:Int)+1:=by omega
 have hb4:¬(c=i):=by omega
 have hin:i≤l.length:=by omega
 have HA1:=Qc hA1;have HA2:=Qc hA2;have HT:=Qc ht;have HG:=Qc hg;clear hA1 hA2 ht hg;have hc2:=hcp2 (w.drew.setRow g A1) rfl;go_enter func146,ntmps146;go_wp2_with (simp only[hov])
 go_region_law (refine step_copy_runI rfl _ _ 159 159 rfl (.slice (some ⟨g,i+1,none⟩) (l.length-i) (c-(i+1))) (.slice (some ⟨g,i,none⟩) (l.length+1-i) (c-i)) (by go_simp) (by go_simp) (hcp1 w.drew rfl _ _ _) ?_)
 go_wp2
 go_ret;refine⟨A2,rfl,?_,by simpa using hs2,?_,?_⟩
 ·exact setRow_heap (w.drew.setRow g A1) g A1 _ 78 _ (setRow_heap w.drew g cur _ 78 _ HG.o)
 ·rw[HA2.o,HA1.o];rw[show Qe (Xh l i x)=(Qe l).take i++Value.int .i64 x::(Qe l).drop i by simp[Qe,Xh]];exact NZ cur.toList (Qe l) _ i l.length HT.o (by omega) hi
 ·exact⟨rfl,rfl,rfl,by simp,fun k _ hk=>(setRow_other _ g k _ (fun e=>hk (by rw[e]))).trans (setRow_other _ g k _ (fun e=>hk (by rw[e])))⟩
theorem QhL(l:List Nat)(x i:Nat)(hi:i<l.length)(hl:l.length≤1000000)(g c:Nat)(cur:Array Value)(w:World)(hg:w.heap[g]?=some (.cells cur 78 (0,0)))(hnc:l.length≤c)(hc:c<l.length+1)(hcs:cur.size=c)(ht:cur.toList.take l.length=Qe l)
  {B:Nat}{tt:TypeId}(hB:w.heap[B]?=some (.cells #[.int .i64 x] tt (0,0))):
  Calls prog 146 #[.slice (some ⟨g,0,none⟩) l.length c,.int .i64 i,.slice (some ⟨B,0,none⟩) 1 1] w fun e w'=>∃A G,e=.returned (.slice (some ⟨w.heap.size,0,none⟩) (l.length+1) G)∧Hid (w'.heap[w.heap.size]?=some (.cells A 78 (0,0))∧l.length+1≤G∧G≤maxLen∧A.size=G∧A.toList.take (l.length+1)=Qe (Xh l i x)∧w.grownBy w' none):=by
 obtain⟨i0,hi0,hz0,hzs,hzb⟩:=info_parts Kq;have hlen:(Qe l).length=l.length:=by simp[Qe]
 have hdl:((Qe l).drop i).length=l.length-i:=by rw[List.length_drop,hlen]
 have hbw:g<w.heap.size:=by
  rcases Nat.lt_or_ge g w.heap.size with h|h
  ·exact h
  ·rw[Array.getElem?_eq_none h]at hg;cases hg
 have hBw:B<w.heap.size:=by
  rcases Nat.lt_or_ge B w.heap.size with h|h
  ·exact h
  ·rw[Array.getElem?_eq_none h]at hB;cases hB
 have hcells:∀j v,(Qe l)[j]?=some v→w.cell? ⟨g,j,none⟩=some v:=fun j v hj=>by
  rw[←ht,List.getElem?_take]at hj;split at hj
  ·simp only[World.cell?,hg];simpa using hj
  ·cases hj
 have hsz:(prog.info? 78).map (·.size)=some 1:=by rw[hi0];simp[hzs]
 have hone:∀v∈(Qe l).drop i,v.oneCell'=true:=fun v hv=>by
  obtain⟨n,_,rfl⟩:=Qv.1 (List.mem_of_mem_drop hv);rfl
 have hold:(Builtin.firstCells i0.size i (.slice (some ⟨g,0,none⟩) i c)).run prog w.drew=.ok ((Qe l).take i).toArray w.drew:=by
  rw[hzs];exact run_firstCells_some w.drew 1 i ⟨g,0,none⟩ i c ((Qe l).take i) (by rw[List.length_take,hlen];omega) (fun j v hj=>by
   rw[Addr.add_lit,Nat.zero_add];rw[List.getElem?_take]at hj;split at hj
   ·exact hcells j v hj
   ·cases hj)
 obtain⟨G,hG⟩:∃G,G=grownCap w (l.length+1) c 78:=⟨_,rfl⟩;have hGn:l.length+1≤G:=by rw[hG];exact grownCap_ge w _ _ _
 have hGm:G≤maxLen:=by rw[hG];exact grownCap_le_maxLen w (l.length+1) c 78 (by unfold maxLen;omega)
 obtain⟨ROW,hROW⟩:∃ROW:Array Value,ROW=((Qe l).take i).toArray++Builtin.zeroCells (Value.int .i64 0).cells (l.length+1-i)++Builtin.zeroCells (Value.int .i64 0).cells (G-(l.length+1)):=⟨_,rfl⟩;have hkk:(l.length:Int)+1-(i:Int)=((l.length+1-i:Nat):Int):=by omega
 have hik:i+(l.length+1-i)=l.length+1:=by omega
 have hrz:∀ty,(Builtin.append_ #[159,3] ty #[.slice (some ⟨g,0,none⟩) i c,.int .i64 ((l.length:Int)+1-(i:Int))]).run prog w =
   .ok (.slice (some ⟨w.heap.size,0,none⟩) (l.length+1) G) (w.drew.alloc (.cells ROW 78)):=fun ty=>by
  have h:=Lib.run_append_grow_zeros w 159 3 ty 78 i0 _ .i64 .i64 underlying159 underlying3 hi0 hz0 (some ⟨g,0,none⟩) i c ((Qe l).take i) hold (l.length+1-i) (by omega) (by omega) (by omega) (by omega) (by rw[hzb];omega) (by rw[hzb,hik];exact growslice_fits (by omega) (by omega));rw[hik,←hG,←hROW]at h;rw[hkk];exact h
 have hRs:ROW.size=G:=by
  rw[hROW];simp[Builtin.zeroCells,Value.cells,hlen];omega
 obtain⟨A1,hA1⟩:∃A1:Array Value,A1=(ROW.toList.take i++[Value.int .i64 x]++ROW.toList.drop (i+1)).toArray:=⟨_,rfl⟩;obtain⟨A2,hA2⟩:∃A2:Array Value,A2=(A1.toList.take (i+1)++(Qe l).drop i++A1.toList.drop (i+1+((Qe l).drop i).length)).toArray:=⟨_,rfl⟩;have hs1:A1.size=G:=by
  rw[hA1];simp only[List.size_toArray,List.length_append,List.length_take,List.length_drop,List.length_cons,List.length_nil,Array.length_toList,hRs];omega
 have hs2:A2.size=G:=by
  rw[hA2];simp only[List.size_toArray,List.length_append,List.length_take,List.length_drop,hlen,Array.length_toList,hs1];omega
 have hn0:(w.alloc (.cells ROW 78)).drew.heap[w.heap.size]?=some (.cells ROW 78 (0,0)):=heap_alloc_new w _;have hnB:(w.alloc (.cells ROW 78)).drew.heap[B]?=some (.cells #[.int .i64 x] tt (0,0)):=(Below.heap_alloc w _ B hBw).trans hB;have hng:(w.alloc (.cells ROW 78)).drew.heap[g]?=some (.cells cur 78 (0,0)):=(Below.heap_alloc w _ g hbw).trans hg;obtain⟨W1,hW1⟩:∃W1,W1=(w.alloc (.cells ROW 78)).drew:=⟨_,rfl⟩;rw[←hW1]at hn0 hnB hng;have hcA:∀ty dc,(Builtin.copy_ #[159,159] ty #[.slice (some ⟨w.heap.size,i,none⟩) (l.length+1-i) dc,.slice (some ⟨B,0,none⟩) 1 1]).run prog W1=.ok (goInt 1) (W1.setRow w.heap.size A1):=fun ty dc=>by
  rw[hA1];refine run_copy_row prog W1 159 159 ty 78 w.heap.size i (l.length+1-i) dc ⟨B,0,none⟩ 1 1 ROW 78 [.int .i64 x] underlying159 hsz hn0 (by simp only[Nat.min_def,List.length_cons,List.length_nil];split<;>omega) (fun j v hj=>?_) (by simp only[List.length_cons,List.length_nil];omega) (List.all_eq_true.1 rfl);rw[Addr.add_lit];simp only[World.cell?,hnB]
  match j,hj with
  | 0,hj=>simpa using hj
 have hcB:∀(W:World),W.heap=(W1.setRow w.heap.size A1).heap→∀ty dc sc,(Builtin.copy_ #[159,159] ty #[.slice (some ⟨w.heap.size,i+1,none⟩) (l.length-i) dc,.slice (some ⟨g,i,none⟩) (l.length-i) sc]).run prog W=.ok (goInt ((Qe l).drop i).length) (W.setRow w.heap.size A2):=fun W hW ty dc sc=>by
  rw[hA2];refine run_copy_row prog W 159 159 ty 78 w.heap.size (i+1) _ dc ⟨g,i,none⟩ _ sc A1 78 ((Qe l).drop i) underlying159 hsz (by rw[hW];exact setRow_heap W1 _ ROW _ 78 _ hn0) (by rw[hdl];simp) (fun j v hj=>?_) (by rw[hdl];omega) hone;rw[Addr.add_lit];rw[List.getElem?_drop]at hj;have h2:=hcells _ _ hj;simp only[World.cell?,hW,setRow_other W1 w.heap.size g _ (by omega),hng];simpa[World.cell?,hg] using h2
 have hw1:IntKind.i64.wrap ((i:Int)+1)=(i:Int)+1:=by rw[IntKind.wrap_i64];omega
 have hb1:(0:Int)≤(i:Int)+1:=by omega
 have htn:((i:Int)+1).toNat=i+1:=by omega
 have hGi:¬(G=i):=by omega
 have hGim:¬(G=i+1):=by omega
 have hci:¬(c=i):=by omega
 have hin:i≤l.length:=by omega
 have hz2:¬((i:Int)=(l.length:Int)):=by omega
 have hz3:(c:Int)<(l.length:Int)+1:=by omega
 have hG63:G≤9223372036854775807:=by unfold maxLen at hGm;omega
 have HH:=Qc (And.intro hA1 (And.intro hA2 (And.intro ht (And.intro hg (And.intro hn0 (And.intro hROW (And.intro hs2 hRs)))))));have HW:=Qc hW1;have HGM:=Qc hGm;clear hA1 hA2 ht hg hn0 hnB hng hROW hG hkk hik hold hs1 hs2 hi0 hz0 hzs hzb hcs hdl hB hRs hGm;subst hW1;have hc2:=hcB (((w.alloc (.cells ROW 78)).drew.setRow w.heap.size A1).drew) rfl;go_enter func146,ntmps146;go_wp2_with (at_builtin;refine Lib.wpList_append_run _ rfl _ _ _ _ rfl _ _ rfl rfl _ _ (hrz _) ?_)
 go_region_law (refine step_copy_runI rfl _ _ 159 159 rfl (.slice (some ⟨w.heap.size,i+1,none⟩) (l.length-i) (G-(i+1))) (.slice (some ⟨g,i,none⟩) (l.length-i) (c-i)) (by go_simp) (by go_simp) (hcB (((w.alloc (.cells ROW 78)).drew.setRow w.heap.size A1).drew) rfl _ _ _) ?_)
 go_wp2
 go_ret;obtain⟨hA1,hA2,ht,hg,hn0,hROW,hs2,hRs⟩:=HH.o;refine⟨A2,G,rfl,?_,hGn,HGM.o,hs2,?_,?_⟩
 ·exact setRow_heap _ _ A1 _ 78 _ (setRow_heap _ _ ROW _ 78 _ hn0)
 ·have hlr:ROW.toList.take i=(Qe l).take i:=by
   rw[hROW];simp only[Array.toList_append,List.append_assoc];rw[List.take_left' (by rw[List.length_take,hlen];omega)]
  rw[show Qe (Xh l i x)=(Qe l).take i++Value.int .i64 x::(Qe l).drop i by simp[Qe,Xh]];have e1:A1.toList.take (i+1)=(Qe l).take i++[Value.int .i64 x]:=by
   rw[hA1,hlr];exact List.take_left' (by rw[List.length_append,List.length_take,hlen];simp;omega)
  rw[hA2,e1];rw[List.take_left' (by simp[hlen];omega)];simp
 ·refine⟨rfl,rfl,rfl,by simp,fun k hk _=>?_⟩;rw[setRow_other _ _ k _ (by omega)];show ((w.alloc (.cells ROW 78)).drew.setRow w.heap.size A1).heap[k]?=_;rw[setRow_other _ _ k _ (by omega)];exact Below.heap_alloc w _ k hk
theorem Qll(l:List Nat)(x i:Nat)(hi:i≤l.length)(base:Nat)(v:Value)(w:World)(h:w.ownsRow base 78 1 v l.length (Qe l))(hl:l.length≤1000000)(hb:base≤w.heap.size)
  {B:Nat}{tt:TypeId}(hB:w.heap[B]?=some (.cells #[.int .i64 x] tt (0,0)))(hBv:v.ownBlock≠some B):
  Calls prog 146 #[v,.int .i64 i,.slice (some ⟨B,0,none⟩) 1 1] w fun e w'=>∃v',e=.returned v'∧w'.ownsRow base 78 1 v' (Xh l i x).length (Qe (Xh l i x))∧w.grownBy w' v.ownBlock∧VZ w v v':=by
 have hil:(Xh l i x).length=l.length+1:=by simp[Xh];omega
 rw[hil];by_cases he:i=l.length
 ·subst he;rw[show Xh l l.length x=l++[x] by simp[Xh]];exact QhM l x base v w h hl hb hB
 ·rcases h.2 with ⟨rfl,h0⟩|⟨g,c,cur,rfl,hbg,hg,hnc,hcm,hcs,ht⟩
  ·omega
  ·rw[Nat.mul_one]at hcs ht;by_cases hr:l.length+1≤c
   ·refine(QhK l x i (by omega) g c cur w hg hr hcm hcs ht hB (fun e=>hBv (by rw[e];rfl))).mono ?_;rintro e w' ⟨A,rfl,hh⟩;obtain⟨a1,a2,a3,a4⟩:=hh.out;refine⟨_,rfl,⟨by simp[Qe,hil],.inr ⟨g,c,A,rfl,hbg,a1,hr,hcm,by omega,by rw[Nat.mul_one];exact a3⟩⟩,a4,.inl rfl⟩
   ·refine(QhL l x i (by omega) hl g c cur w hg hnc (by omega) hcs ht hB).mono ?_;rintro e w' ⟨A,G,rfl,hh⟩;obtain⟨a1,a2,a3,a4,a5,a6⟩:=hh.out;refine⟨_,rfl,⟨by simp[Qe,hil],.inr ⟨w.heap.size,G,A,rfl,hb,a1,a2,a3,by omega,by rw[Nat.mul_one];exact a5⟩⟩,⟨a6.os,a6.tape,a6.output,a6.size,fun k hk _=>a6.block k hk (by simp)⟩,.inr ⟨_,rfl,Nat.le_refl _⟩⟩
end Go.Proofs.YtgfhfkgdmidhpaaGreatDoor
