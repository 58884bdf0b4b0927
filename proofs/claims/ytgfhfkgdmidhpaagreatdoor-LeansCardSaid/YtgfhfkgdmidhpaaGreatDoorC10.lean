import Derived.Test.YtgfhfkgdmidhpaaGreatDoorC09
import Derived.Maps.AppendAt
import Derived.Lib.AppendZerosOnto
import Derived.Lib.Overlaps
import Derived.Shelf.Spec.SlicesInsert
namespace Go.Proofs.YtgfhfkgdmidhpaaGreatDoor
open Go.RowKit
set_option maxRecDepth 100000
set_option maxHeartbeats 8000000
def Kh(l:List Nat)(x i:Nat):Prop:=(∀k,k<i→(hk:k<l.length)→l[k]<x)∧(∀k,i≤k→(hk:k<l.length)→x≤l[k])
def Zi(l:List Nat)(x i:Nat):Bool:=match l[i]? with|some y=>y==x|none=>false
theorem QiX(x:Int)(w:World):Calls Tryz.prog 206 #[.int .i64 x] w fun e w'=>e=.returned (.bool false)∧w'=w:=by
 go_enter Tryz.func206,Tryz.ntmps206
 go_wp2
 go_ret;exact⟨by simp,rfl⟩
theorem Qju(x:Int)(w:World):Calls Tryz.prog 171 #[.int .i64 x] w fun e w'=>e=.returned (.bool false)∧w'=w:=by
 go_enter Tryz.func171,Tryz.ntmps171
 go_wp2
 go_ret;exact⟨by simp,rfl⟩
theorem QgY(x y:Int)(w:World):Calls Tryz.prog 170 #[.int .i64 x,.int .i64 y] w fun e w'=>e=.returned (.bool (decide (x<y)))∧w'=w:=by
 go_enter Tryz.func170,Tryz.ntmps170;go_wp2_with fail;refine(QiX _ _).mono ?_;rintro e w1 ⟨rfl,rfl⟩;go_wp2_with fail;go_ret;exact⟨rfl,rfl⟩
theorem Vj(l:List Nat)(x:Nat)(hsrt:Hid (l.Pairwise (· < ·)))(base:Nat)(v:Value)(w:World)(h:w.ownsRow base 143 1 v l.length (Qg l))(hl:l.length≤1000000):
  Calls Tryz.prog 120 #[v,.int .i64 x] w fun e w'=>w'=w∧∃i,i≤l.length∧Kh l x i∧e=.returned (.tuple #[.int .i64 (i:Nat),.bool (Zi l x i)]):=by
 obtain⟨p,c,rfl⟩:=Qb h;go_enter Tryz.func120,Tryz.ntmps120;go_wp2_with fail
 go_loopw [7,8,9] (fun i j _ wr=>∃a b:Nat,a≤b∧b≤l.length∧i=.int .i64 a∧j=.int .i64 b∧Hid (wr=w)∧Hid ((∀k,k<a→(hk:k<l.length)→l[k]<x)∧(∀k,b≤k→(hk:k<l.length)→x≤l[k]))) (fun i j _ _=>(intOf j).toNat-(intOf i).toNat)
 case atStart=>exact⟨0,l.length,by omega,by omega,rfl,rfl,rfl,fun k hk=>by omega,fun k hk h2=>by omega⟩
 case round=>
  obtain⟨a,b,hab,hbl,rfl,rfl,HW,HI⟩:=hrel;have h2:wr.ownsRow base 143 1 (.slice p l.length c) l.length (Qg l):=by rw[HW.o];exact h
  by_cases hlt:a<b
  ·have hm1:(a+b) / 2<b:=by omega
   have hm2:a≤(a+b) / 2:=by omega
   have hml:(a+b) / 2<l.length:=by omega
   obtain⟨g,rfl,_,_⟩:=Qh h2 (by omega);have f0:=Qe h2 (ZI hml);by_cases hc:l[(a+b) / 2]<x
   ·have HI2:Hid ((∀k,k<(a+b) / 2+1→(hk:k<l.length)→l[k]<x)∧(∀k,b≤k→(hk:k<l.length)→x≤l[k])):=by
     refine⟨fun k hk hkl=>?_,HI.o.2⟩;by_cases he:k=(a+b) / 2
     ·subst he;exact hc
     ·have:=List.pairwise_iff_getElem.1 hsrt.out k ((a+b) / 2) hkl hml (by omega);omega
    have hd:decide ((l[(a+b) / 2]:Int)<(x:Int))=true:=by simp;omega
    clear hc;go_wp2_with fail;refine(QgY _ _ _).mono ?_;rintro e w1 ⟨rfl,hw1⟩;rw[hd];have HW1:Hid (w1=w):=hw1.trans HW.o;clear hw1;go_wp2_with fail;go_roundw
    case rel=>exact⟨(a+b) / 2+1,b,by omega,by omega,by go_num,rfl,HW1,HI2⟩
    case measure=>simp[intOf];omega
   ·have HI2:Hid ((∀k,k<a→(hk:k<l.length)→l[k]<x)∧(∀k,(a+b) / 2≤k→(hk:k<l.length)→x≤l[k])):=by
     refine⟨HI.o.1,fun k hk hkl=>?_⟩;by_cases he:k=(a+b) / 2
     ·subst he;omega
     ·have:=List.pairwise_iff_getElem.1 hsrt.out ((a+b) / 2) k hml hkl (by omega);omega
    have hd:decide ((l[(a+b) / 2]:Int)<(x:Int))=false:=by simp;omega
    clear hc;go_wp2_with fail;refine(QgY _ _ _).mono ?_;rintro e w1 ⟨rfl,hw1⟩;rw[hd];have HW1:Hid (w1=w):=hw1.trans HW.o;clear hw1;go_wp2_with fail;go_roundw
    case rel=>exact⟨a,(a+b) / 2,by omega,by omega,rfl,by go_num,HW1,HI2⟩
    case measure=>simp[intOf];omega
  ·have hae:a=b:=by omega
   subst hae;by_cases hal:a<l.length
   ·obtain⟨g,rfl,_,_⟩:=Qh h2 (by omega);have f0:=Qe h2 (ZI hal);by_cases hx:l[a]=x
    ·have hx':((l[a]:Int)==(x:Int))=true:=by simp;omega
     have HF:Hid (Zi l x a=true):=by show _=_;simp[Zi,hal,hx]
     clear hx;go_wp2_with fail
     go_ret2
     exact⟨HW.o,a,hbl,HI.o,by rw[HF.o];rfl⟩
    ·have hx':((l[a]:Int)==(x:Int))=false:=by simp;omega
     have HF:Hid (Zi l x a=false):=by show _=_;simp[Zi,hal,hx]
     clear hx;go_wp2_with fail;refine(Qju _ _).mono ?_;rintro e w1 ⟨rfl,hw1⟩;have HW1:Hid (w1=w):=hw1.trans HW.o;clear hw1;go_wp2_with fail
     go_ret2
     exact⟨HW1.o,a,hbl,HI.o,by rw[HF.o];rfl⟩
   ·have HF:Hid (Zi l x a=false):=by show _=_;simp[Zi,List.getElem?_eq_none (show l.length≤a by omega)]
    go_wp2_with fail
    go_ret2
    exact⟨HW.o,a,hbl,HI.o,by rw[HF.o];rfl⟩
theorem QiW(x:Int)(w:World):Calls Tryz.prog 216 #[.int .i64 x] w fun e w'=>e=.returned (.bool false)∧w'=w:=by
 go_enter Tryz.func216,Tryz.ntmps216
 go_wp2
 go_ret;exact⟨by simp,rfl⟩
theorem Qjt(x:Int)(w:World):Calls Tryz.prog 193 #[.int .i64 x] w fun e w'=>e=.returned (.bool false)∧w'=w:=by
 go_enter Tryz.func193,Tryz.ntmps193
 go_wp2
 go_ret;exact⟨by simp,rfl⟩
theorem QgX(x y:Int)(w:World):Calls Tryz.prog 192 #[.int .i64 x,.int .i64 y] w fun e w'=>e=.returned (.bool (decide (x<y)))∧w'=w:=by
 go_enter Tryz.func192,Tryz.ntmps192;go_wp2_with fail;refine(QiW _ _).mono ?_;rintro e w1 ⟨rfl,rfl⟩;go_wp2_with fail;go_ret;exact⟨rfl,rfl⟩
theorem Uj(l:List Nat)(x:Nat)(hsrt:Hid (l.Pairwise (· < ·)))(base:Nat)(v:Value)(w:World)(h:w.ownsRow base 78 1 v l.length (Qg l))(hl:l.length≤1000000):
  Calls Tryz.prog 145 #[v,.int .i64 x] w fun e w'=>w'=w∧∃i,i≤l.length∧Kh l x i∧e=.returned (.tuple #[.int .i64 (i:Nat),.bool (Zi l x i)]):=by
 obtain⟨p,c,rfl⟩:=Qb h;go_enter Tryz.func145,Tryz.ntmps145;go_wp2_with fail
 go_loopw [7,8,9] (fun i j _ wr=>∃a b:Nat,a≤b∧b≤l.length∧i=.int .i64 a∧j=.int .i64 b∧Hid (wr=w)∧Hid ((∀k,k<a→(hk:k<l.length)→l[k]<x)∧(∀k,b≤k→(hk:k<l.length)→x≤l[k]))) (fun i j _ _=>(intOf j).toNat-(intOf i).toNat)
 case atStart=>exact⟨0,l.length,by omega,by omega,rfl,rfl,rfl,fun k hk=>by omega,fun k hk h2=>by omega⟩
 case round=>
  obtain⟨a,b,hab,hbl,rfl,rfl,HW,HI⟩:=hrel;have h2:wr.ownsRow base 78 1 (.slice p l.length c) l.length (Qg l):=by rw[HW.o];exact h
  by_cases hlt:a<b
  ·have hm1:(a+b) / 2<b:=by omega
   have hm2:a≤(a+b) / 2:=by omega
   have hml:(a+b) / 2<l.length:=by omega
   obtain⟨g,rfl,_,_⟩:=Qh h2 (by omega);have f0:=Qe h2 (ZI hml);by_cases hc:l[(a+b) / 2]<x
   ·have HI2:Hid ((∀k,k<(a+b) / 2+1→(hk:k<l.length)→l[k]<x)∧(∀k,b≤k→(hk:k<l.length)→x≤l[k])):=by
     refine⟨fun k hk hkl=>?_,HI.o.2⟩;by_cases he:k=(a+b) / 2
     ·subst he;exact hc
     ·have:=List.pairwise_iff_getElem.1 hsrt.out k ((a+b) / 2) hkl hml (by omega);omega
    have hd:decide ((l[(a+b) / 2]:Int)<(x:Int))=true:=by simp;omega
    clear hc;go_wp2_with fail;refine(QgX _ _ _).mono ?_;rintro e w1 ⟨rfl,hw1⟩;rw[hd];have HW1:Hid (w1=w):=hw1.trans HW.o;clear hw1;go_wp2_with fail;go_roundw
    case rel=>exact⟨(a+b) / 2+1,b,by omega,by omega,by go_num,rfl,HW1,HI2⟩
    case measure=>simp[intOf];omega
   ·have HI2:Hid ((∀k,k<a→(hk:k<l.length)→l[k]<x)∧(∀k,(a+b) / 2≤k→(hk:k<l.length)→x≤l[k])):=by
     refine⟨HI.o.1,fun k hk hkl=>?_⟩;by_cases he:k=(a+b) / 2
     ·subst he;omega
     ·have:=List.pairwise_iff_getElem.1 hsrt.out ((a+b) / 2) k hml hkl (by omega);omega
    have hd:decide ((l[(a+b) / 2]:Int)<(x:Int))=false:=by simp;omega
    clear hc;go_wp2_with fail;refine(QgX _ _ _).mono ?_;rintro e w1 ⟨rfl,hw1⟩;rw[hd];have HW1:Hid (w1=w):=hw1.trans HW.o;clear hw1;go_wp2_with fail;go_roundw
    case rel=>exact⟨a,(a+b) / 2,by omega,by omega,rfl,by go_num,HW1,HI2⟩
    case measure=>simp[intOf];omega
  ·have hae:a=b:=by omega
   subst hae;by_cases hal:a<l.length
   ·obtain⟨g,rfl,_,_⟩:=Qh h2 (by omega);have f0:=Qe h2 (ZI hal);by_cases hx:l[a]=x
    ·have hx':((l[a]:Int)==(x:Int))=true:=by simp;omega
     have HF:Hid (Zi l x a=true):=by show _=_;simp[Zi,hal,hx]
     clear hx;go_wp2_with fail
     go_ret2
     exact⟨HW.o,a,hbl,HI.o,by rw[HF.o];rfl⟩
    ·have hx':((l[a]:Int)==(x:Int))=false:=by simp;omega
     have HF:Hid (Zi l x a=false):=by show _=_;simp[Zi,hal,hx]
     clear hx;go_wp2_with fail;refine(Qjt _ _).mono ?_;rintro e w1 ⟨rfl,hw1⟩;have HW1:Hid (w1=w):=hw1.trans HW.o;clear hw1;go_wp2_with fail
     go_ret2
     exact⟨HW1.o,a,hbl,HI.o,by rw[HF.o];rfl⟩
   ·have HF:Hid (Zi l x a=false):=by show _=_;simp[Zi,List.getElem?_eq_none (show l.length≤a by omega)]
    go_wp2_with fail
    go_ret2
    exact⟨HW.o,a,hbl,HI.o,by rw[HF.o];rfl⟩
def Vp(w:World)(v v':Value):Prop:=v'.ownBlock=v.ownBlock∨∃g,v'.ownBlock=some g∧w.heap.size≤g
theorem QgM{t e:TypeId}{z:Value}{size bytes:Nat}(ht:Tryz.prog.underlying t=some (.slice e))(hi:(Tryz.prog.info? e).map (fun i=>(i.zero,i.size,i.bytes))=some (some z,size,bytes))(hzs:z.cells.size=size)(hsz:0<size)(hby:bytes≤1000)
  {ops:Array Oper}{rest:List Oper}{o:Oper}{a:Act}{Q:Exit→Act→World→Prop}{w:World}(hgd:o.guard=none)(s x:Operand)
  (ho:o.op=.call { callee:=.builtin .append,args:=#[s,x],argTypes:=#[t,t] })
  {base:Nat}{v:Value}{n:Nat}{xs:List Value}(hs:a.eval s=v)(hown:w.ownsRow base e size v n xs)
  {B:Nat}{cs:Array Value}{tt:TypeId}{fr:Nat×Nat}(hB:w.heap[B]?=some (.cells cs tt fr))(hx:a.eval x=.slice (some ⟨B,0,none⟩) 1 1)(hl:cs.size=size)(h1:∀u∈cs.toList,u.oneCell'=true)
  (hn:n≤1000000)(hbase:base≤w.heap.size)
  (h:∀v' w',w'.ownsRow base e size v' (n+1) (xs++cs.toList)→w.grownBy w' v.ownBlock→Vp w v v'→wpList Tryz.prog ops Q rest (a.put o.dst v') w'):wpList Tryz.prog ops Q (o::rest) a w:=by
 obtain⟨I,Hi,Hz,Hs,Hb⟩:=info_parts hi;refine wpList_append_own_at w hgd s x t ho base e I z size bytes ht Hi Hz Hs Hb hzs hsz v n xs hs hown ⟨B,0,none⟩ 1 1 cs.toList hx (by simpa using hl) (World.news_of_block hB) h1 (by unfold maxLen;omega) ?_ hbase (fun v' w' h1 h2 _ h4=>h v' w' h1 h2 (h4.imp id fun h=>⟨_,h,Nat.le_refl _⟩));have:(n+1)*bytes≤1000001*1000:=Nat.mul_le_mul (by omega) hby
 omega
theorem Qa8(l:List Nat)(x:Nat)(base:Nat)(v:Value)(w:World)(h:w.ownsRow base 143 1 v l.length (Qg l))(hl:l.length≤1000000)(hb:base≤w.heap.size)
  {B:Nat}{tt:TypeId}(hB:w.heap[B]?=some (.cells #[.int .i64 x] tt (0,0))):
  Calls Tryz.prog 121 #[v,.int .i64 l.length,.slice (some ⟨B,0,none⟩) 1 1] w fun e w'=>∃v',e=.returned v'∧w'.ownsRow base 143 1 v' (l.length+1) (Qg (l++[x]))∧w.grownBy w' v.ownBlock∧Vp w v v':=by
 have HO:=Qc h;have HB:=Qc hB;have HL:=Qc hl;have HS:=Qc hb;clear hB hl hb;obtain⟨p,c,rfl⟩:=Qb h;clear h;by_cases hc:c=l.length
 ·subst hc;go_enter Tryz.func121,Tryz.ntmps121;go_wp2_with (at_builtin;refine Qv ?_);refine Qc ?_;refine QgM (v:=.slice p l.length l.length) Tryz.underlying80 Tryz.info143 rfl (by decide) (by decide) rfl _ _ rfl rfl HO.o HB.o rfl rfl (List.all_eq_true.1 rfl) HL.o HS.o ?_;intro v1 w1 o1 g1 n1;rw[show Qg l++#[Value.int .i64 x].toList=Qg (l++[x]) by simp[Qg]]at o1;have O1:=Qc o1;have G1:=Qc g1;clear o1 g1;go_wp2_with fail;go_ret;exact⟨v1,rfl,O1.o,G1.o,n1⟩
 ·have HC:=hc;go_enter Tryz.func121,Tryz.ntmps121;go_wp2_with (at_builtin;refine Qv ?_);refine Qc ?_;refine QgM (v:=.slice p l.length c) Tryz.underlying80 Tryz.info143 rfl (by decide) (by decide) rfl _ _ rfl rfl HO.o HB.o rfl rfl (List.all_eq_true.1 rfl) HL.o HS.o ?_;intro v1 w1 o1 g1 n1;rw[show Qg l++#[Value.int .i64 x].toList=Qg (l++[x]) by simp[Qg]]at o1;have O1:=Qc o1;have G1:=Qc g1;clear o1 g1;go_wp2_with fail;go_ret;exact⟨v1,rfl,O1.o,G1.o,n1⟩
theorem Qgi(l:List Nat)(x:Nat)(base:Nat)(v:Value)(w:World)(h:w.ownsRow base 78 1 v l.length (Qg l))(hl:l.length≤1000000)(hb:base≤w.heap.size)
  {B:Nat}{tt:TypeId}(hB:w.heap[B]?=some (.cells #[.int .i64 x] tt (0,0))):
  Calls Tryz.prog 146 #[v,.int .i64 l.length,.slice (some ⟨B,0,none⟩) 1 1] w fun e w'=>∃v',e=.returned v'∧w'.ownsRow base 78 1 v' (l.length+1) (Qg (l++[x]))∧w.grownBy w' v.ownBlock∧Vp w v v':=by
 have HO:=Qc h;have HB:=Qc hB;have HL:=Qc hl;have HS:=Qc hb;clear hB hl hb;obtain⟨p,c,rfl⟩:=Qb h;clear h;by_cases hc:c=l.length
 ·subst hc;go_enter Tryz.func146,Tryz.ntmps146;go_wp2_with (at_builtin;refine Qv ?_);refine Qc ?_;refine QgM (v:=.slice p l.length l.length) Tryz.underlying159 Tryz.info78 rfl (by decide) (by decide) rfl _ _ rfl rfl HO.o HB.o rfl rfl (List.all_eq_true.1 rfl) HL.o HS.o ?_;intro v1 w1 o1 g1 n1;rw[show Qg l++#[Value.int .i64 x].toList=Qg (l++[x]) by simp[Qg]]at o1;have O1:=Qc o1;have G1:=Qc g1;clear o1 g1;go_wp2_with fail;go_ret;exact⟨v1,rfl,O1.o,G1.o,n1⟩
 ·have HC:=hc;go_enter Tryz.func146,Tryz.ntmps146;go_wp2_with (at_builtin;refine Qv ?_);refine Qc ?_;refine QgM (v:=.slice p l.length c) Tryz.underlying159 Tryz.info78 rfl (by decide) (by decide) rfl _ _ rfl rfl HO.o HB.o rfl rfl (List.all_eq_true.1 rfl) HL.o HS.o ?_;intro v1 w1 o1 g1 n1;rw[show Qg l++#[Value.int .i64 x].toList=Qg (l++[x]) by simp[Qg]]at o1;have O1:=Qc o1;have G1:=Qc g1;clear o1 g1;go_wp2_with fail;go_ret;exact⟨v1,rfl,O1.o,G1.o,n1⟩
theorem Nc{α:Type}(L il:List α)(x:α)(i n:Nat)(ht:L.take n=il)(hn:n+1≤L.length)(hi:i<n):
  ((((L.take (i+1)++il.drop i++L.drop (i+1+(il.drop i).length)).toArray.toList.take i++[x]++(L.take (i+1)++il.drop i++L.drop (i+1+(il.drop i).length)).toArray.toList.drop (i+1)).toArray.toList).take (n+1))=il.take i++x::il.drop i:=by
 have hil:il.length=n:=by rw[←ht,List.length_take];omega
 have e2:(L.take (i+1)).length=i+1:=by rw[List.length_take];omega
 have e1:(L.take (i+1)).take i=il.take i:=by rw[←ht,List.take_take,List.take_take,show min i (i+1)=min i n by omega]
 have a1:(L.take (i+1)++(il.drop i++L.drop (i+1+(il.drop i).length))).take i=il.take i:=by rw[List.take_append_of_le_length (by omega),e1]
 have a2:(L.take (i+1)++(il.drop i++L.drop (i+1+(il.drop i).length))).drop (i+1)=il.drop i++L.drop (i+1+(il.drop i).length):=List.drop_left' e2;simp only[List.append_assoc];rw[a1,a2,←List.append_assoc,←List.append_assoc,List.take_left' (by simp;omega),List.append_assoc];rfl
def ZT(l:List Nat)(i x:Nat):List Nat:=l.take i++x::l.drop i
theorem Qgg(l:List Nat)(x i:Nat)(hi:i<l.length)(g c:Nat)(cur:Array Value)(w:World)(hg:w.heap[g]?=some (.cells cur 78 (0,0)))(hc:l.length+1≤c)(hc2:c≤maxLen)(hcs:cur.size=c)(ht:cur.toList.take l.length=Qg l)
  {B:Nat}{tt:TypeId}(hB:w.heap[B]?=some (.cells #[.int .i64 x] tt (0,0)))(hBg:B≠g):
  Calls Tryz.prog 146 #[.slice (some ⟨g,0,none⟩) l.length c,.int .i64 i,.slice (some ⟨B,0,none⟩) 1 1] w fun e w'=>∃A,e=.returned (.slice (some ⟨g,0,none⟩) (l.length+1) c)∧Hid (w'.heap[g]?=some (.cells A 78 (0,0))∧A.size=c∧A.toList.take (l.length+1)=Qg (ZT l i x)∧w.grownBy w' (some g)):=by
 have hz2:¬((i:Int)=(l.length:Int)):=by omega
 have hc63:c≤9223372036854775807:=by unfold maxLen at hc2;omega
 have hov:∀lb cb,(callFunc 194 #[.slice (some ⟨B,0,none⟩) 1 1,.slice (some ⟨g,i+1,none⟩) lb cb]).run Tryz.prog w=.ok (.value (.bool false)) w:=fun lb cb=>by
  rw[run_callFunc_extern Tryz.func194 (by kernel_rfl) (by kernel_rfl) (by kernel_rfl) (e:=Extern.SlicesOverlaps.overlaps #[159,159] #[4]) (by kernel_rfl),
   Lib.run_overlaps_apart w 159 4 78 Tryz.underlying159 1 (fun w=>by obtain⟨I,Hi,Hz,Hs,Hb⟩:=info_parts Tryz.info78;simp[Go.sizeOf,typeInfo,Hi,Hs]) ⟨B,0,none⟩ ⟨g,i+1,none⟩ 1 1 lb cb hBg tt 78 1 c (by simp[World.shape?,hB]) (by simp[World.shape?,hg,hcs]) (by omega) (by simp[World.frozen?,hB]) (by simp[World.frozen?,hB])]
  rfl
 have hlen:(Qg l).length=l.length:=by simp[Qg]
 have hcl:cur.toList.length=c:=by simpa using hcs
 have hdl:((Qg l).drop i).length=l.length-i:=by rw[List.length_drop,hlen]
 obtain⟨A1,hA1⟩:∃A1:Array Value,A1=(cur.toList.take (i+1)++(Qg l).drop i++cur.toList.drop (i+1+((Qg l).drop i).length)).toArray:=⟨_,rfl⟩;obtain⟨A2,hA2⟩:∃A2:Array Value,A2=(A1.toList.take i++[Value.int .i64 x]++A1.toList.drop (i+1)).toArray:=⟨_,rfl⟩;have hs1:A1.toList.length=c:=by
  rw[hA1];simp only[List.length_append,List.length_take,List.length_drop,hlen,hcl];omega
 have hs1':A1.size=c:=by simpa using hs1
 have hs2:A2.toList.length=c:=by
  rw[hA2];simp only[List.length_append,List.length_take,List.length_drop,List.length_cons,List.length_nil,hs1];omega
 have hsz:(Tryz.prog.info? 78).map (·.size)=some 1:=by
  obtain⟨i0,hi0,_,h1,_⟩:=info_parts Tryz.info78;rw[hi0];simp[h1]
 have hone:∀v∈(Qg l).drop i,v.oneCell'=true:=fun v hv=>by
  obtain⟨n,_,rfl⟩:=List.mem_map.1 (List.mem_of_mem_drop hv);rfl
 have hcp1:∀(W:World),W.heap=w.heap→∀ty dc sc,(Builtin.copy_ #[159,159] ty #[.slice (some ⟨g,i+1,none⟩) (l.length-i) dc,.slice (some ⟨g,i,none⟩) (l.length+1-i) sc]).run Tryz.prog W=.ok (goInt ((Qg l).drop i).length) (W.setRow g A1):=fun W hW ty dc sc=>by
  rw[hA1];refine run_copy_row Tryz.prog W 159 159 ty 78 g (i+1) _ dc ⟨g,i,none⟩ _ sc cur 78 ((Qg l).drop i) Tryz.underlying159 hsz (by rw[hW];exact hg) (by rw[hdl];simp only[Nat.min_def];split<;>omega) (fun j v hj=>?_) (by rw[hdl,hcs];omega) hone;rw[Addr.add_lit];rw[List.getElem?_drop,←ht,List.getElem?_take]at hj;split at hj
  ·simp only[World.cell?,hW,hg];simpa using hj
  ·cases hj
 have hcp2:∀(W:World),W.heap=(w.setRow g A1).heap→∀ty dc,(Builtin.copy_ #[159,159] ty #[.slice (some ⟨g,i,none⟩) (l.length+1-i) dc,.slice (some ⟨B,0,none⟩) 1 1]).run Tryz.prog W=.ok (goInt 1) (W.setRow g A2):=fun W hW ty dc=>by
  rw[hA2];refine run_copy_row Tryz.prog W 159 159 ty 78 g i (l.length+1-i) dc ⟨B,0,none⟩ 1 1 A1 78 [.int .i64 x] Tryz.underlying159 hsz (by rw[hW];exact setRow_heap w g cur _ 78 _ hg) (by simp only[Nat.min_def,List.length_cons,List.length_nil];split<;>omega) (fun j v hj=>?_) (by simp only[List.length_cons,List.length_nil];omega) (List.all_eq_true.1 rfl);rw[Addr.add_lit];simp only[World.cell?,hW,setRow_other w g B _ hBg,hB]
  match j,hj with
  | 0,hj=>simpa using hj
 have hw1:IntKind.i64.wrap ((i:Int)+1)=(i:Int)+1:=by rw[IntKind.wrap_i64];unfold maxLen at hc2;omega
 have hb1:(0:Int)≤(i:Int)+1:=by omega
 have htn:((i:Int)+1).toNat=i+1:=by omega
 have hb2:¬(c=i+1):=by omega
 have hb3:(i:Int)≤(l.length:Int)+1:=by omega
 have hb4:¬(c=i):=by omega
 have hin:i≤l.length:=by omega
 have HA1:=Qc hA1;have HA2:=Qc hA2;have HT:=Qc ht;have HG:=Qc hg;clear hA1 hA2 ht hg;have hc2:=hcp2 (w.drew.setRow g A1) rfl;go_enter Tryz.func146,Tryz.ntmps146;go_wp2_with (simp only[hov])
 go_region_law (refine step_copy_runI rfl _ _ 159 159 rfl (.slice (some ⟨g,i+1,none⟩) (l.length-i) (c-(i+1))) (.slice (some ⟨g,i,none⟩) (l.length+1-i) (c-i)) (by go_simp) (by go_simp) (hcp1 w.drew rfl _ _ _) ?_)
 go_wp2
 go_ret;refine⟨A2,rfl,?_,by simpa using hs2,?_,?_⟩
 ·exact setRow_heap (w.drew.setRow g A1) g A1 _ 78 _ (setRow_heap w.drew g cur _ 78 _ HG.o)
 ·rw[HA2.o,HA1.o];rw[show Qg (ZT l i x)=(Qg l).take i++Value.int .i64 x::(Qg l).drop i by simp[Qg,ZT]];exact Nc cur.toList (Qg l) _ i l.length HT.o (by omega) hi
 ·exact⟨rfl,rfl,rfl,by simp,fun k _ hk=>(setRow_other _ g k _ (fun e=>hk (by rw[e]))).trans (setRow_other _ g k _ (fun e=>hk (by rw[e])))⟩
theorem Qgh(l:List Nat)(x i:Nat)(hi:i<l.length)(hl:l.length≤1000000)(g c:Nat)(cur:Array Value)(w:World)(hg:w.heap[g]?=some (.cells cur 78 (0,0)))(hnc:l.length≤c)(hc:c<l.length+1)(hcs:cur.size=c)(ht:cur.toList.take l.length=Qg l)
  {B:Nat}{tt:TypeId}(hB:w.heap[B]?=some (.cells #[.int .i64 x] tt (0,0))):
  Calls Tryz.prog 146 #[.slice (some ⟨g,0,none⟩) l.length c,.int .i64 i,.slice (some ⟨B,0,none⟩) 1 1] w fun e w'=>∃A G,e=.returned (.slice (some ⟨w.heap.size,0,none⟩) (l.length+1) G)∧Hid (w'.heap[w.heap.size]?=some (.cells A 78 (0,0))∧l.length+1≤G∧G≤maxLen∧A.size=G∧A.toList.take (l.length+1)=Qg (ZT l i x)∧w.grownBy w' none):=by
 obtain⟨i0,hi0,hz0,hzs,hzb⟩:=info_parts Tryz.info78;have hlen:(Qg l).length=l.length:=by simp[Qg]
 have hdl:((Qg l).drop i).length=l.length-i:=by rw[List.length_drop,hlen]
 have hbw:g<w.heap.size:=by
  rcases Nat.lt_or_ge g w.heap.size with h|h
  ·exact h
  ·rw[Array.getElem?_eq_none h]at hg;cases hg
 have hBw:B<w.heap.size:=by
  rcases Nat.lt_or_ge B w.heap.size with h|h
  ·exact h
  ·rw[Array.getElem?_eq_none h]at hB;cases hB
 have hcells:∀j v,(Qg l)[j]?=some v→w.cell? ⟨g,j,none⟩=some v:=fun j v hj=>by
  rw[←ht,List.getElem?_take]at hj;split at hj
  ·simp only[World.cell?,hg];simpa using hj
  ·cases hj
 have hsz:(Tryz.prog.info? 78).map (·.size)=some 1:=by rw[hi0];simp[hzs]
 have hone:∀v∈(Qg l).drop i,v.oneCell'=true:=fun v hv=>by
  obtain⟨n,_,rfl⟩:=List.mem_map.1 (List.mem_of_mem_drop hv);rfl
 have hold:(Builtin.firstCells i0.size i (.slice (some ⟨g,0,none⟩) i c)).run Tryz.prog w.drew=.ok ((Qg l).take i).toArray w.drew:=by
  rw[hzs];exact run_firstCells_some w.drew 1 i ⟨g,0,none⟩ i c ((Qg l).take i) (by rw[List.length_take,hlen];omega) (fun j v hj=>by
   rw[Addr.add_lit,Nat.zero_add];rw[List.getElem?_take]at hj;split at hj
   ·exact hcells j v hj
   ·cases hj)
 obtain⟨G,hG⟩:∃G,G=grownCap w (l.length+1) c 78:=⟨_,rfl⟩;have hGn:l.length+1≤G:=by rw[hG];exact grownCap_ge w _ _ _
 have hGm:G≤maxLen:=by rw[hG];exact grownCap_le_maxLen w (l.length+1) c 78 (by unfold maxLen;omega)
 obtain⟨ROW,hROW⟩:∃ROW:Array Value,ROW=((Qg l).take i).toArray++Builtin.zeroCells (Value.int .i64 0).cells (l.length+1-i)++Builtin.zeroCells (Value.int .i64 0).cells (G-(l.length+1)):=⟨_,rfl⟩;have hkk:(l.length:Int)+1-(i:Int)=((l.length+1-i:Nat):Int):=by omega
 have hik:i+(l.length+1-i)=l.length+1:=by omega
 have hrz:∀ty,(Builtin.append_ #[159,3] ty #[.slice (some ⟨g,0,none⟩) i c,.int .i64 ((l.length:Int)+1-(i:Int))]).run Tryz.prog w =
   .ok (.slice (some ⟨w.heap.size,0,none⟩) (l.length+1) G) (w.drew.alloc (.cells ROW 78)):=fun ty=>by
  have h:=Lib.run_append_grow_zeros w 159 3 ty 78 i0 _ .i64 .i64 Tryz.underlying159 Tryz.underlying3 hi0 hz0 (some ⟨g,0,none⟩) i c ((Qg l).take i) hold (l.length+1-i) (by omega) (by omega) (by omega) (by omega) (by rw[hzb];omega) (by rw[hzb,hik];exact growslice_fits (by omega) (by omega));rw[hik,←hG,←hROW]at h;rw[hkk];exact h
 have hRs:ROW.size=G:=by
  rw[hROW];simp[Builtin.zeroCells,Value.cells,hlen];omega
 obtain⟨A1,hA1⟩:∃A1:Array Value,A1=(ROW.toList.take i++[Value.int .i64 x]++ROW.toList.drop (i+1)).toArray:=⟨_,rfl⟩;obtain⟨A2,hA2⟩:∃A2:Array Value,A2=(A1.toList.take (i+1)++(Qg l).drop i++A1.toList.drop (i+1+((Qg l).drop i).length)).toArray:=⟨_,rfl⟩;have hs1:A1.size=G:=by
  rw[hA1];simp only[List.size_toArray,List.length_append,List.length_take,List.length_drop,List.length_cons,List.length_nil,Array.length_toList,hRs];omega
 have hs2:A2.size=G:=by
  rw[hA2];simp only[List.size_toArray,List.length_append,List.length_take,List.length_drop,hlen,Array.length_toList,hs1];omega
 have hn0:(w.alloc (.cells ROW 78)).drew.heap[w.heap.size]?=some (.cells ROW 78 (0,0)):=heap_alloc_new w _;have hnB:(w.alloc (.cells ROW 78)).drew.heap[B]?=some (.cells #[.int .i64 x] tt (0,0)):=(Below.heap_alloc w _ B hBw).trans hB;have hng:(w.alloc (.cells ROW 78)).drew.heap[g]?=some (.cells cur 78 (0,0)):=(Below.heap_alloc w _ g hbw).trans hg;obtain⟨W1,hW1⟩:∃W1,W1=(w.alloc (.cells ROW 78)).drew:=⟨_,rfl⟩;rw[←hW1]at hn0 hnB hng;have hcA:∀ty dc,(Builtin.copy_ #[159,159] ty #[.slice (some ⟨w.heap.size,i,none⟩) (l.length+1-i) dc,.slice (some ⟨B,0,none⟩) 1 1]).run Tryz.prog W1=.ok (goInt 1) (W1.setRow w.heap.size A1):=fun ty dc=>by
  rw[hA1];refine run_copy_row Tryz.prog W1 159 159 ty 78 w.heap.size i (l.length+1-i) dc ⟨B,0,none⟩ 1 1 ROW 78 [.int .i64 x] Tryz.underlying159 hsz hn0 (by simp only[Nat.min_def,List.length_cons,List.length_nil];split<;>omega) (fun j v hj=>?_) (by simp only[List.length_cons,List.length_nil];omega) (List.all_eq_true.1 rfl);rw[Addr.add_lit];simp only[World.cell?,hnB]
  match j,hj with
  | 0,hj=>simpa using hj
 have hcB:∀(W:World),W.heap=(W1.setRow w.heap.size A1).heap→∀ty dc sc,(Builtin.copy_ #[159,159] ty #[.slice (some ⟨w.heap.size,i+1,none⟩) (l.length-i) dc,.slice (some ⟨g,i,none⟩) (l.length-i) sc]).run Tryz.prog W=.ok (goInt ((Qg l).drop i).length) (W.setRow w.heap.size A2):=fun W hW ty dc sc=>by
  rw[hA2];refine run_copy_row Tryz.prog W 159 159 ty 78 w.heap.size (i+1) _ dc ⟨g,i,none⟩ _ sc A1 78 ((Qg l).drop i) Tryz.underlying159 hsz (by rw[hW];exact setRow_heap W1 _ ROW _ 78 _ hn0) (by rw[hdl];simp) (fun j v hj=>?_) (by rw[hdl];omega) hone;rw[Addr.add_lit];rw[List.getElem?_drop]at hj;have h2:=hcells _ _ hj;simp only[World.cell?,hW,setRow_other W1 w.heap.size g _ (by omega),hng];simpa[World.cell?,hg] using h2
 have hw1:IntKind.i64.wrap ((i:Int)+1)=(i:Int)+1:=by rw[IntKind.wrap_i64];omega
 have hb1:(0:Int)≤(i:Int)+1:=by omega
 have htn:((i:Int)+1).toNat=i+1:=by omega
 have hGi:¬(G=i):=by omega
 have hGim:¬(G=i+1):=by omega
 have hci:¬(c=i):=by omega
 have hin:i≤l.length:=by omega
 have hz2:¬((i:Int)=(l.length:Int)):=by omega
 have hz3:(c:Int)<(l.length:Int)+1:=by omega
 have hG63:G≤9223372036854775807:=by unfold maxLen at hGm;omega
 have HH:=Qc (And.intro hA1 (And.intro hA2 (And.intro ht (And.intro hg (And.intro hn0 (And.intro hROW (And.intro hs2 hRs)))))));have HW:=Qc hW1;have HGM:=Qc hGm;clear hA1 hA2 ht hg hn0 hnB hng hROW hG hkk hik hold hs1 hs2 hi0 hz0 hzs hzb hcs hdl hB hRs hGm;subst hW1;have hc2:=hcB (((w.alloc (.cells ROW 78)).drew.setRow w.heap.size A1).drew) rfl;go_enter Tryz.func146,Tryz.ntmps146;go_wp2_with (at_builtin;refine Lib.wpList_append_run _ rfl _ _ _ _ rfl _ _ rfl rfl _ _ (hrz _) ?_)
 go_region_law (refine step_copy_runI rfl _ _ 159 159 rfl (.slice (some ⟨w.heap.size,i+1,none⟩) (l.length-i) (G-(i+1))) (.slice (some ⟨g,i,none⟩) (l.length-i) (c-i)) (by go_simp) (by go_simp) (hcB (((w.alloc (.cells ROW 78)).drew.setRow w.heap.size A1).drew) rfl _ _ _) ?_)
 go_wp2
 go_ret;obtain⟨hA1,hA2,ht,hg,hn0,hROW,hs2,hRs⟩:=HH.o;refine⟨A2,G,rfl,?_,hGn,HGM.o,hs2,?_,?_⟩
 ·exact setRow_heap _ _ A1 _ 78 _ (setRow_heap _ _ ROW _ 78 _ hn0)
 ·have hlr:ROW.toList.take i=(Qg l).take i:=by
   rw[hROW];simp only[Array.toList_append,List.append_assoc];rw[List.take_left' (by rw[List.length_take,hlen];omega)]
  rw[show Qg (ZT l i x)=(Qg l).take i++Value.int .i64 x::(Qg l).drop i by simp[Qg,ZT]];have e1:A1.toList.take (i+1)=(Qg l).take i++[Value.int .i64 x]:=by
   rw[hA1,hlr];exact List.take_left' (by rw[List.length_append,List.length_take,hlen];simp;omega)
  rw[hA2,e1];rw[List.take_left' (by simp[hlen];omega)];simp
 ·refine⟨rfl,rfl,rfl,by simp,fun k hk _=>?_⟩;rw[setRow_other _ _ k _ (by omega)];show ((w.alloc (.cells ROW 78)).drew.setRow w.heap.size A1).heap[k]?=_;rw[setRow_other _ _ k _ (by omega)];exact Below.heap_alloc w _ k hk
theorem Qjv(l:List Nat)(x i:Nat)(hi:i≤l.length)(base:Nat)(v:Value)(w:World)(h:w.ownsRow base 78 1 v l.length (Qg l))(hl:l.length≤1000000)(hb:base≤w.heap.size)
  {B:Nat}{tt:TypeId}(hB:w.heap[B]?=some (.cells #[.int .i64 x] tt (0,0)))(hBv:v.ownBlock≠some B):
  Calls Tryz.prog 146 #[v,.int .i64 i,.slice (some ⟨B,0,none⟩) 1 1] w fun e w'=>∃v',e=.returned v'∧w'.ownsRow base 78 1 v' (ZT l i x).length (Qg (ZT l i x))∧w.grownBy w' v.ownBlock∧Vp w v v':=by
 have hil:(ZT l i x).length=l.length+1:=by simp[ZT];omega
 rw[hil];by_cases he:i=l.length
 ·subst he;rw[show ZT l l.length x=l++[x] by simp[ZT]];exact Qgi l x base v w h hl hb hB
 ·rcases h.2 with ⟨rfl,h0⟩|⟨g,c,cur,rfl,hbg,hg,hnc,hcm,hcs,ht⟩
  ·omega
  ·rw[Nat.mul_one]at hcs ht;by_cases hr:l.length+1≤c
   ·refine(Qgg l x i (by omega) g c cur w hg hr hcm hcs ht hB (fun e=>hBv (by rw[e];rfl))).mono ?_;rintro e w' ⟨A,rfl,hh⟩;obtain⟨a1,a2,a3,a4⟩:=hh.out;refine⟨_,rfl,⟨by simp[Qg,hil],.inr ⟨g,c,A,rfl,hbg,a1,hr,hcm,by omega,by rw[Nat.mul_one];exact a3⟩⟩,a4,.inl rfl⟩
   ·refine(Qgh l x i (by omega) hl g c cur w hg hnc (by omega) hcs ht hB).mono ?_;rintro e w' ⟨A,G,rfl,hh⟩;obtain⟨a1,a2,a3,a4,a5,a6⟩:=hh.out;refine⟨_,rfl,⟨by simp[Qg,hil],.inr ⟨w.heap.size,G,A,rfl,hb,a1,a2,a3,by omega,by rw[Nat.mul_one];exact a5⟩⟩,⟨a6.os,a6.tape,a6.output,a6.size,fun k hk _=>a6.block k hk (by simp)⟩,.inr ⟨_,rfl,Nat.le_refl _⟩⟩
structure Put(pb po:Nat)(v v':Value)(w w':World):Prop where
 os:w'.os=w.os
 tape:w'.tape=w.tape
 output:w'.output=w.output
 size:w.heap.size≤w'.heap.size
 at_:w'.heap[pb]?=(w.setCell ⟨pb,po,none⟩ v').heap[pb]?
 block:∀k,k<w.heap.size→k≠pb→some k≠v.ownBlock→w'.heap[k]?=w.heap[k]?
 new:Vp w v v'
theorem Ub{l:List Nat}{x i:Nat}(hx:x∈l)(hsrt:l.Pairwise (· < ·))(hs:Kh l x i):Zi l x i=true:=by
 obtain⟨k,hk,he⟩:=List.getElem_of_mem hx;have hki:¬k<i:=fun h=>by have:=hs.1 k h hk;omega
 have hle:=hs.2 i (Nat.le_refl _) (by omega);have hie:i=k:=by
  rcases Nat.lt_or_ge i k with h|h
  ·have:=List.pairwise_iff_getElem.1 hsrt i k (by omega) hk h;omega
  ·omega
 subst hie;simp[Zi,hk,he]
theorem N4{pb po:Nat}{v v':Value}{w w1:World}{o:Obj}(g:(w.alloc o).grownBy w1 v.ownBlock)(hpb:pb<w.heap.size)(hpv:v.ownBlock≠some pb)(hn:Vp (w.alloc o) v v'):Put pb po v v' w (w1.setCell ⟨pb,po,none⟩ v'):=by
 have hb:w1.heap[pb]?=w.heap[pb]?:=(g.block pb (by simp;omega) (fun e=>hpv e.symm)).trans (Below.heap_alloc w _ pb hpb);refine⟨g.os,g.tape,g.output,by have:=g.size;simp[World.setCell]at this ⊢;omega,?_,?_,?_⟩
 ·simp only[World.setCell,Array.getElem?_modify,hb]
 ·intro k hk hne hv;rw[Below.heap_setCell _ _ _ _ hne,g.block k (by simp;omega) hv];exact Below.heap_alloc w _ k hk
 ·rcases hn with h|⟨g',h,hle⟩
  ·exact .inl h
  ·exact .inr ⟨g',h,by simp at hle;omega⟩
theorem Yh{l:List Nat}{x i:Nat}(hx:x∉l):Zi l x i=false:=by
 unfold Zi
 cases h:l[i]? with
 | none=>rfl
 | some y=>
  have:=List.mem_of_getElem? h;simp only[beq_eq_false_iff_ne];rintro rfl;exact hx this
theorem WJ{pb po base e n:Nat}{v v':Value}{xs:List Value}{w w1:World}{o:Obj}(h:w1.ownsRow base e 1 v' n xs)(hn:Vp (w.alloc o) v v')(hpb:pb<w.heap.size)(hpv:v.ownBlock≠some pb):(w1.setCell ⟨pb,po,none⟩ v').ownsRow base e 1 v' n xs:=by
 obtain⟨h1,h2⟩:=h;refine⟨h1,h2.imp id ?_⟩;rintro⟨g,cap,cur,rfl,b,c,d⟩;refine⟨g,cap,cur,rfl,b,?_,d⟩;rw[Below.heap_setCell _ _ _ _ ?_]
 ·exact c
 ·rintro rfl;rcases hn with h|⟨g',h,hle⟩
  ·exact hpv (h.symm.trans rfl)
  ·simp[Value.ownBlock]at h hle;omega
theorem QbJ(l:List Nat)(x:Nat)(hx:Hid (x∈l))(hsrt:Hid (l.Pairwise (· < ·)))(pb po base:Nat)(v:Value)(w:World)(hp:w.cell? ⟨pb,po,none⟩=some v)(h:w.ownsRow base 78 1 v l.length (Qg l))(hl:l.length≤1000000):
  Calls Tryz.prog 98 #[.pointer (some ⟨pb,po,none⟩),.int .i64 x] w fun e w'=>e=.returned (.bool false)∧Hid (w'=w):=by
 go_enter Tryz.func98,Tryz.ntmps98;go_wp2_with fail;refine(Uj l x hsrt base v w h hl).mono ?_;rintro e w1 ⟨hw1,i,hi,hsp,rfl⟩;rw[Ub hx.out hsrt.out hsp];have HW:=Qc hw1;clear hw1;go_wp2_with fail;go_ret;exact⟨rfl,HW.o⟩
theorem QbK(l:List Nat)(x:Nat)(hx:Hid (x∉l))(hsrt:Hid (l.Pairwise (· < ·)))(pb po base:Nat)(v:Value)(w:World)(hp:w.cell? ⟨pb,po,none⟩=some v)(hf:w.frozen? ⟨pb,po,none⟩=false)(h:w.ownsRow base 78 1 v l.length (Qg l))(hl:l.length≤1000000)(hb:base≤w.heap.size)(hpv:Hid (v.ownBlock≠some pb)):
  Calls Tryz.prog 98 #[.pointer (some ⟨pb,po,none⟩),.int .i64 x] w fun e w'=>e=.returned (.bool true)∧∃i v',Hid (i≤l.length∧Kh l x i∧w'.ownsRow base 78 1 v' (ZT l i x).length (Qg (ZT l i x))∧Put pb po v v' w w'):=by
 go_enter Tryz.func98,Tryz.ntmps98;go_wp2_with fail;refine(Uj l x hsrt base v w h hl).mono ?_;rintro e w1 ⟨rfl,i,hi,hsp,rfl⟩;rw[Yh hx.out];have hpb:pb<w1.heap.size:=World.block_lt_of_cell? _ _ hp;have HP:=Qc hpv.out;have HF:=Qc hf;have HI:=Qc (And.intro hi hsp);clear hsp hf hx hsrt hpv;go_wp2_with fail;refine(Qjv l x i hi (base:=base) (v:=v) (w1.alloc (.cells #[.int .i64 x] 78)) (h.alloc _) hl (by simp;omega) (heap_alloc_new _ _) (fun e=>by obtain⟨_,h2⟩:=World.ownsRow.lt h _ e;omega)).mono ?_;rintro e w2 ⟨v2,rfl,o2,g2,n2⟩;obtain⟨p2,c2,rfl⟩:=Qb o2;have hb2:w2.heap[pb]?=w1.heap[pb]?:=(g2.block pb (by simp;omega) (fun e=>HP.o e.symm)).trans (Below.heap_alloc _ _ _ hpb);have hp2:w2.cell? ⟨pb,po,none⟩=some v:=by rw[World.cell?_of_block (w:=w1) hb2];exact hp
 have hf2:w2.frozen? ⟨pb,po,none⟩=false:=by rw[World.frozen?_of_block (w:=w1) hb2];exact HF.o
 have HR:=Qc (And.intro o2 (And.intro g2 n2));clear o2 g2 n2 hb2 hp h;go_wp2_with fail;go_ret;obtain⟨o2,g2,n2⟩:=HR.o;refine⟨rfl,_,_,HI.o.1,HI.o.2,WJ o2 n2 hpb HP.o,N4 g2 hpb HP.o n2⟩
theorem Wc(l:List Nat)(x:Nat)(hx:Hid (x∈l))(hsrt:Hid (l.Pairwise (· < ·)))(pb po base:Nat)(v:Value)(w:World)(hp:w.cell? ⟨pb,po,none⟩=some v)(h:w.ownsRow base 143 1 v l.length (Qg l))(hl:l.length≤1000000):
  Calls Tryz.prog 71 #[.pointer (some ⟨pb,po,none⟩),.int .i64 x] w fun e w'=>e=.returned (.bool false)∧Hid (w'=w):=by
 go_enter Tryz.func71,Tryz.ntmps71;go_wp2_with fail;refine(Vj l x hsrt base v w h hl).mono ?_;rintro e w1 ⟨hw1,i,hi,hsp,rfl⟩;rw[Ub hx.out hsrt.out hsp];have HW:=Qc hw1;clear hw1;go_wp2_with fail;go_ret;exact⟨rfl,HW.o⟩
theorem Rj(l:List Nat)(x:Nat)(hx:Hid (∀y∈l,y<x))(hsrt:Hid (l.Pairwise (· < ·)))(pb po base:Nat)(v:Value)(w:World)(hp:w.cell? ⟨pb,po,none⟩=some v)(hf:w.frozen? ⟨pb,po,none⟩=false)(h:w.ownsRow base 143 1 v l.length (Qg l))(hl:l.length≤1000000)(hb:base≤w.heap.size)(hpv:Hid (v.ownBlock≠some pb)):
  Calls Tryz.prog 71 #[.pointer (some ⟨pb,po,none⟩),.int .i64 x] w fun e w'=>e=.returned (.bool true)∧∃v',Hid (w'.ownsRow base 143 1 v' (l.length+1) (Qg (l++[x]))∧Put pb po v v' w w'):=by
 go_enter Tryz.func71,Tryz.ntmps71;go_wp2_with fail;refine(Vj l x hsrt base v w h hl).mono ?_;rintro e w1 ⟨rfl,i,hi,hsp,rfl⟩;rw[Yh (fun h=>Nat.lt_irrefl _ (hx.out x h))];have hpb:pb<w1.heap.size:=World.block_lt_of_cell? _ _ hp;have hie:i=l.length:=by
  rcases Nat.lt_or_ge i l.length with hlt|hge
  ·have h1:=hsp.2 i (Nat.le_refl _) hlt;have h2:=hx.out l[i] (List.getElem_mem hlt);omega
  ·omega
 subst hie;have HP:=Qc hpv.out;have HF:=Qc hf;have HI:=Qc (And.intro hi hsp);clear hsp hf hx hsrt hpv;go_wp2_with fail;refine(Qa8 l x (base:=base) (v:=v) (w1.alloc (.cells #[.int .i64 x] 143)) (h.alloc _) hl (by simp;omega) (heap_alloc_new _ _)).mono ?_;rintro e w2 ⟨v2,rfl,o2,g2,n2⟩;obtain⟨p2,c2,rfl⟩:=Qb o2;have hb2:w2.heap[pb]?=w1.heap[pb]?:=(g2.block pb (by simp;omega) (fun e=>HP.o e.symm)).trans (Below.heap_alloc _ _ _ hpb);have hp2:w2.cell? ⟨pb,po,none⟩=some v:=by rw[World.cell?_of_block (w:=w1) hb2];exact hp
 have hf2:w2.frozen? ⟨pb,po,none⟩=false:=by rw[World.frozen?_of_block (w:=w1) hb2];exact HF.o
 have HR:=Qc (And.intro o2 (And.intro g2 n2));clear o2 g2 n2 hb2 hp h;go_wp2_with fail;go_ret;obtain⟨o2,g2,n2⟩:=HR.o;refine⟨rfl,_,WJ o2 n2 hpb HP.o,N4 g2 hpb HP.o n2⟩
theorem Qis(l:List Nat)(base:Nat)(v:Value)(w:World)(h:w.ownsRow base 143 1 v l.length (Qg l))(hl:l.length≤1000000):
  Calls Tryz.prog 162 #[v] w fun e w'=>∃v',e=.returned v'∧w'.ownsRow w.heap.size 143 1 v' l.length (Qg l)∧Below w.heap.size w w':=by
 have HO:=Qc h;rcases h.2 with ⟨rfl,h0⟩|⟨g,c,cur,rfl,hbg,hg,hnc,hcm,hcs,ht⟩
 ·have he:∀w,(binOp BinOp.eql 80 (.slice none 0 0) (.slice none 0 0)).run Tryz.prog w=.ok (.bool true) w:=fun w=>by kernel_rfl
  go_enter Tryz.func162,Tryz.ntmps162;go_wp2_with (at_builtin;refine Qv ?_);go_ret;exact⟨_,rfl,⟨HO.o.1,HO.o.2.imp id (fun⟨_,_,_,e,_⟩=>by cases e)⟩,Below.refl _ _⟩
 ·clear h;have HG:=Qc hg;clear hg ht;have he:∀w,(binOp BinOp.eql 80 (.slice (some ⟨g,0,none⟩) l.length c) (.slice none 0 0)).run Tryz.prog w=.ok (.bool false) w:=fun w=>by kernel_rfl
  go_enter Tryz.func162,Tryz.ntmps162;go_wp2_with (at_builtin;refine Qv ?_);refine Qc ?_;obtain⟨I,Hi,Hz,Hs,Hb⟩:=info_parts Tryz.info143;refine wpList_append_own _ rfl _ _ 80 rfl w.heap.size 143 I (.int .i64 0) 1 8 Tryz.underlying80 Hi Hz Hs Hb rfl (by decide) (.slice (some ⟨w.heap.size,0,none⟩) 0 0) 0 [] rfl (World.ownsRow_made w #[] 0 (Nat.le_refl _) (by decide) rfl) ⟨g,0,none⟩ l.length c (Qg l) rfl (by simp[Qg]) (fun j u hj=>?_) (fun u hu=>?_) (by unfold maxLen;omega) (by omega) (by simp) ?_
  ·exact(HO.o.alloc (.cells #[] 143)).cells rfl j u hj
  ·obtain⟨n,_,rfl⟩:=List.mem_map.1 hu;rfl
  ·intro v1 w1 o1 g1 _;rw[Nat.zero_add,List.nil_append]at o1;have O1:=Qc (And.intro o1 g1);clear o1 g1;go_wp2_with fail;go_ret;exact⟨v1,rfl,O1.o.1,Below.grown ((Below.refl _ _).alloc (Nat.le_refl _) _) O1.o.2 (by simp) (fun k hk=>by cases hk;exact Nat.le_refl _)⟩
theorem Qd0(l:List Nat)(base:Nat)(v:Value)(w:World)(h:w.ownsRow base 143 1 v l.length (Qg l))(hl:l.length≤1000000):
  Calls Tryz.prog 116 #[.agg #[v]] w fun e w'=>∃v',e=.returned v'∧w'.ownsRow w.heap.size 143 1 v' l.length (Qg l)∧Below w.heap.size w w':=by
 obtain⟨p,c,rfl⟩:=Qb h;go_enter Tryz.func116,Tryz.ntmps116;go_wp2_with fail;refine(Qis l base _ _ (h.alloc _) hl).mono ?_;rintro e w1 ⟨v1,rfl,o1,f1⟩;have O1:Hid (w1.ownsRow w.heap.size 143 1 v1 l.length (Qg l)∧Below w.heap.size w w1):=⟨Qm o1 (by simp),((Below.refl _ _).alloc (Nat.le_refl _) _).trans (f1.mono (by simp))⟩;clear o1 f1;go_wp2_with fail;go_ret;exact⟨v1,rfl,O1.o.1,O1.o.2⟩
theorem Tryz.info82:(Tryz.prog.info? 82).map (fun i=>(i.zero,i.size,i.bytes))=some (some (.agg #[.slice none 0 0]),1,24):=by kernel_rfl
def Ki(base:Nat)(w:World)(v:Value)(n:Nat)(f:Nat→List Nat):Prop:=
 ∃us:List Value,w.ownsRow base 82 1 v n us∧(∀(k:Nat)(u:Value),us[k]?=some u→w.ownsRow base 143 1 u (f k).length (Qg (f k)))∧(∀(j k:Nat)(u u':Value),us[j]?=some u→us[k]?=some u'→j≠k→u.ownBlock=none∨u.ownBlock≠u'.ownBlock)
theorem Ki.at{base:Nat}{w:World}{p:Option Addr}{c n:Nat}{f:Nat→List Nat}(h:Ki base w (.slice p n c) n f){k:Nat}(hk:k<n):
  ∃g u,p=some ⟨g,0,none⟩∧base≤g∧w.cell? ⟨g,k,none⟩=some u∧w.frozen? ⟨g,k,none⟩=false∧w.ownsRow base 143 1 u (f k).length (Qg (f k))∧u.ownBlock≠some g:=by
 obtain⟨us,a,b,c1⟩:=h;obtain⟨g,rfl,hb,hg⟩:=Qh a (by omega);have hl:us.length=n:=by have:=a.1;omega
 have hu:us[k]?=some us[k]:=List.getElem?_eq_getElem (by omega);have o:=b k _ hu;refine⟨g,us[k],rfl,hb,Qe a hu,XE a k,o,fun e=>?_⟩;rcases a.2 with ⟨h0,_⟩|⟨g',cap',cur',hv,_,hc',_⟩
 ·cases h0
 ·cases hv;rcases o.2 with ⟨h0,_⟩|⟨g2,cap2,cur2,hv2,_,hc2,_⟩
  ·rw[h0]at e;cases e
  ·rw[hv2]at e;cases e;rw[hc']at hc2;cases hc2
theorem Qs.put{base base1 base2:Nat}{T:TypeId→Prop}{w w':World}{g k n c m:Nat}{us ys:List Value}{u u':Value}(a:w.ownsRow base1 82 1 (.slice (some ⟨g,0,none⟩) n c) n us)(b:w.ownsRow base2 143 1 u m ys)(hp:Put g k u u' w w')(h1:¬T 82)(h2:¬T 143):Qs base T w w':=by
 intro j cur e _ ht hh;rw[hp.block j (lt_of_block hh) ?_ ?_]
 ·exact hh
 ·rintro rfl;rcases a.2 with ⟨h0,_⟩|⟨g',cap',cur',hv,_,hc',_⟩
  ·cases h0
  ·cases hv;rw[hc']at hh;cases hh;exact h1 ht
 ·intro e1;rcases b.2 with ⟨rfl,_⟩|⟨g2,cap2,cur2,rfl,_,hc2,_⟩
  ·cases e1
  ·cases e1;rw[hc2]at hh;cases hh;exact h2 ht
theorem Ki.put{base:Nat}{w w':World}{g c n:Nat}{f:Nat→List Nat}(h:Ki base w (.slice (some ⟨g,0,none⟩) n c) n f){k:Nat}(hk:k<n){u u':Value}(hu:w.cell? ⟨g,k,none⟩=some u)
  (hp:Put g k u u' w w'){l:List Nat}(o':w'.ownsRow base 143 1 u' l.length (Qg l))(f':Nat→List Nat)(hf:f' k=l)(hf2:∀j,j≠k→f' j=f j):Ki base w' (.slice (some ⟨g,0,none⟩) n c) n f':=by
 obtain⟨us,a,b,d⟩:=h;have hl:us.length=n:=by have:=a.1;omega
 have huk:us[k]?=some us[k]:=List.getElem?_eq_getElem (by omega);have e0:us[k]=u:=by have:=Qe a huk;rw[hu]at this;cases this;rfl
 rw[e0]at huk;have ob:=b k u huk;refine⟨us.set k u',?_,?_,?_⟩
 ·have s:=Zz a k u';obtain⟨s1,s2⟩:=s;refine⟨s1,s2.imp id ?_⟩;rintro⟨g',cap',cur',hv,b1,c1,d1⟩;cases hv;exact⟨g,c,cur',rfl,b1,by rw[hp.at_];exact c1,d1⟩
 ·intro j x hx;rw[List.getElem?_set]at hx;by_cases hj:k=j
  ·subst hj;rw[if_pos rfl,if_pos (by omega)]at hx;cases hx;rw[hf];exact o'
  ·rw[if_neg hj]at hx;rw[hf2 j (fun e=>hj e.symm)];have oj:=b j x hx;obtain⟨o1,o2⟩:=oj;refine⟨o1,o2.imp id ?_⟩;rintro⟨g2,cap2,cur2,rfl,b2,c2,d2⟩;refine⟨g2,cap2,cur2,rfl,b2,?_,d2⟩;rw[hp.block g2 (lt_of_block c2) ?_ ?_]
   ·exact c2
   ·rintro rfl;rcases a.2 with ⟨h0,_⟩|⟨g',cap',cur',hv,_,hc',_⟩
    ·cases h0
    ·cases hv;rw[hc']at c2;cases c2
   ·rcases d j k _ _ hx huk (fun e=>hj e.symm) with h0|h0
    ·cases h0
    ·exact h0
 ·have lt:∀(j:Nat)(x:Value),us[j]?=some x→∀b,x.ownBlock=some b→b<w.heap.size:=fun j x hx bb hb=>((b j x hx).lt bb hb).2;intro i j x y hx hy hij;rw[List.getElem?_set]at hx hy;by_cases hi:k=i
  ·subst hi;rw[if_pos rfl,if_pos (by omega)]at hx;rw[if_neg hij]at hy;cases hx;rcases hp.new with h0|⟨g',h0,hle⟩
   ·rw[h0];exact d k j u y huk hy hij
   ·right;rw[h0];intro e1;have:=lt j y hy g' e1.symm;omega
  ·rw[if_neg hi]at hx;by_cases hj:k=j
   ·subst hj;rw[if_pos rfl,if_pos (by omega)]at hy;cases hy;rcases hp.new with h0|⟨g',h0,hle⟩
    ·rw[h0];exact d i k x u hx huk hij
    ·right;rw[h0];intro e1;have:=lt i x hx g' e1;omega
   ·rw[if_neg hj]at hy;exact d i j x y hx hy hij
theorem Ki.keeps{base:Nat}{w w':World}{v:Value}{n:Nat}{f:Nat→List Nat}(h:Ki base w v n f)(k:Below w.heap.size w w'):Ki base w' v n f:=by
 obtain⟨us,a,b,d⟩:=h;exact⟨us,Qd a (Qi k) trivial,fun j u hu=>Qd (b j u hu) (Qi k) trivial,d⟩
theorem Ki.congr{base:Nat}{w:World}{v:Value}{n:Nat}{f f':Nat→List Nat}(h:Ki base w v n f)(e:∀k,k<n→f' k=f k):Ki base w v n f':=by
 obtain⟨us,a,b,d⟩:=h;have hl:us.length=n:=by have:=a.1;omega
 refine⟨us,a,fun j u hu=>?_,d⟩;have hj:j<n:=by
  rcases Nat.lt_or_ge j us.length with h|h
  ·omega
  ·rw[List.getElem?_eq_none h]at hu;cases hu
 rw[e j hj];exact b j u hu
theorem Put.below{base:Nat}{w0 w w':World}{g k m:Nat}{u u':Value}{ys:List Value}(F:Below base w0 w)(hb:base≤g)(o:w.ownsRow base 143 1 u m ys)(hp:Put g k u u' w w')(hs:base≤w.heap.size):Below base w0 w':=by
 refine F.trans ⟨hp.os,hp.tape,hp.output,hp.size,fun j hj=>hp.block j (by omega) (by omega) (fun e=>?_)⟩;have:=(o.lt j e.symm).1;omega
end Go.Proofs.YtgfhfkgdmidhpaaGreatDoor
