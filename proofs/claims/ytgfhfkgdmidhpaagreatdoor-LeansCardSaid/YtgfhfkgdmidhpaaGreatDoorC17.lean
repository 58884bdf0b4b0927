import Derived.Test.YtgfhfkgdmidhpaaGreatDoorC16
namespace Go.Proofs.YtgfhfkgdmidhpaaGreatDoor
open Go.RowKit
set_option maxRecDepth 100000
set_option maxHeartbeats 8000000
def Tab(w:World):Prop:=∀w',Below w.heap.size w w'→Lib.TabIs Tryz.prog w' "internal/strconv.uint64pow10" .u64 Lib.pow10Tab
theorem Tab.keep{w w':World}(h:Tab w)(F:Below w.heap.size w w'):Tab w':=fun w2 F2=>h w2 (F.trans (F2.mono F.size))
theorem Tab.here{w:World}(h:Tab w):Lib.TabIs Tryz.prog w "internal/strconv.uint64pow10" .u64 Lib.pow10Tab:=h w (Below.refl _ _)
theorem NK(w:World)(k:Nat)(os:Array Obj):Below w.heap.size w (Sort.grow (w.drewN k) os):=
 ⟨rfl,rfl,rfl,by simp[Sort.grow],fun j hj=>by simp[Sort.grow,Array.getElem?_append,hj]⟩
theorem Zl(a b:List UInt8):(⟨a.toArray⟩:ByteArray)++⟨b.toArray⟩=⟨(a++b).toArray⟩:=by
 apply ByteArray.ext;simp
def rgT(n:Nat):List UInt8:=114::Lib.decDigits n
theorem GY{n:Nat}(h:n<10):Lib.decDigits n=[UInt8.ofNat (48+n)]:=Lib.decDigits_one h
theorem Uw{n:Nat}(h:¬n<10):Lib.decDigits n=Lib.decDigits (n / 10)++[UInt8.ofNat (48+n % 10)]:=by rw[Lib.decDigits,dif_neg h]
theorem Xr{n:Nat}(h:n<10000):(Lib.decDigits n).length≤4:=by
 by_cases h1:n<10
 ·rw[GY h1];simp
 rw[Uw h1,List.length_append,List.length_singleton];by_cases h2:n / 10<10
 ·rw[GY h2];simp
 rw[Uw h2,List.length_append,List.length_singleton];by_cases h3:n / 10 / 10<10
 ·rw[GY h3];simp
 rw[Uw h3,List.length_append,List.length_singleton,GY (by omega)];simp
theorem XQ{n:Nat}(h:n<10000):(rgT n).length≤5:=by
 unfold rgT;rw[List.length_cons];have:=Xr h;omega
theorem QdY(n:Nat):Lib.itoa n=Lib.decDigits n:=by
 unfold Lib.itoa;rw[if_neg (by omega)];simp
theorem Qg0(n:Nat)(w w0:World)(hn:n<10000)(ht:Tab w0)(F:Below w0.heap.size w0 w):
  Calls Tryz.prog 188 #[.int .i64 n] w fun e w'=>e=.returned (.string ⟨(Lib.decDigits n).toArray⟩)∧Below w.heap.size w w':=by
 refine(Tryz.strconv_Itoa n (by omega) (by omega) w (ht.keep F).here).mono ?_;rintro e w1 ⟨rfl,k,os,rfl⟩;exact⟨by rw[QdY],NK _ _ _⟩
theorem GQ(n a:Nat)(w:World)(hn:n<10000)(ht:Tab w):
  Calls Tryz.prog 139 #[.agg #[.int .i64 n,.int .i64 a]] w fun e w'=>e=.returned (.string ⟨(Lib.decDigits n).toArray⟩)∧Below w.heap.size w w':=by
 go_enter Tryz.func139,Tryz.ntmps139;go_wp2_with fail;have F1:=(Below.refl w.heap.size w).alloc (Nat.le_refl _) (.cells #[.int .i64 n,.int .i64 a] 145);refine(Qg0 n _ w hn ht F1).mono ?_;rintro e w1 ⟨rfl,f1⟩;have F2:=F1.trans (f1.mono F1.size);clear F1 f1;go_wp2_with fail;go_ret;exact⟨rfl,F2⟩
theorem K9(n a:Nat)(w:World)(hn:n<10000)(ht:Tab w):
  Calls Tryz.prog 140 #[.agg #[.int .i64 n,.int .i64 a]] w fun e w'=>e=.returned (.string ⟨(rgT n).toArray⟩)∧Below w.heap.size w w':=by
 have hl:=Xr hn;have hz:¬9223372036854775807<1+(Lib.decDigits n).length:=by omega
 go_enter Tryz.func140,Tryz.ntmps140;go_wp2_with fail;have F1:=(Below.refl w.heap.size w).alloc (Nat.le_refl _) (.cells #[.int .i64 n,.int .i64 a] 132);refine(Qg0 n _ w hn ht F1).mono ?_;rintro e w1 ⟨rfl,f1⟩;have F2:=F1.trans (f1.mono F1.size);clear F1 f1;go_wp2_with fail;go_ret;exact⟨congrArg (fun x=>Ending.returned (.string x)) (Zl [114] _),F2⟩
theorem VU{w w':World}(F:Below w.heap.size w w'):Below w.heap.size w w'.drew:=⟨F.os,F.tape,F.output,F.size,F.block⟩
theorem Ja{w w':World}(F:Below w.drew.heap.size w.drew w'):Below w.heap.size w w':=⟨F.os,F.tape,F.output,F.size,F.block⟩
theorem Qiq(t ta n a:Nat)(w:World)(h1:t<10000)(h2:n<10000)(ht:Tab w):
  Calls Tryz.prog 288 #[.agg #[.int .i64 t,.int .i64 ta,.int .i64 n,.int .i64 a]] w fun e w'=>e=.returned (.string ⟨(rgT t++61::rgT n).toArray⟩)∧Below w.heap.size w w':=by
 have hl0:=XQ h1;have hl1:=XQ h2;have hz0:¬9223372036854775807<(rgT t).length+1:=by omega
 have hz1:¬9223372036854775807<(rgT t).length+1+(rgT n).length:=by omega
 go_enter Tryz.func288,Tryz.ntmps288;go_wp2_with fail;have F1:=Qc ((Below.refl w.heap.size w).alloc (Nat.le_refl _) (.cells #[.int .i64 t,.int .i64 ta,.int .i64 n,.int .i64 a] 142));have g1:=heap_alloc_last w (.cells #[.int .i64 t,.int .i64 ta,.int .i64 n,.int .i64 a] 142);have sW:w.heap.size<(w.alloc (.cells #[.int .i64 t,.int .i64 ta,.int .i64 n,.int .i64 a] 142)).heap.size:=by rw[World.size_alloc];omega
 generalize w.alloc (.cells #[.int .i64 t,.int .i64 ta,.int .i64 n,.int .i64 a] 142)=W at *;have k0:=Qa g1 0;have k1:=Qa g1 1;have k2:=Qa g1 2;have k3:=Qa g1 3;simp at k0 k1 k2 k3;clear g1
 go_region_held (fun w'=>w'.cell? ⟨w.heap.size,0,none⟩=some (.int .i64 t)∧w'.cell? ⟨w.heap.size,1,none⟩=some (.int .i64 ta)∧w'.cell? ⟨w.heap.size,2,none⟩=some (.int .i64 n)∧w'.cell? ⟨w.heap.size,3,none⟩=some (.int .i64 a)) (simp[*])
  (first | (go_at_call 140;refine(K9 t ta W.drew h1 (ht.keep (VU F1.o))).mono ?_;rintro e v0 ⟨rfl,f⟩;have f':=Ja f;have y00:=(f'.cell (p:=⟨w.heap.size,0,none⟩) sW).trans k0;have y01:=(f'.cell (p:=⟨w.heap.size,1,none⟩) sW).trans k1;have y02:=(f'.cell (p:=⟨w.heap.size,2,none⟩) sW).trans k2;have y03:=(f'.cell (p:=⟨w.heap.size,3,none⟩) sW).trans k3;have O0:=Qc (F1.o.trans (f'.mono (Nat.le_of_lt sW)));have s0:=f'.size;clear f f') | (go_at_call 140;refine(K9 n a v0 h2 (ht.keep O0.o)).mono ?_;rintro e v1 ⟨rfl,f⟩;have y10:=(f.cell (p:=⟨w.heap.size,0,none⟩) (Nat.lt_of_lt_of_le sW s0)).trans y00;have y11:=(f.cell (p:=⟨w.heap.size,1,none⟩) (Nat.lt_of_lt_of_le sW s0)).trans y01;have y12:=(f.cell (p:=⟨w.heap.size,2,none⟩) (Nat.lt_of_lt_of_le sW s0)).trans y02;have y13:=(f.cell (p:=⟨w.heap.size,3,none⟩) (Nat.lt_of_lt_of_le sW s0)).trans y03;have O1:=Qc (O0.o.trans (f.mono O0.o.size));have s1:=Nat.le_trans s0 f.size;clear f))
 all_goals
  go_wp2_with fail;go_ret;refine⟨?_,O1.o⟩;rw[show (rgT t++61::rgT n)=(rgT t++[61])++rgT n from by simp,←Zl,←Zl];rfl
theorem QjD(n:Int)(w:World)(hn:n.natAbs<10000)(ht:Tab w):
  Calls Tryz.prog 299 #[.int .i64 n,.int .i64 10] w fun e w'=>e=.returned (.string ⟨(Lib.itoa n).toArray⟩)∧Below w.heap.size w w':=by
 refine(Tryz.strconv_FormatInt_10 n (by omega) (by omega) w ht.here).mono ?_;rintro e w1 ⟨rfl,k,os,rfl⟩;exact⟨rfl,NK _ _ _⟩
theorem QdZ{n:Int}(h:n.natAbs<10000):(Lib.itoa n).length≤5:=by
 unfold Lib.itoa;split
 ·rw[List.length_cons];have:=Xr h;omega
 ·have:=Xr (n:=n.toNat) (by omega);omega
theorem Qh8(t ta:Nat)(n:Int)(w:World)(h1:t<10000)(h2:n.natAbs<10000)(ht:Tab w):
  Calls Tryz.prog 298 #[.agg #[.int .i64 t,.int .i64 ta,.int .i64 n]] w fun e w'=>e=.returned (.string ⟨(rgT t++61::Lib.itoa n).toArray⟩)∧Below w.heap.size w w':=by
 have hl0:=XQ h1;have hl1:=QdZ h2;have hz0:¬9223372036854775807<(rgT t).length+1:=by omega
 have hz1:¬9223372036854775807<(rgT t).length+1+(Lib.itoa n).length:=by omega
 go_enter Tryz.func298,Tryz.ntmps298;go_wp2_with fail;have F1:=Qc ((Below.refl w.heap.size w).alloc (Nat.le_refl _) (.cells #[.int .i64 t,.int .i64 ta,.int .i64 n] 177));have g1:=heap_alloc_last w (.cells #[.int .i64 t,.int .i64 ta,.int .i64 n] 177);have sW:w.heap.size<(w.alloc (.cells #[.int .i64 t,.int .i64 ta,.int .i64 n] 177)).heap.size:=by rw[World.size_alloc];omega
 generalize w.alloc (.cells #[.int .i64 t,.int .i64 ta,.int .i64 n] 177)=W at *;have k0:=Qa g1 0;have k1:=Qa g1 1;have k2:=Qa g1 2;simp at k0 k1 k2;clear g1
 go_region_held (fun w'=>w'.cell? ⟨w.heap.size,0,none⟩=some (.int .i64 t)∧w'.cell? ⟨w.heap.size,1,none⟩=some (.int .i64 ta)∧w'.cell? ⟨w.heap.size,2,none⟩=some (.int .i64 n)) (simp[*])
  (first | (go_at_call 140;refine(K9 t ta W.drew h1 (ht.keep (VU F1.o))).mono ?_;rintro e v0 ⟨rfl,f⟩;have f':=Ja f;have y00:=(f'.cell (p:=⟨w.heap.size,0,none⟩) sW).trans k0;have y01:=(f'.cell (p:=⟨w.heap.size,1,none⟩) sW).trans k1;have y02:=(f'.cell (p:=⟨w.heap.size,2,none⟩) sW).trans k2;have O0:=Qc (F1.o.trans (f'.mono (Nat.le_of_lt sW)));have s0:=f'.size;clear f f') | (go_at_call 299;refine(QjD n v0 h2 (ht.keep O0.o)).mono ?_;rintro e v1 ⟨rfl,f⟩;have y10:=(f.cell (p:=⟨w.heap.size,0,none⟩) (Nat.lt_of_lt_of_le sW s0)).trans y00;have y11:=(f.cell (p:=⟨w.heap.size,1,none⟩) (Nat.lt_of_lt_of_le sW s0)).trans y01;have y12:=(f.cell (p:=⟨w.heap.size,2,none⟩) (Nat.lt_of_lt_of_le sW s0)).trans y02;have O1:=Qc (O0.o.trans (f.mono O0.o.size));have s1:=Nat.le_trans s0 f.size;clear f))
 all_goals
  go_wp2_with fail;go_ret;refine⟨?_,O1.o⟩;rw[show (rgT t++61::Lib.itoa n)=(rgT t++[61])++Lib.itoa n from by simp,←Zl,←Zl];rfl
theorem Qhh(t ta:Nat)(w:World)(h1:t<10000)(ht:Tab w):
  Calls Tryz.prog 306 #[.agg #[.int .i64 t,.int .i64 ta]] w fun e w'=>e=.returned (.string ⟨(rgT t++[61,63]).toArray⟩)∧Below w.heap.size w w':=by
 have hl0:=XQ h1;have hz0:¬9223372036854775807<(rgT t).length+2:=by omega
 go_enter Tryz.func306,Tryz.ntmps306;go_wp2_with fail;have F1:=Qc ((Below.refl w.heap.size w).alloc (Nat.le_refl _) (.cells #[.int .i64 t,.int .i64 ta] 272));have g1:=heap_alloc_last w (.cells #[.int .i64 t,.int .i64 ta] 272);have sW:w.heap.size<(w.alloc (.cells #[.int .i64 t,.int .i64 ta] 272)).heap.size:=by rw[World.size_alloc];omega
 generalize w.alloc (.cells #[.int .i64 t,.int .i64 ta] 272)=W at *;have k0:=Qa g1 0;have k1:=Qa g1 1;simp at k0 k1;clear g1;refine(K9 t ta W h1 (ht.keep F1.o)).mono ?_;rintro e w1 ⟨rfl,f1⟩;have F2:=F1.o.trans (f1.mono F1.o.size);clear f1;go_wp2_with fail;go_ret;refine⟨?_,F2⟩;rw[show (rgT t++[61,63])=rgT t++[61,63] from by simp,←Zl];rfl
theorem QiQ(t ta:Nat)(w:World)(h1:t<10000)(ht:Tab w):
  Calls Tryz.prog 318 #[.agg #[.int .i64 t,.int .i64 ta]] w fun e w'=>e=.returned (.string ⟨(33::rgT t).toArray⟩)∧Below w.heap.size w w':=by
 have hl0:=XQ h1;have hz0:¬9223372036854775807<1+(rgT t).length:=by omega
 go_enter Tryz.func318,Tryz.ntmps318;go_wp2_with fail;have F1:=Qc ((Below.refl w.heap.size w).alloc (Nat.le_refl _) (.cells #[.int .i64 t,.int .i64 ta] 315));have g1:=heap_alloc_last w (.cells #[.int .i64 t,.int .i64 ta] 315);have sW:w.heap.size<(w.alloc (.cells #[.int .i64 t,.int .i64 ta] 315)).heap.size:=by rw[World.size_alloc];omega
 generalize w.alloc (.cells #[.int .i64 t,.int .i64 ta] 315)=W at *;have k0:=Qa g1 0;have k1:=Qa g1 1;simp at k0 k1;clear g1;refine(K9 t ta W h1 (ht.keep F1.o)).mono ?_;rintro e w1 ⟨rfl,f1⟩;have F2:=F1.o.trans (f1.mono F1.o.size);clear f1;go_wp2_with fail;go_ret;refine⟨?_,F2⟩;rw[show (33::rgT t)=[33]++rgT t from by simp,←Zl];rfl
theorem Qib(t ta:Nat)(w:World)(h1:t<10000)(ht:Tab w):
  Calls Tryz.prog 314 #[.agg #[.int .i64 t,.int .i64 ta]] w fun e w'=>e=.returned (.string ⟨(62::Lib.decDigits t).toArray⟩)∧Below w.heap.size w w':=by
 have hl0:=Xr h1;have hz0:¬9223372036854775807<1+(Lib.decDigits t).length:=by omega
 go_enter Tryz.func314,Tryz.ntmps314;go_wp2_with fail;have F1:=Qc ((Below.refl w.heap.size w).alloc (Nat.le_refl _) (.cells #[.int .i64 t,.int .i64 ta] 312));have g1:=heap_alloc_last w (.cells #[.int .i64 t,.int .i64 ta] 312);have sW:w.heap.size<(w.alloc (.cells #[.int .i64 t,.int .i64 ta] 312)).heap.size:=by rw[World.size_alloc];omega
 generalize w.alloc (.cells #[.int .i64 t,.int .i64 ta] 312)=W at *;have k0:=Qa g1 0;have k1:=Qa g1 1;simp at k0 k1;clear g1;refine(GQ t ta W h1 (ht.keep F1.o)).mono ?_;rintro e w1 ⟨rfl,f1⟩;have F2:=F1.o.trans (f1.mono F1.o.size);clear f1;go_wp2_with fail;go_ret;refine⟨?_,F2⟩;rw[show (62::Lib.decDigits t)=[62]++Lib.decDigits t from by simp,←Zl];rfl
theorem Qig(t ta n na m ma:Nat)(w:World)(h1:t<10000)(h2:n<10000)(h3:m<10000)(ht:Tab w):
  Calls Tryz.prog 322 #[.agg #[.int .i64 t,.int .i64 ta,.int .i64 n,.int .i64 na,.int .i64 m,.int .i64 ma]] w fun e w'=>e=.returned (.string ⟨(rgT t++63::(Lib.decDigits n++58::Lib.decDigits m)).toArray⟩)∧Below w.heap.size w w':=by
 have hl0:=XQ h1;have hl1:=Xr h2;have hl2:=Xr h3;have hz0:¬9223372036854775807<(rgT t).length+1:=by omega
 have hz1:¬9223372036854775807<(rgT t).length+1+(Lib.decDigits n).length:=by omega
 have hz2:¬9223372036854775807<(rgT t).length+1+(Lib.decDigits n).length+1:=by omega
 have hz3:¬9223372036854775807<(rgT t).length+1+(Lib.decDigits n).length+1+(Lib.decDigits m).length:=by omega
 go_enter Tryz.func322,Tryz.ntmps322;go_wp2_with fail;have F1:=Qc ((Below.refl w.heap.size w).alloc (Nat.le_refl _) (.cells #[.int .i64 t,.int .i64 ta,.int .i64 n,.int .i64 na,.int .i64 m,.int .i64 ma] 353));have g1:=heap_alloc_last w (.cells #[.int .i64 t,.int .i64 ta,.int .i64 n,.int .i64 na,.int .i64 m,.int .i64 ma] 353);have sW:w.heap.size<(w.alloc (.cells #[.int .i64 t,.int .i64 ta,.int .i64 n,.int .i64 na,.int .i64 m,.int .i64 ma] 353)).heap.size:=by rw[World.size_alloc];omega
 generalize w.alloc (.cells #[.int .i64 t,.int .i64 ta,.int .i64 n,.int .i64 na,.int .i64 m,.int .i64 ma] 353)=W at *;have k0:=Qa g1 0;have k1:=Qa g1 1;have k2:=Qa g1 2;have k3:=Qa g1 3;have k4:=Qa g1 4;have k5:=Qa g1 5;simp at k0 k1 k2 k3 k4 k5;clear g1
 go_region_held (fun w'=>w'.cell? ⟨w.heap.size,0,none⟩=some (.int .i64 t)∧w'.cell? ⟨w.heap.size,1,none⟩=some (.int .i64 ta)∧w'.cell? ⟨w.heap.size,2,none⟩=some (.int .i64 n)∧w'.cell? ⟨w.heap.size,3,none⟩=some (.int .i64 na)∧w'.cell? ⟨w.heap.size,4,none⟩=some (.int .i64 m)∧w'.cell? ⟨w.heap.size,5,none⟩=some (.int .i64 ma)) (simp[*])
  (first | (go_at_call 140;refine(K9 t ta W.drew h1 (ht.keep (VU F1.o))).mono ?_;rintro e v0 ⟨rfl,f⟩;have f':=Ja f;have y00:=(f'.cell (p:=⟨w.heap.size,0,none⟩) sW).trans k0;have y01:=(f'.cell (p:=⟨w.heap.size,1,none⟩) sW).trans k1;have y02:=(f'.cell (p:=⟨w.heap.size,2,none⟩) sW).trans k2;have y03:=(f'.cell (p:=⟨w.heap.size,3,none⟩) sW).trans k3;have y04:=(f'.cell (p:=⟨w.heap.size,4,none⟩) sW).trans k4;have y05:=(f'.cell (p:=⟨w.heap.size,5,none⟩) sW).trans k5;have O0:=Qc (F1.o.trans (f'.mono (Nat.le_of_lt sW)));have s0:=f'.size;clear f f') | (go_at_call 139;refine(GQ n na v0 h2 (ht.keep O0.o)).mono ?_;rintro e v1 ⟨rfl,f⟩;have y10:=(f.cell (p:=⟨w.heap.size,0,none⟩) (Nat.lt_of_lt_of_le sW s0)).trans y00;have y11:=(f.cell (p:=⟨w.heap.size,1,none⟩) (Nat.lt_of_lt_of_le sW s0)).trans y01;have y12:=(f.cell (p:=⟨w.heap.size,2,none⟩) (Nat.lt_of_lt_of_le sW s0)).trans y02;have y13:=(f.cell (p:=⟨w.heap.size,3,none⟩) (Nat.lt_of_lt_of_le sW s0)).trans y03;have y14:=(f.cell (p:=⟨w.heap.size,4,none⟩) (Nat.lt_of_lt_of_le sW s0)).trans y04;have y15:=(f.cell (p:=⟨w.heap.size,5,none⟩) (Nat.lt_of_lt_of_le sW s0)).trans y05;have O1:=Qc (O0.o.trans (f.mono O0.o.size));have s1:=Nat.le_trans s0 f.size;clear f) | (go_at_call 139;refine(GQ m ma v1 h3 (ht.keep O1.o)).mono ?_;rintro e v2 ⟨rfl,f⟩;have y20:=(f.cell (p:=⟨w.heap.size,0,none⟩) (Nat.lt_of_lt_of_le sW s1)).trans y10;have y21:=(f.cell (p:=⟨w.heap.size,1,none⟩) (Nat.lt_of_lt_of_le sW s1)).trans y11;have y22:=(f.cell (p:=⟨w.heap.size,2,none⟩) (Nat.lt_of_lt_of_le sW s1)).trans y12;have y23:=(f.cell (p:=⟨w.heap.size,3,none⟩) (Nat.lt_of_lt_of_le sW s1)).trans y13;have y24:=(f.cell (p:=⟨w.heap.size,4,none⟩) (Nat.lt_of_lt_of_le sW s1)).trans y14;have y25:=(f.cell (p:=⟨w.heap.size,5,none⟩) (Nat.lt_of_lt_of_le sW s1)).trans y15;have O2:=Qc (O1.o.trans (f.mono O1.o.size));have s2:=Nat.le_trans s1 f.size;clear f))
 all_goals
  go_wp2_with fail;go_ret;refine⟨?_,O2.o⟩;rw[show (rgT t++63::(Lib.decDigits n++58::Lib.decDigits m))=((((rgT t++[63])++Lib.decDigits n)++[58])++Lib.decDigits m) from by simp,←Zl,←Zl,←Zl,←Zl];rfl
def opS(o:Nat):Nat:=if o=0 then 43 else if o=1 then 45 else if o=2 then 42 else 60
theorem Qjq(o:Nat)(w:World)(ho:o<4):
  Calls Tryz.prog 323 #[.int .i64 o] w fun e w'=>e=.returned (.string ⟨[UInt8.ofNat (opS o)].toArray⟩)∧Below w.heap.size w w':=by
 match o,ho with
 | 0,_|1,_|2,_|3,_=>
  go_enter Tryz.func323,Tryz.ntmps323;go_wp2_with fail;go_ret;exact⟨by rfl,Below.refl _ _⟩
theorem Qir(t ta n na o m ma:Nat)(w:World)(h1:t<10000)(h2:n<10000)(h3:m<10000)(ho:o<4)(ht:Tab w):
  Calls Tryz.prog 327 #[.agg #[.int .i64 t,.int .i64 ta,.int .i64 n,.int .i64 na,.int .i64 o,.int .i64 m,.int .i64 ma]] w fun e w'=>e=.returned (.string ⟨(rgT t++61::(rgT n++UInt8.ofNat (opS o)::rgT m)).toArray⟩)∧Below w.heap.size w w':=by
 have hl0:=XQ h1;have hl1:=XQ h2;have hl2:=XQ h3;have hz0:¬9223372036854775807<(rgT t).length+1:=by omega
 have hz1:¬9223372036854775807<(rgT t).length+1+(rgT n).length:=by omega
 have hz2:¬9223372036854775807<(rgT t).length+1+(rgT n).length+1:=by omega
 have hz3:¬9223372036854775807<(rgT t).length+1+(rgT n).length+1+(rgT m).length:=by omega
 go_enter Tryz.func327,Tryz.ntmps327;go_wp2_with fail;have F1:=Qc ((Below.refl w.heap.size w).alloc (Nat.le_refl _) (.cells #[.int .i64 t,.int .i64 ta,.int .i64 n,.int .i64 na,.int .i64 o,.int .i64 m,.int .i64 ma] 370));have g1:=heap_alloc_last w (.cells #[.int .i64 t,.int .i64 ta,.int .i64 n,.int .i64 na,.int .i64 o,.int .i64 m,.int .i64 ma] 370);have sW:w.heap.size<(w.alloc (.cells #[.int .i64 t,.int .i64 ta,.int .i64 n,.int .i64 na,.int .i64 o,.int .i64 m,.int .i64 ma] 370)).heap.size:=by rw[World.size_alloc];omega
 generalize w.alloc (.cells #[.int .i64 t,.int .i64 ta,.int .i64 n,.int .i64 na,.int .i64 o,.int .i64 m,.int .i64 ma] 370)=W at *;have k0:=Qa g1 0;have k1:=Qa g1 1;have k2:=Qa g1 2;have k3:=Qa g1 3;have k4:=Qa g1 4;have k5:=Qa g1 5;have k6:=Qa g1 6;simp at k0 k1 k2 k3 k4 k5 k6;clear g1
 go_region_held (fun w'=>w'.cell? ⟨w.heap.size,0,none⟩=some (.int .i64 t)∧w'.cell? ⟨w.heap.size,1,none⟩=some (.int .i64 ta)∧w'.cell? ⟨w.heap.size,2,none⟩=some (.int .i64 n)∧w'.cell? ⟨w.heap.size,3,none⟩=some (.int .i64 na)∧w'.cell? ⟨w.heap.size,4,none⟩=some (.int .i64 o)∧w'.cell? ⟨w.heap.size,5,none⟩=some (.int .i64 m)∧w'.cell? ⟨w.heap.size,6,none⟩=some (.int .i64 ma)) (simp[*])
  (first | (go_at_call 140;refine(K9 t ta W.drew h1 (ht.keep (VU F1.o))).mono ?_;rintro e v0 ⟨rfl,f⟩;have f':=Ja f;have y00:=(f'.cell (p:=⟨w.heap.size,0,none⟩) sW).trans k0;have y01:=(f'.cell (p:=⟨w.heap.size,1,none⟩) sW).trans k1;have y02:=(f'.cell (p:=⟨w.heap.size,2,none⟩) sW).trans k2;have y03:=(f'.cell (p:=⟨w.heap.size,3,none⟩) sW).trans k3;have y04:=(f'.cell (p:=⟨w.heap.size,4,none⟩) sW).trans k4;have y05:=(f'.cell (p:=⟨w.heap.size,5,none⟩) sW).trans k5;have y06:=(f'.cell (p:=⟨w.heap.size,6,none⟩) sW).trans k6;have O0:=Qc (F1.o.trans (f'.mono (Nat.le_of_lt sW)));have s0:=f'.size;clear f f') | (go_at_call 140;refine(K9 n na v0 h2 (ht.keep O0.o)).mono ?_;rintro e v1 ⟨rfl,f⟩;have y10:=(f.cell (p:=⟨w.heap.size,0,none⟩) (Nat.lt_of_lt_of_le sW s0)).trans y00;have y11:=(f.cell (p:=⟨w.heap.size,1,none⟩) (Nat.lt_of_lt_of_le sW s0)).trans y01;have y12:=(f.cell (p:=⟨w.heap.size,2,none⟩) (Nat.lt_of_lt_of_le sW s0)).trans y02;have y13:=(f.cell (p:=⟨w.heap.size,3,none⟩) (Nat.lt_of_lt_of_le sW s0)).trans y03;have y14:=(f.cell (p:=⟨w.heap.size,4,none⟩) (Nat.lt_of_lt_of_le sW s0)).trans y04;have y15:=(f.cell (p:=⟨w.heap.size,5,none⟩) (Nat.lt_of_lt_of_le sW s0)).trans y05;have y16:=(f.cell (p:=⟨w.heap.size,6,none⟩) (Nat.lt_of_lt_of_le sW s0)).trans y06;have O1:=Qc (O0.o.trans (f.mono O0.o.size));have s1:=Nat.le_trans s0 f.size;clear f) | (go_at_call 323;refine(Qjq o v1 ho).mono ?_;rintro e v2 ⟨rfl,f⟩;have y20:=(f.cell (p:=⟨w.heap.size,0,none⟩) (Nat.lt_of_lt_of_le sW s1)).trans y10;have y21:=(f.cell (p:=⟨w.heap.size,1,none⟩) (Nat.lt_of_lt_of_le sW s1)).trans y11;have y22:=(f.cell (p:=⟨w.heap.size,2,none⟩) (Nat.lt_of_lt_of_le sW s1)).trans y12;have y23:=(f.cell (p:=⟨w.heap.size,3,none⟩) (Nat.lt_of_lt_of_le sW s1)).trans y13;have y24:=(f.cell (p:=⟨w.heap.size,4,none⟩) (Nat.lt_of_lt_of_le sW s1)).trans y14;have y25:=(f.cell (p:=⟨w.heap.size,5,none⟩) (Nat.lt_of_lt_of_le sW s1)).trans y15;have y26:=(f.cell (p:=⟨w.heap.size,6,none⟩) (Nat.lt_of_lt_of_le sW s1)).trans y16;have O2:=Qc (O1.o.trans (f.mono O1.o.size));have s2:=Nat.le_trans s1 f.size;clear f) | (go_at_call 140;refine(K9 m ma v2 h3 (ht.keep O2.o)).mono ?_;rintro e v3 ⟨rfl,f⟩;have y30:=(f.cell (p:=⟨w.heap.size,0,none⟩) (Nat.lt_of_lt_of_le sW s2)).trans y20;have y31:=(f.cell (p:=⟨w.heap.size,1,none⟩) (Nat.lt_of_lt_of_le sW s2)).trans y21;have y32:=(f.cell (p:=⟨w.heap.size,2,none⟩) (Nat.lt_of_lt_of_le sW s2)).trans y22;have y33:=(f.cell (p:=⟨w.heap.size,3,none⟩) (Nat.lt_of_lt_of_le sW s2)).trans y23;have y34:=(f.cell (p:=⟨w.heap.size,4,none⟩) (Nat.lt_of_lt_of_le sW s2)).trans y24;have y35:=(f.cell (p:=⟨w.heap.size,5,none⟩) (Nat.lt_of_lt_of_le sW s2)).trans y25;have y36:=(f.cell (p:=⟨w.heap.size,6,none⟩) (Nat.lt_of_lt_of_le sW s2)).trans y26;have O3:=Qc (O2.o.trans (f.mono O2.o.size));have s3:=Nat.le_trans s2 f.size;clear f))
 all_goals
  go_wp2_with fail;go_ret;refine⟨?_,O3.o⟩;rw[show (rgT t++61::(rgT n++UInt8.ofNat (opS o)::rgT m))=((((rgT t++[61])++rgT n)++[UInt8.ofNat (opS o)])++rgT m) from by simp,←Zl,←Zl,←Zl,←Zl];rfl
def At(s:ByteArray):Nat→List UInt8→Prop
 | _,[]=>True
 | i,c::l=>i<s.size∧byt s i=c.toNat∧At s (i+1) l
theorem ZC{s:ByteArray}:∀{l k:List UInt8}{i:Nat},At s i (l++k)↔At s i l∧At s (i+l.length) k
 | [],k,i=>by simp[At]
 | c::l,k,i=>by
  rw[List.cons_append,At,At,ZC (l:=l),List.length_cons,show i+1+l.length=i+(l.length+1) from by omega];exact⟨fun⟨a,b,c,d⟩=>⟨⟨a,b,c⟩,d⟩,fun⟨⟨a,b,c⟩,d⟩=>⟨a,b,c,d⟩⟩
theorem Qe7(l:List UInt8):At ⟨l.toArray⟩ 0 l:=by
 suffices h:∀(p q:List UInt8),l=p++q→At ⟨l.toArray⟩ p.length q from h [] l rfl
 intro p q
 induction q generalizing p with
 | nil=>intro _;trivial
 | cons c q ih=>
  intro e;have hz:(ByteArray.mk l.toArray).size=l.length:=by simp[ByteArray.size]
  have hl:p.length<l.length:=by rw[e,List.length_append,List.length_cons];omega
  refine⟨by rw[hz];exact hl,?_,?_⟩
  ·rw[byt,dif_pos (by rw[hz];exact hl)];show (l.toArray[p.length]'(by simpa using hl)).toNat=_
   congr 1
   rw[List.getElem_toArray];subst e;simp
  ·have:=ih (p++[c]) (by rw[e,List.append_assoc];rfl)
   rwa [List.length_append,List.length_singleton]at this
theorem Jk{s i c l}(h:At s i (c::l)):onF s i (-1) c.toNat=true:=by
 obtain⟨h1,h2,_⟩:=h;simp[onF,h1,h2]
theorem Ze{s i c l}{d:Nat}(h:At s i (c::l))(hd:c.toNat≠d):onF s i (-1) d=false:=by
 obtain⟨h1,h2,_⟩:=h;simp[onF,h1,h2,hd]
theorem Qdy{s i}{d:Nat}(h:i=s.size):onF s i (-1) d=false:=by
 simp[onF,h]
theorem JT{s i c l}(h:At s i (c::l)):gotI s i (-1) c.toNat=i+1:=by rw[gotI,Jk h];rfl
theorem Jf{s i c l}(h:At s i (c::l)):mustB s i (-1) c.toNat=-1:=by rw[mustB,Jk h];rfl
def Nd(s:ByteArray)(i:Nat):Prop:=Q9 s i (-1)=false
theorem JR{s i c l}(h:At s i (c::l))(hd:c.toNat<48∨57<c.toNat):Nd s i:=by
 obtain⟨h1,h2,_⟩:=h;unfold Nd Q9;rcases hd with hd|hd
 ·simp[h1,h2];omega
 ·simp[h1,h2];omega
theorem QhX{s:ByteArray} {i}(h:i=s.size):Nd s i:=by simp[Nd,Q9,h]
theorem Jq{s i x l}(h:At s i (UInt8.ofNat (48+x)::l))(hx:x<10):Q9 s i (-1)=true∧byt s i=48+x∧At s (i+1) l:=by
 obtain⟨h1,h2,h3⟩:=h;have e:(UInt8.ofNat (48+x)).toNat=48+x:=by
  rw[UInt8.toNat_ofNat'];exact Nat.mod_eq_of_lt (by omega)
 rw[e]at h2;refine⟨?_,h2,h3⟩;simp[Q9,h1,h2];omega
theorem KF{s i n}(hn:n<10000)(h:At s i (Lib.decDigits n))(hd:Nd s (i+(Lib.decDigits n).length)):
  numN s i (-1)=n∧numI s i (-1)=i+(Lib.decDigits n).length∧Zd s i (-1)=-1:=by
 unfold Nd at hd;by_cases h1:n<10
 ·rw[GY h1]at h hd ⊢;obtain⟨d0,b0,_⟩:=Jq h h1;simp only[List.length_singleton]at hd ⊢;simp[numN,numI,Zd,d0,QY,hd,b0]
 by_cases h2:n<100
 ·rw[Uw h1,GY (by omega)]at h hd ⊢;obtain⟨d0,b0,h⟩:=Jq h (by omega);obtain⟨d1,b1,_⟩:=Jq h (by omega);simp only[List.length_append,List.length_singleton]at hd ⊢;have hd:Q9 s (i+2) (-1)=false:=hd;have d1:Q9 s (i+1) (-1)=true:=d1;have b1:byt s (i+1)=_:=b1;have z:10≤n:=by omega
  simp[numN,numI,Zd,d0,QY,hd,b0,d1,b1,z];omega
 by_cases h3:n<1000
 ·rw[Uw h1,Uw (n:=n / 10) (by omega),GY (n:=n / 10 / 10) (by omega)]at h hd ⊢;obtain⟨d0,b0,h⟩:=Jq h (by omega);obtain⟨d1,b1,h⟩:=Jq h (by omega);obtain⟨d2,b2,_⟩:=Jq h (by omega);simp only[List.length_append,List.length_singleton]at hd ⊢;have hd:Q9 s (i+3) (-1)=false:=hd;have z:¬(n / 10 / 10=0):=by omega
  simp[numN,numI,Zd,d0,QY,hd,b0,d1,b1,d2,b2,z];omega
 ·rw[Uw h1,Uw (n:=n / 10) (by omega),Uw (n:=n / 10 / 10) (by omega),GY (n:=n / 10 / 10 / 10) (by omega)]at h hd ⊢;obtain⟨d0,b0,h⟩:=Jq h (by omega);obtain⟨d1,b1,h⟩:=Jq h (by omega);obtain⟨d2,b2,h⟩:=Jq h (by omega);obtain⟨d3,b3,_⟩:=Jq h (by omega);simp only[List.length_append,List.length_singleton]at hd ⊢;have z:¬(n / 10 / 10 / 10=0):=by omega
  simp[numN,numI,Zd,d0,QY,b0,d1,b1,d2,b2,d3,b3,z];omega
theorem Qbe{s i n l}(hn:n<10000)(h:At s i (Lib.decDigits n++l))(hd:Nd s (i+(Lib.decDigits n).length)):
  numN s i (-1)=n∧numI s i (-1)=i+(Lib.decDigits n).length∧Zd s i (-1)=-1:=KF hn (ZC.1 h).1 hd
theorem JM{s i n}(hn:n<10000)(h:At s i (rgT n))(hd:Nd s (i+(rgT n).length)):
  regN s i (-1)=n∧regI s i (-1)=i+(rgT n).length∧regB s i (-1)=-1:=by
 unfold rgT at h hd ⊢;have g:=JT h;have m:=Jf h;have h2:At s (i+1) (Lib.decDigits n):=h.2.2;rw[List.length_cons]at hd ⊢;have k:=KF hn h2 (by rwa [show i+1+(Lib.decDigits n).length=i+((Lib.decDigits n).length+1) from by omega]);unfold regN regI regB;rw[show (114:Nat)=(114:UInt8).toNat from rfl,g,m];exact⟨k.1,by rw[k.2.1];omega,k.2.2⟩
def gvT:ASt→List UInt8
 | .val _ n=>Lib.itoa n
 | .cp _ a=>rgT a
 | .op o _ a b=>rgT a++UInt8.ofNat o::rgT b
 | .inp _=>[63]
 | .out a=>rgT a
def stT:ASt→List UInt8
 | .val t n=>rgT t++61::gvT (.val t n)
 | .cp t a=>rgT t++61::gvT (.cp t a)
 | .op o t a b=>rgT t++61::gvT (.op o t a b)
 | .inp t=>rgT t++61::gvT (.inp t)
 | .out a=>33::rgT a
def OkS:ASt→Prop
 | .val t n=>t<10000∧n.natAbs<10000
 | .cp t a=>t<10000∧a<10000
 | .op o t a b=>(o=43∨o=45∨o=42∨o=60)∧t<10000∧a<10000∧b<10000
 | .inp t=>t<10000
 | .out a=>a<10000
def toS:ASt→Nat
 | .val t _=>t
 | .cp t _=>t
 | .op _ t _ _=>t
 | .inp t=>t
 | .out _=>0
def UV:ASt→Prop
 | .out _=>True
 | _=>False
theorem Nz(n:Nat):∃x l,Lib.decDigits n=UInt8.ofNat (48+x)::l∧x<10∧(0<n→0<x):=by
 induction n using Nat.strongRecOn with
 | _ n ih=>
  by_cases h:n<10
  ·exact⟨n,[],GY h,h,id⟩
  ·obtain⟨x,l,e,h1,h2⟩:=ih (n / 10) (by omega);exact⟨x,l++[UInt8.ofNat (48+n % 10)],by rw[Uw h,e];rfl,h1,fun _=>h2 (by omega)⟩
theorem N9{s i n l}{d:Nat}(h:At s i (Lib.decDigits n++l))(hd:d<48∨57<d):onF s i (-1) d=false:=by
 obtain⟨x,k,e,hx,_⟩:=Nz n;rw[e]at h;obtain⟨h1,h2,_⟩:=Jq (l:=k++l) h hx;refine Ze (c:=UInt8.ofNat (48+x)) (l:=k++l) h ?_;rw[←h.2.1,h2];omega
theorem QfV{s i n l}(h:At s i (Lib.decDigits n++l))(hn:0<n):onF s i (-1) 48=false:=by
 obtain⟨x,k,e,hx,h0⟩:=Nz n;rw[e]at h;obtain⟨h1,h2,_⟩:=Jq (l:=k++l) h hx;refine Ze (c:=UInt8.ofNat (48+x)) (l:=k++l) h ?_;rw[←h.2.1,h2];have:=h0 hn;omega
theorem Xi{s i n l}{d:Nat}(h:At s i (rgT n++l))(hd:d≠114):onF s i (-1) d=false:=Ze (c:=114) h (fun e=>hd e.symm)
theorem QaU{s i n l}(h:At s i (rgT n++l)):onF s i (-1) 114=true:=Jk (c:=114) h
theorem Qdt{s i c l}(h:At s i (c::l))(h1:c.toNat=59):opC s i (-1)=0∧opI s i (-1)=i∧opB s i (-1)=-1:=by
 unfold opC opI opB;simp[Ze h (d:=43) (by omega),Ze h (d:=45) (by omega),Ze h (d:=42) (by omega),Ze h (d:=60) (by omega),Ze h (d:=195) (by omega)]
theorem QhM{s i o l}(h:At s i (UInt8.ofNat o::l))(ho:o=43∨o=45∨o=42∨o=60):opC s i (-1)=o∧opI s i (-1)=i+1∧opB s i (-1)=-1:=by
 unfold opC opI opB;have h0:=Jk h;rcases ho with rfl|rfl|rfl|rfl
 ·have h0:onF s i (-1) 43=true:=h0;simp[h0]
 ·have h0:onF s i (-1) 45=true:=h0;have h1:onF s i (-1) 43=false:=Ze h (by decide);simp[h0,h1]
 ·have h0:onF s i (-1) 42=true:=h0;have h1:onF s i (-1) 43=false:=Ze h (by decide);have h2:onF s i (-1) 45=false:=Ze h (by decide);simp[h0,h1,h2]
 ·have h0:onF s i (-1) 60=true:=h0;have h1:onF s i (-1) 43=false:=Ze h (by decide);have h2:onF s i (-1) 45=false:=Ze h (by decide);have h3:onF s i (-1) 42=false:=Ze h (by decide);simp[h0,h1,h2,h3]
theorem Qek{s i tn ti}{t:ASt}{l:List UInt8}(hk:OkS t)(ho:¬UV t)(h:At s i (gvT t++59::l))(ht:tn=toS t):
  QA (givF s (tn,ti) i (-1)).st=t∧(givF s (tn,ti) i (-1)).i=i+(gvT t).length∧(givF s (tn,ti) i (-1)).bad=-1:=by
 have hE:At s (i+(gvT t).length) (59::l):=(ZC.1 h).2;have hN:Nd s (i+(gvT t).length):=JR hE (by decide)
 match t,hk,ho,ht with
 | .out a,_,ho,_=>exact absurd trivial ho
 | .inp t,hk,_,ht=>
  have h0:onF s i (-1) 63=true:=Jk (c:=63) h;subst ht;simp[givF,h0,QA,gvT]
 | .cp t a,hk,_,ht=>
  have h0:onF s i (-1) 63=false:=Xi h (by decide);have h1:onF s i (-1) 114=true:=QaU h;obtain⟨r1,r2,r3⟩:=JM hk.2 (ZC.1 h).1 hN;obtain⟨o1,o2,o3⟩:=Qdt hE rfl;simp only[gvT]at o1 o2 o3;subst ht;simp[givF,h0,h1,r1,r2,r3,o1,o2,o3,QA,gvT]
 | .op o t a b,⟨ho,hto,ha,hb⟩,_,ht=>
  have h0:onF s i (-1) 63=false:=by
   have h:At s i ((rgT a++UInt8.ofNat o::rgT b)++59::l):=h;rw[List.append_assoc]at h;exact Xi h (by decide)
  have h1:onF s i (-1) 114=true:=by
   have h:At s i ((rgT a++UInt8.ofNat o::rgT b)++59::l):=h;rw[List.append_assoc]at h;exact QaU h
  have hA:At s i (rgT a++UInt8.ofNat o::rgT b):=(ZC.1 h).1;have hO:=(ZC.1 hA).2;have hon:(UInt8.ofNat o).toNat<48∨57<(UInt8.ofNat o).toNat:=by
   rcases ho with rfl|rfl|rfl|rfl<;>decide
  obtain⟨r1,r2,r3⟩:=JM ha (ZC.1 hA).1 (JR hO hon);obtain⟨o1,o2,o3⟩:=QhM hO ho;have e:i+(gvT (.op o t a b)).length=i+(rgT a).length+1+(rgT b).length:=by
   simp only[gvT,List.length_append,List.length_cons];omega
  rw[e]at hN ⊢;obtain⟨q1,q2,q3⟩:=JM hb hO.2.2 hN;have on0:¬o=0:=by omega
  subst ht;have e1:QA ⟨o,(tn,ti),(a,i),(b,i+(rgT a).length+1),0⟩=.op o tn a b:=by
   unfold QA;rw[if_neg (by show ¬o=118;omega),if_neg (by show ¬o=99;omega),if_neg (by show ¬o=33;omega),if_neg (by show ¬o=63;omega)]
  simp[givF,h0,h1,r1,r2,r3,o1,o2,o3,q1,q2,q3,on0,e1]
 | .val t n,hk,_,ht=>
  obtain⟨hto,hn⟩:=hk;subst ht;by_cases hneg:n<0
  ·have e:gvT (.val tn n)=45::Lib.decDigits n.natAbs:=by rw[gvT,Lib.itoa,if_pos hneg]
   rw[e]at h hN ⊢;have h:At s i (45::(Lib.decDigits n.natAbs++59::l)):=h;have h0:onF s i (-1) 63=false:=Ze h (by decide);have h1:onF s i (-1) 114=false:=Ze h (by decide);have h2:onF s i (-1) 45=true:=Jk (c:=45) h;have h3:onF s (i+1) (-1) 48=false:=QfV h.2.2 (by omega);have e2:i+(45::Lib.decDigits n.natAbs).length=i+1+(Lib.decDigits n.natAbs).length:=by rw[List.length_cons];omega
   rw[e2]at hN ⊢;obtain⟨q1,q2,q3⟩:=Qbe hn h.2.2 hN;have:-(n.natAbs:Int)=n:=by omega
   simp[givF,h0,h1,h2,h3,q1,q2,q3,QA];omega
  ·have e:gvT (.val tn n)=Lib.decDigits n.toNat:=by rw[gvT,Lib.itoa,if_neg hneg]
   rw[e]at h hN ⊢;have h0:onF s i (-1) 63=false:=N9 h (by decide);have h1:onF s i (-1) 114=false:=N9 h (by decide);have h2:onF s i (-1) 45=false:=N9 h (by decide);obtain⟨q1,q2,q3⟩:=Qbe (by omega) h hN;simp[givF,h0,h1,h2,q1,q2,q3,QA];omega
def enT(e:AEn):List UInt8:=if e.op=46 then [46] else if e.op=62 then 62::Lib.decDigits e.one else rgT e.a++63::(Lib.decDigits e.one++58::Lib.decDigits e.two)
def OkE(e:AEn):Prop:=(e.op=46∧e.a=0∧e.one=0∧e.two=0)∨(e.op=62∧e.a=0∧e.one<10000∧e.two=0)∨(e.op=63∧e.a<10000∧e.one<10000∧e.two<10000)
def ZW(l:List ASt):List UInt8:=l.flatMap fun t=>stT t++[59]
theorem XJ(t:ASt)(l:List ASt):ZW (t::l)=stT t++59::ZW l:=by simp[ZW]
theorem Gp{t:ASt}(h:¬UV t):stT t=rgT (toS t)++61::gvT t:=by
 cases t with
 | out a=>exact absurd trivial h
 | _=>rfl
theorem QcJ{t:ASt}(h:OkS t):toS t<10000:=by
 cases t with
 | val t n=>exact h.1
 | cp t a=>exact h.1
 | op o t a b=>exact h.2.1
 | inp t=>exact h
 | out a=>show 0<10000;omega
structure QgR(r:Blk)(sts:List ASt)(e:AEn)(i:Nat):Prop where
 chs:r.b.chs=[]
 sts:r.b.sts.map QA=sts
 e:Zc r.b.e=e
 i:r.i=i
 bad:r.bad=-1
theorem Qff(l:List ASt):l.length≤(ZW l).length:=by
 induction l with
 | nil=>exact Nat.le_refl _
 | cons t l ih=>rw[XJ,List.length_append,List.length_cons,List.length_cons];omega
def OldS:ASt→Prop
 | .val t _=>t<5000
 | .cp t a=>t<5000∧a<5000
 | .op _ t a b=>t<5000∧a<5000∧b<5000
 | .inp t=>t<5000
 | .out a=>a<5000
def OldC(c:ACh):Prop:=c.to<5000∧∀p∈c.src,p.2<5000
structure OldB(b:ABk):Prop where
 sts:∀t∈b.sts,OldS t
 chs:∀c∈b.chs,OldC c
 e:b.e.a<5000
structure Qjh(bs:List ABk):Prop where
 old:∀b∈bs,OldB b
 one:∀b∈bs,b.e.op≠46→b.e.one<bs.length
 two:∀b∈bs,b.e.op=63→b.e.two<bs.length
 ahead:∀i (hi:i<bs.length) t (ht:t<bs.length),bs[i].e.op≠46→(t=bs[i].e.one∨(bs[i].e.op=63∧t=bs[i].e.two))→∀c∈bs[t].chs,∃p∈c.src,p.1=i
end Go.Proofs.YtgfhfkgdmidhpaaGreatDoor
