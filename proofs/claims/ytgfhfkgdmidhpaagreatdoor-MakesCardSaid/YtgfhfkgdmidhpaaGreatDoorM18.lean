import Derived.Shelf.Strings.Builder1
import Derived.Shelf.Strings.Builder2
import Derived.Shelf.Strings.OnBuilder
import Derived.Shelf.Strconv.Itoa0
import Derived.Shelf.Strconv.Itoa1
import Derived.Shelf.LaysM
import Derived.Shelf.Strconv.Itoa2
import Derived.Shelf.Strconv.Itoa3
import Derived.Shelf.Strconv.Itoa4
import Derived.Test.YtgfhfkgdmidhpaaGreatDoorM08
import Derived.Test.YtgfhfkgdmidhpaaGreatDoorM04
namespace Go.Proofs.YtgfhfkgdmidhpaaGreatDoor
open Go.Shelf
open Go.Proofs.Tryz
set_option maxRecDepth 100000
set_option maxHeartbeats 8000000
def Tryz.lays156_ren:Go.Shelf.Ren:=⟨fun|156=>47|165=>84|166=>85|169=>86|240=>141|241=>142|276=>189|277=>190|n=>n,fun|31=>98|9=>9|3=>3|4=>4|0=>0|20=>20|72=>182|76=>186|70=>179|37=>180|75=>185|127=>253|164=>300|5=>5|80=>42|n=>n,fun|n=>n⟩
theorem Tryz.lays156:Go.Proofs.Lays.n156 prog Tryz.lays156_ren:={
 mixed:=by kernel_rfl
 f156:=func47.trans (congrArg some (by kernel_rfl))
 f165:=func84.trans (congrArg some (by kernel_rfl))
 f166:=func85.trans (congrArg some (by kernel_rfl))
 f169:=func86.trans (congrArg some (by kernel_rfl))
 f240:=func141.trans (congrArg some (by kernel_rfl))
 f241:=func142.trans (congrArg some (by kernel_rfl))
 f276:=func189.trans (congrArg some (by kernel_rfl))
 f277:=func190.trans (congrArg some (by kernel_rfl))
 t0:=underlying0
 a0:=isAgg0
 z0:=sizeOf0
 v0:=zeroValue0
 t3:=underlying3
 a3:=isAgg3
 z3:=sizeOf3
 v3:=zeroValue3
 t4:=underlying4
 a4:=isAgg4
 z4:=sizeOf4
 v4:=zeroValue4
 t9:=underlying9
 a9:=isAgg9
 z9:=sizeOf9
 v9:=zeroValue9
 t20:=underlying20
 a20:=isAgg20
 z20:=sizeOf20
 v20:=zeroValue20
 t31:=underlying98
 a31:=isAgg98
 z31:=sizeOf98
 v31:=zeroValue98
 t37:=underlying180
 a37:=isAgg180
 z37:=sizeOf180
 v37:=zeroValue180
 t70:=underlying179
 a70:=isAgg179
 z70:=sizeOf179
 v70:=zeroValue179
 t72:=underlying182
 a72:=isAgg182
 z72:=sizeOf182
 v72:=zeroValue182
 t75:=underlying185
 a75:=isAgg185
 z75:=sizeOf185
 v75:=zeroValue185
 t76:=underlying186
 a76:=isAgg186
 z76:=sizeOf186
 v76:=zeroValue186
 t127:=underlying253
 a127:=isAgg253
 z127:=sizeOf253
 v127:=zeroValue253
 t164:=underlying300
 a164:=isAgg300
 z164:=sizeOf300
 v164:=zeroValue300 }
theorem Tryz.Builder_Extra_156:Builder.Extra prog Tryz.lays156_ren:={
 sizeBuilder:=by kernel_rfl
 liesBuilder:=by kernel_rfl
 t5:=underlying5
 a5:=isAgg5
 z5:=sizeOf5
 v5:=zeroValue5
 infoByte:=by kernel_rfl
 cellsByte:=by kernel_rfl
 sizeByte:=by kernel_rfl
 neB5:=by decide }
open Go.RowKit in
theorem Tryz.strings_Join_none(a:Option Addr)(c:Nat)(sep:ByteArray)(w:World):
  Calls prog 47 #[.slice a 0 c,.string sep] w fun e w'=>e=.returned (.string ⟨#[]⟩)∧w'=w:=Any.strings_Join_none Tryz.lays156 Tryz.Builder_Extra_156 a c sep w
open Go.RowKit in
theorem Tryz.strings_Join(bk o c:Nat)(xs:List ByteArray)(sep:ByteArray)(w:World)(hcells:∀(j:Nat) x,xs[j]?=some x→w.cell? ⟨bk,o+j,none⟩=some (.string x))(hbk:bk<w.heap.size)(hN:xs.length≤140737488355328)(hcap:xs.length≤c)(hlen:(Lib.join (xs.map (·.data.toList)) sep.data.toList).length≤140737488355328):
  Calls prog 47 #[.slice (some ⟨bk,o,none⟩) xs.length c,.string sep] w fun e w'=>e=.returned (.string ⟨(Lib.join (xs.map (·.data.toList)) sep.data.toList).toArray⟩)∧Below w.heap.size w w':=Any.strings_Join Tryz.lays156 Tryz.Builder_Extra_156 bk o c xs sep w hcells hbk hN hcap hlen
def Tryz.laysM171_ren:Go.Shelf.Ren:=⟨fun|171=>188|243=>215|246=>242|283=>254|284=>255|285=>256|286=>257|129=>232|317=>261|318=>262|319=>263|320=>264|337=>267|338=>268|n=>n,fun|3=>3|9=>9|2=>2|4=>4|171=>363|0=>0|53=>345|37=>180|5=>5|173=>365|212=>375|51=>343|20=>20|213=>376|46=>286|232=>380|233=>381|n=>n,fun|17=>1|18=>2|19=>3|n=>n⟩
theorem Tryz.laysM171:Go.Proofs.LaysM.n171 prog Tryz.laysM171_ren:={
 mixed:=by kernel_rfl
 f129:=func232.trans (congrArg some (by kernel_rfl))
 f171:=func188.trans (congrArg some (by kernel_rfl))
 f243:=func215.trans (congrArg some (by kernel_rfl))
 f246:=func242.trans (congrArg some (by kernel_rfl))
 f283:=func254.trans (congrArg some (by kernel_rfl))
 f284:=func255.trans (congrArg some (by kernel_rfl))
 f285:=func256.trans (congrArg some (by kernel_rfl))
 f286:=func257.trans (congrArg some (by kernel_rfl))
 f317:=func261.trans (congrArg some (by kernel_rfl))
 f318:=func262.trans (congrArg some (by kernel_rfl))
 f319:=func263.trans (congrArg some (by kernel_rfl))
 f320:=func264.trans (congrArg some (by kernel_rfl))
 f337:=func267.trans (congrArg some (by kernel_rfl))
 f338:=func268.trans (congrArg some (by kernel_rfl))
 t0:=underlying0
 a0:=isAgg0
 z0:=sizeOf0
 v0:=zeroValue0
 t2:=underlying2
 a2:=isAgg2
 z2:=sizeOf2
 v2:=zeroValue2
 t3:=underlying3
 a3:=isAgg3
 z3:=sizeOf3
 v3:=zeroValue3
 t4:=underlying4
 a4:=isAgg4
 z4:=sizeOf4
 v4:=zeroValue4
 t5:=underlying5
 a5:=isAgg5
 z5:=sizeOf5
 v5:=zeroValue5
 t9:=underlying9
 a9:=isAgg9
 z9:=sizeOf9
 v9:=zeroValue9
 t20:=underlying20
 a20:=isAgg20
 z20:=sizeOf20
 v20:=zeroValue20
 t37:=underlying180
 a37:=isAgg180
 z37:=sizeOf180
 v37:=zeroValue180
 t46:=underlying286
 a46:=isAgg286
 z46:=sizeOf286
 v46:=zeroValue286
 t51:=underlying343
 a51:=isAgg343
 z51:=sizeOf343
 v51:=zeroValue343
 t53:=underlying345
 a53:=isAgg345
 z53:=sizeOf345
 v53:=zeroValue345
 t171:=underlying363
 a171:=isAgg363
 z171:=sizeOf363
 v171:=zeroValue363
 t173:=underlying365
 a173:=isAgg365
 z173:=sizeOf365
 v173:=zeroValue365
 t212:=underlying375
 a212:=isAgg375
 z212:=sizeOf375
 v212:=zeroValue375
 t213:=underlying376
 a213:=isAgg376
 z213:=sizeOf376
 t232:=underlying380
 a232:=isAgg380
 z232:=sizeOf380
 v232:=zeroValue380
 t233:=underlying381
 a233:=isAgg381
 z233:=sizeOf381
 v233:=zeroValue381
 g17:=by kernel_rfl
 g18:=by kernel_rfl
 g19:=by kernel_rfl
 i0:=by kernel_rfl
 i2:=by kernel_rfl
 i3:=by kernel_rfl
 i4:=by kernel_rfl
 i5:=by kernel_rfl
 i9:=by kernel_rfl
 i20:=by kernel_rfl
 i37:=by kernel_rfl
 i46:=by kernel_rfl
 i51:=by kernel_rfl
 i53:=by kernel_rfl
 i171:=by kernel_rfl
 i173:=by kernel_rfl
 i212:=by kernel_rfl
 i232:=by kernel_rfl
 i233:=by kernel_rfl
 m17:=by kernel_rfl
 m18:=by kernel_rfl
 m19:=by kernel_rfl }
open Go.RowKit Go.Sort Go.Lib in
theorem Tryz.strconv_Itoa(n:Int)(h0:-9223372036854775808≤n)(h1:n≤9223372036854775807)(w:World)(htab:Lib.TabIs prog w "internal/strconv.uint64pow10" .u64 Lib.pow10Tab):
  Calls prog 188 #[.int .i64 n] w fun e w'=>e=.returned (.string ⟨(Lib.itoa n).toArray⟩)∧∃k os,w'=grow (w.drewN k) os:=Any.strconv_Itoa Tryz.laysM171 n h0 h1 w htab
def Tryz.laysM173_ren:Go.Shelf.Ren:=⟨fun|173=>299|246=>242|283=>254|284=>255|285=>256|286=>257|129=>232|317=>261|318=>262|319=>263|320=>264|337=>267|338=>268|n=>n,fun|2=>2|3=>3|9=>9|4=>4|171=>363|0=>0|53=>345|37=>180|5=>5|173=>365|212=>375|51=>343|20=>20|213=>376|46=>286|232=>380|233=>381|n=>n,fun|17=>1|18=>2|19=>3|n=>n⟩
theorem Tryz.laysM173:Go.Proofs.LaysM.n173 prog Tryz.laysM173_ren:={
 mixed:=by kernel_rfl
 f129:=func232.trans (congrArg some (by kernel_rfl))
 f173:=func299.trans (congrArg some (by kernel_rfl))
 f246:=func242.trans (congrArg some (by kernel_rfl))
 f283:=func254.trans (congrArg some (by kernel_rfl))
 f284:=func255.trans (congrArg some (by kernel_rfl))
 f285:=func256.trans (congrArg some (by kernel_rfl))
 f286:=func257.trans (congrArg some (by kernel_rfl))
 f317:=func261.trans (congrArg some (by kernel_rfl))
 f318:=func262.trans (congrArg some (by kernel_rfl))
 f319:=func263.trans (congrArg some (by kernel_rfl))
 f320:=func264.trans (congrArg some (by kernel_rfl))
 f337:=func267.trans (congrArg some (by kernel_rfl))
 f338:=func268.trans (congrArg some (by kernel_rfl))
 t0:=underlying0
 a0:=isAgg0
 z0:=sizeOf0
 v0:=zeroValue0
 t2:=underlying2
 a2:=isAgg2
 z2:=sizeOf2
 v2:=zeroValue2
 t3:=underlying3
 a3:=isAgg3
 z3:=sizeOf3
 v3:=zeroValue3
 t4:=underlying4
 a4:=isAgg4
 z4:=sizeOf4
 v4:=zeroValue4
 t5:=underlying5
 a5:=isAgg5
 z5:=sizeOf5
 v5:=zeroValue5
 t9:=underlying9
 a9:=isAgg9
 z9:=sizeOf9
 v9:=zeroValue9
 t20:=underlying20
 a20:=isAgg20
 z20:=sizeOf20
 v20:=zeroValue20
 t37:=underlying180
 a37:=isAgg180
 z37:=sizeOf180
 v37:=zeroValue180
 t46:=underlying286
 a46:=isAgg286
 z46:=sizeOf286
 v46:=zeroValue286
 t51:=underlying343
 a51:=isAgg343
 z51:=sizeOf343
 v51:=zeroValue343
 t53:=underlying345
 a53:=isAgg345
 z53:=sizeOf345
 v53:=zeroValue345
 t171:=underlying363
 a171:=isAgg363
 z171:=sizeOf363
 v171:=zeroValue363
 t173:=underlying365
 a173:=isAgg365
 z173:=sizeOf365
 v173:=zeroValue365
 t212:=underlying375
 a212:=isAgg375
 z212:=sizeOf375
 v212:=zeroValue375
 t213:=underlying376
 a213:=isAgg376
 z213:=sizeOf376
 t232:=underlying380
 a232:=isAgg380
 z232:=sizeOf380
 v232:=zeroValue380
 t233:=underlying381
 a233:=isAgg381
 z233:=sizeOf381
 v233:=zeroValue381
 g17:=by kernel_rfl
 g18:=by kernel_rfl
 g19:=by kernel_rfl
 i0:=by kernel_rfl
 i2:=by kernel_rfl
 i3:=by kernel_rfl
 i4:=by kernel_rfl
 i5:=by kernel_rfl
 i9:=by kernel_rfl
 i20:=by kernel_rfl
 i37:=by kernel_rfl
 i46:=by kernel_rfl
 i51:=by kernel_rfl
 i53:=by kernel_rfl
 i171:=by kernel_rfl
 i173:=by kernel_rfl
 i212:=by kernel_rfl
 i232:=by kernel_rfl
 i233:=by kernel_rfl
 m17:=by kernel_rfl
 m18:=by kernel_rfl
 m19:=by kernel_rfl }
open Go.RowKit Go.Sort Go.Lib in
theorem Tryz.strconv_FormatInt_10(n:Int)(h0:-9223372036854775808≤n)(h1:n≤9223372036854775807)(w:World)(htab:Lib.TabIs prog w "internal/strconv.uint64pow10" .u64 Lib.pow10Tab):
  Calls prog 299 #[.int .i64 n,.int .i64 10] w fun e w'=>e=.returned (.string ⟨(Lib.itoa n).toArray⟩)∧∃k os,w'=grow (w.drewN k) os:=Any.strconv_FormatInt_10 Tryz.laysM173 n h0 h1 w htab
end Go.Proofs.YtgfhfkgdmidhpaaGreatDoor
namespace Go.Proofs.YtgfhfkgdmidhpaaGreatDoor
open Go.RowKit
open Go.Proofs.Tryz
set_option maxRecDepth 100000
set_option maxHeartbeats 8000000
def Tab(w:World):Prop:=∀w',Below w.heap.size w w'→Lib.TabIs prog w' "internal/strconv.uint64pow10" .u64 Lib.pow10Tab
theorem Tab.keep{w w':World}(h:Tab w)(F:Below w.heap.size w w'):Tab w':=fun w2 F2=>h w2 (F.trans (F2.mono F.size))
theorem Tab.here{w:World}(h:Tab w):Lib.TabIs prog w "internal/strconv.uint64pow10" .u64 Lib.pow10Tab:=h w (Below.refl _ _)
theorem Qat(w:World)(k:Nat)(os:Array Obj):Below w.heap.size w (Sort.grow (w.drewN k) os):=
 ⟨rfl,rfl,rfl,by simp[Sort.grow],fun j hj=>by simp[Sort.grow,Array.getElem?_append,hj]⟩
theorem ZF(a b:List UInt8):(⟨a.toArray⟩:ByteArray)++⟨b.toArray⟩=⟨(a++b).toArray⟩:=by
 apply ByteArray.ext;simp
def rgT(n:Nat):List UInt8:=114::Lib.decDigits n
theorem RR{n:Nat}(h:n<10):Lib.decDigits n=[UInt8.ofNat (48+n)]:=Lib.decDigits_one h
theorem Gk{n:Nat}(h:¬n<10):Lib.decDigits n=Lib.decDigits (n / 10)++[UInt8.ofNat (48+n % 10)]:=by rw[Lib.decDigits,dif_neg h]
theorem XJ{n:Nat}(h:n<10000):(Lib.decDigits n).length≤4:=by
 by_cases h1:n<10
 ·rw[RR h1];simp
 rw[Gk h1,Qw,List.length_singleton];by_cases h2:n / 10<10
 ·rw[RR h2];simp
 rw[Gk h2,Qw,List.length_singleton];by_cases h3:n / 10 / 10<10
 ·rw[RR h3];simp
 rw[Gk h3,Qw,List.length_singleton,RR (by omega)];simp
theorem X3{n:Nat}(h:n<10000):(rgT n).length≤5:=by
 unfold rgT;rw[QO];have:=XJ h;omega
theorem Qe3(n:Nat):Lib.itoa n=Lib.decDigits n:=by
 unfold Lib.itoa;rw[if_neg (by omega)];simp
theorem QiJ(n:Nat)(w w0:World)(hn:n<10000)(ht:Tab w0)(F:Below w0.heap.size w0 w):
  Calls prog 188 #[.int .i64 n] w fun e w'=>e=.returned (.string ⟨(Lib.decDigits n).toArray⟩)∧Below w.heap.size w w':=by
 refine(Tryz.strconv_Itoa n (by omega) (by omega) w (ht.keep F).here).mono ?_;rintro e w1 ⟨rfl,k,os,rfl⟩;exact⟨by rw[Qe3],Qat _ _ _⟩
theorem RL(n a:Nat)(w:World)(hn:n<10000)(ht:Tab w):
  Calls prog 139 #[.agg #[.int .i64 n,.int .i64 a]] w fun e w'=>e=.returned (.string ⟨(Lib.decDigits n).toArray⟩)∧Below w.heap.size w w':=by
 go_enter func139,ntmps139;go_wp2_with fail;have F1:=(Below.refl w.heap.size w).alloc (Qi _) (.cells #[.int .i64 n,.int .i64 a] 145);refine(QiJ n _ w hn ht F1).mono ?_;rintro e w1 ⟨rfl,f1⟩;have F2:=F1.trans (f1.mono F1.size);clear F1 f1;go_wp2_with fail;go_ret;exact⟨rfl,F2⟩
theorem Yp(n a:Nat)(w:World)(hn:n<10000)(ht:Tab w):
  Calls prog 140 #[.agg #[.int .i64 n,.int .i64 a]] w fun e w'=>e=.returned (.string ⟨(rgT n).toArray⟩)∧Below w.heap.size w w':=by
 have hl:=XJ hn;have hz:¬9223372036854775807<1+(Lib.decDigits n).length:=by omega
 go_enter func140,ntmps140;go_wp2_with fail;have F1:=(Below.refl w.heap.size w).alloc (Qi _) (.cells #[.int .i64 n,.int .i64 a] 132);refine(QiJ n _ w hn ht F1).mono ?_;rintro e w1 ⟨rfl,f1⟩;have F2:=F1.trans (f1.mono F1.size);clear F1 f1;go_wp2_with fail;go_ret;exact⟨congrArg (fun x=>Ending.returned (.string x)) (ZF [114] _),F2⟩
theorem VR{w w':World}(F:Below w.heap.size w w'):Below w.heap.size w w'.drew:=⟨F.os,F.tape,F.output,F.size,F.block⟩
theorem Jy{w w':World}(F:Below w.drew.heap.size w.drew w'):Below w.heap.size w w':=⟨F.os,F.tape,F.output,F.size,F.block⟩
theorem QjY(t ta n a:Nat)(w:World)(h1:t<10000)(h2:n<10000)(ht:Tab w):
  Calls prog 288 #[.agg #[.int .i64 t,.int .i64 ta,.int .i64 n,.int .i64 a]] w fun e w'=>e=.returned (.string ⟨(rgT t++61::rgT n).toArray⟩)∧Below w.heap.size w w':=by
 have hl0:=X3 h1;have hl1:=X3 h2;have hz0:¬9223372036854775807<(rgT t).length+1:=by omega
 have hz1:¬9223372036854775807<(rgT t).length+1+(rgT n).length:=by omega
 go_enter func288,ntmps288;go_wp2_with fail;have F1:=Qc ((Below.refl w.heap.size w).alloc (Qi _) (.cells #[.int .i64 t,.int .i64 ta,.int .i64 n,.int .i64 a] 142));have g1:=heap_alloc_last w (.cells #[.int .i64 t,.int .i64 ta,.int .i64 n,.int .i64 a] 142);have sW:w.heap.size<(w.alloc (.cells #[.int .i64 t,.int .i64 ta,.int .i64 n,.int .i64 a] 142)).heap.size:=by rw[Qt];omega
 generalize w.alloc (.cells #[.int .i64 t,.int .i64 ta,.int .i64 n,.int .i64 a] 142)=W at *;have k0:=Qb g1 0;have k1:=Qb g1 1;have k2:=Qb g1 2;have k3:=Qb g1 3;simp at k0 k1 k2 k3;clear g1
 go_region_held (fun w'=>w'.cell? ⟨w.heap.size,0,none⟩=some (.int .i64 t)∧w'.cell? ⟨w.heap.size,1,none⟩=some (.int .i64 ta)∧w'.cell? ⟨w.heap.size,2,none⟩=some (.int .i64 n)∧w'.cell? ⟨w.heap.size,3,none⟩=some (.int .i64 a)) (simp[*])
  (first | (go_at_call 140;refine(Yp t ta W.drew h1 (ht.keep (VR F1.o))).mono ?_;rintro e v0 ⟨rfl,f⟩;have f':=Jy f;have y00:=(f'.cell (p:=⟨w.heap.size,0,none⟩) sW).trans k0;have y01:=(f'.cell (p:=⟨w.heap.size,1,none⟩) sW).trans k1;have y02:=(f'.cell (p:=⟨w.heap.size,2,none⟩) sW).trans k2;have y03:=(f'.cell (p:=⟨w.heap.size,3,none⟩) sW).trans k3;have O0:=Qc (F1.o.trans (f'.mono (Nat.le_of_lt sW)));have s0:=f'.size;clear f f') | (go_at_call 140;refine(Yp n a v0 h2 (ht.keep O0.o)).mono ?_;rintro e v1 ⟨rfl,f⟩;have y10:=(f.cell (p:=⟨w.heap.size,0,none⟩) (QH sW s0)).trans y00;have y11:=(f.cell (p:=⟨w.heap.size,1,none⟩) (QH sW s0)).trans y01;have y12:=(f.cell (p:=⟨w.heap.size,2,none⟩) (QH sW s0)).trans y02;have y13:=(f.cell (p:=⟨w.heap.size,3,none⟩) (QH sW s0)).trans y03;have O1:=Qc (O0.o.trans (f.mono O0.o.size));have s1:=Qy s0 f.size;clear f))
 all_goals
  go_wp2_with fail;go_ret;refine⟨?_,O1.o⟩;rw[show (rgT t++61::rgT n)=(rgT t++[61])++rgT n from by simp,←ZF,←ZF];rfl
theorem Qlv(n:Int)(w:World)(hn:n.natAbs<10000)(ht:Tab w):
  Calls prog 299 #[.int .i64 n,.int .i64 10] w fun e w'=>e=.returned (.string ⟨(Lib.itoa n).toArray⟩)∧Below w.heap.size w w':=by
 refine(Tryz.strconv_FormatInt_10 n (by omega) (by omega) w ht.here).mono ?_;rintro e w1 ⟨rfl,k,os,rfl⟩;exact⟨rfl,Qat _ _ _⟩
theorem Qe4{n:Int}(h:n.natAbs<10000):(Lib.itoa n).length≤5:=by
 unfold Lib.itoa;split
 ·rw[QO];have:=XJ h;omega
 ·have:=XJ (n:=n.toNat) (by omega);omega
theorem QjD(t ta:Nat)(n:Int)(w:World)(h1:t<10000)(h2:n.natAbs<10000)(ht:Tab w):
  Calls prog 298 #[.agg #[.int .i64 t,.int .i64 ta,.int .i64 n]] w fun e w'=>e=.returned (.string ⟨(rgT t++61::Lib.itoa n).toArray⟩)∧Below w.heap.size w w':=by
 have hl0:=X3 h1;have hl1:=Qe4 h2;have hz0:¬9223372036854775807<(rgT t).length+1:=by omega
 have hz1:¬9223372036854775807<(rgT t).length+1+(Lib.itoa n).length:=by omega
 go_enter func298,ntmps298;go_wp2_with fail;have F1:=Qc ((Below.refl w.heap.size w).alloc (Qi _) (.cells #[.int .i64 t,.int .i64 ta,.int .i64 n] 177));have g1:=heap_alloc_last w (.cells #[.int .i64 t,.int .i64 ta,.int .i64 n] 177);have sW:w.heap.size<(w.alloc (.cells #[.int .i64 t,.int .i64 ta,.int .i64 n] 177)).heap.size:=by rw[Qt];omega
 generalize w.alloc (.cells #[.int .i64 t,.int .i64 ta,.int .i64 n] 177)=W at *;have k0:=Qb g1 0;have k1:=Qb g1 1;have k2:=Qb g1 2;simp at k0 k1 k2;clear g1
 go_region_held (fun w'=>w'.cell? ⟨w.heap.size,0,none⟩=some (.int .i64 t)∧w'.cell? ⟨w.heap.size,1,none⟩=some (.int .i64 ta)∧w'.cell? ⟨w.heap.size,2,none⟩=some (.int .i64 n)) (simp[*])
  (first | (go_at_call 140;refine(Yp t ta W.drew h1 (ht.keep (VR F1.o))).mono ?_;rintro e v0 ⟨rfl,f⟩;have f':=Jy f;have y00:=(f'.cell (p:=⟨w.heap.size,0,none⟩) sW).trans k0;have y01:=(f'.cell (p:=⟨w.heap.size,1,none⟩) sW).trans k1;have y02:=(f'.cell (p:=⟨w.heap.size,2,none⟩) sW).trans k2;have O0:=Qc (F1.o.trans (f'.mono (Nat.le_of_lt sW)));have s0:=f'.size;clear f f') | (go_at_call 299;refine(Qlv n v0 h2 (ht.keep O0.o)).mono ?_;rintro e v1 ⟨rfl,f⟩;have y10:=(f.cell (p:=⟨w.heap.size,0,none⟩) (QH sW s0)).trans y00;have y11:=(f.cell (p:=⟨w.heap.size,1,none⟩) (QH sW s0)).trans y01;have y12:=(f.cell (p:=⟨w.heap.size,2,none⟩) (QH sW s0)).trans y02;have O1:=Qc (O0.o.trans (f.mono O0.o.size));have s1:=Qy s0 f.size;clear f))
 all_goals
  go_wp2_with fail;go_ret;refine⟨?_,O1.o⟩;rw[show (rgT t++61::Lib.itoa n)=(rgT t++[61])++Lib.itoa n from by simp,←ZF,←ZF];rfl
theorem QiV(t ta:Nat)(w:World)(h1:t<10000)(ht:Tab w):
  Calls prog 306 #[.agg #[.int .i64 t,.int .i64 ta]] w fun e w'=>e=.returned (.string ⟨(rgT t++[61,63]).toArray⟩)∧Below w.heap.size w w':=by
 have hl0:=X3 h1;have hz0:¬9223372036854775807<(rgT t).length+2:=by omega
 go_enter func306,ntmps306;go_wp2_with fail;have F1:=Qc ((Below.refl w.heap.size w).alloc (Qi _) (.cells #[.int .i64 t,.int .i64 ta] 272));have g1:=heap_alloc_last w (.cells #[.int .i64 t,.int .i64 ta] 272);have sW:w.heap.size<(w.alloc (.cells #[.int .i64 t,.int .i64 ta] 272)).heap.size:=by rw[Qt];omega
 generalize w.alloc (.cells #[.int .i64 t,.int .i64 ta] 272)=W at *;have k0:=Qb g1 0;have k1:=Qb g1 1;simp at k0 k1;clear g1;refine(Yp t ta W h1 (ht.keep F1.o)).mono ?_;rintro e w1 ⟨rfl,f1⟩;have F2:=F1.o.trans (f1.mono F1.o.size);clear f1;go_wp2_with fail;go_ret;refine⟨?_,F2⟩;rw[show (rgT t++[61,63])=rgT t++[61,63] from by simp,←ZF];rfl
theorem Qkr(t ta:Nat)(w:World)(h1:t<10000)(ht:Tab w):
  Calls prog 318 #[.agg #[.int .i64 t,.int .i64 ta]] w fun e w'=>e=.returned (.string ⟨(33::rgT t).toArray⟩)∧Below w.heap.size w w':=by
 have hl0:=X3 h1;have hz0:¬9223372036854775807<1+(rgT t).length:=by omega
 go_enter func318,ntmps318;go_wp2_with fail;have F1:=Qc ((Below.refl w.heap.size w).alloc (Qi _) (.cells #[.int .i64 t,.int .i64 ta] 315));have g1:=heap_alloc_last w (.cells #[.int .i64 t,.int .i64 ta] 315);have sW:w.heap.size<(w.alloc (.cells #[.int .i64 t,.int .i64 ta] 315)).heap.size:=by rw[Qt];omega
 generalize w.alloc (.cells #[.int .i64 t,.int .i64 ta] 315)=W at *;have k0:=Qb g1 0;have k1:=Qb g1 1;simp at k0 k1;clear g1;refine(Yp t ta W h1 (ht.keep F1.o)).mono ?_;rintro e w1 ⟨rfl,f1⟩;have F2:=F1.o.trans (f1.mono F1.o.size);clear f1;go_wp2_with fail;go_ret;refine⟨?_,F2⟩;rw[show (33::rgT t)=[33]++rgT t from by simp,←ZF];rfl
theorem QjG(t ta:Nat)(w:World)(h1:t<10000)(ht:Tab w):
  Calls prog 314 #[.agg #[.int .i64 t,.int .i64 ta]] w fun e w'=>e=.returned (.string ⟨(62::Lib.decDigits t).toArray⟩)∧Below w.heap.size w w':=by
 have hl0:=XJ h1;have hz0:¬9223372036854775807<1+(Lib.decDigits t).length:=by omega
 go_enter func314,ntmps314;go_wp2_with fail;have F1:=Qc ((Below.refl w.heap.size w).alloc (Qi _) (.cells #[.int .i64 t,.int .i64 ta] 312));have g1:=heap_alloc_last w (.cells #[.int .i64 t,.int .i64 ta] 312);have sW:w.heap.size<(w.alloc (.cells #[.int .i64 t,.int .i64 ta] 312)).heap.size:=by rw[Qt];omega
 generalize w.alloc (.cells #[.int .i64 t,.int .i64 ta] 312)=W at *;have k0:=Qb g1 0;have k1:=Qb g1 1;simp at k0 k1;clear g1;refine(RL t ta W h1 (ht.keep F1.o)).mono ?_;rintro e w1 ⟨rfl,f1⟩;have F2:=F1.o.trans (f1.mono F1.o.size);clear f1;go_wp2_with fail;go_ret;refine⟨?_,F2⟩;rw[show (62::Lib.decDigits t)=[62]++Lib.decDigits t from by simp,←ZF];rfl
theorem QjS(t ta n na m ma:Nat)(w:World)(h1:t<10000)(h2:n<10000)(h3:m<10000)(ht:Tab w):
  Calls prog 322 #[.agg #[.int .i64 t,.int .i64 ta,.int .i64 n,.int .i64 na,.int .i64 m,.int .i64 ma]] w fun e w'=>e=.returned (.string ⟨(rgT t++63::(Lib.decDigits n++58::Lib.decDigits m)).toArray⟩)∧Below w.heap.size w w':=by
 have hl0:=X3 h1;have hl1:=XJ h2;have hl2:=XJ h3;have hz0:¬9223372036854775807<(rgT t).length+1:=by omega
 have hz1:¬9223372036854775807<(rgT t).length+1+(Lib.decDigits n).length:=by omega
 have hz2:¬9223372036854775807<(rgT t).length+1+(Lib.decDigits n).length+1:=by omega
 have hz3:¬9223372036854775807<(rgT t).length+1+(Lib.decDigits n).length+1+(Lib.decDigits m).length:=by omega
 go_enter func322,ntmps322;go_wp2_with fail;have F1:=Qc ((Below.refl w.heap.size w).alloc (Qi _) (.cells #[.int .i64 t,.int .i64 ta,.int .i64 n,.int .i64 na,.int .i64 m,.int .i64 ma] 353));have g1:=heap_alloc_last w (.cells #[.int .i64 t,.int .i64 ta,.int .i64 n,.int .i64 na,.int .i64 m,.int .i64 ma] 353);have sW:w.heap.size<(w.alloc (.cells #[.int .i64 t,.int .i64 ta,.int .i64 n,.int .i64 na,.int .i64 m,.int .i64 ma] 353)).heap.size:=by rw[Qt];omega
 generalize w.alloc (.cells #[.int .i64 t,.int .i64 ta,.int .i64 n,.int .i64 na,.int .i64 m,.int .i64 ma] 353)=W at *;have k0:=Qb g1 0;have k1:=Qb g1 1;have k2:=Qb g1 2;have k3:=Qb g1 3;have k4:=Qb g1 4;have k5:=Qb g1 5;simp at k0 k1 k2 k3 k4 k5;clear g1
 go_region_held (fun w'=>w'.cell? ⟨w.heap.size,0,none⟩=some (.int .i64 t)∧w'.cell? ⟨w.heap.size,1,none⟩=some (.int .i64 ta)∧w'.cell? ⟨w.heap.size,2,none⟩=some (.int .i64 n)∧w'.cell? ⟨w.heap.size,3,none⟩=some (.int .i64 na)∧w'.cell? ⟨w.heap.size,4,none⟩=some (.int .i64 m)∧w'.cell? ⟨w.heap.size,5,none⟩=some (.int .i64 ma)) (simp[*])
  (first | (go_at_call 140;refine(Yp t ta W.drew h1 (ht.keep (VR F1.o))).mono ?_;rintro e v0 ⟨rfl,f⟩;have f':=Jy f;have y00:=(f'.cell (p:=⟨w.heap.size,0,none⟩) sW).trans k0;have y01:=(f'.cell (p:=⟨w.heap.size,1,none⟩) sW).trans k1;have y02:=(f'.cell (p:=⟨w.heap.size,2,none⟩) sW).trans k2;have y03:=(f'.cell (p:=⟨w.heap.size,3,none⟩) sW).trans k3;have y04:=(f'.cell (p:=⟨w.heap.size,4,none⟩) sW).trans k4;have y05:=(f'.cell (p:=⟨w.heap.size,5,none⟩) sW).trans k5;have O0:=Qc (F1.o.trans (f'.mono (Nat.le_of_lt sW)));have s0:=f'.size;clear f f') | (go_at_call 139;refine(RL n na v0 h2 (ht.keep O0.o)).mono ?_;rintro e v1 ⟨rfl,f⟩;have y10:=(f.cell (p:=⟨w.heap.size,0,none⟩) (QH sW s0)).trans y00;have y11:=(f.cell (p:=⟨w.heap.size,1,none⟩) (QH sW s0)).trans y01;have y12:=(f.cell (p:=⟨w.heap.size,2,none⟩) (QH sW s0)).trans y02;have y13:=(f.cell (p:=⟨w.heap.size,3,none⟩) (QH sW s0)).trans y03;have y14:=(f.cell (p:=⟨w.heap.size,4,none⟩) (QH sW s0)).trans y04;have y15:=(f.cell (p:=⟨w.heap.size,5,none⟩) (QH sW s0)).trans y05;have O1:=Qc (O0.o.trans (f.mono O0.o.size));have s1:=Qy s0 f.size;clear f) | (go_at_call 139;refine(RL m ma v1 h3 (ht.keep O1.o)).mono ?_;rintro e v2 ⟨rfl,f⟩;have y20:=(f.cell (p:=⟨w.heap.size,0,none⟩) (QH sW s1)).trans y10;have y21:=(f.cell (p:=⟨w.heap.size,1,none⟩) (QH sW s1)).trans y11;have y22:=(f.cell (p:=⟨w.heap.size,2,none⟩) (QH sW s1)).trans y12;have y23:=(f.cell (p:=⟨w.heap.size,3,none⟩) (QH sW s1)).trans y13;have y24:=(f.cell (p:=⟨w.heap.size,4,none⟩) (QH sW s1)).trans y14;have y25:=(f.cell (p:=⟨w.heap.size,5,none⟩) (QH sW s1)).trans y15;have O2:=Qc (O1.o.trans (f.mono O1.o.size));have s2:=Qy s1 f.size;clear f))
 all_goals
  go_wp2_with fail;go_ret;refine⟨?_,O2.o⟩;rw[show (rgT t++63::(Lib.decDigits n++58::Lib.decDigits m))=((((rgT t++[63])++Lib.decDigits n)++[58])++Lib.decDigits m) from by simp,←ZF,←ZF,←ZF,←ZF];rfl
def opS(o:Nat):Nat:=if o=0 then 43 else if o=1 then 45 else if o=2 then 42 else 60
theorem Qlf(o:Nat)(w:World)(ho:o<4):
  Calls prog 323 #[.int .i64 o] w fun e w'=>e=.returned (.string ⟨[UInt8.ofNat (opS o)].toArray⟩)∧Below w.heap.size w w':=by
 match o,ho with
 | 0,_|1,_|2,_|3,_=>
  go_enter func323,ntmps323;go_wp2_with fail;go_ret;exact⟨by rfl,Below.refl _ _⟩
theorem QjZ(t ta n na o m ma:Nat)(w:World)(h1:t<10000)(h2:n<10000)(h3:m<10000)(ho:o<4)(ht:Tab w):
  Calls prog 327 #[.agg #[.int .i64 t,.int .i64 ta,.int .i64 n,.int .i64 na,.int .i64 o,.int .i64 m,.int .i64 ma]] w fun e w'=>e=.returned (.string ⟨(rgT t++61::(rgT n++UInt8.ofNat (opS o)::rgT m)).toArray⟩)∧Below w.heap.size w w':=by
 have hl0:=X3 h1;have hl1:=X3 h2;have hl2:=X3 h3;have hz0:¬9223372036854775807<(rgT t).length+1:=by omega
 have hz1:¬9223372036854775807<(rgT t).length+1+(rgT n).length:=by omega
 have hz2:¬9223372036854775807<(rgT t).length+1+(rgT n).length+1:=by omega
 have hz3:¬9223372036854775807<(rgT t).length+1+(rgT n).length+1+(rgT m).length:=by omega
 go_enter func327,ntmps327;go_wp2_with fail;have F1:=Qc ((Below.refl w.heap.size w).alloc (Qi _) (.cells #[.int .i64 t,.int .i64 ta,.int .i64 n,.int .i64 na,.int .i64 o,.int .i64 m,.int .i64 ma] 370));have g1:=heap_alloc_last w (.cells #[.int .i64 t,.int .i64 ta,.int .i64 n,.int .i64 na,.int .i64 o,.int .i64 m,.int .i64 ma] 370);have sW:w.heap.size<(w.alloc (.cells #[.int .i64 t,.int .i64 ta,.int .i64 n,.int .i64 na,.int .i64 o,.int .i64 m,.int .i64 ma] 370)).heap.size:=by rw[Qt];omega
 generalize w.alloc (.cells #[.int .i64 t,.int .i64 ta,.int .i64 n,.int .i64 na,.int .i64 o,.int .i64 m,.int .i64 ma] 370)=W at *;have k0:=Qb g1 0;have k1:=Qb g1 1;have k2:=Qb g1 2;have k3:=Qb g1 3;have k4:=Qb g1 4;have k5:=Qb g1 5;have k6:=Qb g1 6;simp at k0 k1 k2 k3 k4 k5 k6;clear g1
 go_region_held (fun w'=>w'.cell? ⟨w.heap.size,0,none⟩=some (.int .i64 t)∧w'.cell? ⟨w.heap.size,1,none⟩=some (.int .i64 ta)∧w'.cell? ⟨w.heap.size,2,none⟩=some (.int .i64 n)∧w'.cell? ⟨w.heap.size,3,none⟩=some (.int .i64 na)∧w'.cell? ⟨w.heap.size,4,none⟩=some (.int .i64 o)∧w'.cell? ⟨w.heap.size,5,none⟩=some (.int .i64 m)∧w'.cell? ⟨w.heap.size,6,none⟩=some (.int .i64 ma)) (simp[*])
  (first | (go_at_call 140;refine(Yp t ta W.drew h1 (ht.keep (VR F1.o))).mono ?_;rintro e v0 ⟨rfl,f⟩;have f':=Jy f;have y00:=(f'.cell (p:=⟨w.heap.size,0,none⟩) sW).trans k0;have y01:=(f'.cell (p:=⟨w.heap.size,1,none⟩) sW).trans k1;have y02:=(f'.cell (p:=⟨w.heap.size,2,none⟩) sW).trans k2;have y03:=(f'.cell (p:=⟨w.heap.size,3,none⟩) sW).trans k3;have y04:=(f'.cell (p:=⟨w.heap.size,4,none⟩) sW).trans k4;have y05:=(f'.cell (p:=⟨w.heap.size,5,none⟩) sW).trans k5;have y06:=(f'.cell (p:=⟨w.heap.size,6,none⟩) sW).trans k6;have O0:=Qc (F1.o.trans (f'.mono (Nat.le_of_lt sW)));have s0:=f'.size;clear f f') | (go_at_call 140;refine(Yp n na v0 h2 (ht.keep O0.o)).mono ?_;rintro e v1 ⟨rfl,f⟩;have y10:=(f.cell (p:=⟨w.heap.size,0,none⟩) (QH sW s0)).trans y00;have y11:=(f.cell (p:=⟨w.heap.size,1,none⟩) (QH sW s0)).trans y01;have y12:=(f.cell (p:=⟨w.heap.size,2,none⟩) (QH sW s0)).trans y02;have y13:=(f.cell (p:=⟨w.heap.size,3,none⟩) (QH sW s0)).trans y03;have y14:=(f.cell (p:=⟨w.heap.size,4,none⟩) (QH sW s0)).trans y04;have y15:=(f.cell (p:=⟨w.heap.size,5,none⟩) (QH sW s0)).trans y05;have y16:=(f.cell (p:=⟨w.heap.size,6,none⟩) (QH sW s0)).trans y06;have O1:=Qc (O0.o.trans (f.mono O0.o.size));have s1:=Qy s0 f.size;clear f) | (go_at_call 323;refine(Qlf o v1 ho).mono ?_;rintro e v2 ⟨rfl,f⟩;have y20:=(f.cell (p:=⟨w.heap.size,0,none⟩) (QH sW s1)).trans y10;have y21:=(f.cell (p:=⟨w.heap.size,1,none⟩) (QH sW s1)).trans y11;have y22:=(f.cell (p:=⟨w.heap.size,2,none⟩) (QH sW s1)).trans y12;have y23:=(f.cell (p:=⟨w.heap.size,3,none⟩) (QH sW s1)).trans y13;have y24:=(f.cell (p:=⟨w.heap.size,4,none⟩) (QH sW s1)).trans y14;have y25:=(f.cell (p:=⟨w.heap.size,5,none⟩) (QH sW s1)).trans y15;have y26:=(f.cell (p:=⟨w.heap.size,6,none⟩) (QH sW s1)).trans y16;have O2:=Qc (O1.o.trans (f.mono O1.o.size));have s2:=Qy s1 f.size;clear f) | (go_at_call 140;refine(Yp m ma v2 h3 (ht.keep O2.o)).mono ?_;rintro e v3 ⟨rfl,f⟩;have y30:=(f.cell (p:=⟨w.heap.size,0,none⟩) (QH sW s2)).trans y20;have y31:=(f.cell (p:=⟨w.heap.size,1,none⟩) (QH sW s2)).trans y21;have y32:=(f.cell (p:=⟨w.heap.size,2,none⟩) (QH sW s2)).trans y22;have y33:=(f.cell (p:=⟨w.heap.size,3,none⟩) (QH sW s2)).trans y23;have y34:=(f.cell (p:=⟨w.heap.size,4,none⟩) (QH sW s2)).trans y24;have y35:=(f.cell (p:=⟨w.heap.size,5,none⟩) (QH sW s2)).trans y25;have y36:=(f.cell (p:=⟨w.heap.size,6,none⟩) (QH sW s2)).trans y26;have O3:=Qc (O2.o.trans (f.mono O2.o.size));have s3:=Qy s2 f.size;clear f))
 all_goals
  go_wp2_with fail;go_ret;refine⟨?_,O3.o⟩;rw[show (rgT t++61::(rgT n++UInt8.ofNat (opS o)::rgT m))=((((rgT t++[61])++rgT n)++[UInt8.ofNat (opS o)])++rgT m) from by simp,←ZF,←ZF,←ZF,←ZF];rfl
def At(s:ByteArray):Nat→List UInt8→Prop
 | _,[]=>True
 | i,c::l=>i<s.size∧byt s i=c.toNat∧At s (i+1) l
theorem Xx{s:ByteArray}:∀{l k:List UInt8}{i:Nat},At s i (l++k)↔At s i l∧At s (i+l.length) k
 | [],k,i=>by simp[At]
 | c::l,k,i=>by
  rw[List.cons_append,At,At,Xx (l:=l),QO,show i+1+l.length=i+(l.length+1) from by omega];exact⟨fun⟨a,b,c,d⟩=>⟨⟨a,b,c⟩,d⟩,fun⟨⟨a,b,c⟩,d⟩=>⟨a,b,c,d⟩⟩
theorem Qgm(l:List UInt8):At ⟨l.toArray⟩ 0 l:=by
 suffices h:∀(p q:List UInt8),l=p++q→At ⟨l.toArray⟩ p.length q from h [] l rfl
 intro p q
 induction q generalizing p with
 | nil=>intro _;trivial
 | cons c q ih=>
  intro e;have hz:(ByteArray.mk l.toArray).size=l.length:=by simp[ByteArray.size]
  have hl:p.length<l.length:=by rw[e,Qw,QO];omega
  refine⟨by rw[hz];exact hl,?_,?_⟩
  ·rw[byt,dif_pos (by rw[hz];exact hl)];show (l.toArray[p.length]'(by simpa using hl)).toNat=_
   congr 1
   rw[List.getElem_toArray];subst e;simp
  ·have:=ih (p++[c]) (by rw[e,List.append_assoc];rfl)
   rwa [Qw,List.length_singleton]at this
theorem KE{s i c l}(h:At s i (c::l)):onF s i (-1) c.toNat=true:=by
 obtain⟨h1,h2,_⟩:=h;simp[onF,h1,h2]
theorem ZR{s i c l}{d:Nat}(h:At s i (c::l))(hd:c.toNat≠d):onF s i (-1) d=false:=by
 obtain⟨h1,h2,_⟩:=h;simp[onF,h1,h2,hd]
theorem Qer{s i}{d:Nat}(h:i=s.size):onF s i (-1) d=false:=by
 simp[onF,h]
theorem Yz{s i c l}(h:At s i (c::l)):gotI s i (-1) c.toNat=i+1:=by rw[gotI,KE h];rfl
theorem KX{s i c l}(h:At s i (c::l)):mustB s i (-1) c.toNat=-1:=by rw[mustB,KE h];rfl
def Nd(s:ByteArray)(i:Nat):Prop:=Zr s i (-1)=false
theorem Yw{s i c l}(h:At s i (c::l))(hd:c.toNat<48∨57<c.toNat):Nd s i:=by
 obtain⟨h1,h2,_⟩:=h;unfold Nd Zr;rcases hd with hd|hd
 ·simp[h1,h2];omega
 ·simp[h1,h2];omega
theorem Qjt{s:ByteArray} {i}(h:i=s.size):Nd s i:=by simp[Nd,Zr,h]
theorem JC{s i x l}(h:At s i (UInt8.ofNat (48+x)::l))(hx:x<10):Zr s i (-1)=true∧byt s i=48+x∧At s (i+1) l:=by
 obtain⟨h1,h2,h3⟩:=h;have e:(UInt8.ofNat (48+x)).toNat=48+x:=by
  rw[UInt8.toNat_ofNat'];exact Nat.mod_eq_of_lt (by omega)
 rw[e]at h2;refine⟨?_,h2,h3⟩;simp[Zr,h1,h2];omega
theorem Wa{s i n}(hn:n<10000)(h:At s i (Lib.decDigits n))(hd:Nd s (i+(Lib.decDigits n).length)):
  numN s i (-1)=n∧numI s i (-1)=i+(Lib.decDigits n).length∧Zx s i (-1)=-1:=by
 unfold Nd at hd;by_cases h1:n<10
 ·rw[RR h1]at h hd ⊢;obtain⟨d0,b0,_⟩:=JC h h1;simp only[List.length_singleton]at hd ⊢;simp[numN,numI,Zx,d0,Zm,hd,b0]
 by_cases h2:n<100
 ·rw[Gk h1,RR (by omega)]at h hd ⊢;obtain⟨d0,b0,h⟩:=JC h (by omega);obtain⟨d1,b1,_⟩:=JC h (by omega);simp only[List.length_append,List.length_singleton]at hd ⊢;have hd:Zr s (i+2) (-1)=false:=hd;have d1:Zr s (i+1) (-1)=true:=d1;have b1:byt s (i+1)=_:=b1;have z:10≤n:=by omega
  simp[numN,numI,Zx,d0,Zm,hd,b0,d1,b1,z];omega
 by_cases h3:n<1000
 ·rw[Gk h1,Gk (n:=n / 10) (by omega),RR (n:=n / 10 / 10) (by omega)]at h hd ⊢;obtain⟨d0,b0,h⟩:=JC h (by omega);obtain⟨d1,b1,h⟩:=JC h (by omega);obtain⟨d2,b2,_⟩:=JC h (by omega);simp only[List.length_append,List.length_singleton]at hd ⊢;have hd:Zr s (i+3) (-1)=false:=hd;have z:¬(n / 10 / 10=0):=by omega
  simp[numN,numI,Zx,d0,Zm,hd,b0,d1,b1,d2,b2,z];omega
 ·rw[Gk h1,Gk (n:=n / 10) (by omega),Gk (n:=n / 10 / 10) (by omega),RR (n:=n / 10 / 10 / 10) (by omega)]at h hd ⊢;obtain⟨d0,b0,h⟩:=JC h (by omega);obtain⟨d1,b1,h⟩:=JC h (by omega);obtain⟨d2,b2,h⟩:=JC h (by omega);obtain⟨d3,b3,_⟩:=JC h (by omega);simp only[List.length_append,List.length_singleton]at hd ⊢;have z:¬(n / 10 / 10 / 10=0):=by omega
  simp[numN,numI,Zx,d0,Zm,b0,d1,b1,d2,b2,d3,b3,z];omega
theorem Qb9{s i n l}(hn:n<10000)(h:At s i (Lib.decDigits n++l))(hd:Nd s (i+(Lib.decDigits n).length)):
  numN s i (-1)=n∧numI s i (-1)=i+(Lib.decDigits n).length∧Zx s i (-1)=-1:=Wa hn (Xx.1 h).1 hd
theorem Yo{s i n}(hn:n<10000)(h:At s i (rgT n))(hd:Nd s (i+(rgT n).length)):
  regN s i (-1)=n∧regI s i (-1)=i+(rgT n).length∧regB s i (-1)=-1:=by
 unfold rgT at h hd ⊢;have g:=Yz h;have m:=KX h;have h2:At s (i+1) (Lib.decDigits n):=h.2.2;rw[QO]at hd ⊢;have k:=Wa hn h2 (by rwa [show i+1+(Lib.decDigits n).length=i+((Lib.decDigits n).length+1) from by omega]);unfold regN regI regB;rw[show (114:Nat)=(114:UInt8).toNat from rfl,g,m];exact⟨k.1,by rw[k.2.1];omega,k.2.2⟩
def gvT:ASt→List UInt8
 | .val _ n=>Lib.itoa n
 | .cp _ a=>rgT a
 | .op o _ a b=>rgT a++UInt8.ofNat o::rgT b
 | .inp _=>[63]
 | .out a=>rgT a
def stT:ASt→List UInt8
 | .val t n=>rgT t++61::gvT (.val t n)
 | .cp t a=>rgT t++61::gvT (.cp t a)
 | .op o t a b=>rgT t++61::gvT (.op o t a b)
 | .inp t=>rgT t++61::gvT (.inp t)
 | .out a=>33::rgT a
def OkS:ASt→Prop
 | .val t n=>t<10000∧n.natAbs<10000
 | .cp t a=>t<10000∧a<10000
 | .op o t a b=>(o=43∨o=45∨o=42∨o=60)∧t<10000∧a<10000∧b<10000
 | .inp t=>t<10000
 | .out a=>a<10000
def toS:ASt→Nat
 | .val t _=>t
 | .cp t _=>t
 | .op _ t _ _=>t
 | .inp t=>t
 | .out _=>0
def Qb0:ASt→Prop
 | .out _=>True
 | _=>False
theorem Qaj(n:Nat):∃x l,Lib.decDigits n=UInt8.ofNat (48+x)::l∧x<10∧(0<n→0<x):=by
 induction n using Nat.strongRecOn with
 | _ n ih=>
  by_cases h:n<10
  ·exact⟨n,[],RR h,h,id⟩
  ·obtain⟨x,l,e,h1,h2⟩:=ih (n / 10) (by omega);exact⟨x,l++[UInt8.ofNat (48+n % 10)],by rw[Gk h,e];rfl,h1,fun _=>h2 (by omega)⟩
theorem QaM{s i n l}{d:Nat}(h:At s i (Lib.decDigits n++l))(hd:d<48∨57<d):onF s i (-1) d=false:=by
 obtain⟨x,k,e,hx,_⟩:=Qaj n;rw[e]at h;obtain⟨h1,h2,_⟩:=JC (l:=k++l) h hx;refine ZR (c:=UInt8.ofNat (48+x)) (l:=k++l) h ?_;rw[←h.2.1,h2];omega
theorem Qhr{s i n l}(h:At s i (Lib.decDigits n++l))(hn:0<n):onF s i (-1) 48=false:=by
 obtain⟨x,k,e,hx,h0⟩:=Qaj n;rw[e]at h;obtain⟨h1,h2,_⟩:=JC (l:=k++l) h hx;refine ZR (c:=UInt8.ofNat (48+x)) (l:=k++l) h ?_;rw[←h.2.1,h2];have:=h0 hn;omega
theorem JY{s i n l}{d:Nat}(h:At s i (rgT n++l))(hd:d≠114):onF s i (-1) d=false:=ZR (c:=114) h (fun e=>hd e.symm)
theorem QbM{s i n l}(h:At s i (rgT n++l)):onF s i (-1) 114=true:=KE (c:=114) h
theorem Qen{s i c l}(h:At s i (c::l))(h1:c.toNat=59):opC s i (-1)=0∧opI s i (-1)=i∧opB s i (-1)=-1:=by
 unfold opC opI opB;simp[ZR h (d:=43) (by omega),ZR h (d:=45) (by omega),ZR h (d:=42) (by omega),ZR h (d:=60) (by omega),ZR h (d:=195) (by omega)]
theorem Qjm{s i o l}(h:At s i (UInt8.ofNat o::l))(ho:o=43∨o=45∨o=42∨o=60):opC s i (-1)=o∧opI s i (-1)=i+1∧opB s i (-1)=-1:=by
 unfold opC opI opB;have h0:=KE h;rcases ho with rfl|rfl|rfl|rfl
 ·have h0:onF s i (-1) 43=true:=h0;simp[h0]
 ·have h0:onF s i (-1) 45=true:=h0;have h1:onF s i (-1) 43=false:=ZR h (by decide);simp[h0,h1]
 ·have h0:onF s i (-1) 42=true:=h0;have h1:onF s i (-1) 43=false:=ZR h (by decide);have h2:onF s i (-1) 45=false:=ZR h (by decide);simp[h0,h1,h2]
 ·have h0:onF s i (-1) 60=true:=h0;have h1:onF s i (-1) 43=false:=ZR h (by decide);have h2:onF s i (-1) 45=false:=ZR h (by decide);have h3:onF s i (-1) 42=false:=ZR h (by decide);simp[h0,h1,h2,h3]
theorem QjP{s i tn ti}{t:ASt}{l:List UInt8}(hk:OkS t)(ho:¬Qb0 t)(h:At s i (gvT t++59::l))(ht:tn=toS t):
  QK (givF s (tn,ti) i (-1)).st=t∧(givF s (tn,ti) i (-1)).i=i+(gvT t).length∧(givF s (tn,ti) i (-1)).bad=-1:=by
 have hE:At s (i+(gvT t).length) (59::l):=(Xx.1 h).2;have hN:Nd s (i+(gvT t).length):=Yw hE (by decide)
 match t,hk,ho,ht with
 | .out a,_,ho,_=>exact absurd trivial ho
 | .inp t,hk,_,ht=>
  have h0:onF s i (-1) 63=true:=KE (c:=63) h;subst ht;simp[givF,h0,QK,gvT]
 | .cp t a,hk,_,ht=>
  have h0:onF s i (-1) 63=false:=JY h (by decide);have h1:onF s i (-1) 114=true:=QbM h;obtain⟨r1,r2,r3⟩:=Yo hk.2 (Xx.1 h).1 hN;obtain⟨o1,o2,o3⟩:=Qen hE rfl;simp only[gvT]at o1 o2 o3;subst ht;simp[givF,h0,h1,r1,r2,r3,o1,o2,o3,QK,gvT]
 | .op o t a b,⟨ho,hto,ha,hb⟩,_,ht=>
  have h0:onF s i (-1) 63=false:=by
   have h:At s i ((rgT a++UInt8.ofNat o::rgT b)++59::l):=h;rw[List.append_assoc]at h;exact JY h (by decide)
  have h1:onF s i (-1) 114=true:=by
   have h:At s i ((rgT a++UInt8.ofNat o::rgT b)++59::l):=h;rw[List.append_assoc]at h;exact QbM h
  have hA:At s i (rgT a++UInt8.ofNat o::rgT b):=(Xx.1 h).1;have hO:=(Xx.1 hA).2;have hon:(UInt8.ofNat o).toNat<48∨57<(UInt8.ofNat o).toNat:=by
   rcases ho with rfl|rfl|rfl|rfl<;>decide
  obtain⟨r1,r2,r3⟩:=Yo ha (Xx.1 hA).1 (Yw hO hon);obtain⟨o1,o2,o3⟩:=Qjm hO ho;have e:i+(gvT (.op o t a b)).length=i+(rgT a).length+1+(rgT b).length:=by
   simp only[gvT,List.length_append,List.length_cons];omega
  rw[e]at hN ⊢;obtain⟨q1,q2,q3⟩:=Yo hb hO.2.2 hN;have on0:¬o=0:=by omega
  subst ht;have e1:QK ⟨o,(tn,ti),(a,i),(b,i+(rgT a).length+1),0⟩=.op o tn a b:=by
   unfold QK;rw[if_neg (by show ¬o=118;omega),if_neg (by show ¬o=99;omega),if_neg (by show ¬o=33;omega),if_neg (by show ¬o=63;omega)]
  simp[givF,h0,h1,r1,r2,r3,o1,o2,o3,q1,q2,q3,on0,e1]
 | .val t n,hk,_,ht=>
  obtain⟨hto,hn⟩:=hk;subst ht;by_cases hneg:n<0
  ·have e:gvT (.val tn n)=45::Lib.decDigits n.natAbs:=by rw[gvT,Lib.itoa,if_pos hneg]
   rw[e]at h hN ⊢;have h:At s i (45::(Lib.decDigits n.natAbs++59::l)):=h;have h0:onF s i (-1) 63=false:=ZR h (by decide);have h1:onF s i (-1) 114=false:=ZR h (by decide);have h2:onF s i (-1) 45=true:=KE (c:=45) h;have h3:onF s (i+1) (-1) 48=false:=Qhr h.2.2 (by omega);have e2:i+(45::Lib.decDigits n.natAbs).length=i+1+(Lib.decDigits n.natAbs).length:=by rw[QO];omega
   rw[e2]at hN ⊢;obtain⟨q1,q2,q3⟩:=Qb9 hn h.2.2 hN;have:-(n.natAbs:Int)=n:=by omega
   simp[givF,h0,h1,h2,h3,q1,q2,q3,QK];omega
  ·have e:gvT (.val tn n)=Lib.decDigits n.toNat:=by rw[gvT,Lib.itoa,if_neg hneg]
   rw[e]at h hN ⊢;have h0:onF s i (-1) 63=false:=QaM h (by decide);have h1:onF s i (-1) 114=false:=QaM h (by decide);have h2:onF s i (-1) 45=false:=QaM h (by decide);obtain⟨q1,q2,q3⟩:=Qb9 (by omega) h hN;simp[givF,h0,h1,h2,q1,q2,q3,QK];omega
def enT(e:AEn):List UInt8:=if e.op=46 then [46] else if e.op=62 then 62::Lib.decDigits e.one else rgT e.a++63::(Lib.decDigits e.one++58::Lib.decDigits e.two)
def OkE(e:AEn):Prop:=(e.op=46∧e.a=0∧e.one=0∧e.two=0)∨(e.op=62∧e.a=0∧e.one<10000∧e.two=0)∨(e.op=63∧e.a<10000∧e.one<10000∧e.two<10000)
def XZ(l:List ASt):List UInt8:=l.flatMap fun t=>stT t++[59]
theorem JK(t:ASt)(l:List ASt):XZ (t::l)=stT t++59::XZ l:=by simp[XZ]
theorem QdT{t:ASt}(h:¬Qb0 t):stT t=rgT (toS t)++61::gvT t:=by
 cases t with
 | out a=>exact absurd trivial h
 | _=>rfl
theorem QiU{t:ASt}(h:OkS t):toS t<10000:=by
 cases t with
 | val t n=>exact h.1
 | cp t a=>exact h.1
 | op o t a b=>exact h.2.1
 | inp t=>exact h
 | out a=>show 0<10000;omega
structure Qk6(r:Blk)(sts:List ASt)(e:AEn)(i:Nat):Prop where
 chs:r.b.chs=[]
 sts:r.b.sts.map QK=sts
 e:ZT r.b.e=e
 i:r.i=i
 bad:r.bad=-1
theorem Qgt(l:List ASt):l.length≤(XZ l).length:=by
 induction l with
 | nil=>exact Qi _
 | cons t l ih=>rw[JK,Qw,QO,QO];omega
end Go.Proofs.YtgfhfkgdmidhpaaGreatDoor
