import Derived.Test.YtgfhfkgdmidhpaaGreatDoorG08
import Derived.Test.YtgfhfkgdmidhpaaGreatDoorLY
namespace Go.Proofs.YtgfhfkgdmidhpaaGreatDoor
open Go.RowKit

/-- The table of powers of ten, as long as nothing that was there changes. -/
def Tab (w : World) : Prop := ∀ w', Below w.heap.size w w' → Lib.TabIs Tryz.prog w' "internal/strconv.uint64pow10" .u64 Lib.pow10Tab
theorem Tab.keep {w w' : World} (h : Tab w) (F : Below w.heap.size w w') : Tab w' := fun w2 F2 => h w2 (F.trans (F2.mono F.size))
theorem Tab.here {w : World} (h : Tab w) : Lib.TabIs Tryz.prog w "internal/strconv.uint64pow10" .u64 Lib.pow10Tab := h w (Below.refl _ _)
theorem bel_grow (w : World) (k : Nat) (os : Array Obj) : Below w.heap.size w (Sort.grow (w.drewN k) os) :=
  ⟨rfl, rfl, rfl, by simp [Sort.grow], fun j hj => by simp [Sort.grow, Array.getElem?_append, hj]⟩
/-- A string of bytes. -/
def strV (l : List UInt8) : Value := .string ⟨l.toArray⟩
theorem str_app (a b : List UInt8) : (⟨a.toArray⟩ : ByteArray) ++ ⟨b.toArray⟩ = ⟨(a ++ b).toArray⟩ := by
  apply ByteArray.ext
  simp
def rgT (n : Nat) : List UInt8 := 114 :: Lib.decDigits n
theorem dec1 {n : Nat} (h : n < 10) : Lib.decDigits n = [UInt8.ofNat (48 + n)] := Lib.decDigits_one h
theorem decS {n : Nat} (h : ¬ n < 10) : Lib.decDigits n = Lib.decDigits (n / 10) ++ [UInt8.ofNat (48 + n % 10)] := by rw [Lib.decDigits, dif_neg h]
theorem dec_len {n : Nat} (h : n < 10000) : (Lib.decDigits n).length ≤ 4 := by
  by_cases h1 : n < 10
  · rw [dec1 h1]; simp
  rw [decS h1, List.length_append, List.length_singleton]
  by_cases h2 : n / 10 < 10
  · rw [dec1 h2]; simp
  rw [decS h2, List.length_append, List.length_singleton]
  by_cases h3 : n / 10 / 10 < 10
  · rw [dec1 h3]; simp
  rw [decS h3, List.length_append, List.length_singleton, dec1 (by omega)]
  simp
theorem rg_len {n : Nat} (h : n < 10000) : (rgT n).length ≤ 5 := by
  unfold rgT; rw [List.length_cons]; have := dec_len h; omega
theorem itoa_nat (n : Nat) : Lib.itoa n = Lib.decDigits n := by
  unfold Lib.itoa; rw [if_neg (by omega)]; simp


theorem itoaC (n : Nat) (w w0 : World) (hn : n < 10000) (ht : Tab w0) (F : Below w0.heap.size w0 w) :
    Calls Tryz.prog 188 #[.int .i64 n] w fun e w' => e = .returned (.string ⟨(Lib.decDigits n).toArray⟩) ∧ Below w.heap.size w w' := by
  refine (Tryz.strconv_Itoa n (by omega) (by omega) w (ht.keep F).here).mono ?_
  rintro e w1 ⟨rfl, k, os, rfl⟩
  exact ⟨by rw [itoa_nat], bel_grow _ _ _⟩

set_option maxRecDepth 100000 in
theorem goalTx (n a : Nat) (w : World) (hn : n < 10000) (ht : Tab w) :
    Calls Tryz.prog 139 #[.agg #[.int .i64 n, .int .i64 a]] w fun e w' => e = .returned (.string ⟨(Lib.decDigits n).toArray⟩) ∧ Below w.heap.size w w' := by
  go_enter Tryz.func139, Tryz.ntmps139
  go_wp2_with fail
  have F1 := (Below.refl w.heap.size w).alloc (Nat.le_refl _) (.cells #[.int .i64 n, .int .i64 a] 145)
  refine (itoaC n _ w hn ht F1).mono ?_
  rintro e w1 ⟨rfl, f1⟩
  have F2 := F1.trans (f1.mono F1.size)
  clear F1 f1
  go_wp2_with fail
  go_ret
  exact ⟨rfl, F2⟩

set_option maxRecDepth 100000 in
theorem regTx (n a : Nat) (w : World) (hn : n < 10000) (ht : Tab w) :
    Calls Tryz.prog 140 #[.agg #[.int .i64 n, .int .i64 a]] w fun e w' => e = .returned (.string ⟨(rgT n).toArray⟩) ∧ Below w.heap.size w w' := by
  have hl := dec_len hn
  have hz : ¬ 9223372036854775807 < 1 + (Lib.decDigits n).length := by omega
  go_enter Tryz.func140, Tryz.ntmps140
  go_wp2_with fail
  have F1 := (Below.refl w.heap.size w).alloc (Nat.le_refl _) (.cells #[.int .i64 n, .int .i64 a] 132)
  refine (itoaC n _ w hn ht F1).mono ?_
  rintro e w1 ⟨rfl, f1⟩
  have F2 := F1.trans (f1.mono F1.size)
  clear F1 f1
  go_wp2_with fail
  go_ret
  exact ⟨congrArg (fun x => Ending.returned (.string x)) (str_app [114] _), F2⟩

theorem drewB {w w' : World} (F : Below w.heap.size w w') : Below w.heap.size w w'.drew := ⟨F.os, F.tape, F.output, F.size, F.block⟩
theorem ofDrew {w w' : World} (F : Below w.drew.heap.size w.drew w') : Below w.heap.size w w' := ⟨F.os, F.tape, F.output, F.size, F.block⟩

set_option maxRecDepth 100000 in
set_option maxHeartbeats 1000000 in
theorem copyTx (t ta n a : Nat) (w : World) (h1 : t < 10000) (h2 : n < 10000) (ht : Tab w) :
    Calls Tryz.prog 288 #[.agg #[.int .i64 t, .int .i64 ta, .int .i64 n, .int .i64 a]] w fun e w' => e = .returned (.string ⟨(rgT t ++ 61 :: rgT n).toArray⟩) ∧ Below w.heap.size w w' := by
  have hl0 := rg_len h1
  have hl1 := rg_len h2
  have hz0 : ¬ 9223372036854775807 < (rgT t).length + 1 := by omega
  have hz1 : ¬ 9223372036854775807 < (rgT t).length + 1 + (rgT n).length := by omega
  go_enter Tryz.func288, Tryz.ntmps288
  go_wp2_with fail
  have F1 := stop ((Below.refl w.heap.size w).alloc (Nat.le_refl _) (.cells #[.int .i64 t, .int .i64 ta, .int .i64 n, .int .i64 a] 142))
  have g1 := heap_alloc_last w (.cells #[.int .i64 t, .int .i64 ta, .int .i64 n, .int .i64 a] 142)
  have sW : w.heap.size < (w.alloc (.cells #[.int .i64 t, .int .i64 ta, .int .i64 n, .int .i64 a] 142)).heap.size := by rw [World.size_alloc]; omega
  generalize w.alloc (.cells #[.int .i64 t, .int .i64 ta, .int .i64 n, .int .i64 a] 142) = W at *
  have k0 := cell_of g1 0
  have k1 := cell_of g1 1
  have k2 := cell_of g1 2
  have k3 := cell_of g1 3
  simp at k0 k1 k2 k3
  clear g1
  go_region_held (fun w' => w'.cell? ⟨w.heap.size, 0, none⟩ = some (.int .i64 t) ∧ w'.cell? ⟨w.heap.size, 1, none⟩ = some (.int .i64 ta) ∧ w'.cell? ⟨w.heap.size, 2, none⟩ = some (.int .i64 n) ∧ w'.cell? ⟨w.heap.size, 3, none⟩ = some (.int .i64 a)) (simp [*])
    (first | (go_at_call 140; refine (regTx t ta W.drew h1 (ht.keep (drewB F1.out))).mono ?_; rintro e v0 ⟨rfl, f⟩; have f' := ofDrew f; have y00 := (f'.cell (p := ⟨w.heap.size, 0, none⟩) sW).trans k0; have y01 := (f'.cell (p := ⟨w.heap.size, 1, none⟩) sW).trans k1; have y02 := (f'.cell (p := ⟨w.heap.size, 2, none⟩) sW).trans k2; have y03 := (f'.cell (p := ⟨w.heap.size, 3, none⟩) sW).trans k3; have O0 := stop (F1.out.trans (f'.mono (Nat.le_of_lt sW))); have s0 := f'.size; clear f f') | (go_at_call 140; refine (regTx n a v0 h2 (ht.keep O0.out)).mono ?_; rintro e v1 ⟨rfl, f⟩; have y10 := (f.cell (p := ⟨w.heap.size, 0, none⟩) (Nat.lt_of_lt_of_le sW s0)).trans y00; have y11 := (f.cell (p := ⟨w.heap.size, 1, none⟩) (Nat.lt_of_lt_of_le sW s0)).trans y01; have y12 := (f.cell (p := ⟨w.heap.size, 2, none⟩) (Nat.lt_of_lt_of_le sW s0)).trans y02; have y13 := (f.cell (p := ⟨w.heap.size, 3, none⟩) (Nat.lt_of_lt_of_le sW s0)).trans y03; have O1 := stop (O0.out.trans (f.mono O0.out.size)); have s1 := Nat.le_trans s0 f.size; clear f))
  all_goals
    go_wp2_with fail
    go_ret
    refine ⟨?_, O1.out⟩
    rw [show (rgT t ++ 61 :: rgT n) = (rgT t ++ [61]) ++ rgT n from by simp, ← str_app, ← str_app]
    rfl

theorem fmtC (n : Int) (w : World) (hn : n.natAbs < 10000) (ht : Tab w) :
    Calls Tryz.prog 299 #[.int .i64 n, .int .i64 10] w fun e w' => e = .returned (.string ⟨(Lib.itoa n).toArray⟩) ∧ Below w.heap.size w w' := by
  refine (Tryz.strconv_FormatInt_10 n (by omega) (by omega) w ht.here).mono ?_
  rintro e w1 ⟨rfl, k, os, rfl⟩
  exact ⟨rfl, bel_grow _ _ _⟩
theorem itoa_len {n : Int} (h : n.natAbs < 10000) : (Lib.itoa n).length ≤ 5 := by
  unfold Lib.itoa
  split
  · rw [List.length_cons]; have := dec_len h; omega
  · have := dec_len (n := n.toNat) (by omega); omega

set_option maxRecDepth 100000 in
set_option maxHeartbeats 1000000 in
theorem loadTx (t ta : Nat) (n : Int) (w : World) (h1 : t < 10000) (h2 : n.natAbs < 10000) (ht : Tab w) :
    Calls Tryz.prog 298 #[.agg #[.int .i64 t, .int .i64 ta, .int .i64 n]] w fun e w' => e = .returned (.string ⟨(rgT t ++ 61 :: Lib.itoa n).toArray⟩) ∧ Below w.heap.size w w' := by
  have hl0 := rg_len h1
  have hl1 := itoa_len h2
  have hz0 : ¬ 9223372036854775807 < (rgT t).length + 1 := by omega
  have hz1 : ¬ 9223372036854775807 < (rgT t).length + 1 + (Lib.itoa n).length := by omega
  go_enter Tryz.func298, Tryz.ntmps298
  go_wp2_with fail
  have F1 := stop ((Below.refl w.heap.size w).alloc (Nat.le_refl _) (.cells #[.int .i64 t, .int .i64 ta, .int .i64 n] 177))
  have g1 := heap_alloc_last w (.cells #[.int .i64 t, .int .i64 ta, .int .i64 n] 177)
  have sW : w.heap.size < (w.alloc (.cells #[.int .i64 t, .int .i64 ta, .int .i64 n] 177)).heap.size := by rw [World.size_alloc]; omega
  generalize w.alloc (.cells #[.int .i64 t, .int .i64 ta, .int .i64 n] 177) = W at *
  have k0 := cell_of g1 0
  have k1 := cell_of g1 1
  have k2 := cell_of g1 2
  simp at k0 k1 k2
  clear g1
  go_region_held (fun w' => w'.cell? ⟨w.heap.size, 0, none⟩ = some (.int .i64 t) ∧ w'.cell? ⟨w.heap.size, 1, none⟩ = some (.int .i64 ta) ∧ w'.cell? ⟨w.heap.size, 2, none⟩ = some (.int .i64 n)) (simp [*])
    (first | (go_at_call 140; refine (regTx t ta W.drew h1 (ht.keep (drewB F1.out))).mono ?_; rintro e v0 ⟨rfl, f⟩; have f' := ofDrew f; have y00 := (f'.cell (p := ⟨w.heap.size, 0, none⟩) sW).trans k0; have y01 := (f'.cell (p := ⟨w.heap.size, 1, none⟩) sW).trans k1; have y02 := (f'.cell (p := ⟨w.heap.size, 2, none⟩) sW).trans k2; have O0 := stop (F1.out.trans (f'.mono (Nat.le_of_lt sW))); have s0 := f'.size; clear f f') | (go_at_call 299; refine (fmtC n v0 h2 (ht.keep O0.out)).mono ?_; rintro e v1 ⟨rfl, f⟩; have y10 := (f.cell (p := ⟨w.heap.size, 0, none⟩) (Nat.lt_of_lt_of_le sW s0)).trans y00; have y11 := (f.cell (p := ⟨w.heap.size, 1, none⟩) (Nat.lt_of_lt_of_le sW s0)).trans y01; have y12 := (f.cell (p := ⟨w.heap.size, 2, none⟩) (Nat.lt_of_lt_of_le sW s0)).trans y02; have O1 := stop (O0.out.trans (f.mono O0.out.size)); have s1 := Nat.le_trans s0 f.size; clear f))
  all_goals
    go_wp2_with fail
    go_ret
    refine ⟨?_, O1.out⟩
    rw [show (rgT t ++ 61 :: Lib.itoa n) = (rgT t ++ [61]) ++ Lib.itoa n from by simp, ← str_app, ← str_app]
    rfl

set_option maxRecDepth 100000 in
set_option maxHeartbeats 1000000 in
theorem takeTx (t ta : Nat) (w : World) (h1 : t < 10000) (ht : Tab w) :
    Calls Tryz.prog 306 #[.agg #[.int .i64 t, .int .i64 ta]] w fun e w' => e = .returned (.string ⟨(rgT t ++ [61, 63]).toArray⟩) ∧ Below w.heap.size w w' := by
  have hl0 := rg_len h1
  have hz0 : ¬ 9223372036854775807 < (rgT t).length + 2 := by omega
  go_enter Tryz.func306, Tryz.ntmps306
  go_wp2_with fail
  have F1 := stop ((Below.refl w.heap.size w).alloc (Nat.le_refl _) (.cells #[.int .i64 t, .int .i64 ta] 272))
  have g1 := heap_alloc_last w (.cells #[.int .i64 t, .int .i64 ta] 272)
  have sW : w.heap.size < (w.alloc (.cells #[.int .i64 t, .int .i64 ta] 272)).heap.size := by rw [World.size_alloc]; omega
  generalize w.alloc (.cells #[.int .i64 t, .int .i64 ta] 272) = W at *
  have k0 := cell_of g1 0
  have k1 := cell_of g1 1
  simp at k0 k1
  clear g1
  refine (regTx t ta W h1 (ht.keep F1.out)).mono ?_
  rintro e w1 ⟨rfl, f1⟩
  have F2 := F1.out.trans (f1.mono F1.out.size)
  clear f1
  go_wp2_with fail
  go_ret
  refine ⟨?_, F2⟩
  rw [show (rgT t ++ [61, 63]) = rgT t ++ [61, 63] from by simp, ← str_app]
  rfl

set_option maxRecDepth 100000 in
set_option maxHeartbeats 1000000 in
theorem putTx (t ta : Nat) (w : World) (h1 : t < 10000) (ht : Tab w) :
    Calls Tryz.prog 318 #[.agg #[.int .i64 t, .int .i64 ta]] w fun e w' => e = .returned (.string ⟨(33 :: rgT t).toArray⟩) ∧ Below w.heap.size w w' := by
  have hl0 := rg_len h1
  have hz0 : ¬ 9223372036854775807 < 1 + (rgT t).length := by omega
  go_enter Tryz.func318, Tryz.ntmps318
  go_wp2_with fail
  have F1 := stop ((Below.refl w.heap.size w).alloc (Nat.le_refl _) (.cells #[.int .i64 t, .int .i64 ta] 315))
  have g1 := heap_alloc_last w (.cells #[.int .i64 t, .int .i64 ta] 315)
  have sW : w.heap.size < (w.alloc (.cells #[.int .i64 t, .int .i64 ta] 315)).heap.size := by rw [World.size_alloc]; omega
  generalize w.alloc (.cells #[.int .i64 t, .int .i64 ta] 315) = W at *
  have k0 := cell_of g1 0
  have k1 := cell_of g1 1
  simp at k0 k1
  clear g1
  refine (regTx t ta W h1 (ht.keep F1.out)).mono ?_
  rintro e w1 ⟨rfl, f1⟩
  have F2 := F1.out.trans (f1.mono F1.out.size)
  clear f1
  go_wp2_with fail
  go_ret
  refine ⟨?_, F2⟩
  rw [show (33 :: rgT t) = [33] ++ rgT t from by simp, ← str_app]
  rfl

set_option maxRecDepth 100000 in
set_option maxHeartbeats 1000000 in
theorem jumpTx (t ta : Nat) (w : World) (h1 : t < 10000) (ht : Tab w) :
    Calls Tryz.prog 314 #[.agg #[.int .i64 t, .int .i64 ta]] w fun e w' => e = .returned (.string ⟨(62 :: Lib.decDigits t).toArray⟩) ∧ Below w.heap.size w w' := by
  have hl0 := dec_len h1
  have hz0 : ¬ 9223372036854775807 < 1 + (Lib.decDigits t).length := by omega
  go_enter Tryz.func314, Tryz.ntmps314
  go_wp2_with fail
  have F1 := stop ((Below.refl w.heap.size w).alloc (Nat.le_refl _) (.cells #[.int .i64 t, .int .i64 ta] 312))
  have g1 := heap_alloc_last w (.cells #[.int .i64 t, .int .i64 ta] 312)
  have sW : w.heap.size < (w.alloc (.cells #[.int .i64 t, .int .i64 ta] 312)).heap.size := by rw [World.size_alloc]; omega
  generalize w.alloc (.cells #[.int .i64 t, .int .i64 ta] 312) = W at *
  have k0 := cell_of g1 0
  have k1 := cell_of g1 1
  simp at k0 k1
  clear g1
  refine (goalTx t ta W h1 (ht.keep F1.out)).mono ?_
  rintro e w1 ⟨rfl, f1⟩
  have F2 := F1.out.trans (f1.mono F1.out.size)
  clear f1
  go_wp2_with fail
  go_ret
  refine ⟨?_, F2⟩
  rw [show (62 :: Lib.decDigits t) = [62] ++ Lib.decDigits t from by simp, ← str_app]
  rfl

set_option maxRecDepth 100000 in
set_option maxHeartbeats 1000000 in
theorem forkTx (t ta n na m ma : Nat) (w : World) (h1 : t < 10000) (h2 : n < 10000) (h3 : m < 10000) (ht : Tab w) :
    Calls Tryz.prog 322 #[.agg #[.int .i64 t, .int .i64 ta, .int .i64 n, .int .i64 na, .int .i64 m, .int .i64 ma]] w fun e w' => e = .returned (.string ⟨(rgT t ++ 63 :: (Lib.decDigits n ++ 58 :: Lib.decDigits m)).toArray⟩) ∧ Below w.heap.size w w' := by
  have hl0 := rg_len h1
  have hl1 := dec_len h2
  have hl2 := dec_len h3
  have hz0 : ¬ 9223372036854775807 < (rgT t).length + 1 := by omega
  have hz1 : ¬ 9223372036854775807 < (rgT t).length + 1 + (Lib.decDigits n).length := by omega
  have hz2 : ¬ 9223372036854775807 < (rgT t).length + 1 + (Lib.decDigits n).length + 1 := by omega
  have hz3 : ¬ 9223372036854775807 < (rgT t).length + 1 + (Lib.decDigits n).length + 1 + (Lib.decDigits m).length := by omega
  go_enter Tryz.func322, Tryz.ntmps322
  go_wp2_with fail
  have F1 := stop ((Below.refl w.heap.size w).alloc (Nat.le_refl _) (.cells #[.int .i64 t, .int .i64 ta, .int .i64 n, .int .i64 na, .int .i64 m, .int .i64 ma] 353))
  have g1 := heap_alloc_last w (.cells #[.int .i64 t, .int .i64 ta, .int .i64 n, .int .i64 na, .int .i64 m, .int .i64 ma] 353)
  have sW : w.heap.size < (w.alloc (.cells #[.int .i64 t, .int .i64 ta, .int .i64 n, .int .i64 na, .int .i64 m, .int .i64 ma] 353)).heap.size := by rw [World.size_alloc]; omega
  generalize w.alloc (.cells #[.int .i64 t, .int .i64 ta, .int .i64 n, .int .i64 na, .int .i64 m, .int .i64 ma] 353) = W at *
  have k0 := cell_of g1 0
  have k1 := cell_of g1 1
  have k2 := cell_of g1 2
  have k3 := cell_of g1 3
  have k4 := cell_of g1 4
  have k5 := cell_of g1 5
  simp at k0 k1 k2 k3 k4 k5
  clear g1
  go_region_held (fun w' => w'.cell? ⟨w.heap.size, 0, none⟩ = some (.int .i64 t) ∧ w'.cell? ⟨w.heap.size, 1, none⟩ = some (.int .i64 ta) ∧ w'.cell? ⟨w.heap.size, 2, none⟩ = some (.int .i64 n) ∧ w'.cell? ⟨w.heap.size, 3, none⟩ = some (.int .i64 na) ∧ w'.cell? ⟨w.heap.size, 4, none⟩ = some (.int .i64 m) ∧ w'.cell? ⟨w.heap.size, 5, none⟩ = some (.int .i64 ma)) (simp [*])
    (first | (go_at_call 140; refine (regTx t ta W.drew h1 (ht.keep (drewB F1.out))).mono ?_; rintro e v0 ⟨rfl, f⟩; have f' := ofDrew f; have y00 := (f'.cell (p := ⟨w.heap.size, 0, none⟩) sW).trans k0; have y01 := (f'.cell (p := ⟨w.heap.size, 1, none⟩) sW).trans k1; have y02 := (f'.cell (p := ⟨w.heap.size, 2, none⟩) sW).trans k2; have y03 := (f'.cell (p := ⟨w.heap.size, 3, none⟩) sW).trans k3; have y04 := (f'.cell (p := ⟨w.heap.size, 4, none⟩) sW).trans k4; have y05 := (f'.cell (p := ⟨w.heap.size, 5, none⟩) sW).trans k5; have O0 := stop (F1.out.trans (f'.mono (Nat.le_of_lt sW))); have s0 := f'.size; clear f f') | (go_at_call 139; refine (goalTx n na v0 h2 (ht.keep O0.out)).mono ?_; rintro e v1 ⟨rfl, f⟩; have y10 := (f.cell (p := ⟨w.heap.size, 0, none⟩) (Nat.lt_of_lt_of_le sW s0)).trans y00; have y11 := (f.cell (p := ⟨w.heap.size, 1, none⟩) (Nat.lt_of_lt_of_le sW s0)).trans y01; have y12 := (f.cell (p := ⟨w.heap.size, 2, none⟩) (Nat.lt_of_lt_of_le sW s0)).trans y02; have y13 := (f.cell (p := ⟨w.heap.size, 3, none⟩) (Nat.lt_of_lt_of_le sW s0)).trans y03; have y14 := (f.cell (p := ⟨w.heap.size, 4, none⟩) (Nat.lt_of_lt_of_le sW s0)).trans y04; have y15 := (f.cell (p := ⟨w.heap.size, 5, none⟩) (Nat.lt_of_lt_of_le sW s0)).trans y05; have O1 := stop (O0.out.trans (f.mono O0.out.size)); have s1 := Nat.le_trans s0 f.size; clear f) | (go_at_call 139; refine (goalTx m ma v1 h3 (ht.keep O1.out)).mono ?_; rintro e v2 ⟨rfl, f⟩; have y20 := (f.cell (p := ⟨w.heap.size, 0, none⟩) (Nat.lt_of_lt_of_le sW s1)).trans y10; have y21 := (f.cell (p := ⟨w.heap.size, 1, none⟩) (Nat.lt_of_lt_of_le sW s1)).trans y11; have y22 := (f.cell (p := ⟨w.heap.size, 2, none⟩) (Nat.lt_of_lt_of_le sW s1)).trans y12; have y23 := (f.cell (p := ⟨w.heap.size, 3, none⟩) (Nat.lt_of_lt_of_le sW s1)).trans y13; have y24 := (f.cell (p := ⟨w.heap.size, 4, none⟩) (Nat.lt_of_lt_of_le sW s1)).trans y14; have y25 := (f.cell (p := ⟨w.heap.size, 5, none⟩) (Nat.lt_of_lt_of_le sW s1)).trans y15; have O2 := stop (O1.out.trans (f.mono O1.out.size)); have s2 := Nat.le_trans s1 f.size; clear f))
  all_goals
    go_wp2_with fail
    go_ret
    refine ⟨?_, O2.out⟩
    rw [show (rgT t ++ 63 :: (Lib.decDigits n ++ 58 :: Lib.decDigits m)) = ((((rgT t ++ [63]) ++ Lib.decDigits n) ++ [58]) ++ Lib.decDigits m) from by simp, ← str_app, ← str_app, ← str_app, ← str_app]
    rfl

def opS (o : Nat) : Nat := if o = 0 then 43 else if o = 1 then 45 else if o = 2 then 42 else 60
set_option maxRecDepth 100000 in
theorem opTx (o : Nat) (w : World) (ho : o < 4) :
    Calls Tryz.prog 323 #[.int .i64 o] w fun e w' => e = .returned (.string ⟨[UInt8.ofNat (opS o)].toArray⟩) ∧ Below w.heap.size w w' := by
  match o, ho with
  | 0, _ | 1, _ | 2, _ | 3, _ =>
    go_enter Tryz.func323, Tryz.ntmps323
    go_wp2_with fail
    go_ret
    exact ⟨by rfl, Below.refl _ _⟩

set_option maxRecDepth 100000 in
set_option maxHeartbeats 1000000 in
theorem compTx (t ta n na o m ma : Nat) (w : World) (h1 : t < 10000) (h2 : n < 10000) (h3 : m < 10000) (ho : o < 4) (ht : Tab w) :
    Calls Tryz.prog 327 #[.agg #[.int .i64 t, .int .i64 ta, .int .i64 n, .int .i64 na, .int .i64 o, .int .i64 m, .int .i64 ma]] w fun e w' => e = .returned (.string ⟨(rgT t ++ 61 :: (rgT n ++ UInt8.ofNat (opS o) :: rgT m)).toArray⟩) ∧ Below w.heap.size w w' := by
  have hl0 := rg_len h1
  have hl1 := rg_len h2
  have hl2 := rg_len h3
  have hz0 : ¬ 9223372036854775807 < (rgT t).length + 1 := by omega
  have hz1 : ¬ 9223372036854775807 < (rgT t).length + 1 + (rgT n).length := by omega
  have hz2 : ¬ 9223372036854775807 < (rgT t).length + 1 + (rgT n).length + 1 := by omega
  have hz3 : ¬ 9223372036854775807 < (rgT t).length + 1 + (rgT n).length + 1 + (rgT m).length := by omega
  go_enter Tryz.func327, Tryz.ntmps327
  go_wp2_with fail
  have F1 := stop ((Below.refl w.heap.size w).alloc (Nat.le_refl _) (.cells #[.int .i64 t, .int .i64 ta, .int .i64 n, .int .i64 na, .int .i64 o, .int .i64 m, .int .i64 ma] 370))
  have g1 := heap_alloc_last w (.cells #[.int .i64 t, .int .i64 ta, .int .i64 n, .int .i64 na, .int .i64 o, .int .i64 m, .int .i64 ma] 370)
  have sW : w.heap.size < (w.alloc (.cells #[.int .i64 t, .int .i64 ta, .int .i64 n, .int .i64 na, .int .i64 o, .int .i64 m, .int .i64 ma] 370)).heap.size := by rw [World.size_alloc]; omega
  generalize w.alloc (.cells #[.int .i64 t, .int .i64 ta, .int .i64 n, .int .i64 na, .int .i64 o, .int .i64 m, .int .i64 ma] 370) = W at *
  have k0 := cell_of g1 0
  have k1 := cell_of g1 1
  have k2 := cell_of g1 2
  have k3 := cell_of g1 3
  have k4 := cell_of g1 4
  have k5 := cell_of g1 5
  have k6 := cell_of g1 6
  simp at k0 k1 k2 k3 k4 k5 k6
  clear g1
  go_region_held (fun w' => w'.cell? ⟨w.heap.size, 0, none⟩ = some (.int .i64 t) ∧ w'.cell? ⟨w.heap.size, 1, none⟩ = some (.int .i64 ta) ∧ w'.cell? ⟨w.heap.size, 2, none⟩ = some (.int .i64 n) ∧ w'.cell? ⟨w.heap.size, 3, none⟩ = some (.int .i64 na) ∧ w'.cell? ⟨w.heap.size, 4, none⟩ = some (.int .i64 o) ∧ w'.cell? ⟨w.heap.size, 5, none⟩ = some (.int .i64 m) ∧ w'.cell? ⟨w.heap.size, 6, none⟩ = some (.int .i64 ma)) (simp [*])
    (first | (go_at_call 140; refine (regTx t ta W.drew h1 (ht.keep (drewB F1.out))).mono ?_; rintro e v0 ⟨rfl, f⟩; have f' := ofDrew f; have y00 := (f'.cell (p := ⟨w.heap.size, 0, none⟩) sW).trans k0; have y01 := (f'.cell (p := ⟨w.heap.size, 1, none⟩) sW).trans k1; have y02 := (f'.cell (p := ⟨w.heap.size, 2, none⟩) sW).trans k2; have y03 := (f'.cell (p := ⟨w.heap.size, 3, none⟩) sW).trans k3; have y04 := (f'.cell (p := ⟨w.heap.size, 4, none⟩) sW).trans k4; have y05 := (f'.cell (p := ⟨w.heap.size, 5, none⟩) sW).trans k5; have y06 := (f'.cell (p := ⟨w.heap.size, 6, none⟩) sW).trans k6; have O0 := stop (F1.out.trans (f'.mono (Nat.le_of_lt sW))); have s0 := f'.size; clear f f') | (go_at_call 140; refine (regTx n na v0 h2 (ht.keep O0.out)).mono ?_; rintro e v1 ⟨rfl, f⟩; have y10 := (f.cell (p := ⟨w.heap.size, 0, none⟩) (Nat.lt_of_lt_of_le sW s0)).trans y00; have y11 := (f.cell (p := ⟨w.heap.size, 1, none⟩) (Nat.lt_of_lt_of_le sW s0)).trans y01; have y12 := (f.cell (p := ⟨w.heap.size, 2, none⟩) (Nat.lt_of_lt_of_le sW s0)).trans y02; have y13 := (f.cell (p := ⟨w.heap.size, 3, none⟩) (Nat.lt_of_lt_of_le sW s0)).trans y03; have y14 := (f.cell (p := ⟨w.heap.size, 4, none⟩) (Nat.lt_of_lt_of_le sW s0)).trans y04; have y15 := (f.cell (p := ⟨w.heap.size, 5, none⟩) (Nat.lt_of_lt_of_le sW s0)).trans y05; have y16 := (f.cell (p := ⟨w.heap.size, 6, none⟩) (Nat.lt_of_lt_of_le sW s0)).trans y06; have O1 := stop (O0.out.trans (f.mono O0.out.size)); have s1 := Nat.le_trans s0 f.size; clear f) | (go_at_call 323; refine (opTx o v1 ho).mono ?_; rintro e v2 ⟨rfl, f⟩; have y20 := (f.cell (p := ⟨w.heap.size, 0, none⟩) (Nat.lt_of_lt_of_le sW s1)).trans y10; have y21 := (f.cell (p := ⟨w.heap.size, 1, none⟩) (Nat.lt_of_lt_of_le sW s1)).trans y11; have y22 := (f.cell (p := ⟨w.heap.size, 2, none⟩) (Nat.lt_of_lt_of_le sW s1)).trans y12; have y23 := (f.cell (p := ⟨w.heap.size, 3, none⟩) (Nat.lt_of_lt_of_le sW s1)).trans y13; have y24 := (f.cell (p := ⟨w.heap.size, 4, none⟩) (Nat.lt_of_lt_of_le sW s1)).trans y14; have y25 := (f.cell (p := ⟨w.heap.size, 5, none⟩) (Nat.lt_of_lt_of_le sW s1)).trans y15; have y26 := (f.cell (p := ⟨w.heap.size, 6, none⟩) (Nat.lt_of_lt_of_le sW s1)).trans y16; have O2 := stop (O1.out.trans (f.mono O1.out.size)); have s2 := Nat.le_trans s1 f.size; clear f) | (go_at_call 140; refine (regTx m ma v2 h3 (ht.keep O2.out)).mono ?_; rintro e v3 ⟨rfl, f⟩; have y30 := (f.cell (p := ⟨w.heap.size, 0, none⟩) (Nat.lt_of_lt_of_le sW s2)).trans y20; have y31 := (f.cell (p := ⟨w.heap.size, 1, none⟩) (Nat.lt_of_lt_of_le sW s2)).trans y21; have y32 := (f.cell (p := ⟨w.heap.size, 2, none⟩) (Nat.lt_of_lt_of_le sW s2)).trans y22; have y33 := (f.cell (p := ⟨w.heap.size, 3, none⟩) (Nat.lt_of_lt_of_le sW s2)).trans y23; have y34 := (f.cell (p := ⟨w.heap.size, 4, none⟩) (Nat.lt_of_lt_of_le sW s2)).trans y24; have y35 := (f.cell (p := ⟨w.heap.size, 5, none⟩) (Nat.lt_of_lt_of_le sW s2)).trans y25; have y36 := (f.cell (p := ⟨w.heap.size, 6, none⟩) (Nat.lt_of_lt_of_le sW s2)).trans y26; have O3 := stop (O2.out.trans (f.mono O2.out.size)); have s3 := Nat.le_trans s2 f.size; clear f))
  all_goals
    go_wp2_with fail
    go_ret
    refine ⟨?_, O3.out⟩
    rw [show (rgT t ++ 61 :: (rgT n ++ UInt8.ofNat (opS o) :: rgT m)) = ((((rgT t ++ [61]) ++ rgT n) ++ [UInt8.ofNat (opS o)]) ++ rgT m) from by simp, ← str_app, ← str_app, ← str_app, ← str_app]
    rfl

end Go.Proofs.YtgfhfkgdmidhpaaGreatDoor
