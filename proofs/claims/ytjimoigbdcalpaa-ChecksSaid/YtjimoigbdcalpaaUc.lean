import Derived.Test.YtjimoigbdcalpaaUb
namespace Go.Proofs.Ytjimoigbdcalpaa
open Go.RowKit

/-! Once a text has broken off, it stays so. -/
section sticky
variable {s : ByteArray} {i : Nat} {bad : Int} (h : 0 ≤ bad)
include h
theorem st_on {c : Nat} : onF s i bad c = false := by simp [onF]; omega
theorem st_dig : digF s i bad = false := by simp [digF]; omega
theorem st_fail : failB i bad = bad := by rw [failB, if_neg (by omega)]
theorem st_got {c : Nat} : gotI s i bad c = i := by rw [gotI, st_on h]; rfl
theorem st_must {c : Nat} : mustB s i bad c = bad := by rw [mustB, st_on h]; exact st_fail h
theorem st_numB : numB s i bad = bad := by rw [numB, st_dig h]; exact st_fail h
theorem st_numI : numI s i bad = i := by rw [numI, st_dig h]; rfl
theorem st_regB : regB s i bad = bad := by rw [regB, st_must h, st_numB h]
theorem st_opB : opB s i bad = bad := by simp [opB, st_on h]
theorem st_opC : opC s i bad = 0 := by simp [opC, st_on h]
theorem st_givB {to : Nat × Nat} : (givF s to i bad).bad = bad := by simp [givF, st_on h, st_numB h]
theorem st_braB {a : Nat × Nat} : (braF s a i bad).bad = bad := by simp [braF, st_must h, st_numB h]
end sticky
theorem st_choR {s : ByteArray} {c : Cho} (hc : 0 ≤ c.bad) : (choR s c).bad = c.bad := by simp [choR, st_numB hc, st_must hc, st_regB hc]
theorem st_cho {s : ByteArray} (k : Nat) {c : Cho} (hc : 0 ≤ c.bad) : (choGo s k c).bad = c.bad := by
  induction k generalizing c with
  | zero => rfl
  | succ k ih =>
    have h1 := st_choR (s := s) hc
    rw [choGo]
    have : onF s (choR s c).i (choR s c).bad 44 = false := st_on (by rw [h1]; exact hc)
    simp only [this]
    exact h1
theorem st_blk {s : ByteArray} {i0 : Nat} (k : Nat) {chs sts i} {bad : Int} (h : 0 ≤ bad) : (blkGo s i0 k chs sts i bad).bad = bad := by
  cases k with
  | zero => rfl
  | succ k => rw [blkGo, if_neg (by omega)]
/-- At the beginning it has not: -1; behind a step: -1, or a place. -/
theorem failB1 {i} : failB i (-1) = i := by simp [failB]
theorem mustB1 {s i c} : mustB s i (-1) c = if onF s i (-1) c then -1 else (i : Int) := by
  rw [mustB, failB1]
theorem numB1 {s i} : numB s i (-1) = if digF s i (-1) then -1 else (i : Int) := by
  rw [numB, failB1]
theorem regB1 {s i} : regB s i (-1) = if onF s i (-1) 114 then (if digF s (i + 1) (-1) then -1 else ((i + 1 : Nat) : Int)) else (i : Int) := by
  rw [regB, mustB1]
  cases h : onF s i (-1) 114 with
  | true => rw [if_pos rfl, if_pos rfl, gotI, if_pos h, numB1]
  | false => rw [if_neg (by simp), if_neg (by simp), st_numB (by omega)]
theorem regOk {s i} (h : regB s i (-1) < 0) : onF s i (-1) 114 = true ∧ digF s (i + 1) (-1) = true ∧ regB s i (-1) = -1 ∧ regN s i (-1) = numN s (i + 1) (-1) ∧ regI s i (-1) = numI s (i + 1) (-1) := by
  rw [regB1] at h
  cases h1 : onF s i (-1) 114 with
  | false => rw [h1, if_neg (by simp)] at h; omega
  | true =>
    rw [h1, if_pos rfl] at h
    cases h2 : digF s (i + 1) (-1) with
    | false => rw [h2, if_neg (by simp)] at h; omega
    | true =>
      have g1 : gotI s i (-1) 114 = i + 1 := by rw [gotI, if_pos h1]
      have g2 : mustB s i (-1) 114 = -1 := by rw [mustB, if_pos h1]
      exact ⟨rfl, rfl, by rw [regB1, h1, h2]; rfl, by rw [regN, g1, g2], by rw [regI, g1, g2]⟩

set_option maxHeartbeats 400000 in
theorem goal_yes {b g : Nat} {s : ByteArray} {i : Nat} {w : World} (hp : RS w b g s i) (hs : s.size ≤ 200000) (hd : digF s i (-1) = true) :
    Calls Try.prog 46 #[.pointer (some ⟨b,0,none⟩)] w fun e w' => e = .returned (.agg #[.int .i64 (numN s i (-1)), .int .i64 i]) ∧ RS w' b g s (numI s i (-1)) ∧ Fr b w w' := by
  have hl := hp.lt
  have hgl := hp.glt
  have hne : b ≠ w.heap.size := by omega
  have HD := stop hd
  clear hd
  go_enter Try.func46, Try.ntmps46
  go_wp2_with fail
  refine (at_of (hp.alloc _)).mono ?_
  rintro e w1 ⟨rfl, hp1, f1⟩
  go_wp2_with fail
  refine (num_yes hp1 hs HD.out).mono ?_
  rintro e w2 ⟨rfl, hp2, f2⟩
  have f3 := f1.trans f2
  have hk := f3.own hne
  have k0 := cell_of hk 0
  have k1 := cell_of hk 1
  have kf := frozen_of hk
  simp at k0 k1
  clear hk
  go_wp2_with fail
  refine bodyPost_ret (v := .agg #[.int .i64 (numN s i (-1)), .int .i64 i]) (by simp [results, Try.results46, go_sem, k0, k1]) rfl ⟨rfl, ?_, ?_⟩
  · exact (hp2.setk _ 0 _ hne (by omega)).setk _ 1 _ hne (by omega)
  · exact ((((Fr.refl _ _).alloc _).trans f3).setk _ 0 _ (Nat.le_refl _)).setk _ 1 _ (Nat.le_refl _)

set_option maxHeartbeats 400000 in
theorem goal_no {b g : Nat} {s : ByteArray} {i : Nat} {w : World} (hp : RS w b g s i) (hd : digF s i (-1) = false) :
    Calls Try.prog 46 #[.pointer (some ⟨b,0,none⟩)] w fun e w' => e = .panicked (brk i) ∧ Fr b w w' := by
  have HD := stop hd
  clear hd
  go_enter Try.func46, Try.ntmps46
  go_wp2_with fail
  refine (at_of (hp.alloc _)).mono ?_
  rintro e w1 ⟨rfl, hp1, f1⟩
  go_wp2_with fail
  refine (num_no hp1 HD.out).mono ?_
  rintro e w2 ⟨rfl, f2⟩
  go_wp2_with fail
  exact ⟨rfl, rfl, (((Fr.refl _ _).alloc _).trans f1).trans f2⟩

set_option maxHeartbeats 400000 in
theorem reg_yes {b g : Nat} {s : ByteArray} {i : Nat} {w : World} (hp : RS w b g s i) (hs : s.size ≤ 200000) (hd : regB s i (-1) < 0) :
    Calls Try.prog 47 #[.pointer (some ⟨b,0,none⟩)] w fun e w' => e = .returned (.agg #[.int .i64 (regN s i (-1)), .int .i64 i]) ∧ RS w' b g s (regI s i (-1)) ∧ Fr b w w' := by
  have hl := hp.lt
  have hgl := hp.glt
  have hne : b ≠ w.heap.size := by omega
  obtain ⟨h1, h2, _, h4, h5⟩ := regOk hd
  have H1 := stop h1
  have H2 := stop h2
  have H4 := stop h4
  have H5 := stop h5
  clear hd h1 h2 h4 h5
  go_enter Try.func47, Try.ntmps47
  go_wp2_with fail
  refine (at_of (hp.alloc _)).mono ?_
  rintro e w1 ⟨rfl, hp1, f1⟩
  go_wp2_with fail
  refine (want_yes (c := 114) hp1 hs (by decide) H1.out).mono ?_
  rintro e w2 ⟨rfl, hp2, f2⟩
  go_wp2_with fail
  refine (num_yes hp2 hs H2.out).mono ?_
  rintro e w3 ⟨rfl, hp3, f3⟩
  have f4 := (f1.trans f2).trans f3
  have hk := f4.own hne
  have k0 := cell_of hk 0
  have k1 := cell_of hk 1
  have kf := frozen_of hk
  simp at k0 k1
  clear hk
  go_wp2_with fail
  rw [H4.out, H5.out]
  refine bodyPost_ret (v := .agg #[.int .i64 (numN s (i + 1) (-1)), .int .i64 i]) (by simp [results, Try.results47, go_sem, k0, k1]) rfl ⟨rfl, ?_, ?_⟩
  · exact (hp3.setk _ 0 _ hne (by omega)).setk _ 1 _ hne (by omega)
  · exact ((((Fr.refl _ _).alloc _).trans f4).setk _ 0 _ (Nat.le_refl _)).setk _ 1 _ (Nat.le_refl _)

set_option maxHeartbeats 400000 in
theorem reg_no {b g : Nat} {s : ByteArray} {i : Nat} {w : World} (hp : RS w b g s i) (hs : s.size ≤ 200000) (hd : 0 ≤ regB s i (-1)) :
    Calls Try.prog 47 #[.pointer (some ⟨b,0,none⟩)] w fun e w' => e = .panicked (brk (regB s i (-1))) ∧ Fr b w w' := by
  rw [regB1] at hd ⊢
  cases h1 : onF s i (-1) 114 with
  | true =>
    rw [h1, if_pos rfl] at hd
    cases h2 : digF s (i + 1) (-1) with
    | true => rw [h2, if_pos rfl] at hd; omega
    | false =>
      rw [if_pos rfl, if_neg (by simp)]
      have H1 := stop h1
      have H2 := stop h2
      clear hd h1 h2
      go_enter Try.func47, Try.ntmps47
      go_wp2_with fail
      refine (at_of (hp.alloc _)).mono ?_
      rintro e w1 ⟨rfl, hp1, f1⟩
      go_wp2_with fail
      refine (want_yes (c := 114) hp1 hs (by decide) H1.out).mono ?_
      rintro e w2 ⟨rfl, hp2, f2⟩
      go_wp2_with fail
      refine (num_no hp2 H2.out).mono ?_
      rintro e w3 ⟨rfl, f3⟩
      go_wp2_with fail
      exact ⟨rfl, rfl, ((((Fr.refl _ _).alloc _).trans f1).trans f2).trans f3⟩
  | false =>
    rw [if_neg (by simp)]
    have H1 := stop h1
    clear hd h1
    go_enter Try.func47, Try.ntmps47
    go_wp2_with fail
    refine (at_of (hp.alloc _)).mono ?_
    rintro e w1 ⟨rfl, hp1, f1⟩
    go_wp2_with fail
    refine (want_no (c := 114) hp1 (by decide) H1.out).mono ?_
    rintro e w2 ⟨rfl, f2⟩
    go_wp2_with fail
    exact ⟨rfl, rfl, (((Fr.refl _ _).alloc _).trans f1).trans f2⟩
end Go.Proofs.Ytjimoigbdcalpaa
