import Derived.Test.YtjimoigbdcalpaaTd
namespace Go.Proofs.Ytjimoigbdcalpaa
open Go.RowKit

theorem got_yes {b : Nat} {s : ByteArray} {i c : Nat} {bad : Int} {w : World} (hp : PenAt w b s i bad) (hs : s.size ≤ 200000) (hi : i ≤ s.size) (ho : onF s i bad c = true) :
    Calls Try.prog 23 #[.pointer (some ⟨b,0,none⟩), .int .u8 c] w fun e w' => e = .returned (.bool true) ∧ PenAt w' b s (i + 1) bad ∧ Fr b w w' := by
  refine (got_any b s i c bad w hp hs hi).mono ?_
  rintro e w' ⟨rfl, h, f⟩
  exact ⟨by rw [ho], by rw [gotI, if_pos ho] at h; exact h, f⟩
theorem got_no {b : Nat} {s : ByteArray} {i c : Nat} {bad : Int} {w : World} (hp : PenAt w b s i bad) (hs : s.size ≤ 200000) (hi : i ≤ s.size) (ho : onF s i bad c = false) :
    Calls Try.prog 23 #[.pointer (some ⟨b,0,none⟩), .int .u8 c] w fun e w' => e = .returned (.bool false) ∧ PenAt w' b s i bad ∧ Fr b w w' := by
  refine (got_any b s i c bad w hp hs hi).mono ?_
  rintro e w' ⟨rfl, h, f⟩
  exact ⟨by rw [ho], by rw [gotI, if_neg (by simp [ho])] at h; exact h, f⟩
theorem on_is {b : Nat} {s : ByteArray} {i c : Nat} {bad : Int} {w : World} (hp : PenAt w b s i bad) {v : Bool} (ho : onF s i bad c = v) :
    Calls Try.prog 39 #[.pointer (some ⟨b,0,none⟩), .int .u8 c] w fun e w' => e = .returned (.bool v) ∧ PenAt w' b s i bad ∧ Fr b w w' := by
  refine (on_any b s i c bad w hp).mono ?_
  rintro e w' ⟨n, rfl, rfl⟩
  exact ⟨by rw [ho], hp.drewN _, (Fr.refl _ _).drewN _⟩
theorem onF_lt {s i bad c} (h : onF s i bad c = true) : bad < 0 ∧ i < s.size ∧ byt s i = c := by simpa [onF] using h

/-- The operator that stands here: 0: none. -/
def opC (s : ByteArray) (i : Nat) (bad : Int) : Nat :=
  if onF s i bad 43 then 43 else if onF s i bad 45 then 45 else if onF s i bad 42 then 42 else if onF s i bad 60 then 60 else if onF s i bad 195 then 42 else 0
def opI (s : ByteArray) (i : Nat) (bad : Int) : Nat :=
  if onF s i bad 43 then i + 1 else if onF s i bad 45 then i + 1 else if onF s i bad 42 then i + 1 else if onF s i bad 60 then i + 1 else if onF s i bad 195 then gotI s (i + 1) bad 151 else i
def opB (s : ByteArray) (i : Nat) (bad : Int) : Int :=
  if onF s i bad 43 then bad else if onF s i bad 45 then bad else if onF s i bad 42 then bad else if onF s i bad 60 then bad else if onF s i bad 195 then mustB s (i + 1) bad 151 else bad
def opL (k : Nat) : Nat := match k with | 0 => 43 | 1 => 45 | 2 => 42 | _ => 60
theorem opAt {s i bad k} (hk : k < 4) (h : ∀ j, j < k → onF s i bad (opL j) = false) (ho : onF s i bad (opL k) = true) : opC s i bad = opL k ∧ opI s i bad = i + 1 ∧ opB s i bad = bad := by
  unfold opC opI opB
  match k, hk with
  | 0, _ => simp_all [opL]
  | 1, _ => have := h 0 (by omega); simp_all [opL]
  | 2, _ => have := h 0 (by omega); have := h 1 (by omega); simp_all [opL]
  | 3, _ => have := h 0 (by omega); have := h 1 (by omega); have := h 2 (by omega); simp_all [opL]
theorem opNone {s i bad} (h : ∀ j, j < 4 → onF s i bad (opL j) = false) : opC s i bad = (if onF s i bad 195 then 42 else 0) ∧ opI s i bad = (if onF s i bad 195 then gotI s (i + 1) bad 151 else i) ∧ opB s i bad = if onF s i bad 195 then mustB s (i + 1) bad 151 else bad := by
  unfold opC opI opB
  have := h 0 (by omega); have := h 1 (by omega); have := h 2 (by omega); have := h 3 (by omega); simp_all [opL]

set_option maxRecDepth 100000 in
set_option maxHeartbeats 400000 in
theorem op_any (b : Nat) (s : ByteArray) (i : Nat) (bad : Int) (w : World) (hp : PenAt w b s i bad) (hs : s.size ≤ 200000) (hi : i ≤ s.size) :
    Calls Try.prog 55 #[.pointer (some ⟨b,0,none⟩)] w fun e w' => e = .returned (.int .u8 (opC s i bad)) ∧ PenAt w' b s (opI s i bad) (opB s i bad) ∧ Fr b w w' := by
  go_enter Try.func55, Try.ntmps55
  go_wp2_with fail
  go_loopw [4] (fun k wr => ∃ j : Nat, j ≤ 4 ∧ k = .int .i64 j ∧ (∀ l, l < j → Hid (onF s i bad (opL l) = false)) ∧ PenAt wr b s i bad ∧ Fr b w wr) (fun k _ => 4 - (intOf k).toNat)
  case atStart => exact ⟨0, by omega, rfl, fun l h => by omega, hp, Fr.refl _ _⟩
  case round =>
    clear hp
    obtain ⟨j, hj, rfl, HL, hp, f⟩ := hrel
    by_cases hj4 : j < 4
    · cases ho : onF s i bad (opL j) with
      | true =>
        have H := opAt hj4 (fun l h => (HL l h).out) ho
        have HO : Hid (onF s i bad (opL j) = true) := ho
        have H' := stop H
        clear ho H
        match j, hj4 with
        | 0, _ =>
          go_wp2_with fail
          refine (got_yes hp hs hi HO.out).mono ?_
          rintro e w1 ⟨rfl, hp1, f1⟩
          go_wp2_with fail
          go_ret
          exact ⟨by rw [H'.out.1]; rfl, by rw [H'.out.2.1, H'.out.2.2]; exact hp1, f.trans f1⟩
        | 1, _ =>
          go_wp2_with fail
          refine (got_yes hp hs hi HO.out).mono ?_
          rintro e w1 ⟨rfl, hp1, f1⟩
          go_wp2_with fail
          go_ret
          exact ⟨by rw [H'.out.1]; rfl, by rw [H'.out.2.1, H'.out.2.2]; exact hp1, f.trans f1⟩
        | 2, _ =>
          go_wp2_with fail
          refine (got_yes hp hs hi HO.out).mono ?_
          rintro e w1 ⟨rfl, hp1, f1⟩
          go_wp2_with fail
          go_ret
          exact ⟨by rw [H'.out.1]; rfl, by rw [H'.out.2.1, H'.out.2.2]; exact hp1, f.trans f1⟩
        | 3, _ =>
          go_wp2_with fail
          refine (got_yes hp hs hi HO.out).mono ?_
          rintro e w1 ⟨rfl, hp1, f1⟩
          go_wp2_with fail
          go_ret
          exact ⟨by rw [H'.out.1]; rfl, by rw [H'.out.2.1, H'.out.2.2]; exact hp1, f.trans f1⟩
      | false =>
        have HO : Hid (onF s i bad (opL j) = false) := ho
        have HL2 : ∀ l, l < j + 1 → Hid (onF s i bad (opL l) = false) := fun l h => by
          rcases Nat.lt_succ_iff_lt_or_eq.1 h with h | rfl
          · exact HL l h
          · exact HO
        clear ho
        match j, hj4 with
        | 0, _ =>
          go_wp2_with fail
          refine (got_no hp hs hi HO.out).mono ?_
          rintro e w1 ⟨rfl, hp1, f1⟩
          go_wp2_with fail
          go_roundw
          case rel => exact ⟨1, by omega, rfl, HL2, hp1, f.trans f1⟩
          case measure => simp [intOf]
        | 1, _ =>
          go_wp2_with fail
          refine (got_no hp hs hi HO.out).mono ?_
          rintro e w1 ⟨rfl, hp1, f1⟩
          go_wp2_with fail
          go_roundw
          case rel => exact ⟨2, by omega, rfl, HL2, hp1, f.trans f1⟩
          case measure => simp [intOf]
        | 2, _ =>
          go_wp2_with fail
          refine (got_no hp hs hi HO.out).mono ?_
          rintro e w1 ⟨rfl, hp1, f1⟩
          go_wp2_with fail
          go_roundw
          case rel => exact ⟨3, by omega, rfl, HL2, hp1, f.trans f1⟩
          case measure => simp [intOf]
        | 3, _ =>
          go_wp2_with fail
          refine (got_no hp hs hi HO.out).mono ?_
          rintro e w1 ⟨rfl, hp1, f1⟩
          go_wp2_with fail
          go_roundw
          case rel => exact ⟨4, by omega, rfl, HL2, hp1, f.trans f1⟩
          case measure => simp [intOf]
    · have hj' : j = 4 := by omega
      subst hj'
      have H := opNone (fun l h => (HL l h).out)
      cases ho : onF s i bad 195 with
      | true =>
        rw [ho] at H
        have H' := stop H
        have HO := stop ho
        have hlt := (onF_lt ho).2.1
        clear H ho HL
        go_wp2_with fail
        refine (got_yes hp hs hi HO.out).mono ?_
        rintro e w1 ⟨rfl, hp1, f1⟩
        go_wp2_with fail
        refine (must_any b s (i + 1) 151 bad _ hp1 hs (by omega)).mono ?_
        rintro e w2 ⟨rfl, hp2, f2⟩
        go_wp2_with fail
        go_ret
        exact ⟨by rw [H'.out.1]; rfl, by rw [H'.out.2.1, H'.out.2.2]; exact hp2, (f.trans f1).trans f2⟩
      | false =>
        rw [ho] at H
        have H' := stop H
        have HO := stop ho
        clear H ho HL
        go_wp2_with fail
        refine (got_no hp hs hi HO.out).mono ?_
        rintro e w1 ⟨rfl, hp1, f1⟩
        go_wp2_with fail
        go_ret
        exact ⟨by rw [H'.out.1]; rfl, by rw [H'.out.2.1, H'.out.2.2]; exact hp1, f.trans f1⟩
end Go.Proofs.Ytjimoigbdcalpaa
