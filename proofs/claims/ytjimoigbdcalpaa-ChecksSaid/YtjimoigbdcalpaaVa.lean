import Derived.Test.YtjimoigbdcalpaaUa
namespace Go.Proofs.Ytjimoigbdcalpaa
open Go.RowKit

theorem get_byt {s : ByteArray} {i : Nat} (h : i < s.size) : (s.get! i).toNat = byt s i := by
  rw [byt_get h]
  simp only [ByteArray.get!, ByteArray.getElem_eq_getElem_data]
  rw [getElem!_pos]
theorem dec_facts {s : ByteArray} {i : Nat} (h : i < s.size) :
    ((Utf8.decode s i).1 < 128 ↔ byt s i < 128) ∧ (byt s i < 128 → Utf8.decode s i = (byt s i, 1)) ∧
    ((Utf8.decode s i).1 = 215 ↔ i + 1 < s.size ∧ byt s i = 195 ∧ byt s (i + 1) = 151) ∧ ((Utf8.decode s i).1 = 215 → (Utf8.decode s i).2 = 2) ∧
    1 ≤ (Utf8.decode s i).2 ∧ i + (Utf8.decode s i).2 ≤ s.size ∧ (Utf8.decode s i).1 < 2000000 := by
  have hb := byt_lt s i
  have g0 : (s.get! (i + 0)).toNat = byt s i := get_byt h
  unfold Utf8.decode
  simp only [g0]
  by_cases h1 : byt s i < 128
  · rw [if_pos h1]
    refine ⟨by simp [h1], fun _ => rfl, ?_, ?_, by simp, by show i + 1 ≤ _; omega, by show byt s i < _; omega⟩
    · constructor
      · intro e; have e : byt s i = 215 := e; omega
      · rintro ⟨_, e, _⟩; omega
    · intro e; have e : byt s i = 215 := e; omega
  · rw [if_neg h1]
    have key : ∀ c wd : Nat, 128 ≤ c → c ≠ 215 → ¬ (i + 1 < s.size ∧ byt s i = 195 ∧ byt s (i + 1) = 151) → 1 ≤ wd → i + wd ≤ s.size → c < 2000000 →
        (((c, wd) : Nat × Nat).1 < 128 ↔ byt s i < 128) ∧ (byt s i < 128 → ((c, wd) : Nat × Nat) = (byt s i, 1)) ∧ (((c, wd) : Nat × Nat).1 = 215 ↔ i + 1 < s.size ∧ byt s i = 195 ∧ byt s (i + 1) = 151) ∧ (((c, wd) : Nat × Nat).1 = 215 → ((c, wd) : Nat × Nat).2 = 2) ∧ 1 ≤ ((c, wd) : Nat × Nat).2 ∧ i + ((c, wd) : Nat × Nat).2 ≤ s.size ∧ ((c, wd) : Nat × Nat).1 < 2000000 := by
      intro c wd a1 a2 a3 a4 a5 a6
      exact ⟨⟨fun e => by have e : c < 128 := e; omega, fun e => absurd e h1⟩, fun e => absurd e h1, ⟨fun e => absurd e a2, fun e => absurd e a3⟩, fun e => absurd e a2, a4, a5, a6⟩
    by_cases h2 : (byt s i / 32 == 6 && (decide (i + 1 < s.size) && (s.get! (i + 1)).toNat / 64 == 2)) = true
    · rw [if_pos h2]
      simp only [Bool.and_eq_true, beq_iff_eq, decide_eq_true_eq] at h2
      obtain ⟨h3, h4, h5⟩ := h2
      rw [get_byt h4] at h5 ⊢
      have hb1 := byt_lt s (i + 1)
      by_cases h6 : (byt s i % 32) * 64 + byt s (i + 1) % 64 ≥ 128
      · rw [if_pos h6]
        refine ⟨⟨fun e => by have e : (byt s i % 32) * 64 + byt s (i + 1) % 64 < 128 := e; omega, fun e => absurd e h1⟩, fun e => absurd e h1, ⟨fun e => ?_, fun e => ?_⟩, fun _ => rfl, by show 1 ≤ 2; decide, by show i + 2 ≤ _; omega, by show (byt s i % 32) * 64 + byt s (i + 1) % 64 < 2000000; omega⟩
        · have e : (byt s i % 32) * 64 + byt s (i + 1) % 64 = 215 := e
          exact ⟨h4, by omega, by omega⟩
        · show (byt s i % 32) * 64 + byt s (i + 1) % 64 = 215
          omega
      · rw [if_neg h6]
        exact key 65533 1 (by omega) (by omega) (fun e => h6 (by omega)) (by omega) (by omega) (by omega)
    · rw [if_neg h2]
      have hn : ¬ (i + 1 < s.size ∧ byt s i = 195 ∧ byt s (i + 1) = 151) := by
        rintro ⟨a, c, d⟩
        apply h2
        simp only [Bool.and_eq_true, beq_iff_eq, decide_eq_true_eq]
        exact ⟨by omega, a, by rw [get_byt a]; omega⟩
      by_cases h3 : (byt s i / 16 == 14 && (decide (i + 1 < s.size) && (s.get! (i + 1)).toNat / 64 == 2) && (decide (i + 2 < s.size) && (s.get! (i + 2)).toNat / 64 == 2)) = true
      · rw [if_pos h3]
        simp only [Bool.and_eq_true, beq_iff_eq, decide_eq_true_eq] at h3
        obtain ⟨⟨h4, h5, h6⟩, h7, h8⟩ := h3
        generalize (s.get! (i + 1)).toNat = x1 at *
        generalize (s.get! (i + 2)).toNat = x2 at *
        obtain ⟨c, hc⟩ : ∃ c, c = byt s i % 16 * 4096 + x1 % 64 * 64 + x2 % 64 := ⟨_, rfl⟩
        rw [← hc]
        by_cases h9 : (decide (c ≥ 2048) && Utf8.valid (c : Int)) = true
        · rw [if_pos h9]
          simp only [Bool.and_eq_true, decide_eq_true_eq] at h9
          exact key _ 3 (by omega) (by omega) hn (by omega) (by omega) (by omega)
        · rw [if_neg h9]
          exact key 65533 1 (by omega) (by omega) hn (by omega) (by omega) (by omega)
      · rw [if_neg h3]
        by_cases h4 : (byt s i / 8 == 30 && (decide (i + 1 < s.size) && (s.get! (i + 1)).toNat / 64 == 2) && (decide (i + 2 < s.size) && (s.get! (i + 2)).toNat / 64 == 2) && (decide (i + 3 < s.size) && (s.get! (i + 3)).toNat / 64 == 2)) = true
        · rw [if_pos h4]
          simp only [Bool.and_eq_true, beq_iff_eq, decide_eq_true_eq] at h4
          obtain ⟨⟨⟨h5, h6, h7⟩, h8, h9⟩, h10, h11⟩ := h4
          generalize (s.get! (i + 1)).toNat = x1 at *
          generalize (s.get! (i + 2)).toNat = x2 at *
          generalize (s.get! (i + 3)).toNat = x3 at *
          obtain ⟨c, hc⟩ : ∃ c, c = byt s i % 8 * 262144 + x1 % 64 * 4096 + x2 % 64 * 64 + x3 % 64 := ⟨_, rfl⟩
          rw [← hc]
          by_cases h12 : (decide (c ≥ 65536) && Utf8.valid (c : Int)) = true
          · rw [if_pos h12]
            simp only [Bool.and_eq_true, decide_eq_true_eq] at h12
            refine key _ 4 (by omega) (by omega) hn (by omega) (by omega) ?_
            have hv := h12.2
            unfold Utf8.valid at hv
            simp at hv
            omega
          · rw [if_neg h12]
            exact key 65533 1 (by omega) (by omega) hn (by omega) (by omega) (by omega)
        · rw [if_neg h4]
          exact key 65533 1 (by omega) (by omega) hn (by omega) (by omega) (by omega)
end Go.Proofs.Ytjimoigbdcalpaa
