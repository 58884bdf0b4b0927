import Derived.Test.YtgfhfkgdmidhpaaGreatRC
namespace Go.Proofs.YtgfhfkgdmidhpaaGreat
open Go.RowKit

theorem kprF_bd {su : Nat → List Nat} {n : Nat} (hn : 0 < n) (hs : ∀ i k, k ∈ su i → k < n) (b : Nat) : -2 ≤ kprF su n b ∧ kprF su n b < n := by
  by_cases hb : Rch su noB b
  · by_cases h0 : b = 0
    · subst h0; rw [kpr_zero hn hs]; omega
    · obtain ⟨a, e, ha, _⟩ := kpr_some hn hs hb h0
      rw [e]; omega
  · rw [kpr_out hn hs hb]; omega
theorem upK_stop {su : Nat → List Nat} {n : Nat} {stop : Int → Bool} {k : Int} (h : (decide (0 < k) && !stop k) = false) (t : Nat) : upK su n stop t k = k := by
  cases t with
  | zero => rfl
  | succ t => rw [upK, h]; rfl
theorem upK_go {su : Nat → List Nat} {n : Nat} {stop : Int → Bool} {k : Nat} (h0 : 0 < k) (hs : stop k = false) {t : Nat} (ht : 0 < t) : upK su n stop t (k : Int) = upK su n stop (t - 1) (kprF su n k) := by
  obtain ⟨q, rfl⟩ : ∃ q, t = q + 1 := ⟨t - 1, by omega⟩
  have : decide (0 < (k : Int)) = true := by simp; omega
  rw [upK, hs, this]
  simp
def noS (_ : Int) : Bool := false
theorem up_zero {su : Nat → List Nat} {n : Nat} (hn : 0 < n) (hs : ∀ i k, k ∈ su i → k < n) {i : Nat} (hi : kprF su n i ≠ -2) : upK su n noS n (i : Int) = 0 := by
  have hr : Rch su noB i := by
    by_cases h : Rch su noB i
    · exact h
    · exact absurd (kpr_out hn hs h) hi
  exact upK_to hn hs (a := 0) noS (fun k h => by cases h) n i (.zero hr) (domN_le i) (.inr rfl)
theorem rim_lt {su : Nat → List Nat} {n x y : Nat} (h : y ∈ rimL su n x) : y < n := (setL_mem.1 h).1
theorem up_rim {su : Nat → List Nat} {n : Nat} (hn : 0 < n) (hs : ∀ i k, k ∈ su i → k < n) {x y : Nat} (h : y ∈ rimL su n x) (hy : 0 < y) : upK su n (fun k => k == kprF su n y) n (x : Int) = kprF su n y := by
  obtain ⟨h1, h2, h3⟩ := rim_over hn hs (setL_mem.1 h).2
  obtain ⟨a, e, ha, hne, ho, _⟩ := kpr_some hn hs h1 (by omega)
  rw [e]
  refine upK_to hn hs (a := a) _ (fun k hk => ?_) n x (h3 a hne ho) (domN_le x) (.inl (by simp))
  have : (k : Int) = (a : Int) := by simpa using hk
  omega
theorem kpr_two {su : Nat → List Nat} {n b : Nat} (h : kprF su n b = -2) : rchF su n noB b = false := by
  cases hr : rchF su n noB b with
  | false => rfl
  | true =>
    rw [kprF, hr, if_pos rfl] at h
    cases hk : kprO su n b with
    | none => rw [hk] at h; simp at h
    | some a => rw [hk] at h; simp at h
theorem kprs_at {bs : List RBlk} {j : Nat} (hj : j < bs.length) : (zcell (kprs bs))[j]? = some (.int .i64 (kprF (suF bs) bs.length j)) := by simp [zcell, kprs, hj]
theorem kprs_len (bs : List RBlk) : (kprs bs).length = bs.length := by simp [kprs]


end Go.Proofs.YtgfhfkgdmidhpaaGreat
