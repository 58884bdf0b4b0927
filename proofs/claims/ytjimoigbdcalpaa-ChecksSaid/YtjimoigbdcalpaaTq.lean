import Derived.Test.YtjimoigbdcalpaaTp
namespace Go.Proofs.Ytjimoigbdcalpaa
open Go.RowKit

theorem choGo_len {s} (k c) : (choGo s k c).gs.length ≤ c.gs.length + k := by
  induction k generalizing c with
  | zero => exact Nat.le_refl _
  | succ k ih =>
    rw [choGo]
    have h0 : (choR s c).gs.length = c.gs.length + 1 := by simp [choR]
    cases h : onF s (choR s c).i (choR s c).bad 44 with
    | true =>
      rw [if_pos rfl]
      have := ih { choR s c with i := gotI s (choR s c).i (choR s c).bad 44 }
      dsimp only at this ⊢; omega
    | false => rw [if_neg (by simp)]; dsimp only; omega
theorem choF_len {s i bad} : (choF s i bad).gs.length ≤ s.size + 1 := by
  have := choGo_len (s := s) (s.size + 1) { gs := [], rs := [], i := gotI s i bad 64, bad := mustB s i bad 64 }
  simpa [choF] using this
theorem blkGo_len {s i0} (k : Nat) : ∀ chs sts i bad, (blkGo s i0 k chs sts i bad).b.chs.length ≤ chs.length + k ∧ ((∀ c ∈ chs, c.gs.length ≤ s.size + 1) → ∀ c ∈ (blkGo s i0 k chs sts i bad).b.chs, c.gs.length ≤ s.size + 1) := by
  induction k with
  | zero => intro chs sts i bad; exact ⟨Nat.le_refl _, fun h => h⟩
  | succ k ih =>
    intro chs sts i bad
    rw [blkGo]
    by_cases hb : bad < 0
    · rw [if_pos hb]
      by_cases h1 : onF s i bad 46 = true
      · rw [if_pos h1]; exact ⟨Nat.le_add_right _ _, fun h => h⟩
      rw [if_neg h1]
      by_cases h2 : onF s i bad 62 = true
      · rw [if_pos h2]; exact ⟨Nat.le_add_right _ _, fun h => h⟩
      rw [if_neg h2]
      by_cases h3 : onF s i bad 33 = true
      · rw [if_pos h3]
        exact ⟨Nat.le_trans (ih _ _ _ _).1 (by omega), (ih _ _ _ _).2⟩
      rw [if_neg h3]
      dsimp only
      by_cases h4 : onF s (regI s i bad) (regB s i bad) 61 = true
      · rw [if_pos h4]
        exact ⟨Nat.le_trans (ih _ _ _ _).1 (by omega), (ih _ _ _ _).2⟩
      rw [if_neg h4]
      by_cases h5 : (onF s (regI s i bad) (regB s i bad) 64 && sts.isEmpty) = true
      · rw [if_pos h5]
        refine ⟨Nat.le_trans (ih _ _ _ _).1 (by simp; omega), fun h => (ih _ _ _ _).2 ?_⟩
        intro c hc
        rcases List.mem_append.1 hc with hc | hc
        · exact h c hc
        · simp at hc; subst hc; exact choF_len
      rw [if_neg h5]; exact ⟨Nat.le_add_right _ _, fun h => h⟩
    · rw [if_neg hb]; exact ⟨Nat.le_add_right _ _, fun h => h⟩
def BlkFine (n : Nat) (b : RBlk) : Prop := b.chs.length ≤ n ∧ ∀ c ∈ b.chs, c.gs.length ≤ n
theorem blkF_fine {s i bad} : BlkFine (s.size + 1) (blkF s i bad).b := by
  have h := blkGo_len (s := s) (i0 := i) (s.size + 1) [] [] i bad
  exact ⟨by simpa [blkF] using h.1, h.2 (by simp)⟩
theorem parGo_fine {s} (k p) (h : ∀ b ∈ p.bs, BlkFine (s.size + 1) b) : (parGo s k p).bs.length ≤ p.bs.length + k ∧ ∀ b ∈ (parGo s k p).bs, BlkFine (s.size + 1) b := by
  induction k generalizing p with
  | zero => exact ⟨Nat.le_refl _, h⟩
  | succ k ih =>
    rw [parGo]
    have hq : ∀ b ∈ p.bs ++ [(blkF s p.i p.bad).b], BlkFine (s.size + 1) b := by
      intro b hb
      rcases List.mem_append.1 hb with hb | hb
      · exact h b hb
      · simp at hb; subst hb; exact blkF_fine
    cases ho : onF s (blkF s p.i p.bad).i (blkF s p.i p.bad).bad 124 with
    | true =>
      rw [if_pos rfl]
      have := ih ⟨p.bs ++ [(blkF s p.i p.bad).b], gotI s (blkF s p.i p.bad).i (blkF s p.i p.bad).bad 124, (blkF s p.i p.bad).bad⟩ hq
      refine ⟨Nat.le_trans this.1 (by simp; omega), this.2⟩
    | false => rw [if_neg (by simp)]; exact ⟨by simp, hq⟩
theorem parF_fine (s) : (parF s).bs.length ≤ s.size + 1 ∧ ∀ b ∈ (parF s).bs, BlkFine (s.size + 1) b := by
  have := parGo_fine (s := s) (s.size + 1) ⟨[], 0, -1⟩ (by simp)
  simpa [parF] using this

structure Rd where
  e : Nat
  at_ : Int
def rdF (s : ByteArray) : Rd :=
  if 200000 < s.size then ⟨1, 0⟩
  else if 0 ≤ parBad s then ⟨2, parBad s⟩
  else if h : 12 < (parF s).bs.length then ⟨3, (parF s).bs[12].at_⟩
  else if 0 ≤ lostF (parF s).bs then ⟨4, lostF (parF s).bs⟩
  else if 0 ≤ unfF (parF s).bs then ⟨6, unfF (parF s).bs⟩
  else ⟨0, 0⟩

def RdOwn (w : World) (base : Nat) (s : ByteArray) (v : Value) : Prop := (rdF s).e = 0 → BlksOwn w base (parF s).bs v
theorem rd_no {w base s v e a} (h : rdF s = ⟨e, a⟩) (he : e ≠ 0) : RdOwn w base s v := fun g => by rw [h] at g; exact absurd g he
theorem rd_yes {w base s v} (h : BlksOwn w base (parF s).bs v) : RdOwn w base s v := fun _ => h
set_option maxRecDepth 100000 in
set_option maxHeartbeats 1000000 in
theorem read_any (s : ByteArray) (w : World) (hs : s.size ≤ maxLen) :
    Calls Try.prog 8 #[.string s] w fun x w' => ∃ v, x = .returned (.tuple #[v, .int .i64 (rdF s).e, .int .i64 (rdF s).at_]) ∧ RdOwn w' w.heap.size s v ∧ Below w.heap.size w w' := by
  unfold maxLen at hs
  by_cases h1 : 200000 < s.size
  · have HR : Hid (rdF s = ⟨1, 0⟩) := by show _ = _; rw [rdF, if_pos h1]
    go_enter Try.func8, Try.ntmps8
    go_wp2_with fail
    go_ret3
    exact ⟨_, by rw [HR.out]; rfl, rd_no HR.out (by decide), Below.refl _ _⟩
  · go_enter Try.func8, Try.ntmps8
    go_wp2_with fail
    refine (parse_any s _ (by omega)).mono ?_
    rintro x w1 ⟨v, rfl, O, f1⟩
    have F : Below w.heap.size w w1 := ⟨f1.os, f1.tape, f1.output, f1.size, fun k hk => f1.block k hk (by omega)⟩
    have hfine := parF_fine s
    clear f1
    by_cases h2 : 0 ≤ parBad s
    · have HR : Hid (rdF s = ⟨2, parBad s⟩) := by show _ = _; rw [rdF, if_neg h1, if_pos h2]
      clear hfine
      go_wp2_with fail
      go_ret3
      exact ⟨_, by rw [HR.out]; rfl, rd_no HR.out (by decide), F⟩
    · obtain ⟨pv, cv, rfl⟩ := O.slice
      by_cases h3 : 12 < (parF s).bs.length
      · have HR : Hid (rdF s = ⟨3, (parF s).bs[12].at_⟩) := by show _ = _; rw [rdF, if_neg h1, if_neg h2, dif_pos h3]
        obtain ⟨g, qc, cc, ps, cs, rfl, _, _, _, _, hc⟩ := O.at h3
        have d9 : w1.cell? ⟨g, 129, none⟩ = _ := hc 9 _ rfl
        have hbl : (parF s).bs.length ≤ 1000000 := by omega
        clear hc hfine
        go_wp2
        go_quiet (fail)
        go_wp2
        go_ret3
        exact ⟨_, by rw [HR.out]; rfl, rd_no HR.out (by decide), below_drewN F _⟩
      · have hf1 : (parF s).bs.length ≤ 1000000 := by omega
        have hf2 : ∀ b ∈ (parF s).bs, b.chs.length ≤ 1000000 := fun b hb => by have := (hfine.2 b hb).1; omega
        have hf3 : ∀ b ∈ (parF s).bs, ∀ c ∈ b.chs, c.gs.length ≤ 1000000 := fun b hb c hc => by have := (hfine.2 b hb).2 c hc; omega
        clear hfine
        go_wp2_with fail
        refine (lost_any _ _ _ _ O hf1 hf2 hf3).mono ?_
        rintro x w2 ⟨rfl, f2⟩
        have F2 := F.trans (f2.mono F.size)
        replace O := O.keeps3 (Keeps.below f2)
        by_cases h4 : 0 ≤ lostF (parF s).bs
        · have HR : Hid (rdF s = ⟨4, lostF (parF s).bs⟩) := by show _ = _; rw [rdF, if_neg h1, if_neg (by omega), dif_neg h3, if_pos h4]
          clear hf2 hf3
          go_wp2_with fail
          go_ret3
          exact ⟨_, by rw [HR.out]; rfl, rd_no HR.out (by decide), F2⟩
        · go_wp2_with fail
          refine (unfit_any _ _ _ _ O hf1 hf2 hf3).mono ?_
          rintro x w3 ⟨rfl, f3⟩
          have F3 := F2.trans (f3.mono F2.size)
          replace O := O.keeps3 (Keeps.below f3)
          by_cases h5 : 0 ≤ unfF (parF s).bs
          · have HR : Hid (rdF s = ⟨6, unfF (parF s).bs⟩) := by show _ = _; rw [rdF, if_neg h1, if_neg (by omega), dif_neg h3, if_neg (by omega), if_pos h5]
            clear hf2 hf3
            go_wp2_with fail
            go_ret3
            exact ⟨_, by rw [HR.out]; rfl, rd_no HR.out (by decide), F3⟩
          · have HR : Hid (rdF s = ⟨0, 0⟩) := by show _ = _; rw [rdF, if_neg h1, if_neg (by omega), dif_neg h3, if_neg (by omega), if_neg h5]
            clear hf2 hf3
            go_wp2_with fail
            go_ret3
            exact ⟨_, by rw [HR.out]; rfl, rd_yes O, F3⟩

set_option maxHeartbeats 400000 in
theorem refCheck_any (s : ByteArray) (w : World) (hs : s.size ≤ maxLen) :
    Calls Try.prog 5 #[.string s] w fun x w' => x = .returned (.tuple #[.int .i64 (rdF s).e, .int .i64 (rdF s).at_]) ∧ Below w.heap.size w w' := by
  go_enter Try.func5, Try.ntmps5
  go_wp2_with fail
  refine (read_any s _ hs).mono ?_
  rintro x w1 ⟨v, rfl, _, f1⟩
  go_wp2_with fail
  go_ret2
  exact ⟨rfl, f1⟩
end Go.Proofs.Ytjimoigbdcalpaa
