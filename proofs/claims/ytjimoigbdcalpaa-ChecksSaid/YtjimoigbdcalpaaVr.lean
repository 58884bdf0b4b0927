import Derived.Test.YtjimoigbdcalpaaVq
namespace Go.Proofs.Ytjimoigbdcalpaa
open Go.RowKit

theorem flat_le {n : Nat} : ∀ {l : List RCho}, (∀ c ∈ l, c.gs.length ≤ n) → (l.flatMap (·.gs)).length ≤ l.length * n
  | [], _ => by simp
  | c :: l, h => by
    have h1 := h c (List.mem_cons_self ..)
    have h2 := flat_le (l := l) (fun d hd => h d (List.mem_cons_of_mem _ hd))
    rw [List.flatMap_cons, List.length_append, List.length_cons, Nat.add_mul]
    omega
theorem lost_goals {bs : List RBlk} (h : ¬ 0 ≤ lostF bs) : ∀ b ∈ bs, ∀ p ∈ goalsF b.e, p.1 < bs.length := by
  intro b hb p hp
  cases hf : (bs.flatMap allG).find? (stray bs.length) with
  | some g => exact absurd (by rw [lost_some hf]; omega) h
  | none =>
    have := List.find?_eq_none.1 hf p (List.mem_flatMap.2 ⟨b, hb, List.mem_append.2 (.inr hp)⟩)
    simpa [stray] using this

/-- What was read lies in memory, if it is a program. -/
def PRd (w : World) (base : Nat) (s : ByteArray) (v : Value) : Prop := (rdF s).e = 0 → PBs w base (parF s).bs v
theorem prd_no {w base s v e a} (h : rdF s = ⟨e, a⟩) (he : e ≠ 0) : PRd w base s v := fun g => by rw [h] at g; exact absurd g he
theorem prd_yes {w base s v} (h : PBs w base (parF s).bs v) : PRd w base s v := fun _ => h

set_option maxRecDepth 100000 in
set_option maxHeartbeats 4000000 in
theorem readS_any (s : ByteArray) (w : World) :
    Calls Try.prog 7 #[.string s] w fun x w' => ∃ v, x = .returned (.tuple #[v, .int .i64 (rdF s).e, .int .i64 (rdF s).at_]) ∧ PRd w' w.heap.size s v ∧ Below w.heap.size w w' := by
  by_cases h1 : 200000 < s.size
  · have HR : Hid (rdF s = ⟨1, 0⟩) := by show _ = _; rw [rdF, if_pos h1]
    go_enter Try.func7, Try.ntmps7
    go_wp2_with fail
    go_ret3
    exact ⟨_, by rw [HR.out]; rfl, prd_no HR.out (by decide), Below.refl _ _⟩
  · go_enter Try.func7, Try.ntmps7
    go_wp2_with fail
    refine (codeRead_any s _ (by omega)).mono ?_
    rintro x w1 (⟨v1, rfl, hbad, O, f1⟩ | ⟨rfl, hbad, f1⟩)
    · obtain ⟨pv, cv, rfl⟩ := O.slice
      have hfine := parF_fine s
      have F1 := stop f1
      have h2 : ¬ 0 ≤ parBad s := by omega
      by_cases h3 : 12 < (parF s).bs.length
      · have HR : Hid (rdF s = ⟨3, (parF s).bs[12].at_⟩) := by show _ = _; rw [rdF, if_neg h1, if_neg h2, dif_pos h3]
        obtain ⟨g, qc, cc, ps, cs1, rfl, _, hgz, hop, OC, OS, d0, d1, d2, d3⟩ := O.at h3
        have hbl : (parF s).bs.length ≤ 1000000 := by omega
        clear hfine hop OC OS O f1
        have d48 : w1.cell? ⟨g, 48, none⟩ = some (.int .i64 (parF s).bs[12].at_) := d0
        clear d0
        go_wp2_with fail
        go_quiet (fail)
        go_wp2
        go_ret3
        exact ⟨_, by rw [HR.out]; rfl, prd_no HR.out (by decide), below_drewN F1.out _⟩
      · have hf1 : (parF s).bs.length ≤ 1000 := by omega
        have hf2 : ∀ b ∈ (parF s).bs, b.chs.length ≤ 400000 := fun b hb => by have := (hfine.2 b hb).1; omega
        have hf3 : ∀ b ∈ (parF s).bs, ∀ c ∈ b.chs, c.gs.length ≤ 400000 := fun b hb c hc => by have := (hfine.2 b hb).2 c hc; omega
        have hf4 : ∀ b ∈ (parF s).bs, (chG b).length ≤ 50000000000 := fun b hb => by
          have q1 := flat_le (hfine.2 b hb).2
          have q2 := (hfine.2 b hb).1
          have q3 : b.chs.length * (s.size + 1) ≤ 200001 * 200001 := Nat.mul_le_mul (by omega) (by omega)
          rw [chG]; omega
        have H2 := stop hf2
        have H3 := stop hf3
        have H4 := stop hf4
        clear hfine hf2 hf3 hf4 f1
        go_wp2_with fail
        refine (strayGoal_any _ _ _ _ O (by omega) H2.out H4.out).mono ?_
        rintro x w2 (⟨h4, rfl, f2⟩ | ⟨h4, rfl, f2⟩)
        · have HR : Hid (rdF s = ⟨4, lostF (parF s).bs⟩) := by show _ = _; rw [rdF, if_neg h1, if_neg (by omega), dif_neg h3, if_pos h4]
          have F2 := stop (F1.out.trans (f2.mono F1.out.size))
          clear f2 O
          go_wp2_with fail
          go_ret3
          exact ⟨_, by rw [HR.out]; rfl, prd_no HR.out (by decide), F2.out⟩
        · have F2 := stop (F1.out.trans (f2.mono F1.out.size))
          have O2 := O.keeps (Keeps.below f2)
          have HL : Hid (∀ b ∈ (parF s).bs, ∀ p ∈ goalsF b.e, p.1 < (parF s).bs.length) := lost_goals (by omega)
          clear f2 O
          go_wp2_with fail
          refine (wrong_any _ _ _ _ O2 (by omega) HL.out H2.out H3.out).mono ?_
          rintro x w3 (⟨h5, rfl, f3⟩ | ⟨h5, rfl, f3⟩)
          · have HR : Hid (rdF s = ⟨6, unfF (parF s).bs⟩) := by show _ = _; rw [rdF, if_neg h1, if_neg (by omega), dif_neg h3, if_neg (by omega), if_pos h5]
            have F3 := stop (F2.out.trans (f3.mono F2.out.size))
            clear f3 O2
            go_wp2_with fail
            go_ret3
            exact ⟨_, by rw [HR.out]; rfl, prd_no HR.out (by decide), F3.out⟩
          · have HR : Hid (rdF s = ⟨0, 0⟩) := by show _ = _; rw [rdF, if_neg h1, if_neg (by omega), dif_neg h3, if_neg (by omega), if_neg (by omega)]
            have F3 := stop (F2.out.trans (f3.mono F2.out.size))
            have O3 := stop (O2.keeps (Keeps.below f3))
            clear f3 O2
            go_wp2_with fail
            go_ret3
            exact ⟨_, by rw [HR.out]; rfl, prd_yes O3.out, F3.out⟩
    · have HR : Hid (rdF s = ⟨2, parBad s⟩) := by show _ = _; rw [rdF, if_neg h1, if_pos hbad]
      have F1 := stop f1
      clear f1
      go_wp2_with fail
      go_ret3
      exact ⟨_, by rw [HR.out]; rfl, prd_no HR.out (by decide), F1.out⟩

set_option maxHeartbeats 400000 in
theorem checkS_any (s : ByteArray) (w : World) :
    Calls Try.prog 4 #[.string s] w fun x w' => x = .returned (.tuple #[.int .i64 (rdF s).e, .int .i64 (rdF s).at_]) ∧ Below w.heap.size w w' := by
  go_enter Try.func4, Try.ntmps4
  go_wp2_with fail
  refine (readS_any s _).mono ?_
  rintro x w1 ⟨v, rfl, _, f⟩
  have F := stop f
  clear f
  go_wp2_with fail
  go_ret2
  exact ⟨rfl, F.out⟩
end Go.Proofs.Ytjimoigbdcalpaa
