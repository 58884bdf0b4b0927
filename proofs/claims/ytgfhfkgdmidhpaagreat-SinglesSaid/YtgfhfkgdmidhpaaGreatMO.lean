import Derived.Test.YtgfhfkgdmidhpaaGreatME
import Derived.Test.YtgfhfkgdmidhpaaGreatMM
import Derived.Test.YtgfhfkgdmidhpaaGreatRA
import Derived.Test.YtgfhfkgdmidhpaaGreatKA
namespace Go.Proofs.YtgfhfkgdmidhpaaGreat
open Go.RowKit

set_option maxHeartbeats 1000000 in
theorem shortR (s : ByteArray) (w : World) (hs : s.size ≤ maxLen) :
    Calls Tryz.prog 33 #[.string s] w fun x w' => ∃ v, x = .returned (.tuple #[v, .int .i64 (upE 40000 s), .int .i64 (rdF s).at_]) ∧ Hid ((upE 40000 s = 0 → BlksOwn w' w.heap.size (parF s).bs v) ∧ Below w.heap.size w w') := by
  go_enter Tryz.func33, Tryz.ntmps33
  go_wp2_with fail
  refine (read_any s w hs).mono ?_
  rintro x w1 ⟨v1, rfl, P1, f1⟩
  unfold maxLen at hs
  have H1 := stop (And.intro P1 f1)
  clear P1 f1
  by_cases h0 : (rdF s).e = 0
  · have ha := (rd0 h0).1
    have HA := stop ha
    rw [h0, ha]
    by_cases hl : 40000 < s.size
    · have HE : Hid (upE 40000 s = 1) := by show _ = _; rw [upE, if_pos h0, if_pos hl]
      clear h0 ha
      go_wp2_with fail
      go_ret3
      exact ⟨_, by rw [HE.out, HA.out]; rfl, (fun h => by rw [HE.out] at h; cases h), H1.out.2⟩
    · have HE : Hid (upE 40000 s = 0) := by show _ = _; rw [upE, if_pos h0, if_neg hl]
      have HP := stop (H1.out.1 h0)
      clear h0 ha
      go_wp2_with fail
      go_ret3
      exact ⟨_, by rw [HE.out, HA.out]; rfl, fun _ => HP.out, H1.out.2⟩
  · have HE : Hid (upE 40000 s = (rdF s).e) := by show _ = _; rw [upE, if_neg h0]
    have hd : (((rdF s).e : Int) != 0) = true := by simp; omega
    have HZ : Hid (upE 40000 s ≠ 0) := by show _ ≠ _; rw [HE.out]; exact h0
    clear h0
    go_wp2_with fail
    go_ret3
    exact ⟨_, by rw [HE.out]; rfl, fun h => absurd h HZ.out, H1.out.2⟩

set_option maxHeartbeats 1000000 in
theorem mattersR (s : ByteArray) (w : World) (hs : s.size ≤ maxLen) :
    Calls Tryz.prog 21 #[.string s] w fun x w' => ∃ v, x = .returned (.tuple #[v, .int .i64 (upE 40000 s), .int .i64 (rdF s).at_]) ∧ RowR w.heap.size w' v (mtN s) (mtF s) ∧ Below w.heap.size w w' := by
  go_enter Tryz.func21, Tryz.ntmps21
  go_wp2_with fail
  refine (shortR s w hs).mono ?_
  rintro x w1 ⟨v1, rfl, H1⟩
  by_cases h0 : upE 40000 s = 0
  · have HZ := stop (H1.out.1 h0)
    have hr := (upE_zero h0).1
    obtain ⟨ha, hn0, hn, hgl⟩ := rd0 hr
    obtain ⟨hf, _, hg2⟩ := fineS hr
    have HF := stop hf
    have HG2 := stop hg2
    have HGL := stop hgl
    have HA := stop ha
    have HN : Hid (mtN s = (parF s).bs.length) := by show _ = _; rw [mtN, if_pos h0]
    have HE := stop h0
    have F1 := stop H1.out.2
    have s1 := F1.out.size
    rw [h0, ha]
    obtain ⟨pv, cv, rfl⟩ := HZ.out.slice
    clear h0 ha hf hg2 hgl hr H1
    go_wp2_with fail
    refine (liveR (parF s).bs w.heap.size _ w1 HZ.out HGL HF HG2 hn0 (by omega)).mono ?_
    rintro e w2 ⟨v2, rfl, H2⟩
    have H3 : Hid (RowR w.heap.size w2 v2 (mtN s) (mtF s) ∧ Below w.heap.size w w2) := ⟨by rw [HN.out]; exact H2.out.1.base s1, F1.out.trans (H2.out.2.mono s1)⟩
    obtain ⟨p3, c3, rfl⟩ := H2.out.1.slice
    clear H2
    go_wp2_with fail
    go_ret3
    exact ⟨_, by rw [HE.out, HA.out]; rfl, H3.out.1, H3.out.2⟩
  · have hd : ((upE 40000 s : Int) != 0) = true := by simp; omega
    have HN : Hid (mtN s = 0) := by show _ = _; rw [mtN, if_neg h0]
    have F1 := stop H1.out.2
    clear h0 H1
    go_wp2_with fail
    go_ret3
    exact ⟨_, rfl, by rw [HN.out]; exact RowR.nil _ _ _, F1.out⟩

set_option maxHeartbeats 1000000 in
theorem mattered_any (s : ByteArray) (w : World) (hs : s.size ≤ maxLen) : Calls Tryz.prog 6 #[.string s] w fun x w' => x = .returned (.bool true) ∧ Below w.heap.size w w' := by
  have HF : Hid (∀ k, k < mtN s → (mtF s k).length ≤ 1000000) := fun k hk => Nat.le_trans (mtF_len s k hk) (by omega)
  have hN := mtN_le s
  go_enter Tryz.func6, Tryz.ntmps6
  go_wp2_with fail
  refine (mattersP s w hs).mono ?_
  rintro x w1 ⟨v1, rfl, o1, f1⟩
  have s1 := f1.size
  have O1 := stop (And.intro o1 f1)
  clear o1 f1
  go_wp2_with fail
  refine (mattersP s w1 hs).mono ?_
  rintro x w2 ⟨v2, rfl, o2, f2⟩
  have O2 := stop (And.intro o2 f2)
  clear o2 f2
  go_wp2_with fail
  refine (blotRows_any _ w1.heap.size v2 w2 (O2.out.1.any HF.out) (by omega)).mono ?_
  rintro x w3 ⟨rfl, f3⟩
  have f13 := O2.out.2.trans f3
  have O3 := stop (And.intro (O1.out.1.keeps f13) (O1.out.2.trans (f13.mono s1)))
  clear f3 f13 O1 O2
  go_wp2_with fail
  refine (mattersR s w3 hs).mono ?_
  rintro x w4 ⟨v4, rfl, o4, f4⟩
  have s4 := f4.size
  have O4 := stop (And.intro (O3.out.1.keeps f4) (And.intro o4 (O3.out.2.trans (f4.mono O3.out.2.size))))
  clear o4 f4 O3
  go_wp2_with fail
  refine (rows_same (mtN s) (mtF s) w.heap.size w3.heap.size v1 v4 w4 O4.out.1 O4.out.2.1 (by omega) HF).mono ?_
  rintro x w5 ⟨rfl, f5⟩
  have F5 := stop (O4.out.2.2.trans (f5.mono O4.out.2.2.size))
  clear f5 O4
  go_wp2_with fail
  refine (num_any _ _).mono ?_
  rintro x w6 ⟨rfl, hw6⟩
  have F6 : Hid (Below w.heap.size w w6) := by show Below _ _ _; rw [hw6]; exact F5.out
  clear hw6 F5
  go_wp2_with fail
  go_ret
  exact ⟨by simp, F6.out⟩

end Go.Proofs.YtgfhfkgdmidhpaaGreat
