import Derived.Test.YtgfhfkgdmidhpaaGreatRB
import Derived.Test.YtgfhfkgdmidhpaaGreatRA
namespace Go.Proofs.YtgfhfkgdmidhpaaGreat
open Go.RowKit

set_option maxRecDepth 100000 in
set_option maxHeartbeats 1500000 in
theorem rimsOfP (bs : List RBlk) (base : Nat) (v : Value) (w : World) (h : PBs w base bs v) (hgl : Hid (∀ b ∈ bs, ∀ p ∈ goalsF b.e, p.1 < bs.length)) (hn0 : 0 < bs.length) (hn : bs.length ≤ 1000) :
    Calls Tryz.prog 28 #[v] w fun x w' => ∃ v', x = .returned v' ∧ RowR w.heap.size w' v' bs.length (rimL (suF bs) bs.length) ∧ Below w.heap.size w w' := by
  have HP := stop h
  obtain ⟨pv, cv, rfl⟩ := h.slice
  clear h
  obtain ⟨I9, Hi9, Hz9, Hs9, Hb9⟩ := info_parts Tryz.info86
  have HI := stop (And.intro Hi9 (And.intro Hz9 (And.intro Hs9 Hb9)))
  clear Hi9 Hz9 Hs9 Hb9
  go_enter Tryz.func28, Tryz.ntmps28
  go_wp2_with fail
  refine (pathsP bs base _ w HP.out hgl hn0 hn).mono ?_
  rintro e w1 ⟨va, vu, rfl, oa, su, f1⟩
  obtain ⟨pa, ca, rfl⟩ := owns_slice2 oa
  obtain ⟨pu, cu, rfl⟩ := su.slice
  have O1 := stop (And.intro oa (And.intro su f1))
  have s1 := f1.size
  clear oa su f1
  go_wp2_with (at_make; refine unstop ?_)
  refine stop ?_
  obtain ⟨W2, hW2⟩ : ∃ W2, W2 = w1.alloc (.cells #[.slice pv bs.length cv, .slice pa (allL bs).length ca, .slice pu bs.length cu] 89) := ⟨_, rfl⟩
  rw [← hW2]
  have g2 : W2.heap[w1.heap.size]? = some (.cells #[.slice pv bs.length cv, .slice pa (allL bs).length ca, .slice pu bs.length cu] 89 (0, 0)) := by rw [hW2]; exact heap_alloc_last _ _
  have f2 : Below w1.heap.size w1 W2 := by rw [hW2]; exact (Below.refl _ _).alloc (Nat.le_refl _) _
  have s2 : W2.heap.size = w1.heap.size + 1 := by rw [hW2, World.size_alloc]
  clear hW2
  refine wpList_make_full _ rfl _ _ 87 rfl (w1.heap.size + 1) 86 I9 (.agg #[.slice none 0 0]) 1 Tryz.underlying87 HI.out.1 HI.out.2.1 HI.out.2.2.1 .i64 .i64 _ _ bs.length rfl rfl rfl rfl (by rw [HI.out.2.2.2]; omega) (by unfold maxLen; omega) (by omega) ?_
  intro w3 o3 gr3
  rw [s2] at o3 ⊢
  have f3 : Below W2.heap.size W2 w3 := Below.grown (Below.refl _ _) gr3 (Nat.le_refl _) (fun k hk => by cases hk)
  have S3 : SetR (w1.heap.size + 1) w3 (.slice (some ⟨w1.heap.size + 1, 0, none⟩) bs.length bs.length) bs.length (fun k => if k < 0 then rimL (suF bs) bs.length k else []) := by
    refine ⟨_, o3, fun k u hu => ?_⟩
    rw [made_set] at hu
    obtain ⟨_, rfl⟩ := get_rep hu
    exact World.ownsRow_nil _ _ _ _
  have s3 := f3.size
  have f13 := f2.trans (f3.mono (by omega))
  have B0 : Hid (w3.heap[w1.heap.size]? = some (.cells #[.slice pv bs.length cv, .slice pa (allL bs).length ca, .slice pu bs.length cu] 89 (0, 0)) ∧ SetR (w1.heap.size + 1) w3 (.slice (some ⟨w1.heap.size + 1, 0, none⟩) bs.length bs.length) bs.length (fun k => if k < 0 then rimL (suF bs) bs.length k else []) ∧ Below w1.heap.size w1 w3 ∧ w1.heap.size + 1 ≤ w3.heap.size) := ⟨by rw [f3.block _ (by omega)]; exact g2, S3, f13, by omega⟩
  clear g2 f2 s2 o3 gr3 f3 s3 f13 HI S3
  go_wp2_with fail
  go_loopw [13] (fun i wr => ∃ m : Nat, m ≤ bs.length ∧ i = .int .i64 m ∧ Hid (wr.heap[w1.heap.size]? = some (.cells #[.slice pv bs.length cv, .slice pa (allL bs).length ca, .slice pu bs.length cu] 89 (0, 0)) ∧ SetR (w1.heap.size + 1) wr (.slice (some ⟨w1.heap.size + 1, 0, none⟩) bs.length bs.length) bs.length (fun k => if k < m then rimL (suF bs) bs.length k else []) ∧ Below w1.heap.size w1 wr ∧ w1.heap.size + 1 ≤ wr.heap.size)) (fun i _ => bs.length - (intOf i).toNat)
  case atStart => exact ⟨0, by omega, rfl, B0⟩
  case round =>
    clear B0
    obtain ⟨m, hm, rfl, HR⟩ := hrel
    by_cases hlt : m < bs.length
    · have k0 := cell_of HR.out.1 0
      have k1 := cell_of HR.out.1 1
      have k2 := cell_of HR.out.1 2
      simp at k0 k1 k2
      have OP := stop ((HP.out.keeps (Keeps.below O1.out.2.2)).keeps (Keeps.below HR.out.2.2.1))
      have OU := stop (O1.out.2.1.keeps HR.out.2.2.1)
      go_wp2_with fail
      refine (rimM bs w.heap.size base m _ _ _ wr OP.out ⟨_, _, _, rfl⟩ OU.out hgl hlt hn).mono ?_
      rintro e w5 ⟨v5, rfl, o5, f5⟩
      obtain ⟨p5, c5, rfl⟩ := owns_slice2 o5
      have s5 := f5.size
      have hz := HR.out.2.2.2
      have S5 := HR.out.2.1.keeps f5
      obtain ⟨gu, uu, eu, _, hul, hcu, hfu, _⟩ := S5.at hlt
      cases eu
      have h5 : w5.heap[w1.heap.size]? = some (.cells #[.slice pv bs.length cv, .slice pa (allL bs).length ca, .slice pu bs.length cu] 89 (0, 0)) := by rw [f5.block _ (by omega)]; exact HR.out.1
      have HR5 : Hid ((w5.setCell ⟨w1.heap.size + 1, m, none⟩ (.slice p5 (rimL (suF bs) bs.length m).length c5)).heap[w1.heap.size]? = some (.cells #[.slice pv bs.length cv, .slice pa (allL bs).length ca, .slice pu bs.length cu] 89 (0, 0)) ∧ SetR (w1.heap.size + 1) (w5.setCell ⟨w1.heap.size + 1, m, none⟩ (.slice p5 (rimL (suF bs) bs.length m).length c5)) (.slice (some ⟨w1.heap.size + 1, 0, none⟩) bs.length bs.length) bs.length (fun k => if k < m + 1 then rimL (suF bs) bs.length k else []) ∧ Below w1.heap.size w1 (w5.setCell ⟨w1.heap.size + 1, m, none⟩ (.slice p5 (rimL (suF bs) bs.length m).length c5)) ∧ w1.heap.size + 1 ≤ (w5.setCell ⟨w1.heap.size + 1, m, none⟩ (.slice p5 (rimL (suF bs) bs.length m).length c5)).heap.size) := by
        refine ⟨blk_setOther h5 (by omega) _ _, ?_, below_set (HR.out.2.2.1.trans (f5.mono (by omega))) _ _ _ (by omega), by rw [size_set]; omega⟩
        refine (S5.store (k := m) (owns_base o5 (by omega))).congr fun k hk => ?_
        by_cases e : k = m
        · subst e; rw [if_pos (by omega), if_pos rfl]
        · rw [if_neg e]
          by_cases e2 : k < m
          · rw [if_pos (by omega), if_pos e2]
          · rw [if_neg (by omega), if_neg e2]
      clear k0 k1 k2 OP OU f5 o5 h5 HR S5
      go_wp2_with fail
      go_roundw
      case rel => exact ⟨m + 1, by omega, by go_num, HR5⟩
      case measure => simp [intOf]; omega
    · have hme : m = bs.length := by omega
      subst hme
      have S9 := stop (HR.out.2.1.congr (f' := rimL (suF bs) bs.length) fun k hk => by rw [if_pos hk])
      have s9 := HR.out.2.2.1.size
      go_wp2_with fail
      refine (numbersP bs.length (rimL (suF bs) bs.length) _ _ wr S9.out hn (fun k _ => Nat.le_trans (setL_len _ _) hn)).mono ?_
      rintro e w5 ⟨v5, rfl, r5, f5⟩
      have F9 : Hid (RowR w.heap.size w5 v5 bs.length (rimL (suF bs) bs.length) ∧ Below w.heap.size w w5) := ⟨r5.base (by omega), (O1.out.2.2.trans (HR.out.2.2.1.mono s1)).trans (f5.mono (by omega))⟩
      clear r5 f5 HR S9
      go_wp2_with fail
      go_ret
      exact ⟨_, rfl, F9.out.1, F9.out.2⟩

set_option maxRecDepth 100000 in
set_option maxHeartbeats 1000000 in
theorem rimsP (s : ByteArray) (w : World) :
    Calls Tryz.prog 16 #[.string s] w fun x w' => ∃ v, x = .returned (.tuple #[v, .int .i64 (rdF s).e, .int .i64 (rdF s).at_]) ∧ RowR w.heap.size w' v (rimN s) (rimsF s) ∧ Below w.heap.size w w' := by
  go_enter Tryz.func16, Tryz.ntmps16
  go_wp2_with fail
  refine (readS_any s w).mono ?_
  rintro x w1 ⟨v1, rfl, P1, f1⟩
  have F1 := stop f1
  have s1 := f1.size
  by_cases h0 : (rdF s).e = 0
  · obtain ⟨ha, hp, h12, hg⟩ := rd0 h0
    have PB := P1 h0
    have HK : Hid (rimN s = (parF s).bs.length ∧ rimsF s = rimL (suF (parF s).bs) (parF s).bs.length) := ⟨by rw [rimN, if_pos h0], rfl⟩
    have HA := stop ha
    have HE := stop h0
    have hg' := stop hg
    have PBH := stop PB
    obtain ⟨pv, cv, rfl⟩ := PB.slice
    rw [h0, ha]
    clear f1 P1 PB h0 ha hg
    go_wp2_with fail
    refine (rimsOfP (parF s).bs w.heap.size _ w1 PBH.out hg' hp (by omega)).mono ?_
    rintro x w2 ⟨v2, rfl, o2, f2⟩
    have O2 : Hid (RowR w.heap.size w2 v2 (rimN s) (rimsF s) ∧ Below w.heap.size w w2) := ⟨by rw [HK.out.1, HK.out.2]; exact o2.base s1, F1.out.trans (f2.mono s1)⟩
    clear o2 f2
    go_wp2_with fail
    go_ret3
    exact ⟨_, by rw [HE.out, HA.out]; rfl, O2.out.1, O2.out.2⟩
  · have HK : Hid (rimN s = 0) := by show _ = _; rw [rimN, if_neg h0]
    have hd : (((rdF s).e : Int) != 0) = true := by simp; omega
    clear f1 P1 h0
    go_wp2_with fail
    go_ret3
    exact ⟨_, rfl, by rw [HK.out]; exact RowR.nil _ _ _, F1.out⟩

theorem rimsF_len (s : ByteArray) (k : Nat) (hk : k < rimN s) : (rimsF s k).length ≤ 1000000 := by
  unfold rimN at hk
  split at hk
  · rename_i h
    have := (rd0 h).2.2.1
    exact Nat.le_trans (setL_len _ _) (by omega)
  · omega

set_option maxRecDepth 100000 in
set_option maxHeartbeats 1000000 in
theorem rimmed_any (s : ByteArray) (w : World) (hs : s.size ≤ maxLen) : Calls Tryz.prog 5 #[.string s] w fun x w' => x = .returned (.bool true) ∧ Below w.heap.size w w' := by
  have hk := rimN_le s
  have HF : Hid (∀ k, k < rimN s → (rimsF s k).length ≤ 1000000) := fun k hk => rimsF_len s k hk
  go_enter Tryz.func5, Tryz.ntmps5
  go_wp2_with fail
  refine (rimsP s w).mono ?_
  rintro x w1 ⟨v1, rfl, o1, f1⟩
  have s1 := f1.size
  have O1 := stop (And.intro o1 f1)
  clear o1 f1
  go_wp2_with fail
  refine (rimsP s w1).mono ?_
  rintro x w2 ⟨v2, rfl, o2, f2⟩
  have s2 := f2.size
  have O2 := stop (And.intro o2 f2)
  clear o2 f2
  go_wp2_with fail
  refine (blotRows_any _ w1.heap.size v2 w2 (O2.out.1.any HF.out) (by omega)).mono ?_
  rintro x w3 ⟨rfl, f3⟩
  have f13 := O2.out.2.trans f3
  have O3 := stop (And.intro (O1.out.1.keeps f13) (O1.out.2.trans (f13.mono s1)))
  clear f3 f13 O1 O2
  go_wp2_with fail
  refine (rimsR s w3 hs).mono ?_
  rintro x w4 ⟨v4, rfl, o4, f4⟩
  have s4 := f4.size
  have O4 := stop (And.intro (O3.out.1.keeps f4) (And.intro o4 (O3.out.2.trans (f4.mono O3.out.2.size))))
  clear o4 f4 O3
  go_wp2_with fail
  refine (rows_same (rimN s) (rimsF s) w.heap.size w3.heap.size v1 v4 w4 O4.out.1 O4.out.2.1 (by omega) HF).mono ?_
  rintro x w5 ⟨rfl, f5⟩
  have F5 := stop (O4.out.2.2.trans (f5.mono O4.out.2.2.size))
  clear f5 O4
  go_wp2_with fail
  refine (num_any _ _).mono ?_
  rintro x w6 ⟨rfl, hw6⟩
  have F6 : Hid (Below w.heap.size w w6) := by show Below _ _ _; rw [hw6]; exact F5.out
  clear hw6 F5
  go_wp2_with fail
  go_ret
  exact ⟨by simp, F6.out⟩

end Go.Proofs.YtgfhfkgdmidhpaaGreat
