import Derived.Test.YtjimoigbdcalpaaUj
namespace Go.Proofs.Ytjimoigbdcalpaa
open Go.RowKit

/-- The program's block, read: its cells. -/
def PBlk (w : World) (base : Nat) (r : RBlk) (vc vs : Value) : Prop := PChs w base r.chs vc ∧ w.ownsRow base 143 1 vs r.sts.length (r.sts.map stVal)
def pblkCells (r : RBlk) (vc vs : Value) : List Value := [.int .i64 r.at_, vc, vs, endVal r.e]
def BkPost (b g : Nat) (s : ByteArray) (w : World) (R : Blk) (e : Ending) (w' : World) : Prop :=
  (∃ vc vs, e = .returned (.agg (pblkCells R.b vc vs).toArray) ∧ R.bad = -1 ∧ (R.b.e.op = 46 ∨ R.b.e.op = 62 ∨ R.b.e.op = 63) ∧ PBlk w' w.heap.size R.b vc vs ∧ RS w' b g s R.i ∧ Fr b w w') ∨
  (e = .panicked (brk R.bad) ∧ 0 ≤ R.bad ∧ Fr b w w')
theorem endVal_iface (e : REnd) : ∃ T x, endVal e = .iface T x := by
  unfold endVal
  repeat' split
  all_goals exact ⟨_, _, rfl⟩
theorem at_eq {b g : Nat} {s : ByteArray} {i : Nat} {w : World} (hp : RS w b g s i) :
    Calls Try.prog 44 #[.pointer (some ⟨b,0,none⟩)] w fun e w' => ∃ n, e = .returned (.int .i64 i) ∧ w' = w.drewN n := by
  obtain ⟨ms, k, cap, hm, ⟨hk, rfl⟩, hr⟩ := hp
  exact at_any b s ms k g cap w hr hk
def flagE : Value → Nat | .nilIface => 1 | _ => 0

set_option maxRecDepth 100000 in
set_option maxHeartbeats 8000000 in
theorem block2_any {b g : Nat} {s : ByteArray} {i0 : Nat} {w : World} (hp : RS w b g s i0) (hs : s.size ≤ 200000) :
    Calls Try.prog 28 #[.pointer (some ⟨b,0,none⟩)] w fun e w' => BkPost b g s w (blkF s i0 (-1)) e w' := by
  have hb := hp.lt
  have hg := hp.glt
  have hi0 := hp.le
  go_enter Try.func28, Try.ntmps28
  go_wp2_with fail
  refine (at_eq (hp.alloc _)).mono ?_
  rintro e w1 ⟨n, rfl, rfl⟩
  go_wp2_with fail
  go_loopw [12] (fun _ wr => ∃ (k : Nat) (chs : List RCho) (sts : List RStep) (vc vs ev : Value) (i : Nat), BP b g s w i0 chs sts vc vs ev i wr ∧ ((ev = .nilIface ∧ s.size < k + i ∧ chs.length ≤ i ∧ sts.length ≤ i ∧ Hid (blkF s i0 (-1) = blkGo s i0 k chs sts i (-1))) ∨ (∃ ee, ev = endVal ee ∧ Hid (blkF s i0 (-1) = ⟨⟨chs, sts, ee, i0⟩, i, -1⟩) ∧ Hid (ee.op = 46 ∨ ee.op = 62 ∨ ee.op = 63))))
    (fun _ wr => 2 * (s.size - rdI wr b) + flagE ((wr.cell? ⟨w.heap.size + 1, 3, none⟩).getD .nilIface))
  case atStart =>
    refine ⟨s.size + 1, [], [], .slice none 0 0, .slice none 0 0, .nilIface, i0, ⟨?_, ?_, ⟨[], World.ownsRow_nil _ _ _ _, trivial⟩, World.ownsRow_nil _ _ _ _, ((hp.alloc _).drewN n).alloc _, (((Fr.refl _ _).alloc _).drewN n).alloc _, by simp⟩, .inl ⟨rfl, by omega, by simp, by simp, rfl⟩⟩
    · exact blk_alloc (w := (w.alloc _).drewN n) (heap_alloc_last w _) _
    · have := heap_alloc_last ((w.alloc (.cells #[.int .i64 0, .slice none 0 0, .slice none 0 0, .nilIface] 43)).drewN n) (.cells #[.int .i64 i0, .slice none 0 0, .slice none 0 0, .nilIface] 43)
      rwa [show ((w.alloc (.cells #[.int .i64 0, .slice none 0 0, .slice none 0 0, .nilIface] 43)).drewN n).heap.size = w.heap.size + 1 from World.size_alloc _ _] at this
  case round =>
    clear hp
    obtain ⟨k, chs, sts, vc, vs, ev, i, I, hst⟩ := hrel
    obtain ⟨pc1, cc1, rfl⟩ := I.C.slice
    obtain ⟨ps1, cs1, rfl⟩ := owns_slice2 I.S
    rcases hst with ⟨rfl, hk, hcl, hsl, HR⟩ | ⟨ee, rfl, HV, HOP⟩
    · have HRI : Hid (rdI wr b = i) := I.P.rdI
      have HFL : Hid (flagE ((wr.cell? ⟨w.heap.size + 1, 3, none⟩).getD .nilIface) = 1) := by show _ = _; rw [cell_of I.G2 3]; rfl
      have hi := I.P.le
      obtain ⟨k, rfl⟩ : ∃ j, k = j + 1 := ⟨k - 1, by omega⟩
      have q3 := cell_of I.G2 3
      simp at q3
      go_wp2_with fail
      cases h46 : onF s i (-1) 46 with
      | true =>
        have HV := stop (HR.out.trans (show blkGo s i0 (k + 1) chs sts i (-1) = ⟨⟨chs, sts, ⟨46, (0, 0), (0, 0), (0, 0)⟩, i0⟩, i + 1, -1⟩ from by rw [blkGo, if_pos (by decide), if_pos h46]))
        have hlt := (onF_lt h46).2.1
        refine (skip_yes (c := 46) I.P hs (by decide) h46).mono ?_
        rintro e w2 ⟨rfl, P2, f2⟩
        replace I := I.call hb P2 f2
        clear h46 HR f2 P2 q3
        have q2 := cell_of I.G2
        have z2 := frozen_of I.G2
        go_wp2_with fail
        have J := I.setE hb hg (.iface 125 (.agg #[]))
        go_roundw
        case rel => exact ⟨0, chs, sts, _, _, _, i + 1, J, .inr ⟨⟨46, (0, 0), (0, 0), (0, 0)⟩, rfl, HV, .inl rfl⟩⟩
        case measure => rw [J.P.rdI, HRI.out, HFL.out, cell_of J.G2 3]; simp [flagE]; omega
      | false =>
        refine (skip_no (c := 46) I.P (by decide) h46).mono ?_
        rintro e w2 ⟨rfl, P2, f2⟩
        replace I := I.call hb P2 f2
        clear f2 P2 q3
        go_wp2_with fail
        cases h62 : onF s i (-1) 62 with
        | true =>
          have HV := stop (HR.out.trans (show blkGo s i0 (k + 1) chs sts i (-1) = ⟨⟨chs, sts, ⟨62, (0, 0), (numN s (i + 1) (-1), i + 1), (0, 0)⟩, i0⟩, numI s (i + 1) (-1), numB s (i + 1) (-1)⟩ from by rw [blkGo, if_pos (by decide), if_neg (by simp [h46]), if_pos h62]))
          have hlt := (onF_lt h62).2.1
          refine (skip_yes (c := 62) I.P hs (by decide) h62).mono ?_
          rintro e w3 ⟨rfl, P3, f3⟩
          replace I := I.call hb P3 f3
          clear h46 h62 HR f3 P3
          go_wp2_with fail
          cases hd : digF s (i + 1) (-1) with
          | true =>
            have HV2 : Hid (blkF s i0 (-1) = ⟨⟨chs, sts, ⟨62, (0, 0), (numN s (i + 1) (-1), i + 1), (0, 0)⟩, i0⟩, numI s (i + 1) (-1), -1⟩) := by
              show _ = _
              rw [HV.out, numB1, hd]; rfl
            have hge := numI_ge (s := s) (i := i + 1) (bad := -1)
            refine (goal_yes I.P hs hd).mono ?_
            rintro e w4 ⟨rfl, P4, f4⟩
            replace I := I.call hb P4 f4
            clear hd f4 P4 HV
            have q2 := cell_of I.G2
            have z2 := frozen_of I.G2
            go_wp2_with fail
            have J := I.setE hb hg (.iface 128 (.agg #[.int .i64 (numN s (i + 1) (-1)), .int .i64 ((i : Int) + 1)]))
            go_roundw
            case rel => exact ⟨0, chs, sts, _, _, _, numI s (i + 1) (-1), J, .inr ⟨⟨62, (0, 0), (numN s (i + 1) (-1), i + 1), (0, 0)⟩, rfl, HV2, .inr (.inl rfl)⟩⟩
            case measure => rw [J.P.rdI, HRI.out, HFL.out, cell_of J.G2 3]; simp [flagE]; omega
          | false =>
            have HB : Hid ((blkF s i0 (-1)).bad = ((i + 1 : Nat) : Int)) := by show _ = _; rw [HV.out, numB1, hd]; rfl
            refine (goal_no I.P hd).mono ?_
            rintro e w4 ⟨rfl, f4⟩
            clear hd HV
            go_wp2_with fail
            exact ⟨rfl, .inr ⟨by rw [HB.out]; rfl, by rw [HB.out]; omega, I.F.trans f4⟩⟩
        | false =>
          refine (skip_no (c := 62) I.P (by decide) h62).mono ?_
          rintro e w3 ⟨rfl, P3, f3⟩
          replace I := I.call hb P3 f3
          clear f3 P3
          go_wp2_with fail
          cases h33 : onF s i (-1) 33 with
          | true =>
            have hlt := (onF_lt h33).2.1
            have HE := stop (HR.out.trans (show blkGo s i0 (k + 1) chs sts i (-1) = blkGo s i0 k chs (sts ++ [⟨33, (0, 0), (regN s (i + 1) (-1), i + 1), (0, 0), 0⟩]) (gotI s (regI s (i + 1) (-1)) (regB s (i + 1) (-1)) 59) (mustB s (regI s (i + 1) (-1)) (regB s (i + 1) (-1)) 59) from by rw [blkGo, if_pos (by decide), if_neg (by simp [h46]), if_neg (by simp [h62]), if_pos h33]))
            refine (skip_yes (c := 33) I.P hs (by decide) h33).mono ?_
            rintro e w4 ⟨rfl, P4, f4⟩
            replace I := I.call hb P4 f4
            clear h46 h62 h33 HR f4 P4
            have b2 := cell_of I.G2 2
            have b2z := frozen_of I.G2 2
            simp at b2
            have bl := lt_of_block I.G2
            have bne : w.heap.size + 1 ≠ b := by omega
            go_wp2_with fail
            rcases Int.lt_or_le (regB s (i + 1) (-1)) 0 with h1 | h1
            · have H1 := stop h1
              have HB1 := stop (regOk h1).2.2.1
              have hge := regI_ge (s := s) (i := i + 1) (bad := -1)
              have hle := regI_le (bad := -1) (show i + 1 ≤ s.size by omega)
              clear h1
              go_region_law (first | (refine stepC rfl 47 #[.pointer (some ⟨b, 0, none⟩)] (by go_simp) (reg_yes (RS.drew I.P) hs H1.out) ?_; rintro e w5 ⟨rfl, P5, f5⟩; have c2 := f5.cells (k := w.heap.size + 1) bl bne 2; have IB := BP.call (BP.drew I) hb P5 f5; have z5 := frozen_of IB.G2 2; have l5 : w.heap.size + 1 < w5.heap.size := Nat.lt_of_lt_of_le bl f5.size; have HIB := stop IB; have o5 := IB.S; clear IB) | (refine step1 Try.underlying39 Try.info143 rfl (by decide) (by decide) rfl _ _ rfl rfl (o5.alloc _) (heap_alloc_last w5 _) rfl rfl (List.all_eq_true.1 rfl) (by omega) (by rw [World.size_alloc]; omega) ?_; intro v6 w6 o6 gr6; obtain ⟨p6, c6, rfl⟩ := owns_slice2 o6; have HI6 := stop (BP.grownS (BP.alloc HIB.out _) hb hg gr6); have x6 := cell_of HI6.out.2.1 2; have z6 := frozen_of HI6.out.2.1 2) | fail)
              all_goals
                replace o6 : w6.ownsRow (w.heap.size + 2) 143 1 (.slice p6 (sts.length + 1) c6) (sts ++ [(⟨33, (0, 0), (regN s (i + 1) (-1), i + 1), (0, 0), 0⟩ : RStep)]).length ((sts ++ [(⟨33, (0, 0), (regN s (i + 1) (-1), i + 1), (0, 0), 0⟩ : RStep)]).map stVal) := by
                  rw [List.length_append, List.map_append]; exact o6
                have J := BP.newS HI6.out hb hg o6
                clear o6 HI6 gr6 x6 z6 c2 z5 l5 HIB o5 f5 P5 b2 b2z bl I
                generalize w6.setCell ⟨w.heap.size + 1, 2, none⟩ (.slice p6 (sts.length + 1) c6) = w7 at *
                have HE6 := HE.out
                rw [HB1.out] at HE6
                generalize regI s (i + 1) (-1) = i5 at *
                go_wp2_with fail
                cases h59 : onF s i5 (-1) 59 with
                | true =>
                  have e1 : gotI s i5 (-1) 59 = i5 + 1 := by rw [gotI, if_pos h59]
                  have e2 : mustB s i5 (-1) 59 = -1 := by rw [mustB, if_pos h59]
                  have hl59 := (onF_lt h59).2.1
                  rw [e1, e2] at HE6
                  have HE7 := stop HE6
                  refine (want_yes (c := 59) J.P hs (by decide) h59).mono ?_
                  rintro e w8 ⟨rfl, P8, f8⟩
                  clear h59 HE6 e1 e2
                  have J8 := J.call hb P8 f8
                  go_wp2_with fail
                  go_roundw
                  case rel => exact ⟨k, chs, _, _, _, _, i5 + 1, J8, .inl ⟨rfl, by omega, by omega, by simp; omega, HE7⟩⟩
                  case measure => rw [J8.P.rdI, HRI.out, HFL.out, cell_of J8.G2 3]; simp [flagE]; omega
                | false =>
                  have e2 : mustB s i5 (-1) 59 = i5 := by rw [mustB1, h59]; rfl
                  rw [e2] at HE6
                  have HB : Hid ((blkF s i0 (-1)).bad = i5) := by show _ = _; rw [HE6]; exact st_blk _ (by omega)
                  refine (want_no (c := 59) J.P (by decide) h59).mono ?_
                  rintro e w8 ⟨rfl, f8⟩
                  clear h59 HE6 e2
                  go_wp2_with fail
                  exact ⟨rfl, .inr ⟨by rw [HB.out], by rw [HB.out]; omega, J.F.trans f8⟩⟩
            · have H1 := stop h1
              have HB : Hid ((blkF s i0 (-1)).bad = regB s (i + 1) (-1)) := by show _ = _; rw [HE.out, st_must h1]; exact st_blk _ h1
              have FIN : Hid (∀ w5, Fr b w4.drew w5 → BkPost b g s w (blkF s i0 (-1)) (.panicked (brk (regB s (i + 1) (-1)))) w5) := fun w5 f5 => .inr ⟨by rw [HB.out], by rw [HB.out]; exact h1, I.F.drew.trans f5⟩
              clear h1 HE
              go_region_law (first | (refine stepC rfl 47 #[.pointer (some ⟨b, 0, none⟩)] (by go_simp) (never2 (reg_no (RS.drew I.P) hs H1.out) (.agg #[.int .i64 0, .int .i64 0])) ?_; rintro e w5 (⟨rfl, f5⟩ | ⟨rfl, rfl, hF⟩); exact ⟨rfl, FIN.out _ f5⟩) | (refine step_never hF (.slice none 0 0) ?_) | fail)
              all_goals exact hF.out.elim
          | false =>
            refine (skip_no (c := 33) I.P (by decide) h33).mono ?_
            rintro e w4 ⟨rfl, P4, f4⟩
            replace I := I.call hb P4 f4
            have H46 := stop h46
            have H62 := stop h62
            have H33 := stop h33
            clear f4 P4 h46 h62 h33
            go_wp2_with fail
            refine (fromReg_any (blkF s i0 (-1)) I hb hg hs hcl hsl HR H46 H62 H33).mono ?_
            rintro e w5 (⟨rfl, chs2, sts2, vc2, vs2, ee, i2, HV, hop, J⟩ | ⟨rfl, chs2, sts2, vc2, vs2, i2, HE, hi2, h3, h4, J⟩ | ⟨rfl, hbad, f5⟩)
            · replace HV := stop HV
              replace hop := stop hop
              have hle := J.P.le
              go_wp2_with fail
              go_roundw
              case rel => exact ⟨0, chs2, sts2, _, _, _, i2, J, .inr ⟨ee, rfl, HV, .inr (.inr hop)⟩⟩
              case measure =>
                have hge : i ≤ i2 := by
                  have h1 := blkGo_ge (s := s) (i0 := i0) (k + 1) chs sts i (-1)
                  rw [← HR.out, HV.out] at h1
                  exact h1
                rw [J.P.rdI, HRI.out, HFL.out, cell_of J.G2 3]
                have : flagE (endVal ee) = 0 := by obtain ⟨T, x, h⟩ := endVal_iface ee; rw [h]; rfl
                simp [this]; omega
            · replace HE := stop HE
              have hle := J.P.le
              go_wp2_with fail
              go_roundw
              case rel => exact ⟨k, chs2, sts2, _, _, _, i2, J, .inl ⟨rfl, by omega, h3, h4, HE⟩⟩
              case measure => rw [J.P.rdI, HRI.out, HFL.out, cell_of J.G2 3]; simp [flagE]; omega
            · replace hbad := stop hbad
              go_wp2_with fail
              exact ⟨rfl, .inr ⟨rfl, hbad.out, f5⟩⟩
    · obtain ⟨T, x, hev⟩ := endVal_iface ee
      have HEV := stop hev
      rw [hev] at I
      clear hev
      have q1 := cell_of I.G1
      have z1 := frozen_of I.G1
      have q2 := cell_of I.G2
      go_wp2_with fail
      refine bodyPost_ret (v := .agg #[.int .i64 i0, (.slice pc1 chs.length cc1), (.slice ps1 sts.length cs1), .iface T x]) (by simp [results, Try.results28, go_sem, q1]) rfl (.inl ⟨.slice pc1 chs.length cc1, .slice ps1 sts.length cs1, ?_, ?_, ?_, ?_, ?_, ?_⟩)
      · rw [HV.out]; rw [pblkCells, HEV.out]
      · rw [HV.out]
      · rw [HV.out]; exact HOP.out
      · rw [HV.out]; exact ⟨PChs.base (((((I.C).keeps (Keeps.setk T4 _ w.heap.size 0 _ (by omega)) (by simp [T4]) (by simp [T4])).keeps (Keeps.setk T4 _ w.heap.size 1 _ (by omega)) (by simp [T4]) (by simp [T4])).keeps (Keeps.setk T4 _ w.heap.size 2 _ (by omega)) (by simp [T4]) (by simp [T4])).keeps (Keeps.setk T4 _ w.heap.size 3 _ (by omega)) (by simp [T4]) (by simp [T4])) (by omega), owns_base (owns_setk (owns_setk (owns_setk (owns_setk (I.S) w.heap.size 0 _ (by omega)) w.heap.size 1 _ (by omega)) w.heap.size 2 _ (by omega)) w.heap.size 3 _ (by omega)) (by omega)⟩
      · rw [HV.out]; exact ((((I.P).setk w.heap.size 0 _ (by omega) (by omega)).setk w.heap.size 1 _ (by omega) (by omega)).setk w.heap.size 2 _ (by omega) (by omega)).setk w.heap.size 3 _ (by omega) (by omega)
      · exact ((((I.F).setk w.heap.size 0 _ (by omega)).setk w.heap.size 1 _ (by omega)).setk w.heap.size 2 _ (by omega)).setk w.heap.size 3 _ (by omega)
end Go.Proofs.Ytjimoigbdcalpaa
