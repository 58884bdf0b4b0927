import Derived.Test.YtgfhfkgdmidhpaaGreatTA
import Derived.Deep.CutBlock
import Derived.Deep.CutRange
import Derived.Deep.LoopGhost
import Derived.Deep.DeepCutAuto
namespace Go.Proofs.YtgfhfkgdmidhpaaGreat
open Go.RowKit

set_option maxRecDepth 100000 in
set_option maxHeartbeats 2000000 in
theorem trees_any (s : ByteArray) (w : World) (hs : s.size ≤ maxLen) : Calls Tryz.prog 8 #[.string s] w fun x w' => x = .returned (.bool true) ∧ Below w.heap.size w w' := by
  go_enter Tryz.func8, Tryz.ntmps8
  go_wp2_with fail
  refine (keepersP s w).mono ?_
  rintro x w1 ⟨v1, rfl, o1, f1⟩
  have s1 := f1.size
  obtain ⟨p1, c1, rfl⟩ := owns_slice2 o1
  have O1 := stop (And.intro o1 f1)
  clear o1 f1
  go_wp2_with fail
  refine (rimsP s w1).mono ?_
  rintro x w2 ⟨v2, rfl, o2, f2⟩
  have s2 := f2.size
  obtain ⟨p2, c2, rfl⟩ := o2.slice
  have O2 := stop (And.intro o2 f2)
  clear o2 f2
  go_wp2_with fail
  refine (refCheck_any s w2 hs).mono ?_
  rintro x w3 ⟨rfl, f3⟩
  have f13 := O2.out.2.trans (f3.mono s2)
  have O3 := stop (And.intro (owns_keeps O1.out.1 (Keeps.below (T := fun _ => True) f13) trivial) (And.intro (O2.out.1.keeps f3) (O1.out.2.trans (f13.mono s1))))
  clear f3 f13 O1 O2
  by_cases h0 : (rdF s).e = 0
  · obtain ⟨ha, hp, h12, hg⟩ := rd0 h0
    have HK : Hid (keepF s = kprs (parF s).bs ∧ rimN s = (parF s).bs.length ∧ rimsF s = rimL (suF (parF s).bs) (parF s).bs.length) := ⟨by rw [keepF, if_pos h0], by rw [rimN, if_pos h0], rfl⟩
    have HSL := stop (suF_lt hg)
    rw [h0]
    have hkl : (keepF s).length = (parF s).bs.length := by rw [HK.out.1, kprs_len]
    have hrl := HK.out.2.1
    rw [hkl, hrl]
    have O4 : Hid (w3.ownsRow w.heap.size 3 1 (.slice p1 (parF s).bs.length c1) (parF s).bs.length (zcell (kprs (parF s).bs)) ∧ RowR w1.heap.size w3 (.slice p2 (parF s).bs.length c2) (parF s).bs.length (rimL (suF (parF s).bs) (parF s).bs.length) ∧ Below w.heap.size w w3) := by
      have := O3.out
      rw [hkl, HK.out.1, hrl, HK.out.2.2] at this
      exact this
    clear O3 HK hkl hrl ha h0
    generalize (parF s).bs = bs at *
    obtain ⟨g1, rfl, _, _⟩ := owns_form O4.out.1 hp
    have c00 := owns_cell O4.out.1 (kprs_at hp)
    rw [kpr_zero hp HSL.out] at c00
    go_wp2_with (go_at_call 11; refine (num_any _ _).mono ?_; rintro x w' ⟨rfl, hw⟩; rw [hw]; clear hw)
    clear c00
    go_loopg [11] bs.length (fun g i wx => w3 = wx ∧ ∃ m : Nat, m ≤ bs.length ∧ g = bs.length - m ∧ i = .int .i64 m)
    case atStart => exact ⟨rfl, 0, by omega, rfl, rfl⟩
    case round =>
      obtain ⟨rfl, m, hm, rfl, rfl⟩ := hrel
      by_cases hlt : m < bs.length
      · have cm := owns_cell O4.out.1 (kprs_at hlt)
        obtain ⟨g2, u, rfl, _, _, hcu, _, hou⟩ := O4.out.2.1.at hlt
        obtain ⟨pu, cu, rfl⟩ := owns_slice2 hou
        replace hou := stop hou
        have hrn : (rimL (suF bs) bs.length m).length ≤ 1000 := Nat.le_trans (setL_len _ _) (by omega)
        go_upto_block 2 with fail
        go_cut [12] (fun s12 wx => w3 = wx ∧ ∃ kv : Int, s12 = .int .i64 kv ∧ Hid (kv = upK (suF bs) bs.length noS bs.length (m : Int)) ∧ -2 ≤ kv ∧ kv < (bs.length : Int))
        case first =>
          go_wp2_with fail
          go_loopg [12, 13] bs.length (fun g k t wx => w3 = wx ∧ ∃ (kv : Int) (q : Nat), q ≤ bs.length ∧ g = bs.length - q ∧ t = .int .i64 q ∧ k = .int .i64 kv ∧ -2 ≤ kv ∧ kv < (bs.length : Int) ∧ Hid (upK (suF bs) bs.length noS (bs.length - q) kv = upK (suF bs) bs.length noS bs.length (m : Int)))
          case atStart => exact ⟨rfl, m, 0, by omega, rfl, rfl, rfl, by omega, by omega, rfl⟩
          case round =>
            obtain ⟨rfl, kv, q, hq, rfl, rfl, rfl, hk1, hk2, HU⟩ := hrel
            by_cases hql : q < bs.length
            · by_cases hk0 : 0 < kv
              · obtain ⟨kn, rfl⟩ : ∃ kn : Nat, kv = kn := ⟨kv.toNat, by omega⟩
                have ck := owns_cell O4.out.1 (kprs_at (j := kn) (by omega))
                have hbd := kprF_bd hp HSL.out kn
                have HU2 : Hid (upK (suF bs) bs.length noS (bs.length - (q + 1)) (kprF (suF bs) bs.length kn) = upK (suF bs) bs.length noS bs.length (m : Int)) := by
                  show _ = _
                  rw [← HU.out, upK_go (by omega) rfl (by omega)]; congr 1
                clear HU
                generalize kprF (suF bs) bs.length kn = kx at ck hbd HU2
                go_wp2_with fail
                go_roundg (bs.length - (q + 1))
                case measure => omega
                case rel => exact ⟨rfl, kx, q + 1, by omega, rfl, by go_num, rfl, by omega, by omega, HU2⟩
              · have HKV : Hid (kv = upK (suF bs) bs.length noS bs.length (m : Int)) := by
                  show _ = _
                  rw [← HU.out, upK_stop (by simp [hk0])]
                clear HU
                go_wp2_with fail
                go_meet
                exact ⟨rfl, kv, rfl, HKV, hk1, hk2⟩
            · have hre : q = bs.length := by omega
              have HKV : Hid (kv = upK (suF bs) bs.length noS bs.length (m : Int)) := by
                show _ = _
                rw [← HU.out, hre, Nat.sub_self]; rfl
              clear HU
              go_wp2_with fail
              go_meet
              exact ⟨rfl, kv, rfl, HKV, hk1, hk2⟩
        case rest =>
          obtain ⟨rfl, kv, rfl, HKV, hk1, hk2⟩ := hcut
          by_cases hr2 : kprF (suF bs) bs.length m = -2
          · have HRL : (rimL (suF bs) bs.length m).length = 0 := by rw [rim_none hp HSL.out (kpr_two hr2)]; rfl
            rw [hr2] at cm
            rw [HRL] at hcu
            clear hr2 HKV
            go_wp2_with fail
            go_loopg [14] 0 (fun g i wx => w3 = wx ∧ i = .int .i64 0)
            case atStart => exact ⟨rfl, rfl⟩
            case round =>
              obtain ⟨rfl, rfl⟩ := hrel
              go_wp2_with fail
              go_roundg (bs.length - (m + 1))
              case measure => omega
              case rel => exact ⟨rfl, m + 1, by omega, rfl, by go_num⟩
          · have hkz : kv = 0 := by rw [HKV.out]; exact up_zero hp HSL.out hr2
            have hbm := kprF_bd hp HSL.out m
            have e1 : (kprF (suF bs) bs.length m == -2) = false := by simpa using hr2
            have e2 : (kprF (suF bs) bs.length m != -2) = true := by simpa using hr2
            have e3 : decide ((bs.length : Int) ≤ kprF (suF bs) bs.length m) = false := by simp; omega
            have e4 : decide (kprF (suF bs) bs.length m < -2) = false := by simp; omega
            have hkz' : (kv != 0) = false := by rw [hkz]; rfl
            clear hr2 hkz HKV
            go_wp2_with fail
            clear e1 e2 e3 e4 hkz' hbm
            go_loopg [14] (rimL (suF bs) bs.length m).length (fun g i wx => w3 = wx ∧ ∃ q : Nat, q ≤ (rimL (suF bs) bs.length m).length ∧ g = (rimL (suF bs) bs.length m).length - q ∧ i = .int .i64 q)
            case atStart => exact ⟨rfl, 0, by omega, rfl, rfl⟩
            case round =>
              obtain ⟨rfl, q, hq, rfl, rfl⟩ := hrel
              by_cases hql : q < (rimL (suF bs) bs.length m).length
              · obtain ⟨gu, rfl, _, _⟩ := owns_form hou.out (by omega)
                have hy := rim_lt (List.getElem_mem hql)
                have HRIM : Hid (0 < (rimL (suF bs) bs.length m)[q] → upK (suF bs) bs.length (fun k => k == kprF (suF bs) bs.length (rimL (suF bs) bs.length m)[q]) bs.length (m : Int) = kprF (suF bs) bs.length (rimL (suF bs) bs.length m)[q]) := fun h => up_rim hp HSL.out (List.getElem_mem hql) h
                have cq := owns_cell hou.out (icell_at hql)
                have cy := owns_cell O4.out.1 (kprs_at hy)
                by_cases hq0 : q = 0
                · subst hq0
                  generalize (rimL (suF bs) bs.length m)[0] = bs_y at *
                  go_upto_block 6 with fail
                  have hA6 : decide (bs.length ≤ bs_y) = false := by simp; omega
                  have hB6 : decide ((bs_y : Int) < 0) = false := by simp
                  simp only [hA6, hB6, Bool.or_false]
                  go_cut [16] (fun up wx => w3 = wx ∧ ∃ kv : Int, up = .int .i64 kv ∧ Hid (kv = upK (suF bs) bs.length (fun k => k == kprF (suF bs) bs.length bs_y) bs.length (m : Int)) ∧ -2 ≤ kv ∧ kv < (bs.length : Int))
                  case first =>
                    clear cq
                    go_wp2_with fail
                    go_loopg [16, 17] bs.length (fun g up t wx => w3 = wx ∧ ∃ (kv : Int) (r : Nat), r ≤ bs.length ∧ g = bs.length - r ∧ t = .int .i64 r ∧ up = .int .i64 kv ∧ -2 ≤ kv ∧ kv < (bs.length : Int) ∧ Hid (upK (suF bs) bs.length (fun k => k == kprF (suF bs) bs.length bs_y) (bs.length - r) kv = upK (suF bs) bs.length (fun k => k == kprF (suF bs) bs.length bs_y) bs.length (m : Int)))
                    case atStart => exact ⟨rfl, m, 0, by omega, rfl, rfl, rfl, by omega, by omega, rfl⟩
                    case round =>
                      obtain ⟨rfl, kv, r, hr, rfl, rfl, rfl, hk1, hk2, HU⟩ := hrel
                      by_cases hrl : r < bs.length
                      · by_cases hk0 : 0 < kv
                        · obtain ⟨kn, rfl⟩ : ∃ kn : Nat, kv = kn := ⟨kv.toNat, by omega⟩
                          by_cases hke : (kn : Int) = kprF (suF bs) bs.length bs_y
                          · have HKY : Hid ((kn : Int) = upK (suF bs) bs.length (fun k => k == kprF (suF bs) bs.length bs_y) bs.length (m : Int)) := by
                              show _ = _
                              rw [← HU.out, upK_stop (by rw [hke]; simp)]
                            have hkd : ((kn : Int) != kprF (suF bs) bs.length bs_y) = false := by rw [hke]; simp
                            clear hke HU
                            obtain ⟨kv, hkv⟩ : ∃ kv : Int, kv = (kn : Int) := ⟨_, rfl⟩
                            rw [← hkv] at HKY hkd hk0 hk1 hk2 ⊢
                            clear hkv
                            go_wp2_with fail
                            go_meet
                            exact ⟨rfl, kv, rfl, HKY, hk1, hk2⟩
                          · have hkd : ((kn : Int) != kprF (suF bs) bs.length bs_y) = true := by simpa using hke
                            have ck := owns_cell O4.out.1 (kprs_at (j := kn) (by omega))
                            have hbd := kprF_bd hp HSL.out kn
                            have HU2 : Hid (upK (suF bs) bs.length (fun k => k == kprF (suF bs) bs.length bs_y) (bs.length - (r + 1)) (kprF (suF bs) bs.length kn) = upK (suF bs) bs.length (fun k => k == kprF (suF bs) bs.length bs_y) bs.length (m : Int)) := by
                              show _ = _
                              rw [← HU.out, upK_go (by omega) (by simpa using hke) (by omega)]; congr 1
                            clear hke HU
                            generalize kprF (suF bs) bs.length kn = kx at *
                            go_wp2_with fail
                            go_roundg (bs.length - (r + 1))
                            case measure => omega
                            case rel => exact ⟨rfl, kx, r + 1, by omega, rfl, by go_num, rfl, by omega, by omega, HU2⟩
                        · have HKY : Hid (kv = upK (suF bs) bs.length (fun k => k == kprF (suF bs) bs.length bs_y) bs.length (m : Int)) := by
                            show _ = _
                            rw [← HU.out, upK_stop (by simp [hk0])]
                          have hk0d : decide (0 < kv) = false := by simpa using hk0
                          clear HU
                          go_wp2_with fail
                          go_meet
                          exact ⟨rfl, kv, rfl, HKY, hk1, hk2⟩
                      · have hre : r = bs.length := by omega
                        have HKY : Hid (kv = upK (suF bs) bs.length (fun k => k == kprF (suF bs) bs.length bs_y) bs.length (m : Int)) := by
                          show _ = _
                          rw [← HU.out, hre, Nat.sub_self]; rfl
                        clear HU
                        go_wp2_with fail
                        go_meet
                        exact ⟨rfl, kv, rfl, HKY, hk1, hk2⟩
                  case rest =>
                    obtain ⟨rfl, kv, rfl, HKY, hk1, hk2⟩ := hcut
                    by_cases hy0 : bs_y = 0
                    · subst hy0
                      go_wp2_with fail
                      go_roundg ((rimL (suF bs) bs.length m).length - (1))
                      case measure => omega
                      case rel => exact ⟨rfl, 1, by omega, rfl, by go_num⟩
                    · have hyp : 0 < bs_y := by omega
                      have hky : kv = kprF (suF bs) bs.length bs_y := by rw [HKY.out]; exact HRIM.out (by omega)
                      have hnd : (kv != kprF (suF bs) bs.length bs_y) = false := by rw [hky]; simp
                      clear hky hy0
                      go_wp2_with fail
                      go_roundg ((rimL (suF bs) bs.length m).length - (1))
                      case measure => omega
                      case rel => exact ⟨rfl, 1, by omega, rfl, by go_num⟩
                · obtain ⟨q', rfl⟩ : ∃ q', q = q' + 1 := ⟨q - 1, by omega⟩
                  have cq' := owns_cell hou.out (icell_at (j := q') (by omega))
                  have hss : (rimL (suF bs) bs.length m).Pairwise (· < ·) := setL_srt _ _
                  have hsrt : (rimL (suF bs) bs.length m)[q'] < (rimL (suF bs) bs.length m)[q' + 1] := List.pairwise_iff_getElem.1 hss q' (q' + 1) (by omega) hql (by omega)
                  clear hss
                  have hle : decide (((rimL (suF bs) bs.length m)[q' + 1] : Int) ≤ ((rimL (suF bs) bs.length m)[q'] : Int)) = false := by simp; omega
                  generalize (rimL (suF bs) bs.length m)[q'] = yp at *
                  generalize (rimL (suF bs) bs.length m)[q' + 1] = bs_y at *
                  go_upto_block 6 with fail
                  have hA6 : decide (bs.length ≤ bs_y) = false := by simp; omega
                  have hB6 : decide ((bs_y : Int) < 0) = false := by simp
                  have hC6 : decide (bs_y ≤ yp) = false := by simp; omega
                  simp only [hA6, hB6, hC6, Bool.or_false]
                  go_cut [16] (fun up wx => w3 = wx ∧ ∃ kv : Int, up = .int .i64 kv ∧ Hid (kv = upK (suF bs) bs.length (fun k => k == kprF (suF bs) bs.length bs_y) bs.length (m : Int)) ∧ -2 ≤ kv ∧ kv < (bs.length : Int))
                  case first =>
                    clear cq
                    go_wp2_with fail
                    go_loopg [16, 17] bs.length (fun g up t wx => w3 = wx ∧ ∃ (kv : Int) (r : Nat), r ≤ bs.length ∧ g = bs.length - r ∧ t = .int .i64 r ∧ up = .int .i64 kv ∧ -2 ≤ kv ∧ kv < (bs.length : Int) ∧ Hid (upK (suF bs) bs.length (fun k => k == kprF (suF bs) bs.length bs_y) (bs.length - r) kv = upK (suF bs) bs.length (fun k => k == kprF (suF bs) bs.length bs_y) bs.length (m : Int)))
                    case atStart => exact ⟨rfl, m, 0, by omega, rfl, rfl, rfl, by omega, by omega, rfl⟩
                    case round =>
                      obtain ⟨rfl, kv, r, hr, rfl, rfl, rfl, hk1, hk2, HU⟩ := hrel
                      by_cases hrl : r < bs.length
                      · by_cases hk0 : 0 < kv
                        · obtain ⟨kn, rfl⟩ : ∃ kn : Nat, kv = kn := ⟨kv.toNat, by omega⟩
                          by_cases hke : (kn : Int) = kprF (suF bs) bs.length bs_y
                          · have HKY : Hid ((kn : Int) = upK (suF bs) bs.length (fun k => k == kprF (suF bs) bs.length bs_y) bs.length (m : Int)) := by
                              show _ = _
                              rw [← HU.out, upK_stop (by rw [hke]; simp)]
                            have hkd : ((kn : Int) != kprF (suF bs) bs.length bs_y) = false := by rw [hke]; simp
                            clear hke HU
                            obtain ⟨kv, hkv⟩ : ∃ kv : Int, kv = (kn : Int) := ⟨_, rfl⟩
                            rw [← hkv] at HKY hkd hk0 hk1 hk2 ⊢
                            clear hkv
                            go_wp2_with fail
                            go_meet
                            exact ⟨rfl, kv, rfl, HKY, hk1, hk2⟩
                          · have hkd : ((kn : Int) != kprF (suF bs) bs.length bs_y) = true := by simpa using hke
                            have ck := owns_cell O4.out.1 (kprs_at (j := kn) (by omega))
                            have hbd := kprF_bd hp HSL.out kn
                            have HU2 : Hid (upK (suF bs) bs.length (fun k => k == kprF (suF bs) bs.length bs_y) (bs.length - (r + 1)) (kprF (suF bs) bs.length kn) = upK (suF bs) bs.length (fun k => k == kprF (suF bs) bs.length bs_y) bs.length (m : Int)) := by
                              show _ = _
                              rw [← HU.out, upK_go (by omega) (by simpa using hke) (by omega)]; congr 1
                            clear hke HU
                            generalize kprF (suF bs) bs.length kn = kx at *
                            go_wp2_with fail
                            go_roundg (bs.length - (r + 1))
                            case measure => omega
                            case rel => exact ⟨rfl, kx, r + 1, by omega, rfl, by go_num, rfl, by omega, by omega, HU2⟩
                        · have HKY : Hid (kv = upK (suF bs) bs.length (fun k => k == kprF (suF bs) bs.length bs_y) bs.length (m : Int)) := by
                            show _ = _
                            rw [← HU.out, upK_stop (by simp [hk0])]
                          have hk0d : decide (0 < kv) = false := by simpa using hk0
                          clear HU
                          go_wp2_with fail
                          go_meet
                          exact ⟨rfl, kv, rfl, HKY, hk1, hk2⟩
                      · have hre : r = bs.length := by omega
                        have HKY : Hid (kv = upK (suF bs) bs.length (fun k => k == kprF (suF bs) bs.length bs_y) bs.length (m : Int)) := by
                          show _ = _
                          rw [← HU.out, hre, Nat.sub_self]; rfl
                        clear HU
                        go_wp2_with fail
                        go_meet
                        exact ⟨rfl, kv, rfl, HKY, hk1, hk2⟩
                  case rest =>
                    obtain ⟨rfl, kv, rfl, HKY, hk1, hk2⟩ := hcut
                    by_cases hy0 : bs_y = 0
                    · subst hy0
                      go_wp2_with fail
                      go_roundg ((rimL (suF bs) bs.length m).length - (q' + 1 + 1))
                      case measure => omega
                      case rel => exact ⟨rfl, q' + 1 + 1, by omega, rfl, by go_num⟩
                    · have hyp : 0 < bs_y := by omega
                      have hky : kv = kprF (suF bs) bs.length bs_y := by rw [HKY.out]; exact HRIM.out (by omega)
                      have hnd : (kv != kprF (suF bs) bs.length bs_y) = false := by rw [hky]; simp
                      clear hky hy0
                      go_wp2_with fail
                      go_roundg ((rimL (suF bs) bs.length m).length - (q' + 1 + 1))
                      case measure => omega
                      case rel => exact ⟨rfl, q' + 1 + 1, by omega, rfl, by go_num⟩
              · go_wp2_with fail
                go_roundg (bs.length - (m + 1))
                case measure => omega
                case rel => exact ⟨rfl, m + 1, by omega, rfl, by go_num⟩
      · go_wp2_with fail
        go_ret
        exact ⟨rfl, O4.out.2.2⟩
  · have HK : Hid (keepF s = [] ∧ rimN s = 0) := ⟨by rw [keepF, if_neg h0], by rw [rimN, if_neg h0]⟩
    have hd : (((rdF s).e : Int) != 0) = true := by simp; omega
    have hkl : (keepF s).length = 0 := by rw [HK.out.1]; rfl
    have hrl := HK.out.2
    rw [hkl, hrl]
    have F3 := stop O3.out.2.2
    clear O3 HK hkl hrl h0
    go_wp2_with (go_at_call 11; refine (num_any _ _).mono ?_; rintro x w' ⟨rfl, hw⟩; rw [hw]; clear hw)
    go_ret
    exact ⟨by simp, F3.out⟩

end Go.Proofs.YtgfhfkgdmidhpaaGreat
