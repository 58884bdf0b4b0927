import Derived.Test.YtgfhfkgdmidhpaaGreatDoorG02
namespace Go.Proofs.YtgfhfkgdmidhpaaGreatDoor
open Go.RowKit

structure RBlk where
  chs : List RCho
  sts : List RStep
  e : REnd
  at_ : Nat
structure Blk where
  b : RBlk
  i : Nat
  bad : Int
def noEnd : REnd := ⟨0, (0, 0), (0, 0), (0, 0)⟩
def blkCells (vc vs : Value) (e : REnd) (at_ : Nat) : List Value := vc :: vs :: (endCells e ++ [.int .i64 at_])
def blkGo (s : ByteArray) (i0 : Nat) : Nat → List RCho → List RStep → Nat → Int → Blk
  | 0, chs, sts, i, bad => ⟨⟨chs, sts, noEnd, i0⟩, i, bad⟩
  | k + 1, chs, sts, i, bad =>
    if bad < 0 then
      if onF s i bad 46 then ⟨⟨chs, sts, ⟨46, (0, 0), (0, 0), (0, 0)⟩, i0⟩, i + 1, bad⟩
      else if onF s i bad 62 then ⟨⟨chs, sts, ⟨62, (0, 0), (numN s (i + 1) bad, i + 1), (0, 0)⟩, i0⟩, numI s (i + 1) bad, numB s (i + 1) bad⟩
      else if onF s i bad 33 then
        let i2 := regI s (i + 1) bad
        let b2 := regB s (i + 1) bad
        blkGo s i0 k chs (sts ++ [⟨33, (0, 0), (regN s (i + 1) bad, i + 1), (0, 0), 0⟩]) (gotI s i2 b2 59) (mustB s i2 b2 59)
      else
        let i1 := regI s i bad
        let b1 := regB s i bad
        let r := (regN s i bad, i)
        if onF s i1 b1 61 then
          let g := givF s r (i1 + 1) b1
          blkGo s i0 k chs (sts ++ [g.st]) (gotI s g.i g.bad 59) (mustB s g.i g.bad 59)
        else if onF s i1 b1 64 && sts.isEmpty then
          let c := choF s i1 b1
          blkGo s i0 k (chs ++ [⟨r, c.gs, c.rs⟩]) sts (gotI s c.i c.bad 59) (mustB s c.i c.bad 59)
        else
          let e := braF s r i1 b1
          ⟨⟨chs, sts, e.e, i0⟩, e.i, e.bad⟩
    else ⟨⟨chs, sts, noEnd, i0⟩, i, bad⟩
def blkF (s : ByteArray) (i : Nat) (bad : Int) : Blk := blkGo s i (s.size + 1) [] [] i bad
theorem opI_ge {s i bad} : i ≤ opI s i bad := by
  unfold opI
  repeat' split
  all_goals first
    | exact Nat.le_refl _
    | exact Nat.le_succ _
    | exact Nat.le_trans (Nat.le_succ _) gotI_ge
theorem givF_ge {s to i bad} : i ≤ (givF s to i bad).i := by
  unfold givF
  by_cases h1 : onF s i bad 63 = true
  · rw [if_pos h1]; exact Nat.le_succ _
  rw [if_neg h1]
  by_cases h2 : onF s i bad 114 = true
  · rw [if_pos h2]
    by_cases h3 : opC s (regI s i bad) (regB s i bad) = 0
    · dsimp only; rw [if_pos h3]; exact Nat.le_trans regI_ge opI_ge
    · dsimp only; rw [if_neg h3]; exact Nat.le_trans (Nat.le_trans regI_ge opI_ge) regI_ge
  rw [if_neg h2]
  by_cases h4 : onF s i bad 45 = true
  · rw [if_pos h4]; exact Nat.le_trans (Nat.le_succ _) numI_ge
  · rw [if_neg h4]; exact numI_ge
theorem givF_le {s to i bad} (h : i ≤ s.size) : (givF s to i bad).i ≤ s.size := by
  unfold givF
  by_cases h1 : onF s i bad 63 = true
  · rw [if_pos h1]; exact (onF_lt h1).2.1
  rw [if_neg h1]
  by_cases h2 : onF s i bad 114 = true
  · rw [if_pos h2]
    by_cases h3 : opC s (regI s i bad) (regB s i bad) = 0
    · dsimp only; rw [if_pos h3]; exact opI_le (regI_le h)
    · dsimp only; rw [if_neg h3]; exact regI_le (opI_le (regI_le h))
  rw [if_neg h2]
  by_cases h4 : onF s i bad 45 = true
  · rw [if_pos h4]; exact numI_le (onF_lt h4).2.1
  · rw [if_neg h4]; exact numI_le h
theorem choR_ge {s c} : c.i ≤ (choR s c).i := Nat.le_trans numI_ge (Nat.le_trans gotI_ge regI_ge)
theorem choR_le {s c} (h : c.i ≤ s.size) : (choR s c).i ≤ s.size := regI_le (gotI_le (numI_le h))
theorem choGo_ge {s} (k c) : c.i ≤ (choGo s k c).i := by
  induction k generalizing c with
  | zero => exact Nat.le_refl _
  | succ k ih =>
    rw [choGo]
    cases h : onF s (choR s c).i (choR s c).bad 44 with
    | true => rw [if_pos rfl]; exact Nat.le_trans (Nat.le_trans choR_ge gotI_ge) (ih { choR s c with i := gotI s (choR s c).i (choR s c).bad 44 })
    | false => rw [if_neg (by simp)]; exact Nat.le_trans choR_ge gotI_ge
theorem choGo_le {s} (k c) (h : c.i ≤ s.size) : (choGo s k c).i ≤ s.size := by
  induction k generalizing c with
  | zero => exact h
  | succ k ih =>
    rw [choGo]
    cases h2 : onF s (choR s c).i (choR s c).bad 44 with
    | true => rw [if_pos rfl]; exact ih { choR s c with i := gotI s (choR s c).i (choR s c).bad 44 } (gotI_le (choR_le h))
    | false => rw [if_neg (by simp)]; exact gotI_le (choR_le h)
theorem choF_ge {s i bad} : gotI s i bad 64 ≤ (choF s i bad).i := choGo_ge (s.size + 1) { gs := [], rs := [], i := gotI s i bad 64, bad := mustB s i bad 64 }
theorem choF_le {s i bad} (h : i ≤ s.size) : (choF s i bad).i ≤ s.size := choGo_le _ _ (gotI_le h)
theorem Tryz.info66 : (Tryz.prog.info? 66).map (fun i => (i.zero, i.size, i.bytes)) = some (some (.agg #[.int .u8 0, .int .i64 0, .int .i64 0, .int .i64 0, .int .i64 0, .int .i64 0, .int .i64 0, .int .i64 0]), 8, 64) := by kernel_rfl
theorem Tryz.info64 : (Tryz.prog.info? 64).map (fun i => (i.zero, i.size, i.bytes)) = some (some (.agg #[.int .i64 0, .int .i64 0, .slice none 0 0, .slice none 0 0]), 4, 64) := by kernel_rfl
theorem ChsOwn.slice {w base cs v} (h : ChsOwn w base cs v) : ∃ p c, v = .slice p cs.length c := by
  obtain ⟨vs, a, _⟩ := h; exact owns_slice2 a

set_option maxRecDepth 100000 in
set_option maxHeartbeats 1000000 in
theorem block_any (b : Nat) (s : ByteArray) (i0 : Nat) (bad0 : Int) (w : World) (hp : PenAt w b s i0 bad0) (hs : s.size ≤ 200000) (hi0 : i0 ≤ s.size) :
    Calls Tryz.prog 48 #[.pointer (some ⟨b,0,none⟩)] w fun e w' => ∃ vc vs, e = .returned (.agg (blkCells vc vs (blkF s i0 bad0).b.e (blkF s i0 bad0).b.at_).toArray) ∧
      ChsOwn w' w.heap.size (blkF s i0 bad0).b.chs vc ∧ w'.ownsRow w.heap.size 66 8 vs (blkF s i0 bad0).b.sts.length ((blkF s i0 bad0).b.sts.flatMap stepCells) ∧
      PenAt w' b s (blkF s i0 bad0).i (blkF s i0 bad0).bad ∧ Fr b w w' := by
  have hl := hp.lt
  have h1 := hp.c1
  go_enter Tryz.func48, Tryz.ntmps48
  go_wp2_with fail
  go_loopw [4] (fun _ wr => ∃ (k : Nat) (chs : List RCho) (sts : List RStep) (vc vs : Value) (i : Nat) (bad : Int), s.size < k + i ∧ i ≤ s.size ∧ chs.length ≤ i ∧ sts.length ≤ i ∧ Hid (blkF s i0 bad0 = blkGo s i0 k chs sts i bad) ∧
      wr.heap[w.heap.size]? = some (.cells #[.slice none 0 0, .slice none 0 0, .int .u8 0, .int .i64 0, .int .i64 0, .int .i64 0, .int .i64 0, .int .i64 0, .int .i64 0, .int .i64 0] 53 (0, 0)) ∧ wr.heap[w.heap.size + 1]? = some (.cells #[vc, vs, .int .u8 0, .int .i64 0, .int .i64 0, .int .i64 0, .int .i64 0, .int .i64 0, .int .i64 0, .int .i64 i0] 53 (0, 0)) ∧
      BI b s w (w.heap.size + 2) chs sts vc vs i bad wr)
    (fun _ wr => s.size - penI wr b)
  case atStart =>
    refine ⟨s.size + 1, [], [], _, _, i0, bad0, by omega, hi0, by simp, by simp, rfl, ?_, ?_, ⟨⟨[], World.ownsRow_nil _ _ _ _, trivial⟩, World.ownsRow_nil _ _ _ _, (hp.alloc _).alloc _, ((Fr.refl _ _).alloc _).alloc _, by simp⟩⟩
    · exact blk_alloc (heap_alloc_last w _) _
    · simpa using heap_alloc_last (w.alloc _) _
  case round =>
    clear hp h1
    obtain ⟨k, chs, sts, vc, vs, i, bad, hk, hi, hcl, hsl, HR, G1, G2, I⟩ := hrel
    have HPI : Hid (penI wr b = i) := I.P.penI
    have hbb : b < w.heap.size + 2 := by omega
    obtain ⟨pc1, cc1, rfl⟩ := I.C.slice
    obtain ⟨ps1, cs1, rfl⟩ := owns_slice2 I.S
    obtain ⟨k, rfl⟩ : ∃ j, k = j + 1 := ⟨k - 1, by omega⟩
    have h2 := I.P.c2
    by_cases hb : bad < 0
    · cases h46 : onF s i bad 46 with
      | true =>
        have HV : Hid (blkF s i0 bad0 = ⟨⟨chs, sts, ⟨46, (0, 0), (0, 0), (0, 0)⟩, i0⟩, i + 1, bad⟩) := HR.out.trans (by rw [blkGo, if_pos hb, if_pos h46])
        have H46 := stop h46
        clear h46 HR
        go_wp2_with fail
        refine (got_yes I.P hs hi H46.out).mono ?_
        rintro e w1 ⟨rfl, P, f1⟩
        replace G1 := blk_fr f1 G1 (by omega)
        replace G2 := blk_fr f1 G2 (by omega)
        replace I := I.call hbb P f1
        have q1 := cell_of G1
        have z1 := frozen_of G1
        have q2 := cell_of G2
        have z2 := frozen_of G2
        go_wp2_with fail
        replace G1 := blk_setOther (j := w.heap.size + 1) G1 (by omega) 2 (.int .u8 46)
        replace G2 : (World.setCell _ ⟨w.heap.size + 1, 2, none⟩ (.int .u8 46)).heap[w.heap.size + 1]? = some (.cells #[(.slice pc1 chs.length cc1), (.slice ps1 sts.length cs1), .int .u8 46, .int .i64 0, .int .i64 0, .int .i64 0, .int .i64 0, .int .i64 0, .int .i64 0, .int .i64 i0] 53 (0, 0)) := blk_set G2 2 (.int .u8 46)
        replace I := I.setk (w.heap.size + 1) 2 (.int .u8 46) (by omega) (by omega) (by omega)
        have I2 := ((((((((((I).setk w.heap.size 0 ((.slice pc1 chs.length cc1)) (by omega) (by omega) (by omega)).setk w.heap.size 1 ((.slice ps1 sts.length cs1)) (by omega) (by omega) (by omega)).setk w.heap.size 2 (.int .u8 46) (by omega) (by omega) (by omega)).setk w.heap.size 3 (.int .i64 0) (by omega) (by omega) (by omega)).setk w.heap.size 4 (.int .i64 0) (by omega) (by omega) (by omega)).setk w.heap.size 5 (.int .i64 0) (by omega) (by omega) (by omega)).setk w.heap.size 6 (.int .i64 0) (by omega) (by omega) (by omega)).setk w.heap.size 7 (.int .i64 0) (by omega) (by omega) (by omega)).setk w.heap.size 8 (.int .i64 0) (by omega) (by omega) (by omega)).setk w.heap.size 9 (.int .i64 i0) (by omega) (by omega) (by omega)
        refine bodyPost_ret (v := .agg #[(.slice pc1 chs.length cc1), (.slice ps1 sts.length cs1), .int .u8 46, .int .i64 0, .int .i64 0, .int .i64 0, .int .i64 0, .int .i64 0, .int .i64 0, .int .i64 i0]) (by simp [results, Tryz.results48, go_sem, q1]) rfl ?_
        rw [HV.out]
        exact ⟨_, _, rfl, I2.C.base (by omega), owns_base I2.S (by omega), I2.P, I2.F⟩
      | false =>
        cases h62 : onF s i bad 62 with
        | true =>
          have hlt := (onF_lt h62).2.1
          have HV : Hid (blkF s i0 bad0 = ⟨⟨chs, sts, ⟨62, (0, 0), (numN s (i + 1) bad, i + 1), (0, 0)⟩, i0⟩, numI s (i + 1) bad, numB s (i + 1) bad⟩) := HR.out.trans (by rw [blkGo, if_pos hb, if_neg (by simp [h46]), if_pos h62])
          have H46 := stop h46
          have H62 := stop h62
          clear h46 HR h62
          go_wp2_with fail
          refine (got_no I.P hs hi H46.out).mono ?_
          rintro e w1 ⟨rfl, P, f1⟩
          replace G1 := blk_fr f1 G1 (by omega)
          replace G2 := blk_fr f1 G2 (by omega)
          replace I := I.call hbb P f1
          go_wp2_with fail
          refine (got_yes I.P hs hi H62.out).mono ?_
          rintro e w2 ⟨rfl, P2, f2⟩
          replace G1 := blk_fr f2 G1 (by omega)
          replace G2 := blk_fr f2 G2 (by omega)
          replace I := I.call hbb P2 f2
          have q1 := cell_of G1
          have z1 := frozen_of G1
          have q2 := cell_of G2
          have z2 := frozen_of G2
          go_wp2_with fail
          replace G1 := blk_setOther (j := w.heap.size + 1) G1 (by omega) 2 (.int .u8 62)
          replace G2 : (World.setCell _ ⟨w.heap.size + 1, 2, none⟩ (.int .u8 62)).heap[w.heap.size + 1]? = some (.cells #[(.slice pc1 chs.length cc1), (.slice ps1 sts.length cs1), .int .u8 62, .int .i64 0, .int .i64 0, .int .i64 0, .int .i64 0, .int .i64 0, .int .i64 0, .int .i64 i0] 53 (0, 0)) := blk_set G2 2 (.int .u8 62)
          replace I := I.setk (w.heap.size + 1) 2 (.int .u8 62) (by omega) (by omega) (by omega)
          clear q1 z1 q2 z2
          refine (goal_any b s _ _ _ I.P hs (by omega)).mono ?_
          rintro e w3 ⟨rfl, P3, f3⟩
          replace G1 := blk_fr f3 G1 (by omega)
          replace G2 := blk_fr f3 G2 (by omega)
          replace I := I.call hbb P3 f3
          have q1 := cell_of G1
          have z1 := frozen_of G1
          have q2 := cell_of G2
          have z2 := frozen_of G2
          go_wp2_with fail
          replace G1 := blk_setOther (j := w.heap.size + 1) G1 (by omega) 5 (.int .i64 (numN s (i + 1) bad))
          replace G2 : (World.setCell _ ⟨w.heap.size + 1, 5, none⟩ (.int .i64 (numN s (i + 1) bad))).heap[w.heap.size + 1]? = some (.cells #[(.slice pc1 chs.length cc1), (.slice ps1 sts.length cs1), .int .u8 62, .int .i64 0, .int .i64 0, .int .i64 (numN s (i + 1) bad), .int .i64 0, .int .i64 0, .int .i64 0, .int .i64 i0] 53 (0, 0)) := blk_set G2 5 (.int .i64 (numN s (i + 1) bad))
          replace I := I.setk (w.heap.size + 1) 5 (.int .i64 (numN s (i + 1) bad)) (by omega) (by omega) (by omega)
          replace G1 := blk_setOther (j := w.heap.size + 1) G1 (by omega) 6 (.int .i64 ((i : Int) + 1))
          replace G2 : (World.setCell _ ⟨w.heap.size + 1, 6, none⟩ (.int .i64 ((i : Int) + 1))).heap[w.heap.size + 1]? = some (.cells #[(.slice pc1 chs.length cc1), (.slice ps1 sts.length cs1), .int .u8 62, .int .i64 0, .int .i64 0, .int .i64 (numN s (i + 1) bad), .int .i64 ((i : Int) + 1), .int .i64 0, .int .i64 0, .int .i64 i0] 53 (0, 0)) := blk_set G2 6 (.int .i64 ((i : Int) + 1))
          replace I := I.setk (w.heap.size + 1) 6 (.int .i64 ((i : Int) + 1)) (by omega) (by omega) (by omega)
          have I2 := ((((((((((I).setk w.heap.size 0 ((.slice pc1 chs.length cc1)) (by omega) (by omega) (by omega)).setk w.heap.size 1 ((.slice ps1 sts.length cs1)) (by omega) (by omega) (by omega)).setk w.heap.size 2 (.int .u8 62) (by omega) (by omega) (by omega)).setk w.heap.size 3 (.int .i64 0) (by omega) (by omega) (by omega)).setk w.heap.size 4 (.int .i64 0) (by omega) (by omega) (by omega)).setk w.heap.size 5 (.int .i64 (numN s (i + 1) bad)) (by omega) (by omega) (by omega)).setk w.heap.size 6 (.int .i64 ((i : Int) + 1)) (by omega) (by omega) (by omega)).setk w.heap.size 7 (.int .i64 0) (by omega) (by omega) (by omega)).setk w.heap.size 8 (.int .i64 0) (by omega) (by omega) (by omega)).setk w.heap.size 9 (.int .i64 i0) (by omega) (by omega) (by omega)
          refine bodyPost_ret (v := .agg #[(.slice pc1 chs.length cc1), (.slice ps1 sts.length cs1), .int .u8 62, .int .i64 0, .int .i64 0, .int .i64 (numN s (i + 1) bad), .int .i64 ((i : Int) + 1), .int .i64 0, .int .i64 0, .int .i64 i0]) (by simp [results, Tryz.results48, go_sem, q1]) rfl ?_
          rw [HV.out]
          exact ⟨_, _, rfl, I2.C.base (by omega), owns_base I2.S (by omega), I2.P, I2.F⟩
        | false =>
          cases h33 : onF s i bad 33 with
          | true =>
            have hlt := (onF_lt h33).2.1
            have HR2 : Hid (blkF s i0 bad0 = blkGo s i0 k chs (sts ++ [⟨33, (0, 0), (regN s (i + 1) bad, i + 1), (0, 0), 0⟩]) (gotI s (regI s (i + 1) bad) (regB s (i + 1) bad) 59) (mustB s (regI s (i + 1) bad) (regB s (i + 1) bad) 59)) := HR.out.trans (by rw [blkGo, if_pos hb, if_neg (by simp [h46]), if_neg (by simp [h62]), if_pos h33])
            have H46 := stop h46
            have H62 := stop h62
            have H33 := stop h33
            clear h46 HR h62 h33
            go_wp2_with fail
            refine (got_no I.P hs hi H46.out).mono ?_
            rintro e w1 ⟨rfl, P, f1⟩
            replace G1 := blk_fr f1 G1 (by omega)
            replace G2 := blk_fr f1 G2 (by omega)
            replace I := I.call hbb P f1
            go_wp2_with fail
            refine (got_no I.P hs hi H62.out).mono ?_
            rintro e w2 ⟨rfl, P2, f2⟩
            replace G1 := blk_fr f2 G1 (by omega)
            replace G2 := blk_fr f2 G2 (by omega)
            replace I := I.call hbb P2 f2
            go_wp2_with fail
            refine (got_yes I.P hs hi H33.out).mono ?_
            rintro e w3 ⟨rfl, P3, f3⟩
            replace G1 := blk_fr f3 G1 (by omega)
            replace G2 := blk_fr f3 G2 (by omega)
            replace I := I.call hbb P3 f3
            go_wp2_with fail
            refine (reg_any b s _ _ _ I.P hs (by omega)).mono ?_
            rintro e w4 ⟨rfl, P4, f4⟩
            replace G1 := blk_fr f4 G1 (by omega)
            replace G2 := blk_fr f4 G2 (by omega)
            replace I := I.call hbb P4 f4
            have q1 := cell_of G1
            have z1 := frozen_of G1
            have q2 := cell_of G2
            have z2 := frozen_of G2
            have hr1 := regI_le (bad := bad) (show i + 1 ≤ s.size by omega)
            have hr2 := regI_ge (s := s) (i := i + 1) (bad := bad)
            generalize regI s (i + 1) bad = i2 at *
            generalize regB s (i + 1) bad = b2 at *
            generalize regN s (i + 1) bad = n2 at *
            have hZ := I.Z
            have n1 : w.heap.size + 1 < w4.heap.size := by omega
            go_wp2_with (at_builtin; refine unstop ?_)
            refine stop ?_
            have IA := ((I).alloc (.cells #[.int .i64 n2, .int .i64 ((i : Int) + 1)] 48)).alloc (.cells #[.int .u8 33, .int .i64 0, .int .i64 0, .int .i64 n2, .int .i64 ((i : Int) + 1), .int .i64 0, .int .i64 0, .int .i64 0] 66)
            have gB : ((w4.alloc (.cells #[.int .i64 n2, .int .i64 ((i : Int) + 1)] 48)).alloc (.cells #[.int .u8 33, .int .i64 0, .int .i64 0, .int .i64 n2, .int .i64 ((i : Int) + 1), .int .i64 0, .int .i64 0, .int .i64 0] 66)).heap[w4.heap.size + 1]? = some (.cells #[.int .u8 33, .int .i64 0, .int .i64 0, .int .i64 n2, .int .i64 ((i : Int) + 1), .int .i64 0, .int .i64 0, .int .i64 0] 66 (0, 0)) := by simpa using heap_alloc_last (w4.alloc (.cells #[.int .i64 n2, .int .i64 ((i : Int) + 1)] 48)) (.cells #[.int .u8 33, .int .i64 0, .int .i64 0, .int .i64 n2, .int .i64 ((i : Int) + 1), .int .i64 0, .int .i64 0, .int .i64 0] 66)
            have GA1 := blk_alloc (blk_alloc G1 (.cells #[.int .i64 n2, .int .i64 ((i : Int) + 1)] 48)) (.cells #[.int .u8 33, .int .i64 0, .int .i64 0, .int .i64 n2, .int .i64 ((i : Int) + 1), .int .i64 0, .int .i64 0, .int .i64 0] 66)
            have GA2 := blk_alloc (blk_alloc G2 (.cells #[.int .i64 n2, .int .i64 ((i : Int) + 1)] 48)) (.cells #[.int .u8 33, .int .i64 0, .int .i64 0, .int .i64 n2, .int .i64 ((i : Int) + 1), .int .i64 0, .int .i64 0, .int .i64 0] 66)
            refine app1 Tryz.underlying46 Tryz.info66 rfl (by decide) (by decide) rfl _ _ rfl rfl IA.S gB rfl rfl (List.all_eq_true.1 rfl) (by omega) IA.Z ?_
            intro v1 wS oS gS
            replace G1 := blk_grown gS GA1 (fun j hj => by have := (IA.S.lt j hj).1; omega)
            replace G2 := blk_grown gS GA2 (fun j hj => by have := (IA.S.lt j hj).1; omega)
            replace I := IA.grownS hbb (by omega) ⟨33, (0, 0), (n2, i + 1), (0, 0), 0⟩ oS gS
            clear IA gB GA1 GA2 gS q1 z1 q2 z2
            obtain ⟨p5, c5, rfl⟩ := owns_slice2 oS
            clear oS
            have q1 := cell_of G1
            have z1 := frozen_of G1
            have q2 := cell_of G2
            have z2 := frozen_of G2
            go_wp2_with fail
            replace G1 := blk_setOther (j := w.heap.size + 1) G1 (by omega) 1 (.slice p5 (sts.length + 1) c5)
            replace G2 : (World.setCell _ ⟨w.heap.size + 1, 1, none⟩ (.slice p5 (sts.length + 1) c5)).heap[w.heap.size + 1]? = some (.cells #[(.slice pc1 chs.length cc1), .slice p5 (sts.length + 1) c5, .int .u8 0, .int .i64 0, .int .i64 0, .int .i64 0, .int .i64 0, .int .i64 0, .int .i64 0, .int .i64 i0] 53 (0, 0)) := blk_set G2 1 (.slice p5 (sts.length + 1) c5)
            replace I := I.setk (w.heap.size + 1) 1 (.slice p5 (sts.length + 1) c5) (by omega) (by omega) (by omega)
            clear q1 z1 q2 z2
            refine (must_any b s _ 59 _ _ I.P hs hr1).mono ?_
            rintro e w6 ⟨rfl, P6, f6⟩
            replace G1 := blk_fr f6 G1 (by omega)
            replace G2 := blk_fr f6 G2 (by omega)
            replace I := I.call hbb P6 f6
            have hr3 := gotI_ge (s := s) (i := i2) (bad := b2) (c := 59)
            have hr4 := gotI_le (bad := b2) (c := 59) hr1
            go_wp2_with fail
            go_roundw
            case rel => exact ⟨k, chs, _, _, _, _, _, by omega, hr4, by omega, by simp; omega, HR2, G1, G2, I⟩
            case measure => rw [I.P.penI, HPI.out]; omega
          | false =>
            have HR1 : Hid (blkF s i0 bad0 = if onF s (regI s i bad) (regB s i bad) 61 then blkGo s i0 k chs (sts ++ [(givF s (regN s i bad, i) (regI s i bad + 1) (regB s i bad)).st]) (gotI s (givF s (regN s i bad, i) (regI s i bad + 1) (regB s i bad)).i (givF s (regN s i bad, i) (regI s i bad + 1) (regB s i bad)).bad 59) (mustB s (givF s (regN s i bad, i) (regI s i bad + 1) (regB s i bad)).i (givF s (regN s i bad, i) (regI s i bad + 1) (regB s i bad)).bad 59)
                else if onF s (regI s i bad) (regB s i bad) 64 && sts.isEmpty then blkGo s i0 k (chs ++ [⟨(regN s i bad, i), (choF s (regI s i bad) (regB s i bad)).gs, (choF s (regI s i bad) (regB s i bad)).rs⟩]) sts (gotI s (choF s (regI s i bad) (regB s i bad)).i (choF s (regI s i bad) (regB s i bad)).bad 59) (mustB s (choF s (regI s i bad) (regB s i bad)).i (choF s (regI s i bad) (regB s i bad)).bad 59)
                else ⟨⟨chs, sts, (braF s (regN s i bad, i) (regI s i bad) (regB s i bad)).e, i0⟩, (braF s (regN s i bad, i) (regI s i bad) (regB s i bad)).i, (braF s (regN s i bad, i) (regI s i bad) (regB s i bad)).bad⟩) := HR.out.trans (by rw [blkGo, if_pos hb, if_neg (by simp [h46]), if_neg (by simp [h62]), if_neg (by simp [h33])])
            have H46 := stop h46
            have H62 := stop h62
            have H33 := stop h33
            clear h46 HR h62 h33
            go_wp2_with fail
            refine (got_no I.P hs hi H46.out).mono ?_
            rintro e w1 ⟨rfl, P, f1⟩
            replace G1 := blk_fr f1 G1 (by omega)
            replace G2 := blk_fr f1 G2 (by omega)
            replace I := I.call hbb P f1
            go_wp2_with fail
            refine (got_no I.P hs hi H62.out).mono ?_
            rintro e w2 ⟨rfl, P2, f2⟩
            replace G1 := blk_fr f2 G1 (by omega)
            replace G2 := blk_fr f2 G2 (by omega)
            replace I := I.call hbb P2 f2
            go_wp2_with fail
            refine (got_no I.P hs hi H33.out).mono ?_
            rintro e w3 ⟨rfl, P3, f3⟩
            replace G1 := blk_fr f3 G1 (by omega)
            replace G2 := blk_fr f3 G2 (by omega)
            replace I := I.call hbb P3 f3
            go_wp2_with fail
            refine (reg_any b s _ _ _ I.P hs (by omega)).mono ?_
            rintro e w4 ⟨rfl, P4, f4⟩
            replace G1 := blk_fr f4 G1 (by omega)
            replace G2 := blk_fr f4 G2 (by omega)
            replace I := I.call hbb P4 f4
            have hr1 := regI_le (bad := bad) hi
            have hr2 := regI_ge (s := s) (i := i) (bad := bad)
            generalize regI s i bad = i1 at *
            generalize regB s i bad = b1 at *
            generalize regN s i bad = n1 at *
            have hZ := I.Z
            have gr := heap_alloc_last w4 (.cells #[.int .i64 n1, .int .i64 i] 48)
            replace G1 := blk_alloc G1 (.cells #[.int .i64 n1, .int .i64 i] 48)
            replace G2 := blk_alloc G2 (.cells #[.int .i64 n1, .int .i64 i] 48)
            replace I := I.alloc (.cells #[.int .i64 n1, .int .i64 i] 48)
            have hkr : b ≠ w4.heap.size := by omega
            go_wp2_with fail
            cases h64 : onF s i1 b1 64 with
            | true =>
              refine (on_is I.P h64).mono ?_
              rintro e w5 ⟨rfl, P5, f5⟩
              replace gr := blk_fr f5 gr (fun e => hkr e.symm)
              replace G1 := blk_fr f5 G1 (by omega)
              replace G2 := blk_fr f5 G2 (by omega)
              replace I := I.call hbb P5 f5
              cases h61 : onF s i1 b1 61 with
              | true =>
                have HR2 := stop (HR1.out.trans (if_pos h61))
                have hl61 := (onF_lt h61).2.1
                have H61 := stop h61
                clear HR1 h61 h64
                go_wp2_with fail
                refine (got_yes I.P hs hr1 H61.out).mono ?_
                rintro e w6 ⟨rfl, P6, f6⟩
                replace gr := blk_fr f6 gr (fun e => hkr e.symm)
                replace G1 := blk_fr f6 G1 (by omega)
                replace G2 := blk_fr f6 G2 (by omega)
                replace I := I.call hbb P6 f6
                have qr := cell_of gr
                go_wp2_with fail
                refine (given_any b s _ n1 i _ _ I.P hs (by omega)).mono ?_
                rintro e w7 ⟨rfl, P7, f7⟩
                replace G1 := blk_fr f7 G1 (by omega)
                replace G2 := blk_fr f7 G2 (by omega)
                replace I := I.call hbb P7 f7
                have hg1 := givF_ge (s := s) (to := (n1, i)) (i := i1 + 1) (bad := b1)
                have hg2 := givF_le (to := (n1, i)) (bad := b1) (show i1 + 1 ≤ s.size by omega)
                generalize (givF s (n1, i) (i1 + 1) b1).st = st at *
                generalize (givF s (n1, i) (i1 + 1) b1).i = i2 at *
                generalize (givF s (n1, i) (i1 + 1) b1).bad = b2 at *
                rw [show (stepCells st).toArray = #[.int .u8 st.op, .int .i64 st.to.1, .int .i64 st.to.2, .int .i64 st.a.1, .int .i64 st.a.2, .int .i64 st.b.1, .int .i64 st.b.2, .int .i64 st.n] from rfl]
                have q1 := cell_of G1
                have z1 := frozen_of G1
                have q2 := cell_of G2
                have z2 := frozen_of G2
                clear gr qr
                have hZ7 := I.Z
                have n3 : w.heap.size + 1 < w7.heap.size := by omega
                go_wp2_with (at_builtin; refine unstop ?_)
                refine stop ?_
                have IA := ((I).alloc (.cells #[.int .u8 st.op, .int .i64 st.to.1, .int .i64 st.to.2, .int .i64 st.a.1, .int .i64 st.a.2, .int .i64 st.b.1, .int .i64 st.b.2, .int .i64 st.n] 66)).alloc (.cells #[.int .u8 st.op, .int .i64 st.to.1, .int .i64 st.to.2, .int .i64 st.a.1, .int .i64 st.a.2, .int .i64 st.b.1, .int .i64 st.b.2, .int .i64 st.n] 66)
                have gB : ((w7.alloc (.cells #[.int .u8 st.op, .int .i64 st.to.1, .int .i64 st.to.2, .int .i64 st.a.1, .int .i64 st.a.2, .int .i64 st.b.1, .int .i64 st.b.2, .int .i64 st.n] 66)).alloc (.cells #[.int .u8 st.op, .int .i64 st.to.1, .int .i64 st.to.2, .int .i64 st.a.1, .int .i64 st.a.2, .int .i64 st.b.1, .int .i64 st.b.2, .int .i64 st.n] 66)).heap[w7.heap.size + 1]? = some (.cells #[.int .u8 st.op, .int .i64 st.to.1, .int .i64 st.to.2, .int .i64 st.a.1, .int .i64 st.a.2, .int .i64 st.b.1, .int .i64 st.b.2, .int .i64 st.n] 66 (0, 0)) := by simpa using heap_alloc_last (w7.alloc (.cells #[.int .u8 st.op, .int .i64 st.to.1, .int .i64 st.to.2, .int .i64 st.a.1, .int .i64 st.a.2, .int .i64 st.b.1, .int .i64 st.b.2, .int .i64 st.n] 66)) (.cells #[.int .u8 st.op, .int .i64 st.to.1, .int .i64 st.to.2, .int .i64 st.a.1, .int .i64 st.a.2, .int .i64 st.b.1, .int .i64 st.b.2, .int .i64 st.n] 66)
                have GA1 := blk_alloc (blk_alloc G1 (.cells #[.int .u8 st.op, .int .i64 st.to.1, .int .i64 st.to.2, .int .i64 st.a.1, .int .i64 st.a.2, .int .i64 st.b.1, .int .i64 st.b.2, .int .i64 st.n] 66)) (.cells #[.int .u8 st.op, .int .i64 st.to.1, .int .i64 st.to.2, .int .i64 st.a.1, .int .i64 st.a.2, .int .i64 st.b.1, .int .i64 st.b.2, .int .i64 st.n] 66)
                have GA2 := blk_alloc (blk_alloc G2 (.cells #[.int .u8 st.op, .int .i64 st.to.1, .int .i64 st.to.2, .int .i64 st.a.1, .int .i64 st.a.2, .int .i64 st.b.1, .int .i64 st.b.2, .int .i64 st.n] 66)) (.cells #[.int .u8 st.op, .int .i64 st.to.1, .int .i64 st.to.2, .int .i64 st.a.1, .int .i64 st.a.2, .int .i64 st.b.1, .int .i64 st.b.2, .int .i64 st.n] 66)
                refine app1 Tryz.underlying46 Tryz.info66 rfl (by decide) (by decide) rfl _ _ rfl rfl IA.S gB rfl rfl (List.all_eq_true.1 rfl) (by omega) IA.Z ?_
                intro v1 wS oS gS
                replace G1 := blk_grown gS GA1 (fun j hj => by have := (IA.S.lt j hj).1; omega)
                replace G2 := blk_grown gS GA2 (fun j hj => by have := (IA.S.lt j hj).1; omega)
                replace I := IA.grownS hbb (by omega) st oS gS
                clear IA gB GA1 GA2 gS q1 z1 q2 z2
                obtain ⟨p5, c5, rfl⟩ := owns_slice2 oS
                clear oS
                have q1 := cell_of G1
                have z1 := frozen_of G1
                have q2 := cell_of G2
                have z2 := frozen_of G2
                go_wp2_with fail
                replace G1 := blk_setOther (j := w.heap.size + 1) G1 (by omega) 1 (.slice p5 (sts.length + 1) c5)
                replace G2 : (World.setCell _ ⟨w.heap.size + 1, 1, none⟩ (.slice p5 (sts.length + 1) c5)).heap[w.heap.size + 1]? = some (.cells #[(.slice pc1 chs.length cc1), .slice p5 (sts.length + 1) c5, .int .u8 0, .int .i64 0, .int .i64 0, .int .i64 0, .int .i64 0, .int .i64 0, .int .i64 0, .int .i64 i0] 53 (0, 0)) := blk_set G2 1 (.slice p5 (sts.length + 1) c5)
                replace I := I.setk (w.heap.size + 1) 1 (.slice p5 (sts.length + 1) c5) (by omega) (by omega) (by omega)
                clear q1 z1 q2 z2
                refine (must_any b s _ 59 _ _ I.P hs hg2).mono ?_
                rintro e w8 ⟨rfl, P8, f8⟩
                replace G1 := blk_fr f8 G1 (by omega)
                replace G2 := blk_fr f8 G2 (by omega)
                replace I := I.call hbb P8 f8
                have hr3 := gotI_ge (s := s) (i := i2) (bad := b2) (c := 59)
                have hr4 := gotI_le (bad := b2) (c := 59) hg2
                go_wp2_with fail
                go_roundw
                case rel => exact ⟨k, chs, _, _, _, _, _, by omega, hr4, by omega, by simp; omega, HR2, G1, G2, I⟩
                case measure => rw [I.P.penI, HPI.out]; omega
              | false =>
                cases sts with
                | nil =>
                  have HR2 := stop (HR1.out.trans ((if_neg (by simp [h61])).trans (if_pos (by simp [h64]))))
                  have hl64 := (onF_lt h64).2.1
                  have hg64 : gotI s i1 b1 64 = i1 + 1 := by rw [gotI, if_pos h64]
                  have hg1 := choF_ge (s := s) (i := i1) (bad := b1)
                  rw [hg64] at hg1
                  have hg2 := choF_le (bad := b1) hr1
                  clear HR1 h64 hg64
                  have H61 := stop h61
                  clear h61
                  go_wp2_with fail
                  refine (got_no I.P hs hr1 H61.out).mono ?_
                  rintro e w6 ⟨rfl, P6, f6⟩
                  replace gr := blk_fr f6 gr (fun e => hkr e.symm)
                  replace G1 := blk_fr f6 G1 (by omega)
                  replace G2 := blk_fr f6 G2 (by omega)
                  replace I := I.call hbb P6 f6
                  have qr := cell_of gr
                  have q1 := cell_of G1
                  have z1 := frozen_of G1
                  have q2 := cell_of G2
                  have z2 := frozen_of G2
                  go_wp2_with fail
                  clear q1 z1 q2 z2
                  refine (choice_any b s _ n1 i _ _ I.P hs hr1).mono ?_
                  rintro e w7 ⟨vf, vr, rfl, O1, O2, P7, f7⟩
                  replace O1 := owns_base O1 I.Z
                  replace O2 := owns_base O2 I.Z
                  replace G1 := blk_fr f7 G1 (by omega)
                  replace G2 := blk_fr f7 G2 (by omega)
                  replace I := I.call hbb P7 f7
                  generalize (choF s i1 b1).gs = gs at *
                  generalize (choF s i1 b1).rs = rs at *
                  generalize (choF s i1 b1).i = i2 at *
                  generalize (choF s i1 b1).bad = b2 at *
                  obtain ⟨pf, mf, cf, rfl⟩ := owns_slice O1
                  obtain ⟨pr, mr, cr, rfl⟩ := owns_slice O2
                  clear gr qr
                  have q1 := cell_of G1
                  have z1 := frozen_of G1
                  have q2 := cell_of G2
                  have z2 := frozen_of G2
                  have hZ7 := I.Z
                  have n3 : w.heap.size + 1 < w7.heap.size := by omega
                  go_wp2_with (at_builtin; refine unstop ?_)
                  refine stop ?_
                  have IA := (I.alloc (.cells #[.int .i64 n1, .int .i64 i, .slice pf mf cf, .slice pr mr cr] 64)).alloc (.cells #[.int .i64 n1, .int .i64 i, .slice pf mf cf, .slice pr mr cr] 64)
                  have gB : ((w7.alloc (.cells #[.int .i64 n1, .int .i64 i, .slice pf mf cf, .slice pr mr cr] 64)).alloc (.cells #[.int .i64 n1, .int .i64 i, .slice pf mf cf, .slice pr mr cr] 64)).heap[w7.heap.size + 1]? = some (.cells #[.int .i64 n1, .int .i64 i, .slice pf mf cf, .slice pr mr cr] 64 (0, 0)) := by simpa using heap_alloc_last (w7.alloc (.cells #[.int .i64 n1, .int .i64 i, .slice pf mf cf, .slice pr mr cr] 64)) (.cells #[.int .i64 n1, .int .i64 i, .slice pf mf cf, .slice pr mr cr] 64)
                  have GA1 := blk_alloc (blk_alloc G1 (.cells #[.int .i64 n1, .int .i64 i, .slice pf mf cf, .slice pr mr cr] 64)) (.cells #[.int .i64 n1, .int .i64 i, .slice pf mf cf, .slice pr mr cr] 64)
                  have GA2 := blk_alloc (blk_alloc G2 (.cells #[.int .i64 n1, .int .i64 i, .slice pf mf cf, .slice pr mr cr] 64)) (.cells #[.int .i64 n1, .int .i64 i, .slice pf mf cf, .slice pr mr cr] 64)
                  replace O1 := (O1.alloc (.cells #[.int .i64 n1, .int .i64 i, .slice pf mf cf, .slice pr mr cr] 64)).alloc (.cells #[.int .i64 n1, .int .i64 i, .slice pf mf cf, .slice pr mr cr] 64)
                  replace O2 := (O2.alloc (.cells #[.int .i64 n1, .int .i64 i, .slice pf mf cf, .slice pr mr cr] 64)).alloc (.cells #[.int .i64 n1, .int .i64 i, .slice pf mf cf, .slice pr mr cr] 64)
                  obtain ⟨us, OC, hAll⟩ := IA.C
                  refine app1 Tryz.underlying45 Tryz.info64 rfl (by decide) (by decide) rfl _ _ rfl rfl OC gB rfl rfl (List.all_eq_true.1 rfl) (by omega) IA.Z ?_
                  intro v1 wS oS gS
                  replace G1 := blk_grown gS GA1 (fun j hj => by have := (OC.lt j hj).1; omega)
                  replace G2 := blk_grown gS GA2 (fun j hj => by have := (OC.lt j hj).1; omega)
                  replace I := IA.grownC hbb (by omega) ⟨(n1, i), gs, rs⟩ (.slice pf mf cf, .slice pr mr cr) O1 O2 OC hAll oS gS
                  clear IA gB GA1 GA2 gS q1 z1 q2 z2 OC hAll O1 O2
                  obtain ⟨p5, c5, rfl⟩ := owns_slice2 oS
                  clear oS
                  have q1 := cell_of G1
                  have z1 := frozen_of G1
                  have q2 := cell_of G2
                  have z2 := frozen_of G2
                  go_wp2_with fail
                  replace G1 := blk_setOther (j := w.heap.size + 1) G1 (by omega) 0 (.slice p5 (chs.length + 1) c5)
                  replace G2 : (World.setCell _ ⟨w.heap.size + 1, 0, none⟩ (.slice p5 (chs.length + 1) c5)).heap[w.heap.size + 1]? = some (.cells #[.slice p5 (chs.length + 1) c5, (.slice ps1 0 cs1), .int .u8 0, .int .i64 0, .int .i64 0, .int .i64 0, .int .i64 0, .int .i64 0, .int .i64 0, .int .i64 i0] 53 (0, 0)) := blk_set G2 0 (.slice p5 (chs.length + 1) c5)
                  replace I := I.setk (w.heap.size + 1) 0 (.slice p5 (chs.length + 1) c5) (by omega) (by omega) (by omega)
                  clear q1 z1 q2 z2
                  refine (must_any b s _ 59 _ _ I.P hs hg2).mono ?_
                  rintro e w8 ⟨rfl, P8, f8⟩
                  replace G1 := blk_fr f8 G1 (by omega)
                  replace G2 := blk_fr f8 G2 (by omega)
                  replace I := I.call hbb P8 f8
                  have hr3 := gotI_ge (s := s) (i := i2) (bad := b2) (c := 59)
                  have hr4 := gotI_le (bad := b2) (c := 59) hg2
                  go_wp2_with fail
                  go_roundw
                  case rel => exact ⟨k, _, [], _, _, _, _, by omega, hr4, by simp; omega, by simp, HR2, G1, G2, I⟩
                  case measure => rw [I.P.penI, HPI.out]; omega
                | cons t0 ts =>
                  have hne : (((t0 :: ts).length : Int) == 0) = false := by simp; omega
                  generalize hst : t0 :: ts = sts at *
                  have hse : sts.isEmpty = false := by rw [← hst]; rfl
                  clear hst
                  have HV := stop (HR1.out.trans ((if_neg (by simp [h61])).trans (if_neg (by simp [h64, hse]))))
                  clear HR1 h64
                  have H61 := stop h61
                  clear h61
                  go_wp2_with fail
                  refine (got_no I.P hs hr1 H61.out).mono ?_
                  rintro e w6 ⟨rfl, P6, f6⟩
                  replace gr := blk_fr f6 gr (fun e => hkr e.symm)
                  replace G1 := blk_fr f6 G1 (by omega)
                  replace G2 := blk_fr f6 G2 (by omega)
                  replace I := I.call hbb P6 f6
                  have qr := cell_of gr
                  have q1 := cell_of G1
                  have z1 := frozen_of G1
                  have q2 := cell_of G2
                  have z2 := frozen_of G2
                  go_wp2_with fail
                  clear q1 z1 q2 z2
                  refine (branch_any b s _ n1 i _ _ I.P hs hr1).mono ?_
                  rintro e w7 ⟨rfl, P7, f7⟩
                  replace G1 := blk_fr f7 G1 (by omega)
                  replace G2 := blk_fr f7 G2 (by omega)
                  replace I := I.call hbb P7 f7
                  generalize (braF s (n1, i) i1 b1).e = ee at *
                  generalize (braF s (n1, i) i1 b1).i = i2 at *
                  generalize (braF s (n1, i) i1 b1).bad = b2 at *
                  rw [show (endCells ee).toArray = #[.int .u8 ee.op, .int .i64 ee.a.1, .int .i64 ee.a.2, .int .i64 ee.one.1, .int .i64 ee.one.2, .int .i64 ee.two.1, .int .i64 ee.two.2] from rfl]
                  clear gr qr
                  have q1 := cell_of G1
                  have z1 := frozen_of G1
                  have q2 := cell_of G2
                  have z2 := frozen_of G2
                  go_wp2_with fail
                  replace G1 := blk_setOther (j := w.heap.size + 1) G1 (by omega) 2 (.int .u8 ee.op)
                  replace G2 : (World.setCell _ ⟨w.heap.size + 1, 2, none⟩ (.int .u8 ee.op)).heap[w.heap.size + 1]? = some (.cells #[(.slice pc1 chs.length cc1), (.slice ps1 sts.length cs1), .int .u8 ee.op, .int .i64 0, .int .i64 0, .int .i64 0, .int .i64 0, .int .i64 0, .int .i64 0, .int .i64 i0] 53 (0, 0)) := blk_set G2 2 (.int .u8 ee.op)
                  replace I := I.setk (w.heap.size + 1) 2 (.int .u8 ee.op) (by omega) (by omega) (by omega)
                  replace G1 := blk_setOther (j := w.heap.size + 1) G1 (by omega) 3 (.int .i64 ee.a.1)
                  replace G2 : (World.setCell _ ⟨w.heap.size + 1, 3, none⟩ (.int .i64 ee.a.1)).heap[w.heap.size + 1]? = some (.cells #[(.slice pc1 chs.length cc1), (.slice ps1 sts.length cs1), .int .u8 ee.op, .int .i64 ee.a.1, .int .i64 0, .int .i64 0, .int .i64 0, .int .i64 0, .int .i64 0, .int .i64 i0] 53 (0, 0)) := blk_set G2 3 (.int .i64 ee.a.1)
                  replace I := I.setk (w.heap.size + 1) 3 (.int .i64 ee.a.1) (by omega) (by omega) (by omega)
                  replace G1 := blk_setOther (j := w.heap.size + 1) G1 (by omega) 4 (.int .i64 ee.a.2)
                  replace G2 : (World.setCell _ ⟨w.heap.size + 1, 4, none⟩ (.int .i64 ee.a.2)).heap[w.heap.size + 1]? = some (.cells #[(.slice pc1 chs.length cc1), (.slice ps1 sts.length cs1), .int .u8 ee.op, .int .i64 ee.a.1, .int .i64 ee.a.2, .int .i64 0, .int .i64 0, .int .i64 0, .int .i64 0, .int .i64 i0] 53 (0, 0)) := blk_set G2 4 (.int .i64 ee.a.2)
                  replace I := I.setk (w.heap.size + 1) 4 (.int .i64 ee.a.2) (by omega) (by omega) (by omega)
                  replace G1 := blk_setOther (j := w.heap.size + 1) G1 (by omega) 5 (.int .i64 ee.one.1)
                  replace G2 : (World.setCell _ ⟨w.heap.size + 1, 5, none⟩ (.int .i64 ee.one.1)).heap[w.heap.size + 1]? = some (.cells #[(.slice pc1 chs.length cc1), (.slice ps1 sts.length cs1), .int .u8 ee.op, .int .i64 ee.a.1, .int .i64 ee.a.2, .int .i64 ee.one.1, .int .i64 0, .int .i64 0, .int .i64 0, .int .i64 i0] 53 (0, 0)) := blk_set G2 5 (.int .i64 ee.one.1)
                  replace I := I.setk (w.heap.size + 1) 5 (.int .i64 ee.one.1) (by omega) (by omega) (by omega)
                  replace G1 := blk_setOther (j := w.heap.size + 1) G1 (by omega) 6 (.int .i64 ee.one.2)
                  replace G2 : (World.setCell _ ⟨w.heap.size + 1, 6, none⟩ (.int .i64 ee.one.2)).heap[w.heap.size + 1]? = some (.cells #[(.slice pc1 chs.length cc1), (.slice ps1 sts.length cs1), .int .u8 ee.op, .int .i64 ee.a.1, .int .i64 ee.a.2, .int .i64 ee.one.1, .int .i64 ee.one.2, .int .i64 0, .int .i64 0, .int .i64 i0] 53 (0, 0)) := blk_set G2 6 (.int .i64 ee.one.2)
                  replace I := I.setk (w.heap.size + 1) 6 (.int .i64 ee.one.2) (by omega) (by omega) (by omega)
                  replace G1 := blk_setOther (j := w.heap.size + 1) G1 (by omega) 7 (.int .i64 ee.two.1)
                  replace G2 : (World.setCell _ ⟨w.heap.size + 1, 7, none⟩ (.int .i64 ee.two.1)).heap[w.heap.size + 1]? = some (.cells #[(.slice pc1 chs.length cc1), (.slice ps1 sts.length cs1), .int .u8 ee.op, .int .i64 ee.a.1, .int .i64 ee.a.2, .int .i64 ee.one.1, .int .i64 ee.one.2, .int .i64 ee.two.1, .int .i64 0, .int .i64 i0] 53 (0, 0)) := blk_set G2 7 (.int .i64 ee.two.1)
                  replace I := I.setk (w.heap.size + 1) 7 (.int .i64 ee.two.1) (by omega) (by omega) (by omega)
                  replace G1 := blk_setOther (j := w.heap.size + 1) G1 (by omega) 8 (.int .i64 ee.two.2)
                  replace G2 : (World.setCell _ ⟨w.heap.size + 1, 8, none⟩ (.int .i64 ee.two.2)).heap[w.heap.size + 1]? = some (.cells #[(.slice pc1 chs.length cc1), (.slice ps1 sts.length cs1), .int .u8 ee.op, .int .i64 ee.a.1, .int .i64 ee.a.2, .int .i64 ee.one.1, .int .i64 ee.one.2, .int .i64 ee.two.1, .int .i64 ee.two.2, .int .i64 i0] 53 (0, 0)) := blk_set G2 8 (.int .i64 ee.two.2)
                  replace I := I.setk (w.heap.size + 1) 8 (.int .i64 ee.two.2) (by omega) (by omega) (by omega)
                  have I2 := ((((((((((I).setk w.heap.size 0 ((.slice pc1 chs.length cc1)) (by omega) (by omega) (by omega)).setk w.heap.size 1 ((.slice ps1 sts.length cs1)) (by omega) (by omega) (by omega)).setk w.heap.size 2 (.int .u8 ee.op) (by omega) (by omega) (by omega)).setk w.heap.size 3 (.int .i64 ee.a.1) (by omega) (by omega) (by omega)).setk w.heap.size 4 (.int .i64 ee.a.2) (by omega) (by omega) (by omega)).setk w.heap.size 5 (.int .i64 ee.one.1) (by omega) (by omega) (by omega)).setk w.heap.size 6 (.int .i64 ee.one.2) (by omega) (by omega) (by omega)).setk w.heap.size 7 (.int .i64 ee.two.1) (by omega) (by omega) (by omega)).setk w.heap.size 8 (.int .i64 ee.two.2) (by omega) (by omega) (by omega)).setk w.heap.size 9 (.int .i64 i0) (by omega) (by omega) (by omega)
                  refine bodyPost_ret (v := .agg #[(.slice pc1 chs.length cc1), (.slice ps1 sts.length cs1), .int .u8 ee.op, .int .i64 ee.a.1, .int .i64 ee.a.2, .int .i64 ee.one.1, .int .i64 ee.one.2, .int .i64 ee.two.1, .int .i64 ee.two.2, .int .i64 i0]) (by simp [results, Tryz.results48, go_sem, q1]) rfl ?_
                  rw [HV.out]
                  exact ⟨_, _, rfl, I2.C.base (by omega), owns_base I2.S (by omega), I2.P, I2.F⟩
            | false =>
              refine (on_is I.P h64).mono ?_
              rintro e w5 ⟨rfl, P5, f5⟩
              replace gr := blk_fr f5 gr (fun e => hkr e.symm)
              replace G1 := blk_fr f5 G1 (by omega)
              replace G2 := blk_fr f5 G2 (by omega)
              replace I := I.call hbb P5 f5
              cases h61 : onF s i1 b1 61 with
              | true =>
                have HR2 := stop (HR1.out.trans (if_pos h61))
                have hl61 := (onF_lt h61).2.1
                have H61 := stop h61
                clear HR1 h61 h64
                go_wp2_with fail
                refine (got_yes I.P hs hr1 H61.out).mono ?_
                rintro e w6 ⟨rfl, P6, f6⟩
                replace gr := blk_fr f6 gr (fun e => hkr e.symm)
                replace G1 := blk_fr f6 G1 (by omega)
                replace G2 := blk_fr f6 G2 (by omega)
                replace I := I.call hbb P6 f6
                have qr := cell_of gr
                go_wp2_with fail
                refine (given_any b s _ n1 i _ _ I.P hs (by omega)).mono ?_
                rintro e w7 ⟨rfl, P7, f7⟩
                replace G1 := blk_fr f7 G1 (by omega)
                replace G2 := blk_fr f7 G2 (by omega)
                replace I := I.call hbb P7 f7
                have hg1 := givF_ge (s := s) (to := (n1, i)) (i := i1 + 1) (bad := b1)
                have hg2 := givF_le (to := (n1, i)) (bad := b1) (show i1 + 1 ≤ s.size by omega)
                generalize (givF s (n1, i) (i1 + 1) b1).st = st at *
                generalize (givF s (n1, i) (i1 + 1) b1).i = i2 at *
                generalize (givF s (n1, i) (i1 + 1) b1).bad = b2 at *
                rw [show (stepCells st).toArray = #[.int .u8 st.op, .int .i64 st.to.1, .int .i64 st.to.2, .int .i64 st.a.1, .int .i64 st.a.2, .int .i64 st.b.1, .int .i64 st.b.2, .int .i64 st.n] from rfl]
                have q1 := cell_of G1
                have z1 := frozen_of G1
                have q2 := cell_of G2
                have z2 := frozen_of G2
                clear gr qr
                have hZ7 := I.Z
                have n3 : w.heap.size + 1 < w7.heap.size := by omega
                go_wp2_with (at_builtin; refine unstop ?_)
                refine stop ?_
                have IA := ((I).alloc (.cells #[.int .u8 st.op, .int .i64 st.to.1, .int .i64 st.to.2, .int .i64 st.a.1, .int .i64 st.a.2, .int .i64 st.b.1, .int .i64 st.b.2, .int .i64 st.n] 66)).alloc (.cells #[.int .u8 st.op, .int .i64 st.to.1, .int .i64 st.to.2, .int .i64 st.a.1, .int .i64 st.a.2, .int .i64 st.b.1, .int .i64 st.b.2, .int .i64 st.n] 66)
                have gB : ((w7.alloc (.cells #[.int .u8 st.op, .int .i64 st.to.1, .int .i64 st.to.2, .int .i64 st.a.1, .int .i64 st.a.2, .int .i64 st.b.1, .int .i64 st.b.2, .int .i64 st.n] 66)).alloc (.cells #[.int .u8 st.op, .int .i64 st.to.1, .int .i64 st.to.2, .int .i64 st.a.1, .int .i64 st.a.2, .int .i64 st.b.1, .int .i64 st.b.2, .int .i64 st.n] 66)).heap[w7.heap.size + 1]? = some (.cells #[.int .u8 st.op, .int .i64 st.to.1, .int .i64 st.to.2, .int .i64 st.a.1, .int .i64 st.a.2, .int .i64 st.b.1, .int .i64 st.b.2, .int .i64 st.n] 66 (0, 0)) := by simpa using heap_alloc_last (w7.alloc (.cells #[.int .u8 st.op, .int .i64 st.to.1, .int .i64 st.to.2, .int .i64 st.a.1, .int .i64 st.a.2, .int .i64 st.b.1, .int .i64 st.b.2, .int .i64 st.n] 66)) (.cells #[.int .u8 st.op, .int .i64 st.to.1, .int .i64 st.to.2, .int .i64 st.a.1, .int .i64 st.a.2, .int .i64 st.b.1, .int .i64 st.b.2, .int .i64 st.n] 66)
                have GA1 := blk_alloc (blk_alloc G1 (.cells #[.int .u8 st.op, .int .i64 st.to.1, .int .i64 st.to.2, .int .i64 st.a.1, .int .i64 st.a.2, .int .i64 st.b.1, .int .i64 st.b.2, .int .i64 st.n] 66)) (.cells #[.int .u8 st.op, .int .i64 st.to.1, .int .i64 st.to.2, .int .i64 st.a.1, .int .i64 st.a.2, .int .i64 st.b.1, .int .i64 st.b.2, .int .i64 st.n] 66)
                have GA2 := blk_alloc (blk_alloc G2 (.cells #[.int .u8 st.op, .int .i64 st.to.1, .int .i64 st.to.2, .int .i64 st.a.1, .int .i64 st.a.2, .int .i64 st.b.1, .int .i64 st.b.2, .int .i64 st.n] 66)) (.cells #[.int .u8 st.op, .int .i64 st.to.1, .int .i64 st.to.2, .int .i64 st.a.1, .int .i64 st.a.2, .int .i64 st.b.1, .int .i64 st.b.2, .int .i64 st.n] 66)
                refine app1 Tryz.underlying46 Tryz.info66 rfl (by decide) (by decide) rfl _ _ rfl rfl IA.S gB rfl rfl (List.all_eq_true.1 rfl) (by omega) IA.Z ?_
                intro v1 wS oS gS
                replace G1 := blk_grown gS GA1 (fun j hj => by have := (IA.S.lt j hj).1; omega)
                replace G2 := blk_grown gS GA2 (fun j hj => by have := (IA.S.lt j hj).1; omega)
                replace I := IA.grownS hbb (by omega) st oS gS
                clear IA gB GA1 GA2 gS q1 z1 q2 z2
                obtain ⟨p5, c5, rfl⟩ := owns_slice2 oS
                clear oS
                have q1 := cell_of G1
                have z1 := frozen_of G1
                have q2 := cell_of G2
                have z2 := frozen_of G2
                go_wp2_with fail
                replace G1 := blk_setOther (j := w.heap.size + 1) G1 (by omega) 1 (.slice p5 (sts.length + 1) c5)
                replace G2 : (World.setCell _ ⟨w.heap.size + 1, 1, none⟩ (.slice p5 (sts.length + 1) c5)).heap[w.heap.size + 1]? = some (.cells #[(.slice pc1 chs.length cc1), .slice p5 (sts.length + 1) c5, .int .u8 0, .int .i64 0, .int .i64 0, .int .i64 0, .int .i64 0, .int .i64 0, .int .i64 0, .int .i64 i0] 53 (0, 0)) := blk_set G2 1 (.slice p5 (sts.length + 1) c5)
                replace I := I.setk (w.heap.size + 1) 1 (.slice p5 (sts.length + 1) c5) (by omega) (by omega) (by omega)
                clear q1 z1 q2 z2
                refine (must_any b s _ 59 _ _ I.P hs hg2).mono ?_
                rintro e w8 ⟨rfl, P8, f8⟩
                replace G1 := blk_fr f8 G1 (by omega)
                replace G2 := blk_fr f8 G2 (by omega)
                replace I := I.call hbb P8 f8
                have hr3 := gotI_ge (s := s) (i := i2) (bad := b2) (c := 59)
                have hr4 := gotI_le (bad := b2) (c := 59) hg2
                go_wp2_with fail
                go_roundw
                case rel => exact ⟨k, chs, _, _, _, _, _, by omega, hr4, by omega, by simp; omega, HR2, G1, G2, I⟩
                case measure => rw [I.P.penI, HPI.out]; omega
              | false =>
                have HV := stop (HR1.out.trans ((if_neg (by simp [h61])).trans (if_neg (by simp [h64]))))
                clear HR1 h64
                have H61 := stop h61
                clear h61
                go_wp2_with fail
                refine (got_no I.P hs hr1 H61.out).mono ?_
                rintro e w6 ⟨rfl, P6, f6⟩
                replace gr := blk_fr f6 gr (fun e => hkr e.symm)
                replace G1 := blk_fr f6 G1 (by omega)
                replace G2 := blk_fr f6 G2 (by omega)
                replace I := I.call hbb P6 f6
                have qr := cell_of gr
                have q1 := cell_of G1
                have z1 := frozen_of G1
                have q2 := cell_of G2
                have z2 := frozen_of G2
                go_wp2_with fail
                clear q1 z1 q2 z2
                refine (branch_any b s _ n1 i _ _ I.P hs hr1).mono ?_
                rintro e w7 ⟨rfl, P7, f7⟩
                replace G1 := blk_fr f7 G1 (by omega)
                replace G2 := blk_fr f7 G2 (by omega)
                replace I := I.call hbb P7 f7
                generalize (braF s (n1, i) i1 b1).e = ee at *
                generalize (braF s (n1, i) i1 b1).i = i2 at *
                generalize (braF s (n1, i) i1 b1).bad = b2 at *
                rw [show (endCells ee).toArray = #[.int .u8 ee.op, .int .i64 ee.a.1, .int .i64 ee.a.2, .int .i64 ee.one.1, .int .i64 ee.one.2, .int .i64 ee.two.1, .int .i64 ee.two.2] from rfl]
                clear gr qr
                have q1 := cell_of G1
                have z1 := frozen_of G1
                have q2 := cell_of G2
                have z2 := frozen_of G2
                go_wp2_with fail
                replace G1 := blk_setOther (j := w.heap.size + 1) G1 (by omega) 2 (.int .u8 ee.op)
                replace G2 : (World.setCell _ ⟨w.heap.size + 1, 2, none⟩ (.int .u8 ee.op)).heap[w.heap.size + 1]? = some (.cells #[(.slice pc1 chs.length cc1), (.slice ps1 sts.length cs1), .int .u8 ee.op, .int .i64 0, .int .i64 0, .int .i64 0, .int .i64 0, .int .i64 0, .int .i64 0, .int .i64 i0] 53 (0, 0)) := blk_set G2 2 (.int .u8 ee.op)
                replace I := I.setk (w.heap.size + 1) 2 (.int .u8 ee.op) (by omega) (by omega) (by omega)
                replace G1 := blk_setOther (j := w.heap.size + 1) G1 (by omega) 3 (.int .i64 ee.a.1)
                replace G2 : (World.setCell _ ⟨w.heap.size + 1, 3, none⟩ (.int .i64 ee.a.1)).heap[w.heap.size + 1]? = some (.cells #[(.slice pc1 chs.length cc1), (.slice ps1 sts.length cs1), .int .u8 ee.op, .int .i64 ee.a.1, .int .i64 0, .int .i64 0, .int .i64 0, .int .i64 0, .int .i64 0, .int .i64 i0] 53 (0, 0)) := blk_set G2 3 (.int .i64 ee.a.1)
                replace I := I.setk (w.heap.size + 1) 3 (.int .i64 ee.a.1) (by omega) (by omega) (by omega)
                replace G1 := blk_setOther (j := w.heap.size + 1) G1 (by omega) 4 (.int .i64 ee.a.2)
                replace G2 : (World.setCell _ ⟨w.heap.size + 1, 4, none⟩ (.int .i64 ee.a.2)).heap[w.heap.size + 1]? = some (.cells #[(.slice pc1 chs.length cc1), (.slice ps1 sts.length cs1), .int .u8 ee.op, .int .i64 ee.a.1, .int .i64 ee.a.2, .int .i64 0, .int .i64 0, .int .i64 0, .int .i64 0, .int .i64 i0] 53 (0, 0)) := blk_set G2 4 (.int .i64 ee.a.2)
                replace I := I.setk (w.heap.size + 1) 4 (.int .i64 ee.a.2) (by omega) (by omega) (by omega)
                replace G1 := blk_setOther (j := w.heap.size + 1) G1 (by omega) 5 (.int .i64 ee.one.1)
                replace G2 : (World.setCell _ ⟨w.heap.size + 1, 5, none⟩ (.int .i64 ee.one.1)).heap[w.heap.size + 1]? = some (.cells #[(.slice pc1 chs.length cc1), (.slice ps1 sts.length cs1), .int .u8 ee.op, .int .i64 ee.a.1, .int .i64 ee.a.2, .int .i64 ee.one.1, .int .i64 0, .int .i64 0, .int .i64 0, .int .i64 i0] 53 (0, 0)) := blk_set G2 5 (.int .i64 ee.one.1)
                replace I := I.setk (w.heap.size + 1) 5 (.int .i64 ee.one.1) (by omega) (by omega) (by omega)
                replace G1 := blk_setOther (j := w.heap.size + 1) G1 (by omega) 6 (.int .i64 ee.one.2)
                replace G2 : (World.setCell _ ⟨w.heap.size + 1, 6, none⟩ (.int .i64 ee.one.2)).heap[w.heap.size + 1]? = some (.cells #[(.slice pc1 chs.length cc1), (.slice ps1 sts.length cs1), .int .u8 ee.op, .int .i64 ee.a.1, .int .i64 ee.a.2, .int .i64 ee.one.1, .int .i64 ee.one.2, .int .i64 0, .int .i64 0, .int .i64 i0] 53 (0, 0)) := blk_set G2 6 (.int .i64 ee.one.2)
                replace I := I.setk (w.heap.size + 1) 6 (.int .i64 ee.one.2) (by omega) (by omega) (by omega)
                replace G1 := blk_setOther (j := w.heap.size + 1) G1 (by omega) 7 (.int .i64 ee.two.1)
                replace G2 : (World.setCell _ ⟨w.heap.size + 1, 7, none⟩ (.int .i64 ee.two.1)).heap[w.heap.size + 1]? = some (.cells #[(.slice pc1 chs.length cc1), (.slice ps1 sts.length cs1), .int .u8 ee.op, .int .i64 ee.a.1, .int .i64 ee.a.2, .int .i64 ee.one.1, .int .i64 ee.one.2, .int .i64 ee.two.1, .int .i64 0, .int .i64 i0] 53 (0, 0)) := blk_set G2 7 (.int .i64 ee.two.1)
                replace I := I.setk (w.heap.size + 1) 7 (.int .i64 ee.two.1) (by omega) (by omega) (by omega)
                replace G1 := blk_setOther (j := w.heap.size + 1) G1 (by omega) 8 (.int .i64 ee.two.2)
                replace G2 : (World.setCell _ ⟨w.heap.size + 1, 8, none⟩ (.int .i64 ee.two.2)).heap[w.heap.size + 1]? = some (.cells #[(.slice pc1 chs.length cc1), (.slice ps1 sts.length cs1), .int .u8 ee.op, .int .i64 ee.a.1, .int .i64 ee.a.2, .int .i64 ee.one.1, .int .i64 ee.one.2, .int .i64 ee.two.1, .int .i64 ee.two.2, .int .i64 i0] 53 (0, 0)) := blk_set G2 8 (.int .i64 ee.two.2)
                replace I := I.setk (w.heap.size + 1) 8 (.int .i64 ee.two.2) (by omega) (by omega) (by omega)
                have I2 := ((((((((((I).setk w.heap.size 0 ((.slice pc1 chs.length cc1)) (by omega) (by omega) (by omega)).setk w.heap.size 1 ((.slice ps1 sts.length cs1)) (by omega) (by omega) (by omega)).setk w.heap.size 2 (.int .u8 ee.op) (by omega) (by omega) (by omega)).setk w.heap.size 3 (.int .i64 ee.a.1) (by omega) (by omega) (by omega)).setk w.heap.size 4 (.int .i64 ee.a.2) (by omega) (by omega) (by omega)).setk w.heap.size 5 (.int .i64 ee.one.1) (by omega) (by omega) (by omega)).setk w.heap.size 6 (.int .i64 ee.one.2) (by omega) (by omega) (by omega)).setk w.heap.size 7 (.int .i64 ee.two.1) (by omega) (by omega) (by omega)).setk w.heap.size 8 (.int .i64 ee.two.2) (by omega) (by omega) (by omega)).setk w.heap.size 9 (.int .i64 i0) (by omega) (by omega) (by omega)
                refine bodyPost_ret (v := .agg #[(.slice pc1 chs.length cc1), (.slice ps1 sts.length cs1), .int .u8 ee.op, .int .i64 ee.a.1, .int .i64 ee.a.2, .int .i64 ee.one.1, .int .i64 ee.one.2, .int .i64 ee.two.1, .int .i64 ee.two.2, .int .i64 i0]) (by simp [results, Tryz.results48, go_sem, q1]) rfl ?_
                rw [HV.out]
                exact ⟨_, _, rfl, I2.C.base (by omega), owns_base I2.S (by omega), I2.P, I2.F⟩
    · have HV : Hid (blkF s i0 bad0 = ⟨⟨chs, sts, noEnd, i0⟩, i, bad⟩) := HR.out.trans (by rw [blkGo, if_neg hb])
      clear HR
      have q1 := cell_of G1
      have z1 := frozen_of G1
      have q2 := cell_of G2
      have z2 := frozen_of G2
      go_wp2_with fail
      have I2 := ((((((((((I).setk w.heap.size 0 ((.slice pc1 chs.length cc1)) (by omega) (by omega) (by omega)).setk w.heap.size 1 ((.slice ps1 sts.length cs1)) (by omega) (by omega) (by omega)).setk w.heap.size 2 (.int .u8 0) (by omega) (by omega) (by omega)).setk w.heap.size 3 (.int .i64 0) (by omega) (by omega) (by omega)).setk w.heap.size 4 (.int .i64 0) (by omega) (by omega) (by omega)).setk w.heap.size 5 (.int .i64 0) (by omega) (by omega) (by omega)).setk w.heap.size 6 (.int .i64 0) (by omega) (by omega) (by omega)).setk w.heap.size 7 (.int .i64 0) (by omega) (by omega) (by omega)).setk w.heap.size 8 (.int .i64 0) (by omega) (by omega) (by omega)).setk w.heap.size 9 (.int .i64 i0) (by omega) (by omega) (by omega)
      refine bodyPost_ret (v := .agg #[(.slice pc1 chs.length cc1), (.slice ps1 sts.length cs1), .int .u8 0, .int .i64 0, .int .i64 0, .int .i64 0, .int .i64 0, .int .i64 0, .int .i64 0, .int .i64 i0]) (by simp [results, Tryz.results48, go_sem, q1]) rfl ?_
      rw [HV.out]
      exact ⟨_, _, rfl, I2.C.base (by omega), owns_base I2.S (by omega), I2.P, I2.F⟩
end Go.Proofs.YtgfhfkgdmidhpaaGreatDoor
