import Derived.Test.YtgfhfkgdmidhpaaGreatDoorG08
namespace Go.Proofs.YtgfhfkgdmidhpaaGreatDoor
open Go.RowKit

theorem blk_reg {s i0 k chs sts i} (h46 : onF s i (-1) 46 = false) (h62 : onF s i (-1) 62 = false) (h33 : onF s i (-1) 33 = false) :
    blkGo s i0 (k + 1) chs sts i (-1) = if onF s (regI s i (-1)) (regB s i (-1)) 61 then blkGo s i0 k chs (sts ++ [(givF s (regN s i (-1), i) (regI s i (-1) + 1) (regB s i (-1))).st]) (gotI s (givF s (regN s i (-1), i) (regI s i (-1) + 1) (regB s i (-1))).i (givF s (regN s i (-1), i) (regI s i (-1) + 1) (regB s i (-1))).bad 59) (mustB s (givF s (regN s i (-1), i) (regI s i (-1) + 1) (regB s i (-1))).i (givF s (regN s i (-1), i) (regI s i (-1) + 1) (regB s i (-1))).bad 59)
      else if onF s (regI s i (-1)) (regB s i (-1)) 64 && sts.isEmpty then blkGo s i0 k (chs ++ [⟨(regN s i (-1), i), (choF s (regI s i (-1)) (regB s i (-1))).gs, (choF s (regI s i (-1)) (regB s i (-1))).rs⟩]) sts (gotI s (choF s (regI s i (-1)) (regB s i (-1))).i (choF s (regI s i (-1)) (regB s i (-1))).bad 59) (mustB s (choF s (regI s i (-1)) (regB s i (-1))).i (choF s (regI s i (-1)) (regB s i (-1))).bad 59)
      else ⟨⟨chs, sts, (braF s (regN s i (-1), i) (regI s i (-1)) (regB s i (-1))).e, i0⟩, (braF s (regN s i (-1), i) (regI s i (-1)) (regB s i (-1))).i, (braF s (regN s i (-1), i) (regI s i (-1)) (regB s i (-1))).bad⟩ := by
  rw [blkGo, if_pos (by decide), if_neg (by simp [h46]), if_neg (by simp [h62]), if_neg (by simp [h33])]

section
variable {b g : Nat} {s : ByteArray} {w0 : World} {i0 : Nat} {chs : List RCho} {sts : List RStep} {vc vs ev : Value} {i : Nat}
theorem BP.newS {w' : World} (h : w'.heap[w0.heap.size]? = some (.cells #[.int .i64 0, .slice none 0 0, .slice none 0 0, .nilIface] 104 (0, 0)) ∧ w'.heap[w0.heap.size + 1]? = some (.cells #[.int .i64 i0, vc, vs, ev] 104 (0, 0)) ∧ PChs w' (w0.heap.size + 2) chs vc ∧ RS w' b g s i ∧ Fr b w0 w' ∧ w0.heap.size + 2 ≤ w'.heap.size) (hb : b < w0.heap.size) (hg : g < w0.heap.size)
    {sts' : List RStep} {vs' : Value} (o : w'.ownsRow (w0.heap.size + 2) 150 1 vs' sts'.length (sts'.map stVal)) : BP b g s w0 i0 chs sts' vc vs' ev i (w'.setCell ⟨w0.heap.size + 1, 2, none⟩ vs') := by
  obtain ⟨h1, h2, h3, h4, h5, h6⟩ := h
  exact ⟨blk_setOther h1 (by omega) _ _, blk_set h2 2 vs', h3.keeps (Keeps.setk T4 w' _ 2 _ (by omega)) (by simp [T4]) (by simp [T4]), owns_setk o _ 2 _ (by omega), h4.setk _ 2 _ (by omega) (by omega), h5.setk _ 2 _ (by omega), by rw [size_set]; exact h6⟩
theorem BP.newC {w' : World} (h : w'.heap[w0.heap.size]? = some (.cells #[.int .i64 0, .slice none 0 0, .slice none 0 0, .nilIface] 104 (0, 0)) ∧ w'.heap[w0.heap.size + 1]? = some (.cells #[.int .i64 i0, vc, vs, ev] 104 (0, 0)) ∧ w'.ownsRow (w0.heap.size + 2) 150 1 vs sts.length (sts.map stVal) ∧ RS w' b g s i ∧ Fr b w0 w' ∧ w0.heap.size + 2 ≤ w'.heap.size) (hb : b < w0.heap.size) (hg : g < w0.heap.size)
    {chs' : List RCho} {vc' : Value} (o : PChs w' (w0.heap.size + 2) chs' vc') : BP b g s w0 i0 chs' sts vc' vs ev i (w'.setCell ⟨w0.heap.size + 1, 1, none⟩ vc') := by
  obtain ⟨h1, h2, h3, h4, h5, h6⟩ := h
  exact ⟨blk_setOther h1 (by omega) _ _, blk_set h2 1 vc', o.keeps (Keeps.setk T4 w' _ 1 _ (by omega)) (by simp [T4]) (by simp [T4]), owns_setk h3 _ 1 _ (by omega), h4.setk _ 1 _ (by omega) (by omega), h5.setk _ 1 _ (by omega), by rw [size_set]; exact h6⟩
end

set_option maxRecDepth 100000 in
set_option maxHeartbeats 8000000 in
theorem fromReg_any {b g : Nat} {s : ByteArray} {w0 : World} {i0 k i : Nat} {chs : List RCho} {sts : List RStep} {vc vs : Value} {w : World} (R : Blk)
    (I : BP b g s w0 i0 chs sts vc vs .nilIface i w) (hb : b < w0.heap.size) (hg : g < w0.heap.size) (hs : s.size ≤ 200000) (hcl : chs.length ≤ i) (hsl : sts.length ≤ i)
    (HR : Hid (R = blkGo s i0 (k + 1) chs sts i (-1))) (H46 : Hid (onF s i (-1) 46 = false)) (H62 : Hid (onF s i (-1) 62 = false)) (H33 : Hid (onF s i (-1) 33 = false)) :
    Calls Tryz.prog 200 #[.pointer (some ⟨b,0,none⟩), .pointer (some ⟨w0.heap.size + 1, 0, none⟩)] w fun e w' => FrPost b g s w0 i0 k i R e w' := by
  have HE := stop (HR.out.trans (blk_reg H46.out H62.out H33.out))
  have hi := I.P.le
  obtain ⟨pc1, cc1, rfl⟩ := I.C.slice
  obtain ⟨ps1, cs1, rfl⟩ := owns_slice2 I.S
  clear HR H46 H62 H33
  go_enter Tryz.func200, Tryz.ntmps200
  go_wp2_with fail
  rcases Int.lt_or_le (regB s i (-1)) 0 with h1 | h1
  · have e1 := (regOk h1).2.2.1
    have H1 := stop h1
    have HE2 := HE.out
    rw [e1] at HE2
    have HE3 := stop HE2
    clear h1 HE e1 HE2
    refine (reg_yes I.P hs H1.out).mono ?_
    rintro e w1 ⟨rfl, P1, f1⟩
    replace I := I.call hb P1 f1
    have hZ1 := I.Z
    have hi1 := P1.le
    have hi1g := regI_ge (s := s) (i := i) (bad := -1)
    have hi1s : i < regI s i (-1) := by
      have := (regOk H1.out)
      rw [this.2.2.2.2]
      exact Nat.lt_of_lt_of_le (Nat.lt_succ_self i) numI_ge
    generalize regI s i (-1) = i1 at *
    generalize regN s i (-1) = n1 at *
    have kr := heap_alloc_last w1 (.cells #[.int .i64 n1, .int .i64 i] 132)
    replace I := I.alloc (.cells #[.int .i64 n1, .int .i64 i] 132)
    have kne : w1.heap.size ≠ b := by have := I.P.lt; omega
    have bne : w0.heap.size + 1 ≠ b := by omega
    go_wp2_with fail
    cases h63 : onF s i1 (-1) 63 with
    | true =>
      have HE4 := HE3.out
      rw [if_neg (by simp [on_uniq h63 (show 63 ≠ 61 by decide)]), if_neg (by simp [on_uniq h63 (show 63 ≠ 64 by decide)]), braF_yes h63] at HE4
      have HE5 := stop HE4
      have H63 := stop h63
      clear h63 HE4 HE3
      refine (skip_yes (c := 63) I.P hs (by decide) H63.out).mono ?_
      rintro e w2 ⟨rfl, P2, f2⟩
      replace I := I.call hb P2 f2
      replace kr := blk_fr f2 kr (by omega)
      have qr := cell_of kr
      clear f2 P2
      go_wp2_with fail
      refine (fork_any I.P hs).mono ?_
      rintro e w3 (⟨rfl, hr, P3, f3⟩ | ⟨rfl, hr, f3⟩)
      · replace I := I.call hb P3 f3
        have q2 := cell_of I.G2
        have z2 := frozen_of I.G2
        have HRB := stop hr
        have hev : ∃ T x, endVal (braT s (n1, i) (i1 + 1)).e = .iface T x := ⟨_, _, rfl⟩
        obtain ⟨T, x, hev⟩ := hev
        have HEV := stop hev
        rw [hev]
        clear hr hev
        go_wp2_with fail
        go_end0
        refine .inl ⟨rfl, chs, sts, .slice pc1 chs.length cc1, .slice ps1 sts.length cs1, (braT s (n1, i) (i1 + 1)).e, (braT s (n1, i) (i1 + 1)).i, ?_, rfl, ?_⟩
        · rw [HE5.out, HRB.out]
        · rw [HEV.out]; exact I.setE hb hg _
      · go_wp2_with fail
        refine ⟨rfl, .inr (.inr ⟨?_, ?_, I.F.trans f3⟩)⟩
        · rw [HE5.out]
        · rw [HE5.out]; exact hr
    | false =>
      have H63 := stop h63
      refine (skip_no (c := 63) I.P (by decide) H63.out).mono ?_
      rintro e w2 ⟨rfl, P2, f2⟩
      replace I := I.call hb P2 f2
      replace kr := blk_fr f2 kr (by omega)
      clear f2 P2
      go_wp2_with fail
      cases h61 : onF s i1 (-1) 61 with
      | true =>
        have HE4 := HE3.out
        rw [if_pos h61] at HE4
        have HE5 := stop HE4
        have H61 := stop h61
        have hl61 := (onF_lt h61).2.1
        clear h61 h63 HE4 HE3 H63
        refine (skip_yes (c := 61) I.P hs (by decide) H61.out).mono ?_
        rintro e w3 ⟨rfl, P3, f3⟩
        replace I := I.call hb P3 f3
        replace kr := blk_fr f3 kr (by omega)
        clear f3 P3
        have a0 := cell_of kr 0
        have a1 := cell_of kr 1
        have b2 := cell_of I.G2 2
        have b2z := frozen_of I.G2 2
        simp at a0 a1 b2
        have kl := lt_of_block kr
        have bl := lt_of_block I.G2
        have FIN : Hid (∀ w5, Fr b w3.drew w5 → 0 ≤ mustB s (givF s (n1, i) (i1 + 1) (-1)).i (givF s (n1, i) (i1 + 1) (-1)).bad 59 → FrPost b g s w0 i0 k i R (.panicked (brk (mustB s (givF s (n1, i) (i1 + 1) (-1)).i (givF s (n1, i) (i1 + 1) (-1)).bad 59))) w5) := fun w5 f5 h0 => by
          have hB : R.bad = mustB s (givF s (n1, i) (i1 + 1) (-1)).i (givF s (n1, i) (i1 + 1) (-1)).bad 59 := by rw [HE5.out]; exact st_blk _ h0
          exact .inr (.inr ⟨by rw [hB], by rw [hB]; exact h0, I.F.drew.trans f5⟩)
        obtain ⟨T, x, hst⟩ := stVal_iface (givF s (n1, i) (i1 + 1) (-1)).st
        have HSV := stop hst
        clear hst
        go_wp2_with fail
        go_region_law (first | (refine stepC rfl 220 #[.pointer (some ⟨b, 0, none⟩), .agg #[.int .i64 n1, .int .i64 i]] (by go_simp) (giving_any (RS.drew I.P) hs) ?_; rintro e w5 (⟨rfl, hgb, P5, f5⟩ | ⟨rfl, hgb, f5⟩); rw [HSV.out]; have HGB := stop hgb; clear hgb; have c0 := f5.cells (k := w1.heap.size) kl kne 0; have c1 := f5.cells (k := w1.heap.size) kl kne 1; have c2 := f5.cells (k := w0.heap.size + 1) bl bne 2; have IB := BP.call (BP.drew I) hb P5 f5; have z5 := frozen_of IB.G2 2; have l5 : w0.heap.size + 1 < w5.heap.size := Nat.lt_of_lt_of_le bl f5.size; have l5b : w1.heap.size < w5.heap.size := Nat.lt_of_lt_of_le kl f5.size; have HIB := stop IB; have o5 := IB.S; clear IB; rotate_left; exact ⟨rfl, FIN.out _ f5 hgb⟩) | (refine step1 Tryz.underlying100 Tryz.info150 rfl (by decide) (by decide) rfl _ _ rfl rfl (o5.alloc _) (heap_alloc_last w5 _) rfl rfl (List.all_eq_true.1 rfl) (by omega) (by rw [World.size_alloc]; omega) ?_; intro v6 w6 o6 gr6; obtain ⟨p6, c6, rfl⟩ := owns_slice2 o6; have HI6 := stop (BP.grownS (BP.alloc HIB.out _) hb hg gr6); have x6 := cell_of HI6.out.2.1 2; have z6 := frozen_of HI6.out.2.1 2) | fail)
        all_goals
          replace o6 : w6.ownsRow (w0.heap.size + 2) 150 1 (.slice p6 (sts.length + 1) c6) (sts ++ [(givF s (n1, i) (i1 + 1) (-1)).st]).length ((sts ++ [(givF s (n1, i) (i1 + 1) (-1)).st]).map stVal) := by
            rw [List.length_append, List.map_append]
            have := o6
            rw [← HSV.out] at this
            exact this
          have J := BP.newS HI6.out hb hg o6
          clear o6 HI6 gr6 x6 z6 c0 c1 c2 z5 l5 l5b HIB o5 f5 P5 a0 a1 b2 b2z kl bl I kr
          generalize w6.setCell ⟨w0.heap.size + 1, 2, none⟩ (.slice p6 (sts.length + 1) c6) = w7 at *
          have hg1 := givF_ge (s := s) (to := (n1, i)) (i := i1 + 1) (bad := -1)
          have HE6 := HE5.out
          rw [HGB.out] at HE6
          generalize (givF s (n1, i) (i1 + 1) (-1)).st = st at *
          generalize (givF s (n1, i) (i1 + 1) (-1)).i = i5 at *
          go_wp2_with fail
          cases h59 : onF s i5 (-1) 59 with
          | true =>
            have e1 : gotI s i5 (-1) 59 = i5 + 1 := by rw [gotI, if_pos h59]
            have e2 : mustB s i5 (-1) 59 = -1 := by rw [mustB, if_pos h59]
            rw [e1, e2] at HE6
            have HE7 := stop HE6
            refine (want_yes (c := 59) J.P hs (by decide) h59).mono ?_
            rintro e w8 ⟨rfl, P8, f8⟩
            clear h59 HE6 e1 e2
            go_wp2_with fail
            go_end0
            exact .inr (.inl ⟨rfl, chs, sts ++ [st], _, _, i5 + 1, HE7.out, by omega, by omega, by simp; omega, J.call hb P8 f8⟩)
          | false =>
            have e2 : mustB s i5 (-1) 59 = i5 := by rw [mustB1, h59]; rfl
            rw [e2] at HE6
            have HB : Hid (R.bad = i5) := by show _ = _; rw [HE6]; exact st_blk _ (by omega)
            refine (want_no (c := 59) J.P (by decide) h59).mono ?_
            rintro e w8 ⟨rfl, f8⟩
            clear h59 HE6 e2
            go_wp2_with fail
            exact ⟨rfl, .inr (.inr ⟨by rw [HB.out], by rw [HB.out]; omega, J.F.trans f8⟩)⟩
      | false =>
        have H61 := stop h61
        refine (skip_no (c := 61) I.P (by decide) H61.out).mono ?_
        rintro e w3 ⟨rfl, P3, f3⟩
        replace I := I.call hb P3 f3
        replace kr := blk_fr f3 kr (by omega)
        clear f3 P3
        have a0 := cell_of kr 0
        have a1 := cell_of kr 1
        have d0 := cell_of I.G2 2
        have b2 := cell_of I.G2 1
        have b2z := frozen_of I.G2 1
        simp at a0 a1 b2 d0
        have kl := lt_of_block kr
        have bl := lt_of_block I.G2
        have HE4 := HE3.out
        rw [if_neg (by simp [h61])] at HE4
        cases sts with
        | cons t0 ts =>
          rw [if_neg (by simp)] at HE4
          have HB : Hid (R.bad = i1) := by show _ = _; rw [HE4]; exact braF_no (a := (n1, i)) h63
          have hne : (((t0 :: ts).length : Int) == 0) = false := by simp; omega
          generalize t0 :: ts = sts at *
          clear HE4 HE3 h61 h63 H61 H63
          go_wp2_with fail
          refine (brk_at I.P).mono ?_
          rintro e w5 ⟨rfl, f5⟩
          go_wp2_with fail
          exact ⟨rfl, .inr (.inr ⟨by rw [HB.out], by rw [HB.out]; omega, I.F.trans f5⟩)⟩
        | nil =>
          cases h64 : onF s i1 (-1) 64 with
          | false =>
            rw [if_neg (by simp [h64])] at HE4
            have HB : Hid (R.bad = i1) := by show _ = _; rw [HE4]; exact braF_no (a := (n1, i)) h63
            have H64 := stop h64
            clear HE4 HE3 h61 h63 H61 H63 h64
            go_wp2_with fail
            refine (skip_no (c := 64) I.P (by decide) H64.out).mono ?_
            rintro e w4 ⟨rfl, P4, f4⟩
            go_wp2_with fail
            refine (brk_at P4).mono ?_
            rintro e w5 ⟨rfl, f5⟩
            go_wp2_with fail
            exact ⟨rfl, .inr (.inr ⟨by rw [HB.out], by rw [HB.out]; omega, (I.F.trans f4).trans f5⟩)⟩
          | true =>
            rw [if_pos (by simp [h64]), choF_yes h64] at HE4
            have HE5 := stop HE4
            have H64 := stop h64
            have hl64 := (onF_lt h64).2.1
            clear HE4 HE3 h61 h63 H61 H63 h64
            go_wp2_with fail
            refine (skip_yes (c := 64) I.P hs (by decide) H64.out).mono ?_
            rintro e w4 ⟨rfl, P4, f4⟩
            replace I := I.call hb P4 f4
            replace kr := blk_fr f4 kr (by omega)
            clear f4 P4
            replace a0 := cell_of kr 0
            replace a1 := cell_of kr 1
            replace b2 := cell_of I.G2 1
            replace b2z := frozen_of I.G2 1
            simp at a0 a1 b2
            replace kl := lt_of_block kr
            replace bl := lt_of_block I.G2
            clear d0
            have FIN : Hid (∀ w5, Fr b w4.drew w5 → 0 ≤ (choT s (i1 + 1)).bad → FrPost b g s w0 i0 k i R (.panicked (brk (choT s (i1 + 1)).bad)) w5) := fun w5 f5 h0 => by
              have hB : R.bad = (choT s (i1 + 1)).bad := by rw [HE5.out, st_must h0]; exact st_blk _ h0
              exact .inr (.inr ⟨by rw [hB], by rw [hB]; exact h0, I.F.drew.trans f5⟩)
            go_wp2_with fail
            go_region_law (first | (refine stepC rfl 221 #[.pointer (some ⟨b, 0, none⟩), .agg #[.int .i64 n1, .int .i64 i]] (by go_simp) (choice2_any (RS.drew I.P) hs) ?_; rintro e w5 (⟨us, rfl, hgb, hgl2, OS, P5, f5⟩ | ⟨rfl, hgb, f5⟩); obtain ⟨pu, mu, cu, rfl⟩ := owns_slice OS; have HGB := stop hgb; have HGL := stop hgl2; clear hgb hgl2; have c0 := f5.cells (k := w1.heap.size) kl kne 0; have c1 := f5.cells (k := w1.heap.size) kl kne 1; have c2 := f5.cells (k := w0.heap.size + 1) bl bne 1; have IB := BP.call (BP.drew I) hb P5 f5; have z5 := frozen_of IB.G2 1; have l5 : w0.heap.size + 1 < w5.heap.size := Nat.lt_of_lt_of_le bl f5.size; have l5b : w1.heap.size < w5.heap.size := Nat.lt_of_lt_of_le kl f5.size; have HIB := stop IB; have o5 := IB.C; clear IB; rotate_left; exact ⟨rfl, FIN.out _ f5 hgb⟩) | (obtain ⟨us, OC, hAll⟩ := o5; refine step1 Tryz.underlying99 Tryz.info140 rfl (by decide) (by decide) rfl _ _ rfl rfl (OC.alloc _) (heap_alloc_last w5 _) rfl rfl (List.all_eq_true.1 rfl) (by omega) (by rw [World.size_alloc]; omega) ?_; intro v6 w6 o6 gr6; obtain ⟨p6, c6, rfl⟩ := owns_slice2 o6; have HI6 := stop (BP.grownC (BP.alloc HIB.out _) hb hg (OC.alloc _) gr6); have x6 := cell_of HI6.out.2.1 1; have z6 := frozen_of HI6.out.2.1 1) | fail)
            all_goals
              have K : Keeps (w0.heap.size + 2) (fun e => e = 147) w5 w6 := (Keeps.alloc _ _ _ _).trans (Keeps.grown (OC.alloc _) gr6 (by decide))
              have OP : PChs w6 (w0.heap.size + 2) (chs ++ [⟨(n1, i), (choT s (i1 + 1)).gs, (choT s (i1 + 1)).rs⟩]) (.slice p6 (chs.length + 1) c6) := by
                refine ⟨us ++ [.slice pu mu cu], ?_, ?_⟩
                · rw [pchFlat_snoc _ _ hAll.len, List.length_append]; exact o6
                · exact PChAll.snoc HGL.out (owns_keeps (owns_base OS (show w0.heap.size + 2 ≤ w4.drew.heap.size from I.Z)) K rfl) (hAll.keeps K rfl)
              have J := BP.newC HI6.out hb hg OP
              clear o6 HI6 gr6 x6 z6 c0 c1 c2 z5 l5 l5b HIB OC hAll K OP OS f5 P5 a0 a1 b2 b2z kl bl I kr
              generalize w6.setCell ⟨w0.heap.size + 1, 1, none⟩ (.slice p6 (chs.length + 1) c6) = w7 at *
              have hg1 : i1 + 1 ≤ (choT s (i1 + 1)).i := choGo_ge (s.size + 1) ⟨[], [], i1 + 1, -1⟩
              have HE6 := HE5.out
              rw [HGB.out] at HE6
              generalize (choT s (i1 + 1)).gs = gs at *
              generalize (choT s (i1 + 1)).rs = rs at *
              generalize (choT s (i1 + 1)).i = i5 at *
              go_wp2_with fail
              cases h59 : onF s i5 (-1) 59 with
              | true =>
                have e1 : gotI s i5 (-1) 59 = i5 + 1 := by rw [gotI, if_pos h59]
                have e2 : mustB s i5 (-1) 59 = -1 := by rw [mustB, if_pos h59]
                rw [e1, e2] at HE6
                have HE7 := stop HE6
                refine (want_yes (c := 59) J.P hs (by decide) h59).mono ?_
                rintro e w8 ⟨rfl, P8, f8⟩
                clear h59 HE6 e1 e2
                go_wp2_with fail
                go_end0
                exact .inr (.inl ⟨rfl, chs ++ [⟨(n1, i), gs, rs⟩], [], _, _, i5 + 1, HE7.out, by omega, by simp; omega, by simp, J.call hb P8 f8⟩)
              | false =>
                have e2 : mustB s i5 (-1) 59 = i5 := by rw [mustB1, h59]; rfl
                rw [e2] at HE6
                have HB : Hid (R.bad = i5) := by show _ = _; rw [HE6]; exact st_blk _ (by omega)
                refine (want_no (c := 59) J.P (by decide) h59).mono ?_
                rintro e w8 ⟨rfl, f8⟩
                clear h59 HE6 e2
                go_wp2_with fail
                exact ⟨rfl, .inr (.inr ⟨by rw [HB.out], by rw [HB.out]; omega, J.F.trans f8⟩)⟩
  · have H1 := stop h1
    have HB : Hid (R.bad = regB s i (-1)) := by
      show _ = _
      rw [HE.out, if_neg (by simp [st_on h1]), if_neg (by simp [st_on h1])]
      exact st_braB (a := (regN s i (-1), i)) h1
    clear h1 HE
    refine (reg_no I.P hs H1.out).mono ?_
    rintro e w1 ⟨rfl, f1⟩
    go_wp2_with fail
    exact ⟨rfl, .inr (.inr ⟨by rw [HB.out], by rw [HB.out]; exact H1.out, I.F.trans f1⟩)⟩
end Go.Proofs.YtgfhfkgdmidhpaaGreatDoor

namespace Go.Proofs.YtgfhfkgdmidhpaaGreatDoor
open Go.RowKit

/-- The program's block, read: its cells. -/
def PBlk (w : World) (base : Nat) (r : RBlk) (vc vs : Value) : Prop := PChs w base r.chs vc ∧ w.ownsRow base 150 1 vs r.sts.length (r.sts.map stVal)
def pblkCells (r : RBlk) (vc vs : Value) : List Value := [.int .i64 r.at_, vc, vs, endVal r.e]
def BkPost (b g : Nat) (s : ByteArray) (w : World) (R : Blk) (e : Ending) (w' : World) : Prop :=
  (∃ vc vs, e = .returned (.agg (pblkCells R.b vc vs).toArray) ∧ R.bad = -1 ∧ (R.b.e.op = 46 ∨ R.b.e.op = 62 ∨ R.b.e.op = 63) ∧ PBlk w' w.heap.size R.b vc vs ∧ RS w' b g s R.i ∧ Fr b w w') ∨
  (e = .panicked (brk R.bad) ∧ 0 ≤ R.bad ∧ Fr b w w')
theorem endVal_iface (e : REnd) : ∃ T x, endVal e = .iface T x := by
  unfold endVal
  repeat' split
  all_goals exact ⟨_, _, rfl⟩
theorem at_eq {b g : Nat} {s : ByteArray} {i : Nat} {w : World} (hp : RS w b g s i) :
    Calls Tryz.prog 196 #[.pointer (some ⟨b,0,none⟩)] w fun e w' => ∃ n, e = .returned (.int .i64 i) ∧ w' = w.drewN n := by
  obtain ⟨ms, k, cap, hm, ⟨hk, rfl⟩, hr⟩ := hp
  exact at_any b s ms k g cap w hr hk
def flagE : Value → Nat | .nilIface => 1 | _ => 0

set_option maxRecDepth 100000 in
set_option maxHeartbeats 8000000 in
theorem block2_any {b g : Nat} {s : ByteArray} {i0 : Nat} {w : World} (hp : RS w b g s i0) (hs : s.size ≤ 200000) :
    Calls Tryz.prog 157 #[.pointer (some ⟨b,0,none⟩)] w fun e w' => BkPost b g s w (blkF s i0 (-1)) e w' := by
  have hb := hp.lt
  have hg := hp.glt
  have hi0 := hp.le
  go_enter Tryz.func157, Tryz.ntmps157
  go_wp2_with fail
  refine (at_eq (hp.alloc _)).mono ?_
  rintro e w1 ⟨n, rfl, rfl⟩
  go_wp2_with fail
  go_loopw [12] (fun _ wr => ∃ (k : Nat) (chs : List RCho) (sts : List RStep) (vc vs ev : Value) (i : Nat), BP b g s w i0 chs sts vc vs ev i wr ∧ ((ev = .nilIface ∧ s.size < k + i ∧ chs.length ≤ i ∧ sts.length ≤ i ∧ Hid (blkF s i0 (-1) = blkGo s i0 k chs sts i (-1))) ∨ (∃ ee, ev = endVal ee ∧ Hid (blkF s i0 (-1) = ⟨⟨chs, sts, ee, i0⟩, i, -1⟩) ∧ Hid (ee.op = 46 ∨ ee.op = 62 ∨ ee.op = 63))))
    (fun _ wr => 2 * (s.size - rdI wr b) + flagE ((wr.cell? ⟨w.heap.size + 1, 3, none⟩).getD .nilIface))
  case atStart =>
    refine ⟨s.size + 1, [], [], .slice none 0 0, .slice none 0 0, .nilIface, i0, ⟨?_, ?_, ⟨[], World.ownsRow_nil _ _ _ _, trivial⟩, World.ownsRow_nil _ _ _ _, ((hp.alloc _).drewN n).alloc _, (((Fr.refl _ _).alloc _).drewN n).alloc _, by simp⟩, .inl ⟨rfl, by omega, by simp, by simp, rfl⟩⟩
    · exact blk_alloc (w := (w.alloc _).drewN n) (heap_alloc_last w _) _
    · have := heap_alloc_last ((w.alloc (.cells #[.int .i64 0, .slice none 0 0, .slice none 0 0, .nilIface] 104)).drewN n) (.cells #[.int .i64 i0, .slice none 0 0, .slice none 0 0, .nilIface] 104)
      rwa [show ((w.alloc (.cells #[.int .i64 0, .slice none 0 0, .slice none 0 0, .nilIface] 104)).drewN n).heap.size = w.heap.size + 1 from World.size_alloc _ _] at this
  case round =>
    clear hp
    obtain ⟨k, chs, sts, vc, vs, ev, i, I, hst⟩ := hrel
    obtain ⟨pc1, cc1, rfl⟩ := I.C.slice
    obtain ⟨ps1, cs1, rfl⟩ := owns_slice2 I.S
    rcases hst with ⟨rfl, hk, hcl, hsl, HR⟩ | ⟨ee, rfl, HV, HOP⟩
    · have HRI : Hid (rdI wr b = i) := I.P.rdI
      have HFL : Hid (flagE ((wr.cell? ⟨w.heap.size + 1, 3, none⟩).getD .nilIface) = 1) := by show _ = _; rw [cell_of I.G2 3]; rfl
      have hi := I.P.le
      obtain ⟨k, rfl⟩ : ∃ j, k = j + 1 := ⟨k - 1, by omega⟩
      have q3 := cell_of I.G2 3
      simp at q3
      go_wp2_with fail
      cases h46 : onF s i (-1) 46 with
      | true =>
        have HV := stop (HR.out.trans (show blkGo s i0 (k + 1) chs sts i (-1) = ⟨⟨chs, sts, ⟨46, (0, 0), (0, 0), (0, 0)⟩, i0⟩, i + 1, -1⟩ from by rw [blkGo, if_pos (by decide), if_pos h46]))
        have hlt := (onF_lt h46).2.1
        refine (skip_yes (c := 46) I.P hs (by decide) h46).mono ?_
        rintro e w2 ⟨rfl, P2, f2⟩
        replace I := I.call hb P2 f2
        clear h46 HR f2 P2 q3
        have q2 := cell_of I.G2
        have z2 := frozen_of I.G2
        go_wp2_with fail
        have J := I.setE hb hg (.iface 309 (.agg #[]))
        go_roundw
        case rel => exact ⟨0, chs, sts, _, _, _, i + 1, J, .inr ⟨⟨46, (0, 0), (0, 0), (0, 0)⟩, rfl, HV, .inl rfl⟩⟩
        case measure => rw [J.P.rdI, HRI.out, HFL.out, cell_of J.G2 3]; simp [flagE]; omega
      | false =>
        refine (skip_no (c := 46) I.P (by decide) h46).mono ?_
        rintro e w2 ⟨rfl, P2, f2⟩
        replace I := I.call hb P2 f2
        clear f2 P2 q3
        go_wp2_with fail
        cases h62 : onF s i (-1) 62 with
        | true =>
          have HV := stop (HR.out.trans (show blkGo s i0 (k + 1) chs sts i (-1) = ⟨⟨chs, sts, ⟨62, (0, 0), (numN s (i + 1) (-1), i + 1), (0, 0)⟩, i0⟩, numI s (i + 1) (-1), numB s (i + 1) (-1)⟩ from by rw [blkGo, if_pos (by decide), if_neg (by simp [h46]), if_pos h62]))
          have hlt := (onF_lt h62).2.1
          refine (skip_yes (c := 62) I.P hs (by decide) h62).mono ?_
          rintro e w3 ⟨rfl, P3, f3⟩
          replace I := I.call hb P3 f3
          clear h46 h62 HR f3 P3
          go_wp2_with fail
          cases hd : digF s (i + 1) (-1) with
          | true =>
            have HV2 : Hid (blkF s i0 (-1) = ⟨⟨chs, sts, ⟨62, (0, 0), (numN s (i + 1) (-1), i + 1), (0, 0)⟩, i0⟩, numI s (i + 1) (-1), -1⟩) := by
              show _ = _
              rw [HV.out, numB1, hd]; rfl
            have hge := numI_ge (s := s) (i := i + 1) (bad := -1)
            refine (goal_yes I.P hs hd).mono ?_
            rintro e w4 ⟨rfl, P4, f4⟩
            replace I := I.call hb P4 f4
            clear hd f4 P4 HV
            have q2 := cell_of I.G2
            have z2 := frozen_of I.G2
            go_wp2_with fail
            have J := I.setE hb hg (.iface 312 (.agg #[.int .i64 (numN s (i + 1) (-1)), .int .i64 ((i : Int) + 1)]))
            go_roundw
            case rel => exact ⟨0, chs, sts, _, _, _, numI s (i + 1) (-1), J, .inr ⟨⟨62, (0, 0), (numN s (i + 1) (-1), i + 1), (0, 0)⟩, rfl, HV2, .inr (.inl rfl)⟩⟩
            case measure => rw [J.P.rdI, HRI.out, HFL.out, cell_of J.G2 3]; simp [flagE]; omega
          | false =>
            have HB : Hid ((blkF s i0 (-1)).bad = ((i + 1 : Nat) : Int)) := by show _ = _; rw [HV.out, numB1, hd]; rfl
            refine (goal_no I.P hd).mono ?_
            rintro e w4 ⟨rfl, f4⟩
            clear hd HV
            go_wp2_with fail
            exact ⟨rfl, .inr ⟨by rw [HB.out]; rfl, by rw [HB.out]; omega, I.F.trans f4⟩⟩
        | false =>
          refine (skip_no (c := 62) I.P (by decide) h62).mono ?_
          rintro e w3 ⟨rfl, P3, f3⟩
          replace I := I.call hb P3 f3
          clear f3 P3
          go_wp2_with fail
          cases h33 : onF s i (-1) 33 with
          | true =>
            have hlt := (onF_lt h33).2.1
            have HE := stop (HR.out.trans (show blkGo s i0 (k + 1) chs sts i (-1) = blkGo s i0 k chs (sts ++ [⟨33, (0, 0), (regN s (i + 1) (-1), i + 1), (0, 0), 0⟩]) (gotI s (regI s (i + 1) (-1)) (regB s (i + 1) (-1)) 59) (mustB s (regI s (i + 1) (-1)) (regB s (i + 1) (-1)) 59) from by rw [blkGo, if_pos (by decide), if_neg (by simp [h46]), if_neg (by simp [h62]), if_pos h33]))
            refine (skip_yes (c := 33) I.P hs (by decide) h33).mono ?_
            rintro e w4 ⟨rfl, P4, f4⟩
            replace I := I.call hb P4 f4
            clear h46 h62 h33 HR f4 P4
            have b2 := cell_of I.G2 2
            have b2z := frozen_of I.G2 2
            simp at b2
            have bl := lt_of_block I.G2
            have bne : w.heap.size + 1 ≠ b := by omega
            go_wp2_with fail
            rcases Int.lt_or_le (regB s (i + 1) (-1)) 0 with h1 | h1
            · have H1 := stop h1
              have HB1 := stop (regOk h1).2.2.1
              have hge := regI_ge (s := s) (i := i + 1) (bad := -1)
              have hle := regI_le (bad := -1) (show i + 1 ≤ s.size by omega)
              clear h1
              go_region_law (first | (refine stepC rfl 199 #[.pointer (some ⟨b, 0, none⟩)] (by go_simp) (reg_yes (RS.drew I.P) hs H1.out) ?_; rintro e w5 ⟨rfl, P5, f5⟩; have c2 := f5.cells (k := w.heap.size + 1) bl bne 2; have IB := BP.call (BP.drew I) hb P5 f5; have z5 := frozen_of IB.G2 2; have l5 : w.heap.size + 1 < w5.heap.size := Nat.lt_of_lt_of_le bl f5.size; have HIB := stop IB; have o5 := IB.S; clear IB) | (refine step1 Tryz.underlying100 Tryz.info150 rfl (by decide) (by decide) rfl _ _ rfl rfl (o5.alloc _) (heap_alloc_last w5 _) rfl rfl (List.all_eq_true.1 rfl) (by omega) (by rw [World.size_alloc]; omega) ?_; intro v6 w6 o6 gr6; obtain ⟨p6, c6, rfl⟩ := owns_slice2 o6; have HI6 := stop (BP.grownS (BP.alloc HIB.out _) hb hg gr6); have x6 := cell_of HI6.out.2.1 2; have z6 := frozen_of HI6.out.2.1 2) | fail)
              all_goals
                replace o6 : w6.ownsRow (w.heap.size + 2) 150 1 (.slice p6 (sts.length + 1) c6) (sts ++ [(⟨33, (0, 0), (regN s (i + 1) (-1), i + 1), (0, 0), 0⟩ : RStep)]).length ((sts ++ [(⟨33, (0, 0), (regN s (i + 1) (-1), i + 1), (0, 0), 0⟩ : RStep)]).map stVal) := by
                  rw [List.length_append, List.map_append]; exact o6
                have J := BP.newS HI6.out hb hg o6
                clear o6 HI6 gr6 x6 z6 c2 z5 l5 HIB o5 f5 P5 b2 b2z bl I
                generalize w6.setCell ⟨w.heap.size + 1, 2, none⟩ (.slice p6 (sts.length + 1) c6) = w7 at *
                have HE6 := HE.out
                rw [HB1.out] at HE6
                generalize regI s (i + 1) (-1) = i5 at *
                go_wp2_with fail
                cases h59 : onF s i5 (-1) 59 with
                | true =>
                  have e1 : gotI s i5 (-1) 59 = i5 + 1 := by rw [gotI, if_pos h59]
                  have e2 : mustB s i5 (-1) 59 = -1 := by rw [mustB, if_pos h59]
                  have hl59 := (onF_lt h59).2.1
                  rw [e1, e2] at HE6
                  have HE7 := stop HE6
                  refine (want_yes (c := 59) J.P hs (by decide) h59).mono ?_
                  rintro e w8 ⟨rfl, P8, f8⟩
                  clear h59 HE6 e1 e2
                  have J8 := J.call hb P8 f8
                  go_wp2_with fail
                  go_roundw
                  case rel => exact ⟨k, chs, _, _, _, _, i5 + 1, J8, .inl ⟨rfl, by omega, by omega, by simp; omega, HE7⟩⟩
                  case measure => rw [J8.P.rdI, HRI.out, HFL.out, cell_of J8.G2 3]; simp [flagE]; omega
                | false =>
                  have e2 : mustB s i5 (-1) 59 = i5 := by rw [mustB1, h59]; rfl
                  rw [e2] at HE6
                  have HB : Hid ((blkF s i0 (-1)).bad = i5) := by show _ = _; rw [HE6]; exact st_blk _ (by omega)
                  refine (want_no (c := 59) J.P (by decide) h59).mono ?_
                  rintro e w8 ⟨rfl, f8⟩
                  clear h59 HE6 e2
                  go_wp2_with fail
                  exact ⟨rfl, .inr ⟨by rw [HB.out], by rw [HB.out]; omega, J.F.trans f8⟩⟩
            · have H1 := stop h1
              have HB : Hid ((blkF s i0 (-1)).bad = regB s (i + 1) (-1)) := by show _ = _; rw [HE.out, st_must h1]; exact st_blk _ h1
              have FIN : Hid (∀ w5, Fr b w4.drew w5 → BkPost b g s w (blkF s i0 (-1)) (.panicked (brk (regB s (i + 1) (-1)))) w5) := fun w5 f5 => .inr ⟨by rw [HB.out], by rw [HB.out]; exact h1, I.F.drew.trans f5⟩
              clear h1 HE
              go_region_law (first | (refine stepC rfl 199 #[.pointer (some ⟨b, 0, none⟩)] (by go_simp) (never2 (reg_no (RS.drew I.P) hs H1.out) (.agg #[.int .i64 0, .int .i64 0])) ?_; rintro e w5 (⟨rfl, f5⟩ | ⟨rfl, rfl, hF⟩); exact ⟨rfl, FIN.out _ f5⟩) | (refine step_never hF (.slice none 0 0) ?_) | fail)
              all_goals exact hF.out.elim
          | false =>
            refine (skip_no (c := 33) I.P (by decide) h33).mono ?_
            rintro e w4 ⟨rfl, P4, f4⟩
            replace I := I.call hb P4 f4
            have H46 := stop h46
            have H62 := stop h62
            have H33 := stop h33
            clear f4 P4 h46 h62 h33
            go_wp2_with fail
            refine (fromReg_any (blkF s i0 (-1)) I hb hg hs hcl hsl HR H46 H62 H33).mono ?_
            rintro e w5 (⟨rfl, chs2, sts2, vc2, vs2, ee, i2, HV, hop, J⟩ | ⟨rfl, chs2, sts2, vc2, vs2, i2, HE, hi2, h3, h4, J⟩ | ⟨rfl, hbad, f5⟩)
            · replace HV := stop HV
              replace hop := stop hop
              have hle := J.P.le
              go_wp2_with fail
              go_roundw
              case rel => exact ⟨0, chs2, sts2, _, _, _, i2, J, .inr ⟨ee, rfl, HV, .inr (.inr hop)⟩⟩
              case measure =>
                have hge : i ≤ i2 := by
                  have h1 := blkGo_ge (s := s) (i0 := i0) (k + 1) chs sts i (-1)
                  rw [← HR.out, HV.out] at h1
                  exact h1
                rw [J.P.rdI, HRI.out, HFL.out, cell_of J.G2 3]
                have : flagE (endVal ee) = 0 := by obtain ⟨T, x, h⟩ := endVal_iface ee; rw [h]; rfl
                simp [this]; omega
            · replace HE := stop HE
              have hle := J.P.le
              go_wp2_with fail
              go_roundw
              case rel => exact ⟨k, chs2, sts2, _, _, _, i2, J, .inl ⟨rfl, by omega, h3, h4, HE⟩⟩
              case measure => rw [J.P.rdI, HRI.out, HFL.out, cell_of J.G2 3]; simp [flagE]; omega
            · replace hbad := stop hbad
              go_wp2_with fail
              exact ⟨rfl, .inr ⟨rfl, hbad.out, f5⟩⟩
    · obtain ⟨T, x, hev⟩ := endVal_iface ee
      have HEV := stop hev
      rw [hev] at I
      clear hev
      have q1 := cell_of I.G1
      have z1 := frozen_of I.G1
      have q2 := cell_of I.G2
      go_wp2_with fail
      refine bodyPost_ret (v := .agg #[.int .i64 i0, (.slice pc1 chs.length cc1), (.slice ps1 sts.length cs1), .iface T x]) (by simp [results, Tryz.results157, go_sem, q1]) rfl (.inl ⟨.slice pc1 chs.length cc1, .slice ps1 sts.length cs1, ?_, ?_, ?_, ?_, ?_, ?_⟩)
      · rw [HV.out]; rw [pblkCells, HEV.out]
      · rw [HV.out]
      · rw [HV.out]; exact HOP.out
      · rw [HV.out]; exact ⟨PChs.base (((((I.C).keeps (Keeps.setk T4 _ w.heap.size 0 _ (by omega)) (by simp [T4]) (by simp [T4])).keeps (Keeps.setk T4 _ w.heap.size 1 _ (by omega)) (by simp [T4]) (by simp [T4])).keeps (Keeps.setk T4 _ w.heap.size 2 _ (by omega)) (by simp [T4]) (by simp [T4])).keeps (Keeps.setk T4 _ w.heap.size 3 _ (by omega)) (by simp [T4]) (by simp [T4])) (by omega), owns_base (owns_setk (owns_setk (owns_setk (owns_setk (I.S) w.heap.size 0 _ (by omega)) w.heap.size 1 _ (by omega)) w.heap.size 2 _ (by omega)) w.heap.size 3 _ (by omega)) (by omega)⟩
      · rw [HV.out]; exact ((((I.P).setk w.heap.size 0 _ (by omega) (by omega)).setk w.heap.size 1 _ (by omega) (by omega)).setk w.heap.size 2 _ (by omega) (by omega)).setk w.heap.size 3 _ (by omega) (by omega)
      · exact ((((I.F).setk w.heap.size 0 _ (by omega)).setk w.heap.size 1 _ (by omega)).setk w.heap.size 2 _ (by omega)).setk w.heap.size 3 _ (by omega)
end Go.Proofs.YtgfhfkgdmidhpaaGreatDoor

namespace Go.Proofs.YtgfhfkgdmidhpaaGreatDoor
open Go.RowKit

def PBlkAll (w : World) (base : Nat) : List RBlk → List (Value × Value) → Prop
  | [], [] => True
  | c :: cs, v :: vs => ((c.e.op = 46 ∨ c.e.op = 62 ∨ c.e.op = 63) ∧ PBlk w base c v.1 v.2) ∧ PBlkAll w base cs vs
  | _, _ => False
def pbFlat (cs : List RBlk) (vs : List (Value × Value)) : List Value := (List.zipWith (fun c v => pblkCells c v.1 v.2) cs vs).flatten
def PBs (w : World) (base : Nat) (cs : List RBlk) (v : Value) : Prop := ∃ vs, w.ownsRow base 104 4 v cs.length (pbFlat cs vs) ∧ PBlkAll w base cs vs
def T6 (e : TypeId) : Prop := e = 147 ∨ e = 140 ∨ e = 150
def T7 (e : TypeId) : Prop := e = 147 ∨ e = 140 ∨ e = 150 ∨ e = 104
theorem PBlk.keeps {w w' base r vc vs} {T : TypeId → Prop} (h : PBlk w base r vc vs) (k : Keeps base T w w') (h1 : T 147) (h2 : T 140) (h3 : T 150) : PBlk w' base r vc vs :=
  ⟨h.1.keeps k h1 h2, owns_keeps h.2 k h3⟩
theorem PBlk.base {w base base' r vc vs} (h : PBlk w base r vc vs) (hb : base' ≤ base) : PBlk w base' r vc vs := ⟨h.1.base hb, owns_base h.2 hb⟩
theorem PBlkAll.len {w base} : ∀ {cs vs}, PBlkAll w base cs vs → vs.length = cs.length
  | [], [], _ => rfl
  | _ :: _, _ :: _, h => by simp [PBlkAll.len h.2]
  | [], _ :: _, h => h.elim
  | _ :: _, [], h => h.elim
theorem PBlkAll.keeps {w w' base} {T : TypeId → Prop} (k : Keeps base T w w') (h1 : T 147) (h2 : T 140) (h3 : T 150) : ∀ {cs vs}, PBlkAll w base cs vs → PBlkAll w' base cs vs
  | [], [], _ => trivial
  | _ :: _, _ :: _, h => ⟨⟨h.1.1, h.1.2.keeps k h1 h2 h3⟩, PBlkAll.keeps k h1 h2 h3 h.2⟩
  | [], _ :: _, h => h.elim
  | _ :: _, [], h => h.elim
theorem PBlkAll.base {w base base'} (hb : base' ≤ base) : ∀ {cs vs}, PBlkAll w base cs vs → PBlkAll w base' cs vs
  | [], [], _ => trivial
  | _ :: _, _ :: _, h => ⟨⟨h.1.1, h.1.2.base hb⟩, PBlkAll.base hb h.2⟩
  | [], _ :: _, h => h.elim
  | _ :: _, [], h => h.elim
theorem PBlkAll.snoc {w base} {c : RBlk} {v : Value × Value} (h1 : c.e.op = 46 ∨ c.e.op = 62 ∨ c.e.op = 63) (h2 : PBlk w base c v.1 v.2) : ∀ {cs vs}, PBlkAll w base cs vs → PBlkAll w base (cs ++ [c]) (vs ++ [v])
  | [], [], _ => ⟨⟨h1, h2⟩, trivial⟩
  | _ :: _, _ :: _, h => ⟨h.1, PBlkAll.snoc h1 h2 h.2⟩
  | [], _ :: _, h => h.elim
  | _ :: _, [], h => h.elim
theorem pbFlat_snoc {cs : List RBlk} {vs : List (Value × Value)} (c v) (h : vs.length = cs.length) : pbFlat (cs ++ [c]) (vs ++ [v]) = pbFlat cs vs ++ pblkCells c v.1 v.2 := by
  simp [pbFlat, List.zipWith_append h.symm]
theorem PBs.keeps {w w' base cs v} (h : PBs w base cs v) (k : Keeps base T7 w w') : PBs w' base cs v := by
  obtain ⟨vs, a, b⟩ := h
  exact ⟨vs, owns_keeps a k (by simp [T7]), b.keeps k (by simp [T7]) (by simp [T7]) (by simp [T7])⟩
theorem PBs.base {w base base' cs v} (h : PBs w base cs v) (hb : base' ≤ base) : PBs w base' cs v := by
  obtain ⟨vs, a, b⟩ := h
  exact ⟨vs, owns_base a hb, b.base hb⟩
theorem PBs.slice {w base cs v} (h : PBs w base cs v) : ∃ p c, v = .slice p cs.length c := by
  obtain ⟨vs, a, _⟩ := h; exact owns_slice2 a
theorem Tryz.info104 : (Tryz.prog.info? 104).map (fun i => (i.zero, i.size, i.bytes)) = some (some (.agg #[.int .i64 0, .slice none 0 0, .slice none 0 0, .nilIface]), 4, 72) := by kernel_rfl

def PgPost (b : Nat) (s : ByteArray) (w : World) (e : Ending) (w' : World) : Prop :=
  (∃ v, e = .returned v ∧ parBad s < 0 ∧ PBs w' w.heap.size (parF s).bs v ∧ Fr b w w') ∨ (e = .panicked (brk (parBad s)) ∧ 0 ≤ parBad s ∧ Fr b w w')
theorem par_end {s a k p} (h : parF s = parSt s true k p) (hk : 0 < k) (ha : onF s (blkF s p.i p.bad).i (blkF s p.i p.bad).bad 124 = a) (hf : a = false) : parF s = ⟨p.bs ++ [(blkF s p.i p.bad).b], (blkF s p.i p.bad).i, (blkF s p.i p.bad).bad⟩ := by
  rw [h, parSt_step hk, ha, hf, parSt, if_neg (by simp), gotI, ha, hf, if_neg (by simp)]

set_option maxRecDepth 100000 in
set_option maxHeartbeats 8000000 in
theorem program_any {b g : Nat} {s : ByteArray} {w : World} (hp : RS w b g s 0) (hs : s.size ≤ 200000) :
    Calls Tryz.prog 113 #[.pointer (some ⟨b,0,none⟩)] w fun e w' => PgPost b s w e w' := by
  have hb := hp.lt
  have hg := hp.glt
  go_enter Tryz.func113, Tryz.ntmps113
  go_wp2_with fail
  go_loopw [3] (fun l wr => ∃ (k : Nat) (p : Par), s.size < k + p.i ∧ p.i ≤ s.size ∧ p.bs.length ≤ p.i ∧ Hid (p.bad = -1) ∧ Hid (parF s = parSt s true k p) ∧ PBs wr w.heap.size p.bs l ∧ RS wr b g s p.i ∧ Hid (Fr b w wr) ∧ w.heap.size ≤ wr.heap.size) (fun _ wr => s.size - rdI wr b)
  case atStart => exact ⟨s.size + 1, ⟨[], 0, -1⟩, by show _ < _; omega, by simp, by simp, rfl, rfl, ⟨[], World.ownsRow_nil _ _ _ _, trivial⟩, hp, Fr.refl _ _, Nat.le_refl _⟩
  case round =>
    obtain ⟨k, p, hk, hpi, hpl, HPB, HR, O, P, F, hz⟩ := hrel
    have HRI : Hid (rdI wr b = p.i) := P.rdI
    have HK : Hid (0 < k) := by show 0 < k; omega
    obtain ⟨pl, cl, rfl⟩ := O.slice
    clear hp
    go_wp2_with fail
    refine (block2_any P hs).mono ?_
    have HD : Hid (blkF s p.i p.bad = blkF s p.i (-1)) := by show _ = _; rw [HPB.out]
    have hge := blkF_ge (s := s) (i := p.i) (bad := -1)
    have hle := blkF_le (bad := -1) hpi
    generalize hd : blkF s p.i (-1) = d at *
    clear hd
    rintro e w1 (⟨vc, vs, rfl, hbad, hop, OB, P1, f1⟩ | ⟨rfl, hbad, f1⟩)
    · have HB := stop hbad
      have HOP := stop hop
      clear hbad hop
      replace OB := OB.base hz
      replace O := O.keeps (Keeps.fr f1 (by omega))
      replace F := stop (F.out.trans f1)
      have hz1 := Nat.le_trans hz f1.size
      obtain ⟨pc1, cc1, rfl⟩ := OB.1.slice
      obtain ⟨ps1, cs1, rfl⟩ := owns_slice2 OB.2
      obtain ⟨T, x, hev⟩ := endVal_iface d.b.e
      have HEV := stop hev
      rw [show (pblkCells d.b (.slice pc1 d.b.chs.length cc1) (.slice ps1 d.b.sts.length cs1)).toArray = #[.int .i64 d.b.at_, .slice pc1 d.b.chs.length cc1, .slice ps1 d.b.sts.length cs1, .iface T x] from by rw [pblkCells, hev]]
      clear hev f1 P hz
      go_wp2_with (at_builtin; refine unstop ?_)
      refine stop ?_
      have gB := heap_alloc_last w1 (.cells #[.int .i64 d.b.at_, .slice pc1 d.b.chs.length cc1, .slice ps1 d.b.sts.length cs1, .iface T x] 104)
      replace O := O.keeps (Keeps.alloc _ _ _ (.cells #[.int .i64 d.b.at_, .slice pc1 d.b.chs.length cc1, .slice ps1 d.b.sts.length cs1, .iface T x] 104))
      replace OB := OB.keeps (Keeps.alloc _ T6 _ (.cells #[.int .i64 d.b.at_, .slice pc1 d.b.chs.length cc1, .slice ps1 d.b.sts.length cs1, .iface T x] 104)) (by simp [T6]) (by simp [T6]) (by simp [T6])
      replace P1 := P1.alloc (.cells #[.int .i64 d.b.at_, .slice pc1 d.b.chs.length cc1, .slice ps1 d.b.sts.length cs1, .iface T x] 104)
      replace F := stop (F.out.alloc (.cells #[.int .i64 d.b.at_, .slice pc1 d.b.chs.length cc1, .slice ps1 d.b.sts.length cs1, .iface T x] 104))
      obtain ⟨us, O1, hAll⟩ := O
      refine app1 Tryz.underlying38 Tryz.info104 rfl (by decide) (by decide) rfl _ _ rfl rfl O1 gB rfl rfl (List.all_eq_true.1 rfl) (by omega) (by rw [World.size_alloc]; omega) ?_
      intro v3 wS oS gS
      have K : Keeps w.heap.size T6 _ wS := Keeps.grown O1 gS (by simp [T6])
      have O3 : PBs wS w.heap.size (p.bs ++ [d.b]) v3 := by
        refine ⟨us ++ [(.slice pc1 d.b.chs.length cc1, .slice ps1 d.b.sts.length cs1)], ?_, ?_⟩
        · rw [pbFlat_snoc _ _ hAll.len, List.length_append, pblkCells, HEV.out]; exact oS
        · exact PBlkAll.snoc HOP.out (OB.keeps K (by simp [T6]) (by simp [T6]) (by simp [T6])) (hAll.keeps K (by simp [T6]) (by simp [T6]) (by simp [T6]))
      have P3 := P1.grown gS (fun j hj => by have := (O1.lt j hj).1; constructor <;> omega)
      have F3 := stop (F.out.grown gS (fun j hj => by have := (O1.lt j hj).1; omega))
      have hz3 : w.heap.size ≤ wS.heap.size := by have := gS.size; rw [World.size_alloc] at this; omega
      obtain ⟨p5, c5, h5⟩ := O3.slice
      rw [List.length_append, List.length_singleton] at h5
      subst h5
      clear K O1 hAll gS oS gB OB P1 F hz1
      go_wp2_with fail
      refine (sign_of P3).mono ?_
      rintro e w4 ⟨y, rfl, hy, P4, f4⟩
      replace O3 := O3.keeps (Keeps.fr f4 (by omega))
      replace F3 := stop (F3.out.trans f4)
      have hz4 := Nat.le_trans hz3 f4.size
      have hfin := hy.fin
      clear f4 P3 hz3 hy
      by_cases hend : d.i = s.size
      · have hy1 : (y == -1) = true := by simp [hfin.2 hend]
        have HP : Hid (parF s = ⟨p.bs ++ [d.b], d.i, d.bad⟩) := by
          have := par_end HR.out HK.out rfl (by rw [HD.out, ← Bool.not_eq_true]; intro e; have := (onF_lt e).2.1; omega)
          rwa [HD.out] at this
        have HPB2 : Hid (parBad s = -1) := by show _ = _; rw [parBad, HP.out, if_neg (by show ¬ d.i < s.size; omega)]; exact HB.out
        clear hfin HR hend
        go_wp2_with fail
        go_ret
        exact .inl ⟨_, rfl, by rw [HPB2.out]; omega, by rw [HP.out]; exact O3, F3.out⟩
      · have hy1 : (y == -1) = false := by simp; intro e; exact hend (hfin.1 e)
        clear hfin
        go_wp2_with fail
        cases h124 : onF s d.i (-1) 124 with
        | true =>
          have hlt := (onF_lt h124).2.1
          have HR2 : Hid (parF s = parSt s true (k - 1) ⟨p.bs ++ [d.b], d.i + 1, d.bad⟩) := by
            show _ = _
            rw [HR.out, parSt_step HK.out, HD.out, HB.out, h124, gotI, if_pos h124]
          refine (want_yes (c := 124) P4 hs (by decide) h124).mono ?_
          rintro e w5 ⟨rfl, P5, f5⟩
          clear h124
          go_wp2_with fail
          go_roundw
          case rel => exact ⟨k - 1, ⟨p.bs ++ [d.b], d.i + 1, d.bad⟩, by show s.size < k - 1 + (d.i + 1); omega, by show d.i + 1 ≤ s.size; omega, by show (p.bs ++ [d.b]).length ≤ d.i + 1; simp; omega, HB, HR2, O3.keeps (Keeps.fr f5 (by omega)), P5, F3.out.trans f5, Nat.le_trans hz4 f5.size⟩
          case measure => rw [P5.rdI, HRI.out]; omega
        | false =>
          have HP : Hid (parF s = ⟨p.bs ++ [d.b], d.i, d.bad⟩) := by
            have := par_end HR.out HK.out rfl (by rw [HD.out, HB.out]; exact h124)
            rwa [HD.out] at this
          have HPB2 : Hid (parBad s = d.i) := by
            show _ = _
            rw [parBad, HP.out, if_pos (by show d.i < s.size; omega)]
            show failB d.i d.bad = d.i
            rw [HB.out, failB1]
          refine (want_no (c := 124) P4 (by decide) h124).mono ?_
          rintro e w5 ⟨rfl, f5⟩
          clear h124
          go_wp2_with fail
          exact ⟨rfl, .inr ⟨by rw [HPB2.out], by rw [HPB2.out]; omega, F3.out.trans f5⟩⟩
    · have HB := stop hbad
      have HP : Hid (parF s = ⟨p.bs ++ [d.b], d.i, d.bad⟩) := by
        have := par_end HR.out HK.out rfl (by rw [HD.out]; exact st_on hbad)
        rwa [HD.out] at this
      have HPB2 : Hid (parBad s = d.bad) := by
        show _ = _
        rw [parBad, HP.out]
        show (if d.i < s.size then failB d.i d.bad else d.bad) = d.bad
        rw [st_fail hbad]; simp
      clear hbad
      go_wp2_with fail
      exact ⟨rfl, .inr ⟨by rw [HPB2.out], by rw [HPB2.out]; exact HB.out, F.out.trans f1⟩⟩
end Go.Proofs.YtgfhfkgdmidhpaaGreatDoor
