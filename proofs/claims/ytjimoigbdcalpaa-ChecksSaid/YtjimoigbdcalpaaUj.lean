import Derived.Test.YtjimoigbdcalpaaUi
namespace Go.Proofs.Ytjimoigbdcalpaa
open Go.RowKit

theorem blk_reg {s i0 k chs sts i} (h46 : onF s i (-1) 46 = false) (h62 : onF s i (-1) 62 = false) (h33 : onF s i (-1) 33 = false) :
    blkGo s i0 (k + 1) chs sts i (-1) = if onF s (regI s i (-1)) (regB s i (-1)) 61 then blkGo s i0 k chs (sts ++ [(givF s (regN s i (-1), i) (regI s i (-1) + 1) (regB s i (-1))).st]) (gotI s (givF s (regN s i (-1), i) (regI s i (-1) + 1) (regB s i (-1))).i (givF s (regN s i (-1), i) (regI s i (-1) + 1) (regB s i (-1))).bad 59) (mustB s (givF s (regN s i (-1), i) (regI s i (-1) + 1) (regB s i (-1))).i (givF s (regN s i (-1), i) (regI s i (-1) + 1) (regB s i (-1))).bad 59)
      else if onF s (regI s i (-1)) (regB s i (-1)) 64 && sts.isEmpty then blkGo s i0 k (chs ++ [⟨(regN s i (-1), i), (choF s (regI s i (-1)) (regB s i (-1))).gs, (choF s (regI s i (-1)) (regB s i (-1))).rs⟩]) sts (gotI s (choF s (regI s i (-1)) (regB s i (-1))).i (choF s (regI s i (-1)) (regB s i (-1))).bad 59) (mustB s (choF s (regI s i (-1)) (regB s i (-1))).i (choF s (regI s i (-1)) (regB s i (-1))).bad 59)
      else ⟨⟨chs, sts, (braF s (regN s i (-1), i) (regI s i (-1)) (regB s i (-1))).e, i0⟩, (braF s (regN s i (-1), i) (regI s i (-1)) (regB s i (-1))).i, (braF s (regN s i (-1), i) (regI s i (-1)) (regB s i (-1))).bad⟩ := by
  rw [blkGo, if_pos (by decide), if_neg (by simp [h46]), if_neg (by simp [h62]), if_neg (by simp [h33])]

section
variable {b g : Nat} {s : ByteArray} {w0 : World} {i0 : Nat} {chs : List RCho} {sts : List RStep} {vc vs ev : Value} {i : Nat}
theorem BP.newS {w' : World} (h : w'.heap[w0.heap.size]? = some (.cells #[.int .i64 0, .slice none 0 0, .slice none 0 0, .nilIface] 43 (0, 0)) ∧ w'.heap[w0.heap.size + 1]? = some (.cells #[.int .i64 i0, vc, vs, ev] 43 (0, 0)) ∧ PChs w' (w0.heap.size + 2) chs vc ∧ RS w' b g s i ∧ Fr b w0 w' ∧ w0.heap.size + 2 ≤ w'.heap.size) (hb : b < w0.heap.size) (hg : g < w0.heap.size)
    {sts' : List RStep} {vs' : Value} (o : w'.ownsRow (w0.heap.size + 2) 143 1 vs' sts'.length (sts'.map stVal)) : BP b g s w0 i0 chs sts' vc vs' ev i (w'.setCell ⟨w0.heap.size + 1, 2, none⟩ vs') := by
  obtain ⟨h1, h2, h3, h4, h5, h6⟩ := h
  exact ⟨blk_setOther h1 (by omega) _ _, blk_set h2 2 vs', h3.keeps (Keeps.setk T4 w' _ 2 _ (by omega)) (by simp [T4]) (by simp [T4]), owns_setk o _ 2 _ (by omega), h4.setk _ 2 _ (by omega) (by omega), h5.setk _ 2 _ (by omega), by rw [size_set]; exact h6⟩
theorem BP.newC {w' : World} (h : w'.heap[w0.heap.size]? = some (.cells #[.int .i64 0, .slice none 0 0, .slice none 0 0, .nilIface] 43 (0, 0)) ∧ w'.heap[w0.heap.size + 1]? = some (.cells #[.int .i64 i0, vc, vs, ev] 43 (0, 0)) ∧ w'.ownsRow (w0.heap.size + 2) 143 1 vs sts.length (sts.map stVal) ∧ RS w' b g s i ∧ Fr b w0 w' ∧ w0.heap.size + 2 ≤ w'.heap.size) (hb : b < w0.heap.size) (hg : g < w0.heap.size)
    {chs' : List RCho} {vc' : Value} (o : PChs w' (w0.heap.size + 2) chs' vc') : BP b g s w0 i0 chs' sts vc' vs ev i (w'.setCell ⟨w0.heap.size + 1, 1, none⟩ vc') := by
  obtain ⟨h1, h2, h3, h4, h5, h6⟩ := h
  exact ⟨blk_setOther h1 (by omega) _ _, blk_set h2 1 vc', o.keeps (Keeps.setk T4 w' _ 1 _ (by omega)) (by simp [T4]) (by simp [T4]), owns_setk h3 _ 1 _ (by omega), h4.setk _ 1 _ (by omega) (by omega), h5.setk _ 1 _ (by omega), by rw [size_set]; exact h6⟩
end

set_option maxRecDepth 100000 in
set_option maxHeartbeats 8000000 in
theorem fromReg_any {b g : Nat} {s : ByteArray} {w0 : World} {i0 k i : Nat} {chs : List RCho} {sts : List RStep} {vc vs : Value} {w : World} (R : Blk)
    (I : BP b g s w0 i0 chs sts vc vs .nilIface i w) (hb : b < w0.heap.size) (hg : g < w0.heap.size) (hs : s.size ≤ 200000) (hcl : chs.length ≤ i) (hsl : sts.length ≤ i)
    (HR : Hid (R = blkGo s i0 (k + 1) chs sts i (-1))) (H46 : Hid (onF s i (-1) 46 = false)) (H62 : Hid (onF s i (-1) 62 = false)) (H33 : Hid (onF s i (-1) 33 = false)) :
    Calls Try.prog 48 #[.pointer (some ⟨b,0,none⟩), .pointer (some ⟨w0.heap.size + 1, 0, none⟩)] w fun e w' => FrPost b g s w0 i0 k i R e w' := by
  have HE := stop (HR.out.trans (blk_reg H46.out H62.out H33.out))
  have hi := I.P.le
  obtain ⟨pc1, cc1, rfl⟩ := I.C.slice
  obtain ⟨ps1, cs1, rfl⟩ := owns_slice2 I.S
  clear HR H46 H62 H33
  go_enter Try.func48, Try.ntmps48
  go_wp2_with fail
  rcases Int.lt_or_le (regB s i (-1)) 0 with h1 | h1
  · have e1 := (regOk h1).2.2.1
    have H1 := stop h1
    have HE2 := HE.out
    rw [e1] at HE2
    have HE3 := stop HE2
    clear h1 HE e1 HE2
    refine (reg_yes I.P hs H1.out).mono ?_
    rintro e w1 ⟨rfl, P1, f1⟩
    replace I := I.call hb P1 f1
    have hZ1 := I.Z
    have hi1 := P1.le
    have hi1g := regI_ge (s := s) (i := i) (bad := -1)
    have hi1s : i < regI s i (-1) := by
      have := (regOk H1.out)
      rw [this.2.2.2.2]
      exact Nat.lt_of_lt_of_le (Nat.lt_succ_self i) numI_ge
    generalize regI s i (-1) = i1 at *
    generalize regN s i (-1) = n1 at *
    have kr := heap_alloc_last w1 (.cells #[.int .i64 n1, .int .i64 i] 98)
    replace I := I.alloc (.cells #[.int .i64 n1, .int .i64 i] 98)
    have kne : w1.heap.size ≠ b := by have := I.P.lt; omega
    have bne : w0.heap.size + 1 ≠ b := by omega
    go_wp2_with fail
    cases h63 : onF s i1 (-1) 63 with
    | true =>
      have HE4 := HE3.out
      rw [if_neg (by simp [on_uniq h63 (show 63 ≠ 61 by decide)]), if_neg (by simp [on_uniq h63 (show 63 ≠ 64 by decide)]), braF_yes h63] at HE4
      have HE5 := stop HE4
      have H63 := stop h63
      clear h63 HE4 HE3
      refine (skip_yes (c := 63) I.P hs (by decide) H63.out).mono ?_
      rintro e w2 ⟨rfl, P2, f2⟩
      replace I := I.call hb P2 f2
      replace kr := blk_fr f2 kr (by omega)
      have qr := cell_of kr
      clear f2 P2
      go_wp2_with fail
      refine (fork_any I.P hs).mono ?_
      rintro e w3 (⟨rfl, hr, P3, f3⟩ | ⟨rfl, hr, f3⟩)
      · replace I := I.call hb P3 f3
        have q2 := cell_of I.G2
        have z2 := frozen_of I.G2
        have HRB := stop hr
        have hev : ∃ T x, endVal (braT s (n1, i) (i1 + 1)).e = .iface T x := ⟨_, _, rfl⟩
        obtain ⟨T, x, hev⟩ := hev
        have HEV := stop hev
        rw [hev]
        clear hr hev
        go_wp2_with fail
        go_end0
        refine .inl ⟨rfl, chs, sts, .slice pc1 chs.length cc1, .slice ps1 sts.length cs1, (braT s (n1, i) (i1 + 1)).e, (braT s (n1, i) (i1 + 1)).i, ?_, rfl, ?_⟩
        · rw [HE5.out, HRB.out]
        · rw [HEV.out]; exact I.setE hb hg _
      · go_wp2_with fail
        refine ⟨rfl, .inr (.inr ⟨?_, ?_, I.F.trans f3⟩)⟩
        · rw [HE5.out]
        · rw [HE5.out]; exact hr
    | false =>
      have H63 := stop h63
      refine (skip_no (c := 63) I.P (by decide) H63.out).mono ?_
      rintro e w2 ⟨rfl, P2, f2⟩
      replace I := I.call hb P2 f2
      replace kr := blk_fr f2 kr (by omega)
      clear f2 P2
      go_wp2_with fail
      cases h61 : onF s i1 (-1) 61 with
      | true =>
        have HE4 := HE3.out
        rw [if_pos h61] at HE4
        have HE5 := stop HE4
        have H61 := stop h61
        have hl61 := (onF_lt h61).2.1
        clear h61 h63 HE4 HE3 H63
        refine (skip_yes (c := 61) I.P hs (by decide) H61.out).mono ?_
        rintro e w3 ⟨rfl, P3, f3⟩
        replace I := I.call hb P3 f3
        replace kr := blk_fr f3 kr (by omega)
        clear f3 P3
        have a0 := cell_of kr 0
        have a1 := cell_of kr 1
        have b2 := cell_of I.G2 2
        have b2z := frozen_of I.G2 2
        simp at a0 a1 b2
        have kl := lt_of_block kr
        have bl := lt_of_block I.G2
        have FIN : Hid (∀ w5, Fr b w3.drew w5 → 0 ≤ mustB s (givF s (n1, i) (i1 + 1) (-1)).i (givF s (n1, i) (i1 + 1) (-1)).bad 59 → FrPost b g s w0 i0 k i R (.panicked (brk (mustB s (givF s (n1, i) (i1 + 1) (-1)).i (givF s (n1, i) (i1 + 1) (-1)).bad 59))) w5) := fun w5 f5 h0 => by
          have hB : R.bad = mustB s (givF s (n1, i) (i1 + 1) (-1)).i (givF s (n1, i) (i1 + 1) (-1)).bad 59 := by rw [HE5.out]; exact st_blk _ h0
          exact .inr (.inr ⟨by rw [hB], by rw [hB]; exact h0, I.F.drew.trans f5⟩)
        obtain ⟨T, x, hst⟩ := stVal_iface (givF s (n1, i) (i1 + 1) (-1)).st
        have HSV := stop hst
        clear hst
        go_wp2_with fail
        go_region_law (first | (refine stepC rfl 58 #[.pointer (some ⟨b, 0, none⟩), .agg #[.int .i64 n1, .int .i64 i]] (by go_simp) (giving_any (RS.drew I.P) hs) ?_; rintro e w5 (⟨rfl, hgb, P5, f5⟩ | ⟨rfl, hgb, f5⟩); rw [HSV.out]; have HGB := stop hgb; clear hgb; have c0 := f5.cells (k := w1.heap.size) kl kne 0; have c1 := f5.cells (k := w1.heap.size) kl kne 1; have c2 := f5.cells (k := w0.heap.size + 1) bl bne 2; have IB := BP.call (BP.drew I) hb P5 f5; have z5 := frozen_of IB.G2 2; have l5 : w0.heap.size + 1 < w5.heap.size := Nat.lt_of_lt_of_le bl f5.size; have l5b : w1.heap.size < w5.heap.size := Nat.lt_of_lt_of_le kl f5.size; have HIB := stop IB; have o5 := IB.S; clear IB; rotate_left; exact ⟨rfl, FIN.out _ f5 hgb⟩) | (refine step1 Try.underlying39 Try.info143 rfl (by decide) (by decide) rfl _ _ rfl rfl (o5.alloc _) (heap_alloc_last w5 _) rfl rfl (List.all_eq_true.1 rfl) (by omega) (by rw [World.size_alloc]; omega) ?_; intro v6 w6 o6 gr6; obtain ⟨p6, c6, rfl⟩ := owns_slice2 o6; have HI6 := stop (BP.grownS (BP.alloc HIB.out _) hb hg gr6); have x6 := cell_of HI6.out.2.1 2; have z6 := frozen_of HI6.out.2.1 2) | fail)
        all_goals
          replace o6 : w6.ownsRow (w0.heap.size + 2) 143 1 (.slice p6 (sts.length + 1) c6) (sts ++ [(givF s (n1, i) (i1 + 1) (-1)).st]).length ((sts ++ [(givF s (n1, i) (i1 + 1) (-1)).st]).map stVal) := by
            rw [List.length_append, List.map_append]
            have := o6
            rw [← HSV.out] at this
            exact this
          have J := BP.newS HI6.out hb hg o6
          clear o6 HI6 gr6 x6 z6 c0 c1 c2 z5 l5 l5b HIB o5 f5 P5 a0 a1 b2 b2z kl bl I kr
          generalize w6.setCell ⟨w0.heap.size + 1, 2, none⟩ (.slice p6 (sts.length + 1) c6) = w7 at *
          have hg1 := givF_ge (s := s) (to := (n1, i)) (i := i1 + 1) (bad := -1)
          have HE6 := HE5.out
          rw [HGB.out] at HE6
          generalize (givF s (n1, i) (i1 + 1) (-1)).st = st at *
          generalize (givF s (n1, i) (i1 + 1) (-1)).i = i5 at *
          go_wp2_with fail
          cases h59 : onF s i5 (-1) 59 with
          | true =>
            have e1 : gotI s i5 (-1) 59 = i5 + 1 := by rw [gotI, if_pos h59]
            have e2 : mustB s i5 (-1) 59 = -1 := by rw [mustB, if_pos h59]
            rw [e1, e2] at HE6
            have HE7 := stop HE6
            refine (want_yes (c := 59) J.P hs (by decide) h59).mono ?_
            rintro e w8 ⟨rfl, P8, f8⟩
            clear h59 HE6 e1 e2
            go_wp2_with fail
            go_end0
            exact .inr (.inl ⟨rfl, chs, sts ++ [st], _, _, i5 + 1, HE7.out, by omega, by omega, by simp; omega, J.call hb P8 f8⟩)
          | false =>
            have e2 : mustB s i5 (-1) 59 = i5 := by rw [mustB1, h59]; rfl
            rw [e2] at HE6
            have HB : Hid (R.bad = i5) := by show _ = _; rw [HE6]; exact st_blk _ (by omega)
            refine (want_no (c := 59) J.P (by decide) h59).mono ?_
            rintro e w8 ⟨rfl, f8⟩
            clear h59 HE6 e2
            go_wp2_with fail
            exact ⟨rfl, .inr (.inr ⟨by rw [HB.out], by rw [HB.out]; omega, J.F.trans f8⟩)⟩
      | false =>
        have H61 := stop h61
        refine (skip_no (c := 61) I.P (by decide) H61.out).mono ?_
        rintro e w3 ⟨rfl, P3, f3⟩
        replace I := I.call hb P3 f3
        replace kr := blk_fr f3 kr (by omega)
        clear f3 P3
        have a0 := cell_of kr 0
        have a1 := cell_of kr 1
        have d0 := cell_of I.G2 2
        have b2 := cell_of I.G2 1
        have b2z := frozen_of I.G2 1
        simp at a0 a1 b2 d0
        have kl := lt_of_block kr
        have bl := lt_of_block I.G2
        have HE4 := HE3.out
        rw [if_neg (by simp [h61])] at HE4
        cases sts with
        | cons t0 ts =>
          rw [if_neg (by simp)] at HE4
          have HB : Hid (R.bad = i1) := by show _ = _; rw [HE4]; exact braF_no (a := (n1, i)) h63
          have hne : (((t0 :: ts).length : Int) == 0) = false := by simp; omega
          generalize t0 :: ts = sts at *
          clear HE4 HE3 h61 h63 H61 H63
          go_wp2_with fail
          refine (brk_at I.P).mono ?_
          rintro e w5 ⟨rfl, f5⟩
          go_wp2_with fail
          exact ⟨rfl, .inr (.inr ⟨by rw [HB.out], by rw [HB.out]; omega, I.F.trans f5⟩)⟩
        | nil =>
          cases h64 : onF s i1 (-1) 64 with
          | false =>
            rw [if_neg (by simp [h64])] at HE4
            have HB : Hid (R.bad = i1) := by show _ = _; rw [HE4]; exact braF_no (a := (n1, i)) h63
            have H64 := stop h64
            clear HE4 HE3 h61 h63 H61 H63 h64
            go_wp2_with fail
            refine (skip_no (c := 64) I.P (by decide) H64.out).mono ?_
            rintro e w4 ⟨rfl, P4, f4⟩
            go_wp2_with fail
            refine (brk_at P4).mono ?_
            rintro e w5 ⟨rfl, f5⟩
            go_wp2_with fail
            exact ⟨rfl, .inr (.inr ⟨by rw [HB.out], by rw [HB.out]; omega, (I.F.trans f4).trans f5⟩)⟩
          | true =>
            rw [if_pos (by simp [h64]), choF_yes h64] at HE4
            have HE5 := stop HE4
            have H64 := stop h64
            have hl64 := (onF_lt h64).2.1
            clear HE4 HE3 h61 h63 H61 H63 h64
            go_wp2_with fail
            refine (skip_yes (c := 64) I.P hs (by decide) H64.out).mono ?_
            rintro e w4 ⟨rfl, P4, f4⟩
            replace I := I.call hb P4 f4
            replace kr := blk_fr f4 kr (by omega)
            clear f4 P4
            replace a0 := cell_of kr 0
            replace a1 := cell_of kr 1
            replace b2 := cell_of I.G2 1
            replace b2z := frozen_of I.G2 1
            simp at a0 a1 b2
            replace kl := lt_of_block kr
            replace bl := lt_of_block I.G2
            clear d0
            have FIN : Hid (∀ w5, Fr b w4.drew w5 → 0 ≤ (choT s (i1 + 1)).bad → FrPost b g s w0 i0 k i R (.panicked (brk (choT s (i1 + 1)).bad)) w5) := fun w5 f5 h0 => by
              have hB : R.bad = (choT s (i1 + 1)).bad := by rw [HE5.out, st_must h0]; exact st_blk _ h0
              exact .inr (.inr ⟨by rw [hB], by rw [hB]; exact h0, I.F.drew.trans f5⟩)
            go_wp2_with fail
            go_region_law (first | (refine stepC rfl 59 #[.pointer (some ⟨b, 0, none⟩), .agg #[.int .i64 n1, .int .i64 i]] (by go_simp) (choice2_any (RS.drew I.P) hs) ?_; rintro e w5 (⟨us, rfl, hgb, hgl2, OS, P5, f5⟩ | ⟨rfl, hgb, f5⟩); obtain ⟨pu, mu, cu, rfl⟩ := owns_slice OS; have HGB := stop hgb; have HGL := stop hgl2; clear hgb hgl2; have c0 := f5.cells (k := w1.heap.size) kl kne 0; have c1 := f5.cells (k := w1.heap.size) kl kne 1; have c2 := f5.cells (k := w0.heap.size + 1) bl bne 1; have IB := BP.call (BP.drew I) hb P5 f5; have z5 := frozen_of IB.G2 1; have l5 : w0.heap.size + 1 < w5.heap.size := Nat.lt_of_lt_of_le bl f5.size; have l5b : w1.heap.size < w5.heap.size := Nat.lt_of_lt_of_le kl f5.size; have HIB := stop IB; have o5 := IB.C; clear IB; rotate_left; exact ⟨rfl, FIN.out _ f5 hgb⟩) | (obtain ⟨us, OC, hAll⟩ := o5; refine step1 Try.underlying38 Try.info101 rfl (by decide) (by decide) rfl _ _ rfl rfl (OC.alloc _) (heap_alloc_last w5 _) rfl rfl (List.all_eq_true.1 rfl) (by omega) (by rw [World.size_alloc]; omega) ?_; intro v6 w6 o6 gr6; obtain ⟨p6, c6, rfl⟩ := owns_slice2 o6; have HI6 := stop (BP.grownC (BP.alloc HIB.out _) hb hg (OC.alloc _) gr6); have x6 := cell_of HI6.out.2.1 1; have z6 := frozen_of HI6.out.2.1 1) | fail)
            all_goals
              have K : Keeps (w0.heap.size + 2) (fun e => e = 103) w5 w6 := (Keeps.alloc _ _ _ _).trans (Keeps.grown (OC.alloc _) gr6 (by decide))
              have OP : PChs w6 (w0.heap.size + 2) (chs ++ [⟨(n1, i), (choT s (i1 + 1)).gs, (choT s (i1 + 1)).rs⟩]) (.slice p6 (chs.length + 1) c6) := by
                refine ⟨us ++ [.slice pu mu cu], ?_, ?_⟩
                · rw [pchFlat_snoc _ _ hAll.len, List.length_append]; exact o6
                · exact PChAll.snoc HGL.out (owns_keeps (owns_base OS (show w0.heap.size + 2 ≤ w4.drew.heap.size from I.Z)) K rfl) (hAll.keeps K rfl)
              have J := BP.newC HI6.out hb hg OP
              clear o6 HI6 gr6 x6 z6 c0 c1 c2 z5 l5 l5b HIB OC hAll K OP OS f5 P5 a0 a1 b2 b2z kl bl I kr
              generalize w6.setCell ⟨w0.heap.size + 1, 1, none⟩ (.slice p6 (chs.length + 1) c6) = w7 at *
              have hg1 : i1 + 1 ≤ (choT s (i1 + 1)).i := choGo_ge (s.size + 1) ⟨[], [], i1 + 1, -1⟩
              have HE6 := HE5.out
              rw [HGB.out] at HE6
              generalize (choT s (i1 + 1)).gs = gs at *
              generalize (choT s (i1 + 1)).rs = rs at *
              generalize (choT s (i1 + 1)).i = i5 at *
              go_wp2_with fail
              cases h59 : onF s i5 (-1) 59 with
              | true =>
                have e1 : gotI s i5 (-1) 59 = i5 + 1 := by rw [gotI, if_pos h59]
                have e2 : mustB s i5 (-1) 59 = -1 := by rw [mustB, if_pos h59]
                rw [e1, e2] at HE6
                have HE7 := stop HE6
                refine (want_yes (c := 59) J.P hs (by decide) h59).mono ?_
                rintro e w8 ⟨rfl, P8, f8⟩
                clear h59 HE6 e1 e2
                go_wp2_with fail
                go_end0
                exact .inr (.inl ⟨rfl, chs ++ [⟨(n1, i), gs, rs⟩], [], _, _, i5 + 1, HE7.out, by omega, by simp; omega, by simp, J.call hb P8 f8⟩)
              | false =>
                have e2 : mustB s i5 (-1) 59 = i5 := by rw [mustB1, h59]; rfl
                rw [e2] at HE6
                have HB : Hid (R.bad = i5) := by show _ = _; rw [HE6]; exact st_blk _ (by omega)
                refine (want_no (c := 59) J.P (by decide) h59).mono ?_
                rintro e w8 ⟨rfl, f8⟩
                clear h59 HE6 e2
                go_wp2_with fail
                exact ⟨rfl, .inr (.inr ⟨by rw [HB.out], by rw [HB.out]; omega, J.F.trans f8⟩)⟩
  · have H1 := stop h1
    have HB : Hid (R.bad = regB s i (-1)) := by
      show _ = _
      rw [HE.out, if_neg (by simp [st_on h1]), if_neg (by simp [st_on h1])]
      exact st_braB (a := (regN s i (-1), i)) h1
    clear h1 HE
    refine (reg_no I.P hs H1.out).mono ?_
    rintro e w1 ⟨rfl, f1⟩
    go_wp2_with fail
    exact ⟨rfl, .inr (.inr ⟨by rw [HB.out], by rw [HB.out]; exact H1.out, I.F.trans f1⟩)⟩
end Go.Proofs.Ytjimoigbdcalpaa
