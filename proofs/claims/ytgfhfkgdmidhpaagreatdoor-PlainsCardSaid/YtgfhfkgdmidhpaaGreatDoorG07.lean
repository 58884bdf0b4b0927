import Derived.Test.YtgfhfkgdmidhpaaGreatDoorG06
import Derived.Deep.RegionHeldLaw
namespace Go.Proofs.YtgfhfkgdmidhpaaGreatDoor
open Go.RowKit

/-- A step as the program has it. -/
def stVal (t : RStep) : Value :=
  if t.op = 63 then .iface 272 (.agg #[.int .i64 t.to.1, .int .i64 t.to.2])
  else if t.op = 99 then .iface 142 (.agg #[.int .i64 t.to.1, .int .i64 t.to.2, .int .i64 t.a.1, .int .i64 t.a.2])
  else if t.op = 118 then .iface 177 (.agg #[.int .i64 t.to.1, .int .i64 t.to.2, .int .i64 t.n])
  else if t.op = 33 then .iface 315 (.agg #[.int .i64 t.a.1, .int .i64 t.a.2])
  else .iface 370 (.agg #[.int .i64 t.to.1, .int .i64 t.to.2, .int .i64 t.a.1, .int .i64 t.a.2, .int .i64 (opNum t.op), .int .i64 t.b.1, .int .i64 t.b.2])
theorem stVal_iface (t : RStep) : ∃ T x, stVal t = .iface T x := by
  unfold stVal
  repeat' split
  all_goals exact ⟨_, _, rfl⟩
theorem opC_range (s i bad) : opC s i bad = 0 ∨ opC s i bad = 43 ∨ opC s i bad = 45 ∨ opC s i bad = 42 ∨ opC s i bad = 60 := by
  unfold opC
  repeat' split
  all_goals simp
theorem stVal_op {t : RStep} {s i bad} (h : t.op = opC s i bad) : stVal t = .iface 370 (.agg #[.int .i64 t.to.1, .int .i64 t.to.2, .int .i64 t.a.1, .int .i64 t.a.2, .int .i64 (opNum t.op), .int .i64 t.b.1, .int .i64 t.b.2]) := by
  have := opC_range s i bad
  unfold stVal
  rw [if_neg (by omega), if_neg (by omega), if_neg (by omega), if_neg (by omega)]
theorem opBad {s i} (h : ¬ (opC s i (-1) ≠ 0 ∧ opB s i (-1) < 0)) :
    (opC s i (-1) = 0 ∧ opB s i (-1) = -1 ∧ opI s i (-1) = i ∧ brkOp s i = i) ∨ (opC s i (-1) ≠ 0 ∧ opB s i (-1) = brkOp s i ∧ 0 ≤ brkOp s i) := by
  by_cases h0 : opC s i (-1) = 0
  · left
    refine ⟨h0, ?_⟩
    unfold opC at h0
    have e1 : onF s i (-1) 43 = false := by cases e : onF s i (-1) 43 with | false => rfl | true => simp [e] at h0
    have e2 : onF s i (-1) 45 = false := by cases e : onF s i (-1) 45 with | false => rfl | true => simp [e1, e] at h0
    have e3 : onF s i (-1) 42 = false := by cases e : onF s i (-1) 42 with | false => rfl | true => simp [e1, e2, e] at h0
    have e4 : onF s i (-1) 60 = false := by cases e : onF s i (-1) 60 with | false => rfl | true => simp [e1, e2, e3, e] at h0
    have e5 : onF s i (-1) 195 = false := by cases e : onF s i (-1) 195 with | false => rfl | true => simp [e1, e2, e3, e4, e] at h0
    simp [opB, opI, brkOp, e1, e2, e3, e4, e5]
  · right
    have hB : 0 ≤ opB s i (-1) := by
      rcases Int.lt_or_le (opB s i (-1)) 0 with h1 | h1
      · exact absurd ⟨h0, h1⟩ h
      · exact h1
    refine ⟨h0, ?_⟩
    unfold opB at hB ⊢
    cases e1 : onF s i (-1) 43 with
    | true => simp [e1] at hB
    | false =>
      cases e2 : onF s i (-1) 45 with
      | true => simp [e1, e2] at hB
      | false =>
        cases e3 : onF s i (-1) 42 with
        | true => simp [e1, e2, e3] at hB
        | false =>
          cases e4 : onF s i (-1) 60 with
          | true => simp [e1, e2, e3, e4] at hB
          | false =>
            cases e5 : onF s i (-1) 195 with
            | false => simp [e1, e2, e3, e4, e5] at hB
            | true =>
              simp only [e1, e2, e3, e4, e5, mustB1, brkOp] at hB ⊢
              cases e6 : onF s (i + 1) (-1) 151 with
              | true => simp [e6] at hB
              | false => simp; omega

def GivPost (b g : Nat) (s : ByteArray) (w : World) (r : Giv) (e : Ending) (w' : World) : Prop :=
  (e = .returned (stVal r.st) ∧ r.bad = -1 ∧ RS w' b g s r.i ∧ Fr b w w') ∨ (e = .panicked (brk (mustB s r.i r.bad 59)) ∧ 0 ≤ mustB s r.i r.bad 59 ∧ Fr b w w')

set_option maxHeartbeats 1000000 in
theorem giving_any {b g : Nat} {s : ByteArray} {i tn ta : Nat} {w : World} (hp : RS w b g s i) (hs : s.size ≤ 200000) :
    Calls Tryz.prog 220 #[.pointer (some ⟨b,0,none⟩), .agg #[.int .i64 tn, .int .i64 ta]] w fun e w' => GivPost b g s w (givF s (tn, ta) i (-1)) e w' := by
  have hl := hp.lt
  have hgl := hp.glt
  cases h63 : onF s i (-1) 63 with
  | true =>
    have HG : Hid (givF s (tn, ta) i (-1) = ⟨⟨63, (tn, ta), (0, 0), (0, 0), 0⟩, i + 1, -1⟩) := by simp [Hid, givF, h63]
    have H63 := stop h63
    clear h63
    go_enter Tryz.func220, Tryz.ntmps220
    go_wp2_with fail
    refine (skip_yes (c := 63) (hp.alloc _) hs (by decide) H63.out).mono ?_
    rintro e w1 ⟨rfl, hp1, f1⟩
    have g0 : w1.heap[w.heap.size]? = some (.cells #[.int .i64 tn, .int .i64 ta] 132 (0, 0)) := blk_fr f1 (heap_alloc_last w _) (by omega)
    have q0 := cell_of g0
    clear g0
    go_wp2_with fail
    go_ret
    rw [HG.out]
    exact .inl ⟨rfl, rfl, hp1, ((Fr.refl _ _).alloc _).trans f1⟩
  | false =>
    have H63 := stop h63
    go_enter Tryz.func220, Tryz.ntmps220
    go_wp2_with fail
    refine (skip_no (c := 63) (hp.alloc _) (by decide) H63.out).mono ?_
    rintro e w1 ⟨rfl, hp1, f1⟩
    have g0 : w1.heap[w.heap.size]? = some (.cells #[.int .i64 tn, .int .i64 ta] 132 (0, 0)) := blk_fr f1 (heap_alloc_last w _) (by omega)
    have F : Fr b w w1 := ((Fr.refl _ _).alloc _).trans f1
    clear f1 hp H63
    go_wp2_with fail
    refine (sign_of hp1).mono ?_
    rintro e w2 ⟨x, rfl, hx, hp2, f2⟩
    replace g0 := blk_fr f2 g0 (by omega)
    replace F := F.trans f2
    have n0 : w.heap.size ≠ b := by omega
    have l0 := lt_of_block g0
    have a0 := cell_of g0 0
    have a1 := cell_of g0 1
    simp at a0 a1
    have hx114 := hx.on (c := 114) (by decide)
    cases h114 : onF s i (-1) 114 with
    | true =>
      rw [h114] at hx114
      have hx' : (x == 114) = true := hx114
      clear hx hx114 f2 hp1 g0
      go_wp2_with fail
      have FIN : ∀ (p : Int) (w5 : World), (givF s (tn, ta) i (-1)).bad = p → 0 ≤ p → Fr b w2.drew w5 → GivPost b g s w (givF s (tn, ta) i (-1)) (.panicked (brk p)) w5 := fun p w5 hb h0 f5 =>
        .inr ⟨by rw [hb, st_must h0], by rw [hb, st_must h0]; exact h0, F.drew.trans f5⟩
      have FIN' := stop FIN
      clear FIN
      have HGV : givF s (tn, ta) i (-1) = if opC s (regI s i (-1)) (regB s i (-1)) = 0 then ⟨⟨99, (tn, ta), (regN s i (-1), i), (0, 0), 0⟩, opI s (regI s i (-1)) (regB s i (-1)), opB s (regI s i (-1)) (regB s i (-1))⟩
        else ⟨⟨opC s (regI s i (-1)) (regB s i (-1)), (tn, ta), (regN s i (-1), i), (regN s (opI s (regI s i (-1)) (regB s i (-1))) (opB s (regI s i (-1)) (regB s i (-1))), opI s (regI s i (-1)) (regB s i (-1))), 0⟩, regI s (opI s (regI s i (-1)) (regB s i (-1))) (opB s (regI s i (-1)) (regB s i (-1))), regB s (opI s (regI s i (-1)) (regB s i (-1))) (opB s (regI s i (-1)) (regB s i (-1)))⟩ := by simp [givF, h63, h114]
      have HG := stop HGV
      clear HGV h63 h114
      rcases Int.lt_or_le (regB s i (-1)) 0 with h1 | h1
      · have e1 := (regOk h1).2.2.1
        have H1 := stop h1
        have HG2 := HG.out
        rw [e1] at HG2
        clear h1 HG e1
        generalize hi1 : regI s i (-1) = i1 at *
        have HI1 := stop hi1
        generalize hn1 : regN s i (-1) = n1 at *
        have HN1 := stop hn1
        clear hi1 hn1
        cases h59 : onF s i1 (-1) 59 with
        | true =>
          have hoc : opC s i1 (-1) = 0 := by
            simp [opC, on_uniq h59 (show 59 ≠ 43 by decide), on_uniq h59 (show 59 ≠ 45 by decide), on_uniq h59 (show 59 ≠ 42 by decide), on_uniq h59 (show 59 ≠ 60 by decide), on_uniq h59 (show 59 ≠ 195 by decide)]
          have hoi : opI s i1 (-1) = i1 := by
            simp [opI, on_uniq h59 (show 59 ≠ 43 by decide), on_uniq h59 (show 59 ≠ 45 by decide), on_uniq h59 (show 59 ≠ 42 by decide), on_uniq h59 (show 59 ≠ 60 by decide), on_uniq h59 (show 59 ≠ 195 by decide)]
          have hob : opB s i1 (-1) = -1 := by
            simp [opB, on_uniq h59 (show 59 ≠ 43 by decide), on_uniq h59 (show 59 ≠ 45 by decide), on_uniq h59 (show 59 ≠ 42 by decide), on_uniq h59 (show 59 ≠ 60 by decide), on_uniq h59 (show 59 ≠ 195 by decide)]
          rw [if_pos hoc, hoi, hob] at HG2
          have HG3 := stop HG2
          have H59 := stop h59
          clear HG2 h59 hoc hoi hob
          go_region_held (fun w' => w'.cell? ⟨w.heap.size, 0, none⟩ = some (.int .i64 tn) ∧ w'.cell? ⟨w.heap.size, 1, none⟩ = some (.int .i64 ta)) (simp [*])
            (first | (go_at_call 199; refine (reg_yes (RS.drew hp2) hs H1.out).mono ?_; rintro e w5 ⟨rfl, hp5, f5⟩; have y0 := f5.cells (k := w.heap.size) l0 n0; have l5 : w.heap.size < w5.heap.size := Nat.lt_of_lt_of_le l0 f5.size) | (go_at_call 245; rw [HI1.out] at hp5; refine (fr_copy hp5 H59.out).mono ?_; rintro e w6 ⟨rfl, hp6, f6⟩; have y6 := f6.cells (k := w.heap.size) l5 n0))
          go_wp2_with fail
          go_ret
          rw [HG3.out]
          exact .inl ⟨by rw [← HN1.out]; rfl, rfl, hp6, (F.drew.trans f5).trans f6⟩
        | false =>
          by_cases hop : opC s i1 (-1) ≠ 0 ∧ opB s i1 (-1) < 0
          · have hob : opB s i1 (-1) = -1 := by
              have h2 := hop.2
              unfold opB at h2 ⊢
              cases e1 : onF s i1 (-1) 43 with
              | true => rfl
              | false =>
                cases e2 : onF s i1 (-1) 45 with
                | true => rfl
                | false =>
                  cases e3 : onF s i1 (-1) 42 with
                  | true => rfl
                  | false =>
                    cases e4 : onF s i1 (-1) 60 with
                    | true => rfl
                    | false =>
                      cases e5 : onF s i1 (-1) 195 with
                      | false => rfl
                      | true =>
                        simp only [e1, e2, e3, e4, e5, mustB1] at h2 ⊢
                        cases e6 : onF s (i1 + 1) (-1) 151 with
                        | true => rfl
                        | false => simp [e6] at h2; omega
            rw [if_neg hop.1, hob] at HG2
            have HG3 := stop HG2
            have H59 := stop h59
            have HOP := stop hop
            clear HG2 h59 hop hob
            rcases Int.lt_or_le (regB s (opI s i1 (-1)) (-1)) 0 with h3 | h3
            · have H3 := stop h3
              have HB3 := stop (regOk h3).2.2.1
              clear h3
              go_region_held (fun w' => w'.cell? ⟨w.heap.size, 0, none⟩ = some (.int .i64 tn) ∧ w'.cell? ⟨w.heap.size, 1, none⟩ = some (.int .i64 ta)) (simp [*])
                (first | (go_at_call 199; refine (reg_yes (RS.drew hp2) hs H1.out).mono ?_; rintro e w5 ⟨rfl, hp5, f5⟩; have y0 := f5.cells (k := w.heap.size) l0 n0; have l5 : w.heap.size < w5.heap.size := Nat.lt_of_lt_of_le l0 f5.size) | (go_at_call 245; rw [HI1.out] at hp5; refine (fr_op hp5 hs H59.out HOP.out.1 HOP.out.2 H3.out).mono ?_; rintro e w6 ⟨rfl, hp6, f6⟩; have y6 := f6.cells (k := w.heap.size) l5 n0))
              go_wp2_with fail
              go_ret
              rw [HG3.out]
              exact .inl ⟨by rw [stVal_op (s := s) (i := i1) (bad := -1) rfl, ← HN1.out]; rfl, HB3.out, hp6, (F.drew.trans f5).trans f6⟩
            · have H3 := stop h3
              have HB : Hid ((givF s (tn, ta) i (-1)).bad = regB s (opI s i1 (-1)) (-1)) := by show _ = _; rw [HG3.out]
              clear h3
              go_region_held (fun w' => w'.cell? ⟨w.heap.size, 0, none⟩ = some (.int .i64 tn) ∧ w'.cell? ⟨w.heap.size, 1, none⟩ = some (.int .i64 ta)) (first | exact (Hid.out ‹Hid False›).elim | simp [*])
                (first | (go_at_call 199; refine (reg_yes (RS.drew hp2) hs H1.out).mono ?_; rintro e w5 ⟨rfl, hp5, f5⟩; have y0 := f5.cells (k := w.heap.size) l0 n0; have l5 : w.heap.size < w5.heap.size := Nat.lt_of_lt_of_le l0 f5.size) | (go_at_call 245; rw [HI1.out] at hp5; refine (never (fr_opbad hp5 hs H59.out HOP.out.1 HOP.out.2 H3.out) .nilIface).mono ?_; rintro e w6 (⟨rfl, f6⟩ | ⟨rfl, hF⟩); exact ⟨rfl, FIN'.out _ _ HB.out H3.out (f5.trans f6)⟩))
              all_goals exact (Hid.out ‹Hid False›).elim
          · have H59 := stop h59
            have HOP := stop hop
            have HPST : Hid (∀ w6, Fr b w2.drew w6 → GivPost b g s w (givF s (tn, ta) i (-1)) (.panicked (brk (brkOp s i1))) w6) := by
              intro w6 f6
              rcases opBad hop with ⟨q1, q2, q3, q4⟩ | ⟨q1, q2, q3⟩
              · rw [if_pos q1, q2, q3] at HG2
                refine .inr ⟨?_, ?_, F.drew.trans f6⟩
                · rw [HG2, q4]; simp only [mustB1, h59]; rfl
                · rw [HG2]; simp only [mustB1, h59]; simp
              · rw [if_neg q1, q2] at HG2
                exact FIN'.out _ _ (by rw [HG2]; exact st_regB q3) q3 f6
            clear HG2 h59 hop
            go_region_held (fun w' => w'.cell? ⟨w.heap.size, 0, none⟩ = some (.int .i64 tn) ∧ w'.cell? ⟨w.heap.size, 1, none⟩ = some (.int .i64 ta)) (first | exact (Hid.out ‹Hid False›).elim | simp [*])
              (first | (go_at_call 199; refine (reg_yes (RS.drew hp2) hs H1.out).mono ?_; rintro e w5 ⟨rfl, hp5, f5⟩; have y0 := f5.cells (k := w.heap.size) l0 n0; have l5 : w.heap.size < w5.heap.size := Nat.lt_of_lt_of_le l0 f5.size) | (go_at_call 245; rw [HI1.out] at hp5; refine (never (fr_no hp5 hs H59.out HOP.out) .nilIface).mono ?_; rintro e w6 (⟨rfl, f6⟩ | ⟨rfl, hF⟩); exact ⟨rfl, HPST.out _ (f5.trans f6)⟩))
            all_goals exact (Hid.out ‹Hid False›).elim
      · have H1 := stop h1
        have HB : Hid ((givF s (tn, ta) i (-1)).bad = regB s i (-1)) := by show _ = _; rw [HG.out, if_pos (st_opC h1)]; exact st_opB h1
        clear h1 HG
        go_region_held (fun w' => w'.cell? ⟨w.heap.size, 0, none⟩ = some (.int .i64 tn) ∧ w'.cell? ⟨w.heap.size, 1, none⟩ = some (.int .i64 ta)) (first | exact (Hid.out ‹Hid False›).elim | simp [*])
          (first | (go_at_call 199; refine (never (reg_no (RS.drew hp2) hs H1.out) (.agg #[.int .i64 0, .int .i64 0])).mono ?_; rintro e w5 (⟨rfl, f5⟩ | ⟨rfl, hF⟩); exact ⟨rfl, FIN'.out _ _ HB.out H1.out f5⟩) | (go_at_call 245; refine (Calls.mono (R := fun e _ => e = .returned .nilIface) (Hid.out ‹Hid False›).elim ?_); rintro e w6 rfl))
        all_goals exact (Hid.out ‹Hid False›).elim
    | false =>
      rw [h114] at hx114
      have hx' : (x == 114) = false := hx114
      clear hx hx114 f2 hp1
      go_wp2_with fail
      cases h45 : onF s i (-1) 45 with
      | true =>
        refine (skip_yes (c := 45) hp2 hs (by decide) h45).mono ?_
        rintro e w3 ⟨rfl, hp3, f3⟩
        replace g0 := blk_fr f3 g0 (by omega)
        replace F := F.trans f3
        replace l0 := lt_of_block g0
        replace a0 := cell_of g0 0
        replace a1 := cell_of g0 1
        simp at a0 a1
        clear f3 hp2 hx'
        go_wp2_with fail
        refine (sign_of hp3).mono ?_
        rintro e w4 ⟨y, rfl, hy, hp4, f4⟩
        replace g0 := blk_fr f4 g0 (by omega)
        replace F := F.trans f4
        replace l0 := lt_of_block g0
        replace a0 := cell_of g0 0
        replace a1 := cell_of g0 1
        simp at a0 a1
        have hy48 := hy.on (c := 48) (by decide)
        clear f4 hp3 hy g0
        cases h48 : onF s (i + 1) (-1) 48 with
        | true =>
          have HG : Hid ((givF s (tn, ta) i (-1)).bad = ((i + 1 : Nat) : Int)) := by
            show _ = _
            rw [givF, if_neg (by simp [h63]), if_neg (by simp [h114]), if_pos h45]
            simp only [h48, if_true, failB1]
            exact st_numB (by omega)
          rw [h48] at hy48
          have hy' : (y == 48) = true := hy48
          clear h63 h114 h45 h48 hy48
          go_wp2_with fail
          refine (brk_at hp4).mono ?_
          rintro e w5 ⟨rfl, f5⟩
          go_wp2_with fail
          refine ⟨rfl, .inr ⟨?_, ?_, F.trans f5⟩⟩
          · rw [HG.out, st_must (by omega)]; rfl
          · rw [HG.out, st_must (by omega)]; omega
        | false =>
          rw [h48] at hy48
          have hy' : (y == 48) = false := hy48
          have HG : Hid (givF s (tn, ta) i (-1) = ⟨⟨118, (tn, ta), (0, 0), (0, 0), -(numN s (i + 1) (-1) : Int)⟩, numI s (i + 1) (-1), numB s (i + 1) (-1)⟩) := by simp [Hid, givF, h63, h114, h45, h48]
          clear h63 h114 h45 h48 hy48
          go_wp2_with fail
          cases hd : digF s (i + 1) (-1) with
          | true =>
            have HD := stop hd
            have nl := numN_lt s (i + 1) (-1)
            have nl1 : (0 : Int) ≤ (numN s (i + 1) (-1) : Int) := by omega
            have nl2 : (numN s (i + 1) (-1) : Int) < 10000 := by omega
            clear hd
            go_region_held (fun w' => w'.cell? ⟨w.heap.size, 0, none⟩ = some (.int .i64 tn) ∧ w'.cell? ⟨w.heap.size, 1, none⟩ = some (.int .i64 ta)) (simp [*])
              (first | (go_at_call 218; refine (num_yes (RS.drew hp4) hs HD.out).mono ?_; rintro e w5 ⟨rfl, hp5, f5⟩; have y0 := f5.cells (k := w.heap.size) l0 n0))
            go_wp2_with fail
            go_ret
            rw [HG.out]
            refine .inl ⟨by rw [show Value.int .i64 (IntKind.i64.wrap (-(numN s (i + 1) (-1) : Int))) = .int .i64 (-(numN s (i + 1) (-1) : Int)) from by rw [IntKind.wrap_i64]; congr 1; omega]; simp [stVal], ?_, hp5, F.drew.trans f5⟩
            rw [numB1, HD.out]; rfl
          | false =>
            have HD := stop hd
            have HB : Hid ((givF s (tn, ta) i (-1)).bad = ((i + 1 : Nat) : Int)) := by
              show _ = _
              rw [HG.out, numB1, hd]; rfl
            clear hd
            have FIN : ∀ w5, Fr b w4.drew w5 → GivPost b g s w (givF s (tn, ta) i (-1)) (.panicked (brk ((i + 1 : Nat) : Int))) w5 := fun w5 f5 =>
              .inr ⟨by rw [HB.out, st_must (by omega)], by rw [HB.out, st_must (by omega)]; omega, F.drew.trans f5⟩
            have FIN' := stop FIN
            clear FIN
            go_region_held (fun w' => w'.cell? ⟨w.heap.size, 0, none⟩ = some (.int .i64 tn) ∧ w'.cell? ⟨w.heap.size, 1, none⟩ = some (.int .i64 ta)) (first | exact (Hid.out ‹Hid False›).elim | simp [*])
              (first | (go_at_call 218; refine (never (num_no (RS.drew hp4) HD.out) (.int .i64 0)).mono ?_; rintro e w5 (⟨rfl, f5⟩ | ⟨rfl, hF⟩); exact ⟨rfl, FIN'.out _ f5⟩))
            all_goals exact (Hid.out ‹Hid False›).elim
      | false =>
        refine (skip_no (c := 45) hp2 (by decide) h45).mono ?_
        rintro e w3 ⟨rfl, hp3, f3⟩
        replace g0 := blk_fr f3 g0 (by omega)
        replace F := F.trans f3
        replace l0 := lt_of_block g0
        replace a0 := cell_of g0 0
        replace a1 := cell_of g0 1
        simp at a0 a1
        have HG : Hid (givF s (tn, ta) i (-1) = ⟨⟨118, (tn, ta), (0, 0), (0, 0), numN s i (-1)⟩, numI s i (-1), numB s i (-1)⟩) := by simp [Hid, givF, h63, h114, h45]
        clear f3 hp2 hx' h63 h114 h45 g0
        go_wp2_with fail
        cases hd : digF s i (-1) with
        | true =>
          have HD := stop hd
          clear hd
          go_region_held (fun w' => w'.cell? ⟨w.heap.size, 0, none⟩ = some (.int .i64 tn) ∧ w'.cell? ⟨w.heap.size, 1, none⟩ = some (.int .i64 ta)) (simp [*])
            (first | (go_at_call 218; refine (num_yes (RS.drew hp3) hs HD.out).mono ?_; rintro e w5 ⟨rfl, hp5, f5⟩; have y0 := f5.cells (k := w.heap.size) l0 n0))
          go_wp2_with fail
          go_ret
          rw [HG.out]
          refine .inl ⟨rfl, ?_, hp5, F.drew.trans f5⟩
          rw [numB1, HD.out]; rfl
        | false =>
          have HD := stop hd
          have HB : Hid ((givF s (tn, ta) i (-1)).bad = (i : Int)) := by
            show _ = _
            rw [HG.out, numB1, hd]; rfl
          clear hd
          have FIN : ∀ w5, Fr b w3.drew w5 → GivPost b g s w (givF s (tn, ta) i (-1)) (.panicked (brk (i : Int))) w5 := fun w5 f5 =>
            .inr ⟨by rw [HB.out, st_must (by omega)], by rw [HB.out, st_must (by omega)]; omega, F.drew.trans f5⟩
          have FIN' := stop FIN
          clear FIN
          go_region_held (fun w' => w'.cell? ⟨w.heap.size, 0, none⟩ = some (.int .i64 tn) ∧ w'.cell? ⟨w.heap.size, 1, none⟩ = some (.int .i64 ta)) (first | exact (Hid.out ‹Hid False›).elim | simp [*])
            (first | (go_at_call 218; refine (never (num_no (RS.drew hp3) HD.out) (.int .i64 0)).mono ?_; rintro e w5 (⟨rfl, f5⟩ | ⟨rfl, hF⟩); exact ⟨rfl, FIN'.out _ f5⟩))
          all_goals exact (Hid.out ‹Hid False›).elim
end Go.Proofs.YtgfhfkgdmidhpaaGreatDoor

namespace Go.Proofs.YtgfhfkgdmidhpaaGreatDoor
open Go.RowKit

/-- An end as the program has it. -/
def endVal (e : REnd) : Value :=
  if e.op = 46 then .iface 309 (.agg #[])
  else if e.op = 62 then .iface 312 (.agg #[.int .i64 e.one.1, .int .i64 e.one.2])
  else .iface 353 (.agg #[.int .i64 e.a.1, .int .i64 e.a.2, .int .i64 e.one.1, .int .i64 e.one.2, .int .i64 e.two.1, .int .i64 e.two.2])
/-- A branch behind its question mark. -/
def braT (s : ByteArray) (a : Nat × Nat) (i : Nat) : Bra :=
  let i2 := numI s i (-1)
  let b2 := numB s i (-1)
  let i3 := gotI s i2 b2 58
  let b3 := mustB s i2 b2 58
  ⟨⟨63, a, (numN s i (-1), i), (numN s i3 b3, i3)⟩, numI s i3 b3, numB s i3 b3⟩
theorem braF_yes {s a i} (h : onF s i (-1) 63 = true) : braF s a i (-1) = braT s a (i + 1) := by
  have g1 : gotI s i (-1) 63 = i + 1 := by rw [gotI, if_pos h]
  have g2 : mustB s i (-1) 63 = -1 := by rw [mustB, if_pos h]
  simp only [braF, braT, g1, g2]
theorem braF_no {s a i} (h : onF s i (-1) 63 = false) : (braF s a i (-1)).bad = i := by
  have g2 : mustB s i (-1) 63 = i := by rw [mustB1, h]; rfl
  simp only [braF, g2]
  rw [st_numB, st_must, st_numB]
  all_goals first | omega | (rw [st_numB (by omega)]; omega) | (rw [st_must, st_numB] <;> first | omega | (rw [st_numB (by omega)]; omega))

def BraPost (b g : Nat) (s : ByteArray) (w : World) (r : Bra) (e : Ending) (w' : World) : Prop :=
  (e = .returned (endVal r.e) ∧ r.bad = -1 ∧ RS w' b g s r.i ∧ Fr b w w') ∨ (e = .panicked (brk r.bad) ∧ 0 ≤ r.bad ∧ Fr b w w')

set_option maxHeartbeats 1000000 in
theorem fork_any {b g : Nat} {s : ByteArray} {i an aa : Nat} {w : World} (hp : RS w b g s i) (hs : s.size ≤ 200000) :
    Calls Tryz.prog 219 #[.pointer (some ⟨b,0,none⟩), .agg #[.int .i64 an, .int .i64 aa]] w fun e w' => BraPost b g s w (braT s (an, aa) i) e w' := by
  have hl := hp.lt
  have hgl := hp.glt
  cases hd : digF s i (-1) with
  | false =>
    have HB : Hid ((braT s (an, aa) i).bad = i) := by
      have g1 : numB s i (-1) = i := by rw [numB1, hd]; rfl
      show _ = _
      simp only [braT, g1]
      rw [st_numB, st_must]
      · omega
      · rw [st_must (by omega)]; omega
    have HD := stop hd
    clear hd
    go_enter Tryz.func219, Tryz.ntmps219
    go_wp2_with fail
    refine (goal_no (hp.alloc _) HD.out).mono ?_
    rintro e w1 ⟨rfl, f1⟩
    go_wp2_with fail
    exact ⟨rfl, .inr ⟨by rw [HB.out], by rw [HB.out]; omega, ((Fr.refl _ _).alloc _).trans f1⟩⟩
  | true =>
    have HD := stop hd
    have g1 : numB s i (-1) = -1 := by rw [numB1, hd]; rfl
    have HT : braT s (an, aa) i = ⟨⟨63, (an, aa), (numN s i (-1), i), (numN s (gotI s (numI s i (-1)) (-1) 58) (mustB s (numI s i (-1)) (-1) 58), gotI s (numI s i (-1)) (-1) 58)⟩, numI s (gotI s (numI s i (-1)) (-1) 58) (mustB s (numI s i (-1)) (-1) 58), numB s (gotI s (numI s i (-1)) (-1) 58) (mustB s (numI s i (-1)) (-1) 58)⟩ := by simp only [braT, g1]
    clear hd g1
    go_enter Tryz.func219, Tryz.ntmps219
    go_wp2_with fail
    refine (goal_yes (hp.alloc _) hs HD.out).mono ?_
    rintro e w1 ⟨rfl, hp1, f1⟩
    have l1 := hp1.lt
    have lg1 := hp1.glt
    have g0 : w1.heap[w.heap.size]? = some (.cells #[.int .i64 an, .int .i64 aa] 132 (0, 0)) := blk_fr f1 (heap_alloc_last w _) (by omega)
    have lw := f1.size
    rw [World.size_alloc] at lw
    have F : Fr b w w1 := ((Fr.refl _ _).alloc _).trans f1
    have HT' := stop HT
    clear HT f1
    generalize numI s i (-1) = i2 at *
    generalize numN s i (-1) = n1 at *
    go_wp2_with fail
    cases h58 : onF s i2 (-1) 58 with
    | false =>
      have HB : Hid ((braT s (an, aa) i).bad = i2) := by
        show _ = _
        have g3 : mustB s i2 (-1) 58 = i2 := by rw [mustB1, h58]; rfl
        rw [HT'.out, g3]
        show numB s (gotI s i2 (-1) 58) (i2 : Int) = i2
        exact st_numB (by omega)
      refine (want_no (c := 58) (hp1.alloc _) (by decide) h58).mono ?_
      rintro e w2 ⟨rfl, f2⟩
      clear h58
      go_wp2_with fail
      exact ⟨rfl, .inr ⟨by rw [HB.out], by rw [HB.out]; omega, (F.alloc _).trans f2⟩⟩
    | true =>
      have e3 : gotI s i2 (-1) 58 = i2 + 1 := by rw [gotI, if_pos h58]
      have e4 : mustB s i2 (-1) 58 = -1 := by rw [mustB, if_pos h58]
      have HT2 := HT'.out
      rw [e3, e4] at HT2
      have HT3 := stop HT2
      refine (want_yes (c := 58) (hp1.alloc _) hs (by decide) h58).mono ?_
      rintro e w2 ⟨rfl, hp2, f2⟩
      have gg := f2.own (by omega)
      replace g0 := blk_fr f2 (blk_alloc g0 _) (by omega)
      replace F := (F.alloc _).trans f2
      have lw2 := f2.size
      rw [World.size_alloc] at lw2
      clear h58 HT' HT2 e3 e4 f2
      have a0 := cell_of g0 0
      have a1 := cell_of g0 1
      have c0 := cell_of gg 0
      have c1 := cell_of gg 1
      simp at a0 a1 c0 c1
      have k0 : w.heap.size < w2.heap.size := by omega
      have k1 : w1.heap.size < w2.heap.size := by omega
      have n0 : w.heap.size ≠ b := by omega
      have n1' : w1.heap.size ≠ b := by omega
      clear g0 gg
      go_wp2_with fail
      cases hd2 : digF s (i2 + 1) (-1) with
      | true =>
        have HD2 := stop hd2
        clear hd2
        go_region_held (fun w' => w'.cell? ⟨w.heap.size, 0, none⟩ = some (.int .i64 an) ∧ w'.cell? ⟨w.heap.size, 1, none⟩ = some (.int .i64 aa) ∧ w'.cell? ⟨w1.heap.size, 0, none⟩ = some (.int .i64 n1) ∧ w'.cell? ⟨w1.heap.size, 1, none⟩ = some (.int .i64 i)) (simp [*])
          (first | (go_at_call 198; refine (goal_yes (RS.drew hp2) hs HD2.out).mono ?_; rintro e w5 ⟨rfl, hp5, f5⟩; have y0 := f5.cells (k := w.heap.size) k0 n0; have y1 := f5.cells (k := w1.heap.size) k1 n1'))
        go_wp2_with fail
        go_ret
        rw [HT3.out]
        refine .inl ⟨rfl, ?_, hp5, F.drew.trans f5⟩
        rw [numB1, HD2.out]; rfl
      | false =>
        have HD2 := stop hd2
        have HB : Hid ((braT s (an, aa) i).bad = ((i2 + 1 : Nat) : Int)) := by
          show _ = _
          rw [HT3.out, numB1, hd2]; rfl
        clear hd2
        have FIN : Hid (∀ w5, Fr b w2.drew w5 → BraPost b g s w (braT s (an, aa) i) (.panicked (brk ((i2 + 1 : Nat) : Int))) w5) := fun w5 f5 =>
          .inr ⟨by rw [HB.out], by rw [HB.out]; omega, F.drew.trans f5⟩
        go_region_held (fun w' => w'.cell? ⟨w.heap.size, 0, none⟩ = some (.int .i64 an) ∧ w'.cell? ⟨w.heap.size, 1, none⟩ = some (.int .i64 aa) ∧ w'.cell? ⟨w1.heap.size, 0, none⟩ = some (.int .i64 n1) ∧ w'.cell? ⟨w1.heap.size, 1, none⟩ = some (.int .i64 i)) (first | exact (Hid.out ‹Hid False›).elim | simp [*])
          (first | (go_at_call 198; refine (never (goal_no (RS.drew hp2) HD2.out) (.agg #[.int .i64 0, .int .i64 0])).mono ?_; rintro e w5 (⟨rfl, f5⟩ | ⟨rfl, hF⟩); exact ⟨rfl, FIN.out _ f5⟩))
        all_goals exact (Hid.out ‹Hid False›).elim
end Go.Proofs.YtgfhfkgdmidhpaaGreatDoor
