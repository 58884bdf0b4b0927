import Derived.Test.YtgfhfkgdmidhpaaGreatDoorQJ
import Derived.Test.YtgfhfkgdmidhpaaGreatDoorPD
namespace Go.Proofs.YtgfhfkgdmidhpaaGreatDoor
open Go.RowKit

theorem flat_take {α : Type} (l : List α) (f : α → List (Nat × Nat)) (t : Nat) : ((l.take t).flatMap f).length ≤ (l.flatMap f).length := by
  conv => rhs; rw [← List.take_append_drop t l, List.flatMap_append, List.length_append]
  omega

set_option maxRecDepth 100000 in
set_option maxHeartbeats 4000000 in
theorem regsOfP (b : RBlk) (at_ base : Nat) (qc : Option Addr) (cc : Nat) (ps : Option Addr) (cs : Nat) (w : World) (hC : PChs w base b.chs (.slice qc b.chs.length cc)) (hS : w.ownsRow base 150 1 (.slice ps b.sts.length cs) b.sts.length (b.sts.map stVal)) (hop : b.e.op = 46 ∨ b.e.op = 62 ∨ b.e.op = 63) (hl : (regsB b).length ≤ 10000000) :
    Calls Tryz.prog 96 #[.agg #[.int .i64 at_, .slice qc b.chs.length cc, .slice ps b.sts.length cs, endVal b.e]] w fun x w' => ∃ v, x = .returned v ∧ Hid (w'.ownsRow w.heap.size 132 2 v (regsB b).length (pcs (regsB b)) ∧ Below w.heap.size w w') := by
  obtain ⟨TE, xe, fe, hev, hem, het, hec⟩ := endM b.e hop
  rw [hev]
  have HES := stop (And.intro hem (And.intro het hec))
  have HC := stop hC
  have HS := stop hS
  have hb1 : ∀ t, ((b.chs.take t).flatMap regsC).length ≤ 10000000 := fun t => by
    have h1 := flat_take b.chs regsC t
    unfold regsB regsCS at hl
    rw [List.length_append, List.length_append] at hl
    omega
  have hb3 : ∀ t, (b.chs.flatMap regsC ++ (b.sts.take t).flatMap regsS).length ≤ 10000000 := fun t => by
    have h1 := flat_take b.sts regsS t
    unfold regsB regsCS at hl
    rw [List.length_append, List.length_append] at hl
    rw [List.length_append]
    omega
  have HB1 := stop hb1
  have HB3 := stop hb3
  have hcl : b.chs.length ≤ 10000000 := by
    have h1 := hb1 b.chs.length
    rw [List.take_length] at h1
    have h2 : ∀ l : List RCho, l.length ≤ (l.flatMap regsC).length := fun l => by
      induction l with
      | nil => exact Nat.le_refl _
      | cons c l ih => rw [List.flatMap_cons, List.length_append, List.length_cons]; unfold regsC at ih ⊢; rw [List.length_cons]; omega
    have := h2 b.chs
    omega
  have hslen : b.sts.length ≤ 10000000 := by
    have h1 := hb3 b.sts.length
    rw [List.take_length, List.length_append] at h1
    have h2 : ∀ l : List RStep, l.length ≤ (l.flatMap regsS).length := fun l => by
      induction l with
      | nil => exact Nat.le_refl _
      | cons c l ih =>
        have h3 : 1 ≤ (regsS c).length := by
          unfold regsS
          by_cases h : c.op = 33
          · rw [if_pos h]; unfold regsA; rw [if_neg (by omega), if_neg (by omega), if_pos h]; simp
          · rw [if_neg h]; simp
        rw [List.flatMap_cons, List.length_append, List.length_cons]; omega
    have := h2 b.sts
    omega
  clear hev hem het hec hC hS hop hb1 hb3
  go_enter Tryz.func96, Tryz.ntmps96
  go_wp2_with fail
  have F0 : Hid (Below w.heap.size w (w.alloc (.cells #[.int .i64 at_, .slice qc b.chs.length cc, .slice ps b.sts.length cs, .iface TE xe] 104)) ∧ (w.alloc (.cells #[.int .i64 at_, .slice qc b.chs.length cc, .slice ps b.sts.length cs, .iface TE xe] 104)).heap[w.heap.size]? = some (.cells #[.int .i64 at_, .slice qc b.chs.length cc, .slice ps b.sts.length cs, .iface TE xe] 104 (0, 0))) := ⟨(Below.refl _ _).alloc (Nat.le_refl _) _, heap_alloc_last _ _⟩
  go_loopw [3, 15] (fun v ii wr => ∃ (t : Nat) (R : List (Nat × Nat)), t ≤ b.chs.length ∧ ii = .int .i64 t ∧ Hid (R = (b.chs.take t).flatMap regsC) ∧ wr.ownsRow w.heap.size 132 2 v R.length (pcs R) ∧ Hid (Below w.heap.size w wr ∧ wr.heap[w.heap.size]? = some (.cells #[.int .i64 at_, .slice qc b.chs.length cc, .slice ps b.sts.length cs, .iface TE xe] 104 (0, 0)))) (fun _ ii _ => b.chs.length - (intOf ii).toNat)
  case atStart => exact ⟨0, [], by omega, rfl, rfl, World.ownsRow_nil _ _ _ _, F0⟩
  case round =>
    clear F0
    obtain ⟨t, R, ht, rfl, HR, OV, HF⟩ := hrel
    rename World => wA
    obtain ⟨pV, cV, rfl⟩ := owns_slice2 OV
    have HOV := stop OV
    have hzA := HF.out.1.size
    have hgA := lt_of_block HF.out.2
    have hRl : R.length ≤ 10000000 := by have := HB1.out t; rw [← HR.out] at this; exact this
    clear OV
    by_cases htl : t < b.chs.length
    · obtain ⟨gc, pu, cu, rfl, _, hgc, hgr, OU, c0, c1, c2⟩ := HC.out.at htl
      replace c0 := (HF.out.1.cell (p := ⟨gc, t * 3, none⟩) hgc).trans c0
      replace c1 := (HF.out.1.cell (p := ⟨gc, t * 3 + 1, none⟩) hgc).trans c1
      replace c2 := (HF.out.1.cell (p := ⟨gc, t * 3 + 2, none⟩) hgc).trans c2
      have HOU := stop OU
      have HGR := stop hgr
      have HN : Hid ((b.chs.take (t + 1)).flatMap regsC = R ++ [b.chs[t].to] ++ b.chs[t].rs) := by
        show _ = _
        rw [List.take_succ_eq_append_getElem htl, List.flatMap_append, List.flatMap_cons, List.flatMap_nil, List.append_nil, HR.out, List.append_assoc]; rfl
      have hRn : (R ++ [b.chs[t].to] ++ b.chs[t].rs).length ≤ 10000000 := by have := HB1.out (t + 1); rw [HN.out] at this; exact this
      rw [List.length_append, List.length_append, List.length_singleton] at hRn
      have F3 := (Below.refl wA.heap.size wA).alloc (Nat.le_refl _) (.cells #[.int .i64 b.chs[t].to.1, .int .i64 b.chs[t].to.2, .slice pu b.chs[t].gs.length cu] 140)
      have H3 : Hid ((wA.alloc (.cells #[.int .i64 b.chs[t].to.1, .int .i64 b.chs[t].to.2, .slice pu b.chs[t].gs.length cu] 140)).ownsRow w.heap.size 132 2 (.slice pV R.length cV) R.length (pcs R) ∧ Below w.heap.size w (wA.alloc (.cells #[.int .i64 b.chs[t].to.1, .int .i64 b.chs[t].to.2, .slice pu b.chs[t].gs.length cu] 140)) ∧ (wA.alloc (.cells #[.int .i64 b.chs[t].to.1, .int .i64 b.chs[t].to.2, .slice pu b.chs[t].gs.length cu] 140)).heap[w.heap.size]? = some (.cells #[.int .i64 at_, .slice (some ⟨gc, 0, none⟩) b.chs.length cc, .slice ps b.sts.length cs, .iface TE xe] 104 (0, 0)) ∧ (wA.alloc (.cells #[.int .i64 b.chs[t].to.1, .int .i64 b.chs[t].to.2, .slice pu b.chs[t].gs.length cu] 140)).heap[wA.heap.size]? = some (.cells #[.int .i64 b.chs[t].to.1, .int .i64 b.chs[t].to.2, .slice pu b.chs[t].gs.length cu] 140 (0, 0))) := ⟨HOV.out.alloc _, HF.out.1.trans (F3.mono hzA), by rw [F3.block _ hgA]; exact HF.out.2, heap_alloc_last _ _⟩
      clear OU hgr F3 HF HOV
      go_wp2_with (at_builtin; refine unstop ?_)
      refine stop ?_
      clear c0 c1 c2
      have hW := World.size_alloc wA (.cells #[.int .i64 b.chs[t].to.1, .int .i64 b.chs[t].to.2, .slice pu b.chs[t].gs.length cu] 140)
      generalize wA.alloc (.cells #[.int .i64 b.chs[t].to.1, .int .i64 b.chs[t].to.2, .slice pu b.chs[t].gs.length cu] 140) = W1 at *
      have hz1 := H3.out.2.1.size
      have gB := heap_alloc_last W1 (.cells #[.int .i64 b.chs[t].to.1, .int .i64 b.chs[t].to.2] 132)
      rw [hW] at gB
      clear hW
      have OB := H3.out.1.alloc (.cells #[.int .i64 b.chs[t].to.1, .int .i64 b.chs[t].to.2] 132)
      refine app1A Tryz.underlying196 Tryz.info132 rfl (by decide) (by decide) rfl _ _ rfl rfl OB gB rfl rfl (List.all_eq_true.1 rfl) (by omega) (by simp; omega) ?_
      intro v6 w6 oS gS nS
      obtain ⟨v6p, v6c, rfl⟩ := owns_slice2 oS
      have C6 := grown_ch gS
      have H6 : Hid (w6.ownsRow w.heap.size 132 2 (.slice v6p (R.length + 1) v6c) (R ++ [b.chs[t].to]).length (pcs (R ++ [b.chs[t].to])) ∧ Below w.heap.size w w6 ∧ w6.heap[w.heap.size]? = some (.cells #[.int .i64 at_, .slice (some ⟨gc, 0, none⟩) b.chs.length cc, .slice ps b.sts.length cs, .iface TE xe] 104 (0, 0)) ∧ w6.heap[wA.heap.size]? = some (.cells #[.int .i64 b.chs[t].to.1, .int .i64 b.chs[t].to.2, .slice pu b.chs[t].gs.length cu] 140 (0, 0))) := by
        refine ⟨by rw [pcs_app, List.length_append]; exact oS, H3.out.2.1.trans (C6.toBelow hz1 (fun j hj => (H3.out.1.lt j hj.symm).1)), ?_, ?_⟩
        · rw [C6.block _ (lt_of_block H3.out.2.2.1) (fun e2 => own_type H3.out.1 H3.out.2.2.1 (by decide) e2.symm)]; exact H3.out.2.2.1
        · rw [C6.block _ (lt_of_block H3.out.2.2.2) (fun e2 => own_type H3.out.1 H3.out.2.2.2 (by decide) e2.symm)]; exact H3.out.2.2.2
      clear oS gS nS gB OB C6 H3
      have y2 := cell_of H6.out.2.2.2 2
      simp at y2
      go_wp2_with fail
      clear y2
      obtain ⟨R1, hR1⟩ : ∃ R1, R1 = R ++ [b.chs[t].to] := ⟨_, rfl⟩
      have hR1l : R1.length = R.length + 1 := by rw [hR1]; simp
      have H7 : Hid (w6.ownsRow w.heap.size 132 2 (.slice v6p (R.length + 1) v6c) R1.length (pcs R1) ∧ Below w.heap.size w w6 ∧ w6.heap[w.heap.size]? = some (.cells #[.int .i64 at_, .slice (some ⟨gc, 0, none⟩) b.chs.length cc, .slice ps b.sts.length cs, .iface TE xe] 104 (0, 0))) := by
        rw [hR1]; exact ⟨H6.out.1, H6.out.2.1, H6.out.2.2.1⟩
      have HR1 := stop hR1
      have hR1b : R1.length + b.chs[t].rs.length ≤ 10000000 := by omega
      clear hR1 H6 hR1l
      go_loopw [3, 27] (fun v jj wr => ∃ (q : Nat) (X : List (Nat × Nat)), q ≤ b.chs[t].gs.length ∧ jj = .int .i64 q ∧ X.length = R1.length + q ∧ Hid (X = R1 ++ b.chs[t].rs.take q) ∧ wr.ownsRow w.heap.size 132 2 v X.length (pcs X) ∧ Hid (Below w.heap.size w wr ∧ wr.heap[w.heap.size]? = some (.cells #[.int .i64 at_, .slice (some ⟨gc, 0, none⟩) b.chs.length cc, .slice ps b.sts.length cs, .iface TE xe] 104 (0, 0)))) (fun _ jj _ => b.chs[t].gs.length - (intOf jj).toNat)
      case atStart => exact ⟨0, R1, by omega, rfl, rfl, by show _ = _; simp, H7.out.1, H7.out.2⟩
      case round =>
        clear H7
        obtain ⟨q, X, hq, rfl, hXl, HX, OV, HF⟩ := hrel
        rename World => wB
        obtain ⟨pX, cX, rfl⟩ := owns_slice2 OV
        have HOV := stop OV
        have hzB := HF.out.1.size
        have hgB := lt_of_block HF.out.2
        have HXL := stop hXl
        have hXb : X.length ≤ 10000000 := by have := HGR.out; omega
        clear OV hXl
        by_cases hql : q < b.chs[t].gs.length
        · have hqr : q < b.chs[t].rs.length := by have := HGR.out; omega
          have OU := owns_keeps HOU.out (Keeps.below (T := fun _ => True) HF.out.1) trivial
          obtain ⟨gu, rfl, _, _⟩ := owns_form OU (by omega)
          have f0 := owns_cell OU (srcCells_at HGR.out hql).1
          have f1 := owns_cell OU (srcCells_at HGR.out hql).2.1
          have f2 := owns_cell OU (srcCells_at HGR.out hql).2.2.1
          have f3 := owns_cell OU (srcCells_at HGR.out hql).2.2.2
          have HNX : Hid (X ++ [b.chs[t].rs[q]] = R1 ++ b.chs[t].rs.take (q + 1)) := by show _ = _; rw [List.take_succ_eq_append_getElem hqr, ← List.append_assoc, HX.out]
          generalize b.chs[t].rs[q] = rr at *
          generalize b.chs[t].gs[q] = gg at *
          have F5 := (Below.refl wB.heap.size wB).alloc (Nat.le_refl _) (.cells #[.int .i64 gg.1, .int .i64 gg.2, .int .i64 rr.1, .int .i64 rr.2] 147)
          have H5 : Hid ((wB.alloc (.cells #[.int .i64 gg.1, .int .i64 gg.2, .int .i64 rr.1, .int .i64 rr.2] 147)).ownsRow w.heap.size 132 2 (.slice pX X.length cX) X.length (pcs X) ∧ Below w.heap.size w (wB.alloc (.cells #[.int .i64 gg.1, .int .i64 gg.2, .int .i64 rr.1, .int .i64 rr.2] 147)) ∧ (wB.alloc (.cells #[.int .i64 gg.1, .int .i64 gg.2, .int .i64 rr.1, .int .i64 rr.2] 147)).heap[w.heap.size]? = some (.cells #[.int .i64 at_, .slice (some ⟨gc, 0, none⟩) b.chs.length cc, .slice ps b.sts.length cs, .iface TE xe] 104 (0, 0))) := ⟨HOV.out.alloc _, HF.out.1.trans (F5.mono hzB), by rw [F5.block _ hgB]; exact HF.out.2⟩
          clear OU F5 HF HOV
          go_wp2_with (at_builtin; refine unstop ?_)
          refine stop ?_
          clear f0 f1 f2 f3
          have hW := World.size_alloc wB (.cells #[.int .i64 gg.1, .int .i64 gg.2, .int .i64 rr.1, .int .i64 rr.2] 147)
          generalize wB.alloc (.cells #[.int .i64 gg.1, .int .i64 gg.2, .int .i64 rr.1, .int .i64 rr.2] 147) = W2 at *
          have hz2 := H5.out.2.1.size
          have gB := heap_alloc_last W2 (.cells #[.int .i64 rr.1, .int .i64 rr.2] 132)
          rw [hW] at gB
          clear hW
          have OB := H5.out.1.alloc (.cells #[.int .i64 rr.1, .int .i64 rr.2] 132)
          refine app1A Tryz.underlying196 Tryz.info132 rfl (by decide) (by decide) rfl _ _ rfl rfl OB gB rfl rfl (List.all_eq_true.1 rfl) (by omega) (by simp; omega) ?_
          intro v8 w8 oS gS nS
          obtain ⟨v8p, v8c, rfl⟩ := owns_slice2 oS
          have C8 := grown_ch gS
          have H8 : Hid (w8.ownsRow w.heap.size 132 2 (.slice v8p (X.length + 1) v8c) (X ++ [rr]).length (pcs (X ++ [rr])) ∧ Below w.heap.size w w8 ∧ w8.heap[w.heap.size]? = some (.cells #[.int .i64 at_, .slice (some ⟨gc, 0, none⟩) b.chs.length cc, .slice ps b.sts.length cs, .iface TE xe] 104 (0, 0))) := by
            refine ⟨by rw [pcs_app, List.length_append]; exact oS, H5.out.2.1.trans (C8.toBelow hz2 (fun j hj => (H5.out.1.lt j hj.symm).1)), ?_⟩
            rw [C8.block _ (lt_of_block H5.out.2.2) (fun e2 => own_type H5.out.1 H5.out.2.2 (by decide) e2.symm)]; exact H5.out.2.2
          clear oS gS nS gB OB C8 H5
          go_wp2_with fail
          go_roundw
          case rel => exact ⟨q + 1, X ++ [rr], by omega, by go_num, by rw [List.length_append, List.length_singleton]; have := HXL.out; omega, HNX, H8.out.1, H8.out.2⟩
          case measure => simp [intOf]; omega
        · have HXE : Hid (X = (b.chs.take (t + 1)).flatMap regsC) := by
            show _ = _
            rw [HN.out, HX.out, List.take_of_length_le (by have := HGR.out; omega), HR1.out]
          go_wp2_with fail
          go_roundw
          case rel => exact ⟨t + 1, X, by omega, by go_num, HXE, HOV.out, HF⟩
          case measure => simp [intOf]; omega
    · have HRE : Hid (R = b.chs.flatMap regsC) := by show _ = _; rw [HR.out, List.take_of_length_le (by omega)]
      have k2 := cell_of HF.out.2 2
      simp at k2
      go_wp2_with fail
      clear k2
      have HF2 := HF
      have HOV2 := HOV
      have HRR : Hid (R = b.chs.flatMap regsC ++ (b.sts.take 0).flatMap regsS) := by show _ = _; rw [HRE.out]; simp
      clear HF HOV HR HRE
      go_loopw [3, 41] (fun v ii wr => ∃ (t : Nat) (X : List (Nat × Nat)), t ≤ b.sts.length ∧ ii = .int .i64 t ∧ Hid (X = b.chs.flatMap regsC ++ (b.sts.take t).flatMap regsS) ∧ wr.ownsRow w.heap.size 132 2 v X.length (pcs X) ∧ Hid (Below w.heap.size w wr ∧ wr.heap[w.heap.size]? = some (.cells #[.int .i64 at_, .slice qc b.chs.length cc, .slice ps b.sts.length cs, .iface TE xe] 104 (0, 0)))) (fun _ ii _ => b.sts.length - (intOf ii).toNat)
      case atStart => exact ⟨0, R, by omega, rfl, HRR, HOV2.out, HF2⟩
      case round =>
        clear HF2 HOV2 HRR hgA hzA hRl
        obtain ⟨t, X, ht, rfl, HX, OV, HF⟩ := hrel
        rename World => wB
        obtain ⟨pX, cX, rfl⟩ := owns_slice2 OV
        have HOV := stop OV
        have hzB := HF.out.1.size
        have hgB := lt_of_block HF.out.2
        have hXb : X.length ≤ 10000000 := by have := HB3.out t; rw [← HX.out] at this; exact this
        clear OV
        by_cases htl : t < b.sts.length
        · have OS := owns_keeps HS.out (Keeps.below (T := fun _ => True) HF.out.1) trivial
          obtain ⟨gs, rfl, _, _⟩ := owns_form OS (by omega)
          obtain ⟨T, x, fr, fg, hsv, hrm, hrt, hrc, hgm, hgt, hgc⟩ := stepM b.sts[t]
          have cS := owns_cell OS (j := t) (u := .iface T x) (by rw [← hsv]; simp [htl])
          have HR := stop (And.intro hrm (And.intro hrt hrc))
          have HG := stop (And.intro hgm (And.intro hgt hgc))
          have HNX : Hid (b.chs.flatMap regsC ++ (b.sts.take (t + 1)).flatMap regsS = X ++ regsS b.sts[t]) := by
            show _ = _
            rw [List.take_succ_eq_append_getElem htl, List.flatMap_append, List.flatMap_cons, List.flatMap_nil, List.append_nil, ← List.append_assoc, HX.out]
          have hXn : (X ++ regsS b.sts[t]).length ≤ 10000000 := by have := HB3.out (t + 1); rw [HNX.out] at this; exact this
          rw [List.length_append] at hXn
          have HRD := stop (rdsF_eq b.sts[t])
          clear hsv hrm hrt hrc hgm hgt hgc OS
          go_wp2_with fail
          rw [HG.out.1, Result.andThen_ok]
          simp only [HG.out.2.1]
          unfold Oper.upon
          refine (HG.out.2.2 _).mono ?_
          rintro r w1 ⟨rfl, f1⟩
          have H1 : Hid (w1.ownsRow w.heap.size 132 2 (.slice pX X.length cX) X.length (pcs X) ∧ Below w.heap.size w w1 ∧ w1.heap[w.heap.size]? = some (.cells #[.int .i64 at_, .slice qc b.chs.length cc, .slice (some ⟨gs, 0, none⟩) b.sts.length cs, .iface TE xe] 104 (0, 0))) := ⟨owns_keeps HOV.out (Keeps.below (T := fun _ => True) f1) trivial, HF.out.1.trans (f1.mono hzB), by rw [f1.block _ hgB]; exact HF.out.2⟩
          clear f1 HG HF HOV cS
          by_cases h33 : b.sts[t].op = 33
          · have e33 : (b.sts[t].op != 33) = false := by simp [h33]
            have HRS : Hid (regsS b.sts[t] = rdsF b.sts[t]) := by show _ = _; rw [HRD.out]; unfold regsS; rw [if_pos h33]; rfl
            rw [e33, if_pos h33]
            have H3 : Hid ((w1.alloc (.cells #[.int .i64 0, .int .i64 0] 132)).ownsRow w.heap.size 132 2 (.slice pX X.length cX) X.length (pcs X) ∧ Below w.heap.size w (w1.alloc (.cells #[.int .i64 0, .int .i64 0] 132)) ∧ (w1.alloc (.cells #[.int .i64 0, .int .i64 0] 132)).heap[w.heap.size]? = some (.cells #[.int .i64 at_, .slice qc b.chs.length cc, .slice (some ⟨gs, 0, none⟩) b.sts.length cs, .iface TE xe] 104 (0, 0))) := ⟨H1.out.1.alloc _, H1.out.2.1.alloc H1.out.2.1.size _, by rw [Below.heap_alloc _ _ _ (lt_of_block H1.out.2.2)]; exact H1.out.2.2⟩
            have hrl : (rdsF b.sts[t]).length ≤ 10000000 := by have := HRS.out; rw [this] at hXn; omega
            clear e33 h33 H1
            go_wp2_with fail
            rw [HR.out.1, Result.andThen_ok]
            simp only [HR.out.2.1]
            unfold Oper.upon
            refine (HR.out.2.2 _).mono ?_
            rintro r w4 ⟨v4, rfl, o4, f4⟩
            obtain ⟨p4, c4, rfl⟩ := owns_slice2 o4
            have H4 : Hid (w4.ownsRow w.heap.size 132 2 (.slice pX X.length cX) X.length (pcs X) ∧ Below w.heap.size w w4 ∧ w4.heap[w.heap.size]? = some (.cells #[.int .i64 at_, .slice qc b.chs.length cc, .slice (some ⟨gs, 0, none⟩) b.sts.length cs, .iface TE xe] 104 (0, 0))) := ⟨owns_keeps H3.out.1 (Keeps.below (T := fun _ => True) f4) trivial, H3.out.2.1.trans (f4.mono H3.out.2.1.size), by rw [f4.block _ (lt_of_block H3.out.2.2)]; exact H3.out.2.2⟩
            have hz4 := H4.out.2.1.size
            have HO4 := stop o4
            clear f4 HR H3 o4
            go_wp2_with (at_builtin; refine unstop ?_)
            refine stop ?_
            refine appRow2 Tryz.underlying196 Tryz.info132 rfl (by decide) rfl _ _ rfl rfl H4.out.1 rfl HO4.out (pcs_one _) (by unfold maxLen; omega) (by omega) hz4 ?_
            intro v6 w6 o6 g6
            obtain ⟨p6, c6, rfl⟩ := owns_slice2 o6
            have H6 : Hid (w6.ownsRow w.heap.size 132 2 (.slice p6 (X.length + (rdsF b.sts[t]).length) c6) (X ++ regsS b.sts[t]).length (pcs (X ++ regsS b.sts[t])) ∧ Below w.heap.size w w6 ∧ w6.heap[w.heap.size]? = some (.cells #[.int .i64 at_, .slice qc b.chs.length cc, .slice (some ⟨gs, 0, none⟩) b.sts.length cs, .iface TE xe] 104 (0, 0))) := by
              have C6 : Ch (fun j => some j = (Value.slice pX X.length cX).ownBlock) w4 w6 := Ch.grown g6 (fun _ h => h)
              refine ⟨?_, H4.out.2.1.trans (C6.toBelow hz4 (fun j hj => (H4.out.1.lt j hj.symm).1)), ?_⟩
              · rw [HRS.out, pcs_app, List.length_append]
                exact o6
              · rw [C6.block _ (lt_of_block H4.out.2.2) (fun e2 => own_type H4.out.1 H4.out.2.2 (by decide) e2.symm)]; exact H4.out.2.2
            clear o6 g6 H4 HO4
            go_wp2_with fail
            go_roundw
            case rel => exact ⟨t + 1, X ++ regsS b.sts[t], by omega, by go_num, HNX.out.symm, H6.out.1, H6.out.2⟩
            case measure => simp [intOf]; omega
          · have e33 : (b.sts[t].op != 33) = true := by simp [h33]
            have HRS : Hid (regsS b.sts[t] = [b.sts[t].to] ++ rdsF b.sts[t]) := by show _ = _; rw [HRD.out]; unfold regsS; rw [if_neg h33]
            rw [e33, if_neg h33]
            have hrl : (rdsF b.sts[t]).length ≤ 10000000 := by have := HRS.out; rw [this, List.length_append] at hXn; omega
            have H2 : Hid ((w1.alloc (.cells #[.int .i64 b.sts[t].to.1, .int .i64 b.sts[t].to.2] 132)).ownsRow w.heap.size 132 2 (.slice pX X.length cX) X.length (pcs X) ∧ Below w.heap.size w (w1.alloc (.cells #[.int .i64 b.sts[t].to.1, .int .i64 b.sts[t].to.2] 132)) ∧ (w1.alloc (.cells #[.int .i64 b.sts[t].to.1, .int .i64 b.sts[t].to.2] 132)).heap[w.heap.size]? = some (.cells #[.int .i64 at_, .slice qc b.chs.length cc, .slice (some ⟨gs, 0, none⟩) b.sts.length cs, .iface TE xe] 104 (0, 0))) := ⟨H1.out.1.alloc _, H1.out.2.1.alloc H1.out.2.1.size _, by rw [Below.heap_alloc _ _ _ (lt_of_block H1.out.2.2)]; exact H1.out.2.2⟩
            have hW := World.size_alloc w1 (.cells #[.int .i64 b.sts[t].to.1, .int .i64 b.sts[t].to.2] 132)
            clear e33 h33 H1
            go_wp2_with (at_builtin; refine unstop ?_)
            refine stop ?_
            generalize w1.alloc (.cells #[.int .i64 b.sts[t].to.1, .int .i64 b.sts[t].to.2] 132) = W2 at *
            have hz2 := H2.out.2.1.size
            have gB := heap_alloc_last W2 (.cells #[.int .i64 b.sts[t].to.1, .int .i64 b.sts[t].to.2] 132)
            have OB := H2.out.1.alloc (.cells #[.int .i64 b.sts[t].to.1, .int .i64 b.sts[t].to.2] 132)
            rw [hW] at gB
            clear hW
            refine app1A Tryz.underlying196 Tryz.info132 rfl (by decide) (by decide) rfl _ _ rfl rfl OB gB rfl rfl (List.all_eq_true.1 rfl) (by omega) (by simp; omega) ?_
            intro v5 w5 oS gS nS
            obtain ⟨v5p, v5c, rfl⟩ := owns_slice2 oS
            have C5 := grown_ch gS
            have H3 : Hid (w5.ownsRow w.heap.size 132 2 (.slice v5p (X.length + 1) v5c) (X.length + 1) (pcs (X ++ [b.sts[t].to])) ∧ Below w.heap.size w w5 ∧ w5.heap[w.heap.size]? = some (.cells #[.int .i64 at_, .slice qc b.chs.length cc, .slice (some ⟨gs, 0, none⟩) b.sts.length cs, .iface TE xe] 104 (0, 0))) := by
              refine ⟨by rw [pcs_app]; exact oS, H2.out.2.1.trans (C5.toBelow hz2 (fun j hj => (H2.out.1.lt j hj.symm).1)), ?_⟩
              rw [C5.block _ (lt_of_block H2.out.2.2) (fun e2 => own_type H2.out.1 H2.out.2.2 (by decide) e2.symm)]; exact H2.out.2.2
            clear oS gS nS gB OB C5 H2
            go_wp2_with fail
            rw [HR.out.1, Result.andThen_ok]
            simp only [HR.out.2.1]
            unfold Oper.upon
            refine (HR.out.2.2 _).mono ?_
            rintro r w4 ⟨v4, rfl, o4, f4⟩
            obtain ⟨p4, c4, rfl⟩ := owns_slice2 o4
            have H4 : Hid (w4.ownsRow w.heap.size 132 2 (.slice v5p (X.length + 1) v5c) (X.length + 1) (pcs (X ++ [b.sts[t].to])) ∧ Below w.heap.size w w4 ∧ w4.heap[w.heap.size]? = some (.cells #[.int .i64 at_, .slice qc b.chs.length cc, .slice (some ⟨gs, 0, none⟩) b.sts.length cs, .iface TE xe] 104 (0, 0))) := ⟨owns_keeps H3.out.1 (Keeps.below (T := fun _ => True) f4) trivial, H3.out.2.1.trans (f4.mono H3.out.2.1.size), by rw [f4.block _ (lt_of_block H3.out.2.2)]; exact H3.out.2.2⟩
            have hz4 := H4.out.2.1.size
            have HO4 := stop o4
            clear f4 HR H3 o4
            go_wp2_with (at_builtin; refine unstop ?_)
            refine stop ?_
            refine appRow2 Tryz.underlying196 Tryz.info132 rfl (by decide) rfl _ _ rfl rfl H4.out.1 rfl HO4.out (pcs_one _) (by unfold maxLen; omega) (by omega) hz4 ?_
            intro v6 w6 o6 g6
            obtain ⟨p6, c6, rfl⟩ := owns_slice2 o6
            have H6 : Hid (w6.ownsRow w.heap.size 132 2 (.slice p6 ((X.length + 1) + (rdsF b.sts[t]).length) c6) (X ++ regsS b.sts[t]).length (pcs (X ++ regsS b.sts[t])) ∧ Below w.heap.size w w6 ∧ w6.heap[w.heap.size]? = some (.cells #[.int .i64 at_, .slice qc b.chs.length cc, .slice (some ⟨gs, 0, none⟩) b.sts.length cs, .iface TE xe] 104 (0, 0))) := by
              have C6 : Ch (fun j => some j = (Value.slice v5p (X.length + 1) v5c).ownBlock) w4 w6 := Ch.grown g6 (fun _ h => h)
              refine ⟨?_, H4.out.2.1.trans (C6.toBelow hz4 (fun j hj => (H4.out.1.lt j hj.symm).1)), ?_⟩
              · rw [HRS.out, ← List.append_assoc, pcs_app, List.length_append, List.length_append, List.length_singleton]
                exact o6
              · rw [C6.block _ (lt_of_block H4.out.2.2) (fun e2 => own_type H4.out.1 H4.out.2.2 (by decide) e2.symm)]; exact H4.out.2.2
            clear o6 g6 H4 HO4
            go_wp2_with fail
            go_roundw
            case rel => exact ⟨t + 1, X ++ regsS b.sts[t], by omega, by go_num, HNX.out.symm, H6.out.1, H6.out.2⟩
            case measure => simp [intOf]; omega
        · have HXE : Hid (X ++ endRg b.e = regsB b) := by
            show _ = _
            rw [HX.out, List.take_of_length_le (by omega)]; rfl
          have k3 := cell_of HF.out.2 3
          simp at k3
          have hel : (endRg b.e).length ≤ 1 := by unfold endRg; split <;> simp
          go_wp2_with fail
          rw [HES.out.1, Result.andThen_ok]
          simp only [HES.out.2.1]
          unfold Oper.upon
          refine (HES.out.2.2 _).mono ?_
          rintro r w4 ⟨v4, rfl, o4, f4⟩
          obtain ⟨p4, c4, rfl⟩ := owns_slice2 o4
          have H4 : Hid (w4.ownsRow w.heap.size 132 2 (.slice pX X.length cX) X.length (pcs X) ∧ Below w.heap.size w w4) := ⟨owns_keeps HOV.out (Keeps.below (T := fun _ => True) f4) trivial, HF.out.1.trans (f4.mono hzB)⟩
          have hz4 := H4.out.2.size
          have HO4 := stop o4
          clear f4 HES HF HOV o4 k3
          go_wp2_with (at_builtin; refine unstop ?_)
          refine stop ?_
          refine appRow2 Tryz.underlying196 Tryz.info132 rfl (by decide) rfl _ _ rfl rfl H4.out.1 rfl HO4.out (pcs_one _) (by unfold maxLen; omega) (by omega) hz4 ?_
          intro v6 w6 o6 g6
          obtain ⟨p6, c6, rfl⟩ := owns_slice2 o6
          have R6 : Hid (w6.ownsRow w.heap.size 132 2 (.slice p6 (X.length + (endRg b.e).length) c6) (regsB b).length (pcs (regsB b)) ∧ Below w.heap.size w w6) := by
            refine ⟨?_, Below.grown H4.out.2 g6 hz4 (fun j hj => (H4.out.1.lt j hj).1)⟩
            rw [← HXE.out, pcs_app, List.length_append]
            exact o6
          clear o6 g6 H4 HO4
          go_wp2_with fail
          go_ret
          exact ⟨_, rfl, R6.out⟩

end Go.Proofs.YtgfhfkgdmidhpaaGreatDoor

namespace Go.Proofs.YtgfhfkgdmidhpaaGreatDoor
open Go.RowKit

theorem find_hit {p : Nat × Nat → Bool} {pre post : List (Nat × Nat)} {r : Nat × Nat} (h : ∀ x ∈ pre, p x = false) (hr : p r = true) : (pre ++ r :: post).find? p = some r := by
  rw [List.find?_append, List.find?_eq_none.2 (fun x hx => by rw [h x hx]; simp), List.find?_cons_of_pos hr]; rfl
def grt (r : Nat × Nat) : Bool := decide (4999 < r.1)
theorem newF_hit {bs : List RBlk} {k t : Nat} (hk : k < bs.length) (ht : t < (regsB bs[k]).length) (h1 : ∀ x ∈ (bs.take k).flatMap regsB, grt x = false) (h2 : ∀ x ∈ (regsB bs[k]).take t, grt x = false) (hr : grt (regsB bs[k])[t] = true) : newF bs = some (regsB bs[k])[t].2 := by
  have e : bs.flatMap regsB = ((bs.take k).flatMap regsB ++ (regsB bs[k]).take t) ++ (regsB bs[k])[t] :: ((regsB bs[k]).drop (t + 1) ++ (bs.drop (k + 1)).flatMap regsB) := by
    have e1 : bs = bs.take k ++ bs[k] :: bs.drop (k + 1) := by rw [List.getElem_cons_drop, List.take_append_drop]
    have e2 : regsB bs[k] = (regsB bs[k]).take t ++ (regsB bs[k])[t] :: (regsB bs[k]).drop (t + 1) := by rw [List.getElem_cons_drop, List.take_append_drop]
    have e3 : bs.flatMap regsB = (bs.take k).flatMap regsB ++ (regsB bs[k] ++ (bs.drop (k + 1)).flatMap regsB) := by
      conv => lhs; rw [e1]
      rw [List.flatMap_append, List.flatMap_cons]
    have e4 : regsB bs[k] ++ (bs.drop (k + 1)).flatMap regsB = ((regsB bs[k]).take t ++ (regsB bs[k])[t] :: (regsB bs[k]).drop (t + 1)) ++ (bs.drop (k + 1)).flatMap regsB := by rw [← e2]
    rw [e3, e4]
    simp only [List.append_assoc, List.cons_append]
  unfold newF
  rw [e]
  have := find_hit (p := grt) (pre := (bs.take k).flatMap regsB ++ (regsB bs[k]).take t) (post := (regsB bs[k]).drop (t + 1) ++ (bs.drop (k + 1)).flatMap regsB) (fun x hx => by
    rcases List.mem_append.1 hx with hx | hx
    · exact h1 x hx
    · exact h2 x hx) hr
  rw [show (fun r : Nat × Nat => decide (4999 < r.1)) = grt from rfl, this]
  rfl
theorem newF_no {bs : List RBlk} (h : ∀ x ∈ bs.flatMap regsB, grt x = false) : newF bs = none := by
  unfold newF
  rw [show (fun r : Nat × Nat => decide (4999 < r.1)) = grt from rfl, List.find?_eq_none.2 (fun x hx => by rw [h x hx]; simp)]
  rfl

set_option maxRecDepth 100000 in
set_option maxHeartbeats 4000000 in
theorem newRegP (bs : List RBlk) (base : Nat) (v : Value) (w : World) (h : PBs w base bs v) (hn : bs.length ≤ 1000) (hl : ∀ b ∈ bs, (regsB b).length ≤ 10000000) :
    Calls Tryz.prog 61 #[v] w fun x w' => x = .returned (.tuple #[.int .i64 ((newF bs).getD 0 : Nat), .bool (newF bs).isSome]) ∧ Below w.heap.size w w' := by
  obtain ⟨pv, cv, rfl⟩ := h.slice
  have HB := stop h
  have HL := stop hl
  clear h hl
  go_enter Tryz.func61, Tryz.ntmps61
  go_wp2_with fail
  go_loopw [10] (fun ii wr => ∃ k : Nat, k ≤ bs.length ∧ ii = .int .i64 k ∧ Hid (∀ x ∈ (bs.take k).flatMap regsB, grt x = false) ∧ Hid (Below w.heap.size w wr)) (fun ii _ => bs.length - (intOf ii).toNat)
  case atStart => exact ⟨0, by omega, rfl, (fun x hx => by simp at hx), Below.refl _ _⟩
  case round =>
    obtain ⟨k, hk, rfl, HN, F⟩ := hrel
    rename World => wA
    by_cases hlt : k < bs.length
    · obtain ⟨g, qc, cc, ps, cs1, rfl, _, hg, hop, OC, OS, d0, d1, d2, d3⟩ := HB.out.at hlt
      replace d0 := (F.out.cell (p := ⟨g, k * 4, none⟩) hg).trans d0
      replace d1 := (F.out.cell (p := ⟨g, k * 4 + 1, none⟩) hg).trans d1
      replace d2 := (F.out.cell (p := ⟨g, k * 4 + 2, none⟩) hg).trans d2
      replace d3 := (F.out.cell (p := ⟨g, k * 4 + 3, none⟩) hg).trans d3
      obtain ⟨TE, xe, eV⟩ : ∃ TE xe, endVal bs[k].e = .iface TE xe := by
        unfold endVal
        repeat' split
        all_goals exact ⟨_, _, rfl⟩
      have hzA := F.out.size
      have hrl := HL.out _ (List.getElem_mem hlt)
      have F1 := stop (F.out.alloc hzA (.cells #[.int .i64 bs[k].at_, .slice qc bs[k].chs.length cc, .slice ps bs[k].sts.length cs1, .iface TE xe] 104))
      have HCALL : Hid (Calls Tryz.prog 96 #[.agg #[.int .i64 bs[k].at_, .slice qc bs[k].chs.length cc, .slice ps bs[k].sts.length cs1, .iface TE xe]] (wA.alloc (.cells #[.int .i64 bs[k].at_, .slice qc bs[k].chs.length cc, .slice ps bs[k].sts.length cs1, .iface TE xe] 104)) fun x w' => ∃ v, x = .returned v ∧ Hid (w'.ownsRow (wA.alloc (.cells #[.int .i64 bs[k].at_, .slice qc bs[k].chs.length cc, .slice ps bs[k].sts.length cs1, .iface TE xe] 104)).heap.size 132 2 v (regsB bs[k]).length (pcs (regsB bs[k])) ∧ Below (wA.alloc (.cells #[.int .i64 bs[k].at_, .slice qc bs[k].chs.length cc, .slice ps bs[k].sts.length cs1, .iface TE xe] 104)).heap.size (wA.alloc (.cells #[.int .i64 bs[k].at_, .slice qc bs[k].chs.length cc, .slice ps bs[k].sts.length cs1, .iface TE xe] 104)) w')) := by
        have := regsOfP bs[k] bs[k].at_ base qc cc ps cs1 (wA.alloc (.cells #[.int .i64 bs[k].at_, .slice qc bs[k].chs.length cc, .slice ps bs[k].sts.length cs1, .iface TE xe] 104)) (OC.keeps (Keeps.below (T := fun _ => True) F1.out) trivial trivial) (owns_keeps OS (Keeps.below (T := fun _ => True) F1.out) trivial) hop hrl
        rw [eV] at this
        exact this
      rw [eV] at d3
      clear OC OS eV hop
      go_wp2_with fail
      refine HCALL.out.mono ?_
      rintro x w2 ⟨v2, rfl, H2⟩
      obtain ⟨p2, c2, rfl⟩ := owns_slice2 H2.out.1
      have F2 := stop (F1.out.trans (H2.out.2.mono F1.out.size))
      have HO := stop H2.out.1
      clear d0 d1 d2 d3 HCALL F1 F H2
      have HLK : Hid (∀ t (ht : t < (regsB bs[k]).length), (∀ x ∈ (regsB bs[k]).take t, grt x = false) → grt (regsB bs[k])[t] = true → newF bs = some (regsB bs[k])[t].2) := fun t ht h2 h3 => newF_hit hlt ht HN.out h2 h3
      have HNE : Hid ((∀ x ∈ regsB bs[k], grt x = false) → ∀ x ∈ (bs.take (k + 1)).flatMap regsB, grt x = false) := fun h x hx => by
        rw [List.take_succ_eq_append_getElem hlt, List.flatMap_append, List.mem_append] at hx
        rcases hx with hx | hx
        · exact HN.out x hx
        · rw [List.flatMap_cons, List.flatMap_nil, List.append_nil] at hx; exact h x hx
      clear HN
      generalize regsB bs[k] = L at *
      go_wp2_with fail
      go_loopw [17] (fun jj wr => ∃ t : Nat, t ≤ L.length ∧ jj = .int .i64 t ∧ Hid (∀ x ∈ L.take t, grt x = false) ∧ Hid (Below w2.heap.size w2 wr)) (fun jj _ => L.length - (intOf jj).toNat)
      case atStart => exact ⟨0, by omega, rfl, (fun x hx => by simp at hx), Below.refl _ _⟩
      case round =>
        obtain ⟨t, ht, rfl, HT, FB⟩ := hrel
        rename World => wB
        have hz2 := F2.out.size
        have hz3 := FB.out.size
        by_cases htl : t < L.length
        · have OB := owns_keeps HO.out (Keeps.below (T := fun _ => True) FB.out) trivial
          obtain ⟨gl, rfl, _, _⟩ := owns_form OB (by omega)
          have f0 := owns_cell OB (pcs_at htl).1
          have f1 := owns_cell OB (pcs_at htl).2
          have F3 := stop ((Below.refl wB.heap.size wB).alloc (Nat.le_refl _) (.cells #[.int .i64 L[t].1, .int .i64 L[t].2] 132))
          clear OB
          by_cases hgr : 4999 < L[t].1
          · have hd : decide ((4999 : Int) < (L[t].1 : Int)) = true := by simp; omega
            have HF : Hid (newF bs = some L[t].2) := HLK.out t htl HT.out (by simp [grt, hgr])
            clear hgr
            go_wp2_with fail
            go_ret2
            refine ⟨by rw [HF.out]; rfl, ?_⟩
            exact F2.out.trans ((FB.out.trans (F3.out.mono hz3)).mono hz2)
          · have hd : decide ((4999 : Int) < (L[t].1 : Int)) = false := by simp; omega
            have HT2 : Hid (∀ x ∈ L.take (t + 1), grt x = false) := fun x hx => by
              rw [List.take_succ_eq_append_getElem htl, List.mem_append] at hx
              rcases hx with hx | hx
              · exact HT.out x hx
              · rw [List.mem_singleton] at hx; subst hx; simp [grt]; omega
            have F4 := stop (FB.out.trans (F3.out.mono hz3))
            clear hgr HT FB F3
            go_wp2_with fail
            go_roundw
            case rel => exact ⟨t + 1, by omega, by go_num, HT2, F4⟩
            case measure => simp [intOf]; omega
        · have HA : Hid (∀ x ∈ (bs.take (k + 1)).flatMap regsB, grt x = false) := HNE.out (fun x hx => HT.out x (by rw [List.take_of_length_le (by omega)]; exact hx))
          have F5 := stop (F2.out.trans (FB.out.mono hz2))
          clear HT FB F2
          go_wp2_with fail
          go_roundw
          case rel => exact ⟨k + 1, by omega, by go_num, HA, F5⟩
          case measure => simp [intOf]; omega
    · have HF : Hid (newF bs = none) := newF_no (fun x hx => HN.out x (by rw [List.take_of_length_le (by omega)]; exact hx))
      clear HN
      go_wp2_with fail
      go_ret2
      exact ⟨by rw [HF.out]; rfl, F.out⟩

end Go.Proofs.YtgfhfkgdmidhpaaGreatDoor
