import Derived.Test.YtgfhfkgdmidhpaaGreatDoorPK
import Derived.Test.YtgfhfkgdmidhpaaGreatDoorPY
import Derived.Test.YtgfhfkgdmidhpaaGreatDoorPA
import Derived.Test.YtgfhfkgdmidhpaaGreatDoorG08
namespace Go.Proofs.YtgfhfkgdmidhpaaGreatDoor
open Go.RowKit

set_option maxHeartbeats 1000000 in
theorem greatR (a : Int) (n p : Nat) (w : World) : Calls Tryz.prog 28 #[.int .i64 a, .agg #[.int .i64 n, .int .i64 p]] w fun e w' => e = .returned (.int .i64 (gr a (n, p))) ∧ Below w.heap.size w w' := by
  have F1 := stop ((Below.refl w.heap.size w).alloc (Nat.le_refl _) (.cells #[.int .i64 n, .int .i64 p] 48))
  by_cases h1 : 4999 < n
  · have hd1 : decide ((4999 : Int) < (n : Int)) = true := by simp; omega
    by_cases h2 : a < 0
    · have hd2 : decide (a < 0) = true := by simpa using h2
      have HG : Hid (gr a (n, p) = p) := by show _ = _; unfold gr; rw [if_pos ⟨h1, .inl h2⟩]
      clear h1 h2
      go_enter Tryz.func28, Tryz.ntmps28
      go_wp2_with fail
      go_ret
      exact ⟨by rw [HG.out]; rfl, F1.out⟩
    · have hd2 : decide (a < 0) = false := by simpa using h2
      by_cases h3 : (p : Int) < a
      · have hd3 : decide ((p : Int) < a) = true := by simpa using h3
        have HG : Hid (gr a (n, p) = p) := by show _ = _; unfold gr; rw [if_pos ⟨h1, .inr h3⟩]
        clear h1 h2 h3
        go_enter Tryz.func28, Tryz.ntmps28
        go_wp2_with fail
        go_ret
        exact ⟨by rw [HG.out]; rfl, F1.out⟩
      · have hd3 : decide ((p : Int) < a) = false := by simpa using h3
        have HG : Hid (gr a (n, p) = a) := by show _ = _; unfold gr; rw [if_neg (by omega)]
        clear h1 h2 h3
        go_enter Tryz.func28, Tryz.ntmps28
        go_wp2_with fail
        go_ret
        exact ⟨by rw [HG.out]; rfl, F1.out⟩
  · have hd1 : decide ((4999 : Int) < (n : Int)) = false := by simp; omega
    have HG : Hid (gr a (n, p) = a) := by show _ = _; unfold gr; rw [if_neg (by omega)]
    clear h1
    go_enter Tryz.func28, Tryz.ntmps28
    go_wp2_with fail
    go_ret
    exact ⟨by rw [HG.out]; rfl, F1.out⟩

theorem stepCells_at {l : List RStep} {j : Nat} (hj : j < l.length) {k : Nat} (hk : k < 8) : (l.flatMap stepCells)[j * 8 + k]? = (stepCells l[j])[k]? := by
  rw [List.flatMap_def]
  refine flat_get 8 _ j k _ (fun x hx => ?_) (by simp [hj]) hk
  simp only [List.mem_map] at hx
  obtain ⟨t, _, rfl⟩ := hx
  rfl
theorem gfold_next {l : List (Nat × Nat)} {y : Int} (h : y = l.foldl gr (-1)) (x : Nat × Nat) : gr y x = (l ++ [x]).foldl gr (-1) := by
  rw [List.foldl_append, ← h]; rfl

set_option maxRecDepth 100000 in
set_option maxHeartbeats 4000000 in
theorem GreatR (bs : List RBlk) (base : Nat) (v : Value) (w : World) (h : BlksOwn w base bs v) (hl : bs.length ≤ 1000) (hf : ∀ b ∈ bs, BFine 1000000 b) :
    Calls Tryz.prog 10 #[v] w fun e w' => e = .returned (.int .i64 (greF bs)) ∧ Below w.heap.size w w' := by
  obtain ⟨pv, cv, rfl⟩ := h.slice
  have HB := stop h
  have HF := stop hf
  clear h hf
  go_enter Tryz.func10, Tryz.ntmps10
  go_wp2_with fail
  go_loopw [3, 4] (fun a i wr => ∃ (k : Nat) (y : Int), k ≤ bs.length ∧ i = .int .i64 k ∧ a = .int .i64 y ∧ Hid (y = ((bs.take k).flatMap regsR).foldl gr (-1)) ∧ Hid (Below w.heap.size w wr)) (fun _ i _ => bs.length - (intOf i).toNat)
  case atStart => exact ⟨0, -1, by omega, rfl, rfl, rfl, Below.refl _ _⟩
  case round =>
    obtain ⟨k, y, hk, rfl, rfl, HY, F⟩ := hrel
    rename World => wA
    by_cases hlt : k < bs.length
    · obtain ⟨g, qc, cc, ps, cs, rfl, _, hg, OC, OS, hc⟩ := HB.out.at hlt
      have d0 := hc 0 _ rfl
      have d1 := hc 1 _ rfl
      have d3 := hc 3 _ rfl
      have d4 := hc 4 _ rfl
      simp only [Nat.add_zero] at d0
      have HD := stop (And.intro d0 (And.intro d1 (And.intro d3 d4)))
      have HOC := stop (And.intro OC OS)
      have HBF := stop (HF.out _ (List.getElem_mem hlt))
      have hcl := HBF.out.cl
      have hsl := HBF.out.sl
      have HN : Hid ((bs.take (k + 1)).flatMap regsR = (bs.take k).flatMap regsR ++ regsR bs[k]) := by show _ = _; rw [List.take_succ_eq_append_getElem hlt, List.flatMap_append, List.flatMap_cons, List.flatMap_nil, List.append_nil]
      replace d0 := (F.out.cell (p := ⟨g, k * 10, none⟩) hg).trans d0
      obtain ⟨L0, hL0⟩ : ∃ L0, L0 = (bs.take k).flatMap regsR := ⟨_, rfl⟩
      rw [← hL0] at HY HN
      have HL0 := stop hL0
      clear d1 d3 d4 hc OC OS hL0
      go_wp2_with fail
      clear d0
      go_loopw [3, 5] (fun a i wr => ∃ (t : Nat) (y : Int), t ≤ bs[k].chs.length ∧ i = .int .i64 t ∧ a = .int .i64 y ∧ Hid (y = (L0 ++ (bs[k].chs.take t).flatMap regsC).foldl gr (-1)) ∧ Hid (Below w.heap.size w wr)) (fun _ i _ => bs[k].chs.length - (intOf i).toNat)
      case atStart => exact ⟨0, y, by omega, rfl, rfl, by show _ = _; simpa using HY.out, F⟩
      case round =>
        clear HY F
        obtain ⟨t, y, ht, rfl, rfl, HY, F⟩ := hrel
        rename World => wB
        have e0 := (F.out.cell (p := ⟨g, k * 10, none⟩) hg).trans HD.out.1
        by_cases htl : t < bs[k].chs.length
        · obtain ⟨gc, pf, cf, pr, cr, rfl, _, hgc, _, OR, c0, c1, _, c3⟩ := HOC.out.1.at htl
          replace c0 := (F.out.cell (p := ⟨gc, t * 4, none⟩) hgc).trans c0
          replace c1 := (F.out.cell (p := ⟨gc, t * 4 + 1, none⟩) hgc).trans c1
          have HC3 := stop c3
          have HOR := stop OR
          have hrl : bs[k].chs[t].rs.length ≤ 1000000 := by have := (HBF.out.ch _ (List.getElem_mem htl)); have h1 := this.2.1; have h2 := this.2.2.1; omega
          have HN2 : Hid (L0 ++ (bs[k].chs.take (t + 1)).flatMap regsC = (L0 ++ (bs[k].chs.take t).flatMap regsC) ++ regsC bs[k].chs[t]) := by show _ = _; rw [List.take_succ_eq_append_getElem htl, List.flatMap_append, List.flatMap_cons, List.flatMap_nil, List.append_nil, List.append_assoc]
          obtain ⟨L2, hL2⟩ : ∃ L2, L2 = L0 ++ (bs[k].chs.take t).flatMap regsC := ⟨_, rfl⟩
          rw [← hL2] at HY HN2
          clear hL2 c3 OR
          go_wp2_with fail
          refine (greatR y bs[k].chs[t].to.1 bs[k].chs[t].to.2 _).mono ?_
          rintro e w2 ⟨rfl, f2⟩
          have F2 := stop (F.out.trans (f2.mono F.out.size))
          have HY2 := stop (gfold_next HY.out (bs[k].chs[t].to.1, bs[k].chs[t].to.2))
          clear f2 HY F c0 c1 e0
          go_wp2_with fail
          go_loopw [3, 6] (fun a i wr => ∃ (q : Nat) (y : Int), q ≤ bs[k].chs[t].rs.length ∧ i = .int .i64 q ∧ a = .int .i64 y ∧ Hid (y = (L2 ++ [bs[k].chs[t].to] ++ bs[k].chs[t].rs.take q).foldl gr (-1)) ∧ Hid (Below w.heap.size w wr)) (fun _ i _ => bs[k].chs[t].rs.length - (intOf i).toNat)
          case atStart => exact ⟨0, _, by omega, rfl, rfl, by show _ = _; rw [HY2.out]; simp, F2⟩
          case round =>
            clear HY2 F2
            obtain ⟨q, y, hq, rfl, rfl, HY, F⟩ := hrel
            rename World => wC
            have e0 := (F.out.cell (p := ⟨g, k * 10, none⟩) hg).trans HD.out.1
            have c3 := (F.out.cell (p := ⟨gc, t * 4 + 3, none⟩) hgc).trans HC3.out
            by_cases hql : q < bs[k].chs[t].rs.length
            · have OR := owns_keeps HOR.out (Keeps.below (T := fun _ => True) F.out) trivial
              obtain ⟨gr', rfl, _, _⟩ := owns_form OR (by omega)
              have r0 := owns_cell OR (pcs_at hql).1
              have r1 := owns_cell OR (pcs_at hql).2
              clear OR
              go_wp2_with fail
              refine (greatR y bs[k].chs[t].rs[q].1 bs[k].chs[t].rs[q].2 _).mono ?_
              rintro e w2 ⟨rfl, f2⟩
              have F2 := stop (F.out.trans (f2.mono F.out.size))
              have HY2 : Hid (gr y (bs[k].chs[t].rs[q].1, bs[k].chs[t].rs[q].2) = (L2 ++ [bs[k].chs[t].to] ++ bs[k].chs[t].rs.take (q + 1)).foldl gr (-1)) := by
                show _ = _
                rw [List.take_succ_eq_append_getElem hql, ← List.append_assoc]
                exact gfold_next HY.out _
              clear f2 HY F r0 r1 e0 c3
              go_wp2_with fail
              go_roundw
              case rel => exact ⟨q + 1, _, by omega, by go_num, rfl, HY2, F2⟩
              case measure => simp [intOf]; omega
            · have HY2 : Hid (y = (L0 ++ (bs[k].chs.take (t + 1)).flatMap regsC).foldl gr (-1)) := by
                show _ = _
                rw [HN2.out, HY.out, List.take_of_length_le (by omega), List.append_assoc]
                rfl
              clear HY
              go_wp2_with fail
              go_roundw
              case rel => exact ⟨t + 1, _, by omega, by go_num, rfl, HY2, F⟩
              case measure => simp [intOf]; omega
        · have HY2 : Hid (y = (L0 ++ bs[k].chs.flatMap regsC).foldl gr (-1)) := by
            show _ = _
            rw [HY.out, List.take_of_length_le (by omega)]
          clear HY
          have e1 := (F.out.cell (p := ⟨g, k * 10 + 1, none⟩) hg).trans HD.out.2.1
          go_wp2_with fail
          clear e0 e1
          go_loopw [3, 7] (fun a i wr => ∃ (q : Nat) (y : Int), q ≤ bs[k].sts.length ∧ i = .int .i64 q ∧ a = .int .i64 y ∧ Hid (y = ((L0 ++ bs[k].chs.flatMap regsC) ++ (bs[k].sts.take q).flatMap (fun t => [t.to, t.a, t.b])).foldl gr (-1)) ∧ Hid (Below w.heap.size w wr)) (fun _ i _ => bs[k].sts.length - (intOf i).toNat)
          case atStart => exact ⟨0, y, by omega, rfl, rfl, by show _ = _; simpa using HY2.out, F⟩
          case round =>
            clear HY2 F
            obtain ⟨q, y, hq, rfl, rfl, HY, F⟩ := hrel
            rename World => wC
            have e1 := (F.out.cell (p := ⟨g, k * 10 + 1, none⟩) hg).trans HD.out.2.1
            by_cases hql : q < bs[k].sts.length
            · have OS := owns_keeps HOC.out.2 (Keeps.below (T := fun _ => True) F.out) trivial
              obtain ⟨gs, rfl, _, hgs⟩ := owns_form OS (by omega)
              have t1 : wC.cell? ⟨gs, q * 8 + 1, none⟩ = some (.int .i64 bs[k].sts[q].to.1) := owns_cell OS (stepCells_at hql (k := 1) (by omega))
              have t2 : wC.cell? ⟨gs, q * 8 + 2, none⟩ = some (.int .i64 bs[k].sts[q].to.2) := owns_cell OS (stepCells_at hql (k := 2) (by omega))
              have t3 : wC.cell? ⟨gs, q * 8 + 3, none⟩ = some (.int .i64 bs[k].sts[q].a.1) := owns_cell OS (stepCells_at hql (k := 3) (by omega))
              have t4 : wC.cell? ⟨gs, q * 8 + 4, none⟩ = some (.int .i64 bs[k].sts[q].a.2) := owns_cell OS (stepCells_at hql (k := 4) (by omega))
              have t5 : wC.cell? ⟨gs, q * 8 + 5, none⟩ = some (.int .i64 bs[k].sts[q].b.1) := owns_cell OS (stepCells_at hql (k := 5) (by omega))
              have t6 : wC.cell? ⟨gs, q * 8 + 6, none⟩ = some (.int .i64 bs[k].sts[q].b.2) := owns_cell OS (stepCells_at hql (k := 6) (by omega))
              have hgC : g < wC.heap.size := Nat.lt_of_lt_of_le hg F.out.size
              clear OS
              go_wp2_with fail
              refine (greatR y bs[k].sts[q].to.1 bs[k].sts[q].to.2 _).mono ?_
              rintro e w2 ⟨rfl, f2⟩
              replace e1 := (f2.cell (p := ⟨g, k * 10 + 1, none⟩) hgC).trans e1
              replace t3 := (f2.cell (p := ⟨gs, q * 8 + 3, none⟩) hgs).trans t3
              replace t4 := (f2.cell (p := ⟨gs, q * 8 + 4, none⟩) hgs).trans t4
              replace t5 := (f2.cell (p := ⟨gs, q * 8 + 5, none⟩) hgs).trans t5
              replace t6 := (f2.cell (p := ⟨gs, q * 8 + 6, none⟩) hgs).trans t6
              have hgC2 : g < w2.heap.size := Nat.lt_of_lt_of_le hgC f2.size
              have hgs2 : gs < w2.heap.size := Nat.lt_of_lt_of_le hgs f2.size
              have F2 := stop (F.out.trans (f2.mono F.out.size))
              clear f2 t1 t2
              go_wp2_with fail
              refine (greatR _ bs[k].sts[q].a.1 bs[k].sts[q].a.2 _).mono ?_
              rintro e w3 ⟨rfl, f3⟩
              replace e1 := (f3.cell (p := ⟨g, k * 10 + 1, none⟩) hgC2).trans e1
              replace t5 := (f3.cell (p := ⟨gs, q * 8 + 5, none⟩) hgs2).trans t5
              replace t6 := (f3.cell (p := ⟨gs, q * 8 + 6, none⟩) hgs2).trans t6
              have F3 := stop (F2.out.trans (f3.mono F2.out.size))
              clear f3 t3 t4
              go_wp2_with fail
              refine (greatR _ bs[k].sts[q].b.1 bs[k].sts[q].b.2 _).mono ?_
              rintro e w4 ⟨rfl, f4⟩
              have F4 := stop (F3.out.trans (f4.mono F3.out.size))
              have HY2 : Hid (gr (gr (gr y (bs[k].sts[q].to.1, bs[k].sts[q].to.2)) (bs[k].sts[q].a.1, bs[k].sts[q].a.2)) (bs[k].sts[q].b.1, bs[k].sts[q].b.2) = ((L0 ++ bs[k].chs.flatMap regsC) ++ (bs[k].sts.take (q + 1)).flatMap (fun t => [t.to, t.a, t.b])).foldl gr (-1)) := by
                show _ = _
                rw [List.take_succ_eq_append_getElem hql, List.flatMap_append, ← List.append_assoc, List.foldl_append, ← HY.out]
                rfl
              clear f4 HY F F2 F3 t5 t6 e1
              go_wp2_with fail
              go_roundw
              case rel => exact ⟨q + 1, _, by omega, by go_num, rfl, HY2, F4⟩
              case measure => simp [intOf]; omega
            · have e3 := (F.out.cell (p := ⟨g, k * 10 + 3, none⟩) hg).trans HD.out.2.2.1
              have e4 := (F.out.cell (p := ⟨g, k * 10 + 4, none⟩) hg).trans HD.out.2.2.2
              go_wp2_with fail
              refine (greatR y bs[k].e.a.1 bs[k].e.a.2 _).mono ?_
              rintro e w2 ⟨rfl, f2⟩
              have F2 := stop (F.out.trans (f2.mono F.out.size))
              have HY2 : Hid (gr y (bs[k].e.a.1, bs[k].e.a.2) = ((bs.take (k + 1)).flatMap regsR).foldl gr (-1)) := by
                show _ = _
                rw [HN.out]
                unfold regsR
                rw [HY.out, List.take_of_length_le (by omega), ← List.append_assoc, ← List.append_assoc]
                exact gfold_next rfl _
              clear f2 HY F e3 e4 e1
              go_wp2_with fail
              go_roundw
              case rel => exact ⟨k + 1, _, by omega, by go_num, rfl, HY2, F2⟩
              case measure => simp [intOf]; omega
    · have HE : Hid (y = greF bs) := by
        show _ = _
        rw [HY.out, List.take_of_length_le (by omega)]; rfl
      clear HY
      go_wp2_with fail
      go_ret
      exact ⟨by rw [← HE.out]; rfl, F.out⟩

end Go.Proofs.YtgfhfkgdmidhpaaGreatDoor
