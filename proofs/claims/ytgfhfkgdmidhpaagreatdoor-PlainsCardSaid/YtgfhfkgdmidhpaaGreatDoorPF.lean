import Derived.Test.YtgfhfkgdmidhpaaGreatDoorPE
import Derived.Test.YtgfhfkgdmidhpaaGreatDoorPP
namespace Go.Proofs.YtgfhfkgdmidhpaaGreatDoor
open Go.RowKit

/-- The input that is handed in. -/
def InA (v : Value) (l : List Int) (w : World) : Prop :=
  ∃ p c, v = .slice p l.length c ∧ l.length ≤ c ∧ (0 < l.length → ∃ g o, p = some ⟨g, o, none⟩ ∧ g < w.heap.size ∧ ∀ j (h : j < l.length), w.cell? ⟨g, o + j, none⟩ = some (.int .i64 l[j]))
theorem InA.keeps {v l w w'} (h : InA v l w) (F : Below w.heap.size w w') : InA v l w' := by
  obtain ⟨p, c, rfl, hc, h⟩ := h
  refine ⟨p, c, rfl, hc, fun h0 => ?_⟩
  obtain ⟨g, o, a, b, d⟩ := h h0
  exact ⟨g, o, a, Nat.lt_of_lt_of_le b F.size, fun j hj => (F.cell (p := ⟨g, o + j, none⟩) b).trans (d j hj)⟩
theorem grown_drew {w w' : World} {r : Option Nat} (g : w.drew.grownBy w' r) : w.grownBy w' r := ⟨g.os, g.tape, g.output, g.size, g.block⟩
theorem InR_of {base : Nat} {v : Value} {l : List Int} {w : World} (h : w.ownsRow base 3 1 v l.length (zcell l)) : InR base v l w := by
  obtain ⟨p, c, rfl⟩ := owns_slice2 h
  refine ⟨p, c, rfl, ?_, fun h0 => ?_⟩
  · rcases h.2 with ⟨h1, h2⟩ | ⟨g, cap, cur, hv, hb, hg, hc, _, hs, hx⟩
    · simp only [Value.slice.injEq] at h1
      omega
    · cases hv; exact hc
  · obtain ⟨g, rfl, hb, hl⟩ := owns_form h h0
    rcases h.2 with ⟨h1, _⟩ | ⟨g', cap, cur, hv, _, hg, hc, _, hs, hx⟩
    · cases h1
    · cases hv
      refine ⟨g, 0, cur, rfl, hb, hg, fun j hj => ?_⟩
      have := owns_cell h (zcell_at hj)
      rw [cell_of hg] at this
      rwa [Nat.zero_add]

theorem plA_step {bs : List RBlk} {i : Nat} (hi : i < bs.length) (j : Nat) (fm : Int) (m : Mac) : plA (absP bs) (j + 1) i fm m = if bs[i].e.op = 46 then ((blA (absB bs[i]) fm m).out, 0) else plA (absP bs) j (nxA (absB bs[i]) (blA (absB bs[i]) fm m)) i (blA (absB bs[i]) fm m) := by
  have e : bkA (absP bs) i = absB bs[i] := by rw [bkA_at (by simpa [absP] using hi)]; simp [absP]
  rw [plA, e]; rfl
theorem stA_out (t : ASt) (m : Mac) : (stA t m).out.length ≤ m.out.length + 1 := by
  cases t <;> simp [stA]
theorem entA_out (b : ABk) (fm : Int) (m : Mac) : (entA b fm m).out = m.out := by
  unfold entA; split <;> rfl
theorem stsA_next {l : List RStep} {t : Nat} (ht : t < l.length) (m : Mac) : stsA ((l.take (t + 1)).map absS) m = stA (absS l[t]) (stsA ((l.take t).map absS) m) := by
  rw [List.take_succ_eq_append_getElem ht, List.map_append, stsA_app]; rfl
theorem MacE.outRow {base g q m w} (h : MacE base g q m w) : ∃ vO, w.cell? ⟨g, 3, none⟩ = some vO ∧ w.ownsRow base 3 1 vO m.out.length (zcell m.out) := by
  obtain ⟨ns, hs, vN, vH, vI, vO, hM, _⟩ := h
  refine ⟨vO, ?_, hM.1.2.1.2.2⟩
  have := cell_of hM.1.1.1 3
  simpa using this
theorem MacE.lt {base g q m w} (h : MacE base g q m w) : g < w.heap.size := by
  obtain ⟨ns, hs, vN, vH, vI, vO, hM, _⟩ := h
  exact lt_of_block hM.1.1.1

set_option maxRecDepth 100000 in
set_option maxHeartbeats 4000000 in
theorem playR (bs : List RBlk) (base : Nat) (vl vi : Value) (V : List Int) (f : Nat) (w : World) (h : BlksOwn w base bs vl) (hi : InA vi V w) (hV : V.length ≤ 20) (hf : f ≤ 300) (hpos : 0 < bs.length)
    (hfine : ∀ b ∈ bs, BFine 1000000 b) (hcs : ∀ b ∈ bs, b.chs.length + b.sts.length ≤ 100000) (hgl : ∀ b ∈ bs, ∀ c ∈ b.chs, c.gs.length ≤ 1000) (hop : ∀ b ∈ bs, ∀ t ∈ b.sts, t.op < 256) (hnx : ∀ b ∈ bs, b.e.op < 256 ∧ (b.e.op ≠ 46 → b.e.one.1 < bs.length) ∧ (b.e.op = 63 → b.e.two.1 < bs.length)) :
    Calls Tryz.prog 32 #[vl, vi, .int .i64 f] w fun x w' => ∃ v, x = .returned (.tuple #[v, .int .i64 (playA (absP bs) V f).2]) ∧ Hid (w'.ownsRow w.heap.size 3 1 v (playA (absP bs) V f).1.length (zcell (playA (absP bs) V f).1) ∧ Below w.heap.size w w') := by
  obtain ⟨pl, cl, rfl⟩ := h.slice
  have hib := hi
  obtain ⟨pi, ci, rfl, hci, _⟩ := hi
  have HB := stop h
  have HI := stop hib
  have HF := stop hfine
  have HG := stop hgl
  have HCS := stop hcs
  have HO := stop hop
  have HX := stop hnx
  clear h hib hfine hgl hop hnx hcs
  go_enter Tryz.func32, Tryz.ntmps32
  go_wp2_with fail
  have B0 : Hid ((w.alloc (.cells #[.slice none 0 0, .slice none 0 0, .slice none 0 0, .slice none 0 0] 125)).heap[w.heap.size]? = some (.cells #[.slice none 0 0, .slice none 0 0, .slice none 0 0, .slice none 0 0] 125 (0, 0)) ∧ Below w.heap.size w (w.alloc (.cells #[.slice none 0 0, .slice none 0 0, .slice none 0 0, .slice none 0 0] 125))) := ⟨heap_alloc_last _ _, (Below.refl _ _).alloc (Nat.le_refl _) _⟩
  go_loopw [9] (fun i wr => ∃ (k : Nat) (L : List Int) (vI : Value), k ≤ V.length ∧ i = .int .i64 k ∧ Hid (L = V.take k) ∧ wr.ownsRow w.heap.size 3 1 vI L.length (zcell L) ∧ Hid (wr.heap[w.heap.size]? = some (.cells #[.slice none 0 0, .slice none 0 0, vI, .slice none 0 0] 125 (0, 0)) ∧ Below w.heap.size w wr)) (fun i _ => V.length - (intOf i).toNat)
  case atStart => exact ⟨0, [], _, by omega, rfl, rfl, World.ownsRow_nil _ _ _ _, B0⟩
  case round =>
    clear B0
    obtain ⟨k, L, vI, hk, rfl, HL, OV, HW⟩ := hrel
    rename World => wA
    obtain ⟨pI, cI, rfl⟩ := owns_slice2 OV
    have hzA := HW.out.2.size
    have hgA := lt_of_block HW.out.1
    have hkl : L.length = k := by rw [HL.out, List.length_take]; omega
    by_cases hlt : k < V.length
    · obtain ⟨p, c, e, _, hin⟩ := HI.out
      obtain ⟨gI, oI, rfl, hcs, hcx⟩ := hin (by omega)
      cases e
      have c0 : wA.cell? ⟨gI, oI + k, none⟩ = some (.int .i64 V[k]) := by
        rw [HW.out.2.cell (p := ⟨gI, oI + k, none⟩) hcs]; exact hcx k hlt
      have m2 : wA.cell? ⟨w.heap.size, 2, none⟩ = some (.slice pI L.length cI) := by
        have := cell_of HW.out.1 2; simpa using this
      have HOV := stop OV
      have HN : Hid (L ++ [V[k]] = V.take (k + 1)) := by show _ = _; rw [List.take_succ_eq_append_getElem hlt, HL.out]
      have HKL := stop hkl
      have hk20 : L.length ≤ 20 := by omega
      have OBd : Hid ((wA.alloc (.cells #[.int .i64 V[k]] 3)).drew.ownsRow w.heap.size 3 1 (.slice pI L.length cI) L.length (zcell L)) := OV.alloc _
      have hzD : Hid ((wA.alloc (.cells #[.int .i64 V[k]] 3)).drew.heap[wA.heap.size]? = some (.cells #[.int .i64 V[k]] 3 (0, 0))) := heap_alloc_last wA _
      have hsD : w.heap.size ≤ (wA.alloc (.cells #[.int .i64 V[k]] 3)).drew.heap.size := by show _ ≤ (wA.alloc _).heap.size; rw [World.size_alloc]; omega
      clear hkl hcx hcs OV hin
      go_wp2_with fail
      go_region_law (first | (refine step1A Tryz.underlying22 Tryz.info3 rfl (by decide) (by decide) rfl _ _ rfl rfl OBd.out hzD.out rfl rfl (List.all_eq_true.1 rfl) (by omega) hsD ?_; intro v7 w7 oS gS nS; obtain ⟨v7p, v7c, rfl⟩ := owns_slice2 oS; have C7 := grown_ch (grown_drew gS); have a7 : w7.heap[w.heap.size]? = some (.cells #[.slice none 0 0, .slice none 0 0, .slice pI L.length cI, .slice none 0 0] 125 (0, 0)) := (by rw [C7.block _ hgA (fun e2 => own_type HOV.out HW.out.1 (by decide) e2.symm)]; exact HW.out.1); have z2 := cell_of a7 2; have z2f := frozen_of a7 2; have H7 := stop (And.intro oS (And.intro a7 C7)); simp at z2; clear oS gS nS a7 C7))
      all_goals
        have R : Hid ((w7.setCell ⟨w.heap.size, 2, none⟩ (.slice v7p (L.length + 1) v7c)).ownsRow w.heap.size 3 1 (.slice v7p (L.length + 1) v7c) (L ++ [V[k]]).length (zcell (L ++ [V[k]])) ∧ (w7.setCell ⟨w.heap.size, 2, none⟩ (.slice v7p (L.length + 1) v7c)).heap[w.heap.size]? = some (.cells #[.slice none 0 0, .slice none 0 0, .slice v7p (L.length + 1) v7c, .slice none 0 0] 125 (0, 0)) ∧ Below w.heap.size w (w7.setCell ⟨w.heap.size, 2, none⟩ (.slice v7p (L.length + 1) v7c))) := by
          refine ⟨?_, ?_, ?_⟩
          · rw [zcell_app, List.length_append]
            exact owns_blk H7.out.1 (fun j _ hj => set_block (fun e2 => own_type H7.out.1 H7.out.2.1 (by decide) (by rw [← e2]; exact hj)))
          · rw [blk_set H7.out.2.1]; rfl
          · exact below_set (HW.out.2.trans (H7.out.2.2.toBelow (by omega) (fun j hj => (HOV.out.lt j hj.symm).1))) _ _ _ (Nat.le_refl _)
        clear H7 HOV OBd hzD c0 m2 z2 z2f
        go_wp2_with fail
        go_roundw
        case rel => exact ⟨k + 1, L ++ [V[k]], _, by omega, by go_num, HN, R.out.1, R.out.2⟩
        case measure => simp [intOf]; omega
    · have hke : k = V.length := by omega
      have M0 : Hid (MacE w.heap.size w.heap.size 0 ⟨fun _ => 0, V, []⟩ wA ∧ Below w.heap.size w wA) := by
        obtain rfl : L = V := by rw [HL.out, hke, List.take_length]
        refine ⟨⟨[], [], .slice none 0 0, .slice none 0 0, _, .slice none 0 0, ⟨⟨⟨HW.out.1, Nat.le_refl _⟩, ⟨World.ownsRow_nil _ _ _ _, World.ownsRow_nil _ _ _ _, World.ownsRow_nil _ _ _ _⟩, InR_of OV, ⟨(fun j hj => by cases hj), (fun j hj => by cases hj), (fun j hj => by cases hj)⟩, fun j hj => ⟨(fun h => by cases h), (fun h => by cases h), (fun h => by cases h)⟩⟩, rfl, ?_⟩, Nat.le_refl _⟩, HW.out.2⟩
        funext n
        exact (look_nil1 _ _).symm
      clear hke OV HW hkl HL
      go_wp2_with fail
      have HS : Hid (plA (absP bs) f 0 (-1) ⟨fun _ => 0, V, []⟩ = playA (absP bs) V f) := rfl
      go_loopw [2, 10, 11] (fun fu at_ fr wr => ∃ (k i : Nat) (fm : Int) (m : Mac) (q : Nat), fu = .int .i64 k ∧ at_ = .int .i64 i ∧ fr = .int .i64 fm ∧ k ≤ f ∧ i < bs.length ∧ q + 100000 * k ≤ 100000 * f ∧ m.out.length + 100000 * k ≤ 100000 * f ∧ Hid ((fm = -1 ∨ ∃ j : Nat, fm = j) ∧ plA (absP bs) k i fm m = playA (absP bs) V f) ∧ Hid (MacE w.heap.size w.heap.size q m wr ∧ Below w.heap.size w wr)) (fun fu _ _ _ => (intOf fu).toNat)
      case atStart => exact ⟨f, 0, -1, _, 0, rfl, rfl, rfl, by omega, hpos, by omega, by simp, ⟨.inl rfl, HS.out⟩, M0⟩
      case round =>
        clear M0 HS
        obtain ⟨k, i, fm, m, q, rfl, rfl, rfl, hk, hi, hq, hol, HP, HM⟩ := hrel
        rename World => wB
        by_cases hk0 : k = 0
        · subst hk0
          obtain ⟨vO, o3, OO⟩ := HM.out.1.outRow
          obtain ⟨pO, cO, rfl⟩ := owns_slice2 OO
          have HE : Hid (playA (absP bs) V f = (m.out, 1)) := by show _ = _; rw [← HP.out.2, plA]
          have HOO := stop OO
          clear OO HP
          go_wp2_with fail
          go_ret2
          refine ⟨_, by rw [HE.out]; rfl, ?_⟩
          rw [HE.out]
          exact ⟨HOO.out, HM.out.2⟩
        · have hkp : 0 < k := by omega
          obtain ⟨j, hj⟩ : ∃ j, j = k - 1 := ⟨_, rfl⟩
          have HJ := stop hj
          have HPE : Hid (plA (absP bs) (j + 1) i fm m = playA (absP bs) V f) := by show _ = _; rw [hj, show k - 1 + 1 = k from by omega]; exact HP.out.2
          have hjk : j + 1 ≤ k := by omega
          have hkj : k ≤ j + 1 := by omega
          clear hk0 hj
          obtain ⟨g, qc, cc, ps, cs, rfl, _, hg, OC, OS, hc⟩ := HB.out.at hi
          have hcl : ∀ (o : Nat) (u : Value), (blkCells (.slice qc bs[i].chs.length cc) (.slice ps bs[i].sts.length cs) bs[i].e bs[i].at_)[o]? = some u → wB.cell? ⟨g, i * 10 + o, none⟩ = some u := fun o u h => (HM.out.2.cell (p := ⟨g, i * 10 + o, none⟩) hg).trans (hc o u h)
          have d0 := hcl 0 _ rfl
          have d1 := hcl 1 _ rfl
          have d2 := hcl 2 _ rfl
          have d3 := hcl 3 _ rfl
          have d4 := hcl 4 _ rfl
          have d5 := hcl 5 _ rfl
          have d6 := hcl 6 _ rfl
          have d7 := hcl 7 _ rfl
          have d8 := hcl 8 _ rfl
          have d9 := hcl 9 _ rfl
          simp only [Nat.add_zero] at d0
          have HOC := stop (And.intro OC OS)
          have hgM := HM.out.1.lt
          have hcsi := HCS.out _ (List.getElem_mem hi)
          have F1 := stop ((Below.refl wB.heap.size wB).alloc (Nat.le_refl _) (.cells #[.slice qc bs[i].chs.length cc, .slice ps bs[i].sts.length cs, .int .u8 bs[i].e.op, .int .i64 bs[i].e.a.1, .int .i64 bs[i].e.a.2, .int .i64 bs[i].e.one.1, .int .i64 bs[i].e.one.2, .int .i64 bs[i].e.two.1, .int .i64 bs[i].e.two.2, .int .i64 bs[i].at_] 53))
          have hzB := HM.out.2.size
          have g1 := heap_alloc_last wB (.cells #[.slice qc bs[i].chs.length cc, .slice ps bs[i].sts.length cs, .int .u8 bs[i].e.op, .int .i64 bs[i].e.a.1, .int .i64 bs[i].e.a.2, .int .i64 bs[i].e.one.1, .int .i64 bs[i].e.one.2, .int .i64 bs[i].e.two.1, .int .i64 bs[i].e.two.2, .int .i64 bs[i].at_] 53)
          have hfm := HP.out.1
          clear hc hcl OC OS HP
          have HBF := stop (HF.out _ (List.getElem_mem hi))
          have HGG := stop (HG.out _ (List.getElem_mem hi))
          rcases hfm with rfl | ⟨fj, rfl⟩
          · have X : ∃ (m1 : Mac) (q1 : Nat), Hid (m1 = entA (absB bs[i]) (-1) m) ∧ q1 ≤ q + bs[i].chs.length ∧ m1.out.length ≤ m.out.length ∧ Hid (MacE w.heap.size w.heap.size q1 m1 (wB.alloc (.cells #[.slice qc bs[i].chs.length cc, .slice ps bs[i].sts.length cs, .int .u8 bs[i].e.op, .int .i64 bs[i].e.a.1, .int .i64 bs[i].e.a.2, .int .i64 bs[i].e.one.1, .int .i64 bs[i].e.one.2, .int .i64 bs[i].e.two.1, .int .i64 bs[i].e.two.2, .int .i64 bs[i].at_] 53)) ∧ Below w.heap.size w (wB.alloc (.cells #[.slice qc bs[i].chs.length cc, .slice ps bs[i].sts.length cs, .int .u8 bs[i].e.op, .int .i64 bs[i].e.a.1, .int .i64 bs[i].e.a.2, .int .i64 bs[i].e.one.1, .int .i64 bs[i].e.one.2, .int .i64 bs[i].e.two.1, .int .i64 bs[i].e.two.2, .int .i64 bs[i].at_] 53)) ∧ (wB.alloc (.cells #[.slice qc bs[i].chs.length cc, .slice ps bs[i].sts.length cs, .int .u8 bs[i].e.op, .int .i64 bs[i].e.a.1, .int .i64 bs[i].e.a.2, .int .i64 bs[i].e.one.1, .int .i64 bs[i].e.one.2, .int .i64 bs[i].e.two.1, .int .i64 bs[i].e.two.2, .int .i64 bs[i].at_] 53)).heap[wB.heap.size]? = some (.cells #[.slice qc bs[i].chs.length cc, .slice ps bs[i].sts.length cs, .int .u8 bs[i].e.op, .int .i64 bs[i].e.a.1, .int .i64 bs[i].e.a.2, .int .i64 bs[i].e.one.1, .int .i64 bs[i].e.one.2, .int .i64 bs[i].e.two.1, .int .i64 bs[i].e.two.2, .int .i64 bs[i].at_] 53 (0, 0))) := ⟨m, q, rfl, by omega, Nat.le_refl _, HM.out.1.keeps F1.out, HM.out.2.trans (F1.out.mono hzB), g1⟩
            obtain ⟨m1, q1, HE1, hq1, ho1, H1⟩ := X
            clear g1 F1
            go_wp2_with fail
            clear d0 d1 d2 d3 d4 d5 d6 d7 d8 d9
            generalize wB.alloc (.cells #[.slice qc bs[i].chs.length cc, .slice ps bs[i].sts.length cs, .int .u8 bs[i].e.op, .int .i64 bs[i].e.a.1, .int .i64 bs[i].e.a.2, .int .i64 bs[i].e.one.1, .int .i64 bs[i].e.one.2, .int .i64 bs[i].e.two.1, .int .i64 bs[i].e.two.2, .int .i64 bs[i].at_] 53) = W1 at *
            have b1 := cell_of H1.out.2.2 1
            simp at b1
            go_wp2_with fail
            clear b1
            go_loopw [13] (fun ii wr => ∃ (t q2 : Nat) (m2 : Mac), t ≤ bs[i].sts.length ∧ ii = .int .i64 t ∧ q2 ≤ q1 + t ∧ m2.out.length ≤ m1.out.length + t ∧ Hid (m2 = stsA ((bs[i].sts.take t).map absS) m1) ∧ Hid (MacE w.heap.size w.heap.size q2 m2 wr ∧ Below w.heap.size w wr ∧ wr.heap[wB.heap.size]? = some (.cells #[.slice qc bs[i].chs.length cc, .slice ps bs[i].sts.length cs, .int .u8 bs[i].e.op, .int .i64 bs[i].e.a.1, .int .i64 bs[i].e.a.2, .int .i64 bs[i].e.one.1, .int .i64 bs[i].e.one.2, .int .i64 bs[i].e.two.1, .int .i64 bs[i].e.two.2, .int .i64 bs[i].at_] 53 (0, 0)))) (fun ii _ => bs[i].sts.length - (intOf ii).toNat)
            case atStart => exact ⟨0, q1, m1, by omega, rfl, by omega, by omega, rfl, H1⟩
            case round =>
              clear H1
              obtain ⟨t, q2, m2, ht, rfl, hq2, ho2, HE2, H2⟩ := hrel
              rename World => wC
              have hzC := H2.out.2.1.size
              have hbC := lt_of_block H2.out.2.2
              have b1 := cell_of H2.out.2.2 1
              simp at b1
              by_cases htl : t < bs[i].sts.length
              · have OS := owns_keeps HOC.out.2 (Keeps.below (T := fun _ => True) H2.out.2.1) trivial
                obtain ⟨gs, rfl, _, hgs⟩ := owns_form OS (by omega)
                have t0 : wC.cell? ⟨gs, t * 8, none⟩ = some (.int .u8 bs[i].sts[t].op) := owns_cell OS (stepCells_at htl (k := 0) (by omega))
                have t1 : wC.cell? ⟨gs, t * 8 + 1, none⟩ = some (.int .i64 bs[i].sts[t].to.1) := owns_cell OS (stepCells_at htl (k := 1) (by omega))
                have t2 : wC.cell? ⟨gs, t * 8 + 2, none⟩ = some (.int .i64 bs[i].sts[t].to.2) := owns_cell OS (stepCells_at htl (k := 2) (by omega))
                have t3 : wC.cell? ⟨gs, t * 8 + 3, none⟩ = some (.int .i64 bs[i].sts[t].a.1) := owns_cell OS (stepCells_at htl (k := 3) (by omega))
                have t4 : wC.cell? ⟨gs, t * 8 + 4, none⟩ = some (.int .i64 bs[i].sts[t].a.2) := owns_cell OS (stepCells_at htl (k := 4) (by omega))
                have t5 : wC.cell? ⟨gs, t * 8 + 5, none⟩ = some (.int .i64 bs[i].sts[t].b.1) := owns_cell OS (stepCells_at htl (k := 5) (by omega))
                have t6 : wC.cell? ⟨gs, t * 8 + 6, none⟩ = some (.int .i64 bs[i].sts[t].b.2) := owns_cell OS (stepCells_at htl (k := 6) (by omega))
                have t7 : wC.cell? ⟨gs, t * 8 + 7, none⟩ = some (.int .i64 bs[i].sts[t].n) := owns_cell OS (stepCells_at htl (k := 7) (by omega))
                have hop := HO.out _ (List.getElem_mem hi) _ (List.getElem_mem htl)
                have HNX := stop (stsA_next htl m1)
                have hob := stA_out (absS bs[i].sts[t]) m2
                clear OS
                go_wp2_with fail
                refine (stepR w.heap.size w.heap.size q2 bs[i].sts[t] m2 wC H2.out.1 hop (by omega) (by omega) hzC).mono ?_
                rintro x w5 ⟨rfl, H5⟩
                have R5 : Hid (MacE w.heap.size w.heap.size (q2 + 1) (stA (absS bs[i].sts[t]) m2) w5 ∧ Below w.heap.size w w5 ∧ w5.heap[wB.heap.size]? = some (.cells #[.slice qc bs[i].chs.length cc, .slice (some ⟨gs, 0, none⟩) bs[i].sts.length cs, .int .u8 bs[i].e.op, .int .i64 bs[i].e.a.1, .int .i64 bs[i].e.a.2, .int .i64 bs[i].e.one.1, .int .i64 bs[i].e.one.2, .int .i64 bs[i].e.two.1, .int .i64 bs[i].e.two.2, .int .i64 bs[i].at_] 53 (0, 0))) := ⟨H5.out.1, H2.out.2.1.trans H5.out.2.2, H5.out.2.1 _ _ _ (by omega) (by decide) H2.out.2.2⟩
                have HE5 : Hid (stA (absS bs[i].sts[t]) m2 = stsA ((bs[i].sts.take (t + 1)).map absS) m1) := by show _ = _; rw [HNX.out, HE2.out]
                clear H5 H2 HE2 HNX t0 t1 t2 t3 t4 t5 t6 t7 b1
                go_wp2_with fail
                go_roundw
                case rel => exact ⟨t + 1, q2 + 1, _, by omega, by go_num, by omega, by omega, HE5, R5⟩
                case measure => simp [intOf]; omega
              · have HE3 : Hid (m2 = blA (absB bs[i]) (-1) m) := by
                  show _ = _
                  rw [HE2.out, List.take_of_length_le (by omega), HE1.out]; rfl
                have b2 := cell_of H2.out.2.2 2
                have b3 := cell_of H2.out.2.2 3
                have b5 := cell_of H2.out.2.2 5
                have b7 := cell_of H2.out.2.2 7
                simp at b2 b3 b5 b7
                have hxi := HX.out _ (List.getElem_mem hi)
                by_cases h46 : bs[i].e.op = 46
                · have hd : ((bs[i].e.op : Int) == 46) = true := by simp; omega
                  obtain ⟨vO, o3, OO⟩ := H2.out.1.outRow
                  obtain ⟨pO, cO, rfl⟩ := owns_slice2 OO
                  have HE : Hid (playA (absP bs) V f = (m2.out, 0)) := by show _ = _; rw [← HPE.out, plA_step hi, if_pos h46, HE3.out]
                  have HOO := stop OO
                  clear OO h46 hxi
                  go_wp2_with fail
                  go_ret2
                  refine ⟨_, by rw [HE.out]; rfl, ?_⟩
                  rw [HE.out]
                  exact ⟨HOO.out, H2.out.2.1⟩
                · have hd : ((bs[i].e.op : Int) == 46) = false := by simp; omega
                  have h1n := hxi.2.1 h46
                  by_cases h63 : bs[i].e.op = 63
                  · have hd2 : ((bs[i].e.op : Int) == 63) = true := by simp; omega
                    have h2n := hxi.2.2 h63
                    by_cases hr : m2.r bs[i].e.a.1 = 0
                    · have hd3 : ((m2.r bs[i].e.a.1 : Int) == 0) = true := by simpa using hr
                      have HN : Hid (plA (absP bs) j bs[i].e.two.1 (i : Int) m2 = playA (absP bs) V f) := by
                        show _ = _
                        rw [← HPE.out, plA_step hi, if_neg h46, ← HE3.out]
                        congr 1
                        unfold nxA; rw [if_pos ⟨h63, hr⟩]; rfl
                      clear h46 h63 hr hxi
                      go_wp2_with fail
                      refine (getE w.heap.size w.heap.size bs[i].e.a.1 q2 m2 wC H2.out.1 (by omega)).mono ?_
                      rintro x w6 ⟨rfl, f6⟩
                      have H6 : Hid (MacE w.heap.size w.heap.size q2 m2 w6 ∧ Below w.heap.size w w6) := ⟨H2.out.1.keeps f6, H2.out.2.1.trans (f6.mono hzC)⟩
                      replace b7 := (f6.cell (p := ⟨wB.heap.size, 7, none⟩) hbC).trans b7
                      clear f6 b1 b2 b3 b5 H2
                      go_wp2_with fail
                      go_roundw
                      case rel => exact ⟨j, bs[i].e.two.1, i, m2, q2, by rw [HJ.out]; go_num, rfl, rfl, by omega, h2n, by omega, by omega, ⟨.inr ⟨i, rfl⟩, HN.out⟩, H6⟩
                      case measure => simp [intOf]; try omega
                    · have hd3 : ((m2.r bs[i].e.a.1 : Int) == 0) = false := by simpa using hr
                      have HN : Hid (plA (absP bs) j bs[i].e.one.1 (i : Int) m2 = playA (absP bs) V f) := by
                        show _ = _
                        rw [← HPE.out, plA_step hi, if_neg h46, ← HE3.out]
                        congr 1
                        unfold nxA; rw [if_neg (fun h => hr h.2)]; rfl
                      clear h46 h63 hr hxi
                      go_wp2_with fail
                      refine (getE w.heap.size w.heap.size bs[i].e.a.1 q2 m2 wC H2.out.1 (by omega)).mono ?_
                      rintro x w6 ⟨rfl, f6⟩
                      have H6 : Hid (MacE w.heap.size w.heap.size q2 m2 w6 ∧ Below w.heap.size w w6) := ⟨H2.out.1.keeps f6, H2.out.2.1.trans (f6.mono hzC)⟩
                      clear f6 b1 b2 b3 b5 b7 H2
                      go_wp2_with fail
                      go_roundw
                      case rel => exact ⟨j, bs[i].e.one.1, i, m2, q2, by rw [HJ.out]; go_num, rfl, rfl, by omega, h1n, by omega, by omega, ⟨.inr ⟨i, rfl⟩, HN.out⟩, H6⟩
                      case measure => simp [intOf]; try omega
                  · have hd2 : ((bs[i].e.op : Int) == 63) = false := by simp; omega
                    have HN : Hid (plA (absP bs) j bs[i].e.one.1 (i : Int) m2 = playA (absP bs) V f) := by
                      show _ = _
                      rw [← HPE.out, plA_step hi, if_neg h46, ← HE3.out]
                      congr 1
                      unfold nxA; rw [if_neg (fun h => h63 h.1)]; rfl
                    have H6 : Hid (MacE w.heap.size w.heap.size q2 m2 wC ∧ Below w.heap.size w wC) := ⟨H2.out.1, H2.out.2.1⟩
                    clear h46 h63 hxi H2
                    go_wp2_with fail
                    go_roundw
                    case rel => exact ⟨j, bs[i].e.one.1, i, m2, q2, by rw [HJ.out]; go_num, rfl, rfl, by omega, h1n, by omega, by omega, ⟨.inr ⟨i, rfl⟩, HN.out⟩, H6⟩
                    case measure => simp [intOf]; try omega
          · go_wp2_with fail
            refine (chooseR base w.heap.size q fj bs[i] _ _ m w _ (HM.out.1.keeps F1.out) (HM.out.2.trans (F1.out.mono hzB)) HOC.out.1 ⟨_, _, _, rfl⟩ HBF.out HGG.out (by omega)).mono ?_
            rintro x W1 ⟨rfl, HC1⟩
            have X : ∃ (m1 : Mac) (q1 : Nat), Hid (m1 = entA (absB bs[i]) (fj : Int) m) ∧ q1 ≤ q + bs[i].chs.length ∧ m1.out.length ≤ m.out.length ∧ Hid (MacE w.heap.size w.heap.size q1 m1 W1 ∧ Below w.heap.size w W1 ∧ W1.heap[wB.heap.size]? = some (.cells #[.slice qc bs[i].chs.length cc, .slice ps bs[i].sts.length cs, .int .u8 bs[i].e.op, .int .i64 bs[i].e.a.1, .int .i64 bs[i].e.a.2, .int .i64 bs[i].e.one.1, .int .i64 bs[i].e.one.2, .int .i64 bs[i].e.two.1, .int .i64 bs[i].e.two.2, .int .i64 bs[i].at_] 53 (0, 0))) := ⟨{ m with r := chA (bs[i].chs.map absC) fj m.r }, q + bs[i].chs.length, (by show _ = _; unfold entA; rw [if_pos (by omega), Int.toNat_natCast]; rfl), Nat.le_refl _, Nat.le_refl _, HC1.out.1, (HM.out.2.trans (F1.out.mono hzB)).trans HC1.out.2.2, HC1.out.2.1 _ _ _ (by omega) (by decide) g1⟩
            obtain ⟨m1, q1, HE1, hq1, ho1, H1⟩ := X
            clear g1 F1 HC1 d0 d1 d2 d3 d4 d5 d6 d7 d8 d9
            go_wp2_with fail
            have b1 := cell_of H1.out.2.2 1
            simp at b1
            go_wp2_with fail
            clear b1
            go_loopw [13] (fun ii wr => ∃ (t q2 : Nat) (m2 : Mac), t ≤ bs[i].sts.length ∧ ii = .int .i64 t ∧ q2 ≤ q1 + t ∧ m2.out.length ≤ m1.out.length + t ∧ Hid (m2 = stsA ((bs[i].sts.take t).map absS) m1) ∧ Hid (MacE w.heap.size w.heap.size q2 m2 wr ∧ Below w.heap.size w wr ∧ wr.heap[wB.heap.size]? = some (.cells #[.slice qc bs[i].chs.length cc, .slice ps bs[i].sts.length cs, .int .u8 bs[i].e.op, .int .i64 bs[i].e.a.1, .int .i64 bs[i].e.a.2, .int .i64 bs[i].e.one.1, .int .i64 bs[i].e.one.2, .int .i64 bs[i].e.two.1, .int .i64 bs[i].e.two.2, .int .i64 bs[i].at_] 53 (0, 0)))) (fun ii _ => bs[i].sts.length - (intOf ii).toNat)
            case atStart => exact ⟨0, q1, m1, by omega, rfl, by omega, by omega, rfl, H1⟩
            case round =>
              clear H1
              obtain ⟨t, q2, m2, ht, rfl, hq2, ho2, HE2, H2⟩ := hrel
              rename World => wC
              have hzC := H2.out.2.1.size
              have hbC := lt_of_block H2.out.2.2
              have b1 := cell_of H2.out.2.2 1
              simp at b1
              by_cases htl : t < bs[i].sts.length
              · have OS := owns_keeps HOC.out.2 (Keeps.below (T := fun _ => True) H2.out.2.1) trivial
                obtain ⟨gs, rfl, _, hgs⟩ := owns_form OS (by omega)
                have t0 : wC.cell? ⟨gs, t * 8, none⟩ = some (.int .u8 bs[i].sts[t].op) := owns_cell OS (stepCells_at htl (k := 0) (by omega))
                have t1 : wC.cell? ⟨gs, t * 8 + 1, none⟩ = some (.int .i64 bs[i].sts[t].to.1) := owns_cell OS (stepCells_at htl (k := 1) (by omega))
                have t2 : wC.cell? ⟨gs, t * 8 + 2, none⟩ = some (.int .i64 bs[i].sts[t].to.2) := owns_cell OS (stepCells_at htl (k := 2) (by omega))
                have t3 : wC.cell? ⟨gs, t * 8 + 3, none⟩ = some (.int .i64 bs[i].sts[t].a.1) := owns_cell OS (stepCells_at htl (k := 3) (by omega))
                have t4 : wC.cell? ⟨gs, t * 8 + 4, none⟩ = some (.int .i64 bs[i].sts[t].a.2) := owns_cell OS (stepCells_at htl (k := 4) (by omega))
                have t5 : wC.cell? ⟨gs, t * 8 + 5, none⟩ = some (.int .i64 bs[i].sts[t].b.1) := owns_cell OS (stepCells_at htl (k := 5) (by omega))
                have t6 : wC.cell? ⟨gs, t * 8 + 6, none⟩ = some (.int .i64 bs[i].sts[t].b.2) := owns_cell OS (stepCells_at htl (k := 6) (by omega))
                have t7 : wC.cell? ⟨gs, t * 8 + 7, none⟩ = some (.int .i64 bs[i].sts[t].n) := owns_cell OS (stepCells_at htl (k := 7) (by omega))
                have hop := HO.out _ (List.getElem_mem hi) _ (List.getElem_mem htl)
                have HNX := stop (stsA_next htl m1)
                have hob := stA_out (absS bs[i].sts[t]) m2
                clear OS
                go_wp2_with fail
                refine (stepR w.heap.size w.heap.size q2 bs[i].sts[t] m2 wC H2.out.1 hop (by omega) (by omega) hzC).mono ?_
                rintro x w5 ⟨rfl, H5⟩
                have R5 : Hid (MacE w.heap.size w.heap.size (q2 + 1) (stA (absS bs[i].sts[t]) m2) w5 ∧ Below w.heap.size w w5 ∧ w5.heap[wB.heap.size]? = some (.cells #[.slice qc bs[i].chs.length cc, .slice (some ⟨gs, 0, none⟩) bs[i].sts.length cs, .int .u8 bs[i].e.op, .int .i64 bs[i].e.a.1, .int .i64 bs[i].e.a.2, .int .i64 bs[i].e.one.1, .int .i64 bs[i].e.one.2, .int .i64 bs[i].e.two.1, .int .i64 bs[i].e.two.2, .int .i64 bs[i].at_] 53 (0, 0))) := ⟨H5.out.1, H2.out.2.1.trans H5.out.2.2, H5.out.2.1 _ _ _ (by omega) (by decide) H2.out.2.2⟩
                have HE5 : Hid (stA (absS bs[i].sts[t]) m2 = stsA ((bs[i].sts.take (t + 1)).map absS) m1) := by show _ = _; rw [HNX.out, HE2.out]
                clear H5 H2 HE2 HNX t0 t1 t2 t3 t4 t5 t6 t7 b1
                go_wp2_with fail
                go_roundw
                case rel => exact ⟨t + 1, q2 + 1, _, by omega, by go_num, by omega, by omega, HE5, R5⟩
                case measure => simp [intOf]; omega
              · have HE3 : Hid (m2 = blA (absB bs[i]) ((fj : Int)) m) := by
                  show _ = _
                  rw [HE2.out, List.take_of_length_le (by omega), HE1.out]; rfl
                have b2 := cell_of H2.out.2.2 2
                have b3 := cell_of H2.out.2.2 3
                have b5 := cell_of H2.out.2.2 5
                have b7 := cell_of H2.out.2.2 7
                simp at b2 b3 b5 b7
                have hxi := HX.out _ (List.getElem_mem hi)
                by_cases h46 : bs[i].e.op = 46
                · have hd : ((bs[i].e.op : Int) == 46) = true := by simp; omega
                  obtain ⟨vO, o3, OO⟩ := H2.out.1.outRow
                  obtain ⟨pO, cO, rfl⟩ := owns_slice2 OO
                  have HE : Hid (playA (absP bs) V f = (m2.out, 0)) := by show _ = _; rw [← HPE.out, plA_step hi, if_pos h46, HE3.out]
                  have HOO := stop OO
                  clear OO h46 hxi
                  go_wp2_with fail
                  go_ret2
                  refine ⟨_, by rw [HE.out]; rfl, ?_⟩
                  rw [HE.out]
                  exact ⟨HOO.out, H2.out.2.1⟩
                · have hd : ((bs[i].e.op : Int) == 46) = false := by simp; omega
                  have h1n := hxi.2.1 h46
                  by_cases h63 : bs[i].e.op = 63
                  · have hd2 : ((bs[i].e.op : Int) == 63) = true := by simp; omega
                    have h2n := hxi.2.2 h63
                    by_cases hr : m2.r bs[i].e.a.1 = 0
                    · have hd3 : ((m2.r bs[i].e.a.1 : Int) == 0) = true := by simpa using hr
                      have HN : Hid (plA (absP bs) j bs[i].e.two.1 (i : Int) m2 = playA (absP bs) V f) := by
                        show _ = _
                        rw [← HPE.out, plA_step hi, if_neg h46, ← HE3.out]
                        congr 1
                        unfold nxA; rw [if_pos ⟨h63, hr⟩]; rfl
                      clear h46 h63 hr hxi
                      go_wp2_with fail
                      refine (getE w.heap.size w.heap.size bs[i].e.a.1 q2 m2 wC H2.out.1 (by omega)).mono ?_
                      rintro x w6 ⟨rfl, f6⟩
                      have H6 : Hid (MacE w.heap.size w.heap.size q2 m2 w6 ∧ Below w.heap.size w w6) := ⟨H2.out.1.keeps f6, H2.out.2.1.trans (f6.mono hzC)⟩
                      replace b7 := (f6.cell (p := ⟨wB.heap.size, 7, none⟩) hbC).trans b7
                      clear f6 b1 b2 b3 b5 H2
                      go_wp2_with fail
                      go_roundw
                      case rel => exact ⟨j, bs[i].e.two.1, i, m2, q2, by rw [HJ.out]; go_num, rfl, rfl, by omega, h2n, by omega, by omega, ⟨.inr ⟨i, rfl⟩, HN.out⟩, H6⟩
                      case measure => simp [intOf]; try omega
                    · have hd3 : ((m2.r bs[i].e.a.1 : Int) == 0) = false := by simpa using hr
                      have HN : Hid (plA (absP bs) j bs[i].e.one.1 (i : Int) m2 = playA (absP bs) V f) := by
                        show _ = _
                        rw [← HPE.out, plA_step hi, if_neg h46, ← HE3.out]
                        congr 1
                        unfold nxA; rw [if_neg (fun h => hr h.2)]; rfl
                      clear h46 h63 hr hxi
                      go_wp2_with fail
                      refine (getE w.heap.size w.heap.size bs[i].e.a.1 q2 m2 wC H2.out.1 (by omega)).mono ?_
                      rintro x w6 ⟨rfl, f6⟩
                      have H6 : Hid (MacE w.heap.size w.heap.size q2 m2 w6 ∧ Below w.heap.size w w6) := ⟨H2.out.1.keeps f6, H2.out.2.1.trans (f6.mono hzC)⟩
                      clear f6 b1 b2 b3 b5 b7 H2
                      go_wp2_with fail
                      go_roundw
                      case rel => exact ⟨j, bs[i].e.one.1, i, m2, q2, by rw [HJ.out]; go_num, rfl, rfl, by omega, h1n, by omega, by omega, ⟨.inr ⟨i, rfl⟩, HN.out⟩, H6⟩
                      case measure => simp [intOf]; try omega
                  · have hd2 : ((bs[i].e.op : Int) == 63) = false := by simp; omega
                    have HN : Hid (plA (absP bs) j bs[i].e.one.1 (i : Int) m2 = playA (absP bs) V f) := by
                      show _ = _
                      rw [← HPE.out, plA_step hi, if_neg h46, ← HE3.out]
                      congr 1
                      unfold nxA; rw [if_neg (fun h => h63 h.1)]; rfl
                    have H6 : Hid (MacE w.heap.size w.heap.size q2 m2 wC ∧ Below w.heap.size w wC) := ⟨H2.out.1, H2.out.2.1⟩
                    clear h46 h63 hxi H2
                    go_wp2_with fail
                    go_roundw
                    case rel => exact ⟨j, bs[i].e.one.1, i, m2, q2, by rw [HJ.out]; go_num, rfl, rfl, by omega, h1n, by omega, by omega, ⟨.inr ⟨i, rfl⟩, HN.out⟩, H6⟩
                    case measure => simp [intOf]; try omega

end Go.Proofs.YtgfhfkgdmidhpaaGreatDoor
