import Derived.Test.YtjimoigbdcalpaaVo
namespace Go.Proofs.Ytjimoigbdcalpaa
open Go.RowKit

theorem insL_mem {l : List Nat} {i x y : Nat} : y ∈ insL l i x ↔ y ∈ l ∨ y = x := by
  unfold insL
  conv => rhs; rw [← List.take_append_drop i l]
  simp only [List.mem_append, List.mem_cons]
  constructor
  · rintro (h | h | h)
    · exact .inl (.inl h)
    · exact .inr h
    · exact .inl (.inr h)
  · rintro ((h | h) | h)
    · exact .inl h
    · exact .inr (.inr h)
    · exact .inr (.inl h)
theorem insL_srt {l : List Nat} {i x : Nat} (h : l.Pairwise (· < ·)) (hs : Splits l x i) (hx : x ∉ l) : (insL l i x).Pairwise (· < ·) := by
  have h1 : ∀ y ∈ l.take i, y < x := fun y hy => by
    obtain ⟨k, hk, rfl⟩ := List.getElem_of_mem hy
    rw [List.length_take] at hk
    rw [List.getElem_take]
    exact hs.1 k (by omega) (by omega)
  have h2 : ∀ y ∈ l.drop i, x < y := fun y hy => by
    have hm := List.mem_of_mem_drop hy
    obtain ⟨k, hk, rfl⟩ := List.getElem_of_mem hy
    rw [List.length_drop] at hk
    rw [List.getElem_drop] at hm ⊢
    have h3 := hs.2 (i + k) (by omega) (by omega)
    have h4 : l[i + k] ≠ x := fun e => hx (e ▸ hm)
    omega
  unfold insL
  refine List.pairwise_append.2 ⟨h.sublist (List.take_sublist _ _), List.pairwise_cons.2 ⟨h2, h.sublist (List.drop_sublist _ _)⟩, fun a ha b hb => ?_⟩
  rcases List.mem_cons.1 hb with rfl | hb
  · exact h1 a ha
  · have := h1 a ha
    have := h2 b hb
    omega

/-- The set of what was given: l, in any order of giving. -/
def Given (B : Nat) (w : World) (gv : List Nat) : Prop := ∃ (l : List Nat) (u : Value), w.heap[B]? = some (.cells #[u] 108 (0, 0)) ∧ w.ownsRow (B + 1) 96 1 u l.length (icell l) ∧ l.Pairwise (· < ·) ∧ l.length ≤ gv.length ∧ ∀ y, y ∈ l ↔ y ∈ gv
theorem Given.below {B : Nat} {w w' : World} {gv : List Nat} (h : Given B w gv) (f : Below w.heap.size w w') : Given B w' gv := by
  obtain ⟨l, u, a, b, c⟩ := h
  exact ⟨l, u, by rw [f.block B (lt_of_block a)]; exact a, owns_keeps b (Keeps.below (T := fun _ => True) f) trivial, c⟩
theorem Below.drewN2 {B : Nat} {a w : World} (h : Below B a w) (n : Nat) : Below B a (w.drewN n) := ⟨h.os, h.tape, h.output, h.size, h.block⟩

set_option maxRecDepth 100000 in
set_option maxHeartbeats 4000000 in
theorem wrongOf_any (r : RBlk) (ahead : List Nat) (base base2 : Nat) (qc : Option Addr) (cc : Nat) (vs x va : Value) (w : World) (h : PChs w base r.chs (.slice qc r.chs.length cc)) (hvs : ∃ p m c, vs = .slice p m c) (hx : ∃ T y, x = .iface T y) (ho : w.ownsRow base2 67 1 va ahead.length (icell ahead)) (hc1 : r.chs.length ≤ 400000)
    (hc2 : Hid (∀ c ∈ r.chs, c.gs.length ≤ 400000)) (hl : ahead.length ≤ 1000) :
    Calls Try.prog 20 #[.agg #[.int .i64 r.at_, .slice qc r.chs.length cc, vs, x], va] w fun e w' => PlPost (place1 (unfB ahead [] r.chs)) w e w' := by
  obtain ⟨p0, m0, c0, rfl⟩ := hvs
  obtain ⟨T, y, rfl⟩ := hx
  obtain ⟨pa, ca, rfl⟩ := owns_slice2 ho
  go_enter Try.func20, Try.ntmps20
  go_wp2_with fail
  go_loopw [12] (fun i wr => ∃ q : Nat, q ≤ r.chs.length ∧ i = .int .i64 q ∧ Hid (Given (w.heap.size + 1) wr (tos (r.chs.take q))) ∧ Hid (unfB ahead [] r.chs = unfB ahead (tos (r.chs.take q)) (r.chs.drop q)) ∧ Hid (Below w.heap.size w wr)) (fun i _ => r.chs.length - (intOf i).toNat)
  case atStart =>
    refine ⟨0, by omega, rfl, ?_, rfl, ((Below.refl _ _).alloc (Nat.le_refl _) _).alloc (by rw [World.size_alloc]; omega) _⟩
    refine ⟨[], .slice none 0 0, ?_, World.ownsRow_nil _ _ _ _, List.Pairwise.nil, by simp, by simp [tos]⟩
    simpa using heap_alloc_last (w.alloc (.cells #[.int .i64 r.at_, .slice qc r.chs.length cc, .slice p0 m0 c0, .iface T y] 43)) (.cells #[.slice none 0 0] 108)
  case round =>
    obtain ⟨q, hq, rfl, HG, HU, F⟩ := hrel
    have hz := F.out.size
    have hC := h.keeps (Keeps.below (T := T4) F.out) (by simp [T4]) (by simp [T4])
    have hA := owns_keeps ho (Keeps.below (T := fun _ => True) F.out) trivial
    by_cases hql : q < r.chs.length
    · obtain ⟨gc, pu, cu, rfl, _, hgc, hgl, OF, e0, e1, e2⟩ := hC.at hql
      have HST := stop (unf_step (ahead := ahead) hql)
      have hgs : r.chs[q].gs.length ≤ 400000 := hc2.out _ (List.getElem_mem hql)
      have HTS : Hid (tos (r.chs.take (q + 1)) = tos (r.chs.take q) ++ [r.chs[q].to.1]) := by
        show _ = _
        rw [List.take_succ_eq_append_getElem hql, tos, tos, List.map_append]; rfl
      have HTL : Hid ((tos (r.chs.take q)).length ≤ 400000) := by
        show _ ≤ _
        rw [tos, List.length_map, List.length_take]; omega
      have HGL := stop hgl
      generalize hcq : r.chs[q] = c at *
      clear hgl hcq hC
      go_wp2_with fail
      have L1 := heap_alloc_last wr (.cells #[.int .i64 c.to.1, .int .i64 c.to.2, .slice pu c.gs.length cu] 101)
      refine (blocksOf_any c base (.slice pu c.gs.length cu) _ (OF.alloc _) HGL.out hgs).mono ?_
      rintro e w5 ⟨v5, rfl, O5, f5⟩
      have A5 := owns_keeps (hA.alloc (.cells #[.int .i64 c.to.1, .int .i64 c.to.2, .slice pu c.gs.length cu] 101)) (Keeps.below (T := fun _ => True) f5) trivial
      have G5 := stop ((HG.out.below ((Below.refl _ _).alloc (Nat.le_refl _) (.cells #[.int .i64 c.to.1, .int .i64 c.to.2, .slice pu c.gs.length cu] 101))).below f5)
      have F5 := stop ((F.out.alloc hz (.cells #[.int .i64 c.to.1, .int .i64 c.to.2, .slice pu c.gs.length cu] 101)).trans (f5.mono (by rw [World.size_alloc]; omega)))
      have hw5 : wr.heap.size < w5.heap.size := by have := f5.size; rw [World.size_alloc] at this; omega
      have gb : w5.heap[wr.heap.size]? = some (.cells #[.int .i64 c.to.1, .int .i64 c.to.2, .slice pu c.gs.length cu] 101 (0, 0)) := by rw [f5.block _ (by rw [World.size_alloc]; omega)]; exact L1
      have LN : (nums c.gs).length ≤ 1000000 := by rw [nums, List.length_map]; omega
      clear e0 e1 e2 OF hA f5 L1 HG F
      go_wp2_with fail
      refine (equal_any (nums c.gs) ahead _ base2 v5 (.slice pa ahead.length ca) w5 O5 A5 LN (by omega)).mono ?_
      rintro e w6 ⟨rfl, n6, hw6⟩
      have F6 : Hid (Below w.heap.size w w6) := by show Below _ _ _; rw [hw6]; exact Below.drewN2 F5.out n6
      have G6 : Hid (Given (w.heap.size + 1) w6 (tos (r.chs.take q))) := by show Given _ _ _; rw [hw6]; exact G5.out
      have gb6 : w6.heap[wr.heap.size]? = some (.cells #[.int .i64 c.to.1, .int .i64 c.to.2, .slice pu c.gs.length cu] 101 (0, 0)) := by rw [hw6]; exact gb
      have hz6 : wr.heap.size < w6.heap.size := by rw [hw6]; exact hw5
      clear hw6 O5 A5 G5 F5 gb hw5
      have q0 := cell_of gb6 0
      have q1 := cell_of gb6 1
      simp at q0 q1
      have HGB := stop gb6
      clear gb6
      by_cases hq1 : nums c.gs = ahead
      · have hE : eqF (nums c.gs) ahead = true := by simp [eqF, hq1]
        rw [hE]
        obtain ⟨l, u, Gb, Gr, Gs, Gl, Gm⟩ := G6.out
        have gc0 := cell_of Gb 0
        have gf0 := frozen_of Gb 0
        simp at gc0
        have GR := stop (And.intro Gb (And.intro Gr (And.intro Gs (And.intro Gl Gm))))
        clear Gb Gr Gs Gl Gm G6 hE
        by_cases hm : c.to.1 ∈ l
        · have HP : Hid (place1 (unfB ahead [] r.chs) = c.to.2) := by
            show _ = _
            have hk : chOk ahead (tos (r.chs.take q)) c = false := by
              have : hasF (tos (r.chs.take q)) c.to.1 = true := List.contains_iff_mem.2 ((GR.out.2.2.2.2 _).1 hm)
              simp [chOk, this]
            rw [HU.out, HST.out, hk]; rfl
          have HM := stop hm
          clear hm
          go_wp2_with fail
          refine (addOldR l c.to.1 HM.out GR.out.2.2.1 (w.heap.size + 1) 0 (w.heap.size + 1 + 1) u w6 gc0 GR.out.2.1 (by have := GR.out.2.2.2.1; have := HTL.out; omega)).mono ?_
          rintro e w7 ⟨rfl, hw7⟩
          have F7 : Hid (Below w.heap.size w w7) := by show Below _ _ _; rw [hw7.out]; exact F6.out
          have gb7 : w7.heap[wr.heap.size]? = some (.cells #[.int .i64 c.to.1, .int .i64 c.to.2, .slice pu c.gs.length cu] 101 (0, 0)) := by rw [hw7.out]; exact HGB.out
          have q71 := cell_of gb7 1
          simp at q71
          clear gb7 hw7
          go_wp2_with fail
          go_ret2
          exact .inl ⟨by rw [HP.out]; omega, by rw [HP.out]; rfl, F7.out⟩
        · have HP : Hid (unfB ahead [] r.chs = unfB ahead (tos (r.chs.take (q + 1))) (r.chs.drop (q + 1))) := by
            show _ = _
            have hk : chOk ahead (tos (r.chs.take q)) c = true := by
              have : hasF (tos (r.chs.take q)) c.to.1 = false := by
                rw [Bool.eq_false_iff]
                intro e
                exact hm ((GR.out.2.2.2.2 _).2 (List.contains_iff_mem.1 e))
              simp [chOk, this, hq1]
            rw [HU.out, HST.out, hk]; rfl
          have HM := stop hm
          have hb : w.heap.size + 1 + 1 ≤ w6.heap.size := by have := lt_of_block GR.out.1; omega
          clear hm
          go_wp2_with fail
          refine (addNewR l c.to.1 HM.out GR.out.2.2.1 (w.heap.size + 1) 0 (w.heap.size + 1 + 1) u w6 gc0 gf0 GR.out.2.1 (by have := GR.out.2.2.2.1; have := HTL.out; omega) hb (fun e => by have := (GR.out.2.1.lt _ e).1; omega)).mono ?_
          rintro e w7 ⟨rfl, i7, u7, h7⟩
          have G7 : Hid (Given (w.heap.size + 1) w7 (tos (r.chs.take (q + 1)))) := by
            obtain ⟨a1, a2, a3, a4⟩ := h7.out
            refine ⟨insL l i7 c.to.1, u7, ?_, a3, insL_srt GR.out.2.2.1 a2 HM.out, ?_, fun y => ?_⟩
            · rw [a4.at_]
              have := blk_set GR.out.1 0 u7
              simpa using this
            · have := GR.out.2.2.2.1
              rw [HTS.out]; simp [insL]; omega
            · rw [HTS.out, insL_mem, GR.out.2.2.2.2 y, List.mem_append, List.mem_singleton]
          have F7 : Hid (Below w.heap.size w w7) := by
            obtain ⟨a1, a2, a3, a4⟩ := h7.out
            refine F6.out.trans ⟨a4.os, a4.tape, a4.output, a4.size, fun j hj => a4.block j (by omega) (by omega) (fun e => ?_)⟩
            have := (GR.out.2.1.lt j e.symm).1
            omega
          clear h7 GR
          go_wp2_with fail
          go_roundw
          case rel => exact ⟨q + 1, by omega, by go_num, G7, HP, F7⟩
          case measure => simp [intOf]; omega
      · have hE : eqF (nums c.gs) ahead = false := by simp [eqF, hq1]
        rw [hE]
        have HP : Hid (place1 (unfB ahead [] r.chs) = c.to.2) := by
          show _ = _
          have hk : chOk ahead (tos (r.chs.take q)) c = false := by simp [chOk, hq1]
          rw [HU.out, HST.out, hk]; rfl
        clear hE hq1
        go_wp2_with fail
        go_ret2
        exact .inl ⟨by rw [HP.out]; omega, by rw [HP.out]; rfl, F6.out⟩
    · have hqe : q = r.chs.length := by omega
      have HP : Hid (place1 (unfB ahead [] r.chs) = -1) := by
        show _ = _
        rw [HU.out, hqe, List.drop_of_length_le (Nat.le_refl _)]; rfl
      clear hqe
      go_wp2_with fail
      go_ret2
      exact .inr ⟨by rw [HP.out]; decide, rfl, F.out⟩
end Go.Proofs.Ytjimoigbdcalpaa
