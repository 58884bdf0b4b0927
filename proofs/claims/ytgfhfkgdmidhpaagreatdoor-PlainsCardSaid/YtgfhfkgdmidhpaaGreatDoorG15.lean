import Derived.Test.YtgfhfkgdmidhpaaGreatDoorG14
namespace Go.Proofs.YtgfhfkgdmidhpaaGreatDoor
open Go.RowKit

theorem insL_mem {l : List Nat} {i x y : Nat} : y ∈ insL l i x ↔ y ∈ l ∨ y = x := by
  unfold insL
  conv => rhs; rw [← List.take_append_drop i l]
  simp only [List.mem_append, List.mem_cons]
  constructor
  · rintro (h | h | h)
    · exact .inl (.inl h)
    · exact .inr h
    · exact .inl (.inr h)
  · rintro ((h | h) | h)
    · exact .inl h
    · exact .inr (.inr h)
    · exact .inr (.inl h)
theorem insL_srt {l : List Nat} {i x : Nat} (h : l.Pairwise (· < ·)) (hs : Splits l x i) (hx : x ∉ l) : (insL l i x).Pairwise (· < ·) := by
  have h1 : ∀ y ∈ l.take i, y < x := fun y hy => by
    obtain ⟨k, hk, rfl⟩ := List.getElem_of_mem hy
    rw [List.length_take] at hk
    rw [List.getElem_take]
    exact hs.1 k (by omega) (by omega)
  have h2 : ∀ y ∈ l.drop i, x < y := fun y hy => by
    have hm := List.mem_of_mem_drop hy
    obtain ⟨k, hk, rfl⟩ := List.getElem_of_mem hy
    rw [List.length_drop] at hk
    rw [List.getElem_drop] at hm ⊢
    have h3 := hs.2 (i + k) (by omega) (by omega)
    have h4 : l[i + k] ≠ x := fun e => hx (e ▸ hm)
    omega
  unfold insL
  refine List.pairwise_append.2 ⟨h.sublist (List.take_sublist _ _), List.pairwise_cons.2 ⟨h2, h.sublist (List.drop_sublist _ _)⟩, fun a ha b hb => ?_⟩
  rcases List.mem_cons.1 hb with rfl | hb
  · exact h1 a ha
  · have := h1 a ha
    have := h2 b hb
    omega

/-- The set of what was given: l, in any order of giving. -/
def Given (B : Nat) (w : World) (gv : List Nat) : Prop := ∃ (l : List Nat) (u : Value), w.heap[B]? = some (.cells #[u] 161 (0, 0)) ∧ w.ownsRow (B + 1) 78 1 u l.length (icell l) ∧ l.Pairwise (· < ·) ∧ l.length ≤ gv.length ∧ ∀ y, y ∈ l ↔ y ∈ gv
theorem Given.below {B : Nat} {w w' : World} {gv : List Nat} (h : Given B w gv) (f : Below w.heap.size w w') : Given B w' gv := by
  obtain ⟨l, u, a, b, c⟩ := h
  exact ⟨l, u, by rw [f.block B (lt_of_block a)]; exact a, owns_keeps b (Keeps.below (T := fun _ => True) f) trivial, c⟩
theorem Below.drewN2 {B : Nat} {a w : World} (h : Below B a w) (n : Nat) : Below B a (w.drewN n) := ⟨h.os, h.tape, h.output, h.size, h.block⟩

set_option maxRecDepth 100000 in
set_option maxHeartbeats 4000000 in
theorem wrongOf_any (r : RBlk) (ahead : List Nat) (base base2 : Nat) (qc : Option Addr) (cc : Nat) (vs x va : Value) (w : World) (h : PChs w base r.chs (.slice qc r.chs.length cc)) (hvs : ∃ p m c, vs = .slice p m c) (hx : ∃ T y, x = .iface T y) (ho : w.ownsRow base2 143 1 va ahead.length (icell ahead)) (hc1 : r.chs.length ≤ 400000)
    (hc2 : Hid (∀ c ∈ r.chs, c.gs.length ≤ 400000)) (hl : ahead.length ≤ 1000) :
    Calls Tryz.prog 115 #[.agg #[.int .i64 r.at_, .slice qc r.chs.length cc, vs, x], va] w fun e w' => PlPost (place1 (unfB ahead [] r.chs)) w e w' := by
  obtain ⟨p0, m0, c0, rfl⟩ := hvs
  obtain ⟨T, y, rfl⟩ := hx
  obtain ⟨pa, ca, rfl⟩ := owns_slice2 ho
  go_enter Tryz.func115, Tryz.ntmps115
  go_wp2_with fail
  go_loopw [12] (fun i wr => ∃ q : Nat, q ≤ r.chs.length ∧ i = .int .i64 q ∧ Hid (Given (w.heap.size + 1) wr (tos (r.chs.take q))) ∧ Hid (unfB ahead [] r.chs = unfB ahead (tos (r.chs.take q)) (r.chs.drop q)) ∧ Hid (Below w.heap.size w wr)) (fun i _ => r.chs.length - (intOf i).toNat)
  case atStart =>
    refine ⟨0, by omega, rfl, ?_, rfl, ((Below.refl _ _).alloc (Nat.le_refl _) _).alloc (by rw [World.size_alloc]; omega) _⟩
    refine ⟨[], .slice none 0 0, ?_, World.ownsRow_nil _ _ _ _, List.Pairwise.nil, by simp, by simp [tos]⟩
    simpa using heap_alloc_last (w.alloc (.cells #[.int .i64 r.at_, .slice qc r.chs.length cc, .slice p0 m0 c0, .iface T y] 104)) (.cells #[.slice none 0 0] 161)
  case round =>
    obtain ⟨q, hq, rfl, HG, HU, F⟩ := hrel
    have hz := F.out.size
    have hC := h.keeps (Keeps.below (T := T4) F.out) (by simp [T4]) (by simp [T4])
    have hA := owns_keeps ho (Keeps.below (T := fun _ => True) F.out) trivial
    by_cases hql : q < r.chs.length
    · obtain ⟨gc, pu, cu, rfl, _, hgc, hgl, OF, e0, e1, e2⟩ := hC.at hql
      have HST := stop (unf_step (ahead := ahead) hql)
      have hgs : r.chs[q].gs.length ≤ 400000 := hc2.out _ (List.getElem_mem hql)
      have HTS : Hid (tos (r.chs.take (q + 1)) = tos (r.chs.take q) ++ [r.chs[q].to.1]) := by
        show _ = _
        rw [List.take_succ_eq_append_getElem hql, tos, tos, List.map_append]; rfl
      have HTL : Hid ((tos (r.chs.take q)).length ≤ 400000) := by
        show _ ≤ _
        rw [tos, List.length_map, List.length_take]; omega
      have HGL := stop hgl
      generalize hcq : r.chs[q] = c at *
      clear hgl hcq hC
      go_wp2_with fail
      have L1 := heap_alloc_last wr (.cells #[.int .i64 c.to.1, .int .i64 c.to.2, .slice pu c.gs.length cu] 140)
      refine (blocksOf_any c base (.slice pu c.gs.length cu) _ (OF.alloc _) HGL.out hgs).mono ?_
      rintro e w5 ⟨v5, rfl, O5, f5⟩
      have A5 := owns_keeps (hA.alloc (.cells #[.int .i64 c.to.1, .int .i64 c.to.2, .slice pu c.gs.length cu] 140)) (Keeps.below (T := fun _ => True) f5) trivial
      have G5 := stop ((HG.out.below ((Below.refl _ _).alloc (Nat.le_refl _) (.cells #[.int .i64 c.to.1, .int .i64 c.to.2, .slice pu c.gs.length cu] 140))).below f5)
      have F5 := stop ((F.out.alloc hz (.cells #[.int .i64 c.to.1, .int .i64 c.to.2, .slice pu c.gs.length cu] 140)).trans (f5.mono (by rw [World.size_alloc]; omega)))
      have hw5 : wr.heap.size < w5.heap.size := by have := f5.size; rw [World.size_alloc] at this; omega
      have gb : w5.heap[wr.heap.size]? = some (.cells #[.int .i64 c.to.1, .int .i64 c.to.2, .slice pu c.gs.length cu] 140 (0, 0)) := by rw [f5.block _ (by rw [World.size_alloc]; omega)]; exact L1
      have LN : (nums c.gs).length ≤ 1000000 := by rw [nums, List.length_map]; omega
      clear e0 e1 e2 OF hA f5 L1 HG F
      go_wp2_with fail
      refine (equal_any (nums c.gs) ahead _ base2 v5 (.slice pa ahead.length ca) w5 O5 A5 LN (by omega)).mono ?_
      rintro e w6 ⟨rfl, n6, hw6⟩
      have F6 : Hid (Below w.heap.size w w6) := by show Below _ _ _; rw [hw6]; exact Below.drewN2 F5.out n6
      have G6 : Hid (Given (w.heap.size + 1) w6 (tos (r.chs.take q))) := by show Given _ _ _; rw [hw6]; exact G5.out
      have gb6 : w6.heap[wr.heap.size]? = some (.cells #[.int .i64 c.to.1, .int .i64 c.to.2, .slice pu c.gs.length cu] 140 (0, 0)) := by rw [hw6]; exact gb
      have hz6 : wr.heap.size < w6.heap.size := by rw [hw6]; exact hw5
      clear hw6 O5 A5 G5 F5 gb hw5
      have q0 := cell_of gb6 0
      have q1 := cell_of gb6 1
      simp at q0 q1
      have HGB := stop gb6
      clear gb6
      by_cases hq1 : nums c.gs = ahead
      · have hE : eqF (nums c.gs) ahead = true := by simp [eqF, hq1]
        rw [hE]
        obtain ⟨l, u, Gb, Gr, Gs, Gl, Gm⟩ := G6.out
        have gc0 := cell_of Gb 0
        have gf0 := frozen_of Gb 0
        simp at gc0
        have GR := stop (And.intro Gb (And.intro Gr (And.intro Gs (And.intro Gl Gm))))
        clear Gb Gr Gs Gl Gm G6 hE
        by_cases hm : c.to.1 ∈ l
        · have HP : Hid (place1 (unfB ahead [] r.chs) = c.to.2) := by
            show _ = _
            have hk : chOk ahead (tos (r.chs.take q)) c = false := by
              have : hasF (tos (r.chs.take q)) c.to.1 = true := List.contains_iff_mem.2 ((GR.out.2.2.2.2 _).1 hm)
              simp [chOk, this]
            rw [HU.out, HST.out, hk]; rfl
          have HM := stop hm
          clear hm
          go_wp2_with fail
          refine (addOldR l c.to.1 HM.out GR.out.2.2.1 (w.heap.size + 1) 0 (w.heap.size + 1 + 1) u w6 gc0 GR.out.2.1 (by have := GR.out.2.2.2.1; have := HTL.out; omega)).mono ?_
          rintro e w7 ⟨rfl, hw7⟩
          have F7 : Hid (Below w.heap.size w w7) := by show Below _ _ _; rw [hw7.out]; exact F6.out
          have gb7 : w7.heap[wr.heap.size]? = some (.cells #[.int .i64 c.to.1, .int .i64 c.to.2, .slice pu c.gs.length cu] 140 (0, 0)) := by rw [hw7.out]; exact HGB.out
          have q71 := cell_of gb7 1
          simp at q71
          clear gb7 hw7
          go_wp2_with fail
          go_ret2
          exact .inl ⟨by rw [HP.out]; omega, by rw [HP.out]; rfl, F7.out⟩
        · have HP : Hid (unfB ahead [] r.chs = unfB ahead (tos (r.chs.take (q + 1))) (r.chs.drop (q + 1))) := by
            show _ = _
            have hk : chOk ahead (tos (r.chs.take q)) c = true := by
              have : hasF (tos (r.chs.take q)) c.to.1 = false := by
                rw [Bool.eq_false_iff]
                intro e
                exact hm ((GR.out.2.2.2.2 _).2 (List.contains_iff_mem.1 e))
              simp [chOk, this, hq1]
            rw [HU.out, HST.out, hk]; rfl
          have HM := stop hm
          have hb : w.heap.size + 1 + 1 ≤ w6.heap.size := by have := lt_of_block GR.out.1; omega
          clear hm
          go_wp2_with fail
          refine (addNewR l c.to.1 HM.out GR.out.2.2.1 (w.heap.size + 1) 0 (w.heap.size + 1 + 1) u w6 gc0 gf0 GR.out.2.1 (by have := GR.out.2.2.2.1; have := HTL.out; omega) hb (fun e => by have := (GR.out.2.1.lt _ e).1; omega)).mono ?_
          rintro e w7 ⟨rfl, i7, u7, h7⟩
          have G7 : Hid (Given (w.heap.size + 1) w7 (tos (r.chs.take (q + 1)))) := by
            obtain ⟨a1, a2, a3, a4⟩ := h7.out
            refine ⟨insL l i7 c.to.1, u7, ?_, a3, insL_srt GR.out.2.2.1 a2 HM.out, ?_, fun y => ?_⟩
            · rw [a4.at_]
              have := blk_set GR.out.1 0 u7
              simpa using this
            · have := GR.out.2.2.2.1
              rw [HTS.out]; simp [insL]; omega
            · rw [HTS.out, insL_mem, GR.out.2.2.2.2 y, List.mem_append, List.mem_singleton]
          have F7 : Hid (Below w.heap.size w w7) := by
            obtain ⟨a1, a2, a3, a4⟩ := h7.out
            refine F6.out.trans ⟨a4.os, a4.tape, a4.output, a4.size, fun j hj => a4.block j (by omega) (by omega) (fun e => ?_)⟩
            have := (GR.out.2.1.lt j e.symm).1
            omega
          clear h7 GR
          go_wp2_with fail
          go_roundw
          case rel => exact ⟨q + 1, by omega, by go_num, G7, HP, F7⟩
          case measure => simp [intOf]; omega
      · have hE : eqF (nums c.gs) ahead = false := by simp [eqF, hq1]
        rw [hE]
        have HP : Hid (place1 (unfB ahead [] r.chs) = c.to.2) := by
          show _ = _
          have hk : chOk ahead (tos (r.chs.take q)) c = false := by simp [chOk, hq1]
          rw [HU.out, HST.out, hk]; rfl
        clear hE hq1
        go_wp2_with fail
        go_ret2
        exact .inl ⟨by rw [HP.out]; omega, by rw [HP.out]; rfl, F6.out⟩
    · have hqe : q = r.chs.length := by omega
      have HP : Hid (place1 (unfB ahead [] r.chs) = -1) := by
        show _ = _
        rw [HU.out, hqe, List.drop_of_length_le (Nat.le_refl _)]; rfl
      clear hqe
      go_wp2_with fail
      go_ret2
      exact .inr ⟨by rw [HP.out]; decide, rfl, F.out⟩
end Go.Proofs.YtgfhfkgdmidhpaaGreatDoor

namespace Go.Proofs.YtgfhfkgdmidhpaaGreatDoor
open Go.RowKit

theorem wrongOf_hit (r : RBlk) (ahead : List Nat) (base base2 : Nat) (qc : Option Addr) (cc : Nat) (vs x va : Value) (w : World) (h : PChs w base r.chs (.slice qc r.chs.length cc)) (hvs : ∃ p m c, vs = .slice p m c) (hx : ∃ T y, x = .iface T y) (ho : w.ownsRow base2 143 1 va ahead.length (icell ahead)) (hc1 : r.chs.length ≤ 400000)
    (hc2 : Hid (∀ c ∈ r.chs, c.gs.length ≤ 400000)) (hl : ahead.length ≤ 1000) {p : Nat} (hp : unfB ahead [] r.chs = some p) :
    Calls Tryz.prog 115 #[.agg #[.int .i64 r.at_, .slice qc r.chs.length cc, vs, x], va] w fun e w' => e = .returned (.tuple #[.int .i64 p, .bool true]) ∧ Below w.heap.size w w' := by
  refine (wrongOf_any r ahead base base2 qc cc vs x va w h hvs hx ho hc1 hc2 hl).mono ?_
  rw [hp]
  rintro e w' (⟨_, rfl, f⟩ | ⟨h0, _⟩)
  · exact ⟨rfl, f⟩
  · exact absurd h0 (by simp only [place1]; omega)
theorem wrongOf_none (r : RBlk) (ahead : List Nat) (base base2 : Nat) (qc : Option Addr) (cc : Nat) (vs x va : Value) (w : World) (h : PChs w base r.chs (.slice qc r.chs.length cc)) (hvs : ∃ p m c, vs = .slice p m c) (hx : ∃ T y, x = .iface T y) (ho : w.ownsRow base2 143 1 va ahead.length (icell ahead)) (hc1 : r.chs.length ≤ 400000)
    (hc2 : Hid (∀ c ∈ r.chs, c.gs.length ≤ 400000)) (hl : ahead.length ≤ 1000) (hp : unfB ahead [] r.chs = none) :
    Calls Tryz.prog 115 #[.agg #[.int .i64 r.at_, .slice qc r.chs.length cc, vs, x], va] w fun e w' => e = .returned (.tuple #[.int .i64 0, .bool false]) ∧ Below w.heap.size w w' := by
  refine (wrongOf_any r ahead base base2 qc cc vs x va w h hvs hx ho hc1 hc2 hl).mono ?_
  rw [hp]
  rintro e w' (⟨h0, _⟩ | ⟨_, rfl, f⟩)
  · exact absurd h0 (by simp only [place1]; omega)
  · exact ⟨rfl, f⟩

set_option maxRecDepth 100000 in
set_option maxHeartbeats 4000000 in
theorem wrong_any (bs : List RBlk) (base : Nat) (v : Value) (w : World) (h : PBs w base bs v) (hn : bs.length ≤ 1000) (hgl : Hid (∀ b ∈ bs, ∀ p ∈ goalsF b.e, p.1 < bs.length)) (hc1 : Hid (∀ b ∈ bs, b.chs.length ≤ 400000)) (hc2 : Hid (∀ b ∈ bs, ∀ c ∈ b.chs, c.gs.length ≤ 400000)) :
    Calls Tryz.prog 69 #[v] w fun x w' => PlPost (unfF bs) w x w' := by
  obtain ⟨pv, cv, rfl⟩ := h.slice
  go_enter Tryz.func69, Tryz.ntmps69
  go_wp2_with fail
  refine (aheadP_any bs base _ w h hn hgl).mono ?_
  rintro e w1 ⟨v1, rfl, S1, f1⟩
  obtain ⟨p1, c1, rfl⟩ : ∃ p c, v1 = .slice p bs.length c := by obtain ⟨us, a, _⟩ := S1; exact owns_slice2 a
  have F1 := stop f1
  clear f1
  go_wp2_with fail
  go_loopw [13] (fun i wr => ∃ m : Nat, m ≤ bs.length ∧ i = .int .i64 m ∧ Hid (∀ k, k < m → unfAt bs k = none) ∧ Sets w.heap.size wr (.slice p1 bs.length c1) bs.length (aheF bs) ∧ Hid (Below w.heap.size w wr)) (fun i _ => bs.length - (intOf i).toNat)
  case atStart => exact ⟨0, by omega, rfl, fun k hk => by omega, S1, F1⟩
  case round =>
    clear S1 F1
    obtain ⟨m, hm, rfl, HN, S, F⟩ := hrel
    by_cases hlt : m < bs.length
    · have hB := h.keeps (Keeps.below F.out)
      obtain ⟨g, qc, cc, ps, cs1, rfl, _, hgz, hop, OC, OS, d0, d1, d2, d3⟩ := hB.at hlt
      obtain ⟨T, x, hev⟩ := endVal_iface bs[m].e
      rw [hev] at d3
      have hz0 := F.out.size
      clear hB hev hop OS
      go_wp2_with fail
      obtain ⟨W2, hW2⟩ : ∃ W2, W2 = wr.alloc (.cells #[.int .i64 bs[m].at_, .slice qc bs[m].chs.length cc, .slice ps bs[m].sts.length cs1, .iface T x] 104) := ⟨_, rfl⟩
      rw [← hW2]
      have gb : W2.heap[wr.heap.size]? = some (.cells #[.int .i64 bs[m].at_, .slice qc bs[m].chs.length cc, .slice ps bs[m].sts.length cs1, .iface T x] 104 (0, 0)) := by rw [hW2]; exact heap_alloc_last _ _
      have hwz : wr.heap.size < W2.heap.size := by rw [hW2, World.size_alloc]; omega
      have fW : Below wr.heap.size wr W2 := by rw [hW2]; exact (Below.refl _ _).alloc (Nat.le_refl _) _
      have OC2 := OC.keeps (Keeps.below (T := T4) fW) (by simp [T4]) (by simp [T4])
      have S2 := S.keeps fW
      have F2 := stop (F.out.trans (fW.mono hz0))
      have b0 := cell_of gb 0
      have b1 := cell_of gb 1
      have b2 := cell_of gb 2
      have b3 := cell_of gb 3
      simp at b0 b1 b2 b3
      obtain ⟨g9, u, e9, hb9, hc9, hf9, o9, n9⟩ := S2.at hlt
      subst e9
      obtain ⟨pu, cu, rfl⟩ := owns_slice2 o9
      have hg9 : g9 < W2.heap.size := World.block_lt_of_cell? _ _ hc9
      have HU := stop o9
      have L1 := hc1.out _ (List.getElem_mem hlt)
      have L2 := stop (hc2.out _ (List.getElem_mem hlt))
      have L4 : (aheF bs m).length ≤ 1000 := Nat.le_trans (aheTo_len _ _ _) hn
      have L3 : (aheF bs m).length ≤ 1000000 := by omega
      have HAT : Hid (unfAt bs m = unfB (aheF bs m) [] bs[m].chs) := by show _ = _; rw [unfAt, List.getElem?_eq_getElem hlt]
      clear hW2 gb fW OC S F hf9 o9 n9 d0 d1 d2 d3
      cases hun : unfB (aheF bs m) [] bs[m].chs with
      | some p =>
        have HP : Hid (unfF bs = p) := unf_hit hlt HN.out (by rw [HAT.out]; exact hun)
        have HUN := stop hun
        clear hun
        go_region_held (fun w' => w'.cell? ⟨wr.heap.size, 0, none⟩ = some (.int .i64 bs[m].at_) ∧ w'.cell? ⟨wr.heap.size, 1, none⟩ = some (.slice qc bs[m].chs.length cc) ∧ w'.cell? ⟨wr.heap.size, 2, none⟩ = some (.slice ps bs[m].sts.length cs1) ∧ w'.cell? ⟨wr.heap.size, 3, none⟩ = some (.iface T x) ∧ w'.cell? ⟨g9, m, none⟩ = some (.slice pu (aheF bs m).length cu)) (simp [*])
          (first | (go_at_call 116; refine (itemsB (aheF bs m) w.heap.size _ W2.drew HU.out L3).mono ?_; rintro e w5 ⟨v5, rfl, o5, f5⟩; have f5' : Below W2.heap.size W2 w5 := ⟨f5.os, f5.tape, f5.output, f5.size, f5.block⟩; have y0 := f5'.cell (p := ⟨wr.heap.size, 0, none⟩) hwz; have y1 := f5'.cell (p := ⟨wr.heap.size, 1, none⟩) hwz; have y2 := f5'.cell (p := ⟨wr.heap.size, 2, none⟩) hwz; have y3 := f5'.cell (p := ⟨wr.heap.size, 3, none⟩) hwz; have y4 := f5'.cell (p := ⟨g9, m, none⟩) hg9; have l6 : g9 < w5.heap.size := Nat.lt_of_lt_of_le hg9 f5'.size; have l5 : wr.heap.size < w5.heap.size := Nat.lt_of_lt_of_le hwz f5'.size) | (go_at_call 115; refine (wrongOf_hit bs[m] (aheF bs m) base W2.heap.size qc cc (.slice ps bs[m].sts.length cs1) (.iface T x) v5 w5 (OC2.keeps (Keeps.below (T := T4) f5') (by simp [T4]) (by simp [T4])) ⟨_, _, _, rfl⟩ ⟨_, _, rfl⟩ o5 L1 L2 L4 HUN.out).mono ?_; rintro e w6 ⟨rfl, f6⟩; have z0 := f6.cell (p := ⟨wr.heap.size, 0, none⟩) l5; have z1 := f6.cell (p := ⟨wr.heap.size, 1, none⟩) l5; have z2 := f6.cell (p := ⟨wr.heap.size, 2, none⟩) l5; have z3 := f6.cell (p := ⟨wr.heap.size, 3, none⟩) l5; have z4 := f6.cell (p := ⟨g9, m, none⟩) l6))
        have F6 := stop ((F2.out.trans (f5'.mono (by omega))).trans (f6.mono (by have := f5'.size; omega)))
        clear o5 f5 f5' f6 y0 y1 y2 y3 y4 z0 z1 z2 z3 z4
        go_wp2_with fail
        go_ret2
        exact .inl ⟨by rw [HP.out]; omega, by rw [HP.out]; rfl, F6.out⟩
      | none =>
        have HN2 : Hid (∀ k, k < m + 1 → unfAt bs k = none) := by
          intro k hk
          by_cases e : k = m
          · subst e; rw [HAT.out]; exact hun
          · exact HN.out k (by omega)
        have HUN := stop hun
        clear hun
        go_region_held (fun w' => w'.cell? ⟨wr.heap.size, 0, none⟩ = some (.int .i64 bs[m].at_) ∧ w'.cell? ⟨wr.heap.size, 1, none⟩ = some (.slice qc bs[m].chs.length cc) ∧ w'.cell? ⟨wr.heap.size, 2, none⟩ = some (.slice ps bs[m].sts.length cs1) ∧ w'.cell? ⟨wr.heap.size, 3, none⟩ = some (.iface T x) ∧ w'.cell? ⟨g9, m, none⟩ = some (.slice pu (aheF bs m).length cu)) (simp [*])
          (first | (go_at_call 116; refine (itemsB (aheF bs m) w.heap.size _ W2.drew HU.out L3).mono ?_; rintro e w5 ⟨v5, rfl, o5, f5⟩; have f5' : Below W2.heap.size W2 w5 := ⟨f5.os, f5.tape, f5.output, f5.size, f5.block⟩; have y0 := f5'.cell (p := ⟨wr.heap.size, 0, none⟩) hwz; have y1 := f5'.cell (p := ⟨wr.heap.size, 1, none⟩) hwz; have y2 := f5'.cell (p := ⟨wr.heap.size, 2, none⟩) hwz; have y3 := f5'.cell (p := ⟨wr.heap.size, 3, none⟩) hwz; have y4 := f5'.cell (p := ⟨g9, m, none⟩) hg9; have l6 : g9 < w5.heap.size := Nat.lt_of_lt_of_le hg9 f5'.size; have l5 : wr.heap.size < w5.heap.size := Nat.lt_of_lt_of_le hwz f5'.size) | (go_at_call 115; refine (wrongOf_none bs[m] (aheF bs m) base W2.heap.size qc cc (.slice ps bs[m].sts.length cs1) (.iface T x) v5 w5 (OC2.keeps (Keeps.below (T := T4) f5') (by simp [T4]) (by simp [T4])) ⟨_, _, _, rfl⟩ ⟨_, _, rfl⟩ o5 L1 L2 L4 HUN.out).mono ?_; rintro e w6 ⟨rfl, f6⟩; have z0 := f6.cell (p := ⟨wr.heap.size, 0, none⟩) l5; have z1 := f6.cell (p := ⟨wr.heap.size, 1, none⟩) l5; have z2 := f6.cell (p := ⟨wr.heap.size, 2, none⟩) l5; have z3 := f6.cell (p := ⟨wr.heap.size, 3, none⟩) l5; have z4 := f6.cell (p := ⟨g9, m, none⟩) l6))
        have F6 := stop ((F2.out.trans (f5'.mono (by omega))).trans (f6.mono (by have := f5'.size; omega)))
        have S6 := (S2.keeps f5').keeps f6
        clear o5 f5 f5' f6 y0 y1 y2 y3 y4 z0 z1 z2 z3 z4 S2
        go_wp2_with fail
        go_roundw
        case rel => exact ⟨m + 1, by omega, by go_num, HN2, S6, F6⟩
        case measure => simp [intOf]; omega
    · have HP : Hid (unfF bs = -1) := unf_none (fun i hi => HN.out i (by omega))
      go_wp2_with fail
      go_ret2
      exact .inr ⟨by rw [HP.out]; decide, rfl, F.out⟩
end Go.Proofs.YtgfhfkgdmidhpaaGreatDoor

namespace Go.Proofs.YtgfhfkgdmidhpaaGreatDoor
open Go.RowKit

theorem flat_le {n : Nat} : ∀ {l : List RCho}, (∀ c ∈ l, c.gs.length ≤ n) → (l.flatMap (·.gs)).length ≤ l.length * n
  | [], _ => by simp
  | c :: l, h => by
    have h1 := h c (List.mem_cons_self ..)
    have h2 := flat_le (l := l) (fun d hd => h d (List.mem_cons_of_mem _ hd))
    rw [List.flatMap_cons, List.length_append, List.length_cons, Nat.add_mul]
    omega
theorem lost_goals {bs : List RBlk} (h : ¬ 0 ≤ lostF bs) : ∀ b ∈ bs, ∀ p ∈ goalsF b.e, p.1 < bs.length := by
  intro b hb p hp
  cases hf : (bs.flatMap allG).find? (stray bs.length) with
  | some g => exact absurd (by rw [lost_some hf]; omega) h
  | none =>
    have := List.find?_eq_none.1 hf p (List.mem_flatMap.2 ⟨b, hb, List.mem_append.2 (.inr hp)⟩)
    simpa [stray] using this

/-- What was read lies in memory, if it is a program. -/
def PRd (w : World) (base : Nat) (s : ByteArray) (v : Value) : Prop := (rdF s).e = 0 → PBs w base (parF s).bs v
theorem prd_no {w base s v e a} (h : rdF s = ⟨e, a⟩) (he : e ≠ 0) : PRd w base s v := fun g => by rw [h] at g; exact absurd g he
theorem prd_yes {w base s v} (h : PBs w base (parF s).bs v) : PRd w base s v := fun _ => h

set_option maxRecDepth 100000 in
set_option maxHeartbeats 4000000 in
theorem readS_any (s : ByteArray) (w : World) :
    Calls Tryz.prog 39 #[.string s] w fun x w' => ∃ v, x = .returned (.tuple #[v, .int .i64 (rdF s).e, .int .i64 (rdF s).at_]) ∧ PRd w' w.heap.size s v ∧ Below w.heap.size w w' := by
  by_cases h1 : 200000 < s.size
  · have HR : Hid (rdF s = ⟨1, 0⟩) := by show _ = _; rw [rdF, if_pos h1]
    go_enter Tryz.func39, Tryz.ntmps39
    go_wp2_with fail
    go_ret3
    exact ⟨_, by rw [HR.out]; rfl, prd_no HR.out (by decide), Below.refl _ _⟩
  · go_enter Tryz.func39, Tryz.ntmps39
    go_wp2_with fail
    refine (codeRead_any s _ (by omega)).mono ?_
    rintro x w1 (⟨v1, rfl, hbad, O, f1⟩ | ⟨rfl, hbad, f1⟩)
    · obtain ⟨pv, cv, rfl⟩ := O.slice
      have hfine := parF_fine s
      have F1 := stop f1
      have h2 : ¬ 0 ≤ parBad s := by omega
      by_cases h3 : 12 < (parF s).bs.length
      · have HR : Hid (rdF s = ⟨3, (parF s).bs[12].at_⟩) := by show _ = _; rw [rdF, if_neg h1, if_neg h2, dif_pos h3]
        obtain ⟨g, qc, cc, ps, cs1, rfl, _, hgz, hop, OC, OS, d0, d1, d2, d3⟩ := O.at h3
        have hbl : (parF s).bs.length ≤ 1000000 := by omega
        clear hfine hop OC OS O f1
        have d48 : w1.cell? ⟨g, 48, none⟩ = some (.int .i64 (parF s).bs[12].at_) := d0
        clear d0
        go_wp2_with fail
        go_quiet (fail)
        go_wp2
        go_ret3
        exact ⟨_, by rw [HR.out]; rfl, prd_no HR.out (by decide), below_drewN F1.out _⟩
      · have hf1 : (parF s).bs.length ≤ 1000 := by omega
        have hf2 : ∀ b ∈ (parF s).bs, b.chs.length ≤ 400000 := fun b hb => by have := (hfine.2 b hb).1; omega
        have hf3 : ∀ b ∈ (parF s).bs, ∀ c ∈ b.chs, c.gs.length ≤ 400000 := fun b hb c hc => by have := (hfine.2 b hb).2 c hc; omega
        have hf4 : ∀ b ∈ (parF s).bs, (chG b).length ≤ 50000000000 := fun b hb => by
          have q1 := flat_le (hfine.2 b hb).2
          have q2 := (hfine.2 b hb).1
          have q3 : b.chs.length * (s.size + 1) ≤ 200001 * 200001 := Nat.mul_le_mul (by omega) (by omega)
          rw [chG]; omega
        have H2 := stop hf2
        have H3 := stop hf3
        have H4 := stop hf4
        clear hfine hf2 hf3 hf4 f1
        go_wp2_with fail
        refine (strayGoal_any _ _ _ _ O (by omega) H2.out H4.out).mono ?_
        rintro x w2 (⟨h4, rfl, f2⟩ | ⟨h4, rfl, f2⟩)
        · have HR : Hid (rdF s = ⟨4, lostF (parF s).bs⟩) := by show _ = _; rw [rdF, if_neg h1, if_neg (by omega), dif_neg h3, if_pos h4]
          have F2 := stop (F1.out.trans (f2.mono F1.out.size))
          clear f2 O
          go_wp2_with fail
          go_ret3
          exact ⟨_, by rw [HR.out]; rfl, prd_no HR.out (by decide), F2.out⟩
        · have F2 := stop (F1.out.trans (f2.mono F1.out.size))
          have O2 := O.keeps (Keeps.below f2)
          have HL : Hid (∀ b ∈ (parF s).bs, ∀ p ∈ goalsF b.e, p.1 < (parF s).bs.length) := lost_goals (by omega)
          clear f2 O
          go_wp2_with fail
          refine (wrong_any _ _ _ _ O2 (by omega) HL.out H2.out H3.out).mono ?_
          rintro x w3 (⟨h5, rfl, f3⟩ | ⟨h5, rfl, f3⟩)
          · have HR : Hid (rdF s = ⟨6, unfF (parF s).bs⟩) := by show _ = _; rw [rdF, if_neg h1, if_neg (by omega), dif_neg h3, if_neg (by omega), if_pos h5]
            have F3 := stop (F2.out.trans (f3.mono F2.out.size))
            clear f3 O2
            go_wp2_with fail
            go_ret3
            exact ⟨_, by rw [HR.out]; rfl, prd_no HR.out (by decide), F3.out⟩
          · have HR : Hid (rdF s = ⟨0, 0⟩) := by show _ = _; rw [rdF, if_neg h1, if_neg (by omega), dif_neg h3, if_neg (by omega), if_neg (by omega)]
            have F3 := stop (F2.out.trans (f3.mono F2.out.size))
            have O3 := stop (O2.keeps (Keeps.below f3))
            clear f3 O2
            go_wp2_with fail
            go_ret3
            exact ⟨_, by rw [HR.out]; rfl, prd_yes O3.out, F3.out⟩
    · have HR : Hid (rdF s = ⟨2, parBad s⟩) := by show _ = _; rw [rdF, if_neg h1, if_pos hbad]
      have F1 := stop f1
      clear f1
      go_wp2_with fail
      go_ret3
      exact ⟨_, by rw [HR.out]; rfl, prd_no HR.out (by decide), F1.out⟩

end Go.Proofs.YtgfhfkgdmidhpaaGreatDoor
