import Derived.Test.YtjimoigbdcalpaaVp
namespace Go.Proofs.Ytjimoigbdcalpaa
open Go.RowKit

theorem wrongOf_hit (r : RBlk) (ahead : List Nat) (base base2 : Nat) (qc : Option Addr) (cc : Nat) (vs x va : Value) (w : World) (h : PChs w base r.chs (.slice qc r.chs.length cc)) (hvs : ∃ p m c, vs = .slice p m c) (hx : ∃ T y, x = .iface T y) (ho : w.ownsRow base2 67 1 va ahead.length (icell ahead)) (hc1 : r.chs.length ≤ 400000)
    (hc2 : Hid (∀ c ∈ r.chs, c.gs.length ≤ 400000)) (hl : ahead.length ≤ 1000) {p : Nat} (hp : unfB ahead [] r.chs = some p) :
    Calls Try.prog 20 #[.agg #[.int .i64 r.at_, .slice qc r.chs.length cc, vs, x], va] w fun e w' => e = .returned (.tuple #[.int .i64 p, .bool true]) ∧ Below w.heap.size w w' := by
  refine (wrongOf_any r ahead base base2 qc cc vs x va w h hvs hx ho hc1 hc2 hl).mono ?_
  rw [hp]
  rintro e w' (⟨_, rfl, f⟩ | ⟨h0, _⟩)
  · exact ⟨rfl, f⟩
  · exact absurd h0 (by simp only [place1]; omega)
theorem wrongOf_none (r : RBlk) (ahead : List Nat) (base base2 : Nat) (qc : Option Addr) (cc : Nat) (vs x va : Value) (w : World) (h : PChs w base r.chs (.slice qc r.chs.length cc)) (hvs : ∃ p m c, vs = .slice p m c) (hx : ∃ T y, x = .iface T y) (ho : w.ownsRow base2 67 1 va ahead.length (icell ahead)) (hc1 : r.chs.length ≤ 400000)
    (hc2 : Hid (∀ c ∈ r.chs, c.gs.length ≤ 400000)) (hl : ahead.length ≤ 1000) (hp : unfB ahead [] r.chs = none) :
    Calls Try.prog 20 #[.agg #[.int .i64 r.at_, .slice qc r.chs.length cc, vs, x], va] w fun e w' => e = .returned (.tuple #[.int .i64 0, .bool false]) ∧ Below w.heap.size w w' := by
  refine (wrongOf_any r ahead base base2 qc cc vs x va w h hvs hx ho hc1 hc2 hl).mono ?_
  rw [hp]
  rintro e w' (⟨h0, _⟩ | ⟨_, rfl, f⟩)
  · exact absurd h0 (by simp only [place1]; omega)
  · exact ⟨rfl, f⟩

set_option maxRecDepth 100000 in
set_option maxHeartbeats 4000000 in
theorem wrong_any (bs : List RBlk) (base : Nat) (v : Value) (w : World) (h : PBs w base bs v) (hn : bs.length ≤ 1000) (hgl : Hid (∀ b ∈ bs, ∀ p ∈ goalsF b.e, p.1 < bs.length)) (hc1 : Hid (∀ b ∈ bs, b.chs.length ≤ 400000)) (hc2 : Hid (∀ b ∈ bs, ∀ c ∈ b.chs, c.gs.length ≤ 400000)) :
    Calls Try.prog 11 #[v] w fun x w' => PlPost (unfF bs) w x w' := by
  obtain ⟨pv, cv, rfl⟩ := h.slice
  go_enter Try.func11, Try.ntmps11
  go_wp2_with fail
  refine (aheadP_any bs base _ w h hn hgl).mono ?_
  rintro e w1 ⟨v1, rfl, S1, f1⟩
  obtain ⟨p1, c1, rfl⟩ : ∃ p c, v1 = .slice p bs.length c := by obtain ⟨us, a, _⟩ := S1; exact owns_slice2 a
  have F1 := stop f1
  clear f1
  go_wp2_with fail
  go_loopw [13] (fun i wr => ∃ m : Nat, m ≤ bs.length ∧ i = .int .i64 m ∧ Hid (∀ k, k < m → unfAt bs k = none) ∧ Sets w.heap.size wr (.slice p1 bs.length c1) bs.length (aheF bs) ∧ Hid (Below w.heap.size w wr)) (fun i _ => bs.length - (intOf i).toNat)
  case atStart => exact ⟨0, by omega, rfl, fun k hk => by omega, S1, F1⟩
  case round =>
    clear S1 F1
    obtain ⟨m, hm, rfl, HN, S, F⟩ := hrel
    by_cases hlt : m < bs.length
    · have hB := h.keeps (Keeps.below F.out)
      obtain ⟨g, qc, cc, ps, cs1, rfl, _, hgz, hop, OC, OS, d0, d1, d2, d3⟩ := hB.at hlt
      obtain ⟨T, x, hev⟩ := endVal_iface bs[m].e
      rw [hev] at d3
      have hz0 := F.out.size
      clear hB hev hop OS
      go_wp2_with fail
      obtain ⟨W2, hW2⟩ : ∃ W2, W2 = wr.alloc (.cells #[.int .i64 bs[m].at_, .slice qc bs[m].chs.length cc, .slice ps bs[m].sts.length cs1, .iface T x] 43) := ⟨_, rfl⟩
      rw [← hW2]
      have gb : W2.heap[wr.heap.size]? = some (.cells #[.int .i64 bs[m].at_, .slice qc bs[m].chs.length cc, .slice ps bs[m].sts.length cs1, .iface T x] 43 (0, 0)) := by rw [hW2]; exact heap_alloc_last _ _
      have hwz : wr.heap.size < W2.heap.size := by rw [hW2, World.size_alloc]; omega
      have fW : Below wr.heap.size wr W2 := by rw [hW2]; exact (Below.refl _ _).alloc (Nat.le_refl _) _
      have OC2 := OC.keeps (Keeps.below (T := T4) fW) (by simp [T4]) (by simp [T4])
      have S2 := S.keeps fW
      have F2 := stop (F.out.trans (fW.mono hz0))
      have b0 := cell_of gb 0
      have b1 := cell_of gb 1
      have b2 := cell_of gb 2
      have b3 := cell_of gb 3
      simp at b0 b1 b2 b3
      obtain ⟨g9, u, e9, hb9, hc9, hf9, o9, n9⟩ := S2.at hlt
      subst e9
      obtain ⟨pu, cu, rfl⟩ := owns_slice2 o9
      have hg9 : g9 < W2.heap.size := World.block_lt_of_cell? _ _ hc9
      have HU := stop o9
      have L1 := hc1.out _ (List.getElem_mem hlt)
      have L2 := stop (hc2.out _ (List.getElem_mem hlt))
      have L4 : (aheF bs m).length ≤ 1000 := Nat.le_trans (aheTo_len _ _ _) hn
      have L3 : (aheF bs m).length ≤ 1000000 := by omega
      have HAT : Hid (unfAt bs m = unfB (aheF bs m) [] bs[m].chs) := by show _ = _; rw [unfAt, List.getElem?_eq_getElem hlt]
      clear hW2 gb fW OC S F hf9 o9 n9 d0 d1 d2 d3
      cases hun : unfB (aheF bs m) [] bs[m].chs with
      | some p =>
        have HP : Hid (unfF bs = p) := unf_hit hlt HN.out (by rw [HAT.out]; exact hun)
        have HUN := stop hun
        clear hun
        go_region_held (fun w' => w'.cell? ⟨wr.heap.size, 0, none⟩ = some (.int .i64 bs[m].at_) ∧ w'.cell? ⟨wr.heap.size, 1, none⟩ = some (.slice qc bs[m].chs.length cc) ∧ w'.cell? ⟨wr.heap.size, 2, none⟩ = some (.slice ps bs[m].sts.length cs1) ∧ w'.cell? ⟨wr.heap.size, 3, none⟩ = some (.iface T x) ∧ w'.cell? ⟨g9, m, none⟩ = some (.slice pu (aheF bs m).length cu)) (simp [*])
          (first | (go_at_call 21; refine (itemsB (aheF bs m) w.heap.size _ W2.drew HU.out L3).mono ?_; rintro e w5 ⟨v5, rfl, o5, f5⟩; have f5' : Below W2.heap.size W2 w5 := ⟨f5.os, f5.tape, f5.output, f5.size, f5.block⟩; have y0 := f5'.cell (p := ⟨wr.heap.size, 0, none⟩) hwz; have y1 := f5'.cell (p := ⟨wr.heap.size, 1, none⟩) hwz; have y2 := f5'.cell (p := ⟨wr.heap.size, 2, none⟩) hwz; have y3 := f5'.cell (p := ⟨wr.heap.size, 3, none⟩) hwz; have y4 := f5'.cell (p := ⟨g9, m, none⟩) hg9; have l6 : g9 < w5.heap.size := Nat.lt_of_lt_of_le hg9 f5'.size; have l5 : wr.heap.size < w5.heap.size := Nat.lt_of_lt_of_le hwz f5'.size) | (go_at_call 20; refine (wrongOf_hit bs[m] (aheF bs m) base W2.heap.size qc cc (.slice ps bs[m].sts.length cs1) (.iface T x) v5 w5 (OC2.keeps (Keeps.below (T := T4) f5') (by simp [T4]) (by simp [T4])) ⟨_, _, _, rfl⟩ ⟨_, _, rfl⟩ o5 L1 L2 L4 HUN.out).mono ?_; rintro e w6 ⟨rfl, f6⟩; have z0 := f6.cell (p := ⟨wr.heap.size, 0, none⟩) l5; have z1 := f6.cell (p := ⟨wr.heap.size, 1, none⟩) l5; have z2 := f6.cell (p := ⟨wr.heap.size, 2, none⟩) l5; have z3 := f6.cell (p := ⟨wr.heap.size, 3, none⟩) l5; have z4 := f6.cell (p := ⟨g9, m, none⟩) l6))
        have F6 := stop ((F2.out.trans (f5'.mono (by omega))).trans (f6.mono (by have := f5'.size; omega)))
        clear o5 f5 f5' f6 y0 y1 y2 y3 y4 z0 z1 z2 z3 z4
        go_wp2_with fail
        go_ret2
        exact .inl ⟨by rw [HP.out]; omega, by rw [HP.out]; rfl, F6.out⟩
      | none =>
        have HN2 : Hid (∀ k, k < m + 1 → unfAt bs k = none) := by
          intro k hk
          by_cases e : k = m
          · subst e; rw [HAT.out]; exact hun
          · exact HN.out k (by omega)
        have HUN := stop hun
        clear hun
        go_region_held (fun w' => w'.cell? ⟨wr.heap.size, 0, none⟩ = some (.int .i64 bs[m].at_) ∧ w'.cell? ⟨wr.heap.size, 1, none⟩ = some (.slice qc bs[m].chs.length cc) ∧ w'.cell? ⟨wr.heap.size, 2, none⟩ = some (.slice ps bs[m].sts.length cs1) ∧ w'.cell? ⟨wr.heap.size, 3, none⟩ = some (.iface T x) ∧ w'.cell? ⟨g9, m, none⟩ = some (.slice pu (aheF bs m).length cu)) (simp [*])
          (first | (go_at_call 21; refine (itemsB (aheF bs m) w.heap.size _ W2.drew HU.out L3).mono ?_; rintro e w5 ⟨v5, rfl, o5, f5⟩; have f5' : Below W2.heap.size W2 w5 := ⟨f5.os, f5.tape, f5.output, f5.size, f5.block⟩; have y0 := f5'.cell (p := ⟨wr.heap.size, 0, none⟩) hwz; have y1 := f5'.cell (p := ⟨wr.heap.size, 1, none⟩) hwz; have y2 := f5'.cell (p := ⟨wr.heap.size, 2, none⟩) hwz; have y3 := f5'.cell (p := ⟨wr.heap.size, 3, none⟩) hwz; have y4 := f5'.cell (p := ⟨g9, m, none⟩) hg9; have l6 : g9 < w5.heap.size := Nat.lt_of_lt_of_le hg9 f5'.size; have l5 : wr.heap.size < w5.heap.size := Nat.lt_of_lt_of_le hwz f5'.size) | (go_at_call 20; refine (wrongOf_none bs[m] (aheF bs m) base W2.heap.size qc cc (.slice ps bs[m].sts.length cs1) (.iface T x) v5 w5 (OC2.keeps (Keeps.below (T := T4) f5') (by simp [T4]) (by simp [T4])) ⟨_, _, _, rfl⟩ ⟨_, _, rfl⟩ o5 L1 L2 L4 HUN.out).mono ?_; rintro e w6 ⟨rfl, f6⟩; have z0 := f6.cell (p := ⟨wr.heap.size, 0, none⟩) l5; have z1 := f6.cell (p := ⟨wr.heap.size, 1, none⟩) l5; have z2 := f6.cell (p := ⟨wr.heap.size, 2, none⟩) l5; have z3 := f6.cell (p := ⟨wr.heap.size, 3, none⟩) l5; have z4 := f6.cell (p := ⟨g9, m, none⟩) l6))
        have F6 := stop ((F2.out.trans (f5'.mono (by omega))).trans (f6.mono (by have := f5'.size; omega)))
        have S6 := (S2.keeps f5').keeps f6
        clear o5 f5 f5' f6 y0 y1 y2 y3 y4 z0 z1 z2 z3 z4 S2
        go_wp2_with fail
        go_roundw
        case rel => exact ⟨m + 1, by omega, by go_num, HN2, S6, F6⟩
        case measure => simp [intOf]; omega
    · have HP : Hid (unfF bs = -1) := unf_none (fun i hi => HN.out i (by omega))
      go_wp2_with fail
      go_ret2
      exact .inr ⟨by rw [HP.out]; decide, rfl, F.out⟩
end Go.Proofs.Ytjimoigbdcalpaa
