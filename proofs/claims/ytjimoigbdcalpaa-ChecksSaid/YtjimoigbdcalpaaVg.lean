import Derived.Test.YtjimoigbdcalpaaVf
namespace Go.Proofs.Ytjimoigbdcalpaa
open Go.RowKit

theorem Try.info67 : (Try.prog.info? 67).map (fun i => (i.zero, i.size, i.bytes)) = some (some (.int .i64 0), 1, 8) := by kernel_rfl
theorem Try.info96 : (Try.prog.info? 96).map (fun i => (i.zero, i.size, i.bytes)) = some (some (.int .i64 0), 1, 8) := by kernel_rfl
theorem icell_at {l : List Nat} {j : Nat} (hj : j < l.length) : (icell l)[j]? = some (.int .i64 l[j]) := by simp [icell, hj]
def eqF (a b : List Nat) : Bool := decide (a = b)
theorem eqF_len {a b : List Nat} (h : a.length ≠ b.length) : eqF a b = false := by simp [eqF]; intro e; exact h (by rw [e])
theorem eqF_all {a b : List Nat} (h : a.length = b.length) (hx : ∀ j, (h1 : j < a.length) → (h2 : j < b.length) → a[j] = b[j]) : eqF a b = true := by
  simp [eqF]; exact List.ext_getElem h (fun i h1 h2 => hx i h1 h2)
theorem eqF_ne {a b : List Nat} {j : Nat} (h1 : j < a.length) (h2 : j < b.length) (h : a[j] ≠ b[j]) : eqF a b = false := by
  simp [eqF]; intro e; subst e; exact h rfl

set_option maxRecDepth 100000 in
set_option maxHeartbeats 1000000 in
theorem equal_any (a b : List Nat) (B1 B2 : Nat) (va vb : Value) (w : World) (ha : w.ownsRow B1 67 1 va a.length (icell a)) (hb : w.ownsRow B2 67 1 vb b.length (icell b)) (la : a.length ≤ 1000000) (lb : b.length ≤ 1000000) :
    Calls Try.prog 32 #[va, vb] w fun x w' => x = .returned (.bool (eqF a b)) ∧ ∃ n, w' = w.drewN n := by
  obtain ⟨p1, c1, rfl⟩ := owns_slice2 ha
  obtain ⟨p2, c2, rfl⟩ := owns_slice2 hb
  by_cases hl : a.length = b.length
  · have hl' : ((a.length : Int) != (b.length : Int)) = false := by simp; omega
    have HL := stop hl
    clear hl
    go_enter Try.func32, Try.ntmps32
    go_wp2_with fail
    go_loopw [13] (fun i wr => ∃ k n : Nat, k ≤ a.length ∧ i = .int .i64 k ∧ wr = w.drewN n ∧ Hid (∀ j, j < k → (h1 : j < a.length) → (h2 : j < b.length) → a[j] = b[j])) (fun i _ => a.length - (intOf i).toNat)
    case atStart => exact ⟨0, 0, by omega, rfl, rfl, fun j hj => by omega⟩
    case round =>
      obtain ⟨k, n, hk, rfl, rfl, HE⟩ := hrel
      by_cases hlt : k < a.length
      · have hlb : k < b.length := by have := HL.out; omega
        obtain ⟨g1, rfl, _, _⟩ := owns_form ha (by omega)
        obtain ⟨g2, rfl, _, _⟩ := owns_form hb (by omega)
        have f1 := owns_cell ha (icell_at hlt)
        have f2 := owns_cell hb (icell_at hlb)
        by_cases he : a[k] = b[k]
        · have he' : ((a[k] : Int) != (b[k] : Int)) = false := by simp; omega
          have HE2 : Hid (∀ j, j < k + 1 → (h1 : j < a.length) → (h2 : j < b.length) → a[j] = b[j]) := fun j hj h1 h2 => by
            rcases Nat.lt_succ_iff_lt_or_eq.1 hj with hj | rfl
            · exact HE.out j hj h1 h2
            · exact he
          clear he
          go_wp2_with fail
          go_quiet (fail)
          go_wp2_with fail
          go_roundw
          case rel => exact ⟨k + 1, n + nq, by omega, by go_num, by simp, HE2⟩
          case measure => simp [intOf]; omega
        · have he' : ((a[k] : Int) != (b[k] : Int)) = true := by simp; omega
          have HN := stop (eqF_ne hlt hlb he)
          clear he
          go_wp2_with fail
          go_quiet (fail)
          go_wp2_with fail
          go_ret
          exact ⟨by rw [HN.out]; rfl, n + nq, by simp⟩
      · have HN := stop (eqF_all HL.out (fun j h1 h2 => HE.out j (by omega) h1 h2))
        go_wp2_with fail
        go_ret
        exact ⟨by rw [HN.out]; rfl, n, rfl⟩
  · have hl' : ((a.length : Int) != (b.length : Int)) = true := by simp; omega
    have HN := stop (eqF_len hl)
    clear hl
    go_enter Try.func32, Try.ntmps32
    go_wp2_with fail
    go_ret
    exact ⟨by rw [HN.out]; rfl, 0, rfl⟩

theorem owns_store {w : World} {base e g n cap : Nat} {xs : List Value} (h : w.ownsRow base e 1 (.slice (some ⟨g, 0, none⟩) n cap) n xs) (j : Nat) (x : Value) : (w.setCell ⟨g, j, none⟩ x).ownsRow base e 1 (.slice (some ⟨g, 0, none⟩) n cap) n (xs.set j x) := by
  obtain ⟨h1, h2⟩ := h
  refine ⟨by simpa using h1, ?_⟩
  rcases h2 with ⟨h0, _⟩ | ⟨g', cap', cur, hv, a, c, d, e1, e2, e3⟩
  · cases h0
  · cases hv
    refine .inr ⟨g, cap, cur.setIfInBounds j x, rfl, a, blk_set c j x, d, e1, by simpa using e2, ?_⟩
    rw [Array.toList_setIfInBounds, ← e3, List.take_set]
theorem owns_fz {w : World} {base e size g n cap : Nat} {xs : List Value} (h : w.ownsRow base e size (.slice (some ⟨g, 0, none⟩) n cap) n xs) (o : Nat) : w.frozen? ⟨g, o, none⟩ = false := by
  rcases h.2 with ⟨h0, _⟩ | ⟨g', cap', cur, hv, a, c, d⟩
  · cases h0
  · cases hv; exact frozen_of c o
/-- A store into a row keeps the rows of other types. -/
theorem Keeps.storeRow {w : World} {base base' e g n cap : Nat} {xs : List Value} {T : TypeId → Prop} (h : w.ownsRow base' e 1 (.slice (some ⟨g, 0, none⟩) n cap) n xs) (he : ¬ T e) (j : Nat) (x : Value) : Keeps base T w (w.setCell ⟨g, j, none⟩ x) := by
  intro k cur e2 _ ht hh
  refine blk_setOther hh ?_ j x
  intro e1
  subst e1
  rcases h.2 with ⟨h0, _⟩ | ⟨g', cap', cur', hv, a, c, d⟩
  · cases h0
  · cases hv; rw [hh] at c; cases c; exact he ht
theorem made_one (z : Value) (hz : z.cells = #[z]) (n : Nat) : (madeCells z.cells (n * 1)).toList = List.replicate n z := by
  rw [hz, Nat.mul_one]
  apply List.ext_getElem
  · simp [madeCells]
  · intro i h1 h2
    simp [madeCells, Nat.mod_one]
def half (l : List (Nat × Nat)) (t : Nat) : List Value := icell (nums (l.take t)) ++ List.replicate (l.length - t) (.int .i64 0)
theorem half_zero (l) : half l 0 = List.replicate l.length (.int .i64 0) := by simp [half, icell, nums]
theorem half_all (l) : half l l.length = icell (nums l) := by simp [half]
theorem half_set {l : List (Nat × Nat)} {t : Nat} (ht : t < l.length) : (half l t).set t (.int .i64 l[t].1) = half l (t + 1) := by
  apply List.ext_getElem
  · simp [half, icell, nums]; omega
  · intro i h1 h2
    simp only [half, icell, nums, List.length_set, List.length_append, List.length_map, List.length_take, List.length_replicate] at h1 h2
    rw [List.getElem_set]
    by_cases hi : t = i
    · subst hi
      rw [if_pos rfl]
      simp only [half, icell, nums]
      rw [List.getElem_append_left (by simp; omega)]
      simp
    · rw [if_neg hi]
      simp only [half, icell, nums]
      by_cases hl : i < t
      · rw [List.getElem_append_left (by simp; omega), List.getElem_append_left (by simp; omega)]
        simp
      · rw [List.getElem_append_right (by simp; omega), List.getElem_append_right (by simp; omega)]
        simp
theorem half_len (l t) (h : t ≤ l.length) : (half l t).length = l.length := by simp [half, icell, nums]; omega

set_option maxRecDepth 100000 in
set_option maxHeartbeats 1000000 in
theorem blocksOf_any (c : RCho) (base : Nat) (vs : Value) (w : World) (h : w.ownsRow base 103 4 vs c.gs.length (srcCells c.gs c.rs)) (hgl : c.gs.length = c.rs.length) (hc : c.gs.length ≤ 400000) :
    Calls Try.prog 33 #[.agg #[.int .i64 c.to.1, .int .i64 c.to.2, vs]] w fun x w' => ∃ v, x = .returned v ∧ w'.ownsRow w.heap.size 67 1 v (nums c.gs).length (icell (nums c.gs)) ∧ Below w.heap.size w w' := by
  obtain ⟨pv, cv, rfl⟩ := owns_slice2 h
  have HGL := stop hgl
  clear hgl
  obtain ⟨I9, Hi9, Hz9, Hs9, Hb9⟩ := info_parts Try.info67
  go_enter Try.func33, Try.ntmps33
  go_wp2_with (at_make; refine unstop ?_)
  refine stop ?_
  refine wpList_make_full _ rfl _ _ 73 rfl (w.heap.size + 1) 67 I9 (.int .i64 0) 1 Try.underlying73 Hi9 Hz9 Hs9 .i64 .i64 _ _ c.gs.length rfl rfl rfl rfl (by rw [Hb9]; omega) (by unfold maxLen; omega) (by simp) ?_
  intro w1 o1 g1
  rw [made_one _ rfl, ← half_zero, World.size_alloc] at o1
  rw [World.size_alloc]
  have F1 : Below w.heap.size w w1 := Below.grown ((Below.refl _ _).alloc (Nat.le_refl _) _) g1 (by simp) (fun k hk => by cases hk)
  have hz1 : w.heap.size + 1 ≤ w1.heap.size := by have := g1.size; rw [World.size_alloc] at this; exact this
  have gb : w1.heap[w.heap.size]? = some (.cells #[.int .i64 c.to.1, .int .i64 c.to.2, .slice pv c.gs.length cv] 101 (0, 0)) := blk_grown g1 (heap_alloc_last w _) (fun j hj => by cases hj)
  have h1 := owns_keeps (h.alloc (.cells #[.int .i64 c.to.1, .int .i64 c.to.2, .slice pv c.gs.length cv] 101)) (T := fun _ => True) (fun g cur e _ _ hh => blk_grown g1 hh (fun j hj => by cases hj)) trivial
  have qb := cell_of gb 2
  simp at qb
  clear g1 gb
  go_wp2_with fail
  go_loopw [13] (fun k wr => ∃ t : Nat, t ≤ c.gs.length ∧ k = .int .i64 t ∧ wr.ownsRow (w.heap.size + 1) 67 1 (.slice (some ⟨w.heap.size + 1, 0, none⟩) c.gs.length c.gs.length) c.gs.length (half c.gs t) ∧ Hid (Below w.heap.size w wr) ∧ wr.ownsRow base 103 4 (.slice pv c.gs.length cv) c.gs.length (srcCells c.gs c.rs) ∧ w.heap.size + 1 ≤ wr.heap.size) (fun k _ => c.gs.length - (intOf k).toNat)
  case atStart => exact ⟨0, by omega, rfl, o1, F1, h1, hz1⟩
  case round =>
    clear o1 F1 h1 qb hz1
    obtain ⟨t, ht, rfl, O, F, OF, hz⟩ := hrel
    by_cases htl : t < c.gs.length
    · obtain ⟨gf, rfl, _, hgf⟩ := owns_form OF (by omega)
      have f0 := owns_cell OF (srcCells_at HGL.out htl).1
      have f1 := owns_cell OF (srcCells_at HGL.out htl).2.1
      have f2 := owns_cell OF (srcCells_at HGL.out htl).2.2.1
      have f3 := owns_cell OF (srcCells_at HGL.out htl).2.2.2
      have hlen := half_len c.gs t ht
      have s0 : wr.cell? ⟨w.heap.size + 1, t, none⟩ = some ((half c.gs t)[t]'(by omega)) := owns_cell O (List.getElem?_eq_getElem (by omega))
      have s1 := owns_fz O t
      have ll : w.heap.size + 1 < wr.heap.size := (O.lt _ rfl).2
      generalize (half c.gs t)[t]'(by omega) = old at s0
      clear hlen
      go_wp2_with fail
      refine ⟨⟨t + 1, by omega, by go_num, ?_, ?_, ?_, ?_⟩, by simp [intOf]; omega⟩
      · rw [← half_set htl]; exact (owns_store O t _).alloc _
      · exact (F.out.setCell (p := ⟨w.heap.size + 1, t, none⟩) (show w.heap.size ≤ w.heap.size + 1 by omega) _).alloc (by rw [size_set]; omega) _
      · exact (owns_keeps OF (Keeps.storeRow (T := fun e => e = 103) O (by decide) t _) rfl).alloc _
      · rw [World.size_alloc, size_set]; omega
    · have hte : t = c.gs.length := by omega
      subst hte
      rw [half_all] at O
      go_wp2_with fail
      go_ret
      refine ⟨_, rfl, ?_, F.out⟩
      have := owns_base (base' := w.heap.size) O (by omega)
      simpa [nums] using this
end Go.Proofs.Ytjimoigbdcalpaa
