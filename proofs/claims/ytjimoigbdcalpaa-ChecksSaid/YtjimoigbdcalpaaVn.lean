import Derived.Test.YtjimoigbdcalpaaVm
namespace Go.Proofs.Ytjimoigbdcalpaa
open Go.RowKit

theorem Try.info75 : (Try.prog.info? 75).map (fun i => (i.zero, i.size, i.bytes)) = some (some (.agg #[.slice none 0 0]), 1, 24) := by kernel_rfl

/-- The goals of an end, by its method. -/
theorem goalsM_any (e : REnd) (hop : e.op = 46 ∨ e.op = 62 ∨ e.op = 63) : ∃ T x fn, endVal e = .iface T x ∧ (∀ w : World, (method 291 T x "Goals").run Try.prog w = .ok (fn, x) w) ∧
    ∀ w : World, Calls Try.prog fn #[x] w fun r w' => ∃ v, r = .returned v ∧ w'.ownsRow w.heap.size 69 2 v (goalsF e).length (pcs (goalsF e)) ∧ Below w.heap.size w w' := by
  rcases hop with hop | hop | hop
  · obtain ⟨a1, a2⟩ := endStop hop
    refine ⟨_, _, 98, a1, fun w => by kernel_rfl, fun w => (goalsK96 w).mono ?_⟩
    rintro r w' ⟨rfl, f⟩
    rw [a2]
    exact ⟨_, rfl, World.ownsRow_nil _ _ _ _, f⟩
  · obtain ⟨a1, a2⟩ := endJump hop
    refine ⟨_, _, 100, a1, fun w => by kernel_rfl, fun w => (goalsK97 _ _ w).mono ?_⟩
    rintro r w' ⟨g, rfl, o, f⟩
    rw [a2]
    exact ⟨_, rfl, o, f⟩
  · obtain ⟨a1, a2⟩ := endFork hop
    refine ⟨_, _, 103, a1, fun w => by kernel_rfl, fun w => (goalsK100 _ _ _ _ _ _ w).mono ?_⟩
    rintro r w' ⟨g, rfl, o, f⟩
    rw [a2]
    exact ⟨_, rfl, o, f⟩

/-- A row of sets of block numbers, each with a row of its own. -/
def Sets (base : Nat) (w : World) (v : Value) (n : Nat) (f : Nat → List Nat) : Prop :=
  ∃ us : List Value, w.ownsRow base 75 1 v n us ∧ (∀ (k : Nat) (u : Value), us[k]? = some u → w.ownsRow base 67 1 u (f k).length (icell (f k))) ∧ (∀ (j k : Nat) (u u' : Value), us[j]? = some u → us[k]? = some u' → j ≠ k → u.ownBlock = none ∨ u.ownBlock ≠ u'.ownBlock)

theorem Sets.at {base : Nat} {w : World} {p : Option Addr} {c n : Nat} {f : Nat → List Nat} (h : Sets base w (.slice p n c) n f) {k : Nat} (hk : k < n) :
    ∃ g u, p = some ⟨g, 0, none⟩ ∧ base ≤ g ∧ w.cell? ⟨g, k, none⟩ = some u ∧ w.frozen? ⟨g, k, none⟩ = false ∧ w.ownsRow base 67 1 u (f k).length (icell (f k)) ∧ u.ownBlock ≠ some g := by
  obtain ⟨us, a, b, c1⟩ := h
  obtain ⟨g, rfl, hb, hg⟩ := owns_form a (by omega)
  have hl : us.length = n := by have := a.1; omega
  have hu : us[k]? = some us[k] := List.getElem?_eq_getElem (by omega)
  have o := b k _ hu
  refine ⟨g, us[k], rfl, hb, owns_cell a hu, owns_fz a k, o, fun e => ?_⟩
  rcases a.2 with ⟨h0, _⟩ | ⟨g', cap', cur', hv, _, hc', _⟩
  · cases h0
  · cases hv
    rcases o.2 with ⟨h0, _⟩ | ⟨g2, cap2, cur2, hv2, _, hc2, _⟩
    · rw [h0] at e; cases e
    · rw [hv2] at e
      cases e
      rw [hc'] at hc2; cases hc2

/-- Rows of other types are kept when an item is put in. -/
theorem Keeps.put {base base1 base2 : Nat} {T : TypeId → Prop} {w w' : World} {g k n c m : Nat} {us ys : List Value} {u u' : Value} (a : w.ownsRow base1 75 1 (.slice (some ⟨g, 0, none⟩) n c) n us) (b : w.ownsRow base2 67 1 u m ys) (hp : Put g k u u' w w') (h1 : ¬ T 75) (h2 : ¬ T 67) : Keeps base T w w' := by
  intro j cur e _ ht hh
  rw [hp.block j (lt_of_block hh) ?_ ?_]
  · exact hh
  · rintro rfl
    rcases a.2 with ⟨h0, _⟩ | ⟨g', cap', cur', hv, _, hc', _⟩
    · cases h0
    · cases hv; rw [hc'] at hh; cases hh; exact h1 ht
  · intro e1
    rcases b.2 with ⟨rfl, _⟩ | ⟨g2, cap2, cur2, rfl, _, hc2, _⟩
    · cases e1
    · cases e1; rw [hc2] at hh; cases hh; exact h2 ht

theorem Sets.put {base : Nat} {w w' : World} {g c n : Nat} {f : Nat → List Nat} (h : Sets base w (.slice (some ⟨g, 0, none⟩) n c) n f) {k : Nat} (hk : k < n) {u u' : Value} (hu : w.cell? ⟨g, k, none⟩ = some u)
    (hp : Put g k u u' w w') {l : List Nat} (o' : w'.ownsRow base 67 1 u' l.length (icell l)) (f' : Nat → List Nat) (hf : f' k = l) (hf2 : ∀ j, j ≠ k → f' j = f j) : Sets base w' (.slice (some ⟨g, 0, none⟩) n c) n f' := by
  obtain ⟨us, a, b, d⟩ := h
  have hl : us.length = n := by have := a.1; omega
  have huk : us[k]? = some us[k] := List.getElem?_eq_getElem (by omega)
  have e0 : us[k] = u := by have := owns_cell a huk; rw [hu] at this; cases this; rfl
  rw [e0] at huk
  have ob := b k u huk
  refine ⟨us.set k u', ?_, ?_, ?_⟩
  · have s := owns_store a k u'
    obtain ⟨s1, s2⟩ := s
    refine ⟨s1, s2.imp id ?_⟩
    rintro ⟨g', cap', cur', hv, b1, c1, d1⟩
    cases hv
    exact ⟨g, c, cur', rfl, b1, by rw [hp.at_]; exact c1, d1⟩
  · intro j x hx
    rw [List.getElem?_set] at hx
    by_cases hj : k = j
    · subst hj
      rw [if_pos rfl, if_pos (by omega)] at hx
      cases hx
      rw [hf]; exact o'
    · rw [if_neg hj] at hx
      rw [hf2 j (fun e => hj e.symm)]
      have oj := b j x hx
      obtain ⟨o1, o2⟩ := oj
      refine ⟨o1, o2.imp id ?_⟩
      rintro ⟨g2, cap2, cur2, rfl, b2, c2, d2⟩
      refine ⟨g2, cap2, cur2, rfl, b2, ?_, d2⟩
      rw [hp.block g2 (lt_of_block c2) ?_ ?_]
      · exact c2
      · rintro rfl
        rcases a.2 with ⟨h0, _⟩ | ⟨g', cap', cur', hv, _, hc', _⟩
        · cases h0
        · cases hv; rw [hc'] at c2; cases c2
      · rcases d j k _ _ hx huk (fun e => hj e.symm) with h0 | h0
        · cases h0
        · exact h0
  · have lt : ∀ (j : Nat) (x : Value), us[j]? = some x → ∀ b, x.ownBlock = some b → b < w.heap.size := fun j x hx bb hb => ((b j x hx).lt bb hb).2
    intro i j x y hx hy hij
    rw [List.getElem?_set] at hx hy
    by_cases hi : k = i
    · subst hi
      rw [if_pos rfl, if_pos (by omega)] at hx
      rw [if_neg hij] at hy
      cases hx
      rcases hp.new with h0 | ⟨g', h0, hle⟩
      · rw [h0]; exact d k j u y huk hy hij
      · right
        rw [h0]
        intro e1
        have := lt j y hy g' e1.symm
        omega
    · rw [if_neg hi] at hx
      by_cases hj : k = j
      · subst hj
        rw [if_pos rfl, if_pos (by omega)] at hy
        cases hy
        rcases hp.new with h0 | ⟨g', h0, hle⟩
        · rw [h0]; exact d i k x u hx huk hij
        · right
          rw [h0]
          intro e1
          have := lt i x hx g' e1
          omega
      · rw [if_neg hj] at hy
        exact d i j x y hx hy hij

theorem Sets.keeps {base : Nat} {w w' : World} {v : Value} {n : Nat} {f : Nat → List Nat} (h : Sets base w v n f) (k : Below w.heap.size w w') : Sets base w' v n f := by
  obtain ⟨us, a, b, d⟩ := h
  exact ⟨us, owns_keeps a (Keeps.below (T := fun _ => True) k) trivial, fun j u hu => owns_keeps (b j u hu) (Keeps.below (T := fun _ => True) k) trivial, d⟩
theorem Sets.congr {base : Nat} {w : World} {v : Value} {n : Nat} {f f' : Nat → List Nat} (h : Sets base w v n f) (e : ∀ k, k < n → f' k = f k) : Sets base w v n f' := by
  obtain ⟨us, a, b, d⟩ := h
  have hl : us.length = n := by have := a.1; omega
  refine ⟨us, a, fun j u hu => ?_, d⟩
  have hj : j < n := by
    rcases Nat.lt_or_ge j us.length with h | h
    · omega
    · rw [List.getElem?_eq_none h] at hu; cases hu
  rw [e j hj]; exact b j u hu
theorem Put.below {base : Nat} {w0 w w' : World} {g k m : Nat} {u u' : Value} {ys : List Value} (F : Below base w0 w) (hb : base ≤ g) (o : w.ownsRow base 67 1 u m ys) (hp : Put g k u u' w w') (hs : base ≤ w.heap.size) : Below base w0 w' := by
  refine F.trans ⟨hp.os, hp.tape, hp.output, hp.size, fun j hj => hp.block j (by omega) (by omega) (fun e => ?_)⟩
  have := (o.lt j e.symm).1
  omega
end Go.Proofs.Ytjimoigbdcalpaa
