import Derived.Test.YtgfhfkgdmidhpaaGreatDoorPC
import Derived.Test.YtgfhfkgdmidhpaaGreatDoorG08
import Derived.Laws.OwnMore
namespace Go.Proofs.YtgfhfkgdmidhpaaGreatDoor
open Go.RowKit

theorem step1A {t e : TypeId} {z : Value} {size bytes : Nat} (ht : Tryz.prog.underlying t = some (.slice e)) (hi : (Tryz.prog.info? e).map (fun i => (i.zero, i.size, i.bytes)) = some (some z, size, bytes)) (hzs : z.cells.size = size) (hsz : 0 < size) (hby : bytes ≤ 1000)
    {ops : Array Oper} {o : Oper} {a : Act} {K : Act → World → Prop} {Q : Exit → Act → World → Prop} {E : Prop} {w : World} (hgd : o.guard = none) (s x : Operand)
    (ho : o.op = .call { callee := .builtin .append, args := #[s, x], argTypes := #[t, t] })
    {base : Nat} {v : Value} {n : Nat} {xs : List Value} (hs : a.eval s = v) (hown : w.ownsRow base e size v n xs)
    {B : Nat} {cs : Array Value} {tt : TypeId} {fr : Nat × Nat} (hB : w.heap[B]? = some (.cells cs tt fr)) (hx : a.eval x = .slice (some ⟨B, 0, none⟩) 1 1) (hl : cs.size = size) (h1 : ∀ u ∈ cs.toList, u.oneCell' = true)
    (hn : n ≤ 100000000000) (hbase : base ≤ w.heap.size)
    (h : ∀ v' w', w'.ownsRow base e size v' (n + 1) (xs ++ cs.toList) → w.grownBy w' v.ownBlock → (v'.ownBlock = v.ownBlock ∨ v'.ownBlock = some w.heap.size) → K (a.put o.dst v') w') :
    if Region.wanted o (yielded ops a.tmps) = true then Oper.wp Tryz.prog o a w K Q else E := by
  obtain ⟨I, Hi, Hz, Hs, Hb⟩ := info_parts hi
  have hw : Region.wanted o (yielded ops a.tmps) = true := by simp [Region.wanted, hgd]
  rw [if_pos hw]
  obtain ⟨v', w', hr, h2, h3, _, h5⟩ := run_append_own_at (P := Tryz.prog) w base t o.type e I z size bytes ht Hi Hz Hs Hb hzs hsz v n xs hown ⟨B, 0, none⟩ 1 1 cs.toList (by simpa using hl) (World.news_of_block hB) h1 (by unfold maxLen; omega) (by have : (n + 1) * bytes ≤ 100000000001 * 1000 := Nat.mul_le_mul (by omega) hby; omega) hbase
  unfold Oper.wp execOp
  simp only [ho, resolve, invoke, builtin, Sem.run_bind, Sem.run_pure, Result.andThen_ok, List.map_toArray, List.map_cons, List.map_nil, hs, hx, hr]
  exact h v' w' h2 h3 h5

set_option maxHeartbeats 400000 in
theorem workR (o : Nat) (a b : Int) (w : World) (ho : o < 256) : Calls Tryz.prog 95 #[.int .u8 o, .int .i64 a, .int .i64 b] w fun x w' => x = .returned (.int .i64 (wkF o a b)) ∧ Below w.heap.size w w' := by
  go_enter Tryz.func95, Tryz.ntmps95
  by_cases h1 : o = 43
  · subst h1
    have HW : Hid (wkF 43 a b = wrap64 (a + b)) := rfl
    go_wp2_with fail
    go_ret
    exact ⟨by rw [HW.out]; rfl, Below.refl _ _⟩
  by_cases h2 : o = 45
  · subst h2
    have HW : Hid (wkF 45 a b = wrap64 (a - b)) := rfl
    clear h1
    go_wp2_with fail
    go_ret
    exact ⟨by rw [HW.out]; rfl, Below.refl _ _⟩
  by_cases h3 : o = 42
  · subst h3
    have HW : Hid (wkF 42 a b = wrap64 (a * b)) := rfl
    clear h1 h2
    go_wp2_with fail
    go_ret
    exact ⟨by rw [HW.out]; rfl, Below.refl _ _⟩
  have hd1 : ((o : Int) == 43) = false := by simp; omega
  have hd2 : ((o : Int) == 45) = false := by simp; omega
  have hd3 : ((o : Int) == 42) = false := by simp; omega
  by_cases h4 : a < b
  · have HW : Hid (wkF o a b = 1) := by show _ = _; rw [wkF, if_neg h1, if_neg h2, if_neg h3, if_pos h4]
    clear h1 h2 h3
    go_wp2_with fail
    go_ret
    exact ⟨by rw [HW.out]; rfl, Below.refl _ _⟩
  · have HW : Hid (wkF o a b = 0) := by show _ = _; rw [wkF, if_neg h1, if_neg h2, if_neg h3, if_neg h4]
    clear h1 h2 h3
    go_wp2_with fail
    go_ret
    exact ⟨by rw [HW.out]; rfl, Below.refl _ _⟩
def Kg (g : Nat) (w w' : World) : Prop := ∀ k cur e, k ≠ g → e ≠ 3 → w.heap[k]? = some (.cells cur e (0, 0)) → w'.heap[k]? = some (.cells cur e (0, 0))
theorem Kg.trans {g u v w} (h : Kg g u v) (k : Kg g v w) : Kg g u w := fun i c e a b x => k i c e a b (h i c e a b x)
theorem Kg.below {g w w'} (F : Below w.heap.size w w') : Kg g w w' := fun i c e _ _ x => by rw [F.block i (lt_of_block x)]; exact x
theorem MacI.kg {base g ns hs vN vH vI vO m vN' vH' w w'} (h : MacI base g ns hs vN vH vI vO m w) (S : Sf g vN vH vN' vH' w w') : Kg g w w' := fun i c e a b x => by
  rw [S.ch.block i (lt_of_block x) (fun hp => hp.elim a (fun hp => hp.elim (fun e2 => own_type h.1.2.1.1 x (fun e3 => b e3.symm) e2.symm) (fun e2 => own_type h.1.2.1.2.1 x (fun e3 => b e3.symm) e2.symm)))]; exact x
theorem MacI.bel {base g ns hs vN vH vI vO m vN' vH' w w'} (h : MacI base g ns hs vN vH vI vO m w) (S : Sf g vN vH vN' vH' w w') (hb : base ≤ w.heap.size) : Below base w w' := S.ch.toBelow hb (fun k hp => hp.elim (fun e => by rw [e]; exact h.1.1.2) (fun hp => hp.elim (fun e => (h.1.2.1.1.lt k e.symm).1) (fun e => (h.1.2.1.2.1.lt k e.symm).1)))
theorem ch_kg {base g n : Nat} {v : Value} {xs : List Value} {w w' : World} (hv : w.ownsRow base 3 1 v n xs) (C : Ch (fun k => k = g ∨ some k = v.ownBlock) w w') : Kg g w w' := fun i c e a b x => by
  rw [C.block i (lt_of_block x) (fun hp => hp.elim a (fun e2 => own_type hv x (fun e3 => b e3.symm) e2.symm))]; exact x
theorem ch_below {base g n : Nat} {v : Value} {xs : List Value} {w w' : World} (hv : w.ownsRow base 3 1 v n xs) (C : Ch (fun k => k = g ∨ some k = v.ownBlock) w w') (hg : base ≤ g) (hb : base ≤ w.heap.size) : Below base w w' := C.toBelow hb (fun k hp => hp.elim (fun e => by omega) (fun e => (hv.lt k e.symm).1))
theorem below_set {base : Nat} {u v : World} (F : Below base u v) (k o : Nat) (x : Value) (hk : base ≤ k) : Below base u (v.setCell ⟨k, o, none⟩ x) :=
  F.trans ⟨rfl, rfl, rfl, by simp [World.setCell], fun j hj => Below.heap_setCell _ _ _ _ (by simp; omega)⟩
theorem MacX.inp {base g ns hs inp l out vN vH vI vI' vO w} (h : MacX base g ns hs inp out vN vH vI vO w) (hi : InR base vI' l w) (hk : ∀ k, inBlk vI' = some k → inBlk vI = some k) : MacX base g ns hs l out vN vH vI' vO (w.setCell ⟨g, 2, none⟩ vI') := by
  obtain ⟨⟨a, a2⟩, ⟨b, c, d⟩, e, ap, i1⟩ := h
  have row : ∀ {u : Value} {n : Nat} {xs : List Value}, w.ownsRow base 3 1 u n xs → (w.setCell ⟨g, 2, none⟩ vI').ownsRow base 3 1 u n xs := fun hu => owns_blk hu (fun k hk hk2 => set_block (fun e2 => own_type hu a (by decide) (by rw [← e2]; exact hk2)))
  refine ⟨⟨by rw [blk_set a]; rfl, a2⟩, ⟨row b, row c, row d⟩, InR_blk hi (fun k hk hk2 => set_block (fun e2 => ?_)), ap, fun k h => i1 k (hk k h)⟩
  obtain ⟨p, c', rfl, hc, h⟩ := hi
  by_cases h0 : 0 < l.length
  · obtain ⟨g', o', cs, rfl, b', c', d'⟩ := h h0
    rw [inBlk, if_neg (by omega)] at hk2
    cases hk2
    subst e2
    rw [a] at c'; cases c'
  · have : l.length = 0 := by omega
    rw [this] at hk2
    cases p <;> simp [inBlk] at hk2
/-- The machine, somewhere. -/
def MacE (base g n : Nat) (m : Mac) (w : World) : Prop := ∃ ns hs vN vH vI vO, MacI base g ns hs vN vH vI vO m w ∧ ns.length ≤ n
theorem MacE.keeps {base g n m w w'} (h : MacE base g n m w) (F : Below w.heap.size w w') : MacE base g n m w' := by
  obtain ⟨ns, hs, vN, vH, vI, vO, h, hl⟩ := h; exact ⟨ns, hs, vN, vH, vI, vO, h.keeps F, hl⟩

set_option maxHeartbeats 1000000 in
theorem setE (base g n q : Nat) (v : Int) (m : Mac) (w : World) (h : MacE base g q m w) (hl : q ≤ 1000000000) (hb : base ≤ w.heap.size) :
    Calls Tryz.prog 94 #[.pointer (some ⟨g, 0, none⟩), .int .i64 n, .int .i64 v] w fun x w' => x = .returned (.tuple #[]) ∧ Hid (MacE base g (q + 1) { m with r := upd m.r n v } w' ∧ Kg g w w' ∧ Below base w w') := by
  obtain ⟨ns, hs, vN, vH, vI, vO, h, hn⟩ := h
  refine (setR base g n v ns hs vN vH vI vO m w h (by omega) hb).mono ?_
  rintro x w' ⟨rfl, ns', hs', vN', vH', H⟩
  exact ⟨rfl, ⟨ns', hs', vN', vH', vI, vO, H.out.1, by have := H.out.2.1; omega⟩, h.kg H.out.2.2, h.bel H.out.2.2 hb⟩
theorem getE (base g n q : Nat) (m : Mac) (w : World) (h : MacE base g q m w) (hl : q ≤ 1000000000) :
    Calls Tryz.prog 60 #[.pointer (some ⟨g, 0, none⟩), .int .i64 n] w fun x w' => x = .returned (.int .i64 (m.r n)) ∧ Below w.heap.size w w' := by
  obtain ⟨ns, hs, vN, vH, vI, vO, h, hn⟩ := h
  exact getR base g n ns hs vN vH vI vO m w h (by omega)

set_option maxRecDepth 100000 in
set_option maxHeartbeats 1000000 in
theorem stepR (base g q : Nat) (t : RStep) (m : Mac) (w : World) (h : MacE base g q m w) (hop : t.op < 256) (hl : q ≤ 1000000000) (hol : m.out.length ≤ 1000000000) (hb : base ≤ w.heap.size) :
    Calls Tryz.prog 59 #[.pointer (some ⟨g, 0, none⟩), .agg #[.int .u8 t.op, .int .i64 t.to.1, .int .i64 t.to.2, .int .i64 t.a.1, .int .i64 t.a.2, .int .i64 t.b.1, .int .i64 t.b.2, .int .i64 t.n]] w fun x w' => x = .returned (.tuple #[]) ∧ Hid (MacE base g (q + 1) (stA (absS t) m) w' ∧ Kg g w w' ∧ Below base w w') := by
  have HM := stop h
  clear h
  by_cases h1 : t.op = 118
  · have HA : Hid (stA (absS t) m = { m with r := upd m.r t.to.1 t.n }) := by show _ = _; rw [absS, if_pos h1]; rfl
    rw [h1]
    clear h1
    go_enter Tryz.func59, Tryz.ntmps59
    go_wp2_with fail
    have F1 := stop ((Below.refl w.heap.size w).alloc (Nat.le_refl _) (.cells #[.int .u8 118, .int .i64 t.to.1, .int .i64 t.to.2, .int .i64 t.a.1, .int .i64 t.a.2, .int .i64 t.b.1, .int .i64 t.b.2, .int .i64 t.n] 66))
    refine (setE base g t.to.1 q t.n m _ (HM.out.keeps F1.out) hl (Nat.le_trans hb F1.out.size)).mono ?_
    rintro x w2 ⟨rfl, H2⟩
    have H3 : Hid (MacE base g (q + 1) (stA (absS t) m) w2 ∧ Kg g w w2 ∧ Below base w w2) := ⟨by rw [HA.out]; exact H2.out.1, (Kg.below F1.out).trans H2.out.2.1, (F1.out.mono hb).trans H2.out.2.2⟩
    clear H2
    go_wp2_with fail
    go_end0
    exact ⟨rfl, H3.out⟩
  by_cases h2 : t.op = 99
  · have HA : Hid (stA (absS t) m = { m with r := upd m.r t.to.1 (m.r t.a.1) }) := by show _ = _; rw [absS, if_neg h1, if_pos h2]; rfl
    rw [h2]
    clear h1 h2
    go_enter Tryz.func59, Tryz.ntmps59
    go_wp2_with fail
    have g1 := heap_alloc_last w (.cells #[.int .u8 99, .int .i64 t.to.1, .int .i64 t.to.2, .int .i64 t.a.1, .int .i64 t.a.2, .int .i64 t.b.1, .int .i64 t.b.2, .int .i64 t.n] 66)
    have F1 := stop ((Below.refl w.heap.size w).alloc (Nat.le_refl _) (.cells #[.int .u8 99, .int .i64 t.to.1, .int .i64 t.to.2, .int .i64 t.a.1, .int .i64 t.a.2, .int .i64 t.b.1, .int .i64 t.b.2, .int .i64 t.n] 66))
    have sW : w.heap.size < (w.alloc (.cells #[.int .u8 99, .int .i64 t.to.1, .int .i64 t.to.2, .int .i64 t.a.1, .int .i64 t.a.2, .int .i64 t.b.1, .int .i64 t.b.2, .int .i64 t.n] 66)).heap.size := by rw [World.size_alloc]; omega
    generalize w.alloc (.cells #[.int .u8 99, .int .i64 t.to.1, .int .i64 t.to.2, .int .i64 t.a.1, .int .i64 t.a.2, .int .i64 t.b.1, .int .i64 t.b.2, .int .i64 t.n] 66) = W at *
    have hbW : base ≤ W.heap.size := by omega
    have k0 := cell_of g1 0
    have k1 := cell_of g1 1
    have k3 := cell_of g1 3
    have k5 := cell_of g1 5
    simp at k0 k1 k3 k5
    have HG : Hid (Calls Tryz.prog 60 #[.pointer (some ⟨g, 0, none⟩), .int .i64 t.a.1] W.drew fun x w' => x = .returned (.int .i64 (m.r t.a.1)) ∧ Below W.drew.heap.size W.drew w') := getE base g t.a.1 q m W.drew (HM.out.keeps (w' := W.drew) (⟨F1.out.os, F1.out.tape, F1.out.output, F1.out.size, F1.out.block⟩ : Below w.heap.size w W.drew)) hl
    clear g1
    go_region_law (first | (refine stepC rfl 60 #[.pointer (some ⟨g, 0, none⟩), .int .i64 t.a.1] (by go_simp) HG.out ?_; rintro e w6 ⟨rfl, f6⟩; have f6' : Below W.heap.size W w6 := ⟨f6.os, f6.tape, f6.output, f6.size, f6.block⟩; have s6 := f6'.size; have y0 := (f6'.cell (p := ⟨w.heap.size, 0, none⟩) sW).trans k0; have y1 := (f6'.cell (p := ⟨w.heap.size, 1, none⟩) sW).trans k1; have y3 := (f6'.cell (p := ⟨w.heap.size, 3, none⟩) sW).trans k3; have y5 := (f6'.cell (p := ⟨w.heap.size, 5, none⟩) sW).trans k5; have O6 := stop (F1.out.trans (f6'.mono (by omega))); clear f6 f6') | (refine stepC rfl 94 #[.pointer (some ⟨g, 0, none⟩), .int .i64 t.to.1, .int .i64 (m.r t.a.1)] (by go_simp) (setE base g t.to.1 q (m.r t.a.1) m w6 (HM.out.keeps O6.out) hl (by omega)) ?_; rintro e w7 ⟨rfl, H7⟩; have R7 : Hid (MacE base g (q + 1) (stA (absS t) m) w7 ∧ Kg g w w7 ∧ Below base w w7) := ⟨by rw [HA.out]; exact H7.out.1, (Kg.below O6.out).trans H7.out.2.1, (O6.out.mono hb).trans H7.out.2.2⟩; clear H7) | fail)
    all_goals
      go_wp2_with fail
      go_end0
      exact ⟨rfl, R7.out⟩
  by_cases h3 : t.op = 33
  · have HA : Hid (stA (absS t) m = { m with out := m.out ++ [m.r t.a.1] }) := by show _ = _; rw [absS, if_neg h1, if_neg h2, if_pos h3]; rfl
    rw [h3]
    clear h1 h2 h3
    go_enter Tryz.func59, Tryz.ntmps59
    go_wp2_with fail
    have g1 := heap_alloc_last w (.cells #[.int .u8 33, .int .i64 t.to.1, .int .i64 t.to.2, .int .i64 t.a.1, .int .i64 t.a.2, .int .i64 t.b.1, .int .i64 t.b.2, .int .i64 t.n] 66)
    have F1 := stop ((Below.refl w.heap.size w).alloc (Nat.le_refl _) (.cells #[.int .u8 33, .int .i64 t.to.1, .int .i64 t.to.2, .int .i64 t.a.1, .int .i64 t.a.2, .int .i64 t.b.1, .int .i64 t.b.2, .int .i64 t.n] 66))
    have sW : w.heap.size < (w.alloc (.cells #[.int .u8 33, .int .i64 t.to.1, .int .i64 t.to.2, .int .i64 t.a.1, .int .i64 t.a.2, .int .i64 t.b.1, .int .i64 t.b.2, .int .i64 t.n] 66)).heap.size := by rw [World.size_alloc]; omega
    generalize w.alloc (.cells #[.int .u8 33, .int .i64 t.to.1, .int .i64 t.to.2, .int .i64 t.a.1, .int .i64 t.a.2, .int .i64 t.b.1, .int .i64 t.b.2, .int .i64 t.n] 66) = W at *
    have hbW : base ≤ W.heap.size := by omega
    have k0 := cell_of g1 0
    have k1 := cell_of g1 1
    have k3 := cell_of g1 3
    have k5 := cell_of g1 5
    simp at k0 k1 k3 k5
    have HG : Hid (Calls Tryz.prog 60 #[.pointer (some ⟨g, 0, none⟩), .int .i64 t.a.1] W.drew fun x w' => x = .returned (.int .i64 (m.r t.a.1)) ∧ Below W.drew.heap.size W.drew w') := getE base g t.a.1 q m W.drew (HM.out.keeps (w' := W.drew) (⟨F1.out.os, F1.out.tape, F1.out.output, F1.out.size, F1.out.block⟩ : Below w.heap.size w W.drew)) hl
    clear g1
    obtain ⟨ns, hs, vN, vH, vI, vO, hM, hnq⟩ := HM.out
    have HMX := stop hM
    obtain ⟨pO, cO, rfl⟩ := owns_slice2 hM.1.2.1.2.2
    have hgw := lt_of_block hM.1.1.1
    have o3 : W.cell? ⟨g, 3, none⟩ = some (.slice pO m.out.length cO) := by
      rw [F1.out.cell (p := ⟨g, 3, none⟩) hgw]
      have := cell_of hM.1.1.1 3
      simpa using this
    clear hM
    go_region_law (first | (refine stepC rfl 60 #[.pointer (some ⟨g, 0, none⟩), .int .i64 t.a.1] (by go_simp) HG.out ?_; rintro e w6 ⟨rfl, f6⟩; have f6' : Below W.heap.size W w6 := ⟨f6.os, f6.tape, f6.output, f6.size, f6.block⟩; have s6 := f6'.size; have y0 := (f6'.cell (p := ⟨w.heap.size, 0, none⟩) sW).trans k0; have y1 := (f6'.cell (p := ⟨w.heap.size, 1, none⟩) sW).trans k1; have y3 := (f6'.cell (p := ⟨w.heap.size, 3, none⟩) sW).trans k3; have y5 := (f6'.cell (p := ⟨w.heap.size, 5, none⟩) sW).trans k5; have x3 := (f6'.cell (p := ⟨g, 3, none⟩) (Nat.lt_of_lt_of_le hgw F1.out.size)).trans o3; have hg6 : g < w6.heap.size := Nat.lt_of_lt_of_le (Nat.lt_of_lt_of_le hgw F1.out.size) f6'.size; have O6 := stop (F1.out.trans (f6'.mono (by omega))); clear f6 f6') | (refine step1A Tryz.underlying22 Tryz.info3 rfl (by decide) (by decide) rfl _ _ rfl rfl ((HMX.out.keeps O6.out).1.2.1.2.2.alloc _) (heap_alloc_last w6 (.cells #[.int .i64 (m.r t.a.1)] 3)) rfl rfl (List.all_eq_true.1 rfl) (by omega) (by rw [World.size_alloc]; omega) ?_; intro v7 w7 oS gS nS; obtain ⟨v7p, v7c, rfl⟩ := owns_slice2 oS; have H7 := stop (MacX.appO (HMX.out.keeps O6.out).1 oS gS nS); have a7 : w7.heap[g]? = some (.cells #[vN, vH, vI, .slice pO m.out.length cO] 125 (0, 0)) := (by rw [(grown_ch gS).block g (lt_of_block (HMX.out.keeps O6.out).1.1.1) (fun e2 => own_type (HMX.out.keeps O6.out).1.2.1.2.2 (HMX.out.keeps O6.out).1.1.1 (by decide) e2.symm)]; exact (HMX.out.keeps O6.out).1.1.1); have z3 := cell_of a7 3; have z3f := frozen_of a7 3; simp at z3; clear oS gS nS a7) | fail)
    all_goals
      go_wp2_with fail
      go_end0
      exact ⟨rfl, ⟨ns, hs, vN, vH, vI, .slice v7p (m.out.length + 1) v7c, ⟨by rw [HA.out]; exact H7.out.1, by rw [HA.out]; exact HMX.out.2⟩, by omega⟩, (Kg.below O6.out).trans (ch_kg (HMX.out.keeps O6.out).1.2.1.2.2 H7.out.2.1), (O6.out.mono hb).trans (ch_below (HMX.out.keeps O6.out).1.2.1.2.2 H7.out.2.1 (HMX.out.1.1.2) (by omega))⟩
  by_cases h4 : t.op = 63
  · have HA : Hid (stA (absS t) m = { m with r := upd m.r t.to.1 (m.inp.head?.getD 0), inp := m.inp.tail }) := by show _ = _; rw [absS, if_neg h1, if_neg h2, if_neg h3, if_pos h4]; rfl
    rw [h4]
    clear h1 h2 h3 h4
    go_enter Tryz.func59, Tryz.ntmps59
    obtain ⟨ns, hs, vN, vH, vI, vO, hM, hnq⟩ := HM.out
    have HMX := stop hM
    have hgw := lt_of_block hM.1.1.1
    obtain ⟨pI, cI, rfl, hc, hin⟩ := hM.1.2.2.1
    have o2 := cell_of hM.1.1.1 2
    have o2f := frozen_of hM.1.1.1 2
    simp at o2
    have HIN := stop hin
    clear hM hin
    cases hI : m.inp with
    | nil =>
      rw [hI] at o2
      simp at o2
      have HA2 : Hid (stA (absS t) m = { m with r := upd m.r t.to.1 0 }) := by show _ = _; rw [HA.out, hI]; simp
      go_wp2_with fail
      have F1 := stop ((Below.refl w.heap.size w).alloc (Nat.le_refl _) (.cells #[.int .u8 63, .int .i64 t.to.1, .int .i64 t.to.2, .int .i64 t.a.1, .int .i64 t.a.2, .int .i64 t.b.1, .int .i64 t.b.2, .int .i64 t.n] 66))
      have KW : Hid (Kg g w w ∧ Below base w w) := ⟨fun _ _ _ _ _ h => h, Below.refl _ _⟩
      have hbX := hb
      refine (setE base g t.to.1 q 0 m _ (HM.out.keeps F1.out) hl (Nat.le_trans hbX F1.out.size)).mono ?_
      rintro x2 w2 ⟨rfl, H2⟩
      have H3 : Hid (MacE base g (q + 1) (stA (absS t) m) w2 ∧ Kg g w w2 ∧ Below base w w2) := ⟨by rw [HA2.out]; exact H2.out.1, KW.out.1.trans ((Kg.below F1.out).trans H2.out.2.1), KW.out.2.trans ((F1.out.mono hbX).trans H2.out.2.2)⟩
      clear H2
      go_wp2_with fail
      go_end0
      exact ⟨rfl, H3.out⟩
    | cons x l =>
      rw [hI] at o2
      obtain ⟨gI, oI, cs, rfl, bI, hcs, hcx⟩ := HIN.out (by rw [hI]; simp)
      have c0 : w.cell? ⟨gI, oI, none⟩ = some (.int .i64 x) := by
        have := cell_of hcs oI
        rw [this]
        have h2 := hcx 0 (by rw [hI]; simp)
        simpa [hI] using h2
      have hgI := lt_of_block hcs
      have HA2 : Hid (stA (absS t) m = { m with r := upd m.r t.to.1 x, inp := l }) := by show _ = _; rw [HA.out, hI]; rfl
      have HCX : Hid (∀ j (h : j < l.length), cs[oI + 1 + j]? = some (.int .i64 l[j])) := fun j h => by
        have h2 := hcx (j + 1) (by rw [hI]; simpa using h)
        rw [show oI + (j + 1) = oI + 1 + j from by omega] at h2
        simpa [hI] using h2
      have hlc : l.length + 1 ≤ cI := by rw [hI] at hc; simpa using hc
      have HCS := stop hcs
      clear hcs hcx hc HA
      simp at o2
      by_cases h1c : cI = 1
      · subst h1c
        obtain rfl : l = [] := List.length_eq_zero_iff.1 (by omega)
        have HIR : Hid (InR base (.slice (some ⟨gI, oI, none⟩) 0 0) [] w ∧ ∀ k, inBlk (.slice (some ⟨gI, oI, none⟩) 0 0) = some k → inBlk (.slice (some ⟨gI, oI, none⟩) m.inp.length 1) = some k) := ⟨⟨_, _, rfl, by simp, fun h => by simp at h⟩, fun k h => by rw [inBlk, if_pos rfl] at h; cases h⟩
        go_wp2_with fail
        have HMN : Hid (MacE base g q { m with inp := [] } (w.setCell ⟨g, 2, none⟩ (.slice (some ⟨gI, oI, none⟩) 0 0))) := ⟨ns, hs, vN, vH, _, vO, ⟨MacX.inp HMX.out.1 HIR.out.1 HIR.out.2, HMX.out.2⟩, hnq⟩
        have KW : Hid (Kg g w (w.setCell ⟨g, 2, none⟩ (.slice (some ⟨gI, oI, none⟩) 0 0)) ∧ Below base w (w.setCell ⟨g, 2, none⟩ (.slice (some ⟨gI, oI, none⟩) 0 0))) := ⟨fun i c e a b x => by rw [set_block a]; exact x, below_set (Below.refl base w) _ _ _ HMX.out.1.1.2⟩
        have hbX : base ≤ (w.setCell ⟨g, 2, none⟩ (.slice (some ⟨gI, oI, none⟩) 0 0)).heap.size := KW.out.2.size |> Nat.le_trans hb
        have F1 := stop ((Below.refl (w.setCell ⟨g, 2, none⟩ (.slice (some ⟨gI, oI, none⟩) 0 0)).heap.size (w.setCell ⟨g, 2, none⟩ (.slice (some ⟨gI, oI, none⟩) 0 0))).alloc (Nat.le_refl _) (.cells #[.int .u8 63, .int .i64 t.to.1, .int .i64 t.to.2, .int .i64 t.a.1, .int .i64 t.a.2, .int .i64 t.b.1, .int .i64 t.b.2, .int .i64 t.n] 66))
        refine (setE base g t.to.1 q x { m with inp := [] } _ (HMN.out.keeps F1.out) hl (Nat.le_trans hbX F1.out.size)).mono ?_
        rintro x2 w2 ⟨rfl, H2⟩
        have H3 : Hid (MacE base g (q + 1) (stA (absS t) m) w2 ∧ Kg g w w2 ∧ Below base w w2) := ⟨by rw [HA2.out]; exact H2.out.1, KW.out.1.trans ((Kg.below F1.out).trans H2.out.2.1), KW.out.2.trans ((F1.out.mono hbX).trans H2.out.2.2)⟩
        clear H2
        go_wp2_with fail
        go_end0
        exact ⟨rfl, H3.out⟩
      · have HIR : Hid (InR base (.slice (some ⟨gI, oI + 1, none⟩) l.length (cI - 1)) l w ∧ ∀ k, inBlk (.slice (some ⟨gI, oI + 1, none⟩) l.length (cI - 1)) = some k → inBlk (.slice (some ⟨gI, oI, none⟩) m.inp.length cI) = some k) := ⟨⟨_, _, rfl, by omega, fun h => ⟨gI, oI + 1, cs, rfl, bI, HCS.out, HCX.out⟩⟩, fun k h => by
          rw [inBlk] at h
          split at h
          · cases h
          · rw [inBlk, if_neg (by rw [hI]; simp)]; exact h⟩
        go_wp2_with fail
        have HMN : Hid (MacE base g q { m with inp := l } (w.setCell ⟨g, 2, none⟩ (.slice (some ⟨gI, oI + 1, none⟩) l.length (cI - 1)))) := ⟨ns, hs, vN, vH, _, vO, ⟨MacX.inp HMX.out.1 HIR.out.1 HIR.out.2, HMX.out.2⟩, hnq⟩
        have KW : Hid (Kg g w (w.setCell ⟨g, 2, none⟩ (.slice (some ⟨gI, oI + 1, none⟩) l.length (cI - 1))) ∧ Below base w (w.setCell ⟨g, 2, none⟩ (.slice (some ⟨gI, oI + 1, none⟩) l.length (cI - 1)))) := ⟨fun i c e a b x => by rw [set_block a]; exact x, below_set (Below.refl base w) _ _ _ HMX.out.1.1.2⟩
        have hbX : base ≤ (w.setCell ⟨g, 2, none⟩ (.slice (some ⟨gI, oI + 1, none⟩) l.length (cI - 1))).heap.size := KW.out.2.size |> Nat.le_trans hb
        have F1 := stop ((Below.refl (w.setCell ⟨g, 2, none⟩ (.slice (some ⟨gI, oI + 1, none⟩) l.length (cI - 1))).heap.size (w.setCell ⟨g, 2, none⟩ (.slice (some ⟨gI, oI + 1, none⟩) l.length (cI - 1)))).alloc (Nat.le_refl _) (.cells #[.int .u8 63, .int .i64 t.to.1, .int .i64 t.to.2, .int .i64 t.a.1, .int .i64 t.a.2, .int .i64 t.b.1, .int .i64 t.b.2, .int .i64 t.n] 66))
        refine (setE base g t.to.1 q x { m with inp := l } _ (HMN.out.keeps F1.out) hl (Nat.le_trans hbX F1.out.size)).mono ?_
        rintro x2 w2 ⟨rfl, H2⟩
        have H3 : Hid (MacE base g (q + 1) (stA (absS t) m) w2 ∧ Kg g w w2 ∧ Below base w w2) := ⟨by rw [HA2.out]; exact H2.out.1, KW.out.1.trans ((Kg.below F1.out).trans H2.out.2.1), KW.out.2.trans ((F1.out.mono hbX).trans H2.out.2.2)⟩
        clear H2
        go_wp2_with fail
        go_end0
        exact ⟨rfl, H3.out⟩
  · have HA : Hid (stA (absS t) m = { m with r := upd m.r t.to.1 (wkF t.op (m.r t.a.1) (m.r t.b.1)) }) := by show _ = _; rw [absS, if_neg h1, if_neg h2, if_neg h3, if_neg h4]; rfl
    have hd1 : ((t.op : Int) == 118) = false := by simp; omega
    have hd2 : ((t.op : Int) == 99) = false := by simp; omega
    have hd3 : ((t.op : Int) == 33) = false := by simp; omega
    have hd4 : ((t.op : Int) == 63) = false := by simp; omega
    clear h1 h2 h3 h4
    go_enter Tryz.func59, Tryz.ntmps59
    go_wp2_with fail
    have g1 := heap_alloc_last w (.cells #[.int .u8 t.op, .int .i64 t.to.1, .int .i64 t.to.2, .int .i64 t.a.1, .int .i64 t.a.2, .int .i64 t.b.1, .int .i64 t.b.2, .int .i64 t.n] 66)
    have F1 := stop ((Below.refl w.heap.size w).alloc (Nat.le_refl _) (.cells #[.int .u8 t.op, .int .i64 t.to.1, .int .i64 t.to.2, .int .i64 t.a.1, .int .i64 t.a.2, .int .i64 t.b.1, .int .i64 t.b.2, .int .i64 t.n] 66))
    have sW : w.heap.size < (w.alloc (.cells #[.int .u8 t.op, .int .i64 t.to.1, .int .i64 t.to.2, .int .i64 t.a.1, .int .i64 t.a.2, .int .i64 t.b.1, .int .i64 t.b.2, .int .i64 t.n] 66)).heap.size := by rw [World.size_alloc]; omega
    generalize w.alloc (.cells #[.int .u8 t.op, .int .i64 t.to.1, .int .i64 t.to.2, .int .i64 t.a.1, .int .i64 t.a.2, .int .i64 t.b.1, .int .i64 t.b.2, .int .i64 t.n] 66) = W at *
    have hbW : base ≤ W.heap.size := by omega
    have k0 := cell_of g1 0
    have k1 := cell_of g1 1
    have k3 := cell_of g1 3
    have k5 := cell_of g1 5
    simp at k0 k1 k3 k5
    have HG : Hid (Calls Tryz.prog 60 #[.pointer (some ⟨g, 0, none⟩), .int .i64 t.a.1] W.drew fun x w' => x = .returned (.int .i64 (m.r t.a.1)) ∧ Below W.drew.heap.size W.drew w') := getE base g t.a.1 q m W.drew (HM.out.keeps (w' := W.drew) (⟨F1.out.os, F1.out.tape, F1.out.output, F1.out.size, F1.out.block⟩ : Below w.heap.size w W.drew)) hl
    clear g1
    go_region_law (first | (refine stepC rfl 60 #[.pointer (some ⟨g, 0, none⟩), .int .i64 t.a.1] (by go_simp) HG.out ?_; rintro e w6 ⟨rfl, f6⟩; have f6' : Below W.heap.size W w6 := ⟨f6.os, f6.tape, f6.output, f6.size, f6.block⟩; have s6 := f6'.size; have y0 := (f6'.cell (p := ⟨w.heap.size, 0, none⟩) sW).trans k0; have y1 := (f6'.cell (p := ⟨w.heap.size, 1, none⟩) sW).trans k1; have y3 := (f6'.cell (p := ⟨w.heap.size, 3, none⟩) sW).trans k3; have y5 := (f6'.cell (p := ⟨w.heap.size, 5, none⟩) sW).trans k5; have O6 := stop (F1.out.trans (f6'.mono (by omega))); clear f6 f6') | (refine stepC rfl 60 #[.pointer (some ⟨g, 0, none⟩), .int .i64 t.b.1] (by go_simp) (getE base g t.b.1 q m w6 (HM.out.keeps O6.out) hl) ?_; rintro e w7 ⟨rfl, f7⟩; have s7 := f7.size; have v0 := (f7.cell (p := ⟨w.heap.size, 0, none⟩) (Nat.lt_of_lt_of_le sW s6)).trans y0; have v1 := (f7.cell (p := ⟨w.heap.size, 1, none⟩) (Nat.lt_of_lt_of_le sW s6)).trans y1; have O7 := stop (O6.out.trans (f7.mono (by omega))); clear f7) | (refine stepC rfl 95 #[.int .u8 t.op, .int .i64 (m.r t.a.1), .int .i64 (m.r t.b.1)] (by go_simp) (workR t.op (m.r t.a.1) (m.r t.b.1) w7 hop) ?_; rintro e w8 ⟨rfl, f8⟩; have s8 := f8.size; have u1 := (f8.cell (p := ⟨w.heap.size, 1, none⟩) (Nat.lt_of_lt_of_le sW (Nat.le_trans s6 s7))).trans v1; have O8 := stop (O7.out.trans (f8.mono (by omega))); clear f8) | fail)
    all_goals
      clear HG
      go_wp2_with fail
      refine (setE base g t.to.1 q (wkF t.op (m.r t.a.1) (m.r t.b.1)) m w8 (HM.out.keeps O8.out) hl (by omega)).mono ?_
      rintro e w9 ⟨rfl, H9⟩
      have R9 : Hid (MacE base g (q + 1) (stA (absS t) m) w9 ∧ Kg g w w9 ∧ Below base w w9) := ⟨by rw [HA.out]; exact H9.out.1, (Kg.below O8.out).trans H9.out.2.1, (O8.out.mono hb).trans H9.out.2.2⟩
      clear H9
      go_wp2_with fail
      go_end0
      exact ⟨rfl, R9.out⟩

end Go.Proofs.YtgfhfkgdmidhpaaGreatDoor
