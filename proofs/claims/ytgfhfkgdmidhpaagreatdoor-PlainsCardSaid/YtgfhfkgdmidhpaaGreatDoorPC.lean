import Derived.Test.YtgfhfkgdmidhpaaGreatDoorPA
import Derived.Test.YtgfhfkgdmidhpaaGreatDoorG02
import Derived.Laws.OwnMore
import Derived.Maps.AppendAt
namespace Go.Proofs.YtgfhfkgdmidhpaaGreatDoor
open Go.RowKit

/-- Worlds that differ but in the blocks of P and in new ones. -/
structure Ch (P : Nat → Prop) (w w' : World) : Prop where
  os : w'.os = w.os
  tape : w'.tape = w.tape
  output : w'.output = w.output
  size : w.heap.size ≤ w'.heap.size
  block : ∀ k, k < w.heap.size → ¬ P k → w'.heap[k]? = w.heap[k]?
theorem Ch.refl (P w) : Ch P w w := ⟨rfl, rfl, rfl, Nat.le_refl _, fun _ _ _ => rfl⟩
theorem Ch.trans {P a b c} (h : Ch P a b) (k : Ch P b c) : Ch P a c := ⟨k.os.trans h.os, k.tape.trans h.tape, k.output.trans h.output, Nat.le_trans h.size k.size, fun i hi hp => (k.block i (Nat.lt_of_lt_of_le hi h.size) hp).trans (h.block i hi hp)⟩
theorem Ch.trans2 {P Q : Nat → Prop} {a b c} (h : Ch P a b) (k : Ch Q b c) (hq : ∀ i, i < a.heap.size → Q i → P i) : Ch P a c := ⟨k.os.trans h.os, k.tape.trans h.tape, k.output.trans h.output, Nat.le_trans h.size k.size, fun i hi hp => (k.block i (Nat.lt_of_lt_of_le hi h.size) (fun q => hp (hq i hi q))).trans (h.block i hi hp)⟩
theorem Ch.mono {P Q : Nat → Prop} {a b} (h : Ch P a b) (hq : ∀ i, P i → Q i) : Ch Q a b := ⟨h.os, h.tape, h.output, h.size, fun i hi hp => h.block i hi (fun p => hp (hq i p))⟩
theorem Ch.below (P) {w w'} (F : Below w.heap.size w w') : Ch P w w' := ⟨F.os, F.tape, F.output, F.size, fun k hk _ => F.block k hk⟩
theorem Ch.alloc (P) (w : World) (o : Obj) : Ch P w (w.alloc o) := Ch.below P ((Below.refl _ _).alloc (Nat.le_refl _) o)
theorem Ch.grown {P : Nat → Prop} {w w' : World} {r : Option Nat} (g : w.grownBy w' r) (hP : ∀ k, some k = r → P k) : Ch P w w' := ⟨g.os, g.tape, g.output, g.size, fun k hk hp => g.block k hk (fun e => hp (hP k e))⟩
theorem set_block {w : World} {g k o : Nat} {x : Value} (h : k ≠ g) : (w.setCell ⟨g, o, none⟩ x).heap[k]? = w.heap[k]? := Below.heap_setCell _ _ _ _ (by simpa using h)
theorem Ch.set {P : Nat → Prop} (w : World) {g : Nat} (o : Nat) (x : Value) (hP : P g) : Ch P w (w.setCell ⟨g, o, none⟩ x) := ⟨rfl, rfl, rfl, by simp [World.setCell], fun k _ hp => set_block (fun e => hp (by rw [e]; exact hP))⟩
theorem Ch.toBelow {P : Nat → Prop} {w w' : World} {base : Nat} (h : Ch P w w') (hb : base ≤ w.heap.size) (hP : ∀ k, P k → base ≤ k) : Below base w w' := ⟨h.os, h.tape, h.output, h.size, fun k hk => h.block k (by omega) (fun p => by have := hP k p; omega)⟩
theorem own_type {w : World} {b1 e1 s1 n1 pb : Nat} {u : Value} {xs : List Value} {cs : Array Value} {t : TypeId} (hu : w.ownsRow b1 e1 s1 u n1 xs) (hB : w.heap[pb]? = some (.cells cs t (0, 0))) (he : e1 ≠ t) : u.ownBlock ≠ some pb := by
  intro hk
  rcases hu.2 with ⟨rfl, _⟩ | ⟨g, cap, cur, rfl, _, c1, _⟩
  · cases hk
  cases hk
  rw [c1] at hB
  cases hB
  exact he rfl
/-- append of one element that lies in a new block; and where the row lies then. -/
theorem app1A {t e : TypeId} {z : Value} {size bytes : Nat} (ht : Tryz.prog.underlying t = some (.slice e)) (hi : (Tryz.prog.info? e).map (fun i => (i.zero, i.size, i.bytes)) = some (some z, size, bytes)) (hzs : z.cells.size = size) (hsz : 0 < size) (hby : bytes ≤ 1000)
    {ops : Array Oper} {rest : List Oper} {o : Oper} {a : Act} {Q : Exit → Act → World → Prop} {w : World} (hgd : o.guard = none) (s x : Operand)
    (ho : o.op = .call { callee := .builtin .append, args := #[s, x], argTypes := #[t, t] })
    {base : Nat} {v : Value} {n : Nat} {xs : List Value} (hs : a.eval s = v) (hown : w.ownsRow base e size v n xs)
    {B : Nat} {cs : Array Value} {tt : TypeId} {fr : Nat × Nat} (hB : w.heap[B]? = some (.cells cs tt fr)) (hx : a.eval x = .slice (some ⟨B, 0, none⟩) 1 1) (hl : cs.size = size) (h1 : ∀ u ∈ cs.toList, u.oneCell' = true)
    (hn : n ≤ 100000000000) (hbase : base ≤ w.heap.size)
    (h : ∀ v' w', w'.ownsRow base e size v' (n + 1) (xs ++ cs.toList) → w.grownBy w' v.ownBlock → (v'.ownBlock = v.ownBlock ∨ v'.ownBlock = some w.heap.size) → wpList Tryz.prog ops Q rest (a.put o.dst v') w') : wpList Tryz.prog ops Q (o :: rest) a w := by
  obtain ⟨I, Hi, Hz, Hs, Hb⟩ := info_parts hi
  refine wpList_append_own_at w hgd s x t ho base e I z size bytes ht Hi Hz Hs Hb hzs hsz v n xs hs hown ⟨B, 0, none⟩ 1 1 cs.toList hx (by simpa using hl) (World.news_of_block hB) h1 (by unfold maxLen; omega) ?_ hbase (fun v' w' h1 h2 _ h4 => h v' w' h1 h2 h4)
  have : (n + 1) * bytes ≤ 100000000001 * 1000 := Nat.mul_le_mul (by omega) hby
  omega
def NewOr2 (w : World) (v v' : Value) : Prop := v'.ownBlock = v.ownBlock ∨ ∃ k, v'.ownBlock = some k ∧ w.heap.size ≤ k
/-- What a setting of a register changes. -/
def SfP (g : Nat) (vN vH : Value) (k : Nat) : Prop := k = g ∨ some k = vN.ownBlock ∨ some k = vH.ownBlock
structure Sf (g : Nat) (vN vH vN' vH' : Value) (w w' : World) : Prop where
  ch : Ch (SfP g vN vH) w w'
  newN : NewOr2 w vN vN'
  newH : NewOr2 w vH vH'
theorem owns_blk {w w' : World} {base e size n : Nat} {v : Value} {xs : List Value} (h : w.ownsRow base e size v n xs) (hk : ∀ k, k < w.heap.size → v.ownBlock = some k → w'.heap[k]? = w.heap[k]?) : w'.ownsRow base e size v n xs := by
  obtain ⟨a, b⟩ := h
  refine ⟨a, b.imp id ?_⟩
  rintro ⟨g, cap, cur, rfl, b1, c1, d1⟩
  exact ⟨g, cap, cur, rfl, b1, by rw [hk g (lt_of_block c1) rfl]; exact c1, d1⟩
theorem InR_blk {base v l w w'} (h : InR base v l w) (hk : ∀ k, k < w.heap.size → inBlk v = some k → w'.heap[k]? = w.heap[k]?) : InR base v l w' := by
  obtain ⟨p, c, rfl, hc, h⟩ := h
  refine ⟨p, c, rfl, hc, fun h0 => ?_⟩
  obtain ⟨g, o, cs, rfl, b, c, d⟩ := h h0
  exact ⟨g, o, cs, rfl, b, by rw [hk g (lt_of_block c) (by rw [inBlk, if_neg (by omega)])]; exact c, d⟩
theorem MacI.stored {base g ns hs vN gH cH vI vO m w} (h : MacI base g ns hs vN (.slice (some ⟨gH, 0, none⟩) hs.length cH) vI vO m w) {k n : Nat} (hk : k < ns.length) (h1 : ns[k] = n) (h2 : ∀ j (hj : j < k), ns[j]'(by omega) ≠ n) (v : Int) :
    MacI base g ns (hs.set k v) vN (.slice (some ⟨gH, 0, none⟩) (hs.set k v).length cH) vI vO { m with r := upd m.r n v } (w.setCell ⟨gH, k, none⟩ (.int .i64 v)) := by
  obtain ⟨⟨⟨a, a2⟩, ⟨b, c, d⟩, e, ⟨f1, f2, f3⟩, i1⟩, he, hr⟩ := h
  have hne : g ≠ gH := fun e2 => by
    subst e2; exact own_type c a (by decide) rfl
  rw [List.length_set]
  refine ⟨⟨⟨by rw [set_block hne]; exact a, a2⟩, ⟨owns_blk b (fun j _ hj => set_block (fun e2 => f1 gH rfl (by rw [← e2]; exact hj))), ?_, owns_blk d (fun j _ hj => set_block (fun e2 => f3 j hj (by rw [e2]; rfl)))⟩, InR_blk e (fun j _ hj => set_block (fun e2 => (i1 j hj).2.1 (by rw [e2]; rfl))), ⟨f1, f2, f3⟩, i1⟩, by rw [List.length_set]; exact he, ?_⟩
  · rw [List.length_set, ← zcell_set]; exact (c.stored k _).1
  · funext j
    show upd m.r n v j = _
    rw [look_set hk he h1 h2, hr]
theorem NewOr2.apart {w : World} {base e size n : Nat} {v v' u : Value} {xs : List Value} (h : NewOr2 w v v') (hu : w.ownsRow base e size u n xs) (ha : Apart u v) : Apart u v' := by
  intro k hk hu2
  rcases h with h | ⟨j, h, hj⟩
  · rw [h] at hk; exact ha k hk hu2
  · rw [h] at hk; cases hk
    have := (hu.lt _ hu2).2
    omega
theorem NewOr2.no {w : World} {v v' : Value} {k : Nat} (h : NewOr2 w v v') (hv : v.ownBlock ≠ some k) (hk : k < w.heap.size) : v'.ownBlock ≠ some k := by
  rcases h with h | ⟨j, h, hj⟩
  · rw [h]; exact hv
  · rw [h]; intro e; cases e; omega
theorem NewOr2.of {w : World} {v v' : Value} {o : Obj} (h : v'.ownBlock = v.ownBlock ∨ v'.ownBlock = some (w.alloc o).heap.size) : NewOr2 w v v' := by
  rcases h with h | h
  · exact .inl h
  · exact .inr ⟨_, h, by rw [World.size_alloc]; omega⟩
theorem InR.lt {base v l w} (h : InR base v l w) {k : Nat} (hk : inBlk v = some k) : k < w.heap.size := by
  obtain ⟨p, c, rfl, hc, h⟩ := h
  by_cases h0 : 0 < l.length
  · obtain ⟨g, o, cs, rfl, b, c, d⟩ := h h0
    rw [inBlk, if_neg (by omega)] at hk
    cases hk
    exact lt_of_block c
  · have : l.length = 0 := by omega
    rw [this] at hk
    cases p <;> simp [inBlk] at hk
theorem grown_ch {w w' : World} {o : Obj} {v : Value} (g : (w.alloc o).grownBy w' v.ownBlock) : Ch (fun k => some k = v.ownBlock) w w' := (Ch.alloc _ w o).trans (Ch.grown g (fun _ h => h))
theorem MacX.appN {base g ns hs inp out vN vH vI vO w w3 v3 o} {x : Nat} (h : MacX base g ns hs inp out vN vH vI vO w) (oS : w3.ownsRow base 3 1 v3 (ns.length + 1) (icell ns ++ [.int .i64 x])) (gS : (w.alloc o).grownBy w3 vN.ownBlock) (nS : v3.ownBlock = vN.ownBlock ∨ v3.ownBlock = some (w.alloc o).heap.size) :
    MacX base g (ns ++ [x]) hs inp out v3 vH vI vO (w3.setCell ⟨g, 0, none⟩ v3) ∧ Ch (fun k => k = g ∨ some k = vN.ownBlock) w (w3.setCell ⟨g, 0, none⟩ v3) ∧ NewOr2 w vN v3 := by
  obtain ⟨⟨a, a2⟩, ⟨b, c, d⟩, e, ⟨f1, f2, f3⟩, i1⟩ := h
  have N := NewOr2.of nS
  have C := grown_ch gS
  have hg : some g ≠ vN.ownBlock := fun e2 => own_type b a (by decide) e2.symm
  have a3 : w3.heap[g]? = some (.cells #[vN, vH, vI, vO] 125 (0, 0)) := by rw [C.block g (lt_of_block a) hg]; exact a
  have C2 : Ch (fun k => k = g ∨ some k = vN.ownBlock) w (w3.setCell ⟨g, 0, none⟩ v3) := (C.mono (fun _ h => .inr h)).trans (Ch.set _ _ _ (.inl rfl))
  have row : ∀ {u : Value} {n : Nat} {xs : List Value}, w.ownsRow base 3 1 u n xs → Apart u vN → (w3.setCell ⟨g, 0, none⟩ v3).ownsRow base 3 1 u n xs := fun hu ha => owns_blk hu (fun k hk hk2 => C2.block k hk (fun hp => hp.elim (fun e2 => own_type hu a (by decide) (by rw [← e2]; exact hk2)) (fun e2 => ha k e2.symm hk2)))
  have r3 : (w3.setCell ⟨g, 0, none⟩ v3).ownsRow base 3 1 v3 (ns ++ [x]).length (icell (ns ++ [x])) := by
    rw [List.length_append, icell_app]
    exact owns_blk oS (fun k _ hk2 => set_block (fun e2 => own_type oS a3 (by decide) (by rw [← e2]; exact hk2)))
  have ir : InR base vI inp (w3.setCell ⟨g, 0, none⟩ v3) := InR_blk e (fun k hk hk2 => C2.block k hk (fun hp => hp.elim (fun e2 => by
    obtain ⟨p, c, rfl, hc, h⟩ := e
    by_cases h0 : 0 < inp.length
    · obtain ⟨g', o', cs, rfl, b', c', d'⟩ := h h0
      rw [inBlk, if_neg (by omega)] at hk2
      cases hk2
      subst e2
      rw [a] at c'; cases c'
    · have : inp.length = 0 := by omega
      rw [this] at hk2
      cases p <;> simp [inBlk] at hk2) (fun e2 => (i1 k hk2).1 e2.symm)))
  exact ⟨⟨⟨by rw [blk_set a3]; rfl, a2⟩, ⟨r3, row c (Apart.symm f1), row d (Apart.symm f2)⟩, ir, ⟨(N.apart c (Apart.symm f1)).symm, (N.apart d (Apart.symm f2)).symm, f3⟩, fun k hk => ⟨N.no (i1 k hk).1 (e.lt hk), (i1 k hk).2⟩⟩, C2, N⟩
theorem MacX.appH {base g ns hs inp out vN vH vI vO w w3 v3 o} {x : Int} (h : MacX base g ns hs inp out vN vH vI vO w) (oS : w3.ownsRow base 3 1 v3 (hs.length + 1) (zcell hs ++ [.int .i64 x])) (gS : (w.alloc o).grownBy w3 vH.ownBlock) (nS : v3.ownBlock = vH.ownBlock ∨ v3.ownBlock = some (w.alloc o).heap.size) :
    MacX base g ns (hs ++ [x]) inp out vN v3 vI vO (w3.setCell ⟨g, 1, none⟩ v3) ∧ Ch (fun k => k = g ∨ some k = vH.ownBlock) w (w3.setCell ⟨g, 1, none⟩ v3) ∧ NewOr2 w vH v3 := by
  obtain ⟨⟨a, a2⟩, ⟨b, c, d⟩, e, ⟨f1, f2, f3⟩, i1⟩ := h
  have N := NewOr2.of nS
  have C := grown_ch gS
  have hg : some g ≠ vH.ownBlock := fun e2 => own_type c a (by decide) e2.symm
  have a3 : w3.heap[g]? = some (.cells #[vN, vH, vI, vO] 125 (0, 0)) := by rw [C.block g (lt_of_block a) hg]; exact a
  have C2 : Ch (fun k => k = g ∨ some k = vH.ownBlock) w (w3.setCell ⟨g, 1, none⟩ v3) := (C.mono (fun _ h => .inr h)).trans (Ch.set _ _ _ (.inl rfl))
  have row : ∀ {u : Value} {n : Nat} {xs : List Value}, w.ownsRow base 3 1 u n xs → Apart u vH → (w3.setCell ⟨g, 1, none⟩ v3).ownsRow base 3 1 u n xs := fun hu ha => owns_blk hu (fun k hk hk2 => C2.block k hk (fun hp => hp.elim (fun e2 => own_type hu a (by decide) (by rw [← e2]; exact hk2)) (fun e2 => ha k e2.symm hk2)))
  have r3 : (w3.setCell ⟨g, 1, none⟩ v3).ownsRow base 3 1 v3 (hs ++ [x]).length (zcell (hs ++ [x])) := by
    rw [List.length_append, zcell_app]
    exact owns_blk oS (fun k _ hk2 => set_block (fun e2 => own_type oS a3 (by decide) (by rw [← e2]; exact hk2)))
  have ir : InR base vI inp (w3.setCell ⟨g, 1, none⟩ v3) := InR_blk e (fun k hk hk2 => C2.block k hk (fun hp => hp.elim (fun e2 => by
    obtain ⟨p, c, rfl, hc, h⟩ := e
    by_cases h0 : 0 < inp.length
    · obtain ⟨g', o', cs, rfl, b', c', d'⟩ := h h0
      rw [inBlk, if_neg (by omega)] at hk2
      cases hk2
      subst e2
      rw [a] at c'; cases c'
    · have : inp.length = 0 := by omega
      rw [this] at hk2
      cases p <;> simp [inBlk] at hk2) (fun e2 => (i1 k hk2).2.1 e2.symm)))
  exact ⟨⟨⟨by rw [blk_set a3]; rfl, a2⟩, ⟨row b f1, r3, row d (Apart.symm f3)⟩, ir, ⟨N.apart b f1, f2, (N.apart d (Apart.symm f3)).symm⟩, fun k hk => ⟨(i1 k hk).1, N.no (i1 k hk).2.1 (e.lt hk), (i1 k hk).2.2⟩⟩, C2, N⟩
theorem MacX.appO {base g ns hs inp out vN vH vI vO w w3 v3 o} {x : Int} (h : MacX base g ns hs inp out vN vH vI vO w) (oS : w3.ownsRow base 3 1 v3 (out.length + 1) (zcell out ++ [.int .i64 x])) (gS : (w.alloc o).grownBy w3 vO.ownBlock) (nS : v3.ownBlock = vO.ownBlock ∨ v3.ownBlock = some (w.alloc o).heap.size) :
    MacX base g ns hs inp (out ++ [x]) vN vH vI v3 (w3.setCell ⟨g, 3, none⟩ v3) ∧ Ch (fun k => k = g ∨ some k = vO.ownBlock) w (w3.setCell ⟨g, 3, none⟩ v3) ∧ NewOr2 w vO v3 := by
  obtain ⟨⟨a, a2⟩, ⟨b, c, d⟩, e, ⟨f1, f2, f3⟩, i1⟩ := h
  have N := NewOr2.of nS
  have C := grown_ch gS
  have hg : some g ≠ vO.ownBlock := fun e2 => own_type d a (by decide) e2.symm
  have a3 : w3.heap[g]? = some (.cells #[vN, vH, vI, vO] 125 (0, 0)) := by rw [C.block g (lt_of_block a) hg]; exact a
  have C2 : Ch (fun k => k = g ∨ some k = vO.ownBlock) w (w3.setCell ⟨g, 3, none⟩ v3) := (C.mono (fun _ h => .inr h)).trans (Ch.set _ _ _ (.inl rfl))
  have row : ∀ {u : Value} {n : Nat} {xs : List Value}, w.ownsRow base 3 1 u n xs → Apart u vO → (w3.setCell ⟨g, 3, none⟩ v3).ownsRow base 3 1 u n xs := fun hu ha => owns_blk hu (fun k hk hk2 => C2.block k hk (fun hp => hp.elim (fun e2 => own_type hu a (by decide) (by rw [← e2]; exact hk2)) (fun e2 => ha k e2.symm hk2)))
  have r3 : (w3.setCell ⟨g, 3, none⟩ v3).ownsRow base 3 1 v3 (out ++ [x]).length (zcell (out ++ [x])) := by
    rw [List.length_append, zcell_app]
    exact owns_blk oS (fun k _ hk2 => set_block (fun e2 => own_type oS a3 (by decide) (by rw [← e2]; exact hk2)))
  have ir : InR base vI inp (w3.setCell ⟨g, 3, none⟩ v3) := InR_blk e (fun k hk hk2 => C2.block k hk (fun hp => hp.elim (fun e2 => by
    obtain ⟨p, c, rfl, hc, h⟩ := e
    by_cases h0 : 0 < inp.length
    · obtain ⟨g', o', cs, rfl, b', c', d'⟩ := h h0
      rw [inBlk, if_neg (by omega)] at hk2
      cases hk2
      subst e2
      rw [a] at c'; cases c'
    · have : inp.length = 0 := by omega
      rw [this] at hk2
      cases p <;> simp [inBlk] at hk2) (fun e2 => (i1 k hk2).2.2 e2.symm)))
  exact ⟨⟨⟨by rw [blk_set a3]; rfl, a2⟩, ⟨row b f2, row c f3, r3⟩, ir, ⟨f1, N.apart b f2, N.apart c f3⟩, fun k hk => ⟨(i1 k hk).1, (i1 k hk).2.1, N.no (i1 k hk).2.2 (e.lt hk)⟩⟩, C2, N⟩
theorem Sf.set {g gH k cH n : Nat} {vN x : Value} {w w' : World} (F : Below w.heap.size w w') : Sf g vN (.slice (some ⟨gH, 0, none⟩) n cH) vN (.slice (some ⟨gH, 0, none⟩) n cH) w (w'.setCell ⟨gH, k, none⟩ x) :=
  ⟨(Ch.below _ F).trans (Ch.set _ _ _ (.inr (.inr rfl))), .inl rfl, .inl rfl⟩

set_option maxHeartbeats 1000000 in
theorem setR (base g n : Nat) (v : Int) (ns : List Nat) (hs : List Int) (vN vH vI vO : Value) (m : Mac) (w : World) (h : MacI base g ns hs vN vH vI vO m w) (hl : ns.length ≤ 1000000000) (hb : base ≤ w.heap.size) :
    Calls Tryz.prog 94 #[.pointer (some ⟨g, 0, none⟩), .int .i64 n, .int .i64 v] w fun x w' => x = .returned (.tuple #[]) ∧ ∃ ns' hs' vN' vH', Hid (MacI base g ns' hs' vN' vH' vI vO { m with r := upd m.r n v } w' ∧ ns'.length ≤ ns.length + 1 ∧ Sf g vN vH vN' vH' w w') := by
  have HM := stop h
  obtain ⟨⟨⟨h1, _⟩, ⟨h2, h3, _⟩, _⟩, he, hr⟩ := h
  obtain ⟨pN, cN, rfl⟩ := owns_slice2 h2
  obtain ⟨pH, cH, rfl⟩ := owns_slice2 h3
  have hgw := lt_of_block h1
  have k0 := cell_of h1 0
  have k1 := cell_of h1 1
  simp at k0 k1
  have K0 := stop (And.intro k0 k1)
  have HR := stop hr
  have HE := stop he
  have H2 := stop h2
  have H3 := stop h3
  clear h1 h2 h3 hr he k0 k1
  go_enter Tryz.func94, Tryz.ntmps94
  go_wp2_with fail
  go_loopw [6] (fun i wr => ∃ k : Nat, k ≤ ns.length ∧ i = .int .i64 k ∧ Hid (∀ j (hj : j < ns.length), j < k → ns[j] ≠ n) ∧ Hid (Below w.heap.size w wr)) (fun i _ => ns.length - (intOf i).toNat)
  case atStart => exact ⟨0, by omega, rfl, (fun j _ h => by omega), Below.refl _ _⟩
  case round =>
    obtain ⟨k, hk, rfl, HN, F⟩ := hrel
    rename World => wA
    have k0 := (F.out.cell (p := ⟨g, 0, none⟩) hgw).trans K0.out.1
    have k1 := (F.out.cell (p := ⟨g, 1, none⟩) hgw).trans K0.out.2
    by_cases hlt : k < ns.length
    · have hlt2 : k < hs.length := by have := HE.out; omega
      have O2 := owns_keeps H2.out (Keeps.below (T := fun _ => True) F.out) trivial
      have O3 := owns_keeps H3.out (Keeps.below (T := fun _ => True) F.out) trivial
      obtain ⟨gN, rfl, _, _⟩ := owns_form O2 (by omega)
      obtain ⟨gH, rfl, _, _⟩ := owns_form O3 (by omega)
      have c2 := owns_cell O2 (j := k) (u := .int .i64 ns[k]) (by simp [icell, hlt])
      have c3 := owns_cell O3 (zcell_at hlt2)
      have H3B := stop O3
      clear O2 O3
      by_cases he : ns[k] = n
      · have hd : ((ns[k] : Int) == (n : Int)) = true := by simp; omega
        have HEQ := stop he
        clear he
        have z3 := H3B.out.frozenAt k
        go_wp2_with fail
        refine bodyPost_ret (v := .tuple #[]) (by simp [results, Tryz.results94, go_sem]) rfl ⟨rfl, ns, hs.set k v, _, _, (HM.out.keeps F.out).stored hlt HEQ.out (fun j hj => HN.out j (by omega) hj) v, by omega, by rw [List.length_set]; exact Sf.set F.out⟩
      · have HN2 : Hid (∀ j (hj : j < ns.length), j < k + 1 → ns[j] ≠ n) := fun j hj hjk => by
          by_cases e : j = k
          · subst e; exact he
          · exact HN.out j hj (by omega)
        have hd : ((ns[k] : Int) == (n : Int)) = false := by simp; omega
        clear he
        go_wp2_with fail
        go_roundw
        case rel => exact ⟨k + 1, by omega, by go_num, HN2, F⟩
        case measure => simp [intOf]; omega
    · have hke : k = ns.length := by omega
      clear hke
      go_wp2_with (at_builtin; refine unstop ?_)
      refine stop ?_
      have HMA := stop (HM.out.keeps F.out)
      have hbA : base ≤ wA.heap.size := Nat.le_trans hb F.out.size
      have gB := heap_alloc_last wA (.cells #[.int .i64 n] 3)
      have OB := HMA.out.1.2.1.1.alloc (.cells #[.int .i64 n] 3)
      refine app1A Tryz.underlying22 Tryz.info3 rfl (by decide) (by decide) rfl _ _ rfl rfl OB gB rfl rfl (List.all_eq_true.1 rfl) (by omega) (by simp; omega) ?_
      intro v3 w3 oS gS nS
      obtain ⟨v3p, v3c, rfl⟩ := owns_slice2 oS
      have H4 := stop (MacX.appN HMA.out.1 oS gS nS)
      have a3 : w3.heap[g]? = some (.cells #[.slice pN ns.length cN, .slice pH hs.length cH, vI, vO] 125 (0, 0)) := by rw [(grown_ch gS).block g (lt_of_block HMA.out.1.1.1) (fun e2 => own_type HMA.out.1.2.1.1 HMA.out.1.1.1 (by decide) e2.symm)]; exact HMA.out.1.1.1
      have y0 := cell_of a3 0
      have y1 := cell_of a3 1
      have y0f := frozen_of a3 0
      simp at y0 y1
      have HC := stop (Ch.below (SfP g (.slice pN ns.length cN) (.slice pH hs.length cH)) F.out)
      clear oS gS nS gB OB a3 k0 k1
      go_wp2_with (at_builtin; refine unstop ?_)
      refine stop ?_
      clear y0 y1 y0f
      have hz4 : (w3.setCell ⟨g, 0, none⟩ (.slice v3p (ns.length + 1) v3c)).heap.size = w3.heap.size := by simp [World.setCell]
      generalize hW4 : w3.setCell ⟨g, 0, none⟩ (.slice v3p (ns.length + 1) v3c) = W4 at *
      clear hW4
      have h4z : base ≤ W4.heap.size := Nat.le_trans hbA H4.out.2.1.size
      have gB := heap_alloc_last W4 (.cells #[.int .i64 v] 3)
      have OB := H4.out.1.2.1.2.1.alloc (.cells #[.int .i64 v] 3)
      rw [hz4] at gB
      clear hz4
      refine app1A Tryz.underlying22 Tryz.info3 rfl (by decide) (by decide) rfl _ _ rfl rfl OB gB rfl rfl (List.all_eq_true.1 rfl) (by have := HE.out; omega) (by simp; omega) ?_
      intro v6 w6 oS gS nS
      obtain ⟨v6p, v6c, rfl⟩ := owns_slice2 oS
      have H7 := stop (MacX.appH H4.out.1 oS gS nS)
      have a3 : w6.heap[g]? = some (.cells #[.slice v3p (ns.length + 1) v3c, .slice pH hs.length cH, vI, vO] 125 (0, 0)) := by rw [(grown_ch gS).block g (lt_of_block H4.out.1.1.1) (fun e2 => own_type H4.out.1.2.1.2.1 H4.out.1.1.1 (by decide) e2.symm)]; exact H4.out.1.1.1
      have y1 := cell_of a3 1
      have y1f := frozen_of a3 1
      simp at y1
      clear oS gS nS gB OB a3
      go_wp2_with fail
      go_end0
      refine ⟨rfl, ns ++ [n], hs ++ [v], _, _, ⟨H7.out.1, by rw [List.length_append, List.length_append, HE.out]; rfl, ?_⟩, by simp, ⟨HC.out.trans ((H4.out.2.1.mono (fun k h => h.elim .inl (fun h => .inr (.inl h)))).trans2 (H7.out.2.1.mono (fun k h => h.elim .inl (fun h => .inr (.inr h)))) (fun _ _ h => h)), ?_, ?_⟩⟩
      · funext j
        show upd m.r n v j = _
        rw [look_app HE.out (fun j hj => HN.out j hj (by omega)), HR.out]
      · rcases H4.out.2.2 with h | ⟨k2, h, hk2⟩
        · exact .inl h
        · exact .inr ⟨k2, h, Nat.le_trans F.out.size hk2⟩
      · rcases H7.out.2.2 with h | ⟨k2, h, hk2⟩
        · exact .inl h
        · exact .inr ⟨k2, h, Nat.le_trans (Nat.le_trans F.out.size H4.out.2.1.size) hk2⟩

end Go.Proofs.YtgfhfkgdmidhpaaGreatDoor
