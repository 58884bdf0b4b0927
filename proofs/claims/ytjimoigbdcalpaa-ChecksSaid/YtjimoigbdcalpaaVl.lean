import Derived.Test.YtjimoigbdcalpaaVk
namespace Go.Proofs.Ytjimoigbdcalpaa
open Go.RowKit

/-- An item was put into the set at pb, po, whose row was v: its row is v' now. -/
structure Put (pb po : Nat) (v v' : Value) (w w' : World) : Prop where
  os : w'.os = w.os
  tape : w'.tape = w.tape
  output : w'.output = w.output
  size : w.heap.size ≤ w'.heap.size
  at_ : w'.heap[pb]? = (w.setCell ⟨pb, po, none⟩ v').heap[pb]?
  block : ∀ k, k < w.heap.size → k ≠ pb → some k ≠ v.ownBlock → w'.heap[k]? = w.heap[k]?
  new : NewOr w v v'

theorem found_true {l : List Nat} {x i : Nat} (hx : x ∈ l) (hsrt : l.Pairwise (· < ·)) (hs : Splits l x i) : foundAt l x i = true := by
  obtain ⟨k, hk, he⟩ := List.getElem_of_mem hx
  have hki : ¬ k < i := fun h => by have := hs.1 k h hk; omega
  have hle := hs.2 i (Nat.le_refl _) (by omega)
  have hie : i = k := by
    rcases Nat.lt_or_ge i k with h | h
    · have := List.pairwise_iff_getElem.1 hsrt i k (by omega) hk h; omega
    · omega
  subst hie
  simp [foundAt, hk, he]
/-- A store after rows have grown. -/
theorem put_of {pb po : Nat} {v v' : Value} {w w1 : World} {o : Obj} (g : (w.alloc o).grownBy w1 v.ownBlock) (hpb : pb < w.heap.size) (hpv : v.ownBlock ≠ some pb) (hn : NewOr (w.alloc o) v v') : Put pb po v v' w (w1.setCell ⟨pb, po, none⟩ v') := by
  have hb : w1.heap[pb]? = w.heap[pb]? := (g.block pb (by simp; omega) (fun e => hpv e.symm)).trans (Below.heap_alloc w _ pb hpb)
  refine ⟨g.os, g.tape, g.output, by have := g.size; simp [World.setCell] at this ⊢; omega, ?_, ?_, ?_⟩
  · simp only [World.setCell, Array.getElem?_modify, hb]
  · intro k hk hne hv
    rw [Below.heap_setCell _ _ _ _ hne, g.block k (by simp; omega) hv]
    exact Below.heap_alloc w _ k hk
  · rcases hn with h | ⟨g', h, hle⟩
    · exact .inl h
    · exact .inr ⟨g', h, by simp at hle; omega⟩
theorem found_false {l : List Nat} {x i : Nat} (hx : x ∉ l) : foundAt l x i = false := by
  unfold foundAt
  cases h : l[i]? with
  | none => rfl
  | some y =>
    have := List.mem_of_getElem? h
    simp only [beq_eq_false_iff_ne]
    rintro rfl
    exact hx this

theorem owns_put {pb po base e n : Nat} {v v' : Value} {xs : List Value} {w w1 : World} {o : Obj} (h : w1.ownsRow base e 1 v' n xs) (hn : NewOr (w.alloc o) v v') (hpb : pb < w.heap.size) (hpv : v.ownBlock ≠ some pb) : (w1.setCell ⟨pb, po, none⟩ v').ownsRow base e 1 v' n xs := by
  obtain ⟨h1, h2⟩ := h
  refine ⟨h1, h2.imp id ?_⟩
  rintro ⟨g, cap, cur, rfl, b, c, d⟩
  refine ⟨g, cap, cur, rfl, b, ?_, d⟩
  rw [Below.heap_setCell _ _ _ _ ?_]
  · exact c
  · rintro rfl
    rcases hn with h | ⟨g', h, hle⟩
    · exact hpv (h.symm.trans rfl)
    · simp [Value.ownBlock] at h hle; omega

set_option maxRecDepth 100000 in
set_option maxHeartbeats 2000000 in
theorem addOldR (l : List Nat) (x : Nat) (hx : Hid (x ∈ l)) (hsrt : Hid (l.Pairwise (· < ·))) (pb po base : Nat) (v : Value) (w : World) (hp : w.cell? ⟨pb, po, none⟩ = some v) (h : w.ownsRow base 96 1 v l.length (icell l)) (hl : l.length ≤ 1000000) :
    Calls Try.prog 34 #[.pointer (some ⟨pb, po, none⟩), .int .i64 x] w fun e w' => e = .returned (.bool false) ∧ Hid (w' = w) := by
  go_enter Try.func34, Try.ntmps34
  go_wp2_with fail
  refine (bsearchR l x hsrt base v w h hl).mono ?_
  rintro e w1 ⟨hw1, i, hi, hsp, rfl⟩
  rw [found_true hx.out hsrt.out hsp]
  have HW := stop hw1
  clear hw1
  go_wp2_with fail
  go_ret
  exact ⟨rfl, HW.out⟩

set_option maxRecDepth 100000 in
set_option maxHeartbeats 2000000 in
theorem addNewR (l : List Nat) (x : Nat) (hx : Hid (x ∉ l)) (hsrt : Hid (l.Pairwise (· < ·))) (pb po base : Nat) (v : Value) (w : World) (hp : w.cell? ⟨pb, po, none⟩ = some v) (hf : w.frozen? ⟨pb, po, none⟩ = false) (h : w.ownsRow base 96 1 v l.length (icell l)) (hl : l.length ≤ 1000000) (hb : base ≤ w.heap.size) (hpv : Hid (v.ownBlock ≠ some pb)) :
    Calls Try.prog 34 #[.pointer (some ⟨pb, po, none⟩), .int .i64 x] w fun e w' => e = .returned (.bool true) ∧ ∃ i v', Hid (i ≤ l.length ∧ Splits l x i ∧ w'.ownsRow base 96 1 v' (insL l i x).length (icell (insL l i x)) ∧ Put pb po v v' w w') := by
  go_enter Try.func34, Try.ntmps34
  go_wp2_with fail
  refine (bsearchR l x hsrt base v w h hl).mono ?_
  rintro e w1 ⟨rfl, i, hi, hsp, rfl⟩
  rw [found_false hx.out]
  have hpb : pb < w1.heap.size := World.block_lt_of_cell? _ _ hp
  have HP := stop hpv.out
  have HF := stop hf
  have HI := stop (And.intro hi hsp)
  clear hsp hf hx hsrt hpv
  go_wp2_with fail
  refine (insR l x i hi (base := base) (v := v) (w1.alloc (.cells #[.int .i64 x] 96)) (h.alloc _) hl (by simp; omega) (heap_alloc_new _ _) (fun e => by obtain ⟨_, h2⟩ := World.ownsRow.lt h _ e; omega)).mono ?_
  rintro e w2 ⟨v2, rfl, o2, g2, n2⟩
  obtain ⟨p2, c2, rfl⟩ := owns_slice2 o2
  have hb2 : w2.heap[pb]? = w1.heap[pb]? := (g2.block pb (by simp; omega) (fun e => HP.out e.symm)).trans (Below.heap_alloc _ _ _ hpb)
  have hp2 : w2.cell? ⟨pb, po, none⟩ = some v := by rw [World.cell?_of_block (w := w1) hb2]; exact hp
  have hf2 : w2.frozen? ⟨pb, po, none⟩ = false := by rw [World.frozen?_of_block (w := w1) hb2]; exact HF.out
  have HR := stop (And.intro o2 (And.intro g2 n2))
  clear o2 g2 n2 hb2 hp h
  go_wp2_with fail
  go_ret
  obtain ⟨o2, g2, n2⟩ := HR.out
  refine ⟨rfl, _, _, HI.out.1, HI.out.2, owns_put o2 n2 hpb HP.out, put_of g2 hpb HP.out n2⟩

set_option maxRecDepth 100000 in
set_option maxHeartbeats 2000000 in
theorem addOldB (l : List Nat) (x : Nat) (hx : Hid (x ∈ l)) (hsrt : Hid (l.Pairwise (· < ·))) (pb po base : Nat) (v : Value) (w : World) (hp : w.cell? ⟨pb, po, none⟩ = some v) (h : w.ownsRow base 67 1 v l.length (icell l)) (hl : l.length ≤ 1000000) :
    Calls Try.prog 31 #[.pointer (some ⟨pb, po, none⟩), .int .i64 x] w fun e w' => e = .returned (.bool false) ∧ Hid (w' = w) := by
  go_enter Try.func31, Try.ntmps31
  go_wp2_with fail
  refine (bsearchB l x hsrt base v w h hl).mono ?_
  rintro e w1 ⟨hw1, i, hi, hsp, rfl⟩
  rw [found_true hx.out hsrt.out hsp]
  have HW := stop hw1
  clear hw1
  go_wp2_with fail
  go_ret
  exact ⟨rfl, HW.out⟩

set_option maxRecDepth 100000 in
set_option maxHeartbeats 2000000 in
theorem addNewB (l : List Nat) (x : Nat) (hx : Hid (∀ y ∈ l, y < x)) (hsrt : Hid (l.Pairwise (· < ·))) (pb po base : Nat) (v : Value) (w : World) (hp : w.cell? ⟨pb, po, none⟩ = some v) (hf : w.frozen? ⟨pb, po, none⟩ = false) (h : w.ownsRow base 67 1 v l.length (icell l)) (hl : l.length ≤ 1000000) (hb : base ≤ w.heap.size) (hpv : Hid (v.ownBlock ≠ some pb)) :
    Calls Try.prog 31 #[.pointer (some ⟨pb, po, none⟩), .int .i64 x] w fun e w' => e = .returned (.bool true) ∧ ∃ v', Hid (w'.ownsRow base 67 1 v' (l.length + 1) (icell (l ++ [x])) ∧ Put pb po v v' w w') := by
  go_enter Try.func31, Try.ntmps31
  go_wp2_with fail
  refine (bsearchB l x hsrt base v w h hl).mono ?_
  rintro e w1 ⟨rfl, i, hi, hsp, rfl⟩
  rw [found_false (fun h => Nat.lt_irrefl _ (hx.out x h))]
  have hpb : pb < w1.heap.size := World.block_lt_of_cell? _ _ hp
  have hie : i = l.length := by
    rcases Nat.lt_or_ge i l.length with hlt | hge
    · have h1 := hsp.2 i (Nat.le_refl _) hlt
      have h2 := hx.out l[i] (List.getElem_mem hlt)
      omega
    · omega
  subst hie
  have HP := stop hpv.out
  have HF := stop hf
  have HI := stop (And.intro hi hsp)
  clear hsp hf hx hsrt hpv
  go_wp2_with fail
  refine (insEndB l x (base := base) (v := v) (w1.alloc (.cells #[.int .i64 x] 67)) (h.alloc _) hl (by simp; omega) (heap_alloc_new _ _)).mono ?_
  rintro e w2 ⟨v2, rfl, o2, g2, n2⟩
  obtain ⟨p2, c2, rfl⟩ := owns_slice2 o2
  have hb2 : w2.heap[pb]? = w1.heap[pb]? := (g2.block pb (by simp; omega) (fun e => HP.out e.symm)).trans (Below.heap_alloc _ _ _ hpb)
  have hp2 : w2.cell? ⟨pb, po, none⟩ = some v := by rw [World.cell?_of_block (w := w1) hb2]; exact hp
  have hf2 : w2.frozen? ⟨pb, po, none⟩ = false := by rw [World.frozen?_of_block (w := w1) hb2]; exact HF.out
  have HR := stop (And.intro o2 (And.intro g2 n2))
  clear o2 g2 n2 hb2 hp h
  go_wp2_with fail
  go_ret
  obtain ⟨o2, g2, n2⟩ := HR.out
  refine ⟨rfl, _, owns_put o2 n2 hpb HP.out, put_of g2 hpb HP.out n2⟩

end Go.Proofs.Ytjimoigbdcalpaa
