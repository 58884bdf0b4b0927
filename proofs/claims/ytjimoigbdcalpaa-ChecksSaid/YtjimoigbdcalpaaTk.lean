import Derived.Test.YtjimoigbdcalpaaTj
namespace Go.Proofs.Ytjimoigbdcalpaa
open Go.RowKit

def goalsF (e : REnd) : List (Nat × Nat) := if e.op = 62 then [e.one] else if e.op = 63 then [e.one, e.two] else []

theorem Below.fresh {w w' : World} (h : Below w.heap.size w w') : Fr w.heap.size w w' := ⟨h.os, h.tape, h.output, h.size, fun k hk _ => h.block k hk⟩
theorem Keeps.below {base : Nat} {T : TypeId → Prop} {w w' : World} (h : Below w.heap.size w w') : Keeps base T w w' := fun g c e _ _ hh => by
  rw [h.block g (lt_of_block hh)]; exact hh

theorem owns_new (w : World) (base : Nat) (e : TypeId) (size n : Nat) (cur : Array Value) (hb : base ≤ w.heap.size) (hs : cur.size = n * size) (hn : n ≤ maxLen) :
    (w.alloc (.cells cur e)).ownsRow base e size (.slice (some ⟨w.heap.size, 0, none⟩) n n) n cur.toList :=
  ⟨by simpa using hs, .inr ⟨w.heap.size, n, cur, rfl, hb, heap_alloc_last w _, Nat.le_refl _, hn, hs, by rw [← hs, ← Array.length_toList, List.take_length]⟩⟩
theorem owns_cell {w : World} {base e size n xs g cap} (h : w.ownsRow base e size (.slice (some ⟨g, 0, none⟩) n cap) n xs) {j : Nat} {u : Value} (hj : xs[j]? = some u) : w.cell? ⟨g, j, none⟩ = some u := by
  have := h.cells (g := g) rfl j u hj
  by_cases h0 : j = 0
  · subst h0; simpa [Addr.add] using this
  · simpa [Addr.add, h0] using this
theorem owns_form {w : World} {base e size p n cap xs} (h : w.ownsRow base e size (.slice p n cap) n xs) (hn : 0 < n) : ∃ g, p = some ⟨g, 0, none⟩ ∧ base ≤ g ∧ g < w.heap.size := by
  rcases h.2 with ⟨h0, h1⟩ | ⟨g, cap, cur, hv, hb, hc, _⟩
  · omega
  · cases hv; exact ⟨g, rfl, hb, lt_of_block hc⟩

set_option maxRecDepth 100000 in
set_option maxHeartbeats 400000 in
theorem goals_any (pc : Option Addr) (mc cc : Nat) (ps : Option Addr) (ms cs : Nat) (e : REnd) (at_ : Nat) (w : World) :
    Calls Try.prog 25 #[.agg #[.slice pc mc cc, .slice ps ms cs, .int .u8 e.op, .int .i64 e.a.1, .int .i64 e.a.2, .int .i64 e.one.1, .int .i64 e.one.2, .int .i64 e.two.1, .int .i64 e.two.2, .int .i64 at_]] w
      fun x w' => ∃ v, x = .returned v ∧ w'.ownsRow w.heap.size 52 2 v (goalsF e).length (pcs (goalsF e)) ∧ Below w.heap.size w w' := by
  by_cases h1 : e.op = 62
  · have HG : Hid (goalsF e = [e.one]) := by simp [Hid, goalsF, h1]
    have h1' : ((e.op : Int) == 62) = true := by simp; omega
    clear h1
    go_enter Try.func25, Try.ntmps25
    go_wp2
    go_ret
    rw [HG.out]
    refine ⟨_, rfl, ?_, ((Below.refl _ _).alloc (Nat.le_refl _) _).alloc (by simp) _⟩
    have ON := owns_new (w.alloc (.cells #[.slice pc mc cc, .slice ps ms cs, .int .u8 e.op, .int .i64 e.a.1, .int .i64 e.a.2, .int .i64 e.one.1, .int .i64 e.one.2, .int .i64 e.two.1, .int .i64 e.two.2, .int .i64 at_] 56)) w.heap.size 52 2 1 #[.int .i64 e.one.1, .int .i64 e.one.2] (by simp) rfl (by decide)
    rw [World.size_alloc] at ON
    exact ON
  · by_cases h2 : e.op = 63
    · have HG : Hid (goalsF e = [e.one, e.two]) := by simp [Hid, goalsF, h2]
      have h1' : ((e.op : Int) == 62) = false := by simp; omega
      have h2' : ((e.op : Int) == 63) = true := by simp; omega
      clear h1 h2
      go_enter Try.func25, Try.ntmps25
      go_wp2
      go_ret
      rw [HG.out]
      refine ⟨_, rfl, ?_, ((Below.refl _ _).alloc (Nat.le_refl _) _).alloc (by simp) _⟩
      have ON := owns_new (w.alloc (.cells #[.slice pc mc cc, .slice ps ms cs, .int .u8 e.op, .int .i64 e.a.1, .int .i64 e.a.2, .int .i64 e.one.1, .int .i64 e.one.2, .int .i64 e.two.1, .int .i64 e.two.2, .int .i64 at_] 56)) w.heap.size 52 2 2 #[.int .i64 e.one.1, .int .i64 e.one.2, .int .i64 e.two.1, .int .i64 e.two.2] (by simp) rfl (by decide)
      rw [World.size_alloc] at ON
      exact ON
    · have HG : Hid (goalsF e = []) := by simp [Hid, goalsF, h1, h2]
      have h1' : ((e.op : Int) == 62) = false := by simp; omega
      have h2' : ((e.op : Int) == 63) = false := by simp; omega
      clear h1 h2
      go_enter Try.func25, Try.ntmps25
      go_wp2
      go_ret
      rw [HG.out]
      exact ⟨_, rfl, World.ownsRow_nil _ _ _ _, (Below.refl _ _).alloc (Nat.le_refl _) _⟩

def hasF (l : List Nat) (n : Nat) : Bool := l.contains n
def icell (l : List Nat) : List Value := l.map fun (n : Nat) => Value.int .i64 n

set_option maxRecDepth 100000 in
set_option maxHeartbeats 400000 in
theorem has_any (l : List Nat) (n : Nat) (base : Nat) (v : Value) (w : World) (h : w.ownsRow base 3 1 v l.length (icell l)) (hl : l.length ≤ 1000000) :
    Calls Try.prog 27 #[v, .int .i64 n] w fun x w' => x = .returned (.bool (hasF l n)) ∧ w' = w := by
  obtain ⟨p, c, rfl⟩ := owns_slice2 h
  go_enter Try.func27, Try.ntmps27
  go_wp2_with fail
  go_loop [5] (fun i => ∃ k : Nat, k ≤ l.length ∧ i = .int .i64 k ∧ ∀ j, j < k → Hid (l[j]? ≠ some n)) (fun i => l.length - (intOf i).toNat)
  case atStart => exact ⟨0, by omega, rfl, fun j h => by omega⟩
  case round =>
    obtain ⟨k, hk, rfl, HN⟩ := hrel
    by_cases hlt : k < l.length
    · obtain ⟨g, rfl, _, _⟩ := owns_form h (by omega)
      have hc := owns_cell h (j := k) (u := .int .i64 l[k]) (by simp [icell, hlt])
      by_cases he : l[k] = n
      · have he' : ((l[k] : Int) == (n : Int)) = true := by simp; omega
        have HR : Hid (hasF l n = true) := by
          show l.contains n = true
          rw [List.contains_iff_mem, ← he]; exact List.getElem_mem hlt
        clear he
        go_wp2_with fail
        go_ret
        exact ⟨by rw [HR.out]; rfl, rfl⟩
      · have he' : ((l[k] : Int) == (n : Int)) = false := by simp; omega
        have HN2 : ∀ j, j < k + 1 → Hid (l[j]? ≠ some n) := fun j hj => by
          rcases Nat.lt_succ_iff_lt_or_eq.1 hj with h | rfl
          · exact HN j h
          · show _ ≠ _; simp [hlt, he]
        clear he
        go_wp2_with fail
        go_round
        case rel => exact ⟨k + 1, by omega, by go_num, HN2⟩
        case measure => simp [intOf]; omega
    · have HR : Hid (hasF l n = false) := by
        show l.contains n = false
        rw [← Bool.not_eq_true, List.contains_iff_mem]
        intro hm
        obtain ⟨j, hj, he⟩ := List.mem_iff_getElem.1 hm
        exact (HN j (by omega)).out (by simp [hj, he])
      go_wp2_with fail
      go_ret
      exact ⟨by rw [HR.out]; rfl, rfl⟩
end Go.Proofs.Ytjimoigbdcalpaa
