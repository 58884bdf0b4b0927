import Derived.Test.YtjimoigbdcalpaaVb
import Derived.Test.YtjimoigbdcalpaaUl
import Derived.Recover
import Derived.RegionTactic
import Derived.Laws.Pointers
namespace Go.Proofs.Ytjimoigbdcalpaa
open Go.RowKit

set_option maxRecDepth 100000 in
set_option maxHeartbeats 1000000 in
theorem catch_p (B k0 k1 k2 : Nat) (b0 : B ≤ k0) (b1 : B ≤ k1) (b2 : B ≤ k2) (v0 v1 v2 : Value) (p : Int) (w : World) (h0 : w.cell? ⟨k0, 0, none⟩ = some v0) (h1 : w.cell? ⟨k1, 0, none⟩ = some v1) (h2 : w.cell? ⟨k2, 0, none⟩ = some v2)
    (z0 : w.frozen? ⟨k0, 0, none⟩ = false) (z1 : w.frozen? ⟨k1, 0, none⟩ = false) (z2 : w.frozen? ⟨k2, 0, none⟩ = false) (d1 : k0 ≠ k1) (d2 : k0 ≠ k2) (d3 : k1 ≠ k2) (l0 : k0 < w.heap.size) (l1 : k1 < w.heap.size) (l2 : k2 < w.heap.size) :
    CallsD Try.prog 15 #[.pointer (some ⟨k0, 0, none⟩), .pointer (some ⟨k1, 0, none⟩), .pointer (some ⟨k2, 0, none⟩)] (.panicking ({ v := .iface 59 (.agg #[.int .i64 p]), recovered := false } :: [])) w fun e u' w' =>
      e = .returned (.tuple #[]) ∧ u' = .panicking ({ v := .iface 59 (.agg #[.int .i64 p]), recovered := true } :: []) ∧
      w'.cell? ⟨k0, 0, none⟩ = some (.slice none 0 0) ∧ w'.cell? ⟨k1, 0, none⟩ = some (.int .i64 p) ∧ w'.cell? ⟨k2, 0, none⟩ = some (.bool false) ∧ Below B w w' := by
  refine callsD_of_wpS Try.func15 rfl fun c₀ cs hu => ?_
  apply wpS_seq
  apply wpS_region
  simp [wpOpsS, go_sem, recoverD, hu, Try.ntmps15, Exit.thenS]
  refine wpS_of_wp ?_
  have hta : ∀ w : World, (Instr.typeAssert (.iface 59 (.agg #[.int .i64 p])) 20 59 true).run Try.prog w = .ok (.tuple #[.agg #[.int .i64 p], .bool true]) w := fun w => by kernel_rfl
  go_wp2
  go_region
  all_goals
    go_wp2
    refine ⟨rfl, .panicking [{ v := .iface 59 (.agg #[.int .i64 p]), recovered := true }], rfl, .tuple #[], by simp [results, Try.results15], rfl, rfl, ?_, ?_, ?_, ?_⟩
    · simp [go_sem, h0, l0]
    · simp [go_sem, h1, l1]
    · simp [go_sem, h2, l2]
    · exact (((((Below.refl B w).setCell (p := ⟨k0, 0, none⟩) b0 _).setCell (p := ⟨k1, 0, none⟩) b1 _).setCell (p := ⟨k2, 0, none⟩) b2 _).alloc (by rw [size_set, size_set, size_set]; omega) _).drew

set_option maxRecDepth 100000 in
set_option maxHeartbeats 1000000 in
theorem catch_i (a0 a1 a2 : Value) (w : World) :
    CallsD Try.prog 15 #[a0, a1, a2] .returning w fun e u' w' => e = .returned (.tuple #[]) ∧ u' = .returning ∧ w' = w := by
  refine callsD_of_wpS Try.func15 rfl fun c₀ cs hu => ?_
  apply wpS_seq
  apply wpS_region
  simp [wpOpsS, go_sem, recoverD, hu, Try.ntmps15, Exit.thenS]
  refine wpS_of_wp ?_
  go_wp2
  refine ⟨rfl, .returning, ?_, .tuple #[], by simp [results, Try.results15], rfl, rfl, rfl⟩
  cases c₀
  simp_all

end Go.Proofs.Ytjimoigbdcalpaa
