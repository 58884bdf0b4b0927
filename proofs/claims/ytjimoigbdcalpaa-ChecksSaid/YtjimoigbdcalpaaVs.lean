import Derived.Test.YtjimoigbdcalpaaVr
namespace Go.Proofs.Ytjimoigbdcalpaa
open Go.RowKit

set_option maxHeartbeats 400000 in
theorem num_any (e : Nat) (w : World) : Calls Try.prog 6 #[.int .i64 e] w fun x w' => x = .returned (.int .i64 e) ∧ w' = w := by
  go_enter Try.func6, Try.ntmps6
  go_wp2
  go_ret
  exact ⟨rfl, rfl⟩

set_option maxHeartbeats 1000000 in
theorem law_any (s : ByteArray) (w : World) (hs : s.size ≤ maxLen) : Calls Try.prog 3 #[.string s] w fun x w' => x = .returned (.bool true) ∧ Below w.heap.size w w' := by
  go_enter Try.func3, Try.ntmps3
  go_wp2_with fail
  refine (checkS_any s _).mono ?_
  rintro x w1 ⟨rfl, f1⟩
  have F1 := stop f1
  clear f1
  go_wp2_with fail
  refine (refCheck_any s _ hs).mono ?_
  rintro x w2 ⟨rfl, f2⟩
  have F2 := stop (F1.out.trans (f2.mono F1.out.size))
  clear f2
  go_wp2_with fail
  refine (num_any _ _).mono ?_
  rintro x w3 ⟨rfl, hw3⟩
  have F3 : Hid (Below w.heap.size w w3) := by show Below _ _ _; rw [hw3]; exact F2.out
  clear hw3
  go_wp2_with fail
  go_ret
  exact ⟨by simp, F3.out⟩
end Go.Proofs.Ytjimoigbdcalpaa
