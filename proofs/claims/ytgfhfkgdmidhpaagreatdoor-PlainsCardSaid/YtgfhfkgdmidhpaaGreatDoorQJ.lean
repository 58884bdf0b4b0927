import Derived.Test.YtgfhfkgdmidhpaaGreatDoorQE
import Derived.Test.YtgfhfkgdmidhpaaGreatDoorPK
namespace Go.Proofs.YtgfhfkgdmidhpaaGreatDoor
open Go.RowKit

def rdsF (t : RStep) : List (Nat × Nat) := if t.op = 99 then [t.a] else if t.op = 33 then [t.a] else if t.op = 118 then [] else if t.op = 63 then [] else [t.a, t.b]
theorem rdsF_eq (t : RStep) : rdsF t = regsA t := by
  unfold rdsF regsA
  by_cases h1 : t.op = 118
  · rw [if_neg (by omega), if_neg (by omega), if_pos h1, if_pos h1]
  by_cases h2 : t.op = 99
  · rw [if_pos h2, if_neg h1, if_pos h2]
  rw [if_neg h2, if_neg h1, if_neg h1, if_neg h2]
set_option maxHeartbeats 400000 in
theorem rdMTake (t : RStep) (w : World) : Calls Tryz.prog 304 #[.agg #[.int .i64 t.to.1, .int .i64 t.to.2]] w fun x w' => ∃ v, x = .returned v ∧ w'.ownsRow w.heap.size 132 2 v 0 (pcs []) ∧ Below w.heap.size w w' := by
  go_enter Tryz.func304, Tryz.ntmps304
  go_wp2
  go_ret
  exact ⟨_, rfl, World.ownsRow_nil _ _ _ _, (Below.refl _ _).alloc (Nat.le_refl _) _⟩
set_option maxHeartbeats 400000 in
theorem gvMTake (t : RStep) (w : World) : Calls Tryz.prog 303 #[.agg #[.int .i64 t.to.1, .int .i64 t.to.2]] w fun x w' => x = .returned (.tuple #[.agg #[.int .i64 t.to.1, .int .i64 t.to.2], .bool true]) ∧ Below w.heap.size w w' := by
  go_enter Tryz.func303, Tryz.ntmps303
  go_wp2
  refine bodyPost_ret (v := .tuple #[.agg #[.int .i64 t.to.1, .int .i64 t.to.2], .bool true]) (by simp [results, Tryz.results303, go_sem]) rfl ⟨rfl, ((Below.refl _ _).alloc (Nat.le_refl _) _).alloc (by simp) _⟩
set_option maxHeartbeats 400000 in
theorem rdMCopy (t : RStep) (w : World) : Calls Tryz.prog 286 #[.agg #[.int .i64 t.to.1, .int .i64 t.to.2, .int .i64 t.a.1, .int .i64 t.a.2]] w fun x w' => ∃ v, x = .returned v ∧ w'.ownsRow w.heap.size 132 2 v 1 (pcs [t.a]) ∧ Below w.heap.size w w' := by
  go_enter Tryz.func286, Tryz.ntmps286
  go_wp2
  go_ret
  refine ⟨_, rfl, ?_, ((Below.refl _ _).alloc (Nat.le_refl _) _).alloc (by simp) _⟩
  have ON := owns_new (w.alloc (.cells #[.int .i64 t.to.1, .int .i64 t.to.2, .int .i64 t.a.1, .int .i64 t.a.2] 142)) w.heap.size 132 2 1 #[.int .i64 t.a.1, .int .i64 t.a.2] (by simp) rfl (by decide)
  rw [World.size_alloc] at ON
  exact ON
set_option maxHeartbeats 400000 in
theorem gvMCopy (t : RStep) (w : World) : Calls Tryz.prog 285 #[.agg #[.int .i64 t.to.1, .int .i64 t.to.2, .int .i64 t.a.1, .int .i64 t.a.2]] w fun x w' => x = .returned (.tuple #[.agg #[.int .i64 t.to.1, .int .i64 t.to.2], .bool true]) ∧ Below w.heap.size w w' := by
  go_enter Tryz.func285, Tryz.ntmps285
  go_wp2
  refine bodyPost_ret (v := .tuple #[.agg #[.int .i64 t.to.1, .int .i64 t.to.2], .bool true]) (by simp [results, Tryz.results285, go_sem]) rfl ⟨rfl, ((Below.refl _ _).alloc (Nat.le_refl _) _).alloc (by simp) _⟩
set_option maxHeartbeats 400000 in
theorem rdMLoad (t : RStep) (w : World) : Calls Tryz.prog 296 #[.agg #[.int .i64 t.to.1, .int .i64 t.to.2, .int .i64 t.n]] w fun x w' => ∃ v, x = .returned v ∧ w'.ownsRow w.heap.size 132 2 v 0 (pcs []) ∧ Below w.heap.size w w' := by
  go_enter Tryz.func296, Tryz.ntmps296
  go_wp2
  go_ret
  exact ⟨_, rfl, World.ownsRow_nil _ _ _ _, (Below.refl _ _).alloc (Nat.le_refl _) _⟩
set_option maxHeartbeats 400000 in
theorem gvMLoad (t : RStep) (w : World) : Calls Tryz.prog 295 #[.agg #[.int .i64 t.to.1, .int .i64 t.to.2, .int .i64 t.n]] w fun x w' => x = .returned (.tuple #[.agg #[.int .i64 t.to.1, .int .i64 t.to.2], .bool true]) ∧ Below w.heap.size w w' := by
  go_enter Tryz.func295, Tryz.ntmps295
  go_wp2
  refine bodyPost_ret (v := .tuple #[.agg #[.int .i64 t.to.1, .int .i64 t.to.2], .bool true]) (by simp [results, Tryz.results295, go_sem]) rfl ⟨rfl, ((Below.refl _ _).alloc (Nat.le_refl _) _).alloc (by simp) _⟩
set_option maxHeartbeats 400000 in
theorem rdMPut (t : RStep) (w : World) : Calls Tryz.prog 316 #[.agg #[.int .i64 t.a.1, .int .i64 t.a.2]] w fun x w' => ∃ v, x = .returned v ∧ w'.ownsRow w.heap.size 132 2 v 1 (pcs [t.a]) ∧ Below w.heap.size w w' := by
  go_enter Tryz.func316, Tryz.ntmps316
  go_wp2
  go_ret
  refine ⟨_, rfl, ?_, ((Below.refl _ _).alloc (Nat.le_refl _) _).alloc (by simp) _⟩
  have ON := owns_new (w.alloc (.cells #[.int .i64 t.a.1, .int .i64 t.a.2] 315)) w.heap.size 132 2 1 #[.int .i64 t.a.1, .int .i64 t.a.2] (by simp) rfl (by decide)
  rw [World.size_alloc] at ON
  exact ON
set_option maxHeartbeats 400000 in
theorem gvMPut (t : RStep) (w : World) : Calls Tryz.prog 315 #[.agg #[.int .i64 t.a.1, .int .i64 t.a.2]] w fun x w' => x = .returned (.tuple #[.agg #[.int .i64 0, .int .i64 0], .bool false]) ∧ Below w.heap.size w w' := by
  go_enter Tryz.func315, Tryz.ntmps315
  go_wp2
  refine bodyPost_ret (v := .tuple #[.agg #[.int .i64 0, .int .i64 0], .bool false]) (by simp [results, Tryz.results315, go_sem]) rfl ⟨rfl, ((Below.refl _ _).alloc (Nat.le_refl _) _).alloc (by simp) _⟩
set_option maxHeartbeats 400000 in
theorem rdMCompute (t : RStep) (w : World) : Calls Tryz.prog 325 #[.agg #[.int .i64 t.to.1, .int .i64 t.to.2, .int .i64 t.a.1, .int .i64 t.a.2, .int .i64 (opNum t.op), .int .i64 t.b.1, .int .i64 t.b.2]] w fun x w' => ∃ v, x = .returned v ∧ w'.ownsRow w.heap.size 132 2 v 2 (pcs [t.a, t.b]) ∧ Below w.heap.size w w' := by
  go_enter Tryz.func325, Tryz.ntmps325
  go_wp2
  go_ret
  refine ⟨_, rfl, ?_, ((Below.refl _ _).alloc (Nat.le_refl _) _).alloc (by simp) _⟩
  have ON := owns_new (w.alloc (.cells #[.int .i64 t.to.1, .int .i64 t.to.2, .int .i64 t.a.1, .int .i64 t.a.2, .int .i64 (opNum t.op), .int .i64 t.b.1, .int .i64 t.b.2] 370)) w.heap.size 132 2 2 #[.int .i64 t.a.1, .int .i64 t.a.2, .int .i64 t.b.1, .int .i64 t.b.2] (by simp) rfl (by decide)
  rw [World.size_alloc] at ON
  exact ON
set_option maxHeartbeats 400000 in
theorem gvMCompute (t : RStep) (w : World) : Calls Tryz.prog 324 #[.agg #[.int .i64 t.to.1, .int .i64 t.to.2, .int .i64 t.a.1, .int .i64 t.a.2, .int .i64 (opNum t.op), .int .i64 t.b.1, .int .i64 t.b.2]] w fun x w' => x = .returned (.tuple #[.agg #[.int .i64 t.to.1, .int .i64 t.to.2], .bool true]) ∧ Below w.heap.size w w' := by
  go_enter Tryz.func324, Tryz.ntmps324
  go_wp2
  refine bodyPost_ret (v := .tuple #[.agg #[.int .i64 t.to.1, .int .i64 t.to.2], .bool true]) (by simp [results, Tryz.results324, go_sem]) rfl ⟨rfl, ((Below.refl _ _).alloc (Nat.le_refl _) _).alloc (by simp) _⟩
set_option maxRecDepth 100000 in
/-- What a step reads and gives, by its methods. -/
theorem stepM (t : RStep) : ∃ T x fr fg, stVal t = .iface T x ∧ (∀ w : World, (method 500 T x "Reads").run Tryz.prog w = .ok (fr, x) w) ∧ (∀ args (w : World), (callFunc fr args).run Tryz.prog w = .ok (.enter fr args) w) ∧
    (∀ w : World, Calls Tryz.prog fr #[x] w fun r w' => ∃ v, r = .returned v ∧ w'.ownsRow w.heap.size 132 2 v (rdsF t).length (pcs (rdsF t)) ∧ Below w.heap.size w w') ∧
    (∀ w : World, (method 500 T x "Gives").run Tryz.prog w = .ok (fg, x) w) ∧ (∀ args (w : World), (callFunc fg args).run Tryz.prog w = .ok (.enter fg args) w) ∧
    (∀ w : World, Calls Tryz.prog fg #[x] w fun r w' => r = .returned (.tuple #[if t.op = 33 then .agg #[.int .i64 0, .int .i64 0] else .agg #[.int .i64 t.to.1, .int .i64 t.to.2], .bool (t.op != 33)]) ∧ Below w.heap.size w w') := by
  by_cases h63 : t.op = 63
  · refine ⟨_, _, 304, 303, by rw [stVal, if_pos h63], fun w => by kernel_rfl, enters_of Tryz.func304 (by kernel_rfl) rfl, fun w => (rdMTake t w).mono ?_, fun w => by kernel_rfl, enters_of Tryz.func303 (by kernel_rfl) rfl, fun w => (gvMTake t w).mono ?_⟩
    · rintro r w' ⟨v, rfl, o, f⟩
      refine ⟨v, rfl, ?_, f⟩
      have : rdsF t = [] := by simp [rdsF, h63]
      rw [this]; exact o
    · rintro r w' ⟨rfl, f⟩
      refine ⟨?_, f⟩
      simp [h63]
  by_cases h99 : t.op = 99
  · refine ⟨_, _, 286, 285, by rw [stVal, if_neg h63, if_pos h99], fun w => by kernel_rfl, enters_of Tryz.func286 (by kernel_rfl) rfl, fun w => (rdMCopy t w).mono ?_, fun w => by kernel_rfl, enters_of Tryz.func285 (by kernel_rfl) rfl, fun w => (gvMCopy t w).mono ?_⟩
    · rintro r w' ⟨v, rfl, o, f⟩
      refine ⟨v, rfl, ?_, f⟩
      have : rdsF t = [t.a] := by simp [rdsF, h99]
      rw [this]; exact o
    · rintro r w' ⟨rfl, f⟩
      refine ⟨?_, f⟩
      simp [h99]
  by_cases h118 : t.op = 118
  · refine ⟨_, _, 296, 295, by rw [stVal, if_neg h63, if_neg h99, if_pos h118], fun w => by kernel_rfl, enters_of Tryz.func296 (by kernel_rfl) rfl, fun w => (rdMLoad t w).mono ?_, fun w => by kernel_rfl, enters_of Tryz.func295 (by kernel_rfl) rfl, fun w => (gvMLoad t w).mono ?_⟩
    · rintro r w' ⟨v, rfl, o, f⟩
      refine ⟨v, rfl, ?_, f⟩
      have : rdsF t = [] := by simp [rdsF, h118]
      rw [this]; exact o
    · rintro r w' ⟨rfl, f⟩
      refine ⟨?_, f⟩
      simp [h118]
  by_cases h33 : t.op = 33
  · refine ⟨_, _, 316, 315, by rw [stVal, if_neg h63, if_neg h99, if_neg h118, if_pos h33], fun w => by kernel_rfl, enters_of Tryz.func316 (by kernel_rfl) rfl, fun w => (rdMPut t w).mono ?_, fun w => by kernel_rfl, enters_of Tryz.func315 (by kernel_rfl) rfl, fun w => (gvMPut t w).mono ?_⟩
    · rintro r w' ⟨v, rfl, o, f⟩
      refine ⟨v, rfl, ?_, f⟩
      have : rdsF t = [t.a] := by simp [rdsF, h33]
      rw [this]; exact o
    · rintro r w' ⟨rfl, f⟩
      refine ⟨?_, f⟩
      simp [h33]
  refine ⟨_, _, 325, 324, by rw [stVal, if_neg h63, if_neg h99, if_neg h118, if_neg h33], fun w => by kernel_rfl, enters_of Tryz.func325 (by kernel_rfl) rfl, fun w => (rdMCompute t w).mono ?_, fun w => by kernel_rfl, enters_of Tryz.func324 (by kernel_rfl) rfl, fun w => (gvMCompute t w).mono ?_⟩
  · rintro r w' ⟨v, rfl, o, f⟩
    refine ⟨v, rfl, ?_, f⟩
    have : rdsF t = [t.a, t.b] := by simp [rdsF, h63, h99, h118, h33]
    rw [this]; exact o
  · rintro r w' ⟨rfl, f⟩
    refine ⟨?_, f⟩
    simp [h33]
set_option maxHeartbeats 400000 in
theorem rdMStop (w : World) : Calls Tryz.prog 308 #[.agg #[]] w fun x w' => x = .returned (.slice none 0 0) ∧ Below w.heap.size w w' := by
  go_enter Tryz.func308, Tryz.ntmps308
  go_wp2
  go_ret
  exact ⟨rfl, (Below.refl _ _).alloc (Nat.le_refl _) _⟩
set_option maxHeartbeats 400000 in
theorem rdMJump (a b : Nat) (w : World) : Calls Tryz.prog 312 #[.agg #[.int .i64 a, .int .i64 b]] w fun x w' => x = .returned (.slice none 0 0) ∧ Below w.heap.size w w' := by
  go_enter Tryz.func312, Tryz.ntmps312
  go_wp2
  go_ret
  exact ⟨rfl, (Below.refl _ _).alloc (Nat.le_refl _) _⟩
set_option maxHeartbeats 400000 in
theorem rdMFork (p q a b c d : Nat) (w : World) : Calls Tryz.prog 320 #[.agg #[.int .i64 p, .int .i64 q, .int .i64 a, .int .i64 b, .int .i64 c, .int .i64 d]] w fun x w' => ∃ v, x = .returned v ∧ w'.ownsRow w.heap.size 132 2 v 1 (pcs [(p, q)]) ∧ Below w.heap.size w w' := by
  go_enter Tryz.func320, Tryz.ntmps320
  go_wp2
  go_ret
  refine ⟨_, rfl, ?_, ((Below.refl _ _).alloc (Nat.le_refl _) _).alloc (by simp) _⟩
  have ON := owns_new (w.alloc (.cells #[.int .i64 p, .int .i64 q, .int .i64 a, .int .i64 b, .int .i64 c, .int .i64 d] 353)) w.heap.size 132 2 1 #[.int .i64 p, .int .i64 q] (by simp) rfl (by decide)
  rw [World.size_alloc] at ON
  exact ON
/-- The registers that an end reads. -/
def endRg (e : REnd) : List (Nat × Nat) := if e.op = 63 then [e.a] else []
set_option maxRecDepth 100000 in
theorem endM (e : REnd) (hop : e.op = 46 ∨ e.op = 62 ∨ e.op = 63) : ∃ T x fn, endVal e = .iface T x ∧ (∀ w : World, (method 500 T x "Reads").run Tryz.prog w = .ok (fn, x) w) ∧ (∀ args (w : World), (callFunc fn args).run Tryz.prog w = .ok (.enter fn args) w) ∧
    ∀ w : World, Calls Tryz.prog fn #[x] w fun r w' => ∃ v, r = .returned v ∧ w'.ownsRow w.heap.size 132 2 v (endRg e).length (pcs (endRg e)) ∧ Below w.heap.size w w' := by
  rcases hop with hop | hop | hop
  · obtain ⟨a1, _⟩ := endStop hop
    refine ⟨_, _, 308, a1, fun w => by kernel_rfl, enters_of Tryz.func308 (by kernel_rfl) rfl, fun w => (rdMStop w).mono ?_⟩
    rintro r w' ⟨rfl, f⟩
    have : endRg e = [] := by simp [endRg, hop]
    rw [this]
    exact ⟨_, rfl, World.ownsRow_nil _ _ _ _, f⟩
  · obtain ⟨a1, _⟩ := endJump hop
    refine ⟨_, _, 312, a1, fun w => by kernel_rfl, enters_of Tryz.func312 (by kernel_rfl) rfl, fun w => (rdMJump _ _ w).mono ?_⟩
    rintro r w' ⟨rfl, f⟩
    have : endRg e = [] := by simp [endRg, hop]
    rw [this]
    exact ⟨_, rfl, World.ownsRow_nil _ _ _ _, f⟩
  · obtain ⟨a1, _⟩ := endFork hop
    refine ⟨_, _, 320, a1, fun w => by kernel_rfl, enters_of Tryz.func320 (by kernel_rfl) rfl, fun w => (rdMFork _ _ _ _ _ _ w).mono ?_⟩
    rintro r w' ⟨v, rfl, o, f⟩
    have : endRg e = [e.a] := by simp [endRg, hop]
    rw [this]
    exact ⟨_, rfl, o, f⟩


theorem endRg_eq (e : REnd) : endRg e = regsE e := rfl
/-- append of a row of pairs to a row of the call's own. -/
theorem appRow2 {t e : TypeId} {z : Value} {size bytes : Nat} (ht : Tryz.prog.underlying t = some (.slice e)) (hi : (Tryz.prog.info? e).map (fun i => (i.zero, i.size, i.bytes)) = some (some z, size, bytes)) (hzs : z.cells.size = size) (hsz : 0 < size)
    {ops : Array Oper} {rest : List Oper} {o : Oper} {a : Act} {Q : Exit → Act → World → Prop} {w : World} (hgd : o.guard = none) (s x : Operand)
    (ho : o.op = .call { callee := .builtin .append, args := #[s, x], argTypes := #[t, t] })
    {base B2 : Nat} {v u : Value} {n m : Nat} {xs ys : List Value} (hs : a.eval s = v) (hown : w.ownsRow base e size v n xs) (hx : a.eval x = u) (hsrc : w.ownsRow B2 e size u m ys) (h1 : ∀ y ∈ ys, y.oneCell' = true)
    (h63 : n + m ≤ maxLen) (hbytes : (n + m) * bytes ≤ 140737488355328) (hbase : base ≤ w.heap.size)
    (h : ∀ v' w', w'.ownsRow base e size v' (n + m) (xs ++ ys) → w.grownBy w' v.ownBlock → wpList Tryz.prog ops Q rest (a.put o.dst v') w') : wpList Tryz.prog ops Q (o :: rest) a w := by
  rcases hsrc.2 with ⟨rfl, h0⟩ | ⟨g, c, cur, rfl, _, hg, _⟩
  · refine appNil ht hi hgd s x ho hs hown hx (h v w ?_ ⟨rfl, rfl, rfl, Nat.le_refl _, fun _ _ _ => rfl⟩)
    have hy : ys = [] := List.eq_nil_of_length_eq_zero (by rw [hsrc.1, h0, Nat.zero_mul])
    rw [hy, h0, List.append_nil, Nat.add_zero]
    exact hown
  · obtain ⟨I, Hi, Hz, Hs, Hb⟩ := info_parts hi
    exact wpList_append_own w hgd s x t ho base e I z size bytes ht Hi Hz Hs Hb hzs hsz v n xs hs hown ⟨g, 0, none⟩ m c ys hx hsrc.1 (fun j y hj => hsrc.cells rfl j y hj) h1 h63 hbytes hbase (fun v' w' a b _ => h v' w' a b)
theorem pcs_one (l : List (Nat × Nat)) : ∀ y ∈ pcs l, y.oneCell' = true := fun y hy => by
  obtain ⟨p, _, h⟩ := List.mem_flatMap.1 hy
  simp only [pc, List.mem_cons, List.not_mem_nil, or_false] at h
  rcases h with rfl | rfl <;> rfl
theorem pcs_app (a b : List (Nat × Nat)) : pcs (a ++ b) = pcs a ++ pcs b := List.flatMap_append ..
theorem Tryz.info132 : (Tryz.prog.info? 132).map (fun i => (i.zero, i.size, i.bytes)) = some (some (.agg #[.int .i64 0, .int .i64 0]), 2, 16) := by kernel_rfl

end Go.Proofs.YtgfhfkgdmidhpaaGreatDoor
