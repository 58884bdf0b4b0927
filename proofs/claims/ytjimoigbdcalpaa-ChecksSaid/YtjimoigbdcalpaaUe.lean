import Derived.Test.YtjimoigbdcalpaaUd
namespace Go.Proofs.Ytjimoigbdcalpaa
open Go.RowKit

/-- A call that panics: for a region that bears one way alone, a second one that never is. -/
theorem never {f : FuncId} {args : Array Value} {w : World} {R : Ending → World → Prop} (h : Calls Try.prog f args w R) (v : Value) : Calls Try.prog f args w fun e w' => R e w' ∨ (e = .returned v ∧ Hid False) :=
  h.mono fun _ _ h => .inl h
theorem Fr.cells {b : Nat} {w w' : World} (f : Fr b w w') {k : Nat} (hk : k < w.heap.size) (hb : k ≠ b) (o : Nat) : w'.cell? ⟨k, o, none⟩ = w.cell? ⟨k, o, none⟩ := f.cell hk hb

set_option maxHeartbeats 400000 in
theorem fr_copy {b g : Nat} {s : ByteArray} {i tn ta ln la : Nat} {w : World} (hp : RS w b g s i) (h59 : onF s i (-1) 59 = true) :
    Calls Try.prog 70 #[.pointer (some ⟨b,0,none⟩), .agg #[.int .i64 tn, .int .i64 ta], .agg #[.int .i64 ln, .int .i64 la]] w
      fun e w' => e = .returned (.iface 162 (.agg #[.int .i64 tn, .int .i64 ta, .int .i64 ln, .int .i64 la])) ∧ RS w' b g s i ∧ Fr b w w' := by
  have hl := hp.lt
  have hgl := hp.glt
  have H59 := stop h59
  clear h59
  go_enter Try.func70, Try.ntmps70
  go_wp2_with fail
  refine (sign_of ((hp.alloc _).alloc _)).mono ?_
  rintro e w1 ⟨x, rfl, hx, hp1, f1⟩
  have hx' : (x == 59) = true := by have := hx.on (c := 59) (by decide); rw [H59.out] at this; exact this
  have g0 : w1.heap[w.heap.size]? = some (.cells #[.int .i64 tn, .int .i64 ta] 98 (0, 0)) := blk_fr f1 (blk_alloc (heap_alloc_last w _) _) (by omega)
  have g1 : w1.heap[w.heap.size + 1]? = some (.cells #[.int .i64 ln, .int .i64 la] 98 (0, 0)) := blk_fr f1 (by simpa using heap_alloc_last (w.alloc _) _) (by omega)
  have q0 := cell_of g0
  have q1 := cell_of g1
  clear hx g0 g1
  go_wp2_with fail
  go_ret
  exact ⟨rfl, hp1, (((Fr.refl _ _).alloc _).alloc _).trans f1⟩

set_option maxHeartbeats 400000 in
theorem fr_no {b g : Nat} {s : ByteArray} {i tn ta ln la : Nat} {w : World} (hp : RS w b g s i) (hs : s.size ≤ 200000) (h59 : onF s i (-1) 59 = false) (h1 : ¬ (opC s i (-1) ≠ 0 ∧ opB s i (-1) < 0)) :
    Calls Try.prog 70 #[.pointer (some ⟨b,0,none⟩), .agg #[.int .i64 tn, .int .i64 ta], .agg #[.int .i64 ln, .int .i64 la]] w
      fun e w' => e = .panicked (brk (brkOp s i)) ∧ Fr b w w' := by
  have H59 := stop h59
  have H1 := stop h1
  clear h59 h1
  go_enter Try.func70, Try.ntmps70
  go_wp2_with fail
  refine (sign_of ((hp.alloc _).alloc _)).mono ?_
  rintro e w1 ⟨x, rfl, hx, hp1, f1⟩
  have hx' : (x == 59) = false := by have := hx.on (c := 59) (by decide); rw [H59.out] at this; exact this
  clear hx
  go_wp2_with fail
  refine (op_no hp1 hs H1.out).mono ?_
  rintro e w2 ⟨rfl, f2⟩
  go_wp2_with fail
  exact ⟨rfl, rfl, ((((Fr.refl _ _).alloc _).alloc _).trans f1).trans f2⟩

set_option maxHeartbeats 1000000 in
theorem fr_op {b g : Nat} {s : ByteArray} {i tn ta ln la : Nat} {w : World} (hp : RS w b g s i) (hs : s.size ≤ 200000) (h59 : onF s i (-1) 59 = false) (h1 : opC s i (-1) ≠ 0) (h2 : opB s i (-1) < 0) (h3 : regB s (opI s i (-1)) (-1) < 0) :
    Calls Try.prog 70 #[.pointer (some ⟨b,0,none⟩), .agg #[.int .i64 tn, .int .i64 ta], .agg #[.int .i64 ln, .int .i64 la]] w
      fun e w' => e = .returned (.iface 166 (.agg #[.int .i64 tn, .int .i64 ta, .int .i64 ln, .int .i64 la, .int .i64 (opNum (opC s i (-1))), .int .i64 (regN s (opI s i (-1)) (-1)), .int .i64 (opI s i (-1))])) ∧ RS w' b g s (regI s (opI s i (-1)) (-1)) ∧ Fr b w w' := by
  have hl := hp.lt
  have hgl := hp.glt
  have H59 := stop h59
  have H1 := stop h1
  have H2 := stop h2
  have H3 := stop h3
  clear h59 h1 h2 h3
  go_enter Try.func70, Try.ntmps70
  go_wp2_with fail
  refine (sign_of ((hp.alloc _).alloc _)).mono ?_
  rintro e w1 ⟨x, rfl, hx, hp1, f1⟩
  have hx' : (x == 59) = false := by have := hx.on (c := 59) (by decide); rw [H59.out] at this; exact this
  clear hx
  go_wp2_with fail
  refine (op_yes hp1 hs H1.out H2.out).mono ?_
  rintro e w2 ⟨rfl, hp2, f2⟩
  have f3 := f1.trans f2
  have g0 : w2.heap[w.heap.size]? = some (.cells #[.int .i64 tn, .int .i64 ta] 98 (0, 0)) := blk_fr f3 (blk_alloc (heap_alloc_last w _) _) (by omega)
  have g1 : w2.heap[w.heap.size + 1]? = some (.cells #[.int .i64 ln, .int .i64 la] 98 (0, 0)) := blk_fr f3 (by simpa using heap_alloc_last (w.alloc _) _) (by omega)
  have a0 := cell_of g0 0
  have a1 := cell_of g0 1
  have b0 := cell_of g1 0
  have b1 := cell_of g1 1
  simp at a0 a1 b0 b1
  have F := (((Fr.refl b w).alloc _).alloc _).trans f3
  have l0 := lt_of_block g0
  have l1 := lt_of_block g1
  have n0 : w.heap.size ≠ b := by omega
  have n1 : w.heap.size + 1 ≠ b := by omega
  clear f1 f2 f3 g0 g1 hx'
  go_wp2_with fail
  go_region_held3 (fun w' => w'.cell? ⟨w.heap.size, 0, none⟩ = some (.int .i64 tn) ∧ w'.cell? ⟨w.heap.size, 1, none⟩ = some (.int .i64 ta) ∧ w'.cell? ⟨w.heap.size + 1, 0, none⟩ = some (.int .i64 ln) ∧ w'.cell? ⟨w.heap.size + 1, 1, none⟩ = some (.int .i64 la)) (simp [*])
    (first | (go_at_call 47; refine (reg_yes (RS.drew hp2) hs H3.out).mono ?_; rintro e w5 ⟨rfl, hp5, f5⟩; have y0 := f5.cells (k := w.heap.size) l0 n0; have y1 := f5.cells (k := w.heap.size + 1) l1 n1))
  go_wp2_with fail
  go_ret
  exact ⟨rfl, hp5, F.drew.trans f5⟩

set_option maxHeartbeats 1000000 in
theorem fr_opbad {b g : Nat} {s : ByteArray} {i tn ta ln la : Nat} {w : World} (hp : RS w b g s i) (hs : s.size ≤ 200000) (h59 : onF s i (-1) 59 = false) (h1 : opC s i (-1) ≠ 0) (h2 : opB s i (-1) < 0) (h3 : 0 ≤ regB s (opI s i (-1)) (-1)) :
    Calls Try.prog 70 #[.pointer (some ⟨b,0,none⟩), .agg #[.int .i64 tn, .int .i64 ta], .agg #[.int .i64 ln, .int .i64 la]] w
      fun e w' => e = .panicked (brk (regB s (opI s i (-1)) (-1))) ∧ Fr b w w' := by
  have hl := hp.lt
  have hgl := hp.glt
  have H59 := stop h59
  have H1 := stop h1
  have H2 := stop h2
  have H3 := stop h3
  clear h59 h1 h2 h3
  go_enter Try.func70, Try.ntmps70
  go_wp2_with fail
  refine (sign_of ((hp.alloc _).alloc _)).mono ?_
  rintro e w1 ⟨x, rfl, hx, hp1, f1⟩
  have hx' : (x == 59) = false := by have := hx.on (c := 59) (by decide); rw [H59.out] at this; exact this
  clear hx
  go_wp2_with fail
  refine (op_yes hp1 hs H1.out H2.out).mono ?_
  rintro e w2 ⟨rfl, hp2, f2⟩
  have f3 := f1.trans f2
  have g0 : w2.heap[w.heap.size]? = some (.cells #[.int .i64 tn, .int .i64 ta] 98 (0, 0)) := blk_fr f3 (blk_alloc (heap_alloc_last w _) _) (by omega)
  have g1 : w2.heap[w.heap.size + 1]? = some (.cells #[.int .i64 ln, .int .i64 la] 98 (0, 0)) := blk_fr f3 (by simpa using heap_alloc_last (w.alloc _) _) (by omega)
  have a0 := cell_of g0 0
  have a1 := cell_of g0 1
  have b0 := cell_of g1 0
  have b1 := cell_of g1 1
  simp at a0 a1 b0 b1
  have F := (((Fr.refl b w).alloc _).alloc _).trans f3
  have l0 := lt_of_block g0
  have l1 := lt_of_block g1
  have n0 : w.heap.size ≠ b := by omega
  have n1 : w.heap.size + 1 ≠ b := by omega
  clear f1 f2 f3 g0 g1 hx'
  go_wp2_with fail
  go_region_held (fun w' => w'.cell? ⟨w.heap.size, 0, none⟩ = some (.int .i64 tn) ∧ w'.cell? ⟨w.heap.size, 1, none⟩ = some (.int .i64 ta) ∧ w'.cell? ⟨w.heap.size + 1, 0, none⟩ = some (.int .i64 ln) ∧ w'.cell? ⟨w.heap.size + 1, 1, none⟩ = some (.int .i64 la)) (first | exact (Hid.out ‹Hid False›).elim | simp [*])
    (first | (go_at_call 47; refine (never (reg_no (RS.drew hp2) hs H3.out) (.agg #[.int .i64 0, .int .i64 0])).mono ?_; rintro e w5 (⟨rfl, f5⟩ | ⟨rfl, hF⟩); exact ⟨rfl, rfl, F.drew.trans f5⟩))
  all_goals exact (Hid.out ‹Hid False›).elim
end Go.Proofs.Ytjimoigbdcalpaa
