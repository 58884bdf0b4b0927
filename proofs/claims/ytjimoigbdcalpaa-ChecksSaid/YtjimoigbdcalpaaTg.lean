import Derived.Test.YtjimoigbdcalpaaTf
namespace Go.Proofs.Ytjimoigbdcalpaa
open Go.RowKit

structure REnd where
  op : Nat
  a : Nat × Nat
  one : Nat × Nat
  two : Nat × Nat
def endCells (t : REnd) : List Value := [.int .u8 t.op, .int .i64 t.a.1, .int .i64 t.a.2, .int .i64 t.one.1, .int .i64 t.one.2, .int .i64 t.two.1, .int .i64 t.two.2]
structure Bra where
  e : REnd
  i : Nat
  bad : Int
def braF (s : ByteArray) (a : Nat × Nat) (i : Nat) (bad : Int) : Bra :=
  let i1 := gotI s i bad 63
  let b1 := mustB s i bad 63
  let i2 := numI s i1 b1
  let b2 := numB s i1 b1
  let i3 := gotI s i2 b2 58
  let b3 := mustB s i2 b2 58
  ⟨⟨63, a, (numN s i1 b1, i1), (numN s i3 b3, i3)⟩, numI s i3 b3, numB s i3 b3⟩

set_option maxRecDepth 100000 in
set_option maxHeartbeats 400000 in
theorem branch_any (b : Nat) (s : ByteArray) (i an aa : Nat) (bad : Int) (w : World) (hp : PenAt w b s i bad) (hs : s.size ≤ 200000) (hi : i ≤ s.size) :
    Calls Try.prog 42 #[.pointer (some ⟨b,0,none⟩), .agg #[.int .i64 an, .int .i64 aa]] w fun e w' => e = .returned (.agg (endCells (braF s (an, aa) i bad).e).toArray) ∧
      PenAt w' b s (braF s (an, aa) i bad).i (braF s (an, aa) i bad).bad ∧ Fr b w w' := by
  have hl := hp.lt
  obtain ⟨i1, hi1⟩ : ∃ x, x = gotI s i bad 63 := ⟨_, rfl⟩
  obtain ⟨b1, hb1⟩ : ∃ x, x = mustB s i bad 63 := ⟨_, rfl⟩
  obtain ⟨i2, hi2⟩ : ∃ x, x = numI s i1 b1 := ⟨_, rfl⟩
  obtain ⟨b2, hb2⟩ : ∃ x, x = numB s i1 b1 := ⟨_, rfl⟩
  obtain ⟨i3, hi3⟩ : ∃ x, x = gotI s i2 b2 58 := ⟨_, rfl⟩
  obtain ⟨b3, hb3⟩ : ∃ x, x = mustB s i2 b2 58 := ⟨_, rfl⟩
  have l1 : i1 ≤ s.size := by rw [hi1]; exact gotI_le hi
  have l2 : i2 ≤ s.size := by rw [hi2]; exact numI_le l1
  have l3 : i3 ≤ s.size := by rw [hi3]; exact gotI_le l2
  have HV : Hid ((braF s (an, aa) i bad).e = ⟨63, (an, aa), (numN s i1 b1, i1), (numN s i3 b3, i3)⟩) := by subst hi3 hb3 hi2 hb2 hi1 hb1; exact rfl
  have HI : Hid ((braF s (an, aa) i bad).i = numI s i3 b3) := by subst hi3 hb3 hi2 hb2 hi1 hb1; exact rfl
  have HB : Hid ((braF s (an, aa) i bad).bad = numB s i3 b3) := by subst hi3 hb3 hi2 hb2 hi1 hb1; exact rfl
  replace hi1 := stop hi1
  replace hb1 := stop hb1
  replace hi2 := stop hi2
  replace hb2 := stop hb2
  replace hi3 := stop hi3
  replace hb3 := stop hb3
  go_enter Try.func42, Try.ntmps42
  go_wp2_with fail
  refine (must_any b s i 63 bad _ (((hp.alloc _).alloc _).alloc _) hs hi).mono ?_
  rintro e w1 ⟨rfl, P, f1⟩
  rw [← hi1.out, ← hb1.out] at P
  have F : Fr b w w1 := ((((Fr.refl _ _).alloc _).alloc _).alloc _).trans f1
  have G1 : w1.heap[w.heap.size + 1]? = some (.cells #[.int .u8 0, .int .i64 0, .int .i64 0, .int .i64 0, .int .i64 0, .int .i64 0, .int .i64 0] 54 (0, 0)) := by
    refine blk_fr f1 ?_ (by omega)
    rw [Below.heap_alloc _ _ _ (by simp)]
    simpa using heap_alloc_last (w.alloc _) _
  have G2 : w1.heap[w.heap.size + 2]? = some (.cells #[.int .u8 63, .int .i64 an, .int .i64 aa, .int .i64 0, .int .i64 0, .int .i64 0, .int .i64 0] 54 (0, 0)) := by
    refine blk_fr f1 ?_ (by omega)
    simpa using heap_alloc_last ((w.alloc _).alloc _) _
  clear hp f1
  go_wp2_with fail
  refine (goal_any b s _ _ _ P hs l1).mono ?_
  rintro e w2 ⟨rfl, P, f2⟩
  rw [← hi2.out, ← hb2.out] at P
  replace G1 := blk_fr f2 G1 (by omega)
  replace G2 := blk_fr f2 G2 (by omega)
  replace F := F.trans f2
  have q1 := cell_of G1
  have z1 := frozen_of G1
  have q2 := cell_of G2
  have z2 := frozen_of G2
  go_wp2_with fail
  replace G1 := blk_setOther (j := w.heap.size + 1 + 1) G1 (by omega) 3 (.int .i64 (numN s i1 b1))
  replace G2 : (World.setCell _ ⟨w.heap.size + 1 + 1, 3, none⟩ (.int .i64 (numN s i1 b1))).heap[w.heap.size + 2]? = some (.cells #[.int .u8 63, .int .i64 an, .int .i64 aa, .int .i64 (numN s i1 b1), .int .i64 0, .int .i64 0, .int .i64 0] 54 (0, 0)) := blk_set G2 3 (.int .i64 (numN s i1 b1))
  replace F := F.setk (w.heap.size + 1 + 1) 3 (.int .i64 (numN s i1 b1)) (by omega)
  replace P := P.setk (w.heap.size + 1 + 1) 3 (.int .i64 (numN s i1 b1)) (by omega)
  replace G1 := blk_setOther (j := w.heap.size + 1 + 1) G1 (by omega) 4 (.int .i64 i1)
  replace G2 : (World.setCell _ ⟨w.heap.size + 1 + 1, 4, none⟩ (.int .i64 i1)).heap[w.heap.size + 2]? = some (.cells #[.int .u8 63, .int .i64 an, .int .i64 aa, .int .i64 (numN s i1 b1), .int .i64 i1, .int .i64 0, .int .i64 0] 54 (0, 0)) := blk_set G2 4 (.int .i64 i1)
  replace F := F.setk (w.heap.size + 1 + 1) 4 (.int .i64 i1) (by omega)
  replace P := P.setk (w.heap.size + 1 + 1) 4 (.int .i64 i1) (by omega)
  clear q1 z1 q2 z2
  refine (must_any b s _ 58 _ _ P hs l2).mono ?_
  rintro e w3 ⟨rfl, P, f3⟩
  rw [← hi3.out, ← hb3.out] at P
  replace G1 := blk_fr f3 G1 (by omega)
  replace G2 := blk_fr f3 G2 (by omega)
  replace F := F.trans f3
  go_wp2_with fail
  refine (goal_any b s _ _ _ P hs l3).mono ?_
  rintro e w4 ⟨rfl, P, f4⟩
  replace G1 := blk_fr f4 G1 (by omega)
  replace G2 := blk_fr f4 G2 (by omega)
  replace F := F.trans f4
  have q1 := cell_of G1
  have z1 := frozen_of G1
  have q2 := cell_of G2
  have z2 := frozen_of G2
  go_wp2_with fail
  replace G1 := blk_setOther (j := w.heap.size + 1 + 1) G1 (by omega) 5 (.int .i64 (numN s i3 b3))
  replace G2 : (World.setCell _ ⟨w.heap.size + 1 + 1, 5, none⟩ (.int .i64 (numN s i3 b3))).heap[w.heap.size + 2]? = some (.cells #[.int .u8 63, .int .i64 an, .int .i64 aa, .int .i64 (numN s i1 b1), .int .i64 i1, .int .i64 (numN s i3 b3), .int .i64 0] 54 (0, 0)) := blk_set G2 5 (.int .i64 (numN s i3 b3))
  replace F := F.setk (w.heap.size + 1 + 1) 5 (.int .i64 (numN s i3 b3)) (by omega)
  replace P := P.setk (w.heap.size + 1 + 1) 5 (.int .i64 (numN s i3 b3)) (by omega)
  replace G1 := blk_setOther (j := w.heap.size + 1 + 1) G1 (by omega) 6 (.int .i64 i3)
  replace G2 : (World.setCell _ ⟨w.heap.size + 1 + 1, 6, none⟩ (.int .i64 i3)).heap[w.heap.size + 2]? = some (.cells #[.int .u8 63, .int .i64 an, .int .i64 aa, .int .i64 (numN s i1 b1), .int .i64 i1, .int .i64 (numN s i3 b3), .int .i64 i3] 54 (0, 0)) := blk_set G2 6 (.int .i64 i3)
  replace F := F.setk (w.heap.size + 1 + 1) 6 (.int .i64 i3) (by omega)
  replace P := P.setk (w.heap.size + 1 + 1) 6 (.int .i64 i3) (by omega)
  refine bodyPost_ret (v := .agg #[.int .u8 63, .int .i64 an, .int .i64 aa, .int .i64 (numN s i1 b1), .int .i64 i1, .int .i64 (numN s i3 b3), .int .i64 i3]) (by simp [results, Try.results42, go_sem, q1]) rfl ⟨?_, ?_, ?_⟩
  · rw [HV.out]; rfl
  · rw [HI.out, HB.out]; exact (((((((P).setk (w.heap.size + 1) 0 _ (by omega)).setk (w.heap.size + 1) 1 _ (by omega)).setk (w.heap.size + 1) 2 _ (by omega)).setk (w.heap.size + 1) 3 _ (by omega)).setk (w.heap.size + 1) 4 _ (by omega)).setk (w.heap.size + 1) 5 _ (by omega)).setk (w.heap.size + 1) 6 _ (by omega)
  · exact (((((((F).setk (w.heap.size + 1) 0 _ (by omega)).setk (w.heap.size + 1) 1 _ (by omega)).setk (w.heap.size + 1) 2 _ (by omega)).setk (w.heap.size + 1) 3 _ (by omega)).setk (w.heap.size + 1) 4 _ (by omega)).setk (w.heap.size + 1) 5 _ (by omega)).setk (w.heap.size + 1) 6 _ (by omega)
end Go.Proofs.Ytjimoigbdcalpaa
