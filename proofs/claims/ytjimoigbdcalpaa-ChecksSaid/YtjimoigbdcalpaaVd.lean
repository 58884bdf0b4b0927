import Derived.Test.YtjimoigbdcalpaaVc
namespace Go.Proofs.Ytjimoigbdcalpaa
open Go.RowKit

def RdPost (s : ByteArray) (w : World) (e : Ending) (w' : World) : Prop :=
  (∃ v, e = .returned (.tuple #[v, .int .i64 0, .bool true]) ∧ parBad s < 0 ∧ PBs w' w.heap.size (parF s).bs v ∧ Below w.heap.size w w') ∨
  (e = .returned (.tuple #[.slice none 0 0, .int .i64 (parBad s), .bool false]) ∧ 0 ≤ parBad s ∧ Below w.heap.size w w')
theorem Fr.below {b : Nat} {u v : World} (h : Fr b u v) {B : Nat} (hB : B ≤ b) (hs : B ≤ u.heap.size) : Below B u v := ⟨h.os, h.tape, h.output, h.size, fun k hk => h.block k (by omega) (by omega)⟩

set_option maxRecDepth 100000 in
set_option maxHeartbeats 2000000 in
theorem codeRead_any (s : ByteArray) (w : World) (hs : s.size ≤ 200000) :
    Calls Try.prog 9 #[.string s] w fun e w' => RdPost s w e w' := by
  have hmf : ∀ (fn : Fn) (first cap : Array Value) (w : World), (Instr.makeFunc fn first cap).run Try.prog w = .ok (.func fn first cap) w := fun _ _ _ _ => rfl
  go_enter_defers Try.func9, Try.ntmps9
  go_wp2_with fail
  refine (marksOf_any s _ hs).mono ?_
  rintro e w1 ⟨ms, g, cap, rfl, HM, O, f1⟩
  rw [World.size_alloc, World.size_alloc, World.size_alloc] at O f1
  have F : Below w.heap.size w w1 := ((((Below.refl _ _).alloc (Nat.le_refl _) _).alloc (by simp) _).alloc (by simp; omega) _).trans (f1.mono (by omega))
  have hz1 : w.heap.size + 3 ≤ w1.heap.size := by have := f1.size; simp at this; omega
  have g0 : w1.heap[w.heap.size]? = some (.cells #[.slice none 0 0] 30 (0, 0)) := by
    rw [f1.block _ (by omega), Below.heap_alloc _ _ _ (by simp; omega), Below.heap_alloc _ _ _ (by simp)]; exact heap_alloc_last w _
  have g1 : w1.heap[w.heap.size + 1]? = some (.cells #[.int .i64 0] 3 (0, 0)) := by
    rw [f1.block _ (by omega), Below.heap_alloc _ _ _ (by simp)]; simpa using heap_alloc_last (w.alloc _) _
  have g2 : w1.heap[w.heap.size + 2]? = some (.cells #[.bool false] 4 (0, 0)) := by
    rw [f1.block _ (by omega)]; simpa using heap_alloc_last ((w.alloc _).alloc _) _
  have hge := (O.lt g rfl)
  clear f1
  go_wp2_with fail
  have hP : RS (w1.alloc (.cells #[.string s, .slice (some ⟨g, 0, none⟩) ms.length cap, .int .i64 0] 63)) w1.heap.size g s 0 :=
    ⟨ms, 0, cap, HM, ⟨HM.pos, HM.first HM.pos⟩, ⟨⟨63, heap_alloc_last w1 _⟩, (owns_base O (Nat.zero_le _)).alloc _, by omega⟩⟩
  refine (program_any hP hs).mono ?_
  rintro e w2 (⟨v, rfl, hpb, OB, f2⟩ | ⟨rfl, hpb, f2⟩)
  · have HB := stop hpb
    rw [World.size_alloc] at OB
    have F2 : Below w.heap.size w w2 := (F.alloc (by omega) _).trans (f2.below (by omega) (by simp; omega))
    replace g0 := blk_fr f2 (blk_alloc g0 _) (by omega)
    replace g1 := blk_fr f2 (blk_alloc g1 _) (by omega)
    replace g2 := blk_fr f2 (blk_alloc g2 _) (by omega)
    obtain ⟨pv, cv, rfl⟩ := OB.slice
    have q0 := cell_of g0
    have z0 := frozen_of g0
    have q1 := cell_of g1
    have z1 := frozen_of g1
    have q2 := cell_of g2
    have z2 := frozen_of g2
    clear hpb hP HM O f2 F hge
    go_wp2_with fail
    refine leaves_cons (f := 15) (args := #[.pointer (some ⟨w.heap.size, 0, none⟩), .pointer (some ⟨w.heap.size + 1, 0, none⟩), .pointer (some ⟨w.heap.size + 1 + 1, 0, none⟩)]) (by simp) (by simp [go_sem]) ?_
    refine (catch_i _ _ _ _).mono ?_
    rintro e u' w'' ⟨rfl, rfl, rfl⟩
    refine ⟨.tuple #[.slice pv (parF s).bs.length cv, .int .i64 0, .bool true], by simp [results, Try.results9, go_sem, q0, q1, q2], .inl ⟨_, rfl, HB.out, ?_, ?_⟩⟩
    · exact ((((OB.base (show w.heap.size + 3 ≤ w1.heap.size + 1 by omega)).keeps (Keeps.setk T7 _ w.heap.size 0 _ (by omega))).keeps (Keeps.setk T7 _ (w.heap.size + 1) 0 _ (by omega))).keeps (Keeps.setk T7 _ (w.heap.size + 1 + 1) 0 _ (by omega))).base (by omega)
    · exact ((F2.setCell (p := ⟨w.heap.size, 0, none⟩) (Nat.le_refl _) _).setCell (p := ⟨w.heap.size + 1, 0, none⟩) (show w.heap.size ≤ w.heap.size + 1 by omega) _).setCell (p := ⟨w.heap.size + 1 + 1, 0, none⟩) (show w.heap.size ≤ w.heap.size + 1 + 1 by omega) _
  · have HB := stop hpb
    have F2 : Below w.heap.size w w2 := (F.alloc (by omega) _).trans (f2.below (by omega) (by simp; omega))
    replace g0 := blk_fr f2 (blk_alloc g0 _) (by omega)
    replace g1 := blk_fr f2 (blk_alloc g1 _) (by omega)
    replace g2 : w2.heap[w.heap.size + 1 + 1]? = _ := blk_fr f2 (blk_alloc g2 _) (by omega)
    have l0 := lt_of_block g0
    have l1 := lt_of_block g1
    have l2 := lt_of_block g2
    clear hpb hP HM O f2 F hge
    go_wp2_with fail
    refine leaves_cons (f := 15) (args := #[.pointer (some ⟨w.heap.size, 0, none⟩), .pointer (some ⟨w.heap.size + 1, 0, none⟩), .pointer (some ⟨w.heap.size + 1 + 1, 0, none⟩)]) (by simp) (by simp [go_sem]) ?_
    refine (catch_p w.heap.size w.heap.size (w.heap.size + 1) (w.heap.size + 1 + 1) (Nat.le_refl _) (by omega) (by omega) _ _ _ (parBad s) w2 (cell_of g0 0) (cell_of g1 0) (cell_of g2 0) (frozen_of g0 0) (frozen_of g1 0) (frozen_of g2 0) (by omega) (by omega) (by omega) l0 l1 l2).mono ?_
    rintro e u' w'' ⟨rfl, rfl, c0, c1, c2, f3⟩
    refine ⟨.tuple #[.slice none 0 0, .int .i64 (parBad s), .bool false], by simp [results, Try.results9, go_sem, c0, c1, c2], .inr ⟨rfl, HB.out, F2.trans f3⟩⟩
end Go.Proofs.Ytjimoigbdcalpaa
