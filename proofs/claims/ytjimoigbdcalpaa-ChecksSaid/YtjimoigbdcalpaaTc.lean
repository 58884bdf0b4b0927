import Derived.Test.YtjimoigbdcalpaaTb
import Derived.Deep.WholeRow
namespace Go.Proofs.Ytjimoigbdcalpaa
open Go.RowKit

theorem Fr.own {b : Nat} {w w1 : World} {o : Obj} (f : Fr b (w.alloc o) w1) (hne : b ≠ w.heap.size) : w1.heap[w.heap.size]? = some o := by
  rw [f.block w.heap.size (by simp) (fun e => hne e.symm)]
  exact heap_alloc_last w o
theorem cell_of {w : World} {k : Nat} {cs : Array Value} {t : TypeId} (h : w.heap[k]? = some (.cells cs t (0, 0))) (o : Nat) : w.cell? ⟨k, o, none⟩ = cs[o]? := by
  simp [World.cell?, h]
theorem frozen_of {w : World} {k : Nat} {cs : Array Value} {t : TypeId} (h : w.heap[k]? = some (.cells cs t (0, 0))) (o : Nat) : w.frozen? ⟨k, o, none⟩ = false := by
  simp [World.frozen?, h]
def regN (s : ByteArray) (i : Nat) (bad : Int) : Nat := numN s (gotI s i bad 114) (mustB s i bad 114)
def regI (s : ByteArray) (i : Nat) (bad : Int) : Nat := numI s (gotI s i bad 114) (mustB s i bad 114)
def regB (s : ByteArray) (i : Nat) (bad : Int) : Int := numB s (gotI s i bad 114) (mustB s i bad 114)
theorem gotI_le {s i bad c} (h : i ≤ s.size) : gotI s i bad c ≤ s.size := by
  unfold gotI; split
  · rename_i h1; simp [onF] at h1; omega
  · exact h
theorem numGo_le {s bad fm} (k i n : Nat) (h : i ≤ s.size) : (numGo s bad fm k i n).2 ≤ s.size := by
  induction k generalizing i n with
  | zero => exact h
  | succ k ih =>
    rw [numGo]; split
    · rename_i h1; simp [digF] at h1; exact ih _ _ (by omega)
    · exact h
theorem numI_le {s i bad} (h : i ≤ s.size) : numI s i bad ≤ s.size := by
  unfold numI; split
  · exact numGo_le _ _ _ h
  · exact h

set_option maxHeartbeats 400000 in
theorem goal_any (b : Nat) (s : ByteArray) (i : Nat) (bad : Int) (w : World) (hp : PenAt w b s i bad) (hs : s.size ≤ 200000) (hi : i ≤ s.size) :
    Calls Try.prog 36 #[.pointer (some ⟨b,0,none⟩)] w fun e w' => e = .returned (.agg #[.int .i64 (numN s i bad), .int .i64 i]) ∧ PenAt w' b s (numI s i bad) (numB s i bad) ∧ Fr b w w' := by
  have h1 := hp.c1
  have hl := hp.lt
  have hne : b ≠ w.heap.size := by omega
  go_enter Try.func36, Try.ntmps36
  go_wp2_with fail
  refine (number_any b s i bad _ (hp.alloc _) hs hi).mono ?_
  rintro e w1 ⟨rfl, hp1, f1⟩
  have hk := f1.own hne
  have k0 := cell_of hk 0
  have k1 := cell_of hk 1
  have kf := frozen_of hk
  simp at k0 k1
  clear hk
  go_wp2_with fail
  refine bodyPost_ret (v := .agg #[.int .i64 (numN s i bad), .int .i64 i]) (by simp [results, Try.results36, go_sem, k0, k1]) rfl ⟨rfl, ?_, ?_⟩
  · exact (hp1.setOther hne _).setOther hne _
  · exact ((((Fr.refl _ _).alloc _).trans f1).setNew (by simp) _).setNew (by simp) _

set_option maxHeartbeats 400000 in
theorem reg_any (b : Nat) (s : ByteArray) (i : Nat) (bad : Int) (w : World) (hp : PenAt w b s i bad) (hs : s.size ≤ 200000) (hi : i ≤ s.size) :
    Calls Try.prog 37 #[.pointer (some ⟨b,0,none⟩)] w fun e w' => e = .returned (.agg #[.int .i64 (regN s i bad), .int .i64 i]) ∧ PenAt w' b s (regI s i bad) (regB s i bad) ∧ Fr b w w' := by
  have h1 := hp.c1
  have hl := hp.lt
  have hne : b ≠ w.heap.size := by omega
  go_enter Try.func37, Try.ntmps37
  go_wp2_with fail
  refine (must_any b s i 114 bad _ (hp.alloc _) hs hi).mono ?_
  rintro e w1 ⟨rfl, hp1, f1⟩
  go_wp2_with fail
  refine (number_any b s _ _ _ hp1 hs (gotI_le hi)).mono ?_
  rintro e w2 ⟨rfl, hp2, f2⟩
  have f3 := f1.trans f2
  have hk := f3.own hne
  have k0 := cell_of hk 0
  have k1 := cell_of hk 1
  have kf := frozen_of hk
  simp at k0 k1
  clear hk
  go_wp2_with fail
  refine bodyPost_ret (v := .agg #[.int .i64 (regN s i bad), .int .i64 i]) (by simp [results, Try.results37, go_sem, k0, k1, regN]) rfl ⟨rfl, ?_, ?_⟩
  · exact (hp2.setOther hne _).setOther hne _
  · exact ((((Fr.refl _ _).alloc _).trans f3).setNew (by simp) _).setNew (by simp) _
end Go.Proofs.Ytjimoigbdcalpaa
