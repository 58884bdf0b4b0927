import Derived.Test.YtjimoigbdcalpaaUf
import Derived.Deep.RegionHeldLaw
namespace Go.Proofs.Ytjimoigbdcalpaa
open Go.RowKit

/-- An end as the program has it. -/
def endVal (e : REnd) : Value :=
  if e.op = 46 then .iface 125 (.agg #[])
  else if e.op = 62 then .iface 128 (.agg #[.int .i64 e.one.1, .int .i64 e.one.2])
  else .iface 154 (.agg #[.int .i64 e.a.1, .int .i64 e.a.2, .int .i64 e.one.1, .int .i64 e.one.2, .int .i64 e.two.1, .int .i64 e.two.2])
/-- A branch behind its question mark. -/
def braT (s : ByteArray) (a : Nat × Nat) (i : Nat) : Bra :=
  let i2 := numI s i (-1)
  let b2 := numB s i (-1)
  let i3 := gotI s i2 b2 58
  let b3 := mustB s i2 b2 58
  ⟨⟨63, a, (numN s i (-1), i), (numN s i3 b3, i3)⟩, numI s i3 b3, numB s i3 b3⟩
theorem braF_yes {s a i} (h : onF s i (-1) 63 = true) : braF s a i (-1) = braT s a (i + 1) := by
  have g1 : gotI s i (-1) 63 = i + 1 := by rw [gotI, if_pos h]
  have g2 : mustB s i (-1) 63 = -1 := by rw [mustB, if_pos h]
  simp only [braF, braT, g1, g2]
theorem braF_no {s a i} (h : onF s i (-1) 63 = false) : (braF s a i (-1)).bad = i := by
  have g2 : mustB s i (-1) 63 = i := by rw [mustB1, h]; rfl
  simp only [braF, g2]
  rw [st_numB, st_must, st_numB]
  all_goals first | omega | (rw [st_numB (by omega)]; omega) | (rw [st_must, st_numB] <;> first | omega | (rw [st_numB (by omega)]; omega))

def BraPost (b g : Nat) (s : ByteArray) (w : World) (r : Bra) (e : Ending) (w' : World) : Prop :=
  (e = .returned (endVal r.e) ∧ r.bad = -1 ∧ RS w' b g s r.i ∧ Fr b w w') ∨ (e = .panicked (brk r.bad) ∧ 0 ≤ r.bad ∧ Fr b w w')

set_option maxHeartbeats 1000000 in
theorem fork_any {b g : Nat} {s : ByteArray} {i an aa : Nat} {w : World} (hp : RS w b g s i) (hs : s.size ≤ 200000) :
    Calls Try.prog 57 #[.pointer (some ⟨b,0,none⟩), .agg #[.int .i64 an, .int .i64 aa]] w fun e w' => BraPost b g s w (braT s (an, aa) i) e w' := by
  have hl := hp.lt
  have hgl := hp.glt
  cases hd : digF s i (-1) with
  | false =>
    have HB : Hid ((braT s (an, aa) i).bad = i) := by
      have g1 : numB s i (-1) = i := by rw [numB1, hd]; rfl
      show _ = _
      simp only [braT, g1]
      rw [st_numB, st_must]
      · omega
      · rw [st_must (by omega)]; omega
    have HD := stop hd
    clear hd
    go_enter Try.func57, Try.ntmps57
    go_wp2_with fail
    refine (goal_no (hp.alloc _) HD.out).mono ?_
    rintro e w1 ⟨rfl, f1⟩
    go_wp2_with fail
    exact ⟨rfl, .inr ⟨by rw [HB.out], by rw [HB.out]; omega, ((Fr.refl _ _).alloc _).trans f1⟩⟩
  | true =>
    have HD := stop hd
    have g1 : numB s i (-1) = -1 := by rw [numB1, hd]; rfl
    have HT : braT s (an, aa) i = ⟨⟨63, (an, aa), (numN s i (-1), i), (numN s (gotI s (numI s i (-1)) (-1) 58) (mustB s (numI s i (-1)) (-1) 58), gotI s (numI s i (-1)) (-1) 58)⟩, numI s (gotI s (numI s i (-1)) (-1) 58) (mustB s (numI s i (-1)) (-1) 58), numB s (gotI s (numI s i (-1)) (-1) 58) (mustB s (numI s i (-1)) (-1) 58)⟩ := by simp only [braT, g1]
    clear hd g1
    go_enter Try.func57, Try.ntmps57
    go_wp2_with fail
    refine (goal_yes (hp.alloc _) hs HD.out).mono ?_
    rintro e w1 ⟨rfl, hp1, f1⟩
    have l1 := hp1.lt
    have lg1 := hp1.glt
    have g0 : w1.heap[w.heap.size]? = some (.cells #[.int .i64 an, .int .i64 aa] 98 (0, 0)) := blk_fr f1 (heap_alloc_last w _) (by omega)
    have lw := f1.size
    rw [World.size_alloc] at lw
    have F : Fr b w w1 := ((Fr.refl _ _).alloc _).trans f1
    have HT' := stop HT
    clear HT f1
    generalize numI s i (-1) = i2 at *
    generalize numN s i (-1) = n1 at *
    go_wp2_with fail
    cases h58 : onF s i2 (-1) 58 with
    | false =>
      have HB : Hid ((braT s (an, aa) i).bad = i2) := by
        show _ = _
        have g3 : mustB s i2 (-1) 58 = i2 := by rw [mustB1, h58]; rfl
        rw [HT'.out, g3]
        show numB s (gotI s i2 (-1) 58) (i2 : Int) = i2
        exact st_numB (by omega)
      refine (want_no (c := 58) (hp1.alloc _) (by decide) h58).mono ?_
      rintro e w2 ⟨rfl, f2⟩
      clear h58
      go_wp2_with fail
      exact ⟨rfl, .inr ⟨by rw [HB.out], by rw [HB.out]; omega, (F.alloc _).trans f2⟩⟩
    | true =>
      have e3 : gotI s i2 (-1) 58 = i2 + 1 := by rw [gotI, if_pos h58]
      have e4 : mustB s i2 (-1) 58 = -1 := by rw [mustB, if_pos h58]
      have HT2 := HT'.out
      rw [e3, e4] at HT2
      have HT3 := stop HT2
      refine (want_yes (c := 58) (hp1.alloc _) hs (by decide) h58).mono ?_
      rintro e w2 ⟨rfl, hp2, f2⟩
      have gg := f2.own (by omega)
      replace g0 := blk_fr f2 (blk_alloc g0 _) (by omega)
      replace F := (F.alloc _).trans f2
      have lw2 := f2.size
      rw [World.size_alloc] at lw2
      clear h58 HT' HT2 e3 e4 f2
      have a0 := cell_of g0 0
      have a1 := cell_of g0 1
      have c0 := cell_of gg 0
      have c1 := cell_of gg 1
      simp at a0 a1 c0 c1
      have k0 : w.heap.size < w2.heap.size := by omega
      have k1 : w1.heap.size < w2.heap.size := by omega
      have n0 : w.heap.size ≠ b := by omega
      have n1' : w1.heap.size ≠ b := by omega
      clear g0 gg
      go_wp2_with fail
      cases hd2 : digF s (i2 + 1) (-1) with
      | true =>
        have HD2 := stop hd2
        clear hd2
        go_region_held (fun w' => w'.cell? ⟨w.heap.size, 0, none⟩ = some (.int .i64 an) ∧ w'.cell? ⟨w.heap.size, 1, none⟩ = some (.int .i64 aa) ∧ w'.cell? ⟨w1.heap.size, 0, none⟩ = some (.int .i64 n1) ∧ w'.cell? ⟨w1.heap.size, 1, none⟩ = some (.int .i64 i)) (simp [*])
          (first | (go_at_call 46; refine (goal_yes (RS.drew hp2) hs HD2.out).mono ?_; rintro e w5 ⟨rfl, hp5, f5⟩; have y0 := f5.cells (k := w.heap.size) k0 n0; have y1 := f5.cells (k := w1.heap.size) k1 n1'))
        go_wp2_with fail
        go_ret
        rw [HT3.out]
        refine .inl ⟨rfl, ?_, hp5, F.drew.trans f5⟩
        rw [numB1, HD2.out]; rfl
      | false =>
        have HD2 := stop hd2
        have HB : Hid ((braT s (an, aa) i).bad = ((i2 + 1 : Nat) : Int)) := by
          show _ = _
          rw [HT3.out, numB1, hd2]; rfl
        clear hd2
        have FIN : Hid (∀ w5, Fr b w2.drew w5 → BraPost b g s w (braT s (an, aa) i) (.panicked (brk ((i2 + 1 : Nat) : Int))) w5) := fun w5 f5 =>
          .inr ⟨by rw [HB.out], by rw [HB.out]; omega, F.drew.trans f5⟩
        go_region_held (fun w' => w'.cell? ⟨w.heap.size, 0, none⟩ = some (.int .i64 an) ∧ w'.cell? ⟨w.heap.size, 1, none⟩ = some (.int .i64 aa) ∧ w'.cell? ⟨w1.heap.size, 0, none⟩ = some (.int .i64 n1) ∧ w'.cell? ⟨w1.heap.size, 1, none⟩ = some (.int .i64 i)) (first | exact (Hid.out ‹Hid False›).elim | simp [*])
          (first | (go_at_call 46; refine (never (goal_no (RS.drew hp2) HD2.out) (.agg #[.int .i64 0, .int .i64 0])).mono ?_; rintro e w5 (⟨rfl, f5⟩ | ⟨rfl, hF⟩); exact ⟨rfl, FIN.out _ f5⟩))
        all_goals exact (Hid.out ‹Hid False›).elim
end Go.Proofs.Ytjimoigbdcalpaa
