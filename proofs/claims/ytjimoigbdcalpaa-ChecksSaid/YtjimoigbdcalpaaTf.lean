import Derived.Test.YtjimoigbdcalpaaTe
namespace Go.Proofs.Ytjimoigbdcalpaa
open Go.RowKit

structure RStep where
  op : Nat
  to : Nat × Nat
  a : Nat × Nat
  b : Nat × Nat
  n : Int
def stepCells (t : RStep) : List Value := [.int .u8 t.op, .int .i64 t.to.1, .int .i64 t.to.2, .int .i64 t.a.1, .int .i64 t.a.2, .int .i64 t.b.1, .int .i64 t.b.2, .int .i64 t.n]
structure Giv where
  st : RStep
  i : Nat
  bad : Int
def givF (s : ByteArray) (to : Nat × Nat) (i : Nat) (bad : Int) : Giv :=
  if onF s i bad 63 then ⟨⟨63, to, (0, 0), (0, 0), 0⟩, i + 1, bad⟩
  else if onF s i bad 114 then
    let i1 := regI s i bad
    let b1 := regB s i bad
    let i2 := opI s i1 b1
    let b2 := opB s i1 b1
    if opC s i1 b1 = 0 then ⟨⟨99, to, (regN s i bad, i), (0, 0), 0⟩, i2, b2⟩
    else ⟨⟨opC s i1 b1, to, (regN s i bad, i), (regN s i2 b2, i2), 0⟩, regI s i2 b2, regB s i2 b2⟩
  else if onF s i bad 45 then
    let b1 := if onF s (i + 1) bad 48 then failB (i + 1) bad else bad
    ⟨⟨118, to, (0, 0), (0, 0), -(numN s (i + 1) b1 : Int)⟩, numI s (i + 1) b1, numB s (i + 1) b1⟩
  else ⟨⟨118, to, (0, 0), (0, 0), numN s i bad⟩, numI s i bad, numB s i bad⟩
theorem numGo_n {s bad fm} (k i n : Nat) : (numGo s bad fm k i n).1 < (n + 1) * 10 ^ k := by
  induction k generalizing i n with
  | zero => simp [numGo]
  | succ k ih =>
    rw [numGo]; split
    · rename_i h; simp [digF] at h
      have h1 := ih (i + 1) (10 * n + (byt s i - 48))
      have h2 : (10 * n + (byt s i - 48) + 1) * 10 ^ k ≤ ((n + 1) * 10) * 10 ^ k := Nat.mul_le_mul_right _ (by omega)
      rw [Nat.pow_succ, Nat.mul_comm (10 ^ k) 10, ← Nat.mul_assoc]; omega
    · have : 1 ≤ 10 ^ (k + 1) := Nat.one_le_pow _ _ (by omega)
      have := Nat.le_mul_of_pos_right (n + 1) this
      show n < _; omega
theorem numN_lt (s i bad) : numN s i bad < 10000 := by
  unfold numN; split
  · have := numGo_n (s := s) (bad := bad) (fm := i) 4 i 0; simpa using this
  · omega
theorem opI_le {s i bad} (h : i ≤ s.size) : opI s i bad ≤ s.size := by
  unfold opI
  repeat' split
  all_goals first
    | exact h
    | (rename_i h1; have := (onF_lt h1).2.1; omega)
    | (rename_i h1; have := (onF_lt h1).2.1; exact gotI_le (by omega))

set_option maxRecDepth 100000 in
set_option maxHeartbeats 400000 in
theorem given_any (b : Nat) (s : ByteArray) (i tn ta : Nat) (bad : Int) (w : World) (hp : PenAt w b s i bad) (hs : s.size ≤ 200000) (hi : i ≤ s.size) :
    Calls Try.prog 40 #[.pointer (some ⟨b,0,none⟩), .agg #[.int .i64 tn, .int .i64 ta]] w fun e w' => e = .returned (.agg (stepCells (givF s (tn, ta) i bad).st).toArray) ∧
      PenAt w' b s (givF s (tn, ta) i bad).i (givF s (tn, ta) i bad).bad ∧ Fr b w w' := by
  have hl := hp.lt
  cases h63 : onF s i bad 63 with
  | true =>
    have HV : Hid ((givF s (tn, ta) i bad).st = ⟨63, (tn, ta), (0, 0), (0, 0), 0⟩) := by simp [Hid, givF, h63]
    have HI : Hid ((givF s (tn, ta) i bad).i = i + 1) := by simp [Hid, givF, h63]
    have HB : Hid ((givF s (tn, ta) i bad).bad = bad) := by simp [Hid, givF, h63]
    have H63 := stop h63
    clear h63
    go_enter Try.func40, Try.ntmps40
    go_wp2_with fail
    refine (got_yes (((hp.alloc _).alloc _).alloc _) hs hi H63.out).mono ?_
    rintro e w1 ⟨rfl, P, f1⟩
    have F : Fr b w w1 := ((((Fr.refl _ _).alloc _).alloc _).alloc _).trans f1
    have G1 : w1.heap[w.heap.size + 1]? = some (.cells #[.int .u8 0, .int .i64 0, .int .i64 0, .int .i64 0, .int .i64 0, .int .i64 0, .int .i64 0, .int .i64 0] 116 (0, 0)) := by
      refine blk_fr f1 ?_ (by omega)
      rw [Below.heap_alloc _ _ _ (by simp)]
      simpa using heap_alloc_last (w.alloc _) _
    have G2 : w1.heap[w.heap.size + 2]? = some (.cells #[.int .u8 118, .int .i64 tn, .int .i64 ta, .int .i64 0, .int .i64 0, .int .i64 0, .int .i64 0, .int .i64 0] 116 (0, 0)) := by
      refine blk_fr f1 ?_ (by omega)
      simpa using heap_alloc_last ((w.alloc _).alloc _) _
    clear hp f1
    have q1 := cell_of G1
    have z1 := frozen_of G1
    have q2 := cell_of G2
    have z2 := frozen_of G2
    go_wp2_with fail
    replace G1 := blk_setOther (j := w.heap.size + 1 + 1) G1 (by omega) 0 (.int .u8 63)
    replace G2 : (World.setCell _ ⟨w.heap.size + 1 + 1, 0, none⟩ (.int .u8 63)).heap[w.heap.size + 2]? = some (.cells #[.int .u8 63, .int .i64 tn, .int .i64 ta, .int .i64 0, .int .i64 0, .int .i64 0, .int .i64 0, .int .i64 0] 116 (0, 0)) := blk_set G2 0 (.int .u8 63)
    replace F := F.setk (w.heap.size + 1 + 1) 0 (.int .u8 63) (by omega)
    replace P := P.setk (w.heap.size + 1 + 1) 0 (.int .u8 63) (by omega)
    refine bodyPost_ret (v := .agg #[.int .u8 63, .int .i64 tn, .int .i64 ta, .int .i64 0, .int .i64 0, .int .i64 0, .int .i64 0, .int .i64 0]) (by simp [results, Try.results40, go_sem, q1]) rfl ⟨?_, ?_, ?_⟩
    · rw [HV.out]; rfl
    · rw [HI.out, HB.out]; exact ((((((((P).setk (w.heap.size + 1) 0 _ (by omega)).setk (w.heap.size + 1) 1 _ (by omega)).setk (w.heap.size + 1) 2 _ (by omega)).setk (w.heap.size + 1) 3 _ (by omega)).setk (w.heap.size + 1) 4 _ (by omega)).setk (w.heap.size + 1) 5 _ (by omega)).setk (w.heap.size + 1) 6 _ (by omega)).setk (w.heap.size + 1) 7 _ (by omega)
    · exact ((((((((F).setk (w.heap.size + 1) 0 _ (by omega)).setk (w.heap.size + 1) 1 _ (by omega)).setk (w.heap.size + 1) 2 _ (by omega)).setk (w.heap.size + 1) 3 _ (by omega)).setk (w.heap.size + 1) 4 _ (by omega)).setk (w.heap.size + 1) 5 _ (by omega)).setk (w.heap.size + 1) 6 _ (by omega)).setk (w.heap.size + 1) 7 _ (by omega)
  | false =>
    have H63 := stop h63
    go_enter Try.func40, Try.ntmps40
    go_wp2_with fail
    refine (got_no (((hp.alloc _).alloc _).alloc _) hs hi H63.out).mono ?_
    rintro e w1 ⟨rfl, P, f1⟩
    have F : Fr b w w1 := ((((Fr.refl _ _).alloc _).alloc _).alloc _).trans f1
    have G1 : w1.heap[w.heap.size + 1]? = some (.cells #[.int .u8 0, .int .i64 0, .int .i64 0, .int .i64 0, .int .i64 0, .int .i64 0, .int .i64 0, .int .i64 0] 116 (0, 0)) := by
      refine blk_fr f1 ?_ (by omega)
      rw [Below.heap_alloc _ _ _ (by simp)]
      simpa using heap_alloc_last (w.alloc _) _
    have G2 : w1.heap[w.heap.size + 2]? = some (.cells #[.int .u8 118, .int .i64 tn, .int .i64 ta, .int .i64 0, .int .i64 0, .int .i64 0, .int .i64 0, .int .i64 0] 116 (0, 0)) := by
      refine blk_fr f1 ?_ (by omega)
      simpa using heap_alloc_last ((w.alloc _).alloc _) _
    clear hp f1
    cases h114 : onF s i bad 114 with
    | true =>
      have H114 := stop h114
      have HF : givF s (tn, ta) i bad = if opC s (regI s i bad) (regB s i bad) = 0 then ⟨⟨99, (tn, ta), (regN s i bad, i), (0, 0), 0⟩, opI s (regI s i bad) (regB s i bad), opB s (regI s i bad) (regB s i bad)⟩
        else ⟨⟨opC s (regI s i bad) (regB s i bad), (tn, ta), (regN s i bad, i), (regN s (opI s (regI s i bad) (regB s i bad)) (opB s (regI s i bad) (regB s i bad)), opI s (regI s i bad) (regB s i bad)), 0⟩, regI s (opI s (regI s i bad) (regB s i bad)) (opB s (regI s i bad) (regB s i bad)), regB s (opI s (regI s i bad) (regB s i bad)) (opB s (regI s i bad) (regB s i bad))⟩ := by simp [givF, h63, h114]
      have HF' := stop HF
      clear h63 h114 H63 HF
      go_wp2_with fail
      refine (on_is P H114.out).mono ?_
      rintro e w2 ⟨rfl, P, f2⟩
      replace G1 := blk_fr f2 G1 (by omega)
      replace G2 := blk_fr f2 G2 (by omega)
      replace F := F.trans f2
      have q1 := cell_of G1
      have z1 := frozen_of G1
      have q2 := cell_of G2
      have z2 := frozen_of G2
      go_wp2_with fail
      replace G1 := blk_setOther (j := w.heap.size + 1 + 1) G1 (by omega) 0 (.int .u8 99)
      replace G2 : (World.setCell _ ⟨w.heap.size + 1 + 1, 0, none⟩ (.int .u8 99)).heap[w.heap.size + 2]? = some (.cells #[.int .u8 99, .int .i64 tn, .int .i64 ta, .int .i64 0, .int .i64 0, .int .i64 0, .int .i64 0, .int .i64 0] 116 (0, 0)) := blk_set G2 0 (.int .u8 99)
      replace F := F.setk (w.heap.size + 1 + 1) 0 (.int .u8 99) (by omega)
      replace P := P.setk (w.heap.size + 1 + 1) 0 (.int .u8 99) (by omega)
      clear q1 z1 q2 z2
      refine (reg_any b s _ _ _ P hs hi).mono ?_
      rintro e w3 ⟨rfl, P, f3⟩
      replace G1 := blk_fr f3 G1 (by omega)
      replace G2 := blk_fr f3 G2 (by omega)
      replace F := F.trans f3
      have q1 := cell_of G1
      have z1 := frozen_of G1
      have q2 := cell_of G2
      have z2 := frozen_of G2
      have hi1 := regI_le (bad := bad) hi
      go_wp2_with fail
      replace G1 := blk_setOther (j := w.heap.size + 1 + 1) G1 (by omega) 3 (.int .i64 (regN s i bad))
      replace G2 : (World.setCell _ ⟨w.heap.size + 1 + 1, 3, none⟩ (.int .i64 (regN s i bad))).heap[w.heap.size + 2]? = some (.cells #[.int .u8 99, .int .i64 tn, .int .i64 ta, .int .i64 (regN s i bad), .int .i64 0, .int .i64 0, .int .i64 0, .int .i64 0] 116 (0, 0)) := blk_set G2 3 (.int .i64 (regN s i bad))
      replace F := F.setk (w.heap.size + 1 + 1) 3 (.int .i64 (regN s i bad)) (by omega)
      replace P := P.setk (w.heap.size + 1 + 1) 3 (.int .i64 (regN s i bad)) (by omega)
      replace G1 := blk_setOther (j := w.heap.size + 1 + 1) G1 (by omega) 4 (.int .i64 i)
      replace G2 : (World.setCell _ ⟨w.heap.size + 1 + 1, 4, none⟩ (.int .i64 i)).heap[w.heap.size + 2]? = some (.cells #[.int .u8 99, .int .i64 tn, .int .i64 ta, .int .i64 (regN s i bad), .int .i64 i, .int .i64 0, .int .i64 0, .int .i64 0] 116 (0, 0)) := blk_set G2 4 (.int .i64 i)
      replace F := F.setk (w.heap.size + 1 + 1) 4 (.int .i64 i) (by omega)
      replace P := P.setk (w.heap.size + 1 + 1) 4 (.int .i64 i) (by omega)
      clear q1 z1 q2 z2
      generalize regI s i bad = i1 at *
      generalize regB s i bad = b1 at *
      generalize regN s i bad = n1 at *
      refine (op_any b s _ _ _ P hs hi1).mono ?_
      rintro e w4 ⟨rfl, P, f4⟩
      replace G1 := blk_fr f4 G1 (by omega)
      replace G2 := blk_fr f4 G2 (by omega)
      replace F := F.trans f4
      have q1 := cell_of G1
      have z1 := frozen_of G1
      have q2 := cell_of G2
      have z2 := frozen_of G2
      have hi2 := opI_le (bad := b1) hi1
      by_cases hc : opC s i1 b1 = 0
      · have HF2 := HF'.out
        rw [if_pos hc] at HF2
        have HV : Hid ((givF s (tn, ta) i bad).st = ⟨99, (tn, ta), (n1, i), (0, 0), 0⟩) := by rw [HF2]; exact rfl
        have HI : Hid ((givF s (tn, ta) i bad).i = opI s i1 b1) := by rw [HF2]; exact rfl
        have HB : Hid ((givF s (tn, ta) i bad).bad = opB s i1 b1) := by rw [HF2]; exact rfl
        rw [hc]
        clear hc HF2 HF'
        go_wp2_with fail
        refine bodyPost_ret (v := .agg #[.int .u8 99, .int .i64 tn, .int .i64 ta, .int .i64 n1, .int .i64 i, .int .i64 0, .int .i64 0, .int .i64 0]) (by simp [results, Try.results40, go_sem, q1]) rfl ⟨?_, ?_, ?_⟩
        · rw [HV.out]; rfl
        · rw [HI.out, HB.out]; exact ((((((((P).setk (w.heap.size + 1) 0 _ (by omega)).setk (w.heap.size + 1) 1 _ (by omega)).setk (w.heap.size + 1) 2 _ (by omega)).setk (w.heap.size + 1) 3 _ (by omega)).setk (w.heap.size + 1) 4 _ (by omega)).setk (w.heap.size + 1) 5 _ (by omega)).setk (w.heap.size + 1) 6 _ (by omega)).setk (w.heap.size + 1) 7 _ (by omega)
        · exact ((((((((F).setk (w.heap.size + 1) 0 _ (by omega)).setk (w.heap.size + 1) 1 _ (by omega)).setk (w.heap.size + 1) 2 _ (by omega)).setk (w.heap.size + 1) 3 _ (by omega)).setk (w.heap.size + 1) 4 _ (by omega)).setk (w.heap.size + 1) 5 _ (by omega)).setk (w.heap.size + 1) 6 _ (by omega)).setk (w.heap.size + 1) 7 _ (by omega)
      · have HF2 := HF'.out
        rw [if_neg hc] at HF2
        have HV : Hid ((givF s (tn, ta) i bad).st = ⟨opC s i1 b1, (tn, ta), (n1, i), (regN s (opI s i1 b1) (opB s i1 b1), opI s i1 b1), 0⟩) := by rw [HF2]; exact rfl
        have HI : Hid ((givF s (tn, ta) i bad).i = regI s (opI s i1 b1) (opB s i1 b1)) := by rw [HF2]; exact rfl
        have HB : Hid ((givF s (tn, ta) i bad).bad = regB s (opI s i1 b1) (opB s i1 b1)) := by rw [HF2]; exact rfl
        have hc' : ((opC s i1 b1 : Int) != 0) = true := by simp; omega
        clear hc HF2 HF'
        generalize opI s i1 b1 = i2 at *
        generalize opB s i1 b1 = b2 at *
        generalize opC s i1 b1 = o1 at *
        go_wp2_with fail
        replace G1 := blk_setOther (j := w.heap.size + 1 + 1) G1 (by omega) 0 (.int .u8 o1)
        replace G2 : (World.setCell _ ⟨w.heap.size + 1 + 1, 0, none⟩ (.int .u8 o1)).heap[w.heap.size + 2]? = some (.cells #[.int .u8 o1, .int .i64 tn, .int .i64 ta, .int .i64 n1, .int .i64 i, .int .i64 0, .int .i64 0, .int .i64 0] 116 (0, 0)) := blk_set G2 0 (.int .u8 o1)
        replace F := F.setk (w.heap.size + 1 + 1) 0 (.int .u8 o1) (by omega)
        replace P := P.setk (w.heap.size + 1 + 1) 0 (.int .u8 o1) (by omega)
        clear q1 z1 q2 z2
        refine (reg_any b s _ _ _ P hs hi2).mono ?_
        rintro e w5 ⟨rfl, P, f5⟩
        replace G1 := blk_fr f5 G1 (by omega)
        replace G2 := blk_fr f5 G2 (by omega)
        replace F := F.trans f5
        have q1 := cell_of G1
        have z1 := frozen_of G1
        have q2 := cell_of G2
        have z2 := frozen_of G2
        go_wp2_with fail
        replace G1 := blk_setOther (j := w.heap.size + 1 + 1) G1 (by omega) 5 (.int .i64 (regN s i2 b2))
        replace G2 : (World.setCell _ ⟨w.heap.size + 1 + 1, 5, none⟩ (.int .i64 (regN s i2 b2))).heap[w.heap.size + 2]? = some (.cells #[.int .u8 o1, .int .i64 tn, .int .i64 ta, .int .i64 n1, .int .i64 i, .int .i64 (regN s i2 b2), .int .i64 0, .int .i64 0] 116 (0, 0)) := blk_set G2 5 (.int .i64 (regN s i2 b2))
        replace F := F.setk (w.heap.size + 1 + 1) 5 (.int .i64 (regN s i2 b2)) (by omega)
        replace P := P.setk (w.heap.size + 1 + 1) 5 (.int .i64 (regN s i2 b2)) (by omega)
        replace G1 := blk_setOther (j := w.heap.size + 1 + 1) G1 (by omega) 6 (.int .i64 i2)
        replace G2 : (World.setCell _ ⟨w.heap.size + 1 + 1, 6, none⟩ (.int .i64 i2)).heap[w.heap.size + 2]? = some (.cells #[.int .u8 o1, .int .i64 tn, .int .i64 ta, .int .i64 n1, .int .i64 i, .int .i64 (regN s i2 b2), .int .i64 i2, .int .i64 0] 116 (0, 0)) := blk_set G2 6 (.int .i64 i2)
        replace F := F.setk (w.heap.size + 1 + 1) 6 (.int .i64 i2) (by omega)
        replace P := P.setk (w.heap.size + 1 + 1) 6 (.int .i64 i2) (by omega)
        refine bodyPost_ret (v := .agg #[.int .u8 o1, .int .i64 tn, .int .i64 ta, .int .i64 n1, .int .i64 i, .int .i64 (regN s i2 b2), .int .i64 i2, .int .i64 0]) (by simp [results, Try.results40, go_sem, q1]) rfl ⟨?_, ?_, ?_⟩
        · rw [HV.out]; rfl
        · rw [HI.out, HB.out]; exact ((((((((P).setk (w.heap.size + 1) 0 _ (by omega)).setk (w.heap.size + 1) 1 _ (by omega)).setk (w.heap.size + 1) 2 _ (by omega)).setk (w.heap.size + 1) 3 _ (by omega)).setk (w.heap.size + 1) 4 _ (by omega)).setk (w.heap.size + 1) 5 _ (by omega)).setk (w.heap.size + 1) 6 _ (by omega)).setk (w.heap.size + 1) 7 _ (by omega)
        · exact ((((((((F).setk (w.heap.size + 1) 0 _ (by omega)).setk (w.heap.size + 1) 1 _ (by omega)).setk (w.heap.size + 1) 2 _ (by omega)).setk (w.heap.size + 1) 3 _ (by omega)).setk (w.heap.size + 1) 4 _ (by omega)).setk (w.heap.size + 1) 5 _ (by omega)).setk (w.heap.size + 1) 6 _ (by omega)).setk (w.heap.size + 1) 7 _ (by omega)
    | false =>
      have H114 := stop h114
      cases h45 : onF s i bad 45 with
      | false =>
        have HV : Hid ((givF s (tn, ta) i bad).st = ⟨118, (tn, ta), (0, 0), (0, 0), numN s i bad⟩) := by simp [Hid, givF, h63, h114, h45]
        have HI : Hid ((givF s (tn, ta) i bad).i = numI s i bad) := by simp [Hid, givF, h63, h114, h45]
        have HB : Hid ((givF s (tn, ta) i bad).bad = numB s i bad) := by simp [Hid, givF, h63, h114, h45]
        have H45 := stop h45
        clear h63 h114 h45 H63
        go_wp2_with fail
        refine (on_is P H114.out).mono ?_
        rintro e w2 ⟨rfl, P, f2⟩
        replace G1 := blk_fr f2 G1 (by omega)
        replace G2 := blk_fr f2 G2 (by omega)
        replace F := F.trans f2
        go_wp2_with fail
        refine (got_no P hs hi H45.out).mono ?_
        rintro e w3 ⟨rfl, P, f3⟩
        replace G1 := blk_fr f3 G1 (by omega)
        replace G2 := blk_fr f3 G2 (by omega)
        replace F := F.trans f3
        go_wp2_with fail
        refine (number_any b s _ _ _ P hs hi).mono ?_
        rintro e w4 ⟨rfl, P, f4⟩
        replace G1 := blk_fr f4 G1 (by omega)
        replace G2 := blk_fr f4 G2 (by omega)
        replace F := F.trans f4
        have q1 := cell_of G1
        have z1 := frozen_of G1
        have q2 := cell_of G2
        have z2 := frozen_of G2
        go_wp2_with fail
        replace G1 := blk_setOther (j := w.heap.size + 1 + 1) G1 (by omega) 7 (.int .i64 (numN s i bad))
        replace G2 : (World.setCell _ ⟨w.heap.size + 1 + 1, 7, none⟩ (.int .i64 (numN s i bad))).heap[w.heap.size + 2]? = some (.cells #[.int .u8 118, .int .i64 tn, .int .i64 ta, .int .i64 0, .int .i64 0, .int .i64 0, .int .i64 0, .int .i64 (numN s i bad)] 116 (0, 0)) := blk_set G2 7 (.int .i64 (numN s i bad))
        replace F := F.setk (w.heap.size + 1 + 1) 7 (.int .i64 (numN s i bad)) (by omega)
        replace P := P.setk (w.heap.size + 1 + 1) 7 (.int .i64 (numN s i bad)) (by omega)
        refine bodyPost_ret (v := .agg #[.int .u8 118, .int .i64 tn, .int .i64 ta, .int .i64 0, .int .i64 0, .int .i64 0, .int .i64 0, .int .i64 (numN s i bad)]) (by simp [results, Try.results40, go_sem, q1]) rfl ⟨?_, ?_, ?_⟩
        · rw [HV.out]; rfl
        · rw [HI.out, HB.out]; exact ((((((((P).setk (w.heap.size + 1) 0 _ (by omega)).setk (w.heap.size + 1) 1 _ (by omega)).setk (w.heap.size + 1) 2 _ (by omega)).setk (w.heap.size + 1) 3 _ (by omega)).setk (w.heap.size + 1) 4 _ (by omega)).setk (w.heap.size + 1) 5 _ (by omega)).setk (w.heap.size + 1) 6 _ (by omega)).setk (w.heap.size + 1) 7 _ (by omega)
        · exact ((((((((F).setk (w.heap.size + 1) 0 _ (by omega)).setk (w.heap.size + 1) 1 _ (by omega)).setk (w.heap.size + 1) 2 _ (by omega)).setk (w.heap.size + 1) 3 _ (by omega)).setk (w.heap.size + 1) 4 _ (by omega)).setk (w.heap.size + 1) 5 _ (by omega)).setk (w.heap.size + 1) 6 _ (by omega)).setk (w.heap.size + 1) 7 _ (by omega)
      | true =>
        have hlt := (onF_lt h45).2.1
        obtain ⟨b1, hb1⟩ : ∃ b1, b1 = if onF s (i + 1) bad 48 then failB (i + 1) bad else bad := ⟨_, rfl⟩
        have HV : Hid ((givF s (tn, ta) i bad).st = ⟨118, (tn, ta), (0, 0), (0, 0), -(numN s (i + 1) b1 : Int)⟩) := by simp [Hid, givF, h63, h114, h45, hb1]
        have HI : Hid ((givF s (tn, ta) i bad).i = numI s (i + 1) b1) := by simp [Hid, givF, h63, h114, h45, hb1]
        have HB : Hid ((givF s (tn, ta) i bad).bad = numB s (i + 1) b1) := by simp [Hid, givF, h63, h114, h45, hb1]
        have H45 := stop h45
        have hb1' := stop hb1
        clear h63 h114 h45 H63 hb1
        go_wp2_with fail
        refine (on_is P H114.out).mono ?_
        rintro e w2 ⟨rfl, P, f2⟩
        replace G1 := blk_fr f2 G1 (by omega)
        replace G2 := blk_fr f2 G2 (by omega)
        replace F := F.trans f2
        go_wp2_with fail
        refine (got_yes P hs hi H45.out).mono ?_
        rintro e w3 ⟨rfl, P, f3⟩
        replace G1 := blk_fr f3 G1 (by omega)
        replace G2 := blk_fr f3 G2 (by omega)
        replace F := F.trans f3
        have nl := numN_lt s (i + 1) b1
        have nl1 : (0 : Int) ≤ (numN s (i + 1) b1 : Int) := by omega
        have nl2 : (numN s (i + 1) b1 : Int) < 10000 := by omega
        cases h48 : onF s (i + 1) bad 48 with
        | true =>
          have H48 := stop h48
          have HB1 := hb1'.out
          rw [if_pos h48] at HB1
          have HB1' := stop HB1
          clear h48 HB1 hb1' nl
          go_wp2_with fail
          refine (on_is P H48.out).mono ?_
          rintro e w4 ⟨rfl, P, f4⟩
          replace G1 := blk_fr f4 G1 (by omega)
          replace G2 := blk_fr f4 G2 (by omega)
          replace F := F.trans f4
          go_wp2_with fail
          refine (fail_any b s _ _ _ P).mono ?_
          rintro e w5 ⟨rfl, P, f5⟩
          rw [← HB1'.out] at P
          replace G1 := blk_fr f5 G1 (by omega)
          replace G2 := blk_fr f5 G2 (by omega)
          replace F := F.trans f5
          go_wp2_with fail
          refine (number_any b s _ _ _ P hs (by omega)).mono ?_
          rintro e w6 ⟨rfl, P, f6⟩
          replace G1 := blk_fr f6 G1 (by omega)
          replace G2 := blk_fr f6 G2 (by omega)
          replace F := F.trans f6
          have q1 := cell_of G1
          have z1 := frozen_of G1
          have q2 := cell_of G2
          have z2 := frozen_of G2
          go_wp2_with fail
          replace G1 := blk_setOther (j := w.heap.size + 1 + 1) G1 (by omega) 7 (.int .i64 (numN s (i + 1) b1))
          replace G2 : (World.setCell _ ⟨w.heap.size + 1 + 1, 7, none⟩ (.int .i64 (numN s (i + 1) b1))).heap[w.heap.size + 2]? = some (.cells #[.int .u8 118, .int .i64 tn, .int .i64 ta, .int .i64 0, .int .i64 0, .int .i64 0, .int .i64 0, .int .i64 (numN s (i + 1) b1)] 116 (0, 0)) := blk_set G2 7 (.int .i64 (numN s (i + 1) b1))
          replace F := F.setk (w.heap.size + 1 + 1) 7 (.int .i64 (numN s (i + 1) b1)) (by omega)
          replace P := P.setk (w.heap.size + 1 + 1) 7 (.int .i64 (numN s (i + 1) b1)) (by omega)
          replace G1 := blk_setOther (j := w.heap.size + 1 + 1) G1 (by omega) 7 (.int .i64 (-(numN s (i + 1) b1 : Int)))
          replace G2 : (World.setCell _ ⟨w.heap.size + 1 + 1, 7, none⟩ (.int .i64 (-(numN s (i + 1) b1 : Int)))).heap[w.heap.size + 2]? = some (.cells #[.int .u8 118, .int .i64 tn, .int .i64 ta, .int .i64 0, .int .i64 0, .int .i64 0, .int .i64 0, .int .i64 (-(numN s (i + 1) b1 : Int))] 116 (0, 0)) := blk_set G2 7 (.int .i64 (-(numN s (i + 1) b1 : Int)))
          replace F := F.setk (w.heap.size + 1 + 1) 7 (.int .i64 (-(numN s (i + 1) b1 : Int))) (by omega)
          replace P := P.setk (w.heap.size + 1 + 1) 7 (.int .i64 (-(numN s (i + 1) b1 : Int))) (by omega)
          refine bodyPost_ret (v := .agg #[.int .u8 118, .int .i64 tn, .int .i64 ta, .int .i64 0, .int .i64 0, .int .i64 0, .int .i64 0, .int .i64 (-(numN s (i + 1) b1 : Int))]) (by simp [results, Try.results40, go_sem, q1]) rfl ⟨?_, ?_, ?_⟩
          · rw [HV.out]; rfl
          · rw [HI.out, HB.out]; exact ((((((((P).setk (w.heap.size + 1) 0 _ (by omega)).setk (w.heap.size + 1) 1 _ (by omega)).setk (w.heap.size + 1) 2 _ (by omega)).setk (w.heap.size + 1) 3 _ (by omega)).setk (w.heap.size + 1) 4 _ (by omega)).setk (w.heap.size + 1) 5 _ (by omega)).setk (w.heap.size + 1) 6 _ (by omega)).setk (w.heap.size + 1) 7 _ (by omega)
          · exact ((((((((F).setk (w.heap.size + 1) 0 _ (by omega)).setk (w.heap.size + 1) 1 _ (by omega)).setk (w.heap.size + 1) 2 _ (by omega)).setk (w.heap.size + 1) 3 _ (by omega)).setk (w.heap.size + 1) 4 _ (by omega)).setk (w.heap.size + 1) 5 _ (by omega)).setk (w.heap.size + 1) 6 _ (by omega)).setk (w.heap.size + 1) 7 _ (by omega)
        | false =>
          have H48 := stop h48
          have HB1 := hb1'.out
          rw [if_neg (by simp [h48])] at HB1
          subst HB1
          clear h48 hb1' nl
          go_wp2_with fail
          refine (on_is P H48.out).mono ?_
          rintro e w4 ⟨rfl, P, f4⟩
          replace G1 := blk_fr f4 G1 (by omega)
          replace G2 := blk_fr f4 G2 (by omega)
          replace F := F.trans f4
          go_wp2_with fail
          refine (number_any b s _ _ _ P hs (by omega)).mono ?_
          rintro e w6 ⟨rfl, P, f6⟩
          replace G1 := blk_fr f6 G1 (by omega)
          replace G2 := blk_fr f6 G2 (by omega)
          replace F := F.trans f6
          have q1 := cell_of G1
          have z1 := frozen_of G1
          have q2 := cell_of G2
          have z2 := frozen_of G2
          go_wp2_with fail
          replace G1 := blk_setOther (j := w.heap.size + 1 + 1) G1 (by omega) 7 (.int .i64 (numN s (i + 1) b1))
          replace G2 : (World.setCell _ ⟨w.heap.size + 1 + 1, 7, none⟩ (.int .i64 (numN s (i + 1) b1))).heap[w.heap.size + 2]? = some (.cells #[.int .u8 118, .int .i64 tn, .int .i64 ta, .int .i64 0, .int .i64 0, .int .i64 0, .int .i64 0, .int .i64 (numN s (i + 1) b1)] 116 (0, 0)) := blk_set G2 7 (.int .i64 (numN s (i + 1) b1))
          replace F := F.setk (w.heap.size + 1 + 1) 7 (.int .i64 (numN s (i + 1) b1)) (by omega)
          replace P := P.setk (w.heap.size + 1 + 1) 7 (.int .i64 (numN s (i + 1) b1)) (by omega)
          replace G1 := blk_setOther (j := w.heap.size + 1 + 1) G1 (by omega) 7 (.int .i64 (-(numN s (i + 1) b1 : Int)))
          replace G2 : (World.setCell _ ⟨w.heap.size + 1 + 1, 7, none⟩ (.int .i64 (-(numN s (i + 1) b1 : Int)))).heap[w.heap.size + 2]? = some (.cells #[.int .u8 118, .int .i64 tn, .int .i64 ta, .int .i64 0, .int .i64 0, .int .i64 0, .int .i64 0, .int .i64 (-(numN s (i + 1) b1 : Int))] 116 (0, 0)) := blk_set G2 7 (.int .i64 (-(numN s (i + 1) b1 : Int)))
          replace F := F.setk (w.heap.size + 1 + 1) 7 (.int .i64 (-(numN s (i + 1) b1 : Int))) (by omega)
          replace P := P.setk (w.heap.size + 1 + 1) 7 (.int .i64 (-(numN s (i + 1) b1 : Int))) (by omega)
          refine bodyPost_ret (v := .agg #[.int .u8 118, .int .i64 tn, .int .i64 ta, .int .i64 0, .int .i64 0, .int .i64 0, .int .i64 0, .int .i64 (-(numN s (i + 1) b1 : Int))]) (by simp [results, Try.results40, go_sem, q1]) rfl ⟨?_, ?_, ?_⟩
          · rw [HV.out]; rfl
          · rw [HI.out, HB.out]; exact ((((((((P).setk (w.heap.size + 1) 0 _ (by omega)).setk (w.heap.size + 1) 1 _ (by omega)).setk (w.heap.size + 1) 2 _ (by omega)).setk (w.heap.size + 1) 3 _ (by omega)).setk (w.heap.size + 1) 4 _ (by omega)).setk (w.heap.size + 1) 5 _ (by omega)).setk (w.heap.size + 1) 6 _ (by omega)).setk (w.heap.size + 1) 7 _ (by omega)
          · exact ((((((((F).setk (w.heap.size + 1) 0 _ (by omega)).setk (w.heap.size + 1) 1 _ (by omega)).setk (w.heap.size + 1) 2 _ (by omega)).setk (w.heap.size + 1) 3 _ (by omega)).setk (w.heap.size + 1) 4 _ (by omega)).setk (w.heap.size + 1) 5 _ (by omega)).setk (w.heap.size + 1) 6 _ (by omega)).setk (w.heap.size + 1) 7 _ (by omega)
end Go.Proofs.Ytjimoigbdcalpaa
