import Derived.Test.YtjimoigbdcalpaaVj
namespace Go.Proofs.Ytjimoigbdcalpaa
open Go.RowKit

set_option maxRecDepth 100000 in
set_option maxHeartbeats 2000000 in
theorem insGrow (l : List Nat) (x i : Nat) (hi : i < l.length) (hl : l.length ≤ 1000000) (g c : Nat) (cur : Array Value) (w : World) (hg : w.heap[g]? = some (.cells cur 96 (0, 0))) (hnc : l.length ≤ c) (hc : c < l.length + 1) (hcs : cur.size = c) (ht : cur.toList.take l.length = icell l)
    {B : Nat} {tt : TypeId} (hB : w.heap[B]? = some (.cells #[.int .i64 x] tt (0, 0))) :
    Calls Try.prog 53 #[.slice (some ⟨g, 0, none⟩) l.length c, .int .i64 i, .slice (some ⟨B, 0, none⟩) 1 1] w fun e w' => ∃ A G, e = .returned (.slice (some ⟨w.heap.size, 0, none⟩) (l.length + 1) G) ∧ Hid (w'.heap[w.heap.size]? = some (.cells A 96 (0, 0)) ∧ l.length + 1 ≤ G ∧ G ≤ maxLen ∧ A.size = G ∧ A.toList.take (l.length + 1) = icell (insL l i x) ∧ w.grownBy w' none) := by
  obtain ⟨i0, hi0, hz0, hzs, hzb⟩ := info_parts Try.info96
  have hlen : (icell l).length = l.length := by simp [icell]
  have hdl : ((icell l).drop i).length = l.length - i := by rw [List.length_drop, hlen]
  have hbw : g < w.heap.size := by
    rcases Nat.lt_or_ge g w.heap.size with h | h
    · exact h
    · rw [Array.getElem?_eq_none h] at hg; cases hg
  have hBw : B < w.heap.size := by
    rcases Nat.lt_or_ge B w.heap.size with h | h
    · exact h
    · rw [Array.getElem?_eq_none h] at hB; cases hB
  have hcells : ∀ j v, (icell l)[j]? = some v → w.cell? ⟨g, j, none⟩ = some v := fun j v hj => by
    rw [← ht, List.getElem?_take] at hj
    split at hj
    · simp only [World.cell?, hg]
      simpa using hj
    · cases hj
  have hsz : (Try.prog.info? 96).map (·.size) = some 1 := by rw [hi0]; simp [hzs]
  have hone : ∀ v ∈ (icell l).drop i, v.oneCell' = true := fun v hv => by
    obtain ⟨n, _, rfl⟩ := List.mem_map.1 (List.mem_of_mem_drop hv)
    rfl
  have hold : (Builtin.firstCells i0.size i (.slice (some ⟨g, 0, none⟩) i c)).run Try.prog w.drew = .ok ((icell l).take i).toArray w.drew := by
    rw [hzs]
    exact run_firstCells_some w.drew 1 i ⟨g, 0, none⟩ i c ((icell l).take i) (by rw [List.length_take, hlen]; omega) (fun j v hj => by
      rw [Addr.add_lit, Nat.zero_add]
      rw [List.getElem?_take] at hj
      split at hj
      · exact hcells j v hj
      · cases hj)
  obtain ⟨G, hG⟩ : ∃ G, G = grownCap w (l.length + 1) c 96 := ⟨_, rfl⟩
  have hGn : l.length + 1 ≤ G := by rw [hG]; exact grownCap_ge w _ _ _
  have hGm : G ≤ maxLen := by rw [hG]; exact grownCap_le_maxLen w (l.length + 1) c 96 (by unfold maxLen; omega)
  obtain ⟨ROW, hROW⟩ : ∃ ROW : Array Value, ROW = ((icell l).take i).toArray ++ Builtin.zeroCells (Value.int .i64 0).cells (l.length + 1 - i) ++ Builtin.zeroCells (Value.int .i64 0).cells (G - (l.length + 1)) := ⟨_, rfl⟩
  have hkk : (l.length : Int) + 1 - (i : Int) = ((l.length + 1 - i : Nat) : Int) := by omega
  have hik : i + (l.length + 1 - i) = l.length + 1 := by omega
  have hrz : ∀ ty, (Builtin.append_ #[106, 3] ty #[.slice (some ⟨g, 0, none⟩) i c, .int .i64 ((l.length : Int) + 1 - (i : Int))]).run Try.prog w =
      .ok (.slice (some ⟨w.heap.size, 0, none⟩) (l.length + 1) G) (w.drew.alloc (.cells ROW 96)) := fun ty => by
    have h := Lib.run_append_grow_zeros w 106 3 ty 96 i0 _ .i64 .i64 Try.underlying106 Try.underlying3 hi0 hz0 (some ⟨g, 0, none⟩) i c ((icell l).take i) hold (l.length + 1 - i) (by omega) (by omega) (by omega) (by omega) (by rw [hzb]; omega) (by rw [hzb, hik]; exact growslice_fits (by omega) (by omega))
    rw [hik, ← hG, ← hROW] at h
    rw [hkk]
    exact h
  have hRs : ROW.size = G := by
    rw [hROW]
    simp [Builtin.zeroCells, Value.cells, hlen]
    omega
  obtain ⟨A1, hA1⟩ : ∃ A1 : Array Value, A1 = (ROW.toList.take i ++ [Value.int .i64 x] ++ ROW.toList.drop (i + 1)).toArray := ⟨_, rfl⟩
  obtain ⟨A2, hA2⟩ : ∃ A2 : Array Value, A2 = (A1.toList.take (i + 1) ++ (icell l).drop i ++ A1.toList.drop (i + 1 + ((icell l).drop i).length)).toArray := ⟨_, rfl⟩
  have hs1 : A1.size = G := by
    rw [hA1]; simp only [List.size_toArray, List.length_append, List.length_take, List.length_drop, List.length_cons, List.length_nil, Array.length_toList, hRs]; omega
  have hs2 : A2.size = G := by
    rw [hA2]; simp only [List.size_toArray, List.length_append, List.length_take, List.length_drop, hlen, Array.length_toList, hs1]; omega
  have hn0 : (w.alloc (.cells ROW 96)).drew.heap[w.heap.size]? = some (.cells ROW 96 (0, 0)) := heap_alloc_new w _
  have hnB : (w.alloc (.cells ROW 96)).drew.heap[B]? = some (.cells #[.int .i64 x] tt (0, 0)) := (Below.heap_alloc w _ B hBw).trans hB
  have hng : (w.alloc (.cells ROW 96)).drew.heap[g]? = some (.cells cur 96 (0, 0)) := (Below.heap_alloc w _ g hbw).trans hg
  obtain ⟨W1, hW1⟩ : ∃ W1, W1 = (w.alloc (.cells ROW 96)).drew := ⟨_, rfl⟩
  rw [← hW1] at hn0 hnB hng
  have hcA : ∀ ty dc, (Builtin.copy_ #[106, 106] ty #[.slice (some ⟨w.heap.size, i, none⟩) (l.length + 1 - i) dc, .slice (some ⟨B, 0, none⟩) 1 1]).run Try.prog W1 = .ok (goInt 1) (W1.setRow w.heap.size A1) := fun ty dc => by
    rw [hA1]
    refine run_copy_row Try.prog W1 106 106 ty 96 w.heap.size i (l.length + 1 - i) dc ⟨B, 0, none⟩ 1 1 ROW 96 [.int .i64 x] Try.underlying106 hsz hn0 (by simp only [Nat.min_def, List.length_cons, List.length_nil]; split <;> omega) (fun j v hj => ?_) (by simp only [List.length_cons, List.length_nil]; omega) (List.all_eq_true.1 rfl)
    rw [Addr.add_lit]
    simp only [World.cell?, hnB]
    match j, hj with
    | 0, hj => simpa using hj
  have hcB : ∀ (W : World), W.heap = (W1.setRow w.heap.size A1).heap → ∀ ty dc sc, (Builtin.copy_ #[106, 106] ty #[.slice (some ⟨w.heap.size, i + 1, none⟩) (l.length - i) dc, .slice (some ⟨g, i, none⟩) (l.length - i) sc]).run Try.prog W = .ok (goInt ((icell l).drop i).length) (W.setRow w.heap.size A2) := fun W hW ty dc sc => by
    rw [hA2]
    refine run_copy_row Try.prog W 106 106 ty 96 w.heap.size (i + 1) _ dc ⟨g, i, none⟩ _ sc A1 96 ((icell l).drop i) Try.underlying106 hsz (by rw [hW]; exact setRow_heap W1 _ ROW _ 96 _ hn0) (by rw [hdl]; simp) (fun j v hj => ?_) (by rw [hdl]; omega) hone
    rw [Addr.add_lit]
    rw [List.getElem?_drop] at hj
    have h2 := hcells _ _ hj
    simp only [World.cell?, hW, setRow_other W1 w.heap.size g _ (by omega), hng]
    simpa [World.cell?, hg] using h2
  have hw1 : IntKind.i64.wrap ((i : Int) + 1) = (i : Int) + 1 := by rw [IntKind.wrap_i64]; omega
  have hb1 : (0 : Int) ≤ (i : Int) + 1 := by omega
  have htn : ((i : Int) + 1).toNat = i + 1 := by omega
  have hGi : ¬ (G = i) := by omega
  have hGim : ¬ (G = i + 1) := by omega
  have hci : ¬ (c = i) := by omega
  have hin : i ≤ l.length := by omega
  have hz2 : ¬ ((i : Int) = (l.length : Int)) := by omega
  have hz3 : (c : Int) < (l.length : Int) + 1 := by omega
  have hG63 : G ≤ 9223372036854775807 := by unfold maxLen at hGm; omega
  have HH := stop (And.intro hA1 (And.intro hA2 (And.intro ht (And.intro hg (And.intro hn0 (And.intro hROW (And.intro hs2 hRs)))))))
  have HW := stop hW1
  have HGM := stop hGm
  clear hA1 hA2 ht hg hn0 hnB hng hROW hG hkk hik hold hs1 hs2 hi0 hz0 hzs hzb hcs hdl hB hRs hGm
  subst hW1
  have hc2 := hcB (((w.alloc (.cells ROW 96)).drew.setRow w.heap.size A1).drew) rfl
  go_enter Try.func53, Try.ntmps53
  go_wp2_with (at_builtin; refine Lib.wpList_append_run _ rfl _ _ _ _ rfl _ _ rfl rfl _ _ (hrz _) ?_)
  go_region_law (refine step_copy_runI rfl _ _ 106 106 rfl (.slice (some ⟨w.heap.size, i + 1, none⟩) (l.length - i) (G - (i + 1))) (.slice (some ⟨g, i, none⟩) (l.length - i) (c - i)) (by go_simp) (by go_simp) (hcB (((w.alloc (.cells ROW 96)).drew.setRow w.heap.size A1).drew) rfl _ _ _) ?_)
  go_wp2
  go_ret
  obtain ⟨hA1, hA2, ht, hg, hn0, hROW, hs2, hRs⟩ := HH.out
  refine ⟨A2, G, rfl, ?_, hGn, HGM.out, hs2, ?_, ?_⟩
  · exact setRow_heap _ _ A1 _ 96 _ (setRow_heap _ _ ROW _ 96 _ hn0)
  · have hlr : ROW.toList.take i = (icell l).take i := by
      rw [hROW]
      simp only [Array.toList_append, List.append_assoc]
      rw [List.take_left' (by rw [List.length_take, hlen]; omega)]
    rw [show icell (insL l i x) = (icell l).take i ++ Value.int .i64 x :: (icell l).drop i by simp [icell, insL]]
    have e1 : A1.toList.take (i + 1) = (icell l).take i ++ [Value.int .i64 x] := by
      rw [hA1, hlr]
      exact List.take_left' (by rw [List.length_append, List.length_take, hlen]; simp; omega)
    rw [hA2, e1]
    rw [List.take_left' (by simp [hlen]; omega)]
    simp
  · refine ⟨rfl, rfl, rfl, by simp, fun k hk _ => ?_⟩
    rw [setRow_other _ _ k _ (by omega)]
    show ((w.alloc (.cells ROW 96)).drew.setRow w.heap.size A1).heap[k]? = _
    rw [setRow_other _ _ k _ (by omega)]
    exact Below.heap_alloc w _ k hk
theorem insR (l : List Nat) (x i : Nat) (hi : i ≤ l.length) (base : Nat) (v : Value) (w : World) (h : w.ownsRow base 96 1 v l.length (icell l)) (hl : l.length ≤ 1000000) (hb : base ≤ w.heap.size)
    {B : Nat} {tt : TypeId} (hB : w.heap[B]? = some (.cells #[.int .i64 x] tt (0, 0))) (hBv : v.ownBlock ≠ some B) :
    Calls Try.prog 53 #[v, .int .i64 i, .slice (some ⟨B, 0, none⟩) 1 1] w fun e w' => ∃ v', e = .returned v' ∧ w'.ownsRow base 96 1 v' (insL l i x).length (icell (insL l i x)) ∧ w.grownBy w' v.ownBlock ∧ NewOr w v v' := by
  have hil : (insL l i x).length = l.length + 1 := by simp [insL]; omega
  rw [hil]
  by_cases he : i = l.length
  · subst he
    rw [show insL l l.length x = l ++ [x] by simp [insL]]
    exact insEndR l x base v w h hl hb hB
  · rcases h.2 with ⟨rfl, h0⟩ | ⟨g, c, cur, rfl, hbg, hg, hnc, hcm, hcs, ht⟩
    · omega
    · rw [Nat.mul_one] at hcs ht
      by_cases hr : l.length + 1 ≤ c
      · refine (insRoom l x i (by omega) g c cur w hg hr hcm hcs ht hB (fun e => hBv (by rw [e]; rfl))).mono ?_
        rintro e w' ⟨A, rfl, hh⟩
        obtain ⟨a1, a2, a3, a4⟩ := hh.out
        refine ⟨_, rfl, ⟨by simp [icell, hil], .inr ⟨g, c, A, rfl, hbg, a1, hr, hcm, by omega, by rw [Nat.mul_one]; exact a3⟩⟩, a4, .inl rfl⟩
      · refine (insGrow l x i (by omega) hl g c cur w hg hnc (by omega) hcs ht hB).mono ?_
        rintro e w' ⟨A, G, rfl, hh⟩
        obtain ⟨a1, a2, a3, a4, a5, a6⟩ := hh.out
        refine ⟨_, rfl, ⟨by simp [icell, hil], .inr ⟨w.heap.size, G, A, rfl, hb, a1, a2, a3, by omega, by rw [Nat.mul_one]; exact a5⟩⟩, ⟨a6.os, a6.tape, a6.output, a6.size, fun k hk _ => a6.block k hk (by simp)⟩, .inr ⟨_, rfl, Nat.le_refl _⟩⟩

end Go.Proofs.Ytjimoigbdcalpaa
