import Derived.Test.YtgfhfkgdmidhpaaGreatDoorG12
import Derived.Lib.AppendZerosOnto
import Derived.Lib.Overlaps
import Derived.Shelf.Spec.SlicesInsert
namespace Go.Proofs.YtgfhfkgdmidhpaaGreatDoor
open Go.RowKit

theorem list_ins {α : Type} (L il : List α) (x : α) (i n : Nat) (ht : L.take n = il) (hn : n + 1 ≤ L.length) (hi : i < n) :
    ((((L.take (i + 1) ++ il.drop i ++ L.drop (i + 1 + (il.drop i).length)).toArray.toList.take i ++ [x] ++ (L.take (i + 1) ++ il.drop i ++ L.drop (i + 1 + (il.drop i).length)).toArray.toList.drop (i + 1)).toArray.toList).take (n + 1)) = il.take i ++ x :: il.drop i := by
  have hil : il.length = n := by rw [← ht, List.length_take]; omega
  have e2 : (L.take (i + 1)).length = i + 1 := by rw [List.length_take]; omega
  have e1 : (L.take (i + 1)).take i = il.take i := by rw [← ht, List.take_take, List.take_take, show min i (i + 1) = min i n by omega]
  have a1 : (L.take (i + 1) ++ (il.drop i ++ L.drop (i + 1 + (il.drop i).length))).take i = il.take i := by rw [List.take_append_of_le_length (by omega), e1]
  have a2 : (L.take (i + 1) ++ (il.drop i ++ L.drop (i + 1 + (il.drop i).length))).drop (i + 1) = il.drop i ++ L.drop (i + 1 + (il.drop i).length) := List.drop_left' e2
  simp only [List.append_assoc]
  rw [a1, a2, ← List.append_assoc, ← List.append_assoc, List.take_left' (by simp; omega), List.append_assoc]
  rfl

def insL (l : List Nat) (i x : Nat) : List Nat := l.take i ++ x :: l.drop i

set_option maxRecDepth 100000 in
set_option maxHeartbeats 2000000 in
theorem insRoom (l : List Nat) (x i : Nat) (hi : i < l.length) (g c : Nat) (cur : Array Value) (w : World) (hg : w.heap[g]? = some (.cells cur 78 (0, 0))) (hc : l.length + 1 ≤ c) (hc2 : c ≤ maxLen) (hcs : cur.size = c) (ht : cur.toList.take l.length = icell l)
    {B : Nat} {tt : TypeId} (hB : w.heap[B]? = some (.cells #[.int .i64 x] tt (0, 0))) (hBg : B ≠ g) :
    Calls Tryz.prog 146 #[.slice (some ⟨g, 0, none⟩) l.length c, .int .i64 i, .slice (some ⟨B, 0, none⟩) 1 1] w fun e w' => ∃ A, e = .returned (.slice (some ⟨g, 0, none⟩) (l.length + 1) c) ∧ Hid (w'.heap[g]? = some (.cells A 78 (0, 0)) ∧ A.size = c ∧ A.toList.take (l.length + 1) = icell (insL l i x) ∧ w.grownBy w' (some g)) := by
  have hz2 : ¬ ((i : Int) = (l.length : Int)) := by omega
  have hc63 : c ≤ 9223372036854775807 := by unfold maxLen at hc2; omega
  have hov : ∀ lb cb, (callFunc 194 #[.slice (some ⟨B, 0, none⟩) 1 1, .slice (some ⟨g, i + 1, none⟩) lb cb]).run Tryz.prog w = .ok (.value (.bool false)) w := fun lb cb => by
    rw [run_callFunc_extern Tryz.func194 (by kernel_rfl) (by kernel_rfl) (by kernel_rfl) (e := Extern.SlicesOverlaps.overlaps #[159, 159] #[4]) (by kernel_rfl),
      Lib.run_overlaps_apart w 159 4 78 Tryz.underlying159 1 (fun w => by obtain ⟨I, Hi, Hz, Hs, Hb⟩ := info_parts Tryz.info78; simp [Go.sizeOf, typeInfo, Hi, Hs]) ⟨B, 0, none⟩ ⟨g, i + 1, none⟩ 1 1 lb cb hBg tt 78 1 c (by simp [World.shape?, hB]) (by simp [World.shape?, hg, hcs]) (by omega) (by simp [World.frozen?, hB]) (by simp [World.frozen?, hB])]
    rfl
  have hlen : (icell l).length = l.length := by simp [icell]
  have hcl : cur.toList.length = c := by simpa using hcs
  have hdl : ((icell l).drop i).length = l.length - i := by rw [List.length_drop, hlen]
  obtain ⟨A1, hA1⟩ : ∃ A1 : Array Value, A1 = (cur.toList.take (i + 1) ++ (icell l).drop i ++ cur.toList.drop (i + 1 + ((icell l).drop i).length)).toArray := ⟨_, rfl⟩
  obtain ⟨A2, hA2⟩ : ∃ A2 : Array Value, A2 = (A1.toList.take i ++ [Value.int .i64 x] ++ A1.toList.drop (i + 1)).toArray := ⟨_, rfl⟩
  have hs1 : A1.toList.length = c := by
    rw [hA1]; simp only [List.length_append, List.length_take, List.length_drop, hlen, hcl]; omega
  have hs1' : A1.size = c := by simpa using hs1
  have hs2 : A2.toList.length = c := by
    rw [hA2]; simp only [List.length_append, List.length_take, List.length_drop, List.length_cons, List.length_nil, hs1]; omega
  have hsz : (Tryz.prog.info? 78).map (·.size) = some 1 := by
    obtain ⟨i0, hi0, _, h1, _⟩ := info_parts Tryz.info78
    rw [hi0]; simp [h1]
  have hone : ∀ v ∈ (icell l).drop i, v.oneCell' = true := fun v hv => by
    obtain ⟨n, _, rfl⟩ := List.mem_map.1 (List.mem_of_mem_drop hv)
    rfl
  have hcp1 : ∀ (W : World), W.heap = w.heap → ∀ ty dc sc, (Builtin.copy_ #[159, 159] ty #[.slice (some ⟨g, i + 1, none⟩) (l.length - i) dc, .slice (some ⟨g, i, none⟩) (l.length + 1 - i) sc]).run Tryz.prog W = .ok (goInt ((icell l).drop i).length) (W.setRow g A1) := fun W hW ty dc sc => by
    rw [hA1]
    refine run_copy_row Tryz.prog W 159 159 ty 78 g (i + 1) _ dc ⟨g, i, none⟩ _ sc cur 78 ((icell l).drop i) Tryz.underlying159 hsz (by rw [hW]; exact hg) (by rw [hdl]; simp only [Nat.min_def]; split <;> omega) (fun j v hj => ?_) (by rw [hdl, hcs]; omega) hone
    rw [Addr.add_lit]
    rw [List.getElem?_drop, ← ht, List.getElem?_take] at hj
    split at hj
    · simp only [World.cell?, hW, hg]
      simpa using hj
    · cases hj
  have hcp2 : ∀ (W : World), W.heap = (w.setRow g A1).heap → ∀ ty dc, (Builtin.copy_ #[159, 159] ty #[.slice (some ⟨g, i, none⟩) (l.length + 1 - i) dc, .slice (some ⟨B, 0, none⟩) 1 1]).run Tryz.prog W = .ok (goInt 1) (W.setRow g A2) := fun W hW ty dc => by
    rw [hA2]
    refine run_copy_row Tryz.prog W 159 159 ty 78 g i (l.length + 1 - i) dc ⟨B, 0, none⟩ 1 1 A1 78 [.int .i64 x] Tryz.underlying159 hsz (by rw [hW]; exact setRow_heap w g cur _ 78 _ hg) (by simp only [Nat.min_def, List.length_cons, List.length_nil]; split <;> omega) (fun j v hj => ?_) (by simp only [List.length_cons, List.length_nil]; omega) (List.all_eq_true.1 rfl)
    rw [Addr.add_lit]
    simp only [World.cell?, hW, setRow_other w g B _ hBg, hB]
    match j, hj with
    | 0, hj => simpa using hj
  have hw1 : IntKind.i64.wrap ((i : Int) + 1) = (i : Int) + 1 := by rw [IntKind.wrap_i64]; unfold maxLen at hc2; omega
  have hb1 : (0 : Int) ≤ (i : Int) + 1 := by omega
  have htn : ((i : Int) + 1).toNat = i + 1 := by omega
  have hb2 : ¬ (c = i + 1) := by omega
  have hb3 : (i : Int) ≤ (l.length : Int) + 1 := by omega
  have hb4 : ¬ (c = i) := by omega
  have hin : i ≤ l.length := by omega
  have HA1 := stop hA1
  have HA2 := stop hA2
  have HT := stop ht
  have HG := stop hg
  clear hA1 hA2 ht hg
  have hc2 := hcp2 (w.drew.setRow g A1) rfl
  go_enter Tryz.func146, Tryz.ntmps146
  go_wp2_with (simp only [hov])
  go_region_law (refine step_copy_runI rfl _ _ 159 159 rfl (.slice (some ⟨g, i + 1, none⟩) (l.length - i) (c - (i + 1))) (.slice (some ⟨g, i, none⟩) (l.length + 1 - i) (c - i)) (by go_simp) (by go_simp) (hcp1 w.drew rfl _ _ _) ?_)
  go_wp2
  go_ret
  refine ⟨A2, rfl, ?_, by simpa using hs2, ?_, ?_⟩
  · exact setRow_heap (w.drew.setRow g A1) g A1 _ 78 _ (setRow_heap w.drew g cur _ 78 _ HG.out)
  · rw [HA2.out, HA1.out]
    rw [show icell (insL l i x) = (icell l).take i ++ Value.int .i64 x :: (icell l).drop i by simp [icell, insL]]
    exact list_ins cur.toList (icell l) _ i l.length HT.out (by omega) hi
  · exact ⟨rfl, rfl, rfl, by simp, fun k _ hk => (setRow_other _ g k _ (fun e => hk (by rw [e]))).trans (setRow_other _ g k _ (fun e => hk (by rw [e])))⟩
end Go.Proofs.YtgfhfkgdmidhpaaGreatDoor

namespace Go.Proofs.YtgfhfkgdmidhpaaGreatDoor
open Go.RowKit

set_option maxRecDepth 100000 in
set_option maxHeartbeats 2000000 in
theorem insGrow (l : List Nat) (x i : Nat) (hi : i < l.length) (hl : l.length ≤ 1000000) (g c : Nat) (cur : Array Value) (w : World) (hg : w.heap[g]? = some (.cells cur 78 (0, 0))) (hnc : l.length ≤ c) (hc : c < l.length + 1) (hcs : cur.size = c) (ht : cur.toList.take l.length = icell l)
    {B : Nat} {tt : TypeId} (hB : w.heap[B]? = some (.cells #[.int .i64 x] tt (0, 0))) :
    Calls Tryz.prog 146 #[.slice (some ⟨g, 0, none⟩) l.length c, .int .i64 i, .slice (some ⟨B, 0, none⟩) 1 1] w fun e w' => ∃ A G, e = .returned (.slice (some ⟨w.heap.size, 0, none⟩) (l.length + 1) G) ∧ Hid (w'.heap[w.heap.size]? = some (.cells A 78 (0, 0)) ∧ l.length + 1 ≤ G ∧ G ≤ maxLen ∧ A.size = G ∧ A.toList.take (l.length + 1) = icell (insL l i x) ∧ w.grownBy w' none) := by
  obtain ⟨i0, hi0, hz0, hzs, hzb⟩ := info_parts Tryz.info78
  have hlen : (icell l).length = l.length := by simp [icell]
  have hdl : ((icell l).drop i).length = l.length - i := by rw [List.length_drop, hlen]
  have hbw : g < w.heap.size := by
    rcases Nat.lt_or_ge g w.heap.size with h | h
    · exact h
    · rw [Array.getElem?_eq_none h] at hg; cases hg
  have hBw : B < w.heap.size := by
    rcases Nat.lt_or_ge B w.heap.size with h | h
    · exact h
    · rw [Array.getElem?_eq_none h] at hB; cases hB
  have hcells : ∀ j v, (icell l)[j]? = some v → w.cell? ⟨g, j, none⟩ = some v := fun j v hj => by
    rw [← ht, List.getElem?_take] at hj
    split at hj
    · simp only [World.cell?, hg]
      simpa using hj
    · cases hj
  have hsz : (Tryz.prog.info? 78).map (·.size) = some 1 := by rw [hi0]; simp [hzs]
  have hone : ∀ v ∈ (icell l).drop i, v.oneCell' = true := fun v hv => by
    obtain ⟨n, _, rfl⟩ := List.mem_map.1 (List.mem_of_mem_drop hv)
    rfl
  have hold : (Builtin.firstCells i0.size i (.slice (some ⟨g, 0, none⟩) i c)).run Tryz.prog w.drew = .ok ((icell l).take i).toArray w.drew := by
    rw [hzs]
    exact run_firstCells_some w.drew 1 i ⟨g, 0, none⟩ i c ((icell l).take i) (by rw [List.length_take, hlen]; omega) (fun j v hj => by
      rw [Addr.add_lit, Nat.zero_add]
      rw [List.getElem?_take] at hj
      split at hj
      · exact hcells j v hj
      · cases hj)
  obtain ⟨G, hG⟩ : ∃ G, G = grownCap w (l.length + 1) c 78 := ⟨_, rfl⟩
  have hGn : l.length + 1 ≤ G := by rw [hG]; exact grownCap_ge w _ _ _
  have hGm : G ≤ maxLen := by rw [hG]; exact grownCap_le_maxLen w (l.length + 1) c 78 (by unfold maxLen; omega)
  obtain ⟨ROW, hROW⟩ : ∃ ROW : Array Value, ROW = ((icell l).take i).toArray ++ Builtin.zeroCells (Value.int .i64 0).cells (l.length + 1 - i) ++ Builtin.zeroCells (Value.int .i64 0).cells (G - (l.length + 1)) := ⟨_, rfl⟩
  have hkk : (l.length : Int) + 1 - (i : Int) = ((l.length + 1 - i : Nat) : Int) := by omega
  have hik : i + (l.length + 1 - i) = l.length + 1 := by omega
  have hrz : ∀ ty, (Builtin.append_ #[159, 3] ty #[.slice (some ⟨g, 0, none⟩) i c, .int .i64 ((l.length : Int) + 1 - (i : Int))]).run Tryz.prog w =
      .ok (.slice (some ⟨w.heap.size, 0, none⟩) (l.length + 1) G) (w.drew.alloc (.cells ROW 78)) := fun ty => by
    have h := Lib.run_append_grow_zeros w 159 3 ty 78 i0 _ .i64 .i64 Tryz.underlying159 Tryz.underlying3 hi0 hz0 (some ⟨g, 0, none⟩) i c ((icell l).take i) hold (l.length + 1 - i) (by omega) (by omega) (by omega) (by omega) (by rw [hzb]; omega) (by rw [hzb, hik]; exact growslice_fits (by omega) (by omega))
    rw [hik, ← hG, ← hROW] at h
    rw [hkk]
    exact h
  have hRs : ROW.size = G := by
    rw [hROW]
    simp [Builtin.zeroCells, Value.cells, hlen]
    omega
  obtain ⟨A1, hA1⟩ : ∃ A1 : Array Value, A1 = (ROW.toList.take i ++ [Value.int .i64 x] ++ ROW.toList.drop (i + 1)).toArray := ⟨_, rfl⟩
  obtain ⟨A2, hA2⟩ : ∃ A2 : Array Value, A2 = (A1.toList.take (i + 1) ++ (icell l).drop i ++ A1.toList.drop (i + 1 + ((icell l).drop i).length)).toArray := ⟨_, rfl⟩
  have hs1 : A1.size = G := by
    rw [hA1]; simp only [List.size_toArray, List.length_append, List.length_take, List.length_drop, List.length_cons, List.length_nil, Array.length_toList, hRs]; omega
  have hs2 : A2.size = G := by
    rw [hA2]; simp only [List.size_toArray, List.length_append, List.length_take, List.length_drop, hlen, Array.length_toList, hs1]; omega
  have hn0 : (w.alloc (.cells ROW 78)).drew.heap[w.heap.size]? = some (.cells ROW 78 (0, 0)) := heap_alloc_new w _
  have hnB : (w.alloc (.cells ROW 78)).drew.heap[B]? = some (.cells #[.int .i64 x] tt (0, 0)) := (Below.heap_alloc w _ B hBw).trans hB
  have hng : (w.alloc (.cells ROW 78)).drew.heap[g]? = some (.cells cur 78 (0, 0)) := (Below.heap_alloc w _ g hbw).trans hg
  obtain ⟨W1, hW1⟩ : ∃ W1, W1 = (w.alloc (.cells ROW 78)).drew := ⟨_, rfl⟩
  rw [← hW1] at hn0 hnB hng
  have hcA : ∀ ty dc, (Builtin.copy_ #[159, 159] ty #[.slice (some ⟨w.heap.size, i, none⟩) (l.length + 1 - i) dc, .slice (some ⟨B, 0, none⟩) 1 1]).run Tryz.prog W1 = .ok (goInt 1) (W1.setRow w.heap.size A1) := fun ty dc => by
    rw [hA1]
    refine run_copy_row Tryz.prog W1 159 159 ty 78 w.heap.size i (l.length + 1 - i) dc ⟨B, 0, none⟩ 1 1 ROW 78 [.int .i64 x] Tryz.underlying159 hsz hn0 (by simp only [Nat.min_def, List.length_cons, List.length_nil]; split <;> omega) (fun j v hj => ?_) (by simp only [List.length_cons, List.length_nil]; omega) (List.all_eq_true.1 rfl)
    rw [Addr.add_lit]
    simp only [World.cell?, hnB]
    match j, hj with
    | 0, hj => simpa using hj
  have hcB : ∀ (W : World), W.heap = (W1.setRow w.heap.size A1).heap → ∀ ty dc sc, (Builtin.copy_ #[159, 159] ty #[.slice (some ⟨w.heap.size, i + 1, none⟩) (l.length - i) dc, .slice (some ⟨g, i, none⟩) (l.length - i) sc]).run Tryz.prog W = .ok (goInt ((icell l).drop i).length) (W.setRow w.heap.size A2) := fun W hW ty dc sc => by
    rw [hA2]
    refine run_copy_row Tryz.prog W 159 159 ty 78 w.heap.size (i + 1) _ dc ⟨g, i, none⟩ _ sc A1 78 ((icell l).drop i) Tryz.underlying159 hsz (by rw [hW]; exact setRow_heap W1 _ ROW _ 78 _ hn0) (by rw [hdl]; simp) (fun j v hj => ?_) (by rw [hdl]; omega) hone
    rw [Addr.add_lit]
    rw [List.getElem?_drop] at hj
    have h2 := hcells _ _ hj
    simp only [World.cell?, hW, setRow_other W1 w.heap.size g _ (by omega), hng]
    simpa [World.cell?, hg] using h2
  have hw1 : IntKind.i64.wrap ((i : Int) + 1) = (i : Int) + 1 := by rw [IntKind.wrap_i64]; omega
  have hb1 : (0 : Int) ≤ (i : Int) + 1 := by omega
  have htn : ((i : Int) + 1).toNat = i + 1 := by omega
  have hGi : ¬ (G = i) := by omega
  have hGim : ¬ (G = i + 1) := by omega
  have hci : ¬ (c = i) := by omega
  have hin : i ≤ l.length := by omega
  have hz2 : ¬ ((i : Int) = (l.length : Int)) := by omega
  have hz3 : (c : Int) < (l.length : Int) + 1 := by omega
  have hG63 : G ≤ 9223372036854775807 := by unfold maxLen at hGm; omega
  have HH := stop (And.intro hA1 (And.intro hA2 (And.intro ht (And.intro hg (And.intro hn0 (And.intro hROW (And.intro hs2 hRs)))))))
  have HW := stop hW1
  have HGM := stop hGm
  clear hA1 hA2 ht hg hn0 hnB hng hROW hG hkk hik hold hs1 hs2 hi0 hz0 hzs hzb hcs hdl hB hRs hGm
  subst hW1
  have hc2 := hcB (((w.alloc (.cells ROW 78)).drew.setRow w.heap.size A1).drew) rfl
  go_enter Tryz.func146, Tryz.ntmps146
  go_wp2_with (at_builtin; refine Lib.wpList_append_run _ rfl _ _ _ _ rfl _ _ rfl rfl _ _ (hrz _) ?_)
  go_region_law (refine step_copy_runI rfl _ _ 159 159 rfl (.slice (some ⟨w.heap.size, i + 1, none⟩) (l.length - i) (G - (i + 1))) (.slice (some ⟨g, i, none⟩) (l.length - i) (c - i)) (by go_simp) (by go_simp) (hcB (((w.alloc (.cells ROW 78)).drew.setRow w.heap.size A1).drew) rfl _ _ _) ?_)
  go_wp2
  go_ret
  obtain ⟨hA1, hA2, ht, hg, hn0, hROW, hs2, hRs⟩ := HH.out
  refine ⟨A2, G, rfl, ?_, hGn, HGM.out, hs2, ?_, ?_⟩
  · exact setRow_heap _ _ A1 _ 78 _ (setRow_heap _ _ ROW _ 78 _ hn0)
  · have hlr : ROW.toList.take i = (icell l).take i := by
      rw [hROW]
      simp only [Array.toList_append, List.append_assoc]
      rw [List.take_left' (by rw [List.length_take, hlen]; omega)]
    rw [show icell (insL l i x) = (icell l).take i ++ Value.int .i64 x :: (icell l).drop i by simp [icell, insL]]
    have e1 : A1.toList.take (i + 1) = (icell l).take i ++ [Value.int .i64 x] := by
      rw [hA1, hlr]
      exact List.take_left' (by rw [List.length_append, List.length_take, hlen]; simp; omega)
    rw [hA2, e1]
    rw [List.take_left' (by simp [hlen]; omega)]
    simp
  · refine ⟨rfl, rfl, rfl, by simp, fun k hk _ => ?_⟩
    rw [setRow_other _ _ k _ (by omega)]
    show ((w.alloc (.cells ROW 78)).drew.setRow w.heap.size A1).heap[k]? = _
    rw [setRow_other _ _ k _ (by omega)]
    exact Below.heap_alloc w _ k hk
theorem insR (l : List Nat) (x i : Nat) (hi : i ≤ l.length) (base : Nat) (v : Value) (w : World) (h : w.ownsRow base 78 1 v l.length (icell l)) (hl : l.length ≤ 1000000) (hb : base ≤ w.heap.size)
    {B : Nat} {tt : TypeId} (hB : w.heap[B]? = some (.cells #[.int .i64 x] tt (0, 0))) (hBv : v.ownBlock ≠ some B) :
    Calls Tryz.prog 146 #[v, .int .i64 i, .slice (some ⟨B, 0, none⟩) 1 1] w fun e w' => ∃ v', e = .returned v' ∧ w'.ownsRow base 78 1 v' (insL l i x).length (icell (insL l i x)) ∧ w.grownBy w' v.ownBlock ∧ NewOr w v v' := by
  have hil : (insL l i x).length = l.length + 1 := by simp [insL]; omega
  rw [hil]
  by_cases he : i = l.length
  · subst he
    rw [show insL l l.length x = l ++ [x] by simp [insL]]
    exact insEndR l x base v w h hl hb hB
  · rcases h.2 with ⟨rfl, h0⟩ | ⟨g, c, cur, rfl, hbg, hg, hnc, hcm, hcs, ht⟩
    · omega
    · rw [Nat.mul_one] at hcs ht
      by_cases hr : l.length + 1 ≤ c
      · refine (insRoom l x i (by omega) g c cur w hg hr hcm hcs ht hB (fun e => hBv (by rw [e]; rfl))).mono ?_
        rintro e w' ⟨A, rfl, hh⟩
        obtain ⟨a1, a2, a3, a4⟩ := hh.out
        refine ⟨_, rfl, ⟨by simp [icell, hil], .inr ⟨g, c, A, rfl, hbg, a1, hr, hcm, by omega, by rw [Nat.mul_one]; exact a3⟩⟩, a4, .inl rfl⟩
      · refine (insGrow l x i (by omega) hl g c cur w hg hnc (by omega) hcs ht hB).mono ?_
        rintro e w' ⟨A, G, rfl, hh⟩
        obtain ⟨a1, a2, a3, a4, a5, a6⟩ := hh.out
        refine ⟨_, rfl, ⟨by simp [icell, hil], .inr ⟨w.heap.size, G, A, rfl, hb, a1, a2, a3, by omega, by rw [Nat.mul_one]; exact a5⟩⟩, ⟨a6.os, a6.tape, a6.output, a6.size, fun k hk _ => a6.block k hk (by simp)⟩, .inr ⟨_, rfl, Nat.le_refl _⟩⟩

end Go.Proofs.YtgfhfkgdmidhpaaGreatDoor

namespace Go.Proofs.YtgfhfkgdmidhpaaGreatDoor
open Go.RowKit

/-- An item was put into the set at pb, po, whose row was v: its row is v' now. -/
structure Put (pb po : Nat) (v v' : Value) (w w' : World) : Prop where
  os : w'.os = w.os
  tape : w'.tape = w.tape
  output : w'.output = w.output
  size : w.heap.size ≤ w'.heap.size
  at_ : w'.heap[pb]? = (w.setCell ⟨pb, po, none⟩ v').heap[pb]?
  block : ∀ k, k < w.heap.size → k ≠ pb → some k ≠ v.ownBlock → w'.heap[k]? = w.heap[k]?
  new : NewOr w v v'

theorem found_true {l : List Nat} {x i : Nat} (hx : x ∈ l) (hsrt : l.Pairwise (· < ·)) (hs : Splits l x i) : foundAt l x i = true := by
  obtain ⟨k, hk, he⟩ := List.getElem_of_mem hx
  have hki : ¬ k < i := fun h => by have := hs.1 k h hk; omega
  have hle := hs.2 i (Nat.le_refl _) (by omega)
  have hie : i = k := by
    rcases Nat.lt_or_ge i k with h | h
    · have := List.pairwise_iff_getElem.1 hsrt i k (by omega) hk h; omega
    · omega
  subst hie
  simp [foundAt, hk, he]
/-- A store after rows have grown. -/
theorem put_of {pb po : Nat} {v v' : Value} {w w1 : World} {o : Obj} (g : (w.alloc o).grownBy w1 v.ownBlock) (hpb : pb < w.heap.size) (hpv : v.ownBlock ≠ some pb) (hn : NewOr (w.alloc o) v v') : Put pb po v v' w (w1.setCell ⟨pb, po, none⟩ v') := by
  have hb : w1.heap[pb]? = w.heap[pb]? := (g.block pb (by simp; omega) (fun e => hpv e.symm)).trans (Below.heap_alloc w _ pb hpb)
  refine ⟨g.os, g.tape, g.output, by have := g.size; simp [World.setCell] at this ⊢; omega, ?_, ?_, ?_⟩
  · simp only [World.setCell, Array.getElem?_modify, hb]
  · intro k hk hne hv
    rw [Below.heap_setCell _ _ _ _ hne, g.block k (by simp; omega) hv]
    exact Below.heap_alloc w _ k hk
  · rcases hn with h | ⟨g', h, hle⟩
    · exact .inl h
    · exact .inr ⟨g', h, by simp at hle; omega⟩
theorem found_false {l : List Nat} {x i : Nat} (hx : x ∉ l) : foundAt l x i = false := by
  unfold foundAt
  cases h : l[i]? with
  | none => rfl
  | some y =>
    have := List.mem_of_getElem? h
    simp only [beq_eq_false_iff_ne]
    rintro rfl
    exact hx this

theorem owns_put {pb po base e n : Nat} {v v' : Value} {xs : List Value} {w w1 : World} {o : Obj} (h : w1.ownsRow base e 1 v' n xs) (hn : NewOr (w.alloc o) v v') (hpb : pb < w.heap.size) (hpv : v.ownBlock ≠ some pb) : (w1.setCell ⟨pb, po, none⟩ v').ownsRow base e 1 v' n xs := by
  obtain ⟨h1, h2⟩ := h
  refine ⟨h1, h2.imp id ?_⟩
  rintro ⟨g, cap, cur, rfl, b, c, d⟩
  refine ⟨g, cap, cur, rfl, b, ?_, d⟩
  rw [Below.heap_setCell _ _ _ _ ?_]
  · exact c
  · rintro rfl
    rcases hn with h | ⟨g', h, hle⟩
    · exact hpv (h.symm.trans rfl)
    · simp [Value.ownBlock] at h hle; omega

set_option maxRecDepth 100000 in
set_option maxHeartbeats 2000000 in
theorem addOldR (l : List Nat) (x : Nat) (hx : Hid (x ∈ l)) (hsrt : Hid (l.Pairwise (· < ·))) (pb po base : Nat) (v : Value) (w : World) (hp : w.cell? ⟨pb, po, none⟩ = some v) (h : w.ownsRow base 78 1 v l.length (icell l)) (hl : l.length ≤ 1000000) :
    Calls Tryz.prog 98 #[.pointer (some ⟨pb, po, none⟩), .int .i64 x] w fun e w' => e = .returned (.bool false) ∧ Hid (w' = w) := by
  go_enter Tryz.func98, Tryz.ntmps98
  go_wp2_with fail
  refine (bsearchR l x hsrt base v w h hl).mono ?_
  rintro e w1 ⟨hw1, i, hi, hsp, rfl⟩
  rw [found_true hx.out hsrt.out hsp]
  have HW := stop hw1
  clear hw1
  go_wp2_with fail
  go_ret
  exact ⟨rfl, HW.out⟩

set_option maxRecDepth 100000 in
set_option maxHeartbeats 2000000 in
theorem addNewR (l : List Nat) (x : Nat) (hx : Hid (x ∉ l)) (hsrt : Hid (l.Pairwise (· < ·))) (pb po base : Nat) (v : Value) (w : World) (hp : w.cell? ⟨pb, po, none⟩ = some v) (hf : w.frozen? ⟨pb, po, none⟩ = false) (h : w.ownsRow base 78 1 v l.length (icell l)) (hl : l.length ≤ 1000000) (hb : base ≤ w.heap.size) (hpv : Hid (v.ownBlock ≠ some pb)) :
    Calls Tryz.prog 98 #[.pointer (some ⟨pb, po, none⟩), .int .i64 x] w fun e w' => e = .returned (.bool true) ∧ ∃ i v', Hid (i ≤ l.length ∧ Splits l x i ∧ w'.ownsRow base 78 1 v' (insL l i x).length (icell (insL l i x)) ∧ Put pb po v v' w w') := by
  go_enter Tryz.func98, Tryz.ntmps98
  go_wp2_with fail
  refine (bsearchR l x hsrt base v w h hl).mono ?_
  rintro e w1 ⟨rfl, i, hi, hsp, rfl⟩
  rw [found_false hx.out]
  have hpb : pb < w1.heap.size := World.block_lt_of_cell? _ _ hp
  have HP := stop hpv.out
  have HF := stop hf
  have HI := stop (And.intro hi hsp)
  clear hsp hf hx hsrt hpv
  go_wp2_with fail
  refine (insR l x i hi (base := base) (v := v) (w1.alloc (.cells #[.int .i64 x] 78)) (h.alloc _) hl (by simp; omega) (heap_alloc_new _ _) (fun e => by obtain ⟨_, h2⟩ := World.ownsRow.lt h _ e; omega)).mono ?_
  rintro e w2 ⟨v2, rfl, o2, g2, n2⟩
  obtain ⟨p2, c2, rfl⟩ := owns_slice2 o2
  have hb2 : w2.heap[pb]? = w1.heap[pb]? := (g2.block pb (by simp; omega) (fun e => HP.out e.symm)).trans (Below.heap_alloc _ _ _ hpb)
  have hp2 : w2.cell? ⟨pb, po, none⟩ = some v := by rw [World.cell?_of_block (w := w1) hb2]; exact hp
  have hf2 : w2.frozen? ⟨pb, po, none⟩ = false := by rw [World.frozen?_of_block (w := w1) hb2]; exact HF.out
  have HR := stop (And.intro o2 (And.intro g2 n2))
  clear o2 g2 n2 hb2 hp h
  go_wp2_with fail
  go_ret
  obtain ⟨o2, g2, n2⟩ := HR.out
  refine ⟨rfl, _, _, HI.out.1, HI.out.2, owns_put o2 n2 hpb HP.out, put_of g2 hpb HP.out n2⟩

set_option maxRecDepth 100000 in
set_option maxHeartbeats 2000000 in
theorem addOldB (l : List Nat) (x : Nat) (hx : Hid (x ∈ l)) (hsrt : Hid (l.Pairwise (· < ·))) (pb po base : Nat) (v : Value) (w : World) (hp : w.cell? ⟨pb, po, none⟩ = some v) (h : w.ownsRow base 143 1 v l.length (icell l)) (hl : l.length ≤ 1000000) :
    Calls Tryz.prog 71 #[.pointer (some ⟨pb, po, none⟩), .int .i64 x] w fun e w' => e = .returned (.bool false) ∧ Hid (w' = w) := by
  go_enter Tryz.func71, Tryz.ntmps71
  go_wp2_with fail
  refine (bsearchB l x hsrt base v w h hl).mono ?_
  rintro e w1 ⟨hw1, i, hi, hsp, rfl⟩
  rw [found_true hx.out hsrt.out hsp]
  have HW := stop hw1
  clear hw1
  go_wp2_with fail
  go_ret
  exact ⟨rfl, HW.out⟩

set_option maxRecDepth 100000 in
set_option maxHeartbeats 2000000 in
theorem addNewB (l : List Nat) (x : Nat) (hx : Hid (∀ y ∈ l, y < x)) (hsrt : Hid (l.Pairwise (· < ·))) (pb po base : Nat) (v : Value) (w : World) (hp : w.cell? ⟨pb, po, none⟩ = some v) (hf : w.frozen? ⟨pb, po, none⟩ = false) (h : w.ownsRow base 143 1 v l.length (icell l)) (hl : l.length ≤ 1000000) (hb : base ≤ w.heap.size) (hpv : Hid (v.ownBlock ≠ some pb)) :
    Calls Tryz.prog 71 #[.pointer (some ⟨pb, po, none⟩), .int .i64 x] w fun e w' => e = .returned (.bool true) ∧ ∃ v', Hid (w'.ownsRow base 143 1 v' (l.length + 1) (icell (l ++ [x])) ∧ Put pb po v v' w w') := by
  go_enter Tryz.func71, Tryz.ntmps71
  go_wp2_with fail
  refine (bsearchB l x hsrt base v w h hl).mono ?_
  rintro e w1 ⟨rfl, i, hi, hsp, rfl⟩
  rw [found_false (fun h => Nat.lt_irrefl _ (hx.out x h))]
  have hpb : pb < w1.heap.size := World.block_lt_of_cell? _ _ hp
  have hie : i = l.length := by
    rcases Nat.lt_or_ge i l.length with hlt | hge
    · have h1 := hsp.2 i (Nat.le_refl _) hlt
      have h2 := hx.out l[i] (List.getElem_mem hlt)
      omega
    · omega
  subst hie
  have HP := stop hpv.out
  have HF := stop hf
  have HI := stop (And.intro hi hsp)
  clear hsp hf hx hsrt hpv
  go_wp2_with fail
  refine (insEndB l x (base := base) (v := v) (w1.alloc (.cells #[.int .i64 x] 143)) (h.alloc _) hl (by simp; omega) (heap_alloc_new _ _)).mono ?_
  rintro e w2 ⟨v2, rfl, o2, g2, n2⟩
  obtain ⟨p2, c2, rfl⟩ := owns_slice2 o2
  have hb2 : w2.heap[pb]? = w1.heap[pb]? := (g2.block pb (by simp; omega) (fun e => HP.out e.symm)).trans (Below.heap_alloc _ _ _ hpb)
  have hp2 : w2.cell? ⟨pb, po, none⟩ = some v := by rw [World.cell?_of_block (w := w1) hb2]; exact hp
  have hf2 : w2.frozen? ⟨pb, po, none⟩ = false := by rw [World.frozen?_of_block (w := w1) hb2]; exact HF.out
  have HR := stop (And.intro o2 (And.intro g2 n2))
  clear o2 g2 n2 hb2 hp h
  go_wp2_with fail
  go_ret
  obtain ⟨o2, g2, n2⟩ := HR.out
  refine ⟨rfl, _, owns_put o2 n2 hpb HP.out, put_of g2 hpb HP.out n2⟩

end Go.Proofs.YtgfhfkgdmidhpaaGreatDoor
