import Derived.Test.YtjimoigbdcalpaaVi
import Derived.Lib.AppendZerosOnto
import Derived.Lib.Overlaps
import Derived.Shelf.Spec.SlicesInsert
namespace Go.Proofs.Ytjimoigbdcalpaa
open Go.RowKit

theorem list_ins {α : Type} (L il : List α) (x : α) (i n : Nat) (ht : L.take n = il) (hn : n + 1 ≤ L.length) (hi : i < n) :
    ((((L.take (i + 1) ++ il.drop i ++ L.drop (i + 1 + (il.drop i).length)).toArray.toList.take i ++ [x] ++ (L.take (i + 1) ++ il.drop i ++ L.drop (i + 1 + (il.drop i).length)).toArray.toList.drop (i + 1)).toArray.toList).take (n + 1)) = il.take i ++ x :: il.drop i := by
  have hil : il.length = n := by rw [← ht, List.length_take]; omega
  have e2 : (L.take (i + 1)).length = i + 1 := by rw [List.length_take]; omega
  have e1 : (L.take (i + 1)).take i = il.take i := by rw [← ht, List.take_take, List.take_take, show min i (i + 1) = min i n by omega]
  have a1 : (L.take (i + 1) ++ (il.drop i ++ L.drop (i + 1 + (il.drop i).length))).take i = il.take i := by rw [List.take_append_of_le_length (by omega), e1]
  have a2 : (L.take (i + 1) ++ (il.drop i ++ L.drop (i + 1 + (il.drop i).length))).drop (i + 1) = il.drop i ++ L.drop (i + 1 + (il.drop i).length) := List.drop_left' e2
  simp only [List.append_assoc]
  rw [a1, a2, ← List.append_assoc, ← List.append_assoc, List.take_left' (by simp; omega), List.append_assoc]
  rfl

def insL (l : List Nat) (i x : Nat) : List Nat := l.take i ++ x :: l.drop i

set_option maxRecDepth 100000 in
set_option maxHeartbeats 2000000 in
theorem insRoom (l : List Nat) (x i : Nat) (hi : i < l.length) (g c : Nat) (cur : Array Value) (w : World) (hg : w.heap[g]? = some (.cells cur 96 (0, 0))) (hc : l.length + 1 ≤ c) (hc2 : c ≤ maxLen) (hcs : cur.size = c) (ht : cur.toList.take l.length = icell l)
    {B : Nat} {tt : TypeId} (hB : w.heap[B]? = some (.cells #[.int .i64 x] tt (0, 0))) (hBg : B ≠ g) :
    Calls Try.prog 53 #[.slice (some ⟨g, 0, none⟩) l.length c, .int .i64 i, .slice (some ⟨B, 0, none⟩) 1 1] w fun e w' => ∃ A, e = .returned (.slice (some ⟨g, 0, none⟩) (l.length + 1) c) ∧ Hid (w'.heap[g]? = some (.cells A 96 (0, 0)) ∧ A.size = c ∧ A.toList.take (l.length + 1) = icell (insL l i x) ∧ w.grownBy w' (some g)) := by
  have hz2 : ¬ ((i : Int) = (l.length : Int)) := by omega
  have hc63 : c ≤ 9223372036854775807 := by unfold maxLen at hc2; omega
  have hov : ∀ lb cb, (callFunc 66 #[.slice (some ⟨B, 0, none⟩) 1 1, .slice (some ⟨g, i + 1, none⟩) lb cb]).run Try.prog w = .ok (.value (.bool false)) w := fun lb cb => by
    rw [run_callFunc_extern Try.func66 (by kernel_rfl) (by kernel_rfl) (by kernel_rfl) (e := Extern.SlicesOverlaps.overlaps #[106, 106] #[4]) (by kernel_rfl),
      Lib.run_overlaps_apart w 106 4 96 Try.underlying106 1 (fun w => by obtain ⟨I, Hi, Hz, Hs, Hb⟩ := info_parts Try.info96; simp [Go.sizeOf, typeInfo, Hi, Hs]) ⟨B, 0, none⟩ ⟨g, i + 1, none⟩ 1 1 lb cb hBg tt 96 1 c (by simp [World.shape?, hB]) (by simp [World.shape?, hg, hcs]) (by omega) (by simp [World.frozen?, hB]) (by simp [World.frozen?, hB])]
    rfl
  have hlen : (icell l).length = l.length := by simp [icell]
  have hcl : cur.toList.length = c := by simpa using hcs
  have hdl : ((icell l).drop i).length = l.length - i := by rw [List.length_drop, hlen]
  obtain ⟨A1, hA1⟩ : ∃ A1 : Array Value, A1 = (cur.toList.take (i + 1) ++ (icell l).drop i ++ cur.toList.drop (i + 1 + ((icell l).drop i).length)).toArray := ⟨_, rfl⟩
  obtain ⟨A2, hA2⟩ : ∃ A2 : Array Value, A2 = (A1.toList.take i ++ [Value.int .i64 x] ++ A1.toList.drop (i + 1)).toArray := ⟨_, rfl⟩
  have hs1 : A1.toList.length = c := by
    rw [hA1]; simp only [List.length_append, List.length_take, List.length_drop, hlen, hcl]; omega
  have hs1' : A1.size = c := by simpa using hs1
  have hs2 : A2.toList.length = c := by
    rw [hA2]; simp only [List.length_append, List.length_take, List.length_drop, List.length_cons, List.length_nil, hs1]; omega
  have hsz : (Try.prog.info? 96).map (·.size) = some 1 := by
    obtain ⟨i0, hi0, _, h1, _⟩ := info_parts Try.info96
    rw [hi0]; simp [h1]
  have hone : ∀ v ∈ (icell l).drop i, v.oneCell' = true := fun v hv => by
    obtain ⟨n, _, rfl⟩ := List.mem_map.1 (List.mem_of_mem_drop hv)
    rfl
  have hcp1 : ∀ (W : World), W.heap = w.heap → ∀ ty dc sc, (Builtin.copy_ #[106, 106] ty #[.slice (some ⟨g, i + 1, none⟩) (l.length - i) dc, .slice (some ⟨g, i, none⟩) (l.length + 1 - i) sc]).run Try.prog W = .ok (goInt ((icell l).drop i).length) (W.setRow g A1) := fun W hW ty dc sc => by
    rw [hA1]
    refine run_copy_row Try.prog W 106 106 ty 96 g (i + 1) _ dc ⟨g, i, none⟩ _ sc cur 96 ((icell l).drop i) Try.underlying106 hsz (by rw [hW]; exact hg) (by rw [hdl]; simp only [Nat.min_def]; split <;> omega) (fun j v hj => ?_) (by rw [hdl, hcs]; omega) hone
    rw [Addr.add_lit]
    rw [List.getElem?_drop, ← ht, List.getElem?_take] at hj
    split at hj
    · simp only [World.cell?, hW, hg]
      simpa using hj
    · cases hj
  have hcp2 : ∀ (W : World), W.heap = (w.setRow g A1).heap → ∀ ty dc, (Builtin.copy_ #[106, 106] ty #[.slice (some ⟨g, i, none⟩) (l.length + 1 - i) dc, .slice (some ⟨B, 0, none⟩) 1 1]).run Try.prog W = .ok (goInt 1) (W.setRow g A2) := fun W hW ty dc => by
    rw [hA2]
    refine run_copy_row Try.prog W 106 106 ty 96 g i (l.length + 1 - i) dc ⟨B, 0, none⟩ 1 1 A1 96 [.int .i64 x] Try.underlying106 hsz (by rw [hW]; exact setRow_heap w g cur _ 96 _ hg) (by simp only [Nat.min_def, List.length_cons, List.length_nil]; split <;> omega) (fun j v hj => ?_) (by simp only [List.length_cons, List.length_nil]; omega) (List.all_eq_true.1 rfl)
    rw [Addr.add_lit]
    simp only [World.cell?, hW, setRow_other w g B _ hBg, hB]
    match j, hj with
    | 0, hj => simpa using hj
  have hw1 : IntKind.i64.wrap ((i : Int) + 1) = (i : Int) + 1 := by rw [IntKind.wrap_i64]; unfold maxLen at hc2; omega
  have hb1 : (0 : Int) ≤ (i : Int) + 1 := by omega
  have htn : ((i : Int) + 1).toNat = i + 1 := by omega
  have hb2 : ¬ (c = i + 1) := by omega
  have hb3 : (i : Int) ≤ (l.length : Int) + 1 := by omega
  have hb4 : ¬ (c = i) := by omega
  have hin : i ≤ l.length := by omega
  have HA1 := stop hA1
  have HA2 := stop hA2
  have HT := stop ht
  have HG := stop hg
  clear hA1 hA2 ht hg
  have hc2 := hcp2 (w.drew.setRow g A1) rfl
  go_enter Try.func53, Try.ntmps53
  go_wp2_with (simp only [hov])
  go_region_law (refine step_copy_runI rfl _ _ 106 106 rfl (.slice (some ⟨g, i + 1, none⟩) (l.length - i) (c - (i + 1))) (.slice (some ⟨g, i, none⟩) (l.length + 1 - i) (c - i)) (by go_simp) (by go_simp) (hcp1 w.drew rfl _ _ _) ?_)
  go_wp2
  go_ret
  refine ⟨A2, rfl, ?_, by simpa using hs2, ?_, ?_⟩
  · exact setRow_heap (w.drew.setRow g A1) g A1 _ 96 _ (setRow_heap w.drew g cur _ 96 _ HG.out)
  · rw [HA2.out, HA1.out]
    rw [show icell (insL l i x) = (icell l).take i ++ Value.int .i64 x :: (icell l).drop i by simp [icell, insL]]
    exact list_ins cur.toList (icell l) _ i l.length HT.out (by omega) hi
  · exact ⟨rfl, rfl, rfl, by simp, fun k _ hk => (setRow_other _ g k _ (fun e => hk (by rw [e]))).trans (setRow_other _ g k _ (fun e => hk (by rw [e])))⟩
end Go.Proofs.Ytjimoigbdcalpaa
