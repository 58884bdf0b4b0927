import Derived.Test.YtgfhfkgdmidhpaaGreatG18
namespace Go.Proofs.YtgfhfkgdmidhpaaGreat
open Go.RowKit

theorem three (w : World) (o0 o1 o2 : Obj) : (((w.alloc o0).alloc o1).alloc o2).heap[w.heap.size]? = some o0 ∧ (((w.alloc o0).alloc o1).alloc o2).heap[w.heap.size + 1]? = some o1 ∧ (((w.alloc o0).alloc o1).alloc o2).heap[w.heap.size + 1 + 1]? = some o2 ∧ (((w.alloc o0).alloc o1).alloc o2).heap.size = w.heap.size + 3 ∧ Below w.heap.size w (((w.alloc o0).alloc o1).alloc o2) := by
  have h1 := heap_alloc_last (w.alloc o0) o1
  have h2 := heap_alloc_last ((w.alloc o0).alloc o1) o2
  rw [World.size_alloc] at h1
  rw [World.size_alloc, World.size_alloc] at h2
  exact ⟨blk_alloc (blk_alloc (heap_alloc_last _ _) _) _, blk_alloc h1 _, h2, by simp, (((Below.refl _ _).alloc (Nat.le_refl _) _).alloc (by simp) _).alloc (by simp; omega) _⟩

theorem far2 (w : World) (n o o' : Nat) (x : Value) : (w.setCell ⟨n + 1 + 1, o, none⟩ x).cell? ⟨n, o', none⟩ = w.cell? ⟨n, o', none⟩ := World.cell?_setCell_far _ _ _ _ (by simp; omega)
theorem far1 (w : World) (n o o' : Nat) (x : Value) : (w.setCell ⟨n + 1 + 1, o, none⟩ x).cell? ⟨n + 1, o', none⟩ = w.cell? ⟨n + 1, o', none⟩ := World.cell?_setCell_far _ _ _ _ (by simp)

theorem equalB (a b : List Nat) (B1 B2 : Nat) (va vb : Value) (w : World) (ha : w.ownsRow B1 92 1 va a.length (icell a)) (hb : w.ownsRow B2 92 1 vb b.length (icell b)) (la : a.length ≤ 1000000) (lb : b.length ≤ 1000000) :
    Calls Tryz.prog 102 #[va, vb] w fun x w' => x = .returned (.bool (eqF a b)) ∧ ∃ n, w' = w.drewN n := equal_any a b B1 B2 va vb w ha hb la lb

set_option maxRecDepth 100000 in
set_option maxHeartbeats 4000000 in
theorem minusB (a b : List Nat) (B1 B2 : Nat) (va vb : Value) (w : World) (ha : w.ownsRow B1 92 1 va a.length (icell a)) (hb : w.ownsRow B2 92 1 vb b.length (icell b)) (hsb : Hid (b.Pairwise (· < ·))) (hla : a.length ≤ 1000000) (hlb : b.length ≤ 1000000) :
    Calls Tryz.prog 74 #[.agg #[va], .agg #[vb]] w fun e w' => ∃ v', e = .returned (.agg #[v']) ∧ w'.ownsRow w.heap.size 92 1 v' (dif a b).length (icell (dif a b)) ∧ Below w.heap.size w w' := by
  obtain ⟨pa, ca, rfl⟩ := owns_slice2 ha
  obtain ⟨pb, cb, rfl⟩ := owns_slice2 hb
  have hmf : ∀ (fn : Fn) (first cap : Array Value) (w : World), (Instr.makeFunc fn first cap).run Tryz.prog w = .ok (.func fn first cap) w := fun _ _ _ _ => rfl
  go_enter Tryz.func74, Tryz.ntmps74
  go_wp2_with fail
  obtain ⟨W2, hW2⟩ : ∃ W2, W2 = ((w.alloc (.cells #[.slice pa a.length ca] 86)).alloc (.cells #[.slice pb b.length cb] 86)).alloc (.cells #[.slice none 0 0] 86) := ⟨_, rfl⟩
  rw [← hW2]
  obtain ⟨g0, g1, g2, hz, f2⟩ := three w (.cells #[.slice pa a.length ca] 86) (.cells #[.slice pb b.length cb] 86) (.cells #[.slice none 0 0] 86)
  rw [← hW2] at g0 g1 g2 hz f2
  have k0 := cell_of g0 0
  have k1 := cell_of g1 0
  have k2 := cell_of g2 0
  have k3 := frozen_of g2 0
  simp at k0 k1 k2
  have O2 := stop (And.intro (owns_keeps ha (Keeps.below (T := fun _ => True) f2) trivial) (owns_keeps hb (Keeps.below (T := fun _ => True) f2) trivial))
  have F2 := stop f2
  have l0 : w.heap.size < W2.heap.size := by omega
  have l1 : w.heap.size + 1 < W2.heap.size := by omega
  have l2 : w.heap.size + 1 + 1 < W2.heap.size := by omega
  clear hW2 ha hb g0 g1 g2 f2
  go_region_held (fun w' => w'.cell? ⟨w.heap.size, 0, none⟩ = some (.slice pa a.length ca) ∧ w'.cell? ⟨w.heap.size + 1, 0, none⟩ = some (.slice pb b.length cb) ∧ w'.frozen? ⟨w.heap.size + 1 + 1, 0, none⟩ = false) (simp [*, far1, far2])
    (first | (go_at_call 67; refine (itmB a B1 _ W2.drew O2.out.1 (by omega)).mono ?_; rintro e w5 ⟨v5, rfl, o5, f5⟩; have f5' : Below W2.heap.size W2 w5 := ⟨f5.os, f5.tape, f5.output, f5.size, f5.block⟩; have y0 := f5'.cell (p := ⟨w.heap.size, 0, none⟩) l0; have y1 := f5'.cell (p := ⟨w.heap.size + 1, 0, none⟩) l1; have y2 := f5'.cell (p := ⟨w.heap.size + 1 + 1, 0, none⟩) l2; have y3 := f5'.frozen (p := ⟨w.heap.size + 1 + 1, 0, none⟩) l2) | (go_at_call 115; refine (delB a b W2.heap.size B2 v5 (.slice pb b.length cb) W2 w5 o5 O2.out.2 f5' (Nat.le_refl _) hsb hla hlb).mono ?_; rintro e w6 ⟨v6, rfl, H6⟩; obtain ⟨p6, c6, rfl⟩ := owns_slice2 H6.out.1; have z0 := H6.out.2.cell (p := ⟨w.heap.size, 0, none⟩) l0; have z1 := H6.out.2.cell (p := ⟨w.heap.size + 1, 0, none⟩) l1; have z2 := H6.out.2.cell (p := ⟨w.heap.size + 1 + 1, 0, none⟩) l2; have z3 := H6.out.2.frozen (p := ⟨w.heap.size + 1 + 1, 0, none⟩) l2))
  all_goals
    go_wp2_with fail
    refine bodyPost_ret (v := .agg #[.slice p6 (dif a b).length c6]) (by simp [results, Tryz.results74, go_sem, z2, k2]) rfl ⟨_, rfl, ?_, ?_⟩
    · exact owns_base (owns_setk H6.out.1 _ 0 _ l2) (by omega)
    · exact below_set (F2.out.trans (H6.out.2.mono (by omega))) _ _ _ (by omega)

set_option maxRecDepth 100000 in
set_option maxHeartbeats 4000000 in
theorem unionB (a b : List Nat) (B1 B2 : Nat) (va vb : Value) (w : World) (ha : w.ownsRow B1 92 1 va a.length (icell a)) (hb : w.ownsRow B2 92 1 vb b.length (icell b)) (hla : a.length ≤ 1000000) (hlb : b.length ≤ 1000000) :
    Calls Tryz.prog 114 #[.agg #[va], .agg #[vb]] w fun e w' => ∃ v', e = .returned (.agg #[v']) ∧ w'.ownsRow w.heap.size 92 1 v' (ofL (a ++ b)).length (icell (ofL (a ++ b))) ∧ Below w.heap.size w w' := by
  obtain ⟨pa, ca, rfl⟩ := owns_slice2 ha
  obtain ⟨pb, cb, rfl⟩ := owns_slice2 hb
  have hab : (a ++ b).length ≤ 3000000 := by rw [List.length_append]; omega
  obtain ⟨ab, HAB⟩ : ∃ ab, Hid (ab = a ++ b) := ⟨_, rfl⟩
  rw [← HAB.out] at hab ⊢
  go_enter Tryz.func114, Tryz.ntmps114
  go_wp2_with fail
  obtain ⟨W3, hW3⟩ : ∃ W3, W3 = ((w.alloc (.cells #[.slice pa a.length ca] 86)).alloc (.cells #[.slice pb b.length cb] 86)).alloc (.cells #[.slice none 0 0] 86) := ⟨_, rfl⟩
  rw [← hW3]
  obtain ⟨_, _, g2, hz, f3⟩ := three w (.cells #[.slice pa a.length ca] 86) (.cells #[.slice pb b.length cb] 86) (.cells #[.slice none 0 0] 86)
  rw [← hW3] at g2 hz f3
  have g3 := heap_alloc_last W3 (.cells #[.slice pa a.length ca, .slice pb b.length cb] 84)
  have f4 : Below w.heap.size w (W3.alloc (.cells #[.slice pa a.length ca, .slice pb b.length cb] 84)) := f3.alloc (by omega) _
  rw [show w.heap.size + 1 + 1 + 1 = W3.heap.size by omega]
  refine (concatB a b B1 B2 _ _ _ (owns_keeps ha (Keeps.below (T := fun _ => True) f4) trivial) (owns_keeps hb (Keeps.below (T := fun _ => True) f4) trivial) hla hlb _ 2 g3).mono ?_
  rintro e w5 ⟨v5, rfl, o5, f5⟩
  rw [← HAB.out] at o5
  have F5 := stop (And.intro o5 (And.intro f5 (And.intro f4 (And.intro g2 (And.intro hz hW3)))))
  obtain ⟨p5, c5, rfl⟩ := owns_slice2 o5
  clear ha hb hW3 g2 g3 f3 f4 f5 o5
  go_wp2_with fail
  refine (ofB ab _ _ w5 F5.out.1 hab).mono ?_
  rintro e w6 ⟨v6, rfl, o6, f6⟩
  obtain ⟨p6, c6, rfl⟩ := owns_slice2 o6
  obtain ⟨_, f5, f4, g2, hz, hW3⟩ := F5.out
  have hs5 : W3.heap.size + 1 ≤ w5.heap.size := by have := f5.size; rw [World.size_alloc] at this; exact this
  have g6 : w6.heap[w.heap.size + 1 + 1]? = some (.cells #[.slice none 0 0] 86 (0, 0)) := by rw [f6.block _ (by omega), f5.block _ (by rw [World.size_alloc]; omega)]; exact blk_alloc g2 _
  have k2 := cell_of g6 0
  have k3 := frozen_of g6 0
  simp at k2
  have l5 : w.heap.size + 1 + 1 < w5.heap.size := by omega
  have F6 := stop (And.intro (owns_base (owns_setk o6 _ 0 (.slice p6 (ofL ab).length c6) l5) (show w.heap.size ≤ w5.heap.size by omega)) (below_set ((f4.trans (f5.mono (by rw [World.size_alloc]; omega))).trans (f6.mono (by omega))) (w.heap.size + 1 + 1) 0 (.slice p6 (ofL ab).length c6) (by omega)))
  clear g6 f6 o6 f5 f4 g2 hW3 F5 hz hs5 l5
  go_wp2_with fail
  refine bodyPost_ret (v := .agg #[.slice p6 (ofL ab).length c6]) (by simp [results, Tryz.results114, go_sem, k2]) rfl ⟨_, rfl, ?_, ?_⟩
  · exact F6.out.1
  · exact F6.out.2

set_option maxRecDepth 100000 in
set_option maxHeartbeats 4000000 in
theorem sameB (a b : List Nat) (B1 B2 : Nat) (va vb : Value) (w : World) (ha : w.ownsRow B1 92 1 va a.length (icell a)) (hb : w.ownsRow B2 92 1 vb b.length (icell b)) (hla : a.length ≤ 1000000) (hlb : b.length ≤ 1000000) :
    Calls Tryz.prog 220 #[.agg #[va], .agg #[vb]] w fun e w' => e = .returned (.bool (eqF a b)) ∧ Below w.heap.size w w' := by
  obtain ⟨pa, ca, rfl⟩ := owns_slice2 ha
  obtain ⟨pb, cb, rfl⟩ := owns_slice2 hb
  go_enter Tryz.func220, Tryz.ntmps220
  go_wp2_with fail
  refine (equalB a b B1 B2 _ _ _ ((ha.alloc _).alloc _) ((hb.alloc _).alloc _) hla hlb).mono ?_
  rintro e w1 ⟨rfl, n, hw1⟩
  have F1 : Hid (Below w.heap.size w w1) := by rw [hw1]; exact below_drewN (((Below.refl _ _).alloc (Nat.le_refl _) _).alloc (by simp) _) _
  clear hw1
  go_wp2_with fail
  go_ret
  exact ⟨rfl, F1.out⟩

end Go.Proofs.YtgfhfkgdmidhpaaGreat

namespace Go.Proofs.YtgfhfkgdmidhpaaGreat
open Go.RowKit

set_option maxRecDepth 100000 in
set_option maxHeartbeats 2000000 in
theorem insRoomB (l : List Nat) (x i : Nat) (hi : i < l.length) (g c : Nat) (cur : Array Value) (w : World) (hg : w.heap[g]? = some (.cells cur 92 (0, 0))) (hc : l.length + 1 ≤ c) (hc2 : c ≤ maxLen) (hcs : cur.size = c) (ht : cur.toList.take l.length = icell l)
    {B : Nat} {tt : TypeId} (hB : w.heap[B]? = some (.cells #[.int .i64 x] tt (0, 0))) (hBg : B ≠ g) :
    Calls Tryz.prog 138 #[.slice (some ⟨g, 0, none⟩) l.length c, .int .i64 i, .slice (some ⟨B, 0, none⟩) 1 1] w fun e w' => ∃ A, e = .returned (.slice (some ⟨g, 0, none⟩) (l.length + 1) c) ∧ Hid (w'.heap[g]? = some (.cells A 92 (0, 0)) ∧ A.size = c ∧ A.toList.take (l.length + 1) = icell (insL l i x) ∧ w.grownBy w' (some g)) := by
  have hz2 : ¬ ((i : Int) = (l.length : Int)) := by omega
  have hc63 : c ≤ 9223372036854775807 := by unfold maxLen at hc2; omega
  have hov : ∀ lb cb, (callFunc 159 #[.slice (some ⟨B, 0, none⟩) 1 1, .slice (some ⟨g, i + 1, none⟩) lb cb]).run Tryz.prog w = .ok (.value (.bool false)) w := fun lb cb => by
    rw [run_callFunc_extern Tryz.func159 (by kernel_rfl) (by kernel_rfl) (by kernel_rfl) (e := Extern.SlicesOverlaps.overlaps #[84, 84] #[4]) (by kernel_rfl),
      Lib.run_overlaps_apart w 84 4 92 Tryz.underlying84 1 (fun w => by obtain ⟨I, Hi, Hz, Hs, Hb⟩ := info_parts Tryz.info92; simp [Go.sizeOf, typeInfo, Hi, Hs]) ⟨B, 0, none⟩ ⟨g, i + 1, none⟩ 1 1 lb cb hBg tt 92 1 c (by simp [World.shape?, hB]) (by simp [World.shape?, hg, hcs]) (by omega) (by simp [World.frozen?, hB]) (by simp [World.frozen?, hB])]
    rfl
  have hlen : (icell l).length = l.length := by simp [icell]
  have hcl : cur.toList.length = c := by simpa using hcs
  have hdl : ((icell l).drop i).length = l.length - i := by rw [List.length_drop, hlen]
  obtain ⟨A1, hA1⟩ : ∃ A1 : Array Value, A1 = (cur.toList.take (i + 1) ++ (icell l).drop i ++ cur.toList.drop (i + 1 + ((icell l).drop i).length)).toArray := ⟨_, rfl⟩
  obtain ⟨A2, hA2⟩ : ∃ A2 : Array Value, A2 = (A1.toList.take i ++ [Value.int .i64 x] ++ A1.toList.drop (i + 1)).toArray := ⟨_, rfl⟩
  have hs1 : A1.toList.length = c := by
    rw [hA1]; simp only [List.length_append, List.length_take, List.length_drop, hlen, hcl]; omega
  have hs1' : A1.size = c := by simpa using hs1
  have hs2 : A2.toList.length = c := by
    rw [hA2]; simp only [List.length_append, List.length_take, List.length_drop, List.length_cons, List.length_nil, hs1]; omega
  have hsz : (Tryz.prog.info? 92).map (·.size) = some 1 := by
    obtain ⟨i0, hi0, _, h1, _⟩ := info_parts Tryz.info92
    rw [hi0]; simp [h1]
  have hone : ∀ v ∈ (icell l).drop i, v.oneCell' = true := fun v hv => by
    obtain ⟨n, _, rfl⟩ := List.mem_map.1 (List.mem_of_mem_drop hv)
    rfl
  have hcp1 : ∀ (W : World), W.heap = w.heap → ∀ ty dc sc, (Builtin.copy_ #[84, 84] ty #[.slice (some ⟨g, i + 1, none⟩) (l.length - i) dc, .slice (some ⟨g, i, none⟩) (l.length + 1 - i) sc]).run Tryz.prog W = .ok (goInt ((icell l).drop i).length) (W.setRow g A1) := fun W hW ty dc sc => by
    rw [hA1]
    refine run_copy_row Tryz.prog W 84 84 ty 92 g (i + 1) _ dc ⟨g, i, none⟩ _ sc cur 92 ((icell l).drop i) Tryz.underlying84 hsz (by rw [hW]; exact hg) (by rw [hdl]; simp only [Nat.min_def]; split <;> omega) (fun j v hj => ?_) (by rw [hdl, hcs]; omega) hone
    rw [Addr.add_lit]
    rw [List.getElem?_drop, ← ht, List.getElem?_take] at hj
    split at hj
    · simp only [World.cell?, hW, hg]
      simpa using hj
    · cases hj
  have hcp2 : ∀ (W : World), W.heap = (w.setRow g A1).heap → ∀ ty dc, (Builtin.copy_ #[84, 84] ty #[.slice (some ⟨g, i, none⟩) (l.length + 1 - i) dc, .slice (some ⟨B, 0, none⟩) 1 1]).run Tryz.prog W = .ok (goInt 1) (W.setRow g A2) := fun W hW ty dc => by
    rw [hA2]
    refine run_copy_row Tryz.prog W 84 84 ty 92 g i (l.length + 1 - i) dc ⟨B, 0, none⟩ 1 1 A1 92 [.int .i64 x] Tryz.underlying84 hsz (by rw [hW]; exact setRow_heap w g cur _ 92 _ hg) (by simp only [Nat.min_def, List.length_cons, List.length_nil]; split <;> omega) (fun j v hj => ?_) (by simp only [List.length_cons, List.length_nil]; omega) (List.all_eq_true.1 rfl)
    rw [Addr.add_lit]
    simp only [World.cell?, hW, setRow_other w g B _ hBg, hB]
    match j, hj with
    | 0, hj => simpa using hj
  have hw1 : IntKind.i64.wrap ((i : Int) + 1) = (i : Int) + 1 := by rw [IntKind.wrap_i64]; unfold maxLen at hc2; omega
  have hb1 : (0 : Int) ≤ (i : Int) + 1 := by omega
  have htn : ((i : Int) + 1).toNat = i + 1 := by omega
  have hb2 : ¬ (c = i + 1) := by omega
  have hb3 : (i : Int) ≤ (l.length : Int) + 1 := by omega
  have hb4 : ¬ (c = i) := by omega
  have hin : i ≤ l.length := by omega
  have HA1 := stop hA1
  have HA2 := stop hA2
  have HT := stop ht
  have HG := stop hg
  clear hA1 hA2 ht hg
  have hc2 := hcp2 (w.drew.setRow g A1) rfl
  go_enter Tryz.func138, Tryz.ntmps138
  go_wp2_with (simp only [hov])
  go_region_law (refine step_copy_runI rfl _ _ 84 84 rfl (.slice (some ⟨g, i + 1, none⟩) (l.length - i) (c - (i + 1))) (.slice (some ⟨g, i, none⟩) (l.length + 1 - i) (c - i)) (by go_simp) (by go_simp) (hcp1 w.drew rfl _ _ _) ?_)
  go_wp2
  go_ret
  refine ⟨A2, rfl, ?_, by simpa using hs2, ?_, ?_⟩
  · exact setRow_heap (w.drew.setRow g A1) g A1 _ 92 _ (setRow_heap w.drew g cur _ 92 _ HG.out)
  · rw [HA2.out, HA1.out]
    rw [show icell (insL l i x) = (icell l).take i ++ Value.int .i64 x :: (icell l).drop i by simp [icell, insL]]
    exact list_ins cur.toList (icell l) _ i l.length HT.out (by omega) hi
  · exact ⟨rfl, rfl, rfl, by simp, fun k _ hk => (setRow_other _ g k _ (fun e => hk (by rw [e]))).trans (setRow_other _ g k _ (fun e => hk (by rw [e])))⟩

set_option maxRecDepth 100000 in
set_option maxHeartbeats 2000000 in
theorem insGrowB (l : List Nat) (x i : Nat) (hi : i < l.length) (hl : l.length ≤ 1000000) (g c : Nat) (cur : Array Value) (w : World) (hg : w.heap[g]? = some (.cells cur 92 (0, 0))) (hnc : l.length ≤ c) (hc : c < l.length + 1) (hcs : cur.size = c) (ht : cur.toList.take l.length = icell l)
    {B : Nat} {tt : TypeId} (hB : w.heap[B]? = some (.cells #[.int .i64 x] tt (0, 0))) :
    Calls Tryz.prog 138 #[.slice (some ⟨g, 0, none⟩) l.length c, .int .i64 i, .slice (some ⟨B, 0, none⟩) 1 1] w fun e w' => ∃ A G, e = .returned (.slice (some ⟨w.heap.size, 0, none⟩) (l.length + 1) G) ∧ Hid (w'.heap[w.heap.size]? = some (.cells A 92 (0, 0)) ∧ l.length + 1 ≤ G ∧ G ≤ maxLen ∧ A.size = G ∧ A.toList.take (l.length + 1) = icell (insL l i x) ∧ w.grownBy w' none) := by
  obtain ⟨i0, hi0, hz0, hzs, hzb⟩ := info_parts Tryz.info92
  have hlen : (icell l).length = l.length := by simp [icell]
  have hdl : ((icell l).drop i).length = l.length - i := by rw [List.length_drop, hlen]
  have hbw : g < w.heap.size := by
    rcases Nat.lt_or_ge g w.heap.size with h | h
    · exact h
    · rw [Array.getElem?_eq_none h] at hg; cases hg
  have hBw : B < w.heap.size := by
    rcases Nat.lt_or_ge B w.heap.size with h | h
    · exact h
    · rw [Array.getElem?_eq_none h] at hB; cases hB
  have hcells : ∀ j v, (icell l)[j]? = some v → w.cell? ⟨g, j, none⟩ = some v := fun j v hj => by
    rw [← ht, List.getElem?_take] at hj
    split at hj
    · simp only [World.cell?, hg]
      simpa using hj
    · cases hj
  have hsz : (Tryz.prog.info? 92).map (·.size) = some 1 := by rw [hi0]; simp [hzs]
  have hone : ∀ v ∈ (icell l).drop i, v.oneCell' = true := fun v hv => by
    obtain ⟨n, _, rfl⟩ := List.mem_map.1 (List.mem_of_mem_drop hv)
    rfl
  have hold : (Builtin.firstCells i0.size i (.slice (some ⟨g, 0, none⟩) i c)).run Tryz.prog w.drew = .ok ((icell l).take i).toArray w.drew := by
    rw [hzs]
    exact run_firstCells_some w.drew 1 i ⟨g, 0, none⟩ i c ((icell l).take i) (by rw [List.length_take, hlen]; omega) (fun j v hj => by
      rw [Addr.add_lit, Nat.zero_add]
      rw [List.getElem?_take] at hj
      split at hj
      · exact hcells j v hj
      · cases hj)
  obtain ⟨G, hG⟩ : ∃ G, G = grownCap w (l.length + 1) c 92 := ⟨_, rfl⟩
  have hGn : l.length + 1 ≤ G := by rw [hG]; exact grownCap_ge w _ _ _
  have hGm : G ≤ maxLen := by rw [hG]; exact grownCap_le_maxLen w (l.length + 1) c 92 (by unfold maxLen; omega)
  obtain ⟨ROW, hROW⟩ : ∃ ROW : Array Value, ROW = ((icell l).take i).toArray ++ Builtin.zeroCells (Value.int .i64 0).cells (l.length + 1 - i) ++ Builtin.zeroCells (Value.int .i64 0).cells (G - (l.length + 1)) := ⟨_, rfl⟩
  have hkk : (l.length : Int) + 1 - (i : Int) = ((l.length + 1 - i : Nat) : Int) := by omega
  have hik : i + (l.length + 1 - i) = l.length + 1 := by omega
  have hrz : ∀ ty, (Builtin.append_ #[84, 3] ty #[.slice (some ⟨g, 0, none⟩) i c, .int .i64 ((l.length : Int) + 1 - (i : Int))]).run Tryz.prog w =
      .ok (.slice (some ⟨w.heap.size, 0, none⟩) (l.length + 1) G) (w.drew.alloc (.cells ROW 92)) := fun ty => by
    have h := Lib.run_append_grow_zeros w 84 3 ty 92 i0 _ .i64 .i64 Tryz.underlying84 Tryz.underlying3 hi0 hz0 (some ⟨g, 0, none⟩) i c ((icell l).take i) hold (l.length + 1 - i) (by omega) (by omega) (by omega) (by omega) (by rw [hzb]; omega) (by rw [hzb, hik]; exact growslice_fits (by omega) (by omega))
    rw [hik, ← hG, ← hROW] at h
    rw [hkk]
    exact h
  have hRs : ROW.size = G := by
    rw [hROW]
    simp [Builtin.zeroCells, Value.cells, hlen]
    omega
  obtain ⟨A1, hA1⟩ : ∃ A1 : Array Value, A1 = (ROW.toList.take i ++ [Value.int .i64 x] ++ ROW.toList.drop (i + 1)).toArray := ⟨_, rfl⟩
  obtain ⟨A2, hA2⟩ : ∃ A2 : Array Value, A2 = (A1.toList.take (i + 1) ++ (icell l).drop i ++ A1.toList.drop (i + 1 + ((icell l).drop i).length)).toArray := ⟨_, rfl⟩
  have hs1 : A1.size = G := by
    rw [hA1]; simp only [List.size_toArray, List.length_append, List.length_take, List.length_drop, List.length_cons, List.length_nil, Array.length_toList, hRs]; omega
  have hs2 : A2.size = G := by
    rw [hA2]; simp only [List.size_toArray, List.length_append, List.length_take, List.length_drop, hlen, Array.length_toList, hs1]; omega
  have hn0 : (w.alloc (.cells ROW 92)).drew.heap[w.heap.size]? = some (.cells ROW 92 (0, 0)) := heap_alloc_new w _
  have hnB : (w.alloc (.cells ROW 92)).drew.heap[B]? = some (.cells #[.int .i64 x] tt (0, 0)) := (Below.heap_alloc w _ B hBw).trans hB
  have hng : (w.alloc (.cells ROW 92)).drew.heap[g]? = some (.cells cur 92 (0, 0)) := (Below.heap_alloc w _ g hbw).trans hg
  obtain ⟨W1, hW1⟩ : ∃ W1, W1 = (w.alloc (.cells ROW 92)).drew := ⟨_, rfl⟩
  rw [← hW1] at hn0 hnB hng
  have hcA : ∀ ty dc, (Builtin.copy_ #[84, 84] ty #[.slice (some ⟨w.heap.size, i, none⟩) (l.length + 1 - i) dc, .slice (some ⟨B, 0, none⟩) 1 1]).run Tryz.prog W1 = .ok (goInt 1) (W1.setRow w.heap.size A1) := fun ty dc => by
    rw [hA1]
    refine run_copy_row Tryz.prog W1 84 84 ty 92 w.heap.size i (l.length + 1 - i) dc ⟨B, 0, none⟩ 1 1 ROW 92 [.int .i64 x] Tryz.underlying84 hsz hn0 (by simp only [Nat.min_def, List.length_cons, List.length_nil]; split <;> omega) (fun j v hj => ?_) (by simp only [List.length_cons, List.length_nil]; omega) (List.all_eq_true.1 rfl)
    rw [Addr.add_lit]
    simp only [World.cell?, hnB]
    match j, hj with
    | 0, hj => simpa using hj
  have hcB : ∀ (W : World), W.heap = (W1.setRow w.heap.size A1).heap → ∀ ty dc sc, (Builtin.copy_ #[84, 84] ty #[.slice (some ⟨w.heap.size, i + 1, none⟩) (l.length - i) dc, .slice (some ⟨g, i, none⟩) (l.length - i) sc]).run Tryz.prog W = .ok (goInt ((icell l).drop i).length) (W.setRow w.heap.size A2) := fun W hW ty dc sc => by
    rw [hA2]
    refine run_copy_row Tryz.prog W 84 84 ty 92 w.heap.size (i + 1) _ dc ⟨g, i, none⟩ _ sc A1 92 ((icell l).drop i) Tryz.underlying84 hsz (by rw [hW]; exact setRow_heap W1 _ ROW _ 92 _ hn0) (by rw [hdl]; simp) (fun j v hj => ?_) (by rw [hdl]; omega) hone
    rw [Addr.add_lit]
    rw [List.getElem?_drop] at hj
    have h2 := hcells _ _ hj
    simp only [World.cell?, hW, setRow_other W1 w.heap.size g _ (by omega), hng]
    simpa [World.cell?, hg] using h2
  have hw1 : IntKind.i64.wrap ((i : Int) + 1) = (i : Int) + 1 := by rw [IntKind.wrap_i64]; omega
  have hb1 : (0 : Int) ≤ (i : Int) + 1 := by omega
  have htn : ((i : Int) + 1).toNat = i + 1 := by omega
  have hGi : ¬ (G = i) := by omega
  have hGim : ¬ (G = i + 1) := by omega
  have hci : ¬ (c = i) := by omega
  have hin : i ≤ l.length := by omega
  have hz2 : ¬ ((i : Int) = (l.length : Int)) := by omega
  have hz3 : (c : Int) < (l.length : Int) + 1 := by omega
  have hG63 : G ≤ 9223372036854775807 := by unfold maxLen at hGm; omega
  have HH := stop (And.intro hA1 (And.intro hA2 (And.intro ht (And.intro hg (And.intro hn0 (And.intro hROW (And.intro hs2 hRs)))))))
  have HW := stop hW1
  have HGM := stop hGm
  clear hA1 hA2 ht hg hn0 hnB hng hROW hG hkk hik hold hs1 hs2 hi0 hz0 hzs hzb hcs hdl hB hRs hGm
  subst hW1
  have hc2 := hcB (((w.alloc (.cells ROW 92)).drew.setRow w.heap.size A1).drew) rfl
  go_enter Tryz.func138, Tryz.ntmps138
  go_wp2_with (at_builtin; refine Lib.wpList_append_run _ rfl _ _ _ _ rfl _ _ rfl rfl _ _ (hrz _) ?_)
  go_region_law (refine step_copy_runI rfl _ _ 84 84 rfl (.slice (some ⟨w.heap.size, i + 1, none⟩) (l.length - i) (G - (i + 1))) (.slice (some ⟨g, i, none⟩) (l.length - i) (c - i)) (by go_simp) (by go_simp) (hcB (((w.alloc (.cells ROW 92)).drew.setRow w.heap.size A1).drew) rfl _ _ _) ?_)
  go_wp2
  go_ret
  obtain ⟨hA1, hA2, ht, hg, hn0, hROW, hs2, hRs⟩ := HH.out
  refine ⟨A2, G, rfl, ?_, hGn, HGM.out, hs2, ?_, ?_⟩
  · exact setRow_heap _ _ A1 _ 92 _ (setRow_heap _ _ ROW _ 92 _ hn0)
  · have hlr : ROW.toList.take i = (icell l).take i := by
      rw [hROW]
      simp only [Array.toList_append, List.append_assoc]
      rw [List.take_left' (by rw [List.length_take, hlen]; omega)]
    rw [show icell (insL l i x) = (icell l).take i ++ Value.int .i64 x :: (icell l).drop i by simp [icell, insL]]
    have e1 : A1.toList.take (i + 1) = (icell l).take i ++ [Value.int .i64 x] := by
      rw [hA1, hlr]
      exact List.take_left' (by rw [List.length_append, List.length_take, hlen]; simp; omega)
    rw [hA2, e1]
    rw [List.take_left' (by simp [hlen]; omega)]
    simp
  · refine ⟨rfl, rfl, rfl, by simp, fun k hk _ => ?_⟩
    rw [setRow_other _ _ k _ (by omega)]
    show ((w.alloc (.cells ROW 92)).drew.setRow w.heap.size A1).heap[k]? = _
    rw [setRow_other _ _ k _ (by omega)]
    exact Below.heap_alloc w _ k hk

theorem insB (l : List Nat) (x i : Nat) (hi : i ≤ l.length) (base : Nat) (v : Value) (w : World) (h : w.ownsRow base 92 1 v l.length (icell l)) (hl : l.length ≤ 1000000) (hb : base ≤ w.heap.size)
    {B : Nat} {tt : TypeId} (hB : w.heap[B]? = some (.cells #[.int .i64 x] tt (0, 0))) (hBv : v.ownBlock ≠ some B) :
    Calls Tryz.prog 138 #[v, .int .i64 i, .slice (some ⟨B, 0, none⟩) 1 1] w fun e w' => ∃ v', e = .returned v' ∧ w'.ownsRow base 92 1 v' (insL l i x).length (icell (insL l i x)) ∧ w.grownBy w' v.ownBlock ∧ NewOr w v v' := by
  have hil : (insL l i x).length = l.length + 1 := by simp [insL]; omega
  rw [hil]
  by_cases he : i = l.length
  · subst he
    rw [show insL l l.length x = l ++ [x] by simp [insL]]
    exact insEndB l x base v w h hl hb hB
  · rcases h.2 with ⟨rfl, h0⟩ | ⟨g, c, cur, rfl, hbg, hg, hnc, hcm, hcs, ht⟩
    · omega
    · rw [Nat.mul_one] at hcs ht
      by_cases hr : l.length + 1 ≤ c
      · refine (insRoomB l x i (by omega) g c cur w hg hr hcm hcs ht hB (fun e => hBv (by rw [e]; rfl))).mono ?_
        rintro e w' ⟨A, rfl, hh⟩
        obtain ⟨a1, a2, a3, a4⟩ := hh.out
        refine ⟨_, rfl, ⟨by simp [icell, hil], .inr ⟨g, c, A, rfl, hbg, a1, hr, hcm, by omega, by rw [Nat.mul_one]; exact a3⟩⟩, a4, .inl rfl⟩
      · refine (insGrowB l x i (by omega) hl g c cur w hg hnc (by omega) hcs ht hB).mono ?_
        rintro e w' ⟨A, G, rfl, hh⟩
        obtain ⟨a1, a2, a3, a4, a5, a6⟩ := hh.out
        refine ⟨_, rfl, ⟨by simp [icell, hil], .inr ⟨w.heap.size, G, A, rfl, hb, a1, a2, a3, by omega, by rw [Nat.mul_one]; exact a5⟩⟩, ⟨a6.os, a6.tape, a6.output, a6.size, fun k hk _ => a6.block k hk (by simp)⟩, .inr ⟨_, rfl, Nat.le_refl _⟩⟩


set_option maxRecDepth 100000 in
set_option maxHeartbeats 2000000 in
theorem addNewFB (l : List Nat) (x : Nat) (hx : Hid (x ∉ l)) (hsrt : Hid (l.Pairwise (· < ·))) (pb po base : Nat) (v : Value) (w : World) (hp : w.cell? ⟨pb, po, none⟩ = some v) (hf : w.frozen? ⟨pb, po, none⟩ = false) (h : w.ownsRow base 92 1 v l.length (icell l)) (hl : l.length ≤ 1000000) (hb : base ≤ w.heap.size) (hpv : Hid (v.ownBlock ≠ some pb)) :
    Calls Tryz.prog 101 #[.pointer (some ⟨pb, po, none⟩), .int .i64 x] w fun e w' => e = .returned (.bool true) ∧ ∃ i v', Hid (i ≤ l.length ∧ Splits l x i ∧ w'.ownsRow base 92 1 v' (insL l i x).length (icell (insL l i x)) ∧ Put pb po v v' w w') := by
  go_enter Tryz.func101, Tryz.ntmps101
  go_wp2_with fail
  refine (bsearchB l x hsrt base v w h hl).mono ?_
  rintro e w1 ⟨rfl, i, hi, hsp, rfl⟩
  rw [found_false hx.out]
  have hpb : pb < w1.heap.size := World.block_lt_of_cell? _ _ hp
  have HP := stop hpv.out
  have HF := stop hf
  have HI := stop (And.intro hi hsp)
  clear hsp hf hx hsrt hpv
  go_wp2_with fail
  refine (insB l x i hi (base := base) (v := v) (w1.alloc (.cells #[.int .i64 x] 92)) (h.alloc _) hl (by simp; omega) (heap_alloc_new _ _) (fun e => by obtain ⟨_, h2⟩ := World.ownsRow.lt h _ e; omega)).mono ?_
  rintro e w2 ⟨v2, rfl, o2, g2, n2⟩
  obtain ⟨p2, c2, rfl⟩ := owns_slice2 o2
  have hb2 : w2.heap[pb]? = w1.heap[pb]? := (g2.block pb (by simp; omega) (fun e => HP.out e.symm)).trans (Below.heap_alloc _ _ _ hpb)
  have hp2 : w2.cell? ⟨pb, po, none⟩ = some v := by rw [World.cell?_of_block (w := w1) hb2]; exact hp
  have hf2 : w2.frozen? ⟨pb, po, none⟩ = false := by rw [World.frozen?_of_block (w := w1) hb2]; exact HF.out
  have HR := stop (And.intro o2 (And.intro g2 n2))
  clear o2 g2 n2 hb2 hp h
  go_wp2_with fail
  go_ret
  obtain ⟨o2, g2, n2⟩ := HR.out
  refine ⟨rfl, _, _, HI.out.1, HI.out.2, owns_put o2 n2 hpb HP.out, put_of g2 hpb HP.out n2⟩


end Go.Proofs.YtgfhfkgdmidhpaaGreat

namespace Go.Proofs.YtgfhfkgdmidhpaaGreat
open Go.RowKit

theorem ins_mem {l : List Nat} {x i y : Nat} : y ∈ insL l i x ↔ y = x ∨ y ∈ l := by
  rw [insL, List.mem_append, List.mem_cons]
  constructor
  · rintro (h | h | h)
    · exact .inr (List.mem_of_mem_take h)
    · exact .inl h
    · exact .inr (List.mem_of_mem_drop h)
  · rintro (h | h)
    · exact .inr (.inl h)
    · rw [← List.take_append_drop i l, List.mem_append] at h
      rcases h with h | h
      · exact .inl h
      · exact .inr (.inr h)
theorem ins_srt {l : List Nat} {x i : Nat} (h : l.Pairwise (· < ·)) (hx : x ∉ l) (hs : Splits l x i) : (insL l i x).Pairwise (· < ·) := by
  rw [insL, List.pairwise_append, List.pairwise_cons]
  have hlow : ∀ a ∈ l.take i, a < x := fun a ha => by
    obtain ⟨k, hk, rfl⟩ := List.getElem_of_mem ha
    rw [List.length_take] at hk
    rw [List.getElem_take]
    exact hs.1 k (by omega) (by omega)
  have hhigh : ∀ b ∈ l.drop i, x < b := fun b hb => by
    obtain ⟨k, hk, rfl⟩ := List.getElem_of_mem hb
    rw [List.length_drop] at hk
    rw [List.getElem_drop]
    have h1 := hs.2 (i + k) (by omega) (by omega)
    have h2 : l[i + k] ≠ x := fun e => hx (by rw [← e]; exact List.getElem_mem _)
    omega
  refine ⟨h.sublist (List.take_sublist _ _), ⟨hhigh, h.sublist (List.drop_sublist _ _)⟩, fun a ha b hb => ?_⟩
  rcases List.mem_cons.1 hb with rfl | hb
  · exact hlow a ha
  · exact Nat.lt_trans (hlow a ha) (hhigh b hb)
/-- The blocks behind one that ends so, rising. -/
def bhd (e : REnd) : List Nat := ofL ((goalsF e).map (·.1))
theorem bhd_srt (e) : (bhd e).Pairwise (· < ·) := ofL_srt _
theorem bhd_mem {e x} : x ∈ bhd e ↔ ∃ p ∈ goalsF e, p.1 = x := by rw [bhd, ofL_mem, List.mem_map]
theorem two (w : World) (o0 o1 : Obj) : ((w.alloc o0).alloc o1).heap[w.heap.size]? = some o0 ∧ ((w.alloc o0).alloc o1).heap[w.heap.size + 1]? = some o1 ∧ ((w.alloc o0).alloc o1).heap.size = w.heap.size + 2 ∧ Below w.heap.size w ((w.alloc o0).alloc o1) := by
  have h1 := heap_alloc_last (w.alloc o0) o1
  rw [World.size_alloc] at h1
  exact ⟨blk_alloc (heap_alloc_last _ _) _, h1, by simp, (((Below.refl _ _).alloc (Nat.le_refl _) _).alloc (by simp) _)⟩

/-- The first goals, as a set. -/
def gset (gl : List (Nat × Nat)) (k : Nat) : List Nat := ofL ((gl.take k).map (·.1))
theorem gset_all (e) : gset (goalsF e) (goalsF e).length = bhd e := by rw [gset, List.take_length, bhd]
theorem gset_srt (gl k) : (gset gl k).Pairwise (· < ·) := ofL_srt _
theorem gset_next {gl : List (Nat × Nat)} {k x : Nat} (hk : k < gl.length) : x ∈ gset gl (k + 1) ↔ x = gl[k].1 ∨ x ∈ gset gl k := by
  rw [gset, gset, ofL_mem, ofL_mem, List.take_succ_eq_append_getElem hk, List.map_append, List.mem_append]
  simp [or_comm]
theorem gset_old {gl : List (Nat × Nat)} {k : Nat} (hk : k < gl.length) (h : gl[k].1 ∈ gset gl k) : gset gl (k + 1) = gset gl k :=
  srt_ext (gset_srt _ _) (gset_srt _ _) fun x => by
    rw [gset_next hk]
    constructor
    · rintro (rfl | h1)
      · exact h
      · exact h1
    · exact .inr
theorem gset_new {gl : List (Nat × Nat)} {k i : Nat} (hk : k < gl.length) (h : gl[k].1 ∉ gset gl k) (hs : Splits (gset gl k) gl[k].1 i) : gset gl (k + 1) = insL (gset gl k) i gl[k].1 :=
  srt_ext (gset_srt _ _) (ins_srt (gset_srt _ _) h hs) fun x => by rw [gset_next hk, ins_mem]
theorem ofL_len (l : List Nat) : (ofL l).length ≤ l.length := by
  have h1 : (ofL l).length = (Lib.compact (srtL l)).length := by simp [ofL]
  rw [h1]
  exact Nat.le_trans (cmp_len _) (by rw [srtL_len]; exact Nat.le_refl _)
theorem gset_len (gl k) : (gset gl k).length ≤ gl.length := by
  refine Nat.le_trans (ofL_len _) ?_
  rw [List.length_map, List.length_take]; omega
theorem row_one {w : World} {base k : Nat} {v : Value} {t : TypeId} (h : w.heap[k]? = some (.cells #[v] t (0, 0))) (hb : base ≤ k) : w.ownsRow base t 1 (.slice (some ⟨k, 0, none⟩) 1 1) 1 [v] :=
  ⟨rfl, .inr ⟨k, 1, #[v], rfl, hb, h, Nat.le_refl _, by decide, rfl, rfl⟩⟩
theorem put_cell {w w' : World} {pb : Nat} {v v' : Value} {t : TypeId} (h : w.heap[pb]? = some (.cells #[v] t (0, 0))) (hp : Put pb 0 v v' w w') : w'.heap[pb]? = some (.cells #[v'] t (0, 0)) := by
  rw [hp.at_, blk_set h 0 v']
  rfl
theorem put_own {w w' : World} {pb : Nat} {v v' : Value} (hp : Put pb 0 v v' w w') (hb : pb < w.heap.size) (hv : v.ownBlock ≠ some pb) : v'.ownBlock ≠ some pb := by
  rcases hp.new with h | ⟨g, h, hg⟩
  · rw [h]; exact hv
  · rw [h]; intro e; cases e; omega

/-- The goals of an end, by its method. -/
theorem goalsM2 (e : REnd) (hop : e.op = 46 ∨ e.op = 62 ∨ e.op = 63) : ∃ T x fn, endVal e = .iface T x ∧ (∀ w : World, (method 429 T x "Goals").run Tryz.prog w = .ok (fn, x) w) ∧ (∀ args (w : World), (callFunc fn args).run Tryz.prog w = .ok (.enter fn args) w) ∧
    ∀ w : World, Calls Tryz.prog fn #[x] w fun r w' => ∃ v, r = .returned v ∧ w'.ownsRow w.heap.size 127 2 v (goalsF e).length (pcs (goalsF e)) ∧ Below w.heap.size w w' := by
  rcases hop with hop | hop | hop
  · obtain ⟨a1, a2⟩ := endStop hop
    refine ⟨_, _, 228, a1, fun w => by kernel_rfl, enters_of Tryz.func228 (by kernel_rfl) rfl, fun w => (goalsK96 w).mono ?_⟩
    rintro r w' ⟨rfl, f⟩
    rw [a2]
    exact ⟨_, rfl, World.ownsRow_nil _ _ _ _, f⟩
  · obtain ⟨a1, a2⟩ := endJump hop
    refine ⟨_, _, 232, a1, fun w => by kernel_rfl, enters_of Tryz.func232 (by kernel_rfl) rfl, fun w => (goalsK97 _ _ w).mono ?_⟩
    rintro r w' ⟨g, rfl, o, f⟩
    rw [a2]
    exact ⟨_, rfl, o, f⟩
  · obtain ⟨a1, a2⟩ := endFork hop
    refine ⟨_, _, 240, a1, fun w => by kernel_rfl, enters_of Tryz.func240 (by kernel_rfl) rfl, fun w => (goalsK100 _ _ _ _ _ _ w).mono ?_⟩
    rintro r w' ⟨g, rfl, o, f⟩
    rw [a2]
    exact ⟨_, rfl, o, f⟩

set_option maxRecDepth 100000 in
set_option maxHeartbeats 4000000 in
theorem bhdP (e : REnd) (hop : e.op = 46 ∨ e.op = 62 ∨ e.op = 63) (at_ : Nat) (qc : Option Addr) (mc cc : Nat) (ps : Option Addr) (ms cs : Nat) (w : World) :
    Calls Tryz.prog 86 #[.agg #[.int .i64 at_, .slice qc mc cc, .slice ps ms cs, endVal e]] w fun x w' => ∃ v', x = .returned (.agg #[v']) ∧ w'.ownsRow w.heap.size 92 1 v' (bhd e).length (icell (bhd e)) ∧ Below w.heap.size w w' := by
  obtain ⟨T, x, fn, hev, hmt, hent, hcall⟩ := goalsM2 e hop
  rw [hev]
  have HC := stop hcall
  have HM := stop hmt
  have HT := stop hent
  have HE := stop (gset_all e)
  have hgl2 := goalsF_le e
  obtain ⟨gl, hgl⟩ : ∃ gl, gl = goalsF e := ⟨_, rfl⟩
  rw [← hgl] at HE hgl2 HC
  clear hcall hev hmt hent hop hgl
  go_enter Tryz.func86, Tryz.ntmps86
  go_wp2_with fail
  rw [HM.out, Result.andThen_ok]
  simp only [HT.out]
  unfold Oper.upon
  obtain ⟨W3, hW3⟩ : ∃ W3, W3 = ((w.alloc (.cells #[.int .i64 at_, .slice qc mc cc, .slice ps ms cs, .iface T x] 69)).alloc (.cells #[.slice none 0 0] 86)).alloc (.cells #[.slice none 0 0] 86) := ⟨_, rfl⟩
  rw [← hW3]
  obtain ⟨_, g1, g2, hz, f3⟩ := three w (.cells #[.int .i64 at_, .slice qc mc cc, .slice ps ms cs, .iface T x] 69) (.cells #[.slice none 0 0] 86) (.cells #[.slice none 0 0] 86)
  rw [← hW3] at g1 g2 hz f3
  clear hW3
  refine (HC.out _).mono ?_
  rintro r w5 ⟨vg, rfl, OG, f5⟩
  have hs5 := f5.size
  have B0 : Hid (w5.heap[w.heap.size + 1]? = some (.cells #[.slice none 0 0] 86 (0, 0)) ∧ w5.heap[w.heap.size + 1 + 1]? = some (.cells #[.slice none 0 0] 86 (0, 0)) ∧ w5.ownsRow (w.heap.size + 3) 127 2 vg gl.length (pcs gl) ∧ Below w.heap.size w w5 ∧ w.heap.size + 3 ≤ w5.heap.size) :=
    ⟨by rw [f5.block _ (by omega)]; exact g1, by rw [f5.block _ (by omega)]; exact g2, owns_base OG (by omega), f3.trans (f5.mono (by omega)), by omega⟩
  obtain ⟨pg, cg, rfl⟩ := owns_slice2 OG
  clear g1 g2 f3 f5 hs5 hz HC HM HT OG
  go_wp2_with fail
  go_loopw [10] (fun i wr => ∃ (k : Nat) (v : Value), k ≤ gl.length ∧ i = .int .i64 k ∧ Hid (wr.heap[w.heap.size + 1]? = some (.cells #[.slice none 0 0] 86 (0, 0)) ∧ wr.heap[w.heap.size + 1 + 1]? = some (.cells #[v] 86 (0, 0)) ∧ wr.ownsRow (w.heap.size + 3) 92 1 v (gset gl k).length (icell (gset gl k)) ∧ wr.ownsRow (w.heap.size + 3) 127 2 (.slice pg gl.length cg) gl.length (pcs gl) ∧ v.ownBlock ≠ some (w.heap.size + 1 + 1) ∧ Below w.heap.size w wr ∧ w.heap.size + 3 ≤ wr.heap.size)) (fun i _ => gl.length - (intOf i).toNat)
  case atStart => exact ⟨0, _, by omega, rfl, B0.out.1, B0.out.2.1, by simpa [gset, ofL, srtL, castL, Lib.compact, Lib.compactUpTo, icell] using World.ownsRow_nil _ _ _ _, B0.out.2.2.1, by simp [Value.ownBlock], B0.out.2.2.2.1, B0.out.2.2.2.2⟩
  case round =>
    clear B0
    obtain ⟨k, v, hk, rfl, HR⟩ := hrel
    obtain ⟨r1, r2, rv, rg, rn, rf, rz⟩ := HR.out
    by_cases hlt : k < gl.length
    · obtain ⟨gg, rfl, _, hgs⟩ := owns_form rg (by omega)
      have c0 := owns_cell rg (pcs_at hlt).1
      have c1 := owns_cell rg (pcs_at hlt).2
      have HZ := stop (And.intro r1 (And.intro r2 (And.intro rv (And.intro rg (And.intro rn rf)))))
      have hle : (gset gl k).length ≤ 1000000 := Nat.le_trans (gset_len _ _) (by omega)
      clear HR r1 r2 rv rg rn rf
      go_wp2_with fail
      obtain ⟨r1, r2, rv, rg, rn, rf⟩ := HZ.out
      obtain ⟨WW, hWW⟩ : ∃ WW, WW = wr.alloc (.cells #[.int .i64 gl[k].1, .int .i64 gl[k].2] 127) := ⟨_, rfl⟩
      rw [← hWW]
      have q1 : WW.heap[w.heap.size + 1]? = some (.cells #[.slice none 0 0] 86 (0, 0)) := by rw [hWW]; exact blk_alloc r1 _
      have q2 : WW.heap[w.heap.size + 1 + 1]? = some (.cells #[v] 86 (0, 0)) := by rw [hWW]; exact blk_alloc r2 _
      have qv : WW.ownsRow (w.heap.size + 3) 92 1 v (gset gl k).length (icell (gset gl k)) := by rw [hWW]; exact rv.alloc _
      have qg : WW.ownsRow (w.heap.size + 3) 127 2 (.slice (some ⟨gg, 0, none⟩) gl.length cg) gl.length (pcs gl) := by rw [hWW]; exact rg.alloc _
      have qf : Below w.heap.size w WW := by rw [hWW]; exact rf.alloc (by omega) _
      have qz : w.heap.size + 3 ≤ WW.heap.size := by rw [hWW, World.size_alloc]; omega
      have k2 : WW.cell? ⟨w.heap.size + 1 + 1, 0, none⟩ = some v := by have := cell_of q2 0; simpa using this
      have hsrt := stop (gset_srt gl k)
      clear hWW r1 r2 rv rg rf HZ c0 c1
      by_cases hx : gl[k].1 ∈ gset gl k
      · refine (addOldB (gset gl k) gl[k].1 hx hsrt _ 0 _ v WW k2 qv hle).mono ?_
        rintro e w7 ⟨rfl, HW⟩
        have H7 : Hid (w7.heap[w.heap.size + 1]? = some (.cells #[.slice none 0 0] 86 (0, 0)) ∧ w7.heap[w.heap.size + 1 + 1]? = some (.cells #[v] 86 (0, 0)) ∧ w7.ownsRow (w.heap.size + 3) 92 1 v (gset gl (k + 1)).length (icell (gset gl (k + 1))) ∧ w7.ownsRow (w.heap.size + 3) 127 2 (.slice (some ⟨gg, 0, none⟩) gl.length cg) gl.length (pcs gl) ∧ v.ownBlock ≠ some (w.heap.size + 1 + 1) ∧ Below w.heap.size w w7 ∧ w.heap.size + 3 ≤ w7.heap.size) := by
          rw [HW.out, gset_old hlt hx]
          exact ⟨q1, q2, qv, qg, rn, qf, qz⟩
        clear q1 q2 qv qg qf qz k2 hx HW rn
        go_wp2_with fail
        go_roundw
        case rel => exact ⟨k + 1, v, by omega, by go_num, H7⟩
        case measure => simp [intOf]; omega
      · refine (addNewFB (gset gl k) gl[k].1 hx hsrt _ 0 _ v WW k2 (frozen_of q2 0) qv hle qz rn).mono ?_
        rintro e w7 ⟨rfl, i7, v7, H⟩
        have H7 : Hid (w7.heap[w.heap.size + 1]? = some (.cells #[.slice none 0 0] 86 (0, 0)) ∧ w7.heap[w.heap.size + 1 + 1]? = some (.cells #[v7] 86 (0, 0)) ∧ w7.ownsRow (w.heap.size + 3) 92 1 v7 (gset gl (k + 1)).length (icell (gset gl (k + 1))) ∧ w7.ownsRow (w.heap.size + 3) 127 2 (.slice (some ⟨gg, 0, none⟩) gl.length cg) gl.length (pcs gl) ∧ v7.ownBlock ≠ some (w.heap.size + 1 + 1) ∧ Below w.heap.size w w7 ∧ w.heap.size + 3 ≤ w7.heap.size) := by
          obtain ⟨_, hsp, o7, hp⟩ := H.out
          rw [gset_new hlt hx hsp]
          refine ⟨?_, put_cell q2 hp, o7, ?_, put_own hp (lt_of_block q2) rn, ?_, Nat.le_trans qz hp.size⟩
          · rw [hp.block _ (by omega) (by omega) (fun e => by have := (qv.lt _ e.symm).1; omega)]; exact q1
          · exact owns_keeps qg (Keeps.put (T := fun t => t = 127) (row_one (base := 0) q2 (Nat.zero_le _)) qv hp (by simp) (by simp)) rfl
          · exact Put.below qf (by omega) (owns_base qv (by omega)) hp (by omega)
        clear q1 q2 qv qg qf qz k2 hx H rn
        go_wp2_with fail
        go_roundw
        case rel => exact ⟨k + 1, v7, by omega, by go_num, H7⟩
        case measure => simp [intOf]; omega
    · have hke : k = gl.length := by omega
      subst hke
      obtain ⟨pv, cv, rfl⟩ := owns_slice2 rv
      have k1 := cell_of r1 0
      have k1f := frozen_of r1 0
      have k2 := cell_of r2 0
      simp at k1 k2
      have F6 : Hid ((wr.setCell ⟨w.heap.size + 1, 0, none⟩ (.slice pv (gset gl gl.length).length cv)).ownsRow w.heap.size 92 1 (.slice pv (gset gl gl.length).length cv) (gset gl gl.length).length (icell (gset gl gl.length)) ∧ Below w.heap.size w (wr.setCell ⟨w.heap.size + 1, 0, none⟩ (.slice pv (gset gl gl.length).length cv))) :=
        ⟨owns_base (owns_setk rv _ 0 _ (by omega)) (by omega), below_set rf _ _ _ (by omega)⟩
      rw [HE.out] at F6 k2
      clear HR r1 r2 rv rg rn rf
      go_wp2_with fail
      refine bodyPost_ret (v := .agg #[.slice pv (bhd e).length cv]) (by simp [results, Tryz.results86, go_sem, k1]) rfl ⟨_, rfl, ?_, ?_⟩
      · exact F6.out.1
      · exact F6.out.2

end Go.Proofs.YtgfhfkgdmidhpaaGreat
