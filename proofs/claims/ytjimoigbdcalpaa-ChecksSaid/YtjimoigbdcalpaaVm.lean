import Derived.Test.YtjimoigbdcalpaaVl
namespace Go.Proofs.Ytjimoigbdcalpaa
open Go.RowKit

set_option maxRecDepth 100000 in
set_option maxHeartbeats 2000000 in
theorem cloneB (l : List Nat) (base : Nat) (v : Value) (w : World) (h : w.ownsRow base 67 1 v l.length (icell l)) (hl : l.length ≤ 1000000) : 
    Calls Try.prog 35 #[v] w fun e w' => ∃ v', e = .returned v' ∧ w'.ownsRow w.heap.size 67 1 v' l.length (icell l) ∧ Below w.heap.size w w' := by
  have HO := stop h
  rcases h.2 with ⟨rfl, h0⟩ | ⟨g, c, cur, rfl, hbg, hg, hnc, hcm, hcs, ht⟩
  · have he : ∀ w, (binOp BinOp.eql 73 (.slice none 0 0) (.slice none 0 0)).run Try.prog w = .ok (.bool true) w := fun w => by kernel_rfl
    go_enter Try.func35, Try.ntmps35
    go_wp2_with (at_builtin; refine unstop ?_)
    go_ret
    exact ⟨_, rfl, ⟨HO.out.1, HO.out.2.imp id (fun ⟨_, _, _, e, _⟩ => by cases e)⟩, Below.refl _ _⟩
  · clear h
    have HG := stop hg
    clear hg ht
    have he : ∀ w, (binOp BinOp.eql 73 (.slice (some ⟨g, 0, none⟩) l.length c) (.slice none 0 0)).run Try.prog w = .ok (.bool false) w := fun w => by kernel_rfl
    go_enter Try.func35, Try.ntmps35
    go_wp2_with (at_builtin; refine unstop ?_)
    refine stop ?_
    obtain ⟨I, Hi, Hz, Hs, Hb⟩ := info_parts Try.info67
    refine wpList_append_own _ rfl _ _ 73 rfl w.heap.size 67 I (.int .i64 0) 1 8 Try.underlying73 Hi Hz Hs Hb rfl (by decide) (.slice (some ⟨w.heap.size, 0, none⟩) 0 0) 0 [] rfl (World.ownsRow_made w #[] 0 (Nat.le_refl _) (by decide) rfl) ⟨g, 0, none⟩ l.length c (icell l) rfl (by simp [icell]) (fun j u hj => ?_) (fun u hu => ?_) (by unfold maxLen; omega) (by omega) (by simp) ?_
    · exact (HO.out.alloc (.cells #[] 67)).cells rfl j u hj
    · obtain ⟨n, _, rfl⟩ := List.mem_map.1 hu
      rfl
    · intro v1 w1 o1 g1 _
      rw [Nat.zero_add, List.nil_append] at o1
      have O1 := stop (And.intro o1 g1)
      clear o1 g1
      go_wp2_with fail
      go_ret
      exact ⟨v1, rfl, O1.out.1, Below.grown ((Below.refl _ _).alloc (Nat.le_refl _) _) O1.out.2 (by simp) (fun k hk => by cases hk; exact Nat.le_refl _)⟩

set_option maxRecDepth 100000 in
set_option maxHeartbeats 2000000 in
theorem itemsB (l : List Nat) (base : Nat) (v : Value) (w : World) (h : w.ownsRow base 67 1 v l.length (icell l)) (hl : l.length ≤ 1000000) : 
    Calls Try.prog 21 #[.agg #[v]] w fun e w' => ∃ v', e = .returned v' ∧ w'.ownsRow w.heap.size 67 1 v' l.length (icell l) ∧ Below w.heap.size w w' := by
  obtain ⟨p, c, rfl⟩ := owns_slice2 h
  go_enter Try.func21, Try.ntmps21
  go_wp2_with fail
  refine (cloneB l base _ _ (h.alloc _) hl).mono ?_
  rintro e w1 ⟨v1, rfl, o1, f1⟩
  have O1 : Hid (w1.ownsRow w.heap.size 67 1 v1 l.length (icell l) ∧ Below w.heap.size w w1) := ⟨owns_base o1 (by simp), ((Below.refl _ _).alloc (Nat.le_refl _) _).trans (f1.mono (by simp))⟩
  clear o1 f1
  go_wp2_with fail
  go_ret
  exact ⟨v1, rfl, O1.out.1, O1.out.2⟩
end Go.Proofs.Ytjimoigbdcalpaa
