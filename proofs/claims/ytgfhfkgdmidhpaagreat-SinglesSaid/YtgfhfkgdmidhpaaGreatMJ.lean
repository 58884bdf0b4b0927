import Derived.Test.YtgfhfkgdmidhpaaGreatMI
namespace Go.Proofs.YtgfhfkgdmidhpaaGreat
open Go.RowKit

/-- Are two rows of sets the same? -/
def eqTo (X Y : Nat → List Nat) (m : Nat) : Prop := ∀ k, k < m → X k = Y k
theorem eqF_iff {a b : List Nat} : eqF a b = true ↔ a = b := by simp [eqF]

set_option maxRecDepth 100000 in
set_option maxHeartbeats 1000000 in
theorem eqfP (n : Nat) (X Y : Nat → List Nat) (B1 B2 : Nat) (v1 v2 : Value) (w : World) (h1 : SetQ B1 w v1 n X) (h2 : SetQ B2 w v2 n Y) (hX : Hid (∀ k, SM (X k))) (hY : Hid (∀ k, SM (Y k))) (hn : n ≤ 1000) :
    Calls Tryz.prog 224 #[v1, v2, .func (.func 221) #[] #[]] w fun x w' => ∃ bb : Bool, x = .returned (.bool bb) ∧ Hid ((bb = true → eqTo X Y n) ∧ (bb = false → ∃ k, k < n ∧ X k ≠ Y k)) ∧ Below w.heap.size w w' := by
  obtain ⟨p1, c1, rfl⟩ := h1.slice
  obtain ⟨p2, c2, rfl⟩ := h2.slice
  have H0 := stop (And.intro h1 h2)
  clear h1 h2
  go_enter Tryz.func224, Tryz.ntmps224
  go_wp2_with fail
  go_loopw [17] (fun j wr => ∃ k : Nat, k ≤ n ∧ j = .int .i64 k ∧ Hid (eqTo X Y k) ∧ Hid (Below w.heap.size w wr)) (fun j _ => n - (intOf j).toNat)
  case atStart => exact ⟨0, by omega, rfl, (fun k hk => by omega), Below.refl _ _⟩
  case round =>
    obtain ⟨k, hk, rfl, HE, F⟩ := hrel
    have hz := F.out.size
    by_cases hlt : k < n
    · obtain ⟨g1, u1, rfl, _, hg1, cu1, _, o1⟩ := (H0.out.1.keeps F.out).at hlt
      obtain ⟨g2, u2, rfl, _, hg2, cu2, _, o2⟩ := (H0.out.2.keeps F.out).at hlt
      obtain ⟨q1, d1, rfl⟩ := owns_slice2 o1
      obtain ⟨q2, d2, rfl⟩ := owns_slice2 o2
      have al : ∀ o, (wr.alloc o).cell? ⟨g2, k, none⟩ = some (.slice q2 (Y k).length d2) := fun o => by
        rw [World.cell?_of_block (w := wr) (Below.heap_alloc wr o _ hg2)]; exact cu2
      have O1 := stop (And.intro o1 o2)
      have L1 := (hX.out k).len
      have L2 := (hY.out k).len
      clear o1 o2 cu2
      go_wp2_with fail
      obtain ⟨W, hW⟩ : ∃ W, W = (wr.alloc (.cells #[.slice q1 (X k).length d1] 100)).alloc (.cells #[.slice q2 (Y k).length d2] 100) := ⟨_, rfl⟩
      rw [← hW]
      obtain ⟨_, _, hzW, f2⟩ := two wr (.cells #[.slice q1 (X k).length d1] 100) (.cells #[.slice q2 (Y k).length d2] 100)
      rw [← hW] at hzW f2
      refine (sameR (X k) (Y k) B1 B2 _ _ W (owns_keeps O1.out.1 (Keeps.below (T := fun _ => True) f2) trivial) (owns_keeps O1.out.2 (Keeps.below (T := fun _ => True) f2) trivial) (by omega) (by omega)).mono ?_
      rintro e w5 ⟨rfl, f5⟩
      have F5 := stop (F.out.trans ((f2.trans (f5.mono (by omega))).mono hz))
      clear hW f2 f5 O1 al cu1
      cases he : eqF (X k) (Y k) with
      | true =>
        have HE2 : Hid (eqTo X Y (k + 1)) := fun j hj => by
          rcases Nat.lt_succ_iff_lt_or_eq.1 hj with h | rfl
          · exact HE.out j h
          · exact eqF_iff.1 he
        clear he
        go_wp2_with fail
        go_roundw
        case rel => exact ⟨k + 1, by omega, by go_num, HE2, F5⟩
        case measure => simp [intOf]; omega
      | false =>
        have HN : Hid (∃ k, k < n ∧ X k ≠ Y k) := ⟨k, hlt, fun e => by rw [eqF_iff.2 e] at he; cases he⟩
        clear he
        go_wp2_with fail
        go_ret
        exact ⟨false, rfl, ⟨(fun h => by cases h), fun _ => HN.out⟩, F5.out⟩
    · have hke : k = n := by omega
      go_wp2_with fail
      go_ret
      exact ⟨true, rfl, ⟨fun _ => hke ▸ HE.out, fun h => by cases h⟩, F.out⟩

set_option maxHeartbeats 1000000 in
theorem sameM (n : Nat) (X Y : Nat → List Nat) (B1 B2 : Nat) (v1 v2 : Value) (w : World) (h1 : SetQ B1 w v1 n X) (h2 : SetQ B2 w v2 n Y) (hX : Hid (∀ k, SM (X k))) (hY : Hid (∀ k, SM (Y k))) (hn : n ≤ 1000) :
    Calls Tryz.prog 223 #[v1, v2] w fun x w' => ∃ bb : Bool, x = .returned (.bool bb) ∧ Hid ((bb = true → eqTo X Y n) ∧ (bb = false → ∃ k, k < n ∧ X k ≠ Y k)) ∧ Below w.heap.size w w' := by
  obtain ⟨p1, c1, rfl⟩ := h1.slice
  obtain ⟨p2, c2, rfl⟩ := h2.slice
  have H0 := stop (And.intro h1 h2)
  clear h1 h2
  go_enter Tryz.func223, Tryz.ntmps223
  go_wp2_with fail
  refine (eqfP n X Y B1 B2 _ _ w H0.out.1 H0.out.2 hX hY hn).mono ?_
  rintro e w5 ⟨bb, rfl, HB, f5⟩
  have F5 := stop f5
  clear f5
  go_wp2_with fail
  go_ret
  exact ⟨bb, rfl, HB, F5.out⟩

set_option maxHeartbeats 1000000 in
theorem laterP (bs : List RBlk) (X : Nat → List Nat) (i base B pb : Nat) (v vf : Value) (w : World) (hP : PBs w base bs v) (hX : SetQ B w vf bs.length X) (hgl : Hid (∀ b ∈ bs, ∀ p ∈ goalsF b.e, p.1 < bs.length)) (hf : Hid (∀ b ∈ bs, BFine 1000000 b)) (hri : Hid (∀ b ∈ bs, ∀ c ∈ b.chs, (c.gs.map (·.1)).Pairwise (· < ·))) (hg2 : Hid (∀ b ∈ bs, ∀ c ∈ b.chs, c.gs.length ≤ 1000)) (hXs : Hid (∀ k, SM (X k))) (hi : i < bs.length) (hp : w.cell? ⟨pb, 0, none⟩ = some v) :
    Calls Tryz.prog 52 #[.int .i64 i, vf, .pointer (some ⟨pb, 0, none⟩)] w fun x w' => ∃ v', x = .returned (.agg #[v']) ∧ Hid (w'.ownsRow w.heap.size 56 1 v' (atL bs X i).length (icell (atL bs X i)) ∧ Below w.heap.size w w') := by
  obtain ⟨pv, cv, rfl⟩ := hP.slice
  obtain ⟨pf, cf, rfl⟩ := hX.slice
  have hpw : pb < w.heap.size := World.block_lt_of_cell? _ _ hp
  have f1 := (Below.refl w.heap.size w).alloc (Nat.le_refl _) (.cells #[.slice none 0 0] 100)
  have hc : (w.alloc (.cells #[.slice none 0 0] 100)).cell? ⟨pb, 0, none⟩ = some (.slice pv bs.length cv) := (f1.cell (p := ⟨pb, 0, none⟩) hpw).trans hp
  have g1 := heap_alloc_last w (.cells #[.slice none 0 0] 100)
  have hs : (w.alloc (.cells #[.slice none 0 0] 100)).heap.size = w.heap.size + 1 := World.size_alloc _ _
  have H0 := stop (And.intro (hP.keeps (Keeps.below f1)) (And.intro (hX.keeps f1) f1))
  clear hP hX hp f1
  go_enter Tryz.func52, Tryz.ntmps52
  go_wp2_with fail
  generalize w.alloc (.cells #[.slice none 0 0] 100) = W at *
  refine (atEndP bs X i base B _ _ W H0.out.1 H0.out.2.1 hgl hf hri hg2 hXs hi).mono ?_
  rintro e w5 ⟨v5, rfl, H5⟩
  obtain ⟨p5, c5, rfl⟩ := owns_slice2 H5.out.1
  have g5 : w5.heap[w.heap.size]? = some (.cells #[.slice none 0 0] 100 (0, 0)) := by rw [H5.out.2.block _ (by omega)]; exact g1
  have e0 := cell_of g5 0
  have z0 := frozen_of g5 0
  simp at e0
  have R5 : Hid ((w5.setCell ⟨w.heap.size, 0, none⟩ (.slice p5 (atL bs X i).length c5)).heap[w.heap.size]? = some (.cells #[.slice p5 (atL bs X i).length c5] 100 (0, 0)) ∧ (w5.setCell ⟨w.heap.size, 0, none⟩ (.slice p5 (atL bs X i).length c5)).ownsRow w.heap.size 56 1 (.slice p5 (atL bs X i).length c5) (atL bs X i).length (icell (atL bs X i)) ∧ Below w.heap.size w (w5.setCell ⟨w.heap.size, 0, none⟩ (.slice p5 (atL bs X i).length c5))) :=
    ⟨blk_set g5 _ _, owns_setT (owns_base H5.out.1 (by omega)) g5 (by decide), below_set (H0.out.2.2.trans (H5.out.2.mono (by omega))) _ _ _ (Nat.le_refl _)⟩
  clear H0 H5 g5 g1 hc
  go_wp2_with fail
  have k0 := cell_of R5.out.1 0
  simp at k0
  refine bodyPost_ret (v := .agg #[.slice p5 (atL bs X i).length c5]) (by simp [results, Tryz.results52, go_sem, k0]) rfl ⟨_, rfl, R5.out.2.1, R5.out.2.2⟩

end Go.Proofs.YtgfhfkgdmidhpaaGreat
