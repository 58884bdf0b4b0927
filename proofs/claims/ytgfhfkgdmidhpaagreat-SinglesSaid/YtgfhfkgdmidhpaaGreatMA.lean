import Derived.Test.YtgfhfkgdmidhpaaGreatG19
namespace Go.Proofs.YtgfhfkgdmidhpaaGreat
open Go.RowKit

set_option maxRecDepth 100000 in
set_option maxHeartbeats 2000000 in
theorem growR (n : Nat) (w : World) (hn : n ≤ 3000000) :
    Calls Tryz.prog 147 #[.slice none 0 0, .int .i64 n] w fun e w' => ∃ v', e = .returned v' ∧ w'.ownsRow w.heap.size 56 1 v' 0 [] ∧ Below w.heap.size w w' := by
  by_cases h0 : n = 0
  · subst h0
    go_enter Tryz.func147, Tryz.ntmps147
    go_wp2_with fail
    go_ret
    exact ⟨_, rfl, World.ownsRow_nil _ _ _ _, Below.refl _ _⟩
  · obtain ⟨i0, hi0, hz0, hzs, hzb⟩ := info_parts Tryz.info56
    obtain ⟨G, hG⟩ : ∃ G, G = grownCap w n 0 56 := ⟨_, rfl⟩
    have hGn : n ≤ G := by rw [hG]; exact grownCap_ge w _ _ _
    have hGm : G ≤ maxLen := by rw [hG]; exact grownCap_le_maxLen w n 0 56 (by unfold maxLen; omega)
    obtain ⟨ROW, hROW⟩ : ∃ ROW : Array Value, ROW = #[] ++ Builtin.zeroCells (Value.int .i64 0).cells n ++ Builtin.zeroCells (Value.int .i64 0).cells (G - n) := ⟨_, rfl⟩
    have hRs : ROW.size = G := by
      rw [hROW]
      simp [Builtin.zeroCells, Value.cells]
      omega
    have hold : (Builtin.firstCells i0.size 0 (.slice none 0 0)).run Tryz.prog w.drew = .ok #[] w.drew := by rw [hzs]; kernel_rfl
    have hrz : ∀ ty, (Builtin.append_ #[98, 3] ty #[.slice none 0 0, .int .i64 n]).run Tryz.prog w = .ok (.slice (some ⟨w.heap.size, 0, none⟩) n G) (w.drew.alloc (.cells ROW 56)) := fun ty => by
      have h := Lib.run_append_grow_zeros w 98 3 ty 56 i0 _ .i64 .i64 Tryz.underlying98 Tryz.underlying3 hi0 hz0 none 0 0 [] hold n (by omega) (by omega) (by omega) (by omega) (by rw [hzb]; omega) (by rw [hzb, Nat.zero_add]; exact growslice_fits (by omega) (by omega))
      rw [Nat.zero_add, ← hG, ← hROW] at h
      exact h
    have HG := stop (And.intro hG hROW)
    have HO := stop (And.intro hold hi0)
    clear hG hROW hold hi0 hz0 hzs hzb
    go_enter Tryz.func147, Tryz.ntmps147
    go_wp2_with (at_builtin; refine Lib.wpList_append_run _ rfl _ _ _ _ rfl _ _ rfl rfl _ _ (hrz _) ?_)
    go_ret
    refine ⟨_, rfl, ?_, ?_⟩
    · exact ⟨rfl, .inr ⟨w.heap.size, G, ROW, rfl, Nat.le_refl _, heap_alloc_last w.drew _, Nat.zero_le _, hGm, by rw [hRs]; omega, rfl⟩⟩
    · have f := (Below.refl w.heap.size w).alloc (Nat.le_refl _) (.cells ROW 56)
      exact ⟨f.os, f.tape, f.output, f.size, f.block⟩

set_option maxRecDepth 100000 in
set_option maxHeartbeats 4000000 in
theorem concatR (a b : List Nat) (B1 B2 : Nat) (va vb : Value) (w : World) (ha : w.ownsRow B1 56 1 va a.length (icell a)) (hb : w.ownsRow B2 56 1 vb b.length (icell b)) (hla : a.length ≤ 1000000) (hlb : b.length ≤ 1000000)
    (g : Nat) (c : Nat) (hg : w.heap[g]? = some (.cells #[va, vb] 98 (0, 0))) :
    Calls Tryz.prog 123 #[.slice (some ⟨g, 0, none⟩) 2 c] w fun e w' => ∃ v', e = .returned v' ∧ w'.ownsRow w.heap.size 56 1 v' (a ++ b).length (icell (a ++ b)) ∧ Below w.heap.size w w' := by
  obtain ⟨pa, ca, rfl⟩ := owns_slice2 ha
  obtain ⟨pb, cb, rfl⟩ := owns_slice2 hb
  have c0 := cell_of hg 0
  have c1 := cell_of hg 1
  simp at c0 c1
  have hgl : g < w.heap.size := lt_of_block hg
  have HA := stop ha
  have HB := stop hb
  clear ha hb hg
  go_enter Tryz.func123, Tryz.ntmps123
  go_wp2_with fail
  go_loop [3, 11] (fun s i => (i = .int .i64 0 ∧ s = .int .i64 0) ∨ (i = .int .i64 1 ∧ s = .int .i64 a.length) ∨ (i = .int .i64 2 ∧ s = .int .i64 ((a.length + b.length : Nat) : Int))) (fun _ i => 2 - (intOf i).toNat)
  case atStart => exact .inl ⟨rfl, rfl⟩
  case round =>
    rcases hrel with ⟨rfl, rfl⟩ | ⟨rfl, rfl⟩ | ⟨rfl, rfl⟩
    · have hd : decide ((a.length : Int) < 0) = false := by simp
      go_wp2_with fail
      go_round
      case rel => exact .inr (.inl ⟨rfl, by simp⟩)
      case measure => simp [intOf]
    · have hd : decide ((a.length : Int) + (b.length : Int) < 0) = false := by simp; omega
      go_wp2_with fail
      go_round
      case rel => exact .inr (.inr ⟨rfl, by go_num⟩)
      case measure => simp [intOf]
    · go_wp2_with fail
      refine (growR (a.length + b.length) _ (by omega)).mono ?_
      rintro e w1 ⟨v1, rfl, o1, f1⟩
      have F1 := stop f1
      have hz := f1.size
      obtain ⟨p1, q1, rfl⟩ := owns_slice2 o1
      clear f1
      go_wp2_with fail
      go_loopw [6, 27] (fun l i wr => Hid (Below w.heap.size w wr) ∧ w.heap.size ≤ wr.heap.size ∧ ((i = .int .i64 0 ∧ wr.ownsRow w.heap.size 56 1 l 0 []) ∨ (i = .int .i64 1 ∧ wr.ownsRow w.heap.size 56 1 l a.length (icell a)) ∨ (i = .int .i64 2 ∧ wr.ownsRow w.heap.size 56 1 l (a.length + b.length) (icell a ++ icell b)))) (fun _ i _ => 2 - (intOf i).toNat)
      case atStart => exact ⟨F1, hz, .inl ⟨rfl, o1⟩⟩
      case round =>
        clear o1 F1 hz
        obtain ⟨F, hz, hrel⟩ := hrel
        have d0 : wr.cell? ⟨g, 0, none⟩ = _ := (F.out.cell (p := ⟨g, 0, none⟩) hgl).trans c0
        have d1 : wr.cell? ⟨g, 1, none⟩ = _ := (F.out.cell (p := ⟨g, 1, none⟩) hgl).trans c1
        rcases hrel with ⟨rfl, o⟩ | ⟨rfl, o⟩ | ⟨rfl, o⟩
        · obtain ⟨p2, q2, rfl⟩ := owns_slice2 o
          go_wp2_with (at_builtin; refine unstop ?_)
          refine stop ?_
          refine appRow Tryz.underlying98 Tryz.info56 rfl rfl _ _ rfl rfl o rfl (owns_keeps HA.out (Keeps.below (T := fun _ => True) F.out) trivial) (icell_one a) (by unfold maxLen; omega) (by omega) hz ?_
          intro v3 w3 o3 g3
          rw [Nat.zero_add, List.nil_append] at o3
          replace F := stop (Below.grown F.out g3 hz (fun j hj => (o.lt j hj).1))
          have hz3 : w.heap.size ≤ w3.heap.size := Nat.le_trans hz g3.size
          clear g3 o
          obtain ⟨p5, c5, rfl⟩ := owns_slice2 o3
          go_wp2_with fail
          go_roundw
          case rel => exact ⟨F, hz3, .inr (.inl ⟨rfl, o3⟩)⟩
          case measure => simp [intOf]
        · obtain ⟨p2, q2, rfl⟩ := owns_slice2 o
          go_wp2_with (at_builtin; refine unstop ?_)
          refine stop ?_
          refine appRow Tryz.underlying98 Tryz.info56 rfl rfl _ _ rfl rfl o rfl (owns_keeps HB.out (Keeps.below (T := fun _ => True) F.out) trivial) (icell_one b) (by unfold maxLen; omega) (by omega) hz ?_
          intro v3 w3 o3 g3
          replace F := stop (Below.grown F.out g3 hz (fun j hj => (o.lt j hj).1))
          have hz3 : w.heap.size ≤ w3.heap.size := Nat.le_trans hz g3.size
          clear g3 o
          obtain ⟨p5, c5, rfl⟩ := owns_slice2 o3
          go_wp2_with fail
          go_roundw
          case rel => exact ⟨F, hz3, .inr (.inr ⟨rfl, o3⟩)⟩
          case measure => simp [intOf]
        · obtain ⟨p2, q2, rfl⟩ := owns_slice2 o
          have O := stop o
          clear o
          go_wp2_with fail
          go_ret
          exact ⟨_, rfl, by rw [icell_app, List.length_append]; exact O.out, F.out⟩

open Go.Sort
set_option maxRecDepth 100000 in
set_option maxHeartbeats 2000000 in
theorem clnR (l : List Nat) (base : Nat) (v : Value) (w : World) (h : w.ownsRow base 56 1 v l.length (icell l)) (hl : l.length ≤ 3000000) : 
    Calls Tryz.prog 80 #[v] w fun e w' => ∃ v', e = .returned v' ∧ w'.ownsRow w.heap.size 56 1 v' l.length (icell l) ∧ Below w.heap.size w w' := by
  have HO := stop h
  rcases h.2 with ⟨rfl, h0⟩ | ⟨g, c, cur, rfl, hbg, hg, hnc, hcm, hcs, ht⟩
  · have he : ∀ w, (binOp BinOp.eql 98 (.slice none 0 0) (.slice none 0 0)).run Tryz.prog w = .ok (.bool true) w := fun w => by kernel_rfl
    go_enter Tryz.func80, Tryz.ntmps80
    go_wp2_with (at_builtin; refine unstop ?_)
    go_ret
    exact ⟨_, rfl, ⟨HO.out.1, HO.out.2.imp id (fun ⟨_, _, _, e, _⟩ => by cases e)⟩, Below.refl _ _⟩
  · clear h
    have HG := stop hg
    clear hg ht
    have he : ∀ w, (binOp BinOp.eql 98 (.slice (some ⟨g, 0, none⟩) l.length c) (.slice none 0 0)).run Tryz.prog w = .ok (.bool false) w := fun w => by kernel_rfl
    go_enter Tryz.func80, Tryz.ntmps80
    go_wp2_with (at_builtin; refine unstop ?_)
    refine stop ?_
    obtain ⟨I, Hi, Hz, Hs, Hb⟩ := info_parts Tryz.info56
    refine wpList_append_own _ rfl _ _ 98 rfl w.heap.size 56 I (.int .i64 0) 1 8 Tryz.underlying98 Hi Hz Hs Hb rfl (by decide) (.slice (some ⟨w.heap.size, 0, none⟩) 0 0) 0 [] rfl (World.ownsRow_made w #[] 0 (Nat.le_refl _) (by decide) rfl) ⟨g, 0, none⟩ l.length c (icell l) rfl (by simp [icell]) (fun j u hj => ?_) (fun u hu => ?_) (by unfold maxLen; omega) (by omega) (by simp) ?_
    · exact (HO.out.alloc (.cells #[] 56)).cells rfl j u hj
    · obtain ⟨n, _, rfl⟩ := List.mem_map.1 hu
      rfl
    · intro v1 w1 o1 g1 _
      rw [Nat.zero_add, List.nil_append] at o1
      have O1 := stop (And.intro o1 g1)
      clear o1 g1
      go_wp2_with fail
      go_ret
      exact ⟨v1, rfl, O1.out.1, Below.grown ((Below.refl _ _).alloc (Nat.le_refl _) _) O1.out.2 (by simp) (fun k hk => by cases hk; exact Nat.le_refl _)⟩

/-- The sort, of a row of the call's own. -/
theorem sortR (l : List Nat) (base B : Nat) (v : Value) (w0 w : World) (h : w.ownsRow base 56 1 v l.length (icell l)) (F : Below B w0 w) (hB : B ≤ base) (hl : l.length ≤ 3000000) :
    Calls Tryz.prog 145 #[v] w fun e w' => e = .returned (.tuple #[]) ∧ Hid (w'.ownsRow base 56 1 v l.length ((srtL l).map (Value.int .i64)) ∧ Below B w0 w') := by
  rcases h.2 with ⟨rfl, h0⟩ | ⟨g, c, cur, rfl, hbg, hg, hnc, hcm, hcs, ht⟩
  · have hl0 : l = [] := List.eq_nil_of_length_eq_zero h0
    subst hl0
    refine (AnyM.slices_Sort_int_none Tryz.sortR none 0 w).mono ?_
    rintro e w' ⟨rfl, rfl⟩
    exact ⟨rfl, by simpa [srtL, castL, icell] using h, F⟩
  · rw [Nat.mul_one] at ht
    rw [icell_cast] at ht
    have hH : Holds (Value.int .i64) w g 0 (castL l).toArray := holds_of_blockI hg (by rw [castL_len]; exact ht)
    have hs := AnyM.slices_Sort_int Tryz.sortR g 0 c (castL l) w hH (lt_of_block hg) (by rw [castL_len]; omega)
    rw [castL_len] at hs
    refine Calls.mono hs ?_
    rintro e w' ⟨rfl, n, os, rfl⟩
    refine ⟨rfl, ?_, ?_⟩
    · exact ownsRow_sortedI (ss := castL l) (ts := srtL l) (by rw [srtL_len, castL_len]) hbg hg (by rw [castL_len]; exact hnc) hcm hcs |> fun q => by rw [castL_len] at q; exact q
    · have gb := grownBy_sortedI (w := w) (g := g) (n := n) (os := os) (srtL l).toArray
      exact Below.grown F gb (by have := lt_of_block hg; omega) (fun k hk => by cases hk; omega)

/-- What the sort has left, without what comes twice. -/
theorem compactR (l : List Nat) (base B : Nat) (v : Value) (w0 w : World) (h : w.ownsRow base 56 1 v l.length ((srtL l).map (Value.int .i64))) (F : Below B w0 w) (hB : B ≤ base) (hl : l.length ≤ 3000000) :
    Calls Tryz.prog 146 #[v] w fun e w' => ∃ v', e = .returned v' ∧ Hid (w'.ownsRow base 56 1 v' (ofL l).length (icell (ofL l)) ∧ Below B w0 w') := by
  have hcl : (ofL l).length = (Lib.compact (srtL l)).length := by simp [ofL]
  rcases h.2 with ⟨rfl, h0⟩ | ⟨g, c, cur, rfl, hbg, hg, hnc, hcm, hcs, ht⟩
  · have hl0 : l = [] := List.eq_nil_of_length_eq_zero h0
    subst hl0
    refine (AnyG.slices_Compact_int_empty Tryz.compactR none 0 w).mono ?_
    rintro e w' ⟨rfl, rfl⟩
    exact ⟨_, rfl, by simp [ofL, srtL, castL, Lib.compact, Lib.compactUpTo, icell]; exact World.ownsRow_nil _ _ _ _, F⟩
  · rw [Nat.mul_one] at ht
    have hle : (Lib.compact (srtL l)).length ≤ (srtL l).length := cmp_len _
    have hH : Holds (Value.int .i64) w g 0 (srtL l).toArray := holds_of_blockI hg (by rw [srtL_len]; exact ht)
    have hs := AnyG.slices_Compact_int Tryz.compactR g 0 c (srtL l) w hH (by rw [srtL_len]; omega) (by rw [srtL_len]; exact hnc)
    rw [srtL_len] at hs
    refine Calls.mono hs ?_
    rintro e w' ⟨rfl, q, rfl⟩
    refine ⟨_, rfl, ?_, below_put F (by omega) (lt_of_block hg) _⟩
    rw [srtL_len] at hle
    have := row_put (w := w) (n := q) (m := (Lib.compact (srtL l)).length) (ts := Lib.compact (srtL l) ++ List.replicate (l.length - (Lib.compact (srtL l)).length) 0) hbg hg (by simp) (by simp; omega) hcm hcs
    rw [List.take_left' rfl, ← ofL_cast l, ← icell_cast, ofL_cast] at this
    rw [hcl]
    exact this

set_option maxRecDepth 100000 in
set_option maxHeartbeats 2000000 in
theorem ofR (l : List Nat) (base : Nat) (v : Value) (w : World) (h : w.ownsRow base 56 1 v l.length (icell l)) (hl : l.length ≤ 3000000) : 
    Calls Tryz.prog 122 #[v] w fun e w' => ∃ v', e = .returned (.agg #[v']) ∧ w'.ownsRow w.heap.size 56 1 v' (ofL l).length (icell (ofL l)) ∧ Below w.heap.size w w' := by
  obtain ⟨p, c, rfl⟩ := owns_slice2 h
  go_enter Tryz.func122, Tryz.ntmps122
  go_wp2_with fail
  refine (clnR l base _ _ (h.alloc _) hl).mono ?_
  rintro e w1 ⟨v1, rfl, o1, f1⟩
  have O1 := stop (And.intro o1 f1)
  obtain ⟨p1, c1, rfl⟩ := owns_slice2 o1
  clear f1 o1 h
  go_wp2_with fail
  refine (sortR l _ _ _ _ w1 O1.out.1 O1.out.2 (Nat.le_refl _) hl).mono ?_
  rintro e w2 ⟨rfl, H2⟩
  go_wp2_with fail
  refine (compactR l _ _ _ _ w2 H2.out.1 H2.out.2 (Nat.le_refl _) hl).mono ?_
  rintro e w3 ⟨v3, rfl, H3⟩
  have hb3 : w3.heap[w.heap.size]? = some (.cells #[.slice none 0 0] 100 (0, 0)) := by rw [H3.out.2.block _ (by simp)]; exact heap_alloc_last _ _
  have k0 := cell_of hb3 0
  have kf := frozen_of hb3
  simp at k0
  obtain ⟨p3, c3, rfl⟩ := owns_slice2 H3.out.1
  clear hb3 O1 H2
  go_wp2_with fail
  refine bodyPost_ret (v := .agg #[.slice p3 (ofL l).length c3]) (by simp [results, Tryz.results122, go_sem, k0]) rfl ⟨_, rfl, ?_, ?_⟩
  · exact owns_base (owns_setk H3.out.1 w.heap.size 0 _ (by simp)) (by simp)
  · exact below_set (((Below.refl _ _).alloc (Nat.le_refl _) _).trans (H3.out.2.mono (by simp))) _ _ _ (Nat.le_refl _)

set_option maxRecDepth 100000 in
set_option maxHeartbeats 2000000 in
theorem itmR (l : List Nat) (base : Nat) (v : Value) (w : World) (h : w.ownsRow base 56 1 v l.length (icell l)) (hl : l.length ≤ 3000000) : 
    Calls Tryz.prog 50 #[.agg #[v]] w fun e w' => ∃ v', e = .returned v' ∧ w'.ownsRow w.heap.size 56 1 v' l.length (icell l) ∧ Below w.heap.size w w' := by
  obtain ⟨p, c, rfl⟩ := owns_slice2 h
  go_enter Tryz.func50, Tryz.ntmps50
  go_wp2_with fail
  refine (clnR l base _ _ (h.alloc _) hl).mono ?_
  rintro e w1 ⟨v1, rfl, o1, f1⟩
  have O1 : Hid (w1.ownsRow w.heap.size 56 1 v1 l.length (icell l) ∧ Below w.heap.size w w1) := ⟨owns_base o1 (by simp), ((Below.refl _ _).alloc (Nat.le_refl _) _).trans (f1.mono (by simp))⟩
  clear o1 f1
  go_wp2_with fail
  go_ret
  exact ⟨v1, rfl, O1.out.1, O1.out.2⟩

set_option maxRecDepth 100000 in
set_option maxHeartbeats 2000000 in
theorem hasSR (l : List Nat) (x base : Nat) (v : Value) (w : World) (h : w.ownsRow base 56 1 v l.length (icell l)) (hsrt : Hid (l.Pairwise (· < ·))) (hl : l.length ≤ 1000000) : 
    Calls Tryz.prog 125 #[.agg #[v], .int .i64 x] w fun e w' => e = .returned (.bool (hasF l x)) ∧ Below w.heap.size w w' := by
  obtain ⟨p, c, rfl⟩ := owns_slice2 h
  go_enter Tryz.func125, Tryz.ntmps125
  go_wp2_with fail
  refine (bsearchR l x hsrt base _ _ (h.alloc _) hl).mono ?_
  rintro e w1 ⟨hw1, i, hi, hsp, rfl⟩
  have F : Hid (Below w.heap.size w w1) := by rw [hw1]; exact (Below.refl _ _).alloc (Nat.le_refl _) _
  rw [found_is hsrt.out hsp]
  clear hw1 hsp
  go_wp2_with fail
  go_ret
  exact ⟨rfl, F.out⟩

set_option maxRecDepth 100000 in
set_option maxHeartbeats 2000000 in
theorem idxR (l lo : List Nat) (base B2 : Nat) (v vo : Value) (w : World) (h : w.ownsRow base 56 1 v l.length (icell l)) (ho : w.ownsRow B2 56 1 vo lo.length (icell lo)) (hsrt : Hid (lo.Pairwise (· < ·))) (hl : l.length ≤ 1000000) (hlo : lo.length ≤ 1000000) :
    Calls Tryz.prog 148 #[v, .func (.func 125) #[.agg #[vo]] #[]] w fun e w' => e = .returned (.int .i64 (firstIn lo l)) ∧ Below w.heap.size w w' := by
  obtain ⟨p, c, rfl⟩ := owns_slice2 h
  obtain ⟨po, co, rfl⟩ := owns_slice2 ho
  go_enter Tryz.func148, Tryz.ntmps148
  go_wp2_with fail
  go_loopw [8] (fun i wr => ∃ k : Nat, k ≤ l.length ∧ i = .int .i64 k ∧ Hid (∀ j, j < k → (hj : j < l.length) → hasF lo l[j] = false) ∧ Hid (Below w.heap.size w wr)) (fun i _ => l.length - (intOf i).toNat)
  case atStart => exact ⟨0, by omega, rfl, fun j hj => by omega, Below.refl _ _⟩
  case round =>
    obtain ⟨k, hk, rfl, HN, F⟩ := hrel
    have hz := F.out.size
    by_cases hlt : k < l.length
    · obtain ⟨g, rfl, _, hgl⟩ := owns_form h (by omega)
      have c0 : wr.cell? ⟨g, k, none⟩ = _ := (F.out.cell (p := ⟨g, k, none⟩) hgl).trans (owns_cell h (icell_at hlt))
      have ho2 := stop (owns_keeps ho (Keeps.below (T := fun _ => True) F.out) trivial)
      go_wp2_with fail
      refine (hasSR lo l[k] B2 _ wr ho2.out hsrt hlo).mono ?_
      rintro e w2 ⟨rfl, f2⟩
      have F2 := stop (F.out.trans (f2.mono hz))
      clear f2 c0
      cases hh : hasF lo l[k] with
      | true =>
        have HF := stop (first_hit hlt HN.out hh)
        clear hh
        go_wp2_with fail
        go_ret
        exact ⟨by rw [HF.out]; rfl, F2.out⟩
      | false =>
        have HN2 : Hid (∀ j, j < k + 1 → (hj : j < l.length) → hasF lo l[j] = false) := fun j hj hjl => by
          by_cases e : j = k
          · subst e; exact hh
          · exact HN.out j (by omega) hjl
        clear hh
        go_wp2_with fail
        go_roundw
        case rel => exact ⟨k + 1, by omega, by go_num, HN2, F2⟩
        case measure => simp [intOf]; omega
    · have HF := stop (first_none (lo := lo) (l := l) fun j hj => HN.out j (by omega) hj)
      go_wp2_with fail
      go_ret
      exact ⟨by rw [HF.out]; rfl, F.out⟩

set_option maxRecDepth 100000 in
set_option maxHeartbeats 4000000 in
theorem delR (l lo : List Nat) (base B2 : Nat) (v vo : Value) (w0 w : World) (h : w.ownsRow base 56 1 v l.length (icell l)) (ho : w0.ownsRow B2 56 1 vo lo.length (icell lo)) (F : Below w0.heap.size w0 w) (hB : w0.heap.size ≤ base) (hsrt : Hid (lo.Pairwise (· < ·))) (hl : l.length ≤ 1000000) (hlo : lo.length ≤ 1000000) :
    Calls Tryz.prog 124 #[v, .func (.func 125) #[.agg #[vo]] #[]] w fun e w' => ∃ v', e = .returned v' ∧ Hid (w'.ownsRow base 56 1 v' (dif l lo).length (icell (dif l lo)) ∧ Below w0.heap.size w0 w') := by
  obtain ⟨p, c, rfl⟩ := owns_slice2 h
  obtain ⟨po, co, rfl⟩ := owns_slice2 ho
  have HO := stop ho
  have HF := stop F
  go_enter Tryz.func124, Tryz.ntmps124
  go_wp2_with fail
  refine (idxR l lo base B2 _ _ w h (owns_keeps ho (Keeps.below (T := fun _ => True) F) trivial) hsrt hl hlo).mono ?_
  rintro e w1 ⟨rfl, f1⟩
  have o1 := owns_keeps h (Keeps.below (T := fun _ => True) f1) trivial
  have F1 := stop (F.trans (f1.mono F.size))
  clear f1 h F HF ho
  rcases first_cases lo l with ⟨hf, hall⟩ | ⟨k, hk, hf, hin, hnot⟩
  · rw [hf]
    have HD := stop (And.intro (dif_all hall) o1)
    clear hf hall o1
    go_wp2_with fail
    go_ret
    exact ⟨_, rfl, by rw [HD.out.1]; exact HD.out.2, F1.out⟩
  · rw [hf]
    obtain ⟨g, rfl, hgb, _⟩ := owns_form o1 (by omega)
    have HK : Hid (dif (l.take (k + 1)) lo = l.take k) := by show _ = _; rw [dif_take_drop hk hin, dif_take_none (by omega) hnot]
    have hd : ((k : Int) == -1) = false := by simp
    have S0 : Hid (l.take k ++ ([l[k]] ++ l.drop (k + 1)) = l) := by show _ = _; simp
    have hkl : k < 1000000 := by omega
    clear hf hin hnot
    go_wp2_with fail
    go_loopw [5, 6] (fun i j wr => ∃ q t : Nat, k < t ∧ t ≤ l.length ∧ q < t ∧ i = .int .i64 q ∧ j = .int .i64 t ∧ (∃ mid : List Nat, Hid (q = (dif (l.take t) lo).length ∧ mid.length = t - q ∧ wr.ownsRow base 56 1 (.slice (some ⟨g, 0, none⟩) l.length c) l.length (icell (dif (l.take t) lo ++ (mid ++ l.drop t))))) ∧ Hid (Below w0.heap.size w0 wr)) (fun _ j _ => l.length - (intOf j).toNat)
    case atStart => exact ⟨k, k + 1, by omega, by omega, by omega, rfl, by go_num, ⟨[l[k]], by rw [HK.out, List.length_take]; omega, by simp, by rw [HK.out, S0.out]; exact o1⟩, F1⟩
    case round =>
      clear o1 F1
      obtain ⟨q, t, hkt, ht, hqt, rfl, rfl, ⟨mid, HM⟩, F⟩ := hrel
      have hz := F.out.size
      by_cases hlt : t < l.length
      · have hdt : l.drop t = l[t] :: l.drop (t + 1) := List.drop_eq_getElem_cons hlt
        have c0 : wr.cell? ⟨g, t, none⟩ = some (.int .i64 l[t]) := by
          have hx : (icell (dif (l.take t) lo ++ (mid ++ l.drop t)))[t]? = some (.int .i64 l[t]) := by
            have e1 : (dif (l.take t) lo ++ (mid ++ l.drop t))[t]? = some l[t] := by
              rw [hdt, ← List.append_assoc, List.getElem?_append_right (by rw [List.length_append]; have := HM.out.1; have := HM.out.2.1; omega)]
              rw [List.length_append, show t - ((dif (l.take t) lo).length + mid.length) = 0 by have := HM.out.1; have := HM.out.2.1; omega]
              rfl
            rw [icell, List.getElem?_map, e1]; rfl
          exact owns_cell HM.out.2.2 hx
        have ho2 := stop (owns_keeps HO.out (Keeps.below (T := fun _ => True) F.out) trivial)
        go_wp2_with fail
        refine (hasSR lo l[t] B2 _ wr ho2.out hsrt hlo).mono ?_
        rintro e w2 ⟨rfl, f2⟩
        have F2 := stop (F.out.trans (f2.mono hz))
        have o2 := owns_keeps HM.out.2.2 (Keeps.below (T := fun _ => True) f2) trivial
        clear f2 c0 ho2
        cases hh : hasF lo l[t] with
        | true =>
          have HM2 : Hid (q = (dif (l.take (t + 1)) lo).length ∧ (mid ++ [l[t]]).length = t + 1 - q ∧ w2.ownsRow base 56 1 (.slice (some ⟨g, 0, none⟩) l.length c) l.length (icell (dif (l.take (t + 1)) lo ++ ((mid ++ [l[t]]) ++ l.drop (t + 1))))) := by
            refine ⟨by rw [dif_take_drop hlt hh]; exact HM.out.1, by simp; have := HM.out.2.1; omega, ?_⟩
            rw [dif_take_drop hlt hh, List.append_assoc, List.singleton_append, ← hdt]
            exact o2
          clear hh hdt o2
          go_wp2_with fail
          go_roundw
          case rel => exact ⟨q, t + 1, by omega, by omega, by omega, rfl, by go_num, ⟨_, HM2⟩, F2⟩
          case measure => simp [intOf]; omega
        | false =>
          have hfz := owns_fz o2 q
          have hq1 := HM.out.1
          have hq2 := HM.out.2.1
          have hcq : ∃ u, w2.cell? ⟨g, q, none⟩ = some u := by
            have hx : ∃ u, (icell (dif (l.take t) lo ++ (mid ++ l.drop t)))[q]? = some u := ⟨_, List.getElem?_eq_getElem (by simp [icell]; omega)⟩
            obtain ⟨u, hu⟩ := hx
            exact ⟨u, owns_cell o2 hu⟩
          obtain ⟨u, hu⟩ := hcq
          obtain ⟨mid', hm1, hm2⟩ := mid_set (kept := dif (l.take t) lo) (mid := mid) (rest := l.drop (t + 1)) (x := l[t]) (y := l[t]) (by intro e; rw [e] at hq2; simp at hq2; omega)
          have HM2 : Hid (q + 1 = (dif (l.take (t + 1)) lo).length ∧ mid'.length = t + 1 - (q + 1) ∧ (w2.setCell ⟨g, q, none⟩ (.int .i64 l[t])).ownsRow base 56 1 (.slice (some ⟨g, 0, none⟩) l.length c) l.length (icell (dif (l.take (t + 1)) lo ++ (mid' ++ l.drop (t + 1))))) := by
            refine ⟨by rw [dif_take_keep hlt hh]; simp; omega, by omega, ?_⟩
            rw [dif_take_keep hlt hh, ← hm2, ← hq1, ← hdt, ← icell_set]
            exact owns_store o2 q _
          have F3 := stop (below_set F2.out g q (.int .i64 l[t]) (by omega))
          have hql : q < l.length := by omega
          clear hh hdt o2 hm2 hq1
          go_wp2_with fail
          go_roundw
          case rel => exact ⟨q + 1, t + 1, by omega, by omega, by omega, by go_num, by go_num, ⟨_, HM2⟩, F3⟩
          case measure => simp [intOf]; omega
      · have hte : t = l.length := by omega
        subst hte
        obtain ⟨hq1, hq2, o2⟩ := HM.out
        have hzv : ∀ w, (zeroValue 56).run Tryz.prog w = .ok (.int .i64 0) w := fun w => by kernel_rfl
        have hcl : ∀ ty, (Builtin.clear_ #[98] ty #[.slice (some ⟨g, q, none⟩) (l.length - q) (c - q)]).run Tryz.prog wr = .ok (.tuple #[]) (wr.setCells g q (List.replicate (l.length - q) (.int .i64 0))) :=
          fun ty => Lib.run_clear_slice wr _ _ ty _ Tryz.underlying98 hzv rfl rfl g q _ _ (by omega) (fun t ht => by
            have hx : ∃ u, (icell (dif (l.take l.length) lo ++ (mid ++ l.drop l.length)))[q + t]? = some u := ⟨_, List.getElem?_eq_getElem (by simp [icell] at hq1 hq2 ⊢; omega)⟩
            obtain ⟨u, hu⟩ := hx
            rw [owns_cell o2 hu]; rfl) (fun t _ => owns_fz o2 _)
        have HE : Hid (∃ xs', (wr.setCells g q (List.replicate (l.length - q) (.int .i64 0))).ownsRow base 56 1 (.slice (some ⟨g, 0, none⟩) l.length c) l.length xs' ∧ xs'.take q = icell (dif l lo)) := by
          obtain ⟨xs', a, b⟩ := owns_setCells (List.replicate (l.length - q) (.int .i64 0)) q wr _ o2
          refine ⟨xs', a, b.trans ?_⟩
          rw [List.take_length] at hq1 ⊢
          rw [icell_app, hq1, List.take_left' (by simp [icell])]
        have F3 := stop (below_setCells (base := w0.heap.size) (g := g) (by omega) (List.replicate (l.length - q) (.int .i64 0)) q wr F.out)
        have HQ : Hid (q = (dif l lo).length) := by rw [List.take_length] at hq1; exact hq1
        have hnc : l.length ≤ c := by
          rcases o2.2 with ⟨h0, _⟩ | ⟨_, _, _, hv, _, _, hn, _⟩
          · cases h0
          · cases hv; exact hn
        have hcm : c ≤ 9223372036854775807 := by
          rcases o2.2 with ⟨h0, _⟩ | ⟨_, _, _, hv, _, _, _, hn, _⟩
          · cases h0
          · cases hv; unfold maxLen at hn; omega
        clear o2 hq1 hq2 HM hzv
        go_wp2_with fail
        go_ret
        obtain ⟨xs', a, b⟩ := HE.out
        refine ⟨_, rfl, ?_, F3.out⟩
        have := owns_cut a (m := q) (by omega)
        rw [b] at this
        rw [← HQ.out]
        exact this



set_option maxRecDepth 100000 in
set_option maxHeartbeats 1000000 in
theorem equalR (a b : List Nat) (B1 B2 : Nat) (va vb : Value) (w : World) (ha : w.ownsRow B1 56 1 va a.length (icell a)) (hb : w.ownsRow B2 56 1 vb b.length (icell b)) (la : a.length ≤ 1000000) (lb : b.length ≤ 1000000) :
    Calls Tryz.prog 222 #[va, vb] w fun x w' => x = .returned (.bool (eqF a b)) ∧ ∃ n, w' = w.drewN n := by
  obtain ⟨p1, c1, rfl⟩ := owns_slice2 ha
  obtain ⟨p2, c2, rfl⟩ := owns_slice2 hb
  by_cases hl : a.length = b.length
  · have hl' : ((a.length : Int) != (b.length : Int)) = false := by simp; omega
    have HL := stop hl
    clear hl
    go_enter Tryz.func222, Tryz.ntmps222
    go_wp2_with fail
    go_loopw [13] (fun i wr => ∃ k n : Nat, k ≤ a.length ∧ i = .int .i64 k ∧ wr = w.drewN n ∧ Hid (∀ j, j < k → (h1 : j < a.length) → (h2 : j < b.length) → a[j] = b[j])) (fun i _ => a.length - (intOf i).toNat)
    case atStart => exact ⟨0, 0, by omega, rfl, rfl, fun j hj => by omega⟩
    case round =>
      obtain ⟨k, n, hk, rfl, rfl, HE⟩ := hrel
      by_cases hlt : k < a.length
      · have hlb : k < b.length := by have := HL.out; omega
        obtain ⟨g1, rfl, _, _⟩ := owns_form ha (by omega)
        obtain ⟨g2, rfl, _, _⟩ := owns_form hb (by omega)
        have f1 := owns_cell ha (icell_at hlt)
        have f2 := owns_cell hb (icell_at hlb)
        by_cases he : a[k] = b[k]
        · have he' : ((a[k] : Int) != (b[k] : Int)) = false := by simp; omega
          have HE2 : Hid (∀ j, j < k + 1 → (h1 : j < a.length) → (h2 : j < b.length) → a[j] = b[j]) := fun j hj h1 h2 => by
            rcases Nat.lt_succ_iff_lt_or_eq.1 hj with hj | rfl
            · exact HE.out j hj h1 h2
            · exact he
          clear he
          go_wp2_with fail
          go_quiet (fail)
          go_wp2_with fail
          go_roundw
          case rel => exact ⟨k + 1, n + nq, by omega, by go_num, by simp, HE2⟩
          case measure => simp [intOf]; omega
        · have he' : ((a[k] : Int) != (b[k] : Int)) = true := by simp; omega
          have HN := stop (eqF_ne hlt hlb he)
          clear he
          go_wp2_with fail
          go_quiet (fail)
          go_wp2_with fail
          go_ret
          exact ⟨by rw [HN.out]; rfl, n + nq, by simp⟩
      · have HN := stop (eqF_all HL.out (fun j h1 h2 => HE.out j (by omega) h1 h2))
        go_wp2_with fail
        go_ret
        exact ⟨by rw [HN.out]; rfl, n, rfl⟩
  · have hl' : ((a.length : Int) != (b.length : Int)) = true := by simp; omega
    have HN := stop (eqF_len hl)
    clear hl
    go_enter Tryz.func222, Tryz.ntmps222
    go_wp2_with fail
    go_ret
    exact ⟨by rw [HN.out]; rfl, 0, rfl⟩

set_option maxRecDepth 100000 in
set_option maxHeartbeats 4000000 in
theorem minusR (a b : List Nat) (B1 B2 : Nat) (va vb : Value) (w : World) (ha : w.ownsRow B1 56 1 va a.length (icell a)) (hb : w.ownsRow B2 56 1 vb b.length (icell b)) (hsb : Hid (b.Pairwise (· < ·))) (hla : a.length ≤ 1000000) (hlb : b.length ≤ 1000000) :
    Calls Tryz.prog 85 #[.agg #[va], .agg #[vb]] w fun e w' => ∃ v', e = .returned (.agg #[v']) ∧ w'.ownsRow w.heap.size 56 1 v' (dif a b).length (icell (dif a b)) ∧ Below w.heap.size w w' := by
  obtain ⟨pa, ca, rfl⟩ := owns_slice2 ha
  obtain ⟨pb, cb, rfl⟩ := owns_slice2 hb
  have hmf : ∀ (fn : Fn) (first cap : Array Value) (w : World), (Instr.makeFunc fn first cap).run Tryz.prog w = .ok (.func fn first cap) w := fun _ _ _ _ => rfl
  go_enter Tryz.func85, Tryz.ntmps85
  go_wp2_with fail
  obtain ⟨W2, hW2⟩ : ∃ W2, W2 = ((w.alloc (.cells #[.slice pa a.length ca] 100)).alloc (.cells #[.slice pb b.length cb] 100)).alloc (.cells #[.slice none 0 0] 100) := ⟨_, rfl⟩
  rw [← hW2]
  obtain ⟨g0, g1, g2, hz, f2⟩ := three w (.cells #[.slice pa a.length ca] 100) (.cells #[.slice pb b.length cb] 100) (.cells #[.slice none 0 0] 100)
  rw [← hW2] at g0 g1 g2 hz f2
  have k0 := cell_of g0 0
  have k1 := cell_of g1 0
  have k2 := cell_of g2 0
  have k3 := frozen_of g2 0
  simp at k0 k1 k2
  have O2 := stop (And.intro (owns_keeps ha (Keeps.below (T := fun _ => True) f2) trivial) (owns_keeps hb (Keeps.below (T := fun _ => True) f2) trivial))
  have F2 := stop f2
  have l0 : w.heap.size < W2.heap.size := by omega
  have l1 : w.heap.size + 1 < W2.heap.size := by omega
  have l2 : w.heap.size + 1 + 1 < W2.heap.size := by omega
  clear hW2 ha hb g0 g1 g2 f2
  go_region_held (fun w' => w'.cell? ⟨w.heap.size, 0, none⟩ = some (.slice pa a.length ca) ∧ w'.cell? ⟨w.heap.size + 1, 0, none⟩ = some (.slice pb b.length cb) ∧ w'.frozen? ⟨w.heap.size + 1 + 1, 0, none⟩ = false) (simp [*, far1, far2])
    (first | (go_at_call 50; refine (itmR a B1 _ W2.drew O2.out.1 (by omega)).mono ?_; rintro e w5 ⟨v5, rfl, o5, f5⟩; have f5' : Below W2.heap.size W2 w5 := ⟨f5.os, f5.tape, f5.output, f5.size, f5.block⟩; have y0 := f5'.cell (p := ⟨w.heap.size, 0, none⟩) l0; have y1 := f5'.cell (p := ⟨w.heap.size + 1, 0, none⟩) l1; have y2 := f5'.cell (p := ⟨w.heap.size + 1 + 1, 0, none⟩) l2; have y3 := f5'.frozen (p := ⟨w.heap.size + 1 + 1, 0, none⟩) l2) | (go_at_call 124; refine (delR a b W2.heap.size B2 v5 (.slice pb b.length cb) W2 w5 o5 O2.out.2 f5' (Nat.le_refl _) hsb hla hlb).mono ?_; rintro e w6 ⟨v6, rfl, H6⟩; obtain ⟨p6, c6, rfl⟩ := owns_slice2 H6.out.1; have z0 := H6.out.2.cell (p := ⟨w.heap.size, 0, none⟩) l0; have z1 := H6.out.2.cell (p := ⟨w.heap.size + 1, 0, none⟩) l1; have z2 := H6.out.2.cell (p := ⟨w.heap.size + 1 + 1, 0, none⟩) l2; have z3 := H6.out.2.frozen (p := ⟨w.heap.size + 1 + 1, 0, none⟩) l2))
  all_goals
    go_wp2_with fail
    refine bodyPost_ret (v := .agg #[.slice p6 (dif a b).length c6]) (by simp [results, Tryz.results85, go_sem, z2, k2]) rfl ⟨_, rfl, ?_, ?_⟩
    · exact owns_base (owns_setk H6.out.1 _ 0 _ l2) (by omega)
    · exact below_set (F2.out.trans (H6.out.2.mono (by omega))) _ _ _ (by omega)

set_option maxRecDepth 100000 in
set_option maxHeartbeats 4000000 in
theorem unionR (a b : List Nat) (B1 B2 : Nat) (va vb : Value) (w : World) (ha : w.ownsRow B1 56 1 va a.length (icell a)) (hb : w.ownsRow B2 56 1 vb b.length (icell b)) (hla : a.length ≤ 1000000) (hlb : b.length ≤ 1000000) :
    Calls Tryz.prog 84 #[.agg #[va], .agg #[vb]] w fun e w' => ∃ v', e = .returned (.agg #[v']) ∧ w'.ownsRow w.heap.size 56 1 v' (ofL (a ++ b)).length (icell (ofL (a ++ b))) ∧ Below w.heap.size w w' := by
  obtain ⟨pa, ca, rfl⟩ := owns_slice2 ha
  obtain ⟨pb, cb, rfl⟩ := owns_slice2 hb
  have hab : (a ++ b).length ≤ 3000000 := by rw [List.length_append]; omega
  obtain ⟨ab, HAB⟩ : ∃ ab, Hid (ab = a ++ b) := ⟨_, rfl⟩
  rw [← HAB.out] at hab ⊢
  go_enter Tryz.func84, Tryz.ntmps84
  go_wp2_with fail
  obtain ⟨W3, hW3⟩ : ∃ W3, W3 = ((w.alloc (.cells #[.slice pa a.length ca] 100)).alloc (.cells #[.slice pb b.length cb] 100)).alloc (.cells #[.slice none 0 0] 100) := ⟨_, rfl⟩
  rw [← hW3]
  obtain ⟨_, _, g2, hz, f3⟩ := three w (.cells #[.slice pa a.length ca] 100) (.cells #[.slice pb b.length cb] 100) (.cells #[.slice none 0 0] 100)
  rw [← hW3] at g2 hz f3
  have g3 := heap_alloc_last W3 (.cells #[.slice pa a.length ca, .slice pb b.length cb] 98)
  have f4 : Below w.heap.size w (W3.alloc (.cells #[.slice pa a.length ca, .slice pb b.length cb] 98)) := f3.alloc (by omega) _
  rw [show w.heap.size + 1 + 1 + 1 = W3.heap.size by omega]
  refine (concatR a b B1 B2 _ _ _ (owns_keeps ha (Keeps.below (T := fun _ => True) f4) trivial) (owns_keeps hb (Keeps.below (T := fun _ => True) f4) trivial) hla hlb _ 2 g3).mono ?_
  rintro e w5 ⟨v5, rfl, o5, f5⟩
  rw [← HAB.out] at o5
  have F5 := stop (And.intro o5 (And.intro f5 (And.intro f4 (And.intro g2 (And.intro hz hW3)))))
  obtain ⟨p5, c5, rfl⟩ := owns_slice2 o5
  clear ha hb hW3 g2 g3 f3 f4 f5 o5
  go_wp2_with fail
  refine (ofR ab _ _ w5 F5.out.1 hab).mono ?_
  rintro e w6 ⟨v6, rfl, o6, f6⟩
  obtain ⟨p6, c6, rfl⟩ := owns_slice2 o6
  obtain ⟨_, f5, f4, g2, hz, hW3⟩ := F5.out
  have hs5 : W3.heap.size + 1 ≤ w5.heap.size := by have := f5.size; rw [World.size_alloc] at this; exact this
  have g6 : w6.heap[w.heap.size + 1 + 1]? = some (.cells #[.slice none 0 0] 100 (0, 0)) := by rw [f6.block _ (by omega), f5.block _ (by rw [World.size_alloc]; omega)]; exact blk_alloc g2 _
  have k2 := cell_of g6 0
  have k3 := frozen_of g6 0
  simp at k2
  have l5 : w.heap.size + 1 + 1 < w5.heap.size := by omega
  have F6 := stop (And.intro (owns_base (owns_setk o6 _ 0 (.slice p6 (ofL ab).length c6) l5) (show w.heap.size ≤ w5.heap.size by omega)) (below_set ((f4.trans (f5.mono (by rw [World.size_alloc]; omega))).trans (f6.mono (by omega))) (w.heap.size + 1 + 1) 0 (.slice p6 (ofL ab).length c6) (by omega)))
  clear g6 f6 o6 f5 f4 g2 hW3 F5 hz hs5 l5
  go_wp2_with fail
  refine bodyPost_ret (v := .agg #[.slice p6 (ofL ab).length c6]) (by simp [results, Tryz.results84, go_sem, k2]) rfl ⟨_, rfl, ?_, ?_⟩
  · exact F6.out.1
  · exact F6.out.2

set_option maxRecDepth 100000 in
set_option maxHeartbeats 4000000 in
theorem sameR (a b : List Nat) (B1 B2 : Nat) (va vb : Value) (w : World) (ha : w.ownsRow B1 56 1 va a.length (icell a)) (hb : w.ownsRow B2 56 1 vb b.length (icell b)) (hla : a.length ≤ 1000000) (hlb : b.length ≤ 1000000) :
    Calls Tryz.prog 221 #[.agg #[va], .agg #[vb]] w fun e w' => e = .returned (.bool (eqF a b)) ∧ Below w.heap.size w w' := by
  obtain ⟨pa, ca, rfl⟩ := owns_slice2 ha
  obtain ⟨pb, cb, rfl⟩ := owns_slice2 hb
  go_enter Tryz.func221, Tryz.ntmps221
  go_wp2_with fail
  refine (equalR a b B1 B2 _ _ _ ((ha.alloc _).alloc _) ((hb.alloc _).alloc _) hla hlb).mono ?_
  rintro e w1 ⟨rfl, n, hw1⟩
  have F1 : Hid (Below w.heap.size w w1) := by rw [hw1]; exact below_drewN (((Below.refl _ _).alloc (Nat.le_refl _) _).alloc (by simp) _) _
  clear hw1
  go_wp2_with fail
  go_ret
  exact ⟨rfl, F1.out⟩

end Go.Proofs.YtgfhfkgdmidhpaaGreat
