import Derived.Test.YtgfhfkgdmidhpaaGreatG22
import Derived.Test.YtgfhfkgdmidhpaaGreatG08
import Derived.Test.YtgfhfkgdmidhpaaGreatRA
namespace Go.Proofs.YtgfhfkgdmidhpaaGreat
open Go.RowKit

theorem rim_dif (bs : List RBlk) (x : Nat) (hgl : ∀ b ∈ bs, ∀ p ∈ goalsF b.e, p.1 < bs.length) : dif (bhs bs (undL bs x)) (dif (undL bs x) [x]) = rimL (suF bs) bs.length x := by
  refine setL_of (dif_srt (bhs_srt _ _)) fun y => ?_
  rw [dif_mem, dif_mem, bhs_mem]
  simp only [rimB, Bool.and_eq_true, List.any_eq_true, List.mem_range, List.contains_iff_mem, Bool.or_eq_true, beq_iff_eq, Bool.not_eq_true']
  constructor
  · rintro ⟨⟨i, hi, hy⟩, hn⟩
    rw [undL, setL_mem] at hi
    refine ⟨suF_lt hgl i y hy, ⟨i, hi.1, hy, hi.2⟩, ?_⟩
    by_cases e : x = y
    · exact .inl e
    · right
      cases h : overF (suF bs) bs.length x y with
      | false => rfl
      | true => exact absurd ⟨by rw [undL, setL_mem]; exact ⟨suF_lt hgl i y hy, h⟩, by rw [List.mem_singleton]; exact fun e' => e e'.symm⟩ hn
  · rintro ⟨hyn, ⟨k, hk, hy, ho⟩, h2⟩
    refine ⟨⟨k, by rw [undL, setL_mem]; exact ⟨hk, ho⟩, hy⟩, fun h => ?_⟩
    rw [undL, setL_mem, List.mem_singleton] at h
    rcases h2 with e | h2
    · exact h.2 e.symm
    · rw [h.1.2] at h2; cases h2

set_option maxRecDepth 100000 in
set_option maxHeartbeats 1000000 in
theorem rimM (bs : List RBlk) (B base x : Nat) (v va vu : Value) (w : World) (hP : PBs w base bs v) (ha : ∃ p n c, va = .slice p n c) (hu : SetR B w vu bs.length (undL bs)) (hgl : Hid (∀ b ∈ bs, ∀ p ∈ goalsF b.e, p.1 < bs.length)) (hx : x < bs.length) (hn : bs.length ≤ 1000) :
    Calls Tryz.prog 47 #[.agg #[v, va, vu], .int .i64 x] w fun e w' => ∃ v', e = .returned (.agg #[v']) ∧ w'.ownsRow w.heap.size 92 1 v' (rimL (suF bs) bs.length x).length (icell (rimL (suF bs) bs.length x)) ∧ Below w.heap.size w w' := by
  have HP := stop hP
  obtain ⟨pv, cv, rfl⟩ := hP.slice
  obtain ⟨pa, na, ca, rfl⟩ := ha
  obtain ⟨pu, cu, rfl⟩ := hu.slice
  obtain ⟨g, u, rfl, _, hg, hc, _, ho⟩ := hu.at hx
  obtain ⟨p1, c1, rfl⟩ := owns_slice2 ho
  have HO := stop ho
  have hcal : ∀ o1 o2, ((w.alloc o1).alloc o2).cell? ⟨g, x, none⟩ = some (.slice p1 (undL bs x).length c1) := fun o1 o2 => by
    rw [World.cell?_of_block (w := w.alloc o1) (Below.heap_alloc (w.alloc o1) o2 _ (by rw [World.size_alloc]; exact Nat.lt_succ_of_lt hg)), World.cell?_of_block (w := w) (Below.heap_alloc w o1 _ hg)]; exact hc
  clear ho hu hc hP
  go_enter Tryz.func47, Tryz.ntmps47
  go_wp2_with fail
  obtain ⟨W3, hW3⟩ : ∃ W3, W3 = ((w.alloc (.cells #[.slice pv bs.length cv, .slice pa na ca, .slice (some ⟨g, 0, none⟩) bs.length cu] 89)).alloc (.cells #[.slice none 0 0] 86)).alloc (.cells #[.slice p1 (undL bs x).length c1] 86) := ⟨_, rfl⟩
  rw [← hW3]
  obtain ⟨g0, g1, g2, hz, f3⟩ := three w (.cells #[.slice pv bs.length cv, .slice pa na ca, .slice (some ⟨g, 0, none⟩) bs.length cu] 89) (.cells #[.slice none 0 0] 86) (.cells #[.slice p1 (undL bs x).length c1] 86)
  rw [← hW3] at g0 g1 g2 hz f3
  have HZ := stop (And.intro g0 (And.intro g1 (And.intro g2 (And.intro f3 (owns_keeps HO.out (Keeps.below (T := fun _ => True) f3) trivial)))))
  have k2 := cell_of g2 0
  simp at k2
  have LU : (undL bs x).length ≤ 1000000 := Nat.le_trans (setL_len _ _) (by omega)
  have hal1 : ∀ o, (W3.alloc o).cell? ⟨w.heap.size + 1 + 1, 0, none⟩ = some (.slice p1 (undL bs x).length c1) := fun o => by have := cell_of (blk_alloc g2 o) 0; simpa using this
  have hal2 : ∀ o o', ((W3.alloc o).alloc o').cell? ⟨w.heap.size + 1 + 1, 0, none⟩ = some (.slice p1 (undL bs x).length c1) := fun o o' => by have := cell_of (blk_alloc (blk_alloc g2 o) o') 0; simpa using this
  clear hcal hW3 g0 g1 f3
  rename_i Q' K hK
  have TAIL : ∀ (zb : Nat) (w7 : World) (p6 : Option Addr) (c6 : Nat) (t12 t13 t14 t15 t16 : Value), Hid (w7.heap[w.heap.size]? = some (.cells #[.slice pv bs.length cv, .slice pa na ca, .slice (some ⟨g, 0, none⟩) bs.length cu] 89 (0, 0)) ∧ w7.heap[w.heap.size + 1]? = some (.cells #[.slice none 0 0] 86 (0, 0)) ∧ w7.heap[w.heap.size + 1 + 1]? = some (.cells #[.slice p1 (undL bs x).length c1] 86 (0, 0)) ∧ w7.heap[zb]? = some (.cells #[.slice p6 (dif (undL bs x) [x]).length c6] 86 (0, 0)) ∧ w7.ownsRow 0 92 1 (.slice p6 (dif (undL bs x) [x]).length c6) (dif (undL bs x) [x]).length (icell (dif (undL bs x) [x])) ∧ Below w.heap.size w w7 ∧ w.heap.size + 3 ≤ zb) →
      Exit.then K Q' Exit.normal { tmps := #[.agg #[.slice pv bs.length cv, .slice pa na ca, .slice (some ⟨g, 0, none⟩) bs.length cu], .int .i64 x, .pointer (some ⟨w.heap.size, 0, none⟩), undef, .pointer (some ⟨w.heap.size + 1, 0, none⟩), .pointer (some ⟨w.heap.size + 1 + 1, 0, none⟩), .pointer (some ⟨zb, 0, none⟩), .pointer (some ⟨w.heap.size, 2, none⟩), .slice (some ⟨g, 0, none⟩) bs.length cu, .int .i64 x, .pointer (some ⟨g, x, none⟩), .agg #[.slice p1 (undL bs x).length c1], t12, t13, t14, t15, t16, undef, undef, undef, undef, undef, undef], defers := [] } w7 := by
    intro zb w7 p6 c6 t12 t13 t14 t15 t16 HF
    obtain ⟨r0, r1, r2, rz, ro, rf, rb⟩ := HF.out
    have s7 := rf.size
    have lz : zb < w7.heap.size := lt_of_block rz
    have l0 : w.heap.size < w7.heap.size := by omega
    have l1 : w.heap.size + 1 < w7.heap.size := by omega
    have l2 : w.heap.size + 1 + 1 < w7.heap.size := by omega
    have j0 := cell_of r0 0
    have j2 := cell_of r2 0
    have jz := cell_of rz 0
    have j1 := cell_of r1 0
    have j1f := frozen_of r1 0
    simp at j0 j2 jz j1
    have n0 : ¬ (w.heap.size + 1 = zb) := by omega
    have HP7 := stop (HP.out.keeps (w' := w7.drew) (Keeps.below (w' := w7) rf))
    have HO7 := stop (owns_keeps HO.out (Keeps.below (T := fun _ => True) rf) trivial)
    have HSU : Hid (∀ y ∈ undL bs x, y < bs.length) := fun y hy => (setL_mem.1 hy).1
    have LS : (undL bs x).length ≤ 1000 := Nat.le_trans (setL_len _ _) hn
    have LB : (bhs bs (undL bs x)).length ≤ 1000000 := Nat.le_trans (bhs_len hgl.out) (by omega)
    have LD : (dif (undL bs x) [x]).length ≤ 1000000 := Nat.le_trans (dif_len _ _) (by omega)
    have HSD : Hid ((dif (undL bs x) [x]).Pairwise (· < ·)) := dif_srt (setL_srt _ _)
    have HRD := stop (rim_dif bs x hgl.out)
    clear r0 r1 r2 rz ro rf k2
    go_wp2_with fail
    go_region_held (fun w' => w'.cell? ⟨w.heap.size, 0, none⟩ = some (.slice pv bs.length cv) ∧ w'.cell? ⟨w.heap.size + 1 + 1, 0, none⟩ = some (.slice p1 (undL bs x).length c1) ∧ w'.cell? ⟨zb, 0, none⟩ = some (.slice p6 (dif (undL bs x) [x]).length c6) ∧ w'.frozen? ⟨w.heap.size + 1, 0, none⟩ = false) (first | (simp [*]; done) | (simp [*, World.cell?_setCell_far]; done))
      (first | (go_at_call 79; refine (behindP bs (undL bs x) base B _ _ w7.drew HP7.out HO7.out HSU hgl hn LS).mono ?_; rintro e w8 ⟨v8, rfl, o8, f8⟩; obtain ⟨p8, c8, rfl⟩ := owns_slice2 o8; have f8' : Below w7.heap.size w7 w8 := ⟨f8.os, f8.tape, f8.output, f8.size, f8.block⟩; have s8 := f8'.size; have y0 := f8'.cell (p := ⟨w.heap.size, 0, none⟩) l0; have y1 := f8'.cell (p := ⟨w.heap.size + 1, 0, none⟩) l1; have y1f := f8'.frozen (p := ⟨w.heap.size + 1, 0, none⟩) l1; have y2 := f8'.cell (p := ⟨w.heap.size + 1 + 1, 0, none⟩) l2; have yz := f8'.cell (p := ⟨zb, 0, none⟩) lz; have O8 := stop (And.intro o8 f8'); clear o8 f8 f8') | (go_at_call 74; refine (minusB (bhs bs (undL bs x)) (dif (undL bs x) [x]) _ 0 _ _ w8 O8.out.1 (owns_keeps HF.out.2.2.2.2.1 (Keeps.below (T := fun _ => True) O8.out.2) trivial) HSD LB LD).mono ?_; rintro e w9 ⟨v9, rfl, o9, f9⟩; rw [HRD.out] at o9; obtain ⟨p9, c9, rfl⟩ := owns_slice2 o9; have s9 := f9.size; have x0 := f9.cell (p := ⟨w.heap.size, 0, none⟩) (show w.heap.size < w8.heap.size by omega); have x1 := f9.cell (p := ⟨w.heap.size + 1, 0, none⟩) (show w.heap.size + 1 < w8.heap.size by omega); have x1f := f9.frozen (p := ⟨w.heap.size + 1, 0, none⟩) (show w.heap.size + 1 < w8.heap.size by omega); have x2 := f9.cell (p := ⟨w.heap.size + 1 + 1, 0, none⟩) (show w.heap.size + 1 + 1 < w8.heap.size by omega); have xz := f9.cell (p := ⟨zb, 0, none⟩) (show zb < w8.heap.size by omega); have O9 := stop (And.intro o9 (O8.out.2.trans (f9.mono s8))); clear o9 f9))
    all_goals
      have F9 := stop (And.intro (owns_base (owns_setk O9.out.1 (w.heap.size + 1) 0 (.slice p9 (rimL (suF bs) bs.length x).length c9) (show w.heap.size + 1 < w8.heap.size by omega)) (show w.heap.size ≤ w8.heap.size by omega)) (below_set (HF.out.2.2.2.2.2.1.trans (O9.out.2.mono (by omega))) (w.heap.size + 1) 0 (.slice p9 (rimL (suF bs) bs.length x).length c9) (by omega)))
      clear O8 O9 HF HP7 HO7
      go_wp2_with fail
      refine bodyPost_ret (v := .agg #[.slice p9 (rimL (suF bs) bs.length x).length c9]) (by simp [results, Tryz.results47, go_sem, x1, y1, j1]) rfl ⟨_, rfl, ?_, ?_⟩
      · exact F9.out.1
      · exact F9.out.2
  have HA4 : Hid ((W3.alloc (.cells #[.int .i64 x] 92)).drew.ownsRow 0 92 1 (.slice (some ⟨W3.heap.size, 0, none⟩) 1 1) ([x] : List Nat).length (icell [x])) := owns_base (owns_new W3 W3.heap.size 92 1 1 #[.int .i64 x] (Nat.le_refl _) rfl (by decide)) (Nat.zero_le _)
  have HB4 : Hid (((W3.alloc (.cells #[.slice none 0 0] 86)).alloc (.cells #[.int .i64 x] 92)).drew.ownsRow 0 92 1 (.slice (some ⟨W3.heap.size + 1, 0, none⟩) 1 1) ([x] : List Nat).length (icell [x])) := by
    have := owns_base (owns_new (W3.alloc (.cells #[.slice none 0 0] 86)) (W3.alloc (.cells #[.slice none 0 0] 86)).heap.size 92 1 1 #[.int .i64 x] (Nat.le_refl _) rfl (by decide)) (Nat.zero_le _)
    rw [World.size_alloc] at this
    exact this
  have HC4 : Hid (((W3.alloc (.cells #[.int .i64 x] 92)).alloc (.cells #[.slice none 0 0] 86)).drew.ownsRow 0 92 1 (.slice (some ⟨W3.heap.size, 0, none⟩) 1 1) ([x] : List Nat).length (icell [x])) := owns_base ((owns_new W3 W3.heap.size 92 1 1 #[.int .i64 x] (Nat.le_refl _) rfl (by decide)).alloc _) (Nat.zero_le _)
  have FW : Hid (∀ w5, Below W3.heap.size W3 w5 → Below w.heap.size w w5 ∧ w5.ownsRow B 92 1 (.slice p1 (undL bs x).length c1) (undL bs x).length (icell (undL bs x))) := fun w5 f => ⟨HZ.out.2.2.2.1.trans (f.mono (by omega)), owns_keeps HZ.out.2.2.2.2 (Keeps.below (T := fun _ => True) f) trivial⟩
  have FA : Hid (∀ o w5, Below (W3.alloc o).drew.heap.size (W3.alloc o).drew w5 → Below W3.heap.size W3 w5) := fun o w5 f => by
    have f' := (Below.refl W3.heap.size W3).alloc (Nat.le_refl _) o
    have f'' : Below W3.heap.size W3 (W3.alloc o).drew := ⟨f'.os, f'.tape, f'.output, f'.size, f'.block⟩
    exact f''.trans (f.mono (by show W3.heap.size ≤ (W3.alloc _).heap.size; rw [World.size_alloc]; exact Nat.le_succ _))
  have FB : Hid (∀ o o' w5, Below ((W3.alloc o).alloc o').drew.heap.size ((W3.alloc o).alloc o').drew w5 → Below W3.heap.size W3 w5 ∧ w5.heap[W3.heap.size]? = some o ∧ w5.heap[W3.heap.size + 1]? = some o') := fun o o' w5 f => by
    have f' := ((Below.refl W3.heap.size W3).alloc (Nat.le_refl _) o).alloc (by rw [World.size_alloc]; exact Nat.le_succ _) o'
    have f'' : Below W3.heap.size W3 ((W3.alloc o).alloc o').drew := ⟨f'.os, f'.tape, f'.output, f'.size, f'.block⟩
    have hsz : ((W3.alloc o).alloc o').drew.heap.size = W3.heap.size + 2 := by show ((W3.alloc o).alloc o').heap.size = _; rw [World.size_alloc, World.size_alloc]
    obtain ⟨t0, t1, _, _⟩ := two W3 o o'
    exact ⟨f''.trans (f.mono (by omega)), by rw [f.block _ (by omega)]; exact t0, by rw [f.block _ (by omega)]; exact t1⟩
  have FA2 : Hid (∀ (w6 : World) (p6 : Option Addr) (c6 : Nat), (w6.ownsRow 0 92 1 (.slice p6 (dif (undL bs x) [x]).length c6) (dif (undL bs x) [x]).length (icell (dif (undL bs x) [x])) ∧ Below W3.heap.size W3 w6) → (w6.alloc (.cells #[.slice p6 (dif (undL bs x) [x]).length c6] 86)).heap[w.heap.size]? = some (.cells #[.slice pv bs.length cv, .slice pa na ca, .slice (some ⟨g, 0, none⟩) bs.length cu] 89 (0, 0)) ∧ (w6.alloc (.cells #[.slice p6 (dif (undL bs x) [x]).length c6] 86)).heap[w.heap.size + 1]? = some (.cells #[.slice none 0 0] 86 (0, 0)) ∧ (w6.alloc (.cells #[.slice p6 (dif (undL bs x) [x]).length c6] 86)).heap[w.heap.size + 1 + 1]? = some (.cells #[.slice p1 (undL bs x).length c1] 86 (0, 0)) ∧ (w6.alloc (.cells #[.slice p6 (dif (undL bs x) [x]).length c6] 86)).heap[w6.heap.size]? = some (.cells #[.slice p6 (dif (undL bs x) [x]).length c6] 86 (0, 0)) ∧ (w6.alloc (.cells #[.slice p6 (dif (undL bs x) [x]).length c6] 86)).ownsRow 0 92 1 (.slice p6 (dif (undL bs x) [x]).length c6) (dif (undL bs x) [x]).length (icell (dif (undL bs x) [x])) ∧ Below w.heap.size w (w6.alloc (.cells #[.slice p6 (dif (undL bs x) [x]).length c6] 86)) ∧ w.heap.size + 3 ≤ w6.heap.size) := by
    rintro w6 p6 c6 ⟨o, f⟩
    obtain ⟨g0, g1, g2', f3, _⟩ := HZ.out
    have sz := f.size
    exact ⟨blk_alloc (by rw [f.block _ (by omega)]; exact g0) _, blk_alloc (by rw [f.block _ (by omega)]; exact g1) _, blk_alloc (by rw [f.block _ (by omega)]; exact g2') _, heap_alloc_last _ _, o.alloc _, (f3.trans (f.mono (by omega))).alloc (by omega) _, by omega⟩
  have FS2 : Hid (∀ (zb : Nat) (w6 : World) (p6 : Option Addr) (c6 : Nat), (w6.ownsRow 0 92 1 (.slice p6 (dif (undL bs x) [x]).length c6) (dif (undL bs x) [x]).length (icell (dif (undL bs x) [x])) ∧ Below W3.heap.size W3 w6) → w6.heap[zb]? = some (.cells #[.slice none 0 0] 86 (0, 0)) → W3.heap.size ≤ zb → (w6.setCell ⟨zb, 0, none⟩ (.slice p6 (dif (undL bs x) [x]).length c6)).heap[w.heap.size]? = some (.cells #[.slice pv bs.length cv, .slice pa na ca, .slice (some ⟨g, 0, none⟩) bs.length cu] 89 (0, 0)) ∧ (w6.setCell ⟨zb, 0, none⟩ (.slice p6 (dif (undL bs x) [x]).length c6)).heap[w.heap.size + 1]? = some (.cells #[.slice none 0 0] 86 (0, 0)) ∧ (w6.setCell ⟨zb, 0, none⟩ (.slice p6 (dif (undL bs x) [x]).length c6)).heap[w.heap.size + 1 + 1]? = some (.cells #[.slice p1 (undL bs x).length c1] 86 (0, 0)) ∧ (w6.setCell ⟨zb, 0, none⟩ (.slice p6 (dif (undL bs x) [x]).length c6)).heap[zb]? = some (.cells #[.slice p6 (dif (undL bs x) [x]).length c6] 86 (0, 0)) ∧ (w6.setCell ⟨zb, 0, none⟩ (.slice p6 (dif (undL bs x) [x]).length c6)).ownsRow 0 92 1 (.slice p6 (dif (undL bs x) [x]).length c6) (dif (undL bs x) [x]).length (icell (dif (undL bs x) [x])) ∧ Below w.heap.size w (w6.setCell ⟨zb, 0, none⟩ (.slice p6 (dif (undL bs x) [x]).length c6)) ∧ w.heap.size + 3 ≤ zb) := by
    rintro zb w6 p6 c6 ⟨o, f⟩ hq hle
    obtain ⟨g0, g1, g2', f3, _⟩ := HZ.out
    have sz := f.size
    exact ⟨blk_setOther (by rw [f.block _ (by omega)]; exact g0) (by omega) _ _, blk_setOther (by rw [f.block _ (by omega)]; exact g1) (by omega) _ _, blk_setOther (by rw [f.block _ (by omega)]; exact g2') (by omega) _ _, blk_set hq _ _, owns_setT o hq (by decide), below_set (f3.trans (f.mono (by omega))) _ _ _ (by omega), by omega⟩
  have l2W : w.heap.size + 1 + 1 < W3.heap.size := by omega
  have HHZ := stop hz
  clear HP HO HZ g2 hgl hz
  go_region_law (first | (refine stepC rfl 75 #[.slice (some ⟨W3.heap.size, 0, none⟩) 1 1] (by go_simp) (ofB [x] 0 _ _ HA4.out (by simp)) ?_; rintro e w5 ⟨v5, rfl, o5, f5⟩; rw [ofL_one] at o5; obtain ⟨p5, c5, rfl⟩ := owns_slice2 o5; have f5' := FA.out _ _ f5; have s5 := f5'.size; have y2 := (f5'.cell (p := ⟨w.heap.size + 1 + 1, 0, none⟩) l2W).trans k2; have y2a : ∀ o, (w5.alloc o).cell? ⟨w.heap.size + 1 + 1, 0, none⟩ = some (.slice p1 (undL bs x).length c1) := fun o => (World.cell?_alloc_some w5 _ o (by rw [y2]; rfl)).trans y2; have O5 := stop (And.intro (owns_base o5 (base' := 0) (Nat.zero_le _)) f5'); clear o5 f5 f5') | (refine stepC rfl 75 #[.slice (some ⟨W3.heap.size + 1, 0, none⟩) 1 1] (by go_simp) (ofB [x] 0 _ _ HB4.out (by simp)) ?_; rintro e w5 ⟨v5, rfl, o5, f5⟩; rw [ofL_one] at o5; obtain ⟨p5, c5, rfl⟩ := owns_slice2 o5; obtain ⟨f5', qz, _⟩ := FB.out _ _ _ f5; have s5 := f5'.size; have y2 := (f5'.cell (p := ⟨w.heap.size + 1 + 1, 0, none⟩) l2W).trans k2; have y2a : ∀ o, (w5.alloc o).cell? ⟨w.heap.size + 1 + 1, 0, none⟩ = some (.slice p1 (undL bs x).length c1) := fun o => (World.cell?_alloc_some w5 _ o (by rw [y2]; rfl)).trans y2; have O5 := stop (And.intro (owns_base o5 (base' := 0) (Nat.zero_le _)) f5'); have QZ := stop qz; clear o5 f5 f5' qz) | (refine stepC rfl 75 #[.slice (some ⟨W3.heap.size, 0, none⟩) 1 1] (by go_simp) (ofB [x] 0 _ _ HC4.out (by simp)) ?_; rintro e w5 ⟨v5, rfl, o5, f5⟩; rw [ofL_one] at o5; obtain ⟨p5, c5, rfl⟩ := owns_slice2 o5; obtain ⟨f5', _, qz⟩ := FB.out _ _ _ f5; have s5 := f5'.size; have y2 := (f5'.cell (p := ⟨w.heap.size + 1 + 1, 0, none⟩) l2W).trans k2; have y2a : ∀ o, (w5.alloc o).cell? ⟨w.heap.size + 1 + 1, 0, none⟩ = some (.slice p1 (undL bs x).length c1) := fun o => (World.cell?_alloc_some w5 _ o (by rw [y2]; rfl)).trans y2; have O5 := stop (And.intro (owns_base o5 (base' := 0) (Nat.zero_le _)) f5'); have QZ := stop qz; clear o5 f5 f5' qz) | (refine stepC rfl 74 #[.agg #[.slice p1 (undL bs x).length c1], .agg #[.slice p5 1 c5]] (by go_simp) (minusB (undL bs x) [x] B 0 _ _ w5 (FW.out _ O5.out.2).2 O5.out.1 (List.pairwise_singleton _ _) LU (by simp)) ?_; rintro e w6 ⟨v6, rfl, o6, f6⟩; obtain ⟨p6, c6, rfl⟩ := owns_slice2 o6; have s6 := f6.size; (first | (have qz6 := (f6.block _ (lt_of_block QZ.out)).trans QZ.out; have z6 := cell_of qz6 0; have z6f := frozen_of qz6 0; have QZ6 := stop qz6; simp at z6; clear qz6) | skip); have O6 := stop (And.intro (owns_base o6 (base' := 0) (Nat.zero_le _)) (O5.out.2.trans (f6.mono s5))); clear o6 f6) | (refine stepC rfl 74 #[.agg #[.slice p1 (undL bs x).length c1], .agg #[.slice p5 1 c5]] (by go_simp) (minusB (undL bs x) [x] B 0 _ _ (w5.alloc (.cells #[.slice none 0 0] 86)) ((FW.out _ O5.out.2).2.alloc _) (O5.out.1.alloc _) (List.pairwise_singleton _ _) LU (by simp)) ?_; rintro e w6 ⟨v6, rfl, o6, f6⟩; obtain ⟨p6, c6, rfl⟩ := owns_slice2 o6; have s6 := f6.size; rw [World.size_alloc] at s6; have qz6 := (f6.block w5.heap.size (by rw [World.size_alloc]; exact Nat.lt_succ_self _)).trans (heap_alloc_last w5 (.cells #[.slice none 0 0] 86)); have z6 := cell_of qz6 0; have z6f := frozen_of qz6 0; have QZ6 := stop qz6; simp at z6; clear qz6; have O6 := stop (And.intro (owns_base o6 (base' := 0) (Nat.zero_le _)) ((O5.out.2.alloc s5 _).trans (f6.mono (by rw [World.size_alloc]; omega)))); clear o6 f6) | fail)
  all_goals
    first
      | exact TAIL w6.heap.size _ p6 c6 _ _ _ _ _ (FA2.out w6 p6 c6 O6.out)
      | exact TAIL w5.heap.size _ p6 c6 _ _ _ _ _ (FS2.out w5.heap.size w6 p6 c6 O6.out QZ6.out s5)
      | exact TAIL W3.heap.size _ p6 c6 _ _ _ _ _ (FS2.out W3.heap.size w6 p6 c6 O6.out QZ6.out (Nat.le_refl _))
      | exact TAIL (W3.heap.size + 1) _ p6 c6 _ _ _ _ _ (FS2.out (W3.heap.size + 1) w6 p6 c6 O6.out QZ6.out (Nat.le_succ _))

end Go.Proofs.YtgfhfkgdmidhpaaGreat

namespace Go.Proofs.YtgfhfkgdmidhpaaGreat
open Go.RowKit

theorem owns_grownB {w w' : World} {base e n : Nat} {u : Value} {xs : List Value} {row : Option Nat} (o : w.ownsRow base e 1 u n xs) (gr : w.grownBy w' row) (hne : ∀ b, u.ownBlock = some b → row ≠ some b) : w'.ownsRow base e 1 u n xs := by
  obtain ⟨o1, o2⟩ := o
  refine ⟨o1, o2.imp id ?_⟩
  rintro ⟨g, cap, cur, rfl, hb, hg, hr⟩
  refine ⟨g, cap, cur, rfl, hb, ?_, hr⟩
  exact blk_grown gr hg (fun j hj e => hne g rfl (by rw [hj, e]))
/-- Lists as far as they are made: block gl holds them. -/
def Lsts (base : Nat) (w : World) (gl n : Nat) (f : Nat → List Nat) (m : Nat) (us : List Value) : Prop :=
  w.ownsRow base 29 1 (.slice (some ⟨gl, 0, none⟩) n n) n us ∧ ∀ (k : Nat) (u : Value), us[k]? = some u → (k < m → w.ownsRow base 3 1 u (f k).length (icell (f k))) ∧ (m < k → u = .slice none 0 0)

set_option maxRecDepth 100000 in
set_option maxHeartbeats 1500000 in
theorem numbersP (n : Nat) (f : Nat → List Nat) (B : Nat) (vs : Value) (w : World) (h : SetR B w vs n f) (hn : n ≤ 1000) (hf : Hid (∀ k, k < n → (f k).length ≤ 1000)) :
    Calls Tryz.prog 48 #[vs] w fun x w' => ∃ v', x = .returned v' ∧ RowR w.heap.size w' v' n f ∧ Below w.heap.size w w' := by
  obtain ⟨pv, cv, rfl⟩ := h.slice
  have HS := stop h
  clear h
  obtain ⟨I9, Hi9, Hz9, Hs9, Hb9⟩ := info_parts Tryz.info29
  go_enter Tryz.func48, Tryz.ntmps48
  go_wp2_with (at_make; refine unstop ?_)
  refine stop ?_
  refine wpList_make_full _ rfl _ _ 36 rfl w.heap.size 29 I9 (.slice none 0 0) 1 Tryz.underlying36 Hi9 Hz9 Hs9 .i64 .i64 _ _ n rfl rfl rfl rfl (by rw [Hb9]; omega) (by unfold maxLen; omega) (Nat.le_refl _) ?_
  intro w1 o1 g1
  rw [made_one _ rfl] at o1
  have F1 := stop (Below.grown (Below.refl w.heap.size w) g1 (Nat.le_refl _) (fun k hk => by cases hk))
  have B0 : Hid (∃ us, Lsts w.heap.size w1 w.heap.size n f 0 us ∧ (∀ u, us[0]? = some u → u = .slice none 0 0)) := by
    refine ⟨_, ⟨o1, fun k u hk => ⟨fun h => by omega, fun _ => ?_⟩⟩, fun u hu => ?_⟩
    · rw [List.getElem?_replicate] at hk
      split at hk
      · cases hk; rfl
      · cases hk
    · rw [List.getElem?_replicate] at hu
      split at hu
      · cases hu; rfl
      · cases hu
  clear o1 g1 Hi9 Hz9 Hs9 Hb9
  go_wp2_with fail
  go_loopw [13] (fun i wr => ∃ m : Nat, m ≤ n ∧ i = .int .i64 m ∧ Hid (∃ us, Lsts w.heap.size wr w.heap.size n f m us ∧ (∀ u, us[m]? = some u → u = .slice none 0 0)) ∧ Hid (Below w.heap.size w wr)) (fun i _ => n - (intOf i).toNat)
  case atStart => exact ⟨0, by omega, rfl, B0, F1⟩
  case round =>
    clear B0 F1
    obtain ⟨m, hm, rfl, HL, F⟩ := hrel
    by_cases hlt : m < n
    · obtain ⟨us, L, hmn⟩ := HL.out
      have hz := F.out.size
      have hul : us.length = n := by have := L.1.1; omega
      obtain ⟨gs, u, rfl, _, hgs, hcs, _, hos⟩ := (HS.out.keeps F.out).at hlt
      obtain ⟨pu, cu, rfl⟩ := owns_slice2 hos
      have hfm := hf.out m hlt
      have HOS := stop hos
      have HLL := stop (And.intro L hmn)
      clear hos L hmn HL
      go_wp2_with fail
      obtain ⟨W2, hW2⟩ : ∃ W2, W2 = wr.alloc (.cells #[.slice pu (f m).length cu] 86) := ⟨_, rfl⟩
      rw [← hW2]
      have f2 : Below wr.heap.size wr W2 := by rw [hW2]; exact (Below.refl _ _).alloc (Nat.le_refl _) _
      have s2 : W2.heap.size = wr.heap.size + 1 := by rw [hW2, World.size_alloc]
      clear hW2
      refine (itmB (f m) B _ W2 (owns_keeps HOS.out (Keeps.below (T := fun _ => True) f2) trivial) (by omega)).mono ?_
      rintro e w3 ⟨vi, rfl, oi, f3⟩
      have s3 := f3.size
      obtain ⟨pi, ci, rfl⟩ := owns_slice2 oi
      have f13 := f2.trans (f3.mono (by omega))
      have B3 : Hid (∃ us cur, Lsts w.heap.size w3 w.heap.size n f m us ∧ us[m]? = some cur ∧ w3.ownsRow w3.heap.size 3 1 cur 0 [] ∧ (∀ k u, us[k]? = some u → k < m → ∀ b, u.ownBlock = some b → b < w3.heap.size)) := by
        obtain ⟨L, hmn⟩ := HLL.out
        have hum : us[m]? = some us[m] := List.getElem?_eq_getElem (by omega)
        have hL3 : Lsts w.heap.size w3 w.heap.size n f m us := ⟨owns_keeps L.1 (Keeps.below (T := fun _ => True) f13) trivial, fun k u hk => ⟨fun h => owns_keeps ((L.2 k u hk).1 h) (Keeps.below (T := fun _ => True) f13) trivial, (L.2 k u hk).2⟩⟩
        refine ⟨us, us[m], hL3, hum, by rw [hmn _ hum]; exact World.ownsRow_nil _ _ _ _, fun k u hk hkm b hb => (((hL3.2 k u hk).1 hkm).lt b hb).2⟩
      have I3 : Hid (w3.ownsRow 0 92 1 (.slice pi (f m).length ci) (f m).length (icell (f m)) ∧ Below w.heap.size w w3 ∧ wr.heap.size < w3.heap.size ∧ w3.heap.size ≤ w3.heap.size) := ⟨owns_base oi (Nat.zero_le _), F.out.trans (f13.mono hz), by omega, Nat.le_refl _⟩
      clear oi f2 f3 f13 HLL HOS hcs hul
      clear us
      go_wp2_with fail
      go_loopw [21] (fun i wr2 => ∃ q : Nat, q ≤ (f m).length ∧ i = .int .i64 q ∧ Hid (∃ us cur, Lsts w.heap.size wr2 w.heap.size n f m us ∧ us[m]? = some cur ∧ wr2.ownsRow w3.heap.size 3 1 cur q (icell ((f m).take q)) ∧ (∀ k u, us[k]? = some u → k < m → ∀ b, u.ownBlock = some b → b < w3.heap.size)) ∧ Hid (wr2.ownsRow 0 92 1 (.slice pi (f m).length ci) (f m).length (icell (f m)) ∧ (∀ b, (Value.slice pi (f m).length ci).ownBlock = some b → b < w3.heap.size) ∧ Below w.heap.size w wr2 ∧ w3.heap.size ≤ wr2.heap.size)) (fun i _ => (f m).length - (intOf i).toNat)
      case atStart => exact ⟨0, by omega, rfl, B3, I3.out.1, fun b hb => (I3.out.1.lt b hb).2, I3.out.2.1, I3.out.2.2.2⟩
      case round =>
        clear B3
        have hw3 := I3.out.2.2.1
        clear I3
        obtain ⟨q, hq, rfl, HQ, HI⟩ := hrel
        by_cases hql : q < (f m).length
        · obtain ⟨gi, rfl, _, _⟩ := owns_form HI.out.1 (by omega)
          have ci0 := owns_cell HI.out.1 (icell_at hql)
          obtain ⟨us, cur, L, hum, hoc, hbl⟩ := HQ.out
          have cl0 := owns_cell L.1 hum
          obtain ⟨pc, cc, rfl⟩ := owns_slice2 hoc
          have HQ2 := stop (And.intro L (And.intro hum (And.intro hoc hbl)))
          have hz2 := HI.out.2.2.2
          clear L hum hoc hbl HQ
          go_wp2_with (at_builtin; refine unstop ?_)
          refine stop ?_
          obtain ⟨L, hum, hoc, hbl⟩ := HQ2.out
          have gB := heap_alloc_last wr (.cells #[.int .i64 (f m)[q]] 3)
          have hoc2 := hoc.alloc (.cells #[.int .i64 (f m)[q]] 3)
          refine app1 Tryz.underlying29 Tryz.info3 rfl (by decide) (by decide) rfl _ _ rfl rfl hoc2 gB rfl rfl (List.all_eq_true.1 rfl) (by omega) (by simp; omega) ?_
          intro v3 wS oS gS
          have hsS := gS.size
          rw [World.size_alloc] at hsS
          have hcb : ∀ b, (Value.slice pc q cc).ownBlock = some b → w3.heap.size ≤ b := fun b hb => (hoc.lt b hb).1
          have l0 : wr.ownsRow w.heap.size 29 1 (.slice (some ⟨w.heap.size, 0, none⟩) n n) n us := L.1
          have L2 : wS.ownsRow w.heap.size 29 1 (.slice (some ⟨w.heap.size, 0, none⟩) n n) n us := owns_grownB (l0.alloc _) gS (fun b hb e => by have h1 := hcb b e; have h2 : b = w.heap.size := (by simpa [Value.ownBlock] using hb.symm); omega)
          have R2 : ∀ k u, us[k]? = some u → k < m → wS.ownsRow w.heap.size 3 1 u (f k).length (icell (f k)) := fun k u hk hkm => owns_grownB (((L.2 k u hk).1 hkm).alloc _) gS (fun b hb e => by have h1 := hcb b e; have h2 := hbl k u hk hkm b hb; omega)
          have I2 : wS.ownsRow 0 92 1 (.slice (some ⟨gi, 0, none⟩) (f m).length ci) (f m).length (icell (f m)) := owns_grownB (HI.out.1.alloc _) gS (fun b hb e => by have h1 := hcb b e; have h2 := HI.out.2.1 b hb; omega)
          obtain ⟨p5, c5, rfl⟩ := owns_slice2 oS
          have cl2 := owns_cell L2 hum
          have clf := owns_fz L2 m
          have FS := Below.grown (HI.out.2.2.1.alloc (by omega) (.cells #[.int .i64 (f m)[q]] 3)) gS (by simp; omega) (fun j hj => by have := hcb j hj; omega)
          have hgl : ∃ cs fz, wS.heap[w.heap.size]? = some (.cells cs 29 fz) := by
            rcases L2.2 with ⟨h0, _⟩ | ⟨g', cap', cur', hv, _, hc', _⟩
            · cases h0
            · cases hv; exact ⟨_, _, hc'⟩
          obtain ⟨cs, fz, hgl⟩ := hgl
          have HN : Hid ((∃ us cur, Lsts w.heap.size (wS.setCell ⟨w.heap.size, m, none⟩ (.slice p5 (q + 1) c5)) w.heap.size n f m us ∧ us[m]? = some cur ∧ (wS.setCell ⟨w.heap.size, m, none⟩ (.slice p5 (q + 1) c5)).ownsRow w3.heap.size 3 1 cur (q + 1) (icell ((f m).take (q + 1))) ∧ (∀ k u, us[k]? = some u → k < m → ∀ b, u.ownBlock = some b → b < w3.heap.size)) ∧ ((wS.setCell ⟨w.heap.size, m, none⟩ (.slice p5 (q + 1) c5)).ownsRow 0 92 1 (.slice (some ⟨gi, 0, none⟩) (f m).length ci) (f m).length (icell (f m)) ∧ (∀ b, (Value.slice (some ⟨gi, 0, none⟩) (f m).length ci).ownBlock = some b → b < w3.heap.size) ∧ Below w.heap.size w (wS.setCell ⟨w.heap.size, m, none⟩ (.slice p5 (q + 1) c5)) ∧ w3.heap.size ≤ (wS.setCell ⟨w.heap.size, m, none⟩ (.slice p5 (q + 1) c5)).heap.size)) := by
            have hul : us.length = n := by have := L2.1; omega
            refine ⟨⟨us.set m (.slice p5 (q + 1) c5), .slice p5 (q + 1) c5, ⟨owns_store L2 m _, fun k u hk => ?_⟩, by rw [List.getElem?_set, if_pos rfl, if_pos (by omega)], ?_, fun k u hk hkm b hb => ?_⟩, owns_setT I2 hgl (by decide), HI.out.2.1, below_set FS _ _ _ (Nat.le_refl _), by rw [size_set]; omega⟩
            · rw [List.getElem?_set] at hk
              by_cases e : m = k
              · subst e; exact ⟨fun h => by omega, fun h => by omega⟩
              · rw [if_neg e] at hk
                exact ⟨fun h => owns_setT (R2 k u hk h) hgl (by decide), (L.2 k u hk).2⟩
            · have e : icell ((f m).take (q + 1)) = icell ((f m).take q) ++ [.int .i64 (f m)[q]] := by rw [List.take_succ_eq_append_getElem hql, icell_app]; rfl
              rw [e]
              exact owns_setT oS hgl (by decide)
            · rw [List.getElem?_set, if_neg (by omega)] at hk
              exact hbl k u hk hkm b hb
          clear L hum hoc hbl gB hoc2 gS l0 L2 R2 I2 oS FS hgl HQ2 HI hcb
          go_wp2_with fail
          go_roundw
          case rel => exact ⟨q + 1, by omega, by go_num, HN.out.1, HN.out.2⟩
          case measure => simp [intOf]; omega
        · have hqe : q = (f m).length := by omega
          subst hqe
          have HN : Hid ((∃ us, Lsts w.heap.size wr w.heap.size n f (m + 1) us ∧ (∀ u, us[m + 1]? = some u → u = .slice none 0 0)) ∧ Below w.heap.size w wr) := by
            obtain ⟨us, cur, L, hum, hoc, _⟩ := HQ.out
            rw [List.take_length] at hoc
            refine ⟨⟨us, ⟨L.1, fun k u hk => ⟨fun h => ?_, fun h => (L.2 k u hk).2 (by omega)⟩⟩, fun u hu => (L.2 (m + 1) u hu).2 (by omega)⟩, HI.out.2.2.1⟩
            by_cases e : k = m
            · subst e
              rw [hum] at hk
              cases hk
              exact owns_base hoc (by omega)
            · exact (L.2 k u hk).1 (by omega)
          clear HQ HI
          go_wp2_with fail
          go_roundw
          case rel => exact ⟨m + 1, by omega, by go_num, HN.out.1, HN.out.2⟩
          case measure => simp [intOf]; omega
    · have hme : m = n := by omega
      subst hme
      have HN : Hid (RowR w.heap.size wr (.slice (some ⟨w.heap.size, 0, none⟩) m m) m f) := by
        obtain ⟨us, L, _⟩ := HL.out
        have hul : us.length = m := by have := L.1.1; omega
        refine ⟨us, L.1, fun k u hk => (L.2 k u hk).1 ?_⟩
        rcases Nat.lt_or_ge k us.length with h | h
        · omega
        · rw [List.getElem?_eq_none h] at hk; cases hk
      go_wp2_with fail
      go_ret
      exact ⟨_, rfl, HN.out, F.out⟩

end Go.Proofs.YtgfhfkgdmidhpaaGreat
