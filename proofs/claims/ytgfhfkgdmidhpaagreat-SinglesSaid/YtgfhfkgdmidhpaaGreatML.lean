import Derived.Test.YtgfhfkgdmidhpaaGreatMK
import Derived.Test.YtgfhfkgdmidhpaaGreatMC
import Derived.Deep.LoopGhost
namespace Go.Proofs.YtgfhfkgdmidhpaaGreat
open Go.RowKit

set_option maxRecDepth 100000 in
set_option maxHeartbeats 2000000 in
theorem settleM (bs : List RBlk) (X0 : Nat → List Nat) (base B Be pb qb lb pb2 : Nat) (v ve v0 : Value) (w : World) (hP : PBs w base bs v) (hE : EffQ Be w ve bs bs.length) (hX : SetQ B w v0 bs.length X0) (hp : w.cell? ⟨pb, 0, none⟩ = some v) (hp2 : w.cell? ⟨pb2, 0, none⟩ = some v) (hq : w.cell? ⟨qb, 0, none⟩ = some ve) (hlt0 : w.cell? ⟨lb, 0, none⟩ = some (.func (.func 52) #[] #[.pointer (some ⟨pb2, 0, none⟩)]))
    (hgl : Hid (∀ b ∈ bs, ∀ p ∈ goalsF b.e, p.1 < bs.length)) (hf : Hid (∀ b ∈ bs, BFine 1000000 b)) (hri : Hid (∀ b ∈ bs, ∀ c ∈ b.chs, (c.gs.map (·.1)).Pairwise (· < ·))) (hg2 : Hid (∀ b ∈ bs, ∀ c ∈ b.chs, c.gs.length ≤ 1000)) (hG : Hid (Grow bs X0)) (hn0 : 0 < bs.length) (hn : bs.length ≤ 1000) :
    Calls Tryz.prog 82 #[v0, .func (.func 83) #[] #[.pointer (some ⟨pb, 0, none⟩), .pointer (some ⟨qb, 0, none⟩), .pointer (some ⟨lb, 0, none⟩)]] w fun x w' => ∃ v', x = .returned v' ∧ Hid (SetQ w.heap.size w' v' bs.length (matL bs) ∧ Below w.heap.size w w') := by
  obtain ⟨pf, cf, rfl⟩ := hX.slice
  have hqw : qb < w.heap.size := World.block_lt_of_cell? _ _ hq
  have hlw : lb < w.heap.size := World.block_lt_of_cell? _ _ hlt0
  have hpw : pb < w.heap.size := World.block_lt_of_cell? _ _ hp
  have hp2w : pb2 < w.heap.size := World.block_lt_of_cell? _ _ hp2
  have H0 := stop (And.intro hP (And.intro hE (And.intro hp (And.intro hp2 (And.intro hq hlt0)))))
  have HX := stop (hX.base (Nat.zero_le _))
  have hmt : ∀ (x : Value) (w : World), (method 429 103 x "Same").run Tryz.prog w = .ok (223, x) w := fun x w => by kernel_rfl
  clear hP hE hX hp hp2 hq hlt0
  go_enter Tryz.func82, Tryz.ntmps82
  go_wp2_with fail
  go_loopg [0] (bs.length * 10000 - sumL bs.length X0) (fun g s wr => ∃ (X : Nat → List Nat) (p : Option Addr) (c : Nat), s = .slice p bs.length c ∧ g = bs.length * 10000 - sumL bs.length X ∧ Hid (Grow bs X ∧ SetQ 0 wr (.slice p bs.length c) bs.length X ∧ Below w.heap.size w wr))
  case atStart => exact ⟨X0, pf, cf, rfl, rfl, hG.out, HX.out, Below.refl _ _⟩
  case round =>
    obtain ⟨X, p, c, rfl, rfl, HR⟩ := hrel
    have HS : Hid (∀ k, SM (X k)) := fun k => ⟨HR.out.1.srt k, fun r hr => mat_lt hf.out (HR.out.1.snd k r hr)⟩
    have HS2 : Hid (∀ k, SM (mstep bs X k)) := fun k => ⟨mstep_srt _ _ _, fun r hr => mat_lt hf.out (mstep_sound HR.out.1.snd hr)⟩
    have hz := HR.out.2.2.size
    go_wp2_with fail
    refine (stepMP bs X base 0 Be pb qb lb pb2 v ve _ wr (H0.out.1.keeps (Keeps.below HR.out.2.2)) (H0.out.2.1.keeps HR.out.2.2) HR.out.2.1 ((HR.out.2.2.cell (p := ⟨pb, 0, none⟩) hpw).trans H0.out.2.2.1) ((HR.out.2.2.cell (p := ⟨pb2, 0, none⟩) hp2w).trans H0.out.2.2.2.1) ((HR.out.2.2.cell (p := ⟨qb, 0, none⟩) hqw).trans H0.out.2.2.2.2.1) ((HR.out.2.2.cell (p := ⟨lb, 0, none⟩) hlw).trans H0.out.2.2.2.2.2) hgl hf hri hg2 HS hn0 hn).mono ?_
    rintro e w5 ⟨v5, rfl, H5⟩
    obtain ⟨p5, c5, rfl⟩ := H5.out.1.slice
    have s5 := H5.out.2.size
    go_wp2_with fail
    refine (sameM bs.length (mstep bs X) X wr.heap.size 0 _ _ w5 H5.out.1 (HR.out.2.1.keeps H5.out.2) HS2 HS hn).mono ?_
    rintro e w6 ⟨bb, rfl, HBB, f6⟩
    have F6 := stop f6
    clear f6
    cases bb with
    | true =>
      have HM : Hid (∀ k, k < bs.length → matL bs k = mstep bs X k) := fun k hk => by
        have he : ∀ i, i < bs.length → mstep bs X i = X i := HBB.out.1 rfl
        rw [he k hk]
        exact (mat_eq hf.out (suF_lt hgl.out) HR.out.1.snd he hk).symm
      go_wp2_with fail
      go_ret
      exact ⟨_, rfl, (SetQ.base (H5.out.1.keeps F6.out) hz).congr HM.out, HR.out.2.2.trans ((H5.out.2.trans (F6.out.mono s5)).mono hz)⟩
    | false =>
      have HR2 : Hid (Grow bs (mstep bs X) ∧ SetQ 0 w6 (.slice p5 bs.length c5) bs.length (mstep bs X) ∧ Below w.heap.size w w6) := ⟨HR.out.1.step, SetQ.base (H5.out.1.keeps F6.out) (Nat.zero_le _), HR.out.2.2.trans ((H5.out.2.trans (F6.out.mono s5)).mono hz)⟩
      have HLT : sumL bs.length X < sumL bs.length (mstep bs X) := by
        obtain ⟨k, hk, hne⟩ := HBB.out.2 rfl
        exact HR.out.1.step_lt hf.out hk hne
      have HLM : sumL bs.length (mstep bs X) ≤ bs.length * 10000 := sumL_lim fun i _ => HR2.out.1.len hf.out i
      clear HBB H5 F6 HR
      go_wp2_with fail
      go_roundg (bs.length * 10000 - sumL bs.length (mstep bs X))
      case measure => omega
      case rel => exact ⟨mstep bs X, p5, c5, rfl, rfl, HR2⟩

end Go.Proofs.YtgfhfkgdmidhpaaGreat

namespace Go.Proofs.YtgfhfkgdmidhpaaGreat
open Go.RowKit

theorem flat_set {us : List (Value × Value)} : ∀ {m : Nat} (p : Value × Value), ((us.set m p).flatMap fun p => [p.1, p.2]) = ((us.flatMap fun p => [p.1, p.2]).set (m * 2) p.1).set (m * 2 + 1) p.2 := by
  induction us with
  | nil => intro m p; simp
  | cons u us ih =>
    intro m p
    cases m with
    | zero => simp
    | succ m =>
      rw [List.set_cons_succ, List.flatMap_cons, List.flatMap_cons, ih]
      rw [show (m + 1) * 2 = m * 2 + 1 + 1 by omega]
      simp
theorem EffQ.store {base : Nat} {w : World} {g c m : Nat} {bs : List RBlk} (h : EffQ base w (.slice (some ⟨g, 0, none⟩) bs.length c) bs m) {vr vg : Value} (o1 : w.ownsRow base 56 1 vr (rdB (bkF bs m)).length (icell (rdB (bkF bs m)))) (o2 : w.ownsRow base 56 1 vg (gvB (bkF bs m)).length (icell (gvB (bkF bs m)))) :
    EffQ base ((w.setCell ⟨g, m * 2, none⟩ vr).setCell ⟨g, m * 2 + 1, none⟩ vg) (.slice (some ⟨g, 0, none⟩) bs.length c) bs (m + 1) := by
  obtain ⟨us, a, l, b⟩ := h
  have hb : ∃ cs fz, w.heap[g]? = some (.cells cs 152 fz) := by
    rcases a.2 with ⟨h0, _⟩ | ⟨g', cap', cur', hv, _, hc', _⟩
    · cases h0
    · cases hv; exact ⟨_, _, hc'⟩
  obtain ⟨cs, fz, hg⟩ := hb
  have hg2 := blk_set hg (m * 2) vr
  have K : ∀ {u : Value} {n : Nat} {xs : List Value}, w.ownsRow base 56 1 u n xs → ((w.setCell ⟨g, m * 2, none⟩ vr).setCell ⟨g, m * 2 + 1, none⟩ vg).ownsRow base 56 1 u n xs := fun o => owns_setT (owns_setT o hg (by decide)) hg2 (by decide)
  refine ⟨us.set m (vr, vg), ?_, by rw [List.length_set, l], fun k p hp hk => ?_⟩
  · rw [flat_set]
    exact owns_storeS (owns_storeS a _ _) _ _
  · rw [List.getElem?_set] at hp
    by_cases e : m = k
    · subst e
      rw [if_pos rfl] at hp
      split at hp
      · cases hp; exact ⟨K o1, K o2⟩
      · cases hp
    · rw [if_neg e] at hp
      exact ⟨K (b k p hp (by omega)).1, K (b k p hp (by omega)).2⟩
theorem EffQ.cells {base : Nat} {w : World} {g c m : Nat} {bs : List RBlk} (h : EffQ base w (.slice (some ⟨g, 0, none⟩) bs.length c) bs m) {k : Nat} (hk : k < bs.length) : ∃ u1 u2, w.cell? ⟨g, k * 2, none⟩ = some u1 ∧ w.cell? ⟨g, k * 2 + 1, none⟩ = some u2 ∧ w.frozen? ⟨g, k * 2, none⟩ = false ∧ w.frozen? ⟨g, k * 2 + 1, none⟩ = false := by
  obtain ⟨us, a, l, _⟩ := h
  have hu : us[k]? = some us[k] := List.getElem?_eq_getElem (by omega)
  have F := fun j hj => flat_get 2 (us.map fun p => [p.1, p.2]) k j [us[k].1, us[k].2] (fun x hx => by obtain ⟨y, _, rfl⟩ := List.mem_map.1 hx; rfl) (by rw [List.getElem?_map, hu]; rfl) hj
  rw [List.flatMap_def] at a
  exact ⟨_, _, owns_cell a (F 0 (by omega)), owns_cell a (F 1 (by omega)), owns_fz a _, owns_fz a _⟩
theorem made_eff (n : Nat) : (madeCells (Value.agg #[.slice none 0 0, .slice none 0 0]).cells (n * 2)).toList = (List.replicate n ((Value.slice none 0 0, Value.slice none 0 0) : Value × Value)).flatMap fun p => [p.1, p.2] := by
  rw [show (Value.agg #[.slice none 0 0, .slice none 0 0]).cells = #[.slice none 0 0, .slice none 0 0] from rfl]
  have h1 : (List.replicate n ((Value.slice none 0 0, Value.slice none 0 0) : Value × Value)).flatMap (fun p => [p.1, p.2]) = List.replicate (n * 2) (Value.slice none 0 0) := by
    induction n with
    | zero => rfl
    | succ n ih => rw [List.replicate_succ, List.flatMap_cons, ih, show (n + 1) * 2 = n * 2 + 1 + 1 by omega, List.replicate_succ, List.replicate_succ]; rfl
  rw [h1]
  apply List.ext_getElem
  · simp [madeCells]
  · intro i h1 h2
    rcases Nat.mod_two_eq_zero_or_one i with h | h <;> simp [madeCells, h]

set_option maxRecDepth 100000 in
set_option maxHeartbeats 2000000 in
theorem settledP (bs : List RBlk) (base pb2 : Nat) (v : Value) (w : World) (hP : PBs w base bs v) (hp2 : w.cell? ⟨pb2, 0, none⟩ = some v)
    (hgl : Hid (∀ b ∈ bs, ∀ p ∈ goalsF b.e, p.1 < bs.length)) (hf : Hid (∀ b ∈ bs, BFine 1000000 b)) (hri : Hid (∀ b ∈ bs, ∀ c ∈ b.chs, (c.gs.map (·.1)).Pairwise (· < ·))) (hg2 : Hid (∀ b ∈ bs, ∀ c ∈ b.chs, c.gs.length ≤ 1000)) (hn0 : 0 < bs.length) (hn : bs.length ≤ 1000) :
    Calls Tryz.prog 51 #[v, .func (.func 52) #[] #[.pointer (some ⟨pb2, 0, none⟩)]] w fun x w' => ∃ v', x = .returned v' ∧ Hid (SetQ w.heap.size w' v' bs.length (matL bs) ∧ Below w.heap.size w w') := by
  obtain ⟨pv, cv, rfl⟩ := hP.slice
  have hp2w : pb2 < w.heap.size := World.block_lt_of_cell? _ _ hp2
  have H0 := stop (And.intro hP hp2)
  obtain ⟨I9, Hi9, Hz9, Hs9, Hb9⟩ := info_parts Tryz.info152
  have HI := stop (And.intro Hi9 (And.intro Hz9 (And.intro Hs9 Hb9)))
  clear hP hp2 Hi9 Hz9 Hs9 Hb9
  go_enter Tryz.func51, Tryz.ntmps51
  go_wp2_with (at_make; refine unstop ?_)
  refine stop ?_
  obtain ⟨W, hW⟩ : ∃ W, W = (w.alloc (.cells #[.slice pv bs.length cv] 44)).alloc (.cells #[.func (.func 52) #[] #[.pointer (some ⟨pb2, 0, none⟩)]] 105) := ⟨_, rfl⟩
  rw [← hW]
  obtain ⟨g0, g1, hz, f2⟩ := two w (.cells #[.slice pv bs.length cv] 44) (.cells #[.func (.func 52) #[] #[.pointer (some ⟨pb2, 0, none⟩)]] 105)
  rw [← hW] at g0 g1 hz f2
  refine wpList_make_full _ rfl _ _ 150 rfl w.heap.size 152 I9 (.agg #[.slice none 0 0, .slice none 0 0]) 2 Tryz.underlying150 HI.out.1 HI.out.2.1 HI.out.2.2.1 .i64 .i64 _ _ bs.length rfl rfl rfl rfl (by rw [HI.out.2.2.2]; omega) (by unfold maxLen; omega) (by omega) ?_
  intro w3 o3 gr3
  have f3 : Below W.heap.size W w3 := Below.grown (Below.refl _ _) gr3 (Nat.le_refl _) (fun k hk => by cases hk)
  have s3 := f3.size
  rw [made_eff] at o3
  rw [hz] at o3 ⊢
  have hmd : EffQ w.heap.size w3 (.slice (some ⟨w.heap.size + 2, 0, none⟩) bs.length bs.length) bs 0 := ⟨_, o3, by simp, fun k p _ hk => absurd hk (by omega)⟩
  obtain ⟨gE, hgE, _, hgl3⟩ := owns_form o3 hn0
  cases hgE
  have B0 : Hid (w3.heap[w.heap.size]? = some (.cells #[.slice pv bs.length cv] 44 (0, 0)) ∧ w3.heap[w.heap.size + 1]? = some (.cells #[.func (.func 52) #[] #[.pointer (some ⟨pb2, 0, none⟩)]] 105 (0, 0)) ∧ EffQ w.heap.size w3 (.slice (some ⟨w.heap.size + 2, 0, none⟩) bs.length bs.length) bs 0 ∧ Below w.heap.size w w3) := ⟨by rw [f3.block _ (by omega)]; exact g0, by rw [f3.block _ (by omega)]; exact g1, hmd, f2.trans (f3.mono (by omega))⟩
  have y0 : ∀ o, (w3.alloc o).cell? ⟨w.heap.size, 0, none⟩ = some (.slice pv bs.length cv) := fun o => by have := cell_of (blk_alloc B0.out.1 o) 0; simpa using this
  clear hW g0 g1 f2 f3 o3 gr3 hmd HI
  go_wp2_with fail
  have B1 : Hid ((w3.alloc (.cells #[.slice (some ⟨w.heap.size + 2, 0, none⟩) bs.length bs.length] 150)).heap[w.heap.size]? = some (.cells #[.slice pv bs.length cv] 44 (0, 0)) ∧ (w3.alloc (.cells #[.slice (some ⟨w.heap.size + 2, 0, none⟩) bs.length bs.length] 150)).heap[w.heap.size + 1]? = some (.cells #[.func (.func 52) #[] #[.pointer (some ⟨pb2, 0, none⟩)]] 105 (0, 0)) ∧ (w3.alloc (.cells #[.slice (some ⟨w.heap.size + 2, 0, none⟩) bs.length bs.length] 150)).heap[w3.heap.size]? = some (.cells #[.slice (some ⟨w.heap.size + 2, 0, none⟩) bs.length bs.length] 150 (0, 0)) ∧ EffQ w.heap.size (w3.alloc (.cells #[.slice (some ⟨w.heap.size + 2, 0, none⟩) bs.length bs.length] 150)) (.slice (some ⟨w.heap.size + 2, 0, none⟩) bs.length bs.length) bs 0 ∧ Below w.heap.size w (w3.alloc (.cells #[.slice (some ⟨w.heap.size + 2, 0, none⟩) bs.length bs.length] 150))) := by
    obtain ⟨a1, a2, a3, a4⟩ := B0.out
    exact ⟨blk_alloc a1 _, blk_alloc a2 _, heap_alloc_last _ _, a3.keeps ((Below.refl _ _).alloc (Nat.le_refl _) _), a4.alloc (by omega) _⟩
  clear B0 y0
  go_loopw [13] (fun j wr => ∃ m : Nat, m ≤ bs.length ∧ j = .int .i64 m ∧ Hid (wr.heap[w.heap.size]? = some (.cells #[.slice pv bs.length cv] 44 (0, 0)) ∧ wr.heap[w.heap.size + 1]? = some (.cells #[.func (.func 52) #[] #[.pointer (some ⟨pb2, 0, none⟩)]] 105 (0, 0)) ∧ wr.heap[w3.heap.size]? = some (.cells #[.slice (some ⟨w.heap.size + 2, 0, none⟩) bs.length bs.length] 150 (0, 0)) ∧ EffQ w.heap.size wr (.slice (some ⟨w.heap.size + 2, 0, none⟩) bs.length bs.length) bs m ∧ Below w.heap.size w wr)) (fun j _ => bs.length - (intOf j).toNat)
  case atStart => exact ⟨0, by omega, rfl, B1⟩
  case round =>
    clear B1
    obtain ⟨m, hm, rfl, HR⟩ := hrel
    have hz2 := HR.out.2.2.2.2.size
    have hzl := lt_of_block HR.out.2.2.1
    by_cases hlt : m < bs.length
    · obtain ⟨gv, qc, cc, ps, cs1, rfl, _, hgv, hop, _, OS, d0, d1, d2, d3⟩ := (H0.out.1.keeps (Keeps.below HR.out.2.2.2.2)).at hlt
      obtain ⟨T, x, hT⟩ := endVal_iface bs[m].e
      rw [hT] at d3
      have HT := stop hT
      have HOP := stop hop
      have HFM := stop (hf.out _ (List.getElem_mem hlt))
      have hsl := HFM.out.sl
      have HBK := stop (bkF_at hlt)
      have HOS := stop OS
      clear hT hop OS
      go_wp2_with fail
      obtain ⟨W5, hW5⟩ : ∃ W5, W5 = wr.alloc (.cells #[.int .i64 bs[m].at_, .slice qc bs[m].chs.length cc, .slice ps bs[m].sts.length cs1, .iface T x] 69) := ⟨_, rfl⟩
      rw [← hW5]
      have g5 : W5.heap[wr.heap.size]? = some (.cells #[.int .i64 bs[m].at_, .slice qc bs[m].chs.length cc, .slice ps bs[m].sts.length cs1, .iface T x] 69 (0, 0)) := by rw [hW5]; exact heap_alloc_last _ _
      have f5 : Below wr.heap.size wr W5 := by rw [hW5]; exact (Below.refl _ _).alloc (Nat.le_refl _) _
      have s5 : W5.heap.size = wr.heap.size + 1 := by rw [hW5, World.size_alloc]
      have k0 := cell_of g5 0
      have k1 := cell_of g5 1
      have k2 := cell_of g5 2
      have k3 := cell_of g5 3
      simp at k0 k1 k2 k3
      have ke := (f5.cell (p := ⟨w3.heap.size, 0, none⟩) (show w3.heap.size < _ by omega)).trans (cell_of HR.out.2.2.1 0)
      simp at ke
      have HC : Hid (Calls Tryz.prog 81 #[.agg #[.int .i64 bs[m].at_, .slice qc bs[m].chs.length cc, .slice ps bs[m].sts.length cs1, .iface T x]] W5.drew fun x w' => ∃ vr vg, x = .returned (.agg #[vr, vg]) ∧ Hid (w'.ownsRow W5.drew.heap.size 56 1 vr (rdB bs[m]).length (icell (rdB bs[m])) ∧ w'.ownsRow W5.drew.heap.size 56 1 vg (gvB bs[m]).length (icell (gvB bs[m])) ∧ Below W5.drew.heap.size W5.drew w')) := by
        rw [← HT.out]; exact effP bs[m] 1000000 HFM HOP bs[m].at_ base qc _ cc ps cs1 W5.drew (show W5.ownsRow base 209 1 _ _ _ from owns_keeps HOS.out (Keeps.below (T := fun _ => True) f5) trivial) hsl
      have R5 : Hid (W5.heap[w.heap.size]? = some (.cells #[.slice (some ⟨gv, 0, none⟩) bs.length cv] 44 (0, 0)) ∧ W5.heap[w.heap.size + 1]? = some (.cells #[.func (.func 52) #[] #[.pointer (some ⟨pb2, 0, none⟩)]] 105 (0, 0)) ∧ W5.heap[w3.heap.size]? = some (.cells #[.slice (some ⟨w.heap.size + 2, 0, none⟩) bs.length bs.length] 150 (0, 0)) ∧ EffQ w.heap.size W5 (.slice (some ⟨w.heap.size + 2, 0, none⟩) bs.length bs.length) bs m ∧ Below w.heap.size w W5) := by
        obtain ⟨a1, a2, a3, a4, a5⟩ := HR.out
        exact ⟨by rw [f5.block _ (lt_of_block a1)]; exact a1, by rw [f5.block _ (lt_of_block a2)]; exact a2, by rw [f5.block _ (lt_of_block a3)]; exact a3, a4.keeps f5, a5.trans (f5.mono hz2)⟩
      clear hW5 g5 f5 HR d0 d1 d2 d3
      go_region_law (first | (refine stepC rfl 81 #[.agg #[.int .i64 bs[m].at_, .slice qc bs[m].chs.length cc, .slice ps bs[m].sts.length cs1, .iface T x]] (by go_simp) HC.out ?_; rintro e w6 ⟨vr6, vg6, rfl, H6⟩; obtain ⟨p6, c6, rfl⟩ := owns_slice2 H6.out.1; obtain ⟨p7, c7, rfl⟩ := owns_slice2 H6.out.2.1; have f6 : Below W5.heap.size W5 w6 := ⟨H6.out.2.2.os, H6.out.2.2.tape, H6.out.2.2.output, H6.out.2.2.size, H6.out.2.2.block⟩; have s6 := f6.size; have ye := f6.cell (p := ⟨w3.heap.size, 0, none⟩) (show w3.heap.size < _ by omega); obtain ⟨x0, x1, z0, z1, z0f, z1f⟩ := (R5.out.2.2.2.1.keeps f6).cells hlt; have O6 := stop (And.intro H6.out.1 (And.intro H6.out.2.1 f6)); clear H6 f6) | fail)
      all_goals
        have HR6 : Hid (((w6.setCell ⟨w.heap.size + 2, m * 2, none⟩ (.slice p6 (rdB bs[m]).length c6)).setCell ⟨w.heap.size + 2, m * 2 + 1, none⟩ (.slice p7 (gvB bs[m]).length c7)).heap[w.heap.size]? = some (.cells #[.slice (some ⟨gv, 0, none⟩) bs.length cv] 44 (0, 0)) ∧ ((w6.setCell ⟨w.heap.size + 2, m * 2, none⟩ (.slice p6 (rdB bs[m]).length c6)).setCell ⟨w.heap.size + 2, m * 2 + 1, none⟩ (.slice p7 (gvB bs[m]).length c7)).heap[w.heap.size + 1]? = some (.cells #[.func (.func 52) #[] #[.pointer (some ⟨pb2, 0, none⟩)]] 105 (0, 0)) ∧ ((w6.setCell ⟨w.heap.size + 2, m * 2, none⟩ (.slice p6 (rdB bs[m]).length c6)).setCell ⟨w.heap.size + 2, m * 2 + 1, none⟩ (.slice p7 (gvB bs[m]).length c7)).heap[w3.heap.size]? = some (.cells #[.slice (some ⟨w.heap.size + 2, 0, none⟩) bs.length bs.length] 150 (0, 0)) ∧ EffQ w.heap.size ((w6.setCell ⟨w.heap.size + 2, m * 2, none⟩ (.slice p6 (rdB bs[m]).length c6)).setCell ⟨w.heap.size + 2, m * 2 + 1, none⟩ (.slice p7 (gvB bs[m]).length c7)) (.slice (some ⟨w.heap.size + 2, 0, none⟩) bs.length bs.length) bs (m + 1) ∧ Below w.heap.size w ((w6.setCell ⟨w.heap.size + 2, m * 2, none⟩ (.slice p6 (rdB bs[m]).length c6)).setCell ⟨w.heap.size + 2, m * 2 + 1, none⟩ (.slice p7 (gvB bs[m]).length c7))) := by
          obtain ⟨a1, a2, a3, a4, a5⟩ := R5.out
          obtain ⟨j1, j2, f6⟩ := O6.out
          have b1 : w6.heap[w.heap.size]? = some (.cells #[.slice (some ⟨gv, 0, none⟩) bs.length cv] 44 (0, 0)) := by rw [f6.block _ (lt_of_block a1)]; exact a1
          have b2 : w6.heap[w.heap.size + 1]? = some (.cells #[.func (.func 52) #[] #[.pointer (some ⟨pb2, 0, none⟩)]] 105 (0, 0)) := by rw [f6.block _ (lt_of_block a2)]; exact a2
          have b3 : w6.heap[w3.heap.size]? = some (.cells #[.slice (some ⟨w.heap.size + 2, 0, none⟩) bs.length bs.length] 150 (0, 0)) := by rw [f6.block _ (lt_of_block a3)]; exact a3
          refine ⟨blk_setOther (blk_setOther b1 (by omega) _ _) (by omega) _ _, blk_setOther (blk_setOther b2 (by omega) _ _) (by omega) _ _, blk_setOther (blk_setOther b3 (by omega) _ _) (by omega) _ _, ?_, below_set (below_set (a5.trans (f6.mono (by omega))) _ _ _ (by omega)) _ _ _ (by omega)⟩
          refine EffQ.store (a4.keeps f6) ?_ ?_
          · rw [HBK.out]; exact owns_base j1 (show w.heap.size ≤ W5.heap.size by omega)
          · rw [HBK.out]; exact owns_base j2 (show w.heap.size ≤ W5.heap.size by omega)
        clear R5 O6 HC
        go_wp2_with fail
        go_roundw
        case rel => exact ⟨m + 1, by omega, by go_num, HR6⟩
        case measure => simp [intOf]; omega
    · have hme : m = bs.length := by omega
      subst hme
      have e0 := cell_of HR.out.1 0
      simp at e0
      obtain ⟨I8, Hi8, Hz8, Hs8, Hb8⟩ := info_parts Tryz.info100
      have HI8 := stop (And.intro Hi8 (And.intro Hz8 (And.intro Hs8 Hb8)))
      clear Hi8 Hz8 Hs8 Hb8
      go_wp2_with (at_make; refine unstop ?_)
      refine stop ?_
      refine wpList_make_full _ rfl _ _ 103 rfl wr.heap.size 100 I8 (.agg #[.slice none 0 0]) 1 Tryz.underlying103 HI8.out.1 HI8.out.2.1 HI8.out.2.2.1 .i64 .i64 _ _ bs.length rfl rfl rfl rfl (by rw [HI8.out.2.2.2]; omega) (by unfold maxLen; omega) (Nat.le_refl _) ?_
      intro w8 o8 gr8
      have f8 : Below wr.heap.size wr w8 := Below.grown (Below.refl _ _) gr8 (Nat.le_refl _) (fun k hk => by cases hk)
      have S8 : SetQ wr.heap.size w8 (.slice (some ⟨wr.heap.size, 0, none⟩) bs.length bs.length) bs.length (fun _ => []) := by
        refine ⟨_, o8, fun k u hu => ?_⟩
        rw [made_set] at hu
        obtain ⟨_, rfl⟩ := get_rep hu
        exact World.ownsRow_nil _ _ _ _
      have s8 := f8.size
      have H8 : Hid (w8.heap[w.heap.size]? = some (.cells #[.slice pv bs.length cv] 44 (0, 0)) ∧ w8.heap[w.heap.size + 1]? = some (.cells #[.func (.func 52) #[] #[.pointer (some ⟨pb2, 0, none⟩)]] 105 (0, 0)) ∧ w8.heap[w3.heap.size]? = some (.cells #[.slice (some ⟨w.heap.size + 2, 0, none⟩) bs.length bs.length] 150 (0, 0)) ∧ EffQ w.heap.size w8 (.slice (some ⟨w.heap.size + 2, 0, none⟩) bs.length bs.length) bs bs.length ∧ Below w.heap.size w w8 ∧ SetQ wr.heap.size w8 (.slice (some ⟨wr.heap.size, 0, none⟩) bs.length bs.length) bs.length (fun _ => [])) := by
        obtain ⟨a1, a2, a3, a4, a5⟩ := HR.out
        exact ⟨by rw [f8.block _ (lt_of_block a1)]; exact a1, by rw [f8.block _ (lt_of_block a2)]; exact a2, by rw [f8.block _ (lt_of_block a3)]; exact a3, a4.keeps f8, a5.trans (f8.mono hz2), S8⟩
      clear o8 gr8 f8 S8 HR HI8 e0
      go_wp2_with fail
      refine (settleM bs (fun _ => []) base wr.heap.size w.heap.size w.heap.size w3.heap.size (w.heap.size + 1) pb2 (.slice pv bs.length cv) _ _ w8 (H0.out.1.keeps (Keeps.below H8.out.2.2.2.2.1)) H8.out.2.2.2.1 H8.out.2.2.2.2.2 (cell_of H8.out.1 0) ((H8.out.2.2.2.2.1.cell (p := ⟨pb2, 0, none⟩) hp2w).trans H0.out.2) (cell_of H8.out.2.2.1 0) (cell_of H8.out.2.1 0) hgl hf hri hg2 (Grow.zero _) hn0 hn).mono ?_
      rintro e w9 ⟨v9, rfl, H9⟩
      have H10 : Hid (SetQ w.heap.size w9 v9 bs.length (matL bs) ∧ Below w.heap.size w w9) := ⟨SetQ.base H9.out.1 H8.out.2.2.2.2.1.size, H8.out.2.2.2.2.1.trans (H9.out.2.mono H8.out.2.2.2.2.1.size)⟩
      clear H8 H9
      go_wp2_with fail
      go_ret
      exact ⟨_, rfl, H10⟩

set_option maxHeartbeats 1000000 in
theorem flowMatters (bs : List RBlk) (base : Nat) (v : Value) (w : World) (hP : PBs w base bs v)
    (hgl : Hid (∀ b ∈ bs, ∀ p ∈ goalsF b.e, p.1 < bs.length)) (hf : Hid (∀ b ∈ bs, BFine 1000000 b)) (hri : Hid (∀ b ∈ bs, ∀ c ∈ b.chs, (c.gs.map (·.1)).Pairwise (· < ·))) (hg2 : Hid (∀ b ∈ bs, ∀ c ∈ b.chs, c.gs.length ≤ 1000)) (hn0 : 0 < bs.length) (hn : bs.length ≤ 1000) :
    Calls Tryz.prog 32 #[v] w fun x w' => ∃ v', x = .returned v' ∧ Hid (SetQ w.heap.size w' v' bs.length (matL bs) ∧ Below w.heap.size w w') := by
  obtain ⟨pv, cv, rfl⟩ := hP.slice
  have f1 := (Below.refl w.heap.size w).alloc (Nat.le_refl _) (.cells #[.slice pv bs.length cv] 44)
  have g1 := heap_alloc_last w (.cells #[.slice pv bs.length cv] 44)
  have hs : (w.alloc (.cells #[.slice pv bs.length cv] 44)).heap.size = w.heap.size + 1 := World.size_alloc _ _
  have H0 := stop (And.intro (hP.keeps (Keeps.below f1)) (And.intro f1 g1))
  clear hP f1 g1
  go_enter Tryz.func32, Tryz.ntmps32
  go_wp2_with fail
  refine (settledP bs base w.heap.size _ _ H0.out.1 (cell_of H0.out.2.2 0) hgl hf hri hg2 hn0 hn).mono ?_
  rintro e w5 ⟨v5, rfl, H5⟩
  have H6 : Hid (SetQ w.heap.size w5 v5 bs.length (matL bs) ∧ Below w.heap.size w w5) := ⟨SetQ.base H5.out.1 (by omega), H0.out.2.1.trans (H5.out.2.mono (by omega))⟩
  clear H0 H5 hs
  go_wp2_with fail
  go_ret
  exact ⟨_, rfl, H6⟩

end Go.Proofs.YtgfhfkgdmidhpaaGreat
