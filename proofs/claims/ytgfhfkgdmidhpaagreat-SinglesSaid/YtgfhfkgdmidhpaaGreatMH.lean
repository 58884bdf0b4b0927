import Derived.Test.YtgfhfkgdmidhpaaGreatMF
import Derived.Test.YtgfhfkgdmidhpaaGreatMG
namespace Go.Proofs.YtgfhfkgdmidhpaaGreat
open Go.RowKit

/-- The register that is chosen from a block. -/
def frmF (c : RCho) (i : Nat) : Option Nat := ((c.gs.zip c.rs).find? fun p => p.1.1 == i).map (·.2.1)
theorem frmF_mem {c : RCho} {i r : Nat} (hl : c.gs.length = c.rs.length) (h : (c.gs.map (·.1)).Pairwise (· < ·)) : r ∈ cRegs c i ↔ frmF c i = some r := by
  rw [cRegs, frmF, List.mem_map]
  have hz : ((c.gs.zip c.rs).map fun p => p.1.1).Pairwise (· < ·) := by
    have : ((c.gs.zip c.rs).map fun p => p.1.1) = ((c.gs.zip c.rs).map (·.1)).map (·.1) := by rw [List.map_map]; rfl
    rw [this, List.map_fst_zip (by omega)]
    exact h
  generalize c.gs.zip c.rs = z at hz
  induction z with
  | nil => simp
  | cons p z ih =>
    rw [List.map_cons, List.pairwise_cons] at hz
    by_cases hp : p.1.1 = i
    · rw [List.find?_cons_of_pos (by simpa using hp), List.filter_cons_of_pos (by simpa using hp)]
      have hn : z.filter (fun p => p.1.1 == i) = [] := by
        rw [List.filter_eq_nil_iff]
        intro q hq
        have := hz.1 _ (List.mem_map.2 ⟨q, hq, rfl⟩)
        simp; omega
      rw [hn]
      simp
    · rw [List.find?_cons_of_neg (by simpa using hp), List.filter_cons_of_neg (by simpa using hp)]
      exact ih hz.2

set_option maxRecDepth 100000 in
set_option maxHeartbeats 1000000 in
theorem regFromP (c : RCho) (i base : Nat) (p : Option Addr) (cp : Nat) (w : World) (hr : Hid (c.gs.length = c.rs.length)) (h : w.ownsRow base 192 4 (.slice p c.gs.length cp) c.gs.length (srcCells c.gs c.rs)) (hl : c.gs.length ≤ 1000000) :
    Calls Tryz.prog 126 #[.agg #[.int .i64 c.to.1, .int .i64 c.to.2, .slice p c.gs.length cp], .int .i64 i] w fun x w' => ((∃ r : Nat, frmF c i = some r ∧ x = .returned (.tuple #[.int .i64 r, .bool true])) ∨ (frmF c i = none ∧ x = .returned (.tuple #[.int .i64 0, .bool false]))) ∧ Below w.heap.size w w' := by
  have HS := stop h
  clear h
  go_enter Tryz.func126, Tryz.ntmps126
  go_wp2_with fail
  obtain ⟨W, hW⟩ : ∃ W, W = w.alloc (.cells #[.int .i64 c.to.1, .int .i64 c.to.2, .slice p c.gs.length cp] 190) := ⟨_, rfl⟩
  have hF := (Below.refl w.heap.size w).alloc (Nat.le_refl _) (.cells #[.int .i64 c.to.1, .int .i64 c.to.2, .slice p c.gs.length cp] 190)
  rw [← hW] at hF ⊢
  have HF := stop hF
  clear hW hF
  go_loopw [11] (fun k wr => ∃ t : Nat, t ≤ c.gs.length ∧ k = .int .i64 t ∧ Hid (((c.gs.zip c.rs).take t).find? (fun p => p.1.1 == i) = none) ∧ Hid (Below w.heap.size w wr)) (fun k _ => c.gs.length - (intOf k).toNat)
  case atStart => exact ⟨0, by omega, rfl, by simp [Hid], HF⟩
  case round =>
    obtain ⟨t, ht, rfl, HN, F⟩ := hrel
    have hz := F.out.size
    by_cases hlt : t < c.gs.length
    · have htr : t < c.rs.length := by have := hr.out; omega
      have htz : t < (c.gs.zip c.rs).length := by rw [List.length_zip]; omega
      have OS := owns_keeps HS.out (Keeps.below (T := fun _ => True) F.out) trivial
      obtain ⟨g, rfl, _, _⟩ := owns_form OS (by omega)
      obtain ⟨s0, s1, s2, s3⟩ := srcCells_at hr.out hlt
      have c0 := owns_cell OS s0
      have c1 := owns_cell OS s1
      have c2 := owns_cell OS s2
      have c3 := owns_cell OS s3
      have hzt : (c.gs.zip c.rs)[t] = (c.gs[t], c.rs[t]) := List.getElem_zip
      clear OS s0 s1 s2 s3
      by_cases he : c.gs[t].1 = i
      · have HR : Hid (frmF c i = some c.rs[t].1) := by
          show frmF c i = _
          rw [frmF, find_take_hit htz HN.out (by rw [hzt]; simpa using he), hzt]; rfl
        have hd : ((c.gs[t].1 : Int) == (i : Int)) = true := by simp; omega
        clear he hzt
        go_wp2_with fail
        go_ret2
        exact ⟨.inl ⟨_, HR.out, rfl⟩, F.out.alloc (by omega) _⟩
      · have HN2 := stop (find_take_succ htz HN.out (by rw [hzt]; simpa using he))
        have hd : ((c.gs[t].1 : Int) == (i : Int)) = false := by simp; omega
        have F2 := stop (F.out.alloc (by omega) (.cells #[.int .i64 c.gs[t].1, .int .i64 c.gs[t].2, .int .i64 c.rs[t].1, .int .i64 c.rs[t].2] 192))
        clear he hzt
        go_wp2_with fail
        go_roundw
        case rel => exact ⟨t + 1, by omega, by go_num, HN2, F2⟩
        case measure => simp [intOf]; omega
    · have HR : Hid (frmF c i = none) := by
        show frmF c i = _
        have := HN.out
        rw [List.take_of_length_le (by rw [List.length_zip]; have := hr.out; omega)] at this
        rw [frmF, this]; rfl
      go_wp2_with fail
      go_ret2
      exact ⟨.inr ⟨HR.out, rfl⟩, F.out⟩

end Go.Proofs.YtgfhfkgdmidhpaaGreat

namespace Go.Proofs.YtgfhfkgdmidhpaaGreat
open Go.RowKit

def enC (cs : List RCho) (i k : Nat) : List Nat := ofL ((cs.take k).flatMap fun c => cRegs c i)
def enG (cs : List RCho) (k : Nat) : List Nat := ofL ((cs.take k).map (·.to.1))
theorem enC_zero (cs i) : enC cs i 0 = [] := by simp [enC, ofL_id]
theorem enG_zero (cs) : enG cs 0 = [] := by simp [enG, ofL_id]
theorem enC_some {cs : List RCho} {i k r : Nat} (hk : k < cs.length) (h : ∀ x, x ∈ cRegs cs[k] i ↔ some r = some x) : ptF (enC cs i k) r = enC cs i (k + 1) := by
  refine srt_ext (ptF_srt _ _) (ofL_srt _) fun x => ?_
  rw [ptF_mem, enC, enC, ofL_mem, ofL_mem, List.take_succ_eq_append_getElem hk, List.flatMap_append, List.mem_append]
  have : x ∈ [cs[k]].flatMap (fun c => cRegs c i) ↔ x = r := by
    simp only [List.flatMap_cons, List.flatMap_nil, List.append_nil, h]
    constructor
    · intro e; cases e; rfl
    · rintro rfl; rfl
  rw [this]
theorem enC_none {cs : List RCho} {i k : Nat} (hk : k < cs.length) (h : ∀ x, x ∉ cRegs cs[k] i) : enC cs i k = enC cs i (k + 1) := by
  rw [enC, enC]
  refine ofL_ext fun x => ?_
  rw [List.take_succ_eq_append_getElem hk, List.flatMap_append, List.mem_append]
  have : x ∉ [cs[k]].flatMap (fun c => cRegs c i) := by
    simp only [List.flatMap_cons, List.flatMap_nil, List.append_nil]
    exact h x
  simp only [this, or_false]
theorem enG_succ {cs : List RCho} {k : Nat} (hk : k < cs.length) : ptF (enG cs k) cs[k].to.1 = enG cs (k + 1) := by
  refine srt_ext (ptF_srt _ _) (ofL_srt _) fun x => ?_
  rw [ptF_mem, enG, enG, ofL_mem, ofL_mem, List.take_succ_eq_append_getElem hk, List.map_append, List.mem_append]
  simp only [List.map_cons, List.map_nil, List.mem_singleton]
theorem enC_sm {b : RBlk} {n : Nat} (h : BFine n b) (i k : Nat) : SM (enC b.chs i k) := SM.of fun x hx => by
  rw [List.mem_flatMap] at hx
  obtain ⟨c, hc, hr⟩ := hx
  exact cRegs_lt (h.ch c (List.mem_of_mem_take hc)) hr
theorem enG_sm {b : RBlk} {n : Nat} (h : BFine n b) (k : Nat) : SM (enG b.chs k) := SM.of fun x hx => by
  rw [List.mem_map] at hx
  obtain ⟨c, hc, rfl⟩ := hx
  exact (h.ch c (List.mem_of_mem_take hc)).1
/-- The world within entry. -/
def EnI (b : RBlk) (i : Nat) (w : World) (k1 k2 : Nat) (v1 v2 : Value) (wr : World) : Prop :=
  wr.heap[w.heap.size]? = some (.cells #[v1] 100 (0, 0)) ∧ wr.heap[w.heap.size + 1]? = some (.cells #[v2] 100 (0, 0)) ∧
  wr.ownsRow w.heap.size 56 1 v1 (enC b.chs i k1).length (icell (enC b.chs i k1)) ∧ wr.ownsRow w.heap.size 56 1 v2 (enG b.chs k2).length (icell (enG b.chs k2)) ∧ Apart v1 v2 ∧ Below w.heap.size w wr
theorem EnI.keeps {b i w k1 k2 v1 v2 wr wr'} (h : EnI b i w k1 k2 v1 v2 wr) (F : Below wr.heap.size wr wr') : EnI b i w k1 k2 v1 v2 wr' := by
  obtain ⟨a1, a2, a3, a4, a5, a6⟩ := h
  have K := Keeps.below (base := w.heap.size) (T := fun _ => True) F
  exact ⟨by rw [F.block _ (lt_of_block a1)]; exact a1, by rw [F.block _ (lt_of_block a2)]; exact a2, owns_keeps a3 K trivial, owns_keeps a4 K trivial, a5, a6.trans (F.mono a6.size)⟩
theorem EnI.add1 {b i w k1 k1' k2 v1 v2 v' wr wr'} (h : EnI b i w k1 k2 v1 v2 wr) (j1 : wr'.heap[w.heap.size]? = some (.cells #[v'] 100 (0, 0))) (j2 : wr'.ownsRow w.heap.size 56 1 v' (enC b.chs i k1').length (icell (enC b.chs i k1'))) (A : Ad w.heap.size v1 v' wr wr') : EnI b i w k1' k2 v' v2 wr' := by
  obtain ⟨a1, a2, a3, a4, a5, a6⟩ := h
  exact ⟨j1, Ke.ad A a3 _ _ _ (by omega) (by decide) a2, j2, A.owns a4 (own_type a4 a1 (by decide)) a5.symm, (A.apart a4 a5.symm).symm, A.below a6 (Nat.le_refl _) (fun k hk => (a3.lt k hk).1) a6.size⟩
theorem EnI.add2 {b i w k1 k2 k2' v1 v2 v' wr wr'} (h : EnI b i w k1 k2 v1 v2 wr) (j1 : wr'.heap[w.heap.size + 1]? = some (.cells #[v'] 100 (0, 0))) (j2 : wr'.ownsRow w.heap.size 56 1 v' (enG b.chs k2').length (icell (enG b.chs k2'))) (A : Ad (w.heap.size + 1) v2 v' wr wr') : EnI b i w k1 k2' v1 v' wr' := by
  obtain ⟨a1, a2, a3, a4, a5, a6⟩ := h
  exact ⟨Ke.ad A a4 _ _ _ (by omega) (by decide) a1, j1, A.owns a3 (own_type a3 a2 (by decide)) a5, j2, A.apart a3 a5, A.below a6 (by omega) (fun k hk => (a4.lt k hk).1) a6.size⟩

set_option maxRecDepth 100000 in
set_option maxHeartbeats 2000000 in
theorem entryP (b : RBlk) (n : Nat) (hf : Hid (BFine n b)) (hri : Hid (∀ c ∈ b.chs, (c.gs.map (·.1)).Pairwise (· < ·))) (hg2 : Hid (∀ c ∈ b.chs, c.gs.length ≤ 1000)) (i base : Nat) (p : Option Addr) (cp : Nat) (w : World) (h : PChs w base b.chs (.slice p b.chs.length cp)) (hl : b.chs.length ≤ 1000000) :
    Calls Tryz.prog 87 #[.slice p b.chs.length cp, .int .i64 i] w fun x w' => ∃ v1 v2, x = .returned (.tuple #[.agg #[v1], .agg #[v2]]) ∧ Hid (w'.ownsRow w.heap.size 56 1 v1 (ofL (chnL b i)).length (icell (ofL (chnL b i))) ∧ w'.ownsRow w.heap.size 56 1 v2 (ofL (ctoL b)).length (icell (ofL (ctoL b))) ∧ Below w.heap.size w w') := by
  have HP := stop h
  clear h
  go_enter Tryz.func87, Tryz.ntmps87
  go_wp2_with fail
  obtain ⟨W, hW⟩ : ∃ W, W = (w.alloc (.cells #[.slice none 0 0] 100)).alloc (.cells #[.slice none 0 0] 100) := ⟨_, rfl⟩
  rw [← hW]
  obtain ⟨g0, g1, hz, f2⟩ := two w (.cells #[.slice none 0 0] 100) (.cells #[.slice none 0 0] 100)
  rw [← hW] at g0 g1 hz f2
  have H0 : Hid (EnI b i w 0 0 (.slice none 0 0) (.slice none 0 0) W) := ⟨g0, g1, by rw [enC_zero]; exact World.ownsRow_nil _ _ _ _, by rw [enG_zero]; exact World.ownsRow_nil _ _ _ _, (fun k hk => by cases hk), f2⟩
  clear hW g0 g1 f2 hz
  go_loopw [12] (fun j wr => ∃ (k : Nat) (v1 v2 : Value), k ≤ b.chs.length ∧ j = .int .i64 k ∧ Hid (EnI b i w k k v1 v2 wr)) (fun j _ => b.chs.length - (intOf j).toNat)
  case atStart => exact ⟨0, _, _, by omega, rfl, H0⟩
  case round =>
    clear H0
    obtain ⟨k, v1, v2, hk, rfl, HI⟩ := hrel
    have hz := HI.out.2.2.2.2.2.size
    have hzl := lt_of_block HI.out.2.1
    by_cases hlt : k < b.chs.length
    · have PC := HP.out.keeps (Keeps.below (T := fun _ => True) HI.out.2.2.2.2.2) trivial trivial
      obtain ⟨g, pu, cu, rfl, _, _, hgr, OS, c0, c1, c2⟩ := PC.at hlt
      have HGR := stop hgr
      have HFR : Hid (∀ r, r ∈ cRegs b.chs[k] i ↔ frmF b.chs[k] i = some r) := fun r => frmF_mem hgr (hri.out _ (List.getElem_mem hlt))
      have hgl := hg2.out _ (List.getElem_mem hlt)
      have HOS := stop (OS.alloc (.cells #[.int .i64 b.chs[k].to.1, .int .i64 b.chs[k].to.2, .slice pu b.chs[k].gs.length cu] 190))
      have HI1 := stop (HI.out.keeps ((Below.refl wr.heap.size wr).alloc (Nat.le_refl _) (.cells #[.int .i64 b.chs[k].to.1, .int .i64 b.chs[k].to.2, .slice pu b.chs[k].gs.length cu] 190)))
      have gC := heap_alloc_last wr (.cells #[.int .i64 b.chs[k].to.1, .int .i64 b.chs[k].to.2, .slice pu b.chs[k].gs.length cu] 190)
      have hzs : (wr.alloc (.cells #[.int .i64 b.chs[k].to.1, .int .i64 b.chs[k].to.2, .slice pu b.chs[k].gs.length cu] 190)).heap.size = wr.heap.size + 1 := World.size_alloc _ _
      have HEC := stop (enC_sm hf.out i k)
      have HEG := stop (enG_sm hf.out k)
      clear PC OS hgr HI
      go_wp2_with fail
      clear c0 c1 c2
      generalize wr.alloc (.cells #[.int .i64 b.chs[k].to.1, .int .i64 b.chs[k].to.2, .slice pu b.chs[k].gs.length cu] 190) = W1 at *
      refine (regFromP b.chs[k] i base pu cu W1 HGR HOS.out (by omega)).mono ?_
      rintro x w2 ⟨hx, f2⟩
      have HI2 := stop (HI1.out.keeps f2)
      have s2 := f2.size
      have gC2 : w2.heap[wr.heap.size]? = some (.cells #[.int .i64 b.chs[k].to.1, .int .i64 b.chs[k].to.2, .slice pu b.chs[k].gs.length cu] 190 (0, 0)) := by rw [f2.block _ (by omega)]; exact gC
      have t0 := cell_of gC2 0
      simp at t0
      have hcl := HEC.out.len
      have hgl2 := HEG.out.len
      have HECs := stop HEC.out.1
      have HEGs := stop HEG.out.1
      have hzw := HI2.out.2.2.2.2.2.size
      clear HI1 f2 gC
      rcases hx with ⟨r, hr, rfl⟩ | ⟨hr, rfl⟩
      · have HN := stop (enC_some hlt (r := r) (fun x => by rw [HFR.out, hr]))
        clear hr HFR
        have GC := stop gC2
        clear gC2
        go_wp2_with fail
        clear t0
        refine (addR (enC b.chs i k) r HECs w.heap.size 0 w.heap.size #[v1] 100 v1 w2 HI2.out.1 rfl HI2.out.2.2.1 (by omega) (by omega) (own_type HI2.out.2.2.1 HI2.out.1 (by decide))).mono ?_
        rintro x w3 ⟨bb, v3, rfl, H3⟩
        have HI3 : Hid (EnI b i w (k + 1) k v3 v2 w3) := by
          obtain ⟨_, j1, j2, j3⟩ := H3.out
          rw [HN.out] at j2
          exact HI2.out.add1 j1 j2 j3
        have gC3 : w3.heap[wr.heap.size]? = some (.cells #[.int .i64 b.chs[k].to.1, .int .i64 b.chs[k].to.2, .slice pu b.chs[k].gs.length cu] 190 (0, 0)) := Ke.ad H3.out.2.2.2 HI2.out.2.2.1 _ _ _ (by omega) (by decide) GC.out
        have t0 := cell_of gC3 0
        simp at t0
        have hz3 := HI3.out.2.2.2.2.2.size
        clear HI2 H3 gC3 GC
        go_wp2_with fail
        refine (addR (enG b.chs k) b.chs[k].to.1 HEGs (w.heap.size + 1) 0 w.heap.size #[v2] 100 v2 w3 HI3.out.2.1 rfl HI3.out.2.2.2.1 (by omega) (by omega) (own_type HI3.out.2.2.2.1 HI3.out.2.1 (by decide))).mono ?_
        rintro x w4 ⟨bb4, v4, rfl, H4⟩
        have HI4 : Hid (EnI b i w (k + 1) (k + 1) v3 v4 w4) := by
          obtain ⟨_, j1, j2, j3⟩ := H4.out
          rw [enG_succ hlt] at j2
          exact HI3.out.add2 j1 j2 j3
        clear HI3 H4 t0
        go_wp2_with fail
        go_roundw
        case rel => exact ⟨k + 1, v3, v4, by omega, by go_num, HI4⟩
        case measure => simp [intOf]; omega
      · have HN := stop (enC_none (i := i) hlt (fun x hx => by rw [HFR.out, hr] at hx; cases hx))
        clear hr HFR gC2
        go_wp2_with fail
        refine (addR (enG b.chs k) b.chs[k].to.1 HEGs (w.heap.size + 1) 0 w.heap.size #[v2] 100 v2 w2 HI2.out.2.1 rfl HI2.out.2.2.2.1 (by omega) (by omega) (own_type HI2.out.2.2.2.1 HI2.out.2.1 (by decide))).mono ?_
        rintro x w4 ⟨bb4, v4, rfl, H4⟩
        have HI4 : Hid (EnI b i w (k + 1) (k + 1) v1 v4 w4) := by
          obtain ⟨_, j1, j2, j3⟩ := H4.out
          rw [enG_succ hlt] at j2
          have := HI2.out.add2 j1 j2 j3
          obtain ⟨a1, a2, a3, a4, a5, a6⟩ := this
          rw [HN.out] at a3
          exact ⟨a1, a2, a3, a4, a5, a6⟩
        clear HI2 H4 t0
        go_wp2_with fail
        go_roundw
        case rel => exact ⟨k + 1, v1, v4, by omega, by go_num, HI4⟩
        case measure => simp [intOf]; omega
    · have hke : k = b.chs.length := by omega
      have H3 : Hid (wr.heap[w.heap.size]? = some (.cells #[v1] 100 (0, 0)) ∧ wr.heap[w.heap.size + 1]? = some (.cells #[v2] 100 (0, 0)) ∧ wr.ownsRow w.heap.size 56 1 v1 (ofL (chnL b i)).length (icell (ofL (chnL b i))) ∧ wr.ownsRow w.heap.size 56 1 v2 (ofL (ctoL b)).length (icell (ofL (ctoL b))) ∧ Below w.heap.size w wr) := by
        obtain ⟨a1, a2, a3, a4, a5, a6⟩ := HI.out
        rw [hke, enC, List.take_length] at a3
        rw [hke, enG, List.take_length] at a4
        exact ⟨a1, a2, a3, a4, a6⟩
      obtain ⟨pr1, cr1, rfl⟩ := owns_slice2 H3.out.2.2.1
      obtain ⟨pr2, cr2, rfl⟩ := owns_slice2 H3.out.2.2.2.1
      have e0 := cell_of H3.out.1 0
      have e1 := cell_of H3.out.2.1 0
      have z0 := frozen_of H3.out.1 0
      have z1 := frozen_of H3.out.2.1 0
      simp at e0 e1
      clear HI
      go_wp2_with fail
      have q1 := blk_set H3.out.1 0 (.slice pr1 (ofL (chnL b i)).length cr1)
      have q2 := blk_setOther H3.out.2.1 (j := w.heap.size) (by omega) 0 (.slice pr1 (ofL (chnL b i)).length cr1)
      have q3 := blk_setOther q1 (j := w.heap.size + 1) (by omega) 0 (.slice pr2 (ofL (ctoL b)).length cr2)
      have q4 := blk_set q2 0 (.slice pr2 (ofL (ctoL b)).length cr2)
      have k0 := cell_of q3 0
      have k1 := cell_of q4 0
      simp at k0 k1
      refine bodyPost_ret (v := .tuple #[.agg #[.slice pr1 (ofL (chnL b i)).length cr1], .agg #[.slice pr2 (ofL (ctoL b)).length cr2]]) (by simp [results, Tryz.results87, go_sem, k0, k1]) rfl ⟨_, _, rfl, ?_⟩
      obtain ⟨a1, a2, a3, a4, a5⟩ := H3.out
      exact ⟨owns_setT (owns_setT a3 a1 (by decide)) q2 (by decide), owns_setT (owns_setT a4 a1 (by decide)) q2 (by decide), below_set (below_set a5 _ _ _ (by omega)) _ _ _ (by omega)⟩

end Go.Proofs.YtgfhfkgdmidhpaaGreat
