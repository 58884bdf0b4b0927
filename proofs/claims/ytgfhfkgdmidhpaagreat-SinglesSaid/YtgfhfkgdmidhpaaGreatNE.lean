import Derived.Test.YtgfhfkgdmidhpaaGreatND
import Derived.Test.YtgfhfkgdmidhpaaGreatNC
import Derived.Test.YtgfhfkgdmidhpaaGreatMG
namespace Go.Proofs.YtgfhfkgdmidhpaaGreat
open Go.RowKit

/-- Blocks other than b are kept, but for rows of uses. -/
def Ku (b : Nat) (w w' : World) : Prop := ∀ (g : Nat) (cur : Array Value) (e : TypeId), g ≠ b → e ≠ 170 → w.heap[g]? = some (.cells cur e (0, 0)) → w'.heap[g]? = some (.cells cur e (0, 0))
theorem Ku.refl (b w) : Ku b w w := fun _ _ _ _ _ h => h
theorem Ku.trans {b : Nat} {u v w : World} (h : Ku b u v) (k : Ku b v w) : Ku b u w := fun g c e h1 h2 h3 => k g c e h1 h2 (h g c e h1 h2 h3)
theorem Ku.below {b : Nat} {w w' : World} (F : Below w.heap.size w w') : Ku b w w' := fun g c e _ _ h => by rw [F.block g (lt_of_block h)]; exact h
theorem Ku.owns {b base e size n : Nat} {u : Value} {xs : List Value} {w w' : World} (K : Ku b w w') (h : w.ownsRow base e size u n xs) (he : e ≠ 170) (hb : u.ownBlock ≠ some b) : w'.ownsRow base e size u n xs := by
  obtain ⟨a1, b1⟩ := h
  refine ⟨a1, b1.imp id ?_⟩
  rintro ⟨g, cap, cur, rfl, b2, c1, d1⟩
  exact ⟨g, cap, cur, rfl, b2, K g cur e (fun e1 => hb (by rw [e1]; rfl)) he c1, d1⟩
def usF (q : List (Nat × Nat)) (b : Nat) (s : Int) : List Use := q.map fun r => ⟨r.1, r.2, b, s⟩

set_option maxRecDepth 100000 in
set_option maxHeartbeats 1500000 in
theorem addUP (L : List Use) (q : List (Nat × Nat)) (b : Nat) (s : Int) (ub base : Nat) (v vq : Value) (w : World) (hB : w.heap[ub]? = some (.cells #[v] 165 (0, 0))) (hv : w.ownsRow base 170 4 v L.length (useCells L)) (hq : w.ownsRow 0 108 2 vq q.length (pcs q)) (hb : base ≤ ub) (hql : q.length ≤ 1000) (hL : L.length ≤ 90000000000) :
    Calls Tryz.prog 129 #[vq, .agg #[.int .i64 b, .int .i64 s], .pointer (some ⟨ub, 0, none⟩)] w fun x w' => x = .returned (.tuple #[]) ∧ ∃ v', Hid (w'.heap[ub]? = some (.cells #[v'] 165 (0, 0)) ∧ w'.ownsRow base 170 4 v' (L ++ usF q b s).length (useCells (L ++ usF q b s)) ∧ Ku ub w w' ∧ Below base w w') := by
  obtain ⟨pq, cq, rfl⟩ := owns_slice2 hq
  have hbl := lt_of_block hB
  have hW := heap_alloc_last w (.cells #[.int .i64 b, .int .i64 s] 168)
  have fW := (Below.refl w.heap.size w).alloc (Nat.le_refl _) (.cells #[.int .i64 b, .int .i64 s] 168)
  have sW : w.heap.size < (w.alloc (.cells #[.int .i64 b, .int .i64 s] 168)).heap.size := by rw [World.size_alloc]; omega
  have H0 : Hid ((w.alloc (.cells #[.int .i64 b, .int .i64 s] 168)).heap[w.heap.size]? = some (.cells #[.int .i64 b, .int .i64 s] 168 (0, 0)) ∧ (w.alloc (.cells #[.int .i64 b, .int .i64 s] 168)).heap[ub]? = some (.cells #[v] 165 (0, 0)) ∧ (w.alloc (.cells #[.int .i64 b, .int .i64 s] 168)).ownsRow base 170 4 v L.length (useCells L) ∧ (w.alloc (.cells #[.int .i64 b, .int .i64 s] 168)).ownsRow 0 108 2 (.slice pq q.length cq) q.length (pcs q) ∧ Ku ub w (w.alloc (.cells #[.int .i64 b, .int .i64 s] 168)) ∧ Below base w (w.alloc (.cells #[.int .i64 b, .int .i64 s] 168))) := ⟨hW, blk_alloc hB _, hv.alloc _, hq.alloc _, Ku.below fW, fW.mono (by omega)⟩
  clear hB hv hq hW fW
  go_enter Tryz.func129, Tryz.ntmps129
  go_wp2_with fail
  go_loopw [9] (fun i wr => ∃ (k : Nat) (v : Value) (M : List Use), k ≤ q.length ∧ i = .int .i64 k ∧ Hid (M = L ++ usF (q.take k) b s) ∧ M.length ≤ 90000000000 + k ∧ Hid (wr.heap[w.heap.size]? = some (.cells #[.int .i64 b, .int .i64 s] 168 (0, 0)) ∧ wr.heap[ub]? = some (.cells #[v] 165 (0, 0)) ∧ wr.ownsRow base 170 4 v M.length (useCells M) ∧ wr.ownsRow 0 108 2 (.slice pq q.length cq) q.length (pcs q) ∧ Ku ub w wr ∧ Below base w wr)) (fun i _ => q.length - (intOf i).toNat)
  case atStart => exact ⟨0, v, L, by omega, rfl, by simp [Hid, usF], by omega, H0⟩
  case round =>
    clear H0
    obtain ⟨k, v, M, hk, rfl, HM, hml, HI⟩ := hrel
    rename World => wA
    have hzA := HI.out.2.2.2.2.2.size
    have hgA := lt_of_block HI.out.1
    by_cases hlt : k < q.length
    · obtain ⟨gq, rfl, _, _⟩ := owns_form HI.out.2.2.2.1 (by omega)
      have c0 := owns_cell HI.out.2.2.2.1 (pcs_at hlt).1
      have c1 := owns_cell HI.out.2.2.2.1 (pcs_at hlt).2
      have HM2 : Hid (M ++ [(⟨q[k].1, q[k].2, b, s⟩ : Use)] = L ++ usF (q.take (k + 1)) b s) := by
        show _ = _
        rw [HM.out, usF, usF, List.take_succ_eq_append_getElem hlt, List.map_append, List.append_assoc]; rfl
      obtain ⟨pm, cm, rfl⟩ := owns_slice2 HI.out.2.2.1
      have f1 := (Below.refl wA.heap.size wA).alloc (Nat.le_refl _) (.cells #[.int .i64 q[k].1, .int .i64 q[k].2] 108)
      have hI1 : Hid ((wA.alloc (.cells #[.int .i64 q[k].1, .int .i64 q[k].2] 108)).heap[w.heap.size]? = some (.cells #[.int .i64 b, .int .i64 s] 168 (0, 0)) ∧ (wA.alloc (.cells #[.int .i64 q[k].1, .int .i64 q[k].2] 108)).heap[ub]? = some (.cells #[.slice pm M.length cm] 165 (0, 0)) ∧ (wA.alloc (.cells #[.int .i64 q[k].1, .int .i64 q[k].2] 108)).ownsRow base 170 4 (.slice pm M.length cm) M.length (useCells M) ∧ (wA.alloc (.cells #[.int .i64 q[k].1, .int .i64 q[k].2] 108)).ownsRow 0 108 2 (.slice (some ⟨gq, 0, none⟩) q.length cq) q.length (pcs q) ∧ Ku ub w (wA.alloc (.cells #[.int .i64 q[k].1, .int .i64 q[k].2] 108)) ∧ Below base w (wA.alloc (.cells #[.int .i64 q[k].1, .int .i64 q[k].2] 108))) := by
        obtain ⟨a1, a2, a3, a4, a5, a6⟩ := HI.out
        exact ⟨blk_alloc a1 _, blk_alloc a2 _, a3.alloc _, a4.alloc _, a5.trans (Ku.below f1), a6.alloc (by omega) _⟩
      have x0 := cell_of hI1.out.1 0
      have x1 := cell_of hI1.out.1 1
      have x2 := cell_of hI1.out.2.1 0
      simp at x0 x1 x2
      clear HI HM f1
      go_wp2_with (at_builtin; refine unstop ?_)
      refine stop ?_
      clear c0 c1
      have gB := heap_alloc_last (wA.alloc (.cells #[.int .i64 q[k].1, .int .i64 q[k].2] 108)) (.cells #[.int .i64 q[k].1, .int .i64 q[k].2, .int .i64 b, .int .i64 s] 170)
      have OB := hI1.out.2.2.1.alloc (.cells #[.int .i64 q[k].1, .int .i64 q[k].2, .int .i64 b, .int .i64 s] 170)
      rw [World.size_alloc] at gB
      refine app1L Tryz.underlying165 Tryz.info170 rfl (by decide) (by decide) rfl _ _ rfl rfl OB gB rfl rfl (List.all_eq_true.1 rfl) (by omega) (by simp; omega) ?_
      intro v3 w3 oS gS
      obtain ⟨v3p, v3c, rfl⟩ := owns_slice2 oS
      have nb : ∀ {g : Nat} {cur : Array Value} {e : TypeId}, e ≠ 170 → (wA.alloc (.cells #[.int .i64 q[k].1, .int .i64 q[k].2] 108)).heap[g]? = some (.cells cur e (0, 0)) → w3.heap[g]? = some (.cells cur e (0, 0)) := fun he hg => blk_grown gS (blk_alloc hg _) (fun j hj e2 => own_type hI1.out.2.2.1 hg (fun e3 => he e3.symm) (by subst e2; exact hj))
      have g3 := nb (by decide) hI1.out.2.1
      have H3 : Hid ((w3.setCell ⟨ub, 0, none⟩ (.slice v3p (M.length + 1) v3c)).heap[w.heap.size]? = some (.cells #[.int .i64 b, .int .i64 s] 168 (0, 0)) ∧ (w3.setCell ⟨ub, 0, none⟩ (.slice v3p (M.length + 1) v3c)).heap[ub]? = some (.cells #[.slice v3p (M.length + 1) v3c] 165 (0, 0)) ∧ (w3.setCell ⟨ub, 0, none⟩ (.slice v3p (M.length + 1) v3c)).ownsRow base 170 4 (.slice v3p (M.length + 1) v3c) (M ++ [(⟨q[k].1, q[k].2, b, s⟩ : Use)]).length (useCells (M ++ [(⟨q[k].1, q[k].2, b, s⟩ : Use)])) ∧ (w3.setCell ⟨ub, 0, none⟩ (.slice v3p (M.length + 1) v3c)).ownsRow 0 108 2 (.slice (some ⟨gq, 0, none⟩) q.length cq) q.length (pcs q) ∧ Ku ub w (w3.setCell ⟨ub, 0, none⟩ (.slice v3p (M.length + 1) v3c)) ∧ Below base w (w3.setCell ⟨ub, 0, none⟩ (.slice v3p (M.length + 1) v3c))) := by
        obtain ⟨a1, a2, a3, a4, a5, a6⟩ := hI1.out
        have sK : Ku ub (wA.alloc (.cells #[.int .i64 q[k].1, .int .i64 q[k].2] 108)) (w3.setCell ⟨ub, 0, none⟩ (.slice v3p (M.length + 1) v3c)) := fun g cur e hg he hh => blk_setOther (nb he hh) hg _ _
        refine ⟨sK _ _ _ (by omega) (by decide) a1, blk_set g3 _ _, ?_, sK.owns a4 (by decide) (own_type a4 a2 (by decide)), a5.trans sK, below_set (Below.grown (a6.alloc (by rw [World.size_alloc]; omega) _) gS (by simp; omega) (fun j hj => by have := (OB.lt j hj).1; omega)) _ _ _ hb⟩
        rw [useCells_app, List.length_append]
        obtain ⟨b1, b2⟩ := oS
        refine ⟨b1, b2.imp id ?_⟩
        rintro ⟨g, cap, cur, e, b3, c3', d1⟩
        refine ⟨g, cap, cur, e, b3, ?_, d1⟩
        refine blk_setOther c3' ?_ _ _
        rintro rfl
        rw [g3] at c3'; cases c3'
      have y0 := cell_of g3 0
      have y0f := frozen_of g3 0
      simp at y0
      clear gS gB OB oS nb g3 hI1 x0 x1 x2
      go_wp2_with fail
      go_roundw
      case rel => exact ⟨k + 1, _, M ++ [(⟨q[k].1, q[k].2, b, s⟩ : Use)], by omega, by go_num, HM2, by rw [List.length_append, List.length_singleton]; omega, H3⟩
      case measure => simp [intOf]; omega
    · have hke : k = q.length := by omega
      have HM2 : Hid (M = L ++ usF q b s) := by show _ = _; rw [HM.out, hke, List.take_length]
      clear hke HM
      go_wp2_with fail
      go_end0
      obtain ⟨a1, a2, a3, a4, a5, a6⟩ := HI.out
      exact ⟨rfl, v, a2, by rw [← HM2.out]; exact a3, a5, a6⟩

set_option maxHeartbeats 1000000 in
theorem endOfP (bs : List RBlk) (b base : Nat) (v : Value) (w : World) (hP : PBs w base bs v) (hb : b < bs.length) :
    Calls Tryz.prog 130 #[v, .int .i64 b] w fun x w' => x = .returned (.agg #[.int .i64 b, .int .i64 bs[b].sts.length]) ∧ Below w.heap.size w w' := by
  obtain ⟨pv, cv, rfl⟩ := hP.slice
  obtain ⟨gv, qc, cc, ps, cs1, rfl, _, hgv, _, _, _, _, _, d2, _⟩ := hP.at hb
  have f1 := (Below.refl w.heap.size w).alloc (Nat.le_refl _) (.cells #[.int .i64 0, .int .i64 0] 168)
  replace d2 := (f1.cell (p := ⟨gv, b * 4 + 2, none⟩) hgv).trans d2
  clear f1 hP
  go_enter Tryz.func130, Tryz.ntmps130
  go_wp2_with fail
  refine bodyPost_ret (v := .agg #[.int .i64 b, .int .i64 bs[b].sts.length]) (by simp [results, Tryz.results130, go_sem]) rfl ⟨rfl, (Below.refl _ _).alloc (Nat.le_refl _) _⟩

end Go.Proofs.YtgfhfkgdmidhpaaGreat

namespace Go.Proofs.YtgfhfkgdmidhpaaGreat
open Go.RowKit

theorem rdUp_next (bs : List RBlk) (m : Nat) : rdUp bs (m + 1) = rdUp bs m ++ rdBk bs (bkF bs m) m := by rw [rdUp, rdUp, List.range_succ, List.flatMap_append]; simp
def RdI (w : World) (vU : Value) (L : List Use) (wr : World) : Prop := wr.heap[w.heap.size]? = some (.cells #[vU] 165 (0, 0)) ∧ wr.ownsRow w.heap.size 170 4 vU L.length (useCells L) ∧ Below w.heap.size w wr
theorem RdI.keeps {w vU L wr wr'} (h : RdI w vU L wr) (F : Below wr.heap.size wr wr') : RdI w vU L wr' := by
  obtain ⟨a, b, c⟩ := h
  exact ⟨by rw [F.block _ (lt_of_block a)]; exact a, owns_keeps b (Keeps.below (T := fun _ => True) F) trivial, c.trans (F.mono c.size)⟩

set_option maxRecDepth 100000 in
set_option maxHeartbeats 3000000 in
theorem readingsP (bs : List RBlk) (base : Nat) (v : Value) (w : World) (hP : PBs w base bs v) (hf : Hid (∀ b ∈ bs, BFine 1000000 b)) (hg2 : Hid (∀ b ∈ bs, ∀ c ∈ b.chs, c.gs.length ≤ 1000)) (hcg : Hid (∀ b ∈ bs, ∀ c ∈ b.chs, ∀ p ∈ c.gs, p.1 < bs.length)) (hn : bs.length ≤ 12) :
    Calls Tryz.prog 94 #[v] w fun x w' => ∃ v', x = .returned v' ∧ Hid (w'.ownsRow w.heap.size 170 4 v' (rdU bs).length (useCells (rdU bs)) ∧ (rdU bs).length ≤ 90000000000 ∧ Below w.heap.size w w') := by
  obtain ⟨pv, cv, rfl⟩ := hP.slice
  have HP := stop hP
  clear hP
  have B0 : Hid (RdI w (.slice none 0 0) [] (w.alloc (.cells #[.slice none 0 0] 165))) := ⟨heap_alloc_last _ _, World.ownsRow_nil _ _ _ _, (Below.refl _ _).alloc (Nat.le_refl _) _⟩
  go_enter Tryz.func94, Tryz.ntmps94
  go_wp2_with fail
  go_loopw [17] (fun i wr => ∃ (m : Nat) (vU : Value) (L : List Use), m ≤ bs.length ∧ i = .int .i64 m ∧ Hid (L = rdUp bs m) ∧ L.length ≤ 1100000000 * m ∧ Hid (RdI w vU L wr)) (fun i _ => bs.length - (intOf i).toNat)
  case atStart => exact ⟨0, _, [], by omega, rfl, rfl, by simp, B0⟩
  case round =>
    clear B0
    obtain ⟨m, vU, L, hm, rfl, HL, hll, HI⟩ := hrel
    rename World => wA
    have hz := HI.out.2.2.size
    have hgA := lt_of_block HI.out.1
    by_cases hlt : m < bs.length
    · have HFM := stop (hf.out _ (List.getElem_mem hlt))
      have hcl := HFM.out.cl
      have hsl := HFM.out.sl
      have HBK := stop (bkF_at hlt)
      have HG2 := stop (hg2.out _ (List.getElem_mem hlt))
      have HCG := stop (hcg.out _ (List.getElem_mem hlt))
      obtain ⟨gv, qc, cc, ps, cs1, rfl, _, hgv, hop, OC, OS, d0, d1, d2, d3⟩ := HP.out.at hlt
      have HOC := stop (And.intro OC OS)
      obtain ⟨T, x, fe, hT, hem, het, hec⟩ := endM bs[m].e hop
      have HES := stop (And.intro hem (And.intro het hec))
      rw [hT] at d3
      replace d0 := (HI.out.2.2.cell (p := ⟨gv, m * 4, none⟩) hgv).trans d0
      replace d1 := (HI.out.2.2.cell (p := ⟨gv, m * 4 + 1, none⟩) hgv).trans d1
      replace d2 := (HI.out.2.2.cell (p := ⟨gv, m * 4 + 2, none⟩) hgv).trans d2
      replace d3 := (HI.out.2.2.cell (p := ⟨gv, m * 4 + 3, none⟩) hgv).trans d3
      have fW := (Below.refl wA.heap.size wA).alloc (Nat.le_refl _) (.cells #[.int .i64 bs[m].at_, .slice qc bs[m].chs.length cc, .slice ps bs[m].sts.length cs1, .iface T x] 69)
      have HW := stop (And.intro (heap_alloc_last wA (.cells #[.int .i64 bs[m].at_, .slice qc bs[m].chs.length cc, .slice ps bs[m].sts.length cs1, .iface T x] 69)) (HI.out.keeps fW))
      clear hop OC OS hT hem het hec fW
      go_wp2_with fail
      clear d0 d1 d2 d3
      generalize wA.alloc (.cells #[.int .i64 bs[m].at_, .slice qc bs[m].chs.length cc, .slice ps bs[m].sts.length cs1, .iface T x] 69) = W at *
      go_loopw [26] (fun i wr => ∃ (q : Nat) (vU : Value) (L2 : List Use), q ≤ bs[m].chs.length ∧ i = .int .i64 q ∧ Hid (L2 = L ++ (bs[m].chs.take q).flatMap (chR bs)) ∧ L2.length ≤ 1100000000 * m + 1000 * q ∧ Hid (wr.heap[wA.heap.size]? = some (.cells #[.int .i64 bs[m].at_, .slice qc bs[m].chs.length cc, .slice ps bs[m].sts.length cs1, .iface T x] 69 (0, 0)) ∧ RdI w vU L2 wr)) (fun i _ => bs[m].chs.length - (intOf i).toNat)
      case atStart => exact ⟨0, vU, L, by omega, rfl, by simp [Hid], by omega, HW⟩
      case round =>
        obtain ⟨q, vU2, L2, hq, rfl, HL2, hl2, H2⟩ := hrel
        rename World => wB
        have hz2 := H2.out.2.2.2.size
        have hgB := lt_of_block H2.out.1
        by_cases hql : q < bs[m].chs.length
        · obtain ⟨gc, pu, cu, rfl, _, hgcw, hgr, OSR, e0, e1, e2⟩ := HOC.out.1.at hql
          replace e0 := (H2.out.2.2.2.cell (p := ⟨gc, q * 3, none⟩) hgcw).trans e0
          replace e1 := (H2.out.2.2.2.cell (p := ⟨gc, q * 3 + 1, none⟩) hgcw).trans e1
          replace e2 := (H2.out.2.2.2.cell (p := ⟨gc, q * 3 + 2, none⟩) hgcw).trans e2
          have HGR := stop hgr
          have hgl := HG2.out _ (List.getElem_mem hql)
          have HCQ := stop (HCG.out _ (List.getElem_mem hql))
          have fB := (Below.refl wB.heap.size wB).alloc (Nat.le_refl _) (.cells #[.int .i64 bs[m].chs[q].to.1, .int .i64 bs[m].chs[q].to.2, .slice pu bs[m].chs[q].gs.length cu] 190)
          have H3 := stop (And.intro (blk_alloc H2.out.1 (.cells #[.int .i64 bs[m].chs[q].to.1, .int .i64 bs[m].chs[q].to.2, .slice pu bs[m].chs[q].gs.length cu] 190)) (And.intro (H2.out.2.keeps fB) OSR))
          clear hgr OSR fB
          go_wp2_with fail
          clear e0 e1 e2
          generalize wB.alloc (.cells #[.int .i64 bs[m].chs[q].to.1, .int .i64 bs[m].chs[q].to.2, .slice pu bs[m].chs[q].gs.length cu] 190) = W3 at *
          go_loopw [33] (fun i wr => ∃ (t : Nat) (vU : Value) (L3 : List Use), t ≤ bs[m].chs[q].gs.length ∧ i = .int .i64 t ∧ Hid (L3 = L2 ++ (chR bs bs[m].chs[q]).take t) ∧ L3.length ≤ 1100000000 * m + 1000 * q + t ∧ Hid (wr.heap[wA.heap.size]? = some (.cells #[.int .i64 bs[m].at_, .slice (some ⟨gc, 0, none⟩) bs[m].chs.length cc, .slice ps bs[m].sts.length cs1, .iface T x] 69 (0, 0)) ∧ RdI w vU L3 wr)) (fun i _ => bs[m].chs[q].gs.length - (intOf i).toNat)
          case atStart => exact ⟨0, vU2, L2, by omega, rfl, by simp [Hid], by omega, H3.out.1, H3.out.2.1⟩
          case round =>
            obtain ⟨t, vU3, L3, ht, rfl, HL3, hl3, H4⟩ := hrel
            rename World => wC
            have hz4 := H4.out.2.2.2.size
            have hgC := lt_of_block H4.out.1
            by_cases htl : t < bs[m].chs[q].gs.length
            · have htr : t < bs[m].chs[q].rs.length := by have := HGR.out; omega
              have OX := owns_keeps H3.out.2.2 (Keeps.below (T := fun _ => True) H4.out.2.2.2) trivial
              obtain ⟨gu, rfl, _, _⟩ := owns_form OX (by omega)
              obtain ⟨s0, s1, s2, s3⟩ := srcCells_at HGR.out htl
              replace s0 := owns_cell OX s0
              replace s1 := owns_cell OX s1
              replace s2 := owns_cell OX s2
              replace s3 := owns_cell OX s3
              have hfr := HCQ.out _ (List.getElem_mem htl)
              obtain ⟨hct, hce⟩ := chR_at (bs := bs) HGR.out.symm htr
              have HL5 : Hid (L3 ++ usF [bs[m].chs[q].rs[t]] bs[m].chs[q].gs[t].1 bs[bs[m].chs[q].gs[t].1].sts.length = L2 ++ (chR bs bs[m].chs[q]).take (t + 1)) := by
                show _ = _
                rw [HL3.out, List.take_succ_eq_append_getElem hct, List.append_assoc, hce, bkF_at hfr]; rfl
              have gW := heap_alloc_last wC (.cells #[.int .i64 bs[m].chs[q].gs[t].1, .int .i64 bs[m].chs[q].gs[t].2, .int .i64 bs[m].chs[q].rs[t].1, .int .i64 bs[m].chs[q].rs[t].2] 192)
              have fW := (Below.refl wC.heap.size wC).alloc (Nat.le_refl _) (.cells #[.int .i64 bs[m].chs[q].gs[t].1, .int .i64 bs[m].chs[q].gs[t].2, .int .i64 bs[m].chs[q].rs[t].1, .int .i64 bs[m].chs[q].rs[t].2] 192)
              have H5 := stop (And.intro (blk_alloc H4.out.1 (.cells #[.int .i64 bs[m].chs[q].gs[t].1, .int .i64 bs[m].chs[q].gs[t].2, .int .i64 bs[m].chs[q].rs[t].1, .int .i64 bs[m].chs[q].rs[t].2] 192)) (H4.out.2.keeps fW))
              have sW : wC.heap.size < (wC.alloc (.cells #[.int .i64 bs[m].chs[q].gs[t].1, .int .i64 bs[m].chs[q].gs[t].2, .int .i64 bs[m].chs[q].rs[t].1, .int .i64 bs[m].chs[q].rs[t].2] 192)).heap.size := by rw [World.size_alloc]; omega
              clear OX hce HL3 H4 fW
              go_wp2_with fail
              clear s0 s1 s2 s3
              generalize wC.alloc (.cells #[.int .i64 bs[m].chs[q].gs[t].1, .int .i64 bs[m].chs[q].gs[t].2, .int .i64 bs[m].chs[q].rs[t].1, .int .i64 bs[m].chs[q].rs[t].2] 192) = W5 at *
              have k0 := cell_of gW 0
              have k2 := cell_of gW 2
              have k3 := cell_of gW 3
              simp at k0 k2 k3
              have a0 : ∀ o, (W5.alloc o).cell? ⟨wC.heap.size, 0, none⟩ = some (.int .i64 bs[m].chs[q].gs[t].1) := fun o => by have := cell_of (blk_alloc gW o) 0; simpa using this
              have HE1 : Hid (Calls Tryz.prog 130 #[.slice (some ⟨gv, 0, none⟩) bs.length cv, .int .i64 bs[m].chs[q].gs[t].1] W5.drew fun x w' => x = .returned (.agg #[.int .i64 bs[m].chs[q].gs[t].1, .int .i64 bs[bs[m].chs[q].gs[t].1].sts.length]) ∧ Below W5.drew.heap.size W5.drew w') := endOfP bs bs[m].chs[q].gs[t].1 base _ W5.drew (HP.out.keeps (w' := W5.drew) (Keeps.below (w' := W5) H5.out.2.2.2)) hfr
              have HE2 : Hid (Calls Tryz.prog 130 #[.slice (some ⟨gv, 0, none⟩) bs.length cv, .int .i64 bs[m].chs[q].gs[t].1] (W5.alloc (.cells #[.int .i64 bs[m].chs[q].rs[t].1, .int .i64 bs[m].chs[q].rs[t].2] 108)).drew fun x w' => x = .returned (.agg #[.int .i64 bs[m].chs[q].gs[t].1, .int .i64 bs[bs[m].chs[q].gs[t].1].sts.length]) ∧ Below (W5.alloc (.cells #[.int .i64 bs[m].chs[q].rs[t].1, .int .i64 bs[m].chs[q].rs[t].2] 108)).drew.heap.size (W5.alloc (.cells #[.int .i64 bs[m].chs[q].rs[t].1, .int .i64 bs[m].chs[q].rs[t].2] 108)).drew w') := endOfP bs bs[m].chs[q].gs[t].1 base _ (W5.alloc (.cells #[.int .i64 bs[m].chs[q].rs[t].1, .int .i64 bs[m].chs[q].rs[t].2] 108)).drew (HP.out.keeps (w' := (W5.alloc (.cells #[.int .i64 bs[m].chs[q].rs[t].1, .int .i64 bs[m].chs[q].rs[t].2] 108)).drew) (Keeps.below (w' := W5.alloc (.cells #[.int .i64 bs[m].chs[q].rs[t].1, .int .i64 bs[m].chs[q].rs[t].2] 108)) (H5.out.2.2.2.alloc H5.out.2.2.2.size _))) hfr
              have zW5 := H5.out.2.2.2.size
              go_region_law (first | (refine stepC rfl 130 #[.slice (some ⟨gv, 0, none⟩) bs.length cv, .int .i64 bs[m].chs[q].gs[t].1] (by go_simp) HE1.out ?_; rintro e w6 ⟨rfl, f6⟩; have f6' : Below W5.heap.size W5 w6 := ⟨f6.os, f6.tape, f6.output, f6.size, f6.block⟩; have s6 := f6'.size; have y2 := (f6'.cell (p := ⟨wC.heap.size, 2, none⟩) sW).trans k2; have y3 := (f6'.cell (p := ⟨wC.heap.size, 3, none⟩) sW).trans k3; have O6 := stop (And.intro (H5.out.2.keeps f6') f6'); clear f6 f6') | (refine stepC rfl 130 #[.slice (some ⟨gv, 0, none⟩) bs.length cv, .int .i64 bs[m].chs[q].gs[t].1] (by go_simp) HE2.out ?_; rintro e w6 ⟨rfl, f6⟩; have f6' : Below (W5.alloc (.cells #[.int .i64 bs[m].chs[q].rs[t].1, .int .i64 bs[m].chs[q].rs[t].2] 108)).heap.size (W5.alloc (.cells #[.int .i64 bs[m].chs[q].rs[t].1, .int .i64 bs[m].chs[q].rs[t].2] 108)) w6 := ⟨f6.os, f6.tape, f6.output, f6.size, f6.block⟩; have T6 : Hid (w6.ownsRow 0 108 2 (.slice (some ⟨W5.heap.size, 0, none⟩) 1 1) [bs[m].chs[q].rs[t]].length (pcs [bs[m].chs[q].rs[t]])) := owns_keeps (owns_new W5 0 108 2 1 #[.int .i64 bs[m].chs[q].rs[t].1, .int .i64 bs[m].chs[q].rs[t].2] (Nat.zero_le _) rfl (by decide)) (Keeps.below (T := fun _ => True) f6') trivial; have O6 : Hid (RdI w vU3 L3 w6 ∧ Below W5.heap.size W5 w6) := ⟨(H5.out.2.keeps ((Below.refl _ _).alloc (Nat.le_refl _) _)).keeps f6', ((Below.refl W5.heap.size W5).alloc (Nat.le_refl _) _).trans (f6'.mono (by rw [World.size_alloc]; omega))⟩; clear f6 f6') | (refine stepC rfl 129 #[.slice (some ⟨w6.heap.size, 0, none⟩) 1 1, .agg #[.int .i64 bs[m].chs[q].gs[t].1, .int .i64 bs[bs[m].chs[q].gs[t].1].sts.length], .pointer (some ⟨w.heap.size, 0, none⟩)] (by go_simp) (addUP L3 [bs[m].chs[q].rs[t]] bs[m].chs[q].gs[t].1 bs[bs[m].chs[q].gs[t].1].sts.length w.heap.size w.heap.size vU3 _ (w6.alloc (.cells #[.int .i64 bs[m].chs[q].rs[t].1, .int .i64 bs[m].chs[q].rs[t].2] 108)) (blk_alloc O6.out.1.1 _) (O6.out.1.2.1.alloc _) (owns_new w6 0 108 2 1 #[.int .i64 bs[m].chs[q].rs[t].1, .int .i64 bs[m].chs[q].rs[t].2] (Nat.zero_le _) rfl (by decide)) (Nat.le_refl _) (by simp) (by omega)) ?_; rintro e w7 ⟨rfl, v7, H7⟩; have R7 : Hid (w7.heap[wA.heap.size]? = some (.cells #[.int .i64 bs[m].at_, .slice (some ⟨gc, 0, none⟩) bs[m].chs.length cc, .slice ps bs[m].sts.length cs1, .iface T x] 69 (0, 0)) ∧ RdI w v7 (L3 ++ usF [bs[m].chs[q].rs[t]] bs[m].chs[q].gs[t].1 bs[bs[m].chs[q].gs[t].1].sts.length) w7) := ⟨H7.out.2.2.1 _ _ _ (by omega) (by decide) (blk_alloc (by rw [O6.out.2.block _ (lt_of_block H5.out.1)]; exact H5.out.1) _), H7.out.1, H7.out.2.1, (O6.out.1.2.2.alloc O6.out.1.2.2.size _).trans H7.out.2.2.2⟩; clear H7) | (refine stepC rfl 129 #[.slice (some ⟨W5.heap.size, 0, none⟩) 1 1, .agg #[.int .i64 bs[m].chs[q].gs[t].1, .int .i64 bs[bs[m].chs[q].gs[t].1].sts.length], .pointer (some ⟨w.heap.size, 0, none⟩)] (by go_simp) (addUP L3 [bs[m].chs[q].rs[t]] bs[m].chs[q].gs[t].1 bs[bs[m].chs[q].gs[t].1].sts.length w.heap.size w.heap.size vU3 _ w6 O6.out.1.1 O6.out.1.2.1 T6.out (Nat.le_refl _) (by simp) (by omega)) ?_; rintro e w7 ⟨rfl, v7, H7⟩; have R7 : Hid (w7.heap[wA.heap.size]? = some (.cells #[.int .i64 bs[m].at_, .slice (some ⟨gc, 0, none⟩) bs[m].chs.length cc, .slice ps bs[m].sts.length cs1, .iface T x] 69 (0, 0)) ∧ RdI w v7 (L3 ++ usF [bs[m].chs[q].rs[t]] bs[m].chs[q].gs[t].1 bs[bs[m].chs[q].gs[t].1].sts.length) w7) := ⟨H7.out.2.2.1 _ _ _ (by omega) (by decide) (by rw [O6.out.2.block _ (lt_of_block H5.out.1)]; exact H5.out.1), H7.out.1, H7.out.2.1, O6.out.1.2.2.trans H7.out.2.2.2⟩; clear H7) | fail)
              all_goals
                clear HE1 HE2 H5 a0
                go_wp2_with fail
                go_roundw
                case rel => exact ⟨t + 1, v7, L3 ++ usF [bs[m].chs[q].rs[t]] bs[m].chs[q].gs[t].1 bs[bs[m].chs[q].gs[t].1].sts.length, by omega, by go_num, HL5, by rw [List.length_append, usF, List.length_map, List.length_singleton]; omega, R7⟩
                case measure => simp [intOf]; omega
            · have hte : t = bs[m].chs[q].gs.length := by omega
              have HL4 : Hid (L3 = L ++ (bs[m].chs.take (q + 1)).flatMap (chR bs)) := by
                show _ = _
                have e : (chR bs bs[m].chs[q]).take t = chR bs bs[m].chs[q] := List.take_of_length_le (by rw [chR, List.length_map, List.length_zip]; have := HGR.out; omega)
                rw [HL3.out, HL2.out, e, List.take_succ_eq_append_getElem hql, List.flatMap_append, List.append_assoc]; simp
              clear hte HL3
              go_wp2_with fail
              go_roundw
              case rel => exact ⟨q + 1, vU3, L3, by omega, by go_num, HL4, by omega, H4⟩
              case measure => simp [intOf]; omega
        · have hqe : q = bs[m].chs.length := by omega
          have HL3 : Hid (L2 = L ++ bs[m].chs.flatMap (chR bs)) := by show _ = _; rw [HL2.out, hqe, List.take_length]
          have b2 := cell_of H2.out.1 2
          simp at b2
          clear hqe HL2
          go_wp2_with fail
          clear b2
          go_loopw [52] (fun i wr => ∃ (k : Nat) (vU : Value) (L4 : List Use), k ≤ bs[m].sts.length ∧ i = .int .i64 k ∧ Hid (L4 = L2 ++ (List.range k).flatMap (stR bs[m] m)) ∧ L4.length ≤ 1100000000 * m + 1000000000 + 2 * k ∧ Hid (wr.heap[wA.heap.size]? = some (.cells #[.int .i64 bs[m].at_, .slice qc bs[m].chs.length cc, .slice ps bs[m].sts.length cs1, .iface T x] 69 (0, 0)) ∧ RdI w vU L4 wr)) (fun i _ => bs[m].sts.length - (intOf i).toNat)
          case atStart => exact ⟨0, vU2, L2, by omega, rfl, by simp [Hid], by omega, H2⟩
          case round =>
            obtain ⟨k, vU4, L4, hk, rfl, HL4, hl4, H4⟩ := hrel
            rename World => wC
            have hz4 := H4.out.2.2.2.size
            have hgC := lt_of_block H4.out.1
            by_cases hkl : k < bs[m].sts.length
            · have OSC := owns_keeps HOC.out.2 (Keeps.below (T := fun _ => True) H4.out.2.2.2) trivial
              obtain ⟨gs, rfl, _, _⟩ := owns_form OSC (by omega)
              obtain ⟨T2, x2, fr, fg, hsv, hrm, hrt, hrc, _, _, _⟩ := stepM bs[m].sts[k]
              have cS := owns_cell OSC (j := k) (u := .iface T2 x2) (by rw [← hsv]; simp [hkl])
              have HR := stop (And.intro hrm (And.intro hrt hrc))
              have HST : Hid (stR bs[m] m k = usF (rdsF bs[m].sts[k]) m k) := by show _ = _; rw [stR, List.getElem?_eq_getElem hkl]; rfl
              have HL5 : Hid (L4 ++ usF (rdsF bs[m].sts[k]) m k = L2 ++ (List.range (k + 1)).flatMap (stR bs[m] m)) := by
                show _ = _
                rw [HL4.out, List.range_succ, List.flatMap_append, List.append_assoc, ← HST.out]; simp
              have hrl := rdsF_le bs[m].sts[k]
              have hul : (usF (rdsF bs[m].sts[k]) m k).length ≤ 2 := by rw [usF, List.length_map]; exact hrl
              clear hsv hrm hrt hrc OSC HST HL4
              go_wp2_with fail
              rw [HR.out.1, Result.andThen_ok]
              simp only [HR.out.2.1]
              unfold Oper.upon
              refine (HR.out.2.2 _).mono ?_
              rintro r w5 ⟨vq, rfl, o5, f5⟩
              obtain ⟨pq, cq, rfl⟩ := owns_slice2 o5
              have H5 := stop (And.intro (by rw [f5.block _ hgC]; exact H4.out.1 : w5.heap[wA.heap.size]? = some (.cells #[.int .i64 bs[m].at_, .slice qc bs[m].chs.length cc, .slice (some ⟨gs, 0, none⟩) bs[m].sts.length cs1, .iface T x] 69 (0, 0))) (And.intro (H4.out.2.keeps f5) (owns_base o5 (Nat.zero_le _))))
              clear o5 f5 H4 HR cS
              go_wp2_with fail
              refine (addUP L4 (rdsF bs[m].sts[k]) m k w.heap.size w.heap.size vU4 _ w5 H5.out.2.1.1 H5.out.2.1.2.1 H5.out.2.2 (Nat.le_refl _) (by omega) (by omega)).mono ?_
              rintro r w6 ⟨rfl, v6, H6⟩
              have H7 : Hid (w6.heap[wA.heap.size]? = some (.cells #[.int .i64 bs[m].at_, .slice qc bs[m].chs.length cc, .slice (some ⟨gs, 0, none⟩) bs[m].sts.length cs1, .iface T x] 69 (0, 0)) ∧ RdI w v6 (L4 ++ usF (rdsF bs[m].sts[k]) m k) w6) := ⟨H6.out.2.2.1 _ _ _ (by omega) (by decide) H5.out.1, H6.out.1, H6.out.2.1, H5.out.2.1.2.2.trans H6.out.2.2.2⟩
              clear H5 H6
              go_wp2_with fail
              go_roundw
              case rel => exact ⟨k + 1, v6, L4 ++ usF (rdsF bs[m].sts[k]) m k, by omega, by go_num, HL5, by rw [List.length_append]; omega, H7⟩
              case measure => simp [intOf]; omega
            · have hke : k = bs[m].sts.length := by omega
              have HL5 : Hid (L4 ++ usF (endRg bs[m].e) m bs[m].sts.length = rdUp bs (m + 1)) := by
                show _ = _
                rw [HL4.out, hke, HL3.out, HL.out, rdUp_next, HBK.out, rdBk, List.append_assoc, List.append_assoc]; rfl
              have b3 := cell_of H4.out.1 3
              simp at b3
              have hrl : (endRg bs[m].e).length ≤ 1 := by unfold endRg; split <;> simp
              have hul : (usF (endRg bs[m].e) m bs[m].sts.length).length ≤ 1 := by rw [usF, List.length_map]; exact hrl
              clear hke HL4
              go_wp2_with fail
              rw [HES.out.1, Result.andThen_ok]
              simp only [HES.out.2.1]
              unfold Oper.upon
              refine (HES.out.2.2 _).mono ?_
              rintro r w5 ⟨vq, rfl, o5, f5⟩
              obtain ⟨pq, cq, rfl⟩ := owns_slice2 o5
              have s5 := f5.size
              have H5 := stop (And.intro (H4.out.2.keeps f5) (owns_base o5 (Nat.zero_le _)))
              clear o5 f5 H4 b3
              go_wp2_with fail
              refine (endOfP bs m base _ w5 (HP.out.keeps (Keeps.below H5.out.1.2.2)) hlt).mono ?_
              rintro r w6 ⟨rfl, f6⟩
              have H6 := stop (And.intro (H5.out.1.keeps f6) (owns_keeps H5.out.2 (Keeps.below (T := fun _ => True) f6) trivial))
              clear f6 H5
              go_wp2_with fail
              refine (addUP L4 (endRg bs[m].e) m bs[m].sts.length w.heap.size w.heap.size vU4 _ w6 H6.out.1.1 H6.out.1.2.1 H6.out.2 (Nat.le_refl _) (by omega) (by omega)).mono ?_
              rintro r w7 ⟨rfl, v7, H7⟩
              have H8 : Hid (RdI w v7 (L4 ++ usF (endRg bs[m].e) m bs[m].sts.length) w7) := ⟨H7.out.1, H7.out.2.1, H6.out.1.2.2.trans H7.out.2.2.2⟩
              clear H6 H7
              go_wp2_with fail
              go_roundw
              case rel => exact ⟨m + 1, v7, L4 ++ usF (endRg bs[m].e) m bs[m].sts.length, by omega, by go_num, HL5, by rw [List.length_append]; omega, H8⟩
              case measure => simp [intOf]; omega
    · have hme : m = bs.length := by omega
      have HLE : Hid (L = rdU bs) := by show _ = _; rw [HL.out, hme]; rfl
      have k0 := cell_of HI.out.1 0
      simp at k0
      obtain ⟨pl, cl, rfl⟩ := owns_slice2 HI.out.2.1
      clear hme HL
      go_wp2_with fail
      go_ret
      exact ⟨_, rfl, by rw [← HLE.out]; exact HI.out.2.1, by rw [← HLE.out]; omega, HI.out.2.2⟩

end Go.Proofs.YtgfhfkgdmidhpaaGreat
