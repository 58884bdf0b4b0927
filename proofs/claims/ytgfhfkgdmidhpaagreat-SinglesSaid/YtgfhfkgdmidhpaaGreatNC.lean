import Derived.Test.YtgfhfkgdmidhpaaGreatNB
import Derived.Test.YtgfhfkgdmidhpaaGreatMF
import Derived.Test.YtgfhfkgdmidhpaaGreatG05
import Derived.Test.YtgfhfkgdmidhpaaGreatMO
namespace Go.Proofs.YtgfhfkgdmidhpaaGreat
open Go.RowKit

def chR (bs : List RBlk) (c : RCho) : List Use := (c.gs.zip c.rs).map fun p => ⟨p.2.1, p.2.2, p.1.1, (bkF bs p.1.1).sts.length⟩
def stR (b : RBlk) (i j : Nat) : List Use := match b.sts[j]? with | some t => (rdsF t).map (fun r => ⟨r.1, r.2, i, j⟩) | none => []
def enR (b : RBlk) (i : Nat) : List Use := (endRg b.e).map fun r => ⟨r.1, r.2, i, b.sts.length⟩
def rdBk (bs : List RBlk) (b : RBlk) (i : Nat) : List Use := b.chs.flatMap (chR bs) ++ ((List.range b.sts.length).flatMap (stR b i) ++ enR b i)
/-- Where registers are read, in the order of the text. -/
def rdUp (bs : List RBlk) (m : Nat) : List Use := (List.range m).flatMap fun i => rdBk bs (bkF bs i) i
def rdU (bs : List RBlk) : List Use := rdUp bs bs.length
def badU (bs : List RBlk) (u : Use) : Bool := !mayF bs u.n u.b u.s
def amF (bs : List RBlk) : Option Use := (rdU bs).find? (badU bs)
theorem range_none {α : Type} {f : Nat → List α} {P : α → Bool} {m : Nat} (h : ((List.range m).flatMap f).find? P = none) (hn : (f m).find? P = none) : ((List.range (m + 1)).flatMap f).find? P = none := by
  rw [List.range_succ, List.flatMap_append, List.find?_append, h]; simpa using hn
theorem range_hit {α : Type} {f : Nat → List α} {P : α → Bool} {m n : Nat} {u : α} (hm : m < n) (h : ((List.range m).flatMap f).find? P = none) (hn : (f m).find? P = some u) : ((List.range n).flatMap f).find? P = some u := by
  have e : List.range n = List.range m ++ (m :: (List.range (n - m - 1)).map (fun y => m + (1 + y))) := by
    have := List.range_add (n := m) (m := n - m)
    rw [show m + (n - m) = n from by omega] at this
    rw [this, show n - m = 1 + (n - m - 1) from by omega, List.range_add]
    simp
  rw [e, List.flatMap_append, List.find?_append, h, List.flatMap_cons, List.find?_append, hn]; rfl
theorem chR_at {bs : List RBlk} {c : RCho} (hr : c.rs.length = c.gs.length) {t : Nat} (ht : t < c.rs.length) : ∃ h : t < (chR bs c).length, (chR bs c)[t] = ⟨c.rs[t].1, c.rs[t].2, (c.gs[t]'(by omega)).1, (bkF bs (c.gs[t]'(by omega)).1).sts.length⟩ := by
  have hz : t < (chR bs c).length := by rw [chR, List.length_map, List.length_zip]; omega
  exact ⟨hz, by simp [chR]⟩

set_option maxRecDepth 100000 in
set_option maxHeartbeats 3000000 in
theorem amissR (bs : List RBlk) (base B gp : Nat) (vL : Value) (w : World) (h : GrI bs base B gp vL w) (hf : Hid (∀ b ∈ bs, BFine 1000000 b)) (hg2 : Hid (∀ b ∈ bs, ∀ c ∈ b.chs, c.gs.length ≤ 1000)) (hcg : Hid (∀ b ∈ bs, ∀ c ∈ b.chs, ∀ p ∈ c.gs, p.1 < bs.length)) (hl : (gvU bs).length ≤ 100000000000) (hn : bs.length ≤ 1000) :
    Calls Tryz.prog 60 #[.pointer (some ⟨gp, 0, none⟩)] w fun x w' => x = .returned (.int .i64 (atO (amF bs))) ∧ Below w.heap.size w w' := by
  obtain ⟨pv, cv, rfl⟩ : ∃ p c, vL = .slice p bs.length c := by obtain ⟨_, _, _, _, b, _⟩ := h; exact b.slice
  have HG := stop h
  have hgw : gp < w.heap.size := by obtain ⟨_, _, _, a, _⟩ := h; exact lt_of_block a
  have hk0 : w.cell? ⟨gp, 0, none⟩ = some (.slice pv bs.length cv) := by
    obtain ⟨_, _, _, a, _⟩ := h
    have := cell_of a 0; simpa using this
  have HK0 := stop hk0
  have HBL : Hid (BlksOwn w base bs (.slice pv bs.length cv)) := by obtain ⟨_, _, _, _, b, _⟩ := h; exact b
  clear h hk0
  go_enter Tryz.func60, Tryz.ntmps60
  go_wp2_with fail
  go_loopw [3] (fun i wr => ∃ m : Nat, m ≤ bs.length ∧ i = .int .i64 m ∧ Hid ((rdUp bs m).find? (badU bs) = none) ∧ Hid (Below w.heap.size w wr)) (fun i _ => bs.length - (intOf i).toNat)
  case atStart => exact ⟨0, by omega, rfl, by simp [Hid, rdUp], Below.refl _ _⟩
  case round =>
    obtain ⟨m, hm, rfl, HN1, F⟩ := hrel
    rename World => wA
    have hz := F.out.size
    have kg := (F.out.cell (p := ⟨gp, 0, none⟩) hgw).trans HK0.out
    by_cases hlt : m < bs.length
    · obtain ⟨gv, qc, cc, ps, cs, rfl, _, hgv, OC, OS0, hc⟩ := (HBL.out.keeps3 (Keeps.below F.out)).at hlt
      have d0 : wA.cell? ⟨gv, m * 10, none⟩ = _ := hc 0 _ rfl
      have d1 := hc 1 _ rfl
      have d2 := hc 2 _ rfl
      have d3 := hc 3 _ rfl
      have d4 := hc 4 _ rfl
      have d5 := hc 5 _ rfl
      have d6 := hc 6 _ rfl
      have d7 := hc 7 _ rfl
      have d8 := hc 8 _ rfl
      have d9 := hc 9 _ rfl
      have HFM := stop (hf.out _ (List.getElem_mem hlt))
      have hcl := HFM.out.cl
      have hsl := HFM.out.sl
      have HBK := stop (bkF_at hlt)
      have HG2 := stop (hg2.out _ (List.getElem_mem hlt))
      have HCG := stop (hcg.out _ (List.getElem_mem hlt))
      have gW := heap_alloc_last wA (.cells #[.slice qc bs[m].chs.length cc, .slice ps bs[m].sts.length cs, .int .u8 bs[m].e.op, .int .i64 bs[m].e.a.1, .int .i64 bs[m].e.a.2, .int .i64 bs[m].e.one.1, .int .i64 bs[m].e.one.2, .int .i64 bs[m].e.two.1, .int .i64 bs[m].e.two.2, .int .i64 bs[m].at_] 82)
      have fW := (Below.refl wA.heap.size wA).alloc (Nat.le_refl _) (.cells #[.slice qc bs[m].chs.length cc, .slice ps bs[m].sts.length cs, .int .u8 bs[m].e.op, .int .i64 bs[m].e.a.1, .int .i64 bs[m].e.a.2, .int .i64 bs[m].e.one.1, .int .i64 bs[m].e.one.2, .int .i64 bs[m].e.two.1, .int .i64 bs[m].e.two.2, .int .i64 bs[m].at_] 82)
      have sW : wA.heap.size < (wA.alloc (.cells #[.slice qc bs[m].chs.length cc, .slice ps bs[m].sts.length cs, .int .u8 bs[m].e.op, .int .i64 bs[m].e.a.1, .int .i64 bs[m].e.a.2, .int .i64 bs[m].e.one.1, .int .i64 bs[m].e.one.2, .int .i64 bs[m].e.two.1, .int .i64 bs[m].e.two.2, .int .i64 bs[m].at_] 82)).heap.size := by rw [World.size_alloc]; omega
      have HW := stop (And.intro gW (And.intro (F.out.trans (fW.mono hz)) (And.intro (OC.keeps (Keeps.below (T := fun _ => True) fW) trivial trivial trivial) (owns_keeps OS0 (Keeps.below (T := fun _ => True) fW) trivial))))
      clear hc OC OS0 gW fW
      go_wp2_with fail
      clear d0 d1 d2 d3 d4 d5 d6 d7 d8 d9 kg
      generalize wA.alloc (.cells #[.slice qc bs[m].chs.length cc, .slice ps bs[m].sts.length cs, .int .u8 bs[m].e.op, .int .i64 bs[m].e.a.1, .int .i64 bs[m].e.a.2, .int .i64 bs[m].e.one.1, .int .i64 bs[m].e.one.2, .int .i64 bs[m].e.two.1, .int .i64 bs[m].e.two.2, .int .i64 bs[m].at_] 82) = W at *
      have zW := HW.out.2.1.size
      go_loopw [5] (fun i wr => ∃ q : Nat, q ≤ bs[m].chs.length ∧ i = .int .i64 q ∧ Hid (((bs[m].chs.take q).flatMap (chR bs)).find? (badU bs) = none) ∧ Hid (Below W.heap.size W wr)) (fun i _ => bs[m].chs.length - (intOf i).toNat)
      case atStart => exact ⟨0, by omega, rfl, by simp [Hid], Below.refl _ _⟩
      case round =>
        obtain ⟨q, hq, rfl, HN2, F2⟩ := hrel
        rename World => wB
        have hz2 := F2.out.size
        have gB : wB.heap[wA.heap.size]? = some (.cells #[.slice qc bs[m].chs.length cc, .slice ps bs[m].sts.length cs, .int .u8 bs[m].e.op, .int .i64 bs[m].e.a.1, .int .i64 bs[m].e.a.2, .int .i64 bs[m].e.one.1, .int .i64 bs[m].e.one.2, .int .i64 bs[m].e.two.1, .int .i64 bs[m].e.two.2, .int .i64 bs[m].at_] 82 (0, 0)) := by rw [F2.out.block _ (by omega)]; exact HW.out.1
        have b0 := cell_of gB 0
        have b1 := cell_of gB 1
        have b2 := cell_of gB 2
        have b3 := cell_of gB 3
        have b4 := cell_of gB 4
        simp at b0 b1 b2 b3 b4
        clear gB
        by_cases hql : q < bs[m].chs.length
        · have OCB := HW.out.2.2.1.keeps (Keeps.below (T := fun _ => True) F2.out) trivial trivial trivial
          obtain ⟨gc, pf, cf, pr, cr, rfl, _, _, OF, OR, e0, e1, e2, e3⟩ := OCB.at hql
          have HCF := HFM.out.ch _ (List.getElem_mem hql)
          have hrl := HCF.2.1
          have HRL := stop hrl
          have hgl := HG2.out _ (List.getElem_mem hql)
          have hrl2 : bs[m].chs[q].rs.length ≤ 1000 := by omega
          have HCQ := stop (HCG.out _ (List.getElem_mem hql))
          have g3 := heap_alloc_last wB (.cells #[.int .i64 bs[m].chs[q].to.1, .int .i64 bs[m].chs[q].to.2, .slice pf bs[m].chs[q].gs.length cf, .slice pr bs[m].chs[q].rs.length cr] 139)
          have f3 := (Below.refl wB.heap.size wB).alloc (Nat.le_refl _) (.cells #[.int .i64 bs[m].chs[q].to.1, .int .i64 bs[m].chs[q].to.2, .slice pf bs[m].chs[q].gs.length cf, .slice pr bs[m].chs[q].rs.length cr] 139)
          have s3 : wB.heap.size < (wB.alloc (.cells #[.int .i64 bs[m].chs[q].to.1, .int .i64 bs[m].chs[q].to.2, .slice pf bs[m].chs[q].gs.length cf, .slice pr bs[m].chs[q].rs.length cr] 139)).heap.size := by rw [World.size_alloc]; omega
          have H3 := stop (And.intro g3 (And.intro (F2.out.trans (f3.mono hz2)) (And.intro (owns_keeps OF (Keeps.below (T := fun _ => True) f3) trivial) (owns_keeps OR (Keeps.below (T := fun _ => True) f3) trivial))))
          clear OCB OF OR g3 f3 HCF hrl b1 b2 b3 b4
          go_wp2_with fail
          clear e0 e1 e2 e3 b0
          generalize wB.alloc (.cells #[.int .i64 bs[m].chs[q].to.1, .int .i64 bs[m].chs[q].to.2, .slice pf bs[m].chs[q].gs.length cf, .slice pr bs[m].chs[q].rs.length cr] 139) = W3 at *
          go_loopw [7] (fun i wr => ∃ t : Nat, t ≤ bs[m].chs[q].rs.length ∧ i = .int .i64 t ∧ Hid (((chR bs bs[m].chs[q]).take t).find? (badU bs) = none) ∧ Hid (Below W3.heap.size W3 wr)) (fun i _ => bs[m].chs[q].rs.length - (intOf i).toNat)
          case atStart => exact ⟨0, by omega, rfl, by simp [Hid], Below.refl _ _⟩
          case round =>
            obtain ⟨t, ht, rfl, HN3, F3⟩ := hrel
            rename World => wC
            have hz3 := F3.out.size
            have gC : wC.heap[wB.heap.size]? = some (.cells #[.int .i64 bs[m].chs[q].to.1, .int .i64 bs[m].chs[q].to.2, .slice pf bs[m].chs[q].gs.length cf, .slice pr bs[m].chs[q].rs.length cr] 139 (0, 0)) := by rw [F3.out.block _ (by omega)]; exact H3.out.1
            have c2 := cell_of gC 2
            have c3 := cell_of gC 3
            simp at c2 c3
            clear gC
            by_cases htl : t < bs[m].chs[q].rs.length
            · have htg : t < bs[m].chs[q].gs.length := by have := HRL.out; omega
              have OFC := owns_keeps H3.out.2.2.1 (Keeps.below (T := fun _ => True) F3.out) trivial
              have ORC := owns_keeps H3.out.2.2.2 (Keeps.below (T := fun _ => True) F3.out) trivial
              obtain ⟨gf, rfl, _, _⟩ := owns_form OFC (by omega)
              obtain ⟨gr, rfl, _, _⟩ := owns_form ORC (by omega)
              have f0 := owns_cell OFC (pcs_at htg).1
              have r0 := owns_cell ORC (pcs_at htl).1
              have r1 := owns_cell ORC (pcs_at htl).2
              have hfr := HCQ.out _ (List.getElem_mem htg)
              have FC := H3.out.2.1.trans (F3.out.mono (show W.heap.size ≤ W3.heap.size by have := H3.out.2.1.size; omega))
              have FCw := HW.out.2.1.trans (FC.mono zW)
              have kg := (FCw.cell (p := ⟨gp, 0, none⟩) hgw).trans HK0.out
              obtain ⟨gv', qf, ccf, psf, csf, hgv', _, _, _, _, hcf⟩ := (HBL.out.keeps3 (Keeps.below FCw)).at hfr
              cases hgv'
              have df := hcf 1 _ rfl
              obtain ⟨hct, hce⟩ := chR_at (bs := bs) HRL.out htl
              have HCE := stop hce
              have HBF := stop (bkF_at hfr)
              have HGC := stop (HG.out.keeps (w' := wC.drew) ⟨FCw.os, FCw.tape, FCw.output, FCw.size, FCw.block⟩)
              have FCH := stop FCw
              have h3s := H3.out.2.1.size
              clear OFC ORC hcf hce FC FCw
              go_wp2_with fail
              go_region_law (first | (refine stepC rfl 97 #[.pointer (some ⟨gp, 0, none⟩), .int .i64 bs[m].chs[q].rs[t].1, .int .i64 bs[m].chs[q].gs[t].1, .int .i64 bs[bs[m].chs[q].gs[t].1].sts.length] (by go_simp) (mayR bs base B gp _ bs[m].chs[q].rs[t].1 bs[m].chs[q].gs[t].1 bs[bs[m].chs[q].gs[t].1].sts.length wC.drew HGC.out hfr hl) ?_; rintro e wD ⟨rfl, fD⟩; have fD' : Below wC.heap.size wC wD := ⟨fD.os, fD.tape, fD.output, fD.size, fD.block⟩; have sD := fD'.size; have y3 := fD'.cell (p := ⟨wB.heap.size, 3, none⟩) (show wB.heap.size < wC.heap.size by omega); have y5 := (fD'.cell (p := ⟨gr, t * 2 + 1, none⟩) (World.block_lt_of_cell? _ _ r1)).trans r1; have FD := stop fD'; clear fD fD') | fail)
              all_goals
                cases hmy : mayF bs bs[m].chs[q].rs[t].1 bs[m].chs[q].gs[t].1 bs[bs[m].chs[q].gs[t].1].sts.length with
                | true =>
                  have HN5 := stop (find_take_succ hct HN3.out (by rw [HCE.out, badU, HBF.out, hmy]; rfl))
                  have FF := stop (F3.out.trans (FD.out.mono hz3))
                  clear hmy
                  go_wp2_with fail
                  go_roundw
                  case rel => exact ⟨t + 1, by omega, by go_num, HN5, FF⟩
                  case measure => simp [intOf]; omega
                | false =>
                  have HAM : Hid (amF bs = some (chR bs bs[m].chs[q])[t]) := range_hit hlt HN1.out (by rw [HBK.out]; exact app_hit0 (flat_take_hit hql HN2.out (find_take_hit hct HN3.out (by rw [HCE.out, badU, HBF.out, hmy]; rfl))))
                  have FF := stop (FCH.out.trans (FD.out.mono (show w.heap.size ≤ wC.heap.size by omega)))
                  clear hmy
                  go_wp2_with fail
                  go_ret
                  exact ⟨by rw [HAM.out, HCE.out]; rfl, FF.out⟩
            · have hte : t = bs[m].chs[q].rs.length := by omega
              have HN4 : Hid (((bs[m].chs.take (q + 1)).flatMap (chR bs)).find? (badU bs) = none) := flat_take_succ hql HN2.out (by have := HN3.out; rwa [List.take_of_length_le (by rw [chR, List.length_map, List.length_zip]; omega)] at this)
              have FF := stop (H3.out.2.1.trans (F3.out.mono (show W.heap.size ≤ W3.heap.size by have := H3.out.2.1.size; omega)))
              clear hte HN3 c2
              go_wp2_with fail
              go_roundw
              case rel => exact ⟨q + 1, by omega, by go_num, HN4, FF⟩
              case measure => simp [intOf]; omega
        · have hqe : q = bs[m].chs.length := by omega
          have HNC : Hid ((bs[m].chs.flatMap (chR bs)).find? (badU bs) = none) := by have := HN2.out; rwa [hqe, List.take_length] at this
          clear hqe HN2 b2 b3 b4
          go_wp2_with fail
          clear b0 b1
          go_loopw [10] (fun i wr => ∃ k : Nat, k ≤ bs[m].sts.length ∧ i = .int .i64 k ∧ Hid (((List.range k).flatMap (stR bs[m] m)).find? (badU bs) = none) ∧ Hid (Below W.heap.size W wr)) (fun i _ => bs[m].sts.length - (intOf i).toNat)
          case atStart => exact ⟨0, by omega, rfl, by simp [Hid], F2⟩
          case round =>
            obtain ⟨k, hk, rfl, HN4, F4⟩ := hrel
            rename World => wE
            have hz4 := F4.out.size
            have gE : wE.heap[wA.heap.size]? = some (.cells #[.slice qc bs[m].chs.length cc, .slice ps bs[m].sts.length cs, .int .u8 bs[m].e.op, .int .i64 bs[m].e.a.1, .int .i64 bs[m].e.a.2, .int .i64 bs[m].e.one.1, .int .i64 bs[m].e.one.2, .int .i64 bs[m].e.two.1, .int .i64 bs[m].e.two.2, .int .i64 bs[m].at_] 82 (0, 0)) := by rw [F4.out.block _ (by omega)]; exact HW.out.1
            have b1 := cell_of gE 1
            have b2 := cell_of gE 2
            have b3 := cell_of gE 3
            have b4 := cell_of gE 4
            simp at b1 b2 b3 b4
            have FEw := HW.out.2.1.trans (F4.out.mono zW)
            have FEH := stop FEw
            have hzE := FEw.size
            clear FEw
            by_cases hkl : k < bs[m].sts.length
            · have OS := owns_keeps HW.out.2.2.2 (Keeps.below (T := fun _ => True) F4.out) trivial
              obtain ⟨gs, rfl, _, _⟩ := owns_form OS (by omega)
              have t0 : wE.cell? ⟨gs, k * 8, none⟩ = some (.int .u8 bs[m].sts[k].op) := owns_cell OS (stepCells_at hkl (k := 0) (by omega))
              have t1 : wE.cell? ⟨gs, k * 8 + 1, none⟩ = some (.int .i64 bs[m].sts[k].to.1) := owns_cell OS (stepCells_at hkl (k := 1) (by omega))
              have t2 : wE.cell? ⟨gs, k * 8 + 2, none⟩ = some (.int .i64 bs[m].sts[k].to.2) := owns_cell OS (stepCells_at hkl (k := 2) (by omega))
              have t3 : wE.cell? ⟨gs, k * 8 + 3, none⟩ = some (.int .i64 bs[m].sts[k].a.1) := owns_cell OS (stepCells_at hkl (k := 3) (by omega))
              have t4 : wE.cell? ⟨gs, k * 8 + 4, none⟩ = some (.int .i64 bs[m].sts[k].a.2) := owns_cell OS (stepCells_at hkl (k := 4) (by omega))
              have t5 : wE.cell? ⟨gs, k * 8 + 5, none⟩ = some (.int .i64 bs[m].sts[k].b.1) := owns_cell OS (stepCells_at hkl (k := 5) (by omega))
              have t6 : wE.cell? ⟨gs, k * 8 + 6, none⟩ = some (.int .i64 bs[m].sts[k].b.2) := owns_cell OS (stepCells_at hkl (k := 6) (by omega))
              have t7 : wE.cell? ⟨gs, k * 8 + 7, none⟩ = some (.int .i64 bs[m].sts[k].n) := owns_cell OS (stepCells_at hkl (k := 7) (by omega))
              have hrl := rdsF_le2 bs[m].sts[k]
              have HST : Hid (stR bs[m] m k = (rdsF bs[m].sts[k]).map (fun r => (⟨r.1, r.2, m, k⟩ : Use))) := by show _ = _; rw [stR, List.getElem?_eq_getElem hkl]
              clear OS gE b2 b3 b4
              go_wp2_with fail
              refine (readsR bs[m].sts[k] wE).mono ?_
              rintro r wF ⟨vr, rfl, oF, fF⟩
              obtain ⟨pF, cF, rfl⟩ := owns_slice2 oF
              have sF := fF.size
              have HF := stop (And.intro oF fF)
              clear oF fF t0 t1 t2 t3 t4 t5 t6 t7 b1
              generalize rdsF bs[m].sts[k] = rq at *
              go_wp2_with fail
              go_loopw [12] (fun i wr => ∃ t : Nat, t ≤ rq.length ∧ i = .int .i64 t ∧ Hid (((rq.map (fun r => (⟨r.1, r.2, m, k⟩ : Use))).take t).find? (badU bs) = none) ∧ Hid (Below wF.heap.size wF wr)) (fun i _ => rq.length - (intOf i).toNat)
              case atStart => exact ⟨0, by omega, rfl, by simp [Hid], Below.refl _ _⟩
              case round =>
                obtain ⟨t, ht, rfl, HN5, F5⟩ := hrel
                rename World => wG
                have hz5 := F5.out.size
                by_cases htl : t < rq.length
                · have OX := owns_keeps HF.out.1 (Keeps.below (T := fun _ => True) F5.out) trivial
                  obtain ⟨gr, rfl, _, _⟩ := owns_form OX (by omega)
                  have r0 := owns_cell OX (pcs_at htl).1
                  have r1 := owns_cell OX (pcs_at htl).2
                  have FGw := FEH.out.trans ((HF.out.2.trans (F5.out.mono sF)).mono hzE)
                  have htm : t < (rq.map (fun r => (⟨r.1, r.2, m, k⟩ : Use))).length := by rw [List.length_map]; exact htl
                  have HCE : Hid ((rq.map (fun r => (⟨r.1, r.2, m, k⟩ : Use)))[t] = ⟨rq[t].1, rq[t].2, m, k⟩) := by show _ = _; rw [List.getElem_map]
                  have HGC := stop (And.intro (HG.out.keeps FGw) FGw)
                  have hzG := FGw.size
                  clear OX FGw
                  go_wp2_with fail
                  refine (mayR bs base B gp _ rq[t].1 m k wG HGC.out.1 hlt hl).mono ?_
                  rintro e wH ⟨rfl, fH⟩
                  have y5 := (fH.cell (p := ⟨gr, t * 2 + 1, none⟩) (World.block_lt_of_cell? _ _ r1)).trans r1
                  have FH := stop fH
                  clear fH r0
                  cases hmy : mayF bs rq[t].1 m k with
                  | true =>
                    have HN6 := stop (find_take_succ htm HN5.out (by rw [HCE.out, badU, hmy]; rfl))
                    have FF := stop (F5.out.trans (FH.out.mono hz5))
                    clear hmy r1
                    go_wp2_with fail
                    go_roundw
                    case rel => exact ⟨t + 1, by omega, by go_num, HN6, FF⟩
                    case measure => simp [intOf]; omega
                  | false =>
                    have HAM : Hid (amF bs = some ⟨rq[t].1, rq[t].2, m, k⟩) := range_hit hlt HN1.out (by rw [HBK.out]; exact app_hit HNC.out (app_hit0 (range_hit hkl HN4.out (by rw [HST.out, ← HCE.out]; exact find_take_hit htm HN5.out (by rw [HCE.out, badU, hmy]; rfl)))))
                    have FF := stop (HGC.out.2.trans (FH.out.mono hzG))
                    clear hmy r1
                    go_wp2_with fail
                    go_ret
                    exact ⟨by rw [HAM.out]; rfl, FF.out⟩
                · have hte : t = rq.length := by omega
                  have HN6 : Hid (((List.range (k + 1)).flatMap (stR bs[m] m)).find? (badU bs) = none) := range_none HN4.out (by rw [HST.out]; have := HN5.out; rwa [List.take_of_length_le (by rw [List.length_map]; omega)] at this)
                  have FF := stop (F4.out.trans ((HF.out.2.trans (F5.out.mono sF)).mono hz4))
                  clear hte HN5
                  go_wp2_with fail
                  go_roundw
                  case rel => exact ⟨k + 1, by omega, by go_num, HN6, FF⟩
                  case measure => simp [intOf]; omega
            · have hke : k = bs[m].sts.length := by omega
              have HNS : Hid (((List.range bs[m].sts.length).flatMap (stR bs[m] m)).find? (badU bs) = none) := by have := HN4.out; rwa [hke] at this
              clear hke HN4 gE
              by_cases h63 : bs[m].e.op = 63
              · have hd : ((bs[m].e.op : Int) == 63) = true := by simp; omega
                have HEN : Hid (enR bs[m] m = [⟨bs[m].e.a.1, bs[m].e.a.2, m, bs[m].sts.length⟩]) := by show _ = _; rw [enR, endRg, if_pos h63]; rfl
                have HGC := stop (HG.out.keeps FEH.out)
                clear h63
                go_wp2_with fail
                refine (mayR bs base B gp _ bs[m].e.a.1 m bs[m].sts.length wE HGC.out hlt hl).mono ?_
                rintro e wH ⟨rfl, fH⟩
                have y4 := (fH.cell (p := ⟨wA.heap.size, 4, none⟩) (show wA.heap.size < wE.heap.size by omega)).trans b4
                have FH := stop (FEH.out.trans (fH.mono hzE))
                clear fH b1 b2 b3 b4
                cases hmy : mayF bs bs[m].e.a.1 m bs[m].sts.length with
                | true =>
                  have HN6 : Hid ((rdUp bs (m + 1)).find? (badU bs) = none) := range_none HN1.out (by rw [HBK.out]; exact app_none HNC.out (app_none HNS.out (by rw [HEN.out]; simp [badU, hmy])))
                  clear hmy
                  go_wp2_with fail
                  go_roundw
                  case rel => exact ⟨m + 1, by omega, by go_num, HN6, FH⟩
                  case measure => simp [intOf]; omega
                | false =>
                  have HAM : Hid (amF bs = some ⟨bs[m].e.a.1, bs[m].e.a.2, m, bs[m].sts.length⟩) := range_hit hlt HN1.out (by rw [HBK.out]; exact app_hit HNC.out (app_hit HNS.out (by rw [HEN.out]; simp [badU, hmy])))
                  clear hmy
                  go_wp2_with fail
                  go_ret
                  exact ⟨by rw [HAM.out]; rfl, FH.out⟩
              · have hd : ((bs[m].e.op : Int) == 63) = false := by simp; omega
                have HN6 : Hid ((rdUp bs (m + 1)).find? (badU bs) = none) := range_none HN1.out (by rw [HBK.out]; exact app_none HNC.out (app_none HNS.out (by rw [enR, endRg, if_neg h63]; rfl)))
                clear h63
                go_wp2_with fail
                go_roundw
                case rel => exact ⟨m + 1, by omega, by go_num, HN6, FEH⟩
                case measure => simp [intOf]; omega
    · have hme : m = bs.length := by omega
      have HAM : Hid (amF bs = none) := by have := HN1.out; rw [hme] at this; exact this
      clear hme HN1
      go_wp2_with fail
      go_ret
      exact ⟨by rw [HAM.out]; rfl, F.out⟩

end Go.Proofs.YtgfhfkgdmidhpaaGreat

namespace Go.Proofs.YtgfhfkgdmidhpaaGreat
open Go.RowKit

/-- Is a program single: the error and its place. -/
def sgE (bs : List RBlk) : Nat × Int := match twF (gvU bs) with | some u => (8, u.p) | none => match amF bs with | some u => (9, u.p) | none => (0, 0)
theorem goalsS {s : ByteArray} (h : (rdF s).e = 0) : ∀ b ∈ (parF s).bs, ∀ c ∈ b.chs, ∀ p ∈ c.gs, p.1 < (parF s).bs.length := by
  intro b hb c hc p hp
  obtain ⟨i, hi, rfl⟩ := List.getElem_of_mem hb
  have := (rd0c h).2 i hi c hc
  have hm : p.1 ∈ nums c.gs := List.mem_map.2 ⟨p, hp, rfl⟩
  rw [this] at hm
  exact aheTo_lt hm

set_option maxHeartbeats 1000000 in
theorem isSingleR (bs : List RBlk) (base : Nat) (v : Value) (w : World) (h : BlksOwn w base bs v) (hgl : Hid (∀ b ∈ bs, ∀ p ∈ goalsF b.e, p.1 < bs.length)) (hf : Hid (∀ b ∈ bs, BFine 1000000 b)) (hg2 : Hid (∀ b ∈ bs, ∀ c ∈ b.chs, c.gs.length ≤ 1000)) (hcg : Hid (∀ b ∈ bs, ∀ c ∈ b.chs, ∀ p ∈ c.gs, p.1 < bs.length)) (hn0 : 0 < bs.length) (hn : bs.length ≤ 1000) :
    Calls Tryz.prog 36 #[v] w fun x w' => x = .returned (.tuple #[.int .i64 (sgE bs).1, .int .i64 (sgE bs).2]) ∧ Below w.heap.size w w' := by
  obtain ⟨pv, cv, rfl⟩ := h.slice
  have HB := stop h
  clear h
  go_enter Tryz.func36, Tryz.ntmps36
  go_wp2_with fail
  refine (sitesR bs base _ w HB.out hf hn).mono ?_
  rintro x w1 ⟨v1, rfl, H1⟩
  have hl := H1.out.2.1
  have F1 := stop H1.out.2.2
  have s1 := F1.out.size
  cases ht : twF (gvU bs) with
  | some u =>
    have HE : Hid (sgE bs = (8, (u.p : Int))) := by show _ = _; rw [sgE, ht]
    clear ht H1
    simp only [atO]
    go_wp2_with fail
    go_ret2
    exact ⟨by rw [HE.out]; rfl, F1.out⟩
  | none =>
    have HT := stop ht
    clear ht H1
    simp only [atO]
    go_wp2_with fail
    refine (graphR bs base _ w1 (HB.out.keeps3 (Keeps.below F1.out)) hgl hf hn0 hn).mono ?_
    rintro x w2 ⟨gp, rfl, H2⟩
    have s2 := H2.out.2.size
    go_wp2_with fail
    refine (amissR bs base w1.heap.size gp _ w2 H2.out.1 hf hg2 hcg hl hn).mono ?_
    rintro x w3 ⟨rfl, f3⟩
    have F3 := stop (F1.out.trans ((H2.out.2.trans (f3.mono s2)).mono s1))
    clear f3 H2
    cases ha : amF bs with
    | some u =>
      have HE : Hid (sgE bs = (9, (u.p : Int))) := by show _ = _; rw [sgE, HT.out]; simp only; rw [ha]
      clear ha
      simp only [atO]
      go_wp2_with fail
      go_ret2
      exact ⟨by rw [HE.out]; rfl, F3.out⟩
    | none =>
      have HE : Hid (sgE bs = (0, 0)) := by show _ = _; rw [sgE, HT.out]; simp only; rw [ha]
      clear ha
      simp only [atO]
      go_wp2_with fail
      go_ret2
      exact ⟨by rw [HE.out]; rfl, F3.out⟩
def snE (s : ByteArray) : Nat := if upE 40000 s = 0 then (sgE (parF s).bs).1 else upE 40000 s
def snA (s : ByteArray) : Int := if upE 40000 s = 0 then (sgE (parF s).bs).2 else (rdF s).at_

set_option maxHeartbeats 1000000 in
theorem singleR (s : ByteArray) (w : World) (hs : s.size ≤ maxLen) :
    Calls Tryz.prog 23 #[.string s] w fun x w' => x = .returned (.tuple #[.int .i64 (snE s), .int .i64 (snA s)]) ∧ Below w.heap.size w w' := by
  go_enter Tryz.func23, Tryz.ntmps23
  go_wp2_with fail
  refine (shortR s w hs).mono ?_
  rintro x w1 ⟨v1, rfl, H1⟩
  by_cases h0 : upE 40000 s = 0
  · have HZ := stop (H1.out.1 h0)
    have hr := (upE_zero h0).1
    obtain ⟨ha, hn0, hn, hgl⟩ := rd0 hr
    obtain ⟨hf, _, hg2⟩ := fineS hr
    have HF := stop hf
    have HG2 := stop hg2
    have HGL := stop hgl
    have HCG := stop (goalsS hr)
    have HE : Hid (snE s = (sgE (parF s).bs).1 ∧ snA s = (sgE (parF s).bs).2) := ⟨by rw [snE, if_pos h0], by rw [snA, if_pos h0]⟩
    have F1 := stop H1.out.2
    have s1 := F1.out.size
    rw [h0, ha]
    obtain ⟨pv, cv, rfl⟩ := HZ.out.slice
    clear h0 ha hf hg2 hgl hr H1
    go_wp2_with fail
    refine (isSingleR (parF s).bs w.heap.size _ w1 HZ.out HGL HF HG2 HCG hn0 (by omega)).mono ?_
    rintro e w2 ⟨rfl, f2⟩
    have F2 := stop (F1.out.trans (f2.mono s1))
    clear f2
    go_wp2_with fail
    go_ret2
    exact ⟨by rw [HE.out.1, HE.out.2]; rfl, F2.out⟩
  · have hd : ((upE 40000 s : Int) != 0) = true := by simp; omega
    have HE : Hid (snE s = upE 40000 s ∧ snA s = (rdF s).at_) := ⟨by rw [snE, if_neg h0], by rw [snA, if_neg h0]⟩
    have F1 := stop H1.out.2
    clear h0 H1
    go_wp2_with fail
    go_ret2
    exact ⟨by rw [HE.out.1, HE.out.2]; rfl, F1.out⟩

end Go.Proofs.YtgfhfkgdmidhpaaGreat
