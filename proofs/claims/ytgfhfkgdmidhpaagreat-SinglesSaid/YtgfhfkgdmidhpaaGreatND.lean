import Derived.Test.YtgfhfkgdmidhpaaGreatNA
import Derived.Test.YtgfhfkgdmidhpaaGreatMG
import Derived.Test.YtgfhfkgdmidhpaaGreatMH
namespace Go.Proofs.YtgfhfkgdmidhpaaGreat
open Go.RowKit

theorem Tryz.info170 : (Tryz.prog.info? 170).map (fun i => (i.zero, i.size, i.bytes)) = some (some (.agg #[.int .i64 0, .int .i64 0, .int .i64 0, .int .i64 0]), 4, 32) := by kernel_rfl
def useCells (l : List Use) : List Value := l.flatMap fun u => [.int .i64 u.n, .int .i64 u.p, .int .i64 u.b, .int .i64 u.s]
theorem useCells_app (l m : List Use) : useCells (l ++ m) = useCells l ++ useCells m := by rw [useCells, useCells, useCells, List.flatMap_append]
theorem useCells_at {l : List Use} {j : Nat} (hj : j < l.length) : (useCells l)[j * 4]? = some (.int .i64 l[j].n) ∧ (useCells l)[j * 4 + 1]? = some (.int .i64 l[j].p) ∧ (useCells l)[j * 4 + 2]? = some (.int .i64 l[j].b) ∧ (useCells l)[j * 4 + 3]? = some (.int .i64 l[j].s) := by
  have F := fun k hk => flat_get 4 (l.map fun u : Use => [Value.int .i64 u.n, .int .i64 u.p, .int .i64 u.b, .int .i64 u.s]) j k [.int .i64 l[j].n, .int .i64 l[j].p, .int .i64 l[j].b, .int .i64 l[j].s] (fun x hx => by obtain ⟨y, _, rfl⟩ := List.mem_map.1 hx; rfl) (by simp [hj]) hk
  rw [useCells, List.flatMap_def]
  exact ⟨F 0 (by omega), F 1 (by omega), F 2 (by omega), F 3 (by omega)⟩

set_option maxRecDepth 100000 in
set_option maxHeartbeats 2000000 in
theorem givingsP (bs : List RBlk) (base : Nat) (v : Value) (w : World) (hP : PBs w base bs v) (hf : Hid (∀ b ∈ bs, BFine 1000000 b)) (hn : bs.length ≤ 1000) :
    Calls Tryz.prog 92 #[v] w fun x w' => ∃ v', x = .returned v' ∧ Hid (w'.ownsRow w.heap.size 170 4 v' (gvU bs).length (useCells (gvU bs)) ∧ (gvU bs).length ≤ 100000000000 ∧ Below w.heap.size w w') := by
  obtain ⟨pv, cv, rfl⟩ := hP.slice
  have HP := stop hP
  clear hP
  go_enter Tryz.func92, Tryz.ntmps92
  go_wp2_with fail
  go_loopw [3, 15] (fun o i wr => ∃ (m : Nat) (L : List Use), m ≤ bs.length ∧ i = .int .i64 m ∧ Hid (L = gvUp bs m) ∧ L.length ≤ 3000000 * m ∧ wr.ownsRow w.heap.size 170 4 o L.length (useCells L) ∧ Hid (Below w.heap.size w wr)) (fun _ i _ => bs.length - (intOf i).toNat)
  case atStart => exact ⟨0, [], by omega, rfl, rfl, by simp, World.ownsRow_nil _ _ _ _, Below.refl _ _⟩
  case round =>
    obtain ⟨m, L, hm, rfl, HL, hll, OL, F⟩ := hrel
    rename World => wA
    obtain ⟨pl, cl, rfl⟩ := owns_slice2 OL
    have hz := F.out.size
    have OLH := stop OL
    clear OL
    by_cases hlt : m < bs.length
    · have HFM := stop (hf.out _ (List.getElem_mem hlt))
      have hcl := HFM.out.cl
      have hsl := HFM.out.sl
      have HBK := stop (bkF_at hlt)
      obtain ⟨gv, qc, cc, ps, cs1, rfl, _, hgv, hop, OC, OS, d0, d1, d2, d3⟩ := HP.out.at hlt
      have HOC := stop (And.intro OC OS)
      obtain ⟨T, x, hT⟩ := endVal_iface bs[m].e
      rw [hT] at d3
      replace d0 := (F.out.cell (p := ⟨gv, m * 4, none⟩) hgv).trans d0
      replace d1 := (F.out.cell (p := ⟨gv, m * 4 + 1, none⟩) hgv).trans d1
      replace d2 := (F.out.cell (p := ⟨gv, m * 4 + 2, none⟩) hgv).trans d2
      replace d3 := (F.out.cell (p := ⟨gv, m * 4 + 3, none⟩) hgv).trans d3
      have gW := heap_alloc_last wA (.cells #[.int .i64 bs[m].at_, .slice qc bs[m].chs.length cc, .slice ps bs[m].sts.length cs1, .iface T x] 69)
      have HW : Hid ((wA.alloc (.cells #[.int .i64 bs[m].at_, .slice qc bs[m].chs.length cc, .slice ps bs[m].sts.length cs1, .iface T x] 69)).heap[wA.heap.size]? = some (.cells #[.int .i64 bs[m].at_, .slice qc bs[m].chs.length cc, .slice ps bs[m].sts.length cs1, .iface T x] 69 (0, 0)) ∧ Below w.heap.size w (wA.alloc (.cells #[.int .i64 bs[m].at_, .slice qc bs[m].chs.length cc, .slice ps bs[m].sts.length cs1, .iface T x] 69)) ∧ (wA.alloc (.cells #[.int .i64 bs[m].at_, .slice qc bs[m].chs.length cc, .slice ps bs[m].sts.length cs1, .iface T x] 69)).ownsRow w.heap.size 170 4 (.slice pl L.length cl) L.length (useCells L)) := ⟨gW, F.out.alloc hz _, OLH.out.alloc _⟩
      clear hop OC OS hT gW
      go_wp2_with fail
      clear d0 d1 d2 d3
      generalize wA.alloc (.cells #[.int .i64 bs[m].at_, .slice qc bs[m].chs.length cc, .slice ps bs[m].sts.length cs1, .iface T x] 69) = W at *
      go_loopw [3, 24] (fun o i wr => ∃ (q : Nat) (L2 : List Use), q ≤ bs[m].chs.length ∧ i = .int .i64 q ∧ Hid (L2 = L ++ (bs[m].chs.take q).map (chU m)) ∧ L2.length ≤ 3000000 * m + q ∧ wr.ownsRow w.heap.size 170 4 o L2.length (useCells L2) ∧ Hid (Below w.heap.size w wr ∧ wr.heap[wA.heap.size]? = some (.cells #[.int .i64 bs[m].at_, .slice qc bs[m].chs.length cc, .slice ps bs[m].sts.length cs1, .iface T x] 69 (0, 0)))) (fun _ i _ => bs[m].chs.length - (intOf i).toNat)
      case atStart => exact ⟨0, L, by omega, rfl, by simp [Hid], by omega, HW.out.2.2, HW.out.2.1, HW.out.1⟩
      case round =>
        obtain ⟨q, L2, hq, rfl, HL2, hl2, OL2, F2⟩ := hrel
        rename World => wB
        obtain ⟨pl2, cl2, rfl⟩ := owns_slice2 OL2
        have hz2 := F2.out.1.size
        have OL2H := stop OL2
        clear OL2
        by_cases hql : q < bs[m].chs.length
        · obtain ⟨gc, pu, cu, rfl, _, _, hgr, _, e0, e1, e2⟩ := (HOC.out.1.keeps (Keeps.below (T := fun _ => True) F2.out.1) trivial trivial).at hql
          clear hgr
          have HL3 : Hid (L2 ++ [chU m bs[m].chs[q]] = L ++ (bs[m].chs.take (q + 1)).map (chU m)) := by
            show _ = _
            rw [HL2.out, List.take_succ_eq_append_getElem hql, List.map_append, List.append_assoc]; rfl
          have OLW := stop (OL2H.out.alloc (.cells #[.int .i64 bs[m].chs[q].to.1, .int .i64 bs[m].chs[q].to.2, .slice pu bs[m].chs[q].gs.length cu] 190))
          have FW := stop (And.intro (F2.out.1.alloc hz2 (.cells #[.int .i64 bs[m].chs[q].to.1, .int .i64 bs[m].chs[q].to.2, .slice pu bs[m].chs[q].gs.length cu] 190)) (blk_alloc F2.out.2 (.cells #[.int .i64 bs[m].chs[q].to.1, .int .i64 bs[m].chs[q].to.2, .slice pu bs[m].chs[q].gs.length cu] 190)))
          have gW3 := heap_alloc_last wB (.cells #[.int .i64 bs[m].chs[q].to.1, .int .i64 bs[m].chs[q].to.2, .slice pu bs[m].chs[q].gs.length cu] 190)
          clear gW3
          go_wp2_with (at_builtin; refine unstop ?_)
          refine stop ?_
          have gB := heap_alloc_last (wB.alloc (.cells #[.int .i64 bs[m].chs[q].to.1, .int .i64 bs[m].chs[q].to.2, .slice pu bs[m].chs[q].gs.length cu] 190)) (.cells #[.int .i64 bs[m].chs[q].to.1, .int .i64 bs[m].chs[q].to.2, .int .i64 m, .int .i64 (-1)] 170)
          have OB := OLW.out.alloc (.cells #[.int .i64 bs[m].chs[q].to.1, .int .i64 bs[m].chs[q].to.2, .int .i64 m, .int .i64 (-1)] 170)
          rw [World.size_alloc] at gB
          refine app1L Tryz.underlying165 Tryz.info170 rfl (by decide) (by decide) rfl _ _ rfl rfl OB gB rfl rfl (List.all_eq_true.1 rfl) (by omega) (by simp; omega) ?_
          intro v3 w3 oS gS
          obtain ⟨v3p, v3c, rfl⟩ := owns_slice2 oS
          have F3 : Hid (Below w.heap.size w w3 ∧ w3.heap[wA.heap.size]? = some (.cells #[.int .i64 bs[m].at_, .slice (some ⟨gc, 0, none⟩) bs[m].chs.length cc, .slice ps bs[m].sts.length cs1, .iface T x] 69 (0, 0))) := ⟨Below.grown (FW.out.1.alloc (by rw [World.size_alloc]; omega) (.cells #[.int .i64 bs[m].chs[q].to.1, .int .i64 bs[m].chs[q].to.2, .int .i64 m, .int .i64 (-1)] 170)) gS (by simp; omega) (fun j hj => by have := (OB.lt j hj).1; omega), blk_grown gS (blk_alloc FW.out.2 _) (fun j hj e => own_type OLW.out FW.out.2 (by decide) (by subst e; exact hj))⟩
          have O3 : Hid (w3.ownsRow w.heap.size 170 4 (.slice v3p (L2.length + 1) v3c) (L2 ++ [chU m bs[m].chs[q]]).length (useCells (L2 ++ [chU m bs[m].chs[q]]))) := by
            show World.ownsRow _ _ _ _ _ _ _
            rw [useCells_app, List.length_append]
            exact oS
          clear gS gB OB oS
          go_wp2_with fail
          go_roundw
          case rel => exact ⟨q + 1, L2 ++ [chU m bs[m].chs[q]], by omega, by go_num, HL3, by rw [List.length_append, List.length_singleton]; omega, O3.out, F3⟩
          case measure => simp [intOf]; omega
        · have hqe : q = bs[m].chs.length := by omega
          have HL3 : Hid (L2 = L ++ bs[m].chs.map (chU m)) := by show _ = _; rw [HL2.out, hqe, List.take_length]
          have b2 := cell_of F2.out.2 2
          simp at b2
          clear hqe HL2
          go_wp2_with fail
          clear b2
          go_loopw [3, 40] (fun o i wr => ∃ (k : Nat) (L4 : List Use), k ≤ bs[m].sts.length ∧ i = .int .i64 k ∧ Hid (L4 = L2 ++ (List.range k).flatMap (stU bs[m] m)) ∧ L4.length ≤ 3000000 * m + 1000000 + k ∧ wr.ownsRow w.heap.size 170 4 o L4.length (useCells L4) ∧ Hid (Below w.heap.size w wr ∧ wr.heap[wA.heap.size]? = some (.cells #[.int .i64 bs[m].at_, .slice qc bs[m].chs.length cc, .slice ps bs[m].sts.length cs1, .iface T x] 69 (0, 0)))) (fun _ i _ => bs[m].sts.length - (intOf i).toNat)
          case atStart => exact ⟨0, L2, by omega, rfl, by simp [Hid], by omega, OL2H.out, F2⟩
          case round =>
            obtain ⟨k, L4, hk, rfl, HL4, hl4, OL4, F4⟩ := hrel
            rename World => wC
            obtain ⟨pl4, cl4, rfl⟩ := owns_slice2 OL4
            have hz4 := F4.out.1.size
            have OL4H := stop OL4
            clear OL4
            by_cases hkl : k < bs[m].sts.length
            · have OSC := owns_keeps HOC.out.2 (Keeps.below (T := fun _ => True) F4.out.1) trivial
              obtain ⟨gs, rfl, _, _⟩ := owns_form OSC (by omega)
              obtain ⟨T2, x2, fr, fg, hsv, _, _, _, hgm, hgt, hgc⟩ := stepM bs[m].sts[k]
              have cS := owns_cell OSC (j := k) (u := .iface T2 x2) (by rw [← hsv]; simp [hkl])
              have HG := stop (And.intro hgm (And.intro hgt hgc))
              clear hsv hgm hgt hgc OSC
              go_wp2_with fail
              rw [HG.out.1, Result.andThen_ok]
              simp only [HG.out.2.1]
              unfold Oper.upon
              by_cases h33 : bs[m].sts[k].op = 33
              · have HL5 : Hid (L4 = L2 ++ (List.range (k + 1)).flatMap (stU bs[m] m)) := by
                  show _ = _
                  rw [HL4.out, List.range_succ, List.flatMap_append]; simp [stU_put hkl h33]
                refine (HG.out.2.2 _).mono ?_
                rintro r w4 ⟨rfl, f4⟩
                rw [if_pos h33, show (bs[m].sts[k].op != 33) = false by simp [h33]]
                have s4 := f4.size
                have H5 : Hid ((w4.alloc (.cells #[.int .i64 0, .int .i64 0] 108)).ownsRow w.heap.size 170 4 (.slice pl4 L4.length cl4) L4.length (useCells L4) ∧ Below w.heap.size w (w4.alloc (.cells #[.int .i64 0, .int .i64 0] 108)) ∧ (w4.alloc (.cells #[.int .i64 0, .int .i64 0] 108)).heap[wA.heap.size]? = some (.cells #[.int .i64 bs[m].at_, .slice qc bs[m].chs.length cc, .slice (some ⟨gs, 0, none⟩) bs[m].sts.length cs1, .iface T x] 69 (0, 0))) := ⟨(owns_keeps OL4H.out (Keeps.below (T := fun _ => True) f4) trivial).alloc _, (F4.out.1.trans (f4.mono hz4)).alloc (by omega) _, blk_alloc (by rw [f4.block _ (lt_of_block F4.out.2)]; exact F4.out.2) _⟩
                clear f4 h33 cS HG
                go_wp2_with fail
                go_roundw
                case rel => exact ⟨k + 1, L4, by omega, by go_num, HL5, by omega, H5.out.1, H5.out.2⟩
                case measure => simp [intOf]; omega
              · have HL5 : Hid (L4 ++ [(⟨bs[m].sts[k].to.1, bs[m].sts[k].to.2, m, k⟩ : Use)] = L2 ++ (List.range (k + 1)).flatMap (stU bs[m] m)) := by
                  show _ = _
                  rw [HL4.out, List.range_succ, List.flatMap_append, List.append_assoc]; simp [stU_give hkl h33]
                refine (HG.out.2.2 _).mono ?_
                rintro r w4 ⟨rfl, f4⟩
                rw [if_neg h33, show (bs[m].sts[k].op != 33) = true by simp [h33]]
                have s4 := f4.size
                have OLW := stop ((owns_keeps OL4H.out (Keeps.below (T := fun _ => True) f4) trivial).alloc (.cells #[.int .i64 bs[m].sts[k].to.1, .int .i64 bs[m].sts[k].to.2] 108))
                have FW : Hid (Below w.heap.size w (w4.alloc (.cells #[.int .i64 bs[m].sts[k].to.1, .int .i64 bs[m].sts[k].to.2] 108)) ∧ (w4.alloc (.cells #[.int .i64 bs[m].sts[k].to.1, .int .i64 bs[m].sts[k].to.2] 108)).heap[wA.heap.size]? = some (.cells #[.int .i64 bs[m].at_, .slice qc bs[m].chs.length cc, .slice (some ⟨gs, 0, none⟩) bs[m].sts.length cs1, .iface T x] 69 (0, 0))) := ⟨(F4.out.1.trans (f4.mono hz4)).alloc (by omega) _, blk_alloc (by rw [f4.block _ (lt_of_block F4.out.2)]; exact F4.out.2) _⟩
                clear f4 h33 cS HG
                go_wp2_with (at_builtin; refine unstop ?_)
                refine stop ?_
                have gB := heap_alloc_last (w4.alloc (.cells #[.int .i64 bs[m].sts[k].to.1, .int .i64 bs[m].sts[k].to.2] 108)) (.cells #[.int .i64 bs[m].sts[k].to.1, .int .i64 bs[m].sts[k].to.2, .int .i64 m, .int .i64 k] 170)
                have OB := OLW.out.alloc (.cells #[.int .i64 bs[m].sts[k].to.1, .int .i64 bs[m].sts[k].to.2, .int .i64 m, .int .i64 k] 170)
                rw [World.size_alloc] at gB
                refine app1L Tryz.underlying165 Tryz.info170 rfl (by decide) (by decide) rfl _ _ rfl rfl OB gB rfl rfl (List.all_eq_true.1 rfl) (by omega) (by simp; omega) ?_
                intro v3 w3 oS gS
                obtain ⟨v3p, v3c, rfl⟩ := owns_slice2 oS
                have F3 : Hid (Below w.heap.size w w3 ∧ w3.heap[wA.heap.size]? = some (.cells #[.int .i64 bs[m].at_, .slice qc bs[m].chs.length cc, .slice (some ⟨gs, 0, none⟩) bs[m].sts.length cs1, .iface T x] 69 (0, 0))) := ⟨Below.grown (FW.out.1.alloc (by rw [World.size_alloc]; omega) (.cells #[.int .i64 bs[m].sts[k].to.1, .int .i64 bs[m].sts[k].to.2, .int .i64 m, .int .i64 k] 170)) gS (by simp; omega) (fun j hj => by have := (OB.lt j hj).1; omega), blk_grown gS (blk_alloc FW.out.2 _) (fun j hj e => own_type OLW.out FW.out.2 (by decide) (by subst e; exact hj))⟩
                have O3 : Hid (w3.ownsRow w.heap.size 170 4 (.slice v3p (L4.length + 1) v3c) (L4 ++ [(⟨bs[m].sts[k].to.1, bs[m].sts[k].to.2, m, k⟩ : Use)]).length (useCells (L4 ++ [(⟨bs[m].sts[k].to.1, bs[m].sts[k].to.2, m, k⟩ : Use)]))) := by
                  show World.ownsRow _ _ _ _ _ _ _
                  rw [useCells_app, List.length_append]
                  exact oS
                clear gS gB OB oS
                go_wp2_with fail
                go_roundw
                case rel => exact ⟨k + 1, L4 ++ [(⟨bs[m].sts[k].to.1, bs[m].sts[k].to.2, m, k⟩ : Use)], by omega, by go_num, HL5, by rw [List.length_append, List.length_singleton]; omega, O3.out, F3⟩
                case measure => simp [intOf]; omega
            · have hke : k = bs[m].sts.length := by omega
              have HL6 : Hid (L4 = gvUp bs (m + 1)) := by
                show _ = _
                rw [HL4.out, hke, HL3.out, HL.out, gvUp_next, gvBk, HBK.out, List.append_assoc]
              clear hke HL4
              go_wp2_with fail
              go_roundw
              case rel => exact ⟨m + 1, L4, by omega, by go_num, HL6, by omega, OL4H.out, F4.out.1⟩
              case measure => simp [intOf]; omega
    · have hme : m = bs.length := by omega
      have HLE : Hid (L = gvU bs) := by show _ = _; rw [HL.out, hme]; rfl
      clear hme HL
      go_wp2_with fail
      go_ret
      exact ⟨_, rfl, by rw [← HLE.out]; exact OLH.out, by rw [← HLE.out]; omega, F.out⟩

end Go.Proofs.YtgfhfkgdmidhpaaGreat

namespace Go.Proofs.YtgfhfkgdmidhpaaGreat
open Go.RowKit

theorem twG_pre {m : List Use} {x : Use} : ∀ {l : List Use} {seen : List Nat}, twG seen l = some x → twG seen (l ++ m) = some x
  | [], _, h => by rw [twG] at h; cases h
  | u :: l, seen, h => by
    rw [List.cons_append, twG]
    rw [twG] at h
    split at h
    · rename_i h1; rw [if_pos h1]; exact h
    · rename_i h1; rw [if_neg h1]; exact twG_pre h
theorem twF_at {l : List Use} {k : Nat} (hk : k < l.length) (h : twF (l.take k) = none) (hm : l[k].n ∈ (l.take k).map (·.n)) : twF l = some l[k] := by
  have h1 := twF_hit h hm
  rw [← List.take_succ_eq_append_getElem hk] at h1
  have := twG_pre (m := l.drop (k + 1)) h1
  rwa [List.take_append_drop] at this
theorem twF_on {l : List Use} {k : Nat} (hk : k < l.length) (h : twF (l.take k) = none) (hm : l[k].n ∉ (l.take k).map (·.n)) : twF (l.take (k + 1)) = none := by
  rw [List.take_succ_eq_append_getElem hk]; exact twF_no h hm
theorem gvBk_n {n : Nat} {b : RBlk} (h : BFine n b) {i : Nat} {u : Use} (hu : u ∈ gvBk b i) : u.n < 10000 := by
  rw [gvBk, List.mem_append] at hu
  rcases hu with hu | hu
  · obtain ⟨c, hc, rfl⟩ := List.mem_map.1 hu; exact (h.ch c hc).1
  · obtain ⟨j, hj, hu⟩ := List.mem_flatMap.1 hu
    have hj := List.mem_range.1 hj
    by_cases h33 : b.sts[j].op = 33
    · rw [stU_put hj h33] at hu; simp at hu
    · rw [stU_give hj h33, List.mem_singleton] at hu
      rw [hu]; exact (h.st _ (List.getElem_mem hj)).1
theorem gvU_n {n : Nat} {bs : List RBlk} (h : ∀ b ∈ bs, BFine n b) {u : Use} (hu : u ∈ gvU bs) : u.n < 10000 := by
  obtain ⟨i, _, hu⟩ := List.mem_flatMap.1 hu
  exact gvBk_n (bkF_fine h i) hu
def seenL (l : List Use) (k : Nat) : List Nat := ofL ((l.take k).map (·.n))
theorem seenL_zero (l : List Use) : seenL l 0 = [] := by simp [seenL, ofL_id]
theorem seenL_next {l : List Use} {k : Nat} (hk : k < l.length) : ptF (seenL l k) l[k].n = seenL l (k + 1) := by
  refine srt_ext (ptF_srt _ _) (ofL_srt _) fun x => ?_
  rw [ptF_mem, seenL, seenL, ofL_mem, ofL_mem, List.take_succ_eq_append_getElem hk, List.map_append, List.mem_append]
  simp
theorem seenL_sm {l : List Use} (h : ∀ u ∈ l, u.n < 10000) (k : Nat) : SM (seenL l k) := SM.of fun x hx => by
  obtain ⟨u, hu, rfl⟩ := List.mem_map.1 hx
  exact h u (List.mem_of_mem_take hu)
/-- The world within GivenTwice. -/
def TwI (w : World) (l : List Use) (vL : Value) (k : Nat) (v : Value) (wr : World) : Prop :=
  wr.heap[w.heap.size]? = some (.cells #[.int .i64 0, .int .i64 0] 108 (0, 0)) ∧ wr.heap[w.heap.size + 1]? = some (.cells #[v] 100 (0, 0)) ∧ wr.ownsRow w.heap.size 56 1 v (seenL l k).length (icell (seenL l k)) ∧ wr.ownsRow w.heap.size 170 4 vL l.length (useCells l) ∧ Below w.heap.size w wr

set_option maxRecDepth 100000 in
set_option maxHeartbeats 1500000 in
theorem givenTwiceP (bs : List RBlk) (base : Nat) (v : Value) (w : World) (hP : PBs w base bs v) (hf : Hid (∀ b ∈ bs, BFine 1000000 b)) (hn : bs.length ≤ 1000) :
    Calls Tryz.prog 56 #[v] w fun x w' => ((∃ u, twF (gvU bs) = some u ∧ x = .returned (.tuple #[.agg #[.int .i64 u.n, .int .i64 u.p], .bool true])) ∨ (twF (gvU bs) = none ∧ x = .returned (.tuple #[.agg #[.int .i64 0, .int .i64 0], .bool false]))) ∧ Below w.heap.size w w' := by
  obtain ⟨pv, cv, rfl⟩ := hP.slice
  have HP := stop hP
  have HN : Hid (∀ u ∈ gvU bs, u.n < 10000) := fun u hu => gvU_n hf.out hu
  clear hP
  go_enter Tryz.func56, Tryz.ntmps56
  go_wp2_with fail
  obtain ⟨W, hW⟩ : ∃ W, W = (w.alloc (.cells #[.int .i64 0, .int .i64 0] 108)).alloc (.cells #[.slice none 0 0] 100) := ⟨_, rfl⟩
  rw [← hW]
  obtain ⟨g0, g1, hz, f2⟩ := two w (.cells #[.int .i64 0, .int .i64 0] 108) (.cells #[.slice none 0 0] 100)
  rw [← hW] at g0 g1 hz f2
  refine (givingsP bs base _ W (HP.out.keeps (Keeps.below f2)) hf hn).mono ?_
  rintro x w3 ⟨v3, rfl, H3⟩
  obtain ⟨p3, c3, rfl⟩ := owns_slice2 H3.out.1
  have hl := H3.out.2.1
  have B0 : Hid (TwI w (gvU bs) (.slice p3 (gvU bs).length c3) 0 (.slice none 0 0) w3) := ⟨by rw [H3.out.2.2.block _ (by omega)]; exact g0, by rw [H3.out.2.2.block _ (by omega)]; exact g1, by rw [seenL_zero]; exact World.ownsRow_nil _ _ _ _, owns_base H3.out.1 (by omega), f2.trans (H3.out.2.2.mono (by omega))⟩
  generalize hLL : gvU bs = L at *
  have HLE := stop hLL
  clear hLL hW g0 g1 hz f2 H3
  go_wp2_with fail
  go_loopw [10] (fun i wr => ∃ (k : Nat) (v : Value), k ≤ L.length ∧ i = .int .i64 k ∧ Hid (twF (L.take k) = none) ∧ Hid (TwI w L (.slice p3 L.length c3) k v wr)) (fun i _ => L.length - (intOf i).toNat)
  case atStart => exact ⟨0, _, by omega, rfl, rfl, B0⟩
  case round =>
    clear B0
    obtain ⟨k, v, hk, rfl, HT, HI⟩ := hrel
    rename World => wA
    have hzA := HI.out.2.2.2.2.size
    have hgA := lt_of_block HI.out.2.1
    by_cases hlt : k < L.length
    · obtain ⟨gl, rfl, _, _⟩ := owns_form HI.out.2.2.2.1 (by omega)
      obtain ⟨u0, u1, u2, u3⟩ := useCells_at hlt
      have c0 := owns_cell HI.out.2.2.2.1 u0
      have c1 := owns_cell HI.out.2.2.2.1 u1
      have c2 := owns_cell HI.out.2.2.2.1 u2
      have c3' := owns_cell HI.out.2.2.2.1 u3
      have gW := heap_alloc_last wA (.cells #[.int .i64 L[k].n, .int .i64 L[k].p, .int .i64 L[k].b, .int .i64 L[k].s] 170)
      have FW := (Below.refl wA.heap.size wA).alloc (Nat.le_refl _) (.cells #[.int .i64 L[k].n, .int .i64 L[k].p, .int .i64 L[k].b, .int .i64 L[k].s] 170)
      have HIW : Hid (TwI w L (.slice (some ⟨gl, 0, none⟩) L.length c3) k v (wA.alloc (.cells #[.int .i64 L[k].n, .int .i64 L[k].p, .int .i64 L[k].b, .int .i64 L[k].s] 170))) := by
        obtain ⟨a1, a2, a3, a4, a5⟩ := HI.out
        exact ⟨blk_alloc a1 _, blk_alloc a2 _, a3.alloc _, a4.alloc _, a5.alloc hzA _⟩
      have HSS := stop (seenL_sm HN.out k)
      have hsl := HSS.out.len
      have HS1 := stop HSS.out.1
      have HNX := stop (seenL_next hlt)
      have hzW : w.heap.size ≤ (wA.alloc (.cells #[.int .i64 L[k].n, .int .i64 L[k].p, .int .i64 L[k].b, .int .i64 L[k].s] 170)).heap.size := by rw [World.size_alloc]; omega
      clear u0 u1 u2 u3 HI FW
      go_wp2_with fail
      clear c0 c1 c2 c3'
      generalize wA.alloc (.cells #[.int .i64 L[k].n, .int .i64 L[k].p, .int .i64 L[k].b, .int .i64 L[k].s] 170) = W5 at *
      refine (addR (seenL L k) L[k].n HS1 (w.heap.size + 1) 0 w.heap.size #[v] 100 v W5 HIW.out.2.1 rfl HIW.out.2.2.1 (by omega) hzW (own_type HIW.out.2.2.1 HIW.out.2.1 (by decide))).mono ?_
      rintro e w6 ⟨bb, v6, rfl, H6⟩
      have KA := Ke.ad H6.out.2.2.2 HIW.out.2.2.1
      have g6 : w6.heap[wA.heap.size]? = some (.cells #[.int .i64 L[k].n, .int .i64 L[k].p, .int .i64 L[k].b, .int .i64 L[k].s] 170 (0, 0)) := KA _ _ _ (by omega) (by decide) gW
      have HI6 : Hid (TwI w L (.slice (some ⟨gl, 0, none⟩) L.length c3) (k + 1) v6 w6) := by
        obtain ⟨a1, a2, a3, a4, a5⟩ := HIW.out
        obtain ⟨_, j1, j2, j3⟩ := H6.out
        rw [HNX.out] at j2
        exact ⟨KA _ _ _ (by omega) (by decide) a1, j1, j2, KA.owns a4 (by decide) (own_type a4 a2 (by decide)), j3.below a5 (by omega) (fun k hk => (a3.lt k hk).1) hzW⟩
      have hbb := H6.out.1
      clear HIW H6 KA gW HNX
      cases bb with
      | true =>
        have hnm : L[k].n ∉ (L.take k).map (·.n) := fun h => by
          have : hasF (seenL L k) L[k].n = true := hasF_iff.2 (ofL_mem.2 h)
          rw [this] at hbb; cases hbb
        have HT2 := stop (twF_on hlt HT.out hnm)
        clear hbb hnm g6
        go_wp2_with fail
        go_roundw
        case rel => exact ⟨k + 1, v6, by omega, by go_num, HT2, HI6⟩
        case measure => simp [intOf]; omega
      | false =>
        have hm : L[k].n ∈ (L.take k).map (·.n) := by
          have : hasF (seenL L k) L[k].n = true := by cases h : hasF (seenL L k) L[k].n with
            | true => rfl
            | false => rw [h] at hbb; cases hbb
          exact ofL_mem.1 (hasF_iff.1 this)
        have HT2 := stop (twF_at hlt HT.out hm)
        have b0 := cell_of g6 0
        have b1 := cell_of g6 1
        have r0 := cell_of HI6.out.1 0
        have r1 := cell_of HI6.out.1 1
        have z0 := frozen_of HI6.out.1 0
        have z1 := frozen_of HI6.out.1 1
        simp at b0 b1 r0 r1
        clear hbb hm g6
        go_wp2_with fail
        have q1 := blk_set HI6.out.1 0 (.int .i64 L[k].n)
        have q2 := blk_set q1 1 (.int .i64 L[k].p)
        have k0 := cell_of q2 0
        have k1 := cell_of q2 1
        simp at k0 k1
        refine bodyPost_ret (v := .tuple #[.agg #[.int .i64 L[k].n, .int .i64 L[k].p], .bool true]) (by simp [results, Tryz.results56, go_sem, k0, k1]) rfl ⟨.inl ⟨L[k], by rw [HLE.out]; exact HT2.out, rfl⟩, below_set (below_set HI6.out.2.2.2.2 _ _ _ (Nat.le_refl _)) _ _ _ (Nat.le_refl _)⟩
    · have hke : k = L.length := by omega
      have HT2 : Hid (twF L = none) := by have := HT.out; rw [hke, List.take_length] at this; exact this
      have r0 := cell_of HI.out.1 0
      have r1 := cell_of HI.out.1 1
      have z0 := frozen_of HI.out.1 0
      have z1 := frozen_of HI.out.1 1
      simp at r0 r1
      clear hke HT
      go_wp2_with fail
      have q1 := blk_set HI.out.1 0 (.int .i64 0)
      have q2 := blk_set q1 1 (.int .i64 0)
      have k0 := cell_of q2 0
      have k1 := cell_of q2 1
      simp at k0 k1
      refine bodyPost_ret (v := .tuple #[.agg #[.int .i64 0, .int .i64 0], .bool false]) (by simp [results, Tryz.results56, go_sem, k0, k1]) rfl ⟨.inr ⟨by rw [HLE.out]; exact HT2.out, rfl⟩, below_set (below_set HI.out.2.2.2.2 _ _ _ (Nat.le_refl _)) _ _ _ (Nat.le_refl _)⟩

end Go.Proofs.YtgfhfkgdmidhpaaGreat
