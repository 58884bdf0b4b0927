import Derived.Test.YtgfhfkgdmidhpaaGreatDoorQG
import Derived.Test.YtgfhfkgdmidhpaaGreatDoorPF
import Derived.Deep.CutRange
namespace Go.Proofs.YtgfhfkgdmidhpaaGreatDoor
open Go.RowKit

theorem stVal_cp (t a : Nat × Nat) : stVal (cpR t a) = .iface 142 (.agg #[.int .i64 t.1, .int .i64 t.2, .int .i64 a.1, .int .i64 a.2]) := by
  unfold stVal cpR; rw [if_neg (by simp), if_pos rfl]

set_option maxRecDepth 100000 in
set_option maxHeartbeats 8000000 in
theorem PlainP (bs : List RBlk) (base : Nat) (v : Value) (w : World) (h : PBs w base bs v) (hn : bs.length ≤ 12) (hL : EnL bs) (hsl : ∀ b ∈ bs, b.sts.length ≤ 200000) (hgo : ∀ b ∈ bs, ∀ c ∈ b.chs, ∀ p ∈ c.gs, p.1 < bs.length) :
    Calls Tryz.prog 38 #[v, .int .i64 4999] w fun e w' => ∃ v', e = .returned v' ∧ Hid (PBs w' w.heap.size (plnR bs) v' ∧ Below w.heap.size w w') := by
  obtain ⟨pv, cv, rfl⟩ := h.slice
  obtain ⟨I9, Hi9, Hz9, Hs9, Hb9⟩ := info_parts Tryz.info100
  have HB := stop h
  have HL := stop hL
  have HSL := stop hsl
  have HGO := stop hgo
  clear h hL hsl hgo
  go_enter Tryz.func38, Tryz.ntmps38
  go_wp2_with (at_make; refine unstop ?_)
  refine stop ?_
  refine wpList_make_full _ rfl _ _ 137 rfl w.heap.size 100 I9 (.slice none 0 0) 1 Tryz.underlying137 Hi9 Hz9 Hs9 .i64 .i64 _ _ bs.length rfl rfl rfl rfl (by rw [Hb9]; omega) (by unfold maxLen; omega) (by simp) ?_
  intro w1 o1 g1
  rw [made_sl] at o1
  have hz1 := g1.size
  have F1 := stop (Below.grown (Below.refl _ _) g1 (Nat.le_refl _) (fun k hk => by cases hk) : Below w.heap.size w w1)
  go_wp2_with (at_make; refine unstop ?_)
  refine stop ?_
  refine wpList_make_full _ rfl _ _ 137 rfl w1.heap.size 100 I9 (.slice none 0 0) 1 Tryz.underlying137 Hi9 Hz9 Hs9 .i64 .i64 _ _ bs.length rfl rfl rfl rfl (by rw [Hb9]; omega) (by unfold maxLen; omega) (by simp) ?_
  intro w2 o2 g2
  rw [made_sl] at o2
  have F2 := stop (Below.grown (Below.refl _ _) g2 (Nat.le_refl _) (fun k hk => by cases hk) : Below w1.heap.size w1 w2)
  have S0 : Hid (PlS bs.length w w.heap.size w1.heap.size w2.heap.size 4999 (fun k => firR (enTo bs 0 0) k) (fun k => lasR (enTo bs 0 0) k) (w2.alloc (.cells #[.int .i64 4999, .int .i64 0] 132))) := by
    have hzz : w.heap.size < w1.heap.size := by
      obtain ⟨cur, hc⟩ := row_blk o1
      exact lt_of_block hc
    have o1' := owns_keeps o1 (Keeps.below (T := fun _ => True) F2.out) trivial
    have o2' := owns_base o2 hz1
    have fam : Fam w.heap.size w2 (gsF w.heap.size w1.heap.size) bs.length (ffF (fun k => firR (enTo bs 0 0) k) (fun k => lasR (enTo bs 0 0) k)) := by
      refine ⟨fun _ => List.replicate bs.length (.slice none 0 0), fun s => by cases s; exact o2'; exact o1', fun s k u hu => ?_, fun s t j k u u' hu _ _ => ?_, ?_⟩
      · obtain ⟨_, rfl⟩ := get_rep hu
        rw [enTo_zero]
        cases s <;> exact World.ownsRow_nil _ _ _ _
      · obtain ⟨_, rfl⟩ := get_rep hu
        exact .inl rfl
      · show w.heap.size ≠ w1.heap.size; omega
    have FA := (Below.refl w2.heap.size w2).alloc (Nat.le_refl _) (.cells #[.int .i64 4999, .int .i64 0] 132)
    have h12 := F2.out.size
    exact ⟨fam.keeps FA, heap_alloc_last _ _, by omega, (F1.out.trans (F2.out.mono hz1)).trans (FA.mono (by omega))⟩
  have hzz : w.heap.size < w1.heap.size := by
    obtain ⟨cur, hc⟩ := row_blk o1
    exact lt_of_block hc
  clear o1 g1 o2 g2 Hi9 Hz9 Hs9 Hb9 F1 F2
  go_wp2_with fail
  go_loopw [28] (fun ii wr => ∃ i : Nat, i ≤ bs.length ∧ ii = .int .i64 i ∧ Hid (PlS bs.length w w.heap.size w1.heap.size w2.heap.size (4999 + cnt bs i) (fun k => firR (enTo bs i 0) k) (fun k => lasR (enTo bs i 0) k) wr)) (fun ii _ => bs.length - (intOf ii).toNat)
  case atStart => exact ⟨0, by omega, rfl, S0⟩
  case round =>
    clear S0
    obtain ⟨i, hi, rfl, HS⟩ := hrel
    rename World => wA
    by_cases hlt : i < bs.length
    · obtain ⟨g, qc, cc, ps, cs1, rfl, _, hg, _, OC, OS, d0, d1, d2, d3⟩ := HB.out.at hlt
      have FA := HS.out.2.2.2
      have HOC := stop OC
      obtain ⟨TE, xe, eV⟩ : ∃ TE xe, endVal bs[i].e = .iface TE xe := by
        unfold endVal
        repeat' split
        all_goals exact ⟨_, _, rfl⟩
      rw [eV] at d3
      replace d0 := (FA.cell (p := ⟨g, i * 4, none⟩) hg).trans d0
      replace d1 := (FA.cell (p := ⟨g, i * 4 + 1, none⟩) hg).trans d1
      replace d2 := (FA.cell (p := ⟨g, i * 4 + 2, none⟩) hg).trans d2
      replace d3 := (FA.cell (p := ⟨g, i * 4 + 3, none⟩) hg).trans d3
      have S1 := stop (HS.out.keeps ((Below.refl wA.heap.size wA).alloc (Nat.le_refl _) (.cells #[.int .i64 bs[i].at_, .slice qc bs[i].chs.length cc, .slice ps bs[i].sts.length cs1, .iface TE xe] 104)))
      have hcl : bs[i].chs.length ≤ 5000 := by have := cnt_le HL.out hlt (Nat.le_refl _); omega
      clear OC OS eV FA HS
      go_wp2_with fail
      clear d0 d1 d2 d3
      generalize wA.alloc (.cells #[.int .i64 bs[i].at_, .slice qc bs[i].chs.length cc, .slice ps bs[i].sts.length cs1, .iface TE xe] 104) = W1 at *
      go_loopw [36] (fun jj wr => ∃ j : Nat, j ≤ bs[i].chs.length ∧ jj = .int .i64 j ∧ Hid (PlS bs.length w w.heap.size w1.heap.size w2.heap.size (4999 + cnt bs i + j) (fun k => firR (enTo bs i j) k) (fun k => lasR (enTo bs i j) k) wr)) (fun jj _ => bs[i].chs.length - (intOf jj).toNat)
      case atStart => exact ⟨0, by omega, rfl, S1⟩
      case round =>
        clear S1
        obtain ⟨j, hj, rfl, HS⟩ := hrel
        rename World => wB
        by_cases hjl : j < bs[i].chs.length
        · obtain ⟨gc, pu, cu, rfl, _, hgc, hgr, OU, c0, c1, c2⟩ := HOC.out.at hjl
          have FB := HS.out.2.2.2
          have HOU := stop OU
          have HGR := stop hgr
          replace c0 := (FB.cell (p := ⟨gc, j * 3, none⟩) hgc).trans c0
          replace c1 := (FB.cell (p := ⟨gc, j * 3 + 1, none⟩) hgc).trans c1
          replace c2 := (FB.cell (p := ⟨gc, j * 3 + 2, none⟩) hgc).trans c2
          have F3 := (Below.refl wB.heap.size wB).alloc (Nat.le_refl _) (.cells #[.int .i64 bs[i].chs[j].«to».1, .int .i64 bs[i].chs[j].«to».2, .slice pu bs[i].chs[j].gs.length cu] 140)
          have S2 := stop (HS.out.keeps F3)
          have g3 := stop (heap_alloc_last wB (.cells #[.int .i64 bs[i].chs[j].«to».1, .int .i64 bs[i].chs[j].«to».2, .slice pu bs[i].chs[j].gs.length cu] 140))
          have hspb : 4999 + cnt bs i + j ≤ 10000 := by have := cnt_le HL.out hlt (Nat.le_of_lt hjl); omega
          have k0 : (wB.alloc (.cells #[.int .i64 bs[i].chs[j].«to».1, .int .i64 bs[i].chs[j].«to».2, .slice pu bs[i].chs[j].gs.length cu] 140)).cell? ⟨w2.heap.size, 0, none⟩ = some (.int .i64 ((4999 + cnt bs i + j : Nat) : Int)) := by
            have := cell_of S2.out.2.1 0; simpa using this
          have k0f := frozen_of S2.out.2.1 0
          clear OU hgr FB F3 HS
          go_wp2_with fail
          have S3 : Hid (PlS bs.length w w.heap.size w1.heap.size w2.heap.size (4999 + cnt bs i + j + 1) (fun k => firR (enTo bs i j) k) (fun k => lasR (enTo bs i j) k) ((wB.alloc (.cells #[.int .i64 bs[i].chs[j].«to».1, .int .i64 bs[i].chs[j].«to».2, .slice pu bs[i].chs[j].gs.length cu] 140)).setCell ⟨w2.heap.size, 0, none⟩ (.int .i64 (4999 + (cnt bs i : Int) + (j : Int) + 1)))) := by
            have := S2.out.spare
            rwa [show (((4999 + cnt bs i + j : Nat) : Int) + 1) = (4999 + (cnt bs i : Int) + (j : Int) + 1) from by omega] at this
          have hwB : w2.heap.size < wB.heap.size + 1 := by have := lt_of_block S2.out.2.1; rwa [World.size_alloc] at this
          have hwBn : wB.heap.size ≠ w2.heap.size := fun e => by
            have h1 := S2.out.2.1
            rw [← e, g3.out] at h1
            simp at h1
          have g4 : Hid (((wB.alloc (.cells #[.int .i64 bs[i].chs[j].«to».1, .int .i64 bs[i].chs[j].«to».2, .slice pu bs[i].chs[j].gs.length cu] 140)).setCell ⟨w2.heap.size, 0, none⟩ (.int .i64 (4999 + (cnt bs i : Int) + (j : Int) + 1))).heap[wB.heap.size]? = some (.cells #[.int .i64 bs[i].chs[j].«to».1, .int .i64 bs[i].chs[j].«to».2, .slice pu bs[i].chs[j].gs.length cu] 140 (0, 0))) := by
            show _ = _
            rw [set_block hwBn]; exact g3.out
          clear S2 g3 c0 c1 c2 k0 k0f
          generalize (wB.alloc (.cells #[.int .i64 bs[i].chs[j].«to».1, .int .i64 bs[i].chs[j].«to».2, .slice pu bs[i].chs[j].gs.length cu] 140)).setCell ⟨w2.heap.size, 0, none⟩ (.int .i64 (4999 + (cnt bs i : Int) + (j : Int) + 1)) = W2 at *
          obtain ⟨sp, hsp⟩ : ∃ sp, sp = 4999 + cnt bs i + j + 1 := ⟨_, rfl⟩
          rw [← hsp] at S3
          have HSP := stop hsp
          have hsp1 : sp ≤ 10001 := by omega
          clear hsp hspb
          have x0 := cell_of S3.out.2.1 0
          have x1 := cell_of S3.out.2.1 1
          have y0 := cell_of g4.out 0
          have y1 := cell_of g4.out 1
          have y2 := cell_of g4.out 2
          simp at x0 x1 y0 y1 y2
          obtain ⟨u, hu, huf, ou, hgl, hgb⟩ := S3.out.1.at true hlt
          have hu : W2.cell? ⟨w.heap.size, i, none⟩ = some u := hu
          have ou : W2.ownsRow w.heap.size 150 1 u (firR (enTo bs i j) i).length ((firR (enTo bs i j) i).map stVal) := ou
          obtain ⟨pU, cU, rfl⟩ := owns_slice2 ou
          have hul : (firR (enTo bs i j) i).length ≤ 5000 := Nat.le_trans (firR_len _ _) (HL.out.at hlt j).1
          obtain ⟨cur, hcur⟩ : ∃ cur, W2.heap[w.heap.size]? = some (.cells cur 100 (0, 0)) := by
            obtain ⟨us, ao, _⟩ := S3.out.1
            exact row_blk (ao true)
          have hzW := S3.out.2.2.2.size
          have hgW := lt_of_block hcur
          have hxW := lt_of_block S3.out.2.1
          have hyW := lt_of_block g4.out
          have HOU2 := stop ou
          have HCU := stop (And.intro hcur hu)
          have OBd : Hid ((W2.alloc (.cells #[.iface 142 (.agg #[.int .i64 bs[i].chs[j].«to».1, .int .i64 bs[i].chs[j].«to».2, .int .i64 sp, .int .i64 0])] 150)).drew.ownsRow w.heap.size 150 1 (.slice pU (firR (enTo bs i j) i).length cU) (firR (enTo bs i j) i).length ((firR (enTo bs i j) i).map stVal)) := ou.alloc _
          have hzD : Hid ((W2.alloc (.cells #[.iface 142 (.agg #[.int .i64 bs[i].chs[j].«to».1, .int .i64 bs[i].chs[j].«to».2, .int .i64 sp, .int .i64 0])] 150)).drew.heap[W2.heap.size]? = some (.cells #[.iface 142 (.agg #[.int .i64 bs[i].chs[j].«to».1, .int .i64 bs[i].chs[j].«to».2, .int .i64 sp, .int .i64 0])] 150 (0, 0))) := heap_alloc_last W2 _
          have hsD : w.heap.size ≤ (W2.alloc (.cells #[.iface 142 (.agg #[.int .i64 bs[i].chs[j].«to».1, .int .i64 bs[i].chs[j].«to».2, .int .i64 sp, .int .i64 0])] 150)).drew.heap.size := by show _ ≤ (W2.alloc _).heap.size; rw [World.size_alloc]; omega
          clear ou hcur
          have HPUT : Hid (∀ (v7p : Option Addr) (v7c : Nat) (w7 : World), w7.ownsRow w.heap.size 150 1 (.slice v7p ((firR (enTo bs i j) i).length + 1) v7c) ((firR (enTo bs i j) i).length + 1) ((firR (enTo bs i j) i).map stVal ++ [.iface 142 (.agg #[.int .i64 bs[i].chs[j].«to».1, .int .i64 bs[i].chs[j].«to».2, .int .i64 sp, .int .i64 0])]) → (W2.alloc (.cells #[.iface 142 (.agg #[.int .i64 bs[i].chs[j].«to».1, .int .i64 bs[i].chs[j].«to».2, .int .i64 sp, .int .i64 0])] 150)).drew.grownBy w7 (Value.slice pU (firR (enTo bs i j) i).length cU).ownBlock → ((Value.slice v7p ((firR (enTo bs i j) i).length + 1) v7c).ownBlock = (Value.slice pU (firR (enTo bs i j) i).length cU).ownBlock ∨ (Value.slice v7p ((firR (enTo bs i j) i).length + 1) v7c).ownBlock = some (W2.alloc (.cells #[.iface 142 (.agg #[.int .i64 bs[i].chs[j].«to».1, .int .i64 bs[i].chs[j].«to».2, .int .i64 sp, .int .i64 0])] 150)).drew.heap.size) →
              (PlS bs.length w w.heap.size w1.heap.size w2.heap.size sp (fun k => firR (enTo bs i (j + 1)) k) (fun k => lasQ (enTo bs i j) sp 0 bs[i].chs[j] k) (w7.setCell ⟨w.heap.size, i, none⟩ (.slice v7p ((firR (enTo bs i j) i).length + 1) v7c)) ∧ (w7.setCell ⟨w.heap.size, i, none⟩ (.slice v7p ((firR (enTo bs i j) i).length + 1) v7c)).heap[wB.heap.size]? = some (.cells #[.int .i64 bs[i].chs[j].«to».1, .int .i64 bs[i].chs[j].«to».2, .slice pu bs[i].chs[j].gs.length cu] 140 (0, 0)))) := fun v7p v7c w7 oS gS nS => by
            have e5 : 5000 + cnt bs i + j = sp := by have := HSP.out; omega
            have hn1 := enTo_next hlt hjl
            rw [e5] at hn1
            obtain ⟨p1, C⟩ := S3.out.put (fF' := fun k => firR (enTo bs i (j + 1)) k) (fL' := fun k => lasQ (enTo bs i j) sp 0 bs[i].chs[j] k) true hlt (t := cpR bs[i].chs[j].«to» (sp, 0)) HCU.out.2 (by rw [stVal_cp]; exact oS) (grown_drew gS) nS (by show firR (enTo bs i (j + 1)) i = firR (enTo bs i j) i ++ _; rw [hn1, firR_snoc, if_pos rfl]) (fun s' k' hne => by
              cases s' with
              | false => exact lasQ_zero _ _ _ _
              | true => show firR (enTo bs i (j + 1)) k' = firR (enTo bs i j) k'; rw [hn1, firR_snoc, if_neg (fun e => hne (by rw [← e]))])
            refine ⟨p1, ?_⟩
            have := C.block wB.heap.size hyW (fun hp => ?_)
            · exact this.trans g4.out
            · rcases hp with hp | hp
              · have h1 := HCU.out.1
                have hp : wB.heap.size = w.heap.size := hp
                rw [← hp, g4.out] at h1
                simp at h1
              · exact own_type HOU2.out g4.out (by decide) hp.symm
          go_cut [] from 44 to 57 (fun wr => Hid (PlS bs.length w w.heap.size w1.heap.size w2.heap.size sp (fun k => firR (enTo bs i (j + 1)) k) (fun k => lasQ (enTo bs i j) sp 0 bs[i].chs[j] k) wr ∧ wr.heap[wB.heap.size]? = some (.cells #[.int .i64 bs[i].chs[j].«to».1, .int .i64 bs[i].chs[j].«to».2, .slice pu bs[i].chs[j].gs.length cu] 140 (0, 0))))
          case first =>
            go_region_law (first | (refine step1A Tryz.underlying100 Tryz.info150 rfl (by decide) (by decide) rfl _ _ rfl rfl OBd.out hzD.out rfl rfl (List.all_eq_true.1 rfl) (by omega) hsD ?_; intro v7 w7 oS gS nS; obtain ⟨v7p, v7c, rfl⟩ := owns_slice2 oS; have C7 := grown_ch (grown_drew gS); have a7 : w7.heap[w.heap.size]? = some (.cells cur 100 (0, 0)) := (by rw [C7.block _ (lt_of_block HCU.out.1) (fun e2 => own_type HOU2.out HCU.out.1 (by decide) e2.symm)]; exact HCU.out.1); have z2 : w7.cell? ⟨w.heap.size, i, none⟩ = some (.slice pU (firR (enTo bs i j) i).length cU) := (cell_of a7 i).trans ((cell_of HCU.out.1 i).symm.trans HCU.out.2); have z2f := frozen_of a7 i; have H7 := stop (And.intro oS (And.intro gS nS)); clear oS gS nS a7 C7))
            all_goals
              have R7 : Hid (PlS bs.length w w.heap.size w1.heap.size w2.heap.size sp (fun k => firR (enTo bs i (j + 1)) k) (fun k => lasQ (enTo bs i j) sp 0 bs[i].chs[j] k) (w7.setCell ⟨w.heap.size, i, none⟩ (.slice v7p ((firR (enTo bs i j) i).length + 1) v7c)) ∧ (w7.setCell ⟨w.heap.size, i, none⟩ (.slice v7p ((firR (enTo bs i j) i).length + 1) v7c)).heap[wB.heap.size]? = some (.cells #[.int .i64 bs[i].chs[j].«to».1, .int .i64 bs[i].chs[j].«to».2, .slice pu bs[i].chs[j].gs.length cu] 140 (0, 0))) := HPUT.out _ _ _ H7.out.1 H7.out.2.1 H7.out.2.2
              clear H7 z2 z2f
              go_wp2_with fail
              go_meet
              case rel => exact R7
          case rest =>
            clear OBd hzD hsD hu huf x0 x1 y0 y1 y2 HCU HOU2 S3 g4 HPUT hgW hxW hyW hzW hul hgl hgb
            have hsw := hcut.out.1.2.2.2.size
            have y2 := cell_of hcut.out.2 2
            simp at y2
            have H4 := stop hcut.out.1
            clear hcut
            go_wp2_with fail
            clear y2
            have hglen : bs[i].chs[j].gs.length ≤ 100000 := by
              have h1 := (HL.out.at hlt (j + 1)).2
              rw [enTo_next hlt hjl, gsN_app] at h1
              have h2 : gsN [(i, 5000 + cnt bs i + j, bs[i].chs[j])] = bs[i].chs[j].gs.length := by simp [gsN]
              omega
            go_loopw [61] (fun qq wr => ∃ q : Nat, q ≤ bs[i].chs[j].gs.length ∧ qq = .int .i64 q ∧ Hid (PlS bs.length w w.heap.size w1.heap.size w2.heap.size sp (fun k => firR (enTo bs i (j + 1)) k) (fun k => lasQ (enTo bs i j) sp q bs[i].chs[j] k) wr)) (fun qq _ => bs[i].chs[j].gs.length - (intOf qq).toNat)
            case atStart => exact ⟨0, by omega, rfl, H4⟩
            case round =>
              clear H4 hsw
              obtain ⟨q, hq, rfl, HS⟩ := hrel
              rename World => wC
              by_cases hql : q < bs[i].chs[j].gs.length
              · have hqr : q < bs[i].chs[j].rs.length := by have := HGR.out; omega
                have OU := owns_keeps HOU.out (Keeps.below (T := fun _ => True) HS.out.2.2.2) trivial
                obtain ⟨gu, rfl, _, _⟩ := owns_form OU (by omega)
                have f0 := owns_cell OU (srcCells_at HGR.out hql).1
                have f1 := owns_cell OU (srcCells_at HGR.out hql).2.1
                have f2 := owns_cell OU (srcCells_at HGR.out hql).2.2.1
                have f3 := owns_cell OU (srcCells_at HGR.out hql).2.2.2
                have hfb : bs[i].chs[j].gs[q].1 < bs.length := HGO.out _ (List.getElem_mem hlt) _ (List.getElem_mem hjl) _ (List.getElem_mem hql)
                have HQN := stop (fun f => lasQ_next hql hqr (enTo bs i j) sp f)
                generalize bs[i].chs[j].rs[q] = rr at *
                generalize bs[i].chs[j].gs[q] = gg at *
                have F5 := (Below.refl wC.heap.size wC).alloc (Nat.le_refl _) (.cells #[.int .i64 gg.1, .int .i64 gg.2, .int .i64 rr.1, .int .i64 rr.2] 147)
                have S5 := stop (HS.out.keeps F5)
                have g5 := stop (heap_alloc_last wC (.cells #[.int .i64 gg.1, .int .i64 gg.2, .int .i64 rr.1, .int .i64 rr.2] 147))
                clear OU F5 HS
                go_wp2_with fail
                clear f0 f1 f2 f3
                generalize wC.alloc (.cells #[.int .i64 gg.1, .int .i64 gg.2, .int .i64 rr.1, .int .i64 rr.2] 147) = W2 at *
                have x0 := cell_of S5.out.2.1 0
                have x1 := cell_of S5.out.2.1 1
                have y2 := cell_of g5.out 2
                have y3 := cell_of g5.out 3
                simp at x0 x1 y2 y3
                obtain ⟨u, hu, huf, ou, hgl, hgb⟩ := S5.out.1.at false hfb
                have hu : W2.cell? ⟨w1.heap.size, gg.1, none⟩ = some u := hu
                have ou : W2.ownsRow w.heap.size 150 1 u (lasQ (enTo bs i j) sp q bs[i].chs[j] gg.1).length ((lasQ (enTo bs i j) sp q bs[i].chs[j] gg.1).map stVal) := ou
                have hul : (lasQ (enTo bs i j) sp q bs[i].chs[j] gg.1).length ≤ 200000 := by
                  have h1 := lasQ_len (enTo bs i j) sp q bs[i].chs[j] gg.1
                  have h2 := (HL.out.at hlt j).2
                  omega
                have HPX : Hid (∀ k, lasQ (enTo bs i j) sp (q + 1) bs[i].chs[j] k = if gg.1 = k then lasQ (enTo bs i j) sp q bs[i].chs[j] k ++ [cpR (sp, 0) rr] else lasQ (enTo bs i j) sp q bs[i].chs[j] k) := fun k => HQN.out k
                obtain ⟨XL, hXL⟩ : ∃ XL, XL = lasQ (enTo bs i j) sp q bs[i].chs[j] gg.1 := ⟨_, rfl⟩
                rw [← hXL] at ou hul
                have HXL := stop hXL
                obtain ⟨pU, cU, rfl⟩ := owns_slice2 ou
                obtain ⟨cur, hcur⟩ : ∃ cur, W2.heap[w1.heap.size]? = some (.cells cur 100 (0, 0)) := by
                  obtain ⟨us, ao, _⟩ := S5.out.1
                  exact row_blk (ao false)
                have hzW := S5.out.2.2.2.size
                have hgW := lt_of_block hcur
                have hxW := lt_of_block S5.out.2.1
                have hyW := lt_of_block g5.out
                have HOU2 := stop ou
                have HCU := stop (And.intro hcur hu)
                have OBd : Hid ((W2.alloc (.cells #[.iface 142 (.agg #[.int .i64 sp, .int .i64 0, .int .i64 rr.1, .int .i64 rr.2])] 150)).drew.ownsRow w.heap.size 150 1 (.slice pU XL.length cU) XL.length (XL.map stVal)) := ou.alloc _
                have hzD : Hid ((W2.alloc (.cells #[.iface 142 (.agg #[.int .i64 sp, .int .i64 0, .int .i64 rr.1, .int .i64 rr.2])] 150)).drew.heap[W2.heap.size]? = some (.cells #[.iface 142 (.agg #[.int .i64 sp, .int .i64 0, .int .i64 rr.1, .int .i64 rr.2])] 150 (0, 0))) := heap_alloc_last W2 _
                have hsD : w.heap.size ≤ (W2.alloc (.cells #[.iface 142 (.agg #[.int .i64 sp, .int .i64 0, .int .i64 rr.1, .int .i64 rr.2])] 150)).drew.heap.size := by show _ ≤ (W2.alloc _).heap.size; rw [World.size_alloc]; omega
                have HPUT : Hid (∀ (v7p : Option Addr) (v7c : Nat) (w7 : World), w7.ownsRow w.heap.size 150 1 (.slice v7p (XL.length + 1) v7c) (XL.length + 1) (XL.map stVal ++ [.iface 142 (.agg #[.int .i64 sp, .int .i64 0, .int .i64 rr.1, .int .i64 rr.2])]) → (W2.alloc (.cells #[.iface 142 (.agg #[.int .i64 sp, .int .i64 0, .int .i64 rr.1, .int .i64 rr.2])] 150)).drew.grownBy w7 (Value.slice pU XL.length cU).ownBlock → ((Value.slice v7p (XL.length + 1) v7c).ownBlock = (Value.slice pU XL.length cU).ownBlock ∨ (Value.slice v7p (XL.length + 1) v7c).ownBlock = some (W2.alloc (.cells #[.iface 142 (.agg #[.int .i64 sp, .int .i64 0, .int .i64 rr.1, .int .i64 rr.2])] 150)).drew.heap.size) →
                    PlS bs.length w w.heap.size w1.heap.size w2.heap.size sp (fun k => firR (enTo bs i (j + 1)) k) (fun k => lasQ (enTo bs i j) sp (q + 1) bs[i].chs[j] k) (w7.setCell ⟨w1.heap.size, gg.1, none⟩ (.slice v7p (XL.length + 1) v7c))) := fun v7p v7c w7 oS gS nS => by
                  refine (S5.out.put (fF' := fun k => firR (enTo bs i (j + 1)) k) (fL' := fun k => lasQ (enTo bs i j) sp (q + 1) bs[i].chs[j] k) false hfb (t := cpR (sp, 0) rr) HCU.out.2 ?_ (grown_drew gS) nS ?_ ?_).1
                  · show w7.ownsRow w.heap.size 150 1 _ ((lasQ (enTo bs i j) sp q bs[i].chs[j] gg.1).length + 1) ((lasQ (enTo bs i j) sp q bs[i].chs[j] gg.1).map stVal ++ _)
                    rw [stVal_cp, ← HXL.out]; exact oS
                  · show lasQ (enTo bs i j) sp (q + 1) bs[i].chs[j] gg.1 = lasQ (enTo bs i j) sp q bs[i].chs[j] gg.1 ++ _
                    rw [HPX.out, if_pos rfl]
                  · intro s' k' hne
                    cases s' with
                    | true => rfl
                    | false =>
                      show lasQ (enTo bs i j) sp (q + 1) bs[i].chs[j] k' = lasQ (enTo bs i j) sp q bs[i].chs[j] k'
                      rw [HPX.out, if_neg (fun e => hne (by rw [← e]))]
                clear ou hcur hXL HQN HPX HXL
                go_region_law (first | (refine step1A Tryz.underlying100 Tryz.info150 rfl (by decide) (by decide) rfl _ _ rfl rfl OBd.out hzD.out rfl rfl (List.all_eq_true.1 rfl) (by omega) hsD ?_; intro v7 w7 oS gS nS; obtain ⟨v7p, v7c, rfl⟩ := owns_slice2 oS; have C7 := grown_ch (grown_drew gS); have a7 : w7.heap[w1.heap.size]? = some (.cells cur 100 (0, 0)) := (by rw [C7.block _ (lt_of_block HCU.out.1) (fun e2 => own_type HOU2.out HCU.out.1 (by decide) e2.symm)]; exact HCU.out.1); have z2 : w7.cell? ⟨w1.heap.size, gg.1, none⟩ = some (.slice pU XL.length cU) := (cell_of a7 gg.1).trans ((cell_of HCU.out.1 gg.1).symm.trans HCU.out.2); have z2f := frozen_of a7 gg.1; have H7 := stop (And.intro oS (And.intro gS nS)); clear oS gS nS a7 C7))
                all_goals
                  have R7 := stop (HPUT.out _ _ _ H7.out.1 H7.out.2.1 H7.out.2.2)
                  clear H7 z2 z2f
                  go_wp2_with fail
                  go_roundw
                  case rel => exact ⟨q + 1, by omega, by go_num, R7⟩
                  case measure => simp [intOf]; omega
              · have R8 : Hid (PlS bs.length w w.heap.size w1.heap.size w2.heap.size (4999 + cnt bs i + (j + 1)) (fun k => firR (enTo bs i (j + 1)) k) (fun k => lasR (enTo bs i (j + 1)) k) wC) := by
                  have e5 : 5000 + cnt bs i + j = sp := by have := HSP.out; omega
                  have e6 : 4999 + cnt bs i + (j + 1) = sp := by have := HSP.out; omega
                  have hn1 := enTo_next hlt hjl
                  rw [e5] at hn1
                  have e7 : (fun k => lasR (enTo bs i (j + 1)) k) = (fun k => lasQ (enTo bs i j) sp q bs[i].chs[j] k) := funext fun k => by
                    rw [hn1, lasQ_all (i := i) (by omega) HGR.out.symm]
                  show PlS _ _ _ _ _ _ _ _ _
                  rw [e6, e7]; exact HS.out
                clear HS
                go_wp2_with fail
                go_roundw
                case rel => exact ⟨j + 1, by omega, by go_num, R8⟩
                case measure => simp [intOf]; omega
        · have R9 : Hid (PlS bs.length w w.heap.size w1.heap.size w2.heap.size (4999 + cnt bs (i + 1)) (fun k => firR (enTo bs (i + 1) 0) k) (fun k => lasR (enTo bs (i + 1) 0) k) wB) := by
            have e6 : j = bs[i].chs.length := by omega
            show PlS _ _ _ _ _ _ _ _ _
            rw [cnt_next hlt, ← Nat.add_assoc, ← enTo_up hlt e6, ← e6]; exact HS.out
          clear HS
          go_wp2_with fail
          go_roundw
          case rel => exact ⟨i + 1, by omega, by go_num, R9⟩
          case measure => simp [intOf]; omega
    · have R10 : Hid (PlS bs.length w w.heap.size w1.heap.size w2.heap.size (4999 + cnt bs i) (fun k => firR (enRF 0 5000 bs) k) (fun k => lasR (enRF 0 5000 bs) k) wA) := by
        have e6 : i = bs.length := by omega
        have e7 : enTo bs i 0 = enRF 0 5000 bs := by rw [e6, enTo_all]
        show PlS _ _ _ _ _ _ _ _ _
        rw [← e7]; exact HS.out
      clear HS
      go_wp2_with (at_make; refine unstop ?_)
      refine stop ?_
      obtain ⟨I4, Hi4, Hz4, Hs4, Hb4⟩ := info_parts Tryz.info104
      refine wpList_make_full _ rfl _ _ 38 rfl wA.heap.size 104 I4 (.agg #[.int .i64 0, .slice none 0 0, .slice none 0 0, .nilIface]) 4 Tryz.underlying38 Hi4 Hz4 Hs4 .i64 .i64 _ _ bs.length rfl rfl rfl rfl (by rw [Hb4]; omega) (by unfold maxLen; omega) (by simp) ?_
      intro w3 o3 g3
      rw [made_blk] at o3
      have F3 := (Below.grown (Below.refl _ _) g3 (Nat.le_refl _) (fun k hk => by cases hk) : Below wA.heap.size wA w3)
      have hzA := R10.out.2.2.2.size
      have R11 := stop (R10.out.keeps F3)
      have M0 : Hid (Mde bs w.heap.size wA.heap.size 0 w3) := ⟨[], rfl, by rw [show (plnR bs).take 0 = [] from rfl, show bs.length - 0 = bs.length from rfl]; exact owns_base o3 hzA, trivial⟩
      have hwz : wA.heap.size < w3.heap.size := by
        obtain ⟨cur, hc⟩ := row_blk o3
        exact lt_of_block hc
      clear R10 g3 o3 Hi4 Hz4 Hs4 Hb4 F3
      go_wp2_with fail
      have hcn : bs.length ≤ 12 := hn
      go_loopw [90] (fun kk wr => ∃ k : Nat, k ≤ bs.length ∧ kk = .int .i64 k ∧ Hid (PlS bs.length w w.heap.size w1.heap.size w2.heap.size (4999 + cnt bs i) (fun k => firR (enRF 0 5000 bs) k) (fun k => lasR (enRF 0 5000 bs) k) wr ∧ Mde bs w.heap.size wA.heap.size k wr)) (fun kk _ => bs.length - (intOf kk).toNat)
      case atStart => exact ⟨0, by omega, rfl, R11.out, M0.out⟩
      case round =>
        clear R11 M0
        obtain ⟨k, hk, rfl, HS⟩ := hrel
        rename World => wB
        by_cases hlt2 : k < bs.length
        · obtain ⟨g, qc, cc, ps, cs1, rfl, _, hg, hopk, OC, OS, d0, d1, d2, d3⟩ := HB.out.at hlt2
          have FB := HS.out.1.2.2.2
          obtain ⟨TE, xe, eV⟩ : ∃ TE xe, endVal bs[k].e = .iface TE xe := by
            unfold endVal
            repeat' split
            all_goals exact ⟨_, _, rfl⟩
          have HEV := stop (And.intro eV hopk)
          rw [eV] at d3
          replace d0 := (FB.cell (p := ⟨g, k * 4, none⟩) hg).trans d0
          replace d1 := (FB.cell (p := ⟨g, k * 4 + 1, none⟩) hg).trans d1
          replace d2 := (FB.cell (p := ⟨g, k * 4 + 2, none⟩) hg).trans d2
          replace d3 := (FB.cell (p := ⟨g, k * 4 + 3, none⟩) hg).trans d3
          have F4 := (Below.refl wB.heap.size wB).alloc (Nat.le_refl _) (.cells #[.int .i64 bs[k].at_, .slice qc bs[k].chs.length cc, .slice ps bs[k].sts.length cs1, .iface TE xe] 104)
          have S4 : Hid (PlS bs.length w w.heap.size w1.heap.size w2.heap.size (4999 + cnt bs i) (fun k => firR (enRF 0 5000 bs) k) (fun k => lasR (enRF 0 5000 bs) k) (wB.alloc (.cells #[.int .i64 bs[k].at_, .slice qc bs[k].chs.length cc, .slice ps bs[k].sts.length cs1, .iface TE xe] 104)) ∧ Mde bs w.heap.size wA.heap.size k (wB.alloc (.cells #[.int .i64 bs[k].at_, .slice qc bs[k].chs.length cc, .slice ps bs[k].sts.length cs1, .iface TE xe] 104))) := ⟨HS.out.1.keeps F4, HS.out.2.keeps F4⟩
          have g4 := stop (heap_alloc_last wB (.cells #[.int .i64 bs[k].at_, .slice qc bs[k].chs.length cc, .slice ps bs[k].sts.length cs1, .iface TE xe] 104))
          have OSB := owns_keeps OS (Keeps.below (T := fun _ => True) (FB.trans (F4.mono FB.size))) trivial
          have hAB : wA.heap.size < wB.heap.size := by
            obtain ⟨vs, _, o, _⟩ := HS.out.2
            obtain ⟨c9, hc9⟩ := row_blk o
            exact lt_of_block hc9
          clear OC OS eV hopk F4 FB HS
          go_wp2_with fail
          clear d0 d1 d2 d3
          generalize wB.alloc (.cells #[.int .i64 bs[k].at_, .slice qc bs[k].chs.length cc, .slice ps bs[k].sts.length cs1, .iface TE xe] 104) = W3 at *
          obtain ⟨u, hu, huf, ou, hgl, hgb⟩ := S4.out.1.1.at true hlt2
          have hu : W3.cell? ⟨w.heap.size, k, none⟩ = some u := hu
          have ou : W3.ownsRow w.heap.size 150 1 u (firR (enRF 0 5000 bs) k).length ((firR (enRF 0 5000 bs) k).map stVal) := ou
          obtain ⟨u2, hu2, huf2, ou2, hgl2, hgb2⟩ := S4.out.1.1.at false hlt2
          have hu2 : W3.cell? ⟨w1.heap.size, k, none⟩ = some u2 := hu2
          have ou2 : W3.ownsRow w.heap.size 150 1 u2 (lasR (enRF 0 5000 bs) k).length ((lasR (enRF 0 5000 bs) k).map stVal) := ou2
          obtain ⟨pF, cF, rfl⟩ := owns_slice2 ou
          obtain ⟨pL, cL, rfl⟩ := owns_slice2 ou2
          have hgl : w.heap.size < W3.heap.size := hgl
          have hgl2 : w1.heap.size < W3.heap.size := hgl2
          have y2 := cell_of g4.out 2
          have y3 := cell_of g4.out 3
          simp at y2 y3
          have hyW := lt_of_block g4.out
          have hl1 : (firR (enRF 0 5000 bs) k).length ≤ 5000 := Nat.le_trans (firR_len _ _) HL.out.c
          have hl2 : (lasR (enRF 0 5000 bs) k).length ≤ 100000 := Nat.le_trans (lasR_len _ _) HL.out.r
          have hl3 : bs[k].sts.length ≤ 200000 := HSL.out _ (List.getElem_mem hlt2)
          have FD : Below W3.heap.size W3 (W3.alloc (.cells #[.slice pF (firR (enRF 0 5000 bs) k).length cF, .slice ps bs[k].sts.length cs1, .slice pL (lasR (enRF 0 5000 bs) k).length cL] 100)).drew := drewB ((Below.refl W3.heap.size W3).alloc (Nat.le_refl _) _)
          have HC : Hid (Calls Tryz.prog 66 #[.slice (some ⟨W3.heap.size, 0, none⟩) 3 3] (W3.alloc (.cells #[.slice pF (firR (enRF 0 5000 bs) k).length cF, .slice ps bs[k].sts.length cs1, .slice pL (lasR (enRF 0 5000 bs) k).length cL] 100)).drew fun e w' => ∃ v', e = .returned v' ∧ w'.ownsRow (W3.alloc (.cells #[.slice pF (firR (enRF 0 5000 bs) k).length cF, .slice ps bs[k].sts.length cs1, .slice pL (lasR (enRF 0 5000 bs) k).length cL] 100)).drew.heap.size 150 1 v' (firR (enRF 0 5000 bs) k ++ bs[k].sts ++ lasR (enRF 0 5000 bs) k).length ((firR (enRF 0 5000 bs) k ++ bs[k].sts ++ lasR (enRF 0 5000 bs) k).map stVal) ∧ Below (W3.alloc (.cells #[.slice pF (firR (enRF 0 5000 bs) k).length cF, .slice ps bs[k].sts.length cs1, .slice pL (lasR (enRF 0 5000 bs) k).length cL] 100)).drew.heap.size (W3.alloc (.cells #[.slice pF (firR (enRF 0 5000 bs) k).length cF, .slice ps bs[k].sts.length cs1, .slice pL (lasR (enRF 0 5000 bs) k).length cL] 100)).drew w') := concatSt _ _ _ w.heap.size base w.heap.size _ _ _ _ (owns_keeps ou (Keeps.below (T := fun _ => True) FD) trivial) (owns_keeps OSB (Keeps.below (T := fun _ => True) FD) trivial) (owns_keeps ou2 (Keeps.below (T := fun _ => True) FD) trivial) (by omega) (by omega) (by omega) W3.heap.size 3 (heap_alloc_last W3 _)
          have HM : Hid (∀ w6, Below W3.heap.size W3 w6 → ∀ j, j < 4 → ∃ u, w6.cell? ⟨wA.heap.size, k * 4 + j, none⟩ = some u) := fun w6 f6 => (S4.out.2.keeps f6).cell hlt2
          obtain ⟨cur, hcur⟩ : ∃ cur, W3.heap[wA.heap.size]? = some (.cells cur 104 (0, 0)) := by
            obtain ⟨vs, _, o, _⟩ := S4.out.2
            exact row_blk o
          have hn1 : w.heap.size ≠ wA.heap.size := fun e => by
            obtain ⟨us, ao, _⟩ := S4.out.1.1
            obtain ⟨c9, hc9⟩ := row_blk (ao true)
            have hc9 : W3.heap[w.heap.size]? = _ := hc9
            rw [e, hcur] at hc9
            simp at hc9
          have hn2 : w1.heap.size ≠ wA.heap.size := fun e => by
            obtain ⟨us, ao, _⟩ := S4.out.1.1
            obtain ⟨c9, hc9⟩ := row_blk (ao false)
            have hc9 : W3.heap[w1.heap.size]? = _ := hc9
            rw [e, hcur] at hc9
            simp at hc9
          have hn3 : wB.heap.size ≠ wA.heap.size := by omega
          have HCU := stop hcur
          have HFD := stop FD
          have ha1 := (FD.cell (p := ⟨w.heap.size, k, none⟩) hgl).trans hu
          have ha2 := (FD.cell (p := ⟨w1.heap.size, k, none⟩) hgl2).trans hu2
          have ha3 := (FD.cell (p := ⟨wB.heap.size, 2, none⟩) hyW).trans y2
          have ha4 := (FD.cell (p := ⟨wB.heap.size, 3, none⟩) hyW).trans y3
          clear ou ou2 OSB FD hcur
          go_region_held (fun w' => w'.cell? ⟨w.heap.size, k, none⟩ = some (.slice pF (firR (enRF 0 5000 bs) k).length cF) ∧ w'.cell? ⟨w1.heap.size, k, none⟩ = some (.slice pL (lasR (enRF 0 5000 bs) k).length cL) ∧ w'.cell? ⟨wB.heap.size, 2, none⟩ = some (.slice ps bs[k].sts.length cs1) ∧ w'.cell? ⟨wB.heap.size, 3, none⟩ = some (.iface TE xe)) (first | simp [*] | exact ⟨(set4 hn1).trans (by assumption), (set4 hn2).trans (by assumption), (set4 hn3).trans (by assumption), (set4 hn3).trans (by assumption)⟩)
            (first | (go_at_call 66; refine HC.out.mono ?_; rintro e w6 ⟨v6, rfl, o6, f6⟩; obtain ⟨p6, c6, rfl⟩ := owns_slice2 o6; have f6' : Below W3.heap.size W3 w6 := HFD.out.trans (f6.mono HFD.out.size); obtain ⟨q0, m0⟩ := HM.out w6 f6' 0 (by omega); obtain ⟨q1, m1⟩ := HM.out w6 f6' 1 (by omega); obtain ⟨q2, m2⟩ := HM.out w6 f6' 2 (by omega); obtain ⟨q3, m3⟩ := HM.out w6 f6' 3 (by omega); have a6 : w6.heap[wA.heap.size]? = some (.cells cur 104 (0, 0)) := (by rw [f6'.block _ (lt_of_block HCU.out)]; exact HCU.out); have n0 := frozen_of a6 (k * 4); have n1 := frozen_of a6 (k * 4 + 1); have n2 := frozen_of a6 (k * 4 + 2); have n3 := frozen_of a6 (k * 4 + 3); have e3 := (f6'.cell (p := ⟨wB.heap.size, 3, none⟩) hyW).trans y3; have e2 := (f6'.cell (p := ⟨wB.heap.size, 2, none⟩) hyW).trans y2; have e1 := (f6'.cell (p := ⟨w.heap.size, k, none⟩) hgl).trans hu; have e0 := (f6'.cell (p := ⟨w1.heap.size, k, none⟩) hgl2).trans hu2; have H6 := stop (And.intro o6 f6'); simp only [Nat.add_zero] at m0; clear o6 f6 f6' a6))
          all_goals
            have R12 : Hid (PlS bs.length w w.heap.size w1.heap.size w2.heap.size (4999 + cnt bs i) (fun k => firR (enRF 0 5000 bs) k) (fun k => lasR (enRF 0 5000 bs) k) (set4W w6 wA.heap.size k (.int .i64 0) (.slice none 0 0) (.slice p6 ((firR (enRF 0 5000 bs) k).length + (bs[k].sts.length + (lasR (enRF 0 5000 bs) k).length)) c6) (.iface TE xe)) ∧ Mde bs w.heap.size wA.heap.size (k + 1) (set4W w6 wA.heap.size k (.int .i64 0) (.slice none 0 0) (.slice p6 ((firR (enRF 0 5000 bs) k).length + (bs[k].sts.length + (lasR (enRF 0 5000 bs) k).length)) c6) (.iface TE xe))) := by
              have el : (firR (enRF 0 5000 bs) k ++ bs[k].sts ++ lasR (enRF 0 5000 bs) k).length = (firR (enRF 0 5000 bs) k).length + (bs[k].sts.length + (lasR (enRF 0 5000 bs) k).length) := by rw [List.length_append, List.length_append, Nat.add_assoc]
              have o9 := H6.out.1
              have hB : w.heap.size ≤ (W3.alloc (.cells #[.slice pF (firR (enRF 0 5000 bs) k).length cF, .slice ps bs[k].sts.length cs1, .slice pL (lasR (enRF 0 5000 bs) k).length cL] 100)).drew.heap.size := by show _ ≤ (W3.alloc _).heap.size; rw [World.size_alloc]; omega
              have a6 : w6.heap[wA.heap.size]? = some (.cells cur 104 (0, 0)) := by rw [H6.out.2.block _ (lt_of_block HCU.out)]; exact HCU.out
              refine ⟨(S4.out.1.keeps H6.out.2).made a6 hzA, (S4.out.2.keeps H6.out.2).put hlt2 hB ?_ HEV.out.1 HEV.out.2⟩
              rw [el] at o9 ⊢
              exact o9
            clear H6 m0 m1 m2 m3 n0 n1 n2 n3 e0 e1 e2 e3
            go_wp2_with fail
            go_roundw
            case rel => exact ⟨k + 1, by omega, by go_num, R12⟩
            case measure => simp [intOf]; omega
        · have R13 : Hid (PBs wB w.heap.size (plnR bs) (.slice (some ⟨wA.heap.size, 0, none⟩) bs.length bs.length) ∧ Below w.heap.size w wB) := by
            obtain rfl : k = bs.length := by omega
            exact ⟨HS.out.2.all, HS.out.1.2.2.2⟩
          clear HS
          go_wp2_with fail
          go_ret
          exact ⟨_, rfl, R13.out⟩

end Go.Proofs.YtgfhfkgdmidhpaaGreatDoor
