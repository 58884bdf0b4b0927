import Derived.Test.YtgfhfkgdmidhpaaGreatDoorPD
import Derived.Test.YtgfhfkgdmidhpaaGreatDoorPY
import Derived.Test.YtgfhfkgdmidhpaaGreatDoorG05
namespace Go.Proofs.YtgfhfkgdmidhpaaGreatDoor
open Go.RowKit

theorem srcF_next {l : List (Nat × Nat)} {t : Nat} (ht : t < l.length) (frm : Nat) (r : Nat → Int) : srcF (l.take (t + 1)) frm r = if l[t].1 = frm then r l[t].2 else srcF (l.take t) frm r := by
  rw [srcF, List.take_succ_eq_append_getElem ht, List.foldl_append]; rfl
def chV (chs : List RCho) (frm : Nat) (r : Nat → Int) : List Int := chs.map fun c => srcF (absC c).src frm r
theorem chV_next {chs : List RCho} {k : Nat} (hk : k < chs.length) (frm r) : (chV chs frm r).take (k + 1) = (chV chs frm r).take k ++ [srcF (absC chs[k]).src frm r] := by
  rw [List.take_succ_eq_append_getElem (by rw [chV, List.length_map]; exact hk)]; simp [chV]
theorem chV_len (chs frm r) : (chV chs frm r).length = chs.length := List.length_map ..
theorem setsA_next (l : List (Nat × Int)) {k : Nat} (hk : k < l.length) (r) : setsA (l.take (k + 1)) r = upd (setsA (l.take k) r) l[k].1 l[k].2 := by
  rw [setsA, List.take_succ_eq_append_getElem hk, List.foldl_append]; rfl
/-- The choices' settings, as far as k. -/
def chTk (chs : List RCho) (frm k : Nat) (r : Nat → Int) : Nat → Int := setsA (((chs.map absC).map fun c => (c.to, srcF c.src frm r)).take k) r
theorem chTk_next {chs : List RCho} {k : Nat} (hk : k < chs.length) (frm r) : chTk chs frm (k + 1) r = upd (chTk chs frm k r) chs[k].to.1 ((chV chs frm r)[k]'(by rw [chV_len]; exact hk)) := by
  rw [chTk, setsA_next _ (by simpa using hk)]; simp [chV, chTk, absC]
theorem chTk_all (chs : List RCho) (frm r) : chTk chs frm chs.length r = chA (chs.map absC) frm r := by
  rw [chTk, List.take_of_length_le (by simp)]; rfl

set_option maxRecDepth 100000 in
set_option maxHeartbeats 2000000 in
theorem chooseR (base0 g q frm : Nat) (b : RBlk) (vc vs : Value) (m : Mac) (w0 w : World) (h : MacE w0.heap.size g q m w) (F0 : Below w0.heap.size w0 w) (hC : ChsOwn w0 base0 b.chs vc) (hvs : ∃ p n c, vs = .slice p n c) (hf : BFine 1000000 b) (hg2 : ∀ c ∈ b.chs, c.gs.length ≤ 1000) (hq : q ≤ 100000000) :
    Calls Tryz.prog 58 #[.pointer (some ⟨g, 0, none⟩), .agg #[vc, vs, .int .u8 b.e.op, .int .i64 b.e.a.1, .int .i64 b.e.a.2, .int .i64 b.e.one.1, .int .i64 b.e.one.2, .int .i64 b.e.two.1, .int .i64 b.e.two.2, .int .i64 b.at_], .int .i64 frm] w fun x w' => x = .returned (.tuple #[]) ∧ Hid (MacE w0.heap.size g (q + b.chs.length) { m with r := chA (b.chs.map absC) frm m.r } w' ∧ Kg g w w' ∧ Below w0.heap.size w w') := by
  obtain ⟨pc0, cc0, rfl⟩ : ∃ p c, vc = .slice p b.chs.length c := hC.slice
  obtain ⟨ps, ns0, cs, rfl⟩ := hvs
  have HM := stop h
  have HC := stop hC
  have HF0 := stop F0
  have h0w := F0.size
  have hcl := hf.cl
  have HF := stop hf
  have HG2 := stop hg2
  clear h F0 hC hf hg2
  have B0 : Hid ((w.alloc (.cells #[.slice pc0 b.chs.length cc0, .slice ps ns0 cs, .int .u8 b.e.op, .int .i64 b.e.a.1, .int .i64 b.e.a.2, .int .i64 b.e.one.1, .int .i64 b.e.one.2, .int .i64 b.e.two.1, .int .i64 b.e.two.2, .int .i64 b.at_] 53)).heap[w.heap.size]? = some (.cells #[.slice pc0 b.chs.length cc0, .slice ps ns0 cs, .int .u8 b.e.op, .int .i64 b.e.a.1, .int .i64 b.e.a.2, .int .i64 b.e.one.1, .int .i64 b.e.one.2, .int .i64 b.e.two.1, .int .i64 b.e.two.2, .int .i64 b.at_] 53 (0, 0)) ∧ Below w.heap.size w (w.alloc (.cells #[.slice pc0 b.chs.length cc0, .slice ps ns0 cs, .int .u8 b.e.op, .int .i64 b.e.a.1, .int .i64 b.e.a.2, .int .i64 b.e.one.1, .int .i64 b.e.one.2, .int .i64 b.e.two.1, .int .i64 b.e.two.2, .int .i64 b.at_] 53))) := ⟨heap_alloc_last _ _, (Below.refl _ _).alloc (Nat.le_refl _) _⟩
  go_enter Tryz.func58, Tryz.ntmps58
  go_wp2_with fail
  have hb0 : Hid ((#[.slice pc0 b.chs.length cc0, .slice ps ns0 cs, .int .u8 b.e.op, .int .i64 b.e.a.1, .int .i64 b.e.a.2, .int .i64 b.e.one.1, .int .i64 b.e.one.2, .int .i64 b.e.two.1, .int .i64 b.e.two.2, .int .i64 b.at_] : Array Value)[0]? = some (.slice pc0 b.chs.length cc0)) := rfl
  generalize (#[.slice pc0 b.chs.length cc0, .slice ps ns0 cs, .int .u8 b.e.op, .int .i64 b.e.a.1, .int .i64 b.e.a.2, .int .i64 b.e.one.1, .int .i64 b.e.one.2, .int .i64 b.e.two.1, .int .i64 b.e.two.2, .int .i64 b.at_] : Array Value) = BX at *
  go_loopw [6, 7] (fun v i wr => ∃ (k : Nat) (V : List Int), k ≤ b.chs.length ∧ i = .int .i64 k ∧ V.length = k ∧ Hid (V = (chV b.chs frm m.r).take k) ∧ wr.ownsRow w.heap.size 3 1 v V.length (zcell V) ∧ Hid (wr.heap[w.heap.size]? = some (.cells BX 53 (0, 0)) ∧ Below w.heap.size w wr)) (fun _ i _ => b.chs.length - (intOf i).toNat)
  case atStart => exact ⟨0, [], by omega, rfl, rfl, rfl, World.ownsRow_nil _ _ _ _, B0⟩
  case round =>
    clear B0
    obtain ⟨k, V, hk, rfl, hvk, HV, OV, HI⟩ := hrel
    rename World => wA
    obtain ⟨pV, cV, rfl⟩ := owns_slice2 OV
    have HOV := stop OV
    have hzA := HI.out.2.size
    have hgA := lt_of_block HI.out.1
    have k0 : wA.cell? ⟨w.heap.size, 0, none⟩ = some (.slice pc0 b.chs.length cc0) := (cell_of HI.out.1 0).trans hb0.out
    have HK := stop hvk
    have hV1 : V.length ≤ 1000000 := by omega
    clear OV hvk
    by_cases hlt : k < b.chs.length
    · obtain ⟨gc, pf, cf, pr, cr, rfl, _, hgc, OF, OR, e0, e1, e2, e3⟩ := HC.out.at hlt
      have FA := stop (HF0.out.trans (HI.out.2.mono h0w))
      replace e0 := (FA.out.cell (p := ⟨gc, k * 4, none⟩) hgc).trans e0
      replace e1 := (FA.out.cell (p := ⟨gc, k * 4 + 1, none⟩) hgc).trans e1
      replace e2 := (FA.out.cell (p := ⟨gc, k * 4 + 2, none⟩) hgc).trans e2
      replace e3 := (FA.out.cell (p := ⟨gc, k * 4 + 3, none⟩) hgc).trans e3
      have HCH := stop (HF.out.ch _ (List.getElem_mem hlt))
      have hgl := HG2.out _ (List.getElem_mem hlt)
      have HOF := stop (And.intro OF OR)
      have gW := heap_alloc_last wA (.cells #[.int .i64 b.chs[k].to.1, .int .i64 b.chs[k].to.2, .slice pf b.chs[k].gs.length cf, .slice pr b.chs[k].rs.length cr] 64)
      have FW := (Below.refl wA.heap.size wA).alloc (Nat.le_refl _) (.cells #[.int .i64 b.chs[k].to.1, .int .i64 b.chs[k].to.2, .slice pf b.chs[k].gs.length cf, .slice pr b.chs[k].rs.length cr] 64)
      have sW : wA.heap.size < (wA.alloc (.cells #[.int .i64 b.chs[k].to.1, .int .i64 b.chs[k].to.2, .slice pf b.chs[k].gs.length cf, .slice pr b.chs[k].rs.length cr] 64)).heap.size := by rw [World.size_alloc]; omega
      have HW := stop (And.intro gW (And.intro FW (HOV.out.alloc (.cells #[.int .i64 b.chs[k].to.1, .int .i64 b.chs[k].to.2, .slice pf b.chs[k].gs.length cf, .slice pr b.chs[k].rs.length cr] 64))))
      clear OF OR gW FW
      go_wp2_with fail
      clear e0 e1 e2 e3 k0
      generalize wA.alloc (.cells #[.int .i64 b.chs[k].to.1, .int .i64 b.chs[k].to.2, .slice pf b.chs[k].gs.length cf, .slice pr b.chs[k].rs.length cr] 64) = W at *
      have zW := HW.out.2.1.size
      go_loopw [9, 10] (fun n i wr => ∃ (t : Nat) (y : Int), t ≤ b.chs[k].gs.length ∧ i = .int .i64 t ∧ n = .int .i64 y ∧ Hid (y = srcF ((absC b.chs[k]).src.take t) frm m.r) ∧ Hid (Below W.heap.size W wr)) (fun _ i _ => b.chs[k].gs.length - (intOf i).toNat)
      case atStart => exact ⟨0, 0, by omega, rfl, rfl, rfl, Below.refl _ _⟩
      case round =>
        obtain ⟨t, y, ht, rfl, rfl, HY, F2⟩ := hrel
        rename World => wB
        have z2 := F2.out.size
        have gB : wB.heap[wA.heap.size]? = some (.cells #[.int .i64 b.chs[k].to.1, .int .i64 b.chs[k].to.2, .slice pf b.chs[k].gs.length cf, .slice pr b.chs[k].rs.length cr] 64 (0, 0)) := by rw [F2.out.block _ (by omega)]; exact HW.out.1
        have b2 := cell_of gB 2
        have b3 := cell_of gB 3
        simp at b2 b3
        clear gB
        have FB := stop (FA.out.trans ((HW.out.2.1.trans (F2.out.mono zW)).mono (by have := FA.out.size; omega)))
        by_cases htl : t < b.chs[k].gs.length
        · have htr : t < b.chs[k].rs.length := by have := HCH.out.2.1; omega
          have OFB := owns_keeps HOF.out.1 (Keeps.below (T := fun _ => True) FB.out) trivial
          have ORB := owns_keeps HOF.out.2 (Keeps.below (T := fun _ => True) FB.out) trivial
          obtain ⟨gf, rfl, _, _⟩ := owns_form OFB (by omega)
          obtain ⟨gr, rfl, _, _⟩ := owns_form ORB (by omega)
          have f0 := owns_cell OFB (pcs_at htl).1
          have r0 := owns_cell ORB (pcs_at htr).1
          have hsl : t < (absC b.chs[k]).src.length := by simp [absC]; omega
          have hse : (absC b.chs[k]).src[t] = (b.chs[k].gs[t].1, b.chs[k].rs[t].1) := by simp [absC]
          have HNX := stop (srcF_next hsl frm m.r)
          have HSE := stop hse
          clear OFB ORB hse
          by_cases he : b.chs[k].gs[t].1 = frm
          · have HN2 : Hid (m.r b.chs[k].rs[t].1 = srcF ((absC b.chs[k]).src.take (t + 1)) frm m.r) := by show _ = _; rw [HNX.out, HSE.out, if_pos he]
            have hd : ((b.chs[k].gs[t].1 : Int) == (frm : Int)) = true := by simp; omega
            clear he HNX HSE
            go_wp2_with fail
            refine (getE w0.heap.size g b.chs[k].rs[t].1 q m wB (HM.out.keeps ((HI.out.2.trans ((HW.out.2.1.trans (F2.out.mono zW)).mono hzA)))) (by omega)).mono ?_
            rintro e w5 ⟨rfl, f5⟩
            have F5 := stop (F2.out.trans (f5.mono z2))
            clear f5
            go_wp2_with fail
            go_roundw
            case rel => exact ⟨t + 1, _, by omega, by go_num, rfl, HN2, F5⟩
            case measure => simp [intOf]; omega
          · have HN2 : Hid (y = srcF ((absC b.chs[k]).src.take (t + 1)) frm m.r) := by show _ = _; rw [HNX.out, HSE.out, if_neg he]; exact HY.out
            have hd : ((b.chs[k].gs[t].1 : Int) == (frm : Int)) = false := by simp; omega
            clear he HNX HSE
            go_wp2_with fail
            go_roundw
            case rel => exact ⟨t + 1, _, by omega, by go_num, rfl, HN2, F2⟩
            case measure => simp [intOf]; omega
        · have hte : t = b.chs[k].gs.length := by omega
          have HYE : Hid (V ++ [y] = (chV b.chs frm m.r).take (k + 1)) := by
            show _ = _
            rw [chV_next hlt, ← HV.out, HY.out, List.take_of_length_le (by simp [absC]; omega)]
          clear hte HY
          go_wp2_with (at_builtin; refine unstop ?_)
          refine stop ?_
          have OVB := owns_keeps HW.out.2.2 (Keeps.below (T := fun _ => True) F2.out) trivial
          have gB := heap_alloc_last wB (.cells #[.int .i64 y] 3)
          have OB := OVB.alloc (.cells #[.int .i64 y] 3)
          refine app1A Tryz.underlying22 Tryz.info3 rfl (by decide) (by decide) rfl _ _ rfl rfl OB gB rfl rfl (List.all_eq_true.1 rfl) (by omega) (by simp; omega) ?_
          intro v6 w6 oS gS nS
          obtain ⟨v6p, v6c, rfl⟩ := owns_slice2 oS
          have C6 := grown_ch gS
          have R6 : Hid (w6.ownsRow w.heap.size 3 1 (.slice v6p (V.length + 1) v6c) (V ++ [y]).length (zcell (V ++ [y])) ∧ w6.heap[w.heap.size]? = some (.cells BX 53 (0, 0)) ∧ Below w.heap.size w w6) := by
            refine ⟨by rw [zcell_app, List.length_append]; exact oS, ?_, ?_⟩
            · have hbB : wB.heap[w.heap.size]? = some (.cells BX 53 (0, 0)) := by rw [F2.out.block _ (by omega), HW.out.2.1.block _ hgA]; exact HI.out.1
              rw [C6.block _ (by omega) (fun e2 => own_type OVB hbB (by decide) e2.symm)]; exact hbB
            · exact (HI.out.2.trans ((HW.out.2.1.trans (F2.out.mono zW)).mono hzA)).trans (C6.toBelow (by omega) (fun k hk => (OVB.lt k hk.symm).1))
          clear oS gS nS gB OB OVB C6 b2 b3
          go_wp2_with fail
          go_roundw
          case rel => exact ⟨k + 1, V ++ [y], by omega, by go_num, by rw [List.length_append, List.length_singleton, HK.out], HYE, R6.out.1, R6.out.2⟩
          case measure => simp [intOf]; omega
    · have hke : k = b.chs.length := by omega
      have HVE : Hid (V = chV b.chs frm m.r) := by show _ = _; rw [HV.out, hke, List.take_of_length_le (by rw [chV_len]; omega)]
      have hVl : V.length = b.chs.length := by have := HK.out; omega
      have HVL := stop hVl
      obtain ⟨ns, hs, vN, vH, vI, vO, hM, hnq⟩ := HM.out
      have ap : Apart (.slice pV V.length cV) vN ∧ Apart (.slice pV V.length cV) vH := ⟨fun j hj hj2 => by have := (HOV.out.lt j hj2).1; have := (hM.1.2.1.1.lt j hj).2; omega, fun j hj hj2 => by have := (HOV.out.lt j hj2).1; have := (hM.1.2.1.2.1.lt j hj).2; omega⟩
      have B2 : Hid (MacI w0.heap.size g ns hs vN vH vI vO { m with r := chTk b.chs frm 0 m.r } wA ∧ wA.heap[w.heap.size]? = some (.cells BX 53 (0, 0)) ∧ wA.ownsRow w.heap.size 3 1 (.slice pV V.length cV) V.length (zcell V) ∧ Apart (.slice pV V.length cV) vN ∧ Apart (.slice pV V.length cV) vH ∧ Kg g w wA ∧ Below w0.heap.size w wA) := ⟨hM.keeps HI.out.2, HI.out.1, HOV.out, ap.1, ap.2, Kg.below HI.out.2, HI.out.2.mono h0w⟩
      have hgw : g < w.heap.size := lt_of_block hM.1.1.1
      clear hM ap hke HV HK HOV HI hVl
      go_wp2_with fail
      clear k0
      go_loopw [11] (fun i wr => ∃ (j : Nat) (ns : List Nat) (hs : List Int) (vN vH vI vO : Value), j ≤ b.chs.length ∧ i = .int .i64 j ∧ ns.length ≤ q + j ∧ Hid (MacI w0.heap.size g ns hs vN vH vI vO { m with r := chTk b.chs frm j m.r } wr ∧ wr.heap[w.heap.size]? = some (.cells BX 53 (0, 0)) ∧ wr.ownsRow w.heap.size 3 1 (.slice pV V.length cV) V.length (zcell V) ∧ Apart (.slice pV V.length cV) vN ∧ Apart (.slice pV V.length cV) vH ∧ Kg g w wr ∧ Below w0.heap.size w wr)) (fun i _ => b.chs.length - (intOf i).toNat)
      case atStart => exact ⟨0, ns, hs, vN, vH, vI, vO, by omega, rfl, by omega, B2⟩
      case round =>
        clear B2
        obtain ⟨j, ns, hs, vN, vH, vI, vO, hj, rfl, hnj, H2⟩ := hrel
        rename World => wB
        have b0 : wB.cell? ⟨w.heap.size, 0, none⟩ = some (.slice pc0 b.chs.length cc0) := (cell_of H2.out.2.1 0).trans hb0.out
        have hzB := H2.out.2.2.2.2.2.2.size
        by_cases hjl : j < b.chs.length
        · obtain ⟨gc, pf, cf, pr, cr, rfl, _, hgc, _, _, e0, _, _, _⟩ := HC.out.at hjl
          replace e0 := ((HF0.out.trans H2.out.2.2.2.2.2.2).cell (p := ⟨gc, j * 4, none⟩) hgc).trans e0
          have hjV : j < V.length := by have := HVL.out; omega
          obtain ⟨gV, rfl, _, _⟩ := owns_form H2.out.2.2.1 (by omega)
          have cV0 := owns_cell H2.out.2.2.1 (zcell_at hjV)
          have HNX : Hid (upd (chTk b.chs frm j m.r) b.chs[j].to.1 V[j] = chTk b.chs frm (j + 1) m.r) := by
            show _ = _
            rw [chTk_next hjl]
            congr 1
            simp [HVE.out]
          go_wp2_with fail
          have HS : Hid (Calls Tryz.prog 94 #[.pointer (some ⟨g, 0, none⟩), .int .i64 b.chs[j].to.1, .int .i64 V[j]] wB.drew fun x w' => x = .returned (.tuple #[]) ∧ ∃ ns' hs' vN' vH', Hid (MacI w0.heap.size g ns' hs' vN' vH' vI vO { m with r := upd (chTk b.chs frm j m.r) b.chs[j].to.1 V[j] } w' ∧ ns'.length ≤ ns.length + 1 ∧ Sf g vN vH vN' vH' wB.drew w')) := setR w0.heap.size g b.chs[j].to.1 V[j] ns hs vN vH vI vO _ wB.drew (H2.out.1.keeps (w' := wB.drew) ⟨rfl, rfl, rfl, Nat.le_refl _, fun _ _ => rfl⟩) (by omega) (Nat.le_trans h0w hzB)
          go_region_law (first | (refine stepC rfl 94 #[.pointer (some ⟨g, 0, none⟩), .int .i64 b.chs[j].to.1, .int .i64 V[j]] (by go_simp) HS.out ?_; rintro x w5 ⟨rfl, ns5, hs5, vN5, vH5, H5d⟩; have H5 : Hid (MacI w0.heap.size g ns5 hs5 vN5 vH5 vI vO { m with r := upd (chTk b.chs frm j m.r) b.chs[j].to.1 V[j] } w5 ∧ ns5.length ≤ ns.length + 1 ∧ Sf g vN vH vN5 vH5 wB w5) := ⟨H5d.out.1, H5d.out.2.1, ⟨⟨H5d.out.2.2.ch.os, H5d.out.2.2.ch.tape, H5d.out.2.2.ch.output, H5d.out.2.2.ch.size, H5d.out.2.2.ch.block⟩, H5d.out.2.2.newN, H5d.out.2.2.newH⟩⟩; clear H5d) | fail)
          all_goals
            clear e0 cV0 b0 HS
            have K5 := H2.out.1.kg H5.out.2.2
            have hV5 : Apart (.slice (some ⟨gV, 0, none⟩) V.length cV) vN5 ∧ Apart (.slice (some ⟨gV, 0, none⟩) V.length cV) vH5 := ⟨H5.out.2.2.newN.apart H2.out.2.2.1 H2.out.2.2.2.1, H5.out.2.2.newH.apart H2.out.2.2.1 H2.out.2.2.2.2.1⟩
            have R5 : Hid (MacI w0.heap.size g ns5 hs5 vN5 vH5 vI vO { m with r := chTk b.chs frm (j + 1) m.r } w5 ∧ w5.heap[w.heap.size]? = some (.cells BX 53 (0, 0)) ∧ w5.ownsRow w.heap.size 3 1 (.slice (some ⟨gV, 0, none⟩) V.length cV) V.length (zcell V) ∧ Apart (.slice (some ⟨gV, 0, none⟩) V.length cV) vN5 ∧ Apart (.slice (some ⟨gV, 0, none⟩) V.length cV) vH5 ∧ Kg g w w5 ∧ Below w0.heap.size w w5) := by
              refine ⟨by rw [← HNX.out]; exact H5.out.1, K5 _ _ _ (by omega) (by decide) H2.out.2.1, owns_blk H2.out.2.2.1 (fun i hi hi2 => H5.out.2.2.ch.block i hi (fun hp => hp.elim (fun e2 => own_type H2.out.2.2.1 H2.out.1.1.1.1 (by decide) (by rw [← e2]; exact hi2)) (fun hp => hp.elim (fun e2 => H2.out.2.2.2.1 i e2.symm hi2) (fun e2 => H2.out.2.2.2.2.1 i e2.symm hi2)))), hV5.1, hV5.2, H2.out.2.2.2.2.2.1.trans K5, H2.out.2.2.2.2.2.2.trans (H2.out.1.bel H5.out.2.2 (by omega))⟩
            have hn5 : ns5.length ≤ q + (j + 1) := by have := H5.out.2.1; omega
            clear H5 K5 hV5 H2
            go_wp2_with fail
            go_roundw
            case rel => exact ⟨j + 1, ns5, hs5, vN5, vH5, vI, vO, by omega, by go_num, hn5, R5⟩
            case measure => simp [intOf]; omega
        · have hje : j = b.chs.length := by omega
          have R : Hid (MacE w0.heap.size g (q + b.chs.length) { m with r := chA (b.chs.map absC) frm m.r } wB ∧ Kg g w wB ∧ Below w0.heap.size w wB) := by
            refine ⟨⟨ns, hs, vN, vH, vI, vO, ?_, by omega⟩, H2.out.2.2.2.2.2.1, H2.out.2.2.2.2.2.2⟩
            rw [← chTk_all, ← hje]; exact H2.out.1
          clear hje H2
          go_wp2_with fail
          go_end0
          exact ⟨rfl, R.out⟩

end Go.Proofs.YtgfhfkgdmidhpaaGreatDoor
