import Derived.Test.YtgfhfkgdmidhpaaGreatDoorQB
import Derived.Test.YtgfhfkgdmidhpaaGreatDoorQE
namespace Go.Proofs.YtgfhfkgdmidhpaaGreatDoor
open Go.RowKit

def bkL (b : RBlk) : List UInt8 := bkT (absB b)
def rowS (bs : List RBlk) (k : Nat) : List (List UInt8) := (bs.take k).map bkL ++ List.replicate (bs.length - k) []
theorem rowS_len {bs : List RBlk} {k : Nat} (hk : k ≤ bs.length) : (rowS bs k).length = bs.length := by
  simp [rowS]; omega
theorem rowS_set {bs : List RBlk} {k : Nat} (hk : k < bs.length) : (rowS bs k).set k (bkL bs[k]) = rowS bs (k + 1) := by
  unfold rowS
  have hl : ((bs.take k).map bkL).length = k := by simp; omega
  rw [List.set_append_right (h := by omega), hl, Nat.sub_self]
  rw [show bs.length - k = (bs.length - (k + 1)) + 1 from by omega, List.replicate_succ, List.set_cons_zero, List.take_succ_eq_append_getElem hk, List.map_append, List.append_assoc]
  rfl
theorem rowS_all (bs : List RBlk) : rowS bs bs.length = (absP bs).map bkT := by
  unfold rowS absP
  rw [List.take_of_length_le (Nat.le_refl _), Nat.sub_self, List.replicate_zero, List.append_nil, List.map_map]
  rfl
theorem strs_set (l : List (List UInt8)) (k : Nat) (x : List UInt8) : (strs l).set k (.string ⟨x.toArray⟩) = strs (l.set k x) := by simp [strs, List.map_set]
theorem made_str (n : Nat) : (madeCells (Value.string ⟨#[]⟩).cells (n * 1)).toList = strs (List.replicate n []) := by
  rw [show (Value.string ⟨#[]⟩).cells = #[.string ⟨#[]⟩] from rfl, Nat.mul_one]
  apply List.ext_getElem
  · simp [madeCells, strs]
  · intro i h1 h2
    simp [madeCells, Nat.mod_one, strs]

set_option maxRecDepth 100000 in
set_option maxHeartbeats 2000000 in
theorem TextP (bs : List RBlk) (base : Nat) (v : Value) (w : World) (h : PBs w base bs v) (hn : bs.length ≤ 1000) (hc : ∀ b ∈ bs, b.chs = []) (hk : ∀ b ∈ bs, ∀ t ∈ b.sts, OkS (absS t)) (he : ∀ b ∈ bs, OkE (absE b.e)) (hs : ∀ b ∈ bs, b.sts.length ≤ 200000) (hl : (prT (absP bs)).length ≤ 200000) (ht : Tab w) :
    Calls Tryz.prog 21 #[v] w fun e w' => e = .returned (.string ⟨(prT (absP bs)).toArray⟩) ∧ Below w.heap.size w w' := by
  obtain ⟨pv, cv, rfl⟩ := h.slice
  obtain ⟨I9, Hi9, Hz9, Hs9, Hb9⟩ := info_parts Tryz.info9
  have HB := stop h
  have HC := stop hc
  have HK := stop hk
  have HE := stop he
  have HSS := stop hs
  have HT := stop ht
  clear h hc hk he hs ht
  go_enter Tryz.func21, Tryz.ntmps21
  go_wp2_with (at_make; refine unstop ?_)
  refine stop ?_
  refine wpList_make_full _ rfl _ _ 98 rfl w.heap.size 9 I9 (.string ⟨#[]⟩) 1 Tryz.underlying98 Hi9 Hz9 Hs9 .i64 .i64 _ _ bs.length rfl rfl rfl rfl (by rw [Hb9]; omega) (by unfold maxLen; omega) (by simp) ?_
  intro w1 o1 g1
  rw [made_str] at o1
  have S1 : Hid (w1.ownsRow w.heap.size 9 1 (.slice (some ⟨w.heap.size, 0, none⟩) bs.length bs.length) bs.length (strs (rowS bs 0)) ∧ Below w.heap.size w w1) := ⟨by rw [show rowS bs 0 = List.replicate bs.length [] from by simp [rowS]]; exact o1, Below.grown (Below.refl _ _) g1 (Nat.le_refl _) (fun k hk => by cases hk)⟩
  clear o1 g1 Hi9 Hz9 Hs9 Hb9
  go_wp2_with fail
  go_loopw [11] (fun i wr => ∃ k : Nat, k ≤ bs.length ∧ i = .int .i64 k ∧ Hid (wr.ownsRow w.heap.size 9 1 (.slice (some ⟨w.heap.size, 0, none⟩) bs.length bs.length) bs.length (strs (rowS bs k)) ∧ Below w.heap.size w wr)) (fun i _ => bs.length - (intOf i).toNat)
  case atStart => exact ⟨0, by omega, rfl, S1⟩
  case round =>
    clear S1
    obtain ⟨k, hk, rfl, H1⟩ := hrel
    rename World => wA
    have hzA := H1.out.2.size
    by_cases hlt : k < bs.length
    · obtain ⟨g, qc, cc, ps, cs1, rfl, _, hg, _, OC, OS, d0, d1, d2, d3⟩ := HB.out.at hlt
      have hcz : bs[k].chs.length = 0 := by rw [HC.out _ (List.getElem_mem hlt)]; rfl
      rw [hcz] at d1
      replace d0 := (H1.out.2.cell (p := ⟨g, k * 4, none⟩) hg).trans d0
      replace d1 := (H1.out.2.cell (p := ⟨g, k * 4 + 1, none⟩) hg).trans d1
      replace d2 := (H1.out.2.cell (p := ⟨g, k * 4 + 2, none⟩) hg).trans d2
      replace d3 := (H1.out.2.cell (p := ⟨g, k * 4 + 3, none⟩) hg).trans d3
      obtain ⟨TE, xe, eV⟩ : ∃ TE xe, endVal bs[k].e = .iface TE xe := by
        obtain ⟨T, x, _, h, _⟩ := endTx bs[k].e (HE.out _ (List.getElem_mem hlt))
        exact ⟨T, x, h⟩
      have HOS := stop OS
      have HEV := stop eV
      have F1 := stop ((Below.refl wA.heap.size wA).alloc (Nat.le_refl _) (.cells #[.int .i64 bs[k].at_, .slice qc 0 cc, .slice ps bs[k].sts.length cs1, .iface TE xe] 104))
      have HCALL : Hid (Calls Tryz.prog 46 #[.agg #[.int .i64 bs[k].at_, .slice qc 0 cc, .slice ps bs[k].sts.length cs1, .iface TE xe]] (wA.alloc (.cells #[.int .i64 bs[k].at_, .slice qc 0 cc, .slice ps bs[k].sts.length cs1, .iface TE xe] 104)) fun r w' => r = .returned (.string ⟨(bkL bs[k]).toArray⟩) ∧ Below (wA.alloc (.cells #[.int .i64 bs[k].at_, .slice qc 0 cc, .slice ps bs[k].sts.length cs1, .iface TE xe] 104)).heap.size (wA.alloc (.cells #[.int .i64 bs[k].at_, .slice qc 0 cc, .slice ps bs[k].sts.length cs1, .iface TE xe] 104)) w') := by
        have FF := H1.out.2.trans (F1.out.mono hzA)
        have := blockTx bs[k] bs[k].at_ qc cc ps cs1 base (wA.alloc (.cells #[.int .i64 bs[k].at_, .slice qc 0 cc, .slice ps bs[k].sts.length cs1, .iface TE xe] 104)) (owns_keeps HOS.out (Keeps.below (T := fun _ => True) FF) trivial) (HK.out _ (List.getElem_mem hlt)) (HE.out _ (List.getElem_mem hlt)) (HSS.out _ (List.getElem_mem hlt)) (HT.out.keep FF)
        rw [HEV.out] at this
        exact this
      rw [eV] at d3
      clear OC OS hcz eV
      go_wp2_with fail
      refine HCALL.out.mono ?_
      rintro r w2 ⟨rfl, f2⟩
      have F2 := stop (F1.out.trans (f2.mono F1.out.size))
      have O2 := owns_keeps H1.out.1 (Keeps.below (T := fun _ => True) F2.out) trivial
      have hg2 : w.heap.size < w2.heap.size := by
        obtain ⟨cur, hcur⟩ := row_blk O2
        exact lt_of_block hcur
      have z0 : ∃ u, w2.cell? ⟨w.heap.size, k, none⟩ = some u := by
        refine ⟨_, owns_cell O2 (strs_at (j := k) (by rw [rowS_len (by omega)]; exact hlt))⟩
      obtain ⟨u0, z0⟩ := z0
      have z0f := owns_fz O2 k
      have R : Hid ((w2.setCell ⟨w.heap.size, k, none⟩ (.string ⟨(bkL bs[k]).toArray⟩)).ownsRow w.heap.size 9 1 (.slice (some ⟨w.heap.size, 0, none⟩) bs.length bs.length) bs.length (strs (rowS bs (k + 1))) ∧ Below w.heap.size w (w2.setCell ⟨w.heap.size, k, none⟩ (.string ⟨(bkL bs[k]).toArray⟩))) := by
        refine ⟨?_, below_set (H1.out.2.trans (F2.out.mono hzA)) _ _ _ (Nat.le_refl _)⟩
        rw [← rowS_set hlt, ← strs_set]
        exact owns_store O2 k _
      clear O2 f2 HCALL F1 F2 d0 d1 d2 d3
      go_wp2_with fail
      go_roundw
      case rel => exact ⟨k + 1, by omega, by go_num, R⟩
      case measure => simp [intOf]; omega
    · have hke : k = bs.length := by omega
      have HJ : Hid (Lib.join (rowS bs k) [124] = prT (absP bs)) := by show _ = _; rw [hke, rowS_all, join_bk]
      have O1 : Hid (wA.ownsRow w.heap.size 9 1 (.slice (some ⟨w.heap.size, 0, none⟩) bs.length bs.length) (rowS bs k).length (strs (rowS bs k))) := by
        show World.ownsRow _ _ _ _ _ _ _
        rw [rowS_len hk]; exact H1.out.1
      clear hke
      go_wp2_with fail
      refine (joinC (rowS bs k) 124 w.heap.size _ wA O1.out (by rw [rowS_len hk]; omega) (by rw [HJ.out]; omega)).mono ?_
      rintro r w7 ⟨rfl, f7⟩
      have F7 := H1.out.2.trans (f7.mono hzA)
      clear f7
      go_wp2_with fail
      go_ret
      exact ⟨by rw [← HJ.out]; rfl, F7⟩

end Go.Proofs.YtgfhfkgdmidhpaaGreatDoor
