import Derived.Test.YtgfhfkgdmidhpaaGreatDoorQM
import Derived.Test.YtgfhfkgdmidhpaaGreatDoorPQ
namespace Go.Proofs.YtgfhfkgdmidhpaaGreatDoor
open Go.RowKit

def plnS (s : ByteArray) : ByteArray := ⟨(plnT s).toArray⟩
structure PF (s : ByteArray) : Prop where
  rd : rdF (plnS s) = ⟨0, 0⟩
  sz : (plnS s).size ≤ maxLen
  le : (parF (plnS s)).bs.length ≤ 12
  eq : (parF s).bs.length = (parF (plnS s)).bs.length
  chs : ∀ b ∈ (parF (plnS s)).bs, b.chs = []
  ends : ∀ i (hi : i < (parF s).bs.length) (hj : i < (parF (plnS s)).bs.length), (parF s).bs[i].e.op = (parF (plnS s)).bs[i].e.op ∧ (parF s).bs[i].e.one.1 = (parF (plnS s)).bs[i].e.one.1 ∧ (parF s).bs[i].e.two.1 = (parF (plnS s)).bs[i].e.two.1
  p1 : PlOk (parF s).bs
  p2 : PlOk (parF (plnS s)).bs
  play : ∀ V f, playA (absP (parF s).bs) V f = playA (absP (parF (plnS s)).bs) V f
theorem pf_of {s : ByteArray} (h : oldE s = 0) : PF s := by
  have hA := pln_all h
  obtain ⟨h1, h2⟩ := oldE_zero h
  obtain ⟨h3, h4⟩ := upE_zero h1
  have eT : plnT s = prT (plnA (absP (parF s).bs)) := by rw [plnT, if_pos h]
  obtain ⟨r1, r2⟩ := pln_read hA.rdd.jp hA.rdd.rd hA.nw hA.few (plnS s) (by rw [plnS, eT])
  have he : (rdF (plnS s)).e = 0 := by rw [r1]
  have hR := rdd_of he
  have hl : (absP (parF s).bs).length = (parF s).bs.length := by simp [absP]
  have hlen : (parF s).bs.length = (parF (plnS s)).bs.length := by
    have := congrArg List.length r2
    rw [plnA, List.length_mapIdx, hl] at this
    simpa [absP] using this.symm
  have hz := (rd0c he).1
  refine ⟨r1, by unfold maxLen; omega, hR.rd.le, hlen, fun b hb => ?_, fun i hi hj => ?_, hA.rdd.play h3, hR.play he, fun V f => ?_⟩
  · have hm : absB b ∈ plnA (absP (parF s).bs) := by rw [← r2]; exact List.mem_map.2 ⟨b, hb, rfl⟩
    have := (pln_fine hA.ok hA.few hA.okA _ hm).chs
    have : b.chs.map absC = [] := this
    simpa using this
  · have e1 : absB (parF (plnS s)).bs[i] = plnB (enF 0 5000 (absP (parF s).bs)) i (absB (parF s).bs[i]) := by
      have h5 : (absP (parF (plnS s)).bs)[i]'(by simpa [absP] using hj) = (plnA (absP (parF s).bs))[i]'(by rw [plnA, List.length_mapIdx, hl]; exact hi) := by
        simp only [r2]
      simpa [absP, plnA] using h5
    have e2 : absE (parF (plnS s)).bs[i].e = absE (parF s).bs[i].e := congrArg ABk.e e1
    have e3 := congrArg AEn.op e2
    have e4 := congrArg AEn.one e2
    have e5 := congrArg AEn.two e2
    exact ⟨e3.symm, e4.symm, e5.symm⟩
  · rw [r2, pln_play hA.ok (by rw [hl]; exact hA.rdd.rd.pos)]

set_option maxRecDepth 100000 in
set_option maxHeartbeats 4000000 in
theorem plainsL (s : ByteArray) (vi : Value) (V : List Int) (fu : Int) (w : World) (hs : s.size ≤ maxLen) (hi : InA vi V w) (ht : Tab w) :
    Calls Tryz.prog 5 #[.string s, vi, .int .i64 fu] w fun x w' => x = .returned (.bool true) ∧ Below w.heap.size w w' := by
  have HI := stop hi
  obtain ⟨pi, ci, rfl, hci, _⟩ := hi
  go_enter Tryz.func5, Tryz.ntmps5
  go_wp2_with fail
  refine (SoloPlain s w hs ht).mono ?_
  rintro x w1 ⟨rfl, f1⟩
  have F1 := stop f1
  clear f1
  go_wp2_with fail
  refine (shortR s w1 hs).mono ?_
  rintro x w2 ⟨v2, rfl, H2⟩
  have F2 := stop (F1.out.trans (H2.out.2.mono F1.out.size))
  by_cases h0 : upE 40000 s = 0
  · obtain ⟨h1, h2⟩ := upE_zero h0
    have hR := rdd_of h1
    have HBk := stop (H2.out.1 h0)
    obtain ⟨p2, c2, rfl⟩ := HBk.out.slice
    have hg := gre_new hR.jp
    have h12 := hR.rd.le
    have HFI := stop (fineS h1).1
    cases hn : newF (parF s).bs with
    | some a =>
      rw [hn] at hg
      have HG : Hid (greF (parF s).bs = (a : Int)) := hg
      have eT : plnT s = [] := by rw [plnT, if_neg (by rw [oldE, if_pos h0, hn]; simp)]
      have eE : oldE s = 5 := by rw [oldE, if_pos h0, hn]; rfl
      have eA : oldA s = a := by rw [oldA, if_pos h0, hn]; rfl
      rw [eT, eE, eA, h0]
      clear eT eE eA h0 h1 h2 hR hg hn
      go_wp2_with fail
      refine (GreatR (parF s).bs w1.heap.size _ w2 HBk.out (by omega) HFI.out).mono ?_
      rintro x w3 ⟨rfl, f3⟩
      have F3 := stop (F2.out.trans (f3.mono F2.out.size))
      clear f3
      rw [HG.out]
      go_wp2_with fail
      refine (numR 5 w3).mono ?_
      rintro x w4 ⟨rfl, rfl⟩
      go_wp2_with fail
      go_ret
      exact ⟨rfl, F3.out⟩
    | none =>
      rw [hn] at hg
      have HG : Hid (greF (parF s).bs = -1) := hg
      have eE : oldE s = 0 := by rw [oldE, if_pos h0, hn]; rfl
      have hF := pf_of eE
      have HPF := stop hF
      have eA := oldA_zero eE
      rw [eE, eA, h0, show (⟨(plnT s).toArray⟩ : ByteArray) = plnS s from rfl]
      have h12' := hF.le
      clear eE eA h0 h1 h2 hR hg hn hF
      go_wp2_with fail
      refine (GreatR (parF s).bs w1.heap.size _ w2 HBk.out (by omega) HFI.out).mono ?_
      rintro x w3 ⟨rfl, f3⟩
      have F3 := stop (F2.out.trans (f3.mono F2.out.size))
      have B3 := stop (HBk.out.keeps (Keeps.below (T := fun _ => True) f3) trivial trivial trivial trivial trivial)
      clear f3
      rw [HG.out]
      go_wp2_with fail
      refine (read_any (plnS s) w3 HPF.out.sz).mono ?_
      rintro x w4 ⟨v4, rfl, R4, f4⟩
      have F4 := stop (F3.out.trans (f4.mono F3.out.size))
      have B4 := stop (B3.out.keeps (Keeps.below (T := fun _ => True) f4) trivial trivial trivial trivial trivial)
      have C4 := stop (R4 (by rw [HPF.out.rd]))
      obtain ⟨p4, c4, rfl⟩ := C4.out.slice
      rw [HPF.out.rd]
      clear f4 R4
      go_wp2_with fail
      refine (numR 0 w4).mono ?_
      rintro x w5 ⟨rfl, rfl⟩
      go_wp2_with fail
      refine (choicelessR (parF (plnS s)).bs w3.heap.size _ w5 C4.out (by omega) HPF.out.chs).mono ?_
      rintro x w6 ⟨rfl, f6⟩
      have F6 := stop (F4.out.trans (f6.mono F4.out.size))
      have B6 := stop (B4.out.keeps (Keeps.below (T := fun _ => True) f6) trivial trivial trivial trivial trivial)
      have C6 := stop (C4.out.keeps (Keeps.below (T := fun _ => True) f6) trivial trivial trivial trivial trivial)
      clear f6
      go_wp2_with fail
      refine (AlikeR (parF s).bs (parF (plnS s)).bs w1.heap.size w3.heap.size _ _ w6 B6.out C6.out (by omega) HPF.out.eq HPF.out.ends).mono ?_
      rintro x w7 ⟨rfl, f7⟩
      have F7 := stop (F6.out.trans (f7.mono F6.out.size))
      have B7 := stop (B6.out.keeps (Keeps.below (T := fun _ => True) f7) trivial trivial trivial trivial trivial)
      have C7 := stop (C6.out.keeps (Keeps.below (T := fun _ => True) f7) trivial trivial trivial trivial trivial)
      clear f7
      have HAL : Hid (Calls Tryz.prog 13 #[.slice p2 (parF s).bs.length c2, .slice p4 (parF (plnS s)).bs.length c4, .slice pi V.length ci, .int .i64 fu] w7 fun e w' => e = .returned (.bool true) ∧ Below w7.heap.size w7 w') := by
        by_cases hout : 20 < V.length ∨ fu < 0 ∨ 300 < fu
        · exact alikeX _ _ _ _ _ _ w7 hout
        · obtain ⟨f, rfl⟩ : ∃ f : Nat, fu = f := ⟨fu.toNat, by omega⟩
          exact alikeR (parF s).bs (parF (plnS s)).bs w1.heap.size w3.heap.size _ _ _ V f w7 B7.out C7.out (HI.out.keeps F7.out) (by omega) (by omega) HPF.out.p1 HPF.out.p2 (HPF.out.play V f)
      go_wp2_with fail
      refine HAL.out.mono ?_
      rintro x w8 ⟨rfl, f8⟩
      have F8 := stop (F7.out.trans (f8.mono F7.out.size))
      clear f8 HAL
      go_wp2_with fail
      go_ret
      exact ⟨rfl, F8.out⟩
  · have eT : plnT s = [] := by rw [plnT, if_neg (by rw [oldE, if_neg h0]; exact h0)]
    have eE : oldE s = upE 40000 s := by rw [oldE, if_neg h0]
    have eA : oldA s = (rdF s).at_ := by rw [oldA, if_neg h0]
    rw [eT, eE, eA]
    have hd : ((upE 40000 s : Int) != 0) = true := by simp; omega
    clear eT eE eA h0
    go_wp2_with fail
    refine (numR (upE 40000 s) w2).mono ?_
    rintro x w3 ⟨rfl, rfl⟩
    go_wp2_with fail
    go_ret
    exact ⟨rfl, F2.out⟩

end Go.Proofs.YtgfhfkgdmidhpaaGreatDoor
