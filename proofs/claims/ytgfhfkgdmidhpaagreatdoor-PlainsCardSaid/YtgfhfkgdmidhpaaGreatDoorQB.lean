import Derived.Test.YtgfhfkgdmidhpaaGreatDoorPM
import Derived.Test.YtgfhfkgdmidhpaaGreatDoorG14
import Derived.Test.YtgfhfkgdmidhpaaGreatDoorPD
namespace Go.Proofs.YtgfhfkgdmidhpaaGreatDoor
open Go.RowKit

theorem stepTx (t : RStep) (hk : OkS (absS t)) : ∃ T x fn, stVal t = .iface T x ∧ (∀ w : World, (method 500 T x "solo/code.text").run Tryz.prog w = .ok (fn, x) w) ∧ (∀ args (w : World), (callFunc fn args).run Tryz.prog w = .ok (.enter fn args) w) ∧
    ∀ w : World, Tab w → Calls Tryz.prog fn #[x] w fun r w' => r = .returned (.string ⟨(stT (absS t)).toArray⟩) ∧ Below w.heap.size w w' := by
  by_cases h1 : t.op = 118
  · have eA : absS t = .val t.to.1 t.n := by rw [absS, if_pos h1]
    have eV : stVal t = .iface 177 (.agg #[.int .i64 t.to.1, .int .i64 t.to.2, .int .i64 t.n]) := by rw [stVal, if_neg (by omega), if_neg (by omega), if_pos h1]
    rw [eA] at hk ⊢
    exact ⟨_, _, 298, eV, fun w => by kernel_rfl, enters_of Tryz.func298 (by kernel_rfl) rfl, fun w ht => loadTx _ _ _ w hk.1 hk.2 ht⟩
  by_cases h2 : t.op = 99
  · have eA : absS t = .cp t.to.1 t.a.1 := by rw [absS, if_neg h1, if_pos h2]
    have eV : stVal t = .iface 142 (.agg #[.int .i64 t.to.1, .int .i64 t.to.2, .int .i64 t.a.1, .int .i64 t.a.2]) := by rw [stVal, if_neg (by omega), if_pos h2]
    rw [eA] at hk ⊢
    exact ⟨_, _, 288, eV, fun w => by kernel_rfl, enters_of Tryz.func288 (by kernel_rfl) rfl, fun w ht => copyTx _ _ _ _ w hk.1 hk.2 ht⟩
  by_cases h3 : t.op = 33
  · have eA : absS t = .out t.a.1 := by rw [absS, if_neg h1, if_neg h2, if_pos h3]
    have eV : stVal t = .iface 315 (.agg #[.int .i64 t.a.1, .int .i64 t.a.2]) := by rw [stVal, if_neg (by omega), if_neg (by omega), if_neg (by omega), if_pos h3]
    rw [eA] at hk ⊢
    exact ⟨_, _, 318, eV, fun w => by kernel_rfl, enters_of Tryz.func318 (by kernel_rfl) rfl, fun w ht => putTx _ _ w hk ht⟩
  by_cases h4 : t.op = 63
  · have eA : absS t = .inp t.to.1 := by rw [absS, if_neg h1, if_neg h2, if_neg h3, if_pos h4]
    have eV : stVal t = .iface 272 (.agg #[.int .i64 t.to.1, .int .i64 t.to.2]) := by rw [stVal, if_pos h4]
    rw [eA] at hk ⊢
    exact ⟨_, _, 306, eV, fun w => by kernel_rfl, enters_of Tryz.func306 (by kernel_rfl) rfl, fun w ht => takeTx _ _ w hk ht⟩
  have eA : absS t = .op t.op t.to.1 t.a.1 t.b.1 := by rw [absS, if_neg h1, if_neg h2, if_neg h3, if_neg h4]
  have eV : stVal t = .iface 370 (.agg #[.int .i64 t.to.1, .int .i64 t.to.2, .int .i64 t.a.1, .int .i64 t.a.2, .int .i64 (opNum t.op), .int .i64 t.b.1, .int .i64 t.b.2]) := by rw [stVal, if_neg (by omega), if_neg (by omega), if_neg (by omega), if_neg (by omega)]
  rw [eA] at hk ⊢
  obtain ⟨ho, k1, k2, k3⟩ := hk
  have e : opNum t.op < 4 ∧ opS (opNum t.op) = t.op := by
    rcases ho with h | h | h | h <;> (rw [h]; decide)
  refine ⟨_, _, 327, eV, fun w => by kernel_rfl, enters_of Tryz.func327 (by kernel_rfl) rfl, fun w ht => ?_⟩
  have := compTx t.to.1 t.to.2 t.a.1 t.a.2 (opNum t.op) t.b.1 t.b.2 w k1 k2 k3 e.1 ht
  rw [e.2] at this
  exact this
set_option maxRecDepth 100000 in
theorem stopTx (w : World) : Calls Tryz.prog 310 #[.agg #[]] w fun e w' => e = .returned (.string ⟨[46].toArray⟩) ∧ Below w.heap.size w w' := by
  go_enter Tryz.func310, Tryz.ntmps310
  go_wp2_with fail
  go_ret
  exact ⟨rfl, (Below.refl _ _).alloc (Nat.le_refl _) _⟩
theorem endTx (e : REnd) (hk : OkE (absE e)) : ∃ T x fn, endVal e = .iface T x ∧ (∀ w : World, (method 500 T x "solo/code.text").run Tryz.prog w = .ok (fn, x) w) ∧ (∀ args (w : World), (callFunc fn args).run Tryz.prog w = .ok (.enter fn args) w) ∧
    ∀ w : World, Tab w → Calls Tryz.prog fn #[x] w fun r w' => r = .returned (.string ⟨(enT (absE e)).toArray⟩) ∧ Below w.heap.size w w' := by
  rcases hk with ⟨h1, h2, h3, h4⟩ | ⟨h1, h2, h3, h4⟩ | ⟨h1, h2, h3, h4⟩
  · have h1 : e.op = 46 := h1
    obtain ⟨a1, _⟩ := endStop h1
    refine ⟨_, _, 310, a1, fun w => by kernel_rfl, enters_of Tryz.func310 (by kernel_rfl) rfl, fun w _ => ?_⟩
    have e2 : enT (absE e) = [46] := by unfold enT; rw [if_pos (show (absE e).op = 46 from h1)]
    rw [e2]; exact stopTx w
  · have h1 : e.op = 62 := h1
    obtain ⟨a1, _⟩ := endJump h1
    refine ⟨_, _, 314, a1, fun w => by kernel_rfl, enters_of Tryz.func314 (by kernel_rfl) rfl, fun w ht => ?_⟩
    have e2 : enT (absE e) = 62 :: Lib.decDigits e.one.1 := by unfold enT; rw [if_neg (show ¬ (absE e).op = 46 from by show ¬ e.op = 46; omega), if_pos (show (absE e).op = 62 from h1)]; rfl
    rw [e2]; exact jumpTx _ _ w h3 ht
  · have h1 : e.op = 63 := h1
    obtain ⟨a1, _⟩ := endFork h1
    refine ⟨_, _, 322, a1, fun w => by kernel_rfl, enters_of Tryz.func322 (by kernel_rfl) rfl, fun w ht => ?_⟩
    have e2 : enT (absE e) = rgT e.a.1 ++ 63 :: (Lib.decDigits e.one.1 ++ 58 :: Lib.decDigits e.two.1) := by unfold enT; rw [if_neg (show ¬ (absE e).op = 46 from by show ¬ e.op = 46; omega), if_neg (show ¬ (absE e).op = 62 from by show ¬ e.op = 62; omega)]; rfl
    rw [e2]; exact forkTx _ _ _ _ _ _ w h2 h3 h4 ht

end Go.Proofs.YtgfhfkgdmidhpaaGreatDoor

namespace Go.Proofs.YtgfhfkgdmidhpaaGreatDoor
open Go.RowKit

theorem Tryz.info9 : (Tryz.prog.info? 9).map (fun i => (i.zero, i.size, i.bytes)) = some (some (.string ⟨#[]⟩), 1, 16) := by kernel_rfl
/-- Strings of bytes, as cells. -/
def strs (l : List (List UInt8)) : List Value := l.map fun x => Value.string ⟨x.toArray⟩
theorem strs_app (a b : List (List UInt8)) : strs (a ++ b) = strs a ++ strs b := List.map_append ..
theorem strs_at {l : List (List UInt8)} {j : Nat} (h : j < l.length) : (strs l)[j]? = some (.string ⟨l[j].toArray⟩) := by simp [strs, h]
theorem joinC (l : List (List UInt8)) (sep : UInt8) (base : Nat) (v : Value) (w : World) (h : w.ownsRow base 9 1 v l.length (strs l)) (hl : l.length ≤ 1000000) (hn : (Lib.join l [sep]).length ≤ 100000000) :
    Calls Tryz.prog 47 #[v, .string ⟨#[sep]⟩] w fun e w' => e = .returned (.string ⟨(Lib.join l [sep]).toArray⟩) ∧ Below w.heap.size w w' := by
  obtain ⟨p, c, rfl⟩ := owns_slice2 h
  have em : (l.map (fun x => (⟨x.toArray⟩ : ByteArray))).map (·.data.toList) = l := by
    rw [List.map_map]
    exact (List.map_congr_left (fun x _ => by simp)).trans (List.map_id' l)
  have es : (⟨#[sep]⟩ : ByteArray).data.toList = [sep] := rfl
  by_cases h0 : 0 < l.length
  · obtain ⟨g, rfl, _, hg⟩ := owns_form h h0
    have hc : l.length ≤ c := by
      rcases h.2 with ⟨h1, _⟩ | ⟨g', cap, cur, hv, _, _, hcap, _⟩
      · cases h1
      · cases hv; exact hcap
    have := Tryz.strings_Join g 0 c (l.map (fun x => (⟨x.toArray⟩ : ByteArray))) ⟨#[sep]⟩ w (fun j x hx => by
      rw [Nat.zero_add]
      rw [List.getElem?_map, Option.map_eq_some_iff] at hx
      obtain ⟨y, hy, rfl⟩ := hx
      obtain ⟨hj, rfl⟩ := List.getElem?_eq_some_iff.1 hy
      exact owns_cell h (strs_at hj)) hg (by rw [List.length_map]; omega) (by rw [List.length_map]; exact hc) (by rw [em, es]; omega)
    rw [List.length_map, em, es] at this
    exact this
  · obtain rfl : l = [] := List.length_eq_zero_iff.1 (by omega)
    refine (Tryz.strings_Join_none p c ⟨#[sep]⟩ w).mono ?_
    rintro e w' ⟨he, hw⟩
    exact ⟨he, hw ▸ Below.refl _ _⟩
def stTs (l : List RStep) : List (List UInt8) := l.map fun t => stT (absS t)
theorem stTs_next {l : List RStep} {k : Nat} (hk : k < l.length) : stTs (l.take (k + 1)) = stTs (l.take k) ++ [stT (absS l[k])] := by
  rw [stTs, List.take_succ_eq_append_getElem hk, List.map_append]; rfl

set_option maxRecDepth 100000 in
set_option maxHeartbeats 2000000 in
theorem blockTx (b : RBlk) (at_ : Nat) (qc : Option Addr) (cc : Nat) (ps : Option Addr) (cs base : Nat) (w : World) (hS : w.ownsRow base 150 1 (.slice ps b.sts.length cs) b.sts.length (b.sts.map stVal)) (hk : ∀ t ∈ b.sts, OkS (absS t)) (he : OkE (absE b.e)) (hl : b.sts.length ≤ 200000) (ht : Tab w) :
    Calls Tryz.prog 46 #[.agg #[.int .i64 at_, .slice qc 0 cc, .slice ps b.sts.length cs, endVal b.e]] w fun r w' => r = .returned (.string ⟨(bkT (absB b)).toArray⟩) ∧ Below w.heap.size w w' := by
  obtain ⟨TE, xe, fe, hev, hem, het, hec⟩ := endTx b.e he
  rw [hev]
  have HES := stop (And.intro hem (And.intro het hec))
  have HS := stop hS
  have HK := stop hk
  have HT := stop ht
  have hen := en_len he
  have HJ : Hid (Lib.join (stTs b.sts ++ [enT (absE b.e)]) [59] = bkT (absB b)) := by
    show _ = _
    have e : stTs b.sts = (b.sts.map absS).map stT := by rw [stTs, List.map_map]; rfl
    rw [e, join_snoc_sts]; rfl
  have hjl : (bkT (absB b)).length ≤ 10000000 := by
    have h1 := sts_len (c := 17) (b.sts.map absS) (fun t ht => by
      obtain ⟨u, hu, rfl⟩ := List.mem_map.1 ht
      exact st_len (hk u hu))
    rw [List.length_map] at h1
    show (stsT (b.sts.map absS) ++ enT (absE b.e)).length ≤ _
    rw [List.length_append]; omega
  clear hev hem het hec hS hk ht he
  go_enter Tryz.func46, Tryz.ntmps46
  go_wp2_with fail
  have F1 := stop ((Below.refl w.heap.size w).alloc (Nat.le_refl _) (.cells #[.int .i64 at_, .slice qc 0 cc, .slice ps b.sts.length cs, .iface TE xe] 104))
  have g1 := stop (heap_alloc_last w (.cells #[.int .i64 at_, .slice qc 0 cc, .slice ps b.sts.length cs, .iface TE xe] 104))
  go_loopw [3, 11] (fun v i wr => i = .int .i64 0 ∧ v = .slice none 0 0 ∧ Hid (Below w.heap.size w wr ∧ wr.heap[w.heap.size]? = some (.cells #[.int .i64 at_, .slice qc 0 cc, .slice ps b.sts.length cs, .iface TE xe] 104 (0, 0)))) (fun _ _ _ => 0)
  case atStart => exact ⟨rfl, rfl, F1.out, g1.out⟩
  case round =>
    clear F1 g1
    obtain ⟨rfl, rfl, H1⟩ := hrel
    rename World => wA
    have k2 := cell_of H1.out.2 2
    simp at k2
    go_wp2_with fail
    clear k2
    go_loopw [3, 24] (fun v i wr => ∃ (k : Nat) (L : List (List UInt8)), k ≤ b.sts.length ∧ i = .int .i64 k ∧ L.length = k ∧ Hid (L = stTs (b.sts.take k)) ∧ wr.ownsRow w.heap.size 9 1 v L.length (strs L) ∧ Hid (Below w.heap.size w wr ∧ wr.heap[w.heap.size]? = some (.cells #[.int .i64 at_, .slice qc 0 cc, .slice ps b.sts.length cs, .iface TE xe] 104 (0, 0)))) (fun _ i _ => b.sts.length - (intOf i).toNat)
    case atStart => exact ⟨0, [], by omega, rfl, rfl, rfl, World.ownsRow_nil _ _ _ _, H1⟩
    case round =>
      clear H1
      obtain ⟨k, L, hk, rfl, hLk, HL, OV, H2⟩ := hrel
      rename World => wB
      obtain ⟨pV, cV, rfl⟩ := owns_slice2 OV
      have HOV := stop OV
      have HLK := stop hLk
      have hL1 : L.length ≤ 200000 := by omega
      have hzB := H2.out.1.size
      have hgB := lt_of_block H2.out.2
      clear OV hLk
      by_cases hlt : k < b.sts.length
      · have OS := owns_keeps HS.out (Keeps.below (T := fun _ => True) H2.out.1) trivial
        obtain ⟨gs, rfl, _, _⟩ := owns_form OS (by omega)
        obtain ⟨T, x, fr, hsv, hrm, hrt, hrc⟩ := stepTx b.sts[k] (HK.out _ (List.getElem_mem hlt))
        have cS := owns_cell OS (j := k) (u := .iface T x) (by rw [← hsv]; simp [hlt])
        have HR := stop (And.intro hrm (And.intro hrt hrc))
        clear hsv hrm hrt hrc OS
        go_wp2_with fail
        rw [HR.out.1, Result.andThen_ok]
        simp only [HR.out.2.1]
        unfold Oper.upon
        refine (HR.out.2.2 _ (HT.out.keep H2.out.1)).mono ?_
        rintro r w1 ⟨rfl, f1⟩
        have H3 : Hid (w1.ownsRow w.heap.size 9 1 (.slice pV L.length cV) L.length (strs L) ∧ Below w.heap.size w w1 ∧ w1.heap[w.heap.size]? = some (.cells #[.int .i64 at_, .slice qc 0 cc, .slice (some ⟨gs, 0, none⟩) b.sts.length cs, .iface TE xe] 104 (0, 0))) := ⟨owns_keeps HOV.out (Keeps.below (T := fun _ => True) f1) trivial, H2.out.1.trans (f1.mono hzB), by rw [f1.block _ hgB]; exact H2.out.2⟩
        have hz1 : w.heap.size ≤ w1.heap.size := Nat.le_trans hzB f1.size
        have HNX := stop (stTs_next hlt)
        clear f1 HR H2 HOV cS
        go_wp2_with (at_builtin; refine unstop ?_)
        refine stop ?_
        have gB := heap_alloc_last w1 (.cells #[.string ⟨(stT (absS b.sts[k])).toArray⟩] 9)
        have OB := H3.out.1.alloc (.cells #[.string ⟨(stT (absS b.sts[k])).toArray⟩] 9)
        refine app1A Tryz.underlying98 Tryz.info9 rfl (by decide) (by decide) rfl _ _ rfl rfl OB gB rfl rfl (List.all_eq_true.1 rfl) (by omega) (by simp; omega) ?_
        intro v6 w6 oS gS nS
        obtain ⟨v6p, v6c, rfl⟩ := owns_slice2 oS
        have C6 := grown_ch gS
        have R6 : Hid (w6.ownsRow w.heap.size 9 1 (.slice v6p (L.length + 1) v6c) (L ++ [stT (absS b.sts[k])]).length (strs (L ++ [stT (absS b.sts[k])])) ∧ Below w.heap.size w w6 ∧ w6.heap[w.heap.size]? = some (.cells #[.int .i64 at_, .slice qc 0 cc, .slice (some ⟨gs, 0, none⟩) b.sts.length cs, .iface TE xe] 104 (0, 0))) := by
          refine ⟨by rw [strs_app, List.length_append]; exact oS, ?_, ?_⟩
          · exact H3.out.2.1.trans (C6.toBelow hz1 (fun j hj => (H3.out.1.lt j hj.symm).1))
          · rw [C6.block _ (lt_of_block H3.out.2.2) (fun e2 => own_type H3.out.1 H3.out.2.2 (by decide) e2.symm)]; exact H3.out.2.2
        clear oS gS nS gB OB C6 H3
        go_wp2_with fail
        go_roundw
        case rel => exact ⟨k + 1, L ++ [stT (absS b.sts[k])], by omega, by go_num, by rw [List.length_append, List.length_singleton, HLK.out], by show _ = _; rw [HNX.out, HL.out], R6.out.1, R6.out.2⟩
        case measure => simp [intOf]; omega
      · have HLE : Hid (L = stTs b.sts) := by show _ = _; rw [HL.out, List.take_of_length_le (by omega)]
        have k3 := cell_of H2.out.2 3
        simp at k3
        clear HL HLK
        go_wp2_with fail
        rw [HES.out.1, Result.andThen_ok]
        simp only [HES.out.2.1]
        unfold Oper.upon
        refine (HES.out.2.2 _ (HT.out.keep H2.out.1)).mono ?_
        rintro r w1 ⟨rfl, f1⟩
        have H3 : Hid (w1.ownsRow w.heap.size 9 1 (.slice pV L.length cV) L.length (strs L) ∧ Below w.heap.size w w1) := ⟨owns_keeps HOV.out (Keeps.below (T := fun _ => True) f1) trivial, H2.out.1.trans (f1.mono hzB)⟩
        have hz1 : w.heap.size ≤ w1.heap.size := Nat.le_trans hzB f1.size
        clear f1 HES H2 HOV k3
        go_wp2_with (at_builtin; refine unstop ?_)
        refine stop ?_
        have gB := heap_alloc_last w1 (.cells #[.string ⟨(enT (absE b.e)).toArray⟩] 9)
        have OB := H3.out.1.alloc (.cells #[.string ⟨(enT (absE b.e)).toArray⟩] 9)
        refine app1A Tryz.underlying98 Tryz.info9 rfl (by decide) (by decide) rfl _ _ rfl rfl OB gB rfl rfl (List.all_eq_true.1 rfl) (by omega) (by simp; omega) ?_
        intro v6 w6 oS gS nS
        obtain ⟨v6p, v6c, rfl⟩ := owns_slice2 oS
        have C6 := grown_ch gS
        have R6 : Hid (w6.ownsRow w.heap.size 9 1 (.slice v6p (L.length + 1) v6c) (L ++ [enT (absE b.e)]).length (strs (L ++ [enT (absE b.e)])) ∧ Below w.heap.size w w6) := by
          refine ⟨by rw [strs_app, List.length_append]; exact oS, ?_⟩
          exact H3.out.2.trans (C6.toBelow hz1 (fun j hj => (H3.out.1.lt j hj.symm).1))
        have HJ2 : Hid (Lib.join (L ++ [enT (absE b.e)]) [59] = bkT (absB b)) := by show _ = _; rw [HLE.out]; exact HJ.out
        clear oS gS nS gB OB C6 H3
        go_wp2_with fail
        refine (joinC (L ++ [enT (absE b.e)]) 59 w.heap.size _ w6 R6.out.1 (by rw [List.length_append, List.length_singleton]; omega) (by rw [HJ2.out]; omega)).mono ?_
        rintro r w7 ⟨rfl, f7⟩
        have F7 := R6.out.2.trans (f7.mono R6.out.2.size)
        clear f7 R6
        go_wp2_with fail
        go_ret
        exact ⟨by rw [← HJ2.out]; rfl, F7⟩

end Go.Proofs.YtgfhfkgdmidhpaaGreatDoor
