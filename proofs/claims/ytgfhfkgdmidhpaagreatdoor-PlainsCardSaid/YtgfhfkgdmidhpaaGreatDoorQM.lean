import Derived.Test.YtgfhfkgdmidhpaaGreatDoorQK
import Derived.Test.YtgfhfkgdmidhpaaGreatDoorQH
import Derived.Test.YtgfhfkgdmidhpaaGreatDoorQD
import Derived.Test.YtgfhfkgdmidhpaaGreatDoorPQ
import Derived.Test.YtgfhfkgdmidhpaaGreatDoorPM
namespace Go.Proofs.YtgfhfkgdmidhpaaGreatDoor
open Go.RowKit

theorem asc_len : ∀ (l : List (Nat × Nat)) (i n : Nat), Asc l → Wi i n l → l.length ≤ n - i
  | [], _, _, _, _ => Nat.zero_le _
  | x :: l, i, n, ha, hw => by
    rw [Asc, List.pairwise_cons] at ha
    have h1 := hw x (List.mem_cons_self ..)
    have h2 := asc_len l (x.2 + 1) n ha.2 (fun y hy => ⟨ha.1 y hy, (hw y (List.mem_cons_of_mem _ hy)).2⟩)
    rw [List.length_cons]; omega
theorem op_lt {t : RStep} (h : OkS (absS t)) : t.op < 256 := by
  unfold absS at h
  by_cases h1 : t.op = 118
  · omega
  rw [if_neg h1] at h
  by_cases h2 : t.op = 99
  · omega
  rw [if_neg h2] at h
  by_cases h3 : t.op = 33
  · omega
  rw [if_neg h3] at h
  by_cases h4 : t.op = 63
  · omega
  rw [if_neg h4] at h
  obtain ⟨ho, _⟩ := h
  omega
theorem sum_ge {α : Type} (f : α → Nat) : ∀ (l : List α), ∀ x ∈ l, f x ≤ (l.map f).sum
  | [], x, h => absurd h (by simp)
  | y :: l, x, h => by
    rw [List.map_cons, List.sum_cons]
    rcases List.mem_cons.1 h with rfl | h
    · omega
    · have := sum_ge f l x h; omega
/-- All that a text tells that is read. -/
structure Rdd (s : ByteArray) : Prop where
  jp : JP (parF s).bs s.size
  rd : RdOk (parF s).bs
theorem rd_bad {s : ByteArray} (h : (rdF s).e = 0) : parBad s < 0 := by
  unfold rdF at h
  by_cases h1 : 200000 < s.size
  · rw [if_pos h1] at h; cases h
  rw [if_neg h1] at h
  by_cases h2 : 0 ≤ parBad s
  · rw [if_pos h2] at h; cases h
  omega
theorem rdd_of {s : ByteArray} (h : (rdF s).e = 0) : Rdd s := by
  obtain ⟨_, h1, h2, h3⟩ := rd0 h
  refine ⟨par_ok (rd_bad h), h1, h2, h3, fun b hb c hc => (((fineS h).1 b hb).ch c hc).2.1, (rd0c h).2⟩
theorem Rdd.reg {s : ByteArray} (h : Rdd s) (hs : s.size ≤ 200000) : ∀ b ∈ (parF s).bs, (regsB b).length ≤ 10000000 := fun b hb => by
  have h1 := asc_len _ 0 s.size h.jp.asc h.jp.wi
  have h2 : (regsB b).length ≤ ((parF s).bs.flatMap regsB).length := by
    rw [List.length_flatMap]
    exact sum_ge (fun b => (regsB b).length) _ b hb
  omega
theorem Rdd.w {s : ByteArray} (h : Rdd s) : ∀ b ∈ (parF s).bs, 4 * b.sts.length + chW b.chs ≤ s.size := fun b hb => by
  have h1 := h.jp.w
  have h2 := sum_ge blW _ b hb
  unfold bsW at h1
  unfold blW at h1 h2
  omega
theorem chW_ge (l : List RCho) : 3 * l.length ≤ chW l := by
  induction l with
  | nil => exact Nat.le_refl _
  | cons c l ih =>
    have e : chW (c :: l) = 3 + 5 * c.gs.length + chW l := by simp [chW]
    rw [e, List.length_cons]; omega
theorem Rdd.play {s : ByteArray} (h : Rdd s) (h0 : (rdF s).e = 0) : PlOk (parF s).bs := by
  have hs := (rd0c h0).1
  refine ⟨h.rd.pos, (fineS h0).1, fun b hb => ?_, (fineS h0).2.2, fun b hb t ht => op_lt (h.jp.st b hb t ht).1, fun b hb => ?_⟩
  · have h1 := h.w b hb
    have h2 := chW_ge b.chs
    omega
  · have he := h.jp.e b hb
    have hg := h.rd.goals b hb
    rcases he with he | he | he
    · have e : b.e.op = 46 := he.1
      exact ⟨by omega, fun h => absurd e h, fun h => by omega⟩
    · have e : b.e.op = 62 := he.1
      refine ⟨by omega, fun _ => hg b.e.one ?_, fun h => by omega⟩
      unfold goalsF; rw [if_pos e]; simp
    · have e : b.e.op = 63 := he.1
      refine ⟨by omega, fun _ => hg b.e.one ?_, fun _ => hg b.e.two ?_⟩
      · unfold goalsF; rw [if_neg (by omega), if_pos e]; simp
      · unfold goalsF; rw [if_neg (by omega), if_pos e]; simp
theorem enRF_lens : ∀ (bs : List RBlk) (i n : Nat), (enRF i n bs).length = ((absP bs).map fun b => b.chs.length).sum
  | [], _, _ => rfl
  | b :: bs, i, n => by
    rw [enRF, List.length_append, enRF_lens bs, enRB_len]
    show _ = (((absB b) :: absP bs).map fun b => b.chs.length).sum
    rw [List.map_cons, List.sum_cons]
    congr 1
    simp [absB]
theorem gsN_lens : ∀ (bs : List RBlk) (i n : Nat), (∀ b ∈ bs, ∀ c ∈ b.chs, c.rs.length = c.gs.length) → gsN (enRF i n bs) = ((absP bs).map fun b => (b.chs.map fun c => c.src.length).sum).sum
  | [], _, _, _ => rfl
  | b :: bs, i, n, h => by
    rw [enRF, gsN_app, gsN_lens bs _ _ (fun x hx => h x (List.mem_cons_of_mem _ hx))]
    show _ = (((absB b) :: absP bs).map fun b => (b.chs.map fun c => c.src.length).sum).sum
    rw [List.map_cons, List.sum_cons]
    congr 1
    show gsN ((b.chs.zipIdx n).map fun p => (i, p.2, p.1)) = ((b.chs.map absC).map fun c => c.src.length).sum
    unfold gsN
    rw [List.map_map, List.map_map]
    show ((b.chs.zipIdx n).map ((fun c : RCho => c.gs.length) ∘ Prod.fst)).sum = _
    rw [← List.map_map, List.zipIdx_map_fst]
    congr 1
    refine List.map_congr_left (fun c hc => ?_)
    show c.gs.length = ((c.gs.map (·.1)).zip (c.rs.map (·.1))).length
    have := h b (List.mem_cons_self ..) c hc
    simp; omega
theorem Rdd.en {s : ByteArray} (h : Rdd s) (hs : s.size ≤ 40000) : EnL (parF s).bs ∧ Few (absP (parF s).bs) := by
  have f := few_of h.jp hs h.rd
  refine ⟨⟨?_, ?_⟩, f⟩
  · rw [enRF_lens]; exact f.c
  · rw [gsN_lens _ _ _ h.rd.rs]
    have := f.all
    omega
def oldE (s : ByteArray) : Nat := if upE 40000 s = 0 then (if (newF (parF s).bs).isSome then 5 else 0) else upE 40000 s
def oldA (s : ByteArray) : Int := if upE 40000 s = 0 then (((newF (parF s).bs).getD 0 : Nat) : Int) else (rdF s).at_

set_option maxHeartbeats 1000000 in
theorem readOldP (s : ByteArray) (w : World) (hs : s.size ≤ maxLen) :
    Calls Tryz.prog 34 #[.string s] w fun x w' => ∃ v, x = .returned (.tuple #[v, .int .i64 (oldE s), .int .i64 (oldA s)]) ∧ Hid ((oldE s = 0 → PBs w' w.heap.size (parF s).bs v) ∧ Below w.heap.size w w') := by
  go_enter Tryz.func34, Tryz.ntmps34
  go_wp2_with fail
  refine (readUpP 40000 (by omega) s w hs).mono ?_
  rintro x w1 ⟨v1, rfl, H1⟩
  by_cases h0 : upE 40000 s = 0
  · have HP := stop (H1.out.1 h0)
    obtain ⟨h1, h2⟩ := upE_zero h0
    have hR := rdd_of h1
    have hreg := hR.reg (by omega)
    have h12 := hR.rd.le
    have HREG := stop hreg
    rw [h0]
    cases hn : newF (parF s).bs with
    | none =>
      have HE : Hid (oldE s = 0 ∧ oldA s = 0) := ⟨by rw [oldE, if_pos h0, hn]; rfl, by rw [oldA, if_pos h0, hn]; rfl⟩
      have HNW : Hid (∀ w', Calls Tryz.prog 61 #[v1] w' (fun x w'' => x = .returned (.tuple #[.int .i64 0, .bool false]) ∧ Below w'.heap.size w' w'') ∨ True) := fun _ => .inr trivial
      obtain ⟨p1, c1, rfl⟩ := HP.out.slice
      have HC := stop (newRegP (parF s).bs w.heap.size _ w1 HP.out (by omega) HREG.out)
      rw [hn] at HC
      clear h0 h1 h2 hR hreg hn HNW
      go_wp2_with fail
      refine HC.out.mono ?_
      rintro x w2 ⟨rfl, f2⟩
      have R : Hid (PBs w2 w.heap.size (parF s).bs (.slice p1 (parF s).bs.length c1) ∧ Below w.heap.size w w2) := ⟨HP.out.keeps (Keeps.below f2), H1.out.2.trans (f2.mono H1.out.2.size)⟩
      clear f2 HC
      go_wp2_with fail
      go_ret3
      exact ⟨_, by rw [HE.out.1, HE.out.2]; rfl, fun _ => R.out.1, R.out.2⟩
    | some a =>
      have HE : Hid (oldE s = 5 ∧ oldA s = a) := ⟨by rw [oldE, if_pos h0, hn]; rfl, by rw [oldA, if_pos h0, hn]; rfl⟩
      obtain ⟨p1, c1, rfl⟩ := HP.out.slice
      have HC := stop (newRegP (parF s).bs w.heap.size _ w1 HP.out (by omega) HREG.out)
      rw [hn] at HC
      clear h0 h1 h2 hR hreg hn
      go_wp2_with fail
      refine HC.out.mono ?_
      rintro x w2 ⟨rfl, f2⟩
      have F2 := stop (H1.out.2.trans (f2.mono H1.out.2.size))
      clear f2 HC
      go_wp2_with fail
      go_ret3
      exact ⟨_, by rw [HE.out.1, HE.out.2]; rfl, (fun h => by rw [HE.out.1] at h; cases h), F2.out⟩
  · have HE : Hid (oldE s = upE 40000 s ∧ oldA s = (rdF s).at_ ∧ upE 40000 s ≠ 0) := ⟨by rw [oldE, if_neg h0], by rw [oldA, if_neg h0], h0⟩
    have hd : ((upE 40000 s : Int) != 0) = true := by simp; omega
    clear h0
    go_wp2_with fail
    go_ret3
    exact ⟨_, by rw [HE.out.1, HE.out.2.1]; rfl, (fun h => by rw [HE.out.1] at h; exact absurd h HE.out.2.2), H1.out.2⟩

end Go.Proofs.YtgfhfkgdmidhpaaGreatDoor

namespace Go.Proofs.YtgfhfkgdmidhpaaGreatDoor
open Go.RowKit

/-- What Plain answers. -/
def plnT (s : ByteArray) : List UInt8 := if oldE s = 0 then prT (plnA (absP (parF s).bs)) else []
theorem oldE_zero {s : ByteArray} (h : oldE s = 0) : upE 40000 s = 0 ∧ newF (parF s).bs = none := by
  unfold oldE at h
  by_cases h0 : upE 40000 s = 0
  · rw [if_pos h0] at h
    refine ⟨h0, ?_⟩
    cases hn : newF (parF s).bs with
    | none => rfl
    | some x => rw [hn] at h; cases h
  · rw [if_neg h0] at h; exact absurd h h0
theorem oldA_zero {s : ByteArray} (h : oldE s = 0) : oldA s = 0 := by
  obtain ⟨h1, h2⟩ := oldE_zero h
  rw [oldA, if_pos h1, h2]; rfl
structure PlnAll (s : ByteArray) : Prop where
  rdd : Rdd s
  sz : s.size ≤ 40000
  nw : newF (parF s).bs = none
  en : EnL (parF s).bs
  few : Few (absP (parF s).bs)
  ok : PlnOk (absP (parF s).bs)
theorem pln_all {s : ByteArray} (h : oldE s = 0) : PlnAll s := by
  obtain ⟨h1, h2⟩ := oldE_zero h
  obtain ⟨h3, h4⟩ := upE_zero h1
  have r := rdd_of h3
  obtain ⟨e1, e2⟩ := r.en h4
  exact ⟨r, h4, h2, e1, e2, pln_ok r.jp r.rd h2⟩
theorem PlnAll.okA {s : ByteArray} (h : PlnAll s) : ∀ b ∈ absP (parF s).bs, OkA b := fun b hb => by
  obtain ⟨c, hc, rfl⟩ := List.mem_map.1 hb
  refine ⟨fun t ht => ?_, h.rdd.jp.e c hc⟩
  obtain ⟨x, hx, rfl⟩ := List.mem_map.1 ht
  exact (h.rdd.jp.st c hc x hx).1
theorem PlnAll.text {s : ByteArray} (h : PlnAll s) : (∀ b ∈ plnR (parF s).bs, b.chs = []) ∧ (∀ b ∈ plnR (parF s).bs, ∀ t ∈ b.sts, OkS (absS t)) ∧ (∀ b ∈ plnR (parF s).bs, OkE (absE b.e)) ∧ (∀ b ∈ plnR (parF s).bs, b.sts.length ≤ 200000) ∧ (prT (absP (plnR (parF s).bs))).length ≤ 200000 ∧ (plnR (parF s).bs).length ≤ 1000 := by
  have hB : ∀ b ∈ plnR (parF s).bs, OkB (absB b) := fun b hb => pln_fine h.ok h.few h.okA _ (by rw [← pln_abs]; exact List.mem_map.2 ⟨b, hb, rfl⟩)
  have hl : (absP (parF s).bs).length = (parF s).bs.length := by simp [absP]
  refine ⟨fun b hb => ?_, fun b hb t ht => ?_, fun b hb => (hB b hb).e, fun b hb => ?_, ?_, ?_⟩
  · have := (hB b hb).chs
    have : b.chs.map absC = [] := this
    simpa using this
  · exact (hB b hb).sts _ (List.mem_map.2 ⟨t, ht, rfl⟩)
  · unfold plnR at hb
    rw [List.mem_mapIdx] at hb
    obtain ⟨k, hk, rfl⟩ := hb
    show (firR (enRF 0 5000 (parF s).bs) k ++ (parF s).bs[k].sts ++ lasR (enRF 0 5000 (parF s).bs) k).length ≤ _
    rw [List.length_append, List.length_append]
    have h1 := firR_len (enRF 0 5000 (parF s).bs) k
    have h2 := lasR_len (enRF 0 5000 (parF s).bs) k
    have h3 := h.en.c
    have h4 := h.en.r
    have h5 := h.rdd.w _ (List.getElem_mem hk)
    have h6 := h.sz
    omega
  · rw [pln_abs]; exact pln_len h.ok h.few h.okA (by rw [hl]; exact h.rdd.rd.le)
  · rw [plnR_len]; have := h.rdd.rd.le; omega

set_option maxHeartbeats 1000000 in
theorem SoloPlain (s : ByteArray) (w : World) (hs : s.size ≤ maxLen) (ht : Tab w) :
    Calls Tryz.prog 17 #[.string s] w fun x w' => x = .returned (.tuple #[.string ⟨(plnT s).toArray⟩, .int .i64 (oldE s), .int .i64 (oldA s)]) ∧ Below w.heap.size w w' := by
  go_enter Tryz.func17, Tryz.ntmps17
  go_wp2_with fail
  refine (readOldP s w hs).mono ?_
  rintro x w1 ⟨v1, rfl, H1⟩
  by_cases h0 : oldE s = 0
  · have HP := stop (H1.out.1 h0)
    have hA := pln_all h0
    have HA := stop hA
    have HE : Hid (oldE s = 0 ∧ oldA s = 0) := ⟨h0, oldA_zero h0⟩
    have HT : Hid (plnT s = prT (absP (plnR (parF s).bs))) := by show _ = _; rw [plnT, if_pos h0, pln_abs]
    have HC := stop (PlainP (parF s).bs w.heap.size v1 w1 HP.out hA.rdd.rd.le hA.en (fun b hb => by have := hA.rdd.w b hb; have := hA.sz; omega) (goalsS (upE_zero (oldE_zero h0).1).1))
    obtain ⟨p1, c1, rfl⟩ := HP.out.slice
    rw [h0]
    clear h0 hA
    go_wp2_with fail
    refine HC.out.mono ?_
    rintro x w2 ⟨v2, rfl, H2⟩
    obtain ⟨p2, c2, rfl⟩ := H2.out.1.slice
    have F2 := stop (H1.out.2.trans (H2.out.2.mono H1.out.2.size))
    have HX := HA.out.text
    go_wp2_with fail
    refine (TextP (plnR (parF s).bs) w1.heap.size _ w2 H2.out.1 HX.2.2.2.2.2 HX.1 HX.2.1 HX.2.2.1 HX.2.2.2.1 HX.2.2.2.2.1 (ht.keep F2.out)).mono ?_
    rintro x w3 ⟨rfl, f3⟩
    have F3 := stop (F2.out.trans (f3.mono F2.out.size))
    clear f3 HX HC
    go_wp2_with fail
    go_ret3
    exact ⟨by rw [HT.out, HE.out.1, HE.out.2]; rfl, F3.out⟩
  · have HT : Hid (plnT s = []) := by show _ = _; rw [plnT, if_neg h0]
    have hd : ((oldE s : Int) != 0) = true := by simp; omega
    clear h0
    go_wp2_with fail
    go_ret3
    exact ⟨by rw [HT.out]; rfl, H1.out.2⟩

end Go.Proofs.YtgfhfkgdmidhpaaGreatDoor
