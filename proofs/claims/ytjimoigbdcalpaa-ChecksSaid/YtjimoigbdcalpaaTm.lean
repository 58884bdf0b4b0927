import Derived.Test.YtjimoigbdcalpaaTl
namespace Go.Proofs.Ytjimoigbdcalpaa
open Go.RowKit

theorem flat_get {α : Type} (c : Nat) : ∀ (L : List (List α)) (k j : Nat) (l : List α), (∀ x ∈ L, x.length = c) → L[k]? = some l → j < c → L.flatten[k * c + j]? = l[j]?
  | [], k, j, l, _, h, _ => by simp at h
  | x :: L, 0, j, l, hc, h, hj => by
    simp at h; subst h
    have := hc x (by simp)
    simp [List.getElem?_append_left (show j < x.length by omega)]
  | x :: L, k + 1, j, l, hc, h, hj => by
    have hx := hc x (by simp)
    rw [List.flatten_cons, List.getElem?_append_right (by rw [hx, Nat.add_mul]; omega), hx, show (k + 1) * c + j - c = k * c + j from by rw [Nat.add_mul]; omega]
    exact flat_get c L k j l (fun y hy => hc y (by simp [hy])) (by simpa using h) hj
theorem BlkAll.at {w base} : ∀ {bs vs}, BlkAll w base bs vs → ∀ {k} (hk : k < bs.length), ∃ v, vs[k]? = some v ∧ ChsOwn w base bs[k].chs v.1 ∧ w.ownsRow base 116 8 v.2 bs[k].sts.length (bs[k].sts.flatMap stepCells)
  | [], [], _, k, hk => absurd hk (by simp)
  | c :: cs, v :: vs, h, 0, _ => ⟨v, rfl, h.1.1, h.1.2⟩
  | c :: cs, v :: vs, h, k + 1, hk => by
    obtain ⟨u, a, b, d⟩ := BlkAll.at h.2 (k := k) (by simpa using hk)
    exact ⟨u, by simpa using a, by simpa using b, by simpa using d⟩
  | [], _ :: _, h, _, _ => h.elim
  | _ :: _, [], h, _, _ => h.elim
theorem blkFlat_at {bs vs} {k : Nat} (hk : k < bs.length) {v} (hv : vs[k]? = some v) {j : Nat} (hj : j < 10) : (blkFlat bs vs)[k * 10 + j]? = (blkCells v.1 v.2 bs[k].e bs[k].at_)[j]? := by
  refine flat_get 10 _ k j _ ?_ ?_ hj
  · intro x hx
    rw [List.mem_iff_getElem?] at hx
    obtain ⟨n, hn⟩ := hx
    rw [List.getElem?_zipWith] at hn
    split at hn
    · cases hn; rfl
    · cases hn
  · rw [List.getElem?_zipWith, hv, List.getElem?_eq_getElem hk]
    rfl
theorem BlksOwn.at {w : World} {base : Nat} {bs : List RBlk} {p : Option Addr} {m cap : Nat} (h : BlksOwn w base bs (.slice p m cap)) {k : Nat} (hk : k < bs.length) :
    ∃ g qc cc ps cs, p = some ⟨g, 0, none⟩ ∧ base ≤ g ∧ g < w.heap.size ∧ ChsOwn w base bs[k].chs (.slice qc bs[k].chs.length cc) ∧ w.ownsRow base 116 8 (.slice ps bs[k].sts.length cs) bs[k].sts.length (bs[k].sts.flatMap stepCells) ∧
      (∀ j u, (blkCells (.slice qc bs[k].chs.length cc) (.slice ps bs[k].sts.length cs) bs[k].e bs[k].at_)[j]? = some u → w.cell? ⟨g, k * 10 + j, none⟩ = some u) := by
  obtain ⟨vs, a, b⟩ := h
  obtain ⟨v, hv, hc, hs⟩ := b.at hk
  obtain ⟨p', c', e1⟩ := owns_slice2 a
  cases e1
  obtain ⟨g, rfl, hb, hg⟩ := owns_form a (by omega)
  obtain ⟨qc, cc, e2⟩ := hc.slice
  obtain ⟨ps, cs, e3⟩ := owns_slice2 hs
  refine ⟨g, qc, cc, ps, cs, rfl, hb, hg, by rw [← e2]; exact hc, by rw [← e3]; exact hs, ?_⟩
  intro j u hu
  refine owns_cell a ?_
  have hj : j < 10 := by
    have : j < (blkCells (.slice qc bs[k].chs.length cc) (.slice ps bs[k].sts.length cs) bs[k].e bs[k].at_).length := by
      rcases Nat.lt_or_ge j (blkCells (.slice qc bs[k].chs.length cc) (.slice ps bs[k].sts.length cs) bs[k].e bs[k].at_).length with h | h
      · exact h
      · rw [List.getElem?_eq_none h] at hu; cases hu
    exact this
  rw [blkFlat_at hk hv hj, e2, e3]
  exact hu

def aheB (bs : List RBlk) (k i : Nat) : Bool := match bs[i]? with | some b => hasF (behF (goalsF b.e)) k | none => false
def aheTo (bs : List RBlk) (k m : Nat) : List Nat := (List.range m).filter (aheB bs k)
def aheF (bs : List RBlk) (k : Nat) : List Nat := aheTo bs k bs.length
theorem aheTo_succ (bs k m) : aheTo bs k (m + 1) = if aheB bs k m then aheTo bs k m ++ [m] else aheTo bs k m := by
  rw [aheTo, List.range_succ, List.filter_append]
  cases h : aheB bs k m <;> simp [h, aheTo]
theorem aheTo_len (bs k m) : (aheTo bs k m).length ≤ m := by
  have := List.length_filter_le (aheB bs k) (List.range m); simpa [aheTo] using this

set_option maxRecDepth 100000 in
set_option maxHeartbeats 400000 in
theorem ahead_any (bs : List RBlk) (k : Nat) (base : Nat) (v : Value) (w : World) (h : BlksOwn w base bs v) (hl : bs.length ≤ 1000000) :
    Calls Try.prog 26 #[v, .int .i64 k] w fun x w' => ∃ v', x = .returned v' ∧ w'.ownsRow w.heap.size 3 1 v' (aheF bs k).length (icell (aheF bs k)) ∧ Below w.heap.size w w' := by
  obtain ⟨pv, cv, rfl⟩ := h.slice
  go_enter Try.func26, Try.ntmps26
  go_wp2_with fail
  go_loopw [5, 6] (fun l i wr => ∃ m : Nat, m ≤ bs.length ∧ i = .int .i64 m ∧ wr.ownsRow w.heap.size 3 1 l (aheTo bs k m).length (icell (aheTo bs k m)) ∧ Hid (Below w.heap.size w wr)) (fun _ i _ => bs.length - (intOf i).toNat)
  case atStart => exact ⟨0, by omega, rfl, World.ownsRow_nil _ _ _ _, Below.refl _ _⟩
  case round =>
    obtain ⟨m, hm, rfl, OL, F⟩ := hrel
    obtain ⟨pl, cl, rfl⟩ := owns_slice2 OL
    by_cases hlt : m < bs.length
    · have hB := h.keeps3 (Keeps.below F.out)
      obtain ⟨g, qc, cc, ps, cs, rfl, _, _, _, _, hc⟩ := hB.at hlt
      have d0 : wr.cell? ⟨g, m * 10, none⟩ = _ := hc 0 _ rfl
      have d1 := hc 1 _ rfl
      have d2 := hc 2 _ rfl
      have d3 := hc 3 _ rfl
      have d4 := hc 4 _ rfl
      have d5 := hc 5 _ rfl
      have d6 := hc 6 _ rfl
      have d7 := hc 7 _ rfl
      have d8 := hc 8 _ rfl
      have d9 := hc 9 _ rfl
      clear hc hB
      go_wp2_with fail
      refine (behind_any qc _ cc ps _ cs bs[m].e _ _).mono ?_
      rintro x w1 ⟨v1, rfl, O1, f1⟩
      replace OL := owns_keeps OL (Keeps.below (T := fun _ => True) f1) trivial
      have hz1 := f1.size
      have hz0 := F.out.size
      replace F := stop (F.out.trans (f1.mono hz0))
      replace O1 := owns_base O1 hz0
      clear f1 d0 d1 d2 d3 d4 d5 d6 d7 d8 d9
      obtain ⟨p1, c1, rfl⟩ := owns_slice2 O1
      have HE : aheB bs k m = hasF (behF (goalsF bs[m].e)) k := by simp [aheB, hlt]
      go_wp2_with fail
      have hbl : (behF (goalsF bs[m].e)).length ≤ 1000000 := by
        have := goalsF_le bs[m].e
        generalize goalsF bs[m].e = gl at *
        match gl, this with
        | [], _ => simp [behF]
        | [x], _ => simp [behF]
        | [x, y], _ => simp only [behF]; split <;> simp
      refine (has_any _ k _ _ _ O1 hbl).mono ?_
      rintro x w2 ⟨rfl, rfl⟩
      rw [← HE]
      have HA := aheTo_succ bs k m
      have hal := aheTo_len bs k m
      cases hh : aheB bs k m with
      | true =>
        rw [hh, if_pos rfl] at HA
        have HA' := stop HA
        clear HA HE hh O1 hbl
        go_wp2_with (at_builtin; refine unstop ?_)
        refine stop ?_
        have gB := heap_alloc_last w2 (.cells #[.int .i64 m] 3)
        replace OL := OL.alloc (.cells #[.int .i64 m] 3)
        refine app1 Try.underlying87 Try.info3 rfl (by decide) (by decide) rfl _ _ rfl rfl OL gB rfl rfl (List.all_eq_true.1 rfl) (by omega) (by simp; omega) ?_
        intro v3 wS oS gS
        replace F := stop (Below.grown (F.out.alloc (by omega) (.cells #[.int .i64 m] 3)) gS (by simp; omega) (fun j hj => by have := (OL.lt j hj).1; omega))
        clear gS gB OL
        obtain ⟨p5, c5, rfl⟩ := owns_slice2 oS
        go_wp2_with fail
        go_roundw
        case rel => exact ⟨m + 1, by omega, by go_num, by rw [HA'.out, List.length_append]; simpa [icell] using oS, F⟩
        case measure => simp [intOf]; omega
      | false =>
        rw [hh, if_neg (by simp)] at HA
        have HA' := stop HA
        clear HA HE hh O1 hbl
        go_wp2_with fail
        go_roundw
        case rel => exact ⟨m + 1, by omega, by go_num, by rw [HA'.out]; exact OL, F⟩
        case measure => simp [intOf]; omega
    · have hme : m = bs.length := by omega
      subst hme
      go_wp2_with fail
      go_ret
      exact ⟨_, rfl, OL, F.out⟩
end Go.Proofs.Ytjimoigbdcalpaa
