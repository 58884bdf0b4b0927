import Derived.Test.YtgfhfkgdmidhpaaGreatRA
namespace Go.Proofs.YtgfhfkgdmidhpaaGreat
open Go.RowKit

/-- A list without a number. -/
def wo (l : List Nat) (x : Nat) : List Nat := l.filter fun y => y != x
theorem wo_mem {l : List Nat} {x y : Nat} : y ∈ wo l x ↔ y ∈ l ∧ y ≠ x := by simp [wo]
theorem wo_srt {l : List Nat} (x : Nat) (h : l.Pairwise (· < ·)) : (wo l x).Pairwise (· < ·) := List.Pairwise.filter _ h
theorem wo_len (l : List Nat) (x : Nat) : (wo l x).length ≤ l.length := List.length_filter_le _ _
theorem wo_take {l : List Nat} {x j : Nat} (hj : j < l.length) : wo (l.take (j + 1)) x = if l[j] != x then wo (l.take j) x ++ [l[j]] else wo (l.take j) x := by
  rw [List.take_succ_eq_append_getElem hj, wo, List.filter_append]
  cases h : l[j] != x <;> simp [h, wo]

set_option maxRecDepth 100000 in
set_option maxHeartbeats 1000000 in
theorem outR (l : List Nat) (x base : Nat) (v : Value) (w : World) (h : w.ownsRow base 3 1 v l.length (icell l)) (hl : l.length ≤ 1000000) :
    Calls Tryz.prog 88 #[v, .int .i64 x] w fun r w' => ∃ v', r = .returned v' ∧ w'.ownsRow w.heap.size 3 1 v' (wo l x).length (icell (wo l x)) ∧ Below w.heap.size w w' := by
  obtain ⟨p1, c1, rfl⟩ := owns_slice2 h
  have HA := stop h
  clear h
  go_enter Tryz.func88, Tryz.ntmps88
  go_wp2_with fail
  go_loopw [5, 6] (fun o i wr => ∃ m : Nat, m ≤ l.length ∧ i = .int .i64 m ∧ wr.ownsRow w.heap.size 3 1 o (wo (l.take m) x).length (icell (wo (l.take m) x)) ∧ Hid (Below w.heap.size w wr)) (fun _ i _ => l.length - (intOf i).toNat)
  case atStart => exact ⟨0, by omega, rfl, World.ownsRow_nil _ _ _ _, Below.refl _ _⟩
  case round =>
    obtain ⟨m, hm, rfl, OL, F⟩ := hrel
    obtain ⟨pl, cl, rfl⟩ := owns_slice2 OL
    have hz := F.out.size
    by_cases hlt : m < l.length
    · have OA := owns_keeps HA.out (Keeps.below (T := fun _ => True) F.out) trivial
      obtain ⟨g1, rfl, _, _⟩ := owns_form OA (by omega)
      have k1 := owns_cell OA (icell_at hlt)
      have HT := wo_take (x := x) hlt
      have hal : (wo (l.take m) x).length ≤ m := Nat.le_trans (wo_len _ _) (by rw [List.length_take]; omega)
      clear OA
      by_cases hx : l[m] = x
      · have hb : (l[m] != x) = false := by simp [hx]
        have hd : ((l[m] : Int) != (x : Int)) = false := by simp [hx]
        rw [hb, if_neg (by simp)] at HT
        have HT' := stop HT
        have OLH := stop OL
        clear hx hb HT OL
        generalize l[m] = y at *
        go_wp2_with fail
        go_roundw
        case rel => exact ⟨m + 1, by omega, by go_num, by rw [HT'.out]; exact OLH.out, F⟩
        case measure => simp [intOf]; omega
      · have hb : (l[m] != x) = true := by simp [hx]
        have hd : ((l[m] : Int) != (x : Int)) = true := by simp; omega
        rw [hb, if_pos rfl] at HT
        have HT' := stop HT
        clear hx hb HT
        generalize l[m] = y at *
        go_wp2_with (at_builtin; refine unstop ?_)
        refine stop ?_
        have gB := heap_alloc_last wr (.cells #[.int .i64 y] 3)
        replace OL := OL.alloc (.cells #[.int .i64 y] 3)
        refine app1 Tryz.underlying29 Tryz.info3 rfl (by decide) (by decide) rfl _ _ rfl rfl OL gB rfl rfl (List.all_eq_true.1 rfl) (by omega) (by simp; omega) ?_
        intro v3 wS oS gS
        have F3 := stop (Below.grown (F.out.alloc (by omega) (.cells #[.int .i64 y] 3)) gS (by simp; omega) (fun j hj => by have := (OL.lt j hj).1; omega))
        clear gS gB OL
        obtain ⟨p5, c5, rfl⟩ := owns_slice2 oS
        go_wp2_with fail
        go_roundw
        case rel => exact ⟨m + 1, by omega, by go_num, by rw [HT'.out, List.length_append]; simpa [icell] using oS, F3⟩
        case measure => simp [intOf]; omega
    · have hme : m = l.length := by omega
      subst hme
      simp only [List.take_length] at OL ⊢
      have O9 := stop OL
      clear OL
      go_wp2_with fail
      go_ret
      exact ⟨_, rfl, O9.out, F.out⟩

end Go.Proofs.YtgfhfkgdmidhpaaGreat

namespace Go.Proofs.YtgfhfkgdmidhpaaGreat
open Go.RowKit

/-- A number is put into a rising list. -/
def ptF (l : List Nat) (x : Nat) : List Nat := ofL (l ++ [x])
theorem ptF_mem {l : List Nat} {x y : Nat} : y ∈ ptF l x ↔ y ∈ l ∨ y = x := by rw [ptF, ofL_mem, List.mem_append, List.mem_singleton]
theorem ptF_srt (l x) : (ptF l x).Pairwise (· < ·) := ofL_srt _
theorem ptF_len (l : List Nat) (x : Nat) : (ptF l x).length ≤ l.length + 1 := by
  have := ofL_len (l ++ [x]); rw [List.length_append] at this; exact this
def dnF (l : List Nat) (x m : Nat) : Bool := (l.take m).any fun y => decide (x ≤ y)
def ptTo (l : List Nat) (x m : Nat) : List Nat := if dnF l x m then ptF (l.take m) x else l.take m
theorem dnF_succ {l : List Nat} {x m : Nat} (hm : m < l.length) : dnF l x (m + 1) = (dnF l x m || decide (x ≤ l[m])) := any_take hm
theorem ptTo_len (l : List Nat) (x m : Nat) : (ptTo l x m).length ≤ l.length + 1 := by
  unfold ptTo
  have hm : (l.take m).length ≤ l.length := by rw [List.length_take]; omega
  split
  · have := ptF_len (l.take m) x; omega
  · omega
theorem take_lt {l : List Nat} (h : l.Pairwise (· < ·)) {m : Nat} (hm : m < l.length) : ∀ y ∈ l.take m, y < l[m] := fun y hy => by
  obtain ⟨j, hj, rfl⟩ := List.getElem_of_mem hy
  rw [List.length_take] at hj
  rw [List.getElem_take]
  exact List.pairwise_iff_getElem.1 h j m (by omega) hm (by omega)
theorem take_srt {l : List Nat} (h : l.Pairwise (· < ·)) (m : Nat) : (l.take m).Pairwise (· < ·) := h.sublist (List.take_sublist _ _)
theorem srt_snoc {l : List Nat} {x : Nat} (h : l.Pairwise (· < ·)) (hx : ∀ y ∈ l, y < x) : (l ++ [x]).Pairwise (· < ·) := by
  rw [List.pairwise_append]
  exact ⟨h, List.pairwise_singleton _ _, fun a ha b hb => by rw [List.mem_singleton] at hb; subst hb; exact hx a ha⟩
theorem dnF_no {l : List Nat} {x m : Nat} (h : dnF l x m = false) : ∀ y ∈ l.take m, y < x := fun y hy => by
  have := List.any_eq_false.1 h y hy
  simpa using this
theorem dnF_yes {l : List Nat} {x m : Nat} (h : dnF l x m = true) : ∃ y ∈ l.take m, x ≤ y := by
  obtain ⟨y, hy, hx⟩ := List.any_eq_true.1 h
  exact ⟨y, hy, by simpa using hx⟩
theorem pt_a {l : List Nat} {x m : Nat} (hl : l.Pairwise (· < ·)) (hm : m < l.length) (hd : dnF l x m = false) (hx : x < l[m]) : dnF l x (m + 1) = true ∧ ptTo l x (m + 1) = ptTo l x m ++ [x] ++ [l[m]] := by
  have h1 : dnF l x (m + 1) = true := by rw [dnF_succ hm, hd]; simp; omega
  refine ⟨h1, ?_⟩
  rw [ptTo, if_pos h1, ptTo, hd, if_neg (by simp)]
  have s1 := srt_snoc (take_srt hl m) (dnF_no hd)
  refine srt_ext (ptF_srt _ _) (srt_snoc s1 fun y hy => ?_) fun y => ?_
  · rcases List.mem_append.1 hy with h | h
    · exact take_lt hl hm y h
    · rw [List.mem_singleton.1 h]; exact hx
  · rw [ptF_mem, List.take_succ_eq_append_getElem hm]
    simp only [List.mem_append, List.mem_singleton]
    constructor
    · rintro ((h | h) | h)
      · exact .inl (.inl h)
      · exact .inr h
      · exact .inl (.inr h)
    · rintro ((h | h) | h)
      · exact .inl (.inl h)
      · exact .inr h
      · exact .inl (.inr h)
theorem pt_b {l : List Nat} {x m : Nat} (hl : l.Pairwise (· < ·)) (hm : m < l.length) (hd : dnF l x m = false) (hx : x = l[m]) : dnF l x (m + 1) = true ∧ ptTo l x (m + 1) = ptTo l x m ++ [l[m]] := by
  have h1 : dnF l x (m + 1) = true := by rw [dnF_succ hm, hd]; simp; omega
  refine ⟨h1, ?_⟩
  rw [ptTo, if_pos h1, ptTo, hd, if_neg (by simp)]
  refine srt_ext (ptF_srt _ _) (srt_snoc (take_srt hl m) (take_lt hl hm)) fun y => ?_
  rw [ptF_mem, List.take_succ_eq_append_getElem hm, ← hx]
  simp only [List.mem_append, List.mem_singleton]
  constructor
  · rintro (h | h)
    · exact h
    · exact .inr h
  · exact .inl
theorem pt_c {l : List Nat} {x m : Nat} (hm : m < l.length) (hd : dnF l x m = false) (hx : l[m] < x) : dnF l x (m + 1) = false ∧ ptTo l x (m + 1) = ptTo l x m ++ [l[m]] := by
  have h1 : dnF l x (m + 1) = false := by rw [dnF_succ hm, hd]; simp; omega
  refine ⟨h1, ?_⟩
  rw [ptTo, h1, if_neg (by simp), ptTo, hd, if_neg (by simp), List.take_succ_eq_append_getElem hm]
theorem pt_d {l : List Nat} {x m : Nat} (hl : l.Pairwise (· < ·)) (hm : m < l.length) (hd : dnF l x m = true) : x < l[m] ∧ dnF l x (m + 1) = true ∧ ptTo l x (m + 1) = ptTo l x m ++ [l[m]] := by
  obtain ⟨z, hz, hxz⟩ := dnF_yes hd
  have hzm := take_lt hl hm z hz
  have h1 : dnF l x (m + 1) = true := by rw [dnF_succ hm, hd]; rfl
  refine ⟨by omega, h1, ?_⟩
  rw [ptTo, if_pos h1, ptTo, if_pos hd]
  refine srt_ext (ptF_srt _ _) (srt_snoc (ptF_srt _ _) fun y hy => ?_) fun y => ?_
  · rcases ptF_mem.1 hy with h | h
    · exact take_lt hl hm y h
    · rw [h]; omega
  · rw [ptF_mem, List.take_succ_eq_append_getElem hm, List.mem_append, List.mem_append, ptF_mem, List.mem_singleton]
    constructor
    · rintro ((h | h) | h)
      · exact .inl (.inl h)
      · exact .inr h
      · exact .inl (.inr h)
    · rintro ((h | h) | h)
      · exact .inl (.inl h)
      · exact .inr h
      · exact .inl (.inr h)
theorem pt_end {l : List Nat} {x : Nat} (hl : l.Pairwise (· < ·)) (hd : dnF l x l.length = false) : ptF l x = ptTo l x l.length ++ [x] := by
  have hx := dnF_no hd
  rw [ptTo, hd, if_neg (by simp)]
  rw [List.take_length] at hx ⊢
  exact srt_ext (ptF_srt _ _) (srt_snoc hl hx) fun y => by rw [ptF_mem, List.mem_append, List.mem_singleton]
theorem pt_end2 {l : List Nat} {x : Nat} (hd : dnF l x l.length = true) : ptF l x = ptTo l x l.length := by
  rw [ptTo, if_pos hd, List.take_length]

set_option maxRecDepth 100000 in
set_option maxHeartbeats 1500000 in
theorem putR (l : List Nat) (x base : Nat) (v : Value) (w : World) (h : w.ownsRow base 3 1 v l.length (icell l)) (hsrt : Hid (l.Pairwise (· < ·))) (hl : l.length ≤ 500000) :
    Calls Tryz.prog 90 #[v, .int .i64 x] w fun r w' => ∃ v', r = .returned v' ∧ w'.ownsRow w.heap.size 3 1 v' (ptF l x).length (icell (ptF l x)) ∧ Below w.heap.size w w' := by
  obtain ⟨p1, c1, rfl⟩ := owns_slice2 h
  have HA := stop h
  clear h
  go_enter Tryz.func90, Tryz.ntmps90
  go_wp2_with fail
  go_loopw [5, 6, 7] (fun o d i wr => ∃ m : Nat, m ≤ l.length ∧ i = .int .i64 m ∧ d = .bool (dnF l x m) ∧ wr.ownsRow w.heap.size 3 1 o (ptTo l x m).length (icell (ptTo l x m)) ∧ Hid (Below w.heap.size w wr)) (fun _ _ i _ => l.length - (intOf i).toNat)
  case atStart => exact ⟨0, by omega, rfl, rfl, World.ownsRow_nil _ _ _ _, Below.refl _ _⟩
  case round =>
    obtain ⟨m, hm, rfl, rfl, OL, F⟩ := hrel
    obtain ⟨pl, cl, rfl⟩ := owns_slice2 OL
    have hz := F.out.size
    have hal := ptTo_len l x m
    by_cases hlt : m < l.length
    · have OA := owns_keeps HA.out (Keeps.below (T := fun _ => True) F.out) trivial
      obtain ⟨g1, rfl, _, _⟩ := owns_form OA (by omega)
      have k1 := owns_cell OA (icell_at hlt)
      clear OA
      cases hd : dnF l x m with
      | true =>
        have HT2 := pt_d hsrt.out hlt hd
        have hxl := HT2.1
        have HT := stop HT2.2
        have h2 : ¬ (x = l[m]) := by omega
        clear hd HT2 hxl
        have OLH := stop OL
        clear OL
        go_wp2_with (at_builtin; refine unstop ?_)
        refine stop ?_
        have gB := heap_alloc_last wr (.cells #[.int .i64 l[m]] 3)
        have OB := OLH.out.alloc (.cells #[.int .i64 l[m]] 3)
        refine app1 Tryz.underlying29 Tryz.info3 rfl (by decide) (by decide) rfl _ _ rfl rfl OB gB rfl rfl (List.all_eq_true.1 rfl) (by omega) (by simp; omega) ?_
        intro v3 w3 oS gS
        have F3 := stop (Below.grown (F.out.alloc (by omega) (.cells #[.int .i64 l[m]] 3)) gS (by simp; omega) (fun j hj => by have := (OB.lt j hj).1; omega))
        have w3z := F3.out.size
        obtain ⟨v3p, v3c, rfl⟩ := owns_slice2 oS
        have O3 := stop oS
        clear gS gB OB oS
        go_wp2_with fail
        go_roundw
        case rel => exact ⟨m + 1, by omega, by go_num, by rw [HT.out.1], by rw [HT.out.2, List.length_append]; simpa [icell] using O3.out, F3⟩
        case measure => simp [intOf]; omega
      | false =>
        by_cases hx : x < l[m]
        · have HT := stop (pt_a hsrt.out hlt hd hx)
          have h1 : x < l[m] := hx
          have h2 : ¬ (x = l[m]) := by omega
          clear hd hx
          have OLH := stop OL
          clear OL
          go_wp2_with (at_builtin; refine unstop ?_)
          refine stop ?_
          have gB := heap_alloc_last wr (.cells #[.int .i64 x] 3)
          have OB := OLH.out.alloc (.cells #[.int .i64 x] 3)
          refine app1 Tryz.underlying29 Tryz.info3 rfl (by decide) (by decide) rfl _ _ rfl rfl OB gB rfl rfl (List.all_eq_true.1 rfl) (by omega) (by simp; omega) ?_
          intro v3 w3 oS gS
          have F3 := stop (Below.grown (F.out.alloc (by omega) (.cells #[.int .i64 x] 3)) gS (by simp; omega) (fun j hj => by have := (OB.lt j hj).1; omega))
          have w3z := F3.out.size
          obtain ⟨v3p, v3c, rfl⟩ := owns_slice2 oS
          have O3 := stop oS
          clear gS gB OB oS
          have k3 := owns_cell (owns_keeps HA.out (Keeps.below (T := fun _ => True) F3.out) trivial) (icell_at hlt)
          clear k1
          go_wp2_with (at_builtin; refine unstop ?_)
          refine stop ?_
          have gB := heap_alloc_last w3 (.cells #[.int .i64 l[m]] 3)
          have OB := O3.out.alloc (.cells #[.int .i64 l[m]] 3)
          refine app1 Tryz.underlying29 Tryz.info3 rfl (by decide) (by decide) rfl _ _ rfl rfl OB gB rfl rfl (List.all_eq_true.1 rfl) (by omega) (by simp; omega) ?_
          intro v4 w4 oS gS
          have F4 := stop (Below.grown (F3.out.alloc (by omega) (.cells #[.int .i64 l[m]] 3)) gS (by simp; omega) (fun j hj => by have := (OB.lt j hj).1; omega))
          have w4z := F4.out.size
          obtain ⟨v4p, v4c, rfl⟩ := owns_slice2 oS
          have O4 := stop oS
          clear gS gB OB oS
          go_wp2_with fail
          go_roundw
          case rel => exact ⟨m + 1, by omega, by go_num, by rw [HT.out.1], by rw [HT.out.2, List.length_append, List.length_append]; simpa [icell] using O4.out, F4⟩
          case measure => simp [intOf]; omega
        · by_cases hx2 : x = l[m]
          · clear hx
            have hx := hx2
            clear hx2
            have HT := stop (pt_b hsrt.out hlt hd hx)
            have hb1 := icell_at hlt
            rw [← hx] at HT k1
            clear hd hx hb1
            have OLH := stop OL
            clear OL
            go_wp2_with (at_builtin; refine unstop ?_)
            refine stop ?_
            have gB := heap_alloc_last wr (.cells #[.int .i64 x] 3)
            have OB := OLH.out.alloc (.cells #[.int .i64 x] 3)
            refine app1 Tryz.underlying29 Tryz.info3 rfl (by decide) (by decide) rfl _ _ rfl rfl OB gB rfl rfl (List.all_eq_true.1 rfl) (by omega) (by simp; omega) ?_
            intro v3 w3 oS gS
            have F3 := stop (Below.grown (F.out.alloc (by omega) (.cells #[.int .i64 x] 3)) gS (by simp; omega) (fun j hj => by have := (OB.lt j hj).1; omega))
            have w3z := F3.out.size
            obtain ⟨v3p, v3c, rfl⟩ := owns_slice2 oS
            have O3 := stop oS
            clear gS gB OB oS
            go_wp2_with fail
            go_roundw
            case rel => exact ⟨m + 1, by omega, by go_num, by rw [HT.out.1], by rw [HT.out.2, List.length_append]; simpa [icell] using O3.out, F3⟩
            case measure => simp [intOf]; omega
          · have HT := stop (pt_c hlt hd (by omega : l[m] < x))
            have h1 : ¬ (x < l[m]) := hx
            have h2 : ¬ (x = l[m]) := hx2
            clear hd hx hx2
            have OLH := stop OL
            clear OL
            go_wp2_with (at_builtin; refine unstop ?_)
            refine stop ?_
            have gB := heap_alloc_last wr (.cells #[.int .i64 l[m]] 3)
            have OB := OLH.out.alloc (.cells #[.int .i64 l[m]] 3)
            refine app1 Tryz.underlying29 Tryz.info3 rfl (by decide) (by decide) rfl _ _ rfl rfl OB gB rfl rfl (List.all_eq_true.1 rfl) (by omega) (by simp; omega) ?_
            intro v3 w3 oS gS
            have F3 := stop (Below.grown (F.out.alloc (by omega) (.cells #[.int .i64 l[m]] 3)) gS (by simp; omega) (fun j hj => by have := (OB.lt j hj).1; omega))
            have w3z := F3.out.size
            obtain ⟨v3p, v3c, rfl⟩ := owns_slice2 oS
            have O3 := stop oS
            clear gS gB OB oS
            go_wp2_with fail
            go_roundw
            case rel => exact ⟨m + 1, by omega, by go_num, by rw [HT.out.1], by rw [HT.out.2, List.length_append]; simpa [icell] using O3.out, F3⟩
            case measure => simp [intOf]; omega
    · have hme : m = l.length := by omega
      subst hme
      cases hd : dnF l x l.length with
      | true =>
        have HT := stop (pt_end2 hd)
        have OLH := stop OL
        clear hd OL
        go_wp2_with fail
        go_ret
        exact ⟨_, rfl, by rw [HT.out]; exact OLH.out, F.out⟩
      | false =>
        have HT := stop (pt_end hsrt.out hd)
        clear hd
        have OLH := stop OL
        clear OL
        go_wp2_with (at_builtin; refine unstop ?_)
        refine stop ?_
        have gB := heap_alloc_last wr (.cells #[.int .i64 x] 3)
        have OB := OLH.out.alloc (.cells #[.int .i64 x] 3)
        refine app1 Tryz.underlying29 Tryz.info3 rfl (by decide) (by decide) rfl _ _ rfl rfl OB gB rfl rfl (List.all_eq_true.1 rfl) (by omega) (by simp; omega) ?_
        intro v3 w3 oS gS
        have F3 := stop (Below.grown (F.out.alloc (by omega) (.cells #[.int .i64 x] 3)) gS (by simp; omega) (fun j hj => by have := (OB.lt j hj).1; omega))
        have w3z := F3.out.size
        obtain ⟨v3p, v3c, rfl⟩ := owns_slice2 oS
        have O3 := stop oS
        clear gS gB OB oS

        go_wp2_with fail
        go_ret
        exact ⟨_, rfl, by rw [HT.out, List.length_append]; simpa [icell] using O3.out, F3.out⟩

end Go.Proofs.YtgfhfkgdmidhpaaGreat

namespace Go.Proofs.YtgfhfkgdmidhpaaGreat
open Go.RowKit

set_option maxRecDepth 100000 in
set_option maxHeartbeats 1000000 in
theorem sameRef (a b : List Nat) (B1 B2 : Nat) (va vb : Value) (w : World) (ha : w.ownsRow B1 3 1 va a.length (icell a)) (hb : w.ownsRow B2 3 1 vb b.length (icell b)) (hla : a.length ≤ 1000000) :
    Calls Tryz.prog 55 #[va, vb] w fun x w' => x = .returned (.bool (eqF a b)) ∧ Below w.heap.size w w' := by
  obtain ⟨p1, c1, rfl⟩ := owns_slice2 ha
  obtain ⟨p2, c2, rfl⟩ := owns_slice2 hb
  have HA := stop ha
  have HB := stop hb
  clear ha hb
  by_cases hlen : a.length = b.length
  · have HL := stop hlen
    rw [← hlen]
    have HB' : Hid (w.ownsRow B2 3 1 (.slice p2 a.length c2) a.length (icell b)) := by show w.ownsRow B2 3 1 (.slice p2 a.length c2) a.length (icell b); rw [hlen]; exact HB.out
    clear hlen HB
    go_enter Tryz.func55, Tryz.ntmps55
    go_wp2_with fail
    go_loopw [5] (fun i wr => ∃ m q : Nat, m ≤ a.length ∧ i = .int .i64 m ∧ Hid (wr = w.drewN q) ∧ Hid (∀ j, j < m → (h1 : j < a.length) → (h2 : j < b.length) → a[j] = b[j])) (fun i _ => a.length - (intOf i).toNat)
    case atStart => exact ⟨0, 0, by omega, rfl, rfl, fun j hj => by omega⟩
    case round =>
      obtain ⟨m, q, hm, rfl, HW, HE⟩ := hrel
      by_cases hlt : m < a.length
      · have hltb : m < b.length := by have := HL.out; omega
        have OA : wr.ownsRow B1 3 1 (.slice p1 a.length c1) a.length (icell a) := by rw [HW.out]; exact owns_keeps HA.out (Keeps.drewN (T := fun _ => True) w q) trivial
        have OB : wr.ownsRow B2 3 1 (.slice p2 a.length c2) a.length (icell b) := by rw [HW.out]; exact owns_keeps HB'.out (Keeps.drewN (T := fun _ => True) w q) trivial
        obtain ⟨g1, rfl, _, _⟩ := owns_form OA (by omega)
        obtain ⟨g2, rfl, _, _⟩ := owns_form OB (by omega)
        have k1 := owns_cell OA (icell_at hlt)
        have k2 := owns_cell OB (icell_at hltb)
        clear OA OB
        by_cases he : a[m] = b[m]
        · have HE2 : Hid (∀ j, j < m + 1 → (h1 : j < a.length) → (h2 : j < b.length) → a[j] = b[j]) := fun j hj h1 h2 => by
            by_cases e : j = m
            · subst e; exact he
            · exact HE.out j (by omega) h1 h2
          have hd : ((a[m] : Int) != (b[m] : Int)) = false := by simp [he]
          clear he
          go_wp2_with fail
          go_quiet (fail)
          have HW2 : Hid (wr.drewN nq = w.drewN (q + nq)) := by show _ = _; rw [HW.out]; simp [World.drewN, Nat.add_assoc]
          go_wp2_with fail
          go_roundw
          case rel => exact ⟨m + 1, q + nq, by omega, by go_num, HW2, HE2⟩
          case measure => simp [intOf]; omega
        · have HF := stop (eqF_ne hlt hltb he)
          have hd : ((a[m] : Int) != (b[m] : Int)) = true := by simp; omega
          clear he
          go_wp2_with fail
          go_quiet (fail)
          have HW2 : Hid (Below w.heap.size w (wr.drewN nq)) := by show Below _ _ _; rw [HW.out]; exact below_drewN (below_drewN (Below.refl _ _) _) _
          go_wp2_with fail
          go_ret
          exact ⟨by rw [HF.out]; rfl, HW2.out⟩
      · have HF := stop (eqF_all HL.out fun j h1 h2 => HE.out j (by omega) h1 h2)
        go_wp2_with fail
        go_ret
        exact ⟨by rw [HF.out]; rfl, by rw [HW.out]; exact below_drewN (Below.refl _ _) _⟩
  · have HF := stop (eqF_len hlen)
    have hd : ((a.length : Int) != (b.length : Int)) = true := by simp; omega
    clear hlen
    go_enter Tryz.func55, Tryz.ntmps55
    go_wp2_with fail
    go_ret
    exact ⟨by rw [HF.out]; rfl, Below.refl _ _⟩

end Go.Proofs.YtgfhfkgdmidhpaaGreat

namespace Go.Proofs.YtgfhfkgdmidhpaaGreat
open Go.RowKit

/-- The registers that a step reads. -/
def rdsF (t : RStep) : List (Nat × Nat) := if t.op = 99 then [t.a] else if t.op = 33 then [t.a] else if t.op = 118 then [] else if t.op = 63 then [] else [t.a, t.b]

set_option maxRecDepth 100000 in
set_option maxHeartbeats 1000000 in
theorem readsR (t : RStep) (w : World) :
    Calls Tryz.prog 91 #[.agg #[.int .u8 t.op, .int .i64 t.to.1, .int .i64 t.to.2, .int .i64 t.a.1, .int .i64 t.a.2, .int .i64 t.b.1, .int .i64 t.b.2, .int .i64 t.n]] w
      fun x w' => ∃ v, x = .returned v ∧ w'.ownsRow w.heap.size 77 2 v (rdsF t).length (pcs (rdsF t)) ∧ Below w.heap.size w w' := by
  by_cases h0 : t.op = 99
  · have HG : Hid (rdsF t = [t.a]) := by simp [Hid, rdsF, h0]
    have e0 : ((t.op : Int) == 99) = true := by simp; omega
    clear h0
    go_enter Tryz.func91, Tryz.ntmps91
    go_wp2
    go_ret
    rw [HG.out]
    refine ⟨_, rfl, ?_, ((Below.refl _ _).alloc (Nat.le_refl _) _).alloc (by simp) _⟩
    have ON := owns_new (w.alloc (.cells #[.int .u8 t.op, .int .i64 t.to.1, .int .i64 t.to.2, .int .i64 t.a.1, .int .i64 t.a.2, .int .i64 t.b.1, .int .i64 t.b.2, .int .i64 t.n] 163)) w.heap.size 77 2 1 #[.int .i64 t.a.1, .int .i64 t.a.2] (by simp) rfl (by decide)
    rw [World.size_alloc] at ON
    exact ON
  · by_cases h1 : t.op = 33
    · have HG : Hid (rdsF t = [t.a]) := by simp [Hid, rdsF, h1]
      have e0 : ((t.op : Int) == 99) = false := by simp; omega
      have e1 : ((t.op : Int) == 33) = true := by simp; omega
      clear h0 h1
      go_enter Tryz.func91, Tryz.ntmps91
      go_wp2
      go_ret
      rw [HG.out]
      refine ⟨_, rfl, ?_, ((Below.refl _ _).alloc (Nat.le_refl _) _).alloc (by simp) _⟩
      have ON := owns_new (w.alloc (.cells #[.int .u8 t.op, .int .i64 t.to.1, .int .i64 t.to.2, .int .i64 t.a.1, .int .i64 t.a.2, .int .i64 t.b.1, .int .i64 t.b.2, .int .i64 t.n] 163)) w.heap.size 77 2 1 #[.int .i64 t.a.1, .int .i64 t.a.2] (by simp) rfl (by decide)
      rw [World.size_alloc] at ON
      exact ON
    · by_cases h2 : t.op = 118
      · have HG : Hid (rdsF t = []) := by simp [Hid, rdsF, h2]
        have e0 : ((t.op : Int) == 99) = false := by simp; omega
        have e1 : ((t.op : Int) == 33) = false := by simp; omega
        have e2 : ((t.op : Int) == 118) = true := by simp; omega
        clear h0 h1 h2
        go_enter Tryz.func91, Tryz.ntmps91
        go_wp2
        go_ret
        rw [HG.out]
        exact ⟨_, rfl, World.ownsRow_nil _ _ _ _, (Below.refl _ _).alloc (Nat.le_refl _) _⟩
      · by_cases h3 : t.op = 63
        · have HG : Hid (rdsF t = []) := by simp [Hid, rdsF, h3]
          have e0 : ((t.op : Int) == 99) = false := by simp; omega
          have e1 : ((t.op : Int) == 33) = false := by simp; omega
          have e2 : ((t.op : Int) == 118) = false := by simp; omega
          have e3 : ((t.op : Int) == 63) = true := by simp; omega
          clear h0 h1 h2 h3
          go_enter Tryz.func91, Tryz.ntmps91
          go_wp2
          go_ret
          rw [HG.out]
          exact ⟨_, rfl, World.ownsRow_nil _ _ _ _, (Below.refl _ _).alloc (Nat.le_refl _) _⟩
        · have HG : Hid (rdsF t = [t.a, t.b]) := by simp [Hid, rdsF, h0, h1, h2, h3]
          have e0 : ((t.op : Int) == 99) = false := by simp; omega
          have e1 : ((t.op : Int) == 33) = false := by simp; omega
          have e2 : ((t.op : Int) == 118) = false := by simp; omega
          have e3 : ((t.op : Int) == 63) = false := by simp; omega
          clear h0 h1 h2 h3
          go_enter Tryz.func91, Tryz.ntmps91
          go_wp2
          go_ret
          rw [HG.out]
          refine ⟨_, rfl, ?_, ((Below.refl _ _).alloc (Nat.le_refl _) _).alloc (by simp) _⟩
          have ON := owns_new (w.alloc (.cells #[.int .u8 t.op, .int .i64 t.to.1, .int .i64 t.to.2, .int .i64 t.a.1, .int .i64 t.a.2, .int .i64 t.b.1, .int .i64 t.b.2, .int .i64 t.n] 163)) w.heap.size 77 2 2 #[.int .i64 t.a.1, .int .i64 t.a.2, .int .i64 t.b.1, .int .i64 t.b.2] (by simp) rfl (by decide)
          rw [World.size_alloc] at ON
          exact ON

end Go.Proofs.YtgfhfkgdmidhpaaGreat
