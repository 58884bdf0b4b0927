import Derived.Test.YtgfhfkgdmidhpaaGreatNA
import Derived.Test.YtgfhfkgdmidhpaaGreatG24
import Derived.Test.YtgfhfkgdmidhpaaGreatMF
import Derived.Test.YtgfhfkgdmidhpaaGreatRB
namespace Go.Proofs.YtgfhfkgdmidhpaaGreat
open Go.RowKit

/-- May a register be read there? -/
def mayF (bs : List RBlk) (n b : Nat) (k : Int) : Bool :=
  if rchF (suF bs) bs.length noB b then
    match (gvU bs).find? (fun u => u.n == n) with
    | none => false
    | some u => if u.b = b then decide (u.s < k) else overF (suF bs) bs.length u.b b
  else true
theorem whF_find {l : List Use} {n : Nat} : (whF l n < 0 → l.find? (fun u => u.n == n) = none) ∧ (0 ≤ whF l n → ∃ (i : Nat) (hi : i < l.length), whF l n = i ∧ l.find? (fun u => u.n == n) = some l[i]) := by
  constructor
  · intro h
    rw [List.find?_eq_none]
    intro u hu e
    have : n ∈ l.map (·.n) := List.mem_map.2 ⟨u, hu, by simpa using e⟩
    have := whF_mem.2 this
    omega
  · intro h
    unfold whF at h ⊢
    cases hf : l.findIdx? (fun u => u.n == n) with
    | none => rw [hf] at h; exact absurd h (by decide)
    | some i =>
      rw [List.findIdx?_eq_some_iff_getElem] at hf
      obtain ⟨hi, h1, h2⟩ := hf
      refine ⟨i, hi, rfl, ?_⟩
      rw [List.find?_eq_some_iff_getElem]
      exact ⟨h1, i, hi, rfl, fun j hj => by have := h2 j hj; simpa using this⟩
theorem gvBk_b {b : RBlk} {i : Nat} {u : Use} (h : u ∈ gvBk b i) : u.b = i := by
  rw [gvBk, List.mem_append] at h
  rcases h with h | h
  · obtain ⟨c, _, rfl⟩ := List.mem_map.1 h; rfl
  · obtain ⟨j, _, hj⟩ := List.mem_flatMap.1 h
    unfold stU at hj
    split at hj
    · split at hj
      · simp at hj
      · rw [List.mem_singleton] at hj; rw [hj]
    · simp at hj
theorem gvU_b {bs : List RBlk} {u : Use} (h : u ∈ gvU bs) : u.b < bs.length := by
  obtain ⟨i, hi, hu⟩ := List.mem_flatMap.1 h
  rw [gvBk_b hu]; exact List.mem_range.1 hi
/-- Rows of Booleans. -/
def RowB (base : Nat) (w : World) (v : Value) (n : Nat) (f : Nat → Nat → Bool) (m : Nat) : Prop :=
  ∃ us : List Value, w.ownsRow base 93 1 v n us ∧ ∀ (k : Nat) (u : Value), us[k]? = some u → w.ownsRow base 4 1 u m (bcell m (f k))
theorem RowB.slice {base w v n f m} (h : RowB base w v n f m) : ∃ p c, v = .slice p n c := by obtain ⟨us, a, _⟩ := h; exact owns_slice2 a
theorem RowB.keeps {base : Nat} {w w' : World} {v : Value} {n m : Nat} {f : Nat → Nat → Bool} (h : RowB base w v n f m) (k : Below w.heap.size w w') : RowB base w' v n f m := by
  obtain ⟨us, a, b⟩ := h
  exact ⟨us, owns_keeps a (Keeps.below (T := fun _ => True) k) trivial, fun j u hu => owns_keeps (b j u hu) (Keeps.below (T := fun _ => True) k) trivial⟩
theorem RowB.at {base : Nat} {w : World} {p : Option Addr} {c n m : Nat} {f : Nat → Nat → Bool} (h : RowB base w (.slice p n c) n f m) {k : Nat} (hk : k < n) :
    ∃ g u, p = some ⟨g, 0, none⟩ ∧ base ≤ g ∧ g < w.heap.size ∧ w.cell? ⟨g, k, none⟩ = some u ∧ w.ownsRow base 4 1 u m (bcell m (f k)) := by
  obtain ⟨us, a, b⟩ := h
  obtain ⟨g, rfl, hb, hg⟩ := owns_form a (by omega)
  have hl : us.length = n := by have := a.1; omega
  have hu : us[k]? = some us[k] := List.getElem?_eq_getElem (by omega)
  exact ⟨g, us[k], rfl, hb, hg, owns_cell a hu, b k _ hu⟩
/-- The graph's record. -/
def GrI (bs : List RBlk) (base B gp : Nat) (vL : Value) (w : World) : Prop :=
  ∃ vS vC vO, w.heap[gp]? = some (.cells #[vL, vS, vC, vO] 180 (0, 0)) ∧ BlksOwn w base bs vL ∧ w.ownsRow B 177 3 vS (gvU bs).length (siteCells (gvU bs)) ∧ w.ownsRow B 4 1 vC bs.length (bcell bs.length (rchF (suF bs) bs.length noB)) ∧ RowB B w vO bs.length (fun a => overF (suF bs) bs.length a) bs.length
theorem GrI.keeps {bs base B gp vL w w'} (h : GrI bs base B gp vL w) (F : Below w.heap.size w w') : GrI bs base B gp vL w' := by
  obtain ⟨vS, vC, vO, a, b, c, d, e⟩ := h
  exact ⟨vS, vC, vO, by rw [F.block _ (lt_of_block a)]; exact a, b.keeps3 (Keeps.below F), owns_keeps c (Keeps.below (T := fun _ => True) F) trivial, owns_keeps d (Keeps.below (T := fun _ => True) F) trivial, e.keeps F⟩

set_option maxRecDepth 100000 in
set_option maxHeartbeats 1000000 in
theorem mayR (bs : List RBlk) (base B gp : Nat) (vL : Value) (n b : Nat) (k : Nat) (w : World) (h : GrI bs base B gp vL w) (hb : b < bs.length) (hl : (gvU bs).length ≤ 100000000000) :
    Calls Tryz.prog 97 #[.pointer (some ⟨gp, 0, none⟩), .int .i64 n, .int .i64 b, .int .i64 k] w fun x w' => x = .returned (.bool (mayF bs n b k)) ∧ Below w.heap.size w w' := by
  obtain ⟨vS, vC, vO, a, _, oS, oC, oO⟩ := h
  obtain ⟨pS, cS, rfl⟩ := owns_slice2 oS
  obtain ⟨pC, cC, rfl⟩ := owns_slice2 oC
  obtain ⟨pO, cO, rfl⟩ := oO.slice
  have k1 := cell_of a 1
  have k2 := cell_of a 2
  have k3 := cell_of a 3
  simp at k1 k2 k3
  obtain ⟨gC, rfl, _, _⟩ := owns_form oC (by omega)
  have kc := owns_cell oC (bcell_at hb)
  have HS := stop oS
  have HO := stop oO
  have hgp := lt_of_block a
  have HA := stop a
  clear oS oC oO a
  cases hr : rchF (suF bs) bs.length noB b with
  | false =>
    rw [hr] at kc
    have HM : Hid (mayF bs n b k = true) := by show _ = _; rw [mayF, hr]; rfl
    clear hr
    go_enter Tryz.func97, Tryz.ntmps97
    go_wp2_with fail
    go_ret
    exact ⟨by rw [HM.out]; rfl, Below.refl _ _⟩
  | true =>
    rw [hr] at kc
    by_cases hw : 0 ≤ whF (gvU bs) n
    · obtain ⟨i, hi, hwi, hfi⟩ := whF_find.2 hw
      have hub := gvU_b (List.getElem_mem hi)
      obtain ⟨gS, rfl, _, _⟩ := owns_form HS.out (by omega)
      have s0 := owns_cell HS.out (siteCells_at hi).1
      have s1 := owns_cell HS.out (siteCells_at hi).2.1
      have s2 := owns_cell HS.out (siteCells_at hi).2.2
      by_cases hbb : (gvU bs)[i].b = b
      · have HM : Hid (mayF bs n b k = decide ((gvU bs)[i].s < k)) := by show _ = _; rw [mayF, hr, if_pos rfl, hfi]; simp only; rw [if_pos hbb]
        have hd : (((gvU bs)[i].b : Int) == (b : Int)) = true := by simp; omega
        have HWI := stop hwi
        clear hr hw hfi hwi hbb
        go_enter Tryz.func97, Tryz.ntmps97
        go_wp2_with fail
        refine (whereR (gvU bs) n B _ w HS.out hl).mono ?_
        rintro x w' ⟨rfl, hw'⟩
        rw [hw', HWI.out]
        clear hw' w'
        generalize (gvU bs)[i] = u at *
        go_wp2_with fail
        go_ret
        exact ⟨by rw [HM.out]; rfl, (Below.refl _ _).alloc (Nat.le_refl _) _⟩
      · have HM : Hid (mayF bs n b k = overF (suF bs) bs.length (gvU bs)[i].b b) := by show _ = _; rw [mayF, hr, if_pos rfl, hfi]; simp only; rw [if_neg hbb]
        have hd : (((gvU bs)[i].b : Int) == (b : Int)) = false := by simp; omega
        have HWI := stop hwi
        obtain ⟨gO, uO, rfl, _, hgO, co, oo⟩ := HO.out.at hub
        obtain ⟨pu, cu, rfl⟩ := owns_slice2 oo
        obtain ⟨gu, rfl, _, hgu⟩ := owns_form oo (by omega)
        have cb := owns_cell oo (bcell_at hb)
        clear hr hw hfi hwi hbb oo
        go_enter Tryz.func97, Tryz.ntmps97
        go_wp2_with fail
        refine (whereR (gvU bs) n B _ w HS.out hl).mono ?_
        rintro x w' ⟨rfl, hw'⟩
        rw [hw', HWI.out]
        clear hw' w'
        have FF := stop ((Below.refl w.heap.size w).alloc (Nat.le_refl _) (.cells #[.int .i64 (gvU bs)[i].n, .int .i64 (gvU bs)[i].b, .int .i64 (gvU bs)[i].s] 177))
        go_wp2_with fail
        have gW := heap_alloc_last w (.cells #[.int .i64 (gvU bs)[i].n, .int .i64 (gvU bs)[i].b, .int .i64 (gvU bs)[i].s] 177)
        generalize w.alloc (.cells #[.int .i64 (gvU bs)[i].n, .int .i64 (gvU bs)[i].b, .int .i64 (gvU bs)[i].s] 177) = W at *
        have x1 := cell_of gW 1
        have x3 := (FF.out.cell (p := ⟨gp, 3, none⟩) hgp).trans k3
        have x4 := (FF.out.cell (p := ⟨gO, (gvU bs)[i].b, none⟩) hgO).trans co
        have x5 := (FF.out.cell (p := ⟨gu, b, none⟩) hgu).trans cb
        simp at x1
        clear gW s0 s1 s2 k1 k2 k3 kc co cb
        go_region
        all_goals
          go_wp2_with fail
          go_ret
          exact ⟨by rw [HM.out]; rfl, ⟨FF.out.os, FF.out.tape, FF.out.output, FF.out.size, FF.out.block⟩⟩
    · have HM : Hid (mayF bs n b k = false) := by show _ = _; rw [mayF, hr, if_pos rfl, whF_find.1 (by omega)]
      have hw2 : whF (gvU bs) n < 0 := by omega
      clear hr hw
      go_enter Tryz.func97, Tryz.ntmps97
      go_wp2_with fail
      refine (whereR (gvU bs) n B _ w HS.out hl).mono ?_
      rintro x w' ⟨rfl, hw'⟩
      rw [hw']
      clear hw' w'
      generalize whF (gvU bs) n = wv at *
      go_wp2_with fail
      go_ret
      exact ⟨by rw [HM.out]; rfl, Below.refl _ _⟩

end Go.Proofs.YtgfhfkgdmidhpaaGreat

namespace Go.Proofs.YtgfhfkgdmidhpaaGreat
open Go.RowKit

theorem Tryz.info93 : (Tryz.prog.info? 93).map (fun i => (i.zero, i.size, i.bytes)) = some (some (.slice none 0 0), 1, 24) := by kernel_rfl
theorem bcell_snoc (n : Nat) (f : Nat → Bool) : bcell (n + 1) f = bcell n f ++ [.bool (f n)] := by simp [bcell, List.range_succ]
/-- The world within graph. -/
def GpI (bs : List RBlk) (w : World) (gp : Nat) (vL : Value) (m : Nat) (vS vC vO : Value) (wr : World) : Prop :=
  wr.heap[gp]? = some (.cells #[vL, vS, vC, vO] 180 (0, 0)) ∧ wr.ownsRow w.heap.size 177 3 vS (gvU bs).length (siteCells (gvU bs)) ∧ wr.ownsRow w.heap.size 4 1 vC bs.length (bcell bs.length (rchF (suF bs) bs.length noB)) ∧ RowB w.heap.size wr vO m (fun a => overF (suF bs) bs.length a) bs.length ∧ Below w.heap.size w wr
theorem GpI.keeps {bs w gp vL m vS vC vO wr wr'} (h : GpI bs w gp vL m vS vC vO wr) (F : Below wr.heap.size wr wr') : GpI bs w gp vL m vS vC vO wr' := by
  obtain ⟨a, b, c, d, e⟩ := h
  exact ⟨by rw [F.block _ (lt_of_block a)]; exact a, owns_keeps b (Keeps.below (T := fun _ => True) F) trivial, owns_keeps c (Keeps.below (T := fun _ => True) F) trivial, d.keeps F, e.trans (F.mono e.size)⟩

set_option maxRecDepth 100000 in
set_option maxHeartbeats 2000000 in
theorem graphR (bs : List RBlk) (base : Nat) (v : Value) (w : World) (h : BlksOwn w base bs v) (hgl : Hid (∀ b ∈ bs, ∀ p ∈ goalsF b.e, p.1 < bs.length)) (hf : Hid (∀ b ∈ bs, BFine 1000000 b)) (hn0 : 0 < bs.length) (hn : bs.length ≤ 1000) :
    Calls Tryz.prog 59 #[v] w fun x w' => ∃ gp, x = .returned (.pointer (some ⟨gp, 0, none⟩)) ∧ Hid (GrI bs base w.heap.size gp v w' ∧ Below w.heap.size w w') := by
  obtain ⟨pv, cv, rfl⟩ := h.slice
  have HB := stop h
  clear h
  go_enter Tryz.func59, Tryz.ntmps59
  go_wp2_with fail
  refine (reachR bs (-1) base _ w HB.out hgl hn0 hn).mono ?_
  rintro x w1 ⟨v1, rfl, o1, f1⟩
  rw [barW_no] at o1
  obtain ⟨p1, c1, rfl⟩ := owns_slice2 o1
  have s1 := f1.size
  have H1 := stop (And.intro o1 f1)
  clear o1 f1
  go_wp2_with fail
  have gW := heap_alloc_last w1 (.cells #[.slice pv bs.length cv, .slice none 0 0, .slice p1 bs.length c1, .slice none 0 0] 180)
  have H2 : Hid ((w1.alloc (.cells #[.slice pv bs.length cv, .slice none 0 0, .slice p1 bs.length c1, .slice none 0 0] 180)).ownsRow w.heap.size 4 1 (.slice p1 bs.length c1) bs.length (bcell bs.length (rchF (suF bs) bs.length noB)) ∧ Below w.heap.size w (w1.alloc (.cells #[.slice pv bs.length cv, .slice none 0 0, .slice p1 bs.length c1, .slice none 0 0] 180)) ∧ w1.heap.size < (w1.alloc (.cells #[.slice pv bs.length cv, .slice none 0 0, .slice p1 bs.length c1, .slice none 0 0] 180)).heap.size) := ⟨H1.out.1.alloc _, H1.out.2.alloc s1 _, by rw [World.size_alloc]; omega⟩
  generalize w1.alloc (.cells #[.slice pv bs.length cv, .slice none 0 0, .slice p1 bs.length c1, .slice none 0 0] 180) = W at *
  have sW := H2.out.2.1.size
  refine (sitesR bs base _ W (HB.out.keeps3 (Keeps.below H2.out.2.1)) hf hn).mono ?_
  rintro x w2 ⟨v2, rfl, H3⟩
  obtain ⟨p2, c2, rfl⟩ := owns_slice2 H3.out.1
  have s2 := H3.out.2.2.size
  have g2 : w2.heap[w1.heap.size]? = some (.cells #[.slice pv bs.length cv, .slice none 0 0, .slice p1 bs.length c1, .slice none 0 0] 180 (0, 0)) := by rw [H3.out.2.2.block _ (lt_of_block gW)]; exact gW
  have k1 := cell_of g2 1
  have k1f := frozen_of g2 1
  simp at k1
  have B0 : Hid (GpI bs w w1.heap.size (.slice pv bs.length cv) 0 (.slice p2 (gvU bs).length c2) (.slice p1 bs.length c1) (.slice none 0 0) (w2.setCell ⟨w1.heap.size, 1, none⟩ (.slice p2 (gvU bs).length c2))) := by
    refine ⟨blk_set g2 _ _, ?_, ?_, ⟨[], World.ownsRow_nil _ _ _ _, fun k u hu => by simp at hu⟩, below_set (H2.out.2.1.trans (H3.out.2.2.mono sW)) _ _ _ s1⟩
    · have := H3.out.1
      obtain ⟨a1, b1⟩ := owns_base this (show w.heap.size ≤ W.heap.size by omega)
      refine ⟨a1, b1.imp id ?_⟩
      rintro ⟨g, cap, cur, e, b2, c3, d1⟩
      refine ⟨g, cap, cur, e, b2, ?_, d1⟩
      rw [Below.heap_setCell _ _ _ _ ?_]
      · exact c3
      · rintro rfl
        rw [g2] at c3; cases c3
    · exact owns_setT (owns_keeps H2.out.1 (Keeps.below (T := fun _ => True) H3.out.2.2) trivial) g2 (by decide)
  clear g2 gW H1 H2 H3
  go_wp2_with fail
  go_loopw [6] (fun i wr => ∃ (m : Nat) (vO : Value), m ≤ bs.length ∧ i = .int .i64 m ∧ Hid (GpI bs w w1.heap.size (.slice pv bs.length cv) m (.slice p2 (gvU bs).length c2) (.slice p1 bs.length c1) vO wr)) (fun i _ => bs.length - (intOf i).toNat)
  case atStart => exact ⟨0, _, by omega, rfl, B0⟩
  case round =>
    clear B0
    obtain ⟨m, vO, hm, rfl, HR⟩ := hrel
    rename World => wA
    have hzA := HR.out.2.2.2.2.size
    by_cases hlt : m < bs.length
    · go_wp2_with fail
      refine (reachR bs m base _ wA (HB.out.keeps3 (Keeps.below HR.out.2.2.2.2)) hgl hn0 hn).mono ?_
      rintro x w3 ⟨v3, rfl, o3, f3⟩
      rw [barW_is] at o3
      obtain ⟨p3, c3, rfl⟩ := owns_slice2 o3
      have s3 := f3.size
      have HR3 := stop (HR.out.keeps f3)
      have H3 := stop (And.intro o3 (And.intro f3 (lt_of_block HR3.out.1)))
      clear o3 f3
      go_wp2_with fail
      go_loopw [8, 9] (fun o j wr => ∃ b : Nat, b ≤ bs.length ∧ j = .int .i64 b ∧ wr.ownsRow w3.heap.size 4 1 o b (bcell b (overF (suF bs) bs.length m)) ∧ Hid (Below w3.heap.size w3 wr)) (fun _ j _ => bs.length - (intOf j).toNat)
      case atStart => exact ⟨0, by omega, rfl, World.ownsRow_nil _ _ _ _, Below.refl _ _⟩
      case round =>
        obtain ⟨b, hb, rfl, OB, FB⟩ := hrel
        rename World => wB
        obtain ⟨pb, cb, rfl⟩ := owns_slice2 OB
        have hzB := FB.out.size
        have OBH := stop OB
        clear OB
        have HRB := stop (HR3.out.keeps FB.out)
        have k2 := cell_of HRB.out.1 2
        have k3 := cell_of HRB.out.1 3
        simp at k2 k3
        by_cases hbl : b < bs.length
        · have OC := HRB.out.2.2.1
          obtain ⟨gc, rfl, _, _⟩ := owns_form OC (by omega)
          have kc := owns_cell OC (bcell_at hbl)
          have OR := owns_keeps H3.out.1 (Keeps.below (T := fun _ => True) FB.out) trivial
          obtain ⟨gr, rfl, _, _⟩ := owns_form OR (by omega)
          have kr := owns_cell OR (bcell_at hbl)
          have HOV : Hid (overF (suF bs) bs.length m b = (rchF (suF bs) bs.length noB b && !rchF (suF bs) bs.length (isB m) b)) := rfl
          clear OC OR k3
          generalize rchF (suF bs) bs.length noB b = x1 at *
          generalize rchF (suF bs) bs.length (isB m) b = x2 at *
          cases x1 <;> cases x2 <;>
            (go_wp2_with (at_builtin; refine unstop ?_)
             refine stop ?_
             have HO2 := HOV.out
             simp at HO2
             have gB := heap_alloc_last wB (.cells #[.bool (overF (suF bs) bs.length m b)] 4)
             have OBB := OBH.out.alloc (.cells #[.bool (overF (suF bs) bs.length m b)] 4)
             rw [HO2] at gB OBB
             refine app1 Tryz.underlying93 Tryz.info4 rfl (by decide) (by decide) rfl _ _ rfl rfl OBB gB rfl rfl (List.all_eq_true.1 rfl) (by omega) (by simp; omega) ?_
             intro v4 w4 oS gS
             have F4 := stop (Below.grown (FB.out.alloc (by omega) _) gS (by simp; omega) (fun j hj => by have := (OBB.lt j hj).1; omega))
             obtain ⟨p4, c4, rfl⟩ := owns_slice2 oS
             have O4 : Hid (w4.ownsRow w3.heap.size 4 1 (.slice p4 (b + 1) c4) (b + 1) (bcell (b + 1) (overF (suF bs) bs.length m))) := by
               show World.ownsRow _ _ _ _ _ _ _
               rw [bcell_snoc, HO2]; exact oS
             clear gS gB OBB oS HO2
             go_wp2_with fail
             go_roundw
             case rel => exact ⟨b + 1, by omega, by go_num, O4.out, F4⟩
             case measure => simp [intOf]; omega)
        · have hbe : b = bs.length := by omega
          subst hbe
          obtain ⟨us, ou, hrows⟩ := HRB.out.2.2.2.1
          obtain ⟨po, co, rfl⟩ := owns_slice2 ou
          have HU := stop (And.intro ou hrows)
          have hul : us.length = m := by have := ou.1; omega
          clear ou hrows k2
          go_wp2_with (at_builtin; refine unstop ?_)
          refine stop ?_
          have gB := heap_alloc_last wB (.cells #[.slice pb bs.length cb] 93)
          have OUB := HU.out.1.alloc (.cells #[.slice pb bs.length cb] 93)
          have hzw : w.heap.size ≤ wB.heap.size := by omega
          refine app1 Tryz.underlying178 Tryz.info93 rfl (by decide) (by decide) rfl _ _ rfl rfl OUB gB rfl rfl (List.all_eq_true.1 rfl) (by omega) (by simp; omega) ?_
          intro v5 w5 oS gS
          obtain ⟨p5, c5, rfl⟩ := owns_slice2 oS
          have hgp := HRB.out.1
          have g5 : w5.heap[w1.heap.size]? = some (.cells #[.slice pv bs.length cv, .slice p2 (gvU bs).length c2, .slice p1 bs.length c1, .slice po m co] 180 (0, 0)) := blk_grown gS (blk_alloc hgp _) (fun j hj e => own_type HU.out.1 hgp (by decide) (by have h2 : (Value.slice po m co).ownBlock = some j := hj; rw [h2, e]))
          have B5 : Hid (GpI bs w w1.heap.size (.slice pv bs.length cv) (m + 1) (.slice p2 (gvU bs).length c2) (.slice p1 bs.length c1) (.slice p5 (m + 1) c5) (w5.setCell ⟨w1.heap.size, 3, none⟩ (.slice p5 (m + 1) c5))) := by
            obtain ⟨a1, a2, a3, a4, a5⟩ := HRB.out
            have nb : ∀ {e sz n : Nat} {u : Value} {xs : List Value}, wB.ownsRow w.heap.size e sz u n xs → e ≠ 93 → ∀ b, u.ownBlock = some b → (Value.slice po m co).ownBlock ≠ some b := fun hu he b hb e2 => apart_types hu HU.out.1 he b e2 hb
            have kp : ∀ {e n : Nat} {u : Value} {xs : List Value}, wB.ownsRow w.heap.size e 1 u n xs → e ≠ 93 → e ≠ 180 → (w5.setCell ⟨w1.heap.size, 3, none⟩ (.slice p5 (m + 1) c5)).ownsRow w.heap.size e 1 u n xs := fun hu he h180 => owns_setT (owns_grownB (hu.alloc _) gS (nb hu he)) g5 (fun e2 => h180 e2.symm)
            refine ⟨blk_set g5 _ _, ?_, kp a3 (by decide) (by decide), ⟨us ++ [.slice pb bs.length cb], owns_setT oS g5 (by decide), fun k u hu => ?_⟩, below_set (Below.grown (a5.alloc hzw _) gS (by rw [World.size_alloc]; omega) (fun j hj => by have := (OUB.lt j hj).1; omega)) _ _ _ (by omega)⟩
            · obtain ⟨b1, b2⟩ := a2
              refine ⟨b1, b2.imp id ?_⟩
              rintro ⟨g, cap, cur, e, b3, c3', d1⟩
              refine ⟨g, cap, cur, e, b3, ?_, d1⟩
              refine blk_setOther (blk_grown gS (blk_alloc c3' _) (fun j hj e3 => ?_)) ?_ _ _
              · have hh := HU.out.1
                exact own_type hh c3' (by decide) (by have h2 : (Value.slice po m co).ownBlock = some j := hj; rw [h2, e3])
              · rintro rfl
                rw [a1] at c3'; cases c3'
            · rw [List.getElem?_append] at hu
              split at hu
              · exact kp (HU.out.2 k u hu) (by decide) (by decide)
              · rename_i hk
                have hk2 : k = m := by
                  rcases Nat.lt_or_ge (k - us.length) 1 with h | h
                  · omega
                  · rw [List.getElem?_eq_none (by simpa using h)] at hu; cases hu
                subst hk2
                rw [hul] at hu
                simp at hu
                subst hu
                exact kp (owns_base OBH.out (by omega)) (by decide) (by decide)
          have k3' := cell_of g5 3
          have k3f := frozen_of g5 3
          simp at k3'
          clear gS gB OUB oS g5 HU HRB hgp k3
          go_wp2_with fail
          go_roundw
          case rel => exact ⟨m + 1, _, by omega, by go_num, B5⟩
          case measure => simp [intOf]; omega
    · have hme : m = bs.length := by omega
      have HG : Hid (GrI bs base w.heap.size w1.heap.size (.slice pv bs.length cv) wA ∧ Below w.heap.size w wA) := by
        obtain ⟨a1, a2, a3, a4, a5⟩ := HR.out
        rw [hme] at a4
        exact ⟨⟨_, _, _, a1, HB.out.keeps3 (Keeps.below a5), a2, a3, a4⟩, a5⟩
      clear hme HR
      go_wp2_with fail
      go_ret
      exact ⟨_, rfl, HG⟩

end Go.Proofs.YtgfhfkgdmidhpaaGreat
