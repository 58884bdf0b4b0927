import Derived.Test.YtgfhfkgdmidhpaaGreatG22
import Derived.WalkMore
namespace Go.Proofs.YtgfhfkgdmidhpaaGreat
open Go.RowKit

def KPost (bs : List RBlk) (b : Nat) (w : World) (e : Ending) (w' : World) : Prop :=
  ((∃ a : Nat, kprO (suF bs) bs.length b = some a ∧ e = .returned (.tuple #[.int .i64 a, .bool true])) ∨ (kprO (suF bs) bs.length b = none ∧ e = .returned (.tuple #[.int .i64 0, .bool false]))) ∧ Below w.heap.size w w'
theorem othL_lt {bs : List RBlk} {b x : Nat} (h : x ∈ othL (suF bs) bs.length b) : x < bs.length := (setL_mem.1 h).1
theorem othL_len (bs : List RBlk) (b : Nat) : (othL (suF bs) bs.length b).length ≤ bs.length := setL_len _ _
theorem find_at {α : Type} {P : α → Bool} {L : List α} {k : Nat} (hk : k < L.length) (hn : ∀ j, j < k → (hj : j < L.length) → P L[j] = false) (h : P L[k] = true) : L.find? P = some L[k] := by
  have h1 : (L.take k).find? P = none := List.find?_eq_none.2 fun x hx => by
    obtain ⟨j, hj, rfl⟩ := List.getElem_of_mem hx
    rw [List.length_take] at hj
    rw [List.getElem_take, hn j (by omega) (by omega)]
    simp
  exact find_take_hit hk h1 h
theorem find_no {α : Type} {P : α → Bool} {L : List α} (hn : ∀ j, (hj : j < L.length) → P L[j] = false) : L.find? P = none := List.find?_eq_none.2 fun x hx => by
  obtain ⟨j, hj, rfl⟩ := List.getElem_of_mem hx
  rw [hn j hj]; simp

set_option maxRecDepth 100000 in
set_option maxHeartbeats 4000000 in
theorem keeperM (bs : List RBlk) (B b : Nat) (pv : Option Addr) (cv : Nat) (va vu : Value) (w : World) (ha : ∃ p n c, va = .slice p n c) (hu : SetR B w vu bs.length (undL bs)) (hb : b < bs.length) (hn : bs.length ≤ 1000) :
    Calls Tryz.prog 77 #[.agg #[.slice pv bs.length cv, va, vu], .int .i64 b] w fun e w' => KPost bs b w e w' := by
  obtain ⟨pa, na, ca, rfl⟩ := ha
  obtain ⟨pu, cu, rfl⟩ := hu.slice
  have HU := stop hu
  have HK := stop (kprO_oth (suF bs) bs.length b)
  have HLT : Hid (∀ x ∈ othL (suF bs) bs.length b, x < bs.length) := fun x hx => othL_lt hx
  have HLL := othL_len bs b
  clear hu
  go_enter Tryz.func77, Tryz.ntmps77
  go_wp2_with fail
  go_step3
  go_wp2_with fail
  obtain ⟨W1, hW1⟩ : ∃ W1, W1 = w.alloc (.cells #[.slice pv bs.length cv, .slice pa na ca, .slice pu bs.length cu] 89) := ⟨_, rfl⟩
  rw [← hW1]
  have g1 : W1.heap[w.heap.size]? = some (.cells #[.slice pv bs.length cv, .slice pa na ca, .slice pu bs.length cu] 89 (0, 0)) := by rw [hW1]; exact heap_alloc_last _ _
  have f1 : Below w.heap.size w W1 := by rw [hW1]; exact (Below.refl _ _).alloc (Nat.le_refl _) _
  have s1 : W1.heap.size = w.heap.size + 1 := by rw [hW1, World.size_alloc]
  clear hW1
  refine (othersM bs B b pv cv _ _ W1 ⟨_, _, _, rfl⟩ (HU.out.keeps f1) hb hn).mono ?_
  rintro e w2 ⟨vo, rfl, o2, f2⟩
  have s2 := f2.size
  obtain ⟨L, hL⟩ : ∃ L, L = othL (suF bs) bs.length b := ⟨_, rfl⟩
  rw [← hL] at HK HLT HLL o2
  clear hL
  obtain ⟨po, co, rfl⟩ := owns_slice2 o2
  have B0 : Hid (w2.heap[w.heap.size]? = some (.cells #[.slice pv bs.length cv, .slice pa na ca, .slice pu bs.length cu] 89 (0, 0)) ∧ w2.ownsRow w.heap.size 92 1 (.slice po L.length co) L.length (icell L) ∧ Below w.heap.size w w2 ∧ w.heap.size + 1 ≤ w2.heap.size) := ⟨by rw [f2.block _ (by omega)]; exact g1, owns_base o2 (by omega), f1.trans (f2.mono (by omega)), by omega⟩
  clear g1 f1 s1 o2 f2 s2
  go_wp2_with fail
  go_step3
  go_wp2_with fail
  go_loopw [16] (fun i wr => ∃ k : Nat, k ≤ L.length ∧ i = .int .i64 k ∧ Hid (∀ j, j < k → (hj : j < L.length) → (L.all fun c => overF (suF bs) bs.length c L[j]) = false) ∧ Hid (wr.heap[w.heap.size]? = some (.cells #[.slice pv bs.length cv, .slice pa na ca, .slice pu bs.length cu] 89 (0, 0)) ∧ wr.ownsRow w.heap.size 92 1 (.slice po L.length co) L.length (icell L) ∧ Below w.heap.size w wr ∧ w.heap.size + 1 ≤ wr.heap.size)) (fun i _ => L.length - (intOf i).toNat)
  case atStart => exact ⟨0, by omega, rfl, fun j hj => by omega, B0⟩
  case round =>
    clear B0
    obtain ⟨k, hk, rfl, HN, HR⟩ := hrel
    by_cases hlt : k < L.length
    · obtain ⟨go, rfl, _, hgs⟩ := owns_form HR.out.2.1 (by omega)
      have c0 := owns_cell HR.out.2.1 (icell_at hlt)
      have hLk := HLT.out _ (List.getElem_mem hlt)
      go_wp2_with fail
      go_loopw [22] (fun i wr2 => ∃ q : Nat, q ≤ L.length ∧ i = .int .i64 q ∧ Hid (∀ j, j < q → (hj : j < L.length) → overF (suF bs) bs.length L[j] L[k] = true) ∧ Hid (wr2.heap[w.heap.size]? = some (.cells #[.slice pv bs.length cv, .slice pa na ca, .slice pu bs.length cu] 89 (0, 0)) ∧ wr2.ownsRow w.heap.size 92 1 (.slice (some ⟨go, 0, none⟩) L.length co) L.length (icell L) ∧ Below w.heap.size w wr2 ∧ w.heap.size + 1 ≤ wr2.heap.size)) (fun i _ => L.length - (intOf i).toNat)
      case atStart => exact ⟨0, by omega, rfl, fun j hj => by omega, HR⟩
      case round =>
        clear HR c0
        obtain ⟨q, hq, rfl, HQ, HR2⟩ := hrel
        by_cases hql : q < L.length
        · have c1 := owns_cell HR2.out.2.1 (icell_at hql)
          have hLq := HLT.out _ (List.getElem_mem hql)
          have k0 := cell_of HR2.out.1 0
          have k1 := cell_of HR2.out.1 1
          have k2 := cell_of HR2.out.1 2
          simp at k0 k1 k2
          have HU2 := stop (HU.out.keeps HR2.out.2.2.1)
          go_wp2_with fail
          refine (overM bs B L[q] L[k] _ _ _ wr ⟨_, _, _, rfl⟩ ⟨_, _, _, rfl⟩ HU2.out hLq hLk hn).mono ?_
          rintro e w5 ⟨rfl, f5⟩
          have s5 := f5.size
          have HR5 : Hid (w5.heap[w.heap.size]? = some (.cells #[.slice pv bs.length cv, .slice pa na ca, .slice pu bs.length cu] 89 (0, 0)) ∧ w5.ownsRow w.heap.size 92 1 (.slice (some ⟨go, 0, none⟩) L.length co) L.length (icell L) ∧ Below w.heap.size w w5 ∧ w.heap.size + 1 ≤ w5.heap.size) := ⟨by rw [f5.block _ (by have := HR2.out.2.2.2; omega)]; exact HR2.out.1, owns_keeps HR2.out.2.1 (Keeps.below (T := fun _ => True) f5) trivial, HR2.out.2.2.1.trans (f5.mono (by have := HR2.out.2.2.2; omega)), by have := HR2.out.2.2.2; omega⟩
          clear f5 c1 k0 k1 k2 HU2
          cases hh : overF (suF bs) bs.length L[q] L[k] with
          | true =>
            have HQ2 : Hid (∀ j, j < q + 1 → (hj : j < L.length) → overF (suF bs) bs.length L[j] L[k] = true) := fun j hj hjl => by
              by_cases e : j = q
              · subst e; exact hh
              · exact HQ.out j (by omega) hjl
            clear hh
            go_wp2_with fail
            go_roundw
            case rel => exact ⟨q + 1, by omega, by go_num, HQ2, HR5⟩
            case measure => simp [intOf]; omega
          | false =>
            have HN2 : Hid (∀ j, j < k + 1 → (hj : j < L.length) → (L.all fun c => overF (suF bs) bs.length c L[j]) = false) := fun j hj hjl => by
              by_cases e : j = k
              · subst e
                rw [List.all_eq_false]
                exact ⟨L[q], List.getElem_mem hql, by rw [hh]; simp⟩
              · exact HN.out j (by omega) hjl
            clear hh
            go_wp2_with fail
            go_roundw
            case rel => exact ⟨k + 1, by omega, by go_num, HN2, HR5⟩
            case measure => simp [intOf]; omega
        · have HALL : Hid (kprO (suF bs) bs.length b = some L[k]) := by
            rw [HK.out]
            refine find_at hlt HN.out ?_
            rw [List.all_eq_true]
            intro c hc
            obtain ⟨j, hj, rfl⟩ := List.getElem_of_mem hc
            exact HQ.out j (by omega) hj
          go_wp2_with fail
          go_ret2
          exact ⟨.inl ⟨_, HALL.out, rfl⟩, HR2.out.2.2.1⟩
    · have HNO : Hid (kprO (suF bs) bs.length b = none) := by
        rw [HK.out]
        exact find_no fun j hj => HN.out j (by omega) hj
      go_wp2_with fail
      go_ret2
      exact ⟨.inr ⟨HNO.out, rfl⟩, HR.out.2.2.1⟩

set_option maxRecDepth 100000 in
set_option maxHeartbeats 2000000 in
theorem keeperOfM (bs : List RBlk) (B b : Nat) (pv : Option Addr) (cv : Nat) (va vu : Value) (w : World) (ha : w.ownsRow B 92 1 va (allL bs).length (icell (allL bs))) (hu : SetR B w vu bs.length (undL bs)) (hb : b < bs.length) (hn : bs.length ≤ 1000) :
    Calls Tryz.prog 44 #[.agg #[.slice pv bs.length cv, va, vu], .int .i64 b] w fun e w' => e = .returned (.int .i64 (kprF (suF bs) bs.length b)) ∧ Below w.heap.size w w' := by
  obtain ⟨pa, ca, rfl⟩ := owns_slice2 ha
  obtain ⟨pu, cu, rfl⟩ := hu.slice
  have HU := stop hu
  have HA := stop ha
  clear hu ha
  go_enter Tryz.func44, Tryz.ntmps44
  go_wp2_with fail
  obtain ⟨W1, hW1⟩ : ∃ W1, W1 = w.alloc (.cells #[.slice pv bs.length cv, .slice pa (allL bs).length ca, .slice pu bs.length cu] 89) := ⟨_, rfl⟩
  rw [← hW1]
  have g1 : W1.heap[w.heap.size]? = some (.cells #[.slice pv bs.length cv, .slice pa (allL bs).length ca, .slice pu bs.length cu] 89 (0, 0)) := by rw [hW1]; exact heap_alloc_last _ _
  have f1 : Below w.heap.size w W1 := by rw [hW1]; exact (Below.refl _ _).alloc (Nat.le_refl _) _
  have s1 : W1.heap.size = w.heap.size + 1 := by rw [hW1, World.size_alloc]
  clear hW1
  refine (reachM bs B b _ _ _ W1 ⟨_, _, _, rfl⟩ ⟨_, _, _, rfl⟩ (owns_keeps HA.out (Keeps.below (T := fun _ => True) f1) trivial) hb hn).mono ?_
  rintro e w2 ⟨rfl, f2⟩
  have s2 := f2.size
  have g2 : w2.heap[w.heap.size]? = some (.cells #[.slice pv bs.length cv, .slice pa (allL bs).length ca, .slice pu bs.length cu] 89 (0, 0)) := by rw [f2.block _ (by omega)]; exact g1
  have F2 := stop (f1.trans (f2.mono (by omega)))
  have k0 := cell_of g2 0
  have k1 := cell_of g2 1
  have k2 := cell_of g2 2
  simp at k0 k1 k2
  clear f1 f2 g1 g2
  cases hr : rchF (suF bs) bs.length noB b with
  | false =>
    have HF : Hid (kprF (suF bs) bs.length b = -2) := by show _ = _; rw [kprF, hr]; rfl
    clear hr
    go_wp2_with fail
    go_ret
    exact ⟨by rw [HF.out]; rfl, F2.out⟩
  | true =>
    have HKF : Hid (kprF (suF bs) bs.length b = (match kprO (suF bs) bs.length b with | some a => (a : Int) | none => -1)) := by show _ = _; rw [kprF, hr, if_pos rfl]; cases kprO (suF bs) bs.length b <;> rfl
    clear hr
    go_wp2_with fail
    refine (keeperM bs B b pv cv _ _ w2 ⟨_, _, _, rfl⟩ (HU.out.keeps F2.out) hb hn).mono ?_
    rintro e w3 ⟨⟨a, hk, rfl⟩ | ⟨hk, rfl⟩, f3⟩
    · have HF : Hid (kprF (suF bs) bs.length b = (a : Int)) := by show _ = _; rw [HKF.out, hk]
      have F3 := stop (F2.out.trans (f3.mono (by omega)))
      clear hk f3 HKF
      go_wp2_with fail
      go_ret
      exact ⟨by rw [HF.out]; rfl, F3.out⟩
    · have HF : Hid (kprF (suF bs) bs.length b = -1) := by show _ = _; rw [HKF.out, hk]
      have F3 := stop (F2.out.trans (f3.mono (by omega)))
      clear hk f3 HKF
      go_wp2_with fail
      go_ret
      exact ⟨by rw [HF.out]; rfl, F3.out⟩

end Go.Proofs.YtgfhfkgdmidhpaaGreat

namespace Go.Proofs.YtgfhfkgdmidhpaaGreat
open Go.RowKit

def kprs (bs : List RBlk) : List Int := (List.range bs.length).map (kprF (suF bs) bs.length)
def zcell (l : List Int) : List Value := l.map (Value.int .i64)
/-- The keepers, as far as they are found. -/
def kprTo (bs : List RBlk) (m : Nat) : List Int := (List.range bs.length).map fun j => if j < m then kprF (suF bs) bs.length j else 0
theorem kprTo_len (bs m) : (kprTo bs m).length = bs.length := by simp [kprTo]
theorem kprTo_zero (bs) : zcell (kprTo bs 0) = List.replicate bs.length (.int .i64 0) := by
  apply List.ext_getElem (by simp [zcell, kprTo])
  intro i h1 h2
  simp [zcell, kprTo]
theorem kprTo_all (bs) : kprTo bs bs.length = kprs bs := List.map_congr_left fun j hj => by rw [if_pos (by simpa using hj)]
theorem kprTo_set (bs : List RBlk) (m : Nat) : (zcell (kprTo bs m)).set m (.int .i64 (kprF (suF bs) bs.length m)) = zcell (kprTo bs (m + 1)) := by
  rw [zcell, zcell, ← List.map_set]
  congr 1
  apply List.ext_getElem?
  intro j
  rw [List.getElem?_set, kprTo_len]
  by_cases hj : j < bs.length
  · rw [kprTo, kprTo, List.getElem?_map, List.getElem?_map, List.getElem?_range hj]
    by_cases e : m = j
    · subst e; simp [hj]
    · rw [if_neg e]
      by_cases e2 : j < m
      · simp [e2, show j < m + 1 by omega]
      · simp [e2, show ¬ j < m + 1 by omega]
  · have h1 : (kprTo bs m)[j]? = none := List.getElem?_eq_none (by rw [kprTo_len]; omega)
    have h2 : (kprTo bs (m + 1))[j]? = none := List.getElem?_eq_none (by rw [kprTo_len]; omega)
    rw [h1, h2]
    by_cases e : m = j
    · subst e; simp [hj]
    · simp [e]

set_option maxRecDepth 100000 in
set_option maxHeartbeats 4000000 in
theorem keepersOfP (bs : List RBlk) (base : Nat) (v : Value) (w : World) (h : PBs w base bs v) (hgl : Hid (∀ b ∈ bs, ∀ p ∈ goalsF b.e, p.1 < bs.length)) (hn0 : 0 < bs.length) (hn : bs.length ≤ 1000) :
    Calls Tryz.prog 26 #[v] w fun x w' => ∃ v', x = .returned v' ∧ w'.ownsRow w.heap.size 3 1 v' (kprs bs).length (zcell (kprs bs)) ∧ Below w.heap.size w w' := by
  have HP := stop h
  obtain ⟨pv, cv, rfl⟩ := h.slice
  clear h
  obtain ⟨I9, Hi9, Hz9, Hs9, Hb9⟩ := info_parts Tryz.info3
  have HI := stop (And.intro Hi9 (And.intro Hz9 (And.intro Hs9 Hb9)))
  clear Hi9 Hz9 Hs9 Hb9
  go_enter Tryz.func26, Tryz.ntmps26
  go_wp2_with fail
  refine (pathsP bs base _ w HP.out hgl hn0 hn).mono ?_
  rintro e w1 ⟨va, vu, rfl, oa, su, f1⟩
  obtain ⟨pa, ca, rfl⟩ := owns_slice2 oa
  obtain ⟨pu, cu, rfl⟩ := su.slice
  have O1 := stop (And.intro oa (And.intro su f1))
  have s1 := f1.size
  clear oa su f1
  go_wp2_with (at_make; refine unstop ?_)
  refine stop ?_
  obtain ⟨W2, hW2⟩ : ∃ W2, W2 = w1.alloc (.cells #[.slice pv bs.length cv, .slice pa (allL bs).length ca, .slice pu bs.length cu] 89) := ⟨_, rfl⟩
  rw [← hW2]
  have g2 : W2.heap[w1.heap.size]? = some (.cells #[.slice pv bs.length cv, .slice pa (allL bs).length ca, .slice pu bs.length cu] 89 (0, 0)) := by rw [hW2]; exact heap_alloc_last _ _
  have f2 : Below w1.heap.size w1 W2 := by rw [hW2]; exact (Below.refl _ _).alloc (Nat.le_refl _) _
  have s2 : W2.heap.size = w1.heap.size + 1 := by rw [hW2, World.size_alloc]
  clear hW2
  refine wpList_make_full _ rfl _ _ 29 rfl (w1.heap.size + 1) 3 I9 (.int .i64 0) 1 Tryz.underlying29 HI.out.1 HI.out.2.1 HI.out.2.2.1 .i64 .i64 _ _ bs.length rfl rfl rfl rfl (by rw [HI.out.2.2.2]; omega) (by unfold maxLen; omega) (by omega) ?_
  intro w3 o3 gr3
  rw [made_one _ rfl, ← kprTo_zero, s2] at o3
  rw [s2]
  have f3 : Below W2.heap.size W2 w3 := Below.grown (Below.refl _ _) gr3 (Nat.le_refl _) (fun k hk => by cases hk)
  have s3 := f3.size
  have f13 := f2.trans (f3.mono (by omega))
  have B0 : Hid (w3.heap[w1.heap.size]? = some (.cells #[.slice pv bs.length cv, .slice pa (allL bs).length ca, .slice pu bs.length cu] 89 (0, 0)) ∧ w3.ownsRow (w1.heap.size + 1) 3 1 (.slice (some ⟨w1.heap.size + 1, 0, none⟩) bs.length bs.length) bs.length (zcell (kprTo bs 0)) ∧ Below w1.heap.size w1 w3 ∧ w1.heap.size + 1 ≤ w3.heap.size) := ⟨by rw [f3.block _ (by omega)]; exact g2, o3, f13, by omega⟩
  clear g2 f2 s2 o3 gr3 f3 s3 f13 HI
  go_wp2_with fail
  go_loopw [13] (fun i wr => ∃ m : Nat, m ≤ bs.length ∧ i = .int .i64 m ∧ Hid (wr.heap[w1.heap.size]? = some (.cells #[.slice pv bs.length cv, .slice pa (allL bs).length ca, .slice pu bs.length cu] 89 (0, 0)) ∧ wr.ownsRow (w1.heap.size + 1) 3 1 (.slice (some ⟨w1.heap.size + 1, 0, none⟩) bs.length bs.length) bs.length (zcell (kprTo bs m)) ∧ Below w1.heap.size w1 wr ∧ w1.heap.size + 1 ≤ wr.heap.size)) (fun i _ => bs.length - (intOf i).toNat)
  case atStart => exact ⟨0, by omega, rfl, B0⟩
  case round =>
    clear B0
    obtain ⟨m, hm, rfl, HR⟩ := hrel
    by_cases hlt : m < bs.length
    · have k0 := cell_of HR.out.1 0
      have k1 := cell_of HR.out.1 1
      have k2 := cell_of HR.out.1 2
      simp at k0 k1 k2
      have OA := stop (owns_keeps O1.out.1 (Keeps.below (T := fun _ => True) HR.out.2.2.1) trivial)
      have OU := stop (O1.out.2.1.keeps HR.out.2.2.1)
      go_wp2_with fail
      refine (keeperOfM bs w.heap.size m pv cv _ _ wr OA.out OU.out hlt hn).mono ?_
      rintro e w5 ⟨rfl, f5⟩
      have s5 := f5.size
      have hz := HR.out.2.2.2
      have o5 := owns_keeps HR.out.2.1 (Keeps.below (T := fun _ => True) f5) trivial
      have cm : ∃ u, w5.cell? ⟨w1.heap.size + 1, m, none⟩ = some u := ⟨_, owns_cell o5 (List.getElem?_eq_getElem (by rw [o5.1]; omega))⟩
      obtain ⟨um, hum⟩ := cm
      have hfm := owns_fz o5 m
      have h5 : w5.heap[w1.heap.size]? = some (.cells #[.slice pv bs.length cv, .slice pa (allL bs).length ca, .slice pu bs.length cu] 89 (0, 0)) := by rw [f5.block _ (by omega)]; exact HR.out.1
      have HR5 : Hid ((w5.setCell ⟨w1.heap.size + 1, m, none⟩ (.int .i64 (kprF (suF bs) bs.length m))).heap[w1.heap.size]? = some (.cells #[.slice pv bs.length cv, .slice pa (allL bs).length ca, .slice pu bs.length cu] 89 (0, 0)) ∧ (w5.setCell ⟨w1.heap.size + 1, m, none⟩ (.int .i64 (kprF (suF bs) bs.length m))).ownsRow (w1.heap.size + 1) 3 1 (.slice (some ⟨w1.heap.size + 1, 0, none⟩) bs.length bs.length) bs.length (zcell (kprTo bs (m + 1))) ∧ Below w1.heap.size w1 (w5.setCell ⟨w1.heap.size + 1, m, none⟩ (.int .i64 (kprF (suF bs) bs.length m))) ∧ w1.heap.size + 1 ≤ (w5.setCell ⟨w1.heap.size + 1, m, none⟩ (.int .i64 (kprF (suF bs) bs.length m))).heap.size) := by
        refine ⟨blk_setOther h5 (by omega) _ _, ?_, below_set (HR.out.2.2.1.trans (f5.mono (by omega))) _ _ _ (by omega), by rw [size_set]; omega⟩
        rw [← kprTo_set]; exact owns_store o5 m _
      clear k0 k1 k2 OA OU f5 o5 h5 HR
      go_wp2_with fail
      go_roundw
      case rel => exact ⟨m + 1, by omega, by go_num, HR5⟩
      case measure => simp [intOf]; omega
    · have hme : m = bs.length := by omega
      subst hme
      have F9 : Hid (wr.ownsRow w.heap.size 3 1 (.slice (some ⟨w1.heap.size + 1, 0, none⟩) bs.length bs.length) (kprs bs).length (zcell (kprs bs)) ∧ Below w.heap.size w wr) := by
        refine ⟨?_, O1.out.2.2.trans (HR.out.2.2.1.mono s1)⟩
        have := owns_base HR.out.2.1 (base' := w.heap.size) (by omega)
        rw [kprTo_all] at this
        rw [show (kprs bs).length = bs.length by simp [kprs]]
        exact this
      clear HR
      go_wp2_with fail
      go_ret
      exact ⟨_, rfl, F9.out.1, F9.out.2⟩

theorem parGo_pos {s : ByteArray} (k : Nat) (p : Par) (h : 0 < p.bs.length ∨ 0 < k) : 0 < (parGo s k p).bs.length := by
  induction k generalizing p with
  | zero =>
    rcases h with h | h
    · exact h
    · omega
  | succ k ih =>
    rw [parGo]
    split
    · exact ih _ (.inl (by simp))
    · simp
theorem rd0 {s : ByteArray} (h : (rdF s).e = 0) : (rdF s).at_ = 0 ∧ 0 < (parF s).bs.length ∧ (parF s).bs.length ≤ 12 ∧ ∀ b ∈ (parF s).bs, ∀ p ∈ goalsF b.e, p.1 < (parF s).bs.length := by
  have hp : 0 < (parF s).bs.length := parGo_pos _ _ (.inr (by omega))
  unfold rdF at h ⊢
  by_cases h1 : 200000 < s.size
  · rw [if_pos h1] at h; cases h
  rw [if_neg h1] at h ⊢
  by_cases h2 : 0 ≤ parBad s
  · rw [if_pos h2] at h; cases h
  rw [if_neg h2] at h ⊢
  by_cases h3 : 12 < (parF s).bs.length
  · rw [dif_pos h3] at h; cases h
  rw [dif_neg h3] at h ⊢
  by_cases h4 : 0 ≤ lostF (parF s).bs
  · rw [if_pos h4] at h; cases h
  rw [if_neg h4] at h ⊢
  by_cases h5 : 0 ≤ unfF (parF s).bs
  · rw [if_pos h5] at h; cases h
  rw [if_neg h5]
  exact ⟨rfl, hp, by omega, lost_goals h4⟩
/-- What Keepers lists. -/
def keepF (s : ByteArray) : List Int := if (rdF s).e = 0 then kprs (parF s).bs else []

set_option maxRecDepth 100000 in
set_option maxHeartbeats 1000000 in
theorem keepersP (s : ByteArray) (w : World) :
    Calls Tryz.prog 12 #[.string s] w fun x w' => ∃ v, x = .returned (.tuple #[v, .int .i64 (rdF s).e, .int .i64 (rdF s).at_]) ∧ w'.ownsRow w.heap.size 3 1 v (keepF s).length (zcell (keepF s)) ∧ Below w.heap.size w w' := by
  go_enter Tryz.func12, Tryz.ntmps12
  go_wp2_with fail
  refine (readS_any s w).mono ?_
  rintro x w1 ⟨v1, rfl, P1, f1⟩
  have F1 := stop f1
  have s1 := f1.size
  by_cases h0 : (rdF s).e = 0
  · obtain ⟨ha, hp, h12, hg⟩ := rd0 h0
    have PB := P1 h0
    have HK : Hid (keepF s = kprs (parF s).bs) := by show _ = _; rw [keepF, if_pos h0]
    have HA := stop ha
    have HE := stop h0
    have hg' := stop hg
    have PBH := stop PB
    obtain ⟨pv, cv, rfl⟩ := PB.slice
    rw [h0, ha]
    clear f1 P1 PB h0 ha hg
    go_wp2_with fail
    refine (keepersOfP (parF s).bs w.heap.size _ w1 PBH.out hg' hp (by omega)).mono ?_
    rintro x w2 ⟨v2, rfl, o2, f2⟩
    have O2 : Hid (w2.ownsRow w.heap.size 3 1 v2 (keepF s).length (zcell (keepF s)) ∧ Below w.heap.size w w2) := ⟨by rw [HK.out]; exact owns_base o2 s1, F1.out.trans (f2.mono s1)⟩
    clear o2 f2
    go_wp2_with fail
    go_ret3
    exact ⟨_, by rw [HE.out, HA.out]; rfl, O2.out.1, O2.out.2⟩
  · have HK : Hid (keepF s = []) := by show _ = _; rw [keepF, if_neg h0]
    have hd : (((rdF s).e : Int) != 0) = true := by simp; omega
    clear f1 P1 h0
    go_wp2_with fail
    go_ret3
    exact ⟨_, rfl, by rw [HK.out]; exact World.ownsRow_nil _ _ _ _, F1.out⟩

end Go.Proofs.YtgfhfkgdmidhpaaGreat
