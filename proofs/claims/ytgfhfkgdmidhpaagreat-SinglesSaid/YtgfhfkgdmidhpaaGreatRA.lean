import Derived.Test.YtgfhfkgdmidhpaaGreatG24
import Derived.Test.YtgfhfkgdmidhpaaGreatKA
namespace Go.Proofs.YtgfhfkgdmidhpaaGreat
open Go.RowKit

theorem aheB_su {bs : List RBlk} {y i : Nat} (hi : i < bs.length) : aheB bs y i = (suF bs i).contains y := by
  have h1 : bs[i]? = some bs[i] := List.getElem?_eq_getElem hi
  rw [aheB, h1, suF_at hi]
  show hasF (toR bs[i].e) y = _
  rw [Bool.eq_iff_iff, hasF_iff, List.contains_iff_mem, toR_mem]
theorem ahe_any (bs : List RBlk) (x y : Nat) : (aheF bs y).any (overF (suF bs) bs.length x) = (List.range bs.length).any fun k => (suF bs k).contains y && overF (suF bs) bs.length x k := by
  rw [Bool.eq_iff_iff, List.any_eq_true, List.any_eq_true]
  constructor
  · rintro ⟨k, hk, ho⟩
    rw [aheF, aheTo, List.mem_filter, List.mem_range] at hk
    rw [aheB_su hk.1] at hk
    exact ⟨k, List.mem_range.2 hk.1, by rw [hk.2, ho]; rfl⟩
  · rintro ⟨k, hk, ho⟩
    rw [Bool.and_eq_true] at ho
    exact ⟨k, by rw [aheF, aheTo, List.mem_filter, aheB_su (List.mem_range.1 hk)]; exact ⟨hk, ho.1⟩, ho.2⟩
theorem rimB_ahe (bs : List RBlk) (x y : Nat) : rimB (suF bs) bs.length x y = ((aheF bs y).any (overF (suF bs) bs.length x) && (x == y || !overF (suF bs) bs.length x y)) := by rw [ahe_any, rimB]
def rimTo (bs : List RBlk) (x m : Nat) : List Nat := (List.range m).filter (rimB (suF bs) bs.length x)
theorem rimTo_succ (bs x m) : rimTo bs x (m + 1) = if rimB (suF bs) bs.length x m then rimTo bs x m ++ [m] else rimTo bs x m := by
  rw [rimTo, List.range_succ, List.filter_append]
  cases h : rimB (suF bs) bs.length x m <;> simp [h, rimTo]
theorem rimTo_len (bs x m) : (rimTo bs x m).length ≤ m := by
  have := List.length_filter_le (rimB (suF bs) bs.length x) (List.range m); simpa [rimTo] using this
theorem any_take {α : Type} {P : α → Bool} {L : List α} {k : Nat} (hk : k < L.length) : (L.take (k + 1)).any P = ((L.take k).any P || P L[k]) := by
  rw [List.take_succ_eq_append_getElem hk, List.any_append]; simp

set_option maxRecDepth 100000 in
set_option maxHeartbeats 2000000 in
theorem rimR (bs : List RBlk) (x : Nat) (base : Nat) (v : Value) (w : World) (h : BlksOwn w base bs v) (hgl : Hid (∀ b ∈ bs, ∀ p ∈ goalsF b.e, p.1 < bs.length)) (hx : x < bs.length) (hn : bs.length ≤ 1000) :
    Calls Tryz.prog 29 #[v, .int .i64 x] w fun r w' => ∃ v', r = .returned v' ∧ w'.ownsRow w.heap.size 3 1 v' (rimL (suF bs) bs.length x).length (icell (rimL (suF bs) bs.length x)) ∧ Below w.heap.size w w' := by
  have HB := stop h
  obtain ⟨pv, cv, rfl⟩ := h.slice
  clear h
  go_enter Tryz.func29, Tryz.ntmps29
  go_wp2_with fail
  refine (reachR bs (-1) base _ w HB.out hgl (by omega) hn).mono ?_
  rintro r w1 ⟨v1, rfl, o1, f1⟩
  rw [barW_no] at o1
  have s1 := f1.size
  obtain ⟨p1, c1, rfl⟩ := owns_slice2 o1
  obtain ⟨g1, rfl, _, _⟩ := owns_form o1 (by omega)
  have B0 := stop (And.intro o1 f1)
  clear o1 f1
  cases hr : rchF (suF bs) bs.length noB x with
  | false =>
    have HR0 := stop (rim_none (by omega) (suF_lt hgl.out) hr)
    have k1 := owns_cell B0.out.1 (bcell_at hx)
    rw [hr] at k1
    clear hr
    have hd0 : decide ((0 : Int) < (bs.length : Int)) = true := by simp; omega
    go_wp2_with fail
    go_loopw [5, 7] (fun l i wr => l = .slice none 0 0 ∧ i = .int .i64 0 ∧ Hid (wr = w1)) (fun _ _ _ => 0)
    case atStart => exact ⟨rfl, rfl, rfl⟩
    case round =>
      obtain ⟨rfl, rfl, HW⟩ := hrel
      have k2 : wr.cell? ⟨g1, x, none⟩ = some (.bool false) := by rw [HW.out]; exact k1
      clear k1
      go_wp2_with fail
      go_ret
      exact ⟨_, rfl, by rw [HR0.out]; exact World.ownsRow_nil _ _ _ _, by rw [HW.out]; exact B0.out.2⟩
  | true =>
    have HCX : Hid (rchF (suF bs) bs.length noB x = true) := hr
    clear hr
    go_wp2_with fail
    go_loopw [5, 7] (fun l i wr => ∃ m : Nat, m ≤ bs.length ∧ i = .int .i64 m ∧ wr.ownsRow w1.heap.size 3 1 l (rimTo bs x m).length (icell (rimTo bs x m)) ∧ Hid (wr.ownsRow w.heap.size 4 1 (.slice (some ⟨g1, 0, none⟩) bs.length c1) bs.length (bcell bs.length (rchF (suF bs) bs.length noB)) ∧ Below w.heap.size w wr ∧ w1.heap.size ≤ wr.heap.size)) (fun _ i _ => bs.length - (intOf i).toNat)
    case atStart => exact ⟨0, by omega, rfl, World.ownsRow_nil _ _ _ _, B0.out.1, B0.out.2, Nat.le_refl _⟩
    case round =>
      clear B0
      obtain ⟨m, hm, rfl, OL, HR⟩ := hrel
      obtain ⟨pl, cl, rfl⟩ := owns_slice2 OL
      by_cases hlt : m < bs.length
      · have k1 := owns_cell HR.out.1 (bcell_at hx)
        rw [HCX.out] at k1
        have OLH := stop OL
        have HBL := stop (HB.out.keeps3 (Keeps.below HR.out.2.1))
        have hzr := HR.out.2.1.size
        have hz1 := HR.out.2.2
        have hal := rimTo_len bs x m
        clear OL
        go_wp2_with fail
        refine (ahead_any bs m base _ wr HBL.out (by omega)).mono ?_
        rintro r w2 ⟨v2, rfl, o2, f2⟩
        have s2 := f2.size
        have hll : (aheF bs m).length ≤ bs.length := aheTo_len _ _ _
        have HRB := stop (rimB_ahe bs x m)
        have HLT : Hid (∀ k ∈ aheF bs m, k < bs.length) := fun k hk => by rw [aheF, aheTo, List.mem_filter, List.mem_range] at hk; exact hk.1
        generalize aheF bs m = ah at *
        obtain ⟨p2, c2, rfl⟩ := owns_slice2 o2
        have B2 : Hid (w2.ownsRow w.heap.size 4 1 (.slice (some ⟨g1, 0, none⟩) bs.length c1) bs.length (bcell bs.length (rchF (suF bs) bs.length noB)) ∧ w2.ownsRow w.heap.size 3 1 (.slice p2 ah.length c2) ah.length (icell ah) ∧ w2.ownsRow w1.heap.size 3 1 (.slice pl (rimTo bs x m).length cl) (rimTo bs x m).length (icell (rimTo bs x m)) ∧ Below w.heap.size w w2 ∧ w1.heap.size ≤ w2.heap.size) :=
          ⟨owns_keeps HR.out.1 (Keeps.below (T := fun _ => True) f2) trivial, owns_base o2 hzr, owns_keeps OLH.out (Keeps.below (T := fun _ => True) f2) trivial, HR.out.2.1.trans (f2.mono hzr), by omega⟩
        clear o2 f2 k1 OLH HR HBL
        go_wp2_with fail
        go_loopw [9, 10] (fun i k wr2 => ∃ q : Nat, q ≤ ah.length ∧ k = .int .i64 q ∧ i = .bool ((ah.take q).any (overF (suF bs) bs.length x)) ∧ Hid (wr2.ownsRow w.heap.size 4 1 (.slice (some ⟨g1, 0, none⟩) bs.length c1) bs.length (bcell bs.length (rchF (suF bs) bs.length noB)) ∧ wr2.ownsRow w.heap.size 3 1 (.slice p2 ah.length c2) ah.length (icell ah) ∧ wr2.ownsRow w1.heap.size 3 1 (.slice pl (rimTo bs x m).length cl) (rimTo bs x m).length (icell (rimTo bs x m)) ∧ Below w.heap.size w wr2 ∧ w1.heap.size ≤ wr2.heap.size)) (fun _ k _ => ah.length - (intOf k).toNat)
        case atStart => exact ⟨0, by omega, rfl, rfl, B2⟩
        case round =>
          clear B2
          obtain ⟨q, hq, rfl, rfl, HR2⟩ := hrel
          by_cases hql : q < ah.length
          · have HAT := stop (any_take (P := overF (suF bs) bs.length x) hql)
            cases hin : (ah.take q).any (overF (suF bs) bs.length x) with
            | true =>
              have HA2 : Hid ((ah.take (q + 1)).any (overF (suF bs) bs.length x) = true) := by show _ = _; rw [HAT.out, hin]; rfl
              clear hin HAT
              go_wp2_with fail
              go_roundw
              case rel => exact ⟨q + 1, by omega, by go_num, by rw [HA2.out], HR2⟩
              case measure => simp [intOf]; omega
            | false =>
              have HA2 : Hid ((ah.take (q + 1)).any (overF (suF bs) bs.length x) = overF (suF bs) bs.length x ah[q]) := by show _ = _; rw [HAT.out, hin]; rfl
              clear hin HAT
              obtain ⟨g2, rfl, _, _⟩ := owns_form HR2.out.2.1 (by omega)
              have ck := owns_cell HR2.out.2.1 (icell_at hql)
              have haq := HLT.out _ (List.getElem_mem hql)
              have HBL := stop (HB.out.keeps3 (Keeps.below HR2.out.2.2.2.1))
              have hzr2 := HR2.out.2.2.2.1.size
              have hzw := HR2.out.2.2.2.2
              go_wp2_with fail
              refine (overR bs x ah[q] base _ wr HBL.out hgl haq hn).mono ?_
              rintro r w5 ⟨rfl, f5⟩
              have s5 := f5.size
              have HR5 : Hid (w5.ownsRow w.heap.size 4 1 (.slice (some ⟨g1, 0, none⟩) bs.length c1) bs.length (bcell bs.length (rchF (suF bs) bs.length noB)) ∧ w5.ownsRow w.heap.size 3 1 (.slice (some ⟨g2, 0, none⟩) ah.length c2) ah.length (icell ah) ∧ w5.ownsRow w1.heap.size 3 1 (.slice pl (rimTo bs x m).length cl) (rimTo bs x m).length (icell (rimTo bs x m)) ∧ Below w.heap.size w w5 ∧ w1.heap.size ≤ w5.heap.size) :=
                ⟨owns_keeps HR2.out.1 (Keeps.below (T := fun _ => True) f5) trivial, owns_keeps HR2.out.2.1 (Keeps.below (T := fun _ => True) f5) trivial, owns_keeps HR2.out.2.2.1 (Keeps.below (T := fun _ => True) f5) trivial, HR2.out.2.2.2.1.trans (f5.mono hzr2), by omega⟩
              clear f5 ck HBL HR2
              go_wp2_with fail
              go_roundw
              case rel => exact ⟨q + 1, by omega, by go_num, by rw [HA2.out], HR5⟩
              case measure => simp [intOf]; omega
          · have hqe : q = ah.length := by omega
            subst hqe
            have hzr2 := HR2.out.2.2.2.1.size
            have hzw := HR2.out.2.2.2.2
            have HST := rimTo_succ bs x m
            rw [HRB.out] at HST
            rw [List.take_length]
            cases hin : ah.any (overF (suF bs) bs.length x) with
            | false =>
              rw [hin, Bool.false_and, if_neg (by simp)] at HST
              have HST' := stop HST
              clear hin HST
              go_wp2_with fail
              go_roundw
              case rel => exact ⟨m + 1, by omega, by go_num, by rw [HST'.out]; exact HR2.out.2.2.1, HR2.out.1, HR2.out.2.2.2⟩
              case measure => simp [intOf]; omega
            | true =>
              rw [hin, Bool.true_and] at HST
              clear hin
              by_cases hxm : x = m
              · have hd : ((x : Int) == (m : Int)) = true := by simp [hxm]
                have hb1 : (x == m) = true := by simp [hxm]
                rw [hb1, Bool.true_or, if_pos rfl] at HST
                have HST' := stop HST
                clear hxm hb1 HST
                have OL3 := HR2.out.2.2.1.alloc (.cells #[.int .i64 m] 3)
                have HR3 : Hid ((wr.alloc (.cells #[.int .i64 m] 3)).ownsRow w.heap.size 4 1 (.slice (some ⟨g1, 0, none⟩) bs.length c1) bs.length (bcell bs.length (rchF (suF bs) bs.length noB)) ∧ Below w.heap.size w (wr.alloc (.cells #[.int .i64 m] 3)) ∧ w1.heap.size ≤ (wr.alloc (.cells #[.int .i64 m] 3)).heap.size) := ⟨HR2.out.1.alloc _, HR2.out.2.2.2.1.alloc (by omega) _, by rw [World.size_alloc]; omega⟩
                clear HR2
                go_wp2_with (at_builtin; refine unstop ?_)
                refine stop ?_
                have gB := heap_alloc_last wr (.cells #[.int .i64 m] 3)
                refine app1 Tryz.underlying29 Tryz.info3 rfl (by decide) (by decide) rfl _ _ rfl rfl OL3 gB rfl rfl (List.all_eq_true.1 rfl) (by omega) (by simp; omega) ?_
                intro v3 wS oS gS
                have HR4 : Hid (wS.ownsRow w1.heap.size 3 1 v3 (rimTo bs x (m + 1)).length (icell (rimTo bs x (m + 1))) ∧ wS.ownsRow w.heap.size 4 1 (.slice (some ⟨g1, 0, none⟩) bs.length c1) bs.length (bcell bs.length (rchF (suF bs) bs.length noB)) ∧ Below w.heap.size w wS ∧ w1.heap.size ≤ wS.heap.size) := by
                  refine ⟨by rw [HST'.out, List.length_append]; simpa [icell] using oS, owns_keeps HR3.out.1 (Keeps.grown (T := fun t => t = 4) OL3 gS (by simp)) rfl, Below.grown HR3.out.2.1 gS (by simp; omega) (fun j hj => by have := (OL3.lt j hj).1; omega), Nat.le_trans HR3.out.2.2 gS.size⟩
                clear gS gB OL3 HR3
                obtain ⟨p5, c5, rfl⟩ := owns_slice2 oS
                clear oS
                go_wp2_with fail
                go_roundw
                case rel => exact ⟨m + 1, by omega, by go_num, HR4.out.1, HR4.out.2⟩
                case measure => simp [intOf]; omega
              · have hd : ((x : Int) == (m : Int)) = false := by simp; omega
                have hb1 : (x == m) = false := by simp [hxm]
                rw [hb1, Bool.false_or] at HST
                have HBL := stop (HB.out.keeps3 (Keeps.below HR2.out.2.2.2.1))
                clear hxm hb1
                go_wp2_with fail
                refine (overR bs x m base _ wr HBL.out hgl hlt hn).mono ?_
                rintro r w5 ⟨rfl, f5⟩
                have s5 := f5.size
                have HR5 : Hid (w5.ownsRow w.heap.size 4 1 (.slice (some ⟨g1, 0, none⟩) bs.length c1) bs.length (bcell bs.length (rchF (suF bs) bs.length noB)) ∧ w5.ownsRow w.heap.size 3 1 (.slice p2 ah.length c2) ah.length (icell ah) ∧ w5.ownsRow w1.heap.size 3 1 (.slice pl (rimTo bs x m).length cl) (rimTo bs x m).length (icell (rimTo bs x m)) ∧ Below w.heap.size w w5 ∧ w1.heap.size ≤ w5.heap.size) :=
                  ⟨owns_keeps HR2.out.1 (Keeps.below (T := fun _ => True) f5) trivial, owns_keeps HR2.out.2.1 (Keeps.below (T := fun _ => True) f5) trivial, owns_keeps HR2.out.2.2.1 (Keeps.below (T := fun _ => True) f5) trivial, HR2.out.2.2.2.1.trans (f5.mono hzr2), by omega⟩
                clear f5 HBL HR2
                cases h1 : overF (suF bs) bs.length x m with
                | true =>
                  rw [h1, Bool.not_true, if_neg (by simp)] at HST
                  have HST' := stop HST
                  clear h1 HST
                  go_wp2_with fail
                  go_roundw
                  case rel => exact ⟨m + 1, by omega, by go_num, by rw [HST'.out]; exact HR5.out.2.2.1, HR5.out.1, HR5.out.2.2.2⟩
                  case measure => simp [intOf]; omega
                | false =>
                  rw [h1, Bool.not_false, if_pos rfl] at HST
                  have HST' := stop HST
                  clear h1 HST
                  have OL3 := HR5.out.2.2.1.alloc (.cells #[.int .i64 m] 3)
                  have HR3 : Hid ((w5.alloc (.cells #[.int .i64 m] 3)).ownsRow w.heap.size 4 1 (.slice (some ⟨g1, 0, none⟩) bs.length c1) bs.length (bcell bs.length (rchF (suF bs) bs.length noB)) ∧ Below w.heap.size w (w5.alloc (.cells #[.int .i64 m] 3)) ∧ w1.heap.size ≤ (w5.alloc (.cells #[.int .i64 m] 3)).heap.size) := ⟨HR5.out.1.alloc _, HR5.out.2.2.2.1.alloc (by omega) _, by rw [World.size_alloc]; omega⟩
                  clear HR5
                  go_wp2_with (at_builtin; refine unstop ?_)
                  refine stop ?_
                  have gB := heap_alloc_last w5 (.cells #[.int .i64 m] 3)
                  refine app1 Tryz.underlying29 Tryz.info3 rfl (by decide) (by decide) rfl _ _ rfl rfl OL3 gB rfl rfl (List.all_eq_true.1 rfl) (by omega) (by simp; omega) ?_
                  intro v3 wS oS gS
                  have HR4 : Hid (wS.ownsRow w1.heap.size 3 1 v3 (rimTo bs x (m + 1)).length (icell (rimTo bs x (m + 1))) ∧ wS.ownsRow w.heap.size 4 1 (.slice (some ⟨g1, 0, none⟩) bs.length c1) bs.length (bcell bs.length (rchF (suF bs) bs.length noB)) ∧ Below w.heap.size w wS ∧ w1.heap.size ≤ wS.heap.size) := by
                    refine ⟨by rw [HST'.out, List.length_append]; simpa [icell] using oS, owns_keeps HR3.out.1 (Keeps.grown (T := fun t => t = 4) OL3 gS (by simp)) rfl, Below.grown HR3.out.2.1 gS (by simp; omega) (fun j hj => by have := (OL3.lt j hj).1; omega), Nat.le_trans HR3.out.2.2 gS.size⟩
                  clear gS gB OL3 HR3
                  obtain ⟨p5, c5, rfl⟩ := owns_slice2 oS
                  clear oS
                  go_wp2_with fail
                  go_roundw
                  case rel => exact ⟨m + 1, by omega, by go_num, HR4.out.1, HR4.out.2⟩
                  case measure => simp [intOf]; omega
      · have hme : m = bs.length := by omega
        subst hme
        have O9 := stop OL
        have hz1 := HR.out.2.2
        clear OL
        have hd0 : decide ((bs.length : Int) < (bs.length : Int)) = false := by simp
        go_wp2_with fail
        go_ret
        exact ⟨_, rfl, owns_base O9.out s1, HR.out.2.1⟩

end Go.Proofs.YtgfhfkgdmidhpaaGreat

namespace Go.Proofs.YtgfhfkgdmidhpaaGreat
open Go.RowKit

/-- A row of lists, to be read. -/
def RowR (base : Nat) (w : World) (v : Value) (n : Nat) (f : Nat → List Nat) : Prop :=
  ∃ us : List Value, w.ownsRow base 29 1 v n us ∧ ∀ (k : Nat) (u : Value), us[k]? = some u → w.ownsRow base 3 1 u (f k).length (icell (f k))
theorem RowR.slice {base w v n f} (h : RowR base w v n f) : ∃ p c, v = .slice p n c := by obtain ⟨us, a, _⟩ := h; exact owns_slice2 a
theorem RowR.nil (base : Nat) (w : World) (f : Nat → List Nat) : RowR base w (.slice none 0 0) 0 f := ⟨[], World.ownsRow_nil _ _ _ _, fun k u hu => by simp at hu⟩
theorem RowR.keeps {base : Nat} {w w' : World} {v : Value} {n : Nat} {f : Nat → List Nat} (h : RowR base w v n f) (k : Below w.heap.size w w') : RowR base w' v n f := by
  obtain ⟨us, a, b⟩ := h
  exact ⟨us, owns_keeps a (Keeps.below (T := fun _ => True) k) trivial, fun j u hu => owns_keeps (b j u hu) (Keeps.below (T := fun _ => True) k) trivial⟩
theorem RowR.base {base base' : Nat} {w : World} {v : Value} {n : Nat} {f : Nat → List Nat} (h : RowR base w v n f) (hb : base' ≤ base) : RowR base' w v n f := by
  obtain ⟨us, a, b⟩ := h
  exact ⟨us, owns_base a hb, fun j u hu => owns_base (b j u hu) hb⟩
theorem RowR.at {base : Nat} {w : World} {p : Option Addr} {c n : Nat} {f : Nat → List Nat} (h : RowR base w (.slice p n c) n f) {k : Nat} (hk : k < n) :
    ∃ g u, p = some ⟨g, 0, none⟩ ∧ base ≤ g ∧ g < w.heap.size ∧ w.cell? ⟨g, k, none⟩ = some u ∧ w.frozen? ⟨g, k, none⟩ = false ∧ w.ownsRow base 3 1 u (f k).length (icell (f k)) := by
  obtain ⟨us, a, b⟩ := h
  obtain ⟨g, rfl, hb, hg⟩ := owns_form a (by omega)
  have hl : us.length = n := by have := a.1; omega
  have hu : us[k]? = some us[k] := List.getElem?_eq_getElem (by omega)
  exact ⟨g, us[k], rfl, hb, hg, owns_cell a hu, owns_fz a k, b k _ hu⟩
theorem Tryz.info29 : (Tryz.prog.info? 29).map (fun i => (i.zero, i.size, i.bytes)) = some (some (.slice none 0 0), 1, 24) := by kernel_rfl
def rimN (s : ByteArray) : Nat := if (rdF s).e = 0 then (parF s).bs.length else 0
def rimsF (s : ByteArray) (k : Nat) : List Nat := rimL (suF (parF s).bs) (parF s).bs.length k
theorem rimN_le (s : ByteArray) : rimN s ≤ 12 := by
  unfold rimN
  split
  · rename_i h; exact (rd0 h).2.2.1
  · omega

set_option maxRecDepth 100000 in
set_option maxHeartbeats 1500000 in
theorem rimsR (s : ByteArray) (w : World) (hs : s.size ≤ maxLen) :
    Calls Tryz.prog 18 #[.string s] w fun x w' => ∃ v, x = .returned (.tuple #[v, .int .i64 (rdF s).e, .int .i64 (rdF s).at_]) ∧ RowR w.heap.size w' v (rimN s) (rimsF s) ∧ Below w.heap.size w w' := by
  go_enter Tryz.func18, Tryz.ntmps18
  go_wp2_with fail
  refine (read_any s w hs).mono ?_
  rintro x w1 ⟨v1, rfl, P1, f1⟩
  have F1 := stop f1
  have s1 := f1.size
  by_cases h0 : (rdF s).e = 0
  · obtain ⟨ha, hp, h12, hg⟩ := rd0 h0
    have PB := P1 h0
    have HK : Hid (rimN s = (parF s).bs.length ∧ ∀ k, rimsF s k = rimL (suF (parF s).bs) (parF s).bs.length k) := ⟨by rw [rimN, if_pos h0], fun _ => rfl⟩
    have HA := stop ha
    have HE := stop h0
    have hg' := stop hg
    have PBH := stop PB
    obtain ⟨pv, cv, rfl⟩ := PB.slice
    rw [h0, ha]
    clear f1 P1 PB h0 ha hg
    generalize (parF s).bs = bs at *
    go_wp2_with fail
    go_loopw [8, 9] (fun l i wr => ∃ m : Nat, m ≤ bs.length ∧ i = .int .i64 m ∧ RowR w1.heap.size wr l m (rimL (suF bs) bs.length) ∧ Hid (Below w1.heap.size w1 wr)) (fun _ i _ => bs.length - (intOf i).toNat)
    case atStart => exact ⟨0, by omega, rfl, RowR.nil _ _ _, Below.refl _ _⟩
    case round =>
      obtain ⟨m, hm, rfl, OL, F⟩ := hrel
      obtain ⟨pl, cl, rfl⟩ := OL.slice
      have hz := F.out.size
      by_cases hlt : m < bs.length
      · have OLH := stop OL
        have HB2 := stop (PBH.out.keeps3 (Keeps.below F.out))
        clear OL
        go_wp2_with fail
        refine (rimR bs m w.heap.size _ wr HB2.out hg' hlt (by omega)).mono ?_
        rintro x w2 ⟨v2, rfl, o2, f2⟩
        have s2 := f2.size
        obtain ⟨p2, c2, rfl⟩ := owns_slice2 o2
        have OL2 := OLH.out.keeps f2
        have O2 := stop (owns_base o2 (base' := w1.heap.size) hz)
        have F2 := stop (F.out.trans (f2.mono hz))
        clear f2 OLH F HB2 o2
        obtain ⟨us, ou, hu⟩ := OL2
        have HU := stop hu
        clear hu
        go_wp2_with (at_builtin; refine unstop ?_)
        refine stop ?_
        have gB := heap_alloc_last w2 (.cells #[.slice p2 (rimL (suF bs) bs.length m).length c2] 29)
        replace ou := ou.alloc (.cells #[.slice p2 (rimL (suF bs) bs.length m).length c2] 29)
        refine app1 Tryz.underlying36 Tryz.info29 rfl (by decide) (by decide) rfl _ _ rfl rfl ou gB rfl rfl (List.all_eq_true.1 rfl) (by omega) (by simp; omega) ?_
        intro v3 wS oS gS
        have F3 := stop (Below.grown (F2.out.alloc (by omega) _) gS (by simp; omega) (fun j hj => by have := (ou.lt j hj).1; omega))
        have R3 : Hid (RowR w1.heap.size wS v3 (m + 1) (rimL (suF bs) bs.length)) := by
          have hul : us.length = m := by have := ou.1; omega
          refine ⟨_, oS, fun k u hk => ?_⟩
          have hkp : Keeps w1.heap.size (fun t => t = 3) (w2.alloc (.cells #[.slice p2 (rimL (suF bs) bs.length m).length c2] 29)) wS := Keeps.grown ou gS (by simp)
          rw [List.getElem?_append] at hk
          split at hk
          · exact owns_keeps ((HU.out k u hk).alloc _) hkp rfl
          · rename_i hge
            have hkm : k = m := by
              rcases Nat.lt_or_ge (k - us.length) 1 with h | h
              · omega
              · rw [List.getElem?_eq_none (by simpa using h)] at hk; cases hk
            subst hkm
            rw [hul, Nat.sub_self] at hk
            simp at hk
            subst hk
            exact owns_keeps (O2.out.alloc _) hkp rfl
        clear gS gB ou F2 HU O2
        obtain ⟨p5, c5, rfl⟩ := owns_slice2 oS
        clear oS
        go_wp2_with fail
        go_roundw
        case rel => exact ⟨m + 1, by omega, by go_num, R3.out, F3⟩
        case measure => simp [intOf]; omega
      · have hme : m = bs.length := by omega
        subst hme
        have O9 : Hid (RowR w.heap.size wr (.slice pl bs.length cl) (rimN s) (rimsF s) ∧ Below w.heap.size w wr) := by
          refine ⟨?_, F1.out.trans (F.out.mono s1)⟩
          have e : rimsF s = rimL (suF bs) bs.length := funext HK.out.2
          rw [HK.out.1, e]
          exact OL.base s1
        clear OL
        go_wp2_with fail
        go_ret3
        exact ⟨_, by rw [HE.out, HA.out]; rfl, O9.out.1, O9.out.2⟩
  · have HK : Hid (rimN s = 0) := by show _ = _; rw [rimN, if_neg h0]
    have hd : (((rdF s).e : Int) != 0) = true := by simp; omega
    clear f1 P1 h0
    go_wp2_with fail
    go_ret3
    exact ⟨_, rfl, by rw [HK.out]; exact RowR.nil _ _ _, F1.out⟩

/-- Rows of integers may be turned, but stay rows of as many; the rest stays. -/
def Shp (w w' : World) : Prop := ∀ (g : Nat) (cs : Array Value) (e : TypeId) (fz : Nat × Nat), w.heap[g]? = some (.cells cs e fz) → (e ≠ 3 → w'.heap[g]? = some (.cells cs e fz)) ∧ ∃ cs' : Array Value, cs'.size = cs.size ∧ w'.heap[g]? = some (.cells cs' e fz)
theorem Shp.refl (w : World) : Shp w w := fun _ cs _ _ h => ⟨fun _ => h, cs, rfl, h⟩
theorem Shp.trans {u v w : World} (h : Shp u v) (k : Shp v w) : Shp u w := fun g cs e fz hg => by
  obtain ⟨a, cs1, b, c⟩ := h g cs e fz hg
  obtain ⟨a2, cs2, b2, c2⟩ := k g cs1 e fz c
  exact ⟨fun he => (k g cs e fz (a he)).1 he, cs2, b2.trans b, c2⟩
theorem Shp.set {w : World} {g o : Nat} {x : Value} {cs : Array Value} {fz : Nat × Nat} (h : w.heap[g]? = some (.cells cs 3 fz)) : Shp w (w.setCell ⟨g, o, none⟩ x) := fun j cj e fj hj => by
  by_cases ej : j = g
  · subst ej
    rw [h] at hj
    cases hj
    have hs := blk_set h o x
    exact ⟨fun he => absurd rfl he, _, by simp, hs⟩
  · have := blk_setOther hj ej o x
    exact ⟨fun _ => this, cj, rfl, this⟩
theorem Shp.row {w w' : World} {base n : Nat} {v : Value} {xs : List Value} {e : TypeId} (h : Shp w w') (o : w.ownsRow base e 1 v n xs) : ∃ xs', w'.ownsRow base e 1 v n xs' := by
  rcases o.2 with ⟨rfl, h0⟩ | ⟨g, cap, cur, rfl, hb, hg, h1, h2, h3, _⟩
  · exact ⟨[], by rw [h0]; exact World.ownsRow_nil _ _ _ _⟩
  · obtain ⟨_, cs, hs, hc⟩ := h g cur e _ hg
    exact ⟨cs.toList.take (n * 1), by simp; omega, .inr ⟨g, cap, cs, rfl, hb, hc, h1, h2, by omega, rfl⟩⟩
theorem Shp.keep {w w' : World} {base n : Nat} {v : Value} {xs : List Value} {e : TypeId} (h : Shp w w') (he : e ≠ 3) (o : w.ownsRow base e 1 v n xs) : w'.ownsRow base e 1 v n xs := by
  obtain ⟨o1, o2⟩ := o
  refine ⟨o1, o2.imp id ?_⟩
  rintro ⟨g, cap, cur, rfl, hb, hg, hr⟩
  exact ⟨g, cap, cur, rfl, hb, (h g cur e _ hg).1 he, hr⟩

set_option maxRecDepth 100000 in
set_option maxHeartbeats 1000000 in
theorem blot_shp (xs : List Value) (n base : Nat) (v : Value) (w : World) (h : w.ownsRow base 3 1 v n xs) (hl : n ≤ 1000000) :
    Calls Tryz.prog 13 #[v] w fun x w' => x = .returned (.tuple #[]) ∧ Below base w w' ∧ Shp w w' := by
  obtain ⟨p1, c1, rfl⟩ := owns_slice2 h
  have HA := stop h
  clear h
  go_enter Tryz.func13, Tryz.ntmps13
  go_wp2_with fail
  go_loopw [2] (fun i wr => ∃ (m : Nat) (ys : List Value), m ≤ n ∧ i = .int .i64 m ∧ Hid (wr.ownsRow base 3 1 (.slice p1 n c1) n ys ∧ Below base w wr ∧ Shp w wr)) (fun i _ => n - (intOf i).toNat)
  case atStart => exact ⟨0, xs, by omega, rfl, HA.out, Below.refl _ _, Shp.refl _⟩
  case round =>
    obtain ⟨m, ys, hm, rfl, HR⟩ := hrel
    by_cases hlt : m < n
    · obtain ⟨g1, rfl, hgb, _⟩ := owns_form HR.out.1 (by omega)
      have hy : ∃ u, ys[m]? = some u := ⟨_, List.getElem?_eq_getElem (by have := HR.out.1.1; omega)⟩
      obtain ⟨u, hy⟩ := hy
      have k1 := owns_cell HR.out.1 hy
      have kf := owns_fz HR.out.1 m
      have HR2 : Hid ((wr.setCell ⟨g1, m, none⟩ (.int .i64 (-9))).ownsRow base 3 1 (.slice (some ⟨g1, 0, none⟩) n c1) n (ys.set m (.int .i64 (-9))) ∧ Below base w (wr.setCell ⟨g1, m, none⟩ (.int .i64 (-9))) ∧ Shp w (wr.setCell ⟨g1, m, none⟩ (.int .i64 (-9)))) := by
        refine ⟨owns_store HR.out.1 m _, below_set HR.out.2.1 _ _ _ hgb, HR.out.2.2.trans ?_⟩
        rcases HR.out.1.2 with ⟨h0, _⟩ | ⟨g', cap', cur', hv, _, hc', _⟩
        · cases h0
        · cases hv; exact Shp.set hc'
      clear HR hy
      go_wp2_with fail
      go_roundw
      case rel => exact ⟨m + 1, _, by omega, by go_num, HR2⟩
      case measure => simp [intOf]; omega
    · go_wp2_with fail
      go_end0
      exact ⟨rfl, HR.out.2⟩

/-- A row of lists of whatever numbers. -/
def RowAny (base : Nat) (w : World) (v : Value) (n : Nat) : Prop :=
  ∃ us : List Value, w.ownsRow base 29 1 v n us ∧ ∀ (k : Nat) (u : Value), us[k]? = some u → ∃ m xs, m ≤ 1000000 ∧ w.ownsRow base 3 1 u m xs
theorem RowR.any {base w v n f} (h : RowR base w v n f) (hf : ∀ k, k < n → (f k).length ≤ 1000000) : RowAny base w v n := by
  obtain ⟨us, a, b⟩ := h
  have hl : us.length = n := by have := a.1; omega
  refine ⟨us, a, fun k u hk => ⟨_, _, hf k ?_, b k u hk⟩⟩
  rcases Nat.lt_or_ge k us.length with h | h
  · omega
  · rw [List.getElem?_eq_none h] at hk; cases hk

set_option maxRecDepth 100000 in
set_option maxHeartbeats 1000000 in
theorem blotRows_any (n base : Nat) (v : Value) (w : World) (h : RowAny base w v n) (hl : n ≤ 1000000) :
    Calls Tryz.prog 17 #[v] w fun x w' => x = .returned (.tuple #[]) ∧ Below base w w' := by
  obtain ⟨p1, c1, rfl⟩ : ∃ p c, v = .slice p n c := by obtain ⟨us, a, _⟩ := h; exact owns_slice2 a
  have HA := stop h
  clear h
  go_enter Tryz.func17, Tryz.ntmps17
  go_wp2_with fail
  go_loopw [2] (fun i wr => ∃ m : Nat, m ≤ n ∧ i = .int .i64 m ∧ Hid (RowAny base wr (.slice p1 n c1) n ∧ Below base w wr)) (fun i _ => n - (intOf i).toNat)
  case atStart => exact ⟨0, by omega, rfl, HA.out, Below.refl _ _⟩
  case round =>
    obtain ⟨m, hm, rfl, HR⟩ := hrel
    by_cases hlt : m < n
    · obtain ⟨⟨us, a, b⟩, rf⟩ := HR.out
      obtain ⟨g1, rfl, hgb, _⟩ := owns_form a (by omega)
      have hul : us.length = n := by have := a.1; omega
      have hy : us[m]? = some us[m] := List.getElem?_eq_getElem (by omega)
      have k1 := owns_cell a hy
      obtain ⟨mm, xs, hmm, om⟩ := b m _ hy
      obtain ⟨p2, c2, he2⟩ := owns_slice2 om
      rw [he2] at k1 om
      have HZ := stop (And.intro a (And.intro b (And.intro rf om)))
      clear a b rf HR hy he2 om
      go_wp2_with fail
      refine (blot_shp xs mm base _ wr HZ.out.2.2.2 hmm).mono ?_
      rintro e w2 ⟨rfl, f2, h2⟩
      obtain ⟨a, b, rf, _⟩ := HZ.out
      have a2 := h2.keep (by decide) a
      have hy2 : us[m]? = some us[m] := List.getElem?_eq_getElem (by omega)
      have k2 := owns_cell a2 hy2
      have k2f := owns_fz a2 m
      have HR2 : Hid (RowAny base (w2.setCell ⟨g1, m, none⟩ (.slice none 0 0)) (.slice (some ⟨g1, 0, none⟩) n c1) n ∧ Below base w (w2.setCell ⟨g1, m, none⟩ (.slice none 0 0))) := by
        refine ⟨⟨us.set m (.slice none 0 0), owns_store a2 m _, fun k u hk => ?_⟩, below_set (rf.trans f2) _ _ _ hgb⟩
        rw [List.getElem?_set] at hk
        by_cases e : m = k
        · rw [if_pos e] at hk
          split at hk
          · cases hk; exact ⟨0, [], by omega, World.ownsRow_nil _ _ _ _⟩
          · cases hk
        · rw [if_neg e] at hk
          obtain ⟨m3, x3, h3, o3⟩ := b k u hk
          obtain ⟨x4, o4⟩ := h2.row o3
          rcases a2.2 with ⟨h0, _⟩ | ⟨g', cap', cur', hv, _, hc', _⟩
          · cases h0
          · cases hv; exact ⟨m3, x4, h3, owns_setT o4 hc' (by decide)⟩
      clear f2 h2 a b rf a2 hy2 HZ
      go_wp2_with fail
      go_roundw
      case rel => exact ⟨m + 1, by omega, by go_num, HR2⟩
      case measure => simp [intOf]; omega
    · go_wp2_with fail
      go_end0
      exact ⟨rfl, HR.out.2⟩

end Go.Proofs.YtgfhfkgdmidhpaaGreat

namespace Go.Proofs.YtgfhfkgdmidhpaaGreat
open Go.RowKit

theorem zcell_icell (l : List Nat) : zcell (castL l) = icell l := by rw [icell_cast]; rfl

set_option maxRecDepth 100000 in
set_option maxHeartbeats 1500000 in
theorem rows_same (n : Nat) (f : Nat → List Nat) (B1 B2 : Nat) (va vb : Value) (w : World) (ha : RowR B1 w va n f) (hb : RowR B2 w vb n f) (hn : n ≤ 1000000) (hf : Hid (∀ k, k < n → (f k).length ≤ 1000000)) :
    Calls Tryz.prog 19 #[va, vb] w fun x w' => x = .returned (.bool true) ∧ Below w.heap.size w w' := by
  obtain ⟨p1, c1, rfl⟩ := ha.slice
  obtain ⟨p2, c2, rfl⟩ := hb.slice
  have HA := stop ha
  have HB := stop hb
  clear ha hb
  go_enter Tryz.func19, Tryz.ntmps19
  go_wp2_with fail
  go_loopw [5] (fun i wr => ∃ m : Nat, m ≤ n ∧ i = .int .i64 m ∧ Hid (Below w.heap.size w wr)) (fun i _ => n - (intOf i).toNat)
  case atStart => exact ⟨0, by omega, rfl, Below.refl _ _⟩
  case round =>
    obtain ⟨m, hm, rfl, F⟩ := hrel
    by_cases hlt : m < n
    · have hz := F.out.size
      obtain ⟨g1, u1, rfl, _, hg1, hc1, _, ho1⟩ := (HA.out.keeps F.out).at hlt
      obtain ⟨g2, u2, rfl, _, hg2, hc2, _, ho2⟩ := (HB.out.keeps F.out).at hlt
      obtain ⟨q1, d1, rfl⟩ := owns_slice2 ho1
      obtain ⟨q2, d2, rfl⟩ := owns_slice2 ho2
      have hfm := hf.out m hlt
      have H1 : Hid (wr.drew.ownsRow B1 3 1 (.slice q1 (f m).length d1) (castL (f m)).length (zcell (castL (f m)))) := by rw [zcell_icell, castL_len]; exact ho1
      have H2 : Hid (wr.drew.ownsRow B2 3 1 (.slice q2 (f m).length d2) (castL (f m)).length (zcell (castL (f m)))) := by rw [zcell_icell, castL_len]; exact ho2
      have hcl : (castL (f m)).length ≤ 1000000 := by rw [castL_len]; exact hfm
      clear ho1 ho2
      go_wp2_with fail
      go_region_held (fun w' => w'.cell? ⟨g1, m, none⟩ = some (.slice q1 (f m).length d1) ∧ w'.cell? ⟨g2, m, none⟩ = some (.slice q2 (f m).length d2)) (simp [*])
        (first | (go_at_call 15; refine (ints_same (castL (f m)) B1 B2 _ _ wr.drew H1.out H2.out hcl).mono ?_; rintro e w5 ⟨rfl, f5⟩; have f5' : Below wr.heap.size wr w5 := ⟨f5.os, f5.tape, f5.output, f5.size, f5.block⟩; have y1 := f5'.cell (p := ⟨g1, m, none⟩) hg1; have y2 := f5'.cell (p := ⟨g2, m, none⟩) hg2; have F5 := stop (F.out.trans (f5'.mono hz)); clear f5 f5'))
      all_goals
        clear y1 y2 hc1 hc2
        go_wp2_with fail
        go_roundw
        case rel => exact ⟨m + 1, by omega, by go_num, F5⟩
        case measure => simp [intOf]; omega
    · go_wp2_with fail
      go_ret
      exact ⟨rfl, F.out⟩

end Go.Proofs.YtgfhfkgdmidhpaaGreat
