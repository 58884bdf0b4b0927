import Derived.Test.YtjimoigbdcalpaaTn
namespace Go.Proofs.Ytjimoigbdcalpaa
open Go.RowKit

def nums (l : List (Nat × Nat)) : List Nat := l.map (·.1)
def chOk (ahead given : List Nat) (c : RCho) : Bool := decide (nums c.gs = ahead) && !hasF given c.to.1
def unfB (ahead : List Nat) : List Nat → List RCho → Option Nat
  | _, [] => none
  | gv, c :: cs => if chOk ahead gv c then unfB ahead (gv ++ [c.to.1]) cs else some c.to.2
def unfAt (bs : List RBlk) (i : Nat) : Option Nat := match bs[i]? with | some b => unfB (aheF bs i) [] b.chs | none => none
def place1 (o : Option Nat) : Int := match o with | some g => g | none => -1
def unfF (bs : List RBlk) : Int := place1 ((List.range bs.length).findSome? (unfAt bs))
def tos (l : List RCho) : List Nat := l.map (·.to.1)
theorem unf_step {ahead : List Nat} {chs : List RCho} {q : Nat} (hq : q < chs.length) : unfB ahead (tos (chs.take q)) (chs.drop q) = if chOk ahead (tos (chs.take q)) chs[q] then unfB ahead (tos (chs.take (q + 1))) (chs.drop (q + 1)) else some chs[q].to.2 := by
  rw [List.drop_eq_getElem_cons hq, unfB, List.take_succ_eq_append_getElem hq, show tos (chs.take q ++ [chs[q]]) = tos (chs.take q) ++ [chs[q].to.1] from by rw [tos, List.map_append]; rfl]
theorem unf_hit {bs : List RBlk} {m : Nat} (hm : m < bs.length) (h : ∀ i, i < m → unfAt bs i = none) {x : Nat} (hx : unfAt bs m = some x) : unfF bs = x := by
  have h1 : (List.range bs.length).findSome? (unfAt bs) = some x := by
    have e : List.range bs.length = List.range m ++ (m :: (List.range (bs.length - m - 1)).map (fun y => m + (1 + y))) := by
      have := List.range_add (n := m) (m := bs.length - m)
      rw [show m + (bs.length - m) = bs.length from by omega] at this
      rw [this, show bs.length - m = 1 + (bs.length - m - 1) from by omega, List.range_add]
      simp
    rw [e, List.findSome?_append]
    have h2 : (List.range m).findSome? (unfAt bs) = none := by
      rw [List.findSome?_eq_none_iff]; intro i hi; exact h i (by simpa using hi)
    rw [h2]; simp [hx]
  rw [unfF, h1]; rfl
theorem unf_none {bs : List RBlk} (h : ∀ i, i < bs.length → unfAt bs i = none) : unfF bs = -1 := by
  have h2 : (List.range bs.length).findSome? (unfAt bs) = none := by
    rw [List.findSome?_eq_none_iff]; intro i hi; exact h i (by simpa using hi)
  rw [unfF, h2]; rfl
theorem nums_eq {l : List (Nat × Nat)} {a : List Nat} (hl : l.length = a.length) (h : ∀ x, (h1 : x < l.length) → (h2 : x < a.length) → l[x].1 = a[x]) : nums l = a := by
  apply List.ext_getElem (by simpa [nums] using hl)
  intro i h1 h2
  simp only [nums, List.getElem_map]
  exact h i (by simpa [nums] using h1) h2
theorem nums_ne {l : List (Nat × Nat)} {a : List Nat} {x : Nat} (h1 : x < l.length) (h2 : x < a.length) (h : l[x].1 ≠ a[x]) : nums l ≠ a := by
  intro e; subst e; simp [nums] at h
theorem aheF_len (bs k) : (aheF bs k).length ≤ bs.length := aheTo_len _ _ _

set_option maxRecDepth 100000 in
set_option maxHeartbeats 2000000 in
theorem unfit_any (bs : List RBlk) (base : Nat) (v : Value) (w : World) (h : BlksOwn w base bs v) (hl : bs.length ≤ 1000000) (hc1 : ∀ b ∈ bs, b.chs.length ≤ 1000000) (hc2 : ∀ b ∈ bs, ∀ c ∈ b.chs, c.gs.length ≤ 1000000) :
    Calls Try.prog 14 #[v] w fun x w' => x = .returned (.int .i64 (unfF bs)) ∧ Below w.heap.size w w' := by
  obtain ⟨pv, cv, rfl⟩ := h.slice
  go_enter Try.func14, Try.ntmps14
  go_wp2_with fail
  go_loopw [3] (fun i wr => ∃ m : Nat, m ≤ bs.length ∧ i = .int .i64 m ∧ (∀ x, x < m → Hid (unfAt bs x = none)) ∧ Hid (Below w.heap.size w wr)) (fun i _ => bs.length - (intOf i).toNat)
  case atStart => exact ⟨0, by omega, rfl, fun x hx => by omega, Below.refl _ _⟩
  case round =>
    obtain ⟨m, hm, rfl, H1, F⟩ := hrel
    by_cases hlt : m < bs.length
    · have hB := h.keeps3 (Keeps.below F.out)
      go_wp2_with fail
      refine (ahead_any bs m _ _ _ hB hl).mono ?_
      rintro x w1 ⟨va, rfl, OA, f1⟩
      have hz0 := F.out.size
      replace F := stop (F.out.trans (f1.mono hz0))
      have hz1 : w.heap.size ≤ w1.heap.size := F.out.size
      have HU : Hid (unfAt bs m = unfB (aheF bs m) [] bs[m].chs) := by show _ = _; simp [unfAt, hlt]
      have hal := aheF_len bs m
      generalize aheF bs m = ah at *
      obtain ⟨pa, ca, rfl⟩ := owns_slice2 OA
      have L1 := hc1 _ (List.getElem_mem hlt)
      have L2 := hc2 _ (List.getElem_mem hlt)
      clear f1 hB
      go_wp2_with fail
      go_loopw [5, 6] (fun gv k wq => ∃ q : Nat, q ≤ bs[m].chs.length ∧ k = .int .i64 q ∧ wq.ownsRow w1.heap.size 3 1 gv (tos (bs[m].chs.take q)).length (icell (tos (bs[m].chs.take q))) ∧ Hid (unfAt bs m = unfB ah (tos (bs[m].chs.take q)) (bs[m].chs.drop q)) ∧ Hid (Below w1.heap.size w1 wq)) (fun _ k _ => bs[m].chs.length - (intOf k).toNat)
      case atStart => exact ⟨0, by omega, rfl, World.ownsRow_nil _ _ _ _, by simpa [tos] using HU, Below.refl _ _⟩
      case round =>
        clear HU
        obtain ⟨q, hq, rfl, OV, H2, F2⟩ := hrel
        have FF := F.out.trans (F2.out.mono hz1)
        have hB := h.keeps3 (Keeps.below FF)
        obtain ⟨g, qc, cc, ps, cs, rfl, _, hgs, OC, _, hc⟩ := hB.at hlt
        have d0 : wr.cell? ⟨g, m * 10, none⟩ = _ := hc 0 _ rfl
        clear hc hB
        obtain ⟨pv2, cv2, rfl⟩ := owns_slice2 OV
        have hz2 := F2.out.size
        by_cases hql : q < bs[m].chs.length
        · obtain ⟨gc, pf, cf, pr, cr, rfl, _, hgc, OF, _, e0, e1, e2, e3⟩ := OC.at hql
          have L3 := L2 _ (List.getElem_mem hql)
          have H2' := stop (H2.out.trans (unf_step hql))
          replace OA := owns_keeps OA (Keeps.below (T := fun _ => True) F2.out) trivial
          clear H2
          have hvl : (tos (bs[m].chs.take q)).length ≤ 1000000 := by simp [tos]; omega
          generalize hto : tos (bs[m].chs.take q) = gv at *
          replace hto := stop hto
          generalize hcc : bs[m].chs[q] = c at *
          replace hcc := stop hcc
          by_cases hlen : c.gs.length = ah.length
          · have hle : ((c.gs.length : Int) == (ah.length : Int)) = true := by simp; omega
            have HLEN := stop hlen
            clear hlen
            go_wp2_with fail
            refine (has_any gv c.to.1 _ _ _ (OV.alloc (.cells #[.int .i64 c.to.1, .int .i64 c.to.2, .slice pf c.gs.length cf, .slice pr c.rs.length cr] 85)) hvl).mono ?_
            rintro x w9 ⟨rfl, rfl⟩
            cases hh : hasF gv c.to.1 with
            | true =>
              have HK : chOk ah gv c = false := by simp [chOk, hh]
              clear hh
              go_wp2_with fail
              have HP : Hid (unfF bs = c.to.2) := unf_hit hlt (fun x hx => (H1 x hx).out) (by rw [H2'.out, if_neg (by simp [HK])])
              clear H2' HK
              go_loopw [8, 9] (fun o j wz => o = .bool false ∧ j = .int .i64 0 ∧ wz = wr.alloc (.cells #[.int .i64 c.to.1, .int .i64 c.to.2, .slice pf c.gs.length cf, .slice pr c.rs.length cr] 85)) (fun _ _ _ => 0)
              case atStart => exact ⟨rfl, rfl, rfl⟩
              case round =>
                obtain ⟨rfl, rfl, rfl⟩ := hrel
                by_cases hg0 : 0 < c.gs.length
                all_goals
                  go_wp2_with fail
                  go_ret
                  exact ⟨by rw [HP.out]; rfl, FF.alloc (by omega) _⟩
            | false =>
              have HH := stop hh
              clear hh
              go_wp2_with fail
              go_loopw [8, 9] (fun o j wz => ∃ (b : Bool) (t n : Nat), o = .bool b ∧ j = .int .i64 t ∧ t ≤ c.gs.length ∧ wz = (wr.alloc (.cells #[.int .i64 c.to.1, .int .i64 c.to.2, .slice pf c.gs.length cf, .slice pr c.rs.length cr] 85)).drewN n ∧ Hid (b = true → ∀ x, (h1 : x < t) → (h2 : x < c.gs.length) → (h3 : x < ah.length) → c.gs[x].1 = ah[x]) ∧ Hid (b = false → chOk ah gv c = false)) (fun _ j _ => c.gs.length - (intOf j).toNat)
              case atStart => exact ⟨true, 0, 0, rfl, rfl, by omega, rfl, fun _ x h1 => by omega, fun h => by cases h⟩
              case round =>
                obtain ⟨b, t, n, rfl, rfl, htl, rfl, HT, HF⟩ := hrel
                cases b with
                | false =>
                  have HP : Hid (unfF bs = c.to.2) := unf_hit hlt (fun x hx => (H1 x hx).out) (by rw [H2'.out, if_neg (by simp [HF.out rfl])])
                  clear H2' HT HF
                  by_cases hg0 : t < c.gs.length
                  all_goals
                    go_wp2_with fail
                    go_ret
                    exact ⟨by rw [HP.out]; rfl, below_drewN (FF.alloc (by omega) _) _⟩
                | true =>
                  by_cases hg0 : t < c.gs.length
                  · have hga : t < ah.length := by have := HLEN.out; omega
                    obtain ⟨gf, rfl, _, hgf⟩ := owns_form OF (by omega)
                    obtain ⟨ga, rfl, _, hga2⟩ := owns_form OA (by omega)
                    have f0 := owns_cell OF (pcs_at hg0).1
                    have a0 := owns_cell OA (j := t) (u := .int .i64 ah[t]) (by simp [icell, hga])
                    have n5 : gf < wr.heap.size := hgf
                    have n6 : ga < wr.heap.size := hga2
                    have HE : Hid (((c.gs[t].1 : Int) == (ah[t] : Int)) = true → ∀ x, (h1 : x < t + 1) → (h2 : x < c.gs.length) → (h3 : x < ah.length) → c.gs[x].1 = ah[x]) := by
                      intro he x h1 h2 h3
                      rcases Nat.lt_succ_iff_lt_or_eq.1 h1 with h1 | rfl
                      · exact HT.out rfl x h1 h2 h3
                      · simp at he; omega
                    have HG : Hid (((c.gs[t].1 : Int) == (ah[t] : Int)) = false → chOk ah gv c = false) := by
                      intro he
                      have : nums c.gs ≠ ah := nums_ne hg0 hga (by simp at he; omega)
                      simp [chOk, this]
                    clear HT HF
                    go_wp2_with fail
                    go_quiet (fail)
                    go_wp2_with fail
                    go_roundw
                    case rel => exact ⟨_, t + 1, n + nq, rfl, by go_num, by omega, by simp, HE, HG⟩
                    case measure => simp [intOf]; omega
                  · have HK : chOk ah gv c = true := by
                      have h1 : nums c.gs = ah := nums_eq HLEN.out (fun x h1 h2 => HT.out rfl x (by omega) h1 h2)
                      simp [chOk, h1, HH.out]
                    have H3 := H2'.out
                    rw [if_pos HK] at H3
                    have H3' := stop H3
                    clear H2' H3 HK HT HF
                    go_wp2_with (at_builtin; refine unstop ?_)
                    refine stop ?_
                    have gB : (((wr.alloc (.cells #[.int .i64 c.to.1, .int .i64 c.to.2, .slice pf c.gs.length cf, .slice pr c.rs.length cr] 85)).drewN n).alloc (.cells #[.int .i64 c.to.1] 3)).heap[wr.heap.size + 1]? = some (.cells #[.int .i64 c.to.1] 3 (0, 0)) := by
                      have := heap_alloc_last ((wr.alloc (.cells #[.int .i64 c.to.1, .int .i64 c.to.2, .slice pf c.gs.length cf, .slice pr c.rs.length cr] 85)).drewN n) (.cells #[.int .i64 c.to.1] 3)
                      rwa [show ((wr.alloc (.cells #[.int .i64 c.to.1, .int .i64 c.to.2, .slice pf c.gs.length cf, .slice pr c.rs.length cr] 85)).drewN n).heap.size = wr.heap.size + 1 from World.size_alloc _ _] at this
                    have OV2 := (owns_keeps (OV.alloc (.cells #[.int .i64 c.to.1, .int .i64 c.to.2, .slice pf c.gs.length cf, .slice pr c.rs.length cr] 85)) (Keeps.drewN (T := fun _ => True) (wr.alloc (.cells #[.int .i64 c.to.1, .int .i64 c.to.2, .slice pf c.gs.length cf, .slice pr c.rs.length cr] 85)) n) trivial).alloc (.cells #[.int .i64 c.to.1] 3)
                    have hzz : w1.heap.size ≤ (((wr.alloc (.cells #[.int .i64 c.to.1, .int .i64 c.to.2, .slice pf c.gs.length cf, .slice pr c.rs.length cr] 85)).drewN n).alloc (.cells #[.int .i64 c.to.1] 3)).heap.size := by
                      rw [World.size_alloc, show ((wr.alloc (.cells #[.int .i64 c.to.1, .int .i64 c.to.2, .slice pf c.gs.length cf, .slice pr c.rs.length cr] 85)).drewN n).heap.size = wr.heap.size + 1 from World.size_alloc _ _]; omega
                    have F5 := (below_drewN (F2.out.alloc (by omega) (.cells #[.int .i64 c.to.1, .int .i64 c.to.2, .slice pf c.gs.length cf, .slice pr c.rs.length cr] 85)) n).alloc (by rw [show ((wr.alloc (.cells #[.int .i64 c.to.1, .int .i64 c.to.2, .slice pf c.gs.length cf, .slice pr c.rs.length cr] 85)).drewN n).heap.size = wr.heap.size + 1 from World.size_alloc _ _]; omega) (.cells #[.int .i64 c.to.1] 3)
                    have HT1 : Hid (tos (bs[m].chs.take (q + 1)) = gv ++ [c.to.1]) := by
                      show _ = _
                      rw [List.take_succ_eq_append_getElem hql, tos, List.map_append, ← hto.out, ← hcc.out]; rfl
                    refine app1 Try.underlying87 Try.info3 rfl (by decide) (by decide) rfl _ _ rfl rfl OV2 gB rfl rfl (List.all_eq_true.1 rfl) hvl hzz ?_
                    intro v3 wS oS gS
                    have F6 := stop (Below.grown F5 gS hzz (fun j hj => (OV2.lt j hj).1))
                    clear gS gB OV2 F5 hzz
                    obtain ⟨p5, c5, rfl⟩ := owns_slice2 oS
                    go_wp2_with fail
                    go_roundw
                    case rel => exact ⟨q + 1, by omega, by go_num, by rw [HT1.out, List.length_append]; simpa [icell] using oS, H3', F6⟩
                    case measure => simp [intOf]; omega
          · have hle : ((c.gs.length : Int) == (ah.length : Int)) = false := by simp; omega
            have HK : chOk ah gv c = false := by
              have : nums c.gs ≠ ah := fun e => hlen (by rw [← e]; simp [nums])
              simp [chOk, this]
            clear hlen
            go_wp2_with fail
            have HP : Hid (unfF bs = c.to.2) := unf_hit hlt (fun x hx => (H1 x hx).out) (by rw [H2'.out, if_neg (by simp [HK])])
            clear H2' HK
            go_loopw [8, 9] (fun o j wz => o = .bool false ∧ j = .int .i64 0 ∧ wz = wr.alloc (.cells #[.int .i64 c.to.1, .int .i64 c.to.2, .slice pf c.gs.length cf, .slice pr c.rs.length cr] 85)) (fun _ _ _ => 0)
            case atStart => exact ⟨rfl, rfl, rfl⟩
            case round =>
              obtain ⟨rfl, rfl, rfl⟩ := hrel
              by_cases hg0 : 0 < c.gs.length
              all_goals
                go_wp2_with fail
                go_ret
                exact ⟨by rw [HP.out]; rfl, FF.alloc (by omega) _⟩
        · have HN : Hid (unfAt bs m = none) := by
            have := H2.out
            rw [List.drop_eq_nil_of_le (by omega)] at this
            exact this
          clear H2
          have H1' : ∀ x, x < m + 1 → Hid (unfAt bs x = none) := fun x hx => by
            rcases Nat.lt_succ_iff_lt_or_eq.1 hx with hx | rfl
            · exact H1 x hx
            · exact HN
          have F3 := stop FF
          clear FF
          go_wp2_with fail
          go_roundw
          case rel => exact ⟨m + 1, by omega, by go_num, H1', F3⟩
          case measure => simp [intOf]; omega
    · have HP : Hid (unfF bs = -1) := unf_none (fun i hi => (H1 i (by omega)).out)
      go_wp2_with fail
      go_ret
      exact ⟨by rw [HP.out]; rfl, F.out⟩
end Go.Proofs.Ytjimoigbdcalpaa
