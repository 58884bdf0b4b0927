import Derived.Test.YtgfhfkgdmidhpaaGreatDoorG04
namespace Go.Proofs.YtgfhfkgdmidhpaaGreatDoor
open Go.RowKit

section find
variable {α β : Type}
theorem find_take_succ {P : α → Bool} {l : List α} {j : Nat} (hj : j < l.length) (h : (l.take j).find? P = none) (hn : P l[j] = false) : (l.take (j + 1)).find? P = none := by
  rw [List.take_succ_eq_append_getElem hj, List.find?_append, h]; simp [hn]
theorem find_take_hit {P : α → Bool} {l : List α} {j : Nat} (hj : j < l.length) (h : (l.take j).find? P = none) (hn : P l[j] = true) : l.find? P = some l[j] := by
  conv => lhs; rw [← List.take_append_drop j l]
  rw [List.find?_append, h, List.drop_eq_getElem_cons hj, List.find?_cons_of_pos hn]; rfl
theorem flat_take_succ {P : β → Bool} {f : α → List β} {l : List α} {k : Nat} (hk : k < l.length) (h : ((l.take k).flatMap f).find? P = none) (hn : (f l[k]).find? P = none) : ((l.take (k + 1)).flatMap f).find? P = none := by
  rw [List.take_succ_eq_append_getElem hk, List.flatMap_append, List.find?_append, h]; simpa using hn
theorem flat_take_hit {P : β → Bool} {f : α → List β} {l : List α} {k : Nat} {g : β} (hk : k < l.length) (h : ((l.take k).flatMap f).find? P = none) (hn : (f l[k]).find? P = some g) : (l.flatMap f).find? P = some g := by
  conv => lhs; rw [← List.take_append_drop k l]
  rw [List.flatMap_append, List.find?_append, h, List.drop_eq_getElem_cons hk, List.flatMap_cons, List.find?_append, hn]; rfl
theorem app_none {P : α → Bool} {a b : List α} (h : a.find? P = none) (hb : b.find? P = none) : (a ++ b).find? P = none := by rw [List.find?_append, h, hb]; rfl
theorem app_hit {P : α → Bool} {a b : List α} {g : α} (h : a.find? P = none) (hb : b.find? P = some g) : (a ++ b).find? P = some g := by rw [List.find?_append, h, hb]; rfl
theorem app_hit0 {P : α → Bool} {a b : List α} {g : α} (h : a.find? P = some g) : (a ++ b).find? P = some g := by rw [List.find?_append, h]; rfl
end find

def chG (b : RBlk) : List (Nat × Nat) := b.chs.flatMap (·.gs)
def allG (b : RBlk) : List (Nat × Nat) := chG b ++ goalsF b.e
def stray (n : Nat) (g : Nat × Nat) : Bool := decide (n ≤ g.1)
def place (o : Option (Nat × Nat)) : Int := match o with | some g => g.2 | none => -1
def lostF (bs : List RBlk) : Int := place ((bs.flatMap allG).find? (stray bs.length))

theorem pcs_flat (l : List (Nat × Nat)) : pcs l = (l.map pc).flatten := by rw [pcs, List.flatMap_def]
theorem pcs_at {l : List (Nat × Nat)} {j : Nat} (hj : j < l.length) : (pcs l)[j * 2]? = some (.int .i64 l[j].1) ∧ (pcs l)[j * 2 + 1]? = some (.int .i64 l[j].2) := by
  have h : ∀ x ∈ l.map pc, x.length = 2 := by intro x hx; simp at hx; obtain ⟨a, b, _, rfl⟩ := hx; rfl
  have hk : (l.map pc)[j]? = some (pc l[j]) := by simp [hj]
  rw [pcs_flat]
  exact ⟨flat_get 2 _ j 0 _ h hk (by omega), flat_get 2 _ j 1 _ h hk (by omega)⟩
theorem ChAll.at {w base} : ∀ {cs vs}, ChAll w base cs vs → ∀ {k} (hk : k < cs.length), ∃ v, vs[k]? = some v ∧ w.ownsRow base 49 2 v.1 cs[k].gs.length (pcs cs[k].gs) ∧ w.ownsRow base 48 2 v.2 cs[k].rs.length (pcs cs[k].rs)
  | [], [], _, k, hk => absurd hk (by simp)
  | c :: cs, v :: vs, h, 0, _ => ⟨v, rfl, h.1.1, h.1.2⟩
  | c :: cs, v :: vs, h, k + 1, hk => by
    obtain ⟨u, a, b, d⟩ := ChAll.at h.2 (k := k) (by simpa using hk)
    exact ⟨u, by simpa using a, by simpa using b, by simpa using d⟩
  | [], _ :: _, h, _, _ => h.elim
  | _ :: _, [], h, _, _ => h.elim
theorem ChsOwn.at {w : World} {base : Nat} {cs : List RCho} {p : Option Addr} {m cap : Nat} (h : ChsOwn w base cs (.slice p m cap)) {k : Nat} (hk : k < cs.length) :
    ∃ g pf cf pr cr, p = some ⟨g, 0, none⟩ ∧ base ≤ g ∧ g < w.heap.size ∧ w.ownsRow base 49 2 (.slice pf cs[k].gs.length cf) cs[k].gs.length (pcs cs[k].gs) ∧ w.ownsRow base 48 2 (.slice pr cs[k].rs.length cr) cs[k].rs.length (pcs cs[k].rs) ∧
      w.cell? ⟨g, k * 4, none⟩ = some (.int .i64 cs[k].to.1) ∧ w.cell? ⟨g, k * 4 + 1, none⟩ = some (.int .i64 cs[k].to.2) ∧ w.cell? ⟨g, k * 4 + 2, none⟩ = some (.slice pf cs[k].gs.length cf) ∧ w.cell? ⟨g, k * 4 + 3, none⟩ = some (.slice pr cs[k].rs.length cr) := by
  obtain ⟨vs, a, b⟩ := h
  obtain ⟨v, hv, hc, hs⟩ := b.at hk
  obtain ⟨p', c', e1⟩ := owns_slice2 a
  cases e1
  obtain ⟨g, rfl, hb, hg⟩ := owns_form a (by omega)
  obtain ⟨pf, cf, e2⟩ := owns_slice2 hc
  obtain ⟨pr, cr, e3⟩ := owns_slice2 hs
  have hl : ∀ x ∈ List.zipWith chCell cs vs, x.length = 4 := by
    intro x hx
    rw [List.mem_iff_getElem?] at hx
    obtain ⟨n, hn⟩ := hx
    rw [List.getElem?_zipWith] at hn
    split at hn
    · cases hn; rfl
    · cases hn
  have hk2 : (List.zipWith chCell cs vs)[k]? = some (chCell cs[k] v) := by rw [List.getElem?_zipWith, hv, List.getElem?_eq_getElem hk]
  have F := fun j hj => flat_get 4 _ k j _ hl hk2 hj
  refine ⟨g, pf, cf, pr, cr, rfl, hb, hg, by rw [← e2]; exact hc, by rw [← e3]; exact hs, ?_, ?_, ?_, ?_⟩
  · exact owns_cell a (F 0 (by omega))
  · exact owns_cell a (F 1 (by omega))
  · rw [← e2]; exact owns_cell a (F 2 (by omega))
  · rw [← e3]; exact owns_cell a (F 3 (by omega))

set_option maxRecDepth 100000 in
set_option maxHeartbeats 1000000 in
theorem lost_any (bs : List RBlk) (base : Nat) (v : Value) (w : World) (h : BlksOwn w base bs v) (hl : bs.length ≤ 1000000) (hc1 : ∀ b ∈ bs, b.chs.length ≤ 1000000) (hc2 : ∀ b ∈ bs, ∀ c ∈ b.chs, c.gs.length ≤ 1000000) :
    Calls Tryz.prog 23 #[v] w fun x w' => x = .returned (.int .i64 (lostF bs)) ∧ Below w.heap.size w w' := by
  obtain ⟨pv, cv, rfl⟩ := h.slice
  go_enter Tryz.func23, Tryz.ntmps23
  go_wp2_with fail
  go_loopw [3] (fun i wr => ∃ m : Nat, m ≤ bs.length ∧ i = .int .i64 m ∧ Hid (((bs.take m).flatMap allG).find? (stray bs.length) = none) ∧ Hid (Below w.heap.size w wr)) (fun i _ => bs.length - (intOf i).toNat)
  case atStart => exact ⟨0, by omega, rfl, by simp [Hid], Below.refl _ _⟩
  case round =>
    obtain ⟨m, hm, rfl, H1, F⟩ := hrel
    by_cases hlt : m < bs.length
    · have hB := h.keeps3 (Keeps.below F.out)
      obtain ⟨g, qc, cc, ps, cs, rfl, _, _, OC, _, hc⟩ := hB.at hlt
      have d0 : wr.cell? ⟨g, m * 10, none⟩ = _ := hc 0 _ rfl
      have d1 := hc 1 _ rfl
      have d2 := hc 2 _ rfl
      have d3 := hc 3 _ rfl
      have d4 := hc 4 _ rfl
      have d5 := hc 5 _ rfl
      have d6 := hc 6 _ rfl
      have d7 := hc 7 _ rfl
      have d8 := hc 8 _ rfl
      have d9 := hc 9 _ rfl
      have L1 := hc1 _ (List.getElem_mem hlt)
      have L2 := hc2 _ (List.getElem_mem hlt)
      clear hc hB
      go_wp2_with fail
      go_loop [4] (fun k => ∃ q : Nat, q ≤ bs[m].chs.length ∧ k = .int .i64 q ∧ Hid (((bs[m].chs.take q).flatMap (·.gs)).find? (stray bs.length) = none)) (fun k => bs[m].chs.length - (intOf k).toNat)
      case atStart => exact ⟨0, by omega, rfl, by simp [Hid]⟩
      case round =>
        obtain ⟨q, hq, rfl, H2⟩ := hrel
        by_cases hql : q < bs[m].chs.length
        · obtain ⟨gc, pf, cf, pr, cr, rfl, _, _, OF, _, _, _, e2, _⟩ := OC.at hql
          have L3 := L2 _ (List.getElem_mem hql)
          go_wp2_with fail
          go_loop [6] (fun j => ∃ t : Nat, t ≤ bs[m].chs[q].gs.length ∧ j = .int .i64 t ∧ Hid ((bs[m].chs[q].gs.take t).find? (stray bs.length) = none)) (fun j => bs[m].chs[q].gs.length - (intOf j).toNat)
          case atStart => exact ⟨0, by omega, rfl, by simp [Hid]⟩
          case round =>
            obtain ⟨t, ht, rfl, H3⟩ := hrel
            by_cases htl : t < bs[m].chs[q].gs.length
            · obtain ⟨gf, rfl, _, _⟩ := owns_form OF (by omega)
              have f0 := owns_cell OF (pcs_at htl).1
              have f1 := owns_cell OF (pcs_at htl).2
              by_cases hst : bs.length ≤ bs[m].chs[q].gs[t].1
              · have HP : Hid (lostF bs = bs[m].chs[q].gs[t].2) := by
                  show lostF bs = _
                  rw [lostF, flat_take_hit hlt H1.out (app_hit0 (flat_take_hit hql H2.out (find_take_hit htl H3.out (by simpa [stray] using hst))))]; rfl
                go_wp2_with fail
                go_ret
                exact ⟨by rw [HP.out]; rfl, F.out⟩
              · have H3' := stop (find_take_succ htl H3.out (by simpa [stray] using hst))
                go_wp2_with fail
                go_round
                case rel => exact ⟨t + 1, by omega, by go_num, H3'⟩
                case measure => simp [intOf]; omega
            · have H2' : Hid (((bs[m].chs.take (q + 1)).flatMap (·.gs)).find? (stray bs.length) = none) := flat_take_succ hql H2.out (by have := H3.out; rwa [List.take_of_length_le (by omega)] at this)
              go_wp2_with fail
              go_round
              case rel => exact ⟨q + 1, by omega, by go_num, H2'⟩
              case measure => simp [intOf]; omega
        · have HC : Hid ((chG bs[m]).find? (stray bs.length) = none) := by
            have := H2.out
            rwa [List.take_of_length_le (by omega)] at this
          clear H2
          go_wp2_with fail
          refine (goals_any qc _ cc ps _ cs bs[m].e _ _).mono ?_
          rintro x w1 ⟨vg, rfl, OG, f1⟩
          have hz0 := F.out.size
          have F2 := stop (F.out.trans (f1.mono hz0))
          have hgl := goalsF_le bs[m].e
          obtain ⟨pg, cg, rfl⟩ := owns_slice2 OG
          clear d0 d1 d2 d3 d4 d5 d6 d7 d8 d9 f1
          go_wp2_with fail
          go_loop [8] (fun j => ∃ t : Nat, t ≤ (goalsF bs[m].e).length ∧ j = .int .i64 t ∧ Hid (((goalsF bs[m].e).take t).find? (stray bs.length) = none)) (fun j => (goalsF bs[m].e).length - (intOf j).toNat)
          case atStart => exact ⟨0, by omega, rfl, by simp [Hid]⟩
          case round =>
            obtain ⟨t, ht, rfl, H3⟩ := hrel
            by_cases htl : t < (goalsF bs[m].e).length
            · obtain ⟨gf, rfl, _, _⟩ := owns_form OG (by omega)
              have f0 := owns_cell OG (pcs_at htl).1
              have f1 := owns_cell OG (pcs_at htl).2
              by_cases hst : bs.length ≤ (goalsF bs[m].e)[t].1
              · have HP : Hid (lostF bs = (goalsF bs[m].e)[t].2) := by
                  show lostF bs = _
                  rw [lostF, flat_take_hit hlt H1.out (app_hit HC.out (find_take_hit htl H3.out (by simpa [stray] using hst)))]; rfl
                go_wp2_with fail
                go_ret
                exact ⟨by rw [HP.out]; rfl, F2.out⟩
              · have H3' := stop (find_take_succ htl H3.out (by simpa [stray] using hst))
                go_wp2_with fail
                go_round
                case rel => exact ⟨t + 1, by omega, by go_num, H3'⟩
                case measure => simp [intOf]; omega
            · have H1' : Hid (((bs.take (m + 1)).flatMap allG).find? (stray bs.length) = none) := flat_take_succ hlt H1.out (app_none HC.out (by have := H3.out; rwa [List.take_of_length_le (by omega)] at this))
              go_wp2_with fail
              go_roundw
              case rel => exact ⟨m + 1, by omega, by go_num, H1', F2⟩
              case measure => simp [intOf]; omega
    · have HP : Hid (lostF bs = -1) := by
        show lostF bs = _
        have := H1.out
        rw [List.take_of_length_le (by omega)] at this
        rw [lostF, this]; rfl
      go_wp2_with fail
      go_ret
      exact ⟨by rw [HP.out]; rfl, F.out⟩
end Go.Proofs.YtgfhfkgdmidhpaaGreatDoor

namespace Go.Proofs.YtgfhfkgdmidhpaaGreatDoor
open Go.RowKit

def nums (l : List (Nat × Nat)) : List Nat := l.map (·.1)
def chOk (ahead given : List Nat) (c : RCho) : Bool := decide (nums c.gs = ahead) && !hasF given c.to.1
def unfB (ahead : List Nat) : List Nat → List RCho → Option Nat
  | _, [] => none
  | gv, c :: cs => if chOk ahead gv c then unfB ahead (gv ++ [c.to.1]) cs else some c.to.2
def unfAt (bs : List RBlk) (i : Nat) : Option Nat := match bs[i]? with | some b => unfB (aheF bs i) [] b.chs | none => none
def place1 (o : Option Nat) : Int := match o with | some g => g | none => -1
def unfF (bs : List RBlk) : Int := place1 ((List.range bs.length).findSome? (unfAt bs))
def tos (l : List RCho) : List Nat := l.map (·.to.1)
theorem unf_step {ahead : List Nat} {chs : List RCho} {q : Nat} (hq : q < chs.length) : unfB ahead (tos (chs.take q)) (chs.drop q) = if chOk ahead (tos (chs.take q)) chs[q] then unfB ahead (tos (chs.take (q + 1))) (chs.drop (q + 1)) else some chs[q].to.2 := by
  rw [List.drop_eq_getElem_cons hq, unfB, List.take_succ_eq_append_getElem hq, show tos (chs.take q ++ [chs[q]]) = tos (chs.take q) ++ [chs[q].to.1] from by rw [tos, List.map_append]; rfl]
theorem unf_hit {bs : List RBlk} {m : Nat} (hm : m < bs.length) (h : ∀ i, i < m → unfAt bs i = none) {x : Nat} (hx : unfAt bs m = some x) : unfF bs = x := by
  have h1 : (List.range bs.length).findSome? (unfAt bs) = some x := by
    have e : List.range bs.length = List.range m ++ (m :: (List.range (bs.length - m - 1)).map (fun y => m + (1 + y))) := by
      have := List.range_add (n := m) (m := bs.length - m)
      rw [show m + (bs.length - m) = bs.length from by omega] at this
      rw [this, show bs.length - m = 1 + (bs.length - m - 1) from by omega, List.range_add]
      simp
    rw [e, List.findSome?_append]
    have h2 : (List.range m).findSome? (unfAt bs) = none := by
      rw [List.findSome?_eq_none_iff]; intro i hi; exact h i (by simpa using hi)
    rw [h2]; simp [hx]
  rw [unfF, h1]; rfl
theorem unf_none {bs : List RBlk} (h : ∀ i, i < bs.length → unfAt bs i = none) : unfF bs = -1 := by
  have h2 : (List.range bs.length).findSome? (unfAt bs) = none := by
    rw [List.findSome?_eq_none_iff]; intro i hi; exact h i (by simpa using hi)
  rw [unfF, h2]; rfl
theorem nums_eq {l : List (Nat × Nat)} {a : List Nat} (hl : l.length = a.length) (h : ∀ x, (h1 : x < l.length) → (h2 : x < a.length) → l[x].1 = a[x]) : nums l = a := by
  apply List.ext_getElem (by simpa [nums] using hl)
  intro i h1 h2
  simp only [nums, List.getElem_map]
  exact h i (by simpa [nums] using h1) h2
theorem nums_ne {l : List (Nat × Nat)} {a : List Nat} {x : Nat} (h1 : x < l.length) (h2 : x < a.length) (h : l[x].1 ≠ a[x]) : nums l ≠ a := by
  intro e; subst e; simp [nums] at h
theorem aheF_len (bs k) : (aheF bs k).length ≤ bs.length := aheTo_len _ _ _

set_option maxRecDepth 100000 in
set_option maxHeartbeats 2000000 in
theorem unfit_any (bs : List RBlk) (base : Nat) (v : Value) (w : World) (h : BlksOwn w base bs v) (hl : bs.length ≤ 1000000) (hc1 : ∀ b ∈ bs, b.chs.length ≤ 1000000) (hc2 : ∀ b ∈ bs, ∀ c ∈ b.chs, c.gs.length ≤ 1000000) :
    Calls Tryz.prog 24 #[v] w fun x w' => x = .returned (.int .i64 (unfF bs)) ∧ Below w.heap.size w w' := by
  obtain ⟨pv, cv, rfl⟩ := h.slice
  go_enter Tryz.func24, Tryz.ntmps24
  go_wp2_with fail
  go_loopw [3] (fun i wr => ∃ m : Nat, m ≤ bs.length ∧ i = .int .i64 m ∧ (∀ x, x < m → Hid (unfAt bs x = none)) ∧ Hid (Below w.heap.size w wr)) (fun i _ => bs.length - (intOf i).toNat)
  case atStart => exact ⟨0, by omega, rfl, fun x hx => by omega, Below.refl _ _⟩
  case round =>
    obtain ⟨m, hm, rfl, H1, F⟩ := hrel
    by_cases hlt : m < bs.length
    · have hB := h.keeps3 (Keeps.below F.out)
      go_wp2_with fail
      refine (ahead_any bs m _ _ _ hB hl).mono ?_
      rintro x w1 ⟨va, rfl, OA, f1⟩
      have hz0 := F.out.size
      replace F := stop (F.out.trans (f1.mono hz0))
      have hz1 : w.heap.size ≤ w1.heap.size := F.out.size
      have HU : Hid (unfAt bs m = unfB (aheF bs m) [] bs[m].chs) := by show _ = _; simp [unfAt, hlt]
      have hal := aheF_len bs m
      generalize aheF bs m = ah at *
      obtain ⟨pa, ca, rfl⟩ := owns_slice2 OA
      have L1 := hc1 _ (List.getElem_mem hlt)
      have L2 := hc2 _ (List.getElem_mem hlt)
      clear f1 hB
      go_wp2_with fail
      go_loopw [5, 6] (fun gv k wq => ∃ q : Nat, q ≤ bs[m].chs.length ∧ k = .int .i64 q ∧ wq.ownsRow w1.heap.size 3 1 gv (tos (bs[m].chs.take q)).length (icell (tos (bs[m].chs.take q))) ∧ Hid (unfAt bs m = unfB ah (tos (bs[m].chs.take q)) (bs[m].chs.drop q)) ∧ Hid (Below w1.heap.size w1 wq)) (fun _ k _ => bs[m].chs.length - (intOf k).toNat)
      case atStart => exact ⟨0, by omega, rfl, World.ownsRow_nil _ _ _ _, by simpa [tos] using HU, Below.refl _ _⟩
      case round =>
        clear HU
        obtain ⟨q, hq, rfl, OV, H2, F2⟩ := hrel
        have FF := F.out.trans (F2.out.mono hz1)
        have hB := h.keeps3 (Keeps.below FF)
        obtain ⟨g, qc, cc, ps, cs, rfl, _, hgs, OC, _, hc⟩ := hB.at hlt
        have d0 : wr.cell? ⟨g, m * 10, none⟩ = _ := hc 0 _ rfl
        clear hc hB
        obtain ⟨pv2, cv2, rfl⟩ := owns_slice2 OV
        have hz2 := F2.out.size
        by_cases hql : q < bs[m].chs.length
        · obtain ⟨gc, pf, cf, pr, cr, rfl, _, hgc, OF, _, e0, e1, e2, e3⟩ := OC.at hql
          have L3 := L2 _ (List.getElem_mem hql)
          have H2' := stop (H2.out.trans (unf_step hql))
          replace OA := owns_keeps OA (Keeps.below (T := fun _ => True) F2.out) trivial
          clear H2
          have hvl : (tos (bs[m].chs.take q)).length ≤ 1000000 := by simp [tos]; omega
          generalize hto : tos (bs[m].chs.take q) = gv at *
          replace hto := stop hto
          generalize hcc : bs[m].chs[q] = c at *
          replace hcc := stop hcc
          by_cases hlen : c.gs.length = ah.length
          · have hle : ((c.gs.length : Int) == (ah.length : Int)) = true := by simp; omega
            have HLEN := stop hlen
            clear hlen
            go_wp2_with fail
            refine (has_any gv c.to.1 _ _ _ (OV.alloc (.cells #[.int .i64 c.to.1, .int .i64 c.to.2, .slice pf c.gs.length cf, .slice pr c.rs.length cr] 64)) hvl).mono ?_
            rintro x w9 ⟨rfl, rfl⟩
            cases hh : hasF gv c.to.1 with
            | true =>
              have HK : chOk ah gv c = false := by simp [chOk, hh]
              clear hh
              go_wp2_with fail
              have HP : Hid (unfF bs = c.to.2) := unf_hit hlt (fun x hx => (H1 x hx).out) (by rw [H2'.out, if_neg (by simp [HK])])
              clear H2' HK
              go_loopw [8, 9] (fun o j wz => o = .bool false ∧ j = .int .i64 0 ∧ wz = wr.alloc (.cells #[.int .i64 c.to.1, .int .i64 c.to.2, .slice pf c.gs.length cf, .slice pr c.rs.length cr] 64)) (fun _ _ _ => 0)
              case atStart => exact ⟨rfl, rfl, rfl⟩
              case round =>
                obtain ⟨rfl, rfl, rfl⟩ := hrel
                by_cases hg0 : 0 < c.gs.length
                all_goals
                  go_wp2_with fail
                  go_ret
                  exact ⟨by rw [HP.out]; rfl, FF.alloc (by omega) _⟩
            | false =>
              have HH := stop hh
              clear hh
              go_wp2_with fail
              go_loopw [8, 9] (fun o j wz => ∃ (b : Bool) (t n : Nat), o = .bool b ∧ j = .int .i64 t ∧ t ≤ c.gs.length ∧ wz = (wr.alloc (.cells #[.int .i64 c.to.1, .int .i64 c.to.2, .slice pf c.gs.length cf, .slice pr c.rs.length cr] 64)).drewN n ∧ Hid (b = true → ∀ x, (h1 : x < t) → (h2 : x < c.gs.length) → (h3 : x < ah.length) → c.gs[x].1 = ah[x]) ∧ Hid (b = false → chOk ah gv c = false)) (fun _ j _ => c.gs.length - (intOf j).toNat)
              case atStart => exact ⟨true, 0, 0, rfl, rfl, by omega, rfl, fun _ x h1 => by omega, fun h => by cases h⟩
              case round =>
                obtain ⟨b, t, n, rfl, rfl, htl, rfl, HT, HF⟩ := hrel
                cases b with
                | false =>
                  have HP : Hid (unfF bs = c.to.2) := unf_hit hlt (fun x hx => (H1 x hx).out) (by rw [H2'.out, if_neg (by simp [HF.out rfl])])
                  clear H2' HT HF
                  by_cases hg0 : t < c.gs.length
                  all_goals
                    go_wp2_with fail
                    go_ret
                    exact ⟨by rw [HP.out]; rfl, below_drewN (FF.alloc (by omega) _) _⟩
                | true =>
                  by_cases hg0 : t < c.gs.length
                  · have hga : t < ah.length := by have := HLEN.out; omega
                    obtain ⟨gf, rfl, _, hgf⟩ := owns_form OF (by omega)
                    obtain ⟨ga, rfl, _, hga2⟩ := owns_form OA (by omega)
                    have f0 := owns_cell OF (pcs_at hg0).1
                    have a0 := owns_cell OA (j := t) (u := .int .i64 ah[t]) (by simp [icell, hga])
                    have n5 : gf < wr.heap.size := hgf
                    have n6 : ga < wr.heap.size := hga2
                    have HE : Hid (((c.gs[t].1 : Int) == (ah[t] : Int)) = true → ∀ x, (h1 : x < t + 1) → (h2 : x < c.gs.length) → (h3 : x < ah.length) → c.gs[x].1 = ah[x]) := by
                      intro he x h1 h2 h3
                      rcases Nat.lt_succ_iff_lt_or_eq.1 h1 with h1 | rfl
                      · exact HT.out rfl x h1 h2 h3
                      · simp at he; omega
                    have HG : Hid (((c.gs[t].1 : Int) == (ah[t] : Int)) = false → chOk ah gv c = false) := by
                      intro he
                      have : nums c.gs ≠ ah := nums_ne hg0 hga (by simp at he; omega)
                      simp [chOk, this]
                    clear HT HF
                    go_wp2_with fail
                    go_quiet (fail)
                    go_wp2_with fail
                    go_roundw
                    case rel => exact ⟨_, t + 1, n + nq, rfl, by go_num, by omega, by simp, HE, HG⟩
                    case measure => simp [intOf]; omega
                  · have HK : chOk ah gv c = true := by
                      have h1 : nums c.gs = ah := nums_eq HLEN.out (fun x h1 h2 => HT.out rfl x (by omega) h1 h2)
                      simp [chOk, h1, HH.out]
                    have H3 := H2'.out
                    rw [if_pos HK] at H3
                    have H3' := stop H3
                    clear H2' H3 HK HT HF
                    go_wp2_with (at_builtin; refine unstop ?_)
                    refine stop ?_
                    have gB : (((wr.alloc (.cells #[.int .i64 c.to.1, .int .i64 c.to.2, .slice pf c.gs.length cf, .slice pr c.rs.length cr] 64)).drewN n).alloc (.cells #[.int .i64 c.to.1] 3)).heap[wr.heap.size + 1]? = some (.cells #[.int .i64 c.to.1] 3 (0, 0)) := by
                      have := heap_alloc_last ((wr.alloc (.cells #[.int .i64 c.to.1, .int .i64 c.to.2, .slice pf c.gs.length cf, .slice pr c.rs.length cr] 64)).drewN n) (.cells #[.int .i64 c.to.1] 3)
                      rwa [show ((wr.alloc (.cells #[.int .i64 c.to.1, .int .i64 c.to.2, .slice pf c.gs.length cf, .slice pr c.rs.length cr] 64)).drewN n).heap.size = wr.heap.size + 1 from World.size_alloc _ _] at this
                    have OV2 := (owns_keeps (OV.alloc (.cells #[.int .i64 c.to.1, .int .i64 c.to.2, .slice pf c.gs.length cf, .slice pr c.rs.length cr] 64)) (Keeps.drewN (T := fun _ => True) (wr.alloc (.cells #[.int .i64 c.to.1, .int .i64 c.to.2, .slice pf c.gs.length cf, .slice pr c.rs.length cr] 64)) n) trivial).alloc (.cells #[.int .i64 c.to.1] 3)
                    have hzz : w1.heap.size ≤ (((wr.alloc (.cells #[.int .i64 c.to.1, .int .i64 c.to.2, .slice pf c.gs.length cf, .slice pr c.rs.length cr] 64)).drewN n).alloc (.cells #[.int .i64 c.to.1] 3)).heap.size := by
                      rw [World.size_alloc, show ((wr.alloc (.cells #[.int .i64 c.to.1, .int .i64 c.to.2, .slice pf c.gs.length cf, .slice pr c.rs.length cr] 64)).drewN n).heap.size = wr.heap.size + 1 from World.size_alloc _ _]; omega
                    have F5 := (below_drewN (F2.out.alloc (by omega) (.cells #[.int .i64 c.to.1, .int .i64 c.to.2, .slice pf c.gs.length cf, .slice pr c.rs.length cr] 64)) n).alloc (by rw [show ((wr.alloc (.cells #[.int .i64 c.to.1, .int .i64 c.to.2, .slice pf c.gs.length cf, .slice pr c.rs.length cr] 64)).drewN n).heap.size = wr.heap.size + 1 from World.size_alloc _ _]; omega) (.cells #[.int .i64 c.to.1] 3)
                    have HT1 : Hid (tos (bs[m].chs.take (q + 1)) = gv ++ [c.to.1]) := by
                      show _ = _
                      rw [List.take_succ_eq_append_getElem hql, tos, List.map_append, ← hto.out, ← hcc.out]; rfl
                    refine app1 Tryz.underlying22 Tryz.info3 rfl (by decide) (by decide) rfl _ _ rfl rfl OV2 gB rfl rfl (List.all_eq_true.1 rfl) hvl hzz ?_
                    intro v3 wS oS gS
                    have F6 := stop (Below.grown F5 gS hzz (fun j hj => (OV2.lt j hj).1))
                    clear gS gB OV2 F5 hzz
                    obtain ⟨p5, c5, rfl⟩ := owns_slice2 oS
                    go_wp2_with fail
                    go_roundw
                    case rel => exact ⟨q + 1, by omega, by go_num, by rw [HT1.out, List.length_append]; simpa [icell] using oS, H3', F6⟩
                    case measure => simp [intOf]; omega
          · have hle : ((c.gs.length : Int) == (ah.length : Int)) = false := by simp; omega
            have HK : chOk ah gv c = false := by
              have : nums c.gs ≠ ah := fun e => hlen (by rw [← e]; simp [nums])
              simp [chOk, this]
            clear hlen
            go_wp2_with fail
            have HP : Hid (unfF bs = c.to.2) := unf_hit hlt (fun x hx => (H1 x hx).out) (by rw [H2'.out, if_neg (by simp [HK])])
            clear H2' HK
            go_loopw [8, 9] (fun o j wz => o = .bool false ∧ j = .int .i64 0 ∧ wz = wr.alloc (.cells #[.int .i64 c.to.1, .int .i64 c.to.2, .slice pf c.gs.length cf, .slice pr c.rs.length cr] 64)) (fun _ _ _ => 0)
            case atStart => exact ⟨rfl, rfl, rfl⟩
            case round =>
              obtain ⟨rfl, rfl, rfl⟩ := hrel
              by_cases hg0 : 0 < c.gs.length
              all_goals
                go_wp2_with fail
                go_ret
                exact ⟨by rw [HP.out]; rfl, FF.alloc (by omega) _⟩
        · have HN : Hid (unfAt bs m = none) := by
            have := H2.out
            rw [List.drop_eq_nil_of_le (by omega)] at this
            exact this
          clear H2
          have H1' : ∀ x, x < m + 1 → Hid (unfAt bs x = none) := fun x hx => by
            rcases Nat.lt_succ_iff_lt_or_eq.1 hx with hx | rfl
            · exact H1 x hx
            · exact HN
          have F3 := stop FF
          clear FF
          go_wp2_with fail
          go_roundw
          case rel => exact ⟨m + 1, by omega, by go_num, H1', F3⟩
          case measure => simp [intOf]; omega
    · have HP : Hid (unfF bs = -1) := unf_none (fun i hi => (H1 i (by omega)).out)
      go_wp2_with fail
      go_ret
      exact ⟨by rw [HP.out]; rfl, F.out⟩
end Go.Proofs.YtgfhfkgdmidhpaaGreatDoor

namespace Go.Proofs.YtgfhfkgdmidhpaaGreatDoor
open Go.RowKit

theorem choGo_len {s} (k c) : (choGo s k c).gs.length ≤ c.gs.length + k := by
  induction k generalizing c with
  | zero => exact Nat.le_refl _
  | succ k ih =>
    rw [choGo]
    have h0 : (choR s c).gs.length = c.gs.length + 1 := by simp [choR]
    cases h : onF s (choR s c).i (choR s c).bad 44 with
    | true =>
      rw [if_pos rfl]
      have := ih { choR s c with i := gotI s (choR s c).i (choR s c).bad 44 }
      dsimp only at this ⊢; omega
    | false => rw [if_neg (by simp)]; dsimp only; omega
theorem choF_len {s i bad} : (choF s i bad).gs.length ≤ s.size + 1 := by
  have := choGo_len (s := s) (s.size + 1) { gs := [], rs := [], i := gotI s i bad 64, bad := mustB s i bad 64 }
  simpa [choF] using this
theorem blkGo_len {s i0} (k : Nat) : ∀ chs sts i bad, (blkGo s i0 k chs sts i bad).b.chs.length ≤ chs.length + k ∧ ((∀ c ∈ chs, c.gs.length ≤ s.size + 1) → ∀ c ∈ (blkGo s i0 k chs sts i bad).b.chs, c.gs.length ≤ s.size + 1) := by
  induction k with
  | zero => intro chs sts i bad; exact ⟨Nat.le_refl _, fun h => h⟩
  | succ k ih =>
    intro chs sts i bad
    rw [blkGo]
    by_cases hb : bad < 0
    · rw [if_pos hb]
      by_cases h1 : onF s i bad 46 = true
      · rw [if_pos h1]; exact ⟨Nat.le_add_right _ _, fun h => h⟩
      rw [if_neg h1]
      by_cases h2 : onF s i bad 62 = true
      · rw [if_pos h2]; exact ⟨Nat.le_add_right _ _, fun h => h⟩
      rw [if_neg h2]
      by_cases h3 : onF s i bad 33 = true
      · rw [if_pos h3]
        exact ⟨Nat.le_trans (ih _ _ _ _).1 (by omega), (ih _ _ _ _).2⟩
      rw [if_neg h3]
      dsimp only
      by_cases h4 : onF s (regI s i bad) (regB s i bad) 61 = true
      · rw [if_pos h4]
        exact ⟨Nat.le_trans (ih _ _ _ _).1 (by omega), (ih _ _ _ _).2⟩
      rw [if_neg h4]
      by_cases h5 : (onF s (regI s i bad) (regB s i bad) 64 && sts.isEmpty) = true
      · rw [if_pos h5]
        refine ⟨Nat.le_trans (ih _ _ _ _).1 (by simp; omega), fun h => (ih _ _ _ _).2 ?_⟩
        intro c hc
        rcases List.mem_append.1 hc with hc | hc
        · exact h c hc
        · simp at hc; subst hc; exact choF_len
      rw [if_neg h5]; exact ⟨Nat.le_add_right _ _, fun h => h⟩
    · rw [if_neg hb]; exact ⟨Nat.le_add_right _ _, fun h => h⟩
def BlkFine (n : Nat) (b : RBlk) : Prop := b.chs.length ≤ n ∧ ∀ c ∈ b.chs, c.gs.length ≤ n
theorem blkF_fine {s i bad} : BlkFine (s.size + 1) (blkF s i bad).b := by
  have h := blkGo_len (s := s) (i0 := i) (s.size + 1) [] [] i bad
  exact ⟨by simpa [blkF] using h.1, h.2 (by simp)⟩
theorem parGo_fine {s} (k p) (h : ∀ b ∈ p.bs, BlkFine (s.size + 1) b) : (parGo s k p).bs.length ≤ p.bs.length + k ∧ ∀ b ∈ (parGo s k p).bs, BlkFine (s.size + 1) b := by
  induction k generalizing p with
  | zero => exact ⟨Nat.le_refl _, h⟩
  | succ k ih =>
    rw [parGo]
    have hq : ∀ b ∈ p.bs ++ [(blkF s p.i p.bad).b], BlkFine (s.size + 1) b := by
      intro b hb
      rcases List.mem_append.1 hb with hb | hb
      · exact h b hb
      · simp at hb; subst hb; exact blkF_fine
    cases ho : onF s (blkF s p.i p.bad).i (blkF s p.i p.bad).bad 124 with
    | true =>
      rw [if_pos rfl]
      have := ih ⟨p.bs ++ [(blkF s p.i p.bad).b], gotI s (blkF s p.i p.bad).i (blkF s p.i p.bad).bad 124, (blkF s p.i p.bad).bad⟩ hq
      refine ⟨Nat.le_trans this.1 (by simp; omega), this.2⟩
    | false => rw [if_neg (by simp)]; exact ⟨by simp, hq⟩
theorem parF_fine (s) : (parF s).bs.length ≤ s.size + 1 ∧ ∀ b ∈ (parF s).bs, BlkFine (s.size + 1) b := by
  have := parGo_fine (s := s) (s.size + 1) ⟨[], 0, -1⟩ (by simp)
  simpa [parF] using this

structure Rd where
  e : Nat
  at_ : Int
def rdF (s : ByteArray) : Rd :=
  if 200000 < s.size then ⟨1, 0⟩
  else if 0 ≤ parBad s then ⟨2, parBad s⟩
  else if h : 12 < (parF s).bs.length then ⟨3, (parF s).bs[12].at_⟩
  else if 0 ≤ lostF (parF s).bs then ⟨4, lostF (parF s).bs⟩
  else if 0 ≤ unfF (parF s).bs then ⟨6, unfF (parF s).bs⟩
  else ⟨0, 0⟩

def RdOwn (w : World) (base : Nat) (s : ByteArray) (v : Value) : Prop := (rdF s).e = 0 → BlksOwn w base (parF s).bs v
theorem rd_no {w base s v e a} (h : rdF s = ⟨e, a⟩) (he : e ≠ 0) : RdOwn w base s v := fun g => by rw [h] at g; exact absurd g he
theorem rd_yes {w base s v} (h : BlksOwn w base (parF s).bs v) : RdOwn w base s v := fun _ => h
set_option maxRecDepth 100000 in
set_option maxHeartbeats 1000000 in
theorem read_any (s : ByteArray) (w : World) (hs : s.size ≤ maxLen) :
    Calls Tryz.prog 7 #[.string s] w fun x w' => ∃ v, x = .returned (.tuple #[v, .int .i64 (rdF s).e, .int .i64 (rdF s).at_]) ∧ RdOwn w' w.heap.size s v ∧ Below w.heap.size w w' := by
  unfold maxLen at hs
  by_cases h1 : 200000 < s.size
  · have HR : Hid (rdF s = ⟨1, 0⟩) := by show _ = _; rw [rdF, if_pos h1]
    go_enter Tryz.func7, Tryz.ntmps7
    go_wp2_with fail
    go_ret3
    exact ⟨_, by rw [HR.out]; rfl, rd_no HR.out (by decide), Below.refl _ _⟩
  · go_enter Tryz.func7, Tryz.ntmps7
    go_wp2_with fail
    refine (parse_any s _ (by omega)).mono ?_
    rintro x w1 ⟨v, rfl, O, f1⟩
    have F : Below w.heap.size w w1 := ⟨f1.os, f1.tape, f1.output, f1.size, fun k hk => f1.block k hk (by omega)⟩
    have hfine := parF_fine s
    clear f1
    by_cases h2 : 0 ≤ parBad s
    · have HR : Hid (rdF s = ⟨2, parBad s⟩) := by show _ = _; rw [rdF, if_neg h1, if_pos h2]
      clear hfine
      go_wp2_with fail
      go_ret3
      exact ⟨_, by rw [HR.out]; rfl, rd_no HR.out (by decide), F⟩
    · obtain ⟨pv, cv, rfl⟩ := O.slice
      by_cases h3 : 12 < (parF s).bs.length
      · have HR : Hid (rdF s = ⟨3, (parF s).bs[12].at_⟩) := by show _ = _; rw [rdF, if_neg h1, if_neg h2, dif_pos h3]
        obtain ⟨g, qc, cc, ps, cs, rfl, _, _, _, _, hc⟩ := O.at h3
        have d9 : w1.cell? ⟨g, 129, none⟩ = _ := hc 9 _ rfl
        have hbl : (parF s).bs.length ≤ 1000000 := by omega
        clear hc hfine
        go_wp2
        go_quiet (fail)
        go_wp2
        go_ret3
        exact ⟨_, by rw [HR.out]; rfl, rd_no HR.out (by decide), below_drewN F _⟩
      · have hf1 : (parF s).bs.length ≤ 1000000 := by omega
        have hf2 : ∀ b ∈ (parF s).bs, b.chs.length ≤ 1000000 := fun b hb => by have := (hfine.2 b hb).1; omega
        have hf3 : ∀ b ∈ (parF s).bs, ∀ c ∈ b.chs, c.gs.length ≤ 1000000 := fun b hb c hc => by have := (hfine.2 b hb).2 c hc; omega
        clear hfine
        go_wp2_with fail
        refine (lost_any _ _ _ _ O hf1 hf2 hf3).mono ?_
        rintro x w2 ⟨rfl, f2⟩
        have F2 := F.trans (f2.mono F.size)
        replace O := O.keeps3 (Keeps.below f2)
        by_cases h4 : 0 ≤ lostF (parF s).bs
        · have HR : Hid (rdF s = ⟨4, lostF (parF s).bs⟩) := by show _ = _; rw [rdF, if_neg h1, if_neg (by omega), dif_neg h3, if_pos h4]
          clear hf2 hf3
          go_wp2_with fail
          go_ret3
          exact ⟨_, by rw [HR.out]; rfl, rd_no HR.out (by decide), F2⟩
        · go_wp2_with fail
          refine (unfit_any _ _ _ _ O hf1 hf2 hf3).mono ?_
          rintro x w3 ⟨rfl, f3⟩
          have F3 := F2.trans (f3.mono F2.size)
          replace O := O.keeps3 (Keeps.below f3)
          by_cases h5 : 0 ≤ unfF (parF s).bs
          · have HR : Hid (rdF s = ⟨6, unfF (parF s).bs⟩) := by show _ = _; rw [rdF, if_neg h1, if_neg (by omega), dif_neg h3, if_neg (by omega), if_pos h5]
            clear hf2 hf3
            go_wp2_with fail
            go_ret3
            exact ⟨_, by rw [HR.out]; rfl, rd_no HR.out (by decide), F3⟩
          · have HR : Hid (rdF s = ⟨0, 0⟩) := by show _ = _; rw [rdF, if_neg h1, if_neg (by omega), dif_neg h3, if_neg (by omega), if_neg h5]
            clear hf2 hf3
            go_wp2_with fail
            go_ret3
            exact ⟨_, by rw [HR.out]; rfl, rd_yes O, F3⟩

end Go.Proofs.YtgfhfkgdmidhpaaGreatDoor
