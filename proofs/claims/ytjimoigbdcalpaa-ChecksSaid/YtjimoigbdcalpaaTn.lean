import Derived.Test.YtjimoigbdcalpaaTm
namespace Go.Proofs.Ytjimoigbdcalpaa
open Go.RowKit

section find
variable {α β : Type}
theorem find_take_succ {P : α → Bool} {l : List α} {j : Nat} (hj : j < l.length) (h : (l.take j).find? P = none) (hn : P l[j] = false) : (l.take (j + 1)).find? P = none := by
  rw [List.take_succ_eq_append_getElem hj, List.find?_append, h]; simp [hn]
theorem find_take_hit {P : α → Bool} {l : List α} {j : Nat} (hj : j < l.length) (h : (l.take j).find? P = none) (hn : P l[j] = true) : l.find? P = some l[j] := by
  conv => lhs; rw [← List.take_append_drop j l]
  rw [List.find?_append, h, List.drop_eq_getElem_cons hj, List.find?_cons_of_pos hn]; rfl
theorem flat_take_succ {P : β → Bool} {f : α → List β} {l : List α} {k : Nat} (hk : k < l.length) (h : ((l.take k).flatMap f).find? P = none) (hn : (f l[k]).find? P = none) : ((l.take (k + 1)).flatMap f).find? P = none := by
  rw [List.take_succ_eq_append_getElem hk, List.flatMap_append, List.find?_append, h]; simpa using hn
theorem flat_take_hit {P : β → Bool} {f : α → List β} {l : List α} {k : Nat} {g : β} (hk : k < l.length) (h : ((l.take k).flatMap f).find? P = none) (hn : (f l[k]).find? P = some g) : (l.flatMap f).find? P = some g := by
  conv => lhs; rw [← List.take_append_drop k l]
  rw [List.flatMap_append, List.find?_append, h, List.drop_eq_getElem_cons hk, List.flatMap_cons, List.find?_append, hn]; rfl
theorem app_none {P : α → Bool} {a b : List α} (h : a.find? P = none) (hb : b.find? P = none) : (a ++ b).find? P = none := by rw [List.find?_append, h, hb]; rfl
theorem app_hit {P : α → Bool} {a b : List α} {g : α} (h : a.find? P = none) (hb : b.find? P = some g) : (a ++ b).find? P = some g := by rw [List.find?_append, h, hb]; rfl
theorem app_hit0 {P : α → Bool} {a b : List α} {g : α} (h : a.find? P = some g) : (a ++ b).find? P = some g := by rw [List.find?_append, h]; rfl
end find

def chG (b : RBlk) : List (Nat × Nat) := b.chs.flatMap (·.gs)
def allG (b : RBlk) : List (Nat × Nat) := chG b ++ goalsF b.e
def stray (n : Nat) (g : Nat × Nat) : Bool := decide (n ≤ g.1)
def place (o : Option (Nat × Nat)) : Int := match o with | some g => g.2 | none => -1
def lostF (bs : List RBlk) : Int := place ((bs.flatMap allG).find? (stray bs.length))

theorem pcs_flat (l : List (Nat × Nat)) : pcs l = (l.map pc).flatten := by rw [pcs, List.flatMap_def]
theorem pcs_at {l : List (Nat × Nat)} {j : Nat} (hj : j < l.length) : (pcs l)[j * 2]? = some (.int .i64 l[j].1) ∧ (pcs l)[j * 2 + 1]? = some (.int .i64 l[j].2) := by
  have h : ∀ x ∈ l.map pc, x.length = 2 := by intro x hx; simp at hx; obtain ⟨a, b, _, rfl⟩ := hx; rfl
  have hk : (l.map pc)[j]? = some (pc l[j]) := by simp [hj]
  rw [pcs_flat]
  exact ⟨flat_get 2 _ j 0 _ h hk (by omega), flat_get 2 _ j 1 _ h hk (by omega)⟩
theorem ChAll.at {w base} : ∀ {cs vs}, ChAll w base cs vs → ∀ {k} (hk : k < cs.length), ∃ v, vs[k]? = some v ∧ w.ownsRow base 52 2 v.1 cs[k].gs.length (pcs cs[k].gs) ∧ w.ownsRow base 51 2 v.2 cs[k].rs.length (pcs cs[k].rs)
  | [], [], _, k, hk => absurd hk (by simp)
  | c :: cs, v :: vs, h, 0, _ => ⟨v, rfl, h.1.1, h.1.2⟩
  | c :: cs, v :: vs, h, k + 1, hk => by
    obtain ⟨u, a, b, d⟩ := ChAll.at h.2 (k := k) (by simpa using hk)
    exact ⟨u, by simpa using a, by simpa using b, by simpa using d⟩
  | [], _ :: _, h, _, _ => h.elim
  | _ :: _, [], h, _, _ => h.elim
theorem ChsOwn.at {w : World} {base : Nat} {cs : List RCho} {p : Option Addr} {m cap : Nat} (h : ChsOwn w base cs (.slice p m cap)) {k : Nat} (hk : k < cs.length) :
    ∃ g pf cf pr cr, p = some ⟨g, 0, none⟩ ∧ base ≤ g ∧ g < w.heap.size ∧ w.ownsRow base 52 2 (.slice pf cs[k].gs.length cf) cs[k].gs.length (pcs cs[k].gs) ∧ w.ownsRow base 51 2 (.slice pr cs[k].rs.length cr) cs[k].rs.length (pcs cs[k].rs) ∧
      w.cell? ⟨g, k * 4, none⟩ = some (.int .i64 cs[k].to.1) ∧ w.cell? ⟨g, k * 4 + 1, none⟩ = some (.int .i64 cs[k].to.2) ∧ w.cell? ⟨g, k * 4 + 2, none⟩ = some (.slice pf cs[k].gs.length cf) ∧ w.cell? ⟨g, k * 4 + 3, none⟩ = some (.slice pr cs[k].rs.length cr) := by
  obtain ⟨vs, a, b⟩ := h
  obtain ⟨v, hv, hc, hs⟩ := b.at hk
  obtain ⟨p', c', e1⟩ := owns_slice2 a
  cases e1
  obtain ⟨g, rfl, hb, hg⟩ := owns_form a (by omega)
  obtain ⟨pf, cf, e2⟩ := owns_slice2 hc
  obtain ⟨pr, cr, e3⟩ := owns_slice2 hs
  have hl : ∀ x ∈ List.zipWith chCell cs vs, x.length = 4 := by
    intro x hx
    rw [List.mem_iff_getElem?] at hx
    obtain ⟨n, hn⟩ := hx
    rw [List.getElem?_zipWith] at hn
    split at hn
    · cases hn; rfl
    · cases hn
  have hk2 : (List.zipWith chCell cs vs)[k]? = some (chCell cs[k] v) := by rw [List.getElem?_zipWith, hv, List.getElem?_eq_getElem hk]
  have F := fun j hj => flat_get 4 _ k j _ hl hk2 hj
  refine ⟨g, pf, cf, pr, cr, rfl, hb, hg, by rw [← e2]; exact hc, by rw [← e3]; exact hs, ?_, ?_, ?_, ?_⟩
  · exact owns_cell a (F 0 (by omega))
  · exact owns_cell a (F 1 (by omega))
  · rw [← e2]; exact owns_cell a (F 2 (by omega))
  · rw [← e3]; exact owns_cell a (F 3 (by omega))

set_option maxRecDepth 100000 in
set_option maxHeartbeats 1000000 in
theorem lost_any (bs : List RBlk) (base : Nat) (v : Value) (w : World) (h : BlksOwn w base bs v) (hl : bs.length ≤ 1000000) (hc1 : ∀ b ∈ bs, b.chs.length ≤ 1000000) (hc2 : ∀ b ∈ bs, ∀ c ∈ b.chs, c.gs.length ≤ 1000000) :
    Calls Try.prog 13 #[v] w fun x w' => x = .returned (.int .i64 (lostF bs)) ∧ Below w.heap.size w w' := by
  obtain ⟨pv, cv, rfl⟩ := h.slice
  go_enter Try.func13, Try.ntmps13
  go_wp2_with fail
  go_loopw [3] (fun i wr => ∃ m : Nat, m ≤ bs.length ∧ i = .int .i64 m ∧ Hid (((bs.take m).flatMap allG).find? (stray bs.length) = none) ∧ Hid (Below w.heap.size w wr)) (fun i _ => bs.length - (intOf i).toNat)
  case atStart => exact ⟨0, by omega, rfl, by simp [Hid], Below.refl _ _⟩
  case round =>
    obtain ⟨m, hm, rfl, H1, F⟩ := hrel
    by_cases hlt : m < bs.length
    · have hB := h.keeps3 (Keeps.below F.out)
      obtain ⟨g, qc, cc, ps, cs, rfl, _, _, OC, _, hc⟩ := hB.at hlt
      have d0 : wr.cell? ⟨g, m * 10, none⟩ = _ := hc 0 _ rfl
      have d1 := hc 1 _ rfl
      have d2 := hc 2 _ rfl
      have d3 := hc 3 _ rfl
      have d4 := hc 4 _ rfl
      have d5 := hc 5 _ rfl
      have d6 := hc 6 _ rfl
      have d7 := hc 7 _ rfl
      have d8 := hc 8 _ rfl
      have d9 := hc 9 _ rfl
      have L1 := hc1 _ (List.getElem_mem hlt)
      have L2 := hc2 _ (List.getElem_mem hlt)
      clear hc hB
      go_wp2_with fail
      go_loop [4] (fun k => ∃ q : Nat, q ≤ bs[m].chs.length ∧ k = .int .i64 q ∧ Hid (((bs[m].chs.take q).flatMap (·.gs)).find? (stray bs.length) = none)) (fun k => bs[m].chs.length - (intOf k).toNat)
      case atStart => exact ⟨0, by omega, rfl, by simp [Hid]⟩
      case round =>
        obtain ⟨q, hq, rfl, H2⟩ := hrel
        by_cases hql : q < bs[m].chs.length
        · obtain ⟨gc, pf, cf, pr, cr, rfl, _, _, OF, _, _, _, e2, _⟩ := OC.at hql
          have L3 := L2 _ (List.getElem_mem hql)
          go_wp2_with fail
          go_loop [6] (fun j => ∃ t : Nat, t ≤ bs[m].chs[q].gs.length ∧ j = .int .i64 t ∧ Hid ((bs[m].chs[q].gs.take t).find? (stray bs.length) = none)) (fun j => bs[m].chs[q].gs.length - (intOf j).toNat)
          case atStart => exact ⟨0, by omega, rfl, by simp [Hid]⟩
          case round =>
            obtain ⟨t, ht, rfl, H3⟩ := hrel
            by_cases htl : t < bs[m].chs[q].gs.length
            · obtain ⟨gf, rfl, _, _⟩ := owns_form OF (by omega)
              have f0 := owns_cell OF (pcs_at htl).1
              have f1 := owns_cell OF (pcs_at htl).2
              by_cases hst : bs.length ≤ bs[m].chs[q].gs[t].1
              · have HP : Hid (lostF bs = bs[m].chs[q].gs[t].2) := by
                  show lostF bs = _
                  rw [lostF, flat_take_hit hlt H1.out (app_hit0 (flat_take_hit hql H2.out (find_take_hit htl H3.out (by simpa [stray] using hst))))]; rfl
                go_wp2_with fail
                go_ret
                exact ⟨by rw [HP.out]; rfl, F.out⟩
              · have H3' := stop (find_take_succ htl H3.out (by simpa [stray] using hst))
                go_wp2_with fail
                go_round
                case rel => exact ⟨t + 1, by omega, by go_num, H3'⟩
                case measure => simp [intOf]; omega
            · have H2' : Hid (((bs[m].chs.take (q + 1)).flatMap (·.gs)).find? (stray bs.length) = none) := flat_take_succ hql H2.out (by have := H3.out; rwa [List.take_of_length_le (by omega)] at this)
              go_wp2_with fail
              go_round
              case rel => exact ⟨q + 1, by omega, by go_num, H2'⟩
              case measure => simp [intOf]; omega
        · have HC : Hid ((chG bs[m]).find? (stray bs.length) = none) := by
            have := H2.out
            rwa [List.take_of_length_le (by omega)] at this
          clear H2
          go_wp2_with fail
          refine (goals_any qc _ cc ps _ cs bs[m].e _ _).mono ?_
          rintro x w1 ⟨vg, rfl, OG, f1⟩
          have hz0 := F.out.size
          have F2 := stop (F.out.trans (f1.mono hz0))
          have hgl := goalsF_le bs[m].e
          obtain ⟨pg, cg, rfl⟩ := owns_slice2 OG
          clear d0 d1 d2 d3 d4 d5 d6 d7 d8 d9 f1
          go_wp2_with fail
          go_loop [8] (fun j => ∃ t : Nat, t ≤ (goalsF bs[m].e).length ∧ j = .int .i64 t ∧ Hid (((goalsF bs[m].e).take t).find? (stray bs.length) = none)) (fun j => (goalsF bs[m].e).length - (intOf j).toNat)
          case atStart => exact ⟨0, by omega, rfl, by simp [Hid]⟩
          case round =>
            obtain ⟨t, ht, rfl, H3⟩ := hrel
            by_cases htl : t < (goalsF bs[m].e).length
            · obtain ⟨gf, rfl, _, _⟩ := owns_form OG (by omega)
              have f0 := owns_cell OG (pcs_at htl).1
              have f1 := owns_cell OG (pcs_at htl).2
              by_cases hst : bs.length ≤ (goalsF bs[m].e)[t].1
              · have HP : Hid (lostF bs = (goalsF bs[m].e)[t].2) := by
                  show lostF bs = _
                  rw [lostF, flat_take_hit hlt H1.out (app_hit HC.out (find_take_hit htl H3.out (by simpa [stray] using hst)))]; rfl
                go_wp2_with fail
                go_ret
                exact ⟨by rw [HP.out]; rfl, F2.out⟩
              · have H3' := stop (find_take_succ htl H3.out (by simpa [stray] using hst))
                go_wp2_with fail
                go_round
                case rel => exact ⟨t + 1, by omega, by go_num, H3'⟩
                case measure => simp [intOf]; omega
            · have H1' : Hid (((bs.take (m + 1)).flatMap allG).find? (stray bs.length) = none) := flat_take_succ hlt H1.out (app_none HC.out (by have := H3.out; rwa [List.take_of_length_le (by omega)] at this))
              go_wp2_with fail
              go_roundw
              case rel => exact ⟨m + 1, by omega, by go_num, H1', F2⟩
              case measure => simp [intOf]; omega
    · have HP : Hid (lostF bs = -1) := by
        show lostF bs = _
        have := H1.out
        rw [List.take_of_length_le (by omega)] at this
        rw [lostF, this]; rfl
      go_wp2_with fail
      go_ret
      exact ⟨by rw [HP.out]; rfl, F.out⟩
end Go.Proofs.Ytjimoigbdcalpaa
