import Derived.Test.YtjimoigbdcalpaaVe
namespace Go.Proofs.Ytjimoigbdcalpaa
open Go.RowKit

theorem PBlkAll.at {w base} : ∀ {cs vs}, PBlkAll w base cs vs → ∀ {k} (hk : k < cs.length), ∃ v, vs[k]? = some v ∧ (cs[k].e.op = 46 ∨ cs[k].e.op = 62 ∨ cs[k].e.op = 63) ∧ PBlk w base cs[k] v.1 v.2
  | [], [], _, k, hk => absurd hk (by simp)
  | c :: cs, v :: vs, h, 0, _ => ⟨v, rfl, h.1.1, h.1.2⟩
  | c :: cs, v :: vs, h, k + 1, hk => by
    obtain ⟨u, a, b, d⟩ := PBlkAll.at h.2 (k := k) (by simpa using hk)
    exact ⟨u, by simpa using a, by simpa using b, by simpa using d⟩
  | [], _ :: _, h, _, _ => h.elim
  | _ :: _, [], h, _, _ => h.elim
theorem PBs.at {w : World} {base : Nat} {cs : List RBlk} {p : Option Addr} {m cap : Nat} (h : PBs w base cs (.slice p m cap)) {k : Nat} (hk : k < cs.length) :
    ∃ g qc cc ps cs1, p = some ⟨g, 0, none⟩ ∧ base ≤ g ∧ g < w.heap.size ∧ (cs[k].e.op = 46 ∨ cs[k].e.op = 62 ∨ cs[k].e.op = 63) ∧ PChs w base cs[k].chs (.slice qc cs[k].chs.length cc) ∧ w.ownsRow base 143 1 (.slice ps cs[k].sts.length cs1) cs[k].sts.length (cs[k].sts.map stVal) ∧
      w.cell? ⟨g, k * 4, none⟩ = some (.int .i64 cs[k].at_) ∧ w.cell? ⟨g, k * 4 + 1, none⟩ = some (.slice qc cs[k].chs.length cc) ∧ w.cell? ⟨g, k * 4 + 2, none⟩ = some (.slice ps cs[k].sts.length cs1) ∧ w.cell? ⟨g, k * 4 + 3, none⟩ = some (endVal cs[k].e) := by
  obtain ⟨vs, a, b⟩ := h
  obtain ⟨v, hv, hc, hs⟩ := b.at hk
  obtain ⟨p', c', e1⟩ := owns_slice2 a
  cases e1
  obtain ⟨g, rfl, hb, hg⟩ := owns_form a (by omega)
  obtain ⟨qc, cc, e2⟩ := hs.1.slice
  obtain ⟨ps, cs1, e3⟩ := owns_slice2 hs.2
  have hl : ∀ x ∈ List.zipWith (fun (c : RBlk) (v : Value × Value) => pblkCells c v.1 v.2) cs vs, x.length = 4 := by
    intro x hx
    rw [List.mem_iff_getElem?] at hx
    obtain ⟨n, hn⟩ := hx
    rw [List.getElem?_zipWith] at hn
    split at hn
    · cases hn; rfl
    · cases hn
  have hk2 : (List.zipWith (fun (c : RBlk) (v : Value × Value) => pblkCells c v.1 v.2) cs vs)[k]? = some (pblkCells cs[k] v.1 v.2) := by rw [List.getElem?_zipWith, hv, List.getElem?_eq_getElem hk]
  have F := fun j hj => flat_get 4 _ k j _ hl hk2 hj
  refine ⟨g, qc, cc, ps, cs1, rfl, hb, hg, hc, by rw [← e2]; exact hs.1, by rw [← e3]; exact hs.2, ?_, ?_, ?_, ?_⟩
  · exact owns_cell a (F 0 (by omega))
  · rw [← e2]; exact owns_cell a (F 1 (by omega))
  · rw [← e3]; exact owns_cell a (F 2 (by omega))
  · exact owns_cell a (F 3 (by omega))

def PlPost (p : Int) (w : World) (e : Ending) (w' : World) : Prop :=
  (0 ≤ p ∧ e = .returned (.tuple #[.int .i64 p, .bool true]) ∧ Below w.heap.size w w') ∨ (p < 0 ∧ e = .returned (.tuple #[.int .i64 0, .bool false]) ∧ Below w.heap.size w w')
theorem lost_none {bs : List RBlk} (h : (bs.flatMap allG).find? (stray bs.length) = none) : lostF bs < 0 := by rw [lostF, h]; decide
theorem lost_some {bs : List RBlk} {g : Nat × Nat} (h : (bs.flatMap allG).find? (stray bs.length) = some g) : lostF bs = g.2 := by rw [lostF, h]; rfl

set_option maxRecDepth 100000 in
set_option maxHeartbeats 2000000 in
theorem strayGoal_any (bs : List RBlk) (base : Nat) (v : Value) (w : World) (h : PBs w base bs v) (hl : bs.length ≤ 400000) (hc1 : ∀ b ∈ bs, b.chs.length ≤ 400000) (hc2 : ∀ b ∈ bs, (chG b).length ≤ 50000000000) :
    Calls Try.prog 10 #[v] w fun x w' => PlPost (lostF bs) w x w' := by
  obtain ⟨pv, cv, rfl⟩ := h.slice
  go_enter Try.func10, Try.ntmps10
  go_wp2_with fail
  go_loopw [10] (fun i wr => ∃ m : Nat, m ≤ bs.length ∧ i = .int .i64 m ∧ Hid (((bs.take m).flatMap allG).find? (stray bs.length) = none) ∧ Hid (Below w.heap.size w wr)) (fun i _ => bs.length - (intOf i).toNat)
  case atStart => exact ⟨0, by omega, rfl, by simp [Hid], Below.refl _ _⟩
  case round =>
    obtain ⟨m, hm, rfl, H1, F⟩ := hrel
    by_cases hlt : m < bs.length
    · have hB := h.keeps (Keeps.below F.out)
      obtain ⟨g, qc, cc, ps, cs1, rfl, _, hgz, hop, OC, OS, d0, d1, d2, d3⟩ := hB.at hlt
      have L1 := hc1 _ (List.getElem_mem hlt)
      have L2 := hc2 _ (List.getElem_mem hlt)
      obtain ⟨T, x, hev⟩ := endVal_iface bs[m].e
      have HEV := stop hev
      rw [hev] at d3
      have hz0 := F.out.size
      have HOP := stop hop
      clear hB hev hop
      go_wp2_with fail
      have HG := goalsOf_any bs[m] base qc cc (.slice ps bs[m].sts.length cs1) (wr.alloc (.cells #[.int .i64 bs[m].at_, .slice qc bs[m].chs.length cc, .slice ps bs[m].sts.length cs1, .iface T x] 43)) (OC.keeps (Keeps.alloc _ T4 _ _) (by simp [T4]) (by simp [T4])) ⟨_, _, _, rfl⟩ HOP.out L1 L2
      rw [HEV.out] at HG
      refine HG.mono ?_
      rintro e w1 ⟨vg, rfl, OG, f1⟩
      have F2 : Hid (Below w.heap.size w w1) := (F.out.alloc hz0 _).trans (f1.mono (by rw [World.size_alloc]; omega))
      obtain ⟨pg, cg, rfl⟩ := owns_slice2 OG
      have hal : (allG bs[m]).length ≤ 50000000002 := by
        have := goalsF_le bs[m].e
        rw [allG, List.length_append]; omega
      clear HG d0 d1 d2 d3 OC OS f1
      generalize hag : allG bs[m] = ag at *
      have HAG := stop hag
      clear hag
      go_wp2_with fail
      go_loopw [17] (fun j wz => ∃ t : Nat, t ≤ ag.length ∧ j = .int .i64 t ∧ Hid ((ag.take t).find? (stray bs.length) = none) ∧ Hid (Below w1.heap.size w1 wz)) (fun j _ => ag.length - (intOf j).toNat)
      case atStart => exact ⟨0, by omega, rfl, by simp [Hid], Below.refl _ _⟩
      case round =>
        obtain ⟨t, ht, rfl, H3, F3⟩ := hrel
        have hz3 := F3.out.size
        have hz2 := F2.out.size
        have OG2 := owns_keeps OG (Keeps.below (T := fun _ => True) F3.out) trivial
        by_cases htl : t < ag.length
        · obtain ⟨gf, rfl, _, hgf⟩ := owns_form OG2 (by omega)
          have f0 := owns_cell OG2 (pcs_at htl).1
          have f1 := owns_cell OG2 (pcs_at htl).2
          by_cases hst : bs.length ≤ ag[t].1
          · have HP : Hid (lostF bs = ag[t].2) := lost_some (flat_take_hit hlt H1.out (by rw [HAG.out]; exact find_take_hit htl H3.out (by simpa [stray] using hst)))
            go_wp2_with fail
            go_ret2
            exact .inl ⟨by rw [HP.out]; omega, by rw [HP.out]; rfl, F2.out.trans ((F3.out.alloc hz3 _).mono (by omega))⟩
          · have H3' := stop (find_take_succ htl H3.out (by simpa [stray] using hst))
            go_wp2_with fail
            go_roundw
            case rel => exact ⟨t + 1, by omega, by go_num, H3', F3.out.alloc hz3 _⟩
            case measure => simp [intOf]; omega
        · have H1' : Hid (((bs.take (m + 1)).flatMap allG).find? (stray bs.length) = none) := flat_take_succ hlt H1.out (by rw [HAG.out]; have := H3.out; rwa [List.take_of_length_le (by omega)] at this)
          have F4 := stop (F2.out.trans (F3.out.mono hz2))
          go_wp2_with fail
          go_roundw
          case rel => exact ⟨m + 1, by omega, by go_num, H1', F4⟩
          case measure => simp [intOf]; omega
    · have HP : Hid (lostF bs < 0) := by
        have := H1.out
        rw [List.take_of_length_le (by omega)] at this
        exact lost_none this
      go_wp2_with fail
      go_ret2
      exact .inr ⟨HP.out, rfl, F.out⟩
end Go.Proofs.Ytjimoigbdcalpaa
