import Derived.Test.YtjimoigbdcalpaaVn
namespace Go.Proofs.Ytjimoigbdcalpaa
open Go.RowKit

def aheIn (bs : List RBlk) (m : Nat) (gs : List (Nat × Nat)) (k : Nat) : List Nat := if hasF (nums gs) k then aheTo bs k m ++ [m] else aheTo bs k m
theorem aheIn_nil (bs m k) : aheIn bs m [] k = aheTo bs k m := rfl
theorem behF_has (gl : List (Nat × Nat)) (h : gl.length ≤ 2) (k : Nat) : hasF (behF gl) k = hasF (nums gl) k := by
  match gl, h with
  | [], _ => rfl
  | [x], _ => rfl
  | [x, y], _ =>
    unfold behF hasF nums
    by_cases e : y.1 = x.1
    · simp [e]
    · simp [e]
theorem aheIn_all {bs : List RBlk} {m : Nat} (hm : m < bs.length) (k : Nat) : aheIn bs m (goalsF bs[m].e) k = aheTo bs k (m + 1) := by
  rw [aheTo_succ, aheIn, aheB, List.getElem?_eq_getElem hm]
  simp only [behF_has _ (goalsF_le _)]
theorem aheTo_lt {bs : List RBlk} {k m y : Nat} (h : y ∈ aheTo bs k m) : y < m := by
  have := (List.mem_filter.1 h).1
  simpa using this
theorem aheTo_srt (bs : List RBlk) (k m : Nat) : (aheTo bs k m).Pairwise (· < ·) := List.pairwise_lt_range.filter _
theorem aheIn_srt (bs : List RBlk) (m : Nat) (gs k) : (aheIn bs m gs k).Pairwise (· < ·) := by
  unfold aheIn
  cases hasF (nums gs) k
  · exact aheTo_srt _ _ _
  · refine List.pairwise_append.2 ⟨aheTo_srt _ _ _, by simp, fun a ha b hb => ?_⟩
    have := aheTo_lt ha
    simp at hb; omega
theorem aheIn_len (bs : List RBlk) (m : Nat) (gs k) : (aheIn bs m gs k).length ≤ m + 1 := by
  have := aheTo_len bs k m
  unfold aheIn
  cases hasF (nums gs) k <;> simp <;> omega
theorem aheIn_old {bs : List RBlk} {m : Nat} {gs : List (Nat × Nat)} {t : Nat} (ht : t < gs.length) (h : hasF (nums (gs.take t)) gs[t].1 = true) (k : Nat) : aheIn bs m (gs.take (t + 1)) k = aheIn bs m (gs.take t) k := by
  unfold aheIn
  rw [show hasF (nums (gs.take (t + 1))) k = hasF (nums (gs.take t)) k from ?_]
  rw [List.take_succ_eq_append_getElem ht]
  unfold hasF nums at *
  rw [List.map_append, Bool.eq_iff_iff]
  simp only [List.contains_iff_mem, List.mem_append] at *
  constructor
  · rintro (h1 | h1)
    · exact h1
    · simp at h1; rw [h1]; exact h
  · exact .inl
theorem aheIn_oldMem {bs : List RBlk} {m : Nat} {gs : List (Nat × Nat)} {k : Nat} (h : hasF (nums gs) k = true) : m ∈ aheIn bs m gs k := by simp [aheIn, h]
theorem aheIn_new {bs : List RBlk} {m : Nat} {gs : List (Nat × Nat)} {t : Nat} (ht : t < gs.length) (h : hasF (nums (gs.take t)) gs[t].1 = false) : aheIn bs m (gs.take (t + 1)) gs[t].1 = aheIn bs m (gs.take t) gs[t].1 ++ [m] := by
  unfold aheIn
  rw [h, show hasF (nums (gs.take (t + 1))) gs[t].1 = true from ?_]
  · rfl
  rw [List.take_succ_eq_append_getElem ht]
  unfold hasF nums
  rw [List.map_append, List.contains_iff_mem]
  exact List.mem_append.2 (.inr (by simp))
theorem aheIn_newLt {bs : List RBlk} {m : Nat} {gs : List (Nat × Nat)} {k : Nat} (h : hasF (nums gs) k = false) : ∀ y ∈ aheIn bs m gs k, y < m := by
  intro y hy
  rw [aheIn, h] at hy
  exact aheTo_lt hy
theorem aheIn_other {bs : List RBlk} {m : Nat} {gs : List (Nat × Nat)} {t : Nat} (ht : t < gs.length) {k : Nat} (hk : k ≠ gs[t].1) : aheIn bs m (gs.take (t + 1)) k = aheIn bs m (gs.take t) k := by
  unfold aheIn
  rw [show hasF (nums (gs.take (t + 1))) k = hasF (nums (gs.take t)) k from ?_]
  rw [List.take_succ_eq_append_getElem ht]
  unfold hasF nums at *
  rw [List.map_append, Bool.eq_iff_iff]
  simp only [List.contains_iff_mem, List.mem_append]
  constructor
  · rintro (h1 | h1)
    · exact h1
    · simp at h1; exact absurd h1 hk
  · exact .inl

theorem get_rep {n k : Nat} {x u : Value} (h : (List.replicate n x)[k]? = some u) : k < n ∧ u = x := by
  rw [List.getElem?_replicate] at h
  split at h
  · cases h; exact ⟨by assumption, rfl⟩
  · cases h
def GPost (e : REnd) (w : World) (r : Ending) (w' : World) : Prop := ∃ v, r = .returned v ∧ w'.ownsRow w.heap.size 69 2 v (goalsF e).length (pcs (goalsF e)) ∧ Below w.heap.size w w'
theorem gM46 (e : REnd) (h : goalsF e = []) (w : World) : Calls Try.prog 98 #[.agg #[]] w (GPost e w) := by
  refine (goalsK96 w).mono ?_
  rintro r w' ⟨rfl, f⟩
  exact ⟨_, rfl, by rw [h]; exact World.ownsRow_nil _ _ _ _, f⟩
theorem gM62 (e : REnd) (h : goalsF e = [e.one]) (w : World) : Calls Try.prog 100 #[.agg #[.int .i64 e.one.1, .int .i64 e.one.2]] w (GPost e w) := by
  refine (goalsK97 _ _ w).mono ?_
  rintro r w' ⟨g, rfl, o, f⟩
  exact ⟨_, rfl, by rw [h]; exact o, f⟩
theorem gM63 (e : REnd) (h : goalsF e = [e.one, e.two]) (w : World) : Calls Try.prog 103 #[.agg #[.int .i64 e.a.1, .int .i64 e.a.2, .int .i64 e.one.1, .int .i64 e.one.2, .int .i64 e.two.1, .int .i64 e.two.2]] w (GPost e w) := by
  refine (goalsK100 _ _ _ _ _ _ w).mono ?_
  rintro r w' ⟨g, rfl, o, f⟩
  exact ⟨_, rfl, by rw [h]; exact o, f⟩
theorem made_set (n : Nat) : (madeCells (Value.agg #[.slice none 0 0]).cells (n * 1)).toList = List.replicate n (.slice none 0 0) := by
  rw [show (Value.agg #[.slice none 0 0]).cells = #[.slice none 0 0] from rfl, Nat.mul_one]
  apply List.ext_getElem
  · simp [madeCells]
  · intro i h1 h2
    simp [madeCells, Nat.mod_one]

set_option maxRecDepth 100000 in
set_option maxHeartbeats 2000000 in
theorem aheadP_any (bs : List RBlk) (base : Nat) (v : Value) (w : World) (h : PBs w base bs v) (hn : bs.length ≤ 1000) (hgl : Hid (∀ b ∈ bs, ∀ p ∈ goalsF b.e, p.1 < bs.length)) : 
    Calls Try.prog 19 #[v] w fun e w' => ∃ v', e = .returned v' ∧ Sets w.heap.size w' v' bs.length (aheF bs) ∧ Below w.heap.size w w' := by
  obtain ⟨pv, cv, rfl⟩ := h.slice
  obtain ⟨I9, Hi9, Hz9, Hs9, Hb9⟩ := info_parts Try.info75
  go_enter Try.func19, Try.ntmps19
  go_wp2_with (at_make; refine unstop ?_)
  refine stop ?_
  refine wpList_make_full _ rfl _ _ 70 rfl w.heap.size 75 I9 (.agg #[.slice none 0 0]) 1 Try.underlying70 Hi9 Hz9 Hs9 .i64 .i64 _ _ bs.length rfl rfl rfl rfl (by rw [Hb9]; omega) (by unfold maxLen; omega) (by simp) ?_
  intro w1 o1 g1
  have S1 : Sets w.heap.size w1 (.slice (some ⟨w.heap.size, 0, none⟩) bs.length bs.length) bs.length (fun k => aheTo bs k 0) := by
    refine ⟨_, o1, fun k u hu => ?_, fun j k u u' hu hu' _ => ?_⟩
    · rw [made_set] at hu
      obtain ⟨_, rfl⟩ := get_rep hu
      exact World.ownsRow_nil _ _ _ _
    · rw [made_set] at hu
      obtain ⟨_, rfl⟩ := get_rep hu
      exact .inl rfl
  have F1 : Hid (Below w.heap.size w w1) := Below.grown (Below.refl _ _) g1 (Nat.le_refl _) (fun k hk => by cases hk)
  clear o1 g1 Hi9 Hz9 Hs9 Hb9
  go_wp2_with fail
  go_loopw [13] (fun i wr => ∃ m : Nat, m ≤ bs.length ∧ i = .int .i64 m ∧ Sets w.heap.size wr (.slice (some ⟨w.heap.size, 0, none⟩) bs.length bs.length) bs.length (fun k => aheTo bs k m) ∧ Hid (Below w.heap.size w wr)) (fun i _ => bs.length - (intOf i).toNat)
  case atStart => exact ⟨0, by omega, rfl, S1, F1⟩
  case round =>
    clear S1 F1
    obtain ⟨m, hm, rfl, S, F⟩ := hrel
    by_cases hlt : m < bs.length
    · have hB := h.keeps (Keeps.below F.out)
      obtain ⟨g, qc, cc, ps, cs1, rfl, _, hgz, hop, OC, OS, d0, d1, d2, d3⟩ := hB.at hlt
      have hz0 := F.out.size
      clear hB OC OS
      rcases hop with hop | hop | hop
      · obtain ⟨a1, a2⟩ := endStop hop
        rw [a1] at d3
        have hmt : ∀ w : World, (method 291 125 (.agg #[]) "Goals").run Try.prog w = .ok (98, (.agg #[])) w := fun w => by kernel_rfl
        have HA := stop a2
        clear a1 a2 hop
        go_wp2_with fail
        refine (gM46 bs[m].e HA.out _).mono ?_
        rintro e w2 ⟨vg, rfl, OG, f2⟩
        obtain ⟨pg, cg, rfl⟩ := owns_slice2 OG
        have hz1 : w.heap.size ≤ w2.heap.size := by have := f2.size; rw [World.size_alloc] at this; omega
        have F2 : Hid (Below w.heap.size w w2) := (F.out.alloc hz0 _).trans (f2.mono (by rw [World.size_alloc]; omega))
        have S2 := S.keeps (((Below.refl _ _).alloc (Nat.le_refl _) (.cells #[.int .i64 bs[m].at_, .slice qc bs[m].chs.length cc, .slice ps bs[m].sts.length cs1, .iface 125 (.agg #[])] 43)).trans (f2.mono (by rw [World.size_alloc]; omega)))
        have HGL : Hid (∀ p ∈ goalsF bs[m].e, p.1 < bs.length) := hgl.out _ (List.getElem_mem hlt)
        have hg2 := goalsF_le bs[m].e
        have HAI : Hid (∀ k, aheIn bs m (goalsF bs[m].e) k = aheTo bs k (m + 1)) := aheIn_all hlt
        clear d0 d1 d2 d3 f2 hmt S F HA
        generalize hgs : goalsF bs[m].e = gs at *
        clear hgs
        go_wp2_with fail
        go_loopw [22] (fun j wz => ∃ t : Nat, t ≤ gs.length ∧ j = .int .i64 t ∧ Sets w.heap.size wz (.slice (some ⟨w.heap.size, 0, none⟩) bs.length bs.length) bs.length (aheIn bs m (gs.take t)) ∧ Hid (Below w.heap.size w wz) ∧ wz.ownsRow (wr.heap.size + 1) 69 2 (.slice pg gs.length cg) gs.length (pcs gs)) (fun j _ => gs.length - (intOf j).toNat)
        case atStart =>
          refine ⟨0, by omega, rfl, S2.congr (fun k _ => aheIn_nil bs m k), F2, ?_⟩
          rw [World.size_alloc] at OG
          exact OG
        case round =>
          clear OG S2 F2 hz1 hz0
          obtain ⟨t, ht, rfl, S, F, OG⟩ := hrel
          by_cases htl : t < gs.length
          · obtain ⟨gf, rfl, _, hgf⟩ := owns_form OG (by omega)
            have f0 := owns_cell OG (pcs_at htl).1
            have f1 := owns_cell OG (pcs_at htl).2
            have hk : gs[t].1 < bs.length := HGL.out _ (List.getElem_mem htl)
            have hz := F.out.size
            have S2 := S.keeps ((Below.refl _ _).alloc (Nat.le_refl _) (.cells #[.int .i64 gs[t].1, .int .i64 gs[t].2] 69))
            have F2 := stop (F.out.alloc hz (.cells #[.int .i64 gs[t].1, .int .i64 gs[t].2] 69))
            have OG2 := OG.alloc (.cells #[.int .i64 gs[t].1, .int .i64 gs[t].2] 69)
            obtain ⟨g9, u, e9, hb9, hc9, hf9, o9, n9⟩ := S2.at hk
            cases e9
            have hlen := aheIn_len bs m (gs.take t) gs[t].1
            have HU := stop (And.intro hc9 (And.intro hf9 (And.intro o9 n9)))
            clear hc9 hf9 o9 n9 S F OG
            by_cases hh : hasF (nums (gs.take t)) gs[t].1 = true
            · have HH := stop hh
              clear hh
              go_wp2_with fail
              refine (addOldB (aheIn bs m (gs.take t) gs[t].1) m (aheIn_oldMem HH.out) (aheIn_srt _ _ _ _) w.heap.size gs[t].1 w.heap.size u _ HU.out.1 HU.out.2.2.1 (by omega)).mono ?_
              rintro e w5 ⟨rfl, hw5⟩
              have S5 := S2.congr (fun k _ => aheIn_old htl HH.out k)
              rw [← hw5.out] at S5 F2 OG2
              clear HU S2 hw5
              go_wp2_with fail
              go_roundw
              case rel => exact ⟨t + 1, by omega, by go_num, S5, F2, OG2⟩
              case measure => simp [intOf]; omega
            · have HH := stop (Bool.eq_false_iff.2 hh)
              clear hh
              go_wp2_with fail
              refine (addNewB (aheIn bs m (gs.take t) gs[t].1) m (aheIn_newLt HH.out) (aheIn_srt _ _ _ _) w.heap.size gs[t].1 w.heap.size u _ HU.out.1 HU.out.2.1 HU.out.2.2.1 (by omega) (by rw [World.size_alloc]; omega) HU.out.2.2.2).mono ?_
              rintro e w5 ⟨rfl, u5, h5⟩
              have S5 : Sets w.heap.size w5 (.slice (some ⟨w.heap.size, 0, none⟩) bs.length bs.length) bs.length (aheIn bs m (gs.take (t + 1))) := S2.put hk HU.out.1 h5.out.2 (by rw [List.length_append]; exact h5.out.1) _ (aheIn_new htl HH.out) (fun j hj => aheIn_other htl hj)
              have F5 := stop (Put.below F2.out (Nat.le_refl _) HU.out.2.2.1 h5.out.2 (by rw [World.size_alloc]; omega))
              obtain ⟨us2, a2, _, _⟩ := S2
              have OG5 := owns_keeps OG2 (Keeps.put (T := fun e => e = 69) a2 HU.out.2.2.1 h5.out.2 (by decide) (by decide)) rfl
              clear HU h5 a2 F2 OG2
              go_wp2_with fail
              go_roundw
              case rel => exact ⟨t + 1, by omega, by go_num, S5, F5, OG5⟩
              case measure => simp [intOf]; omega
          · have hte : t = gs.length := by omega
            subst hte
            have S5 := S.congr (f' := fun k => aheTo bs k (m + 1)) (fun k _ => by rw [List.take_length]; exact (HAI.out k).symm)
            clear S OG
            go_wp2_with fail
            go_roundw
            case rel => exact ⟨m + 1, by omega, by go_num, S5, F⟩
            case measure => simp [intOf]; omega
      · obtain ⟨a1, a2⟩ := endJump hop
        rw [a1] at d3
        have hmt : ∀ w : World, (method 291 128 (.agg #[.int .i64 bs[m].e.one.1, .int .i64 bs[m].e.one.2]) "Goals").run Try.prog w = .ok (100, (.agg #[.int .i64 bs[m].e.one.1, .int .i64 bs[m].e.one.2])) w := fun w => by kernel_rfl
        have HA := stop a2
        clear a1 a2 hop
        go_wp2_with fail
        refine (gM62 bs[m].e HA.out _).mono ?_
        rintro e w2 ⟨vg, rfl, OG, f2⟩
        obtain ⟨pg, cg, rfl⟩ := owns_slice2 OG
        have hz1 : w.heap.size ≤ w2.heap.size := by have := f2.size; rw [World.size_alloc] at this; omega
        have F2 : Hid (Below w.heap.size w w2) := (F.out.alloc hz0 _).trans (f2.mono (by rw [World.size_alloc]; omega))
        have S2 := S.keeps (((Below.refl _ _).alloc (Nat.le_refl _) (.cells #[.int .i64 bs[m].at_, .slice qc bs[m].chs.length cc, .slice ps bs[m].sts.length cs1, .iface 128 (.agg #[.int .i64 bs[m].e.one.1, .int .i64 bs[m].e.one.2])] 43)).trans (f2.mono (by rw [World.size_alloc]; omega)))
        have HGL : Hid (∀ p ∈ goalsF bs[m].e, p.1 < bs.length) := hgl.out _ (List.getElem_mem hlt)
        have hg2 := goalsF_le bs[m].e
        have HAI : Hid (∀ k, aheIn bs m (goalsF bs[m].e) k = aheTo bs k (m + 1)) := aheIn_all hlt
        clear d0 d1 d2 d3 f2 hmt S F HA
        generalize hgs : goalsF bs[m].e = gs at *
        clear hgs
        go_wp2_with fail
        go_loopw [22] (fun j wz => ∃ t : Nat, t ≤ gs.length ∧ j = .int .i64 t ∧ Sets w.heap.size wz (.slice (some ⟨w.heap.size, 0, none⟩) bs.length bs.length) bs.length (aheIn bs m (gs.take t)) ∧ Hid (Below w.heap.size w wz) ∧ wz.ownsRow (wr.heap.size + 1) 69 2 (.slice pg gs.length cg) gs.length (pcs gs)) (fun j _ => gs.length - (intOf j).toNat)
        case atStart =>
          refine ⟨0, by omega, rfl, S2.congr (fun k _ => aheIn_nil bs m k), F2, ?_⟩
          rw [World.size_alloc] at OG
          exact OG
        case round =>
          clear OG S2 F2 hz1 hz0
          obtain ⟨t, ht, rfl, S, F, OG⟩ := hrel
          by_cases htl : t < gs.length
          · obtain ⟨gf, rfl, _, hgf⟩ := owns_form OG (by omega)
            have f0 := owns_cell OG (pcs_at htl).1
            have f1 := owns_cell OG (pcs_at htl).2
            have hk : gs[t].1 < bs.length := HGL.out _ (List.getElem_mem htl)
            have hz := F.out.size
            have S2 := S.keeps ((Below.refl _ _).alloc (Nat.le_refl _) (.cells #[.int .i64 gs[t].1, .int .i64 gs[t].2] 69))
            have F2 := stop (F.out.alloc hz (.cells #[.int .i64 gs[t].1, .int .i64 gs[t].2] 69))
            have OG2 := OG.alloc (.cells #[.int .i64 gs[t].1, .int .i64 gs[t].2] 69)
            obtain ⟨g9, u, e9, hb9, hc9, hf9, o9, n9⟩ := S2.at hk
            cases e9
            have hlen := aheIn_len bs m (gs.take t) gs[t].1
            have HU := stop (And.intro hc9 (And.intro hf9 (And.intro o9 n9)))
            clear hc9 hf9 o9 n9 S F OG
            by_cases hh : hasF (nums (gs.take t)) gs[t].1 = true
            · have HH := stop hh
              clear hh
              go_wp2_with fail
              refine (addOldB (aheIn bs m (gs.take t) gs[t].1) m (aheIn_oldMem HH.out) (aheIn_srt _ _ _ _) w.heap.size gs[t].1 w.heap.size u _ HU.out.1 HU.out.2.2.1 (by omega)).mono ?_
              rintro e w5 ⟨rfl, hw5⟩
              have S5 := S2.congr (fun k _ => aheIn_old htl HH.out k)
              rw [← hw5.out] at S5 F2 OG2
              clear HU S2 hw5
              go_wp2_with fail
              go_roundw
              case rel => exact ⟨t + 1, by omega, by go_num, S5, F2, OG2⟩
              case measure => simp [intOf]; omega
            · have HH := stop (Bool.eq_false_iff.2 hh)
              clear hh
              go_wp2_with fail
              refine (addNewB (aheIn bs m (gs.take t) gs[t].1) m (aheIn_newLt HH.out) (aheIn_srt _ _ _ _) w.heap.size gs[t].1 w.heap.size u _ HU.out.1 HU.out.2.1 HU.out.2.2.1 (by omega) (by rw [World.size_alloc]; omega) HU.out.2.2.2).mono ?_
              rintro e w5 ⟨rfl, u5, h5⟩
              have S5 : Sets w.heap.size w5 (.slice (some ⟨w.heap.size, 0, none⟩) bs.length bs.length) bs.length (aheIn bs m (gs.take (t + 1))) := S2.put hk HU.out.1 h5.out.2 (by rw [List.length_append]; exact h5.out.1) _ (aheIn_new htl HH.out) (fun j hj => aheIn_other htl hj)
              have F5 := stop (Put.below F2.out (Nat.le_refl _) HU.out.2.2.1 h5.out.2 (by rw [World.size_alloc]; omega))
              obtain ⟨us2, a2, _, _⟩ := S2
              have OG5 := owns_keeps OG2 (Keeps.put (T := fun e => e = 69) a2 HU.out.2.2.1 h5.out.2 (by decide) (by decide)) rfl
              clear HU h5 a2 F2 OG2
              go_wp2_with fail
              go_roundw
              case rel => exact ⟨t + 1, by omega, by go_num, S5, F5, OG5⟩
              case measure => simp [intOf]; omega
          · have hte : t = gs.length := by omega
            subst hte
            have S5 := S.congr (f' := fun k => aheTo bs k (m + 1)) (fun k _ => by rw [List.take_length]; exact (HAI.out k).symm)
            clear S OG
            go_wp2_with fail
            go_roundw
            case rel => exact ⟨m + 1, by omega, by go_num, S5, F⟩
            case measure => simp [intOf]; omega
      · obtain ⟨a1, a2⟩ := endFork hop
        rw [a1] at d3
        have hmt : ∀ w : World, (method 291 154 (.agg #[.int .i64 bs[m].e.a.1, .int .i64 bs[m].e.a.2, .int .i64 bs[m].e.one.1, .int .i64 bs[m].e.one.2, .int .i64 bs[m].e.two.1, .int .i64 bs[m].e.two.2]) "Goals").run Try.prog w = .ok (103, (.agg #[.int .i64 bs[m].e.a.1, .int .i64 bs[m].e.a.2, .int .i64 bs[m].e.one.1, .int .i64 bs[m].e.one.2, .int .i64 bs[m].e.two.1, .int .i64 bs[m].e.two.2])) w := fun w => by kernel_rfl
        have HA := stop a2
        clear a1 a2 hop
        go_wp2_with fail
        refine (gM63 bs[m].e HA.out _).mono ?_
        rintro e w2 ⟨vg, rfl, OG, f2⟩
        obtain ⟨pg, cg, rfl⟩ := owns_slice2 OG
        have hz1 : w.heap.size ≤ w2.heap.size := by have := f2.size; rw [World.size_alloc] at this; omega
        have F2 : Hid (Below w.heap.size w w2) := (F.out.alloc hz0 _).trans (f2.mono (by rw [World.size_alloc]; omega))
        have S2 := S.keeps (((Below.refl _ _).alloc (Nat.le_refl _) (.cells #[.int .i64 bs[m].at_, .slice qc bs[m].chs.length cc, .slice ps bs[m].sts.length cs1, .iface 154 (.agg #[.int .i64 bs[m].e.a.1, .int .i64 bs[m].e.a.2, .int .i64 bs[m].e.one.1, .int .i64 bs[m].e.one.2, .int .i64 bs[m].e.two.1, .int .i64 bs[m].e.two.2])] 43)).trans (f2.mono (by rw [World.size_alloc]; omega)))
        have HGL : Hid (∀ p ∈ goalsF bs[m].e, p.1 < bs.length) := hgl.out _ (List.getElem_mem hlt)
        have hg2 := goalsF_le bs[m].e
        have HAI : Hid (∀ k, aheIn bs m (goalsF bs[m].e) k = aheTo bs k (m + 1)) := aheIn_all hlt
        clear d0 d1 d2 d3 f2 hmt S F HA
        generalize hgs : goalsF bs[m].e = gs at *
        clear hgs
        go_wp2_with fail
        go_loopw [22] (fun j wz => ∃ t : Nat, t ≤ gs.length ∧ j = .int .i64 t ∧ Sets w.heap.size wz (.slice (some ⟨w.heap.size, 0, none⟩) bs.length bs.length) bs.length (aheIn bs m (gs.take t)) ∧ Hid (Below w.heap.size w wz) ∧ wz.ownsRow (wr.heap.size + 1) 69 2 (.slice pg gs.length cg) gs.length (pcs gs)) (fun j _ => gs.length - (intOf j).toNat)
        case atStart =>
          refine ⟨0, by omega, rfl, S2.congr (fun k _ => aheIn_nil bs m k), F2, ?_⟩
          rw [World.size_alloc] at OG
          exact OG
        case round =>
          clear OG S2 F2 hz1 hz0
          obtain ⟨t, ht, rfl, S, F, OG⟩ := hrel
          by_cases htl : t < gs.length
          · obtain ⟨gf, rfl, _, hgf⟩ := owns_form OG (by omega)
            have f0 := owns_cell OG (pcs_at htl).1
            have f1 := owns_cell OG (pcs_at htl).2
            have hk : gs[t].1 < bs.length := HGL.out _ (List.getElem_mem htl)
            have hz := F.out.size
            have S2 := S.keeps ((Below.refl _ _).alloc (Nat.le_refl _) (.cells #[.int .i64 gs[t].1, .int .i64 gs[t].2] 69))
            have F2 := stop (F.out.alloc hz (.cells #[.int .i64 gs[t].1, .int .i64 gs[t].2] 69))
            have OG2 := OG.alloc (.cells #[.int .i64 gs[t].1, .int .i64 gs[t].2] 69)
            obtain ⟨g9, u, e9, hb9, hc9, hf9, o9, n9⟩ := S2.at hk
            cases e9
            have hlen := aheIn_len bs m (gs.take t) gs[t].1
            have HU := stop (And.intro hc9 (And.intro hf9 (And.intro o9 n9)))
            clear hc9 hf9 o9 n9 S F OG
            by_cases hh : hasF (nums (gs.take t)) gs[t].1 = true
            · have HH := stop hh
              clear hh
              go_wp2_with fail
              refine (addOldB (aheIn bs m (gs.take t) gs[t].1) m (aheIn_oldMem HH.out) (aheIn_srt _ _ _ _) w.heap.size gs[t].1 w.heap.size u _ HU.out.1 HU.out.2.2.1 (by omega)).mono ?_
              rintro e w5 ⟨rfl, hw5⟩
              have S5 := S2.congr (fun k _ => aheIn_old htl HH.out k)
              rw [← hw5.out] at S5 F2 OG2
              clear HU S2 hw5
              go_wp2_with fail
              go_roundw
              case rel => exact ⟨t + 1, by omega, by go_num, S5, F2, OG2⟩
              case measure => simp [intOf]; omega
            · have HH := stop (Bool.eq_false_iff.2 hh)
              clear hh
              go_wp2_with fail
              refine (addNewB (aheIn bs m (gs.take t) gs[t].1) m (aheIn_newLt HH.out) (aheIn_srt _ _ _ _) w.heap.size gs[t].1 w.heap.size u _ HU.out.1 HU.out.2.1 HU.out.2.2.1 (by omega) (by rw [World.size_alloc]; omega) HU.out.2.2.2).mono ?_
              rintro e w5 ⟨rfl, u5, h5⟩
              have S5 : Sets w.heap.size w5 (.slice (some ⟨w.heap.size, 0, none⟩) bs.length bs.length) bs.length (aheIn bs m (gs.take (t + 1))) := S2.put hk HU.out.1 h5.out.2 (by rw [List.length_append]; exact h5.out.1) _ (aheIn_new htl HH.out) (fun j hj => aheIn_other htl hj)
              have F5 := stop (Put.below F2.out (Nat.le_refl _) HU.out.2.2.1 h5.out.2 (by rw [World.size_alloc]; omega))
              obtain ⟨us2, a2, _, _⟩ := S2
              have OG5 := owns_keeps OG2 (Keeps.put (T := fun e => e = 69) a2 HU.out.2.2.1 h5.out.2 (by decide) (by decide)) rfl
              clear HU h5 a2 F2 OG2
              go_wp2_with fail
              go_roundw
              case rel => exact ⟨t + 1, by omega, by go_num, S5, F5, OG5⟩
              case measure => simp [intOf]; omega
          · have hte : t = gs.length := by omega
            subst hte
            have S5 := S.congr (f' := fun k => aheTo bs k (m + 1)) (fun k _ => by rw [List.take_length]; exact (HAI.out k).symm)
            clear S OG
            go_wp2_with fail
            go_roundw
            case rel => exact ⟨m + 1, by omega, by go_num, S5, F⟩
            case measure => simp [intOf]; omega
    · have hme : m = bs.length := by omega
      subst hme
      go_wp2_with fail
      go_ret
      exact ⟨_, rfl, S, F.out⟩
end Go.Proofs.Ytjimoigbdcalpaa
