import Derived.Test.YtgfhfkgdmidhpaaGreatG19
namespace Go.Proofs.YtgfhfkgdmidhpaaGreat
open Go.RowKit

/-- The blocks behind block i, rising. -/
def suF (bs : List RBlk) (i : Nat) : List Nat := match bs[i]? with | some b => bhd b.e | none => []
theorem suF_at {bs : List RBlk} {i : Nat} (hi : i < bs.length) : suF bs i = bhd bs[i].e := by rw [suF, List.getElem?_eq_getElem hi]
theorem suF_srt (bs i) : (suF bs i).Pairwise (· < ·) := by
  unfold suF
  cases bs[i]? with
  | none => exact List.Pairwise.nil
  | some b => exact bhd_srt _
theorem suF_lt {bs : List RBlk} (h : ∀ b ∈ bs, ∀ p ∈ goalsF b.e, p.1 < bs.length) : ∀ i k, k ∈ suF bs i → k < bs.length := by
  intro i k hk
  unfold suF at hk
  cases hb : bs[i]? with
  | none => rw [hb] at hk; cases hk
  | some b =>
    rw [hb] at hk
    obtain ⟨p, hp, rfl⟩ := bhd_mem.1 hk
    exact h b (List.mem_of_getElem? hb) p hp
theorem srt_len {l : List Nat} {n : Nat} (h : l.Pairwise (· < ·)) (hl : ∀ x ∈ l, x < n) : l.length ≤ n := by
  have e : l = setL n (hasF l) := setL_of h fun x => by
    rw [hasF_iff]
    exact ⟨fun hx => ⟨hl x hx, hx⟩, fun hx => hx.2⟩
  rw [e]
  exact setL_len _ _
/-- All blocks behind some, rising. -/
def bhs (bs : List RBlk) (S : List Nat) : List Nat := ofL (S.flatMap (suF bs))
theorem bhs_srt (bs S) : (bhs bs S).Pairwise (· < ·) := ofL_srt _
theorem bhs_mem {bs S x} : x ∈ bhs bs S ↔ ∃ i ∈ S, x ∈ suF bs i := by rw [bhs, ofL_mem, List.mem_flatMap]
theorem bhs_next {bs : List RBlk} {S : List Nat} {k : Nat} (hk : k < S.length) (hb : S[k] < bs.length) : ofL (bhs bs (S.take k) ++ bhd bs[S[k]].e) = bhs bs (S.take (k + 1)) :=
  srt_ext (ofL_srt _) (ofL_srt _) fun x => by
    rw [ofL_mem, List.mem_append, bhs_mem, bhs_mem, List.take_succ_eq_append_getElem hk, ← suF_at hb]
    constructor
    · rintro (⟨i, hi, hx⟩ | hx)
      · exact ⟨i, List.mem_append.2 (.inl hi), hx⟩
      · exact ⟨S[k], List.mem_append.2 (.inr (List.mem_singleton.2 rfl)), hx⟩
    · rintro ⟨i, hi, hx⟩
      rcases List.mem_append.1 hi with hi | hi
      · exact .inl ⟨i, hi, hx⟩
      · rw [List.mem_singleton.1 hi] at hx; exact .inr hx
theorem bhs_len {bs : List RBlk} {S : List Nat} (h : ∀ b ∈ bs, ∀ p ∈ goalsF b.e, p.1 < bs.length) : (bhs bs S).length ≤ bs.length :=
  srt_len (bhs_srt _ _) fun x hx => by
    obtain ⟨i, _, hi⟩ := bhs_mem.1 hx
    exact suF_lt h i x hi

set_option maxRecDepth 100000 in
set_option maxHeartbeats 4000000 in
theorem behindP (bs : List RBlk) (S : List Nat) (base Bs : Nat) (v vs : Value) (w : World) (h : PBs w base bs v) (ho : w.ownsRow Bs 92 1 vs S.length (icell S)) (hS : Hid (∀ x ∈ S, x < bs.length)) (hgl : Hid (∀ b ∈ bs, ∀ p ∈ goalsF b.e, p.1 < bs.length)) (hn : bs.length ≤ 1000) (hl : S.length ≤ 1000) :
    Calls Tryz.prog 79 #[v, .agg #[vs]] w fun x w' => ∃ v', x = .returned (.agg #[v']) ∧ w'.ownsRow w.heap.size 92 1 v' (bhs bs S).length (icell (bhs bs S)) ∧ Below w.heap.size w w' := by
  obtain ⟨pv, cv, rfl⟩ := h.slice
  obtain ⟨po, co, rfl⟩ := owns_slice2 ho
  have HP := stop h
  have HO := stop ho
  clear h ho
  go_enter Tryz.func79, Tryz.ntmps79
  go_wp2_with fail
  obtain ⟨W3, hW3⟩ : ∃ W3, W3 = ((w.alloc (.cells #[.slice po S.length co] 86)).alloc (.cells #[.slice none 0 0] 86)).alloc (.cells #[.slice none 0 0] 86) := ⟨_, rfl⟩
  rw [← hW3]
  obtain ⟨_, g1, g2, hz, f3⟩ := three w (.cells #[.slice po S.length co] 86) (.cells #[.slice none 0 0] 86) (.cells #[.slice none 0 0] 86)
  rw [← hW3] at g1 g2 hz f3
  clear hW3
  refine (itmB S Bs _ W3 (owns_keeps HO.out (Keeps.below (T := fun _ => True) f3) trivial) (by omega)).mono ?_
  rintro r w5 ⟨vi, rfl, OI, f5⟩
  have hs5 := f5.size
  have B0 : Hid (w5.heap[w.heap.size + 1]? = some (.cells #[.slice none 0 0] 86 (0, 0)) ∧ w5.heap[w.heap.size + 1 + 1]? = some (.cells #[.slice none 0 0] 86 (0, 0)) ∧ w5.ownsRow (w.heap.size + 3) 92 1 vi S.length (icell S) ∧ Below w.heap.size w w5 ∧ w.heap.size + 3 ≤ w5.heap.size) :=
    ⟨by rw [f5.block _ (by omega)]; exact g1, by rw [f5.block _ (by omega)]; exact g2, owns_base OI (by omega), f3.trans (f5.mono (by omega)), by omega⟩
  obtain ⟨pi, ci, rfl⟩ := owns_slice2 OI
  clear g1 g2 f3 f5 hs5 hz OI
  go_wp2_with fail
  go_loopw [11] (fun i wr => ∃ (k : Nat) (va : Value), k ≤ S.length ∧ i = .int .i64 k ∧ Hid (wr.heap[w.heap.size + 1]? = some (.cells #[.slice none 0 0] 86 (0, 0)) ∧ wr.heap[w.heap.size + 1 + 1]? = some (.cells #[va] 86 (0, 0)) ∧ wr.ownsRow (w.heap.size + 3) 92 1 va (bhs bs (S.take k)).length (icell (bhs bs (S.take k))) ∧ wr.ownsRow (w.heap.size + 3) 92 1 (.slice pi S.length ci) S.length (icell S) ∧ Below w.heap.size w wr ∧ w.heap.size + 3 ≤ wr.heap.size)) (fun i _ => S.length - (intOf i).toNat)
  case atStart => exact ⟨0, _, by omega, rfl, B0.out.1, B0.out.2.1, by simpa [bhs, ofL, srtL, castL, Lib.compact, Lib.compactUpTo, icell] using World.ownsRow_nil _ _ _ _, B0.out.2.2.1, B0.out.2.2.2.1, B0.out.2.2.2.2⟩
  case round =>
    clear B0
    obtain ⟨k, va, hk, rfl, HR⟩ := hrel
    obtain ⟨r1, r2, rv, ri, rf, rz⟩ := HR.out
    by_cases hlt : k < S.length
    · obtain ⟨gi, rfl, _, hgs⟩ := owns_form ri (by omega)
      have c0 := owns_cell ri (icell_at hlt)
      have hSk := hS.out _ (List.getElem_mem hlt)
      have hPB := HP.out.keeps (Keeps.below rf)
      obtain ⟨g, qc, cc, ps, cs1, rfl, _, hgz, hop, OC, OS, d0, d1, d2, d3⟩ := hPB.at hSk
      obtain ⟨pa, ca, rfl⟩ := owns_slice2 rv
      have k2 := cell_of r2 0
      have k2f := frozen_of r2 0
      simp at k2
      have L1 : (bhs bs (S.take k)).length ≤ 1000000 := Nat.le_trans (bhs_len hgl.out) (by omega)
      have L2 : (bhd bs[S[k]].e).length ≤ 1000000 := by
        have := goalsF_le bs[S[k]].e
        have := ofL_len ((goalsF bs[S[k]].e).map (·.1))
        rw [List.length_map] at this
        rw [bhd]; omega
      have HX := stop (bhs_next hlt hSk)
      have HOP := stop hop
      obtain ⟨ev, hev⟩ : ∃ ev, ev = endVal bs[S[k]].e := ⟨_, rfl⟩
      have HZ := stop (And.intro r1 (And.intro r2 (And.intro rv (And.intro ri (And.intro rf (And.intro rz hev))))))
      rw [← hev] at d3
      obtain ⟨T, x, hT⟩ := endVal_iface bs[S[k]].e
      rw [← hev] at hT
      rw [hT] at d3
      have hTx := stop hT
      have hmb : w.heap.size + 1 + 1 < wr.heap.size := by omega
      have hgw : g < w.heap.size := by
        obtain ⟨g', _, _, _, _, e, _, hg', _⟩ := HP.out.at hSk
        cases e; exact hg'
      have hgne : ¬ (w.heap.size + 1 + 1 = g) := by omega
      clear HR r1 r2 rv ri rf hPB hop OC OS hev hT
      go_wp2_with fail
      have HB : Hid (Calls Tryz.prog 86 #[.agg #[.int .i64 bs[S[k]].at_, .slice qc bs[S[k]].chs.length cc, .slice ps bs[S[k]].sts.length cs1, .iface T x]] wr.drew fun x w' => ∃ v', x = .returned (.agg #[v']) ∧ w'.ownsRow wr.drew.heap.size 92 1 v' (bhd bs[S[k]].e).length (icell (bhd bs[S[k]].e)) ∧ Below wr.drew.heap.size wr.drew w') := by
        rw [← hTx.out, HZ.out.2.2.2.2.2.2]; exact bhdP bs[S[k]].e HOP.out bs[S[k]].at_ qc bs[S[k]].chs.length cc ps bs[S[k]].sts.length cs1 wr.drew
      go_region_law (first | (refine stepC rfl 86 #[.agg #[.int .i64 bs[S[k]].at_, .slice qc bs[S[k]].chs.length cc, .slice ps bs[S[k]].sts.length cs1, .iface T x]] (by go_simp) HB.out ?_; rintro e w6 ⟨v6, rfl, o6, f6⟩; obtain ⟨p6, c6, rfl⟩ := owns_slice2 o6; have f6' : Below wr.heap.size wr w6 := ⟨f6.os, f6.tape, f6.output, f6.size, f6.block⟩; have y4 := f6'.cell (p := ⟨w.heap.size + 1 + 1, 0, none⟩) hmb; have y5 := f6'.frozen (p := ⟨w.heap.size + 1 + 1, 0, none⟩) hmb; have l6 : w.heap.size + 1 + 1 < w6.heap.size := Nat.lt_of_lt_of_le hmb f6'.size; have O6 := stop (And.intro o6 f6'); clear o6 f6 f6') | (refine stepC rfl 114 #[.agg #[.slice pa (bhs bs (S.take k)).length ca], .agg #[.slice p6 (bhd bs[S[k]].e).length c6]] (by go_simp) (unionB (bhs bs (S.take k)) (bhd bs[S[k]].e) (w.heap.size + 3) wr.heap.size _ _ w6 (owns_keeps HZ.out.2.2.1 (Keeps.below (T := fun _ => True) O6.out.2) trivial) O6.out.1 L1 L2) ?_; rintro e w7 ⟨v7, rfl, o7, f7⟩; obtain ⟨p7, c7, rfl⟩ := owns_slice2 o7; have z4 := f7.cell (p := ⟨w.heap.size + 1 + 1, 0, none⟩) l6; have z5 := f7.frozen (p := ⟨w.heap.size + 1 + 1, 0, none⟩) l6; have O7 := stop (And.intro o7 f7); clear o7 f7) | fail)
      all_goals
        obtain ⟨r1, r2, rv, ri, rf, rz, _⟩ := HZ.out
        have hz6 := O6.out.2.size
        have hz7 := O7.out.2.size
        have f37 := O6.out.2.trans (O7.out.2.mono hz6)
        have H7 : Hid ((w7.setCell ⟨w.heap.size + 1 + 1, 0, none⟩ (.slice p7 (ofL (bhs bs (S.take k) ++ bhd bs[S[k]].e)).length c7)).heap[w.heap.size + 1]? = some (.cells #[.slice none 0 0] 86 (0, 0)) ∧ (w7.setCell ⟨w.heap.size + 1 + 1, 0, none⟩ (.slice p7 (ofL (bhs bs (S.take k) ++ bhd bs[S[k]].e)).length c7)).heap[w.heap.size + 1 + 1]? = some (.cells #[.slice p7 (ofL (bhs bs (S.take k) ++ bhd bs[S[k]].e)).length c7] 86 (0, 0)) ∧ (w7.setCell ⟨w.heap.size + 1 + 1, 0, none⟩ (.slice p7 (ofL (bhs bs (S.take k) ++ bhd bs[S[k]].e)).length c7)).ownsRow (w.heap.size + 3) 92 1 (.slice p7 (ofL (bhs bs (S.take k) ++ bhd bs[S[k]].e)).length c7) (bhs bs (S.take (k + 1))).length (icell (bhs bs (S.take (k + 1)))) ∧ (w7.setCell ⟨w.heap.size + 1 + 1, 0, none⟩ (.slice p7 (ofL (bhs bs (S.take k) ++ bhd bs[S[k]].e)).length c7)).ownsRow (w.heap.size + 3) 92 1 (.slice (some ⟨gi, 0, none⟩) S.length ci) S.length (icell S) ∧ Below w.heap.size w (w7.setCell ⟨w.heap.size + 1 + 1, 0, none⟩ (.slice p7 (ofL (bhs bs (S.take k) ++ bhd bs[S[k]].e)).length c7)) ∧ w.heap.size + 3 ≤ (w7.setCell ⟨w.heap.size + 1 + 1, 0, none⟩ (.slice p7 (ofL (bhs bs (S.take k) ++ bhd bs[S[k]].e)).length c7)).heap.size) := by
          have e1 : w7.heap[w.heap.size + 1]? = some (.cells #[.slice none 0 0] 86 (0, 0)) := by rw [f37.block _ (by omega)]; exact r1
          have e2 : w7.heap[w.heap.size + 1 + 1]? = some (.cells #[.slice pa (bhs bs (S.take k)).length ca] 86 (0, 0)) := by rw [f37.block _ (by omega)]; exact r2
          refine ⟨blk_setOther e1 (by omega) _ _, blk_set e2 _ _, ?_, ?_, ?_, by rw [size_set]; omega⟩
          · rw [← HX.out]; exact owns_base (owns_setk O7.out.1 _ 0 _ (by omega)) (by omega)
          · exact owns_setk (owns_keeps ri (Keeps.below (T := fun _ => True) f37) trivial) _ 0 _ (by omega)
          · exact below_set (rf.trans (f37.mono (by omega))) _ _ _ (by omega)
        clear r1 r2 rv ri rf rz hz6 hz7 f37 O6 O7 HZ HB
        go_wp2_with fail
        go_roundw
        case rel => exact ⟨k + 1, _, by omega, by go_num, H7⟩
        case measure => simp [intOf]; omega
    · have hke : k = S.length := by omega
      subst hke
      obtain ⟨pv2, cv2, rfl⟩ := owns_slice2 rv
      rw [List.take_length] at rv
      have k1 := cell_of r1 0
      have k1f := frozen_of r1 0
      have k2 := cell_of r2 0
      simp at k1 k2
      have F6 : Hid ((wr.setCell ⟨w.heap.size + 1, 0, none⟩ (.slice pv2 (bhs bs S).length cv2)).ownsRow w.heap.size 92 1 (.slice pv2 (bhs bs S).length cv2) (bhs bs S).length (icell (bhs bs S)) ∧ Below w.heap.size w (wr.setCell ⟨w.heap.size + 1, 0, none⟩ (.slice pv2 (bhs bs S).length cv2))) :=
        ⟨owns_base (owns_setk rv _ 0 _ (by omega)) (by omega), below_set rf _ _ _ (by omega)⟩
      clear HR r1 r2 rv ri rf
      go_wp2_with fail
      refine bodyPost_ret (v := .agg #[.slice pv2 (bhs bs S).length cv2]) (by simp [results, Tryz.results79, go_sem, k1]) rfl ⟨_, rfl, ?_, ?_⟩
      · exact F6.out.1
      · exact F6.out.2

end Go.Proofs.YtgfhfkgdmidhpaaGreat

namespace Go.Proofs.YtgfhfkgdmidhpaaGreat
open Go.RowKit

/-- One step further. -/
def stepL (bs : List RBlk) (bar S : List Nat) : List Nat := dif (ofL (S ++ bhs bs S)) bar
theorem stepL_mem {bs bar S x} : x ∈ stepL bs bar S ↔ (x ∈ S ∨ x ∈ bhs bs S) ∧ x ∉ bar := by rw [stepL, dif_mem, ofL_mem, List.mem_append]
theorem stepL_srt (bs bar S) : (stepL bs bar S).Pairwise (· < ·) := dif_srt (ofL_srt _)
theorem app_len {bs : List RBlk} {S : List Nat} (hS : ∀ x ∈ S, x < bs.length) (h : ∀ b ∈ bs, ∀ p ∈ goalsF b.e, p.1 < bs.length) : (ofL (S ++ bhs bs S)).length ≤ bs.length :=
  srt_len (ofL_srt _) fun x hx => by
    rw [ofL_mem, List.mem_append] at hx
    rcases hx with hx | hx
    · exact hS x hx
    · obtain ⟨i, _, hi⟩ := bhs_mem.1 hx
      exact suF_lt h i x hi

set_option maxRecDepth 100000 in
set_option maxHeartbeats 4000000 in
theorem stepP (bs : List RBlk) (S bar : List Nat) (base Bs Bb pb qb : Nat) (v vs vb : Value) (w : World) (h : PBs w base bs v) (ho : w.ownsRow Bs 92 1 vs S.length (icell S)) (hb : w.ownsRow Bb 92 1 vb bar.length (icell bar)) (hp : w.cell? ⟨pb, 0, none⟩ = some v) (hq : w.cell? ⟨qb, 0, none⟩ = some vb)
    (hS : Hid (∀ x ∈ S, x < bs.length)) (hsb : Hid (bar.Pairwise (· < ·))) (hgl : Hid (∀ b ∈ bs, ∀ p ∈ goalsF b.e, p.1 < bs.length)) (hn : bs.length ≤ 1000) (hl : S.length ≤ 1000) (hlb : bar.length ≤ 1000) :
    Calls Tryz.prog 113 #[.agg #[vs], .pointer (some ⟨pb, 0, none⟩), .pointer (some ⟨qb, 0, none⟩)] w fun x w' => ∃ v', x = .returned (.agg #[v']) ∧ w'.ownsRow w.heap.size 92 1 v' (stepL bs bar S).length (icell (stepL bs bar S)) ∧ Below w.heap.size w w' := by
  obtain ⟨pv, cv, rfl⟩ := h.slice
  obtain ⟨po, co, rfl⟩ := owns_slice2 ho
  obtain ⟨pr, cr, rfl⟩ := owns_slice2 hb
  have hpw : pb < w.heap.size := World.block_lt_of_cell? _ _ hp
  have hqw : qb < w.heap.size := World.block_lt_of_cell? _ _ hq
  have HP := stop (And.intro h (And.intro ho (And.intro hb (And.intro hp hq))))
  clear h ho hb hp hq
  go_enter Tryz.func113, Tryz.ntmps113
  go_wp2_with fail
  obtain ⟨W2, hW2⟩ : ∃ W2, W2 = (w.alloc (.cells #[.slice po S.length co] 86)).alloc (.cells #[.slice none 0 0] 86) := ⟨_, rfl⟩
  rw [← hW2]
  obtain ⟨g0, g1, hz, f2⟩ := two w (.cells #[.slice po S.length co] 86) (.cells #[.slice none 0 0] 86)
  rw [← hW2] at g0 g1 hz f2
  have k0 := cell_of g0 0
  have k1 := cell_of g1 0
  have k1f := frozen_of g1 0
  simp at k0 k1
  have kp : W2.cell? ⟨pb, 0, none⟩ = some (.slice pv bs.length cv) := (f2.cell (p := ⟨pb, 0, none⟩) hpw).trans HP.out.2.2.2.1
  have kq : W2.cell? ⟨qb, 0, none⟩ = some (.slice pr bar.length cr) := (f2.cell (p := ⟨qb, 0, none⟩) hqw).trans HP.out.2.2.2.2
  have l0 : w.heap.size < W2.heap.size := by omega
  have l1 : w.heap.size + 1 < W2.heap.size := by omega
  have lp : pb < W2.heap.size := by omega
  have lq : qb < W2.heap.size := by omega
  have np : ¬ (w.heap.size + 1 = pb) := by omega
  have nq : ¬ (w.heap.size + 1 = qb) := by omega
  have L1 : (bhs bs S).length ≤ 1000000 := Nat.le_trans (bhs_len hgl.out) (by omega)
  have L2 : (ofL (S ++ bhs bs S)).length ≤ 1000000 := Nat.le_trans (app_len hS.out hgl.out) (by omega)
  have L3 : S.length ≤ 1000000 := by omega
  have L4 : bar.length ≤ 1000000 := by omega
  have O2 : Hid (PBs W2.drew base bs (.slice pv bs.length cv) ∧ W2.ownsRow Bs 92 1 (.slice po S.length co) S.length (icell S) ∧ W2.ownsRow Bb 92 1 (.slice pr bar.length cr) bar.length (icell bar)) :=
    ⟨HP.out.1.keeps (w' := W2.drew) (Keeps.below (w' := W2) f2), owns_keeps HP.out.2.1 (Keeps.below (T := fun _ => True) f2) trivial, owns_keeps HP.out.2.2.1 (Keeps.below (T := fun _ => True) f2) trivial⟩
  have F2 := stop f2
  clear hW2 g0 g1 f2 HP
  go_region_held (fun w' => w'.cell? ⟨w.heap.size, 0, none⟩ = some (.slice po S.length co) ∧ w'.cell? ⟨pb, 0, none⟩ = some (.slice pv bs.length cv) ∧ w'.cell? ⟨qb, 0, none⟩ = some (.slice pr bar.length cr) ∧ w'.frozen? ⟨w.heap.size + 1, 0, none⟩ = false) (first | (simp [*]; done) | (simp [*, World.cell?_setCell_far]; done))
    (first | (go_at_call 79; refine (behindP bs S base Bs _ _ W2.drew O2.out.1 O2.out.2.1 hS hgl hn hl).mono ?_; rintro e w5 ⟨v5, rfl, o5, f5⟩; obtain ⟨p5, c5, rfl⟩ := owns_slice2 o5; have f5' : Below W2.heap.size W2 w5 := ⟨f5.os, f5.tape, f5.output, f5.size, f5.block⟩; have s5 := f5'.size; have y0 := f5'.cell (p := ⟨w.heap.size, 0, none⟩) l0; have y1 := f5'.cell (p := ⟨w.heap.size + 1, 0, none⟩) l1; have y1f := f5'.frozen (p := ⟨w.heap.size + 1, 0, none⟩) l1; have yp := f5'.cell (p := ⟨pb, 0, none⟩) lp; have yq := f5'.cell (p := ⟨qb, 0, none⟩) lq; have O5 := stop (And.intro o5 f5'); clear o5 f5 f5') | (go_at_call 114; refine (unionB S (bhs bs S) Bs W2.heap.size _ _ w5 (owns_keeps O2.out.2.1 (Keeps.below (T := fun _ => True) O5.out.2) trivial) O5.out.1 L3 L1).mono ?_; rintro e w6 ⟨v6, rfl, o6, f6⟩; obtain ⟨p6, c6, rfl⟩ := owns_slice2 o6; have s6 := f6.size; have z0 := f6.cell (p := ⟨w.heap.size, 0, none⟩) (show w.heap.size < w5.heap.size by omega); have z1 := f6.cell (p := ⟨w.heap.size + 1, 0, none⟩) (show w.heap.size + 1 < w5.heap.size by omega); have z1f := f6.frozen (p := ⟨w.heap.size + 1, 0, none⟩) (show w.heap.size + 1 < w5.heap.size by omega); have zp := f6.cell (p := ⟨pb, 0, none⟩) (show pb < w5.heap.size by omega); have zq := f6.cell (p := ⟨qb, 0, none⟩) (show qb < w5.heap.size by omega); have O6 := stop (And.intro o6 (O5.out.2.trans (f6.mono s5))); clear o6 f6) | (go_at_call 74; refine (minusB (ofL (S ++ bhs bs S)) bar w5.heap.size Bb _ _ w6 O6.out.1 (owns_keeps O2.out.2.2 (Keeps.below (T := fun _ => True) O6.out.2) trivial) hsb L2 L4).mono ?_; rintro e w7 ⟨v7, rfl, o7, f7⟩; obtain ⟨p7, c7, rfl⟩ := owns_slice2 o7; have s7 := f7.size; have x0 := f7.cell (p := ⟨w.heap.size, 0, none⟩) (show w.heap.size < w6.heap.size by omega); have x1 := f7.cell (p := ⟨w.heap.size + 1, 0, none⟩) (show w.heap.size + 1 < w6.heap.size by omega); have x1f := f7.frozen (p := ⟨w.heap.size + 1, 0, none⟩) (show w.heap.size + 1 < w6.heap.size by omega); have xp := f7.cell (p := ⟨pb, 0, none⟩) (show pb < w6.heap.size by omega); have xq := f7.cell (p := ⟨qb, 0, none⟩) (show qb < w6.heap.size by omega); have O7 := stop (And.intro o7 (O6.out.2.trans (f7.mono (by omega)))); clear o7 f7))
  all_goals
    have l7 : w.heap.size + 1 < w6.heap.size := by omega
    have F7 := stop (And.intro (owns_base (owns_setk O7.out.1 (w.heap.size + 1) 0 (.slice p7 (stepL bs bar S).length c7) l7) (show w.heap.size ≤ w6.heap.size by omega)) (below_set (F2.out.trans (O7.out.2.mono (by omega))) (w.heap.size + 1) 0 (.slice p7 (stepL bs bar S).length c7) (by omega)))
    clear O2 O5 O6 O7 F2
    go_wp2_with fail
    refine bodyPost_ret (v := .agg #[.slice p7 (stepL bs bar S).length c7]) (by simp [results, Tryz.results113, go_sem, x1, z1, y1, k1]; rfl) rfl ⟨_, rfl, ?_, ?_⟩
    · exact F7.out.1
    · exact F7.out.2

end Go.Proofs.YtgfhfkgdmidhpaaGreat
