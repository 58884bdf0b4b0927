import Derived.Test.YtgfhfkgdmidhpaaGreatMJ
namespace Go.Proofs.YtgfhfkgdmidhpaaGreat
open Go.RowKit

theorem Tryz.info100 : (Tryz.prog.info? 100).map (fun i => (i.zero, i.size, i.bytes)) = some (some (.agg #[.slice none 0 0]), 1, 24) := by kernel_rfl
theorem Tryz.info152 : (Tryz.prog.info? 152).map (fun i => (i.zero, i.size, i.bytes)) = some (some (.agg #[.slice none 0 0, .slice none 0 0]), 2, 48) := by kernel_rfl
theorem owns_storeS {w : World} {base e size g n cap : Nat} {xs : List Value} (h : w.ownsRow base e size (.slice (some ⟨g, 0, none⟩) n cap) n xs) (j : Nat) (x : Value) : (w.setCell ⟨g, j, none⟩ x).ownsRow base e size (.slice (some ⟨g, 0, none⟩) n cap) n (xs.set j x) := by
  obtain ⟨h1, h2⟩ := h
  refine ⟨by simpa using h1, ?_⟩
  rcases h2 with ⟨h0, _⟩ | ⟨g', cap', cur, hv, a, c, d, e1, e2, e3⟩
  · cases h0
  · cases hv
    refine .inr ⟨g, cap, cur.setIfInBounds j x, rfl, a, blk_set c j x, d, e1, by simpa using e2, ?_⟩
    rw [Array.toList_setIfInBounds, ← e3, List.take_set]
/-- The effects of blocks, as far as they are found. -/
def EffQ (base : Nat) (w : World) (v : Value) (bs : List RBlk) (m : Nat) : Prop :=
  ∃ us : List (Value × Value), w.ownsRow base 152 2 v bs.length (us.flatMap fun p => [p.1, p.2]) ∧ us.length = bs.length ∧ ∀ (k : Nat) (p : Value × Value), us[k]? = some p → k < m → w.ownsRow base 56 1 p.1 (rdB (bkF bs k)).length (icell (rdB (bkF bs k))) ∧ w.ownsRow base 56 1 p.2 (gvB (bkF bs k)).length (icell (gvB (bkF bs k)))
theorem EffQ.slice {base w v bs m} (h : EffQ base w v bs m) : ∃ p c, v = .slice p bs.length c := by obtain ⟨us, a, _⟩ := h; exact owns_slice2 a
theorem EffQ.keeps {base : Nat} {w w' : World} {v : Value} {bs : List RBlk} {m : Nat} (h : EffQ base w v bs m) (k : Below w.heap.size w w') : EffQ base w' v bs m := by
  obtain ⟨us, a, l, b⟩ := h
  exact ⟨us, owns_keeps a (Keeps.below (T := fun _ => True) k) trivial, l, fun j u hu hj => ⟨owns_keeps (b j u hu hj).1 (Keeps.below (T := fun _ => True) k) trivial, owns_keeps (b j u hu hj).2 (Keeps.below (T := fun _ => True) k) trivial⟩⟩
theorem EffQ.at {base : Nat} {w : World} {p : Option Addr} {c m : Nat} {bs : List RBlk} (h : EffQ base w (.slice p bs.length c) bs m) {k : Nat} (hk : k < bs.length) (hkm : k < m) :
    ∃ g u1 u2, p = some ⟨g, 0, none⟩ ∧ base ≤ g ∧ g < w.heap.size ∧ w.cell? ⟨g, k * 2, none⟩ = some u1 ∧ w.cell? ⟨g, k * 2 + 1, none⟩ = some u2 ∧ w.ownsRow base 56 1 u1 (rdB (bkF bs k)).length (icell (rdB (bkF bs k))) ∧ w.ownsRow base 56 1 u2 (gvB (bkF bs k)).length (icell (gvB (bkF bs k))) := by
  obtain ⟨us, a, l, b⟩ := h
  obtain ⟨g, rfl, hb, hg⟩ := owns_form a (by omega)
  have hu : us[k]? = some us[k] := List.getElem?_eq_getElem (by omega)
  have F := fun j hj => flat_get 2 (us.map fun p => [p.1, p.2]) k j [us[k].1, us[k].2] (fun x hx => by obtain ⟨y, _, rfl⟩ := List.mem_map.1 hx; rfl) (by rw [List.getElem?_map, hu]; rfl) hj
  rw [List.flatMap_def] at a
  exact ⟨g, us[k].1, us[k].2, rfl, hb, hg, owns_cell a (F 0 (by omega)), owns_cell a (F 1 (by omega)), (b k _ hu hkm).1, (b k _ hu hkm).2⟩

set_option maxRecDepth 100000 in
set_option maxHeartbeats 2000000 in
theorem stepMP (bs : List RBlk) (X : Nat → List Nat) (base B Be pb qb lb pb2 : Nat) (v ve vf : Value) (w : World) (hP : PBs w base bs v) (hE : EffQ Be w ve bs bs.length) (hX : SetQ B w vf bs.length X) (hp : w.cell? ⟨pb, 0, none⟩ = some v) (hp2 : w.cell? ⟨pb2, 0, none⟩ = some v) (hq : w.cell? ⟨qb, 0, none⟩ = some ve) (hlt0 : w.cell? ⟨lb, 0, none⟩ = some (.func (.func 52) #[] #[.pointer (some ⟨pb2, 0, none⟩)]))
    (hgl : Hid (∀ b ∈ bs, ∀ p ∈ goalsF b.e, p.1 < bs.length)) (hf : Hid (∀ b ∈ bs, BFine 1000000 b)) (hri : Hid (∀ b ∈ bs, ∀ c ∈ b.chs, (c.gs.map (·.1)).Pairwise (· < ·))) (hg2 : Hid (∀ b ∈ bs, ∀ c ∈ b.chs, c.gs.length ≤ 1000)) (hXs : Hid (∀ k, SM (X k))) (hn0 : 0 < bs.length) (hn : bs.length ≤ 1000) :
    Calls Tryz.prog 83 #[vf, .pointer (some ⟨pb, 0, none⟩), .pointer (some ⟨qb, 0, none⟩), .pointer (some ⟨lb, 0, none⟩)] w fun x w' => ∃ v', x = .returned v' ∧ Hid (SetQ w.heap.size w' v' bs.length (mstep bs X) ∧ Below w.heap.size w w') := by
  obtain ⟨pv, cv, rfl⟩ := hP.slice
  obtain ⟨pe, ce, rfl⟩ := hE.slice
  obtain ⟨pf, cf, rfl⟩ := hX.slice
  have hqw : qb < w.heap.size := World.block_lt_of_cell? _ _ hq
  have hlw : lb < w.heap.size := World.block_lt_of_cell? _ _ hlt0
  have hp2w : pb2 < w.heap.size := World.block_lt_of_cell? _ _ hp2
  have H0 := stop (And.intro hP (And.intro hE (And.intro hX (And.intro hp2 (And.intro hq hlt0)))))
  obtain ⟨I9, Hi9, Hz9, Hs9, Hb9⟩ := info_parts Tryz.info100
  have HI := stop (And.intro Hi9 (And.intro Hz9 (And.intro Hs9 Hb9)))
  clear hP hE hX hp2 hq hlt0 Hi9 Hz9 Hs9 Hb9
  go_enter Tryz.func83, Tryz.ntmps83
  go_wp2_with (at_make; refine unstop ?_)
  refine stop ?_
  refine wpList_make_full _ rfl _ _ 103 rfl w.heap.size 100 I9 (.agg #[.slice none 0 0]) 1 Tryz.underlying103 HI.out.1 HI.out.2.1 HI.out.2.2.1 .i64 .i64 _ _ bs.length rfl rfl rfl rfl (by rw [HI.out.2.2.2]; omega) (by unfold maxLen; omega) (Nat.le_refl _) ?_
  intro w3 o3 gr3
  have f3 : Below w.heap.size w w3 := Below.grown (Below.refl _ _) gr3 (Nat.le_refl _) (fun k hk => by cases hk)
  have S3 : SetQ w.heap.size w3 (.slice (some ⟨w.heap.size, 0, none⟩) bs.length bs.length) bs.length (fun k => if k < 0 then mstep bs X k else []) := by
    refine ⟨_, o3, fun k u hu => ?_⟩
    rw [made_set] at hu
    obtain ⟨_, rfl⟩ := get_rep hu
    exact World.ownsRow_nil _ _ _ _
  have B0 := stop (And.intro S3 f3)
  have y1 := (f3.cell (p := ⟨qb, 0, none⟩) hqw).trans H0.out.2.2.2.2.1
  clear o3 gr3 f3 S3 HI
  go_wp2_with fail
  clear y1
  go_loopw [14] (fun j wr => ∃ m : Nat, m ≤ bs.length ∧ j = .int .i64 m ∧ Hid (SetQ w.heap.size wr (.slice (some ⟨w.heap.size, 0, none⟩) bs.length bs.length) bs.length (fun k => if k < m then mstep bs X k else []) ∧ Below w.heap.size w wr)) (fun j _ => bs.length - (intOf j).toNat)
  case atStart => exact ⟨0, by omega, rfl, B0⟩
  case round =>
    clear B0
    obtain ⟨m, hm, rfl, HR⟩ := hrel
    have hz := HR.out.2.size
    by_cases hlt : m < bs.length
    · obtain ⟨ge, u1, u2, rfl, _, hge, ce1, ce2, oe1, oe2⟩ := (H0.out.2.1.keeps HR.out.2).at hlt hlt
      obtain ⟨q1, d1, rfl⟩ := owns_slice2 oe1
      obtain ⟨q2, d2, rfl⟩ := owns_slice2 oe2
      obtain ⟨gN, _, eN, _, hgN, _, _, _⟩ := HR.out.1.at hlt
      cases eN
      have OE := stop (And.intro oe1 oe2)
      clear oe1 oe2
      go_wp2_with fail
      obtain ⟨W, hW⟩ : ∃ W, W = wr.alloc (.cells #[.slice q1 (rdB (bkF bs m)).length d1, .slice q2 (gvB (bkF bs m)).length d2] 152) := ⟨_, rfl⟩
      rw [← hW]
      have gW : W.heap[wr.heap.size]? = some (.cells #[.slice q1 (rdB (bkF bs m)).length d1, .slice q2 (gvB (bkF bs m)).length d2] 152 (0, 0)) := by rw [hW]; exact heap_alloc_last _ _
      have fW : Below wr.heap.size wr W := by rw [hW]; exact (Below.refl _ _).alloc (Nat.le_refl _) _
      have sW : W.heap.size = wr.heap.size + 1 := by rw [hW, World.size_alloc]
      have F := HR.out.2.trans (fW.mono hz)
      have k1 := cell_of gW 0
      have k2 := cell_of gW 1
      simp at k1 k2
      have kl := (F.cell (p := ⟨lb, 0, none⟩) hlw).trans H0.out.2.2.2.2.2
      have HL : Hid (Calls Tryz.prog 52 #[.int .i64 m, .slice pf bs.length cf, .pointer (some ⟨pb2, 0, none⟩)] W.drew fun x w' => ∃ v', x = .returned (.agg #[v']) ∧ Hid (w'.ownsRow W.drew.heap.size 56 1 v' (atL bs X m).length (icell (atL bs X m)) ∧ Below W.drew.heap.size W.drew w')) :=
        laterP bs X m base B pb2 _ _ W.drew (H0.out.1.keeps (w' := W.drew) (Keeps.below (w' := W) F)) (H0.out.2.2.1.keeps (w' := W.drew) ⟨F.os, F.tape, F.output, F.size, F.block⟩) hgl hf hri hg2 hXs hlt ((F.cell (p := ⟨pb2, 0, none⟩) hp2w).trans H0.out.2.2.2.1)
      have OW : Hid (W.ownsRow Be 56 1 (.slice q1 (rdB (bkF bs m)).length d1) (rdB (bkF bs m)).length (icell (rdB (bkF bs m))) ∧ W.ownsRow Be 56 1 (.slice q2 (gvB (bkF bs m)).length d2) (gvB (bkF bs m)).length (icell (gvB (bkF bs m)))) := ⟨owns_keeps OE.out.1 (Keeps.below (T := fun _ => True) fW) trivial, owns_keeps OE.out.2 (Keeps.below (T := fun _ => True) fW) trivial⟩
      have SW := stop (HR.out.1.keeps fW)
      have FW := stop F
      have l1 : wr.heap.size < W.heap.size := by omega
      have hfm := bkF_fine hf.out m
      have L1 : (rdB (bkF bs m)).length ≤ 10000 := (SM.of fun _ hx => rdLs_lt hfm.e hfm.st hx).len
      have L2 : (gvB (bkF bs m)).length ≤ 10000 := by have := (gvTo_sm hfm (bkF bs m).sts.length).len; rwa [gvTo_all] at this
      have HG2 : Hid ((gvB (bkF bs m)).Pairwise (· < ·)) := ofL_srt _
      have hAS : SM (atL bs X m) := by have := aeTo_sm hf.out hXs.out m (suF bs m) (suF bs m).length; rwa [aeTo_all] at this
      have L3 := hAS.len
      have L4 := (dif_sm hAS (gvB (bkF bs m))).len
      clear hW gW fW F HR OE ce1 ce2 hfm hAS
      go_region_law (first | (refine stepC rfl 52 #[.int .i64 m, .slice pf bs.length cf, .pointer (some ⟨pb2, 0, none⟩)] (by go_simp) HL.out ?_; rintro e w6 ⟨v6, rfl, H6⟩; obtain ⟨p6, c6, rfl⟩ := owns_slice2 H6.out.1; have f6 : Below W.heap.size W w6 := ⟨H6.out.2.os, H6.out.2.tape, H6.out.2.output, H6.out.2.size, H6.out.2.block⟩; have s6 := f6.size; have y1 := f6.cell (p := ⟨wr.heap.size, 0, none⟩) l1; have y2 := f6.cell (p := ⟨wr.heap.size, 1, none⟩) l1; have O6 := stop (And.intro H6.out.1 f6); clear H6 f6) | (refine stepC rfl 85 #[.agg #[.slice p6 (atL bs X m).length c6], .agg #[.slice q2 (gvB (bkF bs m)).length d2]] (by go_simp) (minusR (atL bs X m) (gvB (bkF bs m)) W.heap.size Be _ _ w6 O6.out.1 (owns_keeps OW.out.2 (Keeps.below (T := fun _ => True) O6.out.2) trivial) HG2 (by omega) (by omega)) ?_; rintro e w7 ⟨v7, rfl, o7, f7⟩; obtain ⟨p7, c7, rfl⟩ := owns_slice2 o7; have s7 := f7.size; have z1 := f7.cell (p := ⟨wr.heap.size, 0, none⟩) (show wr.heap.size < w6.heap.size by omega); have O7 := stop (And.intro o7 (O6.out.2.trans (f7.mono s6))); clear o7 f7) | (refine stepC rfl 84 #[.agg #[.slice q1 (rdB (bkF bs m)).length d1], .agg #[.slice p7 (dif (atL bs X m) (gvB (bkF bs m))).length c7]] (by go_simp) (unionR (rdB (bkF bs m)) (dif (atL bs X m) (gvB (bkF bs m))) Be w6.heap.size _ _ w7 (owns_keeps OW.out.1 (Keeps.below (T := fun _ => True) O7.out.2) trivial) O7.out.1 (by omega) (by omega)) ?_; rintro e w8 ⟨v8, rfl, o8, f8⟩; obtain ⟨p8, c8, rfl⟩ := owns_slice2 o8; have s8 := f8.size; have O8 := stop (And.intro o8 (O7.out.2.trans (f8.mono (by omega)))); have S8 := stop (SW.out.keeps O8.out.2); obtain ⟨gN8, uN8, eN8, _, _, cN8, cN8f, _⟩ := S8.out.at hlt; cases eN8; clear o8 f8) | fail)
      all_goals
        have HR2 : Hid (SetQ w.heap.size (w8.setCell ⟨w.heap.size, m, none⟩ (.slice p8 (ofL (rdB (bkF bs m) ++ dif (atL bs X m) (gvB (bkF bs m)))).length c8)) (.slice (some ⟨w.heap.size, 0, none⟩) bs.length bs.length) bs.length (fun k => if k < m + 1 then mstep bs X k else []) ∧ Below w.heap.size w (w8.setCell ⟨w.heap.size, m, none⟩ (.slice p8 (ofL (rdB (bkF bs m) ++ dif (atL bs X m) (gvB (bkF bs m)))).length c8))) := by
          have S := SetQ.store S8.out (k := m) (owns_base O8.out.1 (show w.heap.size ≤ w7.heap.size by omega))
          refine ⟨S.congr fun k hk => ?_, below_set (FW.out.trans (O8.out.2.mono (by omega))) _ _ _ (Nat.le_refl _)⟩
          by_cases hkm : k = m
          · rw [if_pos (by omega), if_pos hkm, hkm]; rfl
          · rw [if_neg hkm]
            by_cases h2 : k < m
            · rw [if_pos (by omega), if_pos h2]
            · rw [if_neg (by omega), if_neg h2]
        clear O6 O7 O8 S8 SW HL OW
        go_wp2_with fail
        go_roundw
        case rel => exact ⟨m + 1, by omega, by go_num, HR2⟩
        case measure => simp [intOf]; omega
    · have hme : m = bs.length := by omega
      have HR3 : Hid (SetQ w.heap.size wr (.slice (some ⟨w.heap.size, 0, none⟩) bs.length bs.length) bs.length (mstep bs X) ∧ Below w.heap.size w wr) := ⟨HR.out.1.congr fun k hk => by rw [if_pos (by omega)], HR.out.2⟩
      go_wp2_with fail
      go_ret
      exact ⟨_, rfl, HR3⟩

end Go.Proofs.YtgfhfkgdmidhpaaGreat
