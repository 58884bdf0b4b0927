import Derived.Test.YtgfhfkgdmidhpaaGreatG21
namespace Go.Proofs.YtgfhfkgdmidhpaaGreat
open Go.RowKit

/-- A row of sets, to be read. -/
def SetR (base : Nat) (w : World) (v : Value) (n : Nat) (f : Nat → List Nat) : Prop :=
  ∃ us : List Value, w.ownsRow base 86 1 v n us ∧ ∀ (k : Nat) (u : Value), us[k]? = some u → w.ownsRow base 92 1 u (f k).length (icell (f k))
theorem SetR.slice {base w v n f} (h : SetR base w v n f) : ∃ p c, v = .slice p n c := by obtain ⟨us, a, _⟩ := h; exact owns_slice2 a
theorem SetR.keeps {base : Nat} {w w' : World} {v : Value} {n : Nat} {f : Nat → List Nat} (h : SetR base w v n f) (k : Below w.heap.size w w') : SetR base w' v n f := by
  obtain ⟨us, a, b⟩ := h
  exact ⟨us, owns_keeps a (Keeps.below (T := fun _ => True) k) trivial, fun j u hu => owns_keeps (b j u hu) (Keeps.below (T := fun _ => True) k) trivial⟩
theorem SetR.base {base base' : Nat} {w : World} {v : Value} {n : Nat} {f : Nat → List Nat} (h : SetR base w v n f) (hb : base' ≤ base) : SetR base' w v n f := by
  obtain ⟨us, a, b⟩ := h
  exact ⟨us, owns_base a hb, fun j u hu => owns_base (b j u hu) hb⟩
theorem SetR.congr {base : Nat} {w : World} {v : Value} {n : Nat} {f f' : Nat → List Nat} (h : SetR base w v n f) (e : ∀ k, k < n → f' k = f k) : SetR base w v n f' := by
  obtain ⟨us, a, b⟩ := h
  have hl : us.length = n := by have := a.1; omega
  refine ⟨us, a, fun j u hu => ?_⟩
  have hj : j < n := by
    rcases Nat.lt_or_ge j us.length with h | h
    · omega
    · rw [List.getElem?_eq_none h] at hu; cases hu
  rw [e j hj]; exact b j u hu
theorem SetR.at {base : Nat} {w : World} {p : Option Addr} {c n : Nat} {f : Nat → List Nat} (h : SetR base w (.slice p n c) n f) {k : Nat} (hk : k < n) :
    ∃ g u, p = some ⟨g, 0, none⟩ ∧ base ≤ g ∧ g < w.heap.size ∧ w.cell? ⟨g, k, none⟩ = some u ∧ w.frozen? ⟨g, k, none⟩ = false ∧ w.ownsRow base 92 1 u (f k).length (icell (f k)) := by
  obtain ⟨us, a, b⟩ := h
  obtain ⟨g, rfl, hb, hg⟩ := owns_form a (by omega)
  have hl : us.length = n := by have := a.1; omega
  have hu : us[k]? = some us[k] := List.getElem?_eq_getElem (by omega)
  exact ⟨g, us[k], rfl, hb, hg, owns_cell a hu, owns_fz a k, b k _ hu⟩
theorem SetR.store {base : Nat} {w : World} {g c n : Nat} {f : Nat → List Nat} (h : SetR base w (.slice (some ⟨g, 0, none⟩) n c) n f) {k : Nat} {u : Value} {l : List Nat} (o : w.ownsRow base 92 1 u l.length (icell l)) :
    SetR base (w.setCell ⟨g, k, none⟩ u) (.slice (some ⟨g, 0, none⟩) n c) n (fun j => if j = k then l else f j) := by
  obtain ⟨us, a, b⟩ := h
  have hb : ∃ cs fz, w.heap[g]? = some (.cells cs 86 fz) := by
    rcases a.2 with ⟨h0, _⟩ | ⟨g', cap', cur', hv, _, hc', _⟩
    · cases h0
    · cases hv; exact ⟨_, _, hc'⟩
  obtain ⟨cs, fz, hg⟩ := hb
  refine ⟨us.set k u, owns_store a k u, fun j x hx => ?_⟩
  rw [List.getElem?_set] at hx
  by_cases hj : k = j
  · subst hj
    rw [if_pos rfl] at hx
    split at hx
    · cases hx
      show (w.setCell _ u).ownsRow base 92 1 u (if k = k then l else f k).length (icell (if k = k then l else f k))
      rw [if_pos rfl]
      exact owns_setT o hg (by decide)
    · cases hx
  · rw [if_neg hj] at hx
    show (w.setCell _ u).ownsRow base 92 1 x (if j = k then l else f j).length (icell (if j = k then l else f j))
    rw [if_neg (fun e : j = k => hj e.symm)]
    exact owns_setT (b j x hx) hg (by decide)
theorem hasF_nil : hasF [] = noB := by funext j; rfl
theorem hasF_one (i : Nat) : hasF [i] = isB i := by funext j; rw [Bool.eq_iff_iff, hasF_iff, isB]; simp
/-- The blocks that one is over, as a set. -/
def undL (bs : List RBlk) (i : Nat) : List Nat := setL bs.length (overF (suF bs) bs.length i)
def allL (bs : List RBlk) : List Nat := setL bs.length (rchF (suF bs) bs.length noB)
theorem undL_dif (bs : List RBlk) (i : Nat) : dif (allL bs) (setL bs.length (rchF (suF bs) bs.length (isB i))) = undL bs i := by
  refine setL_of (dif_srt (setL_srt _ _)) fun x => ?_
  rw [dif_mem, allL, setL_mem, setL_mem, overF, Bool.and_eq_true]
  constructor
  · rintro ⟨⟨a, b⟩, c⟩
    refine ⟨a, b, ?_⟩
    cases h : rchF (suF bs) bs.length (isB i) x with
    | false => rfl
    | true => exact absurd ⟨a, h⟩ c
  · rintro ⟨a, b, c⟩
    exact ⟨⟨a, b⟩, fun h => by rw [h.2] at c; cases c⟩

set_option maxRecDepth 100000 in
set_option maxHeartbeats 4000000 in
theorem pathsP (bs : List RBlk) (base : Nat) (v : Value) (w : World) (h : PBs w base bs v) (hgl : Hid (∀ b ∈ bs, ∀ p ∈ goalsF b.e, p.1 < bs.length)) (hn0 : 0 < bs.length) (hn : bs.length ≤ 1000) :
    Calls Tryz.prog 43 #[v] w fun x w' => ∃ va vu, x = .returned (.agg #[v, va, vu]) ∧ w'.ownsRow w.heap.size 92 1 va (allL bs).length (icell (allL bs)) ∧ SetR w.heap.size w' vu bs.length (undL bs) ∧ Below w.heap.size w w' := by
  obtain ⟨pv, cv, rfl⟩ := h.slice
  have HP := stop h
  clear h
  obtain ⟨I9, Hi9, Hz9, Hs9, Hb9⟩ := info_parts Tryz.info86
  have HI := stop (And.intro Hi9 (And.intro Hz9 (And.intro Hs9 Hb9)))
  clear Hi9 Hz9 Hs9 Hb9
  go_enter Tryz.func43, Tryz.ntmps43
  go_wp2_with fail
  have f0 : Below w.heap.size w (w.alloc (.cells #[.slice none 0 0, .slice none 0 0, .slice none 0 0] 89)) := (Below.refl _ _).alloc (Nat.le_refl _) _
  refine (reachedP bs [] base 0 _ _ _ (HP.out.keeps (Keeps.below f0)) (World.ownsRow_nil _ _ _ _) List.Pairwise.nil hgl hn0 hn (by simp)).mono ?_
  rintro e w1 ⟨va, rfl, o1, f1⟩
  rw [hasF_nil] at o1
  replace o1 : w1.ownsRow _ 92 1 va (allL bs).length (icell (allL bs)) := o1
  obtain ⟨pa, ca, rfl⟩ := owns_slice2 o1
  have s1 := f1.size
  rw [World.size_alloc] at s1
  have q0 : w1.heap[w.heap.size]? = some (.cells #[.slice none 0 0, .slice none 0 0, .slice none 0 0] 89 (0, 0)) := by rw [f1.block _ (by rw [World.size_alloc]; omega)]; exact heap_alloc_last _ _
  have O1 := stop (And.intro o1 (And.intro f1 (And.intro f0 q0)))
  clear o1 f1 f0 q0
  go_wp2_with (at_make; refine unstop ?_)
  refine stop ?_
  obtain ⟨W2, hW2⟩ : ∃ W2, W2 = w1.alloc (.cells #[.slice pa (allL bs).length ca] 86) := ⟨_, rfl⟩
  rw [← hW2]
  have g2 : W2.heap[w1.heap.size]? = some (.cells #[.slice pa (allL bs).length ca] 86 (0, 0)) := by rw [hW2]; exact heap_alloc_last _ _
  have f2 : Below w1.heap.size w1 W2 := by rw [hW2]; exact (Below.refl _ _).alloc (Nat.le_refl _) _
  have s2 : W2.heap.size = w1.heap.size + 1 := by rw [hW2, World.size_alloc]
  refine wpList_make_full _ rfl _ _ 87 rfl (w.heap.size + 1) 86 I9 (.agg #[.slice none 0 0]) 1 Tryz.underlying87 HI.out.1 HI.out.2.1 HI.out.2.2.1 .i64 .i64 _ _ bs.length rfl rfl rfl rfl (by rw [HI.out.2.2.2]; omega) (by unfold maxLen; omega) (by omega) ?_
  intro w3 o3 gr3
  rw [s2] at o3 ⊢
  have f3 : Below W2.heap.size W2 w3 := Below.grown (Below.refl _ _) gr3 (Nat.le_refl _) (fun k hk => by cases hk)
  have S3 : SetR (w.heap.size + 1) w3 (.slice (some ⟨w1.heap.size + 1, 0, none⟩) bs.length bs.length) bs.length (fun k => if k < 0 then undL bs k else []) := by
    refine ⟨_, o3, fun k u hu => ?_⟩
    rw [made_set] at hu
    obtain ⟨_, rfl⟩ := get_rep hu
    exact World.ownsRow_nil _ _ _ _
  obtain ⟨o1, f1, f0, q0⟩ := O1.out
  have s3 := f3.size
  have fw1 := f0.trans (f1.mono (by rw [World.size_alloc]; omega))
  have B0 : Hid (w3.heap[w.heap.size]? = some (.cells #[.slice none 0 0, .slice none 0 0, .slice none 0 0] 89 (0, 0)) ∧ w3.heap[w1.heap.size]? = some (.cells #[.slice pa (allL bs).length ca] 86 (0, 0)) ∧ w3.ownsRow (w.heap.size + 1) 92 1 (.slice pa (allL bs).length ca) (allL bs).length (icell (allL bs)) ∧ SetR (w.heap.size + 1) w3 (.slice (some ⟨w1.heap.size + 1, 0, none⟩) bs.length bs.length) bs.length (fun k => if k < 0 then undL bs k else []) ∧ Below w.heap.size w w3 ∧ w1.heap.size + 1 < w3.heap.size) := by
    have f13 := f2.trans (f3.mono (by omega))
    refine ⟨by rw [f13.block _ (by omega)]; exact q0, by rw [f3.block _ (by omega)]; exact g2, ?_, S3, fw1.trans (f13.mono (by omega)), ?_⟩
    · exact owns_base (owns_keeps o1 (Keeps.below (T := fun _ => True) f13) trivial) (by rw [World.size_alloc]; omega)
    · obtain ⟨g9, _, e9, _, l9, _⟩ := S3.at hn0
      cases e9; exact l9
  clear hW2 g2 f2 s2 o3 gr3 f3 S3 o1 f1 f0 q0 s3 fw1 O1 HI
  go_wp2_with fail
  go_loopw [14] (fun i wr => ∃ m : Nat, m ≤ bs.length ∧ i = .int .i64 m ∧ Hid (wr.heap[w.heap.size]? = some (.cells #[.slice none 0 0, .slice none 0 0, .slice none 0 0] 89 (0, 0)) ∧ wr.heap[w1.heap.size]? = some (.cells #[.slice pa (allL bs).length ca] 86 (0, 0)) ∧ wr.ownsRow (w.heap.size + 1) 92 1 (.slice pa (allL bs).length ca) (allL bs).length (icell (allL bs)) ∧ SetR (w.heap.size + 1) wr (.slice (some ⟨w1.heap.size + 1, 0, none⟩) bs.length bs.length) bs.length (fun k => if k < m then undL bs k else []) ∧ Below w.heap.size w wr ∧ w1.heap.size + 1 < wr.heap.size)) (fun i _ => bs.length - (intOf i).toNat)
  case atStart => exact ⟨0, by omega, rfl, B0⟩
  case round =>
    clear B0
    obtain ⟨m, hm, rfl, HR⟩ := hrel
    obtain ⟨r0, r1, rv, rs, rf, rz⟩ := HR.out
    by_cases hlt : m < bs.length
    · have k1 := cell_of r1 0
      simp at k1
      obtain ⟨gu, uu, eu, hub, hul, hcu, hfu, _⟩ := rs.at hlt
      cases eu
      have LA : (allL bs).length ≤ 1000000 := Nat.le_trans (setL_len _ _) (by omega)
      have l1 : w1.heap.size < wr.heap.size := by omega
      have ne1 : ¬ (w1.heap.size + 1 = w1.heap.size) := by omega
      have PB := stop (HP.out.keeps (Keeps.below rf))
      have lu : w1.heap.size + 1 < wr.heap.size := rz
      have hal : ∀ o, (wr.alloc o).cell? ⟨w1.heap.size, 0, none⟩ = some (.slice pa (allL bs).length ca) := fun o => by have := cell_of (blk_alloc r1 o) 0; simpa using this
      have hbu : ∃ cs fz, wr.heap[w1.heap.size + 1]? = some (.cells cs 86 fz) := by
        obtain ⟨us, a, _⟩ := rs
        rcases a.2 with ⟨h0, _⟩ | ⟨g', cap', cur', hv, _, hc', _⟩
        · cases h0
        · cases hv; exact ⟨_, _, hc'⟩
      have hfal : ∀ o, (wr.alloc o).frozen? ⟨w1.heap.size + 1, m, none⟩ = false := fun o => by
        rw [World.frozen?_of_block (w := wr) (by show (wr.alloc o).heap[w1.heap.size + 1]? = _; exact Below.heap_alloc wr o _ lu)]; exact hfu
      have hcal : ∀ o, (wr.alloc o).cell? ⟨w1.heap.size + 1, m, none⟩ = some uu := fun o => by
        rw [World.cell?_of_block (w := wr) (by show (wr.alloc o).heap[w1.heap.size + 1]? = _; exact Below.heap_alloc wr o _ lu)]; exact hcu
      have H4 : Hid ((wr.alloc (.cells #[.int .i64 m] 92)).drew.ownsRow wr.heap.size 92 1 (.slice (some ⟨wr.heap.size, 0, none⟩) 1 1) ([m] : List Nat).length (icell [m])) := owns_new wr wr.heap.size 92 1 1 #[.int .i64 m] (Nat.le_refl _) rfl (by decide)
      have F4 : Hid (∀ w5, Below (wr.alloc (.cells #[.int .i64 m] 92)).drew.heap.size (wr.alloc (.cells #[.int .i64 m] 92)).drew w5 → Below wr.heap.size wr w5) := fun w5 f => by
        have f' := ((Below.refl wr.heap.size wr).alloc (Nat.le_refl _) (.cells #[.int .i64 m] 92))
        have f'' : Below wr.heap.size wr (wr.alloc (.cells #[.int .i64 m] 92)).drew := ⟨f'.os, f'.tape, f'.output, f'.size, f'.block⟩
        exact f''.trans (f.mono (by show wr.heap.size ≤ (wr.alloc _).heap.size; rw [World.size_alloc]; exact Nat.le_succ _))
      have LM : (setL bs.length (rchF (suF bs) bs.length (isB m))).length ≤ 1000000 := Nat.le_trans (setL_len _ _) (by omega)
      have HSM := stop (setL_srt bs.length (rchF (suF bs) bs.length (isB m)))
      have HBU := stop hbu
      clear r0 r1 rv rs rf hbu
      go_wp2_with fail
      go_region_held (fun w' => w'.cell? ⟨w1.heap.size, 0, none⟩ = some (.slice pa (allL bs).length ca) ∧ w'.frozen? ⟨w1.heap.size + 1, m, none⟩ = false) (simp [*, World.cell?_setCell_far])
        (first | (go_at_call 75; refine (ofB [m] wr.heap.size _ _ H4.out (by simp)).mono ?_; rintro e w5 ⟨v5, rfl, o5, f5⟩; rw [ofL_one] at o5; obtain ⟨p5, c5, rfl⟩ := owns_slice2 o5; have f5' := F4.out _ f5; have s5 := f5'.size; have y1 := f5'.cell (p := ⟨w1.heap.size, 0, none⟩) l1; have yf := f5'.frozen (p := ⟨w1.heap.size + 1, m, none⟩) lu; have yc := f5'.cell (p := ⟨w1.heap.size + 1, m, none⟩) lu; have O5 := stop (And.intro o5 f5'); clear o5 f5 f5') | (go_at_call 73; refine (reachedP bs [m] base _ _ _ w5 (PB.out.keeps (Keeps.below O5.out.2)) O5.out.1 (List.pairwise_singleton _ _) hgl hn0 hn (by simp)).mono ?_; rintro e w6 ⟨v6, rfl, o6, f6⟩; rw [hasF_one] at o6; obtain ⟨p6, c6, rfl⟩ := owns_slice2 o6; have s6 := f6.size; have z1 := f6.cell (p := ⟨w1.heap.size, 0, none⟩) (show w1.heap.size < w5.heap.size by omega); have zf := f6.frozen (p := ⟨w1.heap.size + 1, m, none⟩) (show w1.heap.size + 1 < w5.heap.size by omega); have zc := f6.cell (p := ⟨w1.heap.size + 1, m, none⟩) (show w1.heap.size + 1 < w5.heap.size by omega); have O6 := stop (And.intro o6 (O5.out.2.trans (f6.mono s5))); clear o6 f6) | (go_at_call 74; refine (minusB (allL bs) (setL bs.length (rchF (suF bs) bs.length (isB m))) (w.heap.size + 1) w5.heap.size _ _ w6 (owns_keeps HR.out.2.2.1 (Keeps.below (T := fun _ => True) O6.out.2) trivial) O6.out.1 HSM LA LM).mono ?_; rintro e w7 ⟨v7, rfl, o7, f7⟩; rw [undL_dif] at o7; obtain ⟨p7, c7, rfl⟩ := owns_slice2 o7; have s7 := f7.size; have x1 := f7.cell (p := ⟨w1.heap.size, 0, none⟩) (show w1.heap.size < w6.heap.size by omega); have xf := f7.frozen (p := ⟨w1.heap.size + 1, m, none⟩) (show w1.heap.size + 1 < w6.heap.size by omega); have xc := f7.cell (p := ⟨w1.heap.size + 1, m, none⟩) (show w1.heap.size + 1 < w6.heap.size by omega); have O7 := stop (And.intro o7 (O6.out.2.trans (f7.mono (by omega)))); clear o7 f7))
      all_goals
        obtain ⟨r0, r1, rv, rs, rf, _⟩ := HR.out
        obtain ⟨cs, fz, hbu⟩ := HBU.out
        have ff := O7.out.2
        have h7 : w7.heap[w1.heap.size + 1]? = some (.cells cs 86 fz) := by rw [ff.block _ (by omega)]; exact hbu
        have H7 : Hid ((w7.setCell ⟨w1.heap.size + 1, m, none⟩ (.slice p7 (undL bs m).length c7)).heap[w.heap.size]? = some (.cells #[.slice none 0 0, .slice none 0 0, .slice none 0 0] 89 (0, 0)) ∧ (w7.setCell ⟨w1.heap.size + 1, m, none⟩ (.slice p7 (undL bs m).length c7)).heap[w1.heap.size]? = some (.cells #[.slice pa (allL bs).length ca] 86 (0, 0)) ∧ (w7.setCell ⟨w1.heap.size + 1, m, none⟩ (.slice p7 (undL bs m).length c7)).ownsRow (w.heap.size + 1) 92 1 (.slice pa (allL bs).length ca) (allL bs).length (icell (allL bs)) ∧ SetR (w.heap.size + 1) (w7.setCell ⟨w1.heap.size + 1, m, none⟩ (.slice p7 (undL bs m).length c7)) (.slice (some ⟨w1.heap.size + 1, 0, none⟩) bs.length bs.length) bs.length (fun k => if k < m + 1 then undL bs k else []) ∧ Below w.heap.size w (w7.setCell ⟨w1.heap.size + 1, m, none⟩ (.slice p7 (undL bs m).length c7)) ∧ w1.heap.size + 1 < (w7.setCell ⟨w1.heap.size + 1, m, none⟩ (.slice p7 (undL bs m).length c7)).heap.size) := by
          refine ⟨blk_setOther (by rw [ff.block _ (by omega)]; exact r0) (by omega) _ _, blk_setOther (by rw [ff.block _ (by omega)]; exact r1) (by omega) _ _, owns_setT (owns_keeps rv (Keeps.below (T := fun _ => True) ff) trivial) h7 (by decide), ?_, below_set (rf.trans (ff.mono (by omega))) _ _ _ (by omega), by rw [size_set]; omega⟩
          refine ((rs.keeps ff).store (k := m) (owns_base O7.out.1 (by omega))).congr fun k hk => ?_
          by_cases e : k = m
          · subst e; rw [if_pos (by omega), if_pos rfl]
          · rw [if_neg e]
            by_cases e2 : k < m
            · rw [if_pos (by omega), if_pos e2]
            · rw [if_neg (by omega), if_neg e2]
        clear r0 r1 rv rs rf hbu h7 ff HBU HR O5 O6 O7 PB H4 F4 HSM hal hfal hcal
        go_wp2_with fail
        go_roundw
        case rel => exact ⟨m + 1, by omega, by go_num, H7⟩
        case measure => simp [intOf]; omega
    · have hme : m = bs.length := by omega
      subst hme
      have S9 : SetR (w.heap.size + 1) wr (.slice (some ⟨w1.heap.size + 1, 0, none⟩) bs.length bs.length) bs.length (undL bs) := rs.congr fun k hk => by rw [if_pos hk]
      have k1 := cell_of r1 0
      have k2 := cell_of r0 0
      have k3 := cell_of r0 1
      have k4 := cell_of r0 2
      have kf := frozen_of r0
      simp at k1 k2 k3 k4
      have n1 : w1.heap.size ≠ w.heap.size := by omega
      have F9 : Hid (∀ x y z, (((wr.setCell ⟨w.heap.size, 0, none⟩ x).setCell ⟨w.heap.size, 1, none⟩ y).setCell ⟨w.heap.size, 2, none⟩ z).ownsRow w.heap.size 92 1 (.slice pa (allL bs).length ca) (allL bs).length (icell (allL bs)) ∧ SetR w.heap.size (((wr.setCell ⟨w.heap.size, 0, none⟩ x).setCell ⟨w.heap.size, 1, none⟩ y).setCell ⟨w.heap.size, 2, none⟩ z) (.slice (some ⟨w1.heap.size + 1, 0, none⟩) bs.length bs.length) bs.length (undL bs) ∧ Below w.heap.size w (((wr.setCell ⟨w.heap.size, 0, none⟩ x).setCell ⟨w.heap.size, 1, none⟩ y).setCell ⟨w.heap.size, 2, none⟩ z)) := by
        intro x y z
        refine ⟨owns_base (owns_setk (owns_setk (owns_setk rv _ 0 x (by omega)) _ 1 y (by omega)) _ 2 z (by omega)) (by omega), ?_, below_set (below_set (below_set rf _ _ _ (Nat.le_refl _)) _ _ _ (Nat.le_refl _)) _ _ _ (Nat.le_refl _)⟩
        obtain ⟨us, a, b⟩ := S9
        exact ⟨us, owns_base (owns_setk (owns_setk (owns_setk a _ 0 x (by omega)) _ 1 y (by omega)) _ 2 z (by omega)) (by omega), fun j u hu => owns_base (owns_setk (owns_setk (owns_setk (b j u hu) _ 0 x (by omega)) _ 1 y (by omega)) _ 2 z (by omega)) (by omega)⟩
      clear r0 r1 rv rs rf HR S9
      go_wp2_with fail
      refine bodyPost_ret (v := .agg #[.slice pv bs.length cv, .slice pa (allL bs).length ca, .slice (some ⟨w1.heap.size + 1, 0, none⟩) bs.length bs.length]) (by simp [results, Tryz.results43, go_sem, k2, k3, k4]) rfl ⟨_, _, rfl, ?_, ?_, ?_⟩
      · exact (F9.out _ _ _).1
      · exact (F9.out _ _ _).2.1
      · exact (F9.out _ _ _).2.2

end Go.Proofs.YtgfhfkgdmidhpaaGreat

namespace Go.Proofs.YtgfhfkgdmidhpaaGreat
open Go.RowKit

theorem allL_has {bs : List RBlk} {b : Nat} (hb : b < bs.length) : hasF (allL bs) b = rchF (suF bs) bs.length noB b := by
  rw [Bool.eq_iff_iff, hasF_iff, allL, setL_mem]; exact ⟨fun h => h.2, fun h => ⟨hb, h⟩⟩
theorem undL_has {bs : List RBlk} {a b : Nat} (hb : b < bs.length) : hasF (undL bs a) b = overF (suF bs) bs.length a b := by
  rw [Bool.eq_iff_iff, hasF_iff, undL, setL_mem]; exact ⟨fun h => h.2, fun h => ⟨hb, h⟩⟩

set_option maxRecDepth 100000 in
set_option maxHeartbeats 1000000 in
theorem reachM (bs : List RBlk) (B b : Nat) (v va vu : Value) (w : World) (hv : ∃ p n c, v = .slice p n c) (hu : ∃ p n c, vu = .slice p n c) (ha : w.ownsRow B 92 1 va (allL bs).length (icell (allL bs))) (hb : b < bs.length) (hn : bs.length ≤ 1000) :
    Calls Tryz.prog 76 #[.agg #[v, va, vu], .int .i64 b] w fun e w' => e = .returned (.bool (rchF (suF bs) bs.length noB b)) ∧ Below w.heap.size w w' := by
  obtain ⟨pv, nv, cv, rfl⟩ := hv
  obtain ⟨pu, nu, cu, rfl⟩ := hu
  obtain ⟨pa, ca, rfl⟩ := owns_slice2 ha
  have HA := stop ha
  clear ha
  go_enter Tryz.func76, Tryz.ntmps76
  go_wp2_with fail
  refine (hasSB (allL bs) b B _ _ (HA.out.alloc _) (setL_srt _ _) (Nat.le_trans (setL_len _ _) (by omega))).mono ?_
  rintro e w1 ⟨rfl, f1⟩
  rw [allL_has hb]
  have F1 := stop (((Below.refl w.heap.size w).alloc (Nat.le_refl _) _).trans (f1.mono (by rw [World.size_alloc]; omega)))
  clear f1
  go_wp2_with fail
  go_ret
  exact ⟨rfl, F1.out⟩

set_option maxRecDepth 100000 in
set_option maxHeartbeats 1000000 in
theorem overM (bs : List RBlk) (B a b : Nat) (v va vu : Value) (w : World) (hv : ∃ p n c, v = .slice p n c) (ha : ∃ p n c, va = .slice p n c) (hu : SetR B w vu bs.length (undL bs)) (hab : a < bs.length) (hb : b < bs.length) (hn : bs.length ≤ 1000) :
    Calls Tryz.prog 120 #[.agg #[v, va, vu], .int .i64 a, .int .i64 b] w fun e w' => e = .returned (.bool (overF (suF bs) bs.length a b)) ∧ Below w.heap.size w w' := by
  obtain ⟨pv, nv, cv, rfl⟩ := hv
  obtain ⟨pa, na, ca, rfl⟩ := ha
  obtain ⟨pu, cu, rfl⟩ := hu.slice
  obtain ⟨g, u, rfl, _, hg, hc, _, ho⟩ := hu.at hab
  obtain ⟨p1, c1, rfl⟩ := owns_slice2 ho
  have HO := stop ho
  have hcal : ∀ o, (w.alloc o).cell? ⟨g, a, none⟩ = some (.slice p1 (undL bs a).length c1) := fun o => by
    rw [World.cell?_of_block (w := w) (Below.heap_alloc w o _ hg)]; exact hc
  clear ho hu hc
  go_enter Tryz.func120, Tryz.ntmps120
  go_wp2_with fail
  refine (hasSB (undL bs a) b B _ _ (HO.out.alloc _) (setL_srt _ _) (Nat.le_trans (setL_len _ _) (by omega))).mono ?_
  rintro e w1 ⟨rfl, f1⟩
  rw [undL_has hb]
  have F1 := stop (((Below.refl w.heap.size w).alloc (Nat.le_refl _) _).trans (f1.mono (by rw [World.size_alloc]; omega)))
  clear f1
  go_wp2_with fail
  go_ret
  exact ⟨rfl, F1.out⟩

/-- The others over a block, as far as they are found. -/
def othTo (bs : List RBlk) (b m : Nat) : List Nat := (List.range m).filter (othB (suF bs) bs.length b)
theorem othTo_succ (bs b m) : othTo bs b (m + 1) = if othB (suF bs) bs.length b m then othTo bs b m ++ [m] else othTo bs b m := by
  rw [othTo, List.range_succ, List.filter_append]
  cases h : othB (suF bs) bs.length b m <;> simp [h, othTo]
theorem othTo_len (bs b m) : (othTo bs b m).length ≤ m := by
  have := List.length_filter_le (othB (suF bs) bs.length b) (List.range m); simpa [othTo] using this

set_option maxRecDepth 100000 in
set_option maxHeartbeats 4000000 in
theorem othersM (bs : List RBlk) (B b : Nat) (pv : Option Addr) (cv : Nat) (va vu : Value) (w : World) (ha : ∃ p n c, va = .slice p n c) (hu : SetR B w vu bs.length (undL bs)) (hb : b < bs.length) (hn : bs.length ≤ 1000) :
    Calls Tryz.prog 119 #[.agg #[.slice pv bs.length cv, va, vu], .int .i64 b] w fun e w' => ∃ v', e = .returned v' ∧ w'.ownsRow w.heap.size 92 1 v' (othL (suF bs) bs.length b).length (icell (othL (suF bs) bs.length b)) ∧ Below w.heap.size w w' := by
  obtain ⟨pa, na, ca, rfl⟩ := ha
  obtain ⟨pu, cu, rfl⟩ := hu.slice
  have HU := stop hu
  clear hu
  go_enter Tryz.func119, Tryz.ntmps119
  go_wp2_with fail
  obtain ⟨W1, hW1⟩ : ∃ W1, W1 = w.alloc (.cells #[.slice pv bs.length cv, .slice pa na ca, .slice pu bs.length cu] 89) := ⟨_, rfl⟩
  rw [← hW1]
  have g1 : W1.heap[w.heap.size]? = some (.cells #[.slice pv bs.length cv, .slice pa na ca, .slice pu bs.length cu] 89 (0, 0)) := by rw [hW1]; exact heap_alloc_last _ _
  have f1 : Below w.heap.size w W1 := by rw [hW1]; exact (Below.refl _ _).alloc (Nat.le_refl _) _
  have s1 : W1.heap.size = w.heap.size + 1 := by rw [hW1, World.size_alloc]
  have B0 : Hid (W1.heap[w.heap.size]? = some (.cells #[.slice pv bs.length cv, .slice pa na ca, .slice pu bs.length cu] 89 (0, 0)) ∧ Below w.heap.size w W1 ∧ w.heap.size + 1 ≤ W1.heap.size) := ⟨g1, f1, by omega⟩
  clear hW1 g1 f1 s1
  go_loopw [5, 11] (fun l i wr => ∃ m : Nat, m ≤ bs.length ∧ i = .int .i64 m ∧ wr.ownsRow (w.heap.size + 1) 92 1 l (othTo bs b m).length (icell (othTo bs b m)) ∧ Hid (wr.heap[w.heap.size]? = some (.cells #[.slice pv bs.length cv, .slice pa na ca, .slice pu bs.length cu] 89 (0, 0)) ∧ Below w.heap.size w wr ∧ w.heap.size + 1 ≤ wr.heap.size)) (fun _ i _ => bs.length - (intOf i).toNat)
  case atStart => exact ⟨0, by omega, rfl, World.ownsRow_nil _ _ _ _, B0⟩
  case round =>
    clear B0
    obtain ⟨m, hm, rfl, OL, HR⟩ := hrel
    obtain ⟨pl, cl, rfl⟩ := owns_slice2 OL
    obtain ⟨r0, rf, rz⟩ := HR.out
    by_cases hlt : m < bs.length
    · have k0 := cell_of r0 0
      have k1 := cell_of r0 1
      have k2 := cell_of r0 2
      simp at k0 k1 k2
      have HA := othTo_succ bs b m
      have hal := othTo_len bs b m
      have HU2 := stop (HU.out.keeps rf)
      have OLH := stop OL
      clear r0 rf OL
      by_cases hmb : m = b
      · have ho : othB (suF bs) bs.length b m = false := by simp [othB, hmb]
        rw [ho, if_neg (by simp)] at HA
        have HA' := stop HA
        have hd : ((m : Int) != (b : Int)) = false := by simp [hmb]
        clear HA ho
        go_wp2_with fail
        go_roundw
        case rel => exact ⟨m + 1, by omega, by go_num, by rw [HA'.out]; exact OLH.out, HR⟩
        case measure => simp [intOf]; omega
      · have hd : ((m : Int) != (b : Int)) = true := by simp; omega
        have ho : othB (suF bs) bs.length b m = overF (suF bs) bs.length m b := by simp [othB, hmb]
        rw [ho] at HA
        clear ho
        go_wp2_with fail
        refine (overM bs B m b _ _ _ wr ⟨_, _, _, rfl⟩ ⟨_, _, _, rfl⟩ HU2.out hlt hb hn).mono ?_
        rintro e w2 ⟨rfl, f2⟩
        have s2 := f2.size
        have HR2 : Hid (w2.heap[w.heap.size]? = some (.cells #[.slice pv bs.length cv, .slice pa na ca, .slice pu bs.length cu] 89 (0, 0)) ∧ Below w.heap.size w w2 ∧ w.heap.size + 1 ≤ w2.heap.size) := ⟨by rw [f2.block _ (by omega)]; exact HR.out.1, HR.out.2.1.trans (f2.mono (by omega)), by omega⟩
        have OL2 := owns_keeps OLH.out (Keeps.below (T := fun _ => True) f2) trivial
        clear f2 k0 k1 k2 HR OLH HU2
        cases hh : overF (suF bs) bs.length m b with
        | true =>
          rw [hh, if_pos rfl] at HA
          have HA' := stop HA
          clear HA hh
          go_wp2_with (at_builtin; refine unstop ?_)
          refine stop ?_
          have gB := heap_alloc_last w2 (.cells #[.int .i64 m] 92)
          replace OL2 := OL2.alloc (.cells #[.int .i64 m] 92)
          refine app1 Tryz.underlying84 Tryz.info92 rfl (by decide) (by decide) rfl _ _ rfl rfl OL2 gB rfl rfl (List.all_eq_true.1 rfl) (by omega) (by simp; omega) ?_
          intro v3 wS oS gS
          have HR3 : Hid (wS.heap[w.heap.size]? = some (.cells #[.slice pv bs.length cv, .slice pa na ca, .slice pu bs.length cu] 89 (0, 0)) ∧ Below w.heap.size w wS ∧ w.heap.size + 1 ≤ wS.heap.size) := by
            refine ⟨blk_grown gS (blk_alloc HR2.out.1 _) (fun j hj => by have := (OL2.lt j hj).1; omega), Below.grown (HR2.out.2.1.alloc (by omega) _) gS (by simp; omega) (fun j hj => by have := (OL2.lt j hj).1; omega), ?_⟩
            have := gS.size
            rw [World.size_alloc] at this
            omega
          clear gS gB OL2 HR2
          obtain ⟨p5, c5, rfl⟩ := owns_slice2 oS
          go_wp2_with fail
          go_roundw
          case rel => exact ⟨m + 1, by omega, by go_num, by rw [HA'.out, List.length_append]; simpa [icell] using oS, HR3⟩
          case measure => simp [intOf]; omega
        | false =>
          rw [hh, if_neg (by simp)] at HA
          have HA' := stop HA
          have OL3 := stop OL2
          clear HA hh OL2
          go_wp2_with fail
          go_roundw
          case rel => exact ⟨m + 1, by omega, by go_num, by rw [HA'.out]; exact OL3.out, HR2⟩
          case measure => simp [intOf]; omega
    · have hme : m = bs.length := by omega
      subst hme
      have O9 := stop OL
      clear OL r0 rf
      go_wp2_with fail
      go_ret
      exact ⟨_, rfl, owns_base O9.out (by omega), HR.out.2.1⟩

end Go.Proofs.YtgfhfkgdmidhpaaGreat
