import Derived.Test.YtgfhfkgdmidhpaaGreatML
import Derived.Test.YtgfhfkgdmidhpaaGreatRB
import Derived.Test.YtgfhfkgdmidhpaaGreatG15
import Derived.Test.YtgfhfkgdmidhpaaGreatG23
import Derived.Test.YtgfhfkgdmidhpaaGreatG14
namespace Go.Proofs.YtgfhfkgdmidhpaaGreat
open Go.RowKit

set_option maxRecDepth 100000 in
set_option maxHeartbeats 1500000 in
theorem numbersRP (n : Nat) (f : Nat → List Nat) (B : Nat) (vs : Value) (w : World) (h : SetQ B w vs n f) (hn : n ≤ 1000) (hf : Hid (∀ k, k < n → (f k).length ≤ 10000)) :
    Calls Tryz.prog 31 #[vs] w fun x w' => ∃ v', x = .returned v' ∧ RowR w.heap.size w' v' n f ∧ Below w.heap.size w w' := by
  obtain ⟨pv, cv, rfl⟩ := h.slice
  have HS := stop h
  clear h
  obtain ⟨I9, Hi9, Hz9, Hs9, Hb9⟩ := info_parts Tryz.info29
  go_enter Tryz.func31, Tryz.ntmps31
  go_wp2_with (at_make; refine unstop ?_)
  refine stop ?_
  refine wpList_make_full _ rfl _ _ 36 rfl w.heap.size 29 I9 (.slice none 0 0) 1 Tryz.underlying36 Hi9 Hz9 Hs9 .i64 .i64 _ _ n rfl rfl rfl rfl (by rw [Hb9]; omega) (by unfold maxLen; omega) (Nat.le_refl _) ?_
  intro w1 o1 g1
  rw [made_one _ rfl] at o1
  have F1 := stop (Below.grown (Below.refl w.heap.size w) g1 (Nat.le_refl _) (fun k hk => by cases hk))
  have B0 : Hid (∃ us, Lsts w.heap.size w1 w.heap.size n f 0 us ∧ (∀ u, us[0]? = some u → u = .slice none 0 0)) := by
    refine ⟨_, ⟨o1, fun k u hk => ⟨fun h => by omega, fun _ => ?_⟩⟩, fun u hu => ?_⟩
    · rw [List.getElem?_replicate] at hk
      split at hk
      · cases hk; rfl
      · cases hk
    · rw [List.getElem?_replicate] at hu
      split at hu
      · cases hu; rfl
      · cases hu
  clear o1 g1 Hi9 Hz9 Hs9 Hb9
  go_wp2_with fail
  go_loopw [13] (fun i wr => ∃ m : Nat, m ≤ n ∧ i = .int .i64 m ∧ Hid (∃ us, Lsts w.heap.size wr w.heap.size n f m us ∧ (∀ u, us[m]? = some u → u = .slice none 0 0)) ∧ Hid (Below w.heap.size w wr)) (fun i _ => n - (intOf i).toNat)
  case atStart => exact ⟨0, by omega, rfl, B0, F1⟩
  case round =>
    clear B0 F1
    obtain ⟨m, hm, rfl, HL, F⟩ := hrel
    by_cases hlt : m < n
    · obtain ⟨us, L, hmn⟩ := HL.out
      have hz := F.out.size
      have hul : us.length = n := by have := L.1.1; omega
      obtain ⟨gs, u, rfl, _, hgs, hcs, _, hos⟩ := (HS.out.keeps F.out).at hlt
      obtain ⟨pu, cu, rfl⟩ := owns_slice2 hos
      have hfm := hf.out m hlt
      have HOS := stop hos
      have HLL := stop (And.intro L hmn)
      clear hos L hmn HL
      go_wp2_with fail
      obtain ⟨W2, hW2⟩ : ∃ W2, W2 = wr.alloc (.cells #[.slice pu (f m).length cu] 100) := ⟨_, rfl⟩
      rw [← hW2]
      have f2 : Below wr.heap.size wr W2 := by rw [hW2]; exact (Below.refl _ _).alloc (Nat.le_refl _) _
      have s2 : W2.heap.size = wr.heap.size + 1 := by rw [hW2, World.size_alloc]
      clear hW2
      refine (itmR (f m) B _ W2 (owns_keeps HOS.out (Keeps.below (T := fun _ => True) f2) trivial) (by omega)).mono ?_
      rintro e w3 ⟨vi, rfl, oi, f3⟩
      have s3 := f3.size
      obtain ⟨pi, ci, rfl⟩ := owns_slice2 oi
      have f13 := f2.trans (f3.mono (by omega))
      have B3 : Hid (∃ us cur, Lsts w.heap.size w3 w.heap.size n f m us ∧ us[m]? = some cur ∧ w3.ownsRow w3.heap.size 3 1 cur 0 [] ∧ (∀ k u, us[k]? = some u → k < m → ∀ b, u.ownBlock = some b → b < w3.heap.size)) := by
        obtain ⟨L, hmn⟩ := HLL.out
        have hum : us[m]? = some us[m] := List.getElem?_eq_getElem (by omega)
        have hL3 : Lsts w.heap.size w3 w.heap.size n f m us := ⟨owns_keeps L.1 (Keeps.below (T := fun _ => True) f13) trivial, fun k u hk => ⟨fun h => owns_keeps ((L.2 k u hk).1 h) (Keeps.below (T := fun _ => True) f13) trivial, (L.2 k u hk).2⟩⟩
        refine ⟨us, us[m], hL3, hum, by rw [hmn _ hum]; exact World.ownsRow_nil _ _ _ _, fun k u hk hkm b hb => (((hL3.2 k u hk).1 hkm).lt b hb).2⟩
      have I3 : Hid (w3.ownsRow 0 56 1 (.slice pi (f m).length ci) (f m).length (icell (f m)) ∧ Below w.heap.size w w3 ∧ wr.heap.size < w3.heap.size ∧ w3.heap.size ≤ w3.heap.size) := ⟨owns_base oi (Nat.zero_le _), F.out.trans (f13.mono hz), by omega, Nat.le_refl _⟩
      clear oi f2 f3 f13 HLL HOS hcs hul
      clear us
      go_wp2_with fail
      go_loopw [21] (fun i wr2 => ∃ q : Nat, q ≤ (f m).length ∧ i = .int .i64 q ∧ Hid (∃ us cur, Lsts w.heap.size wr2 w.heap.size n f m us ∧ us[m]? = some cur ∧ wr2.ownsRow w3.heap.size 3 1 cur q (icell ((f m).take q)) ∧ (∀ k u, us[k]? = some u → k < m → ∀ b, u.ownBlock = some b → b < w3.heap.size)) ∧ Hid (wr2.ownsRow 0 56 1 (.slice pi (f m).length ci) (f m).length (icell (f m)) ∧ (∀ b, (Value.slice pi (f m).length ci).ownBlock = some b → b < w3.heap.size) ∧ Below w.heap.size w wr2 ∧ w3.heap.size ≤ wr2.heap.size)) (fun i _ => (f m).length - (intOf i).toNat)
      case atStart => exact ⟨0, by omega, rfl, B3, I3.out.1, fun b hb => (I3.out.1.lt b hb).2, I3.out.2.1, I3.out.2.2.2⟩
      case round =>
        clear B3
        have hw3 := I3.out.2.2.1
        clear I3
        obtain ⟨q, hq, rfl, HQ, HI⟩ := hrel
        by_cases hql : q < (f m).length
        · obtain ⟨gi, rfl, _, _⟩ := owns_form HI.out.1 (by omega)
          have ci0 := owns_cell HI.out.1 (icell_at hql)
          obtain ⟨us, cur, L, hum, hoc, hbl⟩ := HQ.out
          have cl0 := owns_cell L.1 hum
          obtain ⟨pc, cc, rfl⟩ := owns_slice2 hoc
          have HQ2 := stop (And.intro L (And.intro hum (And.intro hoc hbl)))
          have hz2 := HI.out.2.2.2
          clear L hum hoc hbl HQ
          go_wp2_with (at_builtin; refine unstop ?_)
          refine stop ?_
          obtain ⟨L, hum, hoc, hbl⟩ := HQ2.out
          have gB := heap_alloc_last wr (.cells #[.int .i64 (f m)[q]] 3)
          have hoc2 := hoc.alloc (.cells #[.int .i64 (f m)[q]] 3)
          refine app1 Tryz.underlying29 Tryz.info3 rfl (by decide) (by decide) rfl _ _ rfl rfl hoc2 gB rfl rfl (List.all_eq_true.1 rfl) (by omega) (by simp; omega) ?_
          intro v3 wS oS gS
          have hsS := gS.size
          rw [World.size_alloc] at hsS
          have hcb : ∀ b, (Value.slice pc q cc).ownBlock = some b → w3.heap.size ≤ b := fun b hb => (hoc.lt b hb).1
          have l0 : wr.ownsRow w.heap.size 29 1 (.slice (some ⟨w.heap.size, 0, none⟩) n n) n us := L.1
          have L2 : wS.ownsRow w.heap.size 29 1 (.slice (some ⟨w.heap.size, 0, none⟩) n n) n us := owns_grownB (l0.alloc _) gS (fun b hb e => by have h1 := hcb b e; have h2 : b = w.heap.size := (by simpa [Value.ownBlock] using hb.symm); omega)
          have R2 : ∀ k u, us[k]? = some u → k < m → wS.ownsRow w.heap.size 3 1 u (f k).length (icell (f k)) := fun k u hk hkm => owns_grownB (((L.2 k u hk).1 hkm).alloc _) gS (fun b hb e => by have h1 := hcb b e; have h2 := hbl k u hk hkm b hb; omega)
          have I2 : wS.ownsRow 0 56 1 (.slice (some ⟨gi, 0, none⟩) (f m).length ci) (f m).length (icell (f m)) := owns_grownB (HI.out.1.alloc _) gS (fun b hb e => by have h1 := hcb b e; have h2 := HI.out.2.1 b hb; omega)
          obtain ⟨p5, c5, rfl⟩ := owns_slice2 oS
          have cl2 := owns_cell L2 hum
          have clf := owns_fz L2 m
          have FS := Below.grown (HI.out.2.2.1.alloc (by omega) (.cells #[.int .i64 (f m)[q]] 3)) gS (by simp; omega) (fun j hj => by have := hcb j hj; omega)
          have hgl : ∃ cs fz, wS.heap[w.heap.size]? = some (.cells cs 29 fz) := by
            rcases L2.2 with ⟨h0, _⟩ | ⟨g', cap', cur', hv, _, hc', _⟩
            · cases h0
            · cases hv; exact ⟨_, _, hc'⟩
          obtain ⟨cs, fz, hgl⟩ := hgl
          have HN : Hid ((∃ us cur, Lsts w.heap.size (wS.setCell ⟨w.heap.size, m, none⟩ (.slice p5 (q + 1) c5)) w.heap.size n f m us ∧ us[m]? = some cur ∧ (wS.setCell ⟨w.heap.size, m, none⟩ (.slice p5 (q + 1) c5)).ownsRow w3.heap.size 3 1 cur (q + 1) (icell ((f m).take (q + 1))) ∧ (∀ k u, us[k]? = some u → k < m → ∀ b, u.ownBlock = some b → b < w3.heap.size)) ∧ ((wS.setCell ⟨w.heap.size, m, none⟩ (.slice p5 (q + 1) c5)).ownsRow 0 56 1 (.slice (some ⟨gi, 0, none⟩) (f m).length ci) (f m).length (icell (f m)) ∧ (∀ b, (Value.slice (some ⟨gi, 0, none⟩) (f m).length ci).ownBlock = some b → b < w3.heap.size) ∧ Below w.heap.size w (wS.setCell ⟨w.heap.size, m, none⟩ (.slice p5 (q + 1) c5)) ∧ w3.heap.size ≤ (wS.setCell ⟨w.heap.size, m, none⟩ (.slice p5 (q + 1) c5)).heap.size)) := by
            have hul : us.length = n := by have := L2.1; omega
            refine ⟨⟨us.set m (.slice p5 (q + 1) c5), .slice p5 (q + 1) c5, ⟨owns_store L2 m _, fun k u hk => ?_⟩, by rw [List.getElem?_set, if_pos rfl, if_pos (by omega)], ?_, fun k u hk hkm b hb => ?_⟩, owns_setT I2 hgl (by decide), HI.out.2.1, below_set FS _ _ _ (Nat.le_refl _), by rw [size_set]; omega⟩
            · rw [List.getElem?_set] at hk
              by_cases e : m = k
              · subst e; exact ⟨fun h => by omega, fun h => by omega⟩
              · rw [if_neg e] at hk
                exact ⟨fun h => owns_setT (R2 k u hk h) hgl (by decide), (L.2 k u hk).2⟩
            · have e : icell ((f m).take (q + 1)) = icell ((f m).take q) ++ [.int .i64 (f m)[q]] := by rw [List.take_succ_eq_append_getElem hql, icell_app]; rfl
              rw [e]
              exact owns_setT oS hgl (by decide)
            · rw [List.getElem?_set, if_neg (by omega)] at hk
              exact hbl k u hk hkm b hb
          clear L hum hoc hbl gB hoc2 gS l0 L2 R2 I2 oS FS hgl HQ2 HI hcb
          go_wp2_with fail
          go_roundw
          case rel => exact ⟨q + 1, by omega, by go_num, HN.out.1, HN.out.2⟩
          case measure => simp [intOf]; omega
        · have hqe : q = (f m).length := by omega
          subst hqe
          have HN : Hid ((∃ us, Lsts w.heap.size wr w.heap.size n f (m + 1) us ∧ (∀ u, us[m + 1]? = some u → u = .slice none 0 0)) ∧ Below w.heap.size w wr) := by
            obtain ⟨us, cur, L, hum, hoc, _⟩ := HQ.out
            rw [List.take_length] at hoc
            refine ⟨⟨us, ⟨L.1, fun k u hk => ⟨fun h => ?_, fun h => (L.2 k u hk).2 (by omega)⟩⟩, fun u hu => (L.2 (m + 1) u hu).2 (by omega)⟩, HI.out.2.2.1⟩
            by_cases e : k = m
            · subst e
              rw [hum] at hk
              cases hk
              exact owns_base hoc (by omega)
            · exact (L.2 k u hk).1 (by omega)
          clear HQ HI
          go_wp2_with fail
          go_roundw
          case rel => exact ⟨m + 1, by omega, by go_num, HN.out.1, HN.out.2⟩
          case measure => simp [intOf]; omega
    · have hme : m = n := by omega
      subst hme
      have HN : Hid (RowR w.heap.size wr (.slice (some ⟨w.heap.size, 0, none⟩) m m) m f) := by
        obtain ⟨us, L, _⟩ := HL.out
        have hul : us.length = m := by have := L.1.1; omega
        refine ⟨us, L.1, fun k u hk => (L.2 k u hk).1 ?_⟩
        rcases Nat.lt_or_ge k us.length with h | h
        · omega
        · rw [List.getElem?_eq_none h] at hk; cases hk
      go_wp2_with fail
      go_ret
      exact ⟨_, rfl, HN.out, F.out⟩


end Go.Proofs.YtgfhfkgdmidhpaaGreat

namespace Go.Proofs.YtgfhfkgdmidhpaaGreat
open Go.RowKit

theorem BFine.mono {n m : Nat} {b : RBlk} (h : BFine n b) (hn : n ≤ m) : BFine m b := ⟨Nat.le_trans h.cl hn, Nat.le_trans h.sl hn, fun c hc => ⟨(h.ch c hc).1, (h.ch c hc).2.1, Nat.le_trans (h.ch c hc).2.2.1 hn, (h.ch c hc).2.2.2⟩, h.st, h.e⟩
theorem unfB_all {ah : List Nat} : ∀ {cs : List RCho} {gv : List Nat}, unfB ah gv cs = none → ∀ c ∈ cs, nums c.gs = ah
  | [], _, _, c, hc => by simp at hc
  | d :: cs, gv, h, c, hc => by
    rw [unfB] at h
    split at h
    · rename_i ho
      rcases List.mem_cons.1 hc with rfl | hc
      · rw [chOk, Bool.and_eq_true] at ho
        simpa using ho.1
      · exact unfB_all h c hc
    · cases h
theorem rd0c {s : ByteArray} (h : (rdF s).e = 0) : s.size ≤ 200000 ∧ ∀ (i : Nat) (hi : i < (parF s).bs.length), ∀ c ∈ (parF s).bs[i].chs, nums c.gs = aheF (parF s).bs i := by
  unfold rdF at h
  by_cases h1 : 200000 < s.size
  · rw [if_pos h1] at h; cases h
  rw [if_neg h1] at h
  by_cases h2 : 0 ≤ parBad s
  · rw [if_pos h2] at h; cases h
  rw [if_neg h2] at h
  by_cases h3 : 12 < (parF s).bs.length
  · rw [dif_pos h3] at h; cases h
  rw [dif_neg h3] at h
  by_cases h4 : 0 ≤ lostF (parF s).bs
  · rw [if_pos h4] at h; cases h
  rw [if_neg h4] at h
  by_cases h5 : 0 ≤ unfF (parF s).bs
  · rw [if_pos h5] at h; cases h
  refine ⟨by omega, fun i hi c hc => ?_⟩
  have hn : (List.range (parF s).bs.length).findSome? (unfAt (parF s).bs) = none := by
    cases e : (List.range (parF s).bs.length).findSome? (unfAt (parF s).bs) with
    | none => rfl
    | some x => rw [unfF, e] at h5; exact absurd (by show (0 : Int) ≤ (x : Int); omega) h5
  rw [List.findSome?_eq_none_iff] at hn
  have := hn i (List.mem_range.2 hi)
  rw [unfAt, List.getElem?_eq_getElem hi] at this
  exact unfB_all this c hc
theorem fineS {s : ByteArray} (h : (rdF s).e = 0) : (∀ b ∈ (parF s).bs, BFine 1000000 b) ∧ (∀ b ∈ (parF s).bs, ∀ c ∈ b.chs, (c.gs.map (·.1)).Pairwise (· < ·)) ∧ (∀ b ∈ (parF s).bs, ∀ c ∈ b.chs, c.gs.length ≤ 1000) := by
  obtain ⟨hs, hc⟩ := rd0c h
  obtain ⟨_, _, h12, _⟩ := rd0 h
  refine ⟨fun b hb => (parF_fine2 s b hb).mono (by omega), fun b hb c hcc => ?_, fun b hb c hcc => ?_⟩
  · obtain ⟨i, hi, rfl⟩ := List.getElem_of_mem hb
    have := hc i hi c hcc
    rw [nums] at this
    rw [this]
    exact aheTo_srt _ _ _
  · obtain ⟨i, hi, rfl⟩ := List.getElem_of_mem hb
    have := congrArg List.length (hc i hi c hcc)
    rw [nums, List.length_map] at this
    have := aheF_len (parF s).bs i
    omega
/-- The error of Matters: that of Check, or too long. -/
def upE (m : Nat) (s : ByteArray) : Nat := if (rdF s).e = 0 then (if m < s.size then 1 else 0) else (rdF s).e
theorem upE_zero {m s} (h : upE m s = 0) : (rdF s).e = 0 ∧ s.size ≤ m := by
  unfold upE at h
  by_cases h0 : (rdF s).e = 0
  · rw [if_pos h0] at h
    by_cases h1 : m < s.size
    · rw [if_pos h1] at h; cases h
    · exact ⟨h0, by omega⟩
  · rw [if_neg h0] at h; exact absurd h h0
def PUp (w : World) (base m : Nat) (s : ByteArray) (v : Value) : Prop := upE m s = 0 → PBs w base (parF s).bs v

set_option maxHeartbeats 1000000 in
theorem readUpP (m : Nat) (_hm : m ≤ 1000000) (s : ByteArray) (w : World) (_hs : s.size ≤ maxLen) :
    Calls Tryz.prog 30 #[.int .i64 m, .string s] w fun x w' => ∃ v, x = .returned (.tuple #[v, .int .i64 (upE m s), .int .i64 (rdF s).at_]) ∧ Hid (PUp w' w.heap.size m s v ∧ Below w.heap.size w w') := by
  unfold maxLen at _hs
  go_enter Tryz.func30, Tryz.ntmps30
  go_wp2_with fail
  refine (readS_any s w).mono ?_
  rintro x w1 ⟨v1, rfl, P1, f1⟩
  have H1 := stop (And.intro P1 f1)
  clear P1 f1
  by_cases h0 : (rdF s).e = 0
  · have ha := (rd0 h0).1
    have HA := stop ha
    rw [h0, ha]
    by_cases hl : m < s.size
    · have HE : Hid (upE m s = 1) := by show _ = _; rw [upE, if_pos h0, if_pos hl]
      clear h0 ha
      go_wp2_with fail
      go_ret3
      exact ⟨_, by rw [HE.out, HA.out]; rfl, (fun h => by rw [HE.out] at h; cases h), H1.out.2⟩
    · have HE : Hid (upE m s = 0) := by show _ = _; rw [upE, if_pos h0, if_neg hl]
      have HP := stop (H1.out.1 h0)
      clear h0 ha
      go_wp2_with fail
      go_ret3
      exact ⟨_, by rw [HE.out, HA.out]; rfl, fun _ => HP.out, H1.out.2⟩
  · have HE : Hid (upE m s = (rdF s).e) := by show _ = _; rw [upE, if_neg h0]
    have hd : (((rdF s).e : Int) == 0) = false := by simp; omega
    have HZ : Hid (upE m s ≠ 0) := by show _ ≠ _; rw [HE.out]; exact h0
    clear h0
    go_wp2_with fail
    go_ret3
    exact ⟨_, by rw [HE.out]; rfl, fun h => absurd h HZ.out, H1.out.2⟩
/-- What Matters lists. -/
def mtN (s : ByteArray) : Nat := if upE 40000 s = 0 then (parF s).bs.length else 0
noncomputable def mtF (s : ByteArray) (k : Nat) : List Nat := matL (parF s).bs k
theorem mtN_le (s : ByteArray) : mtN s ≤ 12 := by
  unfold mtN
  split
  · rename_i h; exact (rd0 (upE_zero h).1).2.2.1
  · omega
theorem mtF_len (s : ByteArray) (k : Nat) (_h : k < mtN s) : (mtF s k).length ≤ 10000 := by
  refine srt_lim (matL_srt _ _) fun x hx => ?_
  rw [matL, List.mem_filter, List.mem_range] at hx
  exact hx.1

set_option maxHeartbeats 1000000 in
theorem mattersP (s : ByteArray) (w : World) (hs : s.size ≤ maxLen) :
    Calls Tryz.prog 20 #[.string s] w fun x w' => ∃ v, x = .returned (.tuple #[v, .int .i64 (upE 40000 s), .int .i64 (rdF s).at_]) ∧ RowR w.heap.size w' v (mtN s) (mtF s) ∧ Below w.heap.size w w' := by
  go_enter Tryz.func20, Tryz.ntmps20
  go_wp2_with fail
  refine (readUpP 40000 (by omega) s w hs).mono ?_
  rintro x w1 ⟨v1, rfl, H1⟩
  by_cases h0 : upE 40000 s = 0
  · have HZ := stop (H1.out.1 h0)
    have hr := (upE_zero h0).1
    obtain ⟨ha, hn0, hn, hgl⟩ := rd0 hr
    obtain ⟨hf, hri, hg2⟩ := fineS hr
    have HF := stop hf
    have HRI := stop hri
    have HG2 := stop hg2
    have HGL := stop hgl
    have HA := stop ha
    have HN : Hid (mtN s = (parF s).bs.length) := by show _ = _; rw [mtN, if_pos h0]
    have HE := stop h0
    have F1 := stop H1.out.2
    have s1 := F1.out.size
    rw [h0, ha]
    obtain ⟨pv, cv, rfl⟩ := HZ.out.slice
    clear h0 ha hf hri hg2 hgl hr H1
    go_wp2_with fail
    refine (flowMatters (parF s).bs w.heap.size _ w1 HZ.out HGL HF HRI HG2 hn0 (by omega)).mono ?_
    rintro e w2 ⟨v2, rfl, H2⟩
    obtain ⟨p2, c2, rfl⟩ := H2.out.1.slice
    have s2 := H2.out.2.size
    go_wp2_with fail
    refine (numbersRP (parF s).bs.length (matL (parF s).bs) w1.heap.size _ w2 H2.out.1 (by omega) (fun k hk => mtF_len s k (by rw [HN.out]; exact hk))).mono ?_
    rintro e w3 ⟨v3, rfl, r3, f3⟩
    have H3 : Hid (RowR w.heap.size w3 v3 (mtN s) (mtF s) ∧ Below w.heap.size w w3) := ⟨by rw [HN.out]; exact r3.base (by omega), F1.out.trans ((H2.out.2.trans (f3.mono s2)).mono s1)⟩
    obtain ⟨p3, c3, rfl⟩ := r3.slice
    clear r3 f3 H2
    go_wp2_with fail
    go_ret3
    exact ⟨_, by rw [HE.out, HA.out]; rfl, H3.out.1, H3.out.2⟩
  · have hd : ((upE 40000 s : Int) != 0) = true := by simp; omega
    have HN : Hid (mtN s = 0) := by show _ = _; rw [mtN, if_neg h0]
    have F1 := stop H1.out.2
    clear h0 H1
    go_wp2_with fail
    go_ret3
    exact ⟨_, rfl, by rw [HN.out]; exact RowR.nil _ _ _, F1.out⟩

end Go.Proofs.YtgfhfkgdmidhpaaGreat
