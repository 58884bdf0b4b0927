import Derived.Test.YtgfhfkgdmidhpaaGreatDoorG06
import Derived.Lib.OthersKept
import Derived.Test.YtgfhfkgdmidhpaaGreatDoorG09
import Derived.Recover
import Derived.RegionTactic
import Derived.Laws.Pointers
namespace Go.Proofs.YtgfhfkgdmidhpaaGreatDoor
open Go.RowKit

theorem get_byt {s : ByteArray} {i : Nat} (h : i < s.size) : (s.get! i).toNat = byt s i := by
  rw [byt_get h]
  simp only [ByteArray.get!, ByteArray.getElem_eq_getElem_data]
  rw [getElem!_pos]
theorem dec_facts {s : ByteArray} {i : Nat} (h : i < s.size) :
    ((Utf8.decode s i).1 < 128 ↔ byt s i < 128) ∧ (byt s i < 128 → Utf8.decode s i = (byt s i, 1)) ∧
    ((Utf8.decode s i).1 = 215 ↔ i + 1 < s.size ∧ byt s i = 195 ∧ byt s (i + 1) = 151) ∧ ((Utf8.decode s i).1 = 215 → (Utf8.decode s i).2 = 2) ∧
    1 ≤ (Utf8.decode s i).2 ∧ i + (Utf8.decode s i).2 ≤ s.size ∧ (Utf8.decode s i).1 < 2000000 := by
  have hb := byt_lt s i
  have g0 : (s.get! (i + 0)).toNat = byt s i := get_byt h
  unfold Utf8.decode
  simp only [g0]
  by_cases h1 : byt s i < 128
  · rw [if_pos h1]
    refine ⟨by simp [h1], fun _ => rfl, ?_, ?_, by simp, by show i + 1 ≤ _; omega, by show byt s i < _; omega⟩
    · constructor
      · intro e; have e : byt s i = 215 := e; omega
      · rintro ⟨_, e, _⟩; omega
    · intro e; have e : byt s i = 215 := e; omega
  · rw [if_neg h1]
    have key : ∀ c wd : Nat, 128 ≤ c → c ≠ 215 → ¬ (i + 1 < s.size ∧ byt s i = 195 ∧ byt s (i + 1) = 151) → 1 ≤ wd → i + wd ≤ s.size → c < 2000000 →
        (((c, wd) : Nat × Nat).1 < 128 ↔ byt s i < 128) ∧ (byt s i < 128 → ((c, wd) : Nat × Nat) = (byt s i, 1)) ∧ (((c, wd) : Nat × Nat).1 = 215 ↔ i + 1 < s.size ∧ byt s i = 195 ∧ byt s (i + 1) = 151) ∧ (((c, wd) : Nat × Nat).1 = 215 → ((c, wd) : Nat × Nat).2 = 2) ∧ 1 ≤ ((c, wd) : Nat × Nat).2 ∧ i + ((c, wd) : Nat × Nat).2 ≤ s.size ∧ ((c, wd) : Nat × Nat).1 < 2000000 := by
      intro c wd a1 a2 a3 a4 a5 a6
      exact ⟨⟨fun e => by have e : c < 128 := e; omega, fun e => absurd e h1⟩, fun e => absurd e h1, ⟨fun e => absurd e a2, fun e => absurd e a3⟩, fun e => absurd e a2, a4, a5, a6⟩
    by_cases h2 : (byt s i / 32 == 6 && (decide (i + 1 < s.size) && (s.get! (i + 1)).toNat / 64 == 2)) = true
    · rw [if_pos h2]
      simp only [Bool.and_eq_true, beq_iff_eq, decide_eq_true_eq] at h2
      obtain ⟨h3, h4, h5⟩ := h2
      rw [get_byt h4] at h5 ⊢
      have hb1 := byt_lt s (i + 1)
      by_cases h6 : (byt s i % 32) * 64 + byt s (i + 1) % 64 ≥ 128
      · rw [if_pos h6]
        refine ⟨⟨fun e => by have e : (byt s i % 32) * 64 + byt s (i + 1) % 64 < 128 := e; omega, fun e => absurd e h1⟩, fun e => absurd e h1, ⟨fun e => ?_, fun e => ?_⟩, fun _ => rfl, by show 1 ≤ 2; decide, by show i + 2 ≤ _; omega, by show (byt s i % 32) * 64 + byt s (i + 1) % 64 < 2000000; omega⟩
        · have e : (byt s i % 32) * 64 + byt s (i + 1) % 64 = 215 := e
          exact ⟨h4, by omega, by omega⟩
        · show (byt s i % 32) * 64 + byt s (i + 1) % 64 = 215
          omega
      · rw [if_neg h6]
        exact key 65533 1 (by omega) (by omega) (fun e => h6 (by omega)) (by omega) (by omega) (by omega)
    · rw [if_neg h2]
      have hn : ¬ (i + 1 < s.size ∧ byt s i = 195 ∧ byt s (i + 1) = 151) := by
        rintro ⟨a, c, d⟩
        apply h2
        simp only [Bool.and_eq_true, beq_iff_eq, decide_eq_true_eq]
        exact ⟨by omega, a, by rw [get_byt a]; omega⟩
      by_cases h3 : (byt s i / 16 == 14 && (decide (i + 1 < s.size) && (s.get! (i + 1)).toNat / 64 == 2) && (decide (i + 2 < s.size) && (s.get! (i + 2)).toNat / 64 == 2)) = true
      · rw [if_pos h3]
        simp only [Bool.and_eq_true, beq_iff_eq, decide_eq_true_eq] at h3
        obtain ⟨⟨h4, h5, h6⟩, h7, h8⟩ := h3
        generalize (s.get! (i + 1)).toNat = x1 at *
        generalize (s.get! (i + 2)).toNat = x2 at *
        obtain ⟨c, hc⟩ : ∃ c, c = byt s i % 16 * 4096 + x1 % 64 * 64 + x2 % 64 := ⟨_, rfl⟩
        rw [← hc]
        by_cases h9 : (decide (c ≥ 2048) && Utf8.valid (c : Int)) = true
        · rw [if_pos h9]
          simp only [Bool.and_eq_true, decide_eq_true_eq] at h9
          exact key _ 3 (by omega) (by omega) hn (by omega) (by omega) (by omega)
        · rw [if_neg h9]
          exact key 65533 1 (by omega) (by omega) hn (by omega) (by omega) (by omega)
      · rw [if_neg h3]
        by_cases h4 : (byt s i / 8 == 30 && (decide (i + 1 < s.size) && (s.get! (i + 1)).toNat / 64 == 2) && (decide (i + 2 < s.size) && (s.get! (i + 2)).toNat / 64 == 2) && (decide (i + 3 < s.size) && (s.get! (i + 3)).toNat / 64 == 2)) = true
        · rw [if_pos h4]
          simp only [Bool.and_eq_true, beq_iff_eq, decide_eq_true_eq] at h4
          obtain ⟨⟨⟨h5, h6, h7⟩, h8, h9⟩, h10, h11⟩ := h4
          generalize (s.get! (i + 1)).toNat = x1 at *
          generalize (s.get! (i + 2)).toNat = x2 at *
          generalize (s.get! (i + 3)).toNat = x3 at *
          obtain ⟨c, hc⟩ : ∃ c, c = byt s i % 8 * 262144 + x1 % 64 * 4096 + x2 % 64 * 64 + x3 % 64 := ⟨_, rfl⟩
          rw [← hc]
          by_cases h12 : (decide (c ≥ 65536) && Utf8.valid (c : Int)) = true
          · rw [if_pos h12]
            simp only [Bool.and_eq_true, decide_eq_true_eq] at h12
            refine key _ 4 (by omega) (by omega) hn (by omega) (by omega) ?_
            have hv := h12.2
            unfold Utf8.valid at hv
            simp at hv
            omega
          · rw [if_neg h12]
            exact key 65533 1 (by omega) (by omega) hn (by omega) (by omega) (by omega)
        · rw [if_neg h4]
          exact key 65533 1 (by omega) (by omega) hn (by omega) (by omega) (by omega)
end Go.Proofs.YtgfhfkgdmidhpaaGreatDoor

namespace Go.Proofs.YtgfhfkgdmidhpaaGreatDoor
open Go.RowKit

/-- The marks of a text's beginning, up to pos. -/
structure MPre (s : ByteArray) (ms : List (Nat × Int)) (pos : Nat) : Prop where
  zero : ms = [] → pos = 0
  first : ∀ h : 0 < ms.length, ms[0].1 = 0
  at_ : ∀ k, (h : k < ms.length) → ms[k].1 < s.size ∧ ms[k].2 = (Utf8.decode s ms[k].1).1
  next : ∀ k, (h : k + 1 < ms.length) → ms[k + 1].1 = ms[k].1 + (Utf8.decode s ms[k].1).2
  last : ∀ k, (h : k < ms.length) → k + 1 = ms.length → pos = ms[k].1 + (Utf8.decode s ms[k].1).2
  len : ms.length ≤ pos
  le : pos ≤ s.size
theorem MPre.nil (s) : MPre s [] 0 := ⟨fun _ => rfl, fun h => absurd h (by simp), fun k h => absurd h (by simp), fun k h => absurd h (by simp), fun k h => absurd h (by simp), by simp, by simp⟩
theorem MPre.snoc {s ms pos} (h : MPre s ms pos) (hp : pos < s.size) : MPre s (ms ++ [(pos, ((Utf8.decode s pos).1 : Int))]) (pos + (Utf8.decode s pos).2) := by
  have hf := dec_facts hp
  have hl : (ms ++ [(pos, ((Utf8.decode s pos).1 : Int))]).length = ms.length + 1 := by simp
  refine ⟨by simp, ?_, ?_, ?_, ?_, ?_, hf.2.2.2.2.2.1⟩
  · intro h0
    by_cases hm : 0 < ms.length
    · rw [List.getElem_append_left hm]; exact h.first hm
    · have : ms = [] := by cases ms with | nil => rfl | cons _ _ => simp at hm
      subst this
      simp [h.zero rfl]
  · intro k hk
    by_cases hm : k < ms.length
    · rw [List.getElem_append_left hm]; exact h.at_ k hm
    · have : k = ms.length := by omega
      subst this
      simp [hp]
  · intro k hk
    rw [hl] at hk
    by_cases hm : k + 1 < ms.length
    · rw [List.getElem_append_left hm, List.getElem_append_left (by omega)]; exact h.next k hm
    · have : k + 1 = ms.length := by omega
      rw [List.getElem_append_left (show k < ms.length by omega), List.getElem_append_right (by omega)]
      simp [this]
      exact h.last k (by omega) this
  · intro k hk he
    rw [hl] at he
    have : k = ms.length := by omega
    subst this
    simp
  · rw [hl]; have := h.len; omega
/-- The marks of a whole text. -/
theorem MPre.marks {s ms} (h : MPre s ms s.size) : Marks s (ms ++ [(s.size, -1)]) := by
  have hl : (ms ++ [(s.size, (-1 : Int))]).length = ms.length + 1 := by simp
  have hlast : (ms ++ [(s.size, (-1 : Int))])[ms.length]'(by omega) = (s.size, -1) := by simp
  have hget : ∀ k, (hk : k < ms.length) → (ms ++ [(s.size, (-1 : Int))])[k]'(by omega) = ms[k] := fun k hk => List.getElem_append_left hk
  have hnx : ∀ k, (hk : k < ms.length) → ∃ h2 : k + 1 < (ms ++ [(s.size, (-1 : Int))]).length, ((ms ++ [(s.size, (-1 : Int))])[k + 1]).1 = ms[k].1 + (Utf8.decode s ms[k].1).2 := by
    intro k hk
    refine ⟨by omega, ?_⟩
    by_cases hm : k + 1 < ms.length
    · rw [hget _ hm]; exact h.next k hm
    · have e : k + 1 = ms.length := by omega
      have := h.last k hk e
      simp only [e, hlast]
      exact this
  refine ⟨by omega, ?_, ?_, ?_, ?_, ?_, ?_, ?_, ?_, ?_⟩
  · intro h0
    by_cases hm : 0 < ms.length
    · rw [hget 0 hm]; exact h.first hm
    · have : ms = [] := by cases ms with | nil => rfl | cons _ _ => simp at hm
      subst this
      simp [h.zero rfl]
  · intro k hk
    by_cases hm : k < ms.length
    · rw [hget k hm]; have := (h.at_ k hm).1; omega
    · have : k = ms.length := by omega
      subst this
      rw [hlast]; exact Nat.le_refl _
  · rw [hl]; have := h.len; omega
  · intro k hk c hc
    by_cases hm : k < ms.length
    · rw [hget k hm]
      obtain ⟨a1, a2⟩ := h.at_ k hm
      have hf := dec_facts a1
      rw [a2]
      constructor
      · intro e
        have e : (Utf8.decode s ms[k].1).1 = c := by omega
        have h1 := hf.1.1 (by omega)
        have h2 := hf.2.1 h1
        rw [h2] at e
        exact ⟨a1, e⟩
      · rintro ⟨_, e⟩
        have h2 := hf.2.1 (by omega)
        rw [h2]
        show ((byt s ms[k].1 : Nat) : Int) = c
        omega
    · have : k = ms.length := by omega
      subst this
      rw [hlast]
      exact ⟨fun e => by have e : (-1 : Int) = c := e; omega, fun e => absurd e.1 (Nat.lt_irrefl _)⟩
  · intro k hk h0 h1
    by_cases hm : k < ms.length
    · obtain ⟨h2, e⟩ := hnx k hm
      refine ⟨h2, ?_⟩
      rw [hget k hm] at h1 ⊢
      obtain ⟨a1, a2⟩ := h.at_ k hm
      have hf := dec_facts a1
      have h3 := hf.2.1 (hf.1.1 (by omega))
      rw [e, h3]
    · have : k = ms.length := by omega
      subst this
      rw [hlast] at h0
      exact absurd (show _ from h0) (by show ¬ _; simp)
  · intro k hk
    by_cases hm : k < ms.length
    · rw [hget k hm]
      obtain ⟨a1, a2⟩ := h.at_ k hm
      have hf := dec_facts a1
      rw [a2, ← hf.2.2.1]
      omega
    · have : k = ms.length := by omega
      subst this
      rw [hlast]
      exact ⟨fun e => by have e : (-1 : Int) = 215 := e; omega, fun e => absurd e.1 (by show ¬ s.size + 1 < s.size; omega)⟩
  · intro k hk h0
    by_cases hm : k < ms.length
    · obtain ⟨h2, e⟩ := hnx k hm
      refine ⟨h2, ?_⟩
      rw [hget k hm] at h0 ⊢
      obtain ⟨a1, a2⟩ := h.at_ k hm
      have hf := dec_facts a1
      rw [e, hf.2.2.2.1 (by omega)]
    · have : k = ms.length := by omega
      subst this
      rw [hlast] at h0
      exact absurd (show _ from h0) (by show ¬ _; simp)
  · intro k hk
    by_cases hm : k < ms.length
    · rw [hget k hm]
      obtain ⟨a1, a2⟩ := h.at_ k hm
      rw [a2]
      exact ⟨fun e => by omega, fun e => by omega⟩
    · have : k = ms.length := by omega
      subst this
      rw [hlast]
      exact ⟨fun _ => rfl, fun _ => rfl⟩
  · intro k hk
    by_cases hm : k < ms.length
    · rw [hget k hm]
      obtain ⟨a1, a2⟩ := h.at_ k hm
      have hf := dec_facts a1
      rw [a2]
      have := hf.2.2.2.2.2.2
      exact ⟨by omega, by omega⟩
    · have : k = ms.length := by omega
      subst this
      rw [hlast]
      exact ⟨by show (-1 : Int) ≤ -1; decide, by show (-1 : Int) < 2000000; decide⟩

theorem Keeps.iter {base : Nat} {T : TypeId → Prop} {w : World} {k : Nat} {s : ByteArray} {pos : Nat} (hk : w.heap[k]? = some (.stringIter s pos)) (p : Nat) : Keeps base T w (w.iterAt k s p) := by
  intro g cur e _ _ h
  rw [Lib.iterAt_other _ _ _ _ _ (fun e => by subst e; rw [h] at hk; cases hk)]
  exact h
theorem iter_grown {w w' : World} {k : Nat} {s : ByteArray} {pos : Nat} {base e size v n xs} (hk : w.heap[k]? = some (.stringIter s pos)) (ho : w.ownsRow base e size v n xs) (hg : w.grownBy w' v.ownBlock) : w'.heap[k]? = some (.stringIter s pos) := by
  refine blk_grown hg hk ?_
  intro j hj e1
  subst e1
  rcases ho.2 with ⟨rfl, _⟩ | ⟨g, cap, cur, rfl, _, hc, _⟩
  · simp [Value.ownBlock] at hj
  · simp only [Value.ownBlock, Option.some.injEq] at hj
    subst hj; rw [hk] at hc; cases hc
theorem Tryz.info275 : (Tryz.prog.info? 275).map (fun i => (i.zero, i.size, i.bytes)) = some (some (.agg #[.int .i64 0, .int .i32 0]), 2, 16) := by kernel_rfl
theorem mcs_snoc (l : List (Nat × Int)) (x : Nat × Int) : mcs l ++ [.int .i64 x.1, .int .i32 x.2] = mcs (l ++ [x]) := by simp [mcs, mc]

set_option maxRecDepth 100000 in
set_option maxHeartbeats 2000000 in
theorem marksOf_any (s : ByteArray) (w : World) (hs : s.size ≤ 200000) :
    Calls Tryz.prog 112 #[.string s] w fun e w' => ∃ ms g cap, e = .returned (.slice (some ⟨g, 0, none⟩) ms.length cap) ∧ Marks s ms ∧ w'.ownsRow w.heap.size 275 2 (.slice (some ⟨g, 0, none⟩) ms.length cap) ms.length (mcs ms) ∧ Below w.heap.size w w' := by
  obtain ⟨I9, Hi9, Hz9, Hs9, Hb9⟩ := info_parts Tryz.info275
  go_enter Tryz.func112, Tryz.ntmps112
  go_wp2_with (at_make; refine unstop ?_)
  refine stop ?_
  refine wpList_make_own w rfl _ _ 218 rfl w.heap.size 275 I9 (.agg #[.int .i64 0, .int .i32 0]) 2 Tryz.underlying218 Hi9 Hz9 Hs9 .i64 .i64 _ (s.size + 1) rfl rfl (by simp) (by rw [Hb9]; omega) (by unfold maxLen; omega) (Nat.le_refl _) ?_
  intro w1 o1 g1
  have F1 : Below w.heap.size w w1 := Below.grown (Below.refl _ _) g1 (Nat.le_refl _) (fun k hk => by cases hk)
  have hz1 : w.heap.size ≤ w1.heap.size := g1.size
  clear g1
  go_wp2_with fail
  go_loopw [3] (fun v wr => ∃ (ms : List (Nat × Int)) (pos : Nat), wr.heap[w1.heap.size]? = some (.stringIter s pos) ∧ wr.ownsRow w.heap.size 275 2 v ms.length (mcs ms) ∧ Hid (MPre s ms pos) ∧ ms.length ≤ pos ∧ pos ≤ s.size ∧ Hid (Below w.heap.size w wr) ∧ w1.heap.size < wr.heap.size) (fun _ wr => s.size - wr.iterPos w1.heap.size)
  case atStart => exact ⟨[], 0, heap_alloc_last w1 _, o1.alloc _, MPre.nil s, by simp, by simp, F1.alloc hz1 _, by show _ < (w1.alloc (.stringIter s 0)).heap.size; rw [World.size_alloc]; omega⟩
  case round =>
    clear o1 F1
    obtain ⟨ms, pos, hit, O, HM, hml, hps, F, hz⟩ := hrel
    have HPI : Hid (wr.iterPos w1.heap.size = pos) := iterPos_of hit
    obtain ⟨pv, cv, rfl⟩ := owns_slice2 O
    by_cases hp : pos < s.size
    · have hnx : ∀ ty, (Instr.next (.pointer (some ⟨w1.heap.size, 0, none⟩)) true ty).run Tryz.prog wr = _ := fun ty => Lib.run_next_any_at wr w1.heap.size s pos ty hit hp
      have hf := dec_facts hp
      have hit2 := Lib.iterAt_heap wr w1.heap.size s pos (pos + (Utf8.decode s pos).2) hit
      have O2 := owns_keeps O (Keeps.iter (base := w.heap.size) (T := fun _ => True) hit (pos + (Utf8.decode s pos).2)) trivial
      have F2 := stop (Lib.below_iterAt F.out (k := w1.heap.size) hz1 s (pos + (Utf8.decode s pos).2))
      have hz2 : w1.heap.size < (wr.iterAt w1.heap.size s (pos + (Utf8.decode s pos).2)).heap.size := by rw [Lib.iterAt_size]; exact hz
      have HM2 := stop (HM.out.snoc hp)
      obtain ⟨W1, hW1⟩ : ∃ W1, W1 = wr.iterAt w1.heap.size s (pos + (Utf8.decode s pos).2) := ⟨_, rfl⟩
      rw [← hW1] at hnx hit2 O2 F2 hz2
      have hd1 := hf.2.2.2.2.1
      have hd2 := hf.2.2.2.2.2.1
      clear hW1 hit O F HM hf hz
      go_wp2_with (at_builtin; refine unstop ?_)
      refine stop ?_
      have gB := heap_alloc_last W1 (.cells #[.int .i64 pos, .int .i32 ((Utf8.decode s pos).1 : Int)] 275)
      have O3 := O2.alloc (.cells #[.int .i64 pos, .int .i32 ((Utf8.decode s pos).1 : Int)] 275)
      have hz3 : w.heap.size ≤ (W1.alloc (.cells #[.int .i64 pos, .int .i32 ((Utf8.decode s pos).1 : Int)] 275)).heap.size := by rw [World.size_alloc]; omega
      refine app1 Tryz.underlying218 Tryz.info275 rfl (by decide) (by decide) rfl _ _ rfl rfl O3 gB rfl rfl (List.all_eq_true.1 rfl) (by omega) hz3 ?_
      intro v6 w6 o6 gr6
      have hit6 := iter_grown (blk_alloc hit2 _) O3 gr6
      have F6 := stop (Below.grown (F2.out.alloc (by omega) _) gr6 hz3 (fun j hj => (O3.lt j hj).1))
      have hz6 : w1.heap.size < w6.heap.size := by have := gr6.size; rw [World.size_alloc] at this; omega
      have o7 : w6.ownsRow w.heap.size 275 2 v6 (ms ++ [(pos, ((Utf8.decode s pos).1 : Int))]).length (mcs (ms ++ [(pos, ((Utf8.decode s pos).1 : Int))])) := by
        rw [← mcs_snoc, List.length_append]; exact o6
      obtain ⟨p6, c6, rfl⟩ := owns_slice2 o6
      clear gB O3 hz3 gr6 o6 hnx O2 F2 hit2 hz2
      go_wp2_with fail
      go_roundw
      case rel => exact ⟨_, _, hit6, o7, HM2, by simp; omega, hd2, F6, hz6⟩
      case measure => rw [iterPos_of hit6, HPI.out]; omega
    · have hnx : ∀ ty, (Instr.next (.pointer (some ⟨w1.heap.size, 0, none⟩)) true ty).run Tryz.prog wr = _ := fun ty => Lib.run_next_end_at wr w1.heap.size s pos ty hit hp
      have he : pos = s.size := by omega
      have HM2 : Hid (Marks s (ms ++ [(s.size, -1)])) := by have := HM.out; rw [he] at this; exact this.marks
      clear HM he
      go_wp2_with (at_builtin; refine unstop ?_)
      refine stop ?_
      have gB := heap_alloc_last wr (.cells #[.int .i64 s.size, .int .i32 (-1)] 275)
      have O3 := O.alloc (.cells #[.int .i64 s.size, .int .i32 (-1)] 275)
      have hz3 : w.heap.size ≤ (wr.alloc (.cells #[.int .i64 s.size, .int .i32 (-1)] 275)).heap.size := by rw [World.size_alloc]; omega
      refine app1 Tryz.underlying218 Tryz.info275 rfl (by decide) (by decide) rfl _ _ rfl rfl O3 gB rfl rfl (List.all_eq_true.1 rfl) (by omega) hz3 ?_
      intro v6 w6 o6 gr6
      have F6 := stop (Below.grown (F.out.alloc (by omega) _) gr6 hz3 (fun j hj => (O3.lt j hj).1))
      have o7 : w6.ownsRow w.heap.size 275 2 v6 (ms ++ [(s.size, (-1 : Int))]).length (mcs (ms ++ [(s.size, (-1 : Int))])) := by
        rw [← mcs_snoc, List.length_append]; exact o6
      obtain ⟨p6, c6, h6⟩ := owns_slice2 o7
      subst h6
      obtain ⟨g6, rfl, _, _⟩ := owns_form o7 (by simp)
      clear gB O3 hz3 gr6 o6 hnx O F
      go_wp2_with fail
      go_ret
      exact ⟨ms ++ [(s.size, -1)], g6, c6, by simp, HM2.out, o7, F6.out⟩
end Go.Proofs.YtgfhfkgdmidhpaaGreatDoor

namespace Go.Proofs.YtgfhfkgdmidhpaaGreatDoor
open Go.RowKit

set_option maxRecDepth 100000 in
set_option maxHeartbeats 1000000 in
theorem catch_p (B k0 k1 k2 : Nat) (b0 : B ≤ k0) (b1 : B ≤ k1) (b2 : B ≤ k2) (v0 v1 v2 : Value) (p : Int) (w : World) (h0 : w.cell? ⟨k0, 0, none⟩ = some v0) (h1 : w.cell? ⟨k1, 0, none⟩ = some v1) (h2 : w.cell? ⟨k2, 0, none⟩ = some v2)
    (z0 : w.frozen? ⟨k0, 0, none⟩ = false) (z1 : w.frozen? ⟨k1, 0, none⟩ = false) (z2 : w.frozen? ⟨k2, 0, none⟩ = false) (d1 : k0 ≠ k1) (d2 : k0 ≠ k2) (d3 : k1 ≠ k2) (l0 : k0 < w.heap.size) (l1 : k1 < w.heap.size) (l2 : k2 < w.heap.size) :
    CallsD Tryz.prog 111 #[.pointer (some ⟨k0, 0, none⟩), .pointer (some ⟨k1, 0, none⟩), .pointer (some ⟨k2, 0, none⟩)] (.panicking ({ v := .iface 217 (.agg #[.int .i64 p]), recovered := false } :: [])) w fun e u' w' =>
      e = .returned (.tuple #[]) ∧ u' = .panicking ({ v := .iface 217 (.agg #[.int .i64 p]), recovered := true } :: []) ∧
      w'.cell? ⟨k0, 0, none⟩ = some (.slice none 0 0) ∧ w'.cell? ⟨k1, 0, none⟩ = some (.int .i64 p) ∧ w'.cell? ⟨k2, 0, none⟩ = some (.bool false) ∧ Below B w w' := by
  refine callsD_of_wpS Tryz.func111 rfl fun c₀ cs hu => ?_
  apply wpS_seq
  apply wpS_region
  simp [wpOpsS, go_sem, recoverD, hu, Tryz.ntmps111, Exit.thenS]
  refine wpS_of_wp ?_
  have hta : ∀ w : World, (Instr.typeAssert (.iface 217 (.agg #[.int .i64 p])) 20 217 true).run Tryz.prog w = .ok (.tuple #[.agg #[.int .i64 p], .bool true]) w := fun w => by kernel_rfl
  go_wp2
  go_region
  all_goals
    go_wp2
    refine ⟨rfl, .panicking [{ v := .iface 217 (.agg #[.int .i64 p]), recovered := true }], rfl, .tuple #[], by simp [results, Tryz.results111], rfl, rfl, ?_, ?_, ?_, ?_⟩
    · simp [go_sem, h0, l0]
    · simp [go_sem, h1, l1]
    · simp [go_sem, h2, l2]
    · exact (((((Below.refl B w).setCell (p := ⟨k0, 0, none⟩) b0 _).setCell (p := ⟨k1, 0, none⟩) b1 _).setCell (p := ⟨k2, 0, none⟩) b2 _).alloc (by rw [size_set, size_set, size_set]; omega) _).drew

set_option maxRecDepth 100000 in
set_option maxHeartbeats 1000000 in
theorem catch_i (a0 a1 a2 : Value) (w : World) :
    CallsD Tryz.prog 111 #[a0, a1, a2] .returning w fun e u' w' => e = .returned (.tuple #[]) ∧ u' = .returning ∧ w' = w := by
  refine callsD_of_wpS Tryz.func111 rfl fun c₀ cs hu => ?_
  apply wpS_seq
  apply wpS_region
  simp [wpOpsS, go_sem, recoverD, hu, Tryz.ntmps111, Exit.thenS]
  refine wpS_of_wp ?_
  go_wp2
  refine ⟨rfl, .returning, ?_, .tuple #[], by simp [results, Tryz.results111], rfl, rfl, rfl⟩
  cases c₀
  simp_all

end Go.Proofs.YtgfhfkgdmidhpaaGreatDoor

namespace Go.Proofs.YtgfhfkgdmidhpaaGreatDoor
open Go.RowKit

def RdPost (s : ByteArray) (w : World) (e : Ending) (w' : World) : Prop :=
  (∃ v, e = .returned (.tuple #[v, .int .i64 0, .bool true]) ∧ parBad s < 0 ∧ PBs w' w.heap.size (parF s).bs v ∧ Below w.heap.size w w') ∨
  (e = .returned (.tuple #[.slice none 0 0, .int .i64 (parBad s), .bool false]) ∧ 0 ≤ parBad s ∧ Below w.heap.size w w')
theorem Fr.below {b : Nat} {u v : World} (h : Fr b u v) {B : Nat} (hB : B ≤ b) (hs : B ≤ u.heap.size) : Below B u v := ⟨h.os, h.tape, h.output, h.size, fun k hk => h.block k (by omega) (by omega)⟩

set_option maxRecDepth 100000 in
set_option maxHeartbeats 2000000 in
theorem codeRead_any (s : ByteArray) (w : World) (hs : s.size ≤ 200000) :
    Calls Tryz.prog 67 #[.string s] w fun e w' => RdPost s w e w' := by
  have hmf : ∀ (fn : Fn) (first cap : Array Value) (w : World), (Instr.makeFunc fn first cap).run Tryz.prog w = .ok (.func fn first cap) w := fun _ _ _ _ => rfl
  go_enter_defers Tryz.func67, Tryz.ntmps67
  go_wp2_with fail
  refine (marksOf_any s _ hs).mono ?_
  rintro e w1 ⟨ms, g, cap, rfl, HM, O, f1⟩
  rw [World.size_alloc, World.size_alloc, World.size_alloc] at O f1
  have F : Below w.heap.size w w1 := ((((Below.refl _ _).alloc (Nat.le_refl _) _).alloc (by simp) _).alloc (by simp; omega) _).trans (f1.mono (by omega))
  have hz1 : w.heap.size + 3 ≤ w1.heap.size := by have := f1.size; simp at this; omega
  have g0 : w1.heap[w.heap.size]? = some (.cells #[.slice none 0 0] 38 (0, 0)) := by
    rw [f1.block _ (by omega), Below.heap_alloc _ _ _ (by simp; omega), Below.heap_alloc _ _ _ (by simp)]; exact heap_alloc_last w _
  have g1 : w1.heap[w.heap.size + 1]? = some (.cells #[.int .i64 0] 3 (0, 0)) := by
    rw [f1.block _ (by omega), Below.heap_alloc _ _ _ (by simp)]; simpa using heap_alloc_last (w.alloc _) _
  have g2 : w1.heap[w.heap.size + 2]? = some (.cells #[.bool false] 4 (0, 0)) := by
    rw [f1.block _ (by omega)]; simpa using heap_alloc_last ((w.alloc _).alloc _) _
  have hge := (O.lt g rfl)
  clear f1
  go_wp2_with fail
  have hP : RS (w1.alloc (.cells #[.string s, .slice (some ⟨g, 0, none⟩) ms.length cap, .int .i64 0] 221)) w1.heap.size g s 0 :=
    ⟨ms, 0, cap, HM, ⟨HM.pos, HM.first HM.pos⟩, ⟨⟨221, heap_alloc_last w1 _⟩, (owns_base O (Nat.zero_le _)).alloc _, by omega⟩⟩
  refine (program_any hP hs).mono ?_
  rintro e w2 (⟨v, rfl, hpb, OB, f2⟩ | ⟨rfl, hpb, f2⟩)
  · have HB := stop hpb
    rw [World.size_alloc] at OB
    have F2 : Below w.heap.size w w2 := (F.alloc (by omega) _).trans (f2.below (by omega) (by simp; omega))
    replace g0 := blk_fr f2 (blk_alloc g0 _) (by omega)
    replace g1 := blk_fr f2 (blk_alloc g1 _) (by omega)
    replace g2 := blk_fr f2 (blk_alloc g2 _) (by omega)
    obtain ⟨pv, cv, rfl⟩ := OB.slice
    have q0 := cell_of g0
    have z0 := frozen_of g0
    have q1 := cell_of g1
    have z1 := frozen_of g1
    have q2 := cell_of g2
    have z2 := frozen_of g2
    clear hpb hP HM O f2 F hge
    go_wp2_with fail
    refine leaves_cons (f := 111) (args := #[.pointer (some ⟨w.heap.size, 0, none⟩), .pointer (some ⟨w.heap.size + 1, 0, none⟩), .pointer (some ⟨w.heap.size + 1 + 1, 0, none⟩)]) (by simp) (by simp [go_sem]) ?_
    refine (catch_i _ _ _ _).mono ?_
    rintro e u' w'' ⟨rfl, rfl, rfl⟩
    refine ⟨.tuple #[.slice pv (parF s).bs.length cv, .int .i64 0, .bool true], by simp [results, Tryz.results67, go_sem, q0, q1, q2], .inl ⟨_, rfl, HB.out, ?_, ?_⟩⟩
    · exact ((((OB.base (show w.heap.size + 3 ≤ w1.heap.size + 1 by omega)).keeps (Keeps.setk T7 _ w.heap.size 0 _ (by omega))).keeps (Keeps.setk T7 _ (w.heap.size + 1) 0 _ (by omega))).keeps (Keeps.setk T7 _ (w.heap.size + 1 + 1) 0 _ (by omega))).base (by omega)
    · exact ((F2.setCell (p := ⟨w.heap.size, 0, none⟩) (Nat.le_refl _) _).setCell (p := ⟨w.heap.size + 1, 0, none⟩) (show w.heap.size ≤ w.heap.size + 1 by omega) _).setCell (p := ⟨w.heap.size + 1 + 1, 0, none⟩) (show w.heap.size ≤ w.heap.size + 1 + 1 by omega) _
  · have HB := stop hpb
    have F2 : Below w.heap.size w w2 := (F.alloc (by omega) _).trans (f2.below (by omega) (by simp; omega))
    replace g0 := blk_fr f2 (blk_alloc g0 _) (by omega)
    replace g1 := blk_fr f2 (blk_alloc g1 _) (by omega)
    replace g2 : w2.heap[w.heap.size + 1 + 1]? = _ := blk_fr f2 (blk_alloc g2 _) (by omega)
    have l0 := lt_of_block g0
    have l1 := lt_of_block g1
    have l2 := lt_of_block g2
    clear hpb hP HM O f2 F hge
    go_wp2_with fail
    refine leaves_cons (f := 111) (args := #[.pointer (some ⟨w.heap.size, 0, none⟩), .pointer (some ⟨w.heap.size + 1, 0, none⟩), .pointer (some ⟨w.heap.size + 1 + 1, 0, none⟩)]) (by simp) (by simp [go_sem]) ?_
    refine (catch_p w.heap.size w.heap.size (w.heap.size + 1) (w.heap.size + 1 + 1) (Nat.le_refl _) (by omega) (by omega) _ _ _ (parBad s) w2 (cell_of g0 0) (cell_of g1 0) (cell_of g2 0) (frozen_of g0 0) (frozen_of g1 0) (frozen_of g2 0) (by omega) (by omega) (by omega) l0 l1 l2).mono ?_
    rintro e u' w'' ⟨rfl, rfl, c0, c1, c2, f3⟩
    refine ⟨.tuple #[.slice none 0 0, .int .i64 (parBad s), .bool false], by simp [results, Tryz.results67, go_sem, c0, c1, c2], .inr ⟨rfl, HB.out, F2.trans f3⟩⟩
end Go.Proofs.YtgfhfkgdmidhpaaGreatDoor
