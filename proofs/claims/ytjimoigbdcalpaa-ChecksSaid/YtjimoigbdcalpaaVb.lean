import Derived.Test.YtjimoigbdcalpaaVa
import Derived.Lib.OthersKept
namespace Go.Proofs.Ytjimoigbdcalpaa
open Go.RowKit

/-- The marks of a text's beginning, up to pos. -/
structure MPre (s : ByteArray) (ms : List (Nat × Int)) (pos : Nat) : Prop where
  zero : ms = [] → pos = 0
  first : ∀ h : 0 < ms.length, ms[0].1 = 0
  at_ : ∀ k, (h : k < ms.length) → ms[k].1 < s.size ∧ ms[k].2 = (Utf8.decode s ms[k].1).1
  next : ∀ k, (h : k + 1 < ms.length) → ms[k + 1].1 = ms[k].1 + (Utf8.decode s ms[k].1).2
  last : ∀ k, (h : k < ms.length) → k + 1 = ms.length → pos = ms[k].1 + (Utf8.decode s ms[k].1).2
  len : ms.length ≤ pos
  le : pos ≤ s.size
theorem MPre.nil (s) : MPre s [] 0 := ⟨fun _ => rfl, fun h => absurd h (by simp), fun k h => absurd h (by simp), fun k h => absurd h (by simp), fun k h => absurd h (by simp), by simp, by simp⟩
theorem MPre.snoc {s ms pos} (h : MPre s ms pos) (hp : pos < s.size) : MPre s (ms ++ [(pos, ((Utf8.decode s pos).1 : Int))]) (pos + (Utf8.decode s pos).2) := by
  have hf := dec_facts hp
  have hl : (ms ++ [(pos, ((Utf8.decode s pos).1 : Int))]).length = ms.length + 1 := by simp
  refine ⟨by simp, ?_, ?_, ?_, ?_, ?_, hf.2.2.2.2.2.1⟩
  · intro h0
    by_cases hm : 0 < ms.length
    · rw [List.getElem_append_left hm]; exact h.first hm
    · have : ms = [] := by cases ms with | nil => rfl | cons _ _ => simp at hm
      subst this
      simp [h.zero rfl]
  · intro k hk
    by_cases hm : k < ms.length
    · rw [List.getElem_append_left hm]; exact h.at_ k hm
    · have : k = ms.length := by omega
      subst this
      simp [hp]
  · intro k hk
    rw [hl] at hk
    by_cases hm : k + 1 < ms.length
    · rw [List.getElem_append_left hm, List.getElem_append_left (by omega)]; exact h.next k hm
    · have : k + 1 = ms.length := by omega
      rw [List.getElem_append_left (show k < ms.length by omega), List.getElem_append_right (by omega)]
      simp [this]
      exact h.last k (by omega) this
  · intro k hk he
    rw [hl] at he
    have : k = ms.length := by omega
    subst this
    simp
  · rw [hl]; have := h.len; omega
/-- The marks of a whole text. -/
theorem MPre.marks {s ms} (h : MPre s ms s.size) : Marks s (ms ++ [(s.size, -1)]) := by
  have hl : (ms ++ [(s.size, (-1 : Int))]).length = ms.length + 1 := by simp
  have hlast : (ms ++ [(s.size, (-1 : Int))])[ms.length]'(by omega) = (s.size, -1) := by simp
  have hget : ∀ k, (hk : k < ms.length) → (ms ++ [(s.size, (-1 : Int))])[k]'(by omega) = ms[k] := fun k hk => List.getElem_append_left hk
  have hnx : ∀ k, (hk : k < ms.length) → ∃ h2 : k + 1 < (ms ++ [(s.size, (-1 : Int))]).length, ((ms ++ [(s.size, (-1 : Int))])[k + 1]).1 = ms[k].1 + (Utf8.decode s ms[k].1).2 := by
    intro k hk
    refine ⟨by omega, ?_⟩
    by_cases hm : k + 1 < ms.length
    · rw [hget _ hm]; exact h.next k hm
    · have e : k + 1 = ms.length := by omega
      have := h.last k hk e
      simp only [e, hlast]
      exact this
  refine ⟨by omega, ?_, ?_, ?_, ?_, ?_, ?_, ?_, ?_, ?_⟩
  · intro h0
    by_cases hm : 0 < ms.length
    · rw [hget 0 hm]; exact h.first hm
    · have : ms = [] := by cases ms with | nil => rfl | cons _ _ => simp at hm
      subst this
      simp [h.zero rfl]
  · intro k hk
    by_cases hm : k < ms.length
    · rw [hget k hm]; have := (h.at_ k hm).1; omega
    · have : k = ms.length := by omega
      subst this
      rw [hlast]; exact Nat.le_refl _
  · rw [hl]; have := h.len; omega
  · intro k hk c hc
    by_cases hm : k < ms.length
    · rw [hget k hm]
      obtain ⟨a1, a2⟩ := h.at_ k hm
      have hf := dec_facts a1
      rw [a2]
      constructor
      · intro e
        have e : (Utf8.decode s ms[k].1).1 = c := by omega
        have h1 := hf.1.1 (by omega)
        have h2 := hf.2.1 h1
        rw [h2] at e
        exact ⟨a1, e⟩
      · rintro ⟨_, e⟩
        have h2 := hf.2.1 (by omega)
        rw [h2]
        show ((byt s ms[k].1 : Nat) : Int) = c
        omega
    · have : k = ms.length := by omega
      subst this
      rw [hlast]
      exact ⟨fun e => by have e : (-1 : Int) = c := e; omega, fun e => absurd e.1 (Nat.lt_irrefl _)⟩
  · intro k hk h0 h1
    by_cases hm : k < ms.length
    · obtain ⟨h2, e⟩ := hnx k hm
      refine ⟨h2, ?_⟩
      rw [hget k hm] at h1 ⊢
      obtain ⟨a1, a2⟩ := h.at_ k hm
      have hf := dec_facts a1
      have h3 := hf.2.1 (hf.1.1 (by omega))
      rw [e, h3]
    · have : k = ms.length := by omega
      subst this
      rw [hlast] at h0
      exact absurd (show _ from h0) (by show ¬ _; simp)
  · intro k hk
    by_cases hm : k < ms.length
    · rw [hget k hm]
      obtain ⟨a1, a2⟩ := h.at_ k hm
      have hf := dec_facts a1
      rw [a2, ← hf.2.2.1]
      omega
    · have : k = ms.length := by omega
      subst this
      rw [hlast]
      exact ⟨fun e => by have e : (-1 : Int) = 215 := e; omega, fun e => absurd e.1 (by show ¬ s.size + 1 < s.size; omega)⟩
  · intro k hk h0
    by_cases hm : k < ms.length
    · obtain ⟨h2, e⟩ := hnx k hm
      refine ⟨h2, ?_⟩
      rw [hget k hm] at h0 ⊢
      obtain ⟨a1, a2⟩ := h.at_ k hm
      have hf := dec_facts a1
      rw [e, hf.2.2.2.1 (by omega)]
    · have : k = ms.length := by omega
      subst this
      rw [hlast] at h0
      exact absurd (show _ from h0) (by show ¬ _; simp)
  · intro k hk
    by_cases hm : k < ms.length
    · rw [hget k hm]
      obtain ⟨a1, a2⟩ := h.at_ k hm
      rw [a2]
      exact ⟨fun e => by omega, fun e => by omega⟩
    · have : k = ms.length := by omega
      subst this
      rw [hlast]
      exact ⟨fun _ => rfl, fun _ => rfl⟩
  · intro k hk
    by_cases hm : k < ms.length
    · rw [hget k hm]
      obtain ⟨a1, a2⟩ := h.at_ k hm
      have hf := dec_facts a1
      rw [a2]
      have := hf.2.2.2.2.2.2
      exact ⟨by omega, by omega⟩
    · have : k = ms.length := by omega
      subst this
      rw [hlast]
      exact ⟨by show (-1 : Int) ≤ -1; decide, by show (-1 : Int) < 2000000; decide⟩

theorem Keeps.iter {base : Nat} {T : TypeId → Prop} {w : World} {k : Nat} {s : ByteArray} {pos : Nat} (hk : w.heap[k]? = some (.stringIter s pos)) (p : Nat) : Keeps base T w (w.iterAt k s p) := by
  intro g cur e _ _ h
  rw [Lib.iterAt_other _ _ _ _ _ (fun e => by subst e; rw [h] at hk; cases hk)]
  exact h
theorem iter_grown {w w' : World} {k : Nat} {s : ByteArray} {pos : Nat} {base e size v n xs} (hk : w.heap[k]? = some (.stringIter s pos)) (ho : w.ownsRow base e size v n xs) (hg : w.grownBy w' v.ownBlock) : w'.heap[k]? = some (.stringIter s pos) := by
  refine blk_grown hg hk ?_
  intro j hj e1
  subst e1
  rcases ho.2 with ⟨rfl, _⟩ | ⟨g, cap, cur, rfl, _, hc, _⟩
  · simp [Value.ownBlock] at hj
  · simp only [Value.ownBlock, Option.some.injEq] at hj
    subst hj; rw [hk] at hc; cases hc
theorem Try.info91 : (Try.prog.info? 91).map (fun i => (i.zero, i.size, i.bytes)) = some (some (.agg #[.int .i64 0, .int .i32 0]), 2, 16) := by kernel_rfl
theorem mcs_snoc (l : List (Nat × Int)) (x : Nat × Int) : mcs l ++ [.int .i64 x.1, .int .i32 x.2] = mcs (l ++ [x]) := by simp [mcs, mc]

set_option maxRecDepth 100000 in
set_option maxHeartbeats 2000000 in
theorem marksOf_any (s : ByteArray) (w : World) (hs : s.size ≤ 200000) :
    Calls Try.prog 16 #[.string s] w fun e w' => ∃ ms g cap, e = .returned (.slice (some ⟨g, 0, none⟩) ms.length cap) ∧ Marks s ms ∧ w'.ownsRow w.heap.size 91 2 (.slice (some ⟨g, 0, none⟩) ms.length cap) ms.length (mcs ms) ∧ Below w.heap.size w w' := by
  obtain ⟨I9, Hi9, Hz9, Hs9, Hb9⟩ := info_parts Try.info91
  go_enter Try.func16, Try.ntmps16
  go_wp2_with (at_make; refine unstop ?_)
  refine stop ?_
  refine wpList_make_own w rfl _ _ 60 rfl w.heap.size 91 I9 (.agg #[.int .i64 0, .int .i32 0]) 2 Try.underlying60 Hi9 Hz9 Hs9 .i64 .i64 _ (s.size + 1) rfl rfl (by simp) (by rw [Hb9]; omega) (by unfold maxLen; omega) (Nat.le_refl _) ?_
  intro w1 o1 g1
  have F1 : Below w.heap.size w w1 := Below.grown (Below.refl _ _) g1 (Nat.le_refl _) (fun k hk => by cases hk)
  have hz1 : w.heap.size ≤ w1.heap.size := g1.size
  clear g1
  go_wp2_with fail
  go_loopw [3] (fun v wr => ∃ (ms : List (Nat × Int)) (pos : Nat), wr.heap[w1.heap.size]? = some (.stringIter s pos) ∧ wr.ownsRow w.heap.size 91 2 v ms.length (mcs ms) ∧ Hid (MPre s ms pos) ∧ ms.length ≤ pos ∧ pos ≤ s.size ∧ Hid (Below w.heap.size w wr) ∧ w1.heap.size < wr.heap.size) (fun _ wr => s.size - wr.iterPos w1.heap.size)
  case atStart => exact ⟨[], 0, heap_alloc_last w1 _, o1.alloc _, MPre.nil s, by simp, by simp, F1.alloc hz1 _, by show _ < (w1.alloc (.stringIter s 0)).heap.size; rw [World.size_alloc]; omega⟩
  case round =>
    clear o1 F1
    obtain ⟨ms, pos, hit, O, HM, hml, hps, F, hz⟩ := hrel
    have HPI : Hid (wr.iterPos w1.heap.size = pos) := iterPos_of hit
    obtain ⟨pv, cv, rfl⟩ := owns_slice2 O
    by_cases hp : pos < s.size
    · have hnx : ∀ ty, (Instr.next (.pointer (some ⟨w1.heap.size, 0, none⟩)) true ty).run Try.prog wr = _ := fun ty => Lib.run_next_any_at wr w1.heap.size s pos ty hit hp
      have hf := dec_facts hp
      have hit2 := Lib.iterAt_heap wr w1.heap.size s pos (pos + (Utf8.decode s pos).2) hit
      have O2 := owns_keeps O (Keeps.iter (base := w.heap.size) (T := fun _ => True) hit (pos + (Utf8.decode s pos).2)) trivial
      have F2 := stop (Lib.below_iterAt F.out (k := w1.heap.size) hz1 s (pos + (Utf8.decode s pos).2))
      have hz2 : w1.heap.size < (wr.iterAt w1.heap.size s (pos + (Utf8.decode s pos).2)).heap.size := by rw [Lib.iterAt_size]; exact hz
      have HM2 := stop (HM.out.snoc hp)
      obtain ⟨W1, hW1⟩ : ∃ W1, W1 = wr.iterAt w1.heap.size s (pos + (Utf8.decode s pos).2) := ⟨_, rfl⟩
      rw [← hW1] at hnx hit2 O2 F2 hz2
      have hd1 := hf.2.2.2.2.1
      have hd2 := hf.2.2.2.2.2.1
      clear hW1 hit O F HM hf hz
      go_wp2_with (at_builtin; refine unstop ?_)
      refine stop ?_
      have gB := heap_alloc_last W1 (.cells #[.int .i64 pos, .int .i32 ((Utf8.decode s pos).1 : Int)] 91)
      have O3 := O2.alloc (.cells #[.int .i64 pos, .int .i32 ((Utf8.decode s pos).1 : Int)] 91)
      have hz3 : w.heap.size ≤ (W1.alloc (.cells #[.int .i64 pos, .int .i32 ((Utf8.decode s pos).1 : Int)] 91)).heap.size := by rw [World.size_alloc]; omega
      refine app1 Try.underlying60 Try.info91 rfl (by decide) (by decide) rfl _ _ rfl rfl O3 gB rfl rfl (List.all_eq_true.1 rfl) (by omega) hz3 ?_
      intro v6 w6 o6 gr6
      have hit6 := iter_grown (blk_alloc hit2 _) O3 gr6
      have F6 := stop (Below.grown (F2.out.alloc (by omega) _) gr6 hz3 (fun j hj => (O3.lt j hj).1))
      have hz6 : w1.heap.size < w6.heap.size := by have := gr6.size; rw [World.size_alloc] at this; omega
      have o7 : w6.ownsRow w.heap.size 91 2 v6 (ms ++ [(pos, ((Utf8.decode s pos).1 : Int))]).length (mcs (ms ++ [(pos, ((Utf8.decode s pos).1 : Int))])) := by
        rw [← mcs_snoc, List.length_append]; exact o6
      obtain ⟨p6, c6, rfl⟩ := owns_slice2 o6
      clear gB O3 hz3 gr6 o6 hnx O2 F2 hit2 hz2
      go_wp2_with fail
      go_roundw
      case rel => exact ⟨_, _, hit6, o7, HM2, by simp; omega, hd2, F6, hz6⟩
      case measure => rw [iterPos_of hit6, HPI.out]; omega
    · have hnx : ∀ ty, (Instr.next (.pointer (some ⟨w1.heap.size, 0, none⟩)) true ty).run Try.prog wr = _ := fun ty => Lib.run_next_end_at wr w1.heap.size s pos ty hit hp
      have he : pos = s.size := by omega
      have HM2 : Hid (Marks s (ms ++ [(s.size, -1)])) := by have := HM.out; rw [he] at this; exact this.marks
      clear HM he
      go_wp2_with (at_builtin; refine unstop ?_)
      refine stop ?_
      have gB := heap_alloc_last wr (.cells #[.int .i64 s.size, .int .i32 (-1)] 91)
      have O3 := O.alloc (.cells #[.int .i64 s.size, .int .i32 (-1)] 91)
      have hz3 : w.heap.size ≤ (wr.alloc (.cells #[.int .i64 s.size, .int .i32 (-1)] 91)).heap.size := by rw [World.size_alloc]; omega
      refine app1 Try.underlying60 Try.info91 rfl (by decide) (by decide) rfl _ _ rfl rfl O3 gB rfl rfl (List.all_eq_true.1 rfl) (by omega) hz3 ?_
      intro v6 w6 o6 gr6
      have F6 := stop (Below.grown (F.out.alloc (by omega) _) gr6 hz3 (fun j hj => (O3.lt j hj).1))
      have o7 : w6.ownsRow w.heap.size 91 2 v6 (ms ++ [(s.size, (-1 : Int))]).length (mcs (ms ++ [(s.size, (-1 : Int))])) := by
        rw [← mcs_snoc, List.length_append]; exact o6
      obtain ⟨p6, c6, h6⟩ := owns_slice2 o7
      subst h6
      obtain ⟨g6, rfl, _, _⟩ := owns_form o7 (by simp)
      clear gB O3 hz3 gr6 o6 hnx O F
      go_wp2_with fail
      go_ret
      exact ⟨ms ++ [(s.size, -1)], g6, c6, by simp, HM2.out, o7, F6.out⟩
end Go.Proofs.Ytjimoigbdcalpaa
