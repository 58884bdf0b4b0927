import Derived.Test.YtgfhfkgdmidhpaaGreatDoorG13
namespace Go.Proofs.YtgfhfkgdmidhpaaGreatDoor
open Go.RowKit

set_option maxRecDepth 100000 in
set_option maxHeartbeats 2000000 in
theorem cloneB (l : List Nat) (base : Nat) (v : Value) (w : World) (h : w.ownsRow base 143 1 v l.length (icell l)) (hl : l.length ≤ 1000000) : 
    Calls Tryz.prog 162 #[v] w fun e w' => ∃ v', e = .returned v' ∧ w'.ownsRow w.heap.size 143 1 v' l.length (icell l) ∧ Below w.heap.size w w' := by
  have HO := stop h
  rcases h.2 with ⟨rfl, h0⟩ | ⟨g, c, cur, rfl, hbg, hg, hnc, hcm, hcs, ht⟩
  · have he : ∀ w, (binOp BinOp.eql 80 (.slice none 0 0) (.slice none 0 0)).run Tryz.prog w = .ok (.bool true) w := fun w => by kernel_rfl
    go_enter Tryz.func162, Tryz.ntmps162
    go_wp2_with (at_builtin; refine unstop ?_)
    go_ret
    exact ⟨_, rfl, ⟨HO.out.1, HO.out.2.imp id (fun ⟨_, _, _, e, _⟩ => by cases e)⟩, Below.refl _ _⟩
  · clear h
    have HG := stop hg
    clear hg ht
    have he : ∀ w, (binOp BinOp.eql 80 (.slice (some ⟨g, 0, none⟩) l.length c) (.slice none 0 0)).run Tryz.prog w = .ok (.bool false) w := fun w => by kernel_rfl
    go_enter Tryz.func162, Tryz.ntmps162
    go_wp2_with (at_builtin; refine unstop ?_)
    refine stop ?_
    obtain ⟨I, Hi, Hz, Hs, Hb⟩ := info_parts Tryz.info143
    refine wpList_append_own _ rfl _ _ 80 rfl w.heap.size 143 I (.int .i64 0) 1 8 Tryz.underlying80 Hi Hz Hs Hb rfl (by decide) (.slice (some ⟨w.heap.size, 0, none⟩) 0 0) 0 [] rfl (World.ownsRow_made w #[] 0 (Nat.le_refl _) (by decide) rfl) ⟨g, 0, none⟩ l.length c (icell l) rfl (by simp [icell]) (fun j u hj => ?_) (fun u hu => ?_) (by unfold maxLen; omega) (by omega) (by simp) ?_
    · exact (HO.out.alloc (.cells #[] 143)).cells rfl j u hj
    · obtain ⟨n, _, rfl⟩ := List.mem_map.1 hu
      rfl
    · intro v1 w1 o1 g1 _
      rw [Nat.zero_add, List.nil_append] at o1
      have O1 := stop (And.intro o1 g1)
      clear o1 g1
      go_wp2_with fail
      go_ret
      exact ⟨v1, rfl, O1.out.1, Below.grown ((Below.refl _ _).alloc (Nat.le_refl _) _) O1.out.2 (by simp) (fun k hk => by cases hk; exact Nat.le_refl _)⟩

set_option maxRecDepth 100000 in
set_option maxHeartbeats 2000000 in
theorem itemsB (l : List Nat) (base : Nat) (v : Value) (w : World) (h : w.ownsRow base 143 1 v l.length (icell l)) (hl : l.length ≤ 1000000) : 
    Calls Tryz.prog 116 #[.agg #[v]] w fun e w' => ∃ v', e = .returned v' ∧ w'.ownsRow w.heap.size 143 1 v' l.length (icell l) ∧ Below w.heap.size w w' := by
  obtain ⟨p, c, rfl⟩ := owns_slice2 h
  go_enter Tryz.func116, Tryz.ntmps116
  go_wp2_with fail
  refine (cloneB l base _ _ (h.alloc _) hl).mono ?_
  rintro e w1 ⟨v1, rfl, o1, f1⟩
  have O1 : Hid (w1.ownsRow w.heap.size 143 1 v1 l.length (icell l) ∧ Below w.heap.size w w1) := ⟨owns_base o1 (by simp), ((Below.refl _ _).alloc (Nat.le_refl _) _).trans (f1.mono (by simp))⟩
  clear o1 f1
  go_wp2_with fail
  go_ret
  exact ⟨v1, rfl, O1.out.1, O1.out.2⟩
end Go.Proofs.YtgfhfkgdmidhpaaGreatDoor

namespace Go.Proofs.YtgfhfkgdmidhpaaGreatDoor
open Go.RowKit

theorem Tryz.info82 : (Tryz.prog.info? 82).map (fun i => (i.zero, i.size, i.bytes)) = some (some (.agg #[.slice none 0 0]), 1, 24) := by kernel_rfl

/-- The goals of an end, by its method. -/
theorem goalsM_any (e : REnd) (hop : e.op = 46 ∨ e.op = 62 ∨ e.op = 63) : ∃ T x fn, endVal e = .iface T x ∧ (∀ w : World, (method 500 T x "Goals").run Tryz.prog w = .ok (fn, x) w) ∧
    ∀ w : World, Calls Tryz.prog fn #[x] w fun r w' => ∃ v, r = .returned v ∧ w'.ownsRow w.heap.size 145 2 v (goalsF e).length (pcs (goalsF e)) ∧ Below w.heap.size w w' := by
  rcases hop with hop | hop | hop
  · obtain ⟨a1, a2⟩ := endStop hop
    refine ⟨_, _, 307, a1, fun w => by kernel_rfl, fun w => (goalsK96 w).mono ?_⟩
    rintro r w' ⟨rfl, f⟩
    rw [a2]
    exact ⟨_, rfl, World.ownsRow_nil _ _ _ _, f⟩
  · obtain ⟨a1, a2⟩ := endJump hop
    refine ⟨_, _, 311, a1, fun w => by kernel_rfl, fun w => (goalsK97 _ _ w).mono ?_⟩
    rintro r w' ⟨g, rfl, o, f⟩
    rw [a2]
    exact ⟨_, rfl, o, f⟩
  · obtain ⟨a1, a2⟩ := endFork hop
    refine ⟨_, _, 319, a1, fun w => by kernel_rfl, fun w => (goalsK100 _ _ _ _ _ _ w).mono ?_⟩
    rintro r w' ⟨g, rfl, o, f⟩
    rw [a2]
    exact ⟨_, rfl, o, f⟩

/-- A row of sets of block numbers, each with a row of its own. -/
def Sets (base : Nat) (w : World) (v : Value) (n : Nat) (f : Nat → List Nat) : Prop :=
  ∃ us : List Value, w.ownsRow base 82 1 v n us ∧ (∀ (k : Nat) (u : Value), us[k]? = some u → w.ownsRow base 143 1 u (f k).length (icell (f k))) ∧ (∀ (j k : Nat) (u u' : Value), us[j]? = some u → us[k]? = some u' → j ≠ k → u.ownBlock = none ∨ u.ownBlock ≠ u'.ownBlock)

theorem Sets.at {base : Nat} {w : World} {p : Option Addr} {c n : Nat} {f : Nat → List Nat} (h : Sets base w (.slice p n c) n f) {k : Nat} (hk : k < n) :
    ∃ g u, p = some ⟨g, 0, none⟩ ∧ base ≤ g ∧ w.cell? ⟨g, k, none⟩ = some u ∧ w.frozen? ⟨g, k, none⟩ = false ∧ w.ownsRow base 143 1 u (f k).length (icell (f k)) ∧ u.ownBlock ≠ some g := by
  obtain ⟨us, a, b, c1⟩ := h
  obtain ⟨g, rfl, hb, hg⟩ := owns_form a (by omega)
  have hl : us.length = n := by have := a.1; omega
  have hu : us[k]? = some us[k] := List.getElem?_eq_getElem (by omega)
  have o := b k _ hu
  refine ⟨g, us[k], rfl, hb, owns_cell a hu, owns_fz a k, o, fun e => ?_⟩
  rcases a.2 with ⟨h0, _⟩ | ⟨g', cap', cur', hv, _, hc', _⟩
  · cases h0
  · cases hv
    rcases o.2 with ⟨h0, _⟩ | ⟨g2, cap2, cur2, hv2, _, hc2, _⟩
    · rw [h0] at e; cases e
    · rw [hv2] at e
      cases e
      rw [hc'] at hc2; cases hc2

/-- Rows of other types are kept when an item is put in. -/
theorem Keeps.put {base base1 base2 : Nat} {T : TypeId → Prop} {w w' : World} {g k n c m : Nat} {us ys : List Value} {u u' : Value} (a : w.ownsRow base1 82 1 (.slice (some ⟨g, 0, none⟩) n c) n us) (b : w.ownsRow base2 143 1 u m ys) (hp : Put g k u u' w w') (h1 : ¬ T 82) (h2 : ¬ T 143) : Keeps base T w w' := by
  intro j cur e _ ht hh
  rw [hp.block j (lt_of_block hh) ?_ ?_]
  · exact hh
  · rintro rfl
    rcases a.2 with ⟨h0, _⟩ | ⟨g', cap', cur', hv, _, hc', _⟩
    · cases h0
    · cases hv; rw [hc'] at hh; cases hh; exact h1 ht
  · intro e1
    rcases b.2 with ⟨rfl, _⟩ | ⟨g2, cap2, cur2, rfl, _, hc2, _⟩
    · cases e1
    · cases e1; rw [hc2] at hh; cases hh; exact h2 ht

theorem Sets.put {base : Nat} {w w' : World} {g c n : Nat} {f : Nat → List Nat} (h : Sets base w (.slice (some ⟨g, 0, none⟩) n c) n f) {k : Nat} (hk : k < n) {u u' : Value} (hu : w.cell? ⟨g, k, none⟩ = some u)
    (hp : Put g k u u' w w') {l : List Nat} (o' : w'.ownsRow base 143 1 u' l.length (icell l)) (f' : Nat → List Nat) (hf : f' k = l) (hf2 : ∀ j, j ≠ k → f' j = f j) : Sets base w' (.slice (some ⟨g, 0, none⟩) n c) n f' := by
  obtain ⟨us, a, b, d⟩ := h
  have hl : us.length = n := by have := a.1; omega
  have huk : us[k]? = some us[k] := List.getElem?_eq_getElem (by omega)
  have e0 : us[k] = u := by have := owns_cell a huk; rw [hu] at this; cases this; rfl
  rw [e0] at huk
  have ob := b k u huk
  refine ⟨us.set k u', ?_, ?_, ?_⟩
  · have s := owns_store a k u'
    obtain ⟨s1, s2⟩ := s
    refine ⟨s1, s2.imp id ?_⟩
    rintro ⟨g', cap', cur', hv, b1, c1, d1⟩
    cases hv
    exact ⟨g, c, cur', rfl, b1, by rw [hp.at_]; exact c1, d1⟩
  · intro j x hx
    rw [List.getElem?_set] at hx
    by_cases hj : k = j
    · subst hj
      rw [if_pos rfl, if_pos (by omega)] at hx
      cases hx
      rw [hf]; exact o'
    · rw [if_neg hj] at hx
      rw [hf2 j (fun e => hj e.symm)]
      have oj := b j x hx
      obtain ⟨o1, o2⟩ := oj
      refine ⟨o1, o2.imp id ?_⟩
      rintro ⟨g2, cap2, cur2, rfl, b2, c2, d2⟩
      refine ⟨g2, cap2, cur2, rfl, b2, ?_, d2⟩
      rw [hp.block g2 (lt_of_block c2) ?_ ?_]
      · exact c2
      · rintro rfl
        rcases a.2 with ⟨h0, _⟩ | ⟨g', cap', cur', hv, _, hc', _⟩
        · cases h0
        · cases hv; rw [hc'] at c2; cases c2
      · rcases d j k _ _ hx huk (fun e => hj e.symm) with h0 | h0
        · cases h0
        · exact h0
  · have lt : ∀ (j : Nat) (x : Value), us[j]? = some x → ∀ b, x.ownBlock = some b → b < w.heap.size := fun j x hx bb hb => ((b j x hx).lt bb hb).2
    intro i j x y hx hy hij
    rw [List.getElem?_set] at hx hy
    by_cases hi : k = i
    · subst hi
      rw [if_pos rfl, if_pos (by omega)] at hx
      rw [if_neg hij] at hy
      cases hx
      rcases hp.new with h0 | ⟨g', h0, hle⟩
      · rw [h0]; exact d k j u y huk hy hij
      · right
        rw [h0]
        intro e1
        have := lt j y hy g' e1.symm
        omega
    · rw [if_neg hi] at hx
      by_cases hj : k = j
      · subst hj
        rw [if_pos rfl, if_pos (by omega)] at hy
        cases hy
        rcases hp.new with h0 | ⟨g', h0, hle⟩
        · rw [h0]; exact d i k x u hx huk hij
        · right
          rw [h0]
          intro e1
          have := lt i x hx g' e1
          omega
      · rw [if_neg hj] at hy
        exact d i j x y hx hy hij

theorem Sets.keeps {base : Nat} {w w' : World} {v : Value} {n : Nat} {f : Nat → List Nat} (h : Sets base w v n f) (k : Below w.heap.size w w') : Sets base w' v n f := by
  obtain ⟨us, a, b, d⟩ := h
  exact ⟨us, owns_keeps a (Keeps.below (T := fun _ => True) k) trivial, fun j u hu => owns_keeps (b j u hu) (Keeps.below (T := fun _ => True) k) trivial, d⟩
theorem Sets.congr {base : Nat} {w : World} {v : Value} {n : Nat} {f f' : Nat → List Nat} (h : Sets base w v n f) (e : ∀ k, k < n → f' k = f k) : Sets base w v n f' := by
  obtain ⟨us, a, b, d⟩ := h
  have hl : us.length = n := by have := a.1; omega
  refine ⟨us, a, fun j u hu => ?_, d⟩
  have hj : j < n := by
    rcases Nat.lt_or_ge j us.length with h | h
    · omega
    · rw [List.getElem?_eq_none h] at hu; cases hu
  rw [e j hj]; exact b j u hu
theorem Put.below {base : Nat} {w0 w w' : World} {g k m : Nat} {u u' : Value} {ys : List Value} (F : Below base w0 w) (hb : base ≤ g) (o : w.ownsRow base 143 1 u m ys) (hp : Put g k u u' w w') (hs : base ≤ w.heap.size) : Below base w0 w' := by
  refine F.trans ⟨hp.os, hp.tape, hp.output, hp.size, fun j hj => hp.block j (by omega) (by omega) (fun e => ?_)⟩
  have := (o.lt j e.symm).1
  omega
end Go.Proofs.YtgfhfkgdmidhpaaGreatDoor

namespace Go.Proofs.YtgfhfkgdmidhpaaGreatDoor
open Go.RowKit

def aheIn (bs : List RBlk) (m : Nat) (gs : List (Nat × Nat)) (k : Nat) : List Nat := if hasF (nums gs) k then aheTo bs k m ++ [m] else aheTo bs k m
theorem aheIn_nil (bs m k) : aheIn bs m [] k = aheTo bs k m := rfl
theorem behF_has (gl : List (Nat × Nat)) (h : gl.length ≤ 2) (k : Nat) : hasF (behF gl) k = hasF (nums gl) k := by
  match gl, h with
  | [], _ => rfl
  | [x], _ => rfl
  | [x, y], _ =>
    unfold behF hasF nums
    by_cases e : y.1 = x.1
    · simp [e]
    · simp [e]
theorem aheIn_all {bs : List RBlk} {m : Nat} (hm : m < bs.length) (k : Nat) : aheIn bs m (goalsF bs[m].e) k = aheTo bs k (m + 1) := by
  rw [aheTo_succ, aheIn, aheB, List.getElem?_eq_getElem hm]
  simp only [behF_has _ (goalsF_le _)]
theorem aheTo_lt {bs : List RBlk} {k m y : Nat} (h : y ∈ aheTo bs k m) : y < m := by
  have := (List.mem_filter.1 h).1
  simpa using this
theorem aheTo_srt (bs : List RBlk) (k m : Nat) : (aheTo bs k m).Pairwise (· < ·) := List.pairwise_lt_range.filter _
theorem aheIn_srt (bs : List RBlk) (m : Nat) (gs k) : (aheIn bs m gs k).Pairwise (· < ·) := by
  unfold aheIn
  cases hasF (nums gs) k
  · exact aheTo_srt _ _ _
  · refine List.pairwise_append.2 ⟨aheTo_srt _ _ _, by simp, fun a ha b hb => ?_⟩
    have := aheTo_lt ha
    simp at hb; omega
theorem aheIn_len (bs : List RBlk) (m : Nat) (gs k) : (aheIn bs m gs k).length ≤ m + 1 := by
  have := aheTo_len bs k m
  unfold aheIn
  cases hasF (nums gs) k <;> simp <;> omega
theorem aheIn_old {bs : List RBlk} {m : Nat} {gs : List (Nat × Nat)} {t : Nat} (ht : t < gs.length) (h : hasF (nums (gs.take t)) gs[t].1 = true) (k : Nat) : aheIn bs m (gs.take (t + 1)) k = aheIn bs m (gs.take t) k := by
  unfold aheIn
  rw [show hasF (nums (gs.take (t + 1))) k = hasF (nums (gs.take t)) k from ?_]
  rw [List.take_succ_eq_append_getElem ht]
  unfold hasF nums at *
  rw [List.map_append, Bool.eq_iff_iff]
  simp only [List.contains_iff_mem, List.mem_append] at *
  constructor
  · rintro (h1 | h1)
    · exact h1
    · simp at h1; rw [h1]; exact h
  · exact .inl
theorem aheIn_oldMem {bs : List RBlk} {m : Nat} {gs : List (Nat × Nat)} {k : Nat} (h : hasF (nums gs) k = true) : m ∈ aheIn bs m gs k := by simp [aheIn, h]
theorem aheIn_new {bs : List RBlk} {m : Nat} {gs : List (Nat × Nat)} {t : Nat} (ht : t < gs.length) (h : hasF (nums (gs.take t)) gs[t].1 = false) : aheIn bs m (gs.take (t + 1)) gs[t].1 = aheIn bs m (gs.take t) gs[t].1 ++ [m] := by
  unfold aheIn
  rw [h, show hasF (nums (gs.take (t + 1))) gs[t].1 = true from ?_]
  · rfl
  rw [List.take_succ_eq_append_getElem ht]
  unfold hasF nums
  rw [List.map_append, List.contains_iff_mem]
  exact List.mem_append.2 (.inr (by simp))
theorem aheIn_newLt {bs : List RBlk} {m : Nat} {gs : List (Nat × Nat)} {k : Nat} (h : hasF (nums gs) k = false) : ∀ y ∈ aheIn bs m gs k, y < m := by
  intro y hy
  rw [aheIn, h] at hy
  exact aheTo_lt hy
theorem aheIn_other {bs : List RBlk} {m : Nat} {gs : List (Nat × Nat)} {t : Nat} (ht : t < gs.length) {k : Nat} (hk : k ≠ gs[t].1) : aheIn bs m (gs.take (t + 1)) k = aheIn bs m (gs.take t) k := by
  unfold aheIn
  rw [show hasF (nums (gs.take (t + 1))) k = hasF (nums (gs.take t)) k from ?_]
  rw [List.take_succ_eq_append_getElem ht]
  unfold hasF nums at *
  rw [List.map_append, Bool.eq_iff_iff]
  simp only [List.contains_iff_mem, List.mem_append]
  constructor
  · rintro (h1 | h1)
    · exact h1
    · simp at h1; exact absurd h1 hk
  · exact .inl

theorem get_rep {n k : Nat} {x u : Value} (h : (List.replicate n x)[k]? = some u) : k < n ∧ u = x := by
  rw [List.getElem?_replicate] at h
  split at h
  · cases h; exact ⟨by assumption, rfl⟩
  · cases h
def GPost (e : REnd) (w : World) (r : Ending) (w' : World) : Prop := ∃ v, r = .returned v ∧ w'.ownsRow w.heap.size 145 2 v (goalsF e).length (pcs (goalsF e)) ∧ Below w.heap.size w w'
theorem gM46 (e : REnd) (h : goalsF e = []) (w : World) : Calls Tryz.prog 307 #[.agg #[]] w (GPost e w) := by
  refine (goalsK96 w).mono ?_
  rintro r w' ⟨rfl, f⟩
  exact ⟨_, rfl, by rw [h]; exact World.ownsRow_nil _ _ _ _, f⟩
theorem gM62 (e : REnd) (h : goalsF e = [e.one]) (w : World) : Calls Tryz.prog 311 #[.agg #[.int .i64 e.one.1, .int .i64 e.one.2]] w (GPost e w) := by
  refine (goalsK97 _ _ w).mono ?_
  rintro r w' ⟨g, rfl, o, f⟩
  exact ⟨_, rfl, by rw [h]; exact o, f⟩
theorem gM63 (e : REnd) (h : goalsF e = [e.one, e.two]) (w : World) : Calls Tryz.prog 319 #[.agg #[.int .i64 e.a.1, .int .i64 e.a.2, .int .i64 e.one.1, .int .i64 e.one.2, .int .i64 e.two.1, .int .i64 e.two.2]] w (GPost e w) := by
  refine (goalsK100 _ _ _ _ _ _ w).mono ?_
  rintro r w' ⟨g, rfl, o, f⟩
  exact ⟨_, rfl, by rw [h]; exact o, f⟩
theorem made_set (n : Nat) : (madeCells (Value.agg #[.slice none 0 0]).cells (n * 1)).toList = List.replicate n (.slice none 0 0) := by
  rw [show (Value.agg #[.slice none 0 0]).cells = #[.slice none 0 0] from rfl, Nat.mul_one]
  apply List.ext_getElem
  · simp [madeCells]
  · intro i h1 h2
    simp [madeCells, Nat.mod_one]

set_option maxRecDepth 100000 in
set_option maxHeartbeats 2000000 in
theorem aheadP_any (bs : List RBlk) (base : Nat) (v : Value) (w : World) (h : PBs w base bs v) (hn : bs.length ≤ 1000) (hgl : Hid (∀ b ∈ bs, ∀ p ∈ goalsF b.e, p.1 < bs.length)) : 
    Calls Tryz.prog 41 #[v] w fun e w' => ∃ v', e = .returned v' ∧ Sets w.heap.size w' v' bs.length (aheF bs) ∧ Below w.heap.size w w' := by
  obtain ⟨pv, cv, rfl⟩ := h.slice
  obtain ⟨I9, Hi9, Hz9, Hs9, Hb9⟩ := info_parts Tryz.info82
  go_enter Tryz.func41, Tryz.ntmps41
  go_wp2_with (at_make; refine unstop ?_)
  refine stop ?_
  refine wpList_make_full _ rfl _ _ 83 rfl w.heap.size 82 I9 (.agg #[.slice none 0 0]) 1 Tryz.underlying83 Hi9 Hz9 Hs9 .i64 .i64 _ _ bs.length rfl rfl rfl rfl (by rw [Hb9]; omega) (by unfold maxLen; omega) (by simp) ?_
  intro w1 o1 g1
  have S1 : Sets w.heap.size w1 (.slice (some ⟨w.heap.size, 0, none⟩) bs.length bs.length) bs.length (fun k => aheTo bs k 0) := by
    refine ⟨_, o1, fun k u hu => ?_, fun j k u u' hu hu' _ => ?_⟩
    · rw [made_set] at hu
      obtain ⟨_, rfl⟩ := get_rep hu
      exact World.ownsRow_nil _ _ _ _
    · rw [made_set] at hu
      obtain ⟨_, rfl⟩ := get_rep hu
      exact .inl rfl
  have F1 : Hid (Below w.heap.size w w1) := Below.grown (Below.refl _ _) g1 (Nat.le_refl _) (fun k hk => by cases hk)
  clear o1 g1 Hi9 Hz9 Hs9 Hb9
  go_wp2_with fail
  go_loopw [13] (fun i wr => ∃ m : Nat, m ≤ bs.length ∧ i = .int .i64 m ∧ Sets w.heap.size wr (.slice (some ⟨w.heap.size, 0, none⟩) bs.length bs.length) bs.length (fun k => aheTo bs k m) ∧ Hid (Below w.heap.size w wr)) (fun i _ => bs.length - (intOf i).toNat)
  case atStart => exact ⟨0, by omega, rfl, S1, F1⟩
  case round =>
    clear S1 F1
    obtain ⟨m, hm, rfl, S, F⟩ := hrel
    by_cases hlt : m < bs.length
    · have hB := h.keeps (Keeps.below F.out)
      obtain ⟨g, qc, cc, ps, cs1, rfl, _, hgz, hop, OC, OS, d0, d1, d2, d3⟩ := hB.at hlt
      have hz0 := F.out.size
      clear hB OC OS
      rcases hop with hop | hop | hop
      · obtain ⟨a1, a2⟩ := endStop hop
        rw [a1] at d3
        have hmt : ∀ w : World, (method 500 309 (.agg #[]) "Goals").run Tryz.prog w = .ok (307, (.agg #[])) w := fun w => by kernel_rfl
        have HA := stop a2
        clear a1 a2 hop
        go_wp2_with fail
        refine (gM46 bs[m].e HA.out _).mono ?_
        rintro e w2 ⟨vg, rfl, OG, f2⟩
        obtain ⟨pg, cg, rfl⟩ := owns_slice2 OG
        have hz1 : w.heap.size ≤ w2.heap.size := by have := f2.size; rw [World.size_alloc] at this; omega
        have F2 : Hid (Below w.heap.size w w2) := (F.out.alloc hz0 _).trans (f2.mono (by rw [World.size_alloc]; omega))
        have S2 := S.keeps (((Below.refl _ _).alloc (Nat.le_refl _) (.cells #[.int .i64 bs[m].at_, .slice qc bs[m].chs.length cc, .slice ps bs[m].sts.length cs1, .iface 309 (.agg #[])] 104)).trans (f2.mono (by rw [World.size_alloc]; omega)))
        have HGL : Hid (∀ p ∈ goalsF bs[m].e, p.1 < bs.length) := hgl.out _ (List.getElem_mem hlt)
        have hg2 := goalsF_le bs[m].e
        have HAI : Hid (∀ k, aheIn bs m (goalsF bs[m].e) k = aheTo bs k (m + 1)) := aheIn_all hlt
        clear d0 d1 d2 d3 f2 hmt S F HA
        generalize hgs : goalsF bs[m].e = gs at *
        clear hgs
        go_wp2_with fail
        go_loopw [22] (fun j wz => ∃ t : Nat, t ≤ gs.length ∧ j = .int .i64 t ∧ Sets w.heap.size wz (.slice (some ⟨w.heap.size, 0, none⟩) bs.length bs.length) bs.length (aheIn bs m (gs.take t)) ∧ Hid (Below w.heap.size w wz) ∧ wz.ownsRow (wr.heap.size + 1) 145 2 (.slice pg gs.length cg) gs.length (pcs gs)) (fun j _ => gs.length - (intOf j).toNat)
        case atStart =>
          refine ⟨0, by omega, rfl, S2.congr (fun k _ => aheIn_nil bs m k), F2, ?_⟩
          rw [World.size_alloc] at OG
          exact OG
        case round =>
          clear OG S2 F2 hz1 hz0
          obtain ⟨t, ht, rfl, S, F, OG⟩ := hrel
          by_cases htl : t < gs.length
          · obtain ⟨gf, rfl, _, hgf⟩ := owns_form OG (by omega)
            have f0 := owns_cell OG (pcs_at htl).1
            have f1 := owns_cell OG (pcs_at htl).2
            have hk : gs[t].1 < bs.length := HGL.out _ (List.getElem_mem htl)
            have hz := F.out.size
            have S2 := S.keeps ((Below.refl _ _).alloc (Nat.le_refl _) (.cells #[.int .i64 gs[t].1, .int .i64 gs[t].2] 145))
            have F2 := stop (F.out.alloc hz (.cells #[.int .i64 gs[t].1, .int .i64 gs[t].2] 145))
            have OG2 := OG.alloc (.cells #[.int .i64 gs[t].1, .int .i64 gs[t].2] 145)
            obtain ⟨g9, u, e9, hb9, hc9, hf9, o9, n9⟩ := S2.at hk
            cases e9
            have hlen := aheIn_len bs m (gs.take t) gs[t].1
            have HU := stop (And.intro hc9 (And.intro hf9 (And.intro o9 n9)))
            clear hc9 hf9 o9 n9 S F OG
            by_cases hh : hasF (nums (gs.take t)) gs[t].1 = true
            · have HH := stop hh
              clear hh
              go_wp2_with fail
              refine (addOldB (aheIn bs m (gs.take t) gs[t].1) m (aheIn_oldMem HH.out) (aheIn_srt _ _ _ _) w.heap.size gs[t].1 w.heap.size u _ HU.out.1 HU.out.2.2.1 (by omega)).mono ?_
              rintro e w5 ⟨rfl, hw5⟩
              have S5 := S2.congr (fun k _ => aheIn_old htl HH.out k)
              rw [← hw5.out] at S5 F2 OG2
              clear HU S2 hw5
              go_wp2_with fail
              go_roundw
              case rel => exact ⟨t + 1, by omega, by go_num, S5, F2, OG2⟩
              case measure => simp [intOf]; omega
            · have HH := stop (Bool.eq_false_iff.2 hh)
              clear hh
              go_wp2_with fail
              refine (addNewB (aheIn bs m (gs.take t) gs[t].1) m (aheIn_newLt HH.out) (aheIn_srt _ _ _ _) w.heap.size gs[t].1 w.heap.size u _ HU.out.1 HU.out.2.1 HU.out.2.2.1 (by omega) (by rw [World.size_alloc]; omega) HU.out.2.2.2).mono ?_
              rintro e w5 ⟨rfl, u5, h5⟩
              have S5 : Sets w.heap.size w5 (.slice (some ⟨w.heap.size, 0, none⟩) bs.length bs.length) bs.length (aheIn bs m (gs.take (t + 1))) := S2.put hk HU.out.1 h5.out.2 (by rw [List.length_append]; exact h5.out.1) _ (aheIn_new htl HH.out) (fun j hj => aheIn_other htl hj)
              have F5 := stop (Put.below F2.out (Nat.le_refl _) HU.out.2.2.1 h5.out.2 (by rw [World.size_alloc]; omega))
              obtain ⟨us2, a2, _, _⟩ := S2
              have OG5 := owns_keeps OG2 (Keeps.put (T := fun e => e = 145) a2 HU.out.2.2.1 h5.out.2 (by decide) (by decide)) rfl
              clear HU h5 a2 F2 OG2
              go_wp2_with fail
              go_roundw
              case rel => exact ⟨t + 1, by omega, by go_num, S5, F5, OG5⟩
              case measure => simp [intOf]; omega
          · have hte : t = gs.length := by omega
            subst hte
            have S5 := S.congr (f' := fun k => aheTo bs k (m + 1)) (fun k _ => by rw [List.take_length]; exact (HAI.out k).symm)
            clear S OG
            go_wp2_with fail
            go_roundw
            case rel => exact ⟨m + 1, by omega, by go_num, S5, F⟩
            case measure => simp [intOf]; omega
      · obtain ⟨a1, a2⟩ := endJump hop
        rw [a1] at d3
        have hmt : ∀ w : World, (method 500 312 (.agg #[.int .i64 bs[m].e.one.1, .int .i64 bs[m].e.one.2]) "Goals").run Tryz.prog w = .ok (311, (.agg #[.int .i64 bs[m].e.one.1, .int .i64 bs[m].e.one.2])) w := fun w => by kernel_rfl
        have HA := stop a2
        clear a1 a2 hop
        go_wp2_with fail
        refine (gM62 bs[m].e HA.out _).mono ?_
        rintro e w2 ⟨vg, rfl, OG, f2⟩
        obtain ⟨pg, cg, rfl⟩ := owns_slice2 OG
        have hz1 : w.heap.size ≤ w2.heap.size := by have := f2.size; rw [World.size_alloc] at this; omega
        have F2 : Hid (Below w.heap.size w w2) := (F.out.alloc hz0 _).trans (f2.mono (by rw [World.size_alloc]; omega))
        have S2 := S.keeps (((Below.refl _ _).alloc (Nat.le_refl _) (.cells #[.int .i64 bs[m].at_, .slice qc bs[m].chs.length cc, .slice ps bs[m].sts.length cs1, .iface 312 (.agg #[.int .i64 bs[m].e.one.1, .int .i64 bs[m].e.one.2])] 104)).trans (f2.mono (by rw [World.size_alloc]; omega)))
        have HGL : Hid (∀ p ∈ goalsF bs[m].e, p.1 < bs.length) := hgl.out _ (List.getElem_mem hlt)
        have hg2 := goalsF_le bs[m].e
        have HAI : Hid (∀ k, aheIn bs m (goalsF bs[m].e) k = aheTo bs k (m + 1)) := aheIn_all hlt
        clear d0 d1 d2 d3 f2 hmt S F HA
        generalize hgs : goalsF bs[m].e = gs at *
        clear hgs
        go_wp2_with fail
        go_loopw [22] (fun j wz => ∃ t : Nat, t ≤ gs.length ∧ j = .int .i64 t ∧ Sets w.heap.size wz (.slice (some ⟨w.heap.size, 0, none⟩) bs.length bs.length) bs.length (aheIn bs m (gs.take t)) ∧ Hid (Below w.heap.size w wz) ∧ wz.ownsRow (wr.heap.size + 1) 145 2 (.slice pg gs.length cg) gs.length (pcs gs)) (fun j _ => gs.length - (intOf j).toNat)
        case atStart =>
          refine ⟨0, by omega, rfl, S2.congr (fun k _ => aheIn_nil bs m k), F2, ?_⟩
          rw [World.size_alloc] at OG
          exact OG
        case round =>
          clear OG S2 F2 hz1 hz0
          obtain ⟨t, ht, rfl, S, F, OG⟩ := hrel
          by_cases htl : t < gs.length
          · obtain ⟨gf, rfl, _, hgf⟩ := owns_form OG (by omega)
            have f0 := owns_cell OG (pcs_at htl).1
            have f1 := owns_cell OG (pcs_at htl).2
            have hk : gs[t].1 < bs.length := HGL.out _ (List.getElem_mem htl)
            have hz := F.out.size
            have S2 := S.keeps ((Below.refl _ _).alloc (Nat.le_refl _) (.cells #[.int .i64 gs[t].1, .int .i64 gs[t].2] 145))
            have F2 := stop (F.out.alloc hz (.cells #[.int .i64 gs[t].1, .int .i64 gs[t].2] 145))
            have OG2 := OG.alloc (.cells #[.int .i64 gs[t].1, .int .i64 gs[t].2] 145)
            obtain ⟨g9, u, e9, hb9, hc9, hf9, o9, n9⟩ := S2.at hk
            cases e9
            have hlen := aheIn_len bs m (gs.take t) gs[t].1
            have HU := stop (And.intro hc9 (And.intro hf9 (And.intro o9 n9)))
            clear hc9 hf9 o9 n9 S F OG
            by_cases hh : hasF (nums (gs.take t)) gs[t].1 = true
            · have HH := stop hh
              clear hh
              go_wp2_with fail
              refine (addOldB (aheIn bs m (gs.take t) gs[t].1) m (aheIn_oldMem HH.out) (aheIn_srt _ _ _ _) w.heap.size gs[t].1 w.heap.size u _ HU.out.1 HU.out.2.2.1 (by omega)).mono ?_
              rintro e w5 ⟨rfl, hw5⟩
              have S5 := S2.congr (fun k _ => aheIn_old htl HH.out k)
              rw [← hw5.out] at S5 F2 OG2
              clear HU S2 hw5
              go_wp2_with fail
              go_roundw
              case rel => exact ⟨t + 1, by omega, by go_num, S5, F2, OG2⟩
              case measure => simp [intOf]; omega
            · have HH := stop (Bool.eq_false_iff.2 hh)
              clear hh
              go_wp2_with fail
              refine (addNewB (aheIn bs m (gs.take t) gs[t].1) m (aheIn_newLt HH.out) (aheIn_srt _ _ _ _) w.heap.size gs[t].1 w.heap.size u _ HU.out.1 HU.out.2.1 HU.out.2.2.1 (by omega) (by rw [World.size_alloc]; omega) HU.out.2.2.2).mono ?_
              rintro e w5 ⟨rfl, u5, h5⟩
              have S5 : Sets w.heap.size w5 (.slice (some ⟨w.heap.size, 0, none⟩) bs.length bs.length) bs.length (aheIn bs m (gs.take (t + 1))) := S2.put hk HU.out.1 h5.out.2 (by rw [List.length_append]; exact h5.out.1) _ (aheIn_new htl HH.out) (fun j hj => aheIn_other htl hj)
              have F5 := stop (Put.below F2.out (Nat.le_refl _) HU.out.2.2.1 h5.out.2 (by rw [World.size_alloc]; omega))
              obtain ⟨us2, a2, _, _⟩ := S2
              have OG5 := owns_keeps OG2 (Keeps.put (T := fun e => e = 145) a2 HU.out.2.2.1 h5.out.2 (by decide) (by decide)) rfl
              clear HU h5 a2 F2 OG2
              go_wp2_with fail
              go_roundw
              case rel => exact ⟨t + 1, by omega, by go_num, S5, F5, OG5⟩
              case measure => simp [intOf]; omega
          · have hte : t = gs.length := by omega
            subst hte
            have S5 := S.congr (f' := fun k => aheTo bs k (m + 1)) (fun k _ => by rw [List.take_length]; exact (HAI.out k).symm)
            clear S OG
            go_wp2_with fail
            go_roundw
            case rel => exact ⟨m + 1, by omega, by go_num, S5, F⟩
            case measure => simp [intOf]; omega
      · obtain ⟨a1, a2⟩ := endFork hop
        rw [a1] at d3
        have hmt : ∀ w : World, (method 500 353 (.agg #[.int .i64 bs[m].e.a.1, .int .i64 bs[m].e.a.2, .int .i64 bs[m].e.one.1, .int .i64 bs[m].e.one.2, .int .i64 bs[m].e.two.1, .int .i64 bs[m].e.two.2]) "Goals").run Tryz.prog w = .ok (319, (.agg #[.int .i64 bs[m].e.a.1, .int .i64 bs[m].e.a.2, .int .i64 bs[m].e.one.1, .int .i64 bs[m].e.one.2, .int .i64 bs[m].e.two.1, .int .i64 bs[m].e.two.2])) w := fun w => by kernel_rfl
        have HA := stop a2
        clear a1 a2 hop
        go_wp2_with fail
        refine (gM63 bs[m].e HA.out _).mono ?_
        rintro e w2 ⟨vg, rfl, OG, f2⟩
        obtain ⟨pg, cg, rfl⟩ := owns_slice2 OG
        have hz1 : w.heap.size ≤ w2.heap.size := by have := f2.size; rw [World.size_alloc] at this; omega
        have F2 : Hid (Below w.heap.size w w2) := (F.out.alloc hz0 _).trans (f2.mono (by rw [World.size_alloc]; omega))
        have S2 := S.keeps (((Below.refl _ _).alloc (Nat.le_refl _) (.cells #[.int .i64 bs[m].at_, .slice qc bs[m].chs.length cc, .slice ps bs[m].sts.length cs1, .iface 353 (.agg #[.int .i64 bs[m].e.a.1, .int .i64 bs[m].e.a.2, .int .i64 bs[m].e.one.1, .int .i64 bs[m].e.one.2, .int .i64 bs[m].e.two.1, .int .i64 bs[m].e.two.2])] 104)).trans (f2.mono (by rw [World.size_alloc]; omega)))
        have HGL : Hid (∀ p ∈ goalsF bs[m].e, p.1 < bs.length) := hgl.out _ (List.getElem_mem hlt)
        have hg2 := goalsF_le bs[m].e
        have HAI : Hid (∀ k, aheIn bs m (goalsF bs[m].e) k = aheTo bs k (m + 1)) := aheIn_all hlt
        clear d0 d1 d2 d3 f2 hmt S F HA
        generalize hgs : goalsF bs[m].e = gs at *
        clear hgs
        go_wp2_with fail
        go_loopw [22] (fun j wz => ∃ t : Nat, t ≤ gs.length ∧ j = .int .i64 t ∧ Sets w.heap.size wz (.slice (some ⟨w.heap.size, 0, none⟩) bs.length bs.length) bs.length (aheIn bs m (gs.take t)) ∧ Hid (Below w.heap.size w wz) ∧ wz.ownsRow (wr.heap.size + 1) 145 2 (.slice pg gs.length cg) gs.length (pcs gs)) (fun j _ => gs.length - (intOf j).toNat)
        case atStart =>
          refine ⟨0, by omega, rfl, S2.congr (fun k _ => aheIn_nil bs m k), F2, ?_⟩
          rw [World.size_alloc] at OG
          exact OG
        case round =>
          clear OG S2 F2 hz1 hz0
          obtain ⟨t, ht, rfl, S, F, OG⟩ := hrel
          by_cases htl : t < gs.length
          · obtain ⟨gf, rfl, _, hgf⟩ := owns_form OG (by omega)
            have f0 := owns_cell OG (pcs_at htl).1
            have f1 := owns_cell OG (pcs_at htl).2
            have hk : gs[t].1 < bs.length := HGL.out _ (List.getElem_mem htl)
            have hz := F.out.size
            have S2 := S.keeps ((Below.refl _ _).alloc (Nat.le_refl _) (.cells #[.int .i64 gs[t].1, .int .i64 gs[t].2] 145))
            have F2 := stop (F.out.alloc hz (.cells #[.int .i64 gs[t].1, .int .i64 gs[t].2] 145))
            have OG2 := OG.alloc (.cells #[.int .i64 gs[t].1, .int .i64 gs[t].2] 145)
            obtain ⟨g9, u, e9, hb9, hc9, hf9, o9, n9⟩ := S2.at hk
            cases e9
            have hlen := aheIn_len bs m (gs.take t) gs[t].1
            have HU := stop (And.intro hc9 (And.intro hf9 (And.intro o9 n9)))
            clear hc9 hf9 o9 n9 S F OG
            by_cases hh : hasF (nums (gs.take t)) gs[t].1 = true
            · have HH := stop hh
              clear hh
              go_wp2_with fail
              refine (addOldB (aheIn bs m (gs.take t) gs[t].1) m (aheIn_oldMem HH.out) (aheIn_srt _ _ _ _) w.heap.size gs[t].1 w.heap.size u _ HU.out.1 HU.out.2.2.1 (by omega)).mono ?_
              rintro e w5 ⟨rfl, hw5⟩
              have S5 := S2.congr (fun k _ => aheIn_old htl HH.out k)
              rw [← hw5.out] at S5 F2 OG2
              clear HU S2 hw5
              go_wp2_with fail
              go_roundw
              case rel => exact ⟨t + 1, by omega, by go_num, S5, F2, OG2⟩
              case measure => simp [intOf]; omega
            · have HH := stop (Bool.eq_false_iff.2 hh)
              clear hh
              go_wp2_with fail
              refine (addNewB (aheIn bs m (gs.take t) gs[t].1) m (aheIn_newLt HH.out) (aheIn_srt _ _ _ _) w.heap.size gs[t].1 w.heap.size u _ HU.out.1 HU.out.2.1 HU.out.2.2.1 (by omega) (by rw [World.size_alloc]; omega) HU.out.2.2.2).mono ?_
              rintro e w5 ⟨rfl, u5, h5⟩
              have S5 : Sets w.heap.size w5 (.slice (some ⟨w.heap.size, 0, none⟩) bs.length bs.length) bs.length (aheIn bs m (gs.take (t + 1))) := S2.put hk HU.out.1 h5.out.2 (by rw [List.length_append]; exact h5.out.1) _ (aheIn_new htl HH.out) (fun j hj => aheIn_other htl hj)
              have F5 := stop (Put.below F2.out (Nat.le_refl _) HU.out.2.2.1 h5.out.2 (by rw [World.size_alloc]; omega))
              obtain ⟨us2, a2, _, _⟩ := S2
              have OG5 := owns_keeps OG2 (Keeps.put (T := fun e => e = 145) a2 HU.out.2.2.1 h5.out.2 (by decide) (by decide)) rfl
              clear HU h5 a2 F2 OG2
              go_wp2_with fail
              go_roundw
              case rel => exact ⟨t + 1, by omega, by go_num, S5, F5, OG5⟩
              case measure => simp [intOf]; omega
          · have hte : t = gs.length := by omega
            subst hte
            have S5 := S.congr (f' := fun k => aheTo bs k (m + 1)) (fun k _ => by rw [List.take_length]; exact (HAI.out k).symm)
            clear S OG
            go_wp2_with fail
            go_roundw
            case rel => exact ⟨m + 1, by omega, by go_num, S5, F⟩
            case measure => simp [intOf]; omega
    · have hme : m = bs.length := by omega
      subst hme
      go_wp2_with fail
      go_ret
      exact ⟨_, rfl, S, F.out⟩
end Go.Proofs.YtgfhfkgdmidhpaaGreatDoor
