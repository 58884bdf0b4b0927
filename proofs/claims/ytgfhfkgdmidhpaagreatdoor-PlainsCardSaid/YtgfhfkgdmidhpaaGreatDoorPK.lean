import Derived.Test.YtgfhfkgdmidhpaaGreatDoorPG
namespace Go.Proofs.YtgfhfkgdmidhpaaGreatDoor
open Go.RowKit

theorem failB_neg {i : Nat} {bad : Int} : ¬ failB i bad < 0 := by unfold failB; split <;> omega
theorem must_neg {s i bad c} (h : mustB s i bad c < 0) : bad < 0 ∧ gotI s i bad c = i + 1 ∧ mustB s i bad c = bad := by
  unfold mustB at h ⊢; unfold gotI
  cases ho : onF s i bad c with
  | true => rw [ho, if_pos rfl] at h; exact ⟨h, rfl, rfl⟩
  | false => rw [ho, if_neg (by simp)] at h; exact absurd h failB_neg
theorem numGo_ge2 {s bad fm} (k i n : Nat) : i ≤ (numGo s bad fm k i n).2 := by
  induction k generalizing i n with
  | zero => exact Nat.le_refl _
  | succ k ih =>
    rw [numGo]; split
    · exact Nat.le_trans (Nat.le_succ i) (ih _ _)
    · exact Nat.le_refl _
theorem num_neg {s i bad} (h : numB s i bad < 0) : bad < 0 ∧ i + 1 ≤ numI s i bad ∧ numB s i bad = bad := by
  unfold numB at h ⊢; unfold numI
  cases ho : digF s i bad with
  | true =>
    rw [ho, if_pos rfl] at h
    refine ⟨h, ?_, rfl⟩
    rw [if_pos rfl, numGo, ho, show (i == i) = true from by simp, Bool.true_or, Bool.and_true, if_pos rfl]
    exact numGo_ge2 _ _ _
  | false => rw [ho, if_neg (by simp)] at h; exact absurd h failB_neg
theorem reg_neg {s i bad} (h : regB s i bad < 0) : bad < 0 ∧ i + 2 ≤ regI s i bad ∧ regB s i bad = bad := by
  unfold regB at h ⊢; unfold regI
  obtain ⟨h1, h2, h3⟩ := num_neg h
  obtain ⟨k1, k2, k3⟩ := must_neg h1
  refine ⟨k1, ?_, by rw [h3, k3]⟩
  have : i + 1 ≤ gotI s i bad 114 := by omega
  omega
def Asc (l : List (Nat × Nat)) : Prop := l.Pairwise fun a b => a.2 < b.2
def Wi (i j : Nat) (l : List (Nat × Nat)) : Prop := ∀ x ∈ l, i ≤ x.2 ∧ x.2 < j
theorem Asc.app {l k : List (Nat × Nat)} {i j m : Nat} (h1 : Asc l) (h2 : Asc k) (w1 : Wi i j l) (w2 : Wi j m k) : Asc (l ++ k) :=
  List.pairwise_append.2 ⟨h1, h2, fun a ha b hb => Nat.lt_of_lt_of_le (w1 a ha).2 (w2 b hb).1⟩
theorem Wi.app {l k : List (Nat × Nat)} {i j m : Nat} (w1 : Wi i j l) (w2 : Wi j m k) (h : i ≤ j) (h2 : j ≤ m) : Wi i m (l ++ k) := fun x hx => by
  rcases List.mem_append.1 hx with hx | hx
  · have := w1 x hx; omega
  · have := w2 x hx; omega
theorem Wi.mono {l : List (Nat × Nat)} {i j i' j' : Nat} (w : Wi i j l) (h : i' ≤ i) (h2 : j ≤ j') : Wi i' j' l := fun x hx => by have := w x hx; omega
theorem Wi.nil {i j} : Wi i j [] := fun x hx => absurd hx (by simp)
theorem Wi.one {i j n} (h : i < j) : Wi i j [(n, i)] := fun x hx => by rw [List.mem_singleton] at hx; subst hx; exact ⟨Nat.le_refl _, h⟩
theorem Asc.one {x} : Asc [x] := List.pairwise_singleton _ _
/-- The registers that a step, a choice, an end, a block name, in the order of the text. -/
def regsA (t : RStep) : List (Nat × Nat) := if t.op = 118 then [] else if t.op = 99 then [t.a] else if t.op = 33 then [t.a] else if t.op = 63 then [] else [t.a, t.b]
def regsS (t : RStep) : List (Nat × Nat) := (if t.op = 33 then [] else [t.to]) ++ regsA t
def regsC (c : RCho) : List (Nat × Nat) := c.to :: c.rs
def regsE (e : REnd) : List (Nat × Nat) := if e.op = 63 then [e.a] else []
def regsCS (chs : List RCho) (sts : List RStep) : List (Nat × Nat) := chs.flatMap regsC ++ sts.flatMap regsS
def regsB (b : RBlk) : List (Nat × Nat) := regsCS b.chs b.sts ++ regsE b.e
/-- The registers that a step does not name are no registers. -/
def Dum (t : RStep) : Prop := (t.op = 118 → t.a.1 = 0 ∧ t.b.1 = 0) ∧ (t.op = 63 → t.a.1 = 0 ∧ t.b.1 = 0) ∧ (t.op = 99 → t.b.1 = 0) ∧ (t.op = 33 → t.to.1 = 0 ∧ t.b.1 = 0)
theorem opC_in (s i bad) : opC s i bad = 0 ∨ opC s i bad = 43 ∨ opC s i bad = 45 ∨ opC s i bad = 42 ∨ opC s i bad = 60 := by
  unfold opC
  repeat' split
  all_goals simp
theorem opI_ge2 {s i bad} : i ≤ opI s i bad := by
  unfold opI gotI
  repeat' split
  all_goals omega
theorem op_neg {s i bad} (h : opB s i bad < 0) : bad < 0 := by
  unfold opB at h
  repeat' split at h
  all_goals first
    | exact h
    | exact (must_neg h).1
theorem op_neg2 {s i bad} : opC s i bad ≠ 0 → i + 1 ≤ opI s i bad := by
  unfold opC opI
  repeat' split
  all_goals first
    | (intro; omega)
    | (intro; unfold gotI; split <;> omega)
structure GvOk (to : Nat × Nat) (i : Nat) (bad : Int) (g : Giv) : Prop where
  neg : bad < 0
  gi : i + 1 ≤ g.i
  ok : OkS (absS g.st)
  dum : Dum g.st
  to : g.st.op ≠ 33 ∧ g.st.to = to
  asc : Asc (regsA g.st)
  wi : Wi i g.i (regsA g.st)
theorem giv_ok {s to i bad} (h : (givF s to i bad).bad < 0) (ht : to.1 < 10000) : GvOk to i bad (givF s to i bad) := by
  revert h
  unfold givF
  by_cases h1 : onF s i bad 63 = true
  · rw [if_pos h1]; intro h
    exact ⟨h, Nat.le_refl _, ht, ⟨fun e => by simp at e, fun _ => ⟨rfl, rfl⟩, fun e => by simp at e, fun e => by simp at e⟩, ⟨by simp, rfl⟩, List.Pairwise.nil, Wi.nil⟩
  rw [if_neg h1]
  by_cases h2 : onF s i bad 114 = true
  · rw [if_pos h2]
    by_cases h3 : opC s (regI s i bad) (regB s i bad) = 0
    · dsimp only; rw [if_pos h3]; intro h
      have b1 := op_neg h
      obtain ⟨c1, c2, c3⟩ := reg_neg b1
      have c4 : regI s i bad ≤ opI s (regI s i bad) (regB s i bad) := opI_ge2
      exact ⟨c1, by show i + 1 ≤ opI s (regI s i bad) (regB s i bad); omega, ⟨ht, numN_lt _ _ _⟩, ⟨fun e => by simp at e, fun e => by simp at e, fun _ => rfl, fun e => by simp at e⟩, ⟨by simp, rfl⟩, Asc.one, Wi.one (show i < opI s (regI s i bad) (regB s i bad) by omega)⟩
    · dsimp only; rw [if_neg h3]; intro h
      obtain ⟨d1, d2, d3⟩ := reg_neg h
      have b1 := op_neg d1
      have b2 := op_neg2 h3
      obtain ⟨c1, c2, c3⟩ := reg_neg b1
      generalize hI : opI s (regI s i bad) (regB s i bad) = I at *
      generalize hJ : regI s I (opB s (regI s i bad) (regB s i bad)) = J at *
      have hR : ∀ o, o = 43 ∨ o = 45 ∨ o = 42 ∨ o = 60 → GvOk to i bad ⟨⟨o, to, (regN s i bad, i), (regN s I (opB s (regI s i bad) (regB s i bad)), I), 0⟩, J, regB s I (opB s (regI s i bad) (regB s i bad))⟩ := by
        intro o ho
        have e1 : absS ⟨o, to, (regN s i bad, i), (regN s I (opB s (regI s i bad) (regB s i bad)), I), 0⟩ = .op o to.1 (regN s i bad) (regN s I (opB s (regI s i bad) (regB s i bad))) := by
          unfold absS
          rw [if_neg (by show ¬ o = 118; omega), if_neg (by show ¬ o = 99; omega), if_neg (by show ¬ o = 33; omega), if_neg (by show ¬ o = 63; omega)]
        have e2 : regsA ⟨o, to, (regN s i bad, i), (regN s I (opB s (regI s i bad) (regB s i bad)), I), 0⟩ = [(regN s i bad, i)] ++ [(regN s I (opB s (regI s i bad) (regB s i bad)), I)] := by
          unfold regsA
          rw [if_neg (by show ¬ o = 118; omega), if_neg (by show ¬ o = 99; omega), if_neg (by show ¬ o = 33; omega), if_neg (by show ¬ o = 63; omega)]
          rfl
        refine ⟨c1, by show i + 1 ≤ J; omega, ?_, ⟨fun e => ?_, fun e => ?_, fun e => ?_, fun e => ?_⟩, ⟨by show o ≠ 33; omega, rfl⟩, ?_, ?_⟩
        · show OkS (absS _); rw [e1]; exact ⟨ho, ht, numN_lt _ _ _, numN_lt _ _ _⟩
        · have e : o = 118 := e
          omega
        · have e : o = 63 := e
          omega
        · have e : o = 99 := e
          omega
        · have e : o = 33 := e
          omega
        · show Asc (regsA _); rw [e2]; exact Asc.app Asc.one Asc.one (Wi.one (j := I) (by omega)) (Wi.one (j := J) (by omega))
        · show Wi i J (regsA _); rw [e2]; exact Wi.app (Wi.one (j := I) (by omega)) (Wi.one (j := J) (by omega)) (by omega) (by omega)
      refine hR _ ?_
      rcases opC_in s (regI s i bad) (regB s i bad) with e | e | e | e | e
      · exact absurd e h3
      · exact .inl e
      · exact .inr (.inl e)
      · exact .inr (.inr (.inl e))
      · exact .inr (.inr (.inr e))
  rw [if_neg h2]
  have dm : ∀ n : Int, Dum ⟨118, to, (0, 0), (0, 0), n⟩ := fun n => ⟨fun _ => ⟨rfl, rfl⟩, fun e => by simp at e, fun e => by simp at e, fun e => by simp at e⟩
  by_cases h4 : onF s i bad 45 = true
  · rw [if_pos h4]; dsimp only; intro h
    obtain ⟨c1, c2, c3⟩ := num_neg h
    have c4 : bad < 0 := by
      split at c1
      · exact absurd c1 failB_neg
      · exact c1
    refine ⟨c4, by dsimp only; omega, ⟨ht, ?_⟩, dm _, ⟨by simp, rfl⟩, List.Pairwise.nil, Wi.nil⟩
    have := numN_lt s (i + 1) (if onF s (i + 1) bad 48 = true then failB (i + 1) bad else bad)
    show (-(numN s (i + 1) _ : Int)).natAbs < 10000
    omega
  · rw [if_neg h4]; dsimp only; intro h
    obtain ⟨c1, c2, c3⟩ := num_neg h
    refine ⟨c1, c2, ⟨ht, ?_⟩, dm _, ⟨by simp, rfl⟩, List.Pairwise.nil, Wi.nil⟩
    have := numN_lt s i bad
    show ((numN s i bad : Int)).natAbs < 10000
    omega
theorem choR_neg {s c} (h : (choR s c).bad < 0) : c.bad < 0 ∧ ∃ j n g, (choR s c).rs = c.rs ++ [(n, j)] ∧ (choR s c).gs = c.gs ++ [g] ∧ c.i + 2 ≤ j ∧ j + 2 ≤ (choR s c).i := by
  have h : regB s (gotI s (numI s c.i c.bad) (numB s c.i c.bad) 58) (mustB s (numI s c.i c.bad) (numB s c.i c.bad) 58) < 0 := h
  obtain ⟨a1, a2, _⟩ := reg_neg h
  obtain ⟨b1, b2, _⟩ := must_neg a1
  obtain ⟨c1, c2, _⟩ := num_neg b1
  exact ⟨c1, gotI s (numI s c.i c.bad) (numB s c.i c.bad) 58, _, _, rfl, rfl, by omega, a2⟩
theorem choGo_ok {s : ByteArray} {i1 : Nat} : ∀ (k : Nat) (c : Cho), (choGo s k c).bad < 0 → i1 + 5 * c.gs.length ≤ c.i → Asc c.rs → Wi i1 c.i c.rs →
    c.bad < 0 ∧ i1 + 5 * (choGo s k c).gs.length ≤ (choGo s k c).i + 1 ∧ Asc (choGo s k c).rs ∧ Wi i1 (choGo s k c).i (choGo s k c).rs ∧ c.gs.length + (if k = 0 then 0 else 1) ≤ (choGo s k c).gs.length
  | 0, c, h, hl, ha, hw => ⟨h, by show i1 + 5 * c.gs.length ≤ c.i + 1; omega, ha, hw, by show c.gs.length + 0 ≤ c.gs.length; omega⟩
  | k + 1, c, h, hl, ha, hw => by
    rw [choGo] at h ⊢
    have hb : (choR s c).bad < 0 := by
      cases ho : onF s (choR s c).i (choR s c).bad 44 with
      | true => exact (onF_lt ho).1
      | false => rw [ho, if_neg (by simp)] at h; exact h
    obtain ⟨c1, j, n, g, e1, e2, l1, l2⟩ := choR_neg hb
    have ha' : Asc (choR s c).rs := by rw [e1]; exact Asc.app ha Asc.one hw ((Wi.one (j := j + 1) (by omega)).mono (by omega) (Nat.le_refl _))
    have hw' : Wi i1 (choR s c).i (choR s c).rs := by
      rw [e1]
      exact (hw.mono (Nat.le_refl _) (show c.i ≤ j by omega)).app (Wi.one (j := (choR s c).i) (by omega)) (by omega) (by omega)
    have hl' : (choR s c).gs.length = c.gs.length + 1 := by rw [e2, List.length_append, List.length_singleton]
    cases ho : onF s (choR s c).i (choR s c).bad 44 with
    | true =>
      rw [ho, if_pos rfl] at h
      rw [if_pos rfl]
      have eg : gotI s (choR s c).i (choR s c).bad 44 = (choR s c).i + 1 := by rw [gotI, ho]; rfl
      rw [eg] at h ⊢
      obtain ⟨_, r2, r3, r4, r5⟩ := choGo_ok k ⟨(choR s c).gs, (choR s c).rs, (choR s c).i + 1, (choR s c).bad⟩ h (by show i1 + 5 * (choR s c).gs.length ≤ (choR s c).i + 1; rw [hl']; omega) ha' (hw'.mono (Nat.le_refl _) (Nat.le_succ _))
      refine ⟨c1, r2, r3, r4, ?_⟩
      have r5 : (choR s c).gs.length + _ ≤ _ := r5
      rw [if_neg (by omega)]; omega
    | false =>
      have eg : gotI s (choR s c).i (choR s c).bad 44 = (choR s c).i := by rw [gotI, ho]; rfl
      rw [if_neg (by simp), eg]
      refine ⟨c1, ?_, ha', hw', ?_⟩
      · show i1 + 5 * (choR s c).gs.length ≤ (choR s c).i + 1; rw [hl']; omega
      · show c.gs.length + _ ≤ (choR s c).gs.length; rw [if_neg (by omega), hl']; omega
theorem cho_ok {s i bad} (h : (choF s i bad).bad < 0) : bad < 0 ∧ i + 5 * (choF s i bad).gs.length ≤ (choF s i bad).i ∧ Asc (choF s i bad).rs ∧ Wi i (choF s i bad).i (choF s i bad).rs ∧ 0 < (choF s i bad).gs.length := by
  have key := choGo_ok (s := s) (i1 := gotI s i bad 64) (s.size + 1) { gs := [], rs := [], i := gotI s i bad 64, bad := mustB s i bad 64 } h (by simp) List.Pairwise.nil Wi.nil
  have er : choGo s (s.size + 1) { gs := [], rs := [], i := gotI s i bad 64, bad := mustB s i bad 64 } = choF s i bad := rfl
  rw [er] at key
  obtain ⟨a1, a2, a3, a4, a5⟩ := key
  obtain ⟨b1, b2, _⟩ := must_neg a1
  rw [if_neg (by omega)] at a5
  generalize choF s i bad = r at *
  rw [b2] at a2 a4
  have a5 : 0 + 1 ≤ r.gs.length := a5
  exact ⟨b1, by omega, a3, a4.mono (Nat.le_succ _) (Nat.le_refl _), by omega⟩
def chW (chs : List RCho) : Nat := (chs.map fun c => 3 + 5 * c.gs.length).sum
structure J (i0 : Nat) (chs : List RCho) (sts : List RStep) (i : Nat) : Prop where
  w : i0 + 4 * sts.length + chW chs ≤ i
  asc : Asc (regsCS chs sts)
  wi : Wi i0 i (regsCS chs sts)
  ch : ∀ c ∈ chs, 0 < c.gs.length
  st : ∀ t ∈ sts, OkS (absS t) ∧ Dum t
theorem J.step {i0 chs sts i j} (h : J i0 chs sts i) (t : RStep) (hi : i + 4 ≤ j) (ha : Asc (regsS t)) (hw : Wi i j (regsS t)) (hk : OkS (absS t)) (hd : Dum t) : J i0 chs (sts ++ [t]) j := by
  have e : regsCS chs (sts ++ [t]) = regsCS chs sts ++ regsS t := by simp [regsCS]
  have h0 : i0 ≤ i := by have := h.w; omega
  refine ⟨by rw [List.length_append, List.length_singleton]; have := h.w; omega, ?_, ?_, h.ch, ?_⟩
  · rw [e]; exact Asc.app h.asc ha h.wi hw
  · rw [e]; exact h.wi.app hw h0 (by omega)
  · intro x hx
    rcases List.mem_append.1 hx with hx | hx
    · exact h.st x hx
    · rw [List.mem_singleton] at hx; subst hx; exact ⟨hk, hd⟩
theorem J.cho {i0 chs i j} (h : J i0 chs [] i) (c : RCho) (hi : i + 3 + 5 * c.gs.length ≤ j) (ha : Asc (regsC c)) (hw : Wi i j (regsC c)) (hc : 0 < c.gs.length) : J i0 (chs ++ [c]) [] j := by
  have e : regsCS (chs ++ [c]) [] = regsCS chs [] ++ regsC c := by simp [regsCS]
  have h0 : i0 ≤ i := by have := h.w; omega
  have ew : chW (chs ++ [c]) = chW chs + (3 + 5 * c.gs.length) := by simp [chW]
  refine ⟨by rw [ew]; have := h.w; omega, ?_, ?_, ?_, h.st⟩
  · rw [e]; exact Asc.app h.asc ha h.wi hw
  · rw [e]; exact h.wi.app hw h0 (by omega)
  · intro x hx
    rcases List.mem_append.1 hx with hx | hx
    · exact h.ch x hx
    · rw [List.mem_singleton] at hx; subst hx; exact hc
/-- What a block's text tells. -/
structure JB (i0 : Nat) (b : RBlk) (i : Nat) : Prop where
  w : i0 + 4 * b.sts.length + chW b.chs ≤ i
  asc : Asc (regsB b)
  wi : Wi i0 i (regsB b)
  ch : ∀ c ∈ b.chs, 0 < c.gs.length
  st : ∀ t ∈ b.sts, OkS (absS t) ∧ Dum t
  e : OkE (absE b.e)
theorem J.fin {i0 chs sts i j at_} (h : J i0 chs sts i) (e : REnd) (hi : i ≤ j) (ha : Asc (regsE e)) (hw : Wi i j (regsE e)) (he : OkE (absE e)) : JB i0 ⟨chs, sts, e, at_⟩ j :=
  ⟨by have := h.w; show i0 + 4 * sts.length + chW chs ≤ j; omega, Asc.app h.asc ha h.wi hw, h.wi.app hw (by have := h.w; omega) hi, h.ch, h.st, he⟩
theorem blkGo_ok {s : ByteArray} {i0 at_ : Nat} : ∀ (k : Nat) (chs : List RCho) (sts : List RStep) (i : Nat) (bad : Int), (blkGo s at_ k chs sts i bad).bad < 0 → J i0 chs sts i → s.size < k + i → i ≤ s.size →
    bad < 0 ∧ JB i0 (blkGo s at_ k chs sts i bad).b (blkGo s at_ k chs sts i bad).i
  | 0, chs, sts, i, bad, h, hj, hk, hi => by omega
  | k + 1, chs, sts, i, bad, h, hj, hk, hi => by
    revert h
    rw [blkGo]
    by_cases hb : bad < 0
    · rw [if_pos hb]
      by_cases h1 : onF s i bad 46 = true
      · rw [if_pos h1]; intro h
        exact ⟨hb, hj.fin _ (Nat.le_succ _) List.Pairwise.nil Wi.nil (.inl ⟨rfl, rfl, rfl, rfl⟩)⟩
      rw [if_neg h1]
      by_cases h2 : onF s i bad 62 = true
      · rw [if_pos h2]; intro h
        obtain ⟨_, c2, _⟩ := num_neg h
        exact ⟨hb, hj.fin _ (show i ≤ numI s (i + 1) bad by omega) List.Pairwise.nil Wi.nil (.inr (.inl ⟨rfl, rfl, numN_lt _ _ _, rfl⟩))⟩
      rw [if_neg h2]
      by_cases h3 : onF s i bad 33 = true
      · rw [if_pos h3]; dsimp only; intro h
        have key : ∀ i' b', mustB s (regI s (i + 1) bad) (regB s (i + 1) bad) 59 < 0 → gotI s (regI s (i + 1) bad) (regB s (i + 1) bad) 59 = i' → mustB s (regI s (i + 1) bad) (regB s (i + 1) bad) 59 = b' → J i0 chs (sts ++ [⟨33, (0, 0), (regN s (i + 1) bad, i + 1), (0, 0), 0⟩]) i' := by
          intro i' b' hm e1 e2
          obtain ⟨m1, m2, _⟩ := must_neg hm
          obtain ⟨r1, r2, _⟩ := reg_neg m1
          refine hj.step _ (by omega) Asc.one ?_ (numN_lt _ _ _) ⟨fun e => by simp at e, fun e => by simp at e, fun e => by simp at e, fun _ => ⟨rfl, rfl⟩⟩
          exact (Wi.one (i := i + 1) (j := i') (by omega)).mono (Nat.le_succ _) (Nat.le_refl _)
        by_cases hm : mustB s (regI s (i + 1) bad) (regB s (i + 1) bad) 59 < 0
        · obtain ⟨m1, m2, _⟩ := must_neg hm
          obtain ⟨r1, r2, _⟩ := reg_neg m1
          have i1 : i < s.size := (onF_lt h3).2.1
          exact ⟨hb, (blkGo_ok k _ _ _ _ h (key _ _ hm rfl rfl) (by omega) (gotI_le (regI_le i1))).2⟩
        · exfalso
          cases k with
          | zero => exact hm h
          | succ k => rw [blkGo, if_neg hm] at h; exact hm h
      rw [if_neg h3]
      dsimp only
      by_cases h4 : onF s (regI s i bad) (regB s i bad) 61 = true
      · rw [if_pos h4]; intro h
        by_cases hm : mustB s (givF s (regN s i bad, i) (regI s i bad + 1) (regB s i bad)).i (givF s (regN s i bad, i) (regI s i bad + 1) (regB s i bad)).bad 59 < 0
        · obtain ⟨m1, m2, _⟩ := must_neg hm
          have g := giv_ok m1 (numN_lt _ _ _)
          obtain ⟨r1, r2, _⟩ := reg_neg g.neg
          have gi := g.gi
          have ea : regsS (givF s (regN s i bad, i) (regI s i bad + 1) (regB s i bad)).st = [(regN s i bad, i)] ++ regsA (givF s (regN s i bad, i) (regI s i bad + 1) (regB s i bad)).st := by
            unfold regsS; rw [if_neg g.to.1, g.to.2]
          have w1 : Wi i (i + 1) [(regN s i bad, i)] := Wi.one (Nat.lt_succ_self _)
          have w2 : Wi (i + 1) (gotI s (givF s (regN s i bad, i) (regI s i bad + 1) (regB s i bad)).i (givF s (regN s i bad, i) (regI s i bad + 1) (regB s i bad)).bad 59) (regsA (givF s (regN s i bad, i) (regI s i bad + 1) (regB s i bad)).st) := g.wi.mono (by omega) (by omega)
          refine ⟨hb, (blkGo_ok k _ _ _ _ h (hj.step _ (by omega) ?_ ?_ g.ok g.dum) ?_ ?_).2⟩
          · rw [ea]; exact Asc.app Asc.one g.asc w1 w2
          · rw [ea]; exact w1.app w2 (by omega) (by omega)
          · omega
          · exact gotI_le (givF_le (onF_lt h4).2.1)
        · exfalso
          cases k with
          | zero => exact hm h
          | succ k => rw [blkGo, if_neg hm] at h; exact hm h
      rw [if_neg h4]
      by_cases h5 : (onF s (regI s i bad) (regB s i bad) 64 && sts.isEmpty) = true
      · rw [if_pos h5]; intro h
        have hse : sts = [] := by
          rw [Bool.and_eq_true] at h5
          exact List.isEmpty_iff.1 h5.2
        subst hse
        by_cases hm : mustB s (choF s (regI s i bad) (regB s i bad)).i (choF s (regI s i bad) (regB s i bad)).bad 59 < 0
        · obtain ⟨m1, m2, _⟩ := must_neg hm
          obtain ⟨c1, c2, c3, c4, c5⟩ := cho_ok m1
          obtain ⟨r1, r2, _⟩ := reg_neg c1
          have w1 : Wi i (i + 1) [(regN s i bad, i)] := Wi.one (Nat.lt_succ_self _)
          have w2 : Wi (i + 1) (gotI s (choF s (regI s i bad) (regB s i bad)).i (choF s (regI s i bad) (regB s i bad)).bad 59) (choF s (regI s i bad) (regB s i bad)).rs := c4.mono (by omega) (by omega)
          exact ⟨hb, (blkGo_ok k _ _ _ _ h (hj.cho ⟨(regN s i bad, i), (choF s (regI s i bad) (regB s i bad)).gs, (choF s (regI s i bad) (regB s i bad)).rs⟩ (by dsimp only; omega) (Asc.app Asc.one c3 w1 w2) (w1.app w2 (by omega) (by omega)) c5) (by omega) (gotI_le (choF_le (regI_le hi)))).2⟩
        · exfalso
          cases k with
          | zero => exact hm h
          | succ k => rw [blkGo, if_neg hm] at h; exact hm h
      rw [if_neg h5]
      intro h
      have h : (braF s (regN s i bad, i) (regI s i bad) (regB s i bad)).bad < 0 := h
      unfold braF at h
      obtain ⟨d1, d2, _⟩ := num_neg h
      obtain ⟨e1, e2, _⟩ := must_neg d1
      obtain ⟨f1, f2, _⟩ := num_neg e1
      obtain ⟨g1, g2, _⟩ := must_neg f1
      obtain ⟨r1, r2, _⟩ := reg_neg g1
      refine ⟨hb, hj.fin _ ?_ Asc.one (Wi.one ?_) (.inr (.inr ⟨rfl, numN_lt _ _ _, numN_lt _ _ _, numN_lt _ _ _⟩))⟩
      · show i ≤ (braF s (regN s i bad, i) (regI s i bad) (regB s i bad)).i
        unfold braF; dsimp only; omega
      · show i < (braF s (regN s i bad, i) (regI s i bad) (regB s i bad)).i
        unfold braF; dsimp only; omega
    · rw [if_neg hb]; intro h; exact absurd h hb
theorem blkF_ok {s i bad} (h : (blkF s i bad).bad < 0) (hi : i ≤ s.size) : bad < 0 ∧ JB i (blkF s i bad).b (blkF s i bad).i :=
  blkGo_ok (i0 := i) (s.size + 1) [] [] i bad h ⟨by simp [chW], List.Pairwise.nil, Wi.nil, fun c hc => absurd hc (by simp), fun c hc => absurd hc (by simp)⟩ (by omega) hi
def blW (b : RBlk) : Nat := 4 * b.sts.length + chW b.chs
def bsW (bs : List RBlk) : Nat := (bs.map blW).sum
/-- What a text tells. -/
structure JP (bs : List RBlk) (i : Nat) : Prop where
  w : bsW bs ≤ i
  asc : Asc (bs.flatMap regsB)
  wi : Wi 0 i (bs.flatMap regsB)
  ch : ∀ b ∈ bs, ∀ c ∈ b.chs, 0 < c.gs.length
  st : ∀ b ∈ bs, ∀ t ∈ b.sts, OkS (absS t) ∧ Dum t
  e : ∀ b ∈ bs, OkE (absE b.e)
theorem JP.snoc {bs i b j} (h : JP bs i) (hb : JB i b j) {k : Nat} (hk : j ≤ k) : JP (bs ++ [b]) k := by
  have e : (bs ++ [b]).flatMap regsB = bs.flatMap regsB ++ regsB b := by simp
  have ew : bsW (bs ++ [b]) = bsW bs + blW b := by simp [bsW]
  have hw := hb.w
  have hij : i ≤ j := by omega
  refine ⟨by rw [ew]; have := h.w; unfold blW; omega, ?_, ?_, ?_, ?_, ?_⟩
  · rw [e]; exact Asc.app h.asc hb.asc h.wi hb.wi
  · rw [e]; exact (h.wi.app hb.wi (Nat.zero_le _) hij).mono (Nat.le_refl _) hk
  all_goals
    intro x hx
    rcases List.mem_append.1 hx with hx | hx
  · exact h.ch x hx
  · rw [List.mem_singleton] at hx; subst hx; exact hb.ch
  · exact h.st x hx
  · rw [List.mem_singleton] at hx; subst hx; exact hb.st
  · exact h.e x hx
  · rw [List.mem_singleton] at hx; subst hx; exact hb.e
theorem parGo_ok {s : ByteArray} : ∀ (k : Nat) (p : Par), (parGo s k p).bad < 0 → JP p.bs p.i → p.i ≤ s.size → p.bad < 0 ∧ JP (parGo s k p).bs (parGo s k p).i
  | 0, p, h, hj, _ => ⟨h, hj⟩
  | k + 1, p, h, hj, hi => by
    rw [parGo] at h ⊢
    cases ho : onF s (blkF s p.i p.bad).i (blkF s p.i p.bad).bad 124 with
    | true =>
      rw [ho, if_pos rfl] at h
      rw [if_pos rfl]
      obtain ⟨b1, b2⟩ := blkF_ok (onF_lt ho).1 hi
      have eg : gotI s (blkF s p.i p.bad).i (blkF s p.i p.bad).bad 124 = (blkF s p.i p.bad).i + 1 := by rw [gotI, ho]; rfl
      rw [eg] at h ⊢
      exact ⟨b1, (parGo_ok k _ h (hj.snoc b2 (Nat.le_succ _)) (onF_lt ho).2.1).2⟩
    | false =>
      rw [ho, if_neg (by simp)] at h
      rw [if_neg (by simp)]
      have eg : gotI s (blkF s p.i p.bad).i (blkF s p.i p.bad).bad 124 = (blkF s p.i p.bad).i := by rw [gotI, ho]; rfl
      rw [eg]
      obtain ⟨b1, b2⟩ := blkF_ok h hi
      exact ⟨b1, hj.snoc b2 (Nat.le_refl _)⟩
theorem parGo_le2 {s : ByteArray} : ∀ (k : Nat) (p : Par), p.i ≤ s.size → (parGo s k p).i ≤ s.size
  | 0, _, h => h
  | k + 1, p, h => by
    have hb : (blkF s p.i p.bad).i ≤ s.size := blkF_le h
    rw [parGo]
    split
    · exact parGo_le2 k _ (gotI_le hb)
    · exact gotI_le hb
theorem par_ok {s : ByteArray} (h : parBad s < 0) : JP (parF s).bs s.size := by
  unfold parBad at h
  split at h
  · exact absurd h failB_neg
  · rename_i hi
    obtain ⟨_, r⟩ := parGo_ok (s.size + 1) ⟨[], 0, -1⟩ h ⟨Nat.le_refl _, List.Pairwise.nil, Wi.nil, fun b hb => absurd hb (by simp), fun b hb => absurd hb (by simp), fun b hb => absurd hb (by simp)⟩ (Nat.zero_le _)
    have hle : (parF s).i ≤ s.size := parGo_le2 _ _ (Nat.zero_le _)
    have e : (parF s).i = s.size := by omega
    have r : JP (parF s).bs (parF s).i := r
    rwa [e] at r

end Go.Proofs.YtgfhfkgdmidhpaaGreatDoor

namespace Go.Proofs.YtgfhfkgdmidhpaaGreatDoor
open Go.RowKit

/-- The first register above 4999, as the reference looks for it. -/
def gr (at_ : Int) (r : Nat × Nat) : Int := if 4999 < r.1 ∧ (at_ < 0 ∨ (r.2 : Int) < at_) then r.2 else at_
def regsR (b : RBlk) : List (Nat × Nat) := b.chs.flatMap regsC ++ b.sts.flatMap (fun t => [t.to, t.a, t.b]) ++ [b.e.a]
def greF (bs : List RBlk) : Int := (bs.flatMap regsR).foldl gr (-1)
def newF (bs : List RBlk) : Option Nat := ((bs.flatMap regsB).find? fun r => decide (4999 < r.1)).map (·.2)
theorem gr_small {a : Int} {r : Nat × Nat} (h : r.1 = 0) : gr a r = a := by unfold gr; rw [if_neg (by omega)]
theorem gr_step {t : RStep} (h : Dum t) (a : Int) : [t.to, t.a, t.b].foldl gr a = (regsS t).foldl gr a := by
  obtain ⟨h1, h2, h3, h4⟩ := h
  unfold regsS regsA
  by_cases e1 : t.op = 118
  · rw [if_neg (by omega), if_pos e1]
    simp only [List.foldl_cons, List.foldl_nil, List.append_nil]
    rw [gr_small (h1 e1).2, gr_small (h1 e1).1]
  rw [if_neg e1]
  by_cases e2 : t.op = 99
  · rw [if_neg (by omega), if_pos e2]
    simp only [List.foldl_cons, List.foldl_nil, List.cons_append, List.nil_append]
    rw [gr_small (h3 e2)]
  rw [if_neg e2]
  by_cases e3 : t.op = 33
  · rw [if_pos e3, if_pos e3]
    simp only [List.foldl_cons, List.foldl_nil, List.nil_append]
    rw [gr_small (h4 e3).1, gr_small (h4 e3).2]
  rw [if_neg e3, if_neg e3]
  by_cases e4 : t.op = 63
  · rw [if_pos e4]
    simp only [List.foldl_cons, List.foldl_nil, List.append_nil]
    rw [gr_small (h2 e4).2, gr_small (h2 e4).1]
  rw [if_neg e4]
  rfl
theorem fold_flat {α : Type} {f g : α → List (Nat × Nat)} : ∀ (l : List α) (a : Int), (∀ x ∈ l, ∀ a, (f x).foldl gr a = (g x).foldl gr a) → (l.flatMap f).foldl gr a = (l.flatMap g).foldl gr a
  | [], _, _ => rfl
  | x :: l, a, h => by
    rw [List.flatMap_cons, List.flatMap_cons, List.foldl_append, List.foldl_append, h x (List.mem_cons_self ..) a]
    exact fold_flat l _ (fun y hy => h y (List.mem_cons_of_mem _ hy))
theorem gr_asc : ∀ (l : List (Nat × Nat)), Asc l → l.foldl gr (-1) = match (l.find? fun r => decide (4999 < r.1)).map (·.2) with | some x => (x : Int) | none => -1
  | [], _ => rfl
  | x :: l, h => by
    rw [Asc, List.pairwise_cons] at h
    by_cases hx : 4999 < x.1
    · rw [List.find?_cons_of_pos (by simpa using hx), List.foldl_cons]
      have e : gr (-1) x = x.2 := by unfold gr; rw [if_pos ⟨hx, .inl (by omega)⟩]
      rw [e]
      show l.foldl gr x.2 = x.2
      have h1 := h.1
      clear h e
      induction l with
      | nil => rfl
      | cons y l ih =>
        have e : gr x.2 y = x.2 := by
          unfold gr
          have := h1 y (List.mem_cons_self ..)
          rw [if_neg (by omega)]
        rw [List.foldl_cons, e]
        exact ih (fun z hz => h1 z (List.mem_cons_of_mem _ hz))
    · rw [List.find?_cons_of_neg (by simpa using hx), List.foldl_cons]
      have e : gr (-1) x = -1 := by unfold gr; rw [if_neg (by omega)]
      rw [e]
      exact gr_asc l h.2
theorem gre_new {bs : List RBlk} {i : Nat} (h : JP bs i) : greF bs = match newF bs with | some x => (x : Int) | none => -1 := by
  unfold greF newF
  rw [← gr_asc _ h.asc]
  refine fold_flat bs _ (fun b hb a => ?_)
  unfold regsR regsB regsCS
  rw [List.foldl_append, List.foldl_append, List.foldl_append, List.foldl_append]
  rw [fold_flat (f := fun t : RStep => [t.to, t.a, t.b]) (g := regsS) b.sts _ (fun t ht a => gr_step (h.st b hb t ht).2 a)]
  have he := h.e b hb
  unfold regsE
  by_cases e : b.e.op = 63
  · rw [if_pos e]
  · rw [if_neg e]
    show gr _ b.e.a = _
    refine gr_small ?_
    rcases he with he | he | he
    · exact he.2.1
    · exact he.2.1
    · exact absurd he.1 e
theorem new_none {bs : List RBlk} (h : newF bs = none) : ∀ b ∈ bs, ∀ r ∈ regsB b, r.1 < 5000 := by
  intro b hb r hr
  unfold newF at h
  rw [Option.map_eq_none_iff, List.find?_eq_none] at h
  have := h r (List.mem_flatMap.2 ⟨b, hb, hr⟩)
  simp at this; omega
theorem old_st {t : RStep} (h : ∀ r ∈ regsS t, r.1 < 5000) : OldS (absS t) := by
  unfold regsS regsA at h
  unfold absS
  by_cases e1 : t.op = 118
  · rw [if_pos e1]
    rw [if_neg (by omega)] at h
    exact h t.to (by simp)
  rw [if_neg e1] at h ⊢
  by_cases e2 : t.op = 99
  · rw [if_pos e2] at h ⊢
    rw [if_neg (by omega)] at h
    exact ⟨h t.to (by simp), h t.a (by simp)⟩
  rw [if_neg e2] at h ⊢
  by_cases e3 : t.op = 33
  · rw [if_pos e3] at h ⊢
    rw [if_pos e3] at h
    exact h t.a (by simp)
  rw [if_neg e3] at h ⊢
  rw [if_neg e3] at h
  by_cases e4 : t.op = 63
  · rw [if_pos e4] at h ⊢
    exact h t.to (by simp)
  rw [if_neg e4] at h ⊢
  exact ⟨h t.to (by simp), h t.a (by simp), h t.b (by simp)⟩
/-- Of what is read, what is asked. -/
structure RdOk (bs : List RBlk) : Prop where
  pos : 0 < bs.length
  le : bs.length ≤ 12
  goals : ∀ b ∈ bs, ∀ p ∈ goalsF b.e, p.1 < bs.length
  rs : ∀ b ∈ bs, ∀ c ∈ b.chs, c.rs.length = c.gs.length
  ahead : ∀ i (hi : i < bs.length), ∀ c ∈ bs[i].chs, nums c.gs = aheF bs i
theorem ahe_mem {bs : List RBlk} {i k : Nat} (hi : i < bs.length) (h : k ∈ (goalsF bs[i].e).map (·.1)) : i ∈ aheF bs k := by
  unfold aheF aheTo
  rw [List.mem_filter]
  refine ⟨by simpa using hi, ?_⟩
  unfold aheB
  rw [List.getElem?_eq_getElem hi]
  show hasF (behF (goalsF bs[i].e)) k = true
  unfold hasF
  rw [List.contains_iff_mem]
  revert h
  unfold goalsF
  split
  · intro h; simpa [behF] using h
  · split
    · intro h
      simp only [List.map_cons, List.map_nil, List.mem_cons, List.not_mem_nil, or_false] at h
      show k ∈ (if bs[i].e.two.1 = bs[i].e.one.1 then [bs[i].e.one.1] else [bs[i].e.one.1, bs[i].e.two.1])
      split
      · rename_i e; rw [List.mem_singleton]; omega
      · simpa using h
    · intro h; simp at h
theorem pln_ok {bs : List RBlk} {n : Nat} (hj : JP bs n) (hr : RdOk bs) (hn : newF bs = none) : PlnOk (absP bs) := by
  have hl : (absP bs).length = bs.length := by simp [absP]
  have hm : ∀ b ∈ absP bs, ∃ c ∈ bs, b = absB c := fun b hb => by
    obtain ⟨c, hc, rfl⟩ := List.mem_map.1 hb
    exact ⟨c, hc, rfl⟩
  refine ⟨fun b hb => ?_, fun b hb h => ?_, fun b hb h => ?_, ?_⟩
  · obtain ⟨c, hc, rfl⟩ := hm b hb
    have hreg := new_none hn c hc
    have hC : ∀ x ∈ c.chs, ∀ r ∈ regsC x, r.1 < 5000 := fun x hx r hr => hreg r (by
      unfold regsB regsCS; exact List.mem_append_left _ (List.mem_append_left _ (List.mem_flatMap.2 ⟨x, hx, hr⟩)))
    have hS : ∀ x ∈ c.sts, ∀ r ∈ regsS x, r.1 < 5000 := fun x hx r hr => hreg r (by
      unfold regsB regsCS; exact List.mem_append_left _ (List.mem_append_right _ (List.mem_flatMap.2 ⟨x, hx, hr⟩)))
    refine ⟨fun t ht => ?_, fun x hx => ?_, ?_⟩
    · obtain ⟨t, h2, rfl⟩ := List.mem_map.1 ht
      exact old_st (hS t h2)
    · obtain ⟨x, h2, rfl⟩ := List.mem_map.1 hx
      refine ⟨hC x h2 x.to (List.mem_cons_self ..), fun p hp => ?_⟩
      have := List.of_mem_zip hp
      obtain ⟨r, h3, h4⟩ := List.mem_map.1 this.2
      rw [← h4]; exact hC x h2 r (List.mem_cons_of_mem _ h3)
    · have he := hj.e c hc
      by_cases e : c.e.op = 63
      · exact hreg c.e.a (by unfold regsB regsE; rw [if_pos e]; exact List.mem_append_right _ (List.mem_singleton.2 rfl))
      · rcases he with he | he | he
        · show c.e.a.1 < 5000; rw [show c.e.a.1 = 0 from he.2.1]; omega
        · show c.e.a.1 < 5000; rw [show c.e.a.1 = 0 from he.2.1]; omega
        · exact absurd he.1 e
  · obtain ⟨c, hc, rfl⟩ := hm b hb
    rw [hl]
    refine hr.goals c hc c.e.one ?_
    have he := hj.e c hc
    have h : ¬ c.e.op = 46 := h
    rcases he with he | he | he
    · exact absurd he.1 h
    · have e : c.e.op = 62 := he.1
      unfold goalsF; rw [if_pos e]; simp
    · have e : c.e.op = 63 := he.1
      unfold goalsF; rw [if_neg (by omega), if_pos e]; simp
  · obtain ⟨c, hc, rfl⟩ := hm b hb
    rw [hl]
    have e : c.e.op = 63 := h
    refine hr.goals c hc c.e.two ?_
    unfold goalsF; rw [if_neg (by omega), if_pos e]; simp
  · intro i hi t ht h46 hor c hc
    have hi' : i < bs.length := by rwa [hl] at hi
    have ht' : t < bs.length := by rwa [hl] at ht
    have ei : (absP bs)[i] = absB bs[i] := by simp [absP]
    have et : (absP bs)[t] = absB bs[t] := by simp [absP]
    rw [ei] at h46 hor
    rw [et] at hc
    obtain ⟨x, hx, rfl⟩ := List.mem_map.1 hc
    have he := hj.e bs[i] (List.getElem_mem _)
    have h46 : ¬ bs[i].e.op = 46 := h46
    have hmem : t ∈ (goalsF bs[i].e).map (·.1) := by
      rcases he with he | he | he
      · exact absurd he.1 h46
      · have e : bs[i].e.op = 62 := he.1
        unfold goalsF; rw [if_pos e]
        rcases hor with h | ⟨h, _⟩
        · have h : t = bs[i].e.one.1 := h
          simp [h]
        · have h : bs[i].e.op = 63 := h
          omega
      · have e : bs[i].e.op = 63 := he.1
        unfold goalsF; rw [if_neg (by omega), if_pos e]
        rcases hor with h | ⟨_, h⟩
        · have h : t = bs[i].e.one.1 := h
          simp [h]
        · have h : t = bs[i].e.two.1 := h
          simp [h]
    have := ahe_mem hi' hmem
    rw [← hr.ahead t ht' x hx] at this
    obtain ⟨g, hg, e⟩ := List.mem_map.1 this
    obtain ⟨q, hq, eq⟩ := List.getElem_of_mem hg
    have hrl := hr.rs bs[t] (List.getElem_mem _) x hx
    refine ⟨(x.gs[q].1, x.rs[q].1), ?_, by rw [eq]; exact e⟩
    show _ ∈ (x.gs.map (·.1)).zip (x.rs.map (·.1))
    rw [List.mem_iff_getElem]
    exact ⟨q, by simp; omega, by simp⟩

/-- Sums over the numbers below one. -/
def sumL : Nat → (Nat → Nat) → Nat
  | 0, _ => 0
  | n + 1, f => f 0 + sumL n fun i => f (i + 1)
theorem sumL_add : ∀ (n : Nat) (f g : Nat → Nat), sumL n (fun i => f i + g i) = sumL n f + sumL n g
  | 0, _, _ => rfl
  | n + 1, f, g => by rw [sumL, sumL, sumL, sumL_add n]; omega
theorem sumL_mul : ∀ (n : Nat) (c : Nat) (f : Nat → Nat), sumL n (fun i => c * f i) = c * sumL n f
  | 0, _, _ => rfl
  | n + 1, c, f => by rw [sumL, sumL, sumL_mul n, Nat.mul_add]
theorem sumL_zero : ∀ (n : Nat), sumL n (fun _ => 0) = 0
  | 0 => rfl
  | n + 1 => by rw [sumL, sumL_zero n]
theorem sumL_le : ∀ (n : Nat) (f g : Nat → Nat), (∀ i, i < n → f i ≤ g i) → sumL n f ≤ sumL n g
  | 0, _, _, _ => Nat.le_refl _
  | n + 1, f, g, h => by
    rw [sumL, sumL]
    have h1 := h 0 (Nat.succ_pos _)
    have h2 := sumL_le n (fun i => f (i + 1)) (fun i => g (i + 1)) (fun i hi => h (i + 1) (by omega))
    omega
theorem sumL_one : ∀ (n a : Nat), sumL n (fun i => if a = i then 1 else 0) ≤ 1
  | 0, _ => Nat.zero_le _
  | n + 1, a => by
    rw [sumL]
    by_cases e : a = 0
    · subst e
      have : sumL n (fun i => if 0 = i + 1 then 1 else 0) = 0 := by
        rw [show (fun i : Nat => if 0 = i + 1 then 1 else 0) = fun _ => 0 from funext fun i => by rw [if_neg (by omega)]]
        exact sumL_zero n
      rw [this, if_pos rfl]
      exact Nat.le_refl _
    · rw [if_neg e]
      have := sumL_one n (a - 1)
      rw [show (fun i : Nat => if a = i + 1 then 1 else 0) = fun i => if a - 1 = i then 1 else 0 from funext fun i => by
        by_cases h : a = i + 1
        · rw [if_pos h, if_pos (by omega)]
        · rw [if_neg h, if_neg (by omega)]]
      omega
theorem srcs_sum (n k : Nat) : ∀ (src : List (Nat × Nat)), sumL n (fun i => (srcsF k i src).length) ≤ src.length
  | [] => by show sumL n (fun _ => 0) ≤ 0; rw [sumL_zero]; exact Nat.le_refl _
  | p :: src => by
    have e : (fun i => (srcsF k i (p :: src)).length) = fun i => (if p.1 = i then 1 else 0) + (srcsF k i src).length := funext fun i => by
      unfold srcsF
      by_cases h : p.1 = i
      · rw [List.filter_cons_of_pos (by simpa using h), if_pos h]; simp; omega
      · rw [List.filter_cons_of_neg (by simpa using h), if_neg h]; simp
    rw [e, sumL_add, List.length_cons]
    have := sumL_one n p.1
    have := srcs_sum n k src
    omega
def srcN (en : List (Nat × Nat × ACh)) : Nat := (en.map fun x => x.2.2.src.length).sum
theorem las_sum (n : Nat) : ∀ (en : List (Nat × Nat × ACh)), sumL n (fun i => (lasF en i).length) ≤ srcN en
  | [] => by show sumL n (fun _ => 0) ≤ 0; rw [sumL_zero]; exact Nat.le_refl _
  | x :: en => by
    have e : (fun i => (lasF (x :: en) i).length) = fun i => (srcsF x.2.1 i x.2.2.src).length + (lasF en i).length := funext fun i => by
      show (srcsF x.2.1 i x.2.2.src ++ lasF en i).length = _
      rw [List.length_append]
    rw [e, sumL_add]
    have h1 := srcs_sum n x.2.1 x.2.2.src
    have h2 := las_sum n en
    have e2 : srcN (x :: en) = x.2.2.src.length + srcN en := by simp [srcN]
    omega
theorem srcN_en : ∀ (bs : List ABk) (i n : Nat), srcN (enF i n bs) = (bs.map fun b => (b.chs.map fun c => c.src.length).sum).sum
  | [], _, _ => rfl
  | b :: bs, i, n => by
    have e : srcN (enF i n (b :: bs)) = srcN (enB i n b) + srcN (enF (i + 1) (n + b.chs.length) bs) := by
      show srcN (enB i n b ++ enF (i + 1) (n + b.chs.length) bs) = _
      simp [srcN]
    rw [e, srcN_en bs, List.map_cons, List.sum_cons]
    congr 1
    unfold srcN enB
    rw [List.map_map]
    show ((b.chs.zipIdx n).map ((fun c : ACh => c.src.length) ∘ Prod.fst)).sum = _
    rw [← List.map_map, List.zipIdx_map_fst]
theorem sum_mapIdx {g : ABk → Nat} : ∀ (bs : List ABk) (f : Nat → ABk → ABk), ((bs.mapIdx f).map g).sum = sumL bs.length fun i => g (f i (bkA bs i))
  | [], _ => rfl
  | b :: bs, f => by
    rw [List.mapIdx_cons, List.map_cons, List.sum_cons, List.length_cons, sumL, sum_mapIdx bs]
    rfl
theorem sum_map {g : ABk → Nat} : ∀ (bs : List ABk), (bs.map g).sum = sumL bs.length fun i => g (bkA bs i)
  | [] => rfl
  | b :: bs => by
    rw [List.map_cons, List.sum_cons, List.length_cons, sumL, sum_map bs]
    rfl
theorem st_len {t : ASt} (h : OkS t) : (stT t).length ≤ 17 := by
  cases t with
  | val t n =>
    have h1 := rg_len h.1
    have h2 : (Lib.itoa n).length ≤ 5 := by
      unfold Lib.itoa
      have h := h.2
      split
      · rw [List.length_cons]; have := dec_len h; omega
      · have := dec_len (n := n.toNat) (by omega); omega
    simp only [stT, gvT, List.length_append, List.length_cons]; omega
  | cp t a =>
    have h1 := rg_len h.1
    have h2 := rg_len h.2
    simp only [stT, gvT, List.length_append, List.length_cons]; omega
  | op o t a b =>
    have h1 := rg_len h.2.1
    have h2 := rg_len h.2.2.1
    have h3 := rg_len h.2.2.2
    simp only [stT, gvT, List.length_append, List.length_cons]; omega
  | inp t =>
    have h1 : (rgT t).length ≤ 5 := rg_len h
    simp only [stT, gvT, List.length_append, List.length_cons, List.length_nil]; omega
  | out a =>
    have h1 : (rgT a).length ≤ 5 := rg_len h
    simp only [stT, List.length_cons]; omega
theorem cp_len {t a : Nat} (h1 : t < 10000) (h2 : a < 10000) : (stT (.cp t a)).length ≤ 11 := by
  have h1 := rg_len h1
  have h2 := rg_len h2
  simp only [stT, gvT, List.length_append, List.length_cons]; omega
theorem en_len {e : AEn} (h : OkE e) : (enT e).length ≤ 15 := by
  unfold enT
  rcases h with ⟨h1, _, _, _⟩ | ⟨h1, _, h3, _⟩ | ⟨h1, h2, h3, h4⟩
  · rw [if_pos h1]; decide
  · rw [if_neg (by omega), if_pos h1, List.length_cons]; have := dec_len h3; omega
  · rw [if_neg (by omega), if_neg (by omega)]
    have h2 := rg_len h2
    have h3 := dec_len h3
    have h4 := dec_len h4
    simp only [List.length_append, List.length_cons]; omega
theorem stsT_app (l k : List ASt) : stsT (l ++ k) = stsT l ++ stsT k := by simp [stsT]
theorem sts_len {c : Nat} : ∀ (l : List ASt), (∀ t ∈ l, (stT t).length ≤ c) → (stsT l).length ≤ (c + 1) * l.length
  | [], _ => Nat.zero_le _
  | t :: l, h => by
    have h1 := h t (List.mem_cons_self ..)
    have h2 := sts_len l (fun x hx => h x (List.mem_cons_of_mem _ hx))
    rw [stsT_cons, List.length_append, List.length_cons, List.length_cons, Nat.mul_add]
    omega
theorem pr_len : ∀ (bs : List ABk), (prT bs).length ≤ (bs.map fun b => (bkT b).length + 1).sum
  | [] => Nat.zero_le _
  | [b] => by rw [prT_one]; simp
  | b :: c :: bs => by
    have := pr_len (c :: bs)
    rw [prT_cons, List.length_append, List.length_cons, List.map_cons, List.sum_cons]
    omega
/-- The choices of a program, their sources and its steps, by numbers. -/
structure Few (bs : List ABk) : Prop where
  c : (bs.map fun b => b.chs.length).sum ≤ 5000
  all : 18 * (bs.map fun b => b.sts.length).sum + 12 * (bs.map fun b => b.chs.length).sum + 12 * (bs.map fun b => (b.chs.map fun c => c.src.length).sum).sum ≤ 180000
theorem fir_len {bs : List ABk} {i : Nat} (hi : i < bs.length) : (firF (enF 0 5000 bs) i).length = (bkA bs i).chs.length := by
  have e := en_fir (fun c => (0, 0)) bs 0 5000 i hi
  rw [Nat.zero_add] at e
  have e := congrArg List.length e
  rw [List.length_map, List.length_map] at e
  unfold firF
  rw [List.length_map, e, bkA_at hi]
theorem en_lt {bs : List ABk} (h : Few bs) {x : Nat × Nat × ACh} (hx : x ∈ enF 0 5000 bs) : x.2.1 < 10000 := by
  have : x.2.1 ∈ (enF 0 5000 bs).map fun x => x.2.1 := List.mem_map.2 ⟨x, hx, rfl⟩
  rw [en_nums, List.mem_range'_1] at this
  have := h.c
  omega
theorem fir_mem {bs : List ABk} (h : PlnOk bs) (hf : Few bs) {i : Nat} : ∀ t ∈ firF (enF 0 5000 bs) i, ∃ a b, t = .cp a b ∧ a < 10000 ∧ b < 10000 := by
  intro t ht
  obtain ⟨x, hx, rfl⟩ := List.mem_map.1 ht
  have hx := (List.mem_filter.1 hx).1
  have := (h.en.c x hx).1
  exact ⟨_, _, rfl, by omega, en_lt hf hx⟩
theorem las_mem {bs : List ABk} (h : PlnOk bs) (hf : Few bs) {i : Nat} : ∀ t ∈ lasF (enF 0 5000 bs) i, ∃ a b, t = .cp a b ∧ a < 10000 ∧ b < 10000 := by
  intro t ht
  obtain ⟨x, hx, ht⟩ := List.mem_flatMap.1 ht
  obtain ⟨p, hp, rfl⟩ := List.mem_map.1 ht
  have hp := (List.mem_filter.1 hp).1
  have := (h.en.c x hx).2 p hp
  exact ⟨_, _, rfl, en_lt hf hx, by omega⟩
structure OkA (b : ABk) : Prop where
  sts : ∀ t ∈ b.sts, OkS t
  e : OkE b.e
theorem pln_fine {bs : List ABk} (h : PlnOk bs) (hf : Few bs) (hk : ∀ b ∈ bs, OkA b) : ∀ b ∈ plnA bs, OkB b := by
  intro b hb
  unfold plnA at hb
  rw [List.mem_mapIdx] at hb
  obtain ⟨i, hi, rfl⟩ := hb
  have ob := hk bs[i] (List.getElem_mem _)
  refine ⟨rfl, fun t ht => ?_, ob.e⟩
  have ht : t ∈ firF (enF 0 5000 bs) i ++ bs[i].sts ++ lasF (enF 0 5000 bs) i := ht
  rw [List.mem_append, List.mem_append] at ht
  rcases ht with (ht | ht) | ht
  · obtain ⟨a, b, rfl, h1, h2⟩ := fir_mem h hf t ht; exact ⟨h1, h2⟩
  · exact ob.sts t ht
  · obtain ⟨a, b, rfl, h1, h2⟩ := las_mem h hf t ht; exact ⟨h1, h2⟩
theorem pln_len {bs : List ABk} (h : PlnOk bs) (hf : Few bs) (hk : ∀ b ∈ bs, OkA b) (hn : bs.length ≤ 12) : (prT (plnA bs)).length ≤ 200000 := by
  refine Nat.le_trans (pr_len _) ?_
  unfold plnA
  rw [sum_mapIdx]
  have hb : ∀ i, i < bs.length → (bkT (plnB (enF 0 5000 bs) i (bkA bs i))).length + 1 ≤ ((12 * (bkA bs i).chs.length + 18 * (bkA bs i).sts.length) + 12 * (lasF (enF 0 5000 bs) i).length) + 16 := by
    intro i hi
    have ob := hk bs[i] (List.getElem_mem _)
    have e1 : bkT (plnB (enF 0 5000 bs) i (bkA bs i)) = stsT (firF (enF 0 5000 bs) i) ++ stsT (bkA bs i).sts ++ stsT (lasF (enF 0 5000 bs) i) ++ enT (bkA bs i).e := by
      show stsT (firF (enF 0 5000 bs) i ++ (bkA bs i).sts ++ lasF (enF 0 5000 bs) i) ++ _ = _
      rw [stsT_app, stsT_app]; rfl
    have l1 := sts_len (c := 11) (firF (enF 0 5000 bs) i) (fun t ht => by obtain ⟨a, b, rfl, h1, h2⟩ := fir_mem h hf t ht; exact cp_len h1 h2)
    have l2 := sts_len (c := 17) (bkA bs i).sts (fun t ht => by rw [bkA_at hi] at ht; exact st_len (ob.sts t ht))
    have l3 := sts_len (c := 11) (lasF (enF 0 5000 bs) i) (fun t ht => by obtain ⟨a, b, rfl, h1, h2⟩ := las_mem h hf t ht; exact cp_len h1 h2)
    have l4 : (enT (bkA bs i).e).length ≤ 15 := by rw [bkA_at hi]; exact en_len ob.e
    rw [fir_len hi] at l1
    rw [e1, List.length_append, List.length_append, List.length_append]
    omega
  refine Nat.le_trans (sumL_le _ _ _ hb) ?_
  rw [sumL_add, sumL_add, sumL_add, sumL_mul, sumL_mul, sumL_mul]
  have s1 := sum_map (g := fun b => b.chs.length) bs
  have s2 := sum_map (g := fun b => b.sts.length) bs
  have s3 := las_sum bs.length (enF 0 5000 bs)
  rw [srcN_en] at s3
  have s4 : sumL bs.length (fun _ => 16) = 16 * bs.length := by
    have e : sumL bs.length (fun _ => 16 * 1) = 16 * sumL bs.length (fun _ => 1) := sumL_mul _ _ _
    have e2 : ∀ n, sumL n (fun _ => 1) = n := fun n => by induction n with | zero => rfl | succ n ih => rw [sumL, ih]; omega
    rw [e2] at e; exact e
  rw [s4, ← s1, ← s2]
  have := hf.all
  omega

end Go.Proofs.YtgfhfkgdmidhpaaGreatDoor
