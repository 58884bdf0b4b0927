import Derived.Lib.SlicesCompact
namespace Go.Proofs.YtgfhfkgdmidhpaaGreat

/-- To which blocks one comes from block 0 without a barred one. -/
inductive Rch (su : Nat → List Nat) (bar : Nat → Bool) : Nat → Prop
  | zero : bar 0 = false → Rch su bar 0
  | step {i k : Nat} : Rch su bar i → k ∈ su i → bar k = false → Rch su bar k

theorem Rch.nb {su bar k} (h : Rch su bar k) : bar k = false := by cases h <;> assumption
theorem Rch.lt {su : Nat → List Nat} {bar k n} (hn : 0 < n) (hs : ∀ i k, k ∈ su i → k < n) (h : Rch su bar k) : k < n := by
  cases h with
  | zero => exact hn
  | step _ h _ => exact hs _ _ h

/-- A list of numbers below n that have a property. -/
def setL (n : Nat) (f : Nat → Bool) : List Nat := (List.range n).filter f
theorem setL_mem {n f j} : j ∈ setL n f ↔ j < n ∧ f j = true := by simp [setL]
theorem setL_srt (n f) : (setL n f).Pairwise (· < ·) := List.Pairwise.filter _ List.pairwise_lt_range
theorem setL_len (n f) : (setL n f).length ≤ n := by
  have := List.length_filter_le f (List.range n); simpa [setL] using this
theorem srt_ext : ∀ {l m : List Nat}, l.Pairwise (· < ·) → m.Pairwise (· < ·) → (∀ x, x ∈ l ↔ x ∈ m) → l = m
  | [], [], _, _, _ => rfl
  | [], b :: m, _, _, h => absurd ((h b).2 (List.mem_cons_self ..)) (by simp)
  | a :: l, [], _, _, h => absurd ((h a).1 (List.mem_cons_self ..)) (by simp)
  | a :: l, b :: m, hl, hm, h => by
    rw [List.pairwise_cons] at hl hm
    have hab : a = b := by
      have h1 := (h a).1 (List.mem_cons_self ..)
      have h2 := (h b).2 (List.mem_cons_self ..)
      rcases List.mem_cons.1 h1 with e | h1
      · exact e
      · rcases List.mem_cons.1 h2 with e | h2
        · exact e.symm
        · have := hm.1 a h1; have := hl.1 b h2; omega
    subst hab
    congr 1
    refine srt_ext hl.2 hm.2 fun x => ?_
    constructor
    · intro hx
      rcases List.mem_cons.1 ((h x).1 (List.mem_cons_of_mem _ hx)) with e | h1
      · have := hl.1 x hx; omega
      · exact h1
    · intro hx
      rcases List.mem_cons.1 ((h x).2 (List.mem_cons_of_mem _ hx)) with e | h1
      · have := hm.1 x hx; omega
      · exact h1
theorem setL_of {n : Nat} {f : Nat → Bool} {l : List Nat} (hl : l.Pairwise (· < ·)) (h : ∀ x, x ∈ l ↔ x < n ∧ f x = true) : l = setL n f :=
  srt_ext hl (setL_srt n f) fun x => by rw [h, setL_mem]
theorem setL_congr {n : Nat} {f g : Nat → Bool} (h : ∀ j, j < n → f j = g j) : setL n f = setL n g :=
  List.filter_congr fun x hx => h x (by simpa using hx)
theorem setL_inj {n : Nat} {f g : Nat → Bool} (h : setL n f = setL n g) : ∀ j, j < n → f j = g j := fun j hj => by
  have h1 : j ∈ setL n f ↔ j ∈ setL n g := by rw [h]
  rw [setL_mem, setL_mem] at h1
  cases hf : f j <;> cases hg : g j <;> simp_all
theorem setL_lt {f g : Nat → Bool} : ∀ {n : Nat}, (∀ j, j < n → f j = true → g j = true) → setL n f ≠ setL n g → (setL n f).length < (setL n g).length := by
  have le : ∀ {n : Nat}, (∀ j, j < n → f j = true → g j = true) → (setL n f).length ≤ (setL n g).length := by
    intro n
    induction n with
    | zero => intro _; simp [setL]
    | succ n ih =>
      intro h
      have h1 := ih (fun j hj => h j (by omega))
      have h2 := h n (by omega)
      simp only [setL, List.range_succ, List.filter_append, List.length_append] at h1 ⊢
      cases hf : f n <;> cases hg : g n <;> simp_all <;> omega
  intro n
  induction n with
  | zero => intro _ h; exact absurd rfl h
  | succ n ih =>
    intro h hne
    have h2 := h n (by omega)
    have h3 := le (n := n) (fun j hj => h j (by omega))
    by_cases he : setL n f = setL n g
    · have : f n ≠ g n := fun e => hne (by simp only [setL, List.range_succ, List.filter_append] at he ⊢; rw [he]; simp [List.filter_cons, e])
      simp only [setL, List.range_succ, List.filter_append, List.length_append] at h3 ⊢
      cases hf : f n <;> cases hg : g n <;> simp_all <;> omega
    · have h1 := ih (fun j hj => h j (by omega)) he
      simp only [setL, List.range_succ, List.filter_append, List.length_append] at h1 ⊢
      cases hf : f n <;> cases hg : g n <;> simp_all <;> omega

/-- The reference's way: rounds that mark. -/
def mark (bar : Nat → Bool) (f : Nat → Bool) (ks : List Nat) : Nat → Bool := fun j => f j || (ks.contains j && !bar j)
def rnd1 (su : Nat → List Nat) (bar f : Nat → Bool) (i : Nat) : Nat → Bool := if f i then mark bar f (su i) else f
def rndTo (su : Nat → List Nat) (bar f : Nat → Bool) : Nat → (Nat → Bool)
  | 0 => f
  | m + 1 => rnd1 su bar (rndTo su bar f m) m
def rnds (su : Nat → List Nat) (bar : Nat → Bool) (n : Nat) (f : Nat → Bool) : Nat → (Nat → Bool)
  | 0 => f
  | r + 1 => rndTo su bar (rnds su bar n f r) n
def start0 (j : Nat) : Bool := j == 0

theorem rnd1_mono {su bar f i j} (h : f j = true) : rnd1 su bar f i j = true := by
  unfold rnd1; split <;> simp [mark, h]
theorem rndTo_mono {su bar f j} (h : f j = true) : ∀ m, rndTo su bar f m j = true
  | 0 => h
  | m + 1 => rnd1_mono (rndTo_mono h m)
theorem rndTo_mono' {su bar f j} : ∀ {m m' : Nat}, m ≤ m' → rndTo su bar f m j = true → rndTo su bar f m' j = true
  | m, 0, h, hj => by rw [show m = 0 by omega] at hj; exact hj
  | m, k + 1, h, hj => by
    rcases Nat.lt_or_ge k m with h1 | h1
    · rw [show m = k + 1 by omega] at hj; exact hj
    · exact rnd1_mono (rndTo_mono' h1 hj)
theorem rnd1_sound {su bar f i} (h : ∀ j, f j = true → Rch su bar j) : ∀ j, rnd1 su bar f i j = true → Rch su bar j := by
  intro j hj
  unfold rnd1 at hj
  by_cases hi : f i = true
  · rw [if_pos hi] at hj
    simp only [mark, Bool.or_eq_true, Bool.and_eq_true, List.contains_iff_mem, Bool.not_eq_true'] at hj
    rcases hj with hj | ⟨h1, h2⟩
    · exact h j hj
    · exact .step (h i hi) h1 h2
  · rw [if_neg hi] at hj; exact h j hj
theorem rndTo_sound {su bar f} (h : ∀ j, f j = true → Rch su bar j) : ∀ m j, rndTo su bar f m j = true → Rch su bar j
  | 0 => h
  | m + 1 => rnd1_sound (rndTo_sound h m)
theorem rnds_sound {su bar n f} (h : ∀ j, f j = true → Rch su bar j) : ∀ r j, rnds su bar n f r j = true → Rch su bar j
  | 0 => h
  | r + 1 => rndTo_sound (rnds_sound h r) n
theorem rnds_mono {su bar n f j} (h : f j = true) : ∀ r, rnds su bar n f r j = true
  | 0 => h
  | r + 1 => rndTo_mono (rnds_mono h r) n
/-- A round that turns nothing has nothing more to mark. -/
theorem rndTo_closed {su bar f n} (h : ∀ j, j < n → rndTo su bar f n j = f j) {i k : Nat} (hi : i < n) (hk : k < n) (hf : f i = true) (hs : k ∈ su i) (hb : bar k = false) : f k = true := by
  rw [← h k hk]
  refine rndTo_mono' (m := i + 1) hi ?_
  show rnd1 su bar (rndTo su bar f i) i k = true
  rw [rnd1, if_pos (rndTo_mono hf i)]
  simp [mark, hs, hb]
theorem rnds_closed {su bar n f} (h0 : setL n f ≠ []) : ∀ r, (∀ j, j < n → rnds su bar n f (r + 1) j = rnds su bar n f r j) ∨ r < (setL n (rnds su bar n f r)).length := by
  have stepc : ∀ r, (∀ j, j < n → rnds su bar n f (r + 1) j = rnds su bar n f r j) ∨ (setL n (rnds su bar n f r)).length < (setL n (rnds su bar n f (r + 1))).length := by
    intro r
    by_cases he : setL n (rnds su bar n f r) = setL n (rnds su bar n f (r + 1))
    · exact .inl fun j hj => (setL_inj he j hj).symm
    · exact .inr (setL_lt (fun j _ hj => rndTo_mono hj n) he)
  intro r
  induction r with
  | zero =>
    rcases List.length_pos_iff.2 h0 with h
    exact .inr h
  | succ r ih =>
    rcases ih with h | h
    · left
      -- equal below n stays equal
      have eqv : ∀ {g g' : Nat → Bool}, (∀ j, j < n → g j = g' j) → (∀ i k, k ∈ su i → k < n) ∨ True → ∀ m, m ≤ n → ∀ j, j < n → rndTo su bar g m j = rndTo su bar g' m j := by
        intro g g' hg _ m
        induction m with
        | zero => intro _ j hj; exact hg j hj
        | succ m ihm =>
          intro hm j hj
          show rnd1 su bar _ m j = rnd1 su bar _ m j
          have e1 := ihm (by omega) m (by omega)
          have e2 := ihm (by omega) j hj
          unfold rnd1
          rw [e1]
          split
          · simp [mark, e2]
          · exact e2
      intro j hj
      exact eqv h (.inr trivial) n (Nat.le_refl _) j hj
    · rcases stepc r with h1 | h1
      · left
        have eqv : ∀ {g g' : Nat → Bool}, (∀ j, j < n → g j = g' j) → ∀ m, m ≤ n → ∀ j, j < n → rndTo su bar g m j = rndTo su bar g' m j := by
          intro g g' hg m
          induction m with
          | zero => intro _ j hj; exact hg j hj
          | succ m ihm =>
            intro hm j hj
            show rnd1 su bar _ m j = rnd1 su bar _ m j
            have e1 := ihm (by omega) m (by omega)
            have e2 := ihm (by omega) j hj
            unfold rnd1
            rw [e1]
            split
            · simp [mark, e2]
            · exact e2
        intro j hj
        exact eqv h1 n (Nat.le_refl _) j hj
      · right; omega
/-- What the rounds mark is where one comes. -/
theorem rnds_iff {su bar n} (hn : 0 < n) (hs : ∀ i k, k ∈ su i → k < n) (hb : bar 0 = false) {j : Nat} : rnds su bar n start0 n j = true ↔ Rch su bar j := by
  have hs0 : ∀ j, start0 j = true → Rch su bar j := fun j h => by
    have : j = 0 := by simpa [start0] using h
    subst this; exact .zero hb
  constructor
  · exact rnds_sound hs0 n j
  · intro h
    have h0 : setL n start0 ≠ [] := fun e => by
      have : (0 : Nat) ∈ setL n start0 := setL_mem.2 ⟨hn, rfl⟩
      rw [e] at this; cases this
    have hc : ∀ j, j < n → rnds su bar n start0 (n + 1) j = rnds su bar n start0 n j := by
      rcases rnds_closed (su := su) (bar := bar) h0 n with h | h
      · exact h
      · have := setL_len n (rnds su bar n start0 n); omega
    induction h with
    | zero _ => exact rnds_mono rfl n
    | step hi hk hbk ih => exact rndTo_closed hc (hi.lt hn hs) (hs _ _ hk) ih hk hbk

/-- The program's way: all at once, till nothing changes. -/
def jac (su : Nat → List Nat) (bar : Nat → Bool) (n : Nat) (f : Nat → Bool) : Nat → Bool := fun j => (f j || (List.range n).any fun i => f i && (su i).contains j) && !bar j
def jac0 (bar : Nat → Bool) (j : Nat) : Bool := start0 j && !bar j
structure JacOk (su : Nat → List Nat) (bar : Nat → Bool) (n : Nat) (f : Nat → Bool) : Prop where
  sound : ∀ j, f j = true → Rch su bar j
  zero : bar 0 = false → f 0 = true
theorem JacOk.start (su bar n) : JacOk su bar n (jac0 bar) :=
  ⟨fun j h => by
    simp only [jac0, start0, Bool.and_eq_true, beq_iff_eq, Bool.not_eq_true'] at h
    obtain ⟨rfl, h⟩ := h; exact .zero h, fun h => by simp [jac0, start0, h]⟩
theorem JacOk.step {su bar n f} (h : JacOk su bar n f) : JacOk su bar n (jac su bar n f) := by
  refine ⟨fun j hj => ?_, fun h0 => by simp [jac, h.zero h0, h0]⟩
  simp only [jac, Bool.and_eq_true, Bool.or_eq_true, List.any_eq_true, List.mem_range, List.contains_iff_mem, Bool.not_eq_true'] at hj
  rcases hj with ⟨h1 | ⟨i, _, h1, h2⟩, hb⟩
  · exact h.sound j h1
  · exact .step (h.sound i h1) h2 hb
theorem JacOk.mono {su bar n f} (h : JacOk su bar n f) (j : Nat) (hj : f j = true) : jac su bar n f j = true := by
  simp [jac, hj, (h.sound j hj).nb]
theorem JacOk.done {su bar n f} (h : JacOk su bar n f) (hn : 0 < n) (hs : ∀ i k, k ∈ su i → k < n) (he : setL n (jac su bar n f) = setL n f) {j : Nat} : f j = true ↔ Rch su bar j := by
  constructor
  · exact h.sound j
  · intro hr
    induction hr with
    | zero hb => exact h.zero hb
    | step hi hk hbk ih =>
      rw [← setL_inj he _ (hs _ _ hk)]
      simp only [jac, Bool.and_eq_true, Bool.or_eq_true, List.any_eq_true, List.mem_range, List.contains_iff_mem, Bool.not_eq_true']
      exact ⟨.inr ⟨_, hi.lt hn hs, ih, hk⟩, hbk⟩
theorem JacOk.less {su bar n f} (h : JacOk su bar n f) (he : setL n (jac su bar n f) ≠ setL n f) : (setL n f).length < (setL n (jac su bar n f)).length :=
  setL_lt (fun j _ hj => h.mono j hj) (fun e => he e.symm)

/-- To which blocks one comes, as a test. -/
def rchF (su : Nat → List Nat) (n : Nat) (bar : Nat → Bool) (j : Nat) : Bool := !bar 0 && rnds su bar n start0 n j
theorem rchF_iff {su n bar j} (hn : 0 < n) (hs : ∀ i k, k ∈ su i → k < n) : rchF su n bar j = true ↔ Rch su bar j := by
  cases hb : bar 0 with
  | true =>
    simp only [rchF, hb]
    constructor
    · intro h; cases h
    · intro h
      exfalso
      have : ∀ j, Rch su bar j → False := fun j h => by induction h with
        | zero h => rw [hb] at h; cases h
        | step _ _ _ ih => exact ih
      exact this j h
  | false => simp only [rchF, hb, Bool.not_false, Bool.true_and]; exact rnds_iff hn hs hb
def noB (_ : Nat) : Bool := false
def isB (a j : Nat) : Bool := j == a
def overF (su : Nat → List Nat) (n a b : Nat) : Bool := rchF su n noB b && !rchF su n (isB a) b
def othB (su : Nat → List Nat) (n b a : Nat) : Bool := a != b && overF su n a b
def lastB (su : Nat → List Nat) (n b a : Nat) : Bool := othB su n b a && (List.range n).all fun c => !othB su n b c || overF su n c a
def kprO (su : Nat → List Nat) (n b : Nat) : Option Nat := (List.range n).find? (lastB su n b)
def kprF (su : Nat → List Nat) (n b : Nat) : Int := if rchF su n noB b then (match kprO su n b with | some a => (a : Int) | none => -1) else -2
theorem jac_done {su bar n f} (h : JacOk su bar n f) (hn : 0 < n) (hs : ∀ i k, k ∈ su i → k < n) (he : setL n (jac su bar n f) = setL n f) : setL n f = setL n (rchF su n bar) :=
  setL_congr fun j _ => by rw [Bool.eq_iff_iff, h.done hn hs he, rchF_iff hn hs]
def othL (su : Nat → List Nat) (n b : Nat) : List Nat := setL n (othB su n b)
/-- The program's keeper: the first of the others that all others are over. -/
theorem kprO_oth (su n b) : kprO su n b = (othL su n b).find? fun a => (othL su n b).all fun c => overF su n c a := by
  rw [kprO, othL, setL, List.find?_filter]
  congr 1
  funext a
  rw [lastB]
  have e : ((List.range n).all fun c => !othB su n b c || overF su n c a) = ((List.range n).filter (othB su n b)).all fun c => overF su n c a := by
    rw [Bool.eq_iff_iff, List.all_eq_true, List.all_eq_true]
    constructor
    · intro h c hc
      rw [List.mem_filter] at hc
      have := h c hc.1
      rw [hc.2] at this
      simpa using this
    · intro h c hc
      cases hh : othB su n b c with
      | false => rfl
      | true => simpa using h c (List.mem_filter.2 ⟨hc, hh⟩)
  rw [e]
  generalize ((List.range n).filter (othB su n b)).all (fun c => overF su n c a) = q
  cases othB su n b a <;> cases q <;> rfl
/-- Rims. -/
def rimB (su : Nat → List Nat) (n x y : Nat) : Bool := ((List.range n).any fun k => (su k).contains y && overF su n x k) && (x == y || !overF su n x y)
def rimL (su : Nat → List Nat) (n x : Nat) : List Nat := setL n (rimB su n x)
theorem rch_mono {su bar k} (h : Rch su bar k) : Rch su noB k := by
  induction h with
  | zero _ => exact .zero rfl
  | step _ h2 _ ih => exact .step ih h2 rfl
theorem rch_other {su x k} (hx : ¬ Rch su noB x) (h : Rch su noB k) : Rch su (isB x) k := by
  induction h with
  | zero _ =>
    refine .zero ?_
    simp only [isB, beq_eq_false_iff_ne]
    rintro rfl
    exact hx (.zero rfl)
  | step h1 h2 _ ih =>
    refine .step ih h2 ?_
    simp only [isB, beq_eq_false_iff_ne]
    rintro rfl
    exact hx (.step h1 h2 rfl)
theorem over_none {su n x k} (hn : 0 < n) (hs : ∀ i k, k ∈ su i → k < n) (hx : rchF su n noB x = false) : overF su n x k = false := by
  rw [overF]
  cases h : rchF su n noB k with
  | false => rfl
  | true =>
    have : rchF su n (isB x) k = true := (rchF_iff hn hs).2 (rch_other (fun h => by rw [(rchF_iff hn hs).2 h] at hx; cases hx) ((rchF_iff hn hs).1 h))
    rw [this]; rfl
theorem rim_none {su n x} (hn : 0 < n) (hs : ∀ i k, k ∈ su i → k < n) (hx : rchF su n noB x = false) : rimL su n x = [] := by
  rw [rimL, setL, List.filter_eq_nil_iff]
  intro y _
  simp [rimB, over_none hn hs hx]

section dom
variable {su : Nat → List Nat} {n : Nat}
/-- One block is over another. -/
def Ovr (su : Nat → List Nat) (a b : Nat) : Prop := Rch su noB b ∧ ¬ Rch su (isB a) b
theorem overF_iff (hn : 0 < n) (hs : ∀ i k, k ∈ su i → k < n) {a b : Nat} : overF su n a b = true ↔ Ovr su a b := by
  rw [overF, Ovr, ← rchF_iff (bar := noB) hn hs, ← rchF_iff (bar := isB a) hn hs]
  cases rchF su n noB b <;> cases rchF su n (isB a) b <;> simp
theorem isB_ne {a k : Nat} (h : k ≠ a) : isB a k = false := by simpa [isB] using h
theorem isB_false {a k : Nat} (h : isB a k = false) : k ≠ a := by simpa [isB] using h
theorem Ovr.refl {b : Nat} (h : Rch su noB b) : Ovr su b b := ⟨h, fun g => isB_false g.nb rfl⟩
theorem Ovr.trans {a b c : Nat} (h1 : Ovr su a b) (h2 : Ovr su b c) : Ovr su a c := by
  refine ⟨h2.1, fun h => ?_⟩
  have key : ∀ j, Rch su (isB a) j → Rch su (isB b) j ∨ Rch su (isB a) b := by
    intro j hj
    induction hj with
    | zero h0 =>
      by_cases e : (0 : Nat) = b
      · exact .inr (by rw [← e]; exact .zero h0)
      · exact .inl (.zero (isB_ne e))
    | @step i k hi hk hb ih =>
      rcases ih with ih | ih
      · by_cases e : k = b
        · exact .inr (by rw [← e]; exact .step hi hk hb)
        · exact .inl (.step ih hk (isB_ne e))
      · exact .inr ih
  rcases key c h with h | h
  · exact h2.2 h
  · exact h1.2 h
theorem Ovr.antisymm {a b : Nat} (h1 : Ovr su a b) (h2 : Ovr su b a) : a = b := by
  by_cases e : a = b
  · exact e
  exfalso
  have key : ∀ j, Rch su noB j → Rch su (fun k => isB a k || isB b k) j := by
    intro j hj
    induction hj with
    | zero _ =>
      refine .zero ?_
      have e1 : (0 : Nat) ≠ a := fun h => h2.2 (by rw [← h]; exact .zero (isB_ne (by omega)))
      have e2 : (0 : Nat) ≠ b := fun h => h1.2 (by rw [← h]; exact .zero (isB_ne (by omega)))
      rw [isB_ne e1, isB_ne e2]; rfl
    | @step i k hi hk hb ih =>
      have w1 : Rch su (isB a) i := by
        clear hi hk hb
        induction ih with
        | zero h => exact .zero (by simp only [Bool.or_eq_false_iff] at h; exact h.1)
        | step _ hk h ih => exact .step ih hk (by simp only [Bool.or_eq_false_iff] at h; exact h.1)
      have w2 : Rch su (isB b) i := by
        clear hi hk hb w1
        induction ih with
        | zero h => exact .zero (by simp only [Bool.or_eq_false_iff] at h; exact h.2)
        | step _ hk h ih => exact .step ih hk (by simp only [Bool.or_eq_false_iff] at h; exact h.2)
      refine .step ih hk ?_
      have e1 : k ≠ a := fun h => h2.2 (by rw [← h]; exact .step w2 hk (isB_ne (by omega)))
      have e2 : k ≠ b := fun h => h1.2 (by rw [← h]; exact .step w1 hk (isB_ne (by omega)))
      rw [isB_ne e1, isB_ne e2]; rfl
  have := (key b h1.1).nb
  simp [isB] at this
theorem Ovr.chain {a c i : Nat} (ha : Ovr su a i) (hc : Ovr su c i) (ra : Rch su noB a) (rc : Rch su noB c) : Ovr su a c ∨ Ovr su c a := by
  by_cases h1 : Rch su (isB a) c
  · by_cases h2 : Rch su (isB c) a
    · exfalso
      have key : ∀ j, Rch su noB j → Rch su (isB a) j ∨ Rch su (isB c) j := by
        intro j hj
        induction hj with
        | zero _ =>
          by_cases e : (0 : Nat) = a
          · exact .inr (by rw [e]; exact h2)
          · exact .inl (.zero (isB_ne e))
        | @step i k hi hk hb ih =>
          rcases ih with ih | ih
          · by_cases e : k = a
            · exact .inr (by rw [e]; exact h2)
            · exact .inl (.step ih hk (isB_ne e))
          · by_cases e : k = c
            · exact .inl (by rw [e]; exact h1)
            · exact .inr (.step ih hk (isB_ne e))
      rcases key i ha.1 with h | h
      · exact ha.2 h
      · exact hc.2 h
    · exact .inr ⟨ra, h2⟩
  · exact .inl ⟨rc, h1⟩
theorem Ovr.zero {b : Nat} (h : Rch su noB b) : Ovr su 0 b := by
  refine ⟨h, fun g => ?_⟩
  clear h
  induction g with
  | zero h => simp [isB] at h
  | step _ _ _ ih => exact ih
theorem Ovr.up {a b : Nat} (h : Ovr su a b) : Rch su noB a := by
  by_cases ha : Rch su noB a
  · exact ha
  · exact absurd (rch_other ha h.1) h.2
/-- What is over a block that one comes to by an edge, and isn't it, is over the block ahead. -/
theorem Ovr.ahead {a k y : Nat} (h : Ovr su a y) (hk : Rch su noB k) (he : y ∈ su k) (hne : a ≠ y) : Ovr su a k :=
  ⟨hk, fun g => h.2 (.step g he (isB_ne (fun e => hne e.symm)))⟩

theorem last_ex {b : Nat} : ∀ {L : List Nat}, L ≠ [] → (∀ a ∈ L, Ovr su a b) → ∃ a ∈ L, ∀ c ∈ L, Ovr su c a
  | [], h, _ => absurd rfl h
  | [x], _, h => ⟨x, List.mem_singleton.2 rfl, fun c hc => by rw [List.mem_singleton.1 hc]; exact .refl (h x (List.mem_singleton.2 rfl)).up⟩
  | x :: y :: L, _, h => by
    obtain ⟨a, ha, hc⟩ := last_ex (L := y :: L) (by simp) (fun a ha => h a (List.mem_cons_of_mem _ ha))
    have hx := h x (List.mem_cons_self ..)
    have ha' := h a (List.mem_cons_of_mem _ ha)
    rcases hx.chain ha' hx.up ha'.up with g | g
    · exact ⟨a, List.mem_cons_of_mem _ ha, fun c hc' => by
        rcases List.mem_cons.1 hc' with rfl | hc'
        · exact g
        · exact hc c hc'⟩
    · exact ⟨x, List.mem_cons_self .., fun c hc' => by
        rcases List.mem_cons.1 hc' with rfl | hc'
        · exact .refl hx.up
        · exact (hc c hc').trans g⟩

/-- The keeper of a block that one comes to, other than block 0. -/
theorem kpr_some (hn : 0 < n) (hs : ∀ i k, k ∈ su i → k < n) {b : Nat} (hb : Rch su noB b) (h0 : b ≠ 0) :
    ∃ a : Nat, kprF su n b = (a : Int) ∧ a < n ∧ a ≠ b ∧ Ovr su a b ∧ ∀ c, c ≠ b → Ovr su c b → Ovr su c a := by
  have hmem : ∀ a, a ∈ othL su n b ↔ a ≠ b ∧ Ovr su a b := by
    intro a
    rw [othL, setL_mem, othB, Bool.and_eq_true, overF_iff hn hs, bne_iff_ne]
    constructor
    · exact fun h => h.2
    · exact fun h => ⟨h.2.up.lt hn hs, h⟩
  have hne : othL su n b ≠ [] := fun e => by
    have : (0 : Nat) ∈ othL su n b := (hmem 0).2 ⟨by omega, .zero hb⟩
    rw [e] at this; cases this
  obtain ⟨a, ha, hl⟩ := last_ex (su := su) (b := b) hne (fun a ha => ((hmem a).1 ha).2)
  have hf : ((othL su n b).find? fun a => (othL su n b).all fun c => overF su n c a).isSome = true := by
    rw [List.find?_isSome]
    exact ⟨a, ha, by rw [List.all_eq_true]; exact fun c hc => (overF_iff hn hs).2 (hl c hc)⟩
  rw [← kprO_oth] at hf
  obtain ⟨q, hq⟩ := Option.isSome_iff_exists.1 hf
  have hq2 := hq
  rw [kprO_oth] at hq2
  have hm := List.mem_of_find?_eq_some hq2
  have hp := List.find?_some hq2
  rw [List.all_eq_true] at hp
  refine ⟨q, ?_, ((hmem q).1 hm).2.up.lt hn hs, ((hmem q).1 hm).1, ((hmem q).1 hm).2, fun c h1 h2 => (overF_iff hn hs).1 (hp c ((hmem c).2 ⟨h1, h2⟩))⟩
  rw [kprF, if_pos ((rchF_iff hn hs).2 hb), hq]
theorem kpr_zero (hn : 0 < n) (hs : ∀ i k, k ∈ su i → k < n) : kprF su n 0 = -1 := by
  rw [kprF, if_pos ((rchF_iff hn hs).2 (.zero rfl)), kprO_oth]
  have : othL su n 0 = [] := by
    rw [othL, setL, List.filter_eq_nil_iff]
    intro a _ h
    rw [othB, Bool.and_eq_true, bne_iff_ne, overF_iff hn hs] at h
    exact h.2.2 (.zero (isB_ne (fun e => h.1 e.symm)))
  rw [this]; rfl
theorem kpr_out (hn : 0 < n) (hs : ∀ i k, k ∈ su i → k < n) {b : Nat} (hb : ¬ Rch su noB b) : kprF su n b = -2 := by
  rw [kprF, if_neg (fun h => hb ((rchF_iff hn hs).1 h))]
/-- How many blocks are over one. -/
def domN (su : Nat → List Nat) (n b : Nat) : Nat := (setL n fun a => overF su n a b).length
theorem domN_le (b : Nat) : domN su n b ≤ n := setL_len _ _
theorem domN_pos (hn : 0 < n) (hs : ∀ i k, k ∈ su i → k < n) {b : Nat} (hb : Rch su noB b) : 0 < domN su n b := by
  refine List.length_pos_iff.2 fun e => ?_
  have : b ∈ setL n fun a => overF su n a b := setL_mem.2 ⟨hb.lt hn hs, (overF_iff hn hs).2 (.refl hb)⟩
  rw [e] at this; cases this
theorem domN_lt (hn : 0 < n) (hs : ∀ i k, k ∈ su i → k < n) {a b : Nat} (h : Ovr su a b) (hne : a ≠ b) : domN su n a < domN su n b := by
  refine setL_lt (fun c _ hc => (overF_iff hn hs).2 (((overF_iff hn hs).1 hc).trans h)) fun e => ?_
  have h1 : b ∈ setL n fun c => overF su n c b := setL_mem.2 ⟨h.1.lt hn hs, (overF_iff hn hs).2 (.refl h.1)⟩
  rw [← e, setL_mem, overF_iff hn hs] at h1
  exact hne (h.antisymm h1.2)

/-- Keepers, step by step, as the law goes up. -/
def upK (su : Nat → List Nat) (n : Nat) (stop : Int → Bool) : Nat → Int → Int
  | 0, k => k
  | t + 1, k => if decide (0 < k) && !stop k then upK su n stop t (kprF su n k.toNat) else k
/-- Going up from a block that one comes to, till block a that is over it. -/
theorem upK_to (hn : 0 < n) (hs : ∀ i k, k ∈ su i → k < n) {a : Nat} (stop : Int → Bool) (hst : ∀ k : Nat, stop k = true → k = a) : ∀ (t b : Nat), Ovr su a b → domN su n b ≤ t → stop a = true ∨ a = 0 → upK su n stop t (b : Int) = (a : Int) := by
  intro t
  induction t with
  | zero => intro b h hd; have := domN_pos hn hs h.1; omega
  | succ t ih =>
    intro b h hd ha
    by_cases e : a = b
    · subst e
      rw [upK]
      rcases ha with ha | ha
      · rw [ha]; simp
      · subst ha; simp
    · have hb0 : b ≠ 0 := fun e0 => by
        subst e0
        exact e (h.antisymm (.zero h.up))
      have hs1 : stop (b : Int) = false := by
        cases hq : stop (b : Int) with
        | false => rfl
        | true => exact absurd (hst b hq).symm e
      obtain ⟨q, hq, hqn, hqb, hqo, hql⟩ := kpr_some hn hs h.1 hb0
      rw [upK, hs1]
      have : decide (0 < (b : Int)) = true := by simp; omega
      rw [this]
      simp only [Bool.not_false, Bool.and_self, if_true, Int.toNat_natCast, hq]
      refine ih q (hql a e h) ?_ ha
      have := domN_lt hn hs hqo hqb
      omega
/-- The keeper of a rim's block is over the block. -/
theorem rim_over (hn : 0 < n) (hs : ∀ i k, k ∈ su i → k < n) {x y : Nat} (h : rimB su n x y = true) : Rch su noB y ∧ Rch su noB x ∧ ∀ a, a ≠ y → Ovr su a y → Ovr su a x := by
  simp only [rimB, Bool.and_eq_true, List.any_eq_true, List.mem_range, List.contains_iff_mem, Bool.or_eq_true, beq_iff_eq, Bool.not_eq_true'] at h
  obtain ⟨⟨k, _, hk, ho⟩, h2⟩ := h
  rw [overF_iff hn hs] at ho
  refine ⟨.step ho.1 hk rfl, ho.up, fun a hne ha => ?_⟩
  have hak := ha.ahead ho.1 hk hne
  rcases hak.chain ho ha.up ho.up with g | g
  · exact g
  · have hxy := g.trans ha
    rcases h2 with e | h2
    · subst e
      exact absurd (ha.antisymm g) hne
    · rw [(overF_iff hn hs).2 hxy] at h2; cases h2
end dom
end Go.Proofs.YtgfhfkgdmidhpaaGreat

namespace Go.Proofs.YtgfhfkgdmidhpaaGreat
open Go.Lib

section
variable {d : Array Int}
theorem cmp_inv (hd : ∀ i j, i < j → j < d.size → d[i]! ≤ d[j]!) : ∀ m, m ≤ d.size → (compactUpTo d m).Pairwise (· < ·) ∧ (∀ x, x ∈ compactUpTo d m ↔ ∃ j, j < m ∧ d[j]! = x) := by
  intro m
  induction m with
  | zero => intro _; simp [compactUpTo]
  | succ m ih =>
    intro hm
    obtain ⟨h1, h2⟩ := ih (by omega)
    rw [compactUpTo_succ]
    by_cases hk : keeps d m = true
    · rw [if_pos hk]
      constructor
      · rw [List.pairwise_append]
        refine ⟨h1, List.pairwise_singleton _ _, fun a ha b hb => ?_⟩
        rw [List.mem_singleton] at hb
        subst hb
        obtain ⟨j, hj, rfl⟩ := (h2 a).1 ha
        have hk' : d[m]! ≠ d[m - 1]! := by
          have : m ≠ 0 := by omega
          simpa [keeps, this] using hk
        have l1 : d[j]! ≤ d[m - 1]! := by
          rcases Nat.lt_or_ge j (m - 1) with h | h
          · exact hd _ _ h (by omega)
          · rw [show j = m - 1 by omega]; exact Int.le_refl _
        have l2 := hd (m - 1) m (by omega) (by omega)
        omega
      · intro x
        rw [List.mem_append, h2, List.mem_singleton]
        constructor
        · rintro (⟨j, hj, e⟩ | e)
          · exact ⟨j, by omega, e⟩
          · exact ⟨m, by omega, e.symm⟩
        · rintro ⟨j, hj, e⟩
          rcases Nat.lt_or_ge j m with h | h
          · exact .inl ⟨j, h, e⟩
          · rw [show j = m by omega] at e; exact .inr e.symm
    · rw [if_neg hk, List.append_nil]
      refine ⟨h1, fun x => ?_⟩
      rw [h2]
      constructor
      · rintro ⟨j, hj, e⟩; exact ⟨j, by omega, e⟩
      · rintro ⟨j, hj, e⟩
        rcases Nat.lt_or_ge j m with h | h
        · exact ⟨j, h, e⟩
        · have hj' : j = m := by omega
          subst hj'
          simp only [keeps, decide_eq_true_eq, not_or, Decidable.not_not] at hk
          exact ⟨j - 1, by omega, hk.2.symm.trans e⟩
end

def castL (l : List Nat) : List Int := l.map Int.ofNat
def srtL (l : List Nat) : List Int := (castL l).mergeSort fun x y => decide (x ≤ y)
def ofL (l : List Nat) : List Nat := (compact (srtL l)).map Int.toNat
theorem srtL_perm (l) : (srtL l).Perm (castL l) := List.mergeSort_perm ..
theorem srtL_len (l) : (srtL l).length = l.length := by rw [(srtL_perm l).length_eq]; simp [castL]
theorem srtL_srt (l) : (srtL l).Pairwise (· ≤ ·) := by
  have := List.pairwise_mergeSort (le := fun x y : Int => decide (x ≤ y)) (fun a b c h1 h2 => by simp only [decide_eq_true_eq] at *; omega) (fun a b => by simp only [Bool.or_eq_true, decide_eq_true_eq]; omega) (castL l)
  exact this.imp (fun h => by simpa using h)
theorem cmp_srt (l) : (compact (srtL l)).Pairwise (· < ·) ∧ ∀ x, x ∈ compact (srtL l) ↔ x ∈ castL l := by
  have hd : ∀ i j, i < j → j < (srtL l).toArray.size → (srtL l).toArray[i]! ≤ (srtL l).toArray[j]! := by
    intro i j hij hj
    have hj' : j < (srtL l).length := by simpa using hj
    have := List.pairwise_iff_getElem.1 (srtL_srt l) i j (by omega) hj' hij
    rw [getElem!_pos (srtL l).toArray i (by simpa using (by omega : i < (srtL l).length)), getElem!_pos (srtL l).toArray j hj]
    simpa using this
  have h := cmp_inv hd (srtL l).length (by simp)
  refine ⟨h.1, fun x => ?_⟩
  rw [compact, h.2, ← (srtL_perm l).mem_iff]
  constructor
  · rintro ⟨j, hj, e⟩
    rw [getElem!_pos (srtL l).toArray j (by simpa using hj)] at e
    rw [← e]; simp
  · intro hx
    obtain ⟨j, hj, e⟩ := List.getElem_of_mem hx
    exact ⟨j, hj, by rw [getElem!_pos (srtL l).toArray j (by simpa using hj)]; simpa using e⟩
theorem ofL_cast (l) : castL (ofL l) = compact (srtL l) := by
  rw [castL, ofL, List.map_map]
  conv => rhs; rw [← List.map_id (compact (srtL l))]
  refine List.map_congr_left fun x hx => ?_
  rw [(cmp_srt l).2, castL, List.mem_map] at hx
  obtain ⟨z, _, rfl⟩ := hx
  rfl
theorem ofL_mem {l x} : x ∈ ofL l ↔ x ∈ l := by
  rw [ofL, List.mem_map]
  constructor
  · rintro ⟨y, hy, rfl⟩
    rw [(cmp_srt l).2, castL, List.mem_map] at hy
    obtain ⟨z, hz, rfl⟩ := hy
    exact hz
  · intro hx
    exact ⟨x, ((cmp_srt l).2 _).2 (List.mem_map.2 ⟨x, hx, rfl⟩), rfl⟩
theorem ofL_srt (l) : (ofL l).Pairwise (· < ·) := by
  rw [ofL, List.pairwise_map]
  refine (cmp_srt l).1.imp_of_mem ?_
  intro a b ha hb hab
  rw [(cmp_srt l).2, castL, List.mem_map] at ha hb
  obtain ⟨x, _, rfl⟩ := ha
  obtain ⟨y, _, rfl⟩ := hb
  simp only [Int.ofNat_eq_natCast, Int.toNat_natCast] at hab ⊢
  omega
end Go.Proofs.YtgfhfkgdmidhpaaGreat
