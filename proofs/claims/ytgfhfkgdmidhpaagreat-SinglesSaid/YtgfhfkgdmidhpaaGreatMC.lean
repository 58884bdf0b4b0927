import Derived.Test.YtgfhfkgdmidhpaaGreatG20
import Derived.Test.YtgfhfkgdmidhpaaGreatG18
import Derived.Test.YtgfhfkgdmidhpaaGreatG05
import Derived.Test.YtgfhfkgdmidhpaaGreatG16
import Derived.Test.YtgfhfkgdmidhpaaGreatMB
import Derived.Test.YtgfhfkgdmidhpaaGreatG11
namespace Go.Proofs.YtgfhfkgdmidhpaaGreat
open Go.RowKit

theorem regN_lt (s i bad) : regN s i bad < 10000 := numN_lt _ _ _
def StFine (t : RStep) : Prop := t.to.1 < 10000 ∧ t.a.1 < 10000 ∧ t.b.1 < 10000
def ChFine (n : Nat) (c : RCho) : Prop := c.to.1 < 10000 ∧ c.rs.length = c.gs.length ∧ c.gs.length ≤ n ∧ ∀ r ∈ c.rs, r.1 < 10000
/-- A block of a text: its lists are not longer than the text, its registers have four digits. -/
structure BFine (n : Nat) (b : RBlk) : Prop where
  cl : b.chs.length ≤ n
  sl : b.sts.length ≤ n
  ch : ∀ c ∈ b.chs, ChFine n c
  st : ∀ t ∈ b.sts, StFine t
  e : b.e.a.1 < 10000
theorem givF_fine {s to i bad} (h : to.1 < 10000) : StFine (givF s to i bad).st := by
  unfold givF
  by_cases h1 : onF s i bad 63 = true
  · rw [if_pos h1]; exact ⟨h, Nat.zero_lt_succ _, Nat.zero_lt_succ _⟩
  rw [if_neg h1]
  by_cases h2 : onF s i bad 114 = true
  · rw [if_pos h2]
    by_cases h3 : opC s (regI s i bad) (regB s i bad) = 0
    · dsimp only; rw [if_pos h3]; exact ⟨h, regN_lt _ _ _, Nat.zero_lt_succ _⟩
    · dsimp only; rw [if_neg h3]; exact ⟨h, regN_lt _ _ _, regN_lt _ _ _⟩
  rw [if_neg h2]
  by_cases h4 : onF s i bad 45 = true
  · rw [if_pos h4]; exact ⟨h, Nat.zero_lt_succ _, Nat.zero_lt_succ _⟩
  · rw [if_neg h4]; exact ⟨h, Nat.zero_lt_succ _, Nat.zero_lt_succ _⟩
theorem choGo_fine {s} (k : Nat) : ∀ c : Cho, c.rs.length = c.gs.length → (∀ r ∈ c.rs, r.1 < 10000) → (choGo s k c).rs.length = (choGo s k c).gs.length ∧ ∀ r ∈ (choGo s k c).rs, r.1 < 10000 := by
  induction k with
  | zero => intro c h1 h2; exact ⟨h1, h2⟩
  | succ k ih =>
    intro c h1 h2
    have g1 : (choR s c).rs.length = (choR s c).gs.length := by simp [choR, h1]
    have g2 : ∀ r ∈ (choR s c).rs, r.1 < 10000 := fun r hr => by
      simp only [choR, List.mem_append, List.mem_singleton] at hr
      rcases hr with hr | hr
      · exact h2 r hr
      · subst hr; exact regN_lt _ _ _
    rw [choGo]
    cases h : onF s (choR s c).i (choR s c).bad 44 with
    | true => rw [if_pos rfl]; exact ih _ g1 g2
    | false => rw [if_neg (by simp)]; exact ⟨g1, g2⟩
theorem choF_fine {s i bad} : (choF s i bad).rs.length = (choF s i bad).gs.length ∧ ∀ r ∈ (choF s i bad).rs, r.1 < 10000 := choGo_fine _ _ rfl (fun r hr => by simp at hr)
theorem blkGo_fine {s i0} (k : Nat) : ∀ chs sts i bad, chs.length + k ≤ s.size + 1 → sts.length + k ≤ s.size + 1 → (∀ c ∈ chs, ChFine (s.size + 1) c) → (∀ t ∈ sts, StFine t) → BFine (s.size + 1) (blkGo s i0 k chs sts i bad).b := by
  induction k with
  | zero => intro chs sts i bad h1 h2 h3 h4; exact ⟨h1, h2, h3, h4, by show 0 < 10000; omega⟩
  | succ k ih =>
    intro chs sts i bad hc hl hch hst
    have hcl : chs.length ≤ s.size + 1 := by omega
    have hsl : sts.length ≤ s.size + 1 := by omega
    rw [blkGo]
    by_cases hb : bad < 0
    · rw [if_pos hb]
      by_cases h1 : onF s i bad 46 = true
      · rw [if_pos h1]; exact ⟨hcl, hsl, hch, hst, by show 0 < 10000; omega⟩
      rw [if_neg h1]
      by_cases h2 : onF s i bad 62 = true
      · rw [if_pos h2]; exact ⟨hcl, hsl, hch, hst, by show 0 < 10000; omega⟩
      rw [if_neg h2]
      by_cases h3 : onF s i bad 33 = true
      · rw [if_pos h3]
        refine ih _ _ _ _ (by omega) (by rw [List.length_append, List.length_singleton]; omega) hch ?_
        intro t ht
        rcases List.mem_append.1 ht with ht | ht
        · exact hst t ht
        · rw [List.mem_singleton] at ht; subst ht; exact ⟨by show 0 < 10000; omega, regN_lt _ _ _, by show 0 < 10000; omega⟩
      rw [if_neg h3]
      dsimp only
      by_cases h4 : onF s (regI s i bad) (regB s i bad) 61 = true
      · rw [if_pos h4]
        refine ih _ _ _ _ (by omega) (by rw [List.length_append, List.length_singleton]; omega) hch ?_
        intro t ht
        rcases List.mem_append.1 ht with ht | ht
        · exact hst t ht
        · rw [List.mem_singleton] at ht; subst ht; exact givF_fine (regN_lt _ _ _)
      rw [if_neg h4]
      by_cases h5 : (onF s (regI s i bad) (regB s i bad) 64 && sts.isEmpty) = true
      · rw [if_pos h5]
        refine ih _ _ _ _ (by rw [List.length_append, List.length_singleton]; omega) (by omega) ?_ hst
        intro c hc
        rcases List.mem_append.1 hc with hc | hc
        · exact hch c hc
        · rw [List.mem_singleton] at hc; subst hc; exact ⟨regN_lt _ _ _, choF_fine.1, choF_len, choF_fine.2⟩
      rw [if_neg h5]; exact ⟨hcl, hsl, hch, hst, regN_lt _ _ _⟩
    · rw [if_neg hb]; exact ⟨hcl, hsl, hch, hst, by show 0 < 10000; omega⟩
theorem blkF_fine2 {s i bad} : BFine (s.size + 1) (blkF s i bad).b := blkGo_fine _ _ _ _ _ (by simp) (by simp) (fun c hc => by simp at hc) (fun c hc => by simp at hc)
theorem parGo_fine2 {s} (k : Nat) : ∀ p : Par, (∀ b ∈ p.bs, BFine (s.size + 1) b) → ∀ b ∈ (parGo s k p).bs, BFine (s.size + 1) b := by
  induction k with
  | zero => intro p h; exact h
  | succ k ih =>
    intro p h
    rw [parGo]
    have hq : ∀ b ∈ p.bs ++ [(blkF s p.i p.bad).b], BFine (s.size + 1) b := by
      intro b hb
      rcases List.mem_append.1 hb with hb | hb
      · exact h b hb
      · rw [List.mem_singleton] at hb; subst hb; exact blkF_fine2
    cases ho : onF s (blkF s p.i p.bad).i (blkF s p.i p.bad).bad 124 with
    | true => rw [if_pos rfl]; exact ih _ hq
    | false => rw [if_neg (by simp)]; exact hq
theorem parF_fine2 (s : ByteArray) : ∀ b ∈ (parF s).bs, BFine (s.size + 1) b := parGo_fine2 _ _ (fun b hb => by simp at hb)

/-- The block of a number. -/
def bkF (bs : List RBlk) (i : Nat) : RBlk := (bs[i]?).getD ⟨[], [], noEnd, 0⟩
theorem bkF_at {bs : List RBlk} {i : Nat} (h : i < bs.length) : bkF bs i = bs[i] := by rw [bkF, List.getElem?_eq_getElem h]; rfl
def endRds (e : REnd) : List Nat := if e.op = 63 then [e.a.1] else []
/-- What a block reads ahead of giving it; what it gives. -/
def rdLs : List RStep → REnd → List Nat
  | [], e => endRds e
  | t :: ts, e => (rdsF t).map (·.1) ++ (if t.op = 33 then rdLs ts e else wo (rdLs ts e) t.to.1)
def gvLs (ts : List RStep) : List Nat := (ts.filter fun t => t.op != 33).map (·.to.1)
/-- What is chosen from a block, in the order of the text; what the choices give. -/
def cRegs (c : RCho) (i : Nat) : List Nat := ((c.gs.zip c.rs).filter fun p => p.1.1 == i).map (·.2.1)
def chnL (b : RBlk) (i : Nat) : List Nat := b.chs.flatMap fun c => cRegs c i
def ctoL (b : RBlk) : List Nat := b.chs.map (·.to.1)
def rdB (b : RBlk) : List Nat := ofL (rdLs b.sts b.e)
def gvB (b : RBlk) : List Nat := ofL (gvLs b.sts)
def atL (bs : List RBlk) (X : Nat → List Nat) (i : Nat) : List Nat := ofL ((suF bs i).flatMap fun k => chnL (bkF bs k) i ++ dif (X k) (ofL (ctoL (bkF bs k))))
def mstep (bs : List RBlk) (X : Nat → List Nat) (i : Nat) : List Nat := ofL (rdB (bkF bs i) ++ dif (atL bs X i) (gvB (bkF bs i)))
theorem atL_mem {bs X i r} : r ∈ atL bs X i ↔ ∃ k ∈ suF bs i, r ∈ chnL (bkF bs k) i ∨ r ∈ X k ∧ r ∉ ctoL (bkF bs k) := by
  rw [atL, ofL_mem, List.mem_flatMap]
  simp only [List.mem_append, dif_mem, ofL_mem]
theorem mstep_mem {bs X i r} : r ∈ mstep bs X i ↔ r ∈ rdLs (bkF bs i).sts (bkF bs i).e ∨ (∃ k ∈ suF bs i, r ∈ chnL (bkF bs k) i ∨ r ∈ X k ∧ r ∉ ctoL (bkF bs k)) ∧ r ∉ gvLs (bkF bs i).sts := by
  rw [mstep, ofL_mem, List.mem_append, rdB, ofL_mem, dif_mem, atL_mem, gvB, ofL_mem]
theorem mstep_srt (bs X i) : (mstep bs X i).Pairwise (· < ·) := ofL_srt _
theorem atL_srt (bs X i) : (atL bs X i).Pairwise (· < ·) := ofL_srt _
/-- A register matters at the beginning of a block. -/
inductive Mat (bs : List RBlk) : Nat → Nat → Prop
  | rd {i r} : r ∈ rdLs (bkF bs i).sts (bkF bs i).e → Mat bs i r
  | ch {i k r} : k ∈ suF bs i → r ∈ chnL (bkF bs k) i → r ∉ gvLs (bkF bs i).sts → Mat bs i r
  | go {i k r} : k ∈ suF bs i → Mat bs k r → r ∉ ctoL (bkF bs k) → r ∉ gvLs (bkF bs i).sts → Mat bs i r
theorem mstep_mono {bs : List RBlk} {X Y : Nat → List Nat} (h : ∀ i r, r ∈ X i → r ∈ Y i) {i r : Nat} (hr : r ∈ mstep bs X i) : r ∈ mstep bs Y i := by
  rw [mstep_mem] at hr ⊢
  rcases hr with hr | ⟨⟨k, hk, h1 | ⟨h1, h2⟩⟩, hg⟩
  · exact .inl hr
  · exact .inr ⟨⟨k, hk, .inl h1⟩, hg⟩
  · exact .inr ⟨⟨k, hk, .inr ⟨h _ _ h1, h2⟩⟩, hg⟩
theorem mstep_sound {bs : List RBlk} {X : Nat → List Nat} (h : ∀ i r, r ∈ X i → Mat bs i r) {i r : Nat} (hr : r ∈ mstep bs X i) : Mat bs i r := by
  rw [mstep_mem] at hr
  rcases hr with hr | ⟨⟨k, hk, h1 | ⟨h1, h2⟩⟩, hg⟩
  · exact .rd hr
  · exact .ch hk h1 hg
  · exact .go hk (h _ _ h1) h2 hg
theorem mat_in {bs : List RBlk} {X : Nat → List Nat} {n : Nat} (hs : ∀ i k, k ∈ suF bs i → k < n) (h : ∀ i, i < n → mstep bs X i = X i) : ∀ {i r : Nat}, Mat bs i r → i < n → r ∈ X i := by
  intro i r hm
  induction hm with
  | rd hr => intro hi; rw [← h _ hi, mstep_mem]; exact .inl hr
  | ch hk h1 h2 => intro hi; rw [← h _ hi, mstep_mem]; exact .inr ⟨⟨_, hk, .inl h1⟩, h2⟩
  | go hk _ h2 h3 ih => intro hi; rw [← h _ hi, mstep_mem]; exact .inr ⟨⟨_, hk, .inr ⟨ih (hs _ _ hk), h2⟩⟩, h3⟩
open Classical in
noncomputable def matL (bs : List RBlk) (i : Nat) : List Nat := (List.range 10000).filter fun r => decide (Mat bs i r)
theorem matL_srt (bs i) : (matL bs i).Pairwise (· < ·) := List.Pairwise.filter _ List.pairwise_lt_range
theorem rds_lt {t : RStep} (h : StFine t) {r : Nat} (hr : r ∈ (rdsF t).map (·.1)) : r < 10000 := by
  obtain ⟨h1, h2, h3⟩ := h
  unfold rdsF at hr
  split at hr
  · simp at hr; omega
  split at hr
  · simp at hr; omega
  split at hr
  · simp at hr
  split at hr
  · simp at hr
  · simp at hr; omega
theorem rdLs_lt {e : REnd} (he : e.a.1 < 10000) : ∀ {ts : List RStep}, (∀ t ∈ ts, StFine t) → ∀ {r : Nat}, r ∈ rdLs ts e → r < 10000
  | [], _, r, hr => by
    rw [rdLs, endRds] at hr
    split at hr
    · rw [List.mem_singleton] at hr; omega
    · simp at hr
  | t :: ts, h, r, hr => by
    rw [rdLs, List.mem_append] at hr
    rcases hr with hr | hr
    · exact rds_lt (h t (List.mem_cons_self ..)) hr
    · have ih := rdLs_lt he (ts := ts) (fun t ht => h t (List.mem_cons_of_mem _ ht)) (r := r)
      split at hr
      · exact ih hr
      · exact ih (wo_mem.1 hr).1
theorem cRegs_lt {n : Nat} {c : RCho} (h : ChFine n c) {i r : Nat} (hr : r ∈ cRegs c i) : r < 10000 := by
  rw [cRegs, List.mem_map] at hr
  obtain ⟨p, hp, rfl⟩ := hr
  have := (List.of_mem_zip (List.mem_filter.1 hp).1).2
  exact h.2.2.2 _ this
theorem bkF_fine {n : Nat} {bs : List RBlk} (h : ∀ b ∈ bs, BFine n b) (i : Nat) : BFine n (bkF bs i) := by
  by_cases hi : i < bs.length
  · rw [bkF_at hi]; exact h _ (List.getElem_mem hi)
  · rw [bkF, List.getElem?_eq_none (by omega)]
    exact ⟨Nat.zero_le _, Nat.zero_le _, fun c hc => by simp at hc, fun c hc => by simp at hc, by show 0 < 10000; omega⟩
theorem chnL_lt {n : Nat} {b : RBlk} (h : BFine n b) {i r : Nat} (hr : r ∈ chnL b i) : r < 10000 := by
  rw [chnL, List.mem_flatMap] at hr
  obtain ⟨c, hc, hr⟩ := hr
  exact cRegs_lt (h.ch c hc) hr
theorem mat_lt {n : Nat} {bs : List RBlk} (h : ∀ b ∈ bs, BFine n b) {i r : Nat} (hm : Mat bs i r) : r < 10000 := by
  induction hm with
  | rd hr => exact rdLs_lt (bkF_fine h _).e (bkF_fine h _).st hr
  | ch _ h1 _ => exact chnL_lt (bkF_fine h _) h1
  | go _ _ _ _ ih => exact ih
theorem matL_mem {n : Nat} {bs : List RBlk} (h : ∀ b ∈ bs, BFine n b) {i r : Nat} : r ∈ matL bs i ↔ Mat bs i r := by
  rw [matL, List.mem_filter]
  constructor
  · rintro ⟨_, h2⟩; simpa using h2
  · intro hm; exact ⟨List.mem_range.2 (mat_lt h hm), by simpa using hm⟩
theorem mat_eq {n m : Nat} {bs : List RBlk} {X : Nat → List Nat} (hf : ∀ b ∈ bs, BFine n b) (hs : ∀ i k, k ∈ suF bs i → k < m) (hX : ∀ i r, r ∈ X i → Mat bs i r) (h : ∀ i, i < m → mstep bs X i = X i) {i : Nat} (hi : i < m) : X i = matL bs i := by
  rw [← h i hi]
  refine srt_ext (mstep_srt _ _ _) (matL_srt _ _) fun r => ?_
  rw [matL_mem hf]
  constructor
  · exact mstep_sound hX
  · intro hm; rw [h i hi]; exact mat_in hs h hm hi
theorem srt_set {l : List Nat} (hl : l.Pairwise (· < ·)) {n : Nat} (h : ∀ x ∈ l, x < n) : l = setL n (fun x => l.contains x) := setL_of hl fun x => ⟨fun hx => ⟨h x hx, by simpa using hx⟩, fun hx => by simpa using hx.2⟩
theorem srt_lt {l m : List Nat} {n : Nat} (hl : l.Pairwise (· < ·)) (hm : m.Pairwise (· < ·)) (h : ∀ x ∈ l, x ∈ m) (hne : l ≠ m) (hn : ∀ x ∈ m, x < n) : l.length < m.length := by
  have e1 := srt_set hl (fun x hx => hn x (h x hx))
  have e2 := srt_set hm hn
  have := setL_lt (n := n) (f := fun x => l.contains x) (g := fun x => m.contains x) (fun j _ hj => by simpa using h j (by simpa using hj)) (by rw [← e1, ← e2]; exact hne)
  rw [← e1, ← e2] at this
  exact this
theorem srt_lim {l : List Nat} (hl : l.Pairwise (· < ·)) {n : Nat} (h : ∀ x ∈ l, x < n) : l.length ≤ n := by
  rw [srt_set hl h]; exact setL_len _ _
theorem mat_len {n : Nat} {bs : List RBlk} (hf : ∀ b ∈ bs, BFine n b) {l : List Nat} (hl : l.Pairwise (· < ·)) {i : Nat} (h : ∀ r ∈ l, Mat bs i r) : l.length ≤ 10000 := srt_lim hl fun r hr => mat_lt hf (h r hr)

end Go.Proofs.YtgfhfkgdmidhpaaGreat

namespace Go.Proofs.YtgfhfkgdmidhpaaGreat
open Go.RowKit

theorem ofL_id {l : List Nat} (h : l.Pairwise (· < ·)) : ofL l = l := srt_ext (ofL_srt _) h fun _ => ofL_mem
theorem ofL_ext {l m : List Nat} (h : ∀ x, x ∈ l ↔ x ∈ m) : ofL l = ofL m := srt_ext (ofL_srt _) (ofL_srt _) fun x => by rw [ofL_mem, ofL_mem, h]
/-- Numbers are put into a rising list, one behind the other. -/
theorem put_take {a l : List Nat} {j : Nat} (hj : j < l.length) : ptF (ofL (a ++ l.take j)) l[j] = ofL (a ++ l.take (j + 1)) := by
  refine srt_ext (ptF_srt _ _) (ofL_srt _) fun x => ?_
  rw [ptF_mem, ofL_mem, ofL_mem, List.take_succ_eq_append_getElem hj]
  simp only [List.mem_append, List.mem_singleton, or_assoc]
/-- Numbers are taken out of a list, one behind the other. -/
def wos (l cs : List Nat) : List Nat := l.filter fun x => !cs.contains x
theorem wos_mem {l cs : List Nat} {x : Nat} : x ∈ wos l cs ↔ x ∈ l ∧ x ∉ cs := by simp [wos]
theorem wos_srt {l : List Nat} (cs : List Nat) (h : l.Pairwise (· < ·)) : (wos l cs).Pairwise (· < ·) := List.Pairwise.filter _ h
theorem wos_len (l cs : List Nat) : (wos l cs).length ≤ l.length := List.length_filter_le _ _
theorem wos_nil (l : List Nat) : wos l [] = l := by simp [wos]
theorem wos_take {l cs : List Nat} (h : l.Pairwise (· < ·)) {j : Nat} (hj : j < cs.length) : wo (wos l (cs.take j)) cs[j] = wos l (cs.take (j + 1)) := by
  refine srt_ext (wo_srt _ (wos_srt _ h)) (wos_srt _ h) fun x => ?_
  rw [wo_mem, wos_mem, wos_mem, List.take_succ_eq_append_getElem hj]
  simp only [List.mem_append, List.mem_singleton, not_or, and_assoc]
/-- What matters at the end of a block, as far as the blocks behind are gone through. -/
def atTo (bs : List RBlk) (X : Nat → List Nat) (i : Nat) (to : List Nat) (k : Nat) : List Nat := ofL ((to.take k).flatMap fun q => dif (X q) (ctoL (bkF bs q)) ++ chnL (bkF bs q) i)
theorem atTo_zero (bs X i to) : atTo bs X i to 0 = [] := by rw [atTo]; simp [ofL_id]
theorem atTo_succ {bs X i} {to : List Nat} {k : Nat} (hk : k < to.length) : ofL (ofL (atTo bs X i to k ++ wos (X to[k]) (ctoL (bkF bs to[k]))) ++ chnL (bkF bs to[k]) i) = atTo bs X i to (k + 1) := by
  rw [atTo, atTo, List.take_succ_eq_append_getElem hk]
  refine ofL_ext fun x => ?_
  simp only [List.mem_append, ofL_mem, List.mem_flatMap, wos_mem, dif_mem, List.mem_singleton]
  constructor
  · rintro ((⟨q, hq, h⟩ | h) | h)
    · exact ⟨q, .inl hq, h⟩
    · exact ⟨_, .inr rfl, .inl h⟩
    · exact ⟨_, .inr rfl, .inr h⟩
  · rintro ⟨q, hq | rfl, h⟩
    · exact .inl (.inl ⟨q, hq, h⟩)
    · rcases h with h | h
      · exact .inl (.inr h)
      · exact .inr h
theorem atTo_all (bs X i) {to : List Nat} (h : ∀ x, x ∈ to ↔ x ∈ suF bs i) : atTo bs X i to to.length = atL bs X i := by
  rw [atTo, atL, List.take_length]
  refine ofL_ext fun x => ?_
  simp only [List.mem_append, List.mem_flatMap, dif_mem, ofL_mem, h]
  constructor
  · rintro ⟨q, hq, h | h⟩
    · exact ⟨q, hq, .inr h⟩
    · exact ⟨q, hq, .inl h⟩
  · rintro ⟨q, hq, h | h⟩
    · exact ⟨q, hq, .inr h⟩
    · exact ⟨q, hq, .inl h⟩
/-- What matters ahead of the steps from one on. -/
def bkTo (A : List Nat) (ts : List RStep) (e : REnd) : List Nat := ofL (rdLs ts e ++ dif A (gvLs ts))
theorem bkTo_mem {A ts e r} : r ∈ bkTo A ts e ↔ r ∈ rdLs ts e ∨ r ∈ A ∧ r ∉ gvLs ts := by rw [bkTo, ofL_mem, List.mem_append, dif_mem]
theorem bkTo_srt (A ts e) : (bkTo A ts e).Pairwise (· < ·) := ofL_srt _
theorem gvLs_cons {t : RStep} {ts : List RStep} {r : Nat} : r ∈ gvLs (t :: ts) ↔ (t.op ≠ 33 ∧ r = t.to.1) ∨ r ∈ gvLs ts := by
  rw [gvLs, gvLs, List.filter_cons]
  by_cases h : t.op = 33 <;> simp [h]
theorem bkTo_give {A : List Nat} {t : RStep} {ts : List RStep} {e : REnd} (h : ¬ t.op = 33) : ofL (wo (bkTo A ts e) t.to.1 ++ (rdsF t).map (·.1)) = bkTo A (t :: ts) e := by
  refine srt_ext (ofL_srt _) (bkTo_srt _ _ _) fun r => ?_
  rw [ofL_mem, List.mem_append, wo_mem, bkTo_mem, bkTo_mem, rdLs, if_neg h, List.mem_append, wo_mem, gvLs_cons]
  constructor
  · rintro (⟨h1 | ⟨h1, h2⟩, h3⟩ | h1)
    · exact .inl (.inr ⟨h1, h3⟩)
    · exact .inr ⟨h1, fun h4 => by rcases h4 with h4 | h4; exact h3 h4.2; exact h2 h4⟩
    · exact .inl (.inl h1)
  · rintro ((h1 | ⟨h1, h2⟩) | ⟨h1, h2⟩)
    · exact .inr h1
    · exact .inl ⟨.inl h1, h2⟩
    · exact .inl ⟨.inr ⟨h1, fun h3 => h2 (.inr h3)⟩, fun h3 => h2 (.inl ⟨h, h3⟩)⟩
theorem bkTo_put {A : List Nat} {t : RStep} {ts : List RStep} {e : REnd} (h : t.op = 33) : ofL (bkTo A ts e ++ (rdsF t).map (·.1)) = bkTo A (t :: ts) e := by
  refine srt_ext (ofL_srt _) (bkTo_srt _ _ _) fun r => ?_
  rw [ofL_mem, List.mem_append, bkTo_mem, bkTo_mem, rdLs, if_pos h, List.mem_append, gvLs_cons]
  constructor
  · rintro ((h1 | ⟨h1, h2⟩) | h1)
    · exact .inl (.inr h1)
    · exact .inr ⟨h1, fun h4 => by rcases h4 with h4 | h4; exact h4.1 h; exact h2 h4⟩
    · exact .inl (.inl h1)
  · rintro ((h1 | h1) | ⟨h1, h2⟩)
    · exact .inr h1
    · exact .inl (.inl h1)
    · exact .inl (.inr ⟨h1, fun h3 => h2 (.inr h3)⟩)
theorem bkTo_end {A : List Nat} {e : REnd} (hA : A.Pairwise (· < ·)) : (e.op = 63 → ptF A e.a.1 = bkTo A [] e) ∧ (e.op ≠ 63 → A = bkTo A [] e) := by
  constructor
  · intro h
    refine srt_ext (ptF_srt _ _) (bkTo_srt _ _ _) fun r => ?_
    rw [ptF_mem, bkTo_mem, rdLs, endRds, if_pos h, List.mem_singleton]
    simp [gvLs, or_comm]
  · intro h
    refine srt_ext hA (bkTo_srt _ _ _) fun r => ?_
    rw [bkTo_mem, rdLs, endRds, if_neg h]
    simp [gvLs]
theorem bkTo_all (bs X i) : bkTo (atL bs X i) (bkF bs i).sts (bkF bs i).e = mstep bs X i := srt_ext (bkTo_srt _ _ _) (mstep_srt _ _ _) fun r => by
  rw [bkTo_mem, mstep, ofL_mem, List.mem_append, dif_mem, rdB, gvB, ofL_mem, ofL_mem]
theorem rdLs_app {us : List RStep} {e : REnd} {r : Nat} : ∀ {ts : List RStep}, r ∈ rdLs (ts ++ us) e ↔ r ∈ rdLs ts noEnd ∨ (r ∈ rdLs us e ∧ r ∉ gvLs ts)
  | [] => by simp [rdLs, endRds, noEnd, gvLs]
  | t :: ts => by
    have ih := rdLs_app (us := us) (e := e) (r := r) (ts := ts)
    rw [List.cons_append, rdLs, rdLs, List.mem_append, List.mem_append, gvLs_cons]
    by_cases h : t.op = 33
    · rw [if_pos h, if_pos h, ih]
      constructor
      · rintro (h1 | h1 | ⟨h1, h2⟩)
        · exact .inl (.inl h1)
        · exact .inl (.inr h1)
        · exact .inr ⟨h1, fun h3 => by rcases h3 with h3 | h3; exact h3.1 h; exact h2 h3⟩
      · rintro ((h1 | h1) | ⟨h1, h2⟩)
        · exact .inl h1
        · exact .inr (.inl h1)
        · exact .inr (.inr ⟨h1, fun h3 => h2 (.inr h3)⟩)
    · rw [if_neg h, if_neg h, wo_mem, wo_mem, ih]
      constructor
      · rintro (h1 | ⟨h1 | ⟨h1, h2⟩, h3⟩)
        · exact .inl (.inl h1)
        · exact .inl (.inr ⟨h1, h3⟩)
        · exact .inr ⟨h1, fun h4 => by rcases h4 with h4 | h4; exact h3 h4.2; exact h2 h4⟩
      · rintro ((h1 | ⟨h1, h2⟩) | ⟨h1, h2⟩)
        · exact .inl h1
        · exact .inr ⟨.inl h1, h2⟩
        · exact .inr ⟨.inr ⟨h1, fun h3 => h2 (.inr h3)⟩, fun h3 => h2 (.inl ⟨h, h3⟩)⟩
/-- What the first steps read ahead of giving it; what they give. -/
def rdTo (ts : List RStep) (k : Nat) : List Nat := ofL (rdLs (ts.take k) noEnd)
def gvTo (ts : List RStep) (k : Nat) : List Nat := ofL (gvLs (ts.take k))
theorem rdTo_zero (ts) : rdTo ts 0 = [] := by rw [rdTo, List.take_zero, rdLs]; simp [endRds, noEnd, ofL_id]
theorem gvTo_zero (ts) : gvTo ts 0 = [] := by rw [gvTo, List.take_zero]; simp [gvLs, ofL_id]
theorem rdTo_succ {ts : List RStep} {k : Nat} (hk : k < ts.length) : ofL (rdTo ts k ++ dif ((rdsF ts[k]).map (·.1)) (gvTo ts k)) = rdTo ts (k + 1) := by
  refine srt_ext (ofL_srt _) (ofL_srt _) fun r => ?_
  rw [ofL_mem, List.mem_append, dif_mem, rdTo, gvTo, ofL_mem, ofL_mem, rdTo, ofL_mem, List.take_succ_eq_append_getElem hk, rdLs_app]
  have : ∀ t : RStep, r ∈ rdLs [t] noEnd ↔ r ∈ (rdsF t).map (·.1) := fun t => by
    by_cases h : t.op = 33 <;> simp [rdLs, endRds, noEnd, h, wo]
  rw [this]
theorem gvTo_put {ts : List RStep} {k : Nat} (hk : k < ts.length) (h : ts[k].op = 33) : gvTo ts k = gvTo ts (k + 1) := by
  rw [gvTo, gvTo, List.take_succ_eq_append_getElem hk, gvLs, gvLs, List.filter_append]
  simp [h]
theorem gvTo_give {ts : List RStep} {k : Nat} (hk : k < ts.length) (h : ¬ ts[k].op = 33) : ofL (gvTo ts k ++ [ts[k].to.1]) = gvTo ts (k + 1) := by
  refine srt_ext (ofL_srt _) (ofL_srt _) fun r => ?_
  rw [ofL_mem, List.mem_append, gvTo, gvTo, ofL_mem, ofL_mem, List.take_succ_eq_append_getElem hk, gvLs, gvLs, List.filter_append]
  simp [h]
theorem rdTo_end (b : RBlk) : ofL (rdTo b.sts b.sts.length ++ dif (endRds b.e) (gvTo b.sts b.sts.length)) = rdB b := by
  refine srt_ext (ofL_srt _) (ofL_srt _) fun r => ?_
  rw [ofL_mem, List.mem_append, dif_mem, rdTo, gvTo, rdB, ofL_mem, ofL_mem, ofL_mem, List.take_length]
  have := rdLs_app (ts := b.sts) (us := []) (e := b.e) (r := r)
  rw [List.append_nil, rdLs] at this
  rw [this]
theorem gvTo_all (b : RBlk) : gvTo b.sts b.sts.length = gvB b := by rw [gvTo, List.take_length, gvB]

end Go.Proofs.YtgfhfkgdmidhpaaGreat

namespace Go.Proofs.YtgfhfkgdmidhpaaGreat
open Go.RowKit

def sumL (n : Nat) (X : Nat → List Nat) : Nat := match n with | 0 => 0 | n + 1 => sumL n X + (X n).length
theorem sumL_le {n : Nat} {X Y : Nat → List Nat} (h : ∀ i, i < n → (X i).length ≤ (Y i).length) : sumL n X ≤ sumL n Y := by
  induction n with
  | zero => exact Nat.le_refl _
  | succ n ih =>
    have h1 := ih fun i hi => h i (by omega)
    have h2 := h n (by omega)
    rw [sumL, sumL]; omega
theorem sumL_lt {n : Nat} {X Y : Nat → List Nat} (h : ∀ i, i < n → (X i).length ≤ (Y i).length) {j : Nat} (hj : j < n) (hl : (X j).length < (Y j).length) : sumL n X < sumL n Y := by
  induction n with
  | zero => omega
  | succ n ih =>
    have h1 := sumL_le (n := n) (X := X) (Y := Y) fun i hi => h i (by omega)
    have h2 := h n (by omega)
    rw [sumL, sumL]
    by_cases e : j = n
    · subst e; omega
    · have := ih (fun i hi => h i (by omega)) (by omega); omega
theorem sumL_lim {n m : Nat} {X : Nat → List Nat} (h : ∀ i, i < n → (X i).length ≤ m) : sumL n X ≤ n * m := by
  induction n with
  | zero => simp [sumL]
  | succ n ih =>
    have h1 := ih fun i hi => h i (by omega)
    have h2 := h n (by omega)
    rw [sumL, Nat.succ_mul]; omega
def upd (X : Nat → List Nat) (i : Nat) (l : List Nat) : Nat → List Nat := fun k => if k = i then l else X k
theorem upd_at (X i l) : upd X i l i = l := by simp [upd]
theorem upd_ne {X i l k} (h : k ≠ i) : upd X i l k = X k := by simp [upd, h]
/-- What is found grows, and finds nothing that does not matter. -/
structure Grow (bs : List RBlk) (X : Nat → List Nat) : Prop where
  srt : ∀ i, (X i).Pairwise (· < ·)
  snd : ∀ i r, r ∈ X i → Mat bs i r
  up : ∀ i r, r ∈ X i → r ∈ mstep bs X i
theorem Grow.zero (bs) : Grow bs (fun _ => []) := ⟨fun _ => List.Pairwise.nil, fun _ _ h => by simp at h, fun _ _ h => by simp at h⟩
theorem Grow.step {bs X} (h : Grow bs X) : Grow bs (mstep bs X) := ⟨fun _ => mstep_srt _ _ _, fun _ _ hr => mstep_sound h.snd hr, fun _ _ hr => mstep_mono h.up hr⟩
theorem Grow.len {bs X n} (h : Grow bs X) (hf : ∀ b ∈ bs, BFine n b) (i : Nat) : (X i).length ≤ 10000 := mat_len hf (h.srt i) (h.snd i)
theorem Grow.upd_sub {bs X i} (h : Grow bs X) : ∀ k r, r ∈ X k → r ∈ upd X i (mstep bs X i) k := fun k r hr => by
  by_cases e : k = i
  · subst e; rw [upd_at]; exact h.up _ _ hr
  · rw [upd_ne e]; exact hr
theorem Grow.upd {bs X} (h : Grow bs X) (i : Nat) : Grow bs (upd X i (mstep bs X i)) := by
  refine ⟨fun k => ?_, fun k r hr => ?_, fun k r hr => ?_⟩
  · by_cases e : k = i
    · subst e; rw [upd_at]; exact mstep_srt _ _ _
    · rw [upd_ne e]; exact h.srt k
  · by_cases e : k = i
    · subst e; rw [upd_at] at hr; exact mstep_sound h.snd hr
    · rw [upd_ne e] at hr; exact h.snd k r hr
  · refine mstep_mono h.upd_sub ?_
    by_cases e : k = i
    · subst e; rw [upd_at] at hr; exact hr
    · rw [upd_ne e] at hr; exact h.up k r hr
theorem Grow.upd_lt {bs X n m i} (h : Grow bs X) (hf : ∀ b ∈ bs, BFine m b) (hi : i < n) (hne : mstep bs X i ≠ X i) : sumL n X < sumL n (YtgfhfkgdmidhpaaGreat.upd X i (mstep bs X i)) := by
  have hl : (X i).length < (mstep bs X i).length := srt_lt (h.srt i) (mstep_srt _ _ _) (h.up i) (fun e => hne e.symm) (n := 10000) fun x hx => mat_lt hf (mstep_sound h.snd hx)
  refine sumL_lt (fun k hk => ?_) hi (by rw [upd_at]; exact hl)
  by_cases e : k = i
  · subst e; rw [upd_at]; omega
  · rw [upd_ne e]; exact Nat.le_refl _
theorem Grow.step_lt {bs X n m i} (h : Grow bs X) (hf : ∀ b ∈ bs, BFine m b) (hi : i < n) (hne : mstep bs X i ≠ X i) : sumL n X < sumL n (mstep bs X) := by
  have hl : ∀ k, X k ≠ mstep bs X k → (X k).length < (mstep bs X k).length := fun k e => srt_lt (h.srt k) (mstep_srt _ _ _) (h.up k) e (n := 10000) fun x hx => mat_lt hf (mstep_sound h.snd hx)
  refine sumL_lt (fun k hk => ?_) hi (hl i fun e => hne e.symm)
  by_cases e : X k = mstep bs X k
  · rw [← e]; exact Nat.le_refl _
  · exact Nat.le_of_lt (hl k e)

end Go.Proofs.YtgfhfkgdmidhpaaGreat

namespace Go.Proofs.YtgfhfkgdmidhpaaGreat
open Go.RowKit

def cRegsTo (c : RCho) (i t : Nat) : List Nat := (((c.gs.zip c.rs).take t).filter fun p => p.1.1 == i).map (·.2.1)
theorem cRegsTo_zero (c i) : cRegsTo c i 0 = [] := by simp [cRegsTo]
theorem cRegsTo_yes {c : RCho} {i t : Nat} (ht : t < c.gs.length) (hr : t < c.rs.length) (h : c.gs[t].1 = i) : cRegsTo c i (t + 1) = cRegsTo c i t ++ [c.rs[t].1] := by
  have hz : t < (c.gs.zip c.rs).length := by rw [List.length_zip]; omega
  rw [cRegsTo, cRegsTo, List.take_succ_eq_append_getElem hz, List.filter_append, List.map_append]
  simp [h]
theorem cRegsTo_no {c : RCho} {i t : Nat} (ht : t < c.gs.length) (hr : t < c.rs.length) (h : c.gs[t].1 ≠ i) : cRegsTo c i (t + 1) = cRegsTo c i t := by
  have hz : t < (c.gs.zip c.rs).length := by rw [List.length_zip]; omega
  rw [cRegsTo, cRegsTo, List.take_succ_eq_append_getElem hz, List.filter_append, List.map_append]
  simp [h]
theorem cRegsTo_all {c : RCho} (i : Nat) : cRegsTo c i c.gs.length = cRegs c i := by
  rw [cRegsTo, cRegs, List.take_of_length_le (by rw [List.length_zip]; omega)]
def chnTo (b : RBlk) (i q : Nat) : List Nat := (b.chs.take q).flatMap fun c => cRegs c i
theorem chnTo_succ {b : RBlk} {i q : Nat} (hq : q < b.chs.length) : chnTo b i (q + 1) = chnTo b i q ++ cRegs b.chs[q] i := by
  rw [chnTo, chnTo, List.take_succ_eq_append_getElem hq, List.flatMap_append]; simp
theorem chnTo_all (b : RBlk) (i : Nat) : chnTo b i b.chs.length = chnL b i := by rw [chnTo, chnL, List.take_length]

set_option maxRecDepth 100000 in
set_option maxHeartbeats 1000000 in
theorem chosenR (b : RBlk) (i base : Nat) (qc : Option Addr) (cc : Nat) (ps : Option Addr) (ms cs : Nat) (w : World) (hC : ChsOwn w base b.chs (.slice qc b.chs.length cc)) (hr : Hid (∀ c ∈ b.chs, c.rs.length = c.gs.length)) (h1 : b.chs.length ≤ 1000000) (h2 : Hid (∀ c ∈ b.chs, c.gs.length ≤ 1000)) :
    Calls Tryz.prog 89 #[.agg #[.slice qc b.chs.length cc, .slice ps ms cs, .int .u8 b.e.op, .int .i64 b.e.a.1, .int .i64 b.e.a.2, .int .i64 b.e.one.1, .int .i64 b.e.one.2, .int .i64 b.e.two.1, .int .i64 b.e.two.2, .int .i64 b.at_], .int .i64 i] w
      fun x w' => ∃ v, x = .returned v ∧ w'.ownsRow w.heap.size 3 1 v (chnL b i).length (icell (chnL b i)) ∧ Below w.heap.size w w' := by
  go_enter Tryz.func89, Tryz.ntmps89
  go_wp2_with fail
  obtain ⟨W, hW⟩ : ∃ W, W = w.alloc (.cells #[.slice qc b.chs.length cc, .slice ps ms cs, .int .u8 b.e.op, .int .i64 b.e.a.1, .int .i64 b.e.a.2, .int .i64 b.e.one.1, .int .i64 b.e.one.2, .int .i64 b.e.two.1, .int .i64 b.e.two.2, .int .i64 b.at_] 82) := ⟨_, rfl⟩
  rw [← hW]
  have hB := heap_alloc_last w (.cells #[.slice qc b.chs.length cc, .slice ps ms cs, .int .u8 b.e.op, .int .i64 b.e.a.1, .int .i64 b.e.a.2, .int .i64 b.e.one.1, .int .i64 b.e.one.2, .int .i64 b.e.two.1, .int .i64 b.e.two.2, .int .i64 b.at_] 82)
  have hF := (Below.refl w.heap.size w).alloc (Nat.le_refl _) (.cells #[.slice qc b.chs.length cc, .slice ps ms cs, .int .u8 b.e.op, .int .i64 b.e.a.1, .int .i64 b.e.a.2, .int .i64 b.e.one.1, .int .i64 b.e.one.2, .int .i64 b.e.two.1, .int .i64 b.e.two.2, .int .i64 b.at_] 82)
  have hWs : W.heap.size = w.heap.size + 1 := by rw [hW, World.size_alloc]
  rw [← hW] at hB hF
  have B0 := cell_of hB 0
  simp at B0
  have HB := stop B0
  have HF := stop hF
  have HC := stop (hC.keeps (Keeps.below (T := fun _ => True) hF) trivial trivial trivial)
  clear hB hF hW hC B0
  go_loopw [5, 6] (fun o k wr => ∃ (q : Nat) (L : List Nat), q ≤ b.chs.length ∧ k = .int .i64 q ∧ Hid (L = chnTo b i q) ∧ L.length ≤ 1000 * q ∧ wr.ownsRow W.heap.size 3 1 o L.length (icell L) ∧ Hid (Below W.heap.size W wr)) (fun _ k _ => b.chs.length - (intOf k).toNat)
  case atStart => exact ⟨0, [], by omega, rfl, by simp [Hid, chnTo], by simp, World.ownsRow_nil _ _ _ _, Below.refl _ _⟩
  case round =>
    obtain ⟨q, L, hq, rfl, HL, hln, OL, F⟩ := hrel
    obtain ⟨pl, cl, rfl⟩ := owns_slice2 OL
    have hz := F.out.size
    have b0 := (F.out.cell (p := ⟨w.heap.size, 0, none⟩) (by show w.heap.size < _; omega)).trans HB.out
    by_cases hlt : q < b.chs.length
    · have hrq := hr.out _ (List.getElem_mem hlt)
      have hgq := h2.out _ (List.getElem_mem hlt)
      have OLH := stop OL
      clear OL
      have HC0 := stop (HC.out.keeps (Keeps.below (T := fun _ => True) F.out) trivial trivial trivial)
      obtain ⟨gc, pf, cf, pr, cr, rfl, _, _, OF, OR, e0, e1, e2, e3⟩ := HC0.out.at hlt
      clear HC0 e0 e1
      go_wp2_with fail
      clear OF OR e2 e3 b0
      go_loopw [5, 7] (fun o k wx => ∃ (t : Nat) (M : List Nat), t ≤ b.chs[q].gs.length ∧ k = .int .i64 t ∧ Hid (M = L ++ cRegsTo b.chs[q] i t) ∧ M.length ≤ 1000 * q + t ∧ wx.ownsRow W.heap.size 3 1 o M.length (icell M) ∧ Hid (Below W.heap.size W wx)) (fun _ k _ => b.chs[q].gs.length - (intOf k).toNat)
      case atStart => exact ⟨0, L, by omega, rfl, by simp [Hid, cRegsTo], by omega, OLH.out, F⟩
      case round =>
        obtain ⟨t, M, ht, rfl, HM, hmn, OM, F2⟩ := hrel
        obtain ⟨pm, cm, rfl⟩ := owns_slice2 OM
        have hz2 := F2.out.size
        have b0 := (F2.out.cell (p := ⟨w.heap.size, 0, none⟩) (by show w.heap.size < _; omega)).trans HB.out
        have HC0 := HC.out.keeps (Keeps.below (T := fun _ => True) F2.out) trivial trivial trivial
        obtain ⟨gc', pf, cf, pr, cr, hgc, _, _, OF, OR, _, _, e2, e3⟩ := HC0.at hlt
        cases hgc
        have OMH := stop OM
        clear OM HC0
        by_cases htl : t < b.chs[q].gs.length
        · have htr : t < b.chs[q].rs.length := by omega
          obtain ⟨gf, rfl, _, _⟩ := owns_form OF (by omega)
          obtain ⟨gr, rfl, _, _⟩ := owns_form OR (by omega)
          have f0 := owns_cell OF (pcs_at htl).1
          have r0 := owns_cell OR (pcs_at htr).1
          clear OF OR
          by_cases he : b.chs[q].gs[t].1 = i
          · have HT := stop (cRegsTo_yes htl htr he)
            have hd : ((b.chs[q].gs[t].1 : Int) == (i : Int)) = true := by simp; omega
            clear he
            go_wp2_with (at_builtin; refine unstop ?_)
            refine stop ?_
            have gB := heap_alloc_last wr (.cells #[.int .i64 b.chs[q].rs[t].1] 3)
            have OB := OMH.out.alloc (.cells #[.int .i64 b.chs[q].rs[t].1] 3)
            refine app1L Tryz.underlying29 Tryz.info3 rfl (by decide) (by decide) rfl _ _ rfl rfl OB gB rfl rfl (List.all_eq_true.1 rfl) (by omega) (by simp; omega) ?_
            intro v3 w3 oS gS
            have F3 := stop (Below.grown (F2.out.alloc (by omega) (.cells #[.int .i64 b.chs[q].rs[t].1] 3)) gS (by simp; omega) (fun j hj => by have := (OB.lt j hj).1; omega))
            obtain ⟨v3p, v3c, rfl⟩ := owns_slice2 oS
            have O3 := stop oS
            clear gS gB OB oS
            go_wp2_with fail
            go_roundw
            case rel => exact ⟨t + 1, M ++ [b.chs[q].rs[t].1], by omega, by go_num, by show _ = _; rw [HT.out, HM.out, List.append_assoc], by rw [List.length_append, List.length_singleton]; omega, by rw [List.length_append]; simpa [icell] using O3.out, F3⟩
            case measure => simp [intOf]; omega
          · have HT := stop (cRegsTo_no htl htr he)
            have hd : ((b.chs[q].gs[t].1 : Int) == (i : Int)) = false := by simp; omega
            clear he
            go_wp2_with fail
            go_roundw
            case rel => exact ⟨t + 1, M, by omega, by go_num, by show M = _; rw [HT.out]; exact HM.out, by omega, OMH.out, F2⟩
            case measure => simp [intOf]; omega
        · have hte : t = b.chs[q].gs.length := by omega
          have HL2 : Hid (M = chnTo b i (q + 1)) := by show M = _; rw [HM.out, hte, cRegsTo_all, chnTo_succ hlt, HL.out]
          clear OF OR
          go_wp2_with fail
          go_roundw
          case rel => exact ⟨q + 1, M, by omega, by go_num, HL2, by omega, OMH.out, F2⟩
          case measure => simp [intOf]; omega
    · have hqe : q = b.chs.length := by omega
      have HL2 : Hid (L = chnL b i) := by show L = _; rw [HL.out, hqe, chnTo_all]
      have OLH := stop OL
      clear OL
      go_wp2_with fail
      go_ret
      refine ⟨_, rfl, ?_, HF.out.trans (F.out.mono (by omega))⟩
      rw [← HL2.out]
      exact owns_base OLH.out (by omega)

end Go.Proofs.YtgfhfkgdmidhpaaGreat
