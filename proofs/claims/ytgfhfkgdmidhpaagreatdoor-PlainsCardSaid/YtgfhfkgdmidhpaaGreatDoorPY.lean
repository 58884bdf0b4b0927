import Derived.Test.YtgfhfkgdmidhpaaGreatDoorG05
import Derived.Test.YtgfhfkgdmidhpaaGreatDoorG15
import Derived.Test.YtgfhfkgdmidhpaaGreatDoorG14
namespace Go.Proofs.YtgfhfkgdmidhpaaGreatDoor
open Go.RowKit

theorem regN_lt (s i bad) : regN s i bad < 10000 := numN_lt _ _ _
def StFine (t : RStep) : Prop := t.to.1 < 10000 ∧ t.a.1 < 10000 ∧ t.b.1 < 10000
def ChFine (n : Nat) (c : RCho) : Prop := c.to.1 < 10000 ∧ c.rs.length = c.gs.length ∧ c.gs.length ≤ n ∧ ∀ r ∈ c.rs, r.1 < 10000
/-- A block of a text: its lists are not longer than the text, its registers have four digits. -/
structure BFine (n : Nat) (b : RBlk) : Prop where
  cl : b.chs.length ≤ n
  sl : b.sts.length ≤ n
  ch : ∀ c ∈ b.chs, ChFine n c
  st : ∀ t ∈ b.sts, StFine t
  e : b.e.a.1 < 10000
theorem givF_fine {s to i bad} (h : to.1 < 10000) : StFine (givF s to i bad).st := by
  unfold givF
  by_cases h1 : onF s i bad 63 = true
  · rw [if_pos h1]; exact ⟨h, Nat.zero_lt_succ _, Nat.zero_lt_succ _⟩
  rw [if_neg h1]
  by_cases h2 : onF s i bad 114 = true
  · rw [if_pos h2]
    by_cases h3 : opC s (regI s i bad) (regB s i bad) = 0
    · dsimp only; rw [if_pos h3]; exact ⟨h, regN_lt _ _ _, Nat.zero_lt_succ _⟩
    · dsimp only; rw [if_neg h3]; exact ⟨h, regN_lt _ _ _, regN_lt _ _ _⟩
  rw [if_neg h2]
  by_cases h4 : onF s i bad 45 = true
  · rw [if_pos h4]; exact ⟨h, Nat.zero_lt_succ _, Nat.zero_lt_succ _⟩
  · rw [if_neg h4]; exact ⟨h, Nat.zero_lt_succ _, Nat.zero_lt_succ _⟩
theorem choGo_fine {s} (k : Nat) : ∀ c : Cho, c.rs.length = c.gs.length → (∀ r ∈ c.rs, r.1 < 10000) → (choGo s k c).rs.length = (choGo s k c).gs.length ∧ ∀ r ∈ (choGo s k c).rs, r.1 < 10000 := by
  induction k with
  | zero => intro c h1 h2; exact ⟨h1, h2⟩
  | succ k ih =>
    intro c h1 h2
    have g1 : (choR s c).rs.length = (choR s c).gs.length := by simp [choR, h1]
    have g2 : ∀ r ∈ (choR s c).rs, r.1 < 10000 := fun r hr => by
      simp only [choR, List.mem_append, List.mem_singleton] at hr
      rcases hr with hr | hr
      · exact h2 r hr
      · subst hr; exact regN_lt _ _ _
    rw [choGo]
    cases h : onF s (choR s c).i (choR s c).bad 44 with
    | true => rw [if_pos rfl]; exact ih _ g1 g2
    | false => rw [if_neg (by simp)]; exact ⟨g1, g2⟩
theorem choF_fine {s i bad} : (choF s i bad).rs.length = (choF s i bad).gs.length ∧ ∀ r ∈ (choF s i bad).rs, r.1 < 10000 := choGo_fine _ _ rfl (fun r hr => by simp at hr)
theorem blkGo_fine {s i0} (k : Nat) : ∀ chs sts i bad, chs.length + k ≤ s.size + 1 → sts.length + k ≤ s.size + 1 → (∀ c ∈ chs, ChFine (s.size + 1) c) → (∀ t ∈ sts, StFine t) → BFine (s.size + 1) (blkGo s i0 k chs sts i bad).b := by
  induction k with
  | zero => intro chs sts i bad h1 h2 h3 h4; exact ⟨h1, h2, h3, h4, by show 0 < 10000; omega⟩
  | succ k ih =>
    intro chs sts i bad hc hl hch hst
    have hcl : chs.length ≤ s.size + 1 := by omega
    have hsl : sts.length ≤ s.size + 1 := by omega
    rw [blkGo]
    by_cases hb : bad < 0
    · rw [if_pos hb]
      by_cases h1 : onF s i bad 46 = true
      · rw [if_pos h1]; exact ⟨hcl, hsl, hch, hst, by show 0 < 10000; omega⟩
      rw [if_neg h1]
      by_cases h2 : onF s i bad 62 = true
      · rw [if_pos h2]; exact ⟨hcl, hsl, hch, hst, by show 0 < 10000; omega⟩
      rw [if_neg h2]
      by_cases h3 : onF s i bad 33 = true
      · rw [if_pos h3]
        refine ih _ _ _ _ (by omega) (by rw [List.length_append, List.length_singleton]; omega) hch ?_
        intro t ht
        rcases List.mem_append.1 ht with ht | ht
        · exact hst t ht
        · rw [List.mem_singleton] at ht; subst ht; exact ⟨by show 0 < 10000; omega, regN_lt _ _ _, by show 0 < 10000; omega⟩
      rw [if_neg h3]
      dsimp only
      by_cases h4 : onF s (regI s i bad) (regB s i bad) 61 = true
      · rw [if_pos h4]
        refine ih _ _ _ _ (by omega) (by rw [List.length_append, List.length_singleton]; omega) hch ?_
        intro t ht
        rcases List.mem_append.1 ht with ht | ht
        · exact hst t ht
        · rw [List.mem_singleton] at ht; subst ht; exact givF_fine (regN_lt _ _ _)
      rw [if_neg h4]
      by_cases h5 : (onF s (regI s i bad) (regB s i bad) 64 && sts.isEmpty) = true
      · rw [if_pos h5]
        refine ih _ _ _ _ (by rw [List.length_append, List.length_singleton]; omega) (by omega) ?_ hst
        intro c hc
        rcases List.mem_append.1 hc with hc | hc
        · exact hch c hc
        · rw [List.mem_singleton] at hc; subst hc; exact ⟨regN_lt _ _ _, choF_fine.1, choF_len, choF_fine.2⟩
      rw [if_neg h5]; exact ⟨hcl, hsl, hch, hst, regN_lt _ _ _⟩
    · rw [if_neg hb]; exact ⟨hcl, hsl, hch, hst, by show 0 < 10000; omega⟩
theorem blkF_fine2 {s i bad} : BFine (s.size + 1) (blkF s i bad).b := blkGo_fine _ _ _ _ _ (by simp) (by simp) (fun c hc => by simp at hc) (fun c hc => by simp at hc)
theorem parGo_fine2 {s} (k : Nat) : ∀ p : Par, (∀ b ∈ p.bs, BFine (s.size + 1) b) → ∀ b ∈ (parGo s k p).bs, BFine (s.size + 1) b := by
  induction k with
  | zero => intro p h; exact h
  | succ k ih =>
    intro p h
    rw [parGo]
    have hq : ∀ b ∈ p.bs ++ [(blkF s p.i p.bad).b], BFine (s.size + 1) b := by
      intro b hb
      rcases List.mem_append.1 hb with hb | hb
      · exact h b hb
      · rw [List.mem_singleton] at hb; subst hb; exact blkF_fine2
    cases ho : onF s (blkF s p.i p.bad).i (blkF s p.i p.bad).bad 124 with
    | true => rw [if_pos rfl]; exact ih _ hq
    | false => rw [if_neg (by simp)]; exact hq
theorem parF_fine2 (s : ByteArray) : ∀ b ∈ (parF s).bs, BFine (s.size + 1) b := parGo_fine2 _ _ (fun b hb => by simp at hb)

/-- The block of a number. -/
def bkF (bs : List RBlk) (i : Nat) : RBlk := (bs[i]?).getD ⟨[], [], noEnd, 0⟩
theorem bkF_at {bs : List RBlk} {i : Nat} (h : i < bs.length) : bkF bs i = bs[i] := by rw [bkF, List.getElem?_eq_getElem h]; rfl
theorem parGo_pos {s : ByteArray} (k : Nat) (p : Par) (h : 0 < p.bs.length ∨ 0 < k) : 0 < (parGo s k p).bs.length := by
  induction k generalizing p with
  | zero =>
    rcases h with h | h
    · exact h
    · omega
  | succ k ih =>
    rw [parGo]
    split
    · exact ih _ (.inl (by simp))
    · simp
theorem rd0 {s : ByteArray} (h : (rdF s).e = 0) : (rdF s).at_ = 0 ∧ 0 < (parF s).bs.length ∧ (parF s).bs.length ≤ 12 ∧ ∀ b ∈ (parF s).bs, ∀ p ∈ goalsF b.e, p.1 < (parF s).bs.length := by
  have hp : 0 < (parF s).bs.length := parGo_pos _ _ (.inr (by omega))
  unfold rdF at h ⊢
  by_cases h1 : 200000 < s.size
  · rw [if_pos h1] at h; cases h
  rw [if_neg h1] at h ⊢
  by_cases h2 : 0 ≤ parBad s
  · rw [if_pos h2] at h; cases h
  rw [if_neg h2] at h ⊢
  by_cases h3 : 12 < (parF s).bs.length
  · rw [dif_pos h3] at h; cases h
  rw [dif_neg h3] at h ⊢
  by_cases h4 : 0 ≤ lostF (parF s).bs
  · rw [if_pos h4] at h; cases h
  rw [if_neg h4] at h ⊢
  by_cases h5 : 0 ≤ unfF (parF s).bs
  · rw [if_pos h5] at h; cases h
  rw [if_neg h5]
  exact ⟨rfl, hp, by omega, lost_goals h4⟩
theorem BFine.mono {n m : Nat} {b : RBlk} (h : BFine n b) (hn : n ≤ m) : BFine m b := ⟨Nat.le_trans h.cl hn, Nat.le_trans h.sl hn, fun c hc => ⟨(h.ch c hc).1, (h.ch c hc).2.1, Nat.le_trans (h.ch c hc).2.2.1 hn, (h.ch c hc).2.2.2⟩, h.st, h.e⟩
theorem unfB_all {ah : List Nat} : ∀ {cs : List RCho} {gv : List Nat}, unfB ah gv cs = none → ∀ c ∈ cs, nums c.gs = ah
  | [], _, _, c, hc => by simp at hc
  | d :: cs, gv, h, c, hc => by
    rw [unfB] at h
    split at h
    · rename_i ho
      rcases List.mem_cons.1 hc with rfl | hc
      · rw [chOk, Bool.and_eq_true] at ho
        simpa using ho.1
      · exact unfB_all h c hc
    · cases h
theorem rd0c {s : ByteArray} (h : (rdF s).e = 0) : s.size ≤ 200000 ∧ ∀ (i : Nat) (hi : i < (parF s).bs.length), ∀ c ∈ (parF s).bs[i].chs, nums c.gs = aheF (parF s).bs i := by
  unfold rdF at h
  by_cases h1 : 200000 < s.size
  · rw [if_pos h1] at h; cases h
  rw [if_neg h1] at h
  by_cases h2 : 0 ≤ parBad s
  · rw [if_pos h2] at h; cases h
  rw [if_neg h2] at h
  by_cases h3 : 12 < (parF s).bs.length
  · rw [dif_pos h3] at h; cases h
  rw [dif_neg h3] at h
  by_cases h4 : 0 ≤ lostF (parF s).bs
  · rw [if_pos h4] at h; cases h
  rw [if_neg h4] at h
  by_cases h5 : 0 ≤ unfF (parF s).bs
  · rw [if_pos h5] at h; cases h
  refine ⟨by omega, fun i hi c hc => ?_⟩
  have hn : (List.range (parF s).bs.length).findSome? (unfAt (parF s).bs) = none := by
    cases e : (List.range (parF s).bs.length).findSome? (unfAt (parF s).bs) with
    | none => rfl
    | some x => rw [unfF, e] at h5; exact absurd (by show (0 : Int) ≤ (x : Int); omega) h5
  rw [List.findSome?_eq_none_iff] at hn
  have := hn i (List.mem_range.2 hi)
  rw [unfAt, List.getElem?_eq_getElem hi] at this
  exact unfB_all this c hc
theorem fineS {s : ByteArray} (h : (rdF s).e = 0) : (∀ b ∈ (parF s).bs, BFine 1000000 b) ∧ (∀ b ∈ (parF s).bs, ∀ c ∈ b.chs, (c.gs.map (·.1)).Pairwise (· < ·)) ∧ (∀ b ∈ (parF s).bs, ∀ c ∈ b.chs, c.gs.length ≤ 1000) := by
  obtain ⟨hs, hc⟩ := rd0c h
  obtain ⟨_, _, h12, _⟩ := rd0 h
  refine ⟨fun b hb => (parF_fine2 s b hb).mono (by omega), fun b hb c hcc => ?_, fun b hb c hcc => ?_⟩
  · obtain ⟨i, hi, rfl⟩ := List.getElem_of_mem hb
    have := hc i hi c hcc
    rw [nums] at this
    rw [this]
    exact aheTo_srt _ _ _
  · obtain ⟨i, hi, rfl⟩ := List.getElem_of_mem hb
    have := congrArg List.length (hc i hi c hcc)
    rw [nums, List.length_map] at this
    have := aheF_len (parF s).bs i
    omega
/-- The error of Matters: that of Check, or too long. -/
def upE (m : Nat) (s : ByteArray) : Nat := if (rdF s).e = 0 then (if m < s.size then 1 else 0) else (rdF s).e
theorem upE_zero {m s} (h : upE m s = 0) : (rdF s).e = 0 ∧ s.size ≤ m := by
  unfold upE at h
  by_cases h0 : (rdF s).e = 0
  · rw [if_pos h0] at h
    by_cases h1 : m < s.size
    · rw [if_pos h1] at h; cases h
    · exact ⟨h0, by omega⟩
  · rw [if_neg h0] at h; exact absurd h h0
def PUp (w : World) (base m : Nat) (s : ByteArray) (v : Value) : Prop := upE m s = 0 → PBs w base (parF s).bs v

set_option maxHeartbeats 1000000 in
theorem readUpP (m : Nat) (_hm : m ≤ 1000000) (s : ByteArray) (w : World) (_hs : s.size ≤ maxLen) :
    Calls Tryz.prog 19 #[.int .i64 m, .string s] w fun x w' => ∃ v, x = .returned (.tuple #[v, .int .i64 (upE m s), .int .i64 (rdF s).at_]) ∧ Hid (PUp w' w.heap.size m s v ∧ Below w.heap.size w w') := by
  unfold maxLen at _hs
  go_enter Tryz.func19, Tryz.ntmps19
  go_wp2_with fail
  refine (readS_any s w).mono ?_
  rintro x w1 ⟨v1, rfl, P1, f1⟩
  have H1 := stop (And.intro P1 f1)
  clear P1 f1
  by_cases h0 : (rdF s).e = 0
  · have ha := (rd0 h0).1
    have HA := stop ha
    rw [h0, ha]
    by_cases hl : m < s.size
    · have HE : Hid (upE m s = 1) := by show _ = _; rw [upE, if_pos h0, if_pos hl]
      clear h0 ha
      go_wp2_with fail
      go_ret3
      exact ⟨_, by rw [HE.out, HA.out]; rfl, (fun h => by rw [HE.out] at h; cases h), H1.out.2⟩
    · have HE : Hid (upE m s = 0) := by show _ = _; rw [upE, if_pos h0, if_neg hl]
      have HP := stop (H1.out.1 h0)
      clear h0 ha
      go_wp2_with fail
      go_ret3
      exact ⟨_, by rw [HE.out, HA.out]; rfl, fun _ => HP.out, H1.out.2⟩
  · have HE : Hid (upE m s = (rdF s).e) := by show _ = _; rw [upE, if_neg h0]
    have hd : (((rdF s).e : Int) == 0) = false := by simp; omega
    have HZ : Hid (upE m s ≠ 0) := by show _ ≠ _; rw [HE.out]; exact h0
    clear h0
    go_wp2_with fail
    go_ret3
    exact ⟨_, by rw [HE.out]; rfl, fun h => absurd h HZ.out, H1.out.2⟩
set_option maxHeartbeats 1000000 in
theorem shortR (s : ByteArray) (w : World) (hs : s.size ≤ maxLen) :
    Calls Tryz.prog 15 #[.string s] w fun x w' => ∃ v, x = .returned (.tuple #[v, .int .i64 (upE 40000 s), .int .i64 (rdF s).at_]) ∧ Hid ((upE 40000 s = 0 → BlksOwn w' w.heap.size (parF s).bs v) ∧ Below w.heap.size w w') := by
  go_enter Tryz.func15, Tryz.ntmps15
  go_wp2_with fail
  refine (read_any s w hs).mono ?_
  rintro x w1 ⟨v1, rfl, P1, f1⟩
  unfold maxLen at hs
  have H1 := stop (And.intro P1 f1)
  clear P1 f1
  by_cases h0 : (rdF s).e = 0
  · have ha := (rd0 h0).1
    have HA := stop ha
    rw [h0, ha]
    by_cases hl : 40000 < s.size
    · have HE : Hid (upE 40000 s = 1) := by show _ = _; rw [upE, if_pos h0, if_pos hl]
      clear h0 ha
      go_wp2_with fail
      go_ret3
      exact ⟨_, by rw [HE.out, HA.out]; rfl, (fun h => by rw [HE.out] at h; cases h), H1.out.2⟩
    · have HE : Hid (upE 40000 s = 0) := by show _ = _; rw [upE, if_pos h0, if_neg hl]
      have HP := stop (H1.out.1 h0)
      clear h0 ha
      go_wp2_with fail
      go_ret3
      exact ⟨_, by rw [HE.out, HA.out]; rfl, fun _ => HP.out, H1.out.2⟩
  · have HE : Hid (upE 40000 s = (rdF s).e) := by show _ = _; rw [upE, if_neg h0]
    have hd : (((rdF s).e : Int) != 0) = true := by simp; omega
    have HZ : Hid (upE 40000 s ≠ 0) := by show _ ≠ _; rw [HE.out]; exact h0
    clear h0
    go_wp2_with fail
    go_ret3
    exact ⟨_, by rw [HE.out]; rfl, fun h => absurd h HZ.out, H1.out.2⟩

theorem goalsS {s : ByteArray} (h : (rdF s).e = 0) : ∀ b ∈ (parF s).bs, ∀ c ∈ b.chs, ∀ p ∈ c.gs, p.1 < (parF s).bs.length := by
  intro b hb c hc p hp
  obtain ⟨i, hi, rfl⟩ := List.getElem_of_mem hb
  have := (rd0c h).2 i hi c hc
  have hm : p.1 ∈ nums c.gs := List.mem_map.2 ⟨p, hp, rfl⟩
  rw [this] at hm
  exact aheTo_lt hm


end Go.Proofs.YtgfhfkgdmidhpaaGreatDoor
