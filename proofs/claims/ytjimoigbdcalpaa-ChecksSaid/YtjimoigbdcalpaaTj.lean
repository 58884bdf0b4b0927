import Derived.Test.YtjimoigbdcalpaaTi
namespace Go.Proofs.Ytjimoigbdcalpaa
open Go.RowKit

def BlkAll (w : World) (base : Nat) : List RBlk → List (Value × Value) → Prop
  | [], [] => True
  | c :: cs, v :: vs => (ChsOwn w base c.chs v.1 ∧ w.ownsRow base 116 8 v.2 c.sts.length (c.sts.flatMap stepCells)) ∧ BlkAll w base cs vs
  | _, _ => False
def blkCell (c : RBlk) (v : Value × Value) : List Value := blkCells v.1 v.2 c.e c.at_
def blkFlat (cs : List RBlk) (vs : List (Value × Value)) : List Value := (List.zipWith blkCell cs vs).flatten
def BlksOwn (w : World) (base : Nat) (cs : List RBlk) (v : Value) : Prop := ∃ vs, w.ownsRow base 56 10 v cs.length (blkFlat cs vs) ∧ BlkAll w base cs vs
def T2 (e : TypeId) : Prop := e = 51 ∨ e = 52 ∨ e = 85 ∨ e = 116
def T3 (e : TypeId) : Prop := e = 51 ∨ e = 52 ∨ e = 85 ∨ e = 116 ∨ e = 56
theorem BlkAll.len {w base} : ∀ {cs vs}, BlkAll w base cs vs → vs.length = cs.length
  | [], [], _ => rfl
  | _ :: _, _ :: _, h => by simp [BlkAll.len h.2]
  | [], _ :: _, h => h.elim
  | _ :: _, [], h => h.elim
theorem BlkAll.keeps {w w' base} {T : TypeId → Prop} (k : Keeps base T w w') (h1 : T 52) (h2 : T 51) (h3 : T 85) (h4 : T 116) : ∀ {cs vs}, BlkAll w base cs vs → BlkAll w' base cs vs
  | [], [], _ => trivial
  | _ :: _, _ :: _, h => ⟨⟨h.1.1.keeps k h1 h2 h3, owns_keeps h.1.2 k h4⟩, BlkAll.keeps k h1 h2 h3 h4 h.2⟩
  | [], _ :: _, h => h.elim
  | _ :: _, [], h => h.elim
theorem BlkAll.snoc {w base c v} (h1 : ChsOwn w base c.chs v.1) (h2 : w.ownsRow base 116 8 v.2 c.sts.length (c.sts.flatMap stepCells)) : ∀ {cs vs}, BlkAll w base cs vs → BlkAll w base (cs ++ [c]) (vs ++ [v])
  | [], [], _ => ⟨⟨h1, h2⟩, trivial⟩
  | _ :: _, _ :: _, h => ⟨h.1, BlkAll.snoc h1 h2 h.2⟩
  | [], _ :: _, h => h.elim
  | _ :: _, [], h => h.elim
theorem BlkAll.base {w base base'} (hb : base' ≤ base) : ∀ {cs vs}, BlkAll w base cs vs → BlkAll w base' cs vs
  | [], [], _ => trivial
  | _ :: _, _ :: _, h => ⟨⟨h.1.1.base hb, owns_base h.1.2 hb⟩, BlkAll.base hb h.2⟩
  | [], _ :: _, h => h.elim
  | _ :: _, [], h => h.elim
theorem blkFlat_snoc {cs vs} (c v) (h : vs.length = cs.length) : blkFlat (cs ++ [c]) (vs ++ [v]) = blkFlat cs vs ++ blkCell c v := by
  simp [blkFlat, List.zipWith_append h.symm]
theorem BlksOwn.keeps {w w' base cs v} {T : TypeId → Prop} (h : BlksOwn w base cs v) (k : Keeps base T w w') (h1 : T 52) (h2 : T 51) (h3 : T 85) (h4 : T 116) (h5 : T 56) : BlksOwn w' base cs v := by
  obtain ⟨vs, a, b⟩ := h
  exact ⟨vs, owns_keeps a k h5, b.keeps k h1 h2 h3 h4⟩
theorem BlksOwn.keeps3 {w w' base cs v} (h : BlksOwn w base cs v) (k : Keeps base T3 w w') : BlksOwn w' base cs v :=
  h.keeps k (by simp [T3]) (by simp [T3]) (by simp [T3]) (by simp [T3]) (by simp [T3])
theorem BlksOwn.base {w base base' cs v} (h : BlksOwn w base cs v) (hb : base' ≤ base) : BlksOwn w base' cs v := by
  obtain ⟨vs, a, b⟩ := h
  exact ⟨vs, owns_base a hb, b.base hb⟩
theorem BlksOwn.slice {w base cs v} (h : BlksOwn w base cs v) : ∃ p c, v = .slice p cs.length c := by
  obtain ⟨vs, a, _⟩ := h; exact owns_slice2 a

theorem blkGo_ge {s i0} (k : Nat) : ∀ chs sts i bad, i ≤ (blkGo s i0 k chs sts i bad).i := by
  induction k with
  | zero => intro chs sts i bad; exact Nat.le_refl _
  | succ k ih =>
    intro chs sts i bad
    rw [blkGo]
    by_cases hb : bad < 0
    · rw [if_pos hb]
      by_cases h1 : onF s i bad 46 = true
      · rw [if_pos h1]; exact Nat.le_succ _
      rw [if_neg h1]
      by_cases h2 : onF s i bad 62 = true
      · rw [if_pos h2]; exact Nat.le_trans (Nat.le_succ _) numI_ge
      rw [if_neg h2]
      by_cases h3 : onF s i bad 33 = true
      · rw [if_pos h3]; exact Nat.le_trans (Nat.le_trans (Nat.le_succ _) (Nat.le_trans regI_ge gotI_ge)) (ih _ _ _ _)
      rw [if_neg h3]
      dsimp only
      by_cases h4 : onF s (regI s i bad) (regB s i bad) 61 = true
      · rw [if_pos h4]; exact Nat.le_trans (Nat.le_trans (Nat.le_trans regI_ge (Nat.le_succ _)) (Nat.le_trans givF_ge gotI_ge)) (ih _ _ _ _)
      rw [if_neg h4]
      by_cases h5 : (onF s (regI s i bad) (regB s i bad) 64 && sts.isEmpty) = true
      · rw [if_pos h5]; exact Nat.le_trans (Nat.le_trans regI_ge (Nat.le_trans (Nat.le_trans gotI_ge choF_ge) gotI_ge)) (ih _ _ _ _)
      rw [if_neg h5]
      exact Nat.le_trans regI_ge (Nat.le_trans gotI_ge (Nat.le_trans numI_ge (Nat.le_trans gotI_ge numI_ge)))
    · rw [if_neg hb]; exact Nat.le_refl _
theorem blkGo_le {s i0} (k : Nat) : ∀ chs sts i bad, i ≤ s.size → (blkGo s i0 k chs sts i bad).i ≤ s.size := by
  induction k with
  | zero => intro chs sts i bad h; exact h
  | succ k ih =>
    intro chs sts i bad h
    rw [blkGo]
    by_cases hb : bad < 0
    · rw [if_pos hb]
      by_cases h1 : onF s i bad 46 = true
      · rw [if_pos h1]; exact (onF_lt h1).2.1
      rw [if_neg h1]
      by_cases h2 : onF s i bad 62 = true
      · rw [if_pos h2]; exact numI_le (onF_lt h2).2.1
      rw [if_neg h2]
      by_cases h3 : onF s i bad 33 = true
      · rw [if_pos h3]; exact ih _ _ _ _ (gotI_le (regI_le (onF_lt h3).2.1))
      rw [if_neg h3]
      dsimp only
      by_cases h4 : onF s (regI s i bad) (regB s i bad) 61 = true
      · rw [if_pos h4]; exact ih _ _ _ _ (gotI_le (givF_le (onF_lt h4).2.1))
      rw [if_neg h4]
      by_cases h5 : (onF s (regI s i bad) (regB s i bad) 64 && sts.isEmpty) = true
      · rw [if_pos h5]; exact ih _ _ _ _ (gotI_le (choF_le (regI_le h)))
      rw [if_neg h5]
      exact numI_le (gotI_le (numI_le (gotI_le (regI_le h))))
    · rw [if_neg hb]; exact h
theorem blkF_ge {s i bad} : i ≤ (blkF s i bad).i := blkGo_ge _ _ _ _ _
theorem blkF_le {s i bad} (h : i ≤ s.size) : (blkF s i bad).i ≤ s.size := blkGo_le _ _ _ _ _ h

structure Par where
  bs : List RBlk
  i : Nat
  bad : Int
def parGo (s : ByteArray) : Nat → Par → Par
  | 0, p => p
  | k + 1, p =>
    let d := blkF s p.i p.bad
    let q : Par := ⟨p.bs ++ [d.b], gotI s d.i d.bad 124, d.bad⟩
    if onF s d.i d.bad 124 then parGo s k q else q
def parSt (s : ByteArray) (a : Bool) (k : Nat) (p : Par) : Par := if a then parGo s k p else p
theorem parSt_step {s k p} (hk : 0 < k) : parSt s true k p = parSt s (onF s (blkF s p.i p.bad).i (blkF s p.i p.bad).bad 124) (k - 1) ⟨p.bs ++ [(blkF s p.i p.bad).b], gotI s (blkF s p.i p.bad).i (blkF s p.i p.bad).bad 124, (blkF s p.i p.bad).bad⟩ := by
  obtain ⟨k, rfl⟩ : ∃ j, k = j + 1 := ⟨k - 1, by omega⟩
  simp only [parSt, if_true, parGo, Nat.add_sub_cancel]
def parF (s : ByteArray) : Par := parGo s (s.size + 1) ⟨[], 0, -1⟩
/-- The place at which a text breaks off; below 0: it does not. -/
def parBad (s : ByteArray) : Int := if (parF s).i < s.size then failB (parF s).i (parF s).bad else (parF s).bad
theorem Try.info56 : (Try.prog.info? 56).map (fun i => (i.zero, i.size, i.bytes)) = some (some (.agg #[.slice none 0 0, .slice none 0 0, .int .u8 0, .int .i64 0, .int .i64 0, .int .i64 0, .int .i64 0, .int .i64 0, .int .i64 0, .int .i64 0]), 10, 112) := by kernel_rfl
def flag2 : Value → Nat | .bool true => 1 | _ => 0

set_option maxRecDepth 100000 in
set_option maxHeartbeats 1000000 in
theorem parse_any (s : ByteArray) (w : World) (hs : s.size ≤ 200000) :
    Calls Try.prog 12 #[.string s] w fun e w' => ∃ v, e = .returned (.tuple #[v, .int .i64 (parBad s)]) ∧ BlksOwn w' w.heap.size (parF s).bs v ∧ Fr w.heap.size w w' := by
  go_enter Try.func12, Try.ntmps12
  go_wp2_with fail
  go_loopw [5, 6] (fun l ag wr => ∃ (a : Bool) (k : Nat) (p : Par), ag = .bool a ∧ p.i ≤ s.size ∧ (a = true → s.size < k + p.i ∧ p.bs.length ≤ p.i) ∧ Hid (parF s = parSt s a k p) ∧
      BlksOwn wr (w.heap.size + 1) p.bs l ∧ PenAt wr w.heap.size s p.i p.bad ∧ Fr w.heap.size w wr ∧ w.heap.size + 1 ≤ wr.heap.size)
    (fun _ ag wr => 2 * (s.size - penI wr w.heap.size) + flag ag)
  case atStart =>
    exact ⟨true, s.size + 1, ⟨[], 0, -1⟩, rfl, by simp, fun _ => ⟨by show _ < _; omega, by simp⟩, rfl, ⟨[], World.ownsRow_nil _ _ _ _, trivial⟩, ⟨_, heap_alloc_last w _⟩, (Fr.refl _ _).alloc _, by simp⟩
  case round =>
    obtain ⟨a, k, p, rfl, hpi, hab, HR, O, P, F, hz⟩ := hrel
    cases a with
    | true =>
      obtain ⟨hk, hbl⟩ := hab rfl
      clear hab
      have HR2 := stop (HR.out.trans (parSt_step (by omega)))
      have HPI : Hid (penI wr w.heap.size = p.i) := P.penI
      have hg1 := blkF_ge (s := s) (i := p.i) (bad := p.bad)
      have hg2 := blkF_le (bad := p.bad) hpi
      clear HR
      go_wp2_with fail
      refine (block_any _ s _ _ _ P hs hpi).mono ?_
      rintro e w1 ⟨vc, vs, rfl, oc, os, P1, f1⟩
      replace oc := oc.base hz
      replace os := owns_base os hz
      replace O := O.keeps3 (Keeps.fr f1 (by omega))
      replace F := F.trans f1
      have hz1 : w.heap.size + 1 ≤ w1.heap.size := Nat.le_trans hz f1.size
      obtain ⟨pc1, cc1, rfl⟩ := oc.slice
      obtain ⟨ps1, cs1, rfl⟩ := owns_slice2 os
      rw [show (blkCells (.slice pc1 (blkF s p.i p.bad).b.chs.length cc1) (.slice ps1 (blkF s p.i p.bad).b.sts.length cs1) (blkF s p.i p.bad).b.e (blkF s p.i p.bad).b.at_).toArray = #[.slice pc1 (blkF s p.i p.bad).b.chs.length cc1, .slice ps1 (blkF s p.i p.bad).b.sts.length cs1, .int .u8 (blkF s p.i p.bad).b.e.op, .int .i64 (blkF s p.i p.bad).b.e.a.1, .int .i64 (blkF s p.i p.bad).b.e.a.2, .int .i64 (blkF s p.i p.bad).b.e.one.1, .int .i64 (blkF s p.i p.bad).b.e.one.2, .int .i64 (blkF s p.i p.bad).b.e.two.1, .int .i64 (blkF s p.i p.bad).b.e.two.2, .int .i64 (blkF s p.i p.bad).b.at_] from rfl]
      obtain ⟨pl, cl, rfl⟩ := O.slice
      clear f1 P hz
      go_wp2_with (at_builtin; refine unstop ?_)
      refine stop ?_
      have W0 := heap_alloc_last (w1.alloc (.cells #[.slice pc1 (blkF s p.i p.bad).b.chs.length cc1, .slice ps1 (blkF s p.i p.bad).b.sts.length cs1, .int .u8 (blkF s p.i p.bad).b.e.op, .int .i64 (blkF s p.i p.bad).b.e.a.1, .int .i64 (blkF s p.i p.bad).b.e.a.2, .int .i64 (blkF s p.i p.bad).b.e.one.1, .int .i64 (blkF s p.i p.bad).b.e.one.2, .int .i64 (blkF s p.i p.bad).b.e.two.1, .int .i64 (blkF s p.i p.bad).b.e.two.2, .int .i64 (blkF s p.i p.bad).b.at_] 56)) (.cells #[.slice pc1 (blkF s p.i p.bad).b.chs.length cc1, .slice ps1 (blkF s p.i p.bad).b.sts.length cs1, .int .u8 (blkF s p.i p.bad).b.e.op, .int .i64 (blkF s p.i p.bad).b.e.a.1, .int .i64 (blkF s p.i p.bad).b.e.a.2, .int .i64 (blkF s p.i p.bad).b.e.one.1, .int .i64 (blkF s p.i p.bad).b.e.one.2, .int .i64 (blkF s p.i p.bad).b.e.two.1, .int .i64 (blkF s p.i p.bad).b.e.two.2, .int .i64 (blkF s p.i p.bad).b.at_] 56)
      have gB : ((w1.alloc (.cells #[.slice pc1 (blkF s p.i p.bad).b.chs.length cc1, .slice ps1 (blkF s p.i p.bad).b.sts.length cs1, .int .u8 (blkF s p.i p.bad).b.e.op, .int .i64 (blkF s p.i p.bad).b.e.a.1, .int .i64 (blkF s p.i p.bad).b.e.a.2, .int .i64 (blkF s p.i p.bad).b.e.one.1, .int .i64 (blkF s p.i p.bad).b.e.one.2, .int .i64 (blkF s p.i p.bad).b.e.two.1, .int .i64 (blkF s p.i p.bad).b.e.two.2, .int .i64 (blkF s p.i p.bad).b.at_] 56)).alloc (.cells #[.slice pc1 (blkF s p.i p.bad).b.chs.length cc1, .slice ps1 (blkF s p.i p.bad).b.sts.length cs1, .int .u8 (blkF s p.i p.bad).b.e.op, .int .i64 (blkF s p.i p.bad).b.e.a.1, .int .i64 (blkF s p.i p.bad).b.e.a.2, .int .i64 (blkF s p.i p.bad).b.e.one.1, .int .i64 (blkF s p.i p.bad).b.e.one.2, .int .i64 (blkF s p.i p.bad).b.e.two.1, .int .i64 (blkF s p.i p.bad).b.e.two.2, .int .i64 (blkF s p.i p.bad).b.at_] 56)).heap[w1.heap.size + 1]? = some (.cells #[.slice pc1 (blkF s p.i p.bad).b.chs.length cc1, .slice ps1 (blkF s p.i p.bad).b.sts.length cs1, .int .u8 (blkF s p.i p.bad).b.e.op, .int .i64 (blkF s p.i p.bad).b.e.a.1, .int .i64 (blkF s p.i p.bad).b.e.a.2, .int .i64 (blkF s p.i p.bad).b.e.one.1, .int .i64 (blkF s p.i p.bad).b.e.one.2, .int .i64 (blkF s p.i p.bad).b.e.two.1, .int .i64 (blkF s p.i p.bad).b.e.two.2, .int .i64 (blkF s p.i p.bad).b.at_] 56 (0, 0)) := by simpa using W0
      clear W0
      replace O := (O.keeps3 (Keeps.alloc _ _ _ (.cells #[.slice pc1 (blkF s p.i p.bad).b.chs.length cc1, .slice ps1 (blkF s p.i p.bad).b.sts.length cs1, .int .u8 (blkF s p.i p.bad).b.e.op, .int .i64 (blkF s p.i p.bad).b.e.a.1, .int .i64 (blkF s p.i p.bad).b.e.a.2, .int .i64 (blkF s p.i p.bad).b.e.one.1, .int .i64 (blkF s p.i p.bad).b.e.one.2, .int .i64 (blkF s p.i p.bad).b.e.two.1, .int .i64 (blkF s p.i p.bad).b.e.two.2, .int .i64 (blkF s p.i p.bad).b.at_] 56))).keeps3 (Keeps.alloc _ _ _ (.cells #[.slice pc1 (blkF s p.i p.bad).b.chs.length cc1, .slice ps1 (blkF s p.i p.bad).b.sts.length cs1, .int .u8 (blkF s p.i p.bad).b.e.op, .int .i64 (blkF s p.i p.bad).b.e.a.1, .int .i64 (blkF s p.i p.bad).b.e.a.2, .int .i64 (blkF s p.i p.bad).b.e.one.1, .int .i64 (blkF s p.i p.bad).b.e.one.2, .int .i64 (blkF s p.i p.bad).b.e.two.1, .int .i64 (blkF s p.i p.bad).b.e.two.2, .int .i64 (blkF s p.i p.bad).b.at_] 56))
      replace P1 := (P1.alloc (.cells #[.slice pc1 (blkF s p.i p.bad).b.chs.length cc1, .slice ps1 (blkF s p.i p.bad).b.sts.length cs1, .int .u8 (blkF s p.i p.bad).b.e.op, .int .i64 (blkF s p.i p.bad).b.e.a.1, .int .i64 (blkF s p.i p.bad).b.e.a.2, .int .i64 (blkF s p.i p.bad).b.e.one.1, .int .i64 (blkF s p.i p.bad).b.e.one.2, .int .i64 (blkF s p.i p.bad).b.e.two.1, .int .i64 (blkF s p.i p.bad).b.e.two.2, .int .i64 (blkF s p.i p.bad).b.at_] 56)).alloc (.cells #[.slice pc1 (blkF s p.i p.bad).b.chs.length cc1, .slice ps1 (blkF s p.i p.bad).b.sts.length cs1, .int .u8 (blkF s p.i p.bad).b.e.op, .int .i64 (blkF s p.i p.bad).b.e.a.1, .int .i64 (blkF s p.i p.bad).b.e.a.2, .int .i64 (blkF s p.i p.bad).b.e.one.1, .int .i64 (blkF s p.i p.bad).b.e.one.2, .int .i64 (blkF s p.i p.bad).b.e.two.1, .int .i64 (blkF s p.i p.bad).b.e.two.2, .int .i64 (blkF s p.i p.bad).b.at_] 56)
      replace F := (F.alloc (.cells #[.slice pc1 (blkF s p.i p.bad).b.chs.length cc1, .slice ps1 (blkF s p.i p.bad).b.sts.length cs1, .int .u8 (blkF s p.i p.bad).b.e.op, .int .i64 (blkF s p.i p.bad).b.e.a.1, .int .i64 (blkF s p.i p.bad).b.e.a.2, .int .i64 (blkF s p.i p.bad).b.e.one.1, .int .i64 (blkF s p.i p.bad).b.e.one.2, .int .i64 (blkF s p.i p.bad).b.e.two.1, .int .i64 (blkF s p.i p.bad).b.e.two.2, .int .i64 (blkF s p.i p.bad).b.at_] 56)).alloc (.cells #[.slice pc1 (blkF s p.i p.bad).b.chs.length cc1, .slice ps1 (blkF s p.i p.bad).b.sts.length cs1, .int .u8 (blkF s p.i p.bad).b.e.op, .int .i64 (blkF s p.i p.bad).b.e.a.1, .int .i64 (blkF s p.i p.bad).b.e.a.2, .int .i64 (blkF s p.i p.bad).b.e.one.1, .int .i64 (blkF s p.i p.bad).b.e.one.2, .int .i64 (blkF s p.i p.bad).b.e.two.1, .int .i64 (blkF s p.i p.bad).b.e.two.2, .int .i64 (blkF s p.i p.bad).b.at_] 56)
      replace oc := (oc.keeps (Keeps.alloc _ T2 _ (.cells #[.slice pc1 (blkF s p.i p.bad).b.chs.length cc1, .slice ps1 (blkF s p.i p.bad).b.sts.length cs1, .int .u8 (blkF s p.i p.bad).b.e.op, .int .i64 (blkF s p.i p.bad).b.e.a.1, .int .i64 (blkF s p.i p.bad).b.e.a.2, .int .i64 (blkF s p.i p.bad).b.e.one.1, .int .i64 (blkF s p.i p.bad).b.e.one.2, .int .i64 (blkF s p.i p.bad).b.e.two.1, .int .i64 (blkF s p.i p.bad).b.e.two.2, .int .i64 (blkF s p.i p.bad).b.at_] 56)) (by simp [T2]) (by simp [T2]) (by simp [T2])).keeps (Keeps.alloc _ T2 _ (.cells #[.slice pc1 (blkF s p.i p.bad).b.chs.length cc1, .slice ps1 (blkF s p.i p.bad).b.sts.length cs1, .int .u8 (blkF s p.i p.bad).b.e.op, .int .i64 (blkF s p.i p.bad).b.e.a.1, .int .i64 (blkF s p.i p.bad).b.e.a.2, .int .i64 (blkF s p.i p.bad).b.e.one.1, .int .i64 (blkF s p.i p.bad).b.e.one.2, .int .i64 (blkF s p.i p.bad).b.e.two.1, .int .i64 (blkF s p.i p.bad).b.e.two.2, .int .i64 (blkF s p.i p.bad).b.at_] 56)) (by simp [T2]) (by simp [T2]) (by simp [T2])
      replace os := (os.alloc (.cells #[.slice pc1 (blkF s p.i p.bad).b.chs.length cc1, .slice ps1 (blkF s p.i p.bad).b.sts.length cs1, .int .u8 (blkF s p.i p.bad).b.e.op, .int .i64 (blkF s p.i p.bad).b.e.a.1, .int .i64 (blkF s p.i p.bad).b.e.a.2, .int .i64 (blkF s p.i p.bad).b.e.one.1, .int .i64 (blkF s p.i p.bad).b.e.one.2, .int .i64 (blkF s p.i p.bad).b.e.two.1, .int .i64 (blkF s p.i p.bad).b.e.two.2, .int .i64 (blkF s p.i p.bad).b.at_] 56)).alloc (.cells #[.slice pc1 (blkF s p.i p.bad).b.chs.length cc1, .slice ps1 (blkF s p.i p.bad).b.sts.length cs1, .int .u8 (blkF s p.i p.bad).b.e.op, .int .i64 (blkF s p.i p.bad).b.e.a.1, .int .i64 (blkF s p.i p.bad).b.e.a.2, .int .i64 (blkF s p.i p.bad).b.e.one.1, .int .i64 (blkF s p.i p.bad).b.e.one.2, .int .i64 (blkF s p.i p.bad).b.e.two.1, .int .i64 (blkF s p.i p.bad).b.e.two.2, .int .i64 (blkF s p.i p.bad).b.at_] 56)
      obtain ⟨us, O1, hAll⟩ := O
      refine app1 Try.underlying33 Try.info56 rfl (by decide) (by decide) rfl _ _ rfl rfl O1 gB rfl rfl (List.all_eq_true.1 rfl) (by omega) (by simp; omega) ?_
      intro v1 wS oS gS
      have K : Keeps (w.heap.size + 1) T2 _ wS := Keeps.grown O1 gS (by simp [T2])
      replace P1 := P1.grown gS (fun j hj => by have := (O1.lt j hj).1; omega)
      replace F := F.grown gS (fun j hj => by have := (O1.lt j hj).1; omega)
      have hz2 : w.heap.size + 1 ≤ wS.heap.size := by have := gS.size; simp at this; omega
      have OB : BlksOwn wS (w.heap.size + 1) (p.bs ++ [(blkF s p.i p.bad).b]) v1 := by
        refine ⟨us ++ [(.slice pc1 (blkF s p.i p.bad).b.chs.length cc1, .slice ps1 (blkF s p.i p.bad).b.sts.length cs1)], ?_, ?_⟩
        · rw [blkFlat_snoc _ _ hAll.len, List.length_append]; exact oS
        · exact BlkAll.snoc (oc.keeps K (by simp [T2]) (by simp [T2]) (by simp [T2])) (owns_keeps os K (by simp [T2])) (hAll.keeps K (by simp [T2]) (by simp [T2]) (by simp [T2]) (by simp [T2]))
      clear K O1 hAll gS oS gB oc os hz1
      obtain ⟨p5, c5, h5⟩ := OB.slice
      rw [List.length_append, List.length_singleton] at h5
      subst h5
      go_wp2_with fail
      refine (got_any _ s _ 124 _ _ P1 hs hg2).mono ?_
      rintro e w3 ⟨rfl, P3, f3⟩
      go_wp2_with fail
      go_roundw
      case rel =>
        refine ⟨_, k - 1, ⟨_, _, _⟩, rfl, gotI_le hg2, ?_, HR2, OB.keeps3 (Keeps.fr f3 (by omega)), P3, F.trans f3, Nat.le_trans hz2 f3.size⟩
        intro ha
        have h1 : gotI s (blkF s p.i p.bad).i (blkF s p.i p.bad).bad 124 = (blkF s p.i p.bad).i + 1 := by rw [gotI]; exact if_pos ha
        refine ⟨?_, ?_⟩
        · show s.size < k - 1 + gotI s (blkF s p.i p.bad).i (blkF s p.i p.bad).bad 124
          rw [h1]; omega
        · show (p.bs ++ [(blkF s p.i p.bad).b]).length ≤ gotI s (blkF s p.i p.bad).i (blkF s p.i p.bad).bad 124
          rw [h1]; simp; omega
      case measure =>
        rw [P3.penI, HPI.out]
        generalize blkF s p.i p.bad = d at *
        cases ha : onF s d.i d.bad 124 with
        | true =>
          have h3 := (onF_lt ha).2.1
          rw [gotI, if_pos ha]; simp only [flag]; omega
        | false =>
          rw [gotI, if_neg (by simp [ha])]; simp only [flag]; omega
    | false =>
      have HC : Hid (parF s = p) := HR
      obtain ⟨pl, cl, rfl⟩ := O.slice
      have h1 := P.c1
      by_cases hlt : p.i < s.size
      · have HB : Hid (parBad s = failB p.i p.bad) := by show parBad s = _; rw [parBad, HC.out, if_pos hlt]
        go_wp2_with fail
        refine (fail_any _ s _ _ _ P).mono ?_
        rintro e w1 ⟨rfl, P1, f1⟩
        have h2 := P1.c2
        replace O := O.keeps3 (Keeps.fr f1 (by omega))
        replace F := F.trans f1
        go_wp2
        go_quiet (fail)
        go_wp2
        go_ret2
        rw [HB.out, HC.out]
        exact ⟨_, rfl, BlksOwn.base (O.keeps3 (Keeps.drewN _ _)) (by omega), F.drewN _⟩
      · have HB : Hid (parBad s = p.bad) := by show parBad s = _; rw [parBad, HC.out, if_neg hlt]
        have h2 := P.c2
        go_wp2
        go_quiet (fail)
        go_wp2
        go_ret2
        rw [HB.out, HC.out]
        exact ⟨_, rfl, BlksOwn.base (O.keeps3 (Keeps.drewN _ _)) (by omega), F.drewN _⟩
end Go.Proofs.Ytjimoigbdcalpaa
