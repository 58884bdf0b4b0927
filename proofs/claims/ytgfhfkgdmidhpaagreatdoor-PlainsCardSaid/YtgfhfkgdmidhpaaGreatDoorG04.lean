import Derived.Test.YtgfhfkgdmidhpaaGreatDoorG03
namespace Go.Proofs.YtgfhfkgdmidhpaaGreatDoor
open Go.RowKit

def BlkAll (w : World) (base : Nat) : List RBlk → List (Value × Value) → Prop
  | [], [] => True
  | c :: cs, v :: vs => (ChsOwn w base c.chs v.1 ∧ w.ownsRow base 66 8 v.2 c.sts.length (c.sts.flatMap stepCells)) ∧ BlkAll w base cs vs
  | _, _ => False
def blkCell (c : RBlk) (v : Value × Value) : List Value := blkCells v.1 v.2 c.e c.at_
def blkFlat (cs : List RBlk) (vs : List (Value × Value)) : List Value := (List.zipWith blkCell cs vs).flatten
def BlksOwn (w : World) (base : Nat) (cs : List RBlk) (v : Value) : Prop := ∃ vs, w.ownsRow base 53 10 v cs.length (blkFlat cs vs) ∧ BlkAll w base cs vs
def T2 (e : TypeId) : Prop := e = 48 ∨ e = 49 ∨ e = 64 ∨ e = 66
def T3 (e : TypeId) : Prop := e = 48 ∨ e = 49 ∨ e = 64 ∨ e = 66 ∨ e = 53
theorem BlkAll.len {w base} : ∀ {cs vs}, BlkAll w base cs vs → vs.length = cs.length
  | [], [], _ => rfl
  | _ :: _, _ :: _, h => by simp [BlkAll.len h.2]
  | [], _ :: _, h => h.elim
  | _ :: _, [], h => h.elim
theorem BlkAll.keeps {w w' base} {T : TypeId → Prop} (k : Keeps base T w w') (h1 : T 49) (h2 : T 48) (h3 : T 64) (h4 : T 66) : ∀ {cs vs}, BlkAll w base cs vs → BlkAll w' base cs vs
  | [], [], _ => trivial
  | _ :: _, _ :: _, h => ⟨⟨h.1.1.keeps k h1 h2 h3, owns_keeps h.1.2 k h4⟩, BlkAll.keeps k h1 h2 h3 h4 h.2⟩
  | [], _ :: _, h => h.elim
  | _ :: _, [], h => h.elim
theorem BlkAll.snoc {w base c v} (h1 : ChsOwn w base c.chs v.1) (h2 : w.ownsRow base 66 8 v.2 c.sts.length (c.sts.flatMap stepCells)) : ∀ {cs vs}, BlkAll w base cs vs → BlkAll w base (cs ++ [c]) (vs ++ [v])
  | [], [], _ => ⟨⟨h1, h2⟩, trivial⟩
  | _ :: _, _ :: _, h => ⟨h.1, BlkAll.snoc h1 h2 h.2⟩
  | [], _ :: _, h => h.elim
  | _ :: _, [], h => h.elim
theorem BlkAll.base {w base base'} (hb : base' ≤ base) : ∀ {cs vs}, BlkAll w base cs vs → BlkAll w base' cs vs
  | [], [], _ => trivial
  | _ :: _, _ :: _, h => ⟨⟨h.1.1.base hb, owns_base h.1.2 hb⟩, BlkAll.base hb h.2⟩
  | [], _ :: _, h => h.elim
  | _ :: _, [], h => h.elim
theorem blkFlat_snoc {cs vs} (c v) (h : vs.length = cs.length) : blkFlat (cs ++ [c]) (vs ++ [v]) = blkFlat cs vs ++ blkCell c v := by
  simp [blkFlat, List.zipWith_append h.symm]
theorem BlksOwn.keeps {w w' base cs v} {T : TypeId → Prop} (h : BlksOwn w base cs v) (k : Keeps base T w w') (h1 : T 49) (h2 : T 48) (h3 : T 64) (h4 : T 66) (h5 : T 53) : BlksOwn w' base cs v := by
  obtain ⟨vs, a, b⟩ := h
  exact ⟨vs, owns_keeps a k h5, b.keeps k h1 h2 h3 h4⟩
theorem BlksOwn.keeps3 {w w' base cs v} (h : BlksOwn w base cs v) (k : Keeps base T3 w w') : BlksOwn w' base cs v :=
  h.keeps k (by simp [T3]) (by simp [T3]) (by simp [T3]) (by simp [T3]) (by simp [T3])
theorem BlksOwn.base {w base base' cs v} (h : BlksOwn w base cs v) (hb : base' ≤ base) : BlksOwn w base' cs v := by
  obtain ⟨vs, a, b⟩ := h
  exact ⟨vs, owns_base a hb, b.base hb⟩
theorem BlksOwn.slice {w base cs v} (h : BlksOwn w base cs v) : ∃ p c, v = .slice p cs.length c := by
  obtain ⟨vs, a, _⟩ := h; exact owns_slice2 a

theorem blkGo_ge {s i0} (k : Nat) : ∀ chs sts i bad, i ≤ (blkGo s i0 k chs sts i bad).i := by
  induction k with
  | zero => intro chs sts i bad; exact Nat.le_refl _
  | succ k ih =>
    intro chs sts i bad
    rw [blkGo]
    by_cases hb : bad < 0
    · rw [if_pos hb]
      by_cases h1 : onF s i bad 46 = true
      · rw [if_pos h1]; exact Nat.le_succ _
      rw [if_neg h1]
      by_cases h2 : onF s i bad 62 = true
      · rw [if_pos h2]; exact Nat.le_trans (Nat.le_succ _) numI_ge
      rw [if_neg h2]
      by_cases h3 : onF s i bad 33 = true
      · rw [if_pos h3]; exact Nat.le_trans (Nat.le_trans (Nat.le_succ _) (Nat.le_trans regI_ge gotI_ge)) (ih _ _ _ _)
      rw [if_neg h3]
      dsimp only
      by_cases h4 : onF s (regI s i bad) (regB s i bad) 61 = true
      · rw [if_pos h4]; exact Nat.le_trans (Nat.le_trans (Nat.le_trans regI_ge (Nat.le_succ _)) (Nat.le_trans givF_ge gotI_ge)) (ih _ _ _ _)
      rw [if_neg h4]
      by_cases h5 : (onF s (regI s i bad) (regB s i bad) 64 && sts.isEmpty) = true
      · rw [if_pos h5]; exact Nat.le_trans (Nat.le_trans regI_ge (Nat.le_trans (Nat.le_trans gotI_ge choF_ge) gotI_ge)) (ih _ _ _ _)
      rw [if_neg h5]
      exact Nat.le_trans regI_ge (Nat.le_trans gotI_ge (Nat.le_trans numI_ge (Nat.le_trans gotI_ge numI_ge)))
    · rw [if_neg hb]; exact Nat.le_refl _
theorem blkGo_le {s i0} (k : Nat) : ∀ chs sts i bad, i ≤ s.size → (blkGo s i0 k chs sts i bad).i ≤ s.size := by
  induction k with
  | zero => intro chs sts i bad h; exact h
  | succ k ih =>
    intro chs sts i bad h
    rw [blkGo]
    by_cases hb : bad < 0
    · rw [if_pos hb]
      by_cases h1 : onF s i bad 46 = true
      · rw [if_pos h1]; exact (onF_lt h1).2.1
      rw [if_neg h1]
      by_cases h2 : onF s i bad 62 = true
      · rw [if_pos h2]; exact numI_le (onF_lt h2).2.1
      rw [if_neg h2]
      by_cases h3 : onF s i bad 33 = true
      · rw [if_pos h3]; exact ih _ _ _ _ (gotI_le (regI_le (onF_lt h3).2.1))
      rw [if_neg h3]
      dsimp only
      by_cases h4 : onF s (regI s i bad) (regB s i bad) 61 = true
      · rw [if_pos h4]; exact ih _ _ _ _ (gotI_le (givF_le (onF_lt h4).2.1))
      rw [if_neg h4]
      by_cases h5 : (onF s (regI s i bad) (regB s i bad) 64 && sts.isEmpty) = true
      · rw [if_pos h5]; exact ih _ _ _ _ (gotI_le (choF_le (regI_le h)))
      rw [if_neg h5]
      exact numI_le (gotI_le (numI_le (gotI_le (regI_le h))))
    · rw [if_neg hb]; exact h
theorem blkF_ge {s i bad} : i ≤ (blkF s i bad).i := blkGo_ge _ _ _ _ _
theorem blkF_le {s i bad} (h : i ≤ s.size) : (blkF s i bad).i ≤ s.size := blkGo_le _ _ _ _ _ h

structure Par where
  bs : List RBlk
  i : Nat
  bad : Int
def parGo (s : ByteArray) : Nat → Par → Par
  | 0, p => p
  | k + 1, p =>
    let d := blkF s p.i p.bad
    let q : Par := ⟨p.bs ++ [d.b], gotI s d.i d.bad 124, d.bad⟩
    if onF s d.i d.bad 124 then parGo s k q else q
def parSt (s : ByteArray) (a : Bool) (k : Nat) (p : Par) : Par := if a then parGo s k p else p
theorem parSt_step {s k p} (hk : 0 < k) : parSt s true k p = parSt s (onF s (blkF s p.i p.bad).i (blkF s p.i p.bad).bad 124) (k - 1) ⟨p.bs ++ [(blkF s p.i p.bad).b], gotI s (blkF s p.i p.bad).i (blkF s p.i p.bad).bad 124, (blkF s p.i p.bad).bad⟩ := by
  obtain ⟨k, rfl⟩ : ∃ j, k = j + 1 := ⟨k - 1, by omega⟩
  simp only [parSt, if_true, parGo, Nat.add_sub_cancel]
def parF (s : ByteArray) : Par := parGo s (s.size + 1) ⟨[], 0, -1⟩
/-- The place at which a text breaks off; below 0: it does not. -/
def parBad (s : ByteArray) : Int := if (parF s).i < s.size then failB (parF s).i (parF s).bad else (parF s).bad
theorem Tryz.info53 : (Tryz.prog.info? 53).map (fun i => (i.zero, i.size, i.bytes)) = some (some (.agg #[.slice none 0 0, .slice none 0 0, .int .u8 0, .int .i64 0, .int .i64 0, .int .i64 0, .int .i64 0, .int .i64 0, .int .i64 0, .int .i64 0]), 10, 112) := by kernel_rfl
def flag2 : Value → Nat | .bool true => 1 | _ => 0

set_option maxRecDepth 100000 in
set_option maxHeartbeats 1000000 in
theorem parse_any (s : ByteArray) (w : World) (hs : s.size ≤ 200000) :
    Calls Tryz.prog 22 #[.string s] w fun e w' => ∃ v, e = .returned (.tuple #[v, .int .i64 (parBad s)]) ∧ BlksOwn w' w.heap.size (parF s).bs v ∧ Fr w.heap.size w w' := by
  go_enter Tryz.func22, Tryz.ntmps22
  go_wp2_with fail
  go_loopw [5, 6] (fun l ag wr => ∃ (a : Bool) (k : Nat) (p : Par), ag = .bool a ∧ p.i ≤ s.size ∧ (a = true → s.size < k + p.i ∧ p.bs.length ≤ p.i) ∧ Hid (parF s = parSt s a k p) ∧
      BlksOwn wr (w.heap.size + 1) p.bs l ∧ PenAt wr w.heap.size s p.i p.bad ∧ Fr w.heap.size w wr ∧ w.heap.size + 1 ≤ wr.heap.size)
    (fun _ ag wr => 2 * (s.size - penI wr w.heap.size) + flag ag)
  case atStart =>
    exact ⟨true, s.size + 1, ⟨[], 0, -1⟩, rfl, by simp, fun _ => ⟨by show _ < _; omega, by simp⟩, rfl, ⟨[], World.ownsRow_nil _ _ _ _, trivial⟩, ⟨_, heap_alloc_last w _⟩, (Fr.refl _ _).alloc _, by simp⟩
  case round =>
    obtain ⟨a, k, p, rfl, hpi, hab, HR, O, P, F, hz⟩ := hrel
    cases a with
    | true =>
      obtain ⟨hk, hbl⟩ := hab rfl
      clear hab
      have HR2 := stop (HR.out.trans (parSt_step (by omega)))
      have HPI : Hid (penI wr w.heap.size = p.i) := P.penI
      have hg1 := blkF_ge (s := s) (i := p.i) (bad := p.bad)
      have hg2 := blkF_le (bad := p.bad) hpi
      clear HR
      go_wp2_with fail
      refine (block_any _ s _ _ _ P hs hpi).mono ?_
      rintro e w1 ⟨vc, vs, rfl, oc, os, P1, f1⟩
      replace oc := oc.base hz
      replace os := owns_base os hz
      replace O := O.keeps3 (Keeps.fr f1 (by omega))
      replace F := F.trans f1
      have hz1 : w.heap.size + 1 ≤ w1.heap.size := Nat.le_trans hz f1.size
      obtain ⟨pc1, cc1, rfl⟩ := oc.slice
      obtain ⟨ps1, cs1, rfl⟩ := owns_slice2 os
      rw [show (blkCells (.slice pc1 (blkF s p.i p.bad).b.chs.length cc1) (.slice ps1 (blkF s p.i p.bad).b.sts.length cs1) (blkF s p.i p.bad).b.e (blkF s p.i p.bad).b.at_).toArray = #[.slice pc1 (blkF s p.i p.bad).b.chs.length cc1, .slice ps1 (blkF s p.i p.bad).b.sts.length cs1, .int .u8 (blkF s p.i p.bad).b.e.op, .int .i64 (blkF s p.i p.bad).b.e.a.1, .int .i64 (blkF s p.i p.bad).b.e.a.2, .int .i64 (blkF s p.i p.bad).b.e.one.1, .int .i64 (blkF s p.i p.bad).b.e.one.2, .int .i64 (blkF s p.i p.bad).b.e.two.1, .int .i64 (blkF s p.i p.bad).b.e.two.2, .int .i64 (blkF s p.i p.bad).b.at_] from rfl]
      obtain ⟨pl, cl, rfl⟩ := O.slice
      clear f1 P hz
      go_wp2_with (at_builtin; refine unstop ?_)
      refine stop ?_
      have W0 := heap_alloc_last (w1.alloc (.cells #[.slice pc1 (blkF s p.i p.bad).b.chs.length cc1, .slice ps1 (blkF s p.i p.bad).b.sts.length cs1, .int .u8 (blkF s p.i p.bad).b.e.op, .int .i64 (blkF s p.i p.bad).b.e.a.1, .int .i64 (blkF s p.i p.bad).b.e.a.2, .int .i64 (blkF s p.i p.bad).b.e.one.1, .int .i64 (blkF s p.i p.bad).b.e.one.2, .int .i64 (blkF s p.i p.bad).b.e.two.1, .int .i64 (blkF s p.i p.bad).b.e.two.2, .int .i64 (blkF s p.i p.bad).b.at_] 53)) (.cells #[.slice pc1 (blkF s p.i p.bad).b.chs.length cc1, .slice ps1 (blkF s p.i p.bad).b.sts.length cs1, .int .u8 (blkF s p.i p.bad).b.e.op, .int .i64 (blkF s p.i p.bad).b.e.a.1, .int .i64 (blkF s p.i p.bad).b.e.a.2, .int .i64 (blkF s p.i p.bad).b.e.one.1, .int .i64 (blkF s p.i p.bad).b.e.one.2, .int .i64 (blkF s p.i p.bad).b.e.two.1, .int .i64 (blkF s p.i p.bad).b.e.two.2, .int .i64 (blkF s p.i p.bad).b.at_] 53)
      have gB : ((w1.alloc (.cells #[.slice pc1 (blkF s p.i p.bad).b.chs.length cc1, .slice ps1 (blkF s p.i p.bad).b.sts.length cs1, .int .u8 (blkF s p.i p.bad).b.e.op, .int .i64 (blkF s p.i p.bad).b.e.a.1, .int .i64 (blkF s p.i p.bad).b.e.a.2, .int .i64 (blkF s p.i p.bad).b.e.one.1, .int .i64 (blkF s p.i p.bad).b.e.one.2, .int .i64 (blkF s p.i p.bad).b.e.two.1, .int .i64 (blkF s p.i p.bad).b.e.two.2, .int .i64 (blkF s p.i p.bad).b.at_] 53)).alloc (.cells #[.slice pc1 (blkF s p.i p.bad).b.chs.length cc1, .slice ps1 (blkF s p.i p.bad).b.sts.length cs1, .int .u8 (blkF s p.i p.bad).b.e.op, .int .i64 (blkF s p.i p.bad).b.e.a.1, .int .i64 (blkF s p.i p.bad).b.e.a.2, .int .i64 (blkF s p.i p.bad).b.e.one.1, .int .i64 (blkF s p.i p.bad).b.e.one.2, .int .i64 (blkF s p.i p.bad).b.e.two.1, .int .i64 (blkF s p.i p.bad).b.e.two.2, .int .i64 (blkF s p.i p.bad).b.at_] 53)).heap[w1.heap.size + 1]? = some (.cells #[.slice pc1 (blkF s p.i p.bad).b.chs.length cc1, .slice ps1 (blkF s p.i p.bad).b.sts.length cs1, .int .u8 (blkF s p.i p.bad).b.e.op, .int .i64 (blkF s p.i p.bad).b.e.a.1, .int .i64 (blkF s p.i p.bad).b.e.a.2, .int .i64 (blkF s p.i p.bad).b.e.one.1, .int .i64 (blkF s p.i p.bad).b.e.one.2, .int .i64 (blkF s p.i p.bad).b.e.two.1, .int .i64 (blkF s p.i p.bad).b.e.two.2, .int .i64 (blkF s p.i p.bad).b.at_] 53 (0, 0)) := by simpa using W0
      clear W0
      replace O := (O.keeps3 (Keeps.alloc _ _ _ (.cells #[.slice pc1 (blkF s p.i p.bad).b.chs.length cc1, .slice ps1 (blkF s p.i p.bad).b.sts.length cs1, .int .u8 (blkF s p.i p.bad).b.e.op, .int .i64 (blkF s p.i p.bad).b.e.a.1, .int .i64 (blkF s p.i p.bad).b.e.a.2, .int .i64 (blkF s p.i p.bad).b.e.one.1, .int .i64 (blkF s p.i p.bad).b.e.one.2, .int .i64 (blkF s p.i p.bad).b.e.two.1, .int .i64 (blkF s p.i p.bad).b.e.two.2, .int .i64 (blkF s p.i p.bad).b.at_] 53))).keeps3 (Keeps.alloc _ _ _ (.cells #[.slice pc1 (blkF s p.i p.bad).b.chs.length cc1, .slice ps1 (blkF s p.i p.bad).b.sts.length cs1, .int .u8 (blkF s p.i p.bad).b.e.op, .int .i64 (blkF s p.i p.bad).b.e.a.1, .int .i64 (blkF s p.i p.bad).b.e.a.2, .int .i64 (blkF s p.i p.bad).b.e.one.1, .int .i64 (blkF s p.i p.bad).b.e.one.2, .int .i64 (blkF s p.i p.bad).b.e.two.1, .int .i64 (blkF s p.i p.bad).b.e.two.2, .int .i64 (blkF s p.i p.bad).b.at_] 53))
      replace P1 := (P1.alloc (.cells #[.slice pc1 (blkF s p.i p.bad).b.chs.length cc1, .slice ps1 (blkF s p.i p.bad).b.sts.length cs1, .int .u8 (blkF s p.i p.bad).b.e.op, .int .i64 (blkF s p.i p.bad).b.e.a.1, .int .i64 (blkF s p.i p.bad).b.e.a.2, .int .i64 (blkF s p.i p.bad).b.e.one.1, .int .i64 (blkF s p.i p.bad).b.e.one.2, .int .i64 (blkF s p.i p.bad).b.e.two.1, .int .i64 (blkF s p.i p.bad).b.e.two.2, .int .i64 (blkF s p.i p.bad).b.at_] 53)).alloc (.cells #[.slice pc1 (blkF s p.i p.bad).b.chs.length cc1, .slice ps1 (blkF s p.i p.bad).b.sts.length cs1, .int .u8 (blkF s p.i p.bad).b.e.op, .int .i64 (blkF s p.i p.bad).b.e.a.1, .int .i64 (blkF s p.i p.bad).b.e.a.2, .int .i64 (blkF s p.i p.bad).b.e.one.1, .int .i64 (blkF s p.i p.bad).b.e.one.2, .int .i64 (blkF s p.i p.bad).b.e.two.1, .int .i64 (blkF s p.i p.bad).b.e.two.2, .int .i64 (blkF s p.i p.bad).b.at_] 53)
      replace F := (F.alloc (.cells #[.slice pc1 (blkF s p.i p.bad).b.chs.length cc1, .slice ps1 (blkF s p.i p.bad).b.sts.length cs1, .int .u8 (blkF s p.i p.bad).b.e.op, .int .i64 (blkF s p.i p.bad).b.e.a.1, .int .i64 (blkF s p.i p.bad).b.e.a.2, .int .i64 (blkF s p.i p.bad).b.e.one.1, .int .i64 (blkF s p.i p.bad).b.e.one.2, .int .i64 (blkF s p.i p.bad).b.e.two.1, .int .i64 (blkF s p.i p.bad).b.e.two.2, .int .i64 (blkF s p.i p.bad).b.at_] 53)).alloc (.cells #[.slice pc1 (blkF s p.i p.bad).b.chs.length cc1, .slice ps1 (blkF s p.i p.bad).b.sts.length cs1, .int .u8 (blkF s p.i p.bad).b.e.op, .int .i64 (blkF s p.i p.bad).b.e.a.1, .int .i64 (blkF s p.i p.bad).b.e.a.2, .int .i64 (blkF s p.i p.bad).b.e.one.1, .int .i64 (blkF s p.i p.bad).b.e.one.2, .int .i64 (blkF s p.i p.bad).b.e.two.1, .int .i64 (blkF s p.i p.bad).b.e.two.2, .int .i64 (blkF s p.i p.bad).b.at_] 53)
      replace oc := (oc.keeps (Keeps.alloc _ T2 _ (.cells #[.slice pc1 (blkF s p.i p.bad).b.chs.length cc1, .slice ps1 (blkF s p.i p.bad).b.sts.length cs1, .int .u8 (blkF s p.i p.bad).b.e.op, .int .i64 (blkF s p.i p.bad).b.e.a.1, .int .i64 (blkF s p.i p.bad).b.e.a.2, .int .i64 (blkF s p.i p.bad).b.e.one.1, .int .i64 (blkF s p.i p.bad).b.e.one.2, .int .i64 (blkF s p.i p.bad).b.e.two.1, .int .i64 (blkF s p.i p.bad).b.e.two.2, .int .i64 (blkF s p.i p.bad).b.at_] 53)) (by simp [T2]) (by simp [T2]) (by simp [T2])).keeps (Keeps.alloc _ T2 _ (.cells #[.slice pc1 (blkF s p.i p.bad).b.chs.length cc1, .slice ps1 (blkF s p.i p.bad).b.sts.length cs1, .int .u8 (blkF s p.i p.bad).b.e.op, .int .i64 (blkF s p.i p.bad).b.e.a.1, .int .i64 (blkF s p.i p.bad).b.e.a.2, .int .i64 (blkF s p.i p.bad).b.e.one.1, .int .i64 (blkF s p.i p.bad).b.e.one.2, .int .i64 (blkF s p.i p.bad).b.e.two.1, .int .i64 (blkF s p.i p.bad).b.e.two.2, .int .i64 (blkF s p.i p.bad).b.at_] 53)) (by simp [T2]) (by simp [T2]) (by simp [T2])
      replace os := (os.alloc (.cells #[.slice pc1 (blkF s p.i p.bad).b.chs.length cc1, .slice ps1 (blkF s p.i p.bad).b.sts.length cs1, .int .u8 (blkF s p.i p.bad).b.e.op, .int .i64 (blkF s p.i p.bad).b.e.a.1, .int .i64 (blkF s p.i p.bad).b.e.a.2, .int .i64 (blkF s p.i p.bad).b.e.one.1, .int .i64 (blkF s p.i p.bad).b.e.one.2, .int .i64 (blkF s p.i p.bad).b.e.two.1, .int .i64 (blkF s p.i p.bad).b.e.two.2, .int .i64 (blkF s p.i p.bad).b.at_] 53)).alloc (.cells #[.slice pc1 (blkF s p.i p.bad).b.chs.length cc1, .slice ps1 (blkF s p.i p.bad).b.sts.length cs1, .int .u8 (blkF s p.i p.bad).b.e.op, .int .i64 (blkF s p.i p.bad).b.e.a.1, .int .i64 (blkF s p.i p.bad).b.e.a.2, .int .i64 (blkF s p.i p.bad).b.e.one.1, .int .i64 (blkF s p.i p.bad).b.e.one.2, .int .i64 (blkF s p.i p.bad).b.e.two.1, .int .i64 (blkF s p.i p.bad).b.e.two.2, .int .i64 (blkF s p.i p.bad).b.at_] 53)
      obtain ⟨us, O1, hAll⟩ := O
      refine app1 Tryz.underlying26 Tryz.info53 rfl (by decide) (by decide) rfl _ _ rfl rfl O1 gB rfl rfl (List.all_eq_true.1 rfl) (by omega) (by simp; omega) ?_
      intro v1 wS oS gS
      have K : Keeps (w.heap.size + 1) T2 _ wS := Keeps.grown O1 gS (by simp [T2])
      replace P1 := P1.grown gS (fun j hj => by have := (O1.lt j hj).1; omega)
      replace F := F.grown gS (fun j hj => by have := (O1.lt j hj).1; omega)
      have hz2 : w.heap.size + 1 ≤ wS.heap.size := by have := gS.size; simp at this; omega
      have OB : BlksOwn wS (w.heap.size + 1) (p.bs ++ [(blkF s p.i p.bad).b]) v1 := by
        refine ⟨us ++ [(.slice pc1 (blkF s p.i p.bad).b.chs.length cc1, .slice ps1 (blkF s p.i p.bad).b.sts.length cs1)], ?_, ?_⟩
        · rw [blkFlat_snoc _ _ hAll.len, List.length_append]; exact oS
        · exact BlkAll.snoc (oc.keeps K (by simp [T2]) (by simp [T2]) (by simp [T2])) (owns_keeps os K (by simp [T2])) (hAll.keeps K (by simp [T2]) (by simp [T2]) (by simp [T2]) (by simp [T2]))
      clear K O1 hAll gS oS gB oc os hz1
      obtain ⟨p5, c5, h5⟩ := OB.slice
      rw [List.length_append, List.length_singleton] at h5
      subst h5
      go_wp2_with fail
      refine (got_any _ s _ 124 _ _ P1 hs hg2).mono ?_
      rintro e w3 ⟨rfl, P3, f3⟩
      go_wp2_with fail
      go_roundw
      case rel =>
        refine ⟨_, k - 1, ⟨_, _, _⟩, rfl, gotI_le hg2, ?_, HR2, OB.keeps3 (Keeps.fr f3 (by omega)), P3, F.trans f3, Nat.le_trans hz2 f3.size⟩
        intro ha
        have h1 : gotI s (blkF s p.i p.bad).i (blkF s p.i p.bad).bad 124 = (blkF s p.i p.bad).i + 1 := by rw [gotI]; exact if_pos ha
        refine ⟨?_, ?_⟩
        · show s.size < k - 1 + gotI s (blkF s p.i p.bad).i (blkF s p.i p.bad).bad 124
          rw [h1]; omega
        · show (p.bs ++ [(blkF s p.i p.bad).b]).length ≤ gotI s (blkF s p.i p.bad).i (blkF s p.i p.bad).bad 124
          rw [h1]; simp; omega
      case measure =>
        rw [P3.penI, HPI.out]
        generalize blkF s p.i p.bad = d at *
        cases ha : onF s d.i d.bad 124 with
        | true =>
          have h3 := (onF_lt ha).2.1
          rw [gotI, if_pos ha]; simp only [flag]; omega
        | false =>
          rw [gotI, if_neg (by simp [ha])]; simp only [flag]; omega
    | false =>
      have HC : Hid (parF s = p) := HR
      obtain ⟨pl, cl, rfl⟩ := O.slice
      have h1 := P.c1
      by_cases hlt : p.i < s.size
      · have HB : Hid (parBad s = failB p.i p.bad) := by show parBad s = _; rw [parBad, HC.out, if_pos hlt]
        go_wp2_with fail
        refine (fail_any _ s _ _ _ P).mono ?_
        rintro e w1 ⟨rfl, P1, f1⟩
        have h2 := P1.c2
        replace O := O.keeps3 (Keeps.fr f1 (by omega))
        replace F := F.trans f1
        go_wp2
        go_quiet (fail)
        go_wp2
        go_ret2
        rw [HB.out, HC.out]
        exact ⟨_, rfl, BlksOwn.base (O.keeps3 (Keeps.drewN _ _)) (by omega), F.drewN _⟩
      · have HB : Hid (parBad s = p.bad) := by show parBad s = _; rw [parBad, HC.out, if_neg hlt]
        have h2 := P.c2
        go_wp2
        go_quiet (fail)
        go_wp2
        go_ret2
        rw [HB.out, HC.out]
        exact ⟨_, rfl, BlksOwn.base (O.keeps3 (Keeps.drewN _ _)) (by omega), F.drewN _⟩
end Go.Proofs.YtgfhfkgdmidhpaaGreatDoor

namespace Go.Proofs.YtgfhfkgdmidhpaaGreatDoor
open Go.RowKit

def goalsF (e : REnd) : List (Nat × Nat) := if e.op = 62 then [e.one] else if e.op = 63 then [e.one, e.two] else []

theorem Below.fresh {w w' : World} (h : Below w.heap.size w w') : Fr w.heap.size w w' := ⟨h.os, h.tape, h.output, h.size, fun k hk _ => h.block k hk⟩
theorem Keeps.below {base : Nat} {T : TypeId → Prop} {w w' : World} (h : Below w.heap.size w w') : Keeps base T w w' := fun g c e _ _ hh => by
  rw [h.block g (lt_of_block hh)]; exact hh

theorem owns_new (w : World) (base : Nat) (e : TypeId) (size n : Nat) (cur : Array Value) (hb : base ≤ w.heap.size) (hs : cur.size = n * size) (hn : n ≤ maxLen) :
    (w.alloc (.cells cur e)).ownsRow base e size (.slice (some ⟨w.heap.size, 0, none⟩) n n) n cur.toList :=
  ⟨by simpa using hs, .inr ⟨w.heap.size, n, cur, rfl, hb, heap_alloc_last w _, Nat.le_refl _, hn, hs, by rw [← hs, ← Array.length_toList, List.take_length]⟩⟩
theorem owns_cell {w : World} {base e size n xs g cap} (h : w.ownsRow base e size (.slice (some ⟨g, 0, none⟩) n cap) n xs) {j : Nat} {u : Value} (hj : xs[j]? = some u) : w.cell? ⟨g, j, none⟩ = some u := by
  have := h.cells (g := g) rfl j u hj
  by_cases h0 : j = 0
  · subst h0; simpa [Addr.add] using this
  · simpa [Addr.add, h0] using this
theorem owns_form {w : World} {base e size p n cap xs} (h : w.ownsRow base e size (.slice p n cap) n xs) (hn : 0 < n) : ∃ g, p = some ⟨g, 0, none⟩ ∧ base ≤ g ∧ g < w.heap.size := by
  rcases h.2 with ⟨h0, h1⟩ | ⟨g, cap, cur, hv, hb, hc, _⟩
  · omega
  · cases hv; exact ⟨g, rfl, hb, lt_of_block hc⟩

set_option maxRecDepth 100000 in
set_option maxHeartbeats 400000 in
theorem goals_any (pc : Option Addr) (mc cc : Nat) (ps : Option Addr) (ms cs : Nat) (e : REnd) (at_ : Nat) (w : World) :
    Calls Tryz.prog 51 #[.agg #[.slice pc mc cc, .slice ps ms cs, .int .u8 e.op, .int .i64 e.a.1, .int .i64 e.a.2, .int .i64 e.one.1, .int .i64 e.one.2, .int .i64 e.two.1, .int .i64 e.two.2, .int .i64 at_]] w
      fun x w' => ∃ v, x = .returned v ∧ w'.ownsRow w.heap.size 49 2 v (goalsF e).length (pcs (goalsF e)) ∧ Below w.heap.size w w' := by
  by_cases h1 : e.op = 62
  · have HG : Hid (goalsF e = [e.one]) := by simp [Hid, goalsF, h1]
    have h1' : ((e.op : Int) == 62) = true := by simp; omega
    clear h1
    go_enter Tryz.func51, Tryz.ntmps51
    go_wp2
    go_ret
    rw [HG.out]
    refine ⟨_, rfl, ?_, ((Below.refl _ _).alloc (Nat.le_refl _) _).alloc (by simp) _⟩
    have ON := owns_new (w.alloc (.cells #[.slice pc mc cc, .slice ps ms cs, .int .u8 e.op, .int .i64 e.a.1, .int .i64 e.a.2, .int .i64 e.one.1, .int .i64 e.one.2, .int .i64 e.two.1, .int .i64 e.two.2, .int .i64 at_] 53)) w.heap.size 49 2 1 #[.int .i64 e.one.1, .int .i64 e.one.2] (by simp) rfl (by decide)
    rw [World.size_alloc] at ON
    exact ON
  · by_cases h2 : e.op = 63
    · have HG : Hid (goalsF e = [e.one, e.two]) := by simp [Hid, goalsF, h2]
      have h1' : ((e.op : Int) == 62) = false := by simp; omega
      have h2' : ((e.op : Int) == 63) = true := by simp; omega
      clear h1 h2
      go_enter Tryz.func51, Tryz.ntmps51
      go_wp2
      go_ret
      rw [HG.out]
      refine ⟨_, rfl, ?_, ((Below.refl _ _).alloc (Nat.le_refl _) _).alloc (by simp) _⟩
      have ON := owns_new (w.alloc (.cells #[.slice pc mc cc, .slice ps ms cs, .int .u8 e.op, .int .i64 e.a.1, .int .i64 e.a.2, .int .i64 e.one.1, .int .i64 e.one.2, .int .i64 e.two.1, .int .i64 e.two.2, .int .i64 at_] 53)) w.heap.size 49 2 2 #[.int .i64 e.one.1, .int .i64 e.one.2, .int .i64 e.two.1, .int .i64 e.two.2] (by simp) rfl (by decide)
      rw [World.size_alloc] at ON
      exact ON
    · have HG : Hid (goalsF e = []) := by simp [Hid, goalsF, h1, h2]
      have h1' : ((e.op : Int) == 62) = false := by simp; omega
      have h2' : ((e.op : Int) == 63) = false := by simp; omega
      clear h1 h2
      go_enter Tryz.func51, Tryz.ntmps51
      go_wp2
      go_ret
      rw [HG.out]
      exact ⟨_, rfl, World.ownsRow_nil _ _ _ _, (Below.refl _ _).alloc (Nat.le_refl _) _⟩

def hasF (l : List Nat) (n : Nat) : Bool := l.contains n
def icell (l : List Nat) : List Value := l.map fun (n : Nat) => Value.int .i64 n

set_option maxRecDepth 100000 in
set_option maxHeartbeats 400000 in
theorem has_any (l : List Nat) (n : Nat) (base : Nat) (v : Value) (w : World) (h : w.ownsRow base 3 1 v l.length (icell l)) (hl : l.length ≤ 1000000) :
    Calls Tryz.prog 31 #[v, .int .i64 n] w fun x w' => x = .returned (.bool (hasF l n)) ∧ w' = w := by
  obtain ⟨p, c, rfl⟩ := owns_slice2 h
  go_enter Tryz.func31, Tryz.ntmps31
  go_wp2_with fail
  go_loop [5] (fun i => ∃ k : Nat, k ≤ l.length ∧ i = .int .i64 k ∧ ∀ j, j < k → Hid (l[j]? ≠ some n)) (fun i => l.length - (intOf i).toNat)
  case atStart => exact ⟨0, by omega, rfl, fun j h => by omega⟩
  case round =>
    obtain ⟨k, hk, rfl, HN⟩ := hrel
    by_cases hlt : k < l.length
    · obtain ⟨g, rfl, _, _⟩ := owns_form h (by omega)
      have hc := owns_cell h (j := k) (u := .int .i64 l[k]) (by simp [icell, hlt])
      by_cases he : l[k] = n
      · have he' : ((l[k] : Int) == (n : Int)) = true := by simp; omega
        have HR : Hid (hasF l n = true) := by
          show l.contains n = true
          rw [List.contains_iff_mem, ← he]; exact List.getElem_mem hlt
        clear he
        go_wp2_with fail
        go_ret
        exact ⟨by rw [HR.out]; rfl, rfl⟩
      · have he' : ((l[k] : Int) == (n : Int)) = false := by simp; omega
        have HN2 : ∀ j, j < k + 1 → Hid (l[j]? ≠ some n) := fun j hj => by
          rcases Nat.lt_succ_iff_lt_or_eq.1 hj with h | rfl
          · exact HN j h
          · show _ ≠ _; simp [hlt, he]
        clear he
        go_wp2_with fail
        go_round
        case rel => exact ⟨k + 1, by omega, by go_num, HN2⟩
        case measure => simp [intOf]; omega
    · have HR : Hid (hasF l n = false) := by
        show l.contains n = false
        rw [← Bool.not_eq_true, List.contains_iff_mem]
        intro hm
        obtain ⟨j, hj, he⟩ := List.mem_iff_getElem.1 hm
        exact (HN j (by omega)).out (by simp [hj, he])
      go_wp2_with fail
      go_ret
      exact ⟨by rw [HR.out]; rfl, rfl⟩
end Go.Proofs.YtgfhfkgdmidhpaaGreatDoor

namespace Go.Proofs.YtgfhfkgdmidhpaaGreatDoor
open Go.RowKit

def behF (gl : List (Nat × Nat)) : List Nat := match gl with
  | [] => []
  | [x] => [x.1]
  | x :: y :: _ => if y.1 = x.1 then [x.1] else [x.1, y.1]
def behTo (gl : List (Nat × Nat)) (k : Nat) : List Nat := behF (gl.take k)
theorem goalsF_le (e : REnd) : (goalsF e).length ≤ 2 := by
  unfold goalsF
  by_cases h1 : e.op = 62
  · simp [h1]
  · by_cases h2 : e.op = 63 <;> simp [h1, h2]
theorem Tryz.info3 : (Tryz.prog.info? 3).map (fun i => (i.zero, i.size, i.bytes)) = some (some (.int .i64 0), 1, 8) := by kernel_rfl

set_option maxRecDepth 100000 in
set_option maxHeartbeats 400000 in
theorem behind_any (qc : Option Addr) (mc cc : Nat) (ps : Option Addr) (ms cs : Nat) (e : REnd) (at_ : Nat) (w : World) :
    Calls Tryz.prog 56 #[.agg #[.slice qc mc cc, .slice ps ms cs, .int .u8 e.op, .int .i64 e.a.1, .int .i64 e.a.2, .int .i64 e.one.1, .int .i64 e.one.2, .int .i64 e.two.1, .int .i64 e.two.2, .int .i64 at_]] w
      fun x w' => ∃ v, x = .returned v ∧ w'.ownsRow w.heap.size 3 1 v (behF (goalsF e)).length (icell (behF (goalsF e))) ∧ Below w.heap.size w w' := by
  have hgl := goalsF_le e
  go_enter Tryz.func56, Tryz.ntmps56
  go_wp2_with fail
  refine (goals_any qc mc cc ps ms cs e at_ _).mono ?_
  rintro x w1 ⟨vg, rfl, OG, f1⟩
  have F : Below w.heap.size w w1 := ((Below.refl _ _).alloc (Nat.le_refl _) _).trans (f1.mono (by simp))
  rw [World.size_alloc] at OG
  have hz : w.heap.size + 1 ≤ w1.heap.size := by simpa using f1.size
  clear f1
  generalize hgl2 : goalsF e = gl at *
  have HGL := stop hgl2
  clear hgl2
  obtain ⟨pg, cg, rfl⟩ := owns_slice2 OG
  go_wp2_with fail
  go_loopw [3, 5] (fun l i wr => ∃ k : Nat, k ≤ gl.length ∧ i = .int .i64 k ∧ wr.ownsRow (w.heap.size + 1) 3 1 l (behTo gl k).length (icell (behTo gl k)) ∧ wr.ownsRow (w.heap.size + 1) 49 2 (.slice pg gl.length cg) gl.length (pcs gl) ∧ Below w.heap.size w wr ∧ w.heap.size + 1 ≤ wr.heap.size) (fun _ i _ => gl.length - (intOf i).toNat)
  case atStart => exact ⟨0, by omega, rfl, World.ownsRow_nil _ _ _ _, OG, F, hz⟩
  case round =>
    clear OG F hz
    obtain ⟨k, hk, rfl, OL, OG, F, hz⟩ := hrel
    obtain ⟨pl, cl, rfl⟩ := owns_slice2 OL
    by_cases hlt : k < gl.length
    · obtain ⟨gg, rfl, hgb, hgs⟩ := owns_form OG (by omega)
      match gl, k, hgl, hk, hlt with
      | [x], 0, _, _, _ =>
        have c0 := owns_cell OG (j := 0) (u := .int .i64 x.1) (by simp [pcs, pc])
        have hd : ((0 : Int) == 0) = true := rfl
        go_wp2_with fail
        go_quiet (fail)
        go_wp2_with (at_builtin; refine unstop ?_)
        refine stop ?_
        have gB := heap_alloc_last (wr.drewN nq) (.cells #[.int .i64 x.1] 3)
        replace OL : ((wr.drewN nq).alloc (.cells #[.int .i64 x.1] 3)).ownsRow _ 3 1 _ _ _ := (owns_keeps OL (Keeps.drewN (T := fun _ => True) wr nq) trivial).alloc (.cells #[.int .i64 x.1] 3)
        replace OG : ((wr.drewN nq).alloc (.cells #[.int .i64 x.1] 3)).ownsRow _ 49 2 _ _ _ := (owns_keeps OG (Keeps.drewN (T := fun _ => True) wr nq) trivial).alloc (.cells #[.int .i64 x.1] 3)
        refine app1 Tryz.underlying22 Tryz.info3 rfl (by decide) (by decide) rfl _ _ rfl rfl OL gB rfl rfl (List.all_eq_true.1 rfl) (by simp [behTo, behF]) (by simp; omega) ?_
        intro v1 wS oS gS
        replace OG := owns_keeps OG (Keeps.grown (T := fun x => x = 49) OL gS (by simp)) rfl
        replace F := Below.grown ((below_drewN F nq).alloc (by simp; omega) (.cells #[.int .i64 x.1] 3)) gS (by simp; omega) (fun j hj => by have := (OL.lt j hj).1; omega)
        have hz2 : w.heap.size + 1 ≤ wS.heap.size := by have := gS.size; simp at this; omega
        clear gS OL gB
        obtain ⟨p5, c5, rfl⟩ := owns_slice2 oS
        go_wp2_with fail
        go_roundw
        case rel => exact ⟨1, by simp, rfl, by simpa [behTo, behF, icell] using oS, OG⟩
        case measure => simp [intOf]
      | [x, y], 0, _, _, _ =>
        have c0 := owns_cell OG (j := 0) (u := .int .i64 x.1) (by simp [pcs, pc])
        have hd : ((0 : Int) == 0) = true := rfl
        go_wp2_with fail
        go_quiet (fail)
        go_wp2_with (at_builtin; refine unstop ?_)
        refine stop ?_
        have gB := heap_alloc_last (wr.drewN nq) (.cells #[.int .i64 x.1] 3)
        replace OL : ((wr.drewN nq).alloc (.cells #[.int .i64 x.1] 3)).ownsRow _ 3 1 _ _ _ := (owns_keeps OL (Keeps.drewN (T := fun _ => True) wr nq) trivial).alloc (.cells #[.int .i64 x.1] 3)
        replace OG : ((wr.drewN nq).alloc (.cells #[.int .i64 x.1] 3)).ownsRow _ 49 2 _ _ _ := (owns_keeps OG (Keeps.drewN (T := fun _ => True) wr nq) trivial).alloc (.cells #[.int .i64 x.1] 3)
        refine app1 Tryz.underlying22 Tryz.info3 rfl (by decide) (by decide) rfl _ _ rfl rfl OL gB rfl rfl (List.all_eq_true.1 rfl) (by simp [behTo, behF]) (by simp; omega) ?_
        intro v1 wS oS gS
        replace OG := owns_keeps OG (Keeps.grown (T := fun x => x = 49) OL gS (by simp)) rfl
        replace F := Below.grown ((below_drewN F nq).alloc (by simp; omega) (.cells #[.int .i64 x.1] 3)) gS (by simp; omega) (fun j hj => by have := (OL.lt j hj).1; omega)
        have hz2 : w.heap.size + 1 ≤ wS.heap.size := by have := gS.size; simp at this; omega
        clear gS OL gB
        obtain ⟨p5, c5, rfl⟩ := owns_slice2 oS
        go_wp2_with fail
        go_roundw
        case rel => exact ⟨1, by simp, rfl, by simpa [behTo, behF, icell] using oS, OG⟩
        case measure => simp [intOf]
      | [x, y], 1, _, _, _ =>
        have c0 := owns_cell OG (j := 0) (u := .int .i64 x.1) (by simp [pcs, pc])
        have c2 := owns_cell OG (j := 2) (u := .int .i64 y.1) (by simp [pcs, pc])
        by_cases hxy : y.1 = x.1
        · have hn : ((y.1 : Int) != (x.1 : Int)) = false := by simp; omega
          have HXY := stop hxy
          clear hxy
          go_wp2_with fail
          go_quiet (fail)
          go_wp2_with fail
          go_roundw
          case rel => exact ⟨2, by simp, rfl, by simpa [behTo, behF, icell, HXY.out] using (owns_keeps OL (Keeps.drewN (T := fun _ => True) wr nq) trivial), owns_keeps OG (Keeps.drewN (T := fun _ => True) wr nq) trivial, below_drewN F nq, hz⟩
          case measure => simp [intOf]
        · have hn : ((y.1 : Int) != (x.1 : Int)) = true := by simp; omega
          go_wp2_with fail
          go_quiet (fail)
          go_wp2_with (at_builtin; refine unstop ?_)
          refine stop ?_
          have gB := heap_alloc_last (wr.drewN nq) (.cells #[.int .i64 y.1] 3)
          replace OL : ((wr.drewN nq).alloc (.cells #[.int .i64 y.1] 3)).ownsRow _ 3 1 _ _ _ := (owns_keeps OL (Keeps.drewN (T := fun _ => True) wr nq) trivial).alloc (.cells #[.int .i64 y.1] 3)
          replace OG : ((wr.drewN nq).alloc (.cells #[.int .i64 y.1] 3)).ownsRow _ 49 2 _ _ _ := (owns_keeps OG (Keeps.drewN (T := fun _ => True) wr nq) trivial).alloc (.cells #[.int .i64 y.1] 3)
          refine app1 Tryz.underlying22 Tryz.info3 rfl (by decide) (by decide) rfl _ _ rfl rfl OL gB rfl rfl (List.all_eq_true.1 rfl) (by simp [behTo, behF]) (by simp; omega) ?_
          intro v1 wS oS gS
          replace OG := owns_keeps OG (Keeps.grown (T := fun x => x = 49) OL gS (by simp)) rfl
          replace F := Below.grown ((below_drewN F nq).alloc (by simp; omega) (.cells #[.int .i64 y.1] 3)) gS (by simp; omega) (fun j hj => by have := (OL.lt j hj).1; omega)
          have hz2 : w.heap.size + 1 ≤ wS.heap.size := by have := gS.size; simp at this; omega
          clear gS OL gB
          obtain ⟨p5, c5, rfl⟩ := owns_slice2 oS
          go_wp2_with fail
          go_roundw
          case rel => exact ⟨2, by simp, rfl, by simpa [behTo, behF, icell, hxy] using oS, OG⟩
          case measure => simp [intOf]
    · have hke : k = gl.length := by omega
      subst hke
      go_wp2_with fail
      go_ret
      have OL2 := owns_base (base' := w.heap.size) OL (by omega)
      rw [behTo, List.take_length] at OL2
      rw [HGL.out]
      exact ⟨.slice pl (behF gl).length cl, by simp [behTo], OL2, F⟩
end Go.Proofs.YtgfhfkgdmidhpaaGreatDoor

namespace Go.Proofs.YtgfhfkgdmidhpaaGreatDoor
open Go.RowKit

theorem flat_get {α : Type} (c : Nat) : ∀ (L : List (List α)) (k j : Nat) (l : List α), (∀ x ∈ L, x.length = c) → L[k]? = some l → j < c → L.flatten[k * c + j]? = l[j]?
  | [], k, j, l, _, h, _ => by simp at h
  | x :: L, 0, j, l, hc, h, hj => by
    simp at h; subst h
    have := hc x (by simp)
    simp [List.getElem?_append_left (show j < x.length by omega)]
  | x :: L, k + 1, j, l, hc, h, hj => by
    have hx := hc x (by simp)
    rw [List.flatten_cons, List.getElem?_append_right (by rw [hx, Nat.add_mul]; omega), hx, show (k + 1) * c + j - c = k * c + j from by rw [Nat.add_mul]; omega]
    exact flat_get c L k j l (fun y hy => hc y (by simp [hy])) (by simpa using h) hj
theorem BlkAll.at {w base} : ∀ {bs vs}, BlkAll w base bs vs → ∀ {k} (hk : k < bs.length), ∃ v, vs[k]? = some v ∧ ChsOwn w base bs[k].chs v.1 ∧ w.ownsRow base 66 8 v.2 bs[k].sts.length (bs[k].sts.flatMap stepCells)
  | [], [], _, k, hk => absurd hk (by simp)
  | c :: cs, v :: vs, h, 0, _ => ⟨v, rfl, h.1.1, h.1.2⟩
  | c :: cs, v :: vs, h, k + 1, hk => by
    obtain ⟨u, a, b, d⟩ := BlkAll.at h.2 (k := k) (by simpa using hk)
    exact ⟨u, by simpa using a, by simpa using b, by simpa using d⟩
  | [], _ :: _, h, _, _ => h.elim
  | _ :: _, [], h, _, _ => h.elim
theorem blkFlat_at {bs vs} {k : Nat} (hk : k < bs.length) {v} (hv : vs[k]? = some v) {j : Nat} (hj : j < 10) : (blkFlat bs vs)[k * 10 + j]? = (blkCells v.1 v.2 bs[k].e bs[k].at_)[j]? := by
  refine flat_get 10 _ k j _ ?_ ?_ hj
  · intro x hx
    rw [List.mem_iff_getElem?] at hx
    obtain ⟨n, hn⟩ := hx
    rw [List.getElem?_zipWith] at hn
    split at hn
    · cases hn; rfl
    · cases hn
  · rw [List.getElem?_zipWith, hv, List.getElem?_eq_getElem hk]
    rfl
theorem BlksOwn.at {w : World} {base : Nat} {bs : List RBlk} {p : Option Addr} {m cap : Nat} (h : BlksOwn w base bs (.slice p m cap)) {k : Nat} (hk : k < bs.length) :
    ∃ g qc cc ps cs, p = some ⟨g, 0, none⟩ ∧ base ≤ g ∧ g < w.heap.size ∧ ChsOwn w base bs[k].chs (.slice qc bs[k].chs.length cc) ∧ w.ownsRow base 66 8 (.slice ps bs[k].sts.length cs) bs[k].sts.length (bs[k].sts.flatMap stepCells) ∧
      (∀ j u, (blkCells (.slice qc bs[k].chs.length cc) (.slice ps bs[k].sts.length cs) bs[k].e bs[k].at_)[j]? = some u → w.cell? ⟨g, k * 10 + j, none⟩ = some u) := by
  obtain ⟨vs, a, b⟩ := h
  obtain ⟨v, hv, hc, hs⟩ := b.at hk
  obtain ⟨p', c', e1⟩ := owns_slice2 a
  cases e1
  obtain ⟨g, rfl, hb, hg⟩ := owns_form a (by omega)
  obtain ⟨qc, cc, e2⟩ := hc.slice
  obtain ⟨ps, cs, e3⟩ := owns_slice2 hs
  refine ⟨g, qc, cc, ps, cs, rfl, hb, hg, by rw [← e2]; exact hc, by rw [← e3]; exact hs, ?_⟩
  intro j u hu
  refine owns_cell a ?_
  have hj : j < 10 := by
    have : j < (blkCells (.slice qc bs[k].chs.length cc) (.slice ps bs[k].sts.length cs) bs[k].e bs[k].at_).length := by
      rcases Nat.lt_or_ge j (blkCells (.slice qc bs[k].chs.length cc) (.slice ps bs[k].sts.length cs) bs[k].e bs[k].at_).length with h | h
      · exact h
      · rw [List.getElem?_eq_none h] at hu; cases hu
    exact this
  rw [blkFlat_at hk hv hj, e2, e3]
  exact hu

def aheB (bs : List RBlk) (k i : Nat) : Bool := match bs[i]? with | some b => hasF (behF (goalsF b.e)) k | none => false
def aheTo (bs : List RBlk) (k m : Nat) : List Nat := (List.range m).filter (aheB bs k)
def aheF (bs : List RBlk) (k : Nat) : List Nat := aheTo bs k bs.length
theorem aheTo_succ (bs k m) : aheTo bs k (m + 1) = if aheB bs k m then aheTo bs k m ++ [m] else aheTo bs k m := by
  rw [aheTo, List.range_succ, List.filter_append]
  cases h : aheB bs k m <;> simp [h, aheTo]
theorem aheTo_len (bs k m) : (aheTo bs k m).length ≤ m := by
  have := List.length_filter_le (aheB bs k) (List.range m); simpa [aheTo] using this

set_option maxRecDepth 100000 in
set_option maxHeartbeats 400000 in
theorem ahead_any (bs : List RBlk) (k : Nat) (base : Nat) (v : Value) (w : World) (h : BlksOwn w base bs v) (hl : bs.length ≤ 1000000) :
    Calls Tryz.prog 52 #[v, .int .i64 k] w fun x w' => ∃ v', x = .returned v' ∧ w'.ownsRow w.heap.size 3 1 v' (aheF bs k).length (icell (aheF bs k)) ∧ Below w.heap.size w w' := by
  obtain ⟨pv, cv, rfl⟩ := h.slice
  go_enter Tryz.func52, Tryz.ntmps52
  go_wp2_with fail
  go_loopw [5, 6] (fun l i wr => ∃ m : Nat, m ≤ bs.length ∧ i = .int .i64 m ∧ wr.ownsRow w.heap.size 3 1 l (aheTo bs k m).length (icell (aheTo bs k m)) ∧ Hid (Below w.heap.size w wr)) (fun _ i _ => bs.length - (intOf i).toNat)
  case atStart => exact ⟨0, by omega, rfl, World.ownsRow_nil _ _ _ _, Below.refl _ _⟩
  case round =>
    obtain ⟨m, hm, rfl, OL, F⟩ := hrel
    obtain ⟨pl, cl, rfl⟩ := owns_slice2 OL
    by_cases hlt : m < bs.length
    · have hB := h.keeps3 (Keeps.below F.out)
      obtain ⟨g, qc, cc, ps, cs, rfl, _, _, _, _, hc⟩ := hB.at hlt
      have d0 : wr.cell? ⟨g, m * 10, none⟩ = _ := hc 0 _ rfl
      have d1 := hc 1 _ rfl
      have d2 := hc 2 _ rfl
      have d3 := hc 3 _ rfl
      have d4 := hc 4 _ rfl
      have d5 := hc 5 _ rfl
      have d6 := hc 6 _ rfl
      have d7 := hc 7 _ rfl
      have d8 := hc 8 _ rfl
      have d9 := hc 9 _ rfl
      clear hc hB
      go_wp2_with fail
      refine (behind_any qc _ cc ps _ cs bs[m].e _ _).mono ?_
      rintro x w1 ⟨v1, rfl, O1, f1⟩
      replace OL := owns_keeps OL (Keeps.below (T := fun _ => True) f1) trivial
      have hz1 := f1.size
      have hz0 := F.out.size
      replace F := stop (F.out.trans (f1.mono hz0))
      replace O1 := owns_base O1 hz0
      clear f1 d0 d1 d2 d3 d4 d5 d6 d7 d8 d9
      obtain ⟨p1, c1, rfl⟩ := owns_slice2 O1
      have HE : aheB bs k m = hasF (behF (goalsF bs[m].e)) k := by simp [aheB, hlt]
      go_wp2_with fail
      have hbl : (behF (goalsF bs[m].e)).length ≤ 1000000 := by
        have := goalsF_le bs[m].e
        generalize goalsF bs[m].e = gl at *
        match gl, this with
        | [], _ => simp [behF]
        | [x], _ => simp [behF]
        | [x, y], _ => simp only [behF]; split <;> simp
      refine (has_any _ k _ _ _ O1 hbl).mono ?_
      rintro x w2 ⟨rfl, rfl⟩
      rw [← HE]
      have HA := aheTo_succ bs k m
      have hal := aheTo_len bs k m
      cases hh : aheB bs k m with
      | true =>
        rw [hh, if_pos rfl] at HA
        have HA' := stop HA
        clear HA HE hh O1 hbl
        go_wp2_with (at_builtin; refine unstop ?_)
        refine stop ?_
        have gB := heap_alloc_last w2 (.cells #[.int .i64 m] 3)
        replace OL := OL.alloc (.cells #[.int .i64 m] 3)
        refine app1 Tryz.underlying22 Tryz.info3 rfl (by decide) (by decide) rfl _ _ rfl rfl OL gB rfl rfl (List.all_eq_true.1 rfl) (by omega) (by simp; omega) ?_
        intro v3 wS oS gS
        replace F := stop (Below.grown (F.out.alloc (by omega) (.cells #[.int .i64 m] 3)) gS (by simp; omega) (fun j hj => by have := (OL.lt j hj).1; omega))
        clear gS gB OL
        obtain ⟨p5, c5, rfl⟩ := owns_slice2 oS
        go_wp2_with fail
        go_roundw
        case rel => exact ⟨m + 1, by omega, by go_num, by rw [HA'.out, List.length_append]; simpa [icell] using oS, F⟩
        case measure => simp [intOf]; omega
      | false =>
        rw [hh, if_neg (by simp)] at HA
        have HA' := stop HA
        clear HA HE hh O1 hbl
        go_wp2_with fail
        go_roundw
        case rel => exact ⟨m + 1, by omega, by go_num, by rw [HA'.out]; exact OL, F⟩
        case measure => simp [intOf]; omega
    · have hme : m = bs.length := by omega
      subst hme
      go_wp2_with fail
      go_ret
      exact ⟨_, rfl, OL, F.out⟩
end Go.Proofs.YtgfhfkgdmidhpaaGreatDoor
