import Derived.Test.YtjimoigbdcalpaaUh
namespace Go.Proofs.Ytjimoigbdcalpaa
open Go.RowKit

def PChAll (w : World) (base : Nat) : List RCho → List Value → Prop
  | [], [] => True
  | c :: cs, v :: vs => (c.gs.length = c.rs.length ∧ w.ownsRow base 103 4 v c.gs.length (srcCells c.gs c.rs)) ∧ PChAll w base cs vs
  | _, _ => False
def pchCell (c : RCho) (v : Value) : List Value := [.int .i64 c.to.1, .int .i64 c.to.2, v]
def pchFlat (cs : List RCho) (vs : List Value) : List Value := (List.zipWith pchCell cs vs).flatten
def PChs (w : World) (base : Nat) (cs : List RCho) (v : Value) : Prop := ∃ vs, w.ownsRow base 101 3 v cs.length (pchFlat cs vs) ∧ PChAll w base cs vs
theorem PChAll.len {w base} : ∀ {cs vs}, PChAll w base cs vs → vs.length = cs.length
  | [], [], _ => rfl
  | _ :: _, _ :: _, h => by simp [PChAll.len h.2]
  | [], _ :: _, h => h.elim
  | _ :: _, [], h => h.elim
theorem PChAll.keeps {w w' base} {T : TypeId → Prop} (k : Keeps base T w w') (h1 : T 103) : ∀ {cs vs}, PChAll w base cs vs → PChAll w' base cs vs
  | [], [], _ => trivial
  | _ :: _, _ :: _, h => ⟨⟨h.1.1, owns_keeps h.1.2 k h1⟩, PChAll.keeps k h1 h.2⟩
  | [], _ :: _, h => h.elim
  | _ :: _, [], h => h.elim
theorem PChAll.snoc {w base} {c : RCho} {v} (h1 : c.gs.length = c.rs.length) (h2 : w.ownsRow base 103 4 v c.gs.length (srcCells c.gs c.rs)) : ∀ {cs vs}, PChAll w base cs vs → PChAll w base (cs ++ [c]) (vs ++ [v])
  | [], [], _ => ⟨⟨h1, h2⟩, trivial⟩
  | _ :: _, _ :: _, h => ⟨h.1, PChAll.snoc h1 h2 h.2⟩
  | [], _ :: _, h => h.elim
  | _ :: _, [], h => h.elim
theorem PChAll.base {w base base'} (hb : base' ≤ base) : ∀ {cs vs}, PChAll w base cs vs → PChAll w base' cs vs
  | [], [], _ => trivial
  | _ :: _, _ :: _, h => ⟨⟨h.1.1, owns_base h.1.2 hb⟩, PChAll.base hb h.2⟩
  | [], _ :: _, h => h.elim
  | _ :: _, [], h => h.elim
theorem pchFlat_snoc {cs vs} (c v) (h : vs.length = cs.length) : pchFlat (cs ++ [c]) (vs ++ [v]) = pchFlat cs vs ++ pchCell c v := by
  simp [pchFlat, List.zipWith_append h.symm]
theorem PChs.keeps {w w' base cs v} {T : TypeId → Prop} (h : PChs w base cs v) (k : Keeps base T w w') (h1 : T 103) (h3 : T 101) : PChs w' base cs v := by
  obtain ⟨vs, a, b⟩ := h
  exact ⟨vs, owns_keeps a k h3, b.keeps k h1⟩
theorem PChs.base {w base base' cs v} (h : PChs w base cs v) (hb : base' ≤ base) : PChs w base' cs v := by
  obtain ⟨vs, a, b⟩ := h
  exact ⟨vs, owns_base a hb, b.base hb⟩
theorem PChs.slice {w base cs v} (h : PChs w base cs v) : ∃ p c, v = .slice p cs.length c := by
  obtain ⟨vs, a, _⟩ := h; exact owns_slice2 a
def T4 (e : TypeId) : Prop := e = 103 ∨ e = 101
def T5 (e : TypeId) : Prop := e = 103 ∨ e = 143

/-- What the program's block under way owns. -/
structure BP (b g : Nat) (s : ByteArray) (w0 : World) (i0 : Nat) (chs : List RCho) (sts : List RStep) (vc vs ev : Value) (i : Nat) (w : World) : Prop where
  G1 : w.heap[w0.heap.size]? = some (.cells #[.int .i64 0, .slice none 0 0, .slice none 0 0, .nilIface] 43 (0, 0))
  G2 : w.heap[w0.heap.size + 1]? = some (.cells #[.int .i64 i0, vc, vs, ev] 43 (0, 0))
  C : PChs w (w0.heap.size + 2) chs vc
  S : w.ownsRow (w0.heap.size + 2) 143 1 vs sts.length (sts.map stVal)
  P : RS w b g s i
  F : Fr b w0 w
  Z : w0.heap.size + 2 ≤ w.heap.size
section
variable {b g : Nat} {s : ByteArray} {w0 : World} {i0 : Nat} {chs : List RCho} {sts : List RStep} {vc vs ev : Value} {i : Nat} {w : World}
theorem BP.alloc (h : BP b g s w0 i0 chs sts vc vs ev i w) (o : Obj) : BP b g s w0 i0 chs sts vc vs ev i (w.alloc o) :=
  ⟨blk_alloc h.G1 o, blk_alloc h.G2 o, h.C.keeps (Keeps.alloc _ T4 w o) (by simp [T4]) (by simp [T4]), h.S.alloc o, h.P.alloc o, h.F.alloc o, by have := h.Z; simp; omega⟩
theorem BP.drew (h : BP b g s w0 i0 chs sts vc vs ev i w) : BP b g s w0 i0 chs sts vc vs ev i w.drew :=
  ⟨h.G1, h.G2, h.C.keeps (T := T4) (fun _ _ _ _ _ h => h) (by simp [T4]) (by simp [T4]), h.S, h.P.drew, h.F.drew, h.Z⟩
theorem BP.call {i' : Nat} {w' : World} (h : BP b g s w0 i0 chs sts vc vs ev i w) (hb : b < w0.heap.size) (P : RS w' b g s i') (f : Fr b w w') : BP b g s w0 i0 chs sts vc vs ev i' w' :=
  ⟨blk_fr f h.G1 (by omega), blk_fr f h.G2 (by omega), h.C.keeps (Keeps.fr (T := T4) f (by omega)) (by simp [T4]) (by simp [T4]), owns_fr h.S f (by omega), P, h.F.trans f, Nat.le_trans h.Z f.size⟩
theorem BP.setC (h : BP b g s w0 i0 chs sts vc vs ev i w) (hb : b < w0.heap.size) (hg : g < w0.heap.size) {chs' : List RCho} {vc' : Value} (hc : PChs w (w0.heap.size + 2) chs' vc') : BP b g s w0 i0 chs' sts vc' vs ev i (w.setCell ⟨w0.heap.size + 1, 1, none⟩ vc') :=
  ⟨blk_setOther h.G1 (by omega) _ _, blk_set h.G2 1 vc', hc.keeps (Keeps.setk T4 w _ 1 _ (by omega)) (by simp [T4]) (by simp [T4]), owns_setk h.S _ 1 _ (by omega), h.P.setk _ 1 _ (by omega) (by omega), h.F.setk _ 1 _ (by omega), by rw [size_set]; exact h.Z⟩
theorem BP.setS (h : BP b g s w0 i0 chs sts vc vs ev i w) (hb : b < w0.heap.size) (hg : g < w0.heap.size) {sts' : List RStep} {vs' : Value} (hc : w.ownsRow (w0.heap.size + 2) 143 1 vs' sts'.length (sts'.map stVal)) : BP b g s w0 i0 chs sts' vc vs' ev i (w.setCell ⟨w0.heap.size + 1, 2, none⟩ vs') :=
  ⟨blk_setOther h.G1 (by omega) _ _, blk_set h.G2 2 vs', h.C.keeps (Keeps.setk T4 w _ 2 _ (by omega)) (by simp [T4]) (by simp [T4]), owns_setk hc _ 2 _ (by omega), h.P.setk _ 2 _ (by omega) (by omega), h.F.setk _ 2 _ (by omega), by rw [size_set]; exact h.Z⟩
theorem BP.setE (h : BP b g s w0 i0 chs sts vc vs ev i w) (hb : b < w0.heap.size) (hg : g < w0.heap.size) (ev' : Value) : BP b g s w0 i0 chs sts vc vs ev' i (w.setCell ⟨w0.heap.size + 1, 3, none⟩ ev') :=
  ⟨blk_setOther h.G1 (by omega) _ _, blk_set h.G2 3 ev', h.C.keeps (Keeps.setk T4 w _ 3 _ (by omega)) (by simp [T4]) (by simp [T4]), owns_setk h.S _ 3 _ (by omega), h.P.setk _ 3 _ (by omega) (by omega), h.F.setk _ 3 _ (by omega), by rw [size_set]; exact h.Z⟩
/-- Behind an append to the steps: the new row, the rest as it was. -/
theorem BP.grownS {w' : World} (h : BP b g s w0 i0 chs sts vc vs ev i w) (hb : b < w0.heap.size) (hg : g < w0.heap.size) (gr : w.grownBy w' vs.ownBlock) :
    w'.heap[w0.heap.size]? = some (.cells #[.int .i64 0, .slice none 0 0, .slice none 0 0, .nilIface] 43 (0, 0)) ∧ w'.heap[w0.heap.size + 1]? = some (.cells #[.int .i64 i0, vc, vs, ev] 43 (0, 0)) ∧ PChs w' (w0.heap.size + 2) chs vc ∧ RS w' b g s i ∧ Fr b w0 w' ∧ w0.heap.size + 2 ≤ w'.heap.size := by
  have r : ∀ j, vs.ownBlock = some j → w0.heap.size + 2 ≤ j := fun j hj => (h.S.lt j hj).1
  exact ⟨blk_grown gr h.G1 (fun j hj => by have := r j hj; omega), blk_grown gr h.G2 (fun j hj => by have := r j hj; omega), h.C.keeps (Keeps.grown (T := T4) h.S gr (by simp [T4])) (by simp [T4]) (by simp [T4]),
    h.P.grown gr (fun j hj => by have := r j hj; constructor <;> omega), h.F.grown gr (fun j hj => by have := r j hj; omega), Nat.le_trans h.Z gr.size⟩
/-- Behind an append to the choices. -/
theorem BP.grownC {w' : World} (h : BP b g s w0 i0 chs sts vc vs ev i w) (hb : b < w0.heap.size) (hg : g < w0.heap.size) {us} (hu : w.ownsRow (w0.heap.size + 2) 101 3 vc chs.length (pchFlat chs us)) (gr : w.grownBy w' vc.ownBlock) :
    w'.heap[w0.heap.size]? = some (.cells #[.int .i64 0, .slice none 0 0, .slice none 0 0, .nilIface] 43 (0, 0)) ∧ w'.heap[w0.heap.size + 1]? = some (.cells #[.int .i64 i0, vc, vs, ev] 43 (0, 0)) ∧ w'.ownsRow (w0.heap.size + 2) 143 1 vs sts.length (sts.map stVal) ∧ RS w' b g s i ∧ Fr b w0 w' ∧ w0.heap.size + 2 ≤ w'.heap.size := by
  have r : ∀ j, vc.ownBlock = some j → w0.heap.size + 2 ≤ j := fun j hj => (hu.lt j hj).1
  exact ⟨blk_grown gr h.G1 (fun j hj => by have := r j hj; omega), blk_grown gr h.G2 (fun j hj => by have := r j hj; omega), owns_keeps h.S (Keeps.grown (T := T5) hu gr (by simp [T5])) (by simp [T5]),
    h.P.grown gr (fun j hj => by have := r j hj; constructor <;> omega), h.F.grown gr (fun j hj => by have := r j hj; omega), Nat.le_trans h.Z gr.size⟩
end
theorem Try.info143 : (Try.prog.info? 143).map (fun i => (i.zero, i.size, i.bytes)) = some (some .nilIface, 1, 16) := by kernel_rfl
theorem Try.info101 : (Try.prog.info? 101).map (fun i => (i.zero, i.size, i.bytes)) = some (some (.agg #[.int .i64 0, .int .i64 0, .slice none 0 0]), 3, 40) := by kernel_rfl

/-- What reading on from a register leaves of a block. -/
def FrPost (b g : Nat) (s : ByteArray) (w0 : World) (i0 k i : Nat) (R : Blk) (e : Ending) (w' : World) : Prop :=
  (e = .returned (.tuple #[]) ∧ ∃ chs sts vc vs ee i', R = ⟨⟨chs, sts, ee, i0⟩, i', -1⟩ ∧ ee.op = 63 ∧ BP b g s w0 i0 chs sts vc vs (endVal ee) i' w') ∨
  (e = .returned (.tuple #[]) ∧ ∃ chs sts vc vs i', R = blkGo s i0 k chs sts i' (-1) ∧ i < i' ∧ chs.length ≤ i' ∧ sts.length ≤ i' ∧ BP b g s w0 i0 chs sts vc vs .nilIface i' w') ∨
  (e = .panicked (brk R.bad) ∧ 0 ≤ R.bad ∧ Fr b w0 w')
end Go.Proofs.Ytjimoigbdcalpaa
