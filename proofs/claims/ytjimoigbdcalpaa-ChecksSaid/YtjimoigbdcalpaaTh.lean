import Derived.Test.YtjimoigbdcalpaaTg
import Derived.Deep.AppendLies
namespace Go.Proofs.Ytjimoigbdcalpaa
open Go.RowKit

/-- Blocks from base on whose cells are of a type in T are as they were. -/
def Keeps (base : Nat) (T : TypeId → Prop) (w w' : World) : Prop :=
  ∀ g cur e, base ≤ g → T e → w.heap[g]? = some (.cells cur e (0, 0)) → w'.heap[g]? = some (.cells cur e (0, 0))
theorem Keeps.refl (base T w) : Keeps base T w w := fun _ _ _ _ _ h => h
theorem Keeps.trans {base T u v w} (h : Keeps base T u v) (k : Keeps base T v w) : Keeps base T u w := fun g c e a b x => k g c e a b (h g c e a b x)
theorem Keeps.fr {b base : Nat} {T w w'} (f : Fr b w w') (hb : b < base) : Keeps base T w w' := fun g c e hg _ h => blk_fr f h (by omega)
theorem Keeps.alloc (base T) (w : World) (o : Obj) : Keeps base T w (w.alloc o) := fun _ _ _ _ _ h => blk_alloc h o
theorem Keeps.setk {base : Nat} (T) (w : World) (k o : Nat) (x : Value) (hk : k < base) : Keeps base T w (w.setCell ⟨k, o, none⟩ x) := fun g c e hg _ h => blk_setOther h (by omega) o x
theorem Keeps.grown {base : Nat} {T : TypeId → Prop} {w w' : World} {base' e' size' v' n' xs'} (h' : w.ownsRow base' e' size' v' n' xs') (hg : w.grownBy w' v'.ownBlock) (he : ¬ T e') : Keeps base T w w' := by
  intro g c e hb ht h
  refine blk_grown hg h ?_
  intro j hj e1
  subst e1
  rcases h'.2 with ⟨rfl, _⟩ | ⟨g', cap', cur', rfl, _, hc', _⟩
  · simp [Value.ownBlock] at hj
  · simp only [Value.ownBlock, Option.some.injEq] at hj
    subst hj; rw [h] at hc'; cases hc'; exact he ht
theorem Keeps.drewN {base : Nat} {T : TypeId → Prop} (w : World) (n : Nat) : Keeps base T w (w.drewN n) := fun _ _ _ _ _ h => h
theorem owns_keeps {w w' : World} {base e size v n xs} {T : TypeId → Prop} (h : w.ownsRow base e size v n xs) (k : Keeps base T w w') (ht : T e) : w'.ownsRow base e size v n xs := by
  obtain ⟨h1, h2⟩ := h
  refine ⟨h1, h2.imp id ?_⟩
  rintro ⟨g, cap, cur, a, b, c, d⟩
  exact ⟨g, cap, cur, a, b, k g cur e b ht c, d⟩
theorem owns_slice2 {w : World} {base e size v n xs} (h : w.ownsRow base e size v n xs) : ∃ p c, v = .slice p n c := by
  rcases h.2 with ⟨rfl, rfl⟩ | ⟨g, cap, cur, rfl, _⟩
  · exact ⟨_, _, rfl⟩
  · exact ⟨_, _, rfl⟩

/-- append of one element that lies in a new block. -/
theorem app1 {t e : TypeId} {z : Value} {size bytes : Nat} (ht : Try.prog.underlying t = some (.slice e)) (hi : (Try.prog.info? e).map (fun i => (i.zero, i.size, i.bytes)) = some (some z, size, bytes)) (hzs : z.cells.size = size) (hsz : 0 < size) (hby : bytes ≤ 1000)
    {ops : Array Oper} {rest : List Oper} {o : Oper} {a : Act} {Q : Exit → Act → World → Prop} {w : World} (hgd : o.guard = none) (s x : Operand)
    (ho : o.op = .call { callee := .builtin .append, args := #[s, x], argTypes := #[t, t] })
    {base : Nat} {v : Value} {n : Nat} {xs : List Value} (hs : a.eval s = v) (hown : w.ownsRow base e size v n xs)
    {B : Nat} {cs : Array Value} {tt : TypeId} {fr : Nat × Nat} (hB : w.heap[B]? = some (.cells cs tt fr)) (hx : a.eval x = .slice (some ⟨B, 0, none⟩) 1 1) (hl : cs.size = size) (h1 : ∀ u ∈ cs.toList, u.oneCell' = true)
    (hn : n ≤ 1000000) (hbase : base ≤ w.heap.size)
    (h : ∀ v' w', w'.ownsRow base e size v' (n + 1) (xs ++ cs.toList) → w.grownBy w' v.ownBlock → wpList Try.prog ops Q rest (a.put o.dst v') w') : wpList Try.prog ops Q (o :: rest) a w := by
  obtain ⟨I, Hi, Hz, Hs, Hb⟩ := info_parts hi
  refine wpList_append_own w hgd s x t ho base e I z size bytes ht Hi Hz Hs Hb hzs hsz v n xs hs hown ⟨B, 0, none⟩ 1 1 cs.toList hx (by simpa using hl) (World.news_of_block hB) h1 (by unfold maxLen; omega) ?_ hbase (fun v' w' h1 h2 _ => h v' w' h1 h2)
  have : (n + 1) * bytes ≤ 1000001 * 1000 := Nat.mul_le_mul (by omega) hby
  omega

structure RCho where
  to : Nat × Nat
  gs : List (Nat × Nat)
  rs : List (Nat × Nat)
def ChAll (w : World) (base : Nat) : List RCho → List (Value × Value) → Prop
  | [], [] => True
  | c :: cs, v :: vs => (w.ownsRow base 52 2 v.1 c.gs.length (pcs c.gs) ∧ w.ownsRow base 51 2 v.2 c.rs.length (pcs c.rs)) ∧ ChAll w base cs vs
  | _, _ => False
def chCell (c : RCho) (v : Value × Value) : List Value := [.int .i64 c.to.1, .int .i64 c.to.2, v.1, v.2]
def chFlat (cs : List RCho) (vs : List (Value × Value)) : List Value := (List.zipWith chCell cs vs).flatten
def ChsOwn (w : World) (base : Nat) (cs : List RCho) (v : Value) : Prop := ∃ vs, w.ownsRow base 85 4 v cs.length (chFlat cs vs) ∧ ChAll w base cs vs
theorem ChAll.len {w base} : ∀ {cs vs}, ChAll w base cs vs → vs.length = cs.length
  | [], [], _ => rfl
  | _ :: _, _ :: _, h => by simp [ChAll.len h.2]
  | [], _ :: _, h => h.elim
  | _ :: _, [], h => h.elim
theorem ChAll.keeps {w w' base} {T : TypeId → Prop} (k : Keeps base T w w') (h1 : T 52) (h2 : T 51) : ∀ {cs vs}, ChAll w base cs vs → ChAll w' base cs vs
  | [], [], _ => trivial
  | _ :: _, _ :: _, h => ⟨⟨owns_keeps h.1.1 k h1, owns_keeps h.1.2 k h2⟩, ChAll.keeps k h1 h2 h.2⟩
  | [], _ :: _, h => h.elim
  | _ :: _, [], h => h.elim
theorem ChAll.snoc {w base c v} (h1 : w.ownsRow base 52 2 v.1 c.gs.length (pcs c.gs)) (h2 : w.ownsRow base 51 2 v.2 c.rs.length (pcs c.rs)) : ∀ {cs vs}, ChAll w base cs vs → ChAll w base (cs ++ [c]) (vs ++ [v])
  | [], [], _ => ⟨⟨h1, h2⟩, trivial⟩
  | _ :: _, _ :: _, h => ⟨h.1, ChAll.snoc h1 h2 h.2⟩
  | [], _ :: _, h => h.elim
  | _ :: _, [], h => h.elim
theorem chFlat_snoc {cs vs} (c v) (h : vs.length = cs.length) : chFlat (cs ++ [c]) (vs ++ [v]) = chFlat cs vs ++ chCell c v := by
  simp [chFlat, List.zipWith_append h.symm]
theorem ChsOwn.keeps {w w' base cs v} {T : TypeId → Prop} (h : ChsOwn w base cs v) (k : Keeps base T w w') (h1 : T 52) (h2 : T 51) (h3 : T 85) : ChsOwn w' base cs v := by
  obtain ⟨vs, a, b⟩ := h
  exact ⟨vs, owns_keeps a k h3, b.keeps k h1 h2⟩
def T0 (e : TypeId) : Prop := e = 51 ∨ e = 52 ∨ e = 85
def T1 (e : TypeId) : Prop := e = 51 ∨ e = 52 ∨ e = 116
theorem ChsOwn.base {w base base' cs v} (h : ChsOwn w base cs v) (hb : base' ≤ base) : ChsOwn w base' cs v := by
  obtain ⟨vs, a, b⟩ := h
  refine ⟨vs, owns_base a hb, ?_⟩
  clear a
  induction cs generalizing vs with
  | nil => cases vs with
    | nil => trivial
    | cons _ _ => exact b.elim
  | cons c cs ih => cases vs with
    | nil => exact b.elim
    | cons v vs => exact ⟨⟨owns_base b.1.1 hb, owns_base b.1.2 hb⟩, ih _ b.2⟩

/-- What a block under way owns. -/
structure BI (b : Nat) (s : ByteArray) (w0 : World) (base : Nat) (chs : List RCho) (sts : List RStep) (vc vs : Value) (i : Nat) (bad : Int) (w : World) : Prop where
  C : ChsOwn w base chs vc
  S : w.ownsRow base 116 8 vs sts.length (sts.flatMap stepCells)
  P : PenAt w b s i bad
  F : Fr b w0 w
  Z : base ≤ w.heap.size
theorem BI.setk {b s w0 base chs sts vc vs i bad w} (h : BI b s w0 base chs sts vc vs i bad w) (k o : Nat) (x : Value) (h1 : k < base) (h2 : w0.heap.size ≤ k) (h3 : b ≠ k) : BI b s w0 base chs sts vc vs i bad (w.setCell ⟨k, o, none⟩ x) :=
  ⟨h.C.keeps (Keeps.setk T0 w k o x h1) (by simp [T0]) (by simp [T0]) (by simp [T0]), owns_setk h.S k o x h1, h.P.setk k o x h3, h.F.setk k o x h2, by rw [size_set]; exact h.Z⟩
theorem BI.alloc {b s w0 base chs sts vc vs i bad w} (h : BI b s w0 base chs sts vc vs i bad w) (o : Obj) : BI b s w0 base chs sts vc vs i bad (w.alloc o) :=
  ⟨h.C.keeps (Keeps.alloc base T0 w o) (by simp [T0]) (by simp [T0]) (by simp [T0]), h.S.alloc o, h.P.alloc o, h.F.alloc o, by have := h.Z; simp; omega⟩
theorem BI.call {b s w0 base chs sts vc vs i bad w i' bad' w'} (h : BI b s w0 base chs sts vc vs i bad w) (hb : b < base) (P : PenAt w' b s i' bad') (f : Fr b w w') : BI b s w0 base chs sts vc vs i' bad' w' :=
  ⟨h.C.keeps (Keeps.fr (T := T0) f hb) (by simp [T0]) (by simp [T0]) (by simp [T0]), owns_fr h.S f hb, P, h.F.trans f, Nat.le_trans h.Z f.size⟩
theorem BI.grownS {b s w0 base chs sts vc vs i bad w vs' w'} (h : BI b s w0 base chs sts vc vs i bad w) (hb : b < base) (hw : w0.heap.size ≤ base) (t : RStep) (o : w'.ownsRow base 116 8 vs' (sts.length + 1) (sts.flatMap stepCells ++ stepCells t)) (g : w.grownBy w' vs.ownBlock) : BI b s w0 base chs (sts ++ [t]) vc vs' i bad w' :=
  ⟨h.C.keeps (Keeps.grown (T := T0) h.S g (by simp [T0])) (by simp [T0]) (by simp [T0]) (by simp [T0]), by simpa using o,
   h.P.grown g (fun j hj => by have := (h.S.lt j hj).1; omega), h.F.grown g (fun j hj => by have := (h.S.lt j hj).1; omega), Nat.le_trans h.Z g.size⟩
theorem BI.grownC {b s w0 base chs sts vc vs i bad w vc' w'} (h : BI b s w0 base chs sts vc vs i bad w) (hb : b < base) (hw : w0.heap.size ≤ base) (c : RCho) (v : Value × Value)
    (h1 : w.ownsRow base 52 2 v.1 c.gs.length (pcs c.gs)) (h2 : w.ownsRow base 51 2 v.2 c.rs.length (pcs c.rs)) {us} (hu : w.ownsRow base 85 4 vc chs.length (chFlat chs us)) (ha : ChAll w base chs us)
    (o : w'.ownsRow base 85 4 vc' (chs.length + 1) (chFlat chs us ++ chCell c v)) (g : w.grownBy w' vc.ownBlock) : BI b s w0 base (chs ++ [c]) sts vc' vs i bad w' := by
  have K : Keeps base T1 w w' := Keeps.grown (T := T1) hu g (by simp [T1])
  refine ⟨⟨us ++ [v], ?_, ?_⟩, owns_keeps h.S K (by simp [T1]), h.P.grown g (fun j hj => by have := (hu.lt j hj).1; omega), h.F.grown g (fun j hj => by have := (hu.lt j hj).1; omega), Nat.le_trans h.Z g.size⟩
  · rw [chFlat_snoc c v ha.len]; simpa using o
  · exact ChAll.snoc (owns_keeps h1 K (by simp [T1])) (owns_keeps h2 K (by simp [T1])) (ha.keeps K (by simp [T1]) (by simp [T1]))
end Go.Proofs.Ytjimoigbdcalpaa
