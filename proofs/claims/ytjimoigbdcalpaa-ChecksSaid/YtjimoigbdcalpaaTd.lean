import Derived.Test.YtjimoigbdcalpaaTc
namespace Go.Proofs.Ytjimoigbdcalpaa
open Go.RowKit

theorem Fr.to {b : Nat} {w w' : World} (f : Fr b w w') : w.grownBy w' (some b) :=
  ⟨f.os, f.tape, f.output, f.size, fun k hk hb => f.block k hk (fun e => hb (by rw [e]))⟩
theorem Fr.grown {b : Nat} {u v v' : World} {row : Option Nat} (h : Fr b u v) (hg : v.grownBy v' row) (hr : ∀ k, row = some k → u.heap.size ≤ k) : Fr b u v' :=
  ⟨hg.os.trans h.os, hg.tape.trans h.tape, hg.output.trans h.output, Nat.le_trans h.size hg.size,
   fun k hk hb => (hg.block k (Nat.lt_of_lt_of_le hk h.size) (fun e => by have := hr k e.symm; omega)).trans (h.block k hk hb)⟩
theorem blk_grown {w w' : World} {row : Option Nat} (hg : w.grownBy w' row) {k : Nat} {o : Obj} (h : w.heap[k]? = some o) (hr : ∀ j, row = some j → k ≠ j) : w'.heap[k]? = some o := by
  have hk : k < w.heap.size := by
    rcases Nat.lt_or_ge k w.heap.size with g | g
    · exact g
    · rw [Array.getElem?_eq_none g] at h; cases h
  rw [hg.block k hk (fun e => hr k e.symm rfl)]; exact h
theorem blk_fr {b : Nat} {w w' : World} (f : Fr b w w') {k : Nat} {o : Obj} (h : w.heap[k]? = some o) (hr : k ≠ b) : w'.heap[k]? = some o :=
  blk_grown f.to h (fun j e => by cases e; exact hr)
theorem blk_alloc {w : World} {k : Nat} {x : Obj} (h : w.heap[k]? = some x) (o : Obj) : (w.alloc o).heap[k]? = some x := by
  rw [Below.heap_alloc _ _ _ (lt_of_block h)]; exact h
theorem blk_set {w : World} {k : Nat} {cs : Array Value} {t : TypeId} {fz : Nat × Nat} (h : w.heap[k]? = some (.cells cs t fz)) (o : Nat) (x : Value) :
    (w.setCell ⟨k, o, none⟩ x).heap[k]? = some (.cells (cs.setIfInBounds o x) t fz) := by
  simp [World.setCell, Array.getElem?_modify, h]
theorem blk_setOther {w : World} {k : Nat} {ob : Obj} (h : w.heap[k]? = some ob) {j : Nat} (hj : k ≠ j) (o : Nat) (x : Value) : (w.setCell ⟨j, o, none⟩ x).heap[k]? = some ob := by
  rw [Below.heap_setCell _ _ _ _ hj]; exact h
theorem size_set (w : World) (a : Addr) (x : Value) : (w.setCell a x).heap.size = w.heap.size := by simp [World.setCell]
theorem PenAt.grown {w w' : World} {b s i bad} {row : Option Nat} (h : PenAt w b s i bad) (hg : w.grownBy w' row) (hr : ∀ j, row = some j → b ≠ j) : PenAt w' b s i bad := by
  obtain ⟨t, h⟩ := h; exact ⟨t, blk_grown hg h hr⟩
theorem owns_fr {b : Nat} {w w' : World} {base e size v n xs} (h : w.ownsRow base e size v n xs) (f : Fr b w w') (hb : b < base) : w'.ownsRow base e size v n xs := by
  refine h.kept f.to ?_
  cases hv : v.ownBlock with
  | none => exact .inl rfl
  | some g => exact .inr (fun e => by have := (h.lt g hv).1; cases e; omega)
theorem owns_base {w : World} {base base' e size v n xs} (h : w.ownsRow base e size v n xs) (hb : base' ≤ base) : w.ownsRow base' e size v n xs := by
  obtain ⟨h1, h2⟩ := h
  refine ⟨h1, h2.imp id ?_⟩
  rintro ⟨g, cap, cur, a, b, c⟩
  exact ⟨g, cap, cur, a, by omega, c⟩
/-- Two rows of cells of different types do not meet. -/
theorem owns_grown_type {w w' : World} {base e size v n xs base' e' size' v' n' xs'} (h : w.ownsRow base e size v n xs) (h' : w.ownsRow base' e' size' v' n' xs') (he : e ≠ e') (hg : w.grownBy w' v'.ownBlock) : w'.ownsRow base e size v n xs := by
  refine h.kept hg ?_
  rcases h.2 with ⟨rfl, _⟩ | ⟨g, cap, cur, rfl, _, hc, _⟩
  · exact .inl rfl
  · right
    rcases h'.2 with ⟨rfl, _⟩ | ⟨g', cap', cur', rfl, _, hc', _⟩
    · simp [Value.ownBlock]
    · simp only [Value.ownBlock, ne_eq, Option.some.injEq]
      intro e1; subst e1; rw [hc] at hc'; cases hc'; exact he rfl
theorem owns_set {w : World} {base e size v n xs} (h : w.ownsRow base e size v n xs) {a : Addr} (ha : a.block < base) (x : Value) : (w.setCell a x).ownsRow base e size v n xs :=
  ownsRow_setCell_below h ha x

theorem owns_setk {w : World} {base e size v n xs} (h : w.ownsRow base e size v n xs) (k o : Nat) (x : Value) (hk : k < base) : (w.setCell ⟨k, o, none⟩ x).ownsRow base e size v n xs :=
  ownsRow_setCell_below h hk x
theorem PenAt.setk {w b s i bad} (h : PenAt w b s i bad) (k o : Nat) (x : Value) (hk : b ≠ k) : PenAt (w.setCell ⟨k, o, none⟩ x) b s i bad := h.setOther (a := ⟨k, o, none⟩) hk x
theorem Fr.setk {b : Nat} {u v : World} (h : Fr b u v) (k o : Nat) (x : Value) (hk : u.heap.size ≤ k) : Fr b u (v.setCell ⟨k, o, none⟩ x) := h.setNew (a := ⟨k, o, none⟩) hk x
theorem owns_slice {w : World} {base e size v n xs} (h : w.ownsRow base e size v n xs) : ∃ p m c, v = .slice p m c := by
  rcases h.2 with ⟨rfl, _⟩ | ⟨g, cap, cur, rfl, _⟩
  · exact ⟨_, _, _, rfl⟩
  · exact ⟨_, _, _, rfl⟩
theorem stop {p : Prop} (h : p) : Hid p := h
theorem unstop {p : Prop} (h : Hid p) : p := h
/-- A pair of numbers as cells; a list of them. -/
def pc (x : Nat × Nat) : List Value := [.int .i64 x.1, .int .i64 x.2]
def pcs (l : List (Nat × Nat)) : List Value := l.flatMap pc
theorem pcs_snoc (l : List (Nat × Nat)) (x : Nat × Nat) : pcs l ++ [.int .i64 x.1, .int .i64 x.2] = pcs (l ++ [x]) := by simp [pcs, pc]

structure Cho where
  gs : List (Nat × Nat)
  rs : List (Nat × Nat)
  i : Nat
  bad : Int
/-- One round of choice: behind the block's number, the colon and the register. -/
def choR (s : ByteArray) (c : Cho) : Cho :=
  let i1 := numI s c.i c.bad
  let b1 := numB s c.i c.bad
  let i2 := gotI s i1 b1 58
  let b2 := mustB s i1 b1 58
  { gs := c.gs ++ [(numN s c.i c.bad, c.i)], rs := c.rs ++ [(regN s i2 b2, i2)], i := regI s i2 b2, bad := regB s i2 b2 }
def choGo (s : ByteArray) : Nat → Cho → Cho
  | 0, c => c
  | k + 1, c =>
    let d := choR s c
    let e := { d with i := gotI s d.i d.bad 44 }
    if onF s d.i d.bad 44 then choGo s k e else e
def choF (s : ByteArray) (i : Nat) (bad : Int) : Cho := choGo s (s.size + 1) { gs := [], rs := [], i := gotI s i bad 64, bad := mustB s i bad 64 }

theorem Try.info52 : (Try.prog.info? 52).map (fun i => (i.zero, i.size, i.bytes)) = some (some (.agg #[.int .i64 0, .int .i64 0]), 2, 16) := by kernel_rfl
theorem Try.info51 : (Try.prog.info? 51).map (fun i => (i.zero, i.size, i.bytes)) = some (some (.agg #[.int .i64 0, .int .i64 0]), 2, 16) := by kernel_rfl
theorem gotI_ge {s i bad c} : i ≤ gotI s i bad c := by unfold gotI; split <;> omega
theorem numGo_ge {s bad fm} (k i n : Nat) : i ≤ (numGo s bad fm k i n).2 := by
  induction k generalizing i n with
  | zero => exact Nat.le_refl _
  | succ k ih =>
    rw [numGo]; split
    · exact Nat.le_trans (Nat.le_succ i) (ih _ _)
    · exact Nat.le_refl _
theorem numI_ge {s i bad} : i ≤ numI s i bad := by
  unfold numI; split
  · exact numGo_ge _ _ _
  · exact Nat.le_refl _
theorem regI_ge {s i bad} : i ≤ regI s i bad := Nat.le_trans gotI_ge numI_ge
theorem regI_le {s i bad} (h : i ≤ s.size) : regI s i bad ≤ s.size := numI_le (gotI_le h)
def flag : Value → Nat | .bool true => 1 | _ => 0
def choSt (s : ByteArray) (a : Bool) (k : Nat) (c : Cho) : Cho := if a then choGo s k c else c
theorem choSt_step {s k c} (hk : 0 < k) : choSt s true k c = choSt s (onF s (choR s c).i (choR s c).bad 44) (k - 1) { choR s c with i := gotI s (choR s c).i (choR s c).bad 44 } := by
  obtain ⟨k, rfl⟩ : ∃ j, k = j + 1 := ⟨k - 1, by omega⟩
  simp only [choSt, if_true, choGo, Nat.add_sub_cancel]

set_option maxRecDepth 100000 in
set_option maxHeartbeats 400000 in
theorem choice_any (b : Nat) (s : ByteArray) (i tn ta : Nat) (bad : Int) (w : World) (hp : PenAt w b s i bad) (hs : s.size ≤ 200000) (hi : i ≤ s.size) :
    Calls Try.prog 41 #[.pointer (some ⟨b,0,none⟩), .agg #[.int .i64 tn, .int .i64 ta]] w fun e w' => ∃ vf vr, e = .returned (.agg #[.int .i64 tn, .int .i64 ta, vf, vr]) ∧
      w'.ownsRow w.heap.size 52 2 vf (choF s i bad).gs.length (pcs (choF s i bad).gs) ∧ w'.ownsRow w.heap.size 51 2 vr (choF s i bad).rs.length (pcs (choF s i bad).rs) ∧
      PenAt w' b s (choF s i bad).i (choF s i bad).bad ∧ Fr b w w' := by
  have hl := hp.lt
  obtain ⟨I2, Hi2, Hz2, Hs2, Hb2⟩ := info_parts Try.info52
  obtain ⟨I1, Hi1, Hz1, Hs1, Hb1⟩ := info_parts Try.info51
  go_enter Try.func41, Try.ntmps41
  go_wp2_with fail
  refine (must_any b s i 64 bad _ (((hp.alloc _).alloc _).alloc _) hs hi).mono ?_
  rintro e w1 ⟨rfl, hp1, f1⟩
  have g1 : w1.heap[w.heap.size + 1]? = some (.cells #[.int .i64 0, .int .i64 0, .slice none 0 0, .slice none 0 0] 85 (0, 0)) := by
    refine blk_fr f1 ?_ (by omega)
    rw [Below.heap_alloc _ _ _ (by simp)]
    simpa using heap_alloc_last (w.alloc _) _
  have g2 : w1.heap[w.heap.size + 2]? = some (.cells #[.int .i64 tn, .int .i64 ta, .slice none 0 0, .slice none 0 0] 85 (0, 0)) := by
    refine blk_fr f1 ?_ (by omega)
    simpa using heap_alloc_last ((w.alloc _).alloc _) _
  have hz : w.heap.size + 3 ≤ w1.heap.size := by simpa using f1.size
  have f0 : Fr b w w1 := ((((Fr.refl _ _).alloc _).alloc _).alloc _).trans f1
  have HF : Hid (choSt s true (s.size + 1) { gs := [], rs := [], i := gotI s i bad 64, bad := mustB s i bad 64 } = choF s i bad) := rfl
  clear f1
  have hg := gotI_le (c := 64) (bad := bad) hi
  generalize gotI s i bad 64 = j0 at *
  generalize mustB s i bad 64 = bad0 at *
  go_wp2_with fail
  go_loopw [6] (fun ag wr => ∃ (a : Bool) (k : Nat) (c : Cho) (vf vr : Value), ag = .bool a ∧ c.i ≤ s.size ∧ (a = true → s.size < k + c.i ∧ c.gs.length ≤ c.i ∧ c.rs.length ≤ c.i) ∧ Hid (choSt s a k c = choF s i bad) ∧
      wr.heap[w.heap.size + 1]? = some (.cells #[.int .i64 0, .int .i64 0, .slice none 0 0, .slice none 0 0] 85 (0, 0)) ∧ wr.heap[w.heap.size + 2]? = some (.cells #[.int .i64 tn, .int .i64 ta, vf, vr] 85 (0, 0)) ∧
      wr.ownsRow (w.heap.size + 3) 52 2 vf c.gs.length (pcs c.gs) ∧ wr.ownsRow (w.heap.size + 3) 51 2 vr c.rs.length (pcs c.rs) ∧ PenAt wr b s c.i c.bad ∧ Fr b w wr ∧ w.heap.size + 3 ≤ wr.heap.size)
    (fun ag wr => 2 * (s.size - penI wr b) + flag ag)
  case atStart => exact ⟨true, s.size + 1, _, _, _, rfl, hg, fun _ => ⟨by show _ < _; omega, by simp, by simp⟩, HF, g1, g2, World.ownsRow_nil _ _ _ _, World.ownsRow_nil _ _ _ _, hp1, f0, hz⟩
  case round =>
    clear g1 g2 hz f0 HF hp1 hp w1 hg
    obtain ⟨a, k, c, vf, vr, rfl, hci, hcb, HR, g1, g2, o1, o2, hp, f0, hz⟩ := hrel
    cases a with
    | false =>
      obtain ⟨pf, mf, cf, rfl⟩ := owns_slice o1
      obtain ⟨pr, mr, cr, rfl⟩ := owns_slice o2
      have q1 := cell_of g1
      have q2 := cell_of g2
      have z1 := frozen_of g1
      have HC : Hid (choF s i bad = c) := HR.out.symm
      go_wp2_with fail
      refine bodyPost_ret (v := .agg #[.int .i64 tn, .int .i64 ta, .slice pf mf cf, .slice pr mr cr]) (by simp [results, Try.results41, go_sem, q1]) rfl ⟨_, _, rfl, ?_, ?_, ?_, ?_⟩
      · rw [HC.out]; exact owns_base (owns_set (owns_set (owns_set (owns_set o1 (by show _ < _; simp) _) (by show _ < _; simp) _) (by show _ < _; simp) _) (by show _ < _; simp) _) (by omega)
      · rw [HC.out]; exact owns_base (owns_set (owns_set (owns_set (owns_set o2 (by show _ < _; simp) _) (by show _ < _; simp) _) (by show _ < _; simp) _) (by show _ < _; simp) _) (by omega)
      · rw [HC.out]; exact (((hp.setOther (by simp; omega) _).setOther (by simp; omega) _).setOther (by simp; omega) _).setOther (by simp; omega) _
      · exact (((f0.setNew (by simp) _).setNew (by simp) _).setNew (by simp) _).setNew (by simp) _
    | true =>
      obtain ⟨hk, hgl, hrl⟩ := hcb rfl
      clear hcb
      have HR2 : Hid (choSt s (onF s (choR s c).i (choR s c).bad 44) (k - 1) { choR s c with i := gotI s (choR s c).i (choR s c).bad 44 } = choF s i bad) := (choSt_step (by omega)).symm.trans HR
      clear HR
      go_wp2_with fail
      refine (goal_any b s _ _ _ hp hs hci).mono ?_
      rintro e w1 ⟨rfl, hp1, f1⟩
      have hi1 := numI_le (bad := c.bad) hci
      have G1 := blk_fr f1 g1 (by omega)
      have G2 := blk_fr f1 g2 (by omega)
      have O1 := owns_fr o1 f1 (by omega)
      have O2 := owns_fr o2 f1 (by omega)
      have F0 := f0.trans f1
      have hz1 : w.heap.size + 3 ≤ w1.heap.size := Nat.le_trans hz f1.size
      have HPI : Hid (penI wr b = c.i) := hp.penI
      clear g1 g2 o1 o2 f0 f1 hp hz
      go_wp2_with fail
      refine (must_any b s _ 58 _ _ (hp1.alloc _) hs hi1).mono ?_
      rintro e w2 ⟨rfl, hp2, f2⟩
      have hl1 := hp1.lt
      have gb := f2.own (by omega)
      replace G1 := blk_fr f2 (blk_alloc G1 _) (by omega)
      replace G2 := blk_fr f2 (blk_alloc G2 _) (by omega)
      replace O1 := owns_fr (O1.alloc _) f2 (by omega)
      replace O2 := owns_fr (O2.alloc _) f2 (by omega)
      replace F0 := (F0.alloc _).trans f2
      have hz2 : w1.heap.size + 1 ≤ w2.heap.size := by simpa using f2.size
      have hi2 := gotI_le (c := 58) (bad := numB s c.i c.bad) hi1
      clear f2 hp1
      go_wp2_with fail
      refine (reg_any b s _ _ _ hp2 hs hi2).mono ?_
      rintro e w3 ⟨rfl, hp3, f3⟩
      replace gb := blk_fr f3 gb (by omega)
      replace G1 := blk_fr f3 G1 (by omega)
      replace G2 := blk_fr f3 G2 (by omega)
      replace O1 := owns_fr O1 f3 (by omega)
      replace O2 := owns_fr O2 f3 (by omega)
      replace F0 := F0.trans f3
      have hz3 : w1.heap.size + 1 ≤ w3.heap.size := Nat.le_trans hz2 f3.size
      clear f3 hp2 hz2
      have q2 := cell_of G2
      have qb := cell_of gb
      obtain ⟨pf, mf, cf, rfl⟩ := owns_slice O1
      obtain ⟨pr, mr, cr, rfl⟩ := owns_slice O2
      have n1 : w.heap.size + 1 + 1 < w3.heap.size := by omega
      have n2 : w1.heap.size < w3.heap.size := by omega
      go_wp2_with (at_builtin; refine unstop ?_)
      refine stop ?_
      refine wpList_append_own _ rfl _ _ 82 rfl (w.heap.size + 3) 52 I2 (.agg #[.int .i64 0, .int .i64 0]) 2 16 Try.underlying82 Hi2 Hz2 Hs2 Hb2 rfl (by decide) _ _ _ rfl ((O1.alloc _).alloc _) ⟨w3.heap.size + 1, 0, none⟩ 1 1 [.int .i64 (numN s c.i c.bad), .int .i64 c.i] rfl rfl (by simpa using cell_two_new (w3.alloc _) _ _ _) (fun x hx => by simp at hx; rcases hx with rfl | rfl <;> rfl) (by unfold maxLen; omega) (by omega) (by simp; omega) ?_
      intro v1 w4 o4 gr4 _
      have r4 : ∀ k, (Value.slice pf mf cf).ownBlock = some k → w.heap.size + 3 ≤ k ∧ k < w3.heap.size := O1.lt
      have gr : w4.heap[w3.heap.size]? = some (.cells #[.int .i64 (regN s (gotI s (numI s c.i c.bad) (numB s c.i c.bad) 58) (mustB s (numI s c.i c.bad) (numB s c.i c.bad) 58)), .int .i64 (gotI s (numI s c.i c.bad) (numB s c.i c.bad) 58)] 51 (0, 0)) :=
        blk_grown gr4 (blk_alloc (heap_alloc_last w3 _) _) (fun k hk => by have := r4 k hk; omega)
      replace G1 := blk_grown gr4 (blk_alloc (blk_alloc G1 _) _) (fun k hk => by have := r4 k hk; omega)
      replace G2 := blk_grown gr4 (blk_alloc (blk_alloc G2 _) _) (fun k hk => by have := r4 k hk; omega)
      replace O2 := owns_grown_type ((O2.alloc _).alloc _) ((O1.alloc _).alloc _) (by decide) gr4
      have hp4 := PenAt.grown ((hp3.alloc _).alloc _) gr4 (fun k hk => by have := r4 k hk; omega)
      replace F0 := ((F0.alloc _).alloc _).grown gr4 (fun k hk => by have := r4 k hk; omega)
      have hz4 : w3.heap.size + 2 ≤ w4.heap.size := by simpa using gr4.size
      clear gr4 O1 r4 gb hp3 q2 qb n1 n2
      obtain ⟨p1, m1, c1, rfl⟩ := owns_slice o4
      have q2 := cell_of G2
      have z2 := frozen_of G2
      have qb := cell_of gr
      have n1 : w.heap.size + 1 + 1 < w4.heap.size := by omega
      have n2 : w3.heap.size < w4.heap.size := by omega
      have n3 : w3.heap.size ≠ w.heap.size + 1 + 1 := by omega
      go_wp2_with (at_builtin; refine unstop ?_)
      have G1' := blk_setOther (j := w.heap.size + 1 + 1) G1 (by omega) 2 (.slice p1 m1 c1)
      have G2' : (w4.setCell ⟨w.heap.size + 1 + 1, 2, none⟩ (.slice p1 m1 c1)).heap[w.heap.size + 2]? = _ := blk_set G2 2 (.slice p1 m1 c1)
      have O1' := owns_setk o4 (w.heap.size + 1 + 1) 2 (.slice p1 m1 c1) (by omega)
      have O2' := owns_setk O2 (w.heap.size + 1 + 1) 2 (.slice p1 m1 c1) (by omega)
      have hp5 := hp4.setk (w.heap.size + 1 + 1) 2 (.slice p1 m1 c1) (by omega)
      have F5 := F0.setk (w.heap.size + 1 + 1) 2 (.slice p1 m1 c1) (by omega)
      have hz5 : w.heap.size + 3 ≤ (w4.setCell ⟨w.heap.size + 1 + 1, 2, none⟩ (.slice p1 m1 c1)).heap.size := by rw [size_set]; omega
      have e5 : w4.heap.size = (w4.setCell ⟨w.heap.size + 1 + 1, 2, none⟩ (.slice p1 m1 c1)).heap.size := (size_set _ _ _).symm
      rw [e5]
      clear G1 G2 o4 O2 hp4 F0 q2 qb z2 gr hz4 n1 n2 n3 e5
      generalize w4.setCell ⟨w.heap.size + 1 + 1, 2, none⟩ (.slice p1 m1 c1) = w5 at *
      refine stop ?_
      refine wpList_append_own _ rfl _ _ 83 rfl (w.heap.size + 3) 51 I1 (.agg #[.int .i64 0, .int .i64 0]) 2 16 Try.underlying83 Hi1 Hz1 Hs1 Hb1 rfl (by decide) _ _ _ rfl (O2'.alloc _) ⟨w5.heap.size, 0, none⟩ 1 1 [.int .i64 _, .int .i64 _] rfl rfl (cell_two_new w5 _ _ _) (fun x hx => by simp at hx; rcases hx with rfl | rfl <;> rfl) (by unfold maxLen; omega) (by omega) (by simp; omega) ?_
      intro v2 w6 o6 gr6 _
      have r6 : ∀ k, (Value.slice pr mr cr).ownBlock = some k → w.heap.size + 3 ≤ k ∧ k < w5.heap.size := O2'.lt
      replace G1 := blk_grown gr6 (blk_alloc G1' _) (fun k hk => by have := r6 k hk; omega)
      replace G2 := blk_grown gr6 (blk_alloc G2' _) (fun k hk => by have := r6 k hk; omega)
      replace O1 := owns_grown_type (O1'.alloc _) (O2'.alloc _) (by decide) gr6
      have hp6 := PenAt.grown (hp5.alloc _) gr6 (fun k hk => by have := r6 k hk; omega)
      have F6 := (F5.alloc _).grown gr6 (fun k hk => by have := r6 k hk; omega)
      have hz6 : w5.heap.size + 1 ≤ w6.heap.size := by simpa using gr6.size
      clear gr6 O2' r6 G1' G2' O1' hp5 F5
      obtain ⟨p2, m2, c2, rfl⟩ := owns_slice o6
      have q2 := cell_of G2
      have z2 := frozen_of G2
      simp at q2
      go_wp2_with fail
      have G1' := blk_setOther (j := w.heap.size + 1 + 1) G1 (by omega) 3 (.slice p2 m2 c2)
      have G2' : (w6.setCell ⟨w.heap.size + 1 + 1, 3, none⟩ (.slice p2 m2 c2)).heap[w.heap.size + 2]? = _ := blk_set G2 3 (.slice p2 m2 c2)
      have O1' := owns_setk O1 (w.heap.size + 1 + 1) 3 (.slice p2 m2 c2) (by omega)
      have O2' := owns_setk o6 (w.heap.size + 1 + 1) 3 (.slice p2 m2 c2) (by omega)
      have hp7 := hp6.setk (w.heap.size + 1 + 1) 3 (.slice p2 m2 c2) (by omega)
      have F7 := F6.setk (w.heap.size + 1 + 1) 3 (.slice p2 m2 c2) (by omega)
      have hz7 : w.heap.size + 3 ≤ (w6.setCell ⟨w.heap.size + 1 + 1, 3, none⟩ (.slice p2 m2 c2)).heap.size := by rw [size_set]; omega
      clear G1 G2 O1 o6 hp6 F6 q2 z2 hz6
      generalize w6.setCell ⟨w.heap.size + 1 + 1, 3, none⟩ (.slice p2 m2 c2) = w7 at *
      refine (got_any b s _ 44 _ _ hp7 hs (regI_le hi2)).mono ?_
      rintro e w8 ⟨rfl, hp8, f8⟩
      replace G1 := blk_fr f8 G1' (by omega)
      replace G2 := blk_fr f8 G2' (by omega)
      replace O1 := owns_fr O1' f8 (by omega)
      replace O2 := owns_fr O2' f8 (by omega)
      replace F0 := F7.trans f8
      have hz8 : w.heap.size + 3 ≤ w8.heap.size := Nat.le_trans hz7 f8.size
      clear G1' G2' O1' O2' F7 f8 hz7
      go_wp2_with fail
      go_roundw
      case rel =>
        refine ⟨_, k - 1, _, _, _, rfl, ?_, ?_, HR2, G1, G2, ?_, ?_, hp8, F0, hz8⟩
        · exact gotI_le (regI_le hi2)
        · intro ha
          have h1 : gotI s (choR s c).i (choR s c).bad 44 = (choR s c).i + 1 := by rw [gotI]; exact if_pos ha
          have h2 : c.i ≤ (choR s c).i := Nat.le_trans numI_ge (Nat.le_trans gotI_ge regI_ge)
          show s.size < k - 1 + gotI s (choR s c).i (choR s c).bad 44 ∧ (choR s c).gs.length ≤ gotI s (choR s c).i (choR s c).bad 44 ∧ (choR s c).rs.length ≤ gotI s (choR s c).i (choR s c).bad 44
          rw [h1]
          refine ⟨by omega, ?_, ?_⟩
          · simp [choR]; simp [choR] at h2; omega
          · simp [choR]; simp [choR] at h2; omega
        · rw [pcs_snoc (c.gs) (numN s c.i c.bad, c.i)] at O1; simpa [choR] using O1
        · rw [pcs_snoc (c.rs) (_, _)] at O2; simpa [choR] using O2
      case measure =>
        rw [hp8.penI, HPI.out]
        have h2 : c.i ≤ (choR s c).i := Nat.le_trans numI_ge (Nat.le_trans gotI_ge regI_ge)
        have h4 : (choR s c).i ≤ s.size := regI_le hi2
        show 2 * (s.size - gotI s (choR s c).i (choR s c).bad 44) + flag (.bool (onF s (choR s c).i (choR s c).bad 44)) < 2 * (s.size - c.i) + flag (.bool true)
        generalize choR s c = d at *
        cases ha : onF s d.i d.bad 44 with
        | true =>
          have h3 : d.i < s.size := by simp [onF] at ha; omega
          rw [gotI, if_pos ha]; simp only [flag]; omega
        | false =>
          rw [gotI, if_neg (by simp [ha])]; simp only [flag]; omega
end Go.Proofs.Ytjimoigbdcalpaa
