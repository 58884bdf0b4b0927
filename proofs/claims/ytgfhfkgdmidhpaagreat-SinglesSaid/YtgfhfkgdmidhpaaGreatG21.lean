import Derived.Test.YtgfhfkgdmidhpaaGreatG20
namespace Go.Proofs.YtgfhfkgdmidhpaaGreat
open Go.RowKit

theorem owns_setT {w : World} {base e k n o : Nat} {v x : Value} {xs : List Value} {cs : Array Value} {t : TypeId} {fz : Nat × Nat} (h : w.ownsRow base e 1 v n xs) (hk : w.heap[k]? = some (.cells cs t fz)) (ht : t ≠ e) : (w.setCell ⟨k, o, none⟩ x).ownsRow base e 1 v n xs := by
  obtain ⟨h1, h2⟩ := h
  refine ⟨h1, h2.imp id ?_⟩
  rintro ⟨g, cap, cur, rfl, b, c, d⟩
  refine ⟨g, cap, cur, rfl, b, ?_, d⟩
  rw [Below.heap_setCell _ _ _ _ ?_]
  · exact c
  · rintro rfl
    rw [hk] at c
    cases c
    exact ht rfl
def lenAt (w : World) (k : Nat) : Nat := match w.cell? ⟨k, 0, none⟩ with | some (.slice _ n _) => n | _ => 0
theorem lenAt_of {w : World} {k : Nat} {p : Option Addr} {n c : Nat} (h : w.cell? ⟨k, 0, none⟩ = some (.slice p n c)) : lenAt w k = n := by rw [lenAt, h]
theorem jac_step (bs : List RBlk) (bar : List Nat) (f : Nat → Bool) (hgl : ∀ b ∈ bs, ∀ p ∈ goalsF b.e, p.1 < bs.length) : stepL bs bar (setL bs.length f) = setL bs.length (jac (suF bs) (hasF bar) bs.length f) := by
  refine setL_of (stepL_srt _ _ _) fun x => ?_
  rw [stepL_mem, bhs_mem, setL_mem]
  simp only [jac, Bool.and_eq_true, Bool.or_eq_true, List.any_eq_true, List.mem_range, List.contains_iff_mem, Bool.not_eq_true']
  have hb : x ∉ bar ↔ hasF bar x = false := by
    rw [← hasF_iff]; simp
  rw [hb]
  constructor
  · rintro ⟨⟨a, b⟩ | ⟨i, hi, hx⟩, c⟩
    · exact ⟨a, .inl b, c⟩
    · rw [setL_mem] at hi
      exact ⟨suF_lt hgl i x hx, .inr ⟨i, hi.1, hi.2, hx⟩, c⟩
  · rintro ⟨a, b | ⟨i, hi, hf, hx⟩, c⟩
    · exact ⟨.inl ⟨a, b⟩, c⟩
    · exact ⟨.inr ⟨i, setL_mem.2 ⟨hi, hf⟩, hx⟩, c⟩

set_option maxRecDepth 100000 in
set_option maxHeartbeats 4000000 in
theorem settleP (bs : List RBlk) (f0 : Nat → Bool) (bar : List Nat) (base Bs Bb pb qb : Nat) (v vs vb : Value) (w : World) (h : PBs w base bs v) (ho : w.ownsRow Bs 92 1 vs (setL bs.length f0).length (icell (setL bs.length f0))) (hb : w.ownsRow Bb 92 1 vb bar.length (icell bar)) (hp : w.cell? ⟨pb, 0, none⟩ = some v) (hq : w.cell? ⟨qb, 0, none⟩ = some vb)
    (hj : Hid (JacOk (suF bs) (hasF bar) bs.length f0)) (hsb : Hid (bar.Pairwise (· < ·))) (hgl : Hid (∀ b ∈ bs, ∀ p ∈ goalsF b.e, p.1 < bs.length)) (hn0 : 0 < bs.length) (hn : bs.length ≤ 1000) (hlb : bar.length ≤ 1000) :
    Calls Tryz.prog 112 #[.agg #[vs], .func (.func 113) #[] #[.pointer (some ⟨pb, 0, none⟩), .pointer (some ⟨qb, 0, none⟩)]] w fun x w' => ∃ v', x = .returned (.agg #[v']) ∧ w'.ownsRow w.heap.size 92 1 v' (setL bs.length (rchF (suF bs) bs.length (hasF bar))).length (icell (setL bs.length (rchF (suF bs) bs.length (hasF bar)))) ∧ Below w.heap.size w w' := by
  obtain ⟨po, co, rfl⟩ := owns_slice2 ho
  have hpw : pb < w.heap.size := World.block_lt_of_cell? _ _ hp
  have hqw : qb < w.heap.size := World.block_lt_of_cell? _ _ hq
  have HP := stop (And.intro h (And.intro hb (And.intro hp hq)))
  have HO := stop ho
  clear h ho hb hp hq
  have hmt : ∀ (x : Value) (w : World), (method 429 86 x "Same").run Tryz.prog w = .ok (220, x) w := fun x w => by kernel_rfl
  go_enter Tryz.func112, Tryz.ntmps112
  go_wp2_with fail
  obtain ⟨W2, hW2⟩ : ∃ W2, W2 = (w.alloc (.cells #[.slice po (setL bs.length f0).length co] 86)).alloc (.cells #[.slice none 0 0] 86) := ⟨_, rfl⟩
  rw [← hW2]
  obtain ⟨g0, g1, hz, f2⟩ := two w (.cells #[.slice po (setL bs.length f0).length co] 86) (.cells #[.slice none 0 0] 86)
  rw [← hW2] at g0 g1 hz f2
  have B0 : Hid (JacOk (suF bs) (hasF bar) bs.length f0 ∧ W2.heap[w.heap.size]? = some (.cells #[.slice po (setL bs.length f0).length co] 86 (0, 0)) ∧ W2.heap[w.heap.size + 1]? = some (.cells #[.slice none 0 0] 86 (0, 0)) ∧ W2.ownsRow 0 92 1 (.slice po (setL bs.length f0).length co) (setL bs.length f0).length (icell (setL bs.length f0)) ∧ Below w.heap.size w W2 ∧ w.heap.size + 2 ≤ W2.heap.size) :=
    ⟨hj.out, g0, g1, owns_base (owns_keeps HO.out (Keeps.below (T := fun _ => True) f2) trivial) (Nat.zero_le _), f2, by omega⟩
  clear g0 g1 hz f2 hW2 HO hj
  go_loopw [5] (fun _ wr => ∃ (f : Nat → Bool) (p : Option Addr) (c : Nat), Hid (JacOk (suF bs) (hasF bar) bs.length f ∧ wr.heap[w.heap.size]? = some (.cells #[.slice p (setL bs.length f).length c] 86 (0, 0)) ∧ wr.heap[w.heap.size + 1]? = some (.cells #[.slice none 0 0] 86 (0, 0)) ∧ wr.ownsRow 0 92 1 (.slice p (setL bs.length f).length c) (setL bs.length f).length (icell (setL bs.length f)) ∧ Below w.heap.size w wr ∧ w.heap.size + 2 ≤ wr.heap.size)) (fun _ wr => bs.length - lenAt wr w.heap.size)
  case atStart => exact ⟨f0, po, co, B0⟩
  case round =>
    clear B0
    obtain ⟨f, p, c, HR⟩ := hrel
    obtain ⟨jf, r0, r1, rv, rf, rz⟩ := HR.out
    have k0 := cell_of r0 0
    have k0f := frozen_of r0 0
    have k1f := frozen_of r1 0
    simp at k0
    have L0 : (setL bs.length f).length ≤ 1000 := Nat.le_trans (setL_len _ _) hn
    have PB := stop (HP.out.1.keeps (Keeps.below rf))
    have OB := stop (owns_keeps HP.out.2.1 (Keeps.below (T := fun _ => True) rf) trivial)
    have CP : Hid (wr.cell? ⟨pb, 0, none⟩ = some v ∧ wr.cell? ⟨qb, 0, none⟩ = some vb) := ⟨(rf.cell (p := ⟨pb, 0, none⟩) hpw).trans HP.out.2.2.1, (rf.cell (p := ⟨qb, 0, none⟩) hqw).trans HP.out.2.2.2⟩
    have HLA : Hid (lenAt wr w.heap.size = (setL bs.length f).length) := lenAt_of k0
    have HJ := stop (jac_step bs bar f hgl.out)
    have HSL : Hid (∀ x ∈ setL bs.length f, x < bs.length) := fun x hx => (setL_mem.1 hx).1
    clear jf r0 r1 rv rf
    go_wp2_with fail
    refine (stepP bs (setL bs.length f) bar base 0 Bb pb qb v _ vb wr PB.out HR.out.2.2.2.1 OB.out CP.out.1 CP.out.2 HSL hsb hgl hn L0 hlb).mono ?_
    rintro e w5 ⟨v5, rfl, o5, f5⟩
    rw [HJ.out] at o5
    obtain ⟨p5, c5, rfl⟩ := owns_slice2 o5
    have L5 : (setL bs.length (jac (suF bs) (hasF bar) bs.length f)).length ≤ 1000 := Nat.le_trans (setL_len _ _) hn
    have O5 := stop (And.intro o5 f5)
    have s5 := f5.size
    have q0 : w5.heap[w.heap.size]? = some (.cells #[.slice p (setL bs.length f).length c] 86 (0, 0)) := by rw [f5.block _ (by omega)]; exact HR.out.2.1
    have y0 : ∀ o, (w5.alloc o).cell? ⟨w.heap.size, 0, none⟩ = some (.slice p (setL bs.length f).length c) := fun o => by have := cell_of (blk_alloc q0 o) 0; simpa using this
    clear o5 f5 k0 k0f k1f PB OB CP HSL HJ q0
    go_wp2_with fail
    obtain ⟨W6, hW6⟩ : ∃ W6, W6 = w5.alloc (.cells #[.slice p5 (setL bs.length (jac (suF bs) (hasF bar) bs.length f)).length c5] 86) := ⟨_, rfl⟩
    rw [← hW6]
    have f6 : Below w5.heap.size w5 W6 := by rw [hW6]; exact (Below.refl _ _).alloc (Nat.le_refl _) _
    have g6 : W6.heap[w5.heap.size]? = some (.cells #[.slice p5 (setL bs.length (jac (suF bs) (hasF bar) bs.length f)).length c5] 86 (0, 0)) := by rw [hW6]; exact heap_alloc_last _ _
    have hz6 : W6.heap.size = w5.heap.size + 1 := by rw [hW6, World.size_alloc]
    have f36 := O5.out.2.trans (f6.mono s5)
    refine (sameB (setL bs.length (jac (suF bs) (hasF bar) bs.length f)) (setL bs.length f) wr.heap.size 0 _ _ W6 (owns_keeps O5.out.1 (Keeps.below (T := fun _ => True) f6) trivial) (owns_keeps HR.out.2.2.2.1 (Keeps.below (T := fun _ => True) f36) trivial) (by omega) (by omega)).mono ?_
    rintro e w7 ⟨rfl, f7⟩
    have f37 := f36.trans (f7.mono (by omega))
    have g7 : w7.heap[w5.heap.size]? = some (.cells #[.slice p5 (setL bs.length (jac (suF bs) (hasF bar) bs.length f)).length c5] 86 (0, 0)) := by rw [f7.block _ (by omega)]; exact g6
    have r0 : w7.heap[w.heap.size]? = some (.cells #[.slice p (setL bs.length f).length c] 86 (0, 0)) := by rw [f37.block _ (by omega)]; exact HR.out.2.1
    have r1 : w7.heap[w.heap.size + 1]? = some (.cells #[.slice none 0 0] 86 (0, 0)) := by rw [f37.block _ (by omega)]; exact HR.out.2.2.1
    have o7 := owns_keeps O5.out.1 (Keeps.below (T := fun _ => True) (f6.trans (f7.mono (by omega)))) trivial
    have z5 := cell_of g7 0
    have z0 := cell_of r0 0
    have z0f := frozen_of r0 0
    have z1 := cell_of r1 0
    have z1f := frozen_of r1 0
    have s7 := f37.size
    simp at z5 z0 z1
    have ff : Below w.heap.size w w7 := HR.out.2.2.2.2.1.trans (f37.mono (by omega))
    by_cases heq : setL bs.length (jac (suF bs) (hasF bar) bs.length f) = setL bs.length f
    · have he : eqF (setL bs.length (jac (suF bs) (hasF bar) bs.length f)) (setL bs.length f) = true := by rw [eqF, heq]; simp
      rw [he]
      have HD : Hid (setL bs.length (jac (suF bs) (hasF bar) bs.length f) = setL bs.length (rchF (suF bs) bs.length (hasF bar))) := by
        rw [heq]; exact jac_done HR.out.1 hn0 (suF_lt hgl.out) heq
      have F8 : Hid ((w7.setCell ⟨w.heap.size + 1, 0, none⟩ (.slice p5 (setL bs.length (jac (suF bs) (hasF bar) bs.length f)).length c5)).ownsRow w.heap.size 92 1 (.slice p5 (setL bs.length (jac (suF bs) (hasF bar) bs.length f)).length c5) (setL bs.length (jac (suF bs) (hasF bar) bs.length f)).length (icell (setL bs.length (jac (suF bs) (hasF bar) bs.length f))) ∧ Below w.heap.size w (w7.setCell ⟨w.heap.size + 1, 0, none⟩ (.slice p5 (setL bs.length (jac (suF bs) (hasF bar) bs.length f)).length c5))) :=
        ⟨owns_base (owns_setT o7 r1 (by decide)) (by omega), below_set ff _ _ _ (by omega)⟩
      clear heq he f6 g6 hW6 f36 f7 f37 g7 r0 r1 o7 ff O5 HR HLA hmt y0
      go_wp2_with fail
      refine bodyPost_ret (v := .agg #[.slice p5 (setL bs.length (jac (suF bs) (hasF bar) bs.length f)).length c5]) (by simp [results, Tryz.results112, go_sem, z1]) rfl ⟨_, rfl, ?_, ?_⟩
      · rw [← HD.out]; exact F8.out.1
      · exact F8.out.2
    · have he : eqF (setL bs.length (jac (suF bs) (hasF bar) bs.length f)) (setL bs.length f) = false := by simpa [eqF] using heq
      rw [he]
      have HL : Hid ((setL bs.length f).length < (setL bs.length (jac (suF bs) (hasF bar) bs.length f)).length) := HR.out.1.less heq
      have hlt : (setL bs.length (jac (suF bs) (hasF bar) bs.length f)).length ≤ bs.length := setL_len _ _
      have F8 : Hid (JacOk (suF bs) (hasF bar) bs.length (jac (suF bs) (hasF bar) bs.length f) ∧ (w7.setCell ⟨w.heap.size, 0, none⟩ (.slice p5 (setL bs.length (jac (suF bs) (hasF bar) bs.length f)).length c5)).heap[w.heap.size]? = some (.cells #[.slice p5 (setL bs.length (jac (suF bs) (hasF bar) bs.length f)).length c5] 86 (0, 0)) ∧ (w7.setCell ⟨w.heap.size, 0, none⟩ (.slice p5 (setL bs.length (jac (suF bs) (hasF bar) bs.length f)).length c5)).heap[w.heap.size + 1]? = some (.cells #[.slice none 0 0] 86 (0, 0)) ∧ (w7.setCell ⟨w.heap.size, 0, none⟩ (.slice p5 (setL bs.length (jac (suF bs) (hasF bar) bs.length f)).length c5)).ownsRow 0 92 1 (.slice p5 (setL bs.length (jac (suF bs) (hasF bar) bs.length f)).length c5) (setL bs.length (jac (suF bs) (hasF bar) bs.length f)).length (icell (setL bs.length (jac (suF bs) (hasF bar) bs.length f))) ∧ Below w.heap.size w (w7.setCell ⟨w.heap.size, 0, none⟩ (.slice p5 (setL bs.length (jac (suF bs) (hasF bar) bs.length f)).length c5)) ∧ w.heap.size + 2 ≤ (w7.setCell ⟨w.heap.size, 0, none⟩ (.slice p5 (setL bs.length (jac (suF bs) (hasF bar) bs.length f)).length c5)).heap.size) :=
        ⟨HR.out.1.step, blk_set r0 _ _, blk_setOther r1 (by omega) _ _, owns_base (owns_setT o7 r0 (by decide)) (Nat.zero_le _), below_set ff _ _ _ (Nat.le_refl _), by rw [size_set]; omega⟩
      have HLB : Hid (lenAt (w7.setCell ⟨w.heap.size, 0, none⟩ (.slice p5 (setL bs.length (jac (suF bs) (hasF bar) bs.length f)).length c5)) w.heap.size = (setL bs.length (jac (suF bs) (hasF bar) bs.length f)).length) := lenAt_of (World.cell?_setCell_same _ _ _ z0)
      clear heq he f6 g6 hW6 f36 f7 f37 g7 r0 r1 o7 ff O5 HR hmt y0
      go_wp2_with fail
      go_roundw
      case rel => exact ⟨_, _, _, F8⟩
      case measure => rw [HLA.out, HLB.out]; have := HL.out; omega

end Go.Proofs.YtgfhfkgdmidhpaaGreat

namespace Go.Proofs.YtgfhfkgdmidhpaaGreat
open Go.RowKit

theorem ofL_one (x : Nat) : ofL [x] = [x] := srt_ext (ofL_srt _) (List.pairwise_singleton _ _) fun _ => ofL_mem
theorem dif_zero {n : Nat} (hn : 0 < n) (bar : List Nat) : dif [0] bar = setL n (jac0 (hasF bar)) := by
  refine setL_of (dif_srt (List.pairwise_singleton _ _)) fun x => ?_
  rw [dif_mem, List.mem_singleton]
  have hb : x ∉ bar ↔ hasF bar x = false := by rw [← hasF_iff]; simp
  rw [hb]
  simp only [jac0, start0, Bool.and_eq_true, beq_iff_eq, Bool.not_eq_true']
  constructor
  · rintro ⟨rfl, h⟩; exact ⟨hn, rfl, h⟩
  · rintro ⟨_, h⟩; exact h

set_option maxRecDepth 100000 in
set_option maxHeartbeats 4000000 in
theorem reachedP (bs : List RBlk) (bar : List Nat) (base Bb : Nat) (v vb : Value) (w : World) (h : PBs w base bs v) (hb : w.ownsRow Bb 92 1 vb bar.length (icell bar))
    (hsb : Hid (bar.Pairwise (· < ·))) (hgl : Hid (∀ b ∈ bs, ∀ p ∈ goalsF b.e, p.1 < bs.length)) (hn0 : 0 < bs.length) (hn : bs.length ≤ 1000) (hlb : bar.length ≤ 1000) :
    Calls Tryz.prog 73 #[v, .agg #[vb]] w fun x w' => ∃ v', x = .returned (.agg #[v']) ∧ w'.ownsRow w.heap.size 92 1 v' (setL bs.length (rchF (suF bs) bs.length (hasF bar))).length (icell (setL bs.length (rchF (suF bs) bs.length (hasF bar)))) ∧ Below w.heap.size w w' := by
  obtain ⟨pv, cv, rfl⟩ := h.slice
  obtain ⟨pr, cr, rfl⟩ := owns_slice2 hb
  have HP := stop (And.intro h hb)
  have hmf : ∀ (fn : Fn) (first cap : Array Value) (w : World), (Instr.makeFunc fn first cap).run Tryz.prog w = .ok (.func fn first cap) w := fun _ _ _ _ => rfl
  clear h hb
  go_enter Tryz.func73, Tryz.ntmps73
  go_wp2_with fail
  obtain ⟨W3, hW3⟩ : ∃ W3, W3 = ((w.alloc (.cells #[.slice pv bs.length cv] 44)).alloc (.cells #[.slice pr bar.length cr] 86)).alloc (.cells #[.slice none 0 0] 86) := ⟨_, rfl⟩
  rw [← hW3]
  obtain ⟨g0, g1, g2, hz, f3⟩ := three w (.cells #[.slice pv bs.length cv] 44) (.cells #[.slice pr bar.length cr] 86) (.cells #[.slice none 0 0] 86)
  rw [← hW3] at g0 g1 g2 hz f3
  clear hW3
  have o4 := owns_new W3 W3.heap.size 92 1 1 #[.int .i64 0] (Nat.le_refl _) rfl (by decide)
  rw [show w.heap.size + 1 + 1 + 1 = W3.heap.size by omega]
  have o4' : (W3.alloc (.cells #[.int .i64 0] 92)).ownsRow W3.heap.size 92 1 (.slice (some ⟨W3.heap.size, 0, none⟩) 1 1) ([0] : List Nat).length (icell [0]) := o4
  refine (ofB [0] W3.heap.size _ _ o4' (by simp)).mono ?_
  rintro e w5 ⟨v5, rfl, o5, f5⟩
  rw [ofL_one] at o5
  obtain ⟨p5, c5, rfl⟩ := owns_slice2 o5
  have f35 : Below W3.heap.size W3 w5 := ((Below.refl _ _).alloc (Nat.le_refl _) _).trans (f5.mono (by rw [World.size_alloc]; omega))
  have s5 := f35.size
  have q0 : w5.heap[w.heap.size]? = some (.cells #[.slice pv bs.length cv] 44 (0, 0)) := by rw [f35.block _ (by omega)]; exact g0
  have q1 : w5.heap[w.heap.size + 1]? = some (.cells #[.slice pr bar.length cr] 86 (0, 0)) := by rw [f35.block _ (by omega)]; exact g1
  have q2 : w5.heap[w.heap.size + 1 + 1]? = some (.cells #[.slice none 0 0] 86 (0, 0)) := by rw [f35.block _ (by omega)]; exact g2
  have y1 : ∀ o, (w5.alloc o).cell? ⟨w.heap.size + 1, 0, none⟩ = some (.slice pr bar.length cr) := fun o => by have := cell_of (blk_alloc q1 o) 0; simpa using this
  have O5 := stop (And.intro o5 (And.intro f35 (And.intro q0 (And.intro q1 (And.intro q2 f3)))))
  clear g0 g1 g2 f3 o4 o4' o5 f5 f35 q0 q1 q2
  go_wp2_with fail
  obtain ⟨W6, hW6⟩ : ∃ W6, W6 = w5.alloc (.cells #[.slice p5 1 c5] 86) := ⟨_, rfl⟩
  rw [← hW6]
  obtain ⟨o5, f35, q0, q1, q2, f3⟩ := O5.out
  have f6 : Below w5.heap.size w5 W6 := by rw [hW6]; exact (Below.refl _ _).alloc (Nat.le_refl _) _
  have f36 := f35.trans (f6.mono s5)
  have fw6 := f3.trans (f36.mono (by omega))
  have s6 := f36.size
  refine (minusB [0] bar _ Bb _ _ W6 (owns_keeps o5 (Keeps.below (T := fun _ => True) f6) trivial) (owns_keeps HP.out.2 (Keeps.below (T := fun _ => True) fw6) trivial) hsb (by simp) (by omega)).mono ?_
  rintro e w7 ⟨v7, rfl, o7, f7⟩
  rw [dif_zero hn0] at o7
  have s7 := f7.size
  have f37 := f36.trans (f7.mono s6)
  have fw7 := f3.trans (f37.mono (by omega))
  obtain ⟨p7, c7, rfl⟩ := owns_slice2 o7
  have O7 : Hid (w7.ownsRow W6.heap.size 92 1 (.slice p7 (setL bs.length (jac0 (hasF bar))).length c7) (setL bs.length (jac0 (hasF bar))).length (icell (setL bs.length (jac0 (hasF bar)))) ∧ PBs w7 base bs (.slice pv bs.length cv) ∧ w7.ownsRow Bb 92 1 (.slice pr bar.length cr) bar.length (icell bar) ∧ w7.cell? ⟨w.heap.size, 0, none⟩ = some (.slice pv bs.length cv) ∧ w7.cell? ⟨w.heap.size + 1, 0, none⟩ = some (.slice pr bar.length cr) ∧ w7.heap[w.heap.size + 1 + 1]? = some (.cells #[.slice none 0 0] 86 (0, 0)) ∧ Below w.heap.size w w7) := by
    have e0 : w7.heap[w.heap.size]? = some (.cells #[.slice pv bs.length cv] 44 (0, 0)) := by rw [f7.block _ (by omega), f6.block _ (by omega)]; exact q0
    have e1 : w7.heap[w.heap.size + 1]? = some (.cells #[.slice pr bar.length cr] 86 (0, 0)) := by rw [f7.block _ (by omega), f6.block _ (by omega)]; exact q1
    have e2 : w7.heap[w.heap.size + 1 + 1]? = some (.cells #[.slice none 0 0] 86 (0, 0)) := by rw [f7.block _ (by omega), f6.block _ (by omega)]; exact q2
    exact ⟨o7, HP.out.1.keeps (Keeps.below fw7), owns_keeps HP.out.2 (Keeps.below (T := fun _ => True) fw7) trivial, by have := cell_of e0 0; simpa using this, by have := cell_of e1 0; simpa using this, e2, fw7⟩
  clear O5 o5 f35 q0 q1 q2 f3 f6 f36 fw6 f7 f37 fw7 o7 hW6 y1
  go_wp2_with fail
  refine (settleP bs (jac0 (hasF bar)) bar base _ Bb _ _ _ _ _ w7 O7.out.2.1 O7.out.1 O7.out.2.2.1 O7.out.2.2.2.1 O7.out.2.2.2.2.1 (JacOk.start _ _ _) hsb hgl hn0 hn hlb).mono ?_
  rintro e w8 ⟨v8, rfl, o8, f8⟩
  obtain ⟨p8, c8, rfl⟩ := owns_slice2 o8
  have g8 : w8.heap[w.heap.size + 1 + 1]? = some (.cells #[.slice none 0 0] 86 (0, 0)) := by rw [f8.block _ (by omega)]; exact O7.out.2.2.2.2.2.1
  have k2 := cell_of g8 0
  have k2f := frozen_of g8 0
  simp at k2
  have F8 := stop (And.intro (owns_base (owns_setk o8 (w.heap.size + 1 + 1) 0 (.slice p8 (setL bs.length (rchF (suF bs) bs.length (hasF bar))).length c8) (by omega)) (show w.heap.size ≤ w7.heap.size by omega)) (below_set (O7.out.2.2.2.2.2.2.trans (f8.mono (by omega))) (w.heap.size + 1 + 1) 0 (.slice p8 (setL bs.length (rchF (suF bs) bs.length (hasF bar))).length c8) (by omega)))
  clear g8 f8 o8 O7
  go_wp2_with fail
  refine bodyPost_ret (v := .agg #[.slice p8 (setL bs.length (rchF (suF bs) bs.length (hasF bar))).length c8]) (by simp [results, Tryz.results73, go_sem, k2]) rfl ⟨_, rfl, ?_, ?_⟩
  · exact F8.out.1
  · exact F8.out.2

end Go.Proofs.YtgfhfkgdmidhpaaGreat
