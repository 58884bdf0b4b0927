import Derived.Test.YtgfhfkgdmidhpaaGreatDoorG07
import Derived.Deep.RegionLaw
namespace Go.Proofs.YtgfhfkgdmidhpaaGreatDoor
open Go.RowKit

/-- append of one element that lies in a new block, at a step of a region that draws its order. -/
theorem step1 {t e : TypeId} {z : Value} {size bytes : Nat} (ht : Tryz.prog.underlying t = some (.slice e)) (hi : (Tryz.prog.info? e).map (fun i => (i.zero, i.size, i.bytes)) = some (some z, size, bytes)) (hzs : z.cells.size = size) (hsz : 0 < size) (hby : bytes ≤ 1000)
    {ops : Array Oper} {o : Oper} {a : Act} {K : Act → World → Prop} {Q : Exit → Act → World → Prop} {E : Prop} {w : World} (hgd : o.guard = none) (s x : Operand)
    (ho : o.op = .call { callee := .builtin .append, args := #[s, x], argTypes := #[t, t] })
    {base : Nat} {v : Value} {n : Nat} {xs : List Value} (hs : a.eval s = v) (hown : w.ownsRow base e size v n xs)
    {B : Nat} {cs : Array Value} {tt : TypeId} {fr : Nat × Nat} (hB : w.heap[B]? = some (.cells cs tt fr)) (hx : a.eval x = .slice (some ⟨B, 0, none⟩) 1 1) (hl : cs.size = size) (h1 : ∀ u ∈ cs.toList, u.oneCell' = true)
    (hn : n ≤ 1000000) (hbase : base ≤ w.heap.size)
    (h : ∀ v' w', w'.ownsRow base e size v' (n + 1) (xs ++ cs.toList) → w.grownBy w' v.ownBlock → K (a.put o.dst v') w') :
    if Region.wanted o (yielded ops a.tmps) = true then Oper.wp Tryz.prog o a w K Q else E := by
  obtain ⟨I, Hi, Hz, Hs, Hb⟩ := info_parts hi
  have hw : Region.wanted o (yielded ops a.tmps) = true := by simp [Region.wanted, hgd]
  rw [if_pos hw]
  refine wp_append_own w s x t ho base e I z size bytes ht Hi Hz Hs Hb hzs hsz v n xs hs hown ⟨B, 0, none⟩ 1 1 cs.toList hx (by simpa using hl) (World.news_of_block hB) h1 (by unfold maxLen; omega) ?_ hbase (fun v' w' h1 h2 _ => h v' w' h1 h2)
  have : (n + 1) * bytes ≤ 1000001 * 1000 := Nat.mul_le_mul (by omega) hby
  omega
/-- A call of a Go function, at a step of a region that draws its order. -/
theorem stepC {ops : Array Oper} {o : Oper} {a : Act} {K : Act → World → Prop} {Q : Exit → Act → World → Prop} {E : Prop} {w : World} (hgd : o.guard = none) (f : FuncId) (args : Array Value)
    (hr : (execOp a.eval o).run Tryz.prog w = .ok (.enter f args) w)
    {R : Ending → World → Prop} (h : Calls Tryz.prog f args w R) (hk : ∀ e w'', R e w'' → match e, w'' with | .returned v, w'' => K (a.put o.dst v) w'' | .panicked c, w'' => Q (.panic c) a w'' | .outgrown, _ => LetsOut Q) :
    if Region.wanted o (yielded ops a.tmps) = true then Oper.wp Tryz.prog o a w K Q else E := by
  have hw : Region.wanted o (yielded ops a.tmps) = true := by simp [Region.wanted, hgd]
  rw [if_pos hw]
  unfold Oper.wp
  rw [hr]
  exact h.mono hk
theorem never2 {f : FuncId} {args : Array Value} {w : World} {R : Ending → World → Prop} (h : Calls Tryz.prog f args w R) (v : Value) : Calls Tryz.prog f args w fun e w' => R e w' ∨ (e = .returned v ∧ w' = w ∧ Hid False) :=
  h.mono fun _ _ h => .inl h
theorem step_never {ops : Array Oper} {o : Oper} {a : Act} {K : Act → World → Prop} {Q : Exit → Act → World → Prop} {E : Prop} {w : World} (hF : Hid False) (v : Value) (_h : K (a.put o.dst v) w) :
    if Region.wanted o (yielded ops a.tmps) = true then Oper.wp Tryz.prog o a w K Q else E := hF.out.elim
def rdI (w : World) (b : Nat) : Nat := match w.cell? ⟨b, 2, none⟩, w.cell? ⟨b, 1, none⟩ with
  | some (.int _ k), some (.slice (some a) _ _) => (match w.cell? ⟨a.block, k.toNat * 2, none⟩ with | some (.int _ i) => i.toNat | _ => 0)
  | _, _ => 0
theorem RS.rdI {w b g s i} (h : RS w b g s i) : rdI w b = i := by
  obtain ⟨ms, k, cap, hm, ⟨hk, rfl⟩, hr⟩ := h
  simp [YtgfhfkgdmidhpaaGreatDoor.rdI, hr.c1, hr.c2, hr.m0 hk]

def srcCells (gs rs : List (Nat × Nat)) : List Value := (List.zipWith (fun g r => pc g ++ pc r) gs rs).flatten
theorem srcCells_snoc {gs rs : List (Nat × Nat)} (h : gs.length = rs.length) (g r : Nat × Nat) : srcCells (gs ++ [g]) (rs ++ [r]) = srcCells gs rs ++ [.int .i64 g.1, .int .i64 g.2, .int .i64 r.1, .int .i64 r.2] := by
  simp [srcCells, List.zipWith_append h, pc]
theorem Tryz.info147 : (Tryz.prog.info? 147).map (fun i => (i.zero, i.size, i.bytes)) = some (some (.agg #[.int .i64 0, .int .i64 0, .int .i64 0, .int .i64 0]), 4, 32) := by kernel_rfl
/-- A choice behind its sign. -/
def choT (s : ByteArray) (i : Nat) : Cho := choGo s (s.size + 1) ⟨[], [], i, -1⟩
theorem choF_yes {s i} (h : onF s i (-1) 64 = true) : choF s i (-1) = choT s (i + 1) := by
  have g1 : gotI s i (-1) 64 = i + 1 := by rw [gotI, if_pos h]
  have g2 : mustB s i (-1) 64 = -1 := by rw [mustB, if_pos h]
  simp only [choF, choT, g1, g2]
theorem cho_bad {s k c R} (hk : 0 < k) (h : choSt s true k c = R) (hb : 0 ≤ (choR s c).bad) : R.bad = (choR s c).bad := by
  rw [choSt_step hk, st_on hb] at h
  rw [← h]; rfl
def ChoPost (b g : Nat) (s : ByteArray) (tn ta : Nat) (w : World) (r : Cho) (e : Ending) (w' : World) : Prop :=
  (∃ vs, e = .returned (.agg #[.int .i64 tn, .int .i64 ta, vs]) ∧ r.bad = -1 ∧ r.gs.length = r.rs.length ∧ w'.ownsRow w.heap.size 147 4 vs r.gs.length (srcCells r.gs r.rs) ∧ RS w' b g s r.i ∧ Fr b w w') ∨ (e = .panicked (brk r.bad) ∧ 0 ≤ r.bad ∧ Fr b w w')

set_option maxRecDepth 100000 in
set_option maxHeartbeats 8000000 in
theorem choice2_any {b g : Nat} {s : ByteArray} {i tn ta : Nat} {w : World} (hp : RS w b g s i) (hs : s.size ≤ 200000) :
    Calls Tryz.prog 221 #[.pointer (some ⟨b,0,none⟩), .agg #[.int .i64 tn, .int .i64 ta]] w fun e w' => ChoPost b g s tn ta w (choT s i) e w' := by
  have hl := hp.lt
  have hgl := hp.glt
  have hi := hp.le
  go_enter Tryz.func221, Tryz.ntmps221
  go_wp2_with fail
  go_loopw [6] (fun _ wr => ∃ (k : Nat) (c : Cho) (vs : Value), s.size < k + c.i ∧ c.i ≤ s.size ∧ c.gs.length ≤ c.i ∧ Hid (c.gs.length = c.rs.length) ∧ c.bad = -1 ∧ Hid (choSt s true k c = choT s i) ∧
      wr.heap[w.heap.size + 1]? = some (.cells #[.int .i64 0, .int .i64 0, .slice none 0 0] 140 (0, 0)) ∧ wr.heap[w.heap.size + 2]? = some (.cells #[.int .i64 tn, .int .i64 ta, vs] 140 (0, 0)) ∧
      wr.ownsRow (w.heap.size + 3) 147 4 vs c.gs.length (srcCells c.gs c.rs) ∧ RS wr b g s c.i ∧ Hid (Fr b w wr) ∧ w.heap.size + 3 ≤ wr.heap.size) (fun _ wr => s.size - rdI wr b)
  case atStart =>
    refine ⟨s.size + 1, ⟨[], [], i, -1⟩, _, by show _ < _; omega, hi, by simp, rfl, rfl, rfl, ?_, ?_, World.ownsRow_nil _ _ _ _, ((hp.alloc _).alloc _).alloc _, (((Fr.refl _ _).alloc _).alloc _).alloc _, by simp⟩
    · rw [Below.heap_alloc _ _ _ (by simp)]
      simpa using heap_alloc_last (w.alloc _) _
    · simpa using heap_alloc_last ((w.alloc _).alloc _) _
  case round =>
    obtain ⟨k, c, vs, hk, hci, hcl, HL, hcb, HR, G1, G2, O, P, F, hz⟩ := hrel
    have HRI : Hid (rdI wr b = c.i) := P.rdI
    have HK : Hid (0 < k) := by show 0 < k; omega
    have HCB := stop hcb
    obtain ⟨pv, cv, rfl⟩ := owns_slice2 O
    clear hp hcb
    cases hd : digF s c.i (-1) with
    | false =>
      have HB : Hid ((choT s i).bad = c.i) := by
        have e1 : (choR s c).bad = c.i := by
          have g1 : numB s c.i c.bad = c.i := by rw [HCB.out, numB1, hd]; rfl
          simp only [choR, g1]
          rw [st_regB, st_must]
          · omega
          · rw [st_must (by omega)]; omega
        show _ = _
        rw [cho_bad HK.out HR.out (by rw [e1]; omega), e1]
      have HD := stop hd
      clear hd
      go_wp2_with fail
      refine (goal_no P HD.out).mono ?_
      rintro e w1 ⟨rfl, f1⟩
      go_wp2_with fail
      exact ⟨rfl, .inr ⟨by rw [HB.out], by rw [HB.out]; omega, F.out.trans f1⟩⟩
    | true =>
      have HD := stop hd
      clear hd
      go_wp2_with fail
      refine (goal_yes P hs HD.out).mono ?_
      rintro e w1 ⟨rfl, P1, f1⟩
      replace G1 := blk_fr f1 G1 (by omega)
      replace G2 := blk_fr f1 G2 (by omega)
      replace O := owns_fr O f1 (by omega)
      replace F := stop (F.out.trans f1)
      have hz1 : w.heap.size + 3 ≤ w1.heap.size := Nat.le_trans hz f1.size
      have hi1 := numI_le (bad := -1) hci
      have hi1g := numI_ge (s := s) (i := c.i) (bad := -1)
      generalize hI1 : numI s c.i (-1) = i1 at *
      have HI1 := stop hI1
      generalize hN1 : numN s c.i (-1) = n1 at *
      have HN1 := stop hN1
      clear f1 P hz hI1 hN1
      go_wp2_with fail
      cases h58 : onF s i1 (-1) 58 with
      | false =>
        have HB : Hid ((choT s i).bad = i1) := by
          have e1 : (choR s c).bad = i1 := by
            have g1 : numB s c.i c.bad = -1 := by rw [HCB.out, numB1, HD.out]; rfl
            have g2 : numI s c.i c.bad = i1 := by rw [HCB.out]; exact HI1.out
            have g3 : mustB s i1 (-1) 58 = i1 := by rw [mustB1, h58]; rfl
            simp only [choR, g1, g2, g3]
            exact st_regB (by omega)
          show _ = _
          rw [cho_bad HK.out HR.out (by rw [e1]; omega), e1]
        refine (want_no (c := 58) (P1.alloc _) (by decide) h58).mono ?_
        rintro e w2 ⟨rfl, f2⟩
        clear h58
        go_wp2_with fail
        exact ⟨rfl, .inr ⟨by rw [HB.out], by rw [HB.out]; omega, (F.out.alloc _).trans f2⟩⟩
      | true =>
        have h58l := (onF_lt h58).2.1
        refine (want_yes (c := 58) (P1.alloc _) hs (by decide) h58).mono ?_
        rintro e w2 ⟨rfl, P2, f2⟩
        have l1 := P1.lt
        have gg := f2.own (by omega)
        replace G1 := blk_fr f2 (blk_alloc G1 _) (by omega)
        replace G2 := blk_fr f2 (blk_alloc G2 _) (by omega)
        replace O := owns_fr (O.alloc _) f2 (by omega)
        replace F := stop ((F.out.alloc _).trans f2)
        have hz2 : w1.heap.size + 1 ≤ w2.heap.size := by simpa using f2.size
        have HS58 : Hid (gotI s i1 (-1) 58 = i1 + 1 ∧ mustB s i1 (-1) 58 = -1) := ⟨by rw [gotI, if_pos h58], by rw [mustB, if_pos h58]⟩
        clear f2 h58 P1
        have a0 := cell_of gg 0
        have a1 := cell_of gg 1
        have b2 := cell_of G2 2
        have b2z := frozen_of G2 2
        simp at a0 a1 b2
        have k1 : w1.heap.size < w2.heap.size := by omega
        have k2 : w.heap.size + 1 + 1 < w2.heap.size := by omega
        have n1' : w1.heap.size ≠ b := by omega
        have n2 : w.heap.size + 1 + 1 ≠ b := by omega
        have HCR : choR s c = ⟨c.gs ++ [(n1, c.i)], c.rs ++ [(regN s (i1 + 1) (-1), i1 + 1)], regI s (i1 + 1) (-1), regB s (i1 + 1) (-1)⟩ := by
          have g1 : numB s c.i c.bad = -1 := by rw [HCB.out, numB1, HD.out]; rfl
          have g2 : numI s c.i c.bad = i1 := by rw [HCB.out]; exact HI1.out
          have g3 : numN s c.i c.bad = n1 := by rw [HCB.out]; exact HN1.out
          simp only [choR, g1, g2, g3, HS58.out.1, HS58.out.2]
        have HCR' := stop HCR
        clear HCR HS58
        go_wp2_with fail
        rcases Int.lt_or_le (regB s (i1 + 1) (-1)) 0 with h3 | h3
        · have H3 := stop h3
          have HB3 := stop (regOk h3).2.2.1
          clear h3
          have FA : Hid (∀ w5 : World, Fr b w2.drew w5 → w5.heap[w.heap.size + 1]? = some (.cells #[.int .i64 0, .int .i64 0, .slice none 0 0] 140 (0, 0)) ∧ w5.heap[w.heap.size + 2]? = some (.cells #[.int .i64 tn, .int .i64 ta, .slice pv c.gs.length cv] 140 (0, 0)) ∧ w5.ownsRow (w.heap.size + 3) 147 4 (.slice pv c.gs.length cv) c.gs.length (srcCells c.gs c.rs) ∧ w.heap.size + 3 ≤ w5.heap.size ∧ Fr b w w5) := fun w5 f5 =>
            ⟨blk_fr (w := w2.drew) f5 G1 (by omega), blk_fr (w := w2.drew) f5 G2 (by omega), owns_fr (w := w2.drew) O f5 (by omega), Nat.le_trans (show w.heap.size + 3 ≤ w2.drew.heap.size from by show _ ≤ w2.heap.size; omega) f5.size, F.out.drew.trans f5⟩
          go_region_law (first | (refine stepC rfl 199 #[.pointer (some ⟨b, 0, none⟩)] (by go_simp) (reg_yes (RS.drew P2) hs H3.out) ?_; rintro e w5 ⟨rfl, P5, f5⟩; have y0 := f5.cells (k := w1.heap.size) k1 n1'; have y1 := f5.cells (k := w.heap.size + 1 + 1) k2 n2; obtain ⟨q1, q2, q3, q4, q5⟩ := FA.out _ f5; have z5 := frozen_of q2 2; have l5 : w.heap.size + 1 + 1 < w5.heap.size := (by omega); have l5b : w1.heap.size < w5.heap.size := Nat.lt_of_lt_of_le k1 f5.size; have Q1 := stop q1; have Q2 := stop q2; have Q5 := stop q5; clear q1 q2 q5) | (refine step1 Tryz.underlying138 Tryz.info147 rfl (by decide) (by decide) rfl _ _ rfl rfl (q3.alloc _) (heap_alloc_last w5 _) rfl rfl (List.all_eq_true.1 rfl) (by omega) (by rw [World.size_alloc]; omega) ?_; intro v6 w6 o6 gr6; obtain ⟨p6, c6, rfl⟩ := owns_slice2 o6; have q6 := blk_grown gr6 (blk_alloc Q2.out _) (fun j hj => by have := (q3.lt j hj).1; omega); have z6 := frozen_of q6 2; have x6 := cell_of q6 2; have Q6 := stop q6; clear q6) | fail)
          all_goals
            have r6 : ∀ j, (Value.slice pv c.gs.length cv).ownBlock = some j → w.heap.size + 3 ≤ j := fun j hj => (q3.lt j hj).1
            have G1a := blk_setOther (j := w.heap.size + 1 + 1) (blk_grown gr6 (blk_alloc Q1.out _) (fun j hj => by have := r6 j hj; omega)) (by omega) 2 (.slice p6 (c.gs.length + 1) c6)
            have G2a : (w6.setCell ⟨w.heap.size + 1 + 1, 2, none⟩ (.slice p6 (c.gs.length + 1) c6)).heap[w.heap.size + 2]? = some (.cells #[.int .i64 tn, .int .i64 ta, .slice p6 (c.gs.length + 1) c6] 140 (0, 0)) := blk_set Q6.out 2 _
            have Oa := owns_setk o6 (w.heap.size + 1 + 1) 2 (.slice p6 (c.gs.length + 1) c6) (by omega)
            have Pa := (RS.grown (P5.alloc _) gr6 (fun j hj => by have := r6 j hj; constructor <;> omega)).setk (w.heap.size + 1 + 1) 2 (.slice p6 (c.gs.length + 1) c6) (by omega) (by omega)
            have Fa := (Fr.grown (Q5.out.alloc _) gr6 (fun j hj => by have := r6 j hj; omega)).setk (w.heap.size + 1 + 1) 2 (.slice p6 (c.gs.length + 1) c6) (by omega)
            have Za : w.heap.size + 3 ≤ (w6.setCell ⟨w.heap.size + 1 + 1, 2, none⟩ (.slice p6 (c.gs.length + 1) c6)).heap.size := by
              rw [size_set]; have := gr6.size; rw [World.size_alloc] at this; omega
            replace Oa : (w6.setCell ⟨w.heap.size + 1 + 1, 2, none⟩ (.slice p6 (c.gs.length + 1) c6)).ownsRow (w.heap.size + 3) 147 4 (.slice p6 (c.gs.length + 1) c6) (c.gs.length + 1) (srcCells (c.gs ++ [(n1, c.i)]) (c.rs ++ [(regN s (i1 + 1) (-1), i1 + 1)])) := by
              rw [srcCells_snoc HL.out]; exact Oa
            clear gr6 r6 o6 x6 z6 Q6 Q1 Q2 Q5 P5 q3 q4 f5 y0 y1 z5 l5 l5b a0 a1 b2 b2z k1 k2 n1' n2 P2 G1 G2 O F FA gg
            generalize w6.setCell ⟨w.heap.size + 1 + 1, 2, none⟩ (.slice p6 (c.gs.length + 1) c6) = w7 at *
            have hr1 := regI_le (bad := -1) (show i1 + 1 ≤ s.size by omega)
            have hr2 := regI_ge (s := s) (i := i1 + 1) (bad := -1)
            have HST := stop (HR.out.symm.trans (choSt_step HK.out))
            have HCI : Hid ((choR s c).i = regI s (i1 + 1) (-1)) := by show _ = _; rw [HCR'.out]
            have HCB2 : Hid ((choR s c).bad = -1) := by show _ = _; rw [HCR'.out]; exact HB3.out
            have HCG : Hid ((choR s c).gs = c.gs ++ [(n1, c.i)]) := by show _ = _; rw [HCR'.out]
            have HCS : Hid ((choR s c).rs = c.rs ++ [(regN s (i1 + 1) (-1), i1 + 1)]) := by show _ = _; rw [HCR'.out]
            clear HR HCR'
            generalize regI s (i1 + 1) (-1) = i5 at *
            have hl2 : (c.gs ++ [(n1, c.i)]).length = c.gs.length + 1 := by simp
            cases h44 : onF s i5 (-1) 44 with
            | true =>
              have hlt := (onF_lt h44).2.1
              have HST2 : Hid (choSt s true (k - 1) ⟨c.gs ++ [(n1, c.i)], c.rs ++ [(regN s (i1 + 1) (-1), i1 + 1)], i5 + 1, -1⟩ = choT s i) := by
                show _ = _
                rw [HST.out, HCI.out, HCB2.out, h44]
                congr 1
                rw [← HCG.out, ← HCS.out, gotI, if_pos h44]
                exact congrArg (Cho.mk _ _ _) HCB2.out.symm
              have H44 := stop h44
              clear h44 HST
              go_wp2_with fail
              refine (skip_yes (c := 44) Pa hs (by decide) H44.out).mono ?_
              rintro e w8 ⟨rfl, P8, f8⟩
              go_wp2_with fail
              go_roundw
              case rel => exact ⟨k - 1, ⟨c.gs ++ [(n1, c.i)], c.rs ++ [(regN s (i1 + 1) (-1), i1 + 1)], i5 + 1, -1⟩, _, by show s.size < k - 1 + (i5 + 1); omega, by show i5 + 1 ≤ s.size; omega, by show (c.gs ++ [(n1, c.i)]).length ≤ i5 + 1; omega, by show (c.gs ++ _).length = (c.rs ++ _).length; simp [HL.out], rfl, HST2, blk_fr f8 G1a (by omega), blk_fr f8 G2a (by omega), by rw [hl2]; exact owns_fr Oa f8 (by omega), P8, Fa.trans f8, Nat.le_trans Za f8.size⟩
              case measure => rw [P8.rdI, HRI.out]; omega
            | false =>
              have HST2 : Hid (choT s i = ⟨c.gs ++ [(n1, c.i)], c.rs ++ [(regN s (i1 + 1) (-1), i1 + 1)], i5, -1⟩) := by
                show _ = _
                rw [HST.out, HCI.out, HCB2.out, h44, choSt, if_neg (by simp)]
                rw [← HCG.out, ← HCS.out, gotI, if_neg (by simp [h44])]
                exact congrArg (Cho.mk _ _ _) HCB2.out
              have H44 := stop h44
              clear h44 HST
              go_wp2_with fail
              refine (skip_no (c := 44) Pa (by decide) H44.out).mono ?_
              rintro e w8 ⟨rfl, P8, f8⟩
              replace G1a := blk_fr f8 G1a (by omega)
              replace G2a := blk_fr f8 G2a (by omega)
              replace Oa := owns_fr Oa f8 (by omega)
              have q1 := cell_of G1a
              have z1 := frozen_of G1a
              have q2 := cell_of G2a
              go_wp2_with fail
              refine bodyPost_ret (v := .agg #[.int .i64 tn, .int .i64 ta, .slice p6 (c.gs.length + 1) c6]) (by simp [results, Tryz.results221, go_sem, q1]) rfl (.inl ⟨_, rfl, ?_, ?_, ?_, ?_, ?_⟩)
              · rw [HST2.out]
              · rw [HST2.out]; simp [HL.out]
              · rw [HST2.out, hl2]
                exact owns_base (owns_setk (owns_setk (owns_setk Oa (w.heap.size + 1) 0 _ (by omega)) (w.heap.size + 1) 1 _ (by omega)) (w.heap.size + 1) 2 _ (by omega)) (by omega)
              · rw [HST2.out]
                exact ((P8.setk (w.heap.size + 1) 0 _ (by omega) (by omega)).setk (w.heap.size + 1) 1 _ (by omega) (by omega)).setk (w.heap.size + 1) 2 _ (by omega) (by omega)
              · exact (((Fa.trans f8).setk (w.heap.size + 1) 0 _ (by omega)).setk (w.heap.size + 1) 1 _ (by omega)).setk (w.heap.size + 1) 2 _ (by omega)
        · have H3 := stop h3
          have HB : Hid ((choT s i).bad = regB s (i1 + 1) (-1)) := by
            show _ = _
            rw [cho_bad HK.out HR.out (by rw [HCR'.out]; exact h3), HCR'.out]
          clear h3
          have FIN : Hid (∀ w5, Fr b w2.drew w5 → ChoPost b g s tn ta w (choT s i) (.panicked (brk (regB s (i1 + 1) (-1)))) w5) := fun w5 f5 =>
            .inr ⟨by rw [HB.out], by rw [HB.out]; exact H3.out, F.out.drew.trans f5⟩
          go_region_law (first | (refine stepC rfl 199 #[.pointer (some ⟨b, 0, none⟩)] (by go_simp) (never2 (reg_no (RS.drew P2) hs H3.out) (.agg #[.int .i64 0, .int .i64 0])) ?_; rintro e w5 (⟨rfl, f5⟩ | ⟨rfl, rfl, hF⟩); exact ⟨rfl, FIN.out _ f5⟩) | (refine step_never hF (.slice none 0 0) ?_) | fail)
          all_goals exact hF.out.elim
end Go.Proofs.YtgfhfkgdmidhpaaGreatDoor

namespace Go.Proofs.YtgfhfkgdmidhpaaGreatDoor
open Go.RowKit

def PChAll (w : World) (base : Nat) : List RCho → List Value → Prop
  | [], [] => True
  | c :: cs, v :: vs => (c.gs.length = c.rs.length ∧ w.ownsRow base 147 4 v c.gs.length (srcCells c.gs c.rs)) ∧ PChAll w base cs vs
  | _, _ => False
def pchCell (c : RCho) (v : Value) : List Value := [.int .i64 c.to.1, .int .i64 c.to.2, v]
def pchFlat (cs : List RCho) (vs : List Value) : List Value := (List.zipWith pchCell cs vs).flatten
def PChs (w : World) (base : Nat) (cs : List RCho) (v : Value) : Prop := ∃ vs, w.ownsRow base 140 3 v cs.length (pchFlat cs vs) ∧ PChAll w base cs vs
theorem PChAll.len {w base} : ∀ {cs vs}, PChAll w base cs vs → vs.length = cs.length
  | [], [], _ => rfl
  | _ :: _, _ :: _, h => by simp [PChAll.len h.2]
  | [], _ :: _, h => h.elim
  | _ :: _, [], h => h.elim
theorem PChAll.keeps {w w' base} {T : TypeId → Prop} (k : Keeps base T w w') (h1 : T 147) : ∀ {cs vs}, PChAll w base cs vs → PChAll w' base cs vs
  | [], [], _ => trivial
  | _ :: _, _ :: _, h => ⟨⟨h.1.1, owns_keeps h.1.2 k h1⟩, PChAll.keeps k h1 h.2⟩
  | [], _ :: _, h => h.elim
  | _ :: _, [], h => h.elim
theorem PChAll.snoc {w base} {c : RCho} {v} (h1 : c.gs.length = c.rs.length) (h2 : w.ownsRow base 147 4 v c.gs.length (srcCells c.gs c.rs)) : ∀ {cs vs}, PChAll w base cs vs → PChAll w base (cs ++ [c]) (vs ++ [v])
  | [], [], _ => ⟨⟨h1, h2⟩, trivial⟩
  | _ :: _, _ :: _, h => ⟨h.1, PChAll.snoc h1 h2 h.2⟩
  | [], _ :: _, h => h.elim
  | _ :: _, [], h => h.elim
theorem PChAll.base {w base base'} (hb : base' ≤ base) : ∀ {cs vs}, PChAll w base cs vs → PChAll w base' cs vs
  | [], [], _ => trivial
  | _ :: _, _ :: _, h => ⟨⟨h.1.1, owns_base h.1.2 hb⟩, PChAll.base hb h.2⟩
  | [], _ :: _, h => h.elim
  | _ :: _, [], h => h.elim
theorem pchFlat_snoc {cs vs} (c v) (h : vs.length = cs.length) : pchFlat (cs ++ [c]) (vs ++ [v]) = pchFlat cs vs ++ pchCell c v := by
  simp [pchFlat, List.zipWith_append h.symm]
theorem PChs.keeps {w w' base cs v} {T : TypeId → Prop} (h : PChs w base cs v) (k : Keeps base T w w') (h1 : T 147) (h3 : T 140) : PChs w' base cs v := by
  obtain ⟨vs, a, b⟩ := h
  exact ⟨vs, owns_keeps a k h3, b.keeps k h1⟩
theorem PChs.base {w base base' cs v} (h : PChs w base cs v) (hb : base' ≤ base) : PChs w base' cs v := by
  obtain ⟨vs, a, b⟩ := h
  exact ⟨vs, owns_base a hb, b.base hb⟩
theorem PChs.slice {w base cs v} (h : PChs w base cs v) : ∃ p c, v = .slice p cs.length c := by
  obtain ⟨vs, a, _⟩ := h; exact owns_slice2 a
def T4 (e : TypeId) : Prop := e = 147 ∨ e = 140
def T5 (e : TypeId) : Prop := e = 147 ∨ e = 150

/-- What the program's block under way owns. -/
structure BP (b g : Nat) (s : ByteArray) (w0 : World) (i0 : Nat) (chs : List RCho) (sts : List RStep) (vc vs ev : Value) (i : Nat) (w : World) : Prop where
  G1 : w.heap[w0.heap.size]? = some (.cells #[.int .i64 0, .slice none 0 0, .slice none 0 0, .nilIface] 104 (0, 0))
  G2 : w.heap[w0.heap.size + 1]? = some (.cells #[.int .i64 i0, vc, vs, ev] 104 (0, 0))
  C : PChs w (w0.heap.size + 2) chs vc
  S : w.ownsRow (w0.heap.size + 2) 150 1 vs sts.length (sts.map stVal)
  P : RS w b g s i
  F : Fr b w0 w
  Z : w0.heap.size + 2 ≤ w.heap.size
section
variable {b g : Nat} {s : ByteArray} {w0 : World} {i0 : Nat} {chs : List RCho} {sts : List RStep} {vc vs ev : Value} {i : Nat} {w : World}
theorem BP.alloc (h : BP b g s w0 i0 chs sts vc vs ev i w) (o : Obj) : BP b g s w0 i0 chs sts vc vs ev i (w.alloc o) :=
  ⟨blk_alloc h.G1 o, blk_alloc h.G2 o, h.C.keeps (Keeps.alloc _ T4 w o) (by simp [T4]) (by simp [T4]), h.S.alloc o, h.P.alloc o, h.F.alloc o, by have := h.Z; simp; omega⟩
theorem BP.drew (h : BP b g s w0 i0 chs sts vc vs ev i w) : BP b g s w0 i0 chs sts vc vs ev i w.drew :=
  ⟨h.G1, h.G2, h.C.keeps (T := T4) (fun _ _ _ _ _ h => h) (by simp [T4]) (by simp [T4]), h.S, h.P.drew, h.F.drew, h.Z⟩
theorem BP.call {i' : Nat} {w' : World} (h : BP b g s w0 i0 chs sts vc vs ev i w) (hb : b < w0.heap.size) (P : RS w' b g s i') (f : Fr b w w') : BP b g s w0 i0 chs sts vc vs ev i' w' :=
  ⟨blk_fr f h.G1 (by omega), blk_fr f h.G2 (by omega), h.C.keeps (Keeps.fr (T := T4) f (by omega)) (by simp [T4]) (by simp [T4]), owns_fr h.S f (by omega), P, h.F.trans f, Nat.le_trans h.Z f.size⟩
theorem BP.setC (h : BP b g s w0 i0 chs sts vc vs ev i w) (hb : b < w0.heap.size) (hg : g < w0.heap.size) {chs' : List RCho} {vc' : Value} (hc : PChs w (w0.heap.size + 2) chs' vc') : BP b g s w0 i0 chs' sts vc' vs ev i (w.setCell ⟨w0.heap.size + 1, 1, none⟩ vc') :=
  ⟨blk_setOther h.G1 (by omega) _ _, blk_set h.G2 1 vc', hc.keeps (Keeps.setk T4 w _ 1 _ (by omega)) (by simp [T4]) (by simp [T4]), owns_setk h.S _ 1 _ (by omega), h.P.setk _ 1 _ (by omega) (by omega), h.F.setk _ 1 _ (by omega), by rw [size_set]; exact h.Z⟩
theorem BP.setS (h : BP b g s w0 i0 chs sts vc vs ev i w) (hb : b < w0.heap.size) (hg : g < w0.heap.size) {sts' : List RStep} {vs' : Value} (hc : w.ownsRow (w0.heap.size + 2) 150 1 vs' sts'.length (sts'.map stVal)) : BP b g s w0 i0 chs sts' vc vs' ev i (w.setCell ⟨w0.heap.size + 1, 2, none⟩ vs') :=
  ⟨blk_setOther h.G1 (by omega) _ _, blk_set h.G2 2 vs', h.C.keeps (Keeps.setk T4 w _ 2 _ (by omega)) (by simp [T4]) (by simp [T4]), owns_setk hc _ 2 _ (by omega), h.P.setk _ 2 _ (by omega) (by omega), h.F.setk _ 2 _ (by omega), by rw [size_set]; exact h.Z⟩
theorem BP.setE (h : BP b g s w0 i0 chs sts vc vs ev i w) (hb : b < w0.heap.size) (hg : g < w0.heap.size) (ev' : Value) : BP b g s w0 i0 chs sts vc vs ev' i (w.setCell ⟨w0.heap.size + 1, 3, none⟩ ev') :=
  ⟨blk_setOther h.G1 (by omega) _ _, blk_set h.G2 3 ev', h.C.keeps (Keeps.setk T4 w _ 3 _ (by omega)) (by simp [T4]) (by simp [T4]), owns_setk h.S _ 3 _ (by omega), h.P.setk _ 3 _ (by omega) (by omega), h.F.setk _ 3 _ (by omega), by rw [size_set]; exact h.Z⟩
/-- Behind an append to the steps: the new row, the rest as it was. -/
theorem BP.grownS {w' : World} (h : BP b g s w0 i0 chs sts vc vs ev i w) (hb : b < w0.heap.size) (hg : g < w0.heap.size) (gr : w.grownBy w' vs.ownBlock) :
    w'.heap[w0.heap.size]? = some (.cells #[.int .i64 0, .slice none 0 0, .slice none 0 0, .nilIface] 104 (0, 0)) ∧ w'.heap[w0.heap.size + 1]? = some (.cells #[.int .i64 i0, vc, vs, ev] 104 (0, 0)) ∧ PChs w' (w0.heap.size + 2) chs vc ∧ RS w' b g s i ∧ Fr b w0 w' ∧ w0.heap.size + 2 ≤ w'.heap.size := by
  have r : ∀ j, vs.ownBlock = some j → w0.heap.size + 2 ≤ j := fun j hj => (h.S.lt j hj).1
  exact ⟨blk_grown gr h.G1 (fun j hj => by have := r j hj; omega), blk_grown gr h.G2 (fun j hj => by have := r j hj; omega), h.C.keeps (Keeps.grown (T := T4) h.S gr (by simp [T4])) (by simp [T4]) (by simp [T4]),
    h.P.grown gr (fun j hj => by have := r j hj; constructor <;> omega), h.F.grown gr (fun j hj => by have := r j hj; omega), Nat.le_trans h.Z gr.size⟩
/-- Behind an append to the choices. -/
theorem BP.grownC {w' : World} (h : BP b g s w0 i0 chs sts vc vs ev i w) (hb : b < w0.heap.size) (hg : g < w0.heap.size) {us} (hu : w.ownsRow (w0.heap.size + 2) 140 3 vc chs.length (pchFlat chs us)) (gr : w.grownBy w' vc.ownBlock) :
    w'.heap[w0.heap.size]? = some (.cells #[.int .i64 0, .slice none 0 0, .slice none 0 0, .nilIface] 104 (0, 0)) ∧ w'.heap[w0.heap.size + 1]? = some (.cells #[.int .i64 i0, vc, vs, ev] 104 (0, 0)) ∧ w'.ownsRow (w0.heap.size + 2) 150 1 vs sts.length (sts.map stVal) ∧ RS w' b g s i ∧ Fr b w0 w' ∧ w0.heap.size + 2 ≤ w'.heap.size := by
  have r : ∀ j, vc.ownBlock = some j → w0.heap.size + 2 ≤ j := fun j hj => (hu.lt j hj).1
  exact ⟨blk_grown gr h.G1 (fun j hj => by have := r j hj; omega), blk_grown gr h.G2 (fun j hj => by have := r j hj; omega), owns_keeps h.S (Keeps.grown (T := T5) hu gr (by simp [T5])) (by simp [T5]),
    h.P.grown gr (fun j hj => by have := r j hj; constructor <;> omega), h.F.grown gr (fun j hj => by have := r j hj; omega), Nat.le_trans h.Z gr.size⟩
end
theorem Tryz.info150 : (Tryz.prog.info? 150).map (fun i => (i.zero, i.size, i.bytes)) = some (some .nilIface, 1, 16) := by kernel_rfl
theorem Tryz.info140 : (Tryz.prog.info? 140).map (fun i => (i.zero, i.size, i.bytes)) = some (some (.agg #[.int .i64 0, .int .i64 0, .slice none 0 0]), 3, 40) := by kernel_rfl

/-- What reading on from a register leaves of a block. -/
def FrPost (b g : Nat) (s : ByteArray) (w0 : World) (i0 k i : Nat) (R : Blk) (e : Ending) (w' : World) : Prop :=
  (e = .returned (.tuple #[]) ∧ ∃ chs sts vc vs ee i', R = ⟨⟨chs, sts, ee, i0⟩, i', -1⟩ ∧ ee.op = 63 ∧ BP b g s w0 i0 chs sts vc vs (endVal ee) i' w') ∨
  (e = .returned (.tuple #[]) ∧ ∃ chs sts vc vs i', R = blkGo s i0 k chs sts i' (-1) ∧ i < i' ∧ chs.length ≤ i' ∧ sts.length ≤ i' ∧ BP b g s w0 i0 chs sts vc vs .nilIface i' w') ∨
  (e = .panicked (brk R.bad) ∧ 0 ≤ R.bad ∧ Fr b w0 w')
end Go.Proofs.YtgfhfkgdmidhpaaGreatDoor
