import Derived.Test.YtgfhfkgdmidhpaaGreatDoorPD
import Derived.Test.YtgfhfkgdmidhpaaGreatDoorG14
import Derived.Lib.AppendZerosOnto
namespace Go.Proofs.YtgfhfkgdmidhpaaGreatDoor
open Go.RowKit

/-- Two rows of rows of steps, each with a row of its own. -/
def Fam (base : Nat) (w : World) (gs : Bool → Nat) (n : Nat) (f : Bool → Nat → List RStep) : Prop :=
  ∃ us : Bool → List Value, (∀ s, w.ownsRow base 100 1 (.slice (some ⟨gs s, 0, none⟩) n n) n (us s)) ∧ (∀ (s : Bool) (k : Nat) (u : Value), (us s)[k]? = some u → w.ownsRow base 150 1 u (f s k).length ((f s k).map stVal)) ∧
    (∀ (s t : Bool) (j k : Nat) (u u' : Value), (us s)[j]? = some u → (us t)[k]? = some u' → (s, j) ≠ (t, k) → u.ownBlock = none ∨ u.ownBlock ≠ u'.ownBlock) ∧ gs true ≠ gs false
theorem row_blk {w : World} {base e size n g c : Nat} {xs : List Value} (h : w.ownsRow base e size (.slice (some ⟨g, 0, none⟩) n c) n xs) : ∃ cur, w.heap[g]? = some (.cells cur e (0, 0)) := by
  rcases h.2 with ⟨h1, _⟩ | ⟨g', cap, cur, hv, _, hg, _⟩
  · cases h1
  · cases hv; exact ⟨cur, hg⟩
theorem Fam.at {base w gs n f} (h : Fam base w gs n f) (s : Bool) {k : Nat} (hk : k < n) :
    ∃ u, w.cell? ⟨gs s, k, none⟩ = some u ∧ w.frozen? ⟨gs s, k, none⟩ = false ∧ w.ownsRow base 150 1 u (f s k).length ((f s k).map stVal) ∧ gs s < w.heap.size ∧ base ≤ gs s := by
  obtain ⟨us, a, b, _⟩ := h
  have hl : (us s).length = n := by have := (a s).1; omega
  have hu : (us s)[k]? = some (us s)[k] := List.getElem?_eq_getElem (by omega)
  obtain ⟨g, e, hb, hg⟩ := owns_form (a s) (by omega)
  cases e
  exact ⟨_, owns_cell (a s) hu, owns_fz (a s) k, b s k _ hu, hg, hb⟩
theorem Fam.keeps {base w w' gs n f} (h : Fam base w gs n f) (F : Below w.heap.size w w') : Fam base w' gs n f := by
  obtain ⟨us, a, b, c, d⟩ := h
  exact ⟨us, fun s => owns_keeps (a s) (Keeps.below (T := fun _ => True) F) trivial, fun s k u hu => owns_keeps (b s k u hu) (Keeps.below (T := fun _ => True) F) trivial, c, d⟩
theorem Fam.congr {base w gs n} {f f' : Bool → Nat → List RStep} (h : Fam base w gs n f) (e : ∀ s k, f s k = f' s k) : Fam base w gs n f' := by
  have : f = f' := funext fun s => funext fun k => e s k
  rw [← this]; exact h
theorem Fam.put {base n : Nat} {w w3 : World} {gs : Bool → Nat} {f f' : Bool → Nat → List RStep} {o : Obj} (h : Fam base w gs n f) (s : Bool) {k : Nat} (hk : k < n) {u u' : Value} {t : RStep} (hu : w.cell? ⟨gs s, k, none⟩ = some u)
    (oS : w3.ownsRow base 150 1 u' ((f s k).length + 1) ((f s k).map stVal ++ [stVal t])) (gS : (w.alloc o).grownBy w3 u.ownBlock) (nS : u'.ownBlock = u.ownBlock ∨ u'.ownBlock = some (w.alloc o).heap.size)
    (hf : f' s k = f s k ++ [t]) (hf2 : ∀ s' j, (s', j) ≠ (s, k) → f' s' j = f s' j) :
    Fam base (w3.setCell ⟨gs s, k, none⟩ u') gs n f' ∧ Ch (fun j => j = gs s ∨ some j = u.ownBlock) w (w3.setCell ⟨gs s, k, none⟩ u') := by
  obtain ⟨us, a, b, c, d⟩ := h
  have hl : ∀ s, (us s).length = n := fun s => by have := (a s).1; omega
  have hks : k < (us s).length := by rw [hl]; exact hk
  have huk : (us s)[k]? = some (us s)[k] := List.getElem?_eq_getElem hks
  have e0 : (us s)[k] = u := by have := owns_cell (a s) huk; rw [hu] at this; cases this; rfl
  rw [e0] at huk
  have ob := b s k u huk
  have C3 := grown_ch gS
  have C4 : Ch (fun j => j = gs s ∨ some j = u.ownBlock) w (w3.setCell ⟨gs s, k, none⟩ u') := (C3.mono (fun _ h => .inr h)).trans (Ch.set _ _ _ (.inl rfl))
  have N := NewOr2.of nS
  obtain ⟨cur, hgs⟩ := row_blk (a s)
  have hne : ∀ s', some (gs s') ≠ u.ownBlock := fun s' e => by
    obtain ⟨cur', hg'⟩ := row_blk (a s')
    exact own_type ob hg' (by decide) e.symm
  have hgs3 : w3.heap[gs s]? = some (.cells cur 100 (0, 0)) := by rw [C3.block _ (lt_of_block hgs) (hne s)]; exact hgs
  refine ⟨⟨fun s' => if s' = s then (us s').set k u' else us s', ?_, ?_, ?_, d⟩, C4⟩
  · intro s'
    dsimp only
    by_cases es : s' = s
    · subst es
      rw [if_pos rfl]
      have r3 : w3.ownsRow base 100 1 (.slice (some ⟨gs s', 0, none⟩) n n) n (us s') := owns_blk (a s') (fun j hj hj2 => by cases hj2; exact C3.block _ hj (hne s'))
      exact owns_store r3 k u'
    · rw [if_neg es]
      refine owns_blk (a s') (fun j hj hj2 => C4.block j hj (fun hp => ?_))
      cases hj2
      rcases hp with hp | hp
      · have : s' = !s := by cases s <;> cases s' <;> simp_all
        subst this
        cases s
        · exact d hp
        · exact d hp.symm
      · exact hne s' hp
  · intro s' j x hx
    dsimp only at hx
    by_cases es : (s', j) = (s, k)
    · cases es
      rw [if_pos rfl] at hx
      rw [List.getElem?_set_self (by rw [hl]; exact hk)] at hx
      cases hx
      rw [hf, List.map_append, List.length_append]
      exact owns_blk oS (fun j _ hj2 => set_block (fun e2 => own_type oS hgs3 (by decide) (by rw [← e2]; exact hj2)))
    · rw [hf2 s' j es]
      have hx' : (us s')[j]? = some x := by
        by_cases e2 : s' = s
        · subst e2
          rw [if_pos rfl] at hx
          have hjk : k ≠ j := fun e3 => es (by rw [e3])
          rwa [List.getElem?_set_ne hjk] at hx
        · rw [if_neg e2] at hx; exact hx
      have ox := b s' j x hx'
      refine owns_blk ox (fun i hi hi2 => C4.block i hi (fun hp => ?_))
      rcases hp with hp | hp
      · subst hp; exact own_type ox hgs (by decide) hi2
      · rcases c s' s j k x u hx' huk es with h0 | h0
        · rw [h0] at hi2; cases hi2
        · exact h0 (hi2.trans hp)
  · have key : ∀ s' j x, (if s' = s then (us s').set k u' else us s')[j]? = some x → ((s', j) = (s, k) ∧ x = u') ∨ ((s', j) ≠ (s, k) ∧ (us s')[j]? = some x) := by
      intro s' j x hx
      by_cases e2 : s' = s
      · subst e2
        rw [if_pos rfl] at hx
        by_cases e3 : k = j
        · subst e3
          rw [List.getElem?_set_self (by rw [hl]; exact hk)] at hx
          cases hx; exact .inl ⟨rfl, rfl⟩
        · rw [List.getElem?_set_ne e3] at hx
          exact .inr ⟨fun e => e3 (by cases e; rfl), hx⟩
      · rw [if_neg e2] at hx
        exact .inr ⟨fun e => e2 (by cases e; rfl), hx⟩
    intro s1 t1 j1 k1 x y hx hy hne1
    dsimp only at hx hy
    rcases key s1 j1 x hx with ⟨e1, rfl⟩ | ⟨e1, hx'⟩
    · rcases key t1 k1 y hy with ⟨e2, rfl⟩ | ⟨e2, hy'⟩
      · exact absurd (e1.trans e2.symm) hne1
      · have oy := b t1 k1 y hy'
        rcases N with N | ⟨q, N, hq⟩
        · rw [N]
          cases e1
          rcases c s t1 k k1 u y huk hy' hne1 with h0 | h0
          · exact .inl h0
          · exact .inr h0
        · right
          rw [N]
          intro e
          have := (oy.lt _ e.symm).2
          omega
    · rcases key t1 k1 y hy with ⟨e2, rfl⟩ | ⟨e2, hy'⟩
      · have ox := b s1 j1 x hx'
        rcases N with N | ⟨q, N, hq⟩
        · rw [N]
          cases e2
          exact c s1 s j1 k x u hx' huk hne1
        · right
          rw [N]
          intro e
          have := (ox.lt _ e).2
          omega
      · exact c s1 t1 j1 k1 x y hx' hy' hne1

end Go.Proofs.YtgfhfkgdmidhpaaGreatDoor

namespace Go.Proofs.YtgfhfkgdmidhpaaGreatDoor
open Go.RowKit

/-- append of a row to a row of the call's own. -/
theorem appRow {t e : TypeId} {z : Value} {bytes : Nat} (ht : Tryz.prog.underlying t = some (.slice e)) (hi : (Tryz.prog.info? e).map (fun i => (i.zero, i.size, i.bytes)) = some (some z, 1, bytes)) (hzs : z.cells.size = 1)
    {ops : Array Oper} {rest : List Oper} {o : Oper} {a : Act} {Q : Exit → Act → World → Prop} {w : World} (hgd : o.guard = none) (s x : Operand)
    (ho : o.op = .call { callee := .builtin .append, args := #[s, x], argTypes := #[t, t] })
    {base B2 : Nat} {v u : Value} {n m : Nat} {xs ys : List Value} (hs : a.eval s = v) (hown : w.ownsRow base e 1 v n xs) (hx : a.eval x = u) (hsrc : w.ownsRow B2 e 1 u m ys) (h1 : ∀ y ∈ ys, y.oneCell' = true)
    (h63 : n + m ≤ maxLen) (hbytes : (n + m) * bytes ≤ 140737488355328) (hbase : base ≤ w.heap.size)
    (h : ∀ v' w', w'.ownsRow base e 1 v' (n + m) (xs ++ ys) → w.grownBy w' v.ownBlock → wpList Tryz.prog ops Q rest (a.put o.dst v') w') : wpList Tryz.prog ops Q (o :: rest) a w := by
  rcases hsrc.2 with ⟨rfl, h0⟩ | ⟨g, c, cur, rfl, _, hg, _⟩
  · refine appNil ht hi hgd s x ho hs hown hx (h v w ?_ ⟨rfl, rfl, rfl, Nat.le_refl _, fun _ _ _ => rfl⟩)
    have hy : ys = [] := List.eq_nil_of_length_eq_zero (by rw [hsrc.1, h0])
    rw [hy, h0, List.append_nil, Nat.add_zero]
    exact hown
  · obtain ⟨I, Hi, Hz, Hs, Hb⟩ := info_parts hi
    exact wpList_append_own w hgd s x t ho base e I z 1 bytes ht Hi Hz Hs Hb hzs (by decide) v n xs hs hown ⟨g, 0, none⟩ m c ys hx hsrc.1 (fun j y hj => hsrc.cells rfl j y hj) h1 h63 hbytes hbase (fun v' w' a b _ => h v' w' a b)
set_option maxRecDepth 100000 in
set_option maxHeartbeats 2000000 in
theorem growSt (n : Nat) (w : World) (hn : n ≤ 3000000) :
    Calls Tryz.prog 110 #[.slice none 0 0, .int .i64 n] w fun e w' => ∃ v', e = .returned v' ∧ w'.ownsRow w.heap.size 150 1 v' 0 [] ∧ Below w.heap.size w w' := by
  by_cases h0 : n = 0
  · subst h0
    go_enter Tryz.func110, Tryz.ntmps110
    go_wp2_with fail
    go_ret
    exact ⟨_, rfl, World.ownsRow_nil _ _ _ _, Below.refl _ _⟩
  · obtain ⟨i0, hi0, hz0, hzs, hzb⟩ := info_parts Tryz.info150
    obtain ⟨G, hG⟩ : ∃ G, G = grownCap w n 0 150 := ⟨_, rfl⟩
    have hGn : n ≤ G := by rw [hG]; exact grownCap_ge w _ _ _
    have hGm : G ≤ maxLen := by rw [hG]; exact grownCap_le_maxLen w n 0 150 (by unfold maxLen; omega)
    obtain ⟨ROW, hROW⟩ : ∃ ROW : Array Value, ROW = #[] ++ Builtin.zeroCells (Value.nilIface).cells n ++ Builtin.zeroCells (Value.nilIface).cells (G - n) := ⟨_, rfl⟩
    have hRs : ROW.size = G := by
      rw [hROW]
      simp [Builtin.zeroCells, Value.cells]
      omega
    have hold : (Builtin.firstCells i0.size 0 (.slice none 0 0)).run Tryz.prog w.drew = .ok #[] w.drew := by rw [hzs]; kernel_rfl
    have hrz : ∀ ty, (Builtin.append_ #[100, 3] ty #[.slice none 0 0, .int .i64 n]).run Tryz.prog w = .ok (.slice (some ⟨w.heap.size, 0, none⟩) n G) (w.drew.alloc (.cells ROW 150)) := fun ty => by
      have h := Lib.run_append_grow_zeros w 100 3 ty 150 i0 _ .i64 .i64 Tryz.underlying100 Tryz.underlying3 hi0 hz0 none 0 0 [] hold n (by omega) (by omega) (by omega) (by omega) (by rw [hzb]; omega) (by rw [hzb, Nat.zero_add]; exact growslice_fits (by omega) (by omega))
      rw [Nat.zero_add, ← hG, ← hROW] at h
      exact h
    have HG := stop (And.intro hG hROW)
    have HO := stop (And.intro hold hi0)
    clear hG hROW hold hi0 hz0 hzs hzb
    go_enter Tryz.func110, Tryz.ntmps110
    go_wp2_with (at_builtin; refine Lib.wpList_append_run _ rfl _ _ _ _ rfl _ _ rfl rfl _ _ (hrz _) ?_)
    go_ret
    refine ⟨_, rfl, ?_, ?_⟩
    · exact ⟨rfl, .inr ⟨w.heap.size, G, ROW, rfl, Nat.le_refl _, heap_alloc_last w.drew _, Nat.zero_le _, hGm, by rw [hRs]; omega, rfl⟩⟩
    · have f := (Below.refl w.heap.size w).alloc (Nat.le_refl _) (.cells ROW 150)
      exact ⟨f.os, f.tape, f.output, f.size, f.block⟩

theorem stVal_one (l : List RStep) : ∀ y ∈ l.map stVal, y.oneCell' = true := fun y hy => by
  obtain ⟨n, _, rfl⟩ := List.mem_map.1 hy
  obtain ⟨T, x, e⟩ := stVal_iface n
  rw [e]; rfl

set_option maxRecDepth 100000 in
set_option maxHeartbeats 4000000 in
theorem concatSt (a b c : List RStep) (B1 B2 B3 : Nat) (va vb vc : Value) (w : World) (ha : w.ownsRow B1 150 1 va a.length (a.map stVal)) (hb : w.ownsRow B2 150 1 vb b.length (b.map stVal)) (hc : w.ownsRow B3 150 1 vc c.length (c.map stVal)) (hla : a.length ≤ 1000000) (hlb : b.length ≤ 1000000) (hlc : c.length ≤ 1000000)
    (g : Nat) (q : Nat) (hg : w.heap[g]? = some (.cells #[va, vb, vc] 100 (0, 0))) :
    Calls Tryz.prog 66 #[.slice (some ⟨g, 0, none⟩) 3 q] w fun e w' => ∃ v', e = .returned v' ∧ w'.ownsRow w.heap.size 150 1 v' (a ++ b ++ c).length ((a ++ b ++ c).map stVal) ∧ Below w.heap.size w w' := by
  obtain ⟨pa, ca, rfl⟩ := owns_slice2 ha
  obtain ⟨pb, cb, rfl⟩ := owns_slice2 hb
  obtain ⟨pc0, cc, rfl⟩ := owns_slice2 hc
  have c0 := cell_of hg 0
  have c1 := cell_of hg 1
  have c2 := cell_of hg 2
  simp at c0 c1 c2
  have hgl : g < w.heap.size := lt_of_block hg
  have HA := stop ha
  have HB := stop hb
  have HC := stop hc
  clear ha hb hc hg
  go_enter Tryz.func66, Tryz.ntmps66
  go_wp2_with fail
  go_loop [3, 11] (fun s i => (i = .int .i64 0 ∧ s = .int .i64 0) ∨ (i = .int .i64 1 ∧ s = .int .i64 a.length) ∨ (i = .int .i64 2 ∧ s = .int .i64 ((a.length + b.length : Nat) : Int)) ∨ (i = .int .i64 3 ∧ s = .int .i64 ((a.length + b.length + c.length : Nat) : Int))) (fun _ i => 3 - (intOf i).toNat)
  case atStart => exact .inl ⟨rfl, rfl⟩
  case round =>
    rcases hrel with ⟨rfl, rfl⟩ | ⟨rfl, rfl⟩ | ⟨rfl, rfl⟩ | ⟨rfl, rfl⟩
    · have hd : decide ((a.length : Int) < 0) = false := by simp
      go_wp2_with fail
      go_round
      case rel => exact .inr (.inl ⟨rfl, by simp⟩)
      case measure => simp [intOf]
    · have hd : decide ((a.length : Int) + (b.length : Int) < 0) = false := by simp; omega
      go_wp2_with fail
      go_round
      case rel => exact .inr (.inr (.inl ⟨rfl, by go_num⟩))
      case measure => simp [intOf]
    · have hd : decide ((a.length : Int) + (b.length : Int) + (c.length : Int) < 0) = false := by simp; omega
      go_wp2_with fail
      go_round
      case rel => exact .inr (.inr (.inr ⟨rfl, by go_num⟩))
      case measure => simp [intOf]
    · go_wp2_with fail
      refine (growSt (a.length + b.length + c.length) _ (by omega)).mono ?_
      rintro e w1 ⟨v1, rfl, o1, f1⟩
      have F1 := stop f1
      have hz := f1.size
      obtain ⟨p1, q1, rfl⟩ := owns_slice2 o1
      clear f1
      go_wp2_with fail
      go_loopw [6, 27] (fun l i wr => Hid (Below w.heap.size w wr) ∧ w.heap.size ≤ wr.heap.size ∧ ((i = .int .i64 0 ∧ wr.ownsRow w.heap.size 150 1 l 0 []) ∨ (i = .int .i64 1 ∧ wr.ownsRow w.heap.size 150 1 l a.length (a.map stVal)) ∨ (i = .int .i64 2 ∧ wr.ownsRow w.heap.size 150 1 l (a.length + b.length) (a.map stVal ++ b.map stVal)) ∨ (i = .int .i64 3 ∧ wr.ownsRow w.heap.size 150 1 l (a.length + b.length + c.length) (a.map stVal ++ b.map stVal ++ c.map stVal)))) (fun _ i _ => 3 - (intOf i).toNat)
      case atStart => exact ⟨F1, hz, .inl ⟨rfl, o1⟩⟩
      case round =>
        clear o1 F1 hz
        obtain ⟨F, hz, hrel⟩ := hrel
        have d0 : wr.cell? ⟨g, 0, none⟩ = _ := (F.out.cell (p := ⟨g, 0, none⟩) hgl).trans c0
        have d1 : wr.cell? ⟨g, 1, none⟩ = _ := (F.out.cell (p := ⟨g, 1, none⟩) hgl).trans c1
        have d2 : wr.cell? ⟨g, 2, none⟩ = _ := (F.out.cell (p := ⟨g, 2, none⟩) hgl).trans c2
        rcases hrel with ⟨rfl, o⟩ | ⟨rfl, o⟩ | ⟨rfl, o⟩ | ⟨rfl, o⟩
        · obtain ⟨p2, q2, rfl⟩ := owns_slice2 o
          go_wp2_with (at_builtin; refine unstop ?_)
          refine stop ?_
          refine appRow Tryz.underlying100 Tryz.info150 rfl rfl _ _ rfl rfl o rfl (owns_keeps HA.out (Keeps.below (T := fun _ => True) F.out) trivial) (stVal_one a) (by unfold maxLen; omega) (by omega) hz ?_
          intro v3 w3 o3 g3
          rw [Nat.zero_add, List.nil_append] at o3
          replace F := stop (Below.grown F.out g3 hz (fun j hj => (o.lt j hj).1))
          have hz3 : w.heap.size ≤ w3.heap.size := Nat.le_trans hz g3.size
          clear g3 o
          obtain ⟨p5, c5, rfl⟩ := owns_slice2 o3
          go_wp2_with fail
          go_roundw
          case rel => exact ⟨F, hz3, .inr (.inl ⟨rfl, o3⟩)⟩
          case measure => simp [intOf]
        · obtain ⟨p2, q2, rfl⟩ := owns_slice2 o
          go_wp2_with (at_builtin; refine unstop ?_)
          refine stop ?_
          refine appRow Tryz.underlying100 Tryz.info150 rfl rfl _ _ rfl rfl o rfl (owns_keeps HB.out (Keeps.below (T := fun _ => True) F.out) trivial) (stVal_one b) (by unfold maxLen; omega) (by omega) hz ?_
          intro v3 w3 o3 g3
          replace F := stop (Below.grown F.out g3 hz (fun j hj => (o.lt j hj).1))
          have hz3 : w.heap.size ≤ w3.heap.size := Nat.le_trans hz g3.size
          clear g3 o
          obtain ⟨p5, c5, rfl⟩ := owns_slice2 o3
          go_wp2_with fail
          go_roundw
          case rel => exact ⟨F, hz3, .inr (.inr (.inl ⟨rfl, o3⟩))⟩
          case measure => simp [intOf]
        · obtain ⟨p2, q2, rfl⟩ := owns_slice2 o
          go_wp2_with (at_builtin; refine unstop ?_)
          refine stop ?_
          refine appRow Tryz.underlying100 Tryz.info150 rfl rfl _ _ rfl rfl o rfl (owns_keeps HC.out (Keeps.below (T := fun _ => True) F.out) trivial) (stVal_one c) (by unfold maxLen; omega) (by omega) hz ?_
          intro v3 w3 o3 g3
          replace F := stop (Below.grown F.out g3 hz (fun j hj => (o.lt j hj).1))
          have hz3 : w.heap.size ≤ w3.heap.size := Nat.le_trans hz g3.size
          clear g3 o
          obtain ⟨p5, c5, rfl⟩ := owns_slice2 o3
          go_wp2_with fail
          go_roundw
          case rel => exact ⟨F, hz3, .inr (.inr (.inr ⟨rfl, o3⟩))⟩
          case measure => simp [intOf]
        · obtain ⟨p2, q2, rfl⟩ := owns_slice2 o
          have O := stop o
          clear o
          go_wp2_with fail
          go_ret
          exact ⟨_, rfl, by rw [List.map_append, List.map_append, List.length_append, List.length_append]; exact O.out, F.out⟩

end Go.Proofs.YtgfhfkgdmidhpaaGreatDoor
