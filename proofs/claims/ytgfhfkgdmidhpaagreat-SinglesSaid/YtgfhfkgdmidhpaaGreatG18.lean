import Derived.Test.YtgfhfkgdmidhpaaGreatG15
import Derived.Test.YtgfhfkgdmidhpaaGreatG16
import Derived.Lib.AppendZerosOnto
import Derived.Test.YtgfhfkgdmidhpaaGreatG17
import Derived.Sort.OwnSortedInts
namespace Go.Proofs.YtgfhfkgdmidhpaaGreat
open Go.RowKit

/-- append of a row to a row of the call's own. -/
theorem appRow {t e : TypeId} {z : Value} {bytes : Nat} (ht : Tryz.prog.underlying t = some (.slice e)) (hi : (Tryz.prog.info? e).map (fun i => (i.zero, i.size, i.bytes)) = some (some z, 1, bytes)) (hzs : z.cells.size = 1)
    {ops : Array Oper} {rest : List Oper} {o : Oper} {a : Act} {Q : Exit → Act → World → Prop} {w : World} (hgd : o.guard = none) (s x : Operand)
    (ho : o.op = .call { callee := .builtin .append, args := #[s, x], argTypes := #[t, t] })
    {base B2 : Nat} {v u : Value} {n m : Nat} {xs ys : List Value} (hs : a.eval s = v) (hown : w.ownsRow base e 1 v n xs) (hx : a.eval x = u) (hsrc : w.ownsRow B2 e 1 u m ys) (h1 : ∀ y ∈ ys, y.oneCell' = true)
    (h63 : n + m ≤ maxLen) (hbytes : (n + m) * bytes ≤ 140737488355328) (hbase : base ≤ w.heap.size)
    (h : ∀ v' w', w'.ownsRow base e 1 v' (n + m) (xs ++ ys) → w.grownBy w' v.ownBlock → wpList Tryz.prog ops Q rest (a.put o.dst v') w') : wpList Tryz.prog ops Q (o :: rest) a w := by
  rcases hsrc.2 with ⟨rfl, h0⟩ | ⟨g, c, cur, rfl, _, hg, _⟩
  · refine appNil ht hi hgd s x ho hs hown hx (h v w ?_ ⟨rfl, rfl, rfl, Nat.le_refl _, fun _ _ _ => rfl⟩)
    have hy : ys = [] := List.eq_nil_of_length_eq_zero (by rw [hsrc.1, h0])
    rw [hy, h0, List.append_nil, Nat.add_zero]
    exact hown
  · obtain ⟨I, Hi, Hz, Hs, Hb⟩ := info_parts hi
    exact wpList_append_own w hgd s x t ho base e I z 1 bytes ht Hi Hz Hs Hb hzs (by decide) v n xs hs hown ⟨g, 0, none⟩ m c ys hx hsrc.1 (fun j y hj => hsrc.cells rfl j y hj) h1 h63 hbytes hbase (fun v' w' a b _ => h v' w' a b)
theorem icell_one (l : List Nat) : ∀ y ∈ icell l, y.oneCell' = true := fun y hy => by
  obtain ⟨n, _, rfl⟩ := List.mem_map.1 hy
  rfl
theorem icell_app (a b : List Nat) : icell (a ++ b) = icell a ++ icell b := List.map_append ..

set_option maxRecDepth 100000 in
set_option maxHeartbeats 2000000 in
theorem growB (n : Nat) (w : World) (hn : n ≤ 3000000) :
    Calls Tryz.prog 162 #[.slice none 0 0, .int .i64 n] w fun e w' => ∃ v', e = .returned v' ∧ w'.ownsRow w.heap.size 92 1 v' 0 [] ∧ Below w.heap.size w w' := by
  by_cases h0 : n = 0
  · subst h0
    go_enter Tryz.func162, Tryz.ntmps162
    go_wp2_with fail
    go_ret
    exact ⟨_, rfl, World.ownsRow_nil _ _ _ _, Below.refl _ _⟩
  · obtain ⟨i0, hi0, hz0, hzs, hzb⟩ := info_parts Tryz.info92
    obtain ⟨G, hG⟩ : ∃ G, G = grownCap w n 0 92 := ⟨_, rfl⟩
    have hGn : n ≤ G := by rw [hG]; exact grownCap_ge w _ _ _
    have hGm : G ≤ maxLen := by rw [hG]; exact grownCap_le_maxLen w n 0 92 (by unfold maxLen; omega)
    obtain ⟨ROW, hROW⟩ : ∃ ROW : Array Value, ROW = #[] ++ Builtin.zeroCells (Value.int .i64 0).cells n ++ Builtin.zeroCells (Value.int .i64 0).cells (G - n) := ⟨_, rfl⟩
    have hRs : ROW.size = G := by
      rw [hROW]
      simp [Builtin.zeroCells, Value.cells]
      omega
    have hold : (Builtin.firstCells i0.size 0 (.slice none 0 0)).run Tryz.prog w.drew = .ok #[] w.drew := by rw [hzs]; kernel_rfl
    have hrz : ∀ ty, (Builtin.append_ #[84, 3] ty #[.slice none 0 0, .int .i64 n]).run Tryz.prog w = .ok (.slice (some ⟨w.heap.size, 0, none⟩) n G) (w.drew.alloc (.cells ROW 92)) := fun ty => by
      have h := Lib.run_append_grow_zeros w 84 3 ty 92 i0 _ .i64 .i64 Tryz.underlying84 Tryz.underlying3 hi0 hz0 none 0 0 [] hold n (by omega) (by omega) (by omega) (by omega) (by rw [hzb]; omega) (by rw [hzb, Nat.zero_add]; exact growslice_fits (by omega) (by omega))
      rw [Nat.zero_add, ← hG, ← hROW] at h
      exact h
    have HG := stop (And.intro hG hROW)
    have HO := stop (And.intro hold hi0)
    clear hG hROW hold hi0 hz0 hzs hzb
    go_enter Tryz.func162, Tryz.ntmps162
    go_wp2_with (at_builtin; refine Lib.wpList_append_run _ rfl _ _ _ _ rfl _ _ rfl rfl _ _ (hrz _) ?_)
    go_ret
    refine ⟨_, rfl, ?_, ?_⟩
    · exact ⟨rfl, .inr ⟨w.heap.size, G, ROW, rfl, Nat.le_refl _, heap_alloc_last w.drew _, Nat.zero_le _, hGm, by rw [hRs]; omega, rfl⟩⟩
    · have f := (Below.refl w.heap.size w).alloc (Nat.le_refl _) (.cells ROW 92)
      exact ⟨f.os, f.tape, f.output, f.size, f.block⟩

end Go.Proofs.YtgfhfkgdmidhpaaGreat

namespace Go.Proofs.YtgfhfkgdmidhpaaGreat
open Go.RowKit

set_option maxRecDepth 100000 in
set_option maxHeartbeats 4000000 in
theorem concatB (a b : List Nat) (B1 B2 : Nat) (va vb : Value) (w : World) (ha : w.ownsRow B1 92 1 va a.length (icell a)) (hb : w.ownsRow B2 92 1 vb b.length (icell b)) (hla : a.length ≤ 1000000) (hlb : b.length ≤ 1000000)
    (g : Nat) (c : Nat) (hg : w.heap[g]? = some (.cells #[va, vb] 84 (0, 0))) :
    Calls Tryz.prog 141 #[.slice (some ⟨g, 0, none⟩) 2 c] w fun e w' => ∃ v', e = .returned v' ∧ w'.ownsRow w.heap.size 92 1 v' (a ++ b).length (icell (a ++ b)) ∧ Below w.heap.size w w' := by
  obtain ⟨pa, ca, rfl⟩ := owns_slice2 ha
  obtain ⟨pb, cb, rfl⟩ := owns_slice2 hb
  have c0 := cell_of hg 0
  have c1 := cell_of hg 1
  simp at c0 c1
  have hgl : g < w.heap.size := lt_of_block hg
  have HA := stop ha
  have HB := stop hb
  clear ha hb hg
  go_enter Tryz.func141, Tryz.ntmps141
  go_wp2_with fail
  go_loop [3, 11] (fun s i => (i = .int .i64 0 ∧ s = .int .i64 0) ∨ (i = .int .i64 1 ∧ s = .int .i64 a.length) ∨ (i = .int .i64 2 ∧ s = .int .i64 ((a.length + b.length : Nat) : Int))) (fun _ i => 2 - (intOf i).toNat)
  case atStart => exact .inl ⟨rfl, rfl⟩
  case round =>
    rcases hrel with ⟨rfl, rfl⟩ | ⟨rfl, rfl⟩ | ⟨rfl, rfl⟩
    · have hd : decide ((a.length : Int) < 0) = false := by simp
      go_wp2_with fail
      go_round
      case rel => exact .inr (.inl ⟨rfl, by simp⟩)
      case measure => simp [intOf]
    · have hd : decide ((a.length : Int) + (b.length : Int) < 0) = false := by simp; omega
      go_wp2_with fail
      go_round
      case rel => exact .inr (.inr ⟨rfl, by go_num⟩)
      case measure => simp [intOf]
    · go_wp2_with fail
      refine (growB (a.length + b.length) _ (by omega)).mono ?_
      rintro e w1 ⟨v1, rfl, o1, f1⟩
      have F1 := stop f1
      have hz := f1.size
      obtain ⟨p1, q1, rfl⟩ := owns_slice2 o1
      clear f1
      go_wp2_with fail
      go_loopw [6, 27] (fun l i wr => Hid (Below w.heap.size w wr) ∧ w.heap.size ≤ wr.heap.size ∧ ((i = .int .i64 0 ∧ wr.ownsRow w.heap.size 92 1 l 0 []) ∨ (i = .int .i64 1 ∧ wr.ownsRow w.heap.size 92 1 l a.length (icell a)) ∨ (i = .int .i64 2 ∧ wr.ownsRow w.heap.size 92 1 l (a.length + b.length) (icell a ++ icell b)))) (fun _ i _ => 2 - (intOf i).toNat)
      case atStart => exact ⟨F1, hz, .inl ⟨rfl, o1⟩⟩
      case round =>
        clear o1 F1 hz
        obtain ⟨F, hz, hrel⟩ := hrel
        have d0 : wr.cell? ⟨g, 0, none⟩ = _ := (F.out.cell (p := ⟨g, 0, none⟩) hgl).trans c0
        have d1 : wr.cell? ⟨g, 1, none⟩ = _ := (F.out.cell (p := ⟨g, 1, none⟩) hgl).trans c1
        rcases hrel with ⟨rfl, o⟩ | ⟨rfl, o⟩ | ⟨rfl, o⟩
        · obtain ⟨p2, q2, rfl⟩ := owns_slice2 o
          go_wp2_with (at_builtin; refine unstop ?_)
          refine stop ?_
          refine appRow Tryz.underlying84 Tryz.info92 rfl rfl _ _ rfl rfl o rfl (owns_keeps HA.out (Keeps.below (T := fun _ => True) F.out) trivial) (icell_one a) (by unfold maxLen; omega) (by omega) hz ?_
          intro v3 w3 o3 g3
          rw [Nat.zero_add, List.nil_append] at o3
          replace F := stop (Below.grown F.out g3 hz (fun j hj => (o.lt j hj).1))
          have hz3 : w.heap.size ≤ w3.heap.size := Nat.le_trans hz g3.size
          clear g3 o
          obtain ⟨p5, c5, rfl⟩ := owns_slice2 o3
          go_wp2_with fail
          go_roundw
          case rel => exact ⟨F, hz3, .inr (.inl ⟨rfl, o3⟩)⟩
          case measure => simp [intOf]
        · obtain ⟨p2, q2, rfl⟩ := owns_slice2 o
          go_wp2_with (at_builtin; refine unstop ?_)
          refine stop ?_
          refine appRow Tryz.underlying84 Tryz.info92 rfl rfl _ _ rfl rfl o rfl (owns_keeps HB.out (Keeps.below (T := fun _ => True) F.out) trivial) (icell_one b) (by unfold maxLen; omega) (by omega) hz ?_
          intro v3 w3 o3 g3
          replace F := stop (Below.grown F.out g3 hz (fun j hj => (o.lt j hj).1))
          have hz3 : w.heap.size ≤ w3.heap.size := Nat.le_trans hz g3.size
          clear g3 o
          obtain ⟨p5, c5, rfl⟩ := owns_slice2 o3
          go_wp2_with fail
          go_roundw
          case rel => exact ⟨F, hz3, .inr (.inr ⟨rfl, o3⟩)⟩
          case measure => simp [intOf]
        · obtain ⟨p2, q2, rfl⟩ := owns_slice2 o
          have O := stop o
          clear o
          go_wp2_with fail
          go_ret
          exact ⟨_, rfl, by rw [icell_app, List.length_append]; exact O.out, F.out⟩

end Go.Proofs.YtgfhfkgdmidhpaaGreat

namespace Go.Proofs.YtgfhfkgdmidhpaaGreat
open Go.RowKit

open Go.Sort

theorem icell_cast (l : List Nat) : icell l = (castL l).map (Value.int .i64) := by simp [icell, castL]
theorem castL_len (l : List Nat) : (castL l).length = l.length := by simp [castL]
theorem grow_nil (w : World) : grow w #[] = w := by simp [grow]
theorem row_put {w : World} {base g cap n m : Nat} {e : TypeId} {cur : Array Value} {ts : List Int} (hbase : base ≤ g) (hb : w.heap[g]? = some (.cells cur e (0, 0))) (hm : m ≤ ts.length) (ht : ts.length ≤ cap) (h2 : cap ≤ maxLen) (h3 : cur.size = cap * 1) :
    (putRow (Value.int .i64) (Sort.ahead w n) g 0 ts.toArray).ownsRow base e 1 (.slice (some ⟨g, 0, none⟩) m cap) m ((ts.take m).map (Value.int .i64)) := by
  have hh := heap_sortedI (w := w) (g := g) (n := n) (os := #[]) ts.toArray hb
  rw [grow_nil] at hh
  refine ⟨by simp; omega, .inr ⟨g, cap, _, rfl, hbase, hh, by omega, h2, by simp [putCells, h3], ?_⟩⟩
  have := take_putCellsI cur ts (by omega)
  rw [Nat.mul_one, List.map_take, ← this, List.take_take, Nat.min_eq_left hm]
theorem below_put {w0 w : World} {base g n : Nat} (F : Below base w0 w) (hb : base ≤ g) (hg : g < w.heap.size) (d : Array Int) : Below base w0 (putRow (Value.int .i64) (Sort.ahead w n) g 0 d) := by
  have h := grownBy_sortedI (w := w) (g := g) (n := n) (os := #[]) d
  rw [grow_nil] at h
  exact F.trans ⟨h.os, h.tape, h.output, h.size, fun k hk => h.block k (by omega) (fun e => by cases e; omega)⟩

theorem cmp_len (zs : List Int) : (Lib.compact zs).length ≤ zs.length := by
  have := List.length_filter_le (Lib.keeps zs.toArray) (List.range zs.length)
  simpa [Lib.compact, Lib.compactUpTo] using this

theorem below_set {base : Nat} {u v : World} (F : Below base u v) (k o : Nat) (x : Value) (hk : base ≤ k) : Below base u (v.setCell ⟨k, o, none⟩ x) :=
  F.trans ⟨rfl, rfl, rfl, by simp [World.setCell], fun j hj => Below.heap_setCell _ _ _ _ (by simp; omega)⟩

set_option maxRecDepth 100000 in
set_option maxHeartbeats 2000000 in
theorem clnB (l : List Nat) (base : Nat) (v : Value) (w : World) (h : w.ownsRow base 92 1 v l.length (icell l)) (hl : l.length ≤ 3000000) : 
    Calls Tryz.prog 104 #[v] w fun e w' => ∃ v', e = .returned v' ∧ w'.ownsRow w.heap.size 92 1 v' l.length (icell l) ∧ Below w.heap.size w w' := by
  have HO := stop h
  rcases h.2 with ⟨rfl, h0⟩ | ⟨g, c, cur, rfl, hbg, hg, hnc, hcm, hcs, ht⟩
  · have he : ∀ w, (binOp BinOp.eql 84 (.slice none 0 0) (.slice none 0 0)).run Tryz.prog w = .ok (.bool true) w := fun w => by kernel_rfl
    go_enter Tryz.func104, Tryz.ntmps104
    go_wp2_with (at_builtin; refine unstop ?_)
    go_ret
    exact ⟨_, rfl, ⟨HO.out.1, HO.out.2.imp id (fun ⟨_, _, _, e, _⟩ => by cases e)⟩, Below.refl _ _⟩
  · clear h
    have HG := stop hg
    clear hg ht
    have he : ∀ w, (binOp BinOp.eql 84 (.slice (some ⟨g, 0, none⟩) l.length c) (.slice none 0 0)).run Tryz.prog w = .ok (.bool false) w := fun w => by kernel_rfl
    go_enter Tryz.func104, Tryz.ntmps104
    go_wp2_with (at_builtin; refine unstop ?_)
    refine stop ?_
    obtain ⟨I, Hi, Hz, Hs, Hb⟩ := info_parts Tryz.info92
    refine wpList_append_own _ rfl _ _ 84 rfl w.heap.size 92 I (.int .i64 0) 1 8 Tryz.underlying84 Hi Hz Hs Hb rfl (by decide) (.slice (some ⟨w.heap.size, 0, none⟩) 0 0) 0 [] rfl (World.ownsRow_made w #[] 0 (Nat.le_refl _) (by decide) rfl) ⟨g, 0, none⟩ l.length c (icell l) rfl (by simp [icell]) (fun j u hj => ?_) (fun u hu => ?_) (by unfold maxLen; omega) (by omega) (by simp) ?_
    · exact (HO.out.alloc (.cells #[] 92)).cells rfl j u hj
    · obtain ⟨n, _, rfl⟩ := List.mem_map.1 hu
      rfl
    · intro v1 w1 o1 g1 _
      rw [Nat.zero_add, List.nil_append] at o1
      have O1 := stop (And.intro o1 g1)
      clear o1 g1
      go_wp2_with fail
      go_ret
      exact ⟨v1, rfl, O1.out.1, Below.grown ((Below.refl _ _).alloc (Nat.le_refl _) _) O1.out.2 (by simp) (fun k hk => by cases hk; exact Nat.le_refl _)⟩

/-- The sort, of a row of the call's own. -/
theorem sortB (l : List Nat) (base B : Nat) (v : Value) (w0 w : World) (h : w.ownsRow base 92 1 v l.length (icell l)) (F : Below B w0 w) (hB : B ≤ base) (hl : l.length ≤ 3000000) :
    Calls Tryz.prog 117 #[v] w fun e w' => e = .returned (.tuple #[]) ∧ Hid (w'.ownsRow base 92 1 v l.length ((srtL l).map (Value.int .i64)) ∧ Below B w0 w') := by
  rcases h.2 with ⟨rfl, h0⟩ | ⟨g, c, cur, rfl, hbg, hg, hnc, hcm, hcs, ht⟩
  · have hl0 : l = [] := List.eq_nil_of_length_eq_zero h0
    subst hl0
    refine (AnyM.slices_Sort_int_none Tryz.sortB none 0 w).mono ?_
    rintro e w' ⟨rfl, rfl⟩
    exact ⟨rfl, by simpa [srtL, castL, icell] using h, F⟩
  · rw [Nat.mul_one] at ht
    rw [icell_cast] at ht
    have hH : Holds (Value.int .i64) w g 0 (castL l).toArray := holds_of_blockI hg (by rw [castL_len]; exact ht)
    have hs := AnyM.slices_Sort_int Tryz.sortB g 0 c (castL l) w hH (lt_of_block hg) (by rw [castL_len]; omega)
    rw [castL_len] at hs
    refine Calls.mono hs ?_
    rintro e w' ⟨rfl, n, os, rfl⟩
    refine ⟨rfl, ?_, ?_⟩
    · exact ownsRow_sortedI (ss := castL l) (ts := srtL l) (by rw [srtL_len, castL_len]) hbg hg (by rw [castL_len]; exact hnc) hcm hcs |> fun q => by rw [castL_len] at q; exact q
    · have gb := grownBy_sortedI (w := w) (g := g) (n := n) (os := os) (srtL l).toArray
      exact Below.grown F gb (by have := lt_of_block hg; omega) (fun k hk => by cases hk; omega)

/-- What the sort has left, without what comes twice. -/
theorem compactB (l : List Nat) (base B : Nat) (v : Value) (w0 w : World) (h : w.ownsRow base 92 1 v l.length ((srtL l).map (Value.int .i64))) (F : Below B w0 w) (hB : B ≤ base) (hl : l.length ≤ 3000000) :
    Calls Tryz.prog 118 #[v] w fun e w' => ∃ v', e = .returned v' ∧ Hid (w'.ownsRow base 92 1 v' (ofL l).length (icell (ofL l)) ∧ Below B w0 w') := by
  have hcl : (ofL l).length = (Lib.compact (srtL l)).length := by simp [ofL]
  rcases h.2 with ⟨rfl, h0⟩ | ⟨g, c, cur, rfl, hbg, hg, hnc, hcm, hcs, ht⟩
  · have hl0 : l = [] := List.eq_nil_of_length_eq_zero h0
    subst hl0
    refine (AnyG.slices_Compact_int_empty Tryz.compactB none 0 w).mono ?_
    rintro e w' ⟨rfl, rfl⟩
    exact ⟨_, rfl, by simp [ofL, srtL, castL, Lib.compact, Lib.compactUpTo, icell]; exact World.ownsRow_nil _ _ _ _, F⟩
  · rw [Nat.mul_one] at ht
    have hle : (Lib.compact (srtL l)).length ≤ (srtL l).length := cmp_len _
    have hH : Holds (Value.int .i64) w g 0 (srtL l).toArray := holds_of_blockI hg (by rw [srtL_len]; exact ht)
    have hs := AnyG.slices_Compact_int Tryz.compactB g 0 c (srtL l) w hH (by rw [srtL_len]; omega) (by rw [srtL_len]; exact hnc)
    rw [srtL_len] at hs
    refine Calls.mono hs ?_
    rintro e w' ⟨rfl, q, rfl⟩
    refine ⟨_, rfl, ?_, below_put F (by omega) (lt_of_block hg) _⟩
    rw [srtL_len] at hle
    have := row_put (w := w) (n := q) (m := (Lib.compact (srtL l)).length) (ts := Lib.compact (srtL l) ++ List.replicate (l.length - (Lib.compact (srtL l)).length) 0) hbg hg (by simp) (by simp; omega) hcm hcs
    rw [List.take_left' rfl, ← ofL_cast l, ← icell_cast, ofL_cast] at this
    rw [hcl]
    exact this

set_option maxRecDepth 100000 in
set_option maxHeartbeats 2000000 in
theorem ofB (l : List Nat) (base : Nat) (v : Value) (w : World) (h : w.ownsRow base 92 1 v l.length (icell l)) (hl : l.length ≤ 3000000) : 
    Calls Tryz.prog 75 #[v] w fun e w' => ∃ v', e = .returned (.agg #[v']) ∧ w'.ownsRow w.heap.size 92 1 v' (ofL l).length (icell (ofL l)) ∧ Below w.heap.size w w' := by
  obtain ⟨p, c, rfl⟩ := owns_slice2 h
  go_enter Tryz.func75, Tryz.ntmps75
  go_wp2_with fail
  refine (clnB l base _ _ (h.alloc _) hl).mono ?_
  rintro e w1 ⟨v1, rfl, o1, f1⟩
  have O1 := stop (And.intro o1 f1)
  obtain ⟨p1, c1, rfl⟩ := owns_slice2 o1
  clear f1 o1 h
  go_wp2_with fail
  refine (sortB l _ _ _ _ w1 O1.out.1 O1.out.2 (Nat.le_refl _) hl).mono ?_
  rintro e w2 ⟨rfl, H2⟩
  go_wp2_with fail
  refine (compactB l _ _ _ _ w2 H2.out.1 H2.out.2 (Nat.le_refl _) hl).mono ?_
  rintro e w3 ⟨v3, rfl, H3⟩
  have hb3 : w3.heap[w.heap.size]? = some (.cells #[.slice none 0 0] 86 (0, 0)) := by rw [H3.out.2.block _ (by simp)]; exact heap_alloc_last _ _
  have k0 := cell_of hb3 0
  have kf := frozen_of hb3
  simp at k0
  obtain ⟨p3, c3, rfl⟩ := owns_slice2 H3.out.1
  clear hb3 O1 H2
  go_wp2_with fail
  refine bodyPost_ret (v := .agg #[.slice p3 (ofL l).length c3]) (by simp [results, Tryz.results75, go_sem, k0]) rfl ⟨_, rfl, ?_, ?_⟩
  · exact owns_base (owns_setk H3.out.1 w.heap.size 0 _ (by simp)) (by simp)
  · exact below_set (((Below.refl _ _).alloc (Nat.le_refl _) _).trans (H3.out.2.mono (by simp))) _ _ _ (Nat.le_refl _)

end Go.Proofs.YtgfhfkgdmidhpaaGreat

namespace Go.Proofs.YtgfhfkgdmidhpaaGreat
open Go.RowKit

theorem owns_cut {w : World} {base e g c n m : Nat} {xs : List Value} (h : w.ownsRow base e 1 (.slice (some ⟨g, 0, none⟩) n c) n xs) (hm : m ≤ n) : w.ownsRow base e 1 (.slice (some ⟨g, 0, none⟩) m c) m (xs.take m) := by
  obtain ⟨h1, h2⟩ := h
  rcases h2 with ⟨h0, _⟩ | ⟨g', c', cur, hv, hb, hh, hn, hc, hs, ht⟩
  · cases h0
  · cases hv
    refine ⟨by simp; omega, .inr ⟨g, c, cur, rfl, hb, hh, by omega, hc, hs, ?_⟩⟩
    rw [← ht, List.take_take]
    congr 1
    omega
theorem owns_setCells {base e g c n : Nat} : ∀ (vs : List Value) (o : Nat) (w : World) (xs : List Value), w.ownsRow base e 1 (.slice (some ⟨g, 0, none⟩) n c) n xs → ∃ xs', (w.setCells g o vs).ownsRow base e 1 (.slice (some ⟨g, 0, none⟩) n c) n xs' ∧ xs'.take o = xs.take o
  | [], _, _, xs, h => ⟨xs, h, rfl⟩
  | v :: vs, o, w, xs, h => by
    obtain ⟨xs', a, b⟩ := owns_setCells vs (o + 1) (w.setCell ⟨g, o, none⟩ v) (xs.set o v) (owns_store h o v)
    refine ⟨xs', a, ?_⟩
    have := congrArg (List.take o) b
    rw [List.take_take, List.take_take, Nat.min_eq_left (by omega), List.take_set_of_le (Nat.le_refl _)] at this
    exact this
theorem below_setCells {base g : Nat} {u : World} (hg : base ≤ g) : ∀ (vs : List Value) (o : Nat) (w : World), Below base u w → Below base u (w.setCells g o vs)
  | [], _, _, h => h
  | v :: vs, o, _, h => below_setCells hg vs (o + 1) _ (below_set h g o v hg)
theorem hasF_iff {l : List Nat} {x : Nat} : hasF l x = true ↔ x ∈ l := by simp [hasF]
theorem found_is {l : List Nat} {x i : Nat} (hsrt : l.Pairwise (· < ·)) (hs : Splits l x i) : foundAt l x i = hasF l x := by
  by_cases hx : x ∈ l
  · rw [hasF_iff.2 hx]
    obtain ⟨k, hk, he⟩ := List.getElem_of_mem hx
    have hki : ¬ k < i := fun h => by have := hs.1 k h hk; omega
    have hle := hs.2 i (Nat.le_refl _) (by omega)
    have hie : i = k := by
      rcases Nat.lt_or_ge i k with h | h
      · have := List.pairwise_iff_getElem.1 hsrt i k (by omega) hk h; omega
      · omega
    subst hie
    simp [foundAt, hk, he]
  · have h1 : hasF l x = false := by
      cases h : hasF l x with
      | false => rfl
      | true => exact absurd (hasF_iff.1 h) hx
    rw [h1]
    unfold foundAt
    cases h : l[i]? with
    | none => rfl
    | some y =>
      have := List.mem_of_getElem? h
      simp only [beq_eq_false_iff_ne]
      rintro rfl
      exact hx this

def firstIn (lo l : List Nat) : Int := match l.findIdx? (hasF lo) with | some i => i | none => -1
theorem first_hit {lo l : List Nat} {k : Nat} (hk : k < l.length) (hn : ∀ j, j < k → (hj : j < l.length) → hasF lo l[j] = false) (hh : hasF lo l[k] = true) : firstIn lo l = k := by
  have : l.findIdx? (hasF lo) = some k := List.findIdx?_eq_some_iff_getElem.2 ⟨hk, hh, fun j hj => by simp [hn j hj (by omega)]⟩
  rw [firstIn, this]
theorem first_none {lo l : List Nat} (hn : ∀ j, (hj : j < l.length) → hasF lo l[j] = false) : firstIn lo l = -1 := by
  have : l.findIdx? (hasF lo) = none := List.findIdx?_eq_none_iff.2 fun x hx => by
    obtain ⟨j, hj, rfl⟩ := List.getElem_of_mem hx
    exact hn j hj
  rw [firstIn, this]
theorem first_cases (lo l : List Nat) : (firstIn lo l = -1 ∧ ∀ x ∈ l, hasF lo x = false) ∨ ∃ k, ∃ h : k < l.length, firstIn lo l = (k : Int) ∧ hasF lo l[k] = true ∧ ∀ j, j < k → (hj : j < l.length) → hasF lo l[j] = false := by
  cases h : l.findIdx? (hasF lo) with
  | none => exact .inl ⟨by rw [firstIn, h], fun x hx => List.findIdx?_eq_none_iff.1 h x hx⟩
  | some k =>
    obtain ⟨hk, a, b⟩ := List.findIdx?_eq_some_iff_getElem.1 h
    exact .inr ⟨k, hk, by rw [firstIn, h], a, fun j hj hl => by simpa using b j hj⟩
/-- What is in the one and not in the other. -/
def dif (l lo : List Nat) : List Nat := l.filter fun x => !hasF lo x
theorem dif_mem {l lo : List Nat} {x : Nat} : x ∈ dif l lo ↔ x ∈ l ∧ x ∉ lo := by
  rw [dif, List.mem_filter]
  constructor
  · rintro ⟨a, b⟩
    exact ⟨a, fun h => by rw [hasF_iff.2 h] at b; cases b⟩
  · rintro ⟨a, b⟩
    refine ⟨a, ?_⟩
    cases h : hasF lo x with
    | false => rfl
    | true => exact absurd (hasF_iff.1 h) b
theorem dif_srt {l lo : List Nat} (h : l.Pairwise (· < ·)) : (dif l lo).Pairwise (· < ·) := List.Pairwise.filter _ h
theorem dif_len (l lo : List Nat) : (dif l lo).length ≤ l.length := List.length_filter_le _ _
theorem dif_all {l lo : List Nat} (h : ∀ x ∈ l, hasF lo x = false) : dif l lo = l := List.filter_eq_self.2 fun x hx => by rw [h x hx]; rfl
theorem dif_take_keep {l lo : List Nat} {j : Nat} (hj : j < l.length) (h : hasF lo l[j] = false) : dif (l.take (j + 1)) lo = dif (l.take j) lo ++ [l[j]] := by
  rw [List.take_succ_eq_append_getElem hj, dif, List.filter_append]; simp [dif, h]
theorem dif_take_drop {l lo : List Nat} {j : Nat} (hj : j < l.length) (h : hasF lo l[j] = true) : dif (l.take (j + 1)) lo = dif (l.take j) lo := by
  rw [List.take_succ_eq_append_getElem hj, dif, List.filter_append]; simp [dif, h]
theorem dif_take_none {l lo : List Nat} : ∀ {k : Nat}, k ≤ l.length → (∀ j, j < k → (hj : j < l.length) → hasF lo l[j] = false) → dif (l.take k) lo = l.take k := by
  intro k _ h
  refine dif_all fun x hx => ?_
  obtain ⟨j, hj, rfl⟩ := List.getElem_of_mem hx
  rw [List.getElem_take]
  rw [List.length_take] at hj
  exact h j (by omega) (by omega)
theorem mid_set {kept mid rest : List Nat} {x y : Nat} (hm : mid ≠ []) : ∃ mid' : List Nat, mid'.length = mid.length ∧ (kept ++ (mid ++ (x :: rest))).set kept.length y = kept ++ [y] ++ (mid' ++ rest) := by
  match mid, hm with
  | m :: ms, _ =>
    refine ⟨ms ++ [x], by simp, ?_⟩
    rw [List.set_append_right _ _ (Nat.le_refl _)]
    simp
theorem icell_set (l : List Nat) (i y : Nat) : (icell l).set i (.int .i64 y) = icell (l.set i y) := by simp [icell, List.map_set]

set_option maxRecDepth 100000 in
set_option maxHeartbeats 2000000 in
theorem itmB (l : List Nat) (base : Nat) (v : Value) (w : World) (h : w.ownsRow base 92 1 v l.length (icell l)) (hl : l.length ≤ 3000000) : 
    Calls Tryz.prog 67 #[.agg #[v]] w fun e w' => ∃ v', e = .returned v' ∧ w'.ownsRow w.heap.size 92 1 v' l.length (icell l) ∧ Below w.heap.size w w' := by
  obtain ⟨p, c, rfl⟩ := owns_slice2 h
  go_enter Tryz.func67, Tryz.ntmps67
  go_wp2_with fail
  refine (clnB l base _ _ (h.alloc _) hl).mono ?_
  rintro e w1 ⟨v1, rfl, o1, f1⟩
  have O1 : Hid (w1.ownsRow w.heap.size 92 1 v1 l.length (icell l) ∧ Below w.heap.size w w1) := ⟨owns_base o1 (by simp), ((Below.refl _ _).alloc (Nat.le_refl _) _).trans (f1.mono (by simp))⟩
  clear o1 f1
  go_wp2_with fail
  go_ret
  exact ⟨v1, rfl, O1.out.1, O1.out.2⟩

set_option maxRecDepth 100000 in
set_option maxHeartbeats 2000000 in
theorem hasSB (l : List Nat) (x base : Nat) (v : Value) (w : World) (h : w.ownsRow base 92 1 v l.length (icell l)) (hsrt : Hid (l.Pairwise (· < ·))) (hl : l.length ≤ 1000000) : 
    Calls Tryz.prog 116 #[.agg #[v], .int .i64 x] w fun e w' => e = .returned (.bool (hasF l x)) ∧ Below w.heap.size w w' := by
  obtain ⟨p, c, rfl⟩ := owns_slice2 h
  go_enter Tryz.func116, Tryz.ntmps116
  go_wp2_with fail
  refine (bsearchB l x hsrt base _ _ (h.alloc _) hl).mono ?_
  rintro e w1 ⟨hw1, i, hi, hsp, rfl⟩
  have F : Hid (Below w.heap.size w w1) := by rw [hw1]; exact (Below.refl _ _).alloc (Nat.le_refl _) _
  rw [found_is hsrt.out hsp]
  clear hw1 hsp
  go_wp2_with fail
  go_ret
  exact ⟨rfl, F.out⟩

set_option maxRecDepth 100000 in
set_option maxHeartbeats 2000000 in
theorem idxB (l lo : List Nat) (base B2 : Nat) (v vo : Value) (w : World) (h : w.ownsRow base 92 1 v l.length (icell l)) (ho : w.ownsRow B2 92 1 vo lo.length (icell lo)) (hsrt : Hid (lo.Pairwise (· < ·))) (hl : l.length ≤ 1000000) (hlo : lo.length ≤ 1000000) :
    Calls Tryz.prog 142 #[v, .func (.func 116) #[.agg #[vo]] #[]] w fun e w' => e = .returned (.int .i64 (firstIn lo l)) ∧ Below w.heap.size w w' := by
  obtain ⟨p, c, rfl⟩ := owns_slice2 h
  obtain ⟨po, co, rfl⟩ := owns_slice2 ho
  go_enter Tryz.func142, Tryz.ntmps142
  go_wp2_with fail
  go_loopw [8] (fun i wr => ∃ k : Nat, k ≤ l.length ∧ i = .int .i64 k ∧ Hid (∀ j, j < k → (hj : j < l.length) → hasF lo l[j] = false) ∧ Hid (Below w.heap.size w wr)) (fun i _ => l.length - (intOf i).toNat)
  case atStart => exact ⟨0, by omega, rfl, fun j hj => by omega, Below.refl _ _⟩
  case round =>
    obtain ⟨k, hk, rfl, HN, F⟩ := hrel
    have hz := F.out.size
    by_cases hlt : k < l.length
    · obtain ⟨g, rfl, _, hgl⟩ := owns_form h (by omega)
      have c0 : wr.cell? ⟨g, k, none⟩ = _ := (F.out.cell (p := ⟨g, k, none⟩) hgl).trans (owns_cell h (icell_at hlt))
      have ho2 := stop (owns_keeps ho (Keeps.below (T := fun _ => True) F.out) trivial)
      go_wp2_with fail
      refine (hasSB lo l[k] B2 _ wr ho2.out hsrt hlo).mono ?_
      rintro e w2 ⟨rfl, f2⟩
      have F2 := stop (F.out.trans (f2.mono hz))
      clear f2 c0
      cases hh : hasF lo l[k] with
      | true =>
        have HF := stop (first_hit hlt HN.out hh)
        clear hh
        go_wp2_with fail
        go_ret
        exact ⟨by rw [HF.out]; rfl, F2.out⟩
      | false =>
        have HN2 : Hid (∀ j, j < k + 1 → (hj : j < l.length) → hasF lo l[j] = false) := fun j hj hjl => by
          by_cases e : j = k
          · subst e; exact hh
          · exact HN.out j (by omega) hjl
        clear hh
        go_wp2_with fail
        go_roundw
        case rel => exact ⟨k + 1, by omega, by go_num, HN2, F2⟩
        case measure => simp [intOf]; omega
    · have HF := stop (first_none (lo := lo) (l := l) fun j hj => HN.out j (by omega) hj)
      go_wp2_with fail
      go_ret
      exact ⟨by rw [HF.out]; rfl, F.out⟩

set_option maxRecDepth 100000 in
set_option maxHeartbeats 4000000 in
theorem delB (l lo : List Nat) (base B2 : Nat) (v vo : Value) (w0 w : World) (h : w.ownsRow base 92 1 v l.length (icell l)) (ho : w0.ownsRow B2 92 1 vo lo.length (icell lo)) (F : Below w0.heap.size w0 w) (hB : w0.heap.size ≤ base) (hsrt : Hid (lo.Pairwise (· < ·))) (hl : l.length ≤ 1000000) (hlo : lo.length ≤ 1000000) :
    Calls Tryz.prog 115 #[v, .func (.func 116) #[.agg #[vo]] #[]] w fun e w' => ∃ v', e = .returned v' ∧ Hid (w'.ownsRow base 92 1 v' (dif l lo).length (icell (dif l lo)) ∧ Below w0.heap.size w0 w') := by
  obtain ⟨p, c, rfl⟩ := owns_slice2 h
  obtain ⟨po, co, rfl⟩ := owns_slice2 ho
  have HO := stop ho
  have HF := stop F
  go_enter Tryz.func115, Tryz.ntmps115
  go_wp2_with fail
  refine (idxB l lo base B2 _ _ w h (owns_keeps ho (Keeps.below (T := fun _ => True) F) trivial) hsrt hl hlo).mono ?_
  rintro e w1 ⟨rfl, f1⟩
  have o1 := owns_keeps h (Keeps.below (T := fun _ => True) f1) trivial
  have F1 := stop (F.trans (f1.mono F.size))
  clear f1 h F HF ho
  rcases first_cases lo l with ⟨hf, hall⟩ | ⟨k, hk, hf, hin, hnot⟩
  · rw [hf]
    have HD := stop (And.intro (dif_all hall) o1)
    clear hf hall o1
    go_wp2_with fail
    go_ret
    exact ⟨_, rfl, by rw [HD.out.1]; exact HD.out.2, F1.out⟩
  · rw [hf]
    obtain ⟨g, rfl, hgb, _⟩ := owns_form o1 (by omega)
    have HK : Hid (dif (l.take (k + 1)) lo = l.take k) := by show _ = _; rw [dif_take_drop hk hin, dif_take_none (by omega) hnot]
    have hd : ((k : Int) == -1) = false := by simp
    have S0 : Hid (l.take k ++ ([l[k]] ++ l.drop (k + 1)) = l) := by show _ = _; simp
    have hkl : k < 1000000 := by omega
    clear hf hin hnot
    go_wp2_with fail
    go_loopw [5, 6] (fun i j wr => ∃ q t : Nat, k < t ∧ t ≤ l.length ∧ q < t ∧ i = .int .i64 q ∧ j = .int .i64 t ∧ (∃ mid : List Nat, Hid (q = (dif (l.take t) lo).length ∧ mid.length = t - q ∧ wr.ownsRow base 92 1 (.slice (some ⟨g, 0, none⟩) l.length c) l.length (icell (dif (l.take t) lo ++ (mid ++ l.drop t))))) ∧ Hid (Below w0.heap.size w0 wr)) (fun _ j _ => l.length - (intOf j).toNat)
    case atStart => exact ⟨k, k + 1, by omega, by omega, by omega, rfl, by go_num, ⟨[l[k]], by rw [HK.out, List.length_take]; omega, by simp, by rw [HK.out, S0.out]; exact o1⟩, F1⟩
    case round =>
      clear o1 F1
      obtain ⟨q, t, hkt, ht, hqt, rfl, rfl, ⟨mid, HM⟩, F⟩ := hrel
      have hz := F.out.size
      by_cases hlt : t < l.length
      · have hdt : l.drop t = l[t] :: l.drop (t + 1) := List.drop_eq_getElem_cons hlt
        have c0 : wr.cell? ⟨g, t, none⟩ = some (.int .i64 l[t]) := by
          have hx : (icell (dif (l.take t) lo ++ (mid ++ l.drop t)))[t]? = some (.int .i64 l[t]) := by
            have e1 : (dif (l.take t) lo ++ (mid ++ l.drop t))[t]? = some l[t] := by
              rw [hdt, ← List.append_assoc, List.getElem?_append_right (by rw [List.length_append]; have := HM.out.1; have := HM.out.2.1; omega)]
              rw [List.length_append, show t - ((dif (l.take t) lo).length + mid.length) = 0 by have := HM.out.1; have := HM.out.2.1; omega]
              rfl
            rw [icell, List.getElem?_map, e1]; rfl
          exact owns_cell HM.out.2.2 hx
        have ho2 := stop (owns_keeps HO.out (Keeps.below (T := fun _ => True) F.out) trivial)
        go_wp2_with fail
        refine (hasSB lo l[t] B2 _ wr ho2.out hsrt hlo).mono ?_
        rintro e w2 ⟨rfl, f2⟩
        have F2 := stop (F.out.trans (f2.mono hz))
        have o2 := owns_keeps HM.out.2.2 (Keeps.below (T := fun _ => True) f2) trivial
        clear f2 c0 ho2
        cases hh : hasF lo l[t] with
        | true =>
          have HM2 : Hid (q = (dif (l.take (t + 1)) lo).length ∧ (mid ++ [l[t]]).length = t + 1 - q ∧ w2.ownsRow base 92 1 (.slice (some ⟨g, 0, none⟩) l.length c) l.length (icell (dif (l.take (t + 1)) lo ++ ((mid ++ [l[t]]) ++ l.drop (t + 1))))) := by
            refine ⟨by rw [dif_take_drop hlt hh]; exact HM.out.1, by simp; have := HM.out.2.1; omega, ?_⟩
            rw [dif_take_drop hlt hh, List.append_assoc, List.singleton_append, ← hdt]
            exact o2
          clear hh hdt o2
          go_wp2_with fail
          go_roundw
          case rel => exact ⟨q, t + 1, by omega, by omega, by omega, rfl, by go_num, ⟨_, HM2⟩, F2⟩
          case measure => simp [intOf]; omega
        | false =>
          have hfz := owns_fz o2 q
          have hq1 := HM.out.1
          have hq2 := HM.out.2.1
          have hcq : ∃ u, w2.cell? ⟨g, q, none⟩ = some u := by
            have hx : ∃ u, (icell (dif (l.take t) lo ++ (mid ++ l.drop t)))[q]? = some u := ⟨_, List.getElem?_eq_getElem (by simp [icell]; omega)⟩
            obtain ⟨u, hu⟩ := hx
            exact ⟨u, owns_cell o2 hu⟩
          obtain ⟨u, hu⟩ := hcq
          obtain ⟨mid', hm1, hm2⟩ := mid_set (kept := dif (l.take t) lo) (mid := mid) (rest := l.drop (t + 1)) (x := l[t]) (y := l[t]) (by intro e; rw [e] at hq2; simp at hq2; omega)
          have HM2 : Hid (q + 1 = (dif (l.take (t + 1)) lo).length ∧ mid'.length = t + 1 - (q + 1) ∧ (w2.setCell ⟨g, q, none⟩ (.int .i64 l[t])).ownsRow base 92 1 (.slice (some ⟨g, 0, none⟩) l.length c) l.length (icell (dif (l.take (t + 1)) lo ++ (mid' ++ l.drop (t + 1))))) := by
            refine ⟨by rw [dif_take_keep hlt hh]; simp; omega, by omega, ?_⟩
            rw [dif_take_keep hlt hh, ← hm2, ← hq1, ← hdt, ← icell_set]
            exact owns_store o2 q _
          have F3 := stop (below_set F2.out g q (.int .i64 l[t]) (by omega))
          have hql : q < l.length := by omega
          clear hh hdt o2 hm2 hq1
          go_wp2_with fail
          go_roundw
          case rel => exact ⟨q + 1, t + 1, by omega, by omega, by omega, by go_num, by go_num, ⟨_, HM2⟩, F3⟩
          case measure => simp [intOf]; omega
      · have hte : t = l.length := by omega
        subst hte
        obtain ⟨hq1, hq2, o2⟩ := HM.out
        have hzv : ∀ w, (zeroValue 92).run Tryz.prog w = .ok (.int .i64 0) w := fun w => by kernel_rfl
        have hcl : ∀ ty, (Builtin.clear_ #[84] ty #[.slice (some ⟨g, q, none⟩) (l.length - q) (c - q)]).run Tryz.prog wr = .ok (.tuple #[]) (wr.setCells g q (List.replicate (l.length - q) (.int .i64 0))) :=
          fun ty => Lib.run_clear_slice wr _ _ ty _ Tryz.underlying84 hzv rfl rfl g q _ _ (by omega) (fun t ht => by
            have hx : ∃ u, (icell (dif (l.take l.length) lo ++ (mid ++ l.drop l.length)))[q + t]? = some u := ⟨_, List.getElem?_eq_getElem (by simp [icell] at hq1 hq2 ⊢; omega)⟩
            obtain ⟨u, hu⟩ := hx
            rw [owns_cell o2 hu]; rfl) (fun t _ => owns_fz o2 _)
        have HE : Hid (∃ xs', (wr.setCells g q (List.replicate (l.length - q) (.int .i64 0))).ownsRow base 92 1 (.slice (some ⟨g, 0, none⟩) l.length c) l.length xs' ∧ xs'.take q = icell (dif l lo)) := by
          obtain ⟨xs', a, b⟩ := owns_setCells (List.replicate (l.length - q) (.int .i64 0)) q wr _ o2
          refine ⟨xs', a, b.trans ?_⟩
          rw [List.take_length] at hq1 ⊢
          rw [icell_app, hq1, List.take_left' (by simp [icell])]
        have F3 := stop (below_setCells (base := w0.heap.size) (g := g) (by omega) (List.replicate (l.length - q) (.int .i64 0)) q wr F.out)
        have HQ : Hid (q = (dif l lo).length) := by rw [List.take_length] at hq1; exact hq1
        have hnc : l.length ≤ c := by
          rcases o2.2 with ⟨h0, _⟩ | ⟨_, _, _, hv, _, _, hn, _⟩
          · cases h0
          · cases hv; exact hn
        have hcm : c ≤ 9223372036854775807 := by
          rcases o2.2 with ⟨h0, _⟩ | ⟨_, _, _, hv, _, _, _, hn, _⟩
          · cases h0
          · cases hv; unfold maxLen at hn; omega
        clear o2 hq1 hq2 HM hzv
        go_wp2_with fail
        go_ret
        obtain ⟨xs', a, b⟩ := HE.out
        refine ⟨_, rfl, ?_, F3.out⟩
        have := owns_cut a (m := q) (by omega)
        rw [b] at this
        rw [← HQ.out]
        exact this

end Go.Proofs.YtgfhfkgdmidhpaaGreat
