import Derived.Test.YtgfhfkgdmidhpaaGreatDoorG10
import Derived.Deep.AppendSrc
namespace Go.Proofs.YtgfhfkgdmidhpaaGreatDoor
open Go.RowKit

/-- append of nothing. -/
theorem appNil {t e : TypeId} {z : Value} {size bytes : Nat} (ht : Tryz.prog.underlying t = some (.slice e)) (hi : (Tryz.prog.info? e).map (fun i => (i.zero, i.size, i.bytes)) = some (some z, size, bytes))
    {ops : Array Oper} {rest : List Oper} {o : Oper} {a : Act} {Q : Exit → Act → World → Prop} {w : World} (hgd : o.guard = none) (s x : Operand)
    (ho : o.op = .call { callee := .builtin .append, args := #[s, x], argTypes := #[t, t] })
    {base : Nat} {v : Value} {n : Nat} {xs : List Value} (hs : a.eval s = v) (hown : w.ownsRow base e size v n xs) (hx : a.eval x = .slice none 0 0)
    (h : wpList Tryz.prog ops Q rest (a.put o.dst v) w) : wpList Tryz.prog ops Q (o :: rest) a w := by
  obtain ⟨I, Hi, Hz, Hs, Hb⟩ := info_parts hi
  have hr : ∀ ty, (Builtin.append_ #[t, t] ty #[v, .slice none 0 0]).run Tryz.prog w = .ok v w := by
    intro ty
    rcases hown.2 with ⟨rfl, _⟩ | ⟨g, cap, cur, rfl, _, _, hnc, _⟩
    · have hs := Src.ofNil (P := Tryz.prog) w (size := I.size) ht 0
      simp [Builtin.append_, run_underlying ht, sizeOf, typeInfo, Hi, hs.len, hs.cells]
    · have := run_append_room_src (P := Tryz.prog) w t t ty e I ht Hi g 0 n cap (.slice none 0 0) 0 [] (Src.ofNil w ht 0) (by omega) (by simp) (by simp)
      simpa [World.setCells] using this
  refine wpList_plain hgd fun _ hK => ?_
  unfold Oper.wp execOp
  simp only [ho, resolve, invoke, builtin, Sem.run_bind, Sem.run_pure, Result.andThen_ok, List.map_toArray, List.map_cons, List.map_nil, hs, hx, hr]
  exact hK _ _ h

set_option maxHeartbeats 400000 in
theorem goalsK96 (w : World) : Calls Tryz.prog 307 #[.agg #[]] w fun x w' => x = .returned (.slice none 0 0) ∧ Below w.heap.size w w' := by
  go_enter Tryz.func307, Tryz.ntmps307
  go_wp2
  go_ret
  exact ⟨rfl, (Below.refl _ _).alloc (Nat.le_refl _) _⟩
set_option maxHeartbeats 400000 in
theorem goalsK97 (a b : Nat) (w : World) : Calls Tryz.prog 311 #[.agg #[.int .i64 a, .int .i64 b]] w fun x w' => ∃ g, x = .returned (.slice (some ⟨g, 0, none⟩) 1 1) ∧ w'.ownsRow w.heap.size 145 2 (.slice (some ⟨g, 0, none⟩) 1 1) 1 (pcs [(a, b)]) ∧ Below w.heap.size w w' := by
  go_enter Tryz.func311, Tryz.ntmps311
  go_wp2
  go_ret
  refine ⟨w.heap.size + 1, rfl, ?_, ((Below.refl _ _).alloc (Nat.le_refl _) _).alloc (by simp) _⟩
  have ON := owns_new (w.alloc (.cells #[.int .i64 a, .int .i64 b] 312)) w.heap.size 145 2 1 #[.int .i64 a, .int .i64 b] (by simp) rfl (by decide)
  rw [World.size_alloc] at ON
  exact ON
set_option maxHeartbeats 400000 in
theorem goalsK100 (p q a b c d : Nat) (w : World) : Calls Tryz.prog 319 #[.agg #[.int .i64 p, .int .i64 q, .int .i64 a, .int .i64 b, .int .i64 c, .int .i64 d]] w fun x w' => ∃ g, x = .returned (.slice (some ⟨g, 0, none⟩) 2 2) ∧ w'.ownsRow w.heap.size 145 2 (.slice (some ⟨g, 0, none⟩) 2 2) 2 (pcs [(a, b), (c, d)]) ∧ Below w.heap.size w w' := by
  go_enter Tryz.func319, Tryz.ntmps319
  go_wp2
  go_ret
  refine ⟨w.heap.size + 1, rfl, ?_, ((Below.refl _ _).alloc (Nat.le_refl _) _).alloc (by simp) _⟩
  have ON := owns_new (w.alloc (.cells #[.int .i64 p, .int .i64 q, .int .i64 a, .int .i64 b, .int .i64 c, .int .i64 d] 353)) w.heap.size 145 2 2 #[.int .i64 a, .int .i64 b, .int .i64 c, .int .i64 d] (by simp) rfl (by decide)
  rw [World.size_alloc] at ON
  exact ON
theorem Tryz.info145 : (Tryz.prog.info? 145).map (fun i => (i.zero, i.size, i.bytes)) = some (some (.agg #[.int .i64 0, .int .i64 0]), 2, 16) := by kernel_rfl
theorem srcCells_at {gs rs : List (Nat × Nat)} (h : gs.length = rs.length) {j : Nat} (hj : j < gs.length) :
    (srcCells gs rs)[j * 4]? = some (.int .i64 gs[j].1) ∧ (srcCells gs rs)[j * 4 + 1]? = some (.int .i64 gs[j].2) ∧ (srcCells gs rs)[j * 4 + 2]? = some (.int .i64 (rs[j]'(by omega)).1) ∧ (srcCells gs rs)[j * 4 + 3]? = some (.int .i64 (rs[j]'(by omega)).2) := by
  have hl : ∀ x ∈ List.zipWith (fun g r => pc g ++ pc r) gs rs, x.length = 4 := by
    intro x hx
    rw [List.mem_iff_getElem?] at hx
    obtain ⟨n, hn⟩ := hx
    rw [List.getElem?_zipWith] at hn
    split at hn
    · cases hn; rfl
    · cases hn
  have hk : (List.zipWith (fun g r => pc g ++ pc r) gs rs)[j]? = some (pc gs[j] ++ pc (rs[j]'(by omega))) := by
    rw [List.getElem?_zipWith, List.getElem?_eq_getElem hj, List.getElem?_eq_getElem (show j < rs.length by omega)]
  have F := fun i hi => flat_get 4 _ j i _ hl hk hi
  exact ⟨F 0 (by omega), F 1 (by omega), F 2 (by omega), F 3 (by omega)⟩
theorem PChAll.at {w base} : ∀ {cs vs}, PChAll w base cs vs → ∀ {k} (hk : k < cs.length), ∃ v, vs[k]? = some v ∧ cs[k].gs.length = cs[k].rs.length ∧ w.ownsRow base 147 4 v cs[k].gs.length (srcCells cs[k].gs cs[k].rs)
  | [], [], _, k, hk => absurd hk (by simp)
  | c :: cs, v :: vs, h, 0, _ => ⟨v, rfl, h.1.1, h.1.2⟩
  | c :: cs, v :: vs, h, k + 1, hk => by
    obtain ⟨u, a, b, d⟩ := PChAll.at h.2 (k := k) (by simpa using hk)
    exact ⟨u, by simpa using a, by simpa using b, by simpa using d⟩
  | [], _ :: _, h, _, _ => h.elim
  | _ :: _, [], h, _, _ => h.elim
theorem PChs.at {w : World} {base : Nat} {cs : List RCho} {p : Option Addr} {m cap : Nat} (h : PChs w base cs (.slice p m cap)) {k : Nat} (hk : k < cs.length) :
    ∃ g pu cu, p = some ⟨g, 0, none⟩ ∧ base ≤ g ∧ g < w.heap.size ∧ cs[k].gs.length = cs[k].rs.length ∧ w.ownsRow base 147 4 (.slice pu cs[k].gs.length cu) cs[k].gs.length (srcCells cs[k].gs cs[k].rs) ∧
      w.cell? ⟨g, k * 3, none⟩ = some (.int .i64 cs[k].to.1) ∧ w.cell? ⟨g, k * 3 + 1, none⟩ = some (.int .i64 cs[k].to.2) ∧ w.cell? ⟨g, k * 3 + 2, none⟩ = some (.slice pu cs[k].gs.length cu) := by
  obtain ⟨vs, a, b⟩ := h
  obtain ⟨v, hv, hc, hs⟩ := b.at hk
  obtain ⟨p', c', e1⟩ := owns_slice2 a
  cases e1
  obtain ⟨g, rfl, hb, hg⟩ := owns_form a (by omega)
  obtain ⟨pu, cu, e2⟩ := owns_slice2 hs
  have hl : ∀ x ∈ List.zipWith pchCell cs vs, x.length = 3 := by
    intro x hx
    rw [List.mem_iff_getElem?] at hx
    obtain ⟨n, hn⟩ := hx
    rw [List.getElem?_zipWith] at hn
    split at hn
    · cases hn; rfl
    · cases hn
  have hk2 : (List.zipWith pchCell cs vs)[k]? = some (pchCell cs[k] v) := by rw [List.getElem?_zipWith, hv, List.getElem?_eq_getElem hk]
  have F := fun j hj => flat_get 3 _ k j _ hl hk2 hj
  refine ⟨g, pu, cu, rfl, hb, hg, hc, by rw [← e2]; exact hs, ?_, ?_, ?_⟩
  · exact owns_cell a (F 0 (by omega))
  · exact owns_cell a (F 1 (by omega))
  · rw [← e2]; exact owns_cell a (F 2 (by omega))

/-- append of one element that lies in a new block. -/
theorem app1L {t e : TypeId} {z : Value} {size bytes : Nat} (ht : Tryz.prog.underlying t = some (.slice e)) (hi : (Tryz.prog.info? e).map (fun i => (i.zero, i.size, i.bytes)) = some (some z, size, bytes)) (hzs : z.cells.size = size) (hsz : 0 < size) (hby : bytes ≤ 1000)
    {ops : Array Oper} {rest : List Oper} {o : Oper} {a : Act} {Q : Exit → Act → World → Prop} {w : World} (hgd : o.guard = none) (s x : Operand)
    (ho : o.op = .call { callee := .builtin .append, args := #[s, x], argTypes := #[t, t] })
    {base : Nat} {v : Value} {n : Nat} {xs : List Value} (hs : a.eval s = v) (hown : w.ownsRow base e size v n xs)
    {B : Nat} {cs : Array Value} {tt : TypeId} {fr : Nat × Nat} (hB : w.heap[B]? = some (.cells cs tt fr)) (hx : a.eval x = .slice (some ⟨B, 0, none⟩) 1 1) (hl : cs.size = size) (h1 : ∀ u ∈ cs.toList, u.oneCell' = true)
    (hn : n ≤ 100000000000) (hbase : base ≤ w.heap.size)
    (h : ∀ v' w', w'.ownsRow base e size v' (n + 1) (xs ++ cs.toList) → w.grownBy w' v.ownBlock → wpList Tryz.prog ops Q rest (a.put o.dst v') w') : wpList Tryz.prog ops Q (o :: rest) a w := by
  obtain ⟨I, Hi, Hz, Hs, Hb⟩ := info_parts hi
  refine wpList_append_own w hgd s x t ho base e I z size bytes ht Hi Hz Hs Hb hzs hsz v n xs hs hown ⟨B, 0, none⟩ 1 1 cs.toList hx (by simpa using hl) (World.news_of_block hB) h1 (by unfold maxLen; omega) ?_ hbase (fun v' w' h1 h2 _ => h v' w' h1 h2)
  have : (n + 1) * bytes ≤ 100000000001 * 1000 := Nat.mul_le_mul (by omega) hby
  omega

def chTo (l : List RCho) (q : Nat) : List (Nat × Nat) := (l.take q).flatMap (·.gs)
def chToIn (l : List RCho) (q t : Nat) : List (Nat × Nat) := chTo l q ++ (match l[q]? with | some c => c.gs.take t | none => [])
theorem chTo_all (r : RBlk) : chTo r.chs r.chs.length = chG r := by rw [chTo, List.take_length, chG]
theorem chTo_in0 (l : List RCho) (q : Nat) : chToIn l q 0 = chTo l q := by unfold chToIn; cases l[q]? <;> simp
theorem chTo_inS {l : List RCho} {q t : Nat} (hq : q < l.length) (ht : t < l[q].gs.length) : chToIn l q (t + 1) = chToIn l q t ++ [l[q].gs[t]] := by
  simp only [chToIn, List.getElem?_eq_getElem hq, List.append_assoc]
  rw [List.take_succ_eq_append_getElem ht]
theorem chTo_inE {l : List RCho} {q : Nat} (hq : q < l.length) : chToIn l q l[q].gs.length = chTo l (q + 1) := by
  simp only [chToIn, List.getElem?_eq_getElem hq, List.take_length, chTo]
  conv => rhs; rw [List.take_succ_eq_append_getElem hq, List.flatMap_append, List.flatMap_cons, List.flatMap_nil, List.append_nil]
theorem chToIn_le (l : List RCho) (q t : Nat) : (chToIn l q t).length ≤ (l.flatMap (·.gs)).length := by
  unfold chToIn chTo
  conv => rhs; rw [← List.take_append_drop q l, List.flatMap_append, List.length_append]
  rw [List.length_append]
  cases h : l[q]? with
  | none => simp
  | some c =>
    have hq : q < l.length := by
      rcases Nat.lt_or_ge q l.length with g | g
      · exact g
      · rw [List.getElem?_eq_none g] at h; cases h
    rw [List.getElem?_eq_getElem hq] at h
    cases h
    rw [List.drop_eq_getElem_cons hq, List.flatMap_cons, List.length_append]
    simp only [List.length_take]; omega
theorem endStop {e : REnd} (h : e.op = 46) : endVal e = .iface 309 (.agg #[]) ∧ goalsF e = [] := by simp [endVal, goalsF, h]
theorem endJump {e : REnd} (h : e.op = 62) : endVal e = .iface 312 (.agg #[.int .i64 e.one.1, .int .i64 e.one.2]) ∧ goalsF e = [e.one] := by simp [endVal, goalsF, h]
theorem endFork {e : REnd} (h : e.op = 63) : endVal e = .iface 353 (.agg #[.int .i64 e.a.1, .int .i64 e.a.2, .int .i64 e.one.1, .int .i64 e.one.2, .int .i64 e.two.1, .int .i64 e.two.2]) ∧ goalsF e = [e.one, e.two] := by simp [endVal, goalsF, h]

set_option maxRecDepth 100000 in
set_option maxHeartbeats 4000000 in
theorem goalsOf_any (r : RBlk) (base : Nat) (qc : Option Addr) (cc : Nat) (vs : Value) (w : World) (h : PChs w base r.chs (.slice qc r.chs.length cc)) (hvs : ∃ p m c, vs = .slice p m c) (hop : r.e.op = 46 ∨ r.e.op = 62 ∨ r.e.op = 63)
    (hc1 : r.chs.length ≤ 400000) (hc2 : ((chG r).length ≤ 50000000000)) :
    Calls Tryz.prog 114 #[.agg #[.int .i64 r.at_, .slice qc r.chs.length cc, vs, endVal r.e]] w fun x w' => ∃ v, x = .returned v ∧ w'.ownsRow w.heap.size 145 2 v (allG r).length (pcs (allG r)) ∧ Below w.heap.size w w' := by
  obtain ⟨p0, m0, c0, rfl⟩ := hvs
  obtain ⟨T, x, hev⟩ := endVal_iface r.e
  have HEV := stop hev
  rw [hev]
  clear hev
  go_enter Tryz.func114, Tryz.ntmps114
  go_wp2_with fail
  go_loopw [3, 11] (fun l k wr => ∃ q : Nat, q ≤ r.chs.length ∧ k = .int .i64 q ∧ wr.ownsRow (w.heap.size + 1) 145 2 l (chTo r.chs q).length (pcs (chTo r.chs q)) ∧ Hid (Below (w.heap.size + 1) (w.alloc (.cells #[.int .i64 r.at_, .slice qc r.chs.length cc, .slice p0 m0 c0, .iface T x] 104)) wr)) (fun _ k _ => r.chs.length - (intOf k).toNat)
  case atStart => exact ⟨0, by omega, rfl, World.ownsRow_nil _ _ _ _, Below.refl _ _⟩
  case round =>
    obtain ⟨q, hq, rfl, O, F⟩ := hrel
    have hz : w.heap.size + 1 ≤ wr.heap.size := by have := F.out.size; rw [World.size_alloc] at this; exact this
    have hC := (h.keeps (Keeps.alloc _ T4 w _) (by simp [T4]) (by simp [T4])).keeps (T := T4) (fun g cur e hb ht hh => by rw [F.out.block g (by have := lt_of_block hh; rw [World.size_alloc] at this; exact this)]; exact hh) (by simp [T4]) (by simp [T4])
    obtain ⟨pl, cl, rfl⟩ := owns_slice2 O
    by_cases hql : q < r.chs.length
    · obtain ⟨gc, pu, cu, rfl, _, hgc, hgl, OF, e0, e1, e2⟩ := hC.at hql
      have HGL := stop hgl
      have hml : ∀ t, (chToIn r.chs q t).length ≤ 50000000000 := fun t => Nat.le_trans (chToIn_le _ _ _) hc2
      have hgs : r.chs[q].gs.length ≤ 50000000000 := by
        have h1 := hml r.chs[q].gs.length
        simp only [chToIn, List.getElem?_eq_getElem hql, List.take_length, List.length_append] at h1
        omega
      generalize hcq : r.chs[q] = c at *
      have HCQ := stop hcq
      clear hgl hcq hC
      go_wp2_with fail
      go_loopw [3, 18] (fun l j wz => ∃ t : Nat, t ≤ c.gs.length ∧ j = .int .i64 t ∧ wz.ownsRow (w.heap.size + 1) 145 2 l (chToIn r.chs q t).length (pcs (chToIn r.chs q t)) ∧ Hid (Below (w.heap.size + 1) (w.alloc (.cells #[.int .i64 r.at_, .slice (some ⟨gc, 0, none⟩) r.chs.length cc, .slice p0 m0 c0, .iface T x] 104)) wz) ∧ wz.ownsRow base 147 4 (.slice pu c.gs.length cu) c.gs.length (srcCells c.gs c.rs)) (fun _ j _ => c.gs.length - (intOf j).toNat)
      case atStart =>
        refine ⟨0, by omega, rfl, by rw [chTo_in0]; exact O.alloc _, F.out.alloc hz _, OF.alloc _⟩
      case round =>
        clear O F OF e0 e1 e2 hz hgc
        obtain ⟨t, ht, rfl, O, F, OF⟩ := hrel
        have hz : w.heap.size + 1 ≤ wr.heap.size := by have := F.out.size; rw [World.size_alloc] at this; exact this
        obtain ⟨pl2, cl2, rfl⟩ := owns_slice2 O
        by_cases htl : t < c.gs.length
        · obtain ⟨gf, rfl, _, hgf⟩ := owns_form OF (by omega)
          have f0 := owns_cell OF (srcCells_at HGL.out htl).1
          have f1 := owns_cell OF (srcCells_at HGL.out htl).2.1
          have f2 := owns_cell OF (srcCells_at HGL.out htl).2.2.1
          have f3 := owns_cell OF (srcCells_at HGL.out htl).2.2.2
          have hln := hml t
          have HS : Hid (chToIn r.chs q (t + 1) = chToIn r.chs q t ++ [c.gs[t]]) := by
            show _ = _
            have := chTo_inS (l := r.chs) hql (t := t) (by rw [HCQ.out]; exact htl)
            rw [this]
            congr 2
            simp [HCQ.out]
          go_wp2_with (at_builtin; refine unstop ?_)
          refine stop ?_
          have gB : ((wr.alloc (.cells #[.int .i64 c.gs[t].1, .int .i64 c.gs[t].2, .int .i64 (c.rs[t]'(by have := HGL.out; omega)).1, .int .i64 (c.rs[t]'(by have := HGL.out; omega)).2] 147)).alloc (.cells #[.int .i64 c.gs[t].1, .int .i64 c.gs[t].2] 145)).heap[wr.heap.size + 1]? = some (.cells #[.int .i64 c.gs[t].1, .int .i64 c.gs[t].2] 145 (0, 0)) := by
            simpa using heap_alloc_last (wr.alloc (.cells #[.int .i64 c.gs[t].1, .int .i64 c.gs[t].2, .int .i64 (c.rs[t]'(by have := HGL.out; omega)).1, .int .i64 (c.rs[t]'(by have := HGL.out; omega)).2] 147)) (.cells #[.int .i64 c.gs[t].1, .int .i64 c.gs[t].2] 145)
          have O2 := (O.alloc (.cells #[.int .i64 c.gs[t].1, .int .i64 c.gs[t].2, .int .i64 (c.rs[t]'(by have := HGL.out; omega)).1, .int .i64 (c.rs[t]'(by have := HGL.out; omega)).2] 147)).alloc (.cells #[.int .i64 c.gs[t].1, .int .i64 c.gs[t].2] 145)
          have F2 := (F.out.alloc hz (.cells #[.int .i64 c.gs[t].1, .int .i64 c.gs[t].2, .int .i64 (c.rs[t]'(by have := HGL.out; omega)).1, .int .i64 (c.rs[t]'(by have := HGL.out; omega)).2] 147)).alloc (by rw [World.size_alloc]; omega) (.cells #[.int .i64 c.gs[t].1, .int .i64 c.gs[t].2] 145)
          have OF2 := (OF.alloc (.cells #[.int .i64 c.gs[t].1, .int .i64 c.gs[t].2, .int .i64 (c.rs[t]'(by have := HGL.out; omega)).1, .int .i64 (c.rs[t]'(by have := HGL.out; omega)).2] 147)).alloc (.cells #[.int .i64 c.gs[t].1, .int .i64 c.gs[t].2] 145)
          have hz2 := F2.size
          rw [World.size_alloc] at hz2
          refine app1L Tryz.underlying154 Tryz.info145 rfl (by decide) (by decide) rfl _ _ rfl rfl O2 gB rfl rfl (List.all_eq_true.1 rfl) (by omega) hz2 ?_
          intro v6 w6 o6 gr6
          have F6 := stop (Below.grown F2 gr6 hz2 (fun j hj => (O2.lt j hj).1))
          have OF6 := owns_keeps OF2 (Keeps.grown (T := fun e => e = 147) O2 gr6 (by decide)) rfl
          have o7 : w6.ownsRow (w.heap.size + 1) 145 2 v6 (chToIn r.chs q (t + 1)).length (pcs (chToIn r.chs q (t + 1))) := by
            rw [HS.out, ← pcs_snoc, List.length_append]; exact o6
          obtain ⟨p6, c6, rfl⟩ := owns_slice2 o6
          clear gB O2 F2 OF2 gr6 o6 O F OF hz2 f0 f1 f2 f3
          go_wp2_with fail
          go_roundw
          case rel => exact ⟨t + 1, by omega, by go_num, o7, F6, OF6⟩
          case measure => simp [intOf]; omega
        · have hte : t = c.gs.length := by omega
          subst hte
          have HS : Hid (chToIn r.chs q c.gs.length = chTo r.chs (q + 1)) := by
            show _ = _
            have := chTo_inE (l := r.chs) hql
            rw [HCQ.out] at this; exact this
          go_wp2_with fail
          go_roundw
          case rel => exact ⟨q + 1, by omega, by go_num, by rw [← HS.out]; exact O, F⟩
          case measure => simp [intOf]; omega
    · have hqe : q = r.chs.length := by omega
      subst hqe
      have g0 : wr.heap[w.heap.size]? = some (.cells #[.int .i64 r.at_, .slice qc r.chs.length cc, .slice p0 m0 c0, .iface T x] 104 (0, 0)) := by
        rw [F.out.block _ (by omega)]; exact heap_alloc_last w _
      have q3 := cell_of g0 3
      simp at q3
      rw [chTo_all] at *
      have FF : Hid (Below w.heap.size w wr) := ((Below.refl _ _).alloc (Nat.le_refl _) _).trans (F.out.mono (by omega))
      clear hC F
      rcases hop with hop | hop | hop
      · obtain ⟨a1, a2⟩ := endStop hop
        rw [HEV.out] at a1
        cases a1
        have HAG : Hid (allG r = chG r) := by show _ = _; rw [allG, a2, List.append_nil]
        have hmt : ∀ w : World, (method 500 309 (.agg #[]) "Goals").run Tryz.prog w = .ok (307, .agg #[]) w := fun w => by kernel_rfl
        clear a2 hop
        go_wp2_with fail
        refine (goalsK96 _).mono ?_
        rintro e w5 ⟨rfl, f5⟩
        replace O := owns_keeps O (Keeps.below (T := fun _ => True) f5) trivial
        have F5 := stop (FF.out.trans (f5.mono (by omega)))
        go_wp2_with (at_builtin; refine unstop ?_)
        refine stop ?_
        refine appNil Tryz.underlying154 Tryz.info145 rfl _ _ rfl rfl O rfl ?_
        go_wp2_with fail
        go_ret
        refine ⟨_, rfl, ?_, F5.out⟩
        rw [HAG.out]
        exact owns_base (base' := w.heap.size) O (by omega)
      · obtain ⟨a1, a2⟩ := endJump hop
        rw [HEV.out] at a1
        cases a1
        have HAG : Hid (allG r = chG r ++ [r.e.one]) := by show _ = _; rw [allG, a2]
        have hmt : ∀ w : World, (method 500 312 (.agg #[.int .i64 r.e.one.1, .int .i64 r.e.one.2]) "Goals").run Tryz.prog w = .ok (311, .agg #[.int .i64 r.e.one.1, .int .i64 r.e.one.2]) w := fun w => by kernel_rfl
        clear a2 hop
        go_wp2_with fail
        refine (goalsK97 _ _ _).mono ?_
        rintro e w5 ⟨g5, rfl, O5, f5⟩
        replace O := owns_keeps O (Keeps.below (T := fun _ => True) f5) trivial
        have F5 := stop (FF.out.trans (f5.mono (by omega)))
        obtain ⟨I9, Hi9, Hz9, Hs9, Hb9⟩ := info_parts Tryz.info145
        go_wp2_with (at_builtin; refine unstop ?_)
        refine stop ?_
        refine wpList_append_own w5 rfl _ _ 154 rfl (w.heap.size + 1) 145 I9 (.agg #[.int .i64 0, .int .i64 0]) 2 16 Tryz.underlying154 Hi9 Hz9 Hs9 Hb9 rfl (by decide) _ _ _ rfl O ⟨g5, 0, none⟩ 1 1 (pcs [r.e.one]) rfl rfl (O5.cells rfl) (List.all_eq_true.1 rfl) (by unfold maxLen; omega) (by omega) (by have := f5.size; omega) ?_
        intro v6 w6 o6 gr6 _
        have F6 := stop (Below.grown F5.out gr6 (by have := f5.size; omega) (fun j hj => by have := (O.lt j hj).1; omega))
        obtain ⟨p6, c6, rfl⟩ := owns_slice2 o6
        clear gr6
        go_wp2_with fail
        go_ret
        refine ⟨_, rfl, ?_, F6.out⟩
        rw [HAG.out, List.length_append]
        have := owns_base (base' := w.heap.size) o6 (by omega)
        simpa [pcs] using this
      · obtain ⟨a1, a2⟩ := endFork hop
        rw [HEV.out] at a1
        cases a1
        have HAG : Hid (allG r = chG r ++ [r.e.one, r.e.two]) := by show _ = _; rw [allG, a2]
        have hmt : ∀ w : World, (method 500 353 (.agg #[.int .i64 r.e.a.1, .int .i64 r.e.a.2, .int .i64 r.e.one.1, .int .i64 r.e.one.2, .int .i64 r.e.two.1, .int .i64 r.e.two.2]) "Goals").run Tryz.prog w = .ok (319, .agg #[.int .i64 r.e.a.1, .int .i64 r.e.a.2, .int .i64 r.e.one.1, .int .i64 r.e.one.2, .int .i64 r.e.two.1, .int .i64 r.e.two.2]) w := fun w => by kernel_rfl
        clear a2 hop
        go_wp2_with fail
        refine (goalsK100 _ _ _ _ _ _ _).mono ?_
        rintro e w5 ⟨g5, rfl, O5, f5⟩
        replace O := owns_keeps O (Keeps.below (T := fun _ => True) f5) trivial
        have F5 := stop (FF.out.trans (f5.mono (by omega)))
        obtain ⟨I9, Hi9, Hz9, Hs9, Hb9⟩ := info_parts Tryz.info145
        go_wp2_with (at_builtin; refine unstop ?_)
        refine stop ?_
        refine wpList_append_own w5 rfl _ _ 154 rfl (w.heap.size + 1) 145 I9 (.agg #[.int .i64 0, .int .i64 0]) 2 16 Tryz.underlying154 Hi9 Hz9 Hs9 Hb9 rfl (by decide) _ _ _ rfl O ⟨g5, 0, none⟩ 2 2 (pcs [r.e.one, r.e.two]) rfl rfl (O5.cells rfl) (List.all_eq_true.1 rfl) (by unfold maxLen; omega) (by omega) (by have := f5.size; omega) ?_
        intro v6 w6 o6 gr6 _
        have F6 := stop (Below.grown F5.out gr6 (by have := f5.size; omega) (fun j hj => by have := (O.lt j hj).1; omega))
        obtain ⟨p6, c6, rfl⟩ := owns_slice2 o6
        clear gr6
        go_wp2_with fail
        go_ret
        refine ⟨_, rfl, ?_, F6.out⟩
        rw [HAG.out, List.length_append]
        have := owns_base (base' := w.heap.size) o6 (by omega)
        simpa [pcs] using this
end Go.Proofs.YtgfhfkgdmidhpaaGreatDoor

namespace Go.Proofs.YtgfhfkgdmidhpaaGreatDoor
open Go.RowKit

theorem PBlkAll.at {w base} : ∀ {cs vs}, PBlkAll w base cs vs → ∀ {k} (hk : k < cs.length), ∃ v, vs[k]? = some v ∧ (cs[k].e.op = 46 ∨ cs[k].e.op = 62 ∨ cs[k].e.op = 63) ∧ PBlk w base cs[k] v.1 v.2
  | [], [], _, k, hk => absurd hk (by simp)
  | c :: cs, v :: vs, h, 0, _ => ⟨v, rfl, h.1.1, h.1.2⟩
  | c :: cs, v :: vs, h, k + 1, hk => by
    obtain ⟨u, a, b, d⟩ := PBlkAll.at h.2 (k := k) (by simpa using hk)
    exact ⟨u, by simpa using a, by simpa using b, by simpa using d⟩
  | [], _ :: _, h, _, _ => h.elim
  | _ :: _, [], h, _, _ => h.elim
theorem PBs.at {w : World} {base : Nat} {cs : List RBlk} {p : Option Addr} {m cap : Nat} (h : PBs w base cs (.slice p m cap)) {k : Nat} (hk : k < cs.length) :
    ∃ g qc cc ps cs1, p = some ⟨g, 0, none⟩ ∧ base ≤ g ∧ g < w.heap.size ∧ (cs[k].e.op = 46 ∨ cs[k].e.op = 62 ∨ cs[k].e.op = 63) ∧ PChs w base cs[k].chs (.slice qc cs[k].chs.length cc) ∧ w.ownsRow base 150 1 (.slice ps cs[k].sts.length cs1) cs[k].sts.length (cs[k].sts.map stVal) ∧
      w.cell? ⟨g, k * 4, none⟩ = some (.int .i64 cs[k].at_) ∧ w.cell? ⟨g, k * 4 + 1, none⟩ = some (.slice qc cs[k].chs.length cc) ∧ w.cell? ⟨g, k * 4 + 2, none⟩ = some (.slice ps cs[k].sts.length cs1) ∧ w.cell? ⟨g, k * 4 + 3, none⟩ = some (endVal cs[k].e) := by
  obtain ⟨vs, a, b⟩ := h
  obtain ⟨v, hv, hc, hs⟩ := b.at hk
  obtain ⟨p', c', e1⟩ := owns_slice2 a
  cases e1
  obtain ⟨g, rfl, hb, hg⟩ := owns_form a (by omega)
  obtain ⟨qc, cc, e2⟩ := hs.1.slice
  obtain ⟨ps, cs1, e3⟩ := owns_slice2 hs.2
  have hl : ∀ x ∈ List.zipWith (fun (c : RBlk) (v : Value × Value) => pblkCells c v.1 v.2) cs vs, x.length = 4 := by
    intro x hx
    rw [List.mem_iff_getElem?] at hx
    obtain ⟨n, hn⟩ := hx
    rw [List.getElem?_zipWith] at hn
    split at hn
    · cases hn; rfl
    · cases hn
  have hk2 : (List.zipWith (fun (c : RBlk) (v : Value × Value) => pblkCells c v.1 v.2) cs vs)[k]? = some (pblkCells cs[k] v.1 v.2) := by rw [List.getElem?_zipWith, hv, List.getElem?_eq_getElem hk]
  have F := fun j hj => flat_get 4 _ k j _ hl hk2 hj
  refine ⟨g, qc, cc, ps, cs1, rfl, hb, hg, hc, by rw [← e2]; exact hs.1, by rw [← e3]; exact hs.2, ?_, ?_, ?_, ?_⟩
  · exact owns_cell a (F 0 (by omega))
  · rw [← e2]; exact owns_cell a (F 1 (by omega))
  · rw [← e3]; exact owns_cell a (F 2 (by omega))
  · exact owns_cell a (F 3 (by omega))

def PlPost (p : Int) (w : World) (e : Ending) (w' : World) : Prop :=
  (0 ≤ p ∧ e = .returned (.tuple #[.int .i64 p, .bool true]) ∧ Below w.heap.size w w') ∨ (p < 0 ∧ e = .returned (.tuple #[.int .i64 0, .bool false]) ∧ Below w.heap.size w w')
theorem lost_none {bs : List RBlk} (h : (bs.flatMap allG).find? (stray bs.length) = none) : lostF bs < 0 := by rw [lostF, h]; decide
theorem lost_some {bs : List RBlk} {g : Nat × Nat} (h : (bs.flatMap allG).find? (stray bs.length) = some g) : lostF bs = g.2 := by rw [lostF, h]; rfl

set_option maxRecDepth 100000 in
set_option maxHeartbeats 2000000 in
theorem strayGoal_any (bs : List RBlk) (base : Nat) (v : Value) (w : World) (h : PBs w base bs v) (hl : bs.length ≤ 400000) (hc1 : ∀ b ∈ bs, b.chs.length ≤ 400000) (hc2 : ∀ b ∈ bs, (chG b).length ≤ 50000000000) :
    Calls Tryz.prog 68 #[v] w fun x w' => PlPost (lostF bs) w x w' := by
  obtain ⟨pv, cv, rfl⟩ := h.slice
  go_enter Tryz.func68, Tryz.ntmps68
  go_wp2_with fail
  go_loopw [10] (fun i wr => ∃ m : Nat, m ≤ bs.length ∧ i = .int .i64 m ∧ Hid (((bs.take m).flatMap allG).find? (stray bs.length) = none) ∧ Hid (Below w.heap.size w wr)) (fun i _ => bs.length - (intOf i).toNat)
  case atStart => exact ⟨0, by omega, rfl, by simp [Hid], Below.refl _ _⟩
  case round =>
    obtain ⟨m, hm, rfl, H1, F⟩ := hrel
    by_cases hlt : m < bs.length
    · have hB := h.keeps (Keeps.below F.out)
      obtain ⟨g, qc, cc, ps, cs1, rfl, _, hgz, hop, OC, OS, d0, d1, d2, d3⟩ := hB.at hlt
      have L1 := hc1 _ (List.getElem_mem hlt)
      have L2 := hc2 _ (List.getElem_mem hlt)
      obtain ⟨T, x, hev⟩ := endVal_iface bs[m].e
      have HEV := stop hev
      rw [hev] at d3
      have hz0 := F.out.size
      have HOP := stop hop
      clear hB hev hop
      go_wp2_with fail
      have HG := goalsOf_any bs[m] base qc cc (.slice ps bs[m].sts.length cs1) (wr.alloc (.cells #[.int .i64 bs[m].at_, .slice qc bs[m].chs.length cc, .slice ps bs[m].sts.length cs1, .iface T x] 104)) (OC.keeps (Keeps.alloc _ T4 _ _) (by simp [T4]) (by simp [T4])) ⟨_, _, _, rfl⟩ HOP.out L1 L2
      rw [HEV.out] at HG
      refine HG.mono ?_
      rintro e w1 ⟨vg, rfl, OG, f1⟩
      have F2 : Hid (Below w.heap.size w w1) := (F.out.alloc hz0 _).trans (f1.mono (by rw [World.size_alloc]; omega))
      obtain ⟨pg, cg, rfl⟩ := owns_slice2 OG
      have hal : (allG bs[m]).length ≤ 50000000002 := by
        have := goalsF_le bs[m].e
        rw [allG, List.length_append]; omega
      clear HG d0 d1 d2 d3 OC OS f1
      generalize hag : allG bs[m] = ag at *
      have HAG := stop hag
      clear hag
      go_wp2_with fail
      go_loopw [17] (fun j wz => ∃ t : Nat, t ≤ ag.length ∧ j = .int .i64 t ∧ Hid ((ag.take t).find? (stray bs.length) = none) ∧ Hid (Below w1.heap.size w1 wz)) (fun j _ => ag.length - (intOf j).toNat)
      case atStart => exact ⟨0, by omega, rfl, by simp [Hid], Below.refl _ _⟩
      case round =>
        obtain ⟨t, ht, rfl, H3, F3⟩ := hrel
        have hz3 := F3.out.size
        have hz2 := F2.out.size
        have OG2 := owns_keeps OG (Keeps.below (T := fun _ => True) F3.out) trivial
        by_cases htl : t < ag.length
        · obtain ⟨gf, rfl, _, hgf⟩ := owns_form OG2 (by omega)
          have f0 := owns_cell OG2 (pcs_at htl).1
          have f1 := owns_cell OG2 (pcs_at htl).2
          by_cases hst : bs.length ≤ ag[t].1
          · have HP : Hid (lostF bs = ag[t].2) := lost_some (flat_take_hit hlt H1.out (by rw [HAG.out]; exact find_take_hit htl H3.out (by simpa [stray] using hst)))
            go_wp2_with fail
            go_ret2
            exact .inl ⟨by rw [HP.out]; omega, by rw [HP.out]; rfl, F2.out.trans ((F3.out.alloc hz3 _).mono (by omega))⟩
          · have H3' := stop (find_take_succ htl H3.out (by simpa [stray] using hst))
            go_wp2_with fail
            go_roundw
            case rel => exact ⟨t + 1, by omega, by go_num, H3', F3.out.alloc hz3 _⟩
            case measure => simp [intOf]; omega
        · have H1' : Hid (((bs.take (m + 1)).flatMap allG).find? (stray bs.length) = none) := flat_take_succ hlt H1.out (by rw [HAG.out]; have := H3.out; rwa [List.take_of_length_le (by omega)] at this)
          have F4 := stop (F2.out.trans (F3.out.mono hz2))
          go_wp2_with fail
          go_roundw
          case rel => exact ⟨m + 1, by omega, by go_num, H1', F4⟩
          case measure => simp [intOf]; omega
    · have HP : Hid (lostF bs < 0) := by
        have := H1.out
        rw [List.take_of_length_le (by omega)] at this
        exact lost_none this
      go_wp2_with fail
      go_ret2
      exact .inr ⟨HP.out, rfl, F.out⟩
end Go.Proofs.YtgfhfkgdmidhpaaGreatDoor

namespace Go.Proofs.YtgfhfkgdmidhpaaGreatDoor
open Go.RowKit

theorem Tryz.info143 : (Tryz.prog.info? 143).map (fun i => (i.zero, i.size, i.bytes)) = some (some (.int .i64 0), 1, 8) := by kernel_rfl
theorem Tryz.info78 : (Tryz.prog.info? 78).map (fun i => (i.zero, i.size, i.bytes)) = some (some (.int .i64 0), 1, 8) := by kernel_rfl
theorem icell_at {l : List Nat} {j : Nat} (hj : j < l.length) : (icell l)[j]? = some (.int .i64 l[j]) := by simp [icell, hj]
def eqF (a b : List Nat) : Bool := decide (a = b)
theorem eqF_len {a b : List Nat} (h : a.length ≠ b.length) : eqF a b = false := by simp [eqF]; intro e; exact h (by rw [e])
theorem eqF_all {a b : List Nat} (h : a.length = b.length) (hx : ∀ j, (h1 : j < a.length) → (h2 : j < b.length) → a[j] = b[j]) : eqF a b = true := by
  simp [eqF]; exact List.ext_getElem h (fun i h1 h2 => hx i h1 h2)
theorem eqF_ne {a b : List Nat} {j : Nat} (h1 : j < a.length) (h2 : j < b.length) (h : a[j] ≠ b[j]) : eqF a b = false := by
  simp [eqF]; intro e; subst e; exact h rfl

set_option maxRecDepth 100000 in
set_option maxHeartbeats 1000000 in
theorem equal_any (a b : List Nat) (B1 B2 : Nat) (va vb : Value) (w : World) (ha : w.ownsRow B1 143 1 va a.length (icell a)) (hb : w.ownsRow B2 143 1 vb b.length (icell b)) (la : a.length ≤ 1000000) (lb : b.length ≤ 1000000) :
    Calls Tryz.prog 160 #[va, vb] w fun x w' => x = .returned (.bool (eqF a b)) ∧ ∃ n, w' = w.drewN n := by
  obtain ⟨p1, c1, rfl⟩ := owns_slice2 ha
  obtain ⟨p2, c2, rfl⟩ := owns_slice2 hb
  by_cases hl : a.length = b.length
  · have hl' : ((a.length : Int) != (b.length : Int)) = false := by simp; omega
    have HL := stop hl
    clear hl
    go_enter Tryz.func160, Tryz.ntmps160
    go_wp2_with fail
    go_loopw [13] (fun i wr => ∃ k n : Nat, k ≤ a.length ∧ i = .int .i64 k ∧ wr = w.drewN n ∧ Hid (∀ j, j < k → (h1 : j < a.length) → (h2 : j < b.length) → a[j] = b[j])) (fun i _ => a.length - (intOf i).toNat)
    case atStart => exact ⟨0, 0, by omega, rfl, rfl, fun j hj => by omega⟩
    case round =>
      obtain ⟨k, n, hk, rfl, rfl, HE⟩ := hrel
      by_cases hlt : k < a.length
      · have hlb : k < b.length := by have := HL.out; omega
        obtain ⟨g1, rfl, _, _⟩ := owns_form ha (by omega)
        obtain ⟨g2, rfl, _, _⟩ := owns_form hb (by omega)
        have f1 := owns_cell ha (icell_at hlt)
        have f2 := owns_cell hb (icell_at hlb)
        by_cases he : a[k] = b[k]
        · have he' : ((a[k] : Int) != (b[k] : Int)) = false := by simp; omega
          have HE2 : Hid (∀ j, j < k + 1 → (h1 : j < a.length) → (h2 : j < b.length) → a[j] = b[j]) := fun j hj h1 h2 => by
            rcases Nat.lt_succ_iff_lt_or_eq.1 hj with hj | rfl
            · exact HE.out j hj h1 h2
            · exact he
          clear he
          go_wp2_with fail
          go_quiet (fail)
          go_wp2_with fail
          go_roundw
          case rel => exact ⟨k + 1, n + nq, by omega, by go_num, by simp, HE2⟩
          case measure => simp [intOf]; omega
        · have he' : ((a[k] : Int) != (b[k] : Int)) = true := by simp; omega
          have HN := stop (eqF_ne hlt hlb he)
          clear he
          go_wp2_with fail
          go_quiet (fail)
          go_wp2_with fail
          go_ret
          exact ⟨by rw [HN.out]; rfl, n + nq, by simp⟩
      · have HN := stop (eqF_all HL.out (fun j h1 h2 => HE.out j (by omega) h1 h2))
        go_wp2_with fail
        go_ret
        exact ⟨by rw [HN.out]; rfl, n, rfl⟩
  · have hl' : ((a.length : Int) != (b.length : Int)) = true := by simp; omega
    have HN := stop (eqF_len hl)
    clear hl
    go_enter Tryz.func160, Tryz.ntmps160
    go_wp2_with fail
    go_ret
    exact ⟨by rw [HN.out]; rfl, 0, rfl⟩

theorem owns_store {w : World} {base e g n cap : Nat} {xs : List Value} (h : w.ownsRow base e 1 (.slice (some ⟨g, 0, none⟩) n cap) n xs) (j : Nat) (x : Value) : (w.setCell ⟨g, j, none⟩ x).ownsRow base e 1 (.slice (some ⟨g, 0, none⟩) n cap) n (xs.set j x) := by
  obtain ⟨h1, h2⟩ := h
  refine ⟨by simpa using h1, ?_⟩
  rcases h2 with ⟨h0, _⟩ | ⟨g', cap', cur, hv, a, c, d, e1, e2, e3⟩
  · cases h0
  · cases hv
    refine .inr ⟨g, cap, cur.setIfInBounds j x, rfl, a, blk_set c j x, d, e1, by simpa using e2, ?_⟩
    rw [Array.toList_setIfInBounds, ← e3, List.take_set]
theorem owns_fz {w : World} {base e size g n cap : Nat} {xs : List Value} (h : w.ownsRow base e size (.slice (some ⟨g, 0, none⟩) n cap) n xs) (o : Nat) : w.frozen? ⟨g, o, none⟩ = false := by
  rcases h.2 with ⟨h0, _⟩ | ⟨g', cap', cur, hv, a, c, d⟩
  · cases h0
  · cases hv; exact frozen_of c o
/-- A store into a row keeps the rows of other types. -/
theorem Keeps.storeRow {w : World} {base base' e g n cap : Nat} {xs : List Value} {T : TypeId → Prop} (h : w.ownsRow base' e 1 (.slice (some ⟨g, 0, none⟩) n cap) n xs) (he : ¬ T e) (j : Nat) (x : Value) : Keeps base T w (w.setCell ⟨g, j, none⟩ x) := by
  intro k cur e2 _ ht hh
  refine blk_setOther hh ?_ j x
  intro e1
  subst e1
  rcases h.2 with ⟨h0, _⟩ | ⟨g', cap', cur', hv, a, c, d⟩
  · cases h0
  · cases hv; rw [hh] at c; cases c; exact he ht
theorem made_one (z : Value) (hz : z.cells = #[z]) (n : Nat) : (madeCells z.cells (n * 1)).toList = List.replicate n z := by
  rw [hz, Nat.mul_one]
  apply List.ext_getElem
  · simp [madeCells]
  · intro i h1 h2
    simp [madeCells, Nat.mod_one]
def half (l : List (Nat × Nat)) (t : Nat) : List Value := icell (nums (l.take t)) ++ List.replicate (l.length - t) (.int .i64 0)
theorem half_zero (l) : half l 0 = List.replicate l.length (.int .i64 0) := by simp [half, icell, nums]
theorem half_all (l) : half l l.length = icell (nums l) := by simp [half]
theorem half_set {l : List (Nat × Nat)} {t : Nat} (ht : t < l.length) : (half l t).set t (.int .i64 l[t].1) = half l (t + 1) := by
  apply List.ext_getElem
  · simp [half, icell, nums]; omega
  · intro i h1 h2
    simp only [half, icell, nums, List.length_set, List.length_append, List.length_map, List.length_take, List.length_replicate] at h1 h2
    rw [List.getElem_set]
    by_cases hi : t = i
    · subst hi
      rw [if_pos rfl]
      simp only [half, icell, nums]
      rw [List.getElem_append_left (by simp; omega)]
      simp
    · rw [if_neg hi]
      simp only [half, icell, nums]
      by_cases hl : i < t
      · rw [List.getElem_append_left (by simp; omega), List.getElem_append_left (by simp; omega)]
        simp
      · rw [List.getElem_append_right (by simp; omega), List.getElem_append_right (by simp; omega)]
        simp
theorem half_len (l t) (h : t ≤ l.length) : (half l t).length = l.length := by simp [half, icell, nums]; omega

set_option maxRecDepth 100000 in
set_option maxHeartbeats 1000000 in
theorem blocksOf_any (c : RCho) (base : Nat) (vs : Value) (w : World) (h : w.ownsRow base 147 4 vs c.gs.length (srcCells c.gs c.rs)) (hgl : c.gs.length = c.rs.length) (hc : c.gs.length ≤ 400000) :
    Calls Tryz.prog 161 #[.agg #[.int .i64 c.to.1, .int .i64 c.to.2, vs]] w fun x w' => ∃ v, x = .returned v ∧ w'.ownsRow w.heap.size 143 1 v (nums c.gs).length (icell (nums c.gs)) ∧ Below w.heap.size w w' := by
  obtain ⟨pv, cv, rfl⟩ := owns_slice2 h
  have HGL := stop hgl
  clear hgl
  obtain ⟨I9, Hi9, Hz9, Hs9, Hb9⟩ := info_parts Tryz.info143
  go_enter Tryz.func161, Tryz.ntmps161
  go_wp2_with (at_make; refine unstop ?_)
  refine stop ?_
  refine wpList_make_full _ rfl _ _ 80 rfl (w.heap.size + 1) 143 I9 (.int .i64 0) 1 Tryz.underlying80 Hi9 Hz9 Hs9 .i64 .i64 _ _ c.gs.length rfl rfl rfl rfl (by rw [Hb9]; omega) (by unfold maxLen; omega) (by simp) ?_
  intro w1 o1 g1
  rw [made_one _ rfl, ← half_zero, World.size_alloc] at o1
  rw [World.size_alloc]
  have F1 : Below w.heap.size w w1 := Below.grown ((Below.refl _ _).alloc (Nat.le_refl _) _) g1 (by simp) (fun k hk => by cases hk)
  have hz1 : w.heap.size + 1 ≤ w1.heap.size := by have := g1.size; rw [World.size_alloc] at this; exact this
  have gb : w1.heap[w.heap.size]? = some (.cells #[.int .i64 c.to.1, .int .i64 c.to.2, .slice pv c.gs.length cv] 140 (0, 0)) := blk_grown g1 (heap_alloc_last w _) (fun j hj => by cases hj)
  have h1 := owns_keeps (h.alloc (.cells #[.int .i64 c.to.1, .int .i64 c.to.2, .slice pv c.gs.length cv] 140)) (T := fun _ => True) (fun g cur e _ _ hh => blk_grown g1 hh (fun j hj => by cases hj)) trivial
  have qb := cell_of gb 2
  simp at qb
  clear g1 gb
  go_wp2_with fail
  go_loopw [13] (fun k wr => ∃ t : Nat, t ≤ c.gs.length ∧ k = .int .i64 t ∧ wr.ownsRow (w.heap.size + 1) 143 1 (.slice (some ⟨w.heap.size + 1, 0, none⟩) c.gs.length c.gs.length) c.gs.length (half c.gs t) ∧ Hid (Below w.heap.size w wr) ∧ wr.ownsRow base 147 4 (.slice pv c.gs.length cv) c.gs.length (srcCells c.gs c.rs) ∧ w.heap.size + 1 ≤ wr.heap.size) (fun k _ => c.gs.length - (intOf k).toNat)
  case atStart => exact ⟨0, by omega, rfl, o1, F1, h1, hz1⟩
  case round =>
    clear o1 F1 h1 qb hz1
    obtain ⟨t, ht, rfl, O, F, OF, hz⟩ := hrel
    by_cases htl : t < c.gs.length
    · obtain ⟨gf, rfl, _, hgf⟩ := owns_form OF (by omega)
      have f0 := owns_cell OF (srcCells_at HGL.out htl).1
      have f1 := owns_cell OF (srcCells_at HGL.out htl).2.1
      have f2 := owns_cell OF (srcCells_at HGL.out htl).2.2.1
      have f3 := owns_cell OF (srcCells_at HGL.out htl).2.2.2
      have hlen := half_len c.gs t ht
      have s0 : wr.cell? ⟨w.heap.size + 1, t, none⟩ = some ((half c.gs t)[t]'(by omega)) := owns_cell O (List.getElem?_eq_getElem (by omega))
      have s1 := owns_fz O t
      have ll : w.heap.size + 1 < wr.heap.size := (O.lt _ rfl).2
      generalize (half c.gs t)[t]'(by omega) = old at s0
      clear hlen
      go_wp2_with fail
      refine ⟨⟨t + 1, by omega, by go_num, ?_, ?_, ?_, ?_⟩, by simp [intOf]; omega⟩
      · rw [← half_set htl]; exact (owns_store O t _).alloc _
      · exact (F.out.setCell (p := ⟨w.heap.size + 1, t, none⟩) (show w.heap.size ≤ w.heap.size + 1 by omega) _).alloc (by rw [size_set]; omega) _
      · exact (owns_keeps OF (Keeps.storeRow (T := fun e => e = 147) O (by decide) t _) rfl).alloc _
      · rw [World.size_alloc, size_set]; omega
    · have hte : t = c.gs.length := by omega
      subst hte
      rw [half_all] at O
      go_wp2_with fail
      go_ret
      refine ⟨_, rfl, ?_, F.out⟩
      have := owns_base (base' := w.heap.size) O (by omega)
      simpa [nums] using this
end Go.Proofs.YtgfhfkgdmidhpaaGreatDoor
