import Derived.Test.YtjimoigbdcalpaaVd
import Derived.Deep.AppendSrc
namespace Go.Proofs.Ytjimoigbdcalpaa
open Go.RowKit

/-- append of nothing. -/
theorem appNil {t e : TypeId} {z : Value} {size bytes : Nat} (ht : Try.prog.underlying t = some (.slice e)) (hi : (Try.prog.info? e).map (fun i => (i.zero, i.size, i.bytes)) = some (some z, size, bytes))
    {ops : Array Oper} {rest : List Oper} {o : Oper} {a : Act} {Q : Exit → Act → World → Prop} {w : World} (hgd : o.guard = none) (s x : Operand)
    (ho : o.op = .call { callee := .builtin .append, args := #[s, x], argTypes := #[t, t] })
    {base : Nat} {v : Value} {n : Nat} {xs : List Value} (hs : a.eval s = v) (hown : w.ownsRow base e size v n xs) (hx : a.eval x = .slice none 0 0)
    (h : wpList Try.prog ops Q rest (a.put o.dst v) w) : wpList Try.prog ops Q (o :: rest) a w := by
  obtain ⟨I, Hi, Hz, Hs, Hb⟩ := info_parts hi
  have hr : ∀ ty, (Builtin.append_ #[t, t] ty #[v, .slice none 0 0]).run Try.prog w = .ok v w := by
    intro ty
    rcases hown.2 with ⟨rfl, _⟩ | ⟨g, cap, cur, rfl, _, _, hnc, _⟩
    · have hs := Src.ofNil (P := Try.prog) w (size := I.size) ht 0
      simp [Builtin.append_, run_underlying ht, sizeOf, typeInfo, Hi, hs.len, hs.cells]
    · have := run_append_room_src (P := Try.prog) w t t ty e I ht Hi g 0 n cap (.slice none 0 0) 0 [] (Src.ofNil w ht 0) (by omega) (by simp) (by simp)
      simpa [World.setCells] using this
  refine wpList_plain hgd fun _ hK => ?_
  unfold Oper.wp execOp
  simp only [ho, resolve, invoke, builtin, Sem.run_bind, Sem.run_pure, Result.andThen_ok, List.map_toArray, List.map_cons, List.map_nil, hs, hx, hr]
  exact hK _ _ h

set_option maxHeartbeats 400000 in
theorem goalsK96 (w : World) : Calls Try.prog 98 #[.agg #[]] w fun x w' => x = .returned (.slice none 0 0) ∧ Below w.heap.size w w' := by
  go_enter Try.func98, Try.ntmps98
  go_wp2
  go_ret
  exact ⟨rfl, (Below.refl _ _).alloc (Nat.le_refl _) _⟩
set_option maxHeartbeats 400000 in
theorem goalsK97 (a b : Nat) (w : World) : Calls Try.prog 100 #[.agg #[.int .i64 a, .int .i64 b]] w fun x w' => ∃ g, x = .returned (.slice (some ⟨g, 0, none⟩) 1 1) ∧ w'.ownsRow w.heap.size 69 2 (.slice (some ⟨g, 0, none⟩) 1 1) 1 (pcs [(a, b)]) ∧ Below w.heap.size w w' := by
  go_enter Try.func100, Try.ntmps100
  go_wp2
  go_ret
  refine ⟨w.heap.size + 1, rfl, ?_, ((Below.refl _ _).alloc (Nat.le_refl _) _).alloc (by simp) _⟩
  have ON := owns_new (w.alloc (.cells #[.int .i64 a, .int .i64 b] 128)) w.heap.size 69 2 1 #[.int .i64 a, .int .i64 b] (by simp) rfl (by decide)
  rw [World.size_alloc] at ON
  exact ON
set_option maxHeartbeats 400000 in
theorem goalsK100 (p q a b c d : Nat) (w : World) : Calls Try.prog 103 #[.agg #[.int .i64 p, .int .i64 q, .int .i64 a, .int .i64 b, .int .i64 c, .int .i64 d]] w fun x w' => ∃ g, x = .returned (.slice (some ⟨g, 0, none⟩) 2 2) ∧ w'.ownsRow w.heap.size 69 2 (.slice (some ⟨g, 0, none⟩) 2 2) 2 (pcs [(a, b), (c, d)]) ∧ Below w.heap.size w w' := by
  go_enter Try.func103, Try.ntmps103
  go_wp2
  go_ret
  refine ⟨w.heap.size + 1, rfl, ?_, ((Below.refl _ _).alloc (Nat.le_refl _) _).alloc (by simp) _⟩
  have ON := owns_new (w.alloc (.cells #[.int .i64 p, .int .i64 q, .int .i64 a, .int .i64 b, .int .i64 c, .int .i64 d] 154)) w.heap.size 69 2 2 #[.int .i64 a, .int .i64 b, .int .i64 c, .int .i64 d] (by simp) rfl (by decide)
  rw [World.size_alloc] at ON
  exact ON
theorem Try.info69 : (Try.prog.info? 69).map (fun i => (i.zero, i.size, i.bytes)) = some (some (.agg #[.int .i64 0, .int .i64 0]), 2, 16) := by kernel_rfl
theorem srcCells_at {gs rs : List (Nat × Nat)} (h : gs.length = rs.length) {j : Nat} (hj : j < gs.length) :
    (srcCells gs rs)[j * 4]? = some (.int .i64 gs[j].1) ∧ (srcCells gs rs)[j * 4 + 1]? = some (.int .i64 gs[j].2) ∧ (srcCells gs rs)[j * 4 + 2]? = some (.int .i64 (rs[j]'(by omega)).1) ∧ (srcCells gs rs)[j * 4 + 3]? = some (.int .i64 (rs[j]'(by omega)).2) := by
  have hl : ∀ x ∈ List.zipWith (fun g r => pc g ++ pc r) gs rs, x.length = 4 := by
    intro x hx
    rw [List.mem_iff_getElem?] at hx
    obtain ⟨n, hn⟩ := hx
    rw [List.getElem?_zipWith] at hn
    split at hn
    · cases hn; rfl
    · cases hn
  have hk : (List.zipWith (fun g r => pc g ++ pc r) gs rs)[j]? = some (pc gs[j] ++ pc (rs[j]'(by omega))) := by
    rw [List.getElem?_zipWith, List.getElem?_eq_getElem hj, List.getElem?_eq_getElem (show j < rs.length by omega)]
  have F := fun i hi => flat_get 4 _ j i _ hl hk hi
  exact ⟨F 0 (by omega), F 1 (by omega), F 2 (by omega), F 3 (by omega)⟩
theorem PChAll.at {w base} : ∀ {cs vs}, PChAll w base cs vs → ∀ {k} (hk : k < cs.length), ∃ v, vs[k]? = some v ∧ cs[k].gs.length = cs[k].rs.length ∧ w.ownsRow base 103 4 v cs[k].gs.length (srcCells cs[k].gs cs[k].rs)
  | [], [], _, k, hk => absurd hk (by simp)
  | c :: cs, v :: vs, h, 0, _ => ⟨v, rfl, h.1.1, h.1.2⟩
  | c :: cs, v :: vs, h, k + 1, hk => by
    obtain ⟨u, a, b, d⟩ := PChAll.at h.2 (k := k) (by simpa using hk)
    exact ⟨u, by simpa using a, by simpa using b, by simpa using d⟩
  | [], _ :: _, h, _, _ => h.elim
  | _ :: _, [], h, _, _ => h.elim
theorem PChs.at {w : World} {base : Nat} {cs : List RCho} {p : Option Addr} {m cap : Nat} (h : PChs w base cs (.slice p m cap)) {k : Nat} (hk : k < cs.length) :
    ∃ g pu cu, p = some ⟨g, 0, none⟩ ∧ base ≤ g ∧ g < w.heap.size ∧ cs[k].gs.length = cs[k].rs.length ∧ w.ownsRow base 103 4 (.slice pu cs[k].gs.length cu) cs[k].gs.length (srcCells cs[k].gs cs[k].rs) ∧
      w.cell? ⟨g, k * 3, none⟩ = some (.int .i64 cs[k].to.1) ∧ w.cell? ⟨g, k * 3 + 1, none⟩ = some (.int .i64 cs[k].to.2) ∧ w.cell? ⟨g, k * 3 + 2, none⟩ = some (.slice pu cs[k].gs.length cu) := by
  obtain ⟨vs, a, b⟩ := h
  obtain ⟨v, hv, hc, hs⟩ := b.at hk
  obtain ⟨p', c', e1⟩ := owns_slice2 a
  cases e1
  obtain ⟨g, rfl, hb, hg⟩ := owns_form a (by omega)
  obtain ⟨pu, cu, e2⟩ := owns_slice2 hs
  have hl : ∀ x ∈ List.zipWith pchCell cs vs, x.length = 3 := by
    intro x hx
    rw [List.mem_iff_getElem?] at hx
    obtain ⟨n, hn⟩ := hx
    rw [List.getElem?_zipWith] at hn
    split at hn
    · cases hn; rfl
    · cases hn
  have hk2 : (List.zipWith pchCell cs vs)[k]? = some (pchCell cs[k] v) := by rw [List.getElem?_zipWith, hv, List.getElem?_eq_getElem hk]
  have F := fun j hj => flat_get 3 _ k j _ hl hk2 hj
  refine ⟨g, pu, cu, rfl, hb, hg, hc, by rw [← e2]; exact hs, ?_, ?_, ?_⟩
  · exact owns_cell a (F 0 (by omega))
  · exact owns_cell a (F 1 (by omega))
  · rw [← e2]; exact owns_cell a (F 2 (by omega))

/-- append of one element that lies in a new block. -/
theorem app1L {t e : TypeId} {z : Value} {size bytes : Nat} (ht : Try.prog.underlying t = some (.slice e)) (hi : (Try.prog.info? e).map (fun i => (i.zero, i.size, i.bytes)) = some (some z, size, bytes)) (hzs : z.cells.size = size) (hsz : 0 < size) (hby : bytes ≤ 1000)
    {ops : Array Oper} {rest : List Oper} {o : Oper} {a : Act} {Q : Exit → Act → World → Prop} {w : World} (hgd : o.guard = none) (s x : Operand)
    (ho : o.op = .call { callee := .builtin .append, args := #[s, x], argTypes := #[t, t] })
    {base : Nat} {v : Value} {n : Nat} {xs : List Value} (hs : a.eval s = v) (hown : w.ownsRow base e size v n xs)
    {B : Nat} {cs : Array Value} {tt : TypeId} {fr : Nat × Nat} (hB : w.heap[B]? = some (.cells cs tt fr)) (hx : a.eval x = .slice (some ⟨B, 0, none⟩) 1 1) (hl : cs.size = size) (h1 : ∀ u ∈ cs.toList, u.oneCell' = true)
    (hn : n ≤ 100000000000) (hbase : base ≤ w.heap.size)
    (h : ∀ v' w', w'.ownsRow base e size v' (n + 1) (xs ++ cs.toList) → w.grownBy w' v.ownBlock → wpList Try.prog ops Q rest (a.put o.dst v') w') : wpList Try.prog ops Q (o :: rest) a w := by
  obtain ⟨I, Hi, Hz, Hs, Hb⟩ := info_parts hi
  refine wpList_append_own w hgd s x t ho base e I z size bytes ht Hi Hz Hs Hb hzs hsz v n xs hs hown ⟨B, 0, none⟩ 1 1 cs.toList hx (by simpa using hl) (World.news_of_block hB) h1 (by unfold maxLen; omega) ?_ hbase (fun v' w' h1 h2 _ => h v' w' h1 h2)
  have : (n + 1) * bytes ≤ 100000000001 * 1000 := Nat.mul_le_mul (by omega) hby
  omega

def chTo (l : List RCho) (q : Nat) : List (Nat × Nat) := (l.take q).flatMap (·.gs)
def chToIn (l : List RCho) (q t : Nat) : List (Nat × Nat) := chTo l q ++ (match l[q]? with | some c => c.gs.take t | none => [])
theorem chTo_all (r : RBlk) : chTo r.chs r.chs.length = chG r := by rw [chTo, List.take_length, chG]
theorem chTo_in0 (l : List RCho) (q : Nat) : chToIn l q 0 = chTo l q := by unfold chToIn; cases l[q]? <;> simp
theorem chTo_inS {l : List RCho} {q t : Nat} (hq : q < l.length) (ht : t < l[q].gs.length) : chToIn l q (t + 1) = chToIn l q t ++ [l[q].gs[t]] := by
  simp only [chToIn, List.getElem?_eq_getElem hq, List.append_assoc]
  rw [List.take_succ_eq_append_getElem ht]
theorem chTo_inE {l : List RCho} {q : Nat} (hq : q < l.length) : chToIn l q l[q].gs.length = chTo l (q + 1) := by
  simp only [chToIn, List.getElem?_eq_getElem hq, List.take_length, chTo]
  conv => rhs; rw [List.take_succ_eq_append_getElem hq, List.flatMap_append, List.flatMap_cons, List.flatMap_nil, List.append_nil]
theorem chToIn_le (l : List RCho) (q t : Nat) : (chToIn l q t).length ≤ (l.flatMap (·.gs)).length := by
  unfold chToIn chTo
  conv => rhs; rw [← List.take_append_drop q l, List.flatMap_append, List.length_append]
  rw [List.length_append]
  cases h : l[q]? with
  | none => simp
  | some c =>
    have hq : q < l.length := by
      rcases Nat.lt_or_ge q l.length with g | g
      · exact g
      · rw [List.getElem?_eq_none g] at h; cases h
    rw [List.getElem?_eq_getElem hq] at h
    cases h
    rw [List.drop_eq_getElem_cons hq, List.flatMap_cons, List.length_append]
    simp only [List.length_take]; omega
theorem endStop {e : REnd} (h : e.op = 46) : endVal e = .iface 125 (.agg #[]) ∧ goalsF e = [] := by simp [endVal, goalsF, h]
theorem endJump {e : REnd} (h : e.op = 62) : endVal e = .iface 128 (.agg #[.int .i64 e.one.1, .int .i64 e.one.2]) ∧ goalsF e = [e.one] := by simp [endVal, goalsF, h]
theorem endFork {e : REnd} (h : e.op = 63) : endVal e = .iface 154 (.agg #[.int .i64 e.a.1, .int .i64 e.a.2, .int .i64 e.one.1, .int .i64 e.one.2, .int .i64 e.two.1, .int .i64 e.two.2]) ∧ goalsF e = [e.one, e.two] := by simp [endVal, goalsF, h]

set_option maxRecDepth 100000 in
set_option maxHeartbeats 4000000 in
theorem goalsOf_any (r : RBlk) (base : Nat) (qc : Option Addr) (cc : Nat) (vs : Value) (w : World) (h : PChs w base r.chs (.slice qc r.chs.length cc)) (hvs : ∃ p m c, vs = .slice p m c) (hop : r.e.op = 46 ∨ r.e.op = 62 ∨ r.e.op = 63)
    (hc1 : r.chs.length ≤ 400000) (hc2 : ((chG r).length ≤ 50000000000)) :
    Calls Try.prog 18 #[.agg #[.int .i64 r.at_, .slice qc r.chs.length cc, vs, endVal r.e]] w fun x w' => ∃ v, x = .returned v ∧ w'.ownsRow w.heap.size 69 2 v (allG r).length (pcs (allG r)) ∧ Below w.heap.size w w' := by
  obtain ⟨p0, m0, c0, rfl⟩ := hvs
  obtain ⟨T, x, hev⟩ := endVal_iface r.e
  have HEV := stop hev
  rw [hev]
  clear hev
  go_enter Try.func18, Try.ntmps18
  go_wp2_with fail
  go_loopw [3, 11] (fun l k wr => ∃ q : Nat, q ≤ r.chs.length ∧ k = .int .i64 q ∧ wr.ownsRow (w.heap.size + 1) 69 2 l (chTo r.chs q).length (pcs (chTo r.chs q)) ∧ Hid (Below (w.heap.size + 1) (w.alloc (.cells #[.int .i64 r.at_, .slice qc r.chs.length cc, .slice p0 m0 c0, .iface T x] 43)) wr)) (fun _ k _ => r.chs.length - (intOf k).toNat)
  case atStart => exact ⟨0, by omega, rfl, World.ownsRow_nil _ _ _ _, Below.refl _ _⟩
  case round =>
    obtain ⟨q, hq, rfl, O, F⟩ := hrel
    have hz : w.heap.size + 1 ≤ wr.heap.size := by have := F.out.size; rw [World.size_alloc] at this; exact this
    have hC := (h.keeps (Keeps.alloc _ T4 w _) (by simp [T4]) (by simp [T4])).keeps (T := T4) (fun g cur e hb ht hh => by rw [F.out.block g (by have := lt_of_block hh; rw [World.size_alloc] at this; exact this)]; exact hh) (by simp [T4]) (by simp [T4])
    obtain ⟨pl, cl, rfl⟩ := owns_slice2 O
    by_cases hql : q < r.chs.length
    · obtain ⟨gc, pu, cu, rfl, _, hgc, hgl, OF, e0, e1, e2⟩ := hC.at hql
      have HGL := stop hgl
      have hml : ∀ t, (chToIn r.chs q t).length ≤ 50000000000 := fun t => Nat.le_trans (chToIn_le _ _ _) hc2
      have hgs : r.chs[q].gs.length ≤ 50000000000 := by
        have h1 := hml r.chs[q].gs.length
        simp only [chToIn, List.getElem?_eq_getElem hql, List.take_length, List.length_append] at h1
        omega
      generalize hcq : r.chs[q] = c at *
      have HCQ := stop hcq
      clear hgl hcq hC
      go_wp2_with fail
      go_loopw [3, 18] (fun l j wz => ∃ t : Nat, t ≤ c.gs.length ∧ j = .int .i64 t ∧ wz.ownsRow (w.heap.size + 1) 69 2 l (chToIn r.chs q t).length (pcs (chToIn r.chs q t)) ∧ Hid (Below (w.heap.size + 1) (w.alloc (.cells #[.int .i64 r.at_, .slice (some ⟨gc, 0, none⟩) r.chs.length cc, .slice p0 m0 c0, .iface T x] 43)) wz) ∧ wz.ownsRow base 103 4 (.slice pu c.gs.length cu) c.gs.length (srcCells c.gs c.rs)) (fun _ j _ => c.gs.length - (intOf j).toNat)
      case atStart =>
        refine ⟨0, by omega, rfl, by rw [chTo_in0]; exact O.alloc _, F.out.alloc hz _, OF.alloc _⟩
      case round =>
        clear O F OF e0 e1 e2 hz hgc
        obtain ⟨t, ht, rfl, O, F, OF⟩ := hrel
        have hz : w.heap.size + 1 ≤ wr.heap.size := by have := F.out.size; rw [World.size_alloc] at this; exact this
        obtain ⟨pl2, cl2, rfl⟩ := owns_slice2 O
        by_cases htl : t < c.gs.length
        · obtain ⟨gf, rfl, _, hgf⟩ := owns_form OF (by omega)
          have f0 := owns_cell OF (srcCells_at HGL.out htl).1
          have f1 := owns_cell OF (srcCells_at HGL.out htl).2.1
          have f2 := owns_cell OF (srcCells_at HGL.out htl).2.2.1
          have f3 := owns_cell OF (srcCells_at HGL.out htl).2.2.2
          have hln := hml t
          have HS : Hid (chToIn r.chs q (t + 1) = chToIn r.chs q t ++ [c.gs[t]]) := by
            show _ = _
            have := chTo_inS (l := r.chs) hql (t := t) (by rw [HCQ.out]; exact htl)
            rw [this]
            congr 2
            simp [HCQ.out]
          go_wp2_with (at_builtin; refine unstop ?_)
          refine stop ?_
          have gB : ((wr.alloc (.cells #[.int .i64 c.gs[t].1, .int .i64 c.gs[t].2, .int .i64 (c.rs[t]'(by have := HGL.out; omega)).1, .int .i64 (c.rs[t]'(by have := HGL.out; omega)).2] 103)).alloc (.cells #[.int .i64 c.gs[t].1, .int .i64 c.gs[t].2] 69)).heap[wr.heap.size + 1]? = some (.cells #[.int .i64 c.gs[t].1, .int .i64 c.gs[t].2] 69 (0, 0)) := by
            simpa using heap_alloc_last (wr.alloc (.cells #[.int .i64 c.gs[t].1, .int .i64 c.gs[t].2, .int .i64 (c.rs[t]'(by have := HGL.out; omega)).1, .int .i64 (c.rs[t]'(by have := HGL.out; omega)).2] 103)) (.cells #[.int .i64 c.gs[t].1, .int .i64 c.gs[t].2] 69)
          have O2 := (O.alloc (.cells #[.int .i64 c.gs[t].1, .int .i64 c.gs[t].2, .int .i64 (c.rs[t]'(by have := HGL.out; omega)).1, .int .i64 (c.rs[t]'(by have := HGL.out; omega)).2] 103)).alloc (.cells #[.int .i64 c.gs[t].1, .int .i64 c.gs[t].2] 69)
          have F2 := (F.out.alloc hz (.cells #[.int .i64 c.gs[t].1, .int .i64 c.gs[t].2, .int .i64 (c.rs[t]'(by have := HGL.out; omega)).1, .int .i64 (c.rs[t]'(by have := HGL.out; omega)).2] 103)).alloc (by rw [World.size_alloc]; omega) (.cells #[.int .i64 c.gs[t].1, .int .i64 c.gs[t].2] 69)
          have OF2 := (OF.alloc (.cells #[.int .i64 c.gs[t].1, .int .i64 c.gs[t].2, .int .i64 (c.rs[t]'(by have := HGL.out; omega)).1, .int .i64 (c.rs[t]'(by have := HGL.out; omega)).2] 103)).alloc (.cells #[.int .i64 c.gs[t].1, .int .i64 c.gs[t].2] 69)
          have hz2 := F2.size
          rw [World.size_alloc] at hz2
          refine app1L Try.underlying65 Try.info69 rfl (by decide) (by decide) rfl _ _ rfl rfl O2 gB rfl rfl (List.all_eq_true.1 rfl) (by omega) hz2 ?_
          intro v6 w6 o6 gr6
          have F6 := stop (Below.grown F2 gr6 hz2 (fun j hj => (O2.lt j hj).1))
          have OF6 := owns_keeps OF2 (Keeps.grown (T := fun e => e = 103) O2 gr6 (by decide)) rfl
          have o7 : w6.ownsRow (w.heap.size + 1) 69 2 v6 (chToIn r.chs q (t + 1)).length (pcs (chToIn r.chs q (t + 1))) := by
            rw [HS.out, ← pcs_snoc, List.length_append]; exact o6
          obtain ⟨p6, c6, rfl⟩ := owns_slice2 o6
          clear gB O2 F2 OF2 gr6 o6 O F OF hz2 f0 f1 f2 f3
          go_wp2_with fail
          go_roundw
          case rel => exact ⟨t + 1, by omega, by go_num, o7, F6, OF6⟩
          case measure => simp [intOf]; omega
        · have hte : t = c.gs.length := by omega
          subst hte
          have HS : Hid (chToIn r.chs q c.gs.length = chTo r.chs (q + 1)) := by
            show _ = _
            have := chTo_inE (l := r.chs) hql
            rw [HCQ.out] at this; exact this
          go_wp2_with fail
          go_roundw
          case rel => exact ⟨q + 1, by omega, by go_num, by rw [← HS.out]; exact O, F⟩
          case measure => simp [intOf]; omega
    · have hqe : q = r.chs.length := by omega
      subst hqe
      have g0 : wr.heap[w.heap.size]? = some (.cells #[.int .i64 r.at_, .slice qc r.chs.length cc, .slice p0 m0 c0, .iface T x] 43 (0, 0)) := by
        rw [F.out.block _ (by omega)]; exact heap_alloc_last w _
      have q3 := cell_of g0 3
      simp at q3
      rw [chTo_all] at *
      have FF : Hid (Below w.heap.size w wr) := ((Below.refl _ _).alloc (Nat.le_refl _) _).trans (F.out.mono (by omega))
      clear hC F
      rcases hop with hop | hop | hop
      · obtain ⟨a1, a2⟩ := endStop hop
        rw [HEV.out] at a1
        cases a1
        have HAG : Hid (allG r = chG r) := by show _ = _; rw [allG, a2, List.append_nil]
        have hmt : ∀ w : World, (method 291 125 (.agg #[]) "Goals").run Try.prog w = .ok (98, .agg #[]) w := fun w => by kernel_rfl
        clear a2 hop
        go_wp2_with fail
        refine (goalsK96 _).mono ?_
        rintro e w5 ⟨rfl, f5⟩
        replace O := owns_keeps O (Keeps.below (T := fun _ => True) f5) trivial
        have F5 := stop (FF.out.trans (f5.mono (by omega)))
        go_wp2_with (at_builtin; refine unstop ?_)
        refine stop ?_
        refine appNil Try.underlying65 Try.info69 rfl _ _ rfl rfl O rfl ?_
        go_wp2_with fail
        go_ret
        refine ⟨_, rfl, ?_, F5.out⟩
        rw [HAG.out]
        exact owns_base (base' := w.heap.size) O (by omega)
      · obtain ⟨a1, a2⟩ := endJump hop
        rw [HEV.out] at a1
        cases a1
        have HAG : Hid (allG r = chG r ++ [r.e.one]) := by show _ = _; rw [allG, a2]
        have hmt : ∀ w : World, (method 291 128 (.agg #[.int .i64 r.e.one.1, .int .i64 r.e.one.2]) "Goals").run Try.prog w = .ok (100, .agg #[.int .i64 r.e.one.1, .int .i64 r.e.one.2]) w := fun w => by kernel_rfl
        clear a2 hop
        go_wp2_with fail
        refine (goalsK97 _ _ _).mono ?_
        rintro e w5 ⟨g5, rfl, O5, f5⟩
        replace O := owns_keeps O (Keeps.below (T := fun _ => True) f5) trivial
        have F5 := stop (FF.out.trans (f5.mono (by omega)))
        obtain ⟨I9, Hi9, Hz9, Hs9, Hb9⟩ := info_parts Try.info69
        go_wp2_with (at_builtin; refine unstop ?_)
        refine stop ?_
        refine wpList_append_own w5 rfl _ _ 65 rfl (w.heap.size + 1) 69 I9 (.agg #[.int .i64 0, .int .i64 0]) 2 16 Try.underlying65 Hi9 Hz9 Hs9 Hb9 rfl (by decide) _ _ _ rfl O ⟨g5, 0, none⟩ 1 1 (pcs [r.e.one]) rfl rfl (O5.cells rfl) (List.all_eq_true.1 rfl) (by unfold maxLen; omega) (by omega) (by have := f5.size; omega) ?_
        intro v6 w6 o6 gr6 _
        have F6 := stop (Below.grown F5.out gr6 (by have := f5.size; omega) (fun j hj => by have := (O.lt j hj).1; omega))
        obtain ⟨p6, c6, rfl⟩ := owns_slice2 o6
        clear gr6
        go_wp2_with fail
        go_ret
        refine ⟨_, rfl, ?_, F6.out⟩
        rw [HAG.out, List.length_append]
        have := owns_base (base' := w.heap.size) o6 (by omega)
        simpa [pcs] using this
      · obtain ⟨a1, a2⟩ := endFork hop
        rw [HEV.out] at a1
        cases a1
        have HAG : Hid (allG r = chG r ++ [r.e.one, r.e.two]) := by show _ = _; rw [allG, a2]
        have hmt : ∀ w : World, (method 291 154 (.agg #[.int .i64 r.e.a.1, .int .i64 r.e.a.2, .int .i64 r.e.one.1, .int .i64 r.e.one.2, .int .i64 r.e.two.1, .int .i64 r.e.two.2]) "Goals").run Try.prog w = .ok (103, .agg #[.int .i64 r.e.a.1, .int .i64 r.e.a.2, .int .i64 r.e.one.1, .int .i64 r.e.one.2, .int .i64 r.e.two.1, .int .i64 r.e.two.2]) w := fun w => by kernel_rfl
        clear a2 hop
        go_wp2_with fail
        refine (goalsK100 _ _ _ _ _ _ _).mono ?_
        rintro e w5 ⟨g5, rfl, O5, f5⟩
        replace O := owns_keeps O (Keeps.below (T := fun _ => True) f5) trivial
        have F5 := stop (FF.out.trans (f5.mono (by omega)))
        obtain ⟨I9, Hi9, Hz9, Hs9, Hb9⟩ := info_parts Try.info69
        go_wp2_with (at_builtin; refine unstop ?_)
        refine stop ?_
        refine wpList_append_own w5 rfl _ _ 65 rfl (w.heap.size + 1) 69 I9 (.agg #[.int .i64 0, .int .i64 0]) 2 16 Try.underlying65 Hi9 Hz9 Hs9 Hb9 rfl (by decide) _ _ _ rfl O ⟨g5, 0, none⟩ 2 2 (pcs [r.e.one, r.e.two]) rfl rfl (O5.cells rfl) (List.all_eq_true.1 rfl) (by unfold maxLen; omega) (by omega) (by have := f5.size; omega) ?_
        intro v6 w6 o6 gr6 _
        have F6 := stop (Below.grown F5.out gr6 (by have := f5.size; omega) (fun j hj => by have := (O.lt j hj).1; omega))
        obtain ⟨p6, c6, rfl⟩ := owns_slice2 o6
        clear gr6
        go_wp2_with fail
        go_ret
        refine ⟨_, rfl, ?_, F6.out⟩
        rw [HAG.out, List.length_append]
        have := owns_base (base' := w.heap.size) o6 (by omega)
        simpa [pcs] using this
end Go.Proofs.Ytjimoigbdcalpaa
