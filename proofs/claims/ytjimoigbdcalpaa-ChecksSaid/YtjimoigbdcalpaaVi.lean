import Derived.Test.YtjimoigbdcalpaaVh
import Derived.Maps.AppendAt
namespace Go.Proofs.Ytjimoigbdcalpaa
open Go.RowKit

/-- The row lies where it lay, or in a block that was not there. -/
def NewOr (w : World) (v v' : Value) : Prop := v'.ownBlock = v.ownBlock ∨ ∃ g, v'.ownBlock = some g ∧ w.heap.size ≤ g

/-- append of one element that lies in a block of its own; where the row lies then. -/
theorem app2 {t e : TypeId} {z : Value} {size bytes : Nat} (ht : Try.prog.underlying t = some (.slice e)) (hi : (Try.prog.info? e).map (fun i => (i.zero, i.size, i.bytes)) = some (some z, size, bytes)) (hzs : z.cells.size = size) (hsz : 0 < size) (hby : bytes ≤ 1000)
    {ops : Array Oper} {rest : List Oper} {o : Oper} {a : Act} {Q : Exit → Act → World → Prop} {w : World} (hgd : o.guard = none) (s x : Operand)
    (ho : o.op = .call { callee := .builtin .append, args := #[s, x], argTypes := #[t, t] })
    {base : Nat} {v : Value} {n : Nat} {xs : List Value} (hs : a.eval s = v) (hown : w.ownsRow base e size v n xs)
    {B : Nat} {cs : Array Value} {tt : TypeId} {fr : Nat × Nat} (hB : w.heap[B]? = some (.cells cs tt fr)) (hx : a.eval x = .slice (some ⟨B, 0, none⟩) 1 1) (hl : cs.size = size) (h1 : ∀ u ∈ cs.toList, u.oneCell' = true)
    (hn : n ≤ 1000000) (hbase : base ≤ w.heap.size)
    (h : ∀ v' w', w'.ownsRow base e size v' (n + 1) (xs ++ cs.toList) → w.grownBy w' v.ownBlock → NewOr w v v' → wpList Try.prog ops Q rest (a.put o.dst v') w') : wpList Try.prog ops Q (o :: rest) a w := by
  obtain ⟨I, Hi, Hz, Hs, Hb⟩ := info_parts hi
  refine wpList_append_own_at w hgd s x t ho base e I z size bytes ht Hi Hz Hs Hb hzs hsz v n xs hs hown ⟨B, 0, none⟩ 1 1 cs.toList hx (by simpa using hl) (World.news_of_block hB) h1 (by unfold maxLen; omega) ?_ hbase (fun v' w' h1 h2 _ h4 => h v' w' h1 h2 (h4.imp id fun h => ⟨_, h, Nat.le_refl _⟩))
  have : (n + 1) * bytes ≤ 1000001 * 1000 := Nat.mul_le_mul (by omega) hby
  omega

set_option maxRecDepth 100000 in
set_option maxHeartbeats 1000000 in
theorem insEndB (l : List Nat) (x : Nat) (base : Nat) (v : Value) (w : World) (h : w.ownsRow base 67 1 v l.length (icell l)) (hl : l.length ≤ 1000000) (hb : base ≤ w.heap.size)
    {B : Nat} {tt : TypeId} (hB : w.heap[B]? = some (.cells #[.int .i64 x] tt (0, 0))) :
    Calls Try.prog 51 #[v, .int .i64 l.length, .slice (some ⟨B, 0, none⟩) 1 1] w fun e w' => ∃ v', e = .returned v' ∧ w'.ownsRow base 67 1 v' (l.length + 1) (icell (l ++ [x])) ∧ w.grownBy w' v.ownBlock ∧ NewOr w v v' := by
  have HO := stop h
  have HB := stop hB
  have HL := stop hl
  have HS := stop hb
  clear hB hl hb
  obtain ⟨p, c, rfl⟩ := owns_slice2 h
  clear h
  by_cases hc : c = l.length
  · subst hc
    go_enter Try.func51, Try.ntmps51
    go_wp2_with (at_builtin; refine unstop ?_)
    refine stop ?_
    refine app2 (v := .slice p l.length l.length) Try.underlying73 Try.info67 rfl (by decide) (by decide) rfl _ _ rfl rfl HO.out HB.out rfl rfl (List.all_eq_true.1 rfl) HL.out HS.out ?_
    intro v1 w1 o1 g1 n1
    rw [show icell l ++ #[Value.int .i64 x].toList = icell (l ++ [x]) by simp [icell]] at o1
    have O1 := stop o1
    have G1 := stop g1
    clear o1 g1
    go_wp2_with fail
    go_ret
    exact ⟨v1, rfl, O1.out, G1.out, n1⟩
  · have HC := hc
    go_enter Try.func51, Try.ntmps51
    go_wp2_with (at_builtin; refine unstop ?_)
    refine stop ?_
    refine app2 (v := .slice p l.length c) Try.underlying73 Try.info67 rfl (by decide) (by decide) rfl _ _ rfl rfl HO.out HB.out rfl rfl (List.all_eq_true.1 rfl) HL.out HS.out ?_
    intro v1 w1 o1 g1 n1
    rw [show icell l ++ #[Value.int .i64 x].toList = icell (l ++ [x]) by simp [icell]] at o1
    have O1 := stop o1
    have G1 := stop g1
    clear o1 g1
    go_wp2_with fail
    go_ret
    exact ⟨v1, rfl, O1.out, G1.out, n1⟩

set_option maxRecDepth 100000 in
set_option maxHeartbeats 1000000 in
theorem insEndR (l : List Nat) (x : Nat) (base : Nat) (v : Value) (w : World) (h : w.ownsRow base 96 1 v l.length (icell l)) (hl : l.length ≤ 1000000) (hb : base ≤ w.heap.size)
    {B : Nat} {tt : TypeId} (hB : w.heap[B]? = some (.cells #[.int .i64 x] tt (0, 0))) :
    Calls Try.prog 53 #[v, .int .i64 l.length, .slice (some ⟨B, 0, none⟩) 1 1] w fun e w' => ∃ v', e = .returned v' ∧ w'.ownsRow base 96 1 v' (l.length + 1) (icell (l ++ [x])) ∧ w.grownBy w' v.ownBlock ∧ NewOr w v v' := by
  have HO := stop h
  have HB := stop hB
  have HL := stop hl
  have HS := stop hb
  clear hB hl hb
  obtain ⟨p, c, rfl⟩ := owns_slice2 h
  clear h
  by_cases hc : c = l.length
  · subst hc
    go_enter Try.func53, Try.ntmps53
    go_wp2_with (at_builtin; refine unstop ?_)
    refine stop ?_
    refine app2 (v := .slice p l.length l.length) Try.underlying106 Try.info96 rfl (by decide) (by decide) rfl _ _ rfl rfl HO.out HB.out rfl rfl (List.all_eq_true.1 rfl) HL.out HS.out ?_
    intro v1 w1 o1 g1 n1
    rw [show icell l ++ #[Value.int .i64 x].toList = icell (l ++ [x]) by simp [icell]] at o1
    have O1 := stop o1
    have G1 := stop g1
    clear o1 g1
    go_wp2_with fail
    go_ret
    exact ⟨v1, rfl, O1.out, G1.out, n1⟩
  · have HC := hc
    go_enter Try.func53, Try.ntmps53
    go_wp2_with (at_builtin; refine unstop ?_)
    refine stop ?_
    refine app2 (v := .slice p l.length c) Try.underlying106 Try.info96 rfl (by decide) (by decide) rfl _ _ rfl rfl HO.out HB.out rfl rfl (List.all_eq_true.1 rfl) HL.out HS.out ?_
    intro v1 w1 o1 g1 n1
    rw [show icell l ++ #[Value.int .i64 x].toList = icell (l ++ [x]) by simp [icell]] at o1
    have O1 := stop o1
    have G1 := stop g1
    clear o1 g1
    go_wp2_with fail
    go_ret
    exact ⟨v1, rfl, O1.out, G1.out, n1⟩

end Go.Proofs.Ytjimoigbdcalpaa
