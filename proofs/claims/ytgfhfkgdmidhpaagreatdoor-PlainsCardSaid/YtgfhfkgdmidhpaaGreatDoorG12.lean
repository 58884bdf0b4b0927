import Derived.Test.YtgfhfkgdmidhpaaGreatDoorG11
import Derived.Maps.AppendAt
namespace Go.Proofs.YtgfhfkgdmidhpaaGreatDoor
open Go.RowKit

def Splits (l : List Nat) (x i : Nat) : Prop := (∀ k, k < i → (hk : k < l.length) → l[k] < x) ∧ (∀ k, i ≤ k → (hk : k < l.length) → x ≤ l[k])
def foundAt (l : List Nat) (x i : Nat) : Bool := match l[i]? with | some y => y == x | none => false

set_option maxHeartbeats 400000 in
theorem nanCB (x : Int) (w : World) : Calls Tryz.prog 206 #[.int .i64 x] w fun e w' => e = .returned (.bool false) ∧ w' = w := by
  go_enter Tryz.func206, Tryz.ntmps206
  go_wp2
  go_ret
  exact ⟨by simp, rfl⟩
set_option maxHeartbeats 400000 in
theorem nanB (x : Int) (w : World) : Calls Tryz.prog 171 #[.int .i64 x] w fun e w' => e = .returned (.bool false) ∧ w' = w := by
  go_enter Tryz.func171, Tryz.ntmps171
  go_wp2
  go_ret
  exact ⟨by simp, rfl⟩
set_option maxHeartbeats 400000 in
theorem lessB (x y : Int) (w : World) : Calls Tryz.prog 170 #[.int .i64 x, .int .i64 y] w fun e w' => e = .returned (.bool (decide (x < y))) ∧ w' = w := by
  go_enter Tryz.func170, Tryz.ntmps170
  go_wp2_with fail
  refine (nanCB _ _).mono ?_
  rintro e w1 ⟨rfl, rfl⟩
  go_wp2_with fail
  go_ret
  exact ⟨rfl, rfl⟩

set_option maxRecDepth 100000 in
set_option maxHeartbeats 1000000 in
theorem bsearchB (l : List Nat) (x : Nat) (hsrt : Hid (l.Pairwise (· < ·))) (base : Nat) (v : Value) (w : World) (h : w.ownsRow base 143 1 v l.length (icell l)) (hl : l.length ≤ 1000000) :
    Calls Tryz.prog 120 #[v, .int .i64 x] w fun e w' => w' = w ∧ ∃ i, i ≤ l.length ∧ Splits l x i ∧ e = .returned (.tuple #[.int .i64 (i : Nat), .bool (foundAt l x i)]) := by
  obtain ⟨p, c, rfl⟩ := owns_slice2 h
  go_enter Tryz.func120, Tryz.ntmps120
  go_wp2_with fail
  go_loopw [7, 8, 9] (fun i j _ wr => ∃ a b : Nat, a ≤ b ∧ b ≤ l.length ∧ i = .int .i64 a ∧ j = .int .i64 b ∧ Hid (wr = w) ∧ Hid ((∀ k, k < a → (hk : k < l.length) → l[k] < x) ∧ (∀ k, b ≤ k → (hk : k < l.length) → x ≤ l[k]))) (fun i j _ _ => (intOf j).toNat - (intOf i).toNat)
  case atStart => exact ⟨0, l.length, by omega, by omega, rfl, rfl, rfl, fun k hk => by omega, fun k hk h2 => by omega⟩
  case round =>
    obtain ⟨a, b, hab, hbl, rfl, rfl, HW, HI⟩ := hrel
    have h2 : wr.ownsRow base 143 1 (.slice p l.length c) l.length (icell l) := by rw [HW.out]; exact h
    by_cases hlt : a < b
    · have hm1 : (a + b) / 2 < b := by omega
      have hm2 : a ≤ (a + b) / 2 := by omega
      have hml : (a + b) / 2 < l.length := by omega
      obtain ⟨g, rfl, _, _⟩ := owns_form h2 (by omega)
      have f0 := owns_cell h2 (icell_at hml)
      by_cases hc : l[(a + b) / 2] < x
      · have HI2 : Hid ((∀ k, k < (a + b) / 2 + 1 → (hk : k < l.length) → l[k] < x) ∧ (∀ k, b ≤ k → (hk : k < l.length) → x ≤ l[k])) := by
          refine ⟨fun k hk hkl => ?_, HI.out.2⟩
          by_cases he : k = (a + b) / 2
          · subst he; exact hc
          · have := List.pairwise_iff_getElem.1 hsrt.out k ((a + b) / 2) hkl hml (by omega)
            omega
        have hd : decide ((l[(a + b) / 2] : Int) < (x : Int)) = true := by simp; omega
        clear hc
        go_wp2_with fail
        refine (lessB _ _ _).mono ?_
        rintro e w1 ⟨rfl, hw1⟩
        rw [hd]
        have HW1 : Hid (w1 = w) := hw1.trans HW.out
        clear hw1
        go_wp2_with fail
        go_roundw
        case rel => exact ⟨(a + b) / 2 + 1, b, by omega, by omega, by go_num, rfl, HW1, HI2⟩
        case measure => simp [intOf]; omega
      · have HI2 : Hid ((∀ k, k < a → (hk : k < l.length) → l[k] < x) ∧ (∀ k, (a + b) / 2 ≤ k → (hk : k < l.length) → x ≤ l[k])) := by
          refine ⟨HI.out.1, fun k hk hkl => ?_⟩
          by_cases he : k = (a + b) / 2
          · subst he; omega
          · have := List.pairwise_iff_getElem.1 hsrt.out ((a + b) / 2) k hml hkl (by omega)
            omega
        have hd : decide ((l[(a + b) / 2] : Int) < (x : Int)) = false := by simp; omega
        clear hc
        go_wp2_with fail
        refine (lessB _ _ _).mono ?_
        rintro e w1 ⟨rfl, hw1⟩
        rw [hd]
        have HW1 : Hid (w1 = w) := hw1.trans HW.out
        clear hw1
        go_wp2_with fail
        go_roundw
        case rel => exact ⟨a, (a + b) / 2, by omega, by omega, rfl, by go_num, HW1, HI2⟩
        case measure => simp [intOf]; omega
    · have hae : a = b := by omega
      subst hae
      by_cases hal : a < l.length
      · obtain ⟨g, rfl, _, _⟩ := owns_form h2 (by omega)
        have f0 := owns_cell h2 (icell_at hal)
        by_cases hx : l[a] = x
        · have hx' : ((l[a] : Int) == (x : Int)) = true := by simp; omega
          have HF : Hid (foundAt l x a = true) := by show _ = _; simp [foundAt, hal, hx]
          clear hx
          go_wp2_with fail
          go_ret2
          exact ⟨HW.out, a, hbl, HI.out, by rw [HF.out]; rfl⟩
        · have hx' : ((l[a] : Int) == (x : Int)) = false := by simp; omega
          have HF : Hid (foundAt l x a = false) := by show _ = _; simp [foundAt, hal, hx]
          clear hx
          go_wp2_with fail
          refine (nanB _ _).mono ?_
          rintro e w1 ⟨rfl, hw1⟩
          have HW1 : Hid (w1 = w) := hw1.trans HW.out
          clear hw1
          go_wp2_with fail
          go_ret2
          exact ⟨HW1.out, a, hbl, HI.out, by rw [HF.out]; rfl⟩
      · have HF : Hid (foundAt l x a = false) := by show _ = _; simp [foundAt, List.getElem?_eq_none (show l.length ≤ a by omega)]
        go_wp2_with fail
        go_ret2
        exact ⟨HW.out, a, hbl, HI.out, by rw [HF.out]; rfl⟩

set_option maxHeartbeats 400000 in
theorem nanCR (x : Int) (w : World) : Calls Tryz.prog 216 #[.int .i64 x] w fun e w' => e = .returned (.bool false) ∧ w' = w := by
  go_enter Tryz.func216, Tryz.ntmps216
  go_wp2
  go_ret
  exact ⟨by simp, rfl⟩
set_option maxHeartbeats 400000 in
theorem nanR (x : Int) (w : World) : Calls Tryz.prog 193 #[.int .i64 x] w fun e w' => e = .returned (.bool false) ∧ w' = w := by
  go_enter Tryz.func193, Tryz.ntmps193
  go_wp2
  go_ret
  exact ⟨by simp, rfl⟩
set_option maxHeartbeats 400000 in
theorem lessR (x y : Int) (w : World) : Calls Tryz.prog 192 #[.int .i64 x, .int .i64 y] w fun e w' => e = .returned (.bool (decide (x < y))) ∧ w' = w := by
  go_enter Tryz.func192, Tryz.ntmps192
  go_wp2_with fail
  refine (nanCR _ _).mono ?_
  rintro e w1 ⟨rfl, rfl⟩
  go_wp2_with fail
  go_ret
  exact ⟨rfl, rfl⟩

set_option maxRecDepth 100000 in
set_option maxHeartbeats 1000000 in
theorem bsearchR (l : List Nat) (x : Nat) (hsrt : Hid (l.Pairwise (· < ·))) (base : Nat) (v : Value) (w : World) (h : w.ownsRow base 78 1 v l.length (icell l)) (hl : l.length ≤ 1000000) :
    Calls Tryz.prog 145 #[v, .int .i64 x] w fun e w' => w' = w ∧ ∃ i, i ≤ l.length ∧ Splits l x i ∧ e = .returned (.tuple #[.int .i64 (i : Nat), .bool (foundAt l x i)]) := by
  obtain ⟨p, c, rfl⟩ := owns_slice2 h
  go_enter Tryz.func145, Tryz.ntmps145
  go_wp2_with fail
  go_loopw [7, 8, 9] (fun i j _ wr => ∃ a b : Nat, a ≤ b ∧ b ≤ l.length ∧ i = .int .i64 a ∧ j = .int .i64 b ∧ Hid (wr = w) ∧ Hid ((∀ k, k < a → (hk : k < l.length) → l[k] < x) ∧ (∀ k, b ≤ k → (hk : k < l.length) → x ≤ l[k]))) (fun i j _ _ => (intOf j).toNat - (intOf i).toNat)
  case atStart => exact ⟨0, l.length, by omega, by omega, rfl, rfl, rfl, fun k hk => by omega, fun k hk h2 => by omega⟩
  case round =>
    obtain ⟨a, b, hab, hbl, rfl, rfl, HW, HI⟩ := hrel
    have h2 : wr.ownsRow base 78 1 (.slice p l.length c) l.length (icell l) := by rw [HW.out]; exact h
    by_cases hlt : a < b
    · have hm1 : (a + b) / 2 < b := by omega
      have hm2 : a ≤ (a + b) / 2 := by omega
      have hml : (a + b) / 2 < l.length := by omega
      obtain ⟨g, rfl, _, _⟩ := owns_form h2 (by omega)
      have f0 := owns_cell h2 (icell_at hml)
      by_cases hc : l[(a + b) / 2] < x
      · have HI2 : Hid ((∀ k, k < (a + b) / 2 + 1 → (hk : k < l.length) → l[k] < x) ∧ (∀ k, b ≤ k → (hk : k < l.length) → x ≤ l[k])) := by
          refine ⟨fun k hk hkl => ?_, HI.out.2⟩
          by_cases he : k = (a + b) / 2
          · subst he; exact hc
          · have := List.pairwise_iff_getElem.1 hsrt.out k ((a + b) / 2) hkl hml (by omega)
            omega
        have hd : decide ((l[(a + b) / 2] : Int) < (x : Int)) = true := by simp; omega
        clear hc
        go_wp2_with fail
        refine (lessR _ _ _).mono ?_
        rintro e w1 ⟨rfl, hw1⟩
        rw [hd]
        have HW1 : Hid (w1 = w) := hw1.trans HW.out
        clear hw1
        go_wp2_with fail
        go_roundw
        case rel => exact ⟨(a + b) / 2 + 1, b, by omega, by omega, by go_num, rfl, HW1, HI2⟩
        case measure => simp [intOf]; omega
      · have HI2 : Hid ((∀ k, k < a → (hk : k < l.length) → l[k] < x) ∧ (∀ k, (a + b) / 2 ≤ k → (hk : k < l.length) → x ≤ l[k])) := by
          refine ⟨HI.out.1, fun k hk hkl => ?_⟩
          by_cases he : k = (a + b) / 2
          · subst he; omega
          · have := List.pairwise_iff_getElem.1 hsrt.out ((a + b) / 2) k hml hkl (by omega)
            omega
        have hd : decide ((l[(a + b) / 2] : Int) < (x : Int)) = false := by simp; omega
        clear hc
        go_wp2_with fail
        refine (lessR _ _ _).mono ?_
        rintro e w1 ⟨rfl, hw1⟩
        rw [hd]
        have HW1 : Hid (w1 = w) := hw1.trans HW.out
        clear hw1
        go_wp2_with fail
        go_roundw
        case rel => exact ⟨a, (a + b) / 2, by omega, by omega, rfl, by go_num, HW1, HI2⟩
        case measure => simp [intOf]; omega
    · have hae : a = b := by omega
      subst hae
      by_cases hal : a < l.length
      · obtain ⟨g, rfl, _, _⟩ := owns_form h2 (by omega)
        have f0 := owns_cell h2 (icell_at hal)
        by_cases hx : l[a] = x
        · have hx' : ((l[a] : Int) == (x : Int)) = true := by simp; omega
          have HF : Hid (foundAt l x a = true) := by show _ = _; simp [foundAt, hal, hx]
          clear hx
          go_wp2_with fail
          go_ret2
          exact ⟨HW.out, a, hbl, HI.out, by rw [HF.out]; rfl⟩
        · have hx' : ((l[a] : Int) == (x : Int)) = false := by simp; omega
          have HF : Hid (foundAt l x a = false) := by show _ = _; simp [foundAt, hal, hx]
          clear hx
          go_wp2_with fail
          refine (nanR _ _).mono ?_
          rintro e w1 ⟨rfl, hw1⟩
          have HW1 : Hid (w1 = w) := hw1.trans HW.out
          clear hw1
          go_wp2_with fail
          go_ret2
          exact ⟨HW1.out, a, hbl, HI.out, by rw [HF.out]; rfl⟩
      · have HF : Hid (foundAt l x a = false) := by show _ = _; simp [foundAt, List.getElem?_eq_none (show l.length ≤ a by omega)]
        go_wp2_with fail
        go_ret2
        exact ⟨HW.out, a, hbl, HI.out, by rw [HF.out]; rfl⟩
end Go.Proofs.YtgfhfkgdmidhpaaGreatDoor

namespace Go.Proofs.YtgfhfkgdmidhpaaGreatDoor
open Go.RowKit

/-- The row lies where it lay, or in a block that was not there. -/
def NewOr (w : World) (v v' : Value) : Prop := v'.ownBlock = v.ownBlock ∨ ∃ g, v'.ownBlock = some g ∧ w.heap.size ≤ g

/-- append of one element that lies in a block of its own; where the row lies then. -/
theorem app2 {t e : TypeId} {z : Value} {size bytes : Nat} (ht : Tryz.prog.underlying t = some (.slice e)) (hi : (Tryz.prog.info? e).map (fun i => (i.zero, i.size, i.bytes)) = some (some z, size, bytes)) (hzs : z.cells.size = size) (hsz : 0 < size) (hby : bytes ≤ 1000)
    {ops : Array Oper} {rest : List Oper} {o : Oper} {a : Act} {Q : Exit → Act → World → Prop} {w : World} (hgd : o.guard = none) (s x : Operand)
    (ho : o.op = .call { callee := .builtin .append, args := #[s, x], argTypes := #[t, t] })
    {base : Nat} {v : Value} {n : Nat} {xs : List Value} (hs : a.eval s = v) (hown : w.ownsRow base e size v n xs)
    {B : Nat} {cs : Array Value} {tt : TypeId} {fr : Nat × Nat} (hB : w.heap[B]? = some (.cells cs tt fr)) (hx : a.eval x = .slice (some ⟨B, 0, none⟩) 1 1) (hl : cs.size = size) (h1 : ∀ u ∈ cs.toList, u.oneCell' = true)
    (hn : n ≤ 1000000) (hbase : base ≤ w.heap.size)
    (h : ∀ v' w', w'.ownsRow base e size v' (n + 1) (xs ++ cs.toList) → w.grownBy w' v.ownBlock → NewOr w v v' → wpList Tryz.prog ops Q rest (a.put o.dst v') w') : wpList Tryz.prog ops Q (o :: rest) a w := by
  obtain ⟨I, Hi, Hz, Hs, Hb⟩ := info_parts hi
  refine wpList_append_own_at w hgd s x t ho base e I z size bytes ht Hi Hz Hs Hb hzs hsz v n xs hs hown ⟨B, 0, none⟩ 1 1 cs.toList hx (by simpa using hl) (World.news_of_block hB) h1 (by unfold maxLen; omega) ?_ hbase (fun v' w' h1 h2 _ h4 => h v' w' h1 h2 (h4.imp id fun h => ⟨_, h, Nat.le_refl _⟩))
  have : (n + 1) * bytes ≤ 1000001 * 1000 := Nat.mul_le_mul (by omega) hby
  omega

set_option maxRecDepth 100000 in
set_option maxHeartbeats 1000000 in
theorem insEndB (l : List Nat) (x : Nat) (base : Nat) (v : Value) (w : World) (h : w.ownsRow base 143 1 v l.length (icell l)) (hl : l.length ≤ 1000000) (hb : base ≤ w.heap.size)
    {B : Nat} {tt : TypeId} (hB : w.heap[B]? = some (.cells #[.int .i64 x] tt (0, 0))) :
    Calls Tryz.prog 121 #[v, .int .i64 l.length, .slice (some ⟨B, 0, none⟩) 1 1] w fun e w' => ∃ v', e = .returned v' ∧ w'.ownsRow base 143 1 v' (l.length + 1) (icell (l ++ [x])) ∧ w.grownBy w' v.ownBlock ∧ NewOr w v v' := by
  have HO := stop h
  have HB := stop hB
  have HL := stop hl
  have HS := stop hb
  clear hB hl hb
  obtain ⟨p, c, rfl⟩ := owns_slice2 h
  clear h
  by_cases hc : c = l.length
  · subst hc
    go_enter Tryz.func121, Tryz.ntmps121
    go_wp2_with (at_builtin; refine unstop ?_)
    refine stop ?_
    refine app2 (v := .slice p l.length l.length) Tryz.underlying80 Tryz.info143 rfl (by decide) (by decide) rfl _ _ rfl rfl HO.out HB.out rfl rfl (List.all_eq_true.1 rfl) HL.out HS.out ?_
    intro v1 w1 o1 g1 n1
    rw [show icell l ++ #[Value.int .i64 x].toList = icell (l ++ [x]) by simp [icell]] at o1
    have O1 := stop o1
    have G1 := stop g1
    clear o1 g1
    go_wp2_with fail
    go_ret
    exact ⟨v1, rfl, O1.out, G1.out, n1⟩
  · have HC := hc
    go_enter Tryz.func121, Tryz.ntmps121
    go_wp2_with (at_builtin; refine unstop ?_)
    refine stop ?_
    refine app2 (v := .slice p l.length c) Tryz.underlying80 Tryz.info143 rfl (by decide) (by decide) rfl _ _ rfl rfl HO.out HB.out rfl rfl (List.all_eq_true.1 rfl) HL.out HS.out ?_
    intro v1 w1 o1 g1 n1
    rw [show icell l ++ #[Value.int .i64 x].toList = icell (l ++ [x]) by simp [icell]] at o1
    have O1 := stop o1
    have G1 := stop g1
    clear o1 g1
    go_wp2_with fail
    go_ret
    exact ⟨v1, rfl, O1.out, G1.out, n1⟩

set_option maxRecDepth 100000 in
set_option maxHeartbeats 1000000 in
theorem insEndR (l : List Nat) (x : Nat) (base : Nat) (v : Value) (w : World) (h : w.ownsRow base 78 1 v l.length (icell l)) (hl : l.length ≤ 1000000) (hb : base ≤ w.heap.size)
    {B : Nat} {tt : TypeId} (hB : w.heap[B]? = some (.cells #[.int .i64 x] tt (0, 0))) :
    Calls Tryz.prog 146 #[v, .int .i64 l.length, .slice (some ⟨B, 0, none⟩) 1 1] w fun e w' => ∃ v', e = .returned v' ∧ w'.ownsRow base 78 1 v' (l.length + 1) (icell (l ++ [x])) ∧ w.grownBy w' v.ownBlock ∧ NewOr w v v' := by
  have HO := stop h
  have HB := stop hB
  have HL := stop hl
  have HS := stop hb
  clear hB hl hb
  obtain ⟨p, c, rfl⟩ := owns_slice2 h
  clear h
  by_cases hc : c = l.length
  · subst hc
    go_enter Tryz.func146, Tryz.ntmps146
    go_wp2_with (at_builtin; refine unstop ?_)
    refine stop ?_
    refine app2 (v := .slice p l.length l.length) Tryz.underlying159 Tryz.info78 rfl (by decide) (by decide) rfl _ _ rfl rfl HO.out HB.out rfl rfl (List.all_eq_true.1 rfl) HL.out HS.out ?_
    intro v1 w1 o1 g1 n1
    rw [show icell l ++ #[Value.int .i64 x].toList = icell (l ++ [x]) by simp [icell]] at o1
    have O1 := stop o1
    have G1 := stop g1
    clear o1 g1
    go_wp2_with fail
    go_ret
    exact ⟨v1, rfl, O1.out, G1.out, n1⟩
  · have HC := hc
    go_enter Tryz.func146, Tryz.ntmps146
    go_wp2_with (at_builtin; refine unstop ?_)
    refine stop ?_
    refine app2 (v := .slice p l.length c) Tryz.underlying159 Tryz.info78 rfl (by decide) (by decide) rfl _ _ rfl rfl HO.out HB.out rfl rfl (List.all_eq_true.1 rfl) HL.out HS.out ?_
    intro v1 w1 o1 g1 n1
    rw [show icell l ++ #[Value.int .i64 x].toList = icell (l ++ [x]) by simp [icell]] at o1
    have O1 := stop o1
    have G1 := stop g1
    clear o1 g1
    go_wp2_with fail
    go_ret
    exact ⟨v1, rfl, O1.out, G1.out, n1⟩

end Go.Proofs.YtgfhfkgdmidhpaaGreatDoor
