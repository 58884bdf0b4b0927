import Derived.Test.YtjimoigbdcalpaaVg
namespace Go.Proofs.Ytjimoigbdcalpaa
open Go.RowKit

def Splits (l : List Nat) (x i : Nat) : Prop := (∀ k, k < i → (hk : k < l.length) → l[k] < x) ∧ (∀ k, i ≤ k → (hk : k < l.length) → x ≤ l[k])
def foundAt (l : List Nat) (x i : Nat) : Bool := match l[i]? with | some y => y == x | none => false

set_option maxHeartbeats 400000 in
theorem nanCB (x : Int) (w : World) : Calls Try.prog 71 #[.int .i64 x] w fun e w' => e = .returned (.bool false) ∧ w' = w := by
  go_enter Try.func71, Try.ntmps71
  go_wp2
  go_ret
  exact ⟨by simp, rfl⟩
set_option maxHeartbeats 400000 in
theorem nanB (x : Int) (w : World) : Calls Try.prog 61 #[.int .i64 x] w fun e w' => e = .returned (.bool false) ∧ w' = w := by
  go_enter Try.func61, Try.ntmps61
  go_wp2
  go_ret
  exact ⟨by simp, rfl⟩
set_option maxHeartbeats 400000 in
theorem lessB (x y : Int) (w : World) : Calls Try.prog 60 #[.int .i64 x, .int .i64 y] w fun e w' => e = .returned (.bool (decide (x < y))) ∧ w' = w := by
  go_enter Try.func60, Try.ntmps60
  go_wp2_with fail
  refine (nanCB _ _).mono ?_
  rintro e w1 ⟨rfl, rfl⟩
  go_wp2_with fail
  go_ret
  exact ⟨rfl, rfl⟩

set_option maxRecDepth 100000 in
set_option maxHeartbeats 1000000 in
theorem bsearchB (l : List Nat) (x : Nat) (hsrt : Hid (l.Pairwise (· < ·))) (base : Nat) (v : Value) (w : World) (h : w.ownsRow base 67 1 v l.length (icell l)) (hl : l.length ≤ 1000000) :
    Calls Try.prog 50 #[v, .int .i64 x] w fun e w' => w' = w ∧ ∃ i, i ≤ l.length ∧ Splits l x i ∧ e = .returned (.tuple #[.int .i64 (i : Nat), .bool (foundAt l x i)]) := by
  obtain ⟨p, c, rfl⟩ := owns_slice2 h
  go_enter Try.func50, Try.ntmps50
  go_wp2_with fail
  go_loopw [7, 8, 9] (fun i j _ wr => ∃ a b : Nat, a ≤ b ∧ b ≤ l.length ∧ i = .int .i64 a ∧ j = .int .i64 b ∧ Hid (wr = w) ∧ Hid ((∀ k, k < a → (hk : k < l.length) → l[k] < x) ∧ (∀ k, b ≤ k → (hk : k < l.length) → x ≤ l[k]))) (fun i j _ _ => (intOf j).toNat - (intOf i).toNat)
  case atStart => exact ⟨0, l.length, by omega, by omega, rfl, rfl, rfl, fun k hk => by omega, fun k hk h2 => by omega⟩
  case round =>
    obtain ⟨a, b, hab, hbl, rfl, rfl, HW, HI⟩ := hrel
    have h2 : wr.ownsRow base 67 1 (.slice p l.length c) l.length (icell l) := by rw [HW.out]; exact h
    by_cases hlt : a < b
    · have hm1 : (a + b) / 2 < b := by omega
      have hm2 : a ≤ (a + b) / 2 := by omega
      have hml : (a + b) / 2 < l.length := by omega
      obtain ⟨g, rfl, _, _⟩ := owns_form h2 (by omega)
      have f0 := owns_cell h2 (icell_at hml)
      by_cases hc : l[(a + b) / 2] < x
      · have HI2 : Hid ((∀ k, k < (a + b) / 2 + 1 → (hk : k < l.length) → l[k] < x) ∧ (∀ k, b ≤ k → (hk : k < l.length) → x ≤ l[k])) := by
          refine ⟨fun k hk hkl => ?_, HI.out.2⟩
          by_cases he : k = (a + b) / 2
          · subst he; exact hc
          · have := List.pairwise_iff_getElem.1 hsrt.out k ((a + b) / 2) hkl hml (by omega)
            omega
        have hd : decide ((l[(a + b) / 2] : Int) < (x : Int)) = true := by simp; omega
        clear hc
        go_wp2_with fail
        refine (lessB _ _ _).mono ?_
        rintro e w1 ⟨rfl, hw1⟩
        rw [hd]
        have HW1 : Hid (w1 = w) := hw1.trans HW.out
        clear hw1
        go_wp2_with fail
        go_roundw
        case rel => exact ⟨(a + b) / 2 + 1, b, by omega, by omega, by go_num, rfl, HW1, HI2⟩
        case measure => simp [intOf]; omega
      · have HI2 : Hid ((∀ k, k < a → (hk : k < l.length) → l[k] < x) ∧ (∀ k, (a + b) / 2 ≤ k → (hk : k < l.length) → x ≤ l[k])) := by
          refine ⟨HI.out.1, fun k hk hkl => ?_⟩
          by_cases he : k = (a + b) / 2
          · subst he; omega
          · have := List.pairwise_iff_getElem.1 hsrt.out ((a + b) / 2) k hml hkl (by omega)
            omega
        have hd : decide ((l[(a + b) / 2] : Int) < (x : Int)) = false := by simp; omega
        clear hc
        go_wp2_with fail
        refine (lessB _ _ _).mono ?_
        rintro e w1 ⟨rfl, hw1⟩
        rw [hd]
        have HW1 : Hid (w1 = w) := hw1.trans HW.out
        clear hw1
        go_wp2_with fail
        go_roundw
        case rel => exact ⟨a, (a + b) / 2, by omega, by omega, rfl, by go_num, HW1, HI2⟩
        case measure => simp [intOf]; omega
    · have hae : a = b := by omega
      subst hae
      by_cases hal : a < l.length
      · obtain ⟨g, rfl, _, _⟩ := owns_form h2 (by omega)
        have f0 := owns_cell h2 (icell_at hal)
        by_cases hx : l[a] = x
        · have hx' : ((l[a] : Int) == (x : Int)) = true := by simp; omega
          have HF : Hid (foundAt l x a = true) := by show _ = _; simp [foundAt, hal, hx]
          clear hx
          go_wp2_with fail
          go_ret2
          exact ⟨HW.out, a, hbl, HI.out, by rw [HF.out]; rfl⟩
        · have hx' : ((l[a] : Int) == (x : Int)) = false := by simp; omega
          have HF : Hid (foundAt l x a = false) := by show _ = _; simp [foundAt, hal, hx]
          clear hx
          go_wp2_with fail
          refine (nanB _ _).mono ?_
          rintro e w1 ⟨rfl, hw1⟩
          have HW1 : Hid (w1 = w) := hw1.trans HW.out
          clear hw1
          go_wp2_with fail
          go_ret2
          exact ⟨HW1.out, a, hbl, HI.out, by rw [HF.out]; rfl⟩
      · have HF : Hid (foundAt l x a = false) := by show _ = _; simp [foundAt, List.getElem?_eq_none (show l.length ≤ a by omega)]
        go_wp2_with fail
        go_ret2
        exact ⟨HW.out, a, hbl, HI.out, by rw [HF.out]; rfl⟩

set_option maxHeartbeats 400000 in
theorem nanCR (x : Int) (w : World) : Calls Try.prog 73 #[.int .i64 x] w fun e w' => e = .returned (.bool false) ∧ w' = w := by
  go_enter Try.func73, Try.ntmps73
  go_wp2
  go_ret
  exact ⟨by simp, rfl⟩
set_option maxHeartbeats 400000 in
theorem nanR (x : Int) (w : World) : Calls Try.prog 65 #[.int .i64 x] w fun e w' => e = .returned (.bool false) ∧ w' = w := by
  go_enter Try.func65, Try.ntmps65
  go_wp2
  go_ret
  exact ⟨by simp, rfl⟩
set_option maxHeartbeats 400000 in
theorem lessR (x y : Int) (w : World) : Calls Try.prog 64 #[.int .i64 x, .int .i64 y] w fun e w' => e = .returned (.bool (decide (x < y))) ∧ w' = w := by
  go_enter Try.func64, Try.ntmps64
  go_wp2_with fail
  refine (nanCR _ _).mono ?_
  rintro e w1 ⟨rfl, rfl⟩
  go_wp2_with fail
  go_ret
  exact ⟨rfl, rfl⟩

set_option maxRecDepth 100000 in
set_option maxHeartbeats 1000000 in
theorem bsearchR (l : List Nat) (x : Nat) (hsrt : Hid (l.Pairwise (· < ·))) (base : Nat) (v : Value) (w : World) (h : w.ownsRow base 96 1 v l.length (icell l)) (hl : l.length ≤ 1000000) :
    Calls Try.prog 52 #[v, .int .i64 x] w fun e w' => w' = w ∧ ∃ i, i ≤ l.length ∧ Splits l x i ∧ e = .returned (.tuple #[.int .i64 (i : Nat), .bool (foundAt l x i)]) := by
  obtain ⟨p, c, rfl⟩ := owns_slice2 h
  go_enter Try.func52, Try.ntmps52
  go_wp2_with fail
  go_loopw [7, 8, 9] (fun i j _ wr => ∃ a b : Nat, a ≤ b ∧ b ≤ l.length ∧ i = .int .i64 a ∧ j = .int .i64 b ∧ Hid (wr = w) ∧ Hid ((∀ k, k < a → (hk : k < l.length) → l[k] < x) ∧ (∀ k, b ≤ k → (hk : k < l.length) → x ≤ l[k]))) (fun i j _ _ => (intOf j).toNat - (intOf i).toNat)
  case atStart => exact ⟨0, l.length, by omega, by omega, rfl, rfl, rfl, fun k hk => by omega, fun k hk h2 => by omega⟩
  case round =>
    obtain ⟨a, b, hab, hbl, rfl, rfl, HW, HI⟩ := hrel
    have h2 : wr.ownsRow base 96 1 (.slice p l.length c) l.length (icell l) := by rw [HW.out]; exact h
    by_cases hlt : a < b
    · have hm1 : (a + b) / 2 < b := by omega
      have hm2 : a ≤ (a + b) / 2 := by omega
      have hml : (a + b) / 2 < l.length := by omega
      obtain ⟨g, rfl, _, _⟩ := owns_form h2 (by omega)
      have f0 := owns_cell h2 (icell_at hml)
      by_cases hc : l[(a + b) / 2] < x
      · have HI2 : Hid ((∀ k, k < (a + b) / 2 + 1 → (hk : k < l.length) → l[k] < x) ∧ (∀ k, b ≤ k → (hk : k < l.length) → x ≤ l[k])) := by
          refine ⟨fun k hk hkl => ?_, HI.out.2⟩
          by_cases he : k = (a + b) / 2
          · subst he; exact hc
          · have := List.pairwise_iff_getElem.1 hsrt.out k ((a + b) / 2) hkl hml (by omega)
            omega
        have hd : decide ((l[(a + b) / 2] : Int) < (x : Int)) = true := by simp; omega
        clear hc
        go_wp2_with fail
        refine (lessR _ _ _).mono ?_
        rintro e w1 ⟨rfl, hw1⟩
        rw [hd]
        have HW1 : Hid (w1 = w) := hw1.trans HW.out
        clear hw1
        go_wp2_with fail
        go_roundw
        case rel => exact ⟨(a + b) / 2 + 1, b, by omega, by omega, by go_num, rfl, HW1, HI2⟩
        case measure => simp [intOf]; omega
      · have HI2 : Hid ((∀ k, k < a → (hk : k < l.length) → l[k] < x) ∧ (∀ k, (a + b) / 2 ≤ k → (hk : k < l.length) → x ≤ l[k])) := by
          refine ⟨HI.out.1, fun k hk hkl => ?_⟩
          by_cases he : k = (a + b) / 2
          · subst he; omega
          · have := List.pairwise_iff_getElem.1 hsrt.out ((a + b) / 2) k hml hkl (by omega)
            omega
        have hd : decide ((l[(a + b) / 2] : Int) < (x : Int)) = false := by simp; omega
        clear hc
        go_wp2_with fail
        refine (lessR _ _ _).mono ?_
        rintro e w1 ⟨rfl, hw1⟩
        rw [hd]
        have HW1 : Hid (w1 = w) := hw1.trans HW.out
        clear hw1
        go_wp2_with fail
        go_roundw
        case rel => exact ⟨a, (a + b) / 2, by omega, by omega, rfl, by go_num, HW1, HI2⟩
        case measure => simp [intOf]; omega
    · have hae : a = b := by omega
      subst hae
      by_cases hal : a < l.length
      · obtain ⟨g, rfl, _, _⟩ := owns_form h2 (by omega)
        have f0 := owns_cell h2 (icell_at hal)
        by_cases hx : l[a] = x
        · have hx' : ((l[a] : Int) == (x : Int)) = true := by simp; omega
          have HF : Hid (foundAt l x a = true) := by show _ = _; simp [foundAt, hal, hx]
          clear hx
          go_wp2_with fail
          go_ret2
          exact ⟨HW.out, a, hbl, HI.out, by rw [HF.out]; rfl⟩
        · have hx' : ((l[a] : Int) == (x : Int)) = false := by simp; omega
          have HF : Hid (foundAt l x a = false) := by show _ = _; simp [foundAt, hal, hx]
          clear hx
          go_wp2_with fail
          refine (nanR _ _).mono ?_
          rintro e w1 ⟨rfl, hw1⟩
          have HW1 : Hid (w1 = w) := hw1.trans HW.out
          clear hw1
          go_wp2_with fail
          go_ret2
          exact ⟨HW1.out, a, hbl, HI.out, by rw [HF.out]; rfl⟩
      · have HF : Hid (foundAt l x a = false) := by show _ = _; simp [foundAt, List.getElem?_eq_none (show l.length ≤ a by omega)]
        go_wp2_with fail
        go_ret2
        exact ⟨HW.out, a, hbl, HI.out, by rw [HF.out]; rfl⟩
end Go.Proofs.Ytjimoigbdcalpaa
