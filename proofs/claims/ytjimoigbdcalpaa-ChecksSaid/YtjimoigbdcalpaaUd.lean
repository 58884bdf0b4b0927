import Derived.Test.YtjimoigbdcalpaaUc
namespace Go.Proofs.Ytjimoigbdcalpaa
open Go.RowKit

theorem RS.drew {w b g s i} (h : RS w b g s i) : RS w.drew b g s i := by obtain ⟨ms, k, cap, a, c, h⟩ := h; exact ⟨ms, k, cap, a, c, ⟨h.B, h.M, h.N⟩⟩
def opNum (c : Nat) : Nat := if c = 43 then 0 else if c = 45 then 1 else if c = 42 then 2 else 3
def opX (x : Int) : Option Nat := if x = 43 then some 0 else if x = 45 then some 1 else if x = 42 then some 2 else if x = 215 then some 2 else if x = 60 then some 3 else none
def opXv (x : Int) : Value := .tuple #[.int .i64 ((opX x).getD 0 : Nat), .bool (opX x).isSome]

set_option maxHeartbeats 400000 in
theorem opOf_any (x : Int) (w : World) : Calls Try.prog 78 #[.int .i32 x] w fun e w' => e = .returned (opXv x) ∧ w' = w := by
  by_cases h1 : x = 43
  · have H : Hid (opXv x = .tuple #[.int .i64 0, .bool true]) := by simp [Hid, opXv, opX, h1]
    have t : (x == 43) = true := by simp [h1]
    clear h1
    go_enter Try.func78, Try.ntmps78
    go_wp2
    go_ret2
    exact ⟨by rw [H.out]; rfl, rfl⟩
  by_cases h2 : x = 45
  · have H : Hid (opXv x = .tuple #[.int .i64 1, .bool true]) := by simp [Hid, opXv, opX, h2]
    have t1 : (x == 43) = false := by simp [h1]
    have t2 : (x == 45) = true := by simp [h2]
    clear h1 h2
    go_enter Try.func78, Try.ntmps78
    go_wp2
    go_ret2
    exact ⟨by rw [H.out]; rfl, rfl⟩
  by_cases h3 : x = 42
  · have H : Hid (opXv x = .tuple #[.int .i64 2, .bool true]) := by simp [Hid, opXv, opX, h3]
    have t1 : (x == 43) = false := by simp [h1]
    have t2 : (x == 45) = false := by simp [h2]
    have t3 : (x == 42) = true := by simp [h3]
    clear h1 h2 h3
    go_enter Try.func78, Try.ntmps78
    go_wp2
    go_ret2
    exact ⟨by rw [H.out]; rfl, rfl⟩
  by_cases h4 : x = 215
  · have H : Hid (opXv x = .tuple #[.int .i64 2, .bool true]) := by simp [Hid, opXv, opX, h4]
    have t1 : (x == 43) = false := by simp [h1]
    have t2 : (x == 45) = false := by simp [h2]
    have t3 : (x == 42) = false := by simp [h3]
    have t4 : (x == 215) = true := by simp [h4]
    clear h1 h2 h3 h4
    go_enter Try.func78, Try.ntmps78
    go_wp2
    go_ret2
    exact ⟨by rw [H.out]; rfl, rfl⟩
  have t1 : (x == 43) = false := by simp [h1]
  have t2 : (x == 45) = false := by simp [h2]
  have t3 : (x == 42) = false := by simp [h3]
  have t4 : (x == 215) = false := by simp [h4]
  by_cases h5 : x = 60
  · have H : Hid (opXv x = .tuple #[.int .i64 3, .bool true]) := by simp [Hid, opXv, opX, h5]
    have t5 : (x == 60) = true := by simp [h5]
    clear h1 h2 h3 h4 h5
    go_enter Try.func78, Try.ntmps78
    go_wp2
    go_ret2
    exact ⟨by rw [H.out]; rfl, rfl⟩
  · have H : Hid (opXv x = .tuple #[.int .i64 0, .bool false]) := by simp [Hid, opXv, opX, h1, h2, h3, h4, h5]
    have t5 : (x == 60) = false := by simp [h5]
    clear h1 h2 h3 h4 h5
    go_enter Try.func78, Try.ntmps78
    go_wp2
    go_ret2
    exact ⟨by rw [H.out]; rfl, rfl⟩

theorem crossOn {s i} : (i + 1 < s.size ∧ byt s i = 195 ∧ byt s (i + 1) = 151) ↔ onF s i (-1) 195 = true ∧ onF s (i + 1) (-1) 151 = true := by
  rw [onF1, onF1]; constructor
  · rintro ⟨a, b, c⟩; exact ⟨⟨by omega, b⟩, a, c⟩
  · rintro ⟨⟨_, b⟩, a, c⟩; exact ⟨a, b, c⟩
theorem on_uniq {s i c d} (h : onF s i (-1) c = true) (hd : c ≠ d) : onF s i (-1) d = false := by
  rw [← Bool.not_eq_true, onF1]; rintro ⟨_, e⟩; exact hd ((onF1.1 h).2.symm.trans e)
/-- What the operator's sign says, against the bytes. -/
theorem SignAt.op {s i x} (h : SignAt s i x) : opX x = if opC s i (-1) ≠ 0 ∧ opB s i (-1) < 0 then some (opNum (opC s i (-1))) else none := by
  have a43 : x = 43 ↔ onF s i (-1) 43 = true := (h.ascii 43 (by decide)).trans (onF1 (c := 43)).symm
  have a45 : x = 45 ↔ onF s i (-1) 45 = true := (h.ascii 45 (by decide)).trans (onF1 (c := 45)).symm
  have a42 : x = 42 ↔ onF s i (-1) 42 = true := (h.ascii 42 (by decide)).trans (onF1 (c := 42)).symm
  have a60 : x = 60 ↔ onF s i (-1) 60 = true := (h.ascii 60 (by decide)).trans (onF1 (c := 60)).symm
  have a215 := h.cross.trans crossOn
  unfold opX opC opB
  cases h1 : onF s i (-1) 43 with
  | true => rw [if_pos (a43.2 h1)]; simp [opNum]
  | false =>
    rw [if_neg (fun e => by rw [a43.1 e] at h1; cases h1)]
    cases h2 : onF s i (-1) 45 with
    | true => rw [if_pos (a45.2 h2)]; simp [opNum]
    | false =>
      rw [if_neg (fun e => by rw [a45.1 e] at h2; cases h2)]
      cases h3 : onF s i (-1) 42 with
      | true => rw [if_pos (a42.2 h3)]; simp [opNum]
      | false =>
        rw [if_neg (fun e => by rw [a42.1 e] at h3; cases h3)]
        cases h4 : onF s i (-1) 60 with
        | true =>
          rw [if_neg (fun e => by have := (a215.1 e).1; rw [on_uniq h4 (by decide)] at this; cases this), if_pos (a60.2 h4)]; simp [opNum]
        | false =>
          cases h5 : onF s i (-1) 195 with
          | true =>
            rw [mustB1]
            cases h6 : onF s (i + 1) (-1) 151 with
            | true => rw [if_pos (a215.2 ⟨h5, h6⟩)]; simp [opNum]
            | false =>
              rw [if_neg (fun e => by have := (a215.1 e).2; rw [h6] at this; cases this), if_neg (fun e => by rw [a60.1 e] at h4; cases h4)]
              simp; omega
          | false =>
            rw [if_neg (fun e => by have := (a215.1 e).1; rw [h5] at this; cases this), if_neg (fun e => by rw [a60.1 e] at h4; cases h4)]
            simp
/-- The next mark behind an operator. -/
theorem op_next {s ms} (hm : Marks s ms) {k : Nat} (hk : k < ms.length) (h : (opX ms[k].2).isSome = true) : ∃ h2 : k + 1 < ms.length, ms[k + 1].1 = opI s ms[k].1 (-1) := by
  have hx : SignAt s ms[k].1 ms[k].2 := ⟨hm.ascii k hk, hm.cross k hk, hm.fin k hk, hm.wide k hk⟩
  have asc : ∀ c : Nat, c < 128 → ms[k].2 = (c : Int) → ∃ h2 : k + 1 < ms.length, ms[k + 1].1 = ms[k].1 + 1 := fun c hc e => hm.next k hk (by omega) (by omega)
  unfold opX at h
  unfold opI
  by_cases h1 : ms[k].2 = 43
  · rw [if_pos (onF1.2 ((hx.ascii 43 (by decide)).1 h1))]; exact asc 43 (by decide) h1
  rw [if_neg (fun e => h1 ((hx.ascii 43 (by decide)).2 (onF1.1 e)))]
  by_cases h2 : ms[k].2 = 45
  · rw [if_pos (onF1.2 ((hx.ascii 45 (by decide)).1 h2))]; exact asc 45 (by decide) h2
  rw [if_neg (fun e => h2 ((hx.ascii 45 (by decide)).2 (onF1.1 e)))]
  by_cases h3 : ms[k].2 = 42
  · rw [if_pos (onF1.2 ((hx.ascii 42 (by decide)).1 h3))]; exact asc 42 (by decide) h3
  rw [if_neg (fun e => h3 ((hx.ascii 42 (by decide)).2 (onF1.1 e)))]
  by_cases h5 : ms[k].2 = 60
  · rw [if_pos (onF1.2 ((hx.ascii 60 (by decide)).1 h5))]; exact asc 60 (by decide) h5
  rw [if_neg (fun e => h5 ((hx.ascii 60 (by decide)).2 (onF1.1 e)))]
  by_cases h4 : ms[k].2 = 215
  · have h6 := crossOn.1 (hx.cross.1 h4)
    rw [if_pos h6.1, gotI, if_pos h6.2]
    obtain ⟨a, b⟩ := hm.nextCross k hk h4
    exact ⟨a, by rw [b]⟩
  · simp [h1, h2, h3, h4, h5] at h

set_option maxHeartbeats 400000 in
theorem op_yes {b g : Nat} {s : ByteArray} {i : Nat} {w : World} (hp : RS w b g s i) (hs : s.size ≤ 200000) (h1 : opC s i (-1) ≠ 0) (h2 : opB s i (-1) < 0) :
    Calls Try.prog 75 #[.pointer (some ⟨b,0,none⟩)] w fun e w' => e = .returned (.int .i64 (opNum (opC s i (-1)))) ∧ RS w' b g s (opI s i (-1)) ∧ Fr b w w' := by
  obtain ⟨ms, k, cap, hm, ⟨hk, rfl⟩, hr⟩ := hp
  have hx : SignAt s ms[k].1 ms[k].2 := ⟨hm.ascii k hk, hm.cross k hk, hm.fin k hk, hm.wide k hk⟩
  have ho := hx.op
  rw [if_pos ⟨h1, h2⟩] at ho
  obtain ⟨hk2, e2⟩ := op_next hm hk (by rw [ho]; rfl)
  have E2 := stop e2
  have HV : Hid (opXv ms[k].2 = .tuple #[.int .i64 (opNum (opC s ms[k].1 (-1))), .bool true]) := by show _ = _; rw [opXv, ho]; rfl
  have hl := hm.len
  have c2 := hr.c2
  have z2 := hr.fz 2
  clear h1 h2 ho e2 hx
  go_enter Try.func75, Try.ntmps75
  go_wp2_with fail
  refine (sign_any b s ms k g cap _ hr hk).mono ?_
  rintro e w1 ⟨n, rfl, rfl⟩
  go_wp2_with fail
  refine (opOf_any _ _).mono ?_
  rintro e w1 ⟨rfl, rfl⟩
  rw [HV.out]
  go_wp2_with fail
  go_ret
  exact ⟨rfl, ⟨ms, k + 1, cap, hm, ⟨hk2, E2.out⟩, (hr.drewN n).set (by omega)⟩, ((Fr.refl _ _).drewN _).setCell _ _⟩

/-- Where a text without an operator breaks off. -/
def brkOp (s : ByteArray) (i : Nat) : Int := if onF s i (-1) 195 then ((i + 1 : Nat) : Int) else (i : Int)
set_option maxHeartbeats 400000 in
theorem breakOffOp_any {b g : Nat} {s : ByteArray} {i : Nat} {w : World} (hp : RS w b g s i) (hs : s.size ≤ 200000) :
    Calls Try.prog 79 #[.pointer (some ⟨b,0,none⟩)] w fun e w' => e = .panicked (brk (brkOp s i)) ∧ Fr b w w' := by
  have hle := hp.le
  rw [brkOp]
  cases ho : onF s i (-1) 195 with
  | true =>
    rw [if_pos rfl]
    have h1 := onF1.1 ho
    have hlt := h1.1
    have h3 : ((s[i].toNat : Int) == 195) = true := by have := h1.2; rw [byt_get hlt] at this; simp; omega
    clear ho h1
    go_enter Try.func79, Try.ntmps79
    go_wp2_with fail
    refine (at_of hp).mono ?_
    rintro e w1 ⟨rfl, hp1, f1⟩
    obtain ⟨ms, k, cap, hm, hkk, hr⟩ := hp1
    have c0 := hr.c0
    clear hm hkk
    go_wp2_with fail
    exact ⟨rfl, rfl, f1⟩
  | false =>
    rw [if_neg (by simp)]
    by_cases hlt : i < s.size
    · have h3 : ((s[i].toNat : Int) == 195) = false := by
        have : byt s i ≠ 195 := fun e => by rw [onF1.2 ⟨hlt, e⟩] at ho; cases ho
        rw [byt_get hlt] at this; simp; omega
      clear ho
      go_enter Try.func79, Try.ntmps79
      go_wp2_with fail
      refine (at_of hp).mono ?_
      rintro e w1 ⟨rfl, hp1, f1⟩
      have hp2 := stop hp1
      obtain ⟨ms, k, cap, hm, hkk, hr⟩ := hp1
      have c0 := hr.c0
      clear hm hkk hr
      go_wp2_with fail
      refine (brk_at hp2.out).mono ?_
      rintro e w2 ⟨rfl, f2⟩
      go_wp2_with fail
      exact ⟨rfl, rfl, f1.trans f2⟩
    · clear ho
      go_enter Try.func79, Try.ntmps79
      go_wp2_with fail
      refine (at_of hp).mono ?_
      rintro e w1 ⟨rfl, hp1, f1⟩
      have hp2 := stop hp1
      obtain ⟨ms, k, cap, hm, hkk, hr⟩ := hp1
      have c0 := hr.c0
      clear hm hkk hr
      go_wp2_with fail
      refine (brk_at hp2.out).mono ?_
      rintro e w2 ⟨rfl, f2⟩
      go_wp2_with fail
      exact ⟨rfl, rfl, f1.trans f2⟩

set_option maxHeartbeats 400000 in
theorem op_no {b g : Nat} {s : ByteArray} {i : Nat} {w : World} (hp : RS w b g s i) (hs : s.size ≤ 200000) (h1 : ¬ (opC s i (-1) ≠ 0 ∧ opB s i (-1) < 0)) :
    Calls Try.prog 75 #[.pointer (some ⟨b,0,none⟩)] w fun e w' => e = .panicked (brk (brkOp s i)) ∧ Fr b w w' := by
  have H1 := stop h1
  clear h1
  go_enter Try.func75, Try.ntmps75
  go_wp2_with fail
  refine (sign_of hp).mono ?_
  rintro e w1 ⟨x, rfl, hx, hp1, f1⟩
  have ho := hx.op
  rw [if_neg H1.out] at ho
  have HV : Hid (opXv x = .tuple #[.int .i64 0, .bool false]) := by show _ = _; rw [opXv, ho]; rfl
  clear hx ho H1
  go_wp2_with fail
  refine (opOf_any _ _).mono ?_
  rintro e w1 ⟨rfl, rfl⟩
  rw [HV.out]
  go_wp2_with fail
  refine (breakOffOp_any hp1 hs).mono ?_
  rintro e w2 ⟨rfl, f2⟩
  go_wp2_with fail
  exact ⟨rfl, rfl, f1.trans f2⟩
end Go.Proofs.Ytjimoigbdcalpaa
