import Derived.Test.YtjimoigbdcalpaaBase
namespace Go.Proofs.Ytjimoigbdcalpaa
open Go.RowKit

def failB (i : Nat) (bad : Int) : Int := if bad < 0 then i else bad
def gotI (s : ByteArray) (i : Nat) (bad : Int) (c : Nat) : Nat := if onF s i bad c then i + 1 else i
def mustB (s : ByteArray) (i : Nat) (bad : Int) (c : Nat) : Int := if onF s i bad c then bad else failB i bad
def digF (s : ByteArray) (i : Nat) (bad : Int) : Bool := decide (bad < 0) && (decide (i < s.size) && (decide (48 ≤ byt s i) && decide (byt s i ≤ 57)))
set_option maxHeartbeats 400000 in
theorem on_any (b : Nat) (s : ByteArray) (i c : Nat) (bad : Int) (w : World) (hp : PenAt w b s i bad) :
    Calls Try.prog 39 #[.pointer (some ⟨b,0,none⟩), .int .u8 c] w fun e w' => ∃ n, e = .returned (.bool (onF s i bad c)) ∧ w' = w.drewN n := by
  have h0 := hp.c0
  have h1 := hp.c1
  have h2 := hp.c2
  clear hp
  by_cases hb : bad < 0
  · by_cases hl : i < s.size
    · have e1 : decide ((i:Int) < (s.size : Int)) = true := by simp; omega
      have e2 : onF s i bad c = ((s[i].toNat : Int) == (c : Int)) := by
        simp [onF, hb, hl, byt]; rw [Bool.eq_iff_iff]; simp; omega
      rw [e2]; clear e2
      go_enter Try.func39, Try.ntmps39
      go_wp2
      go_quiet (fail)
      go_wp2
      go_ret
      exact ⟨_, rfl, rfl⟩
    · have e1 : decide ((i:Int) < (s.size : Int)) = false := by simp; omega
      have e2 : onF s i bad c = false := by simp [onF, hl]
      rw [e2]; clear e2
      go_enter Try.func39, Try.ntmps39
      go_wp2
      go_quiet (fail)
      go_wp2
      go_ret
      exact ⟨_, rfl, rfl⟩
  · have e1 : decide (bad < 0) = false := by simpa using hb
    have e2 : onF s i bad c = false := by simp [onF, hb]
    rw [e2]; clear e2
    go_enter Try.func39, Try.ntmps39
    go_wp2
    go_quiet (fail)
    go_wp2
    go_ret
    exact ⟨_, rfl, rfl⟩

set_option maxHeartbeats 400000 in
theorem fail_any (b : Nat) (s : ByteArray) (i : Nat) (bad : Int) (w : World) (hp : PenAt w b s i bad) :
    Calls Try.prog 24 #[.pointer (some ⟨b,0,none⟩)] w fun e w' => e = .returned (.tuple #[]) ∧ PenAt w' b s i (failB i bad) ∧ Fr b w w' := by
  have h0 := hp.c0
  have h1 := hp.c1
  have h2 := hp.c2
  have h3 := hp.fz 2
  by_cases hb : bad < 0
  · go_enter Try.func24, Try.ntmps24
    go_wp2
    go_end0
    exact ⟨rfl, by rw [failB, if_pos hb]; exact hp.set2 _, (Fr.refl _ _).setCell _ _⟩
  · go_enter Try.func24, Try.ntmps24
    go_wp2
    go_end0
    exact ⟨rfl, by rw [failB, if_neg (by omega)]; exact hp, (Fr.refl _ _)⟩

set_option maxHeartbeats 400000 in
theorem got_any (b : Nat) (s : ByteArray) (i c : Nat) (bad : Int) (w : World) (hp : PenAt w b s i bad) (hs : s.size ≤ 200000) (hi : i ≤ s.size) :
    Calls Try.prog 23 #[.pointer (some ⟨b,0,none⟩), .int .u8 c] w fun e w' => e = .returned (.bool (onF s i bad c)) ∧ PenAt w' b s (gotI s i bad c) bad ∧ Fr b w w' := by
  have h0 := hp.c0
  have h1 := hp.c1
  have h2 := hp.c2
  have h3 := hp.fz 1
  by_cases ho : onF s i bad c = true
  · go_enter Try.func23, Try.ntmps23
    go_wp2_with (go_at_call 39; refine (on_any b s i c bad _ hp).mono ?_; rintro e w' ⟨n, rfl, rfl⟩; rw [ho])
    go_ret
    exact ⟨by simp [ho], by rw [gotI, if_pos ho]; exact (hp.drewN _).set1 (i + 1), ((Fr.refl _ _).drewN _).setCell _ _⟩
  · have ho' : onF s i bad c = false := by simpa using ho
    go_enter Try.func23, Try.ntmps23
    go_wp2_with (go_at_call 39; refine (on_any b s i c bad _ hp).mono ?_; rintro e w' ⟨n, rfl, rfl⟩; rw [ho'])
    go_ret
    exact ⟨by simp [ho'], by rw [gotI, if_neg ho]; exact hp.drewN _, (Fr.refl _ _).drewN _⟩

set_option maxHeartbeats 400000 in
theorem must_any (b : Nat) (s : ByteArray) (i c : Nat) (bad : Int) (w : World) (hp : PenAt w b s i bad) (hs : s.size ≤ 200000) (hi : i ≤ s.size) :
    Calls Try.prog 38 #[.pointer (some ⟨b,0,none⟩), .int .u8 c] w fun e w' => e = .returned (.tuple #[]) ∧ PenAt w' b s (gotI s i bad c) (mustB s i bad c) ∧ Fr b w w' := by
  by_cases ho : onF s i bad c = true
  · go_enter Try.func38, Try.ntmps38
    go_wp2_with fail
    refine (got_any b s i c bad _ hp hs hi).mono ?_
    rintro e w' ⟨rfl, hp1, f1⟩
    rw [ho]
    go_wp2
    go_end0
    exact ⟨rfl, by rw [mustB, if_pos ho]; exact hp1, f1⟩
  · have ho' : onF s i bad c = false := by simpa using ho
    have hg : gotI s i bad c = i := by rw [gotI, if_neg ho]
    have HG : Hid (gotI s i bad c = i) := hg
    clear hg
    go_enter Try.func38, Try.ntmps38
    go_wp2_with fail
    refine (got_any b s i c bad _ hp hs hi).mono ?_
    rintro e w' ⟨rfl, hp1, f1⟩
    rw [ho']
    rw [HG.out] at hp1
    go_wp2_with fail
    refine (fail_any b s i bad _ hp1).mono ?_
    rintro e w' ⟨rfl, hp2, f2⟩
    go_wp2
    go_end0
    exact ⟨rfl, by rw [mustB, if_neg ho, HG.out]; exact hp2, f1.trans f2⟩

set_option maxHeartbeats 400000 in
theorem digit_any (b : Nat) (s : ByteArray) (i : Nat) (bad : Int) (w : World) (hp : PenAt w b s i bad) :
    Calls Try.prog 68 #[.pointer (some ⟨b,0,none⟩)] w fun e w' => ∃ n, e = .returned (.bool (digF s i bad)) ∧ w' = w.drewN n := by
  have h0 := hp.c0
  have h1 := hp.c1
  have h2 := hp.c2
  clear hp
  by_cases hb : bad < 0
  · by_cases hl : i < s.size
    · have e1 : decide ((i:Int) < (s.size : Int)) = true := by simp; omega
      by_cases hd : 48 ≤ byt s i
      · have e3 : decide (48 ≤ (s[i].toNat : Int)) = true := by simp [byt, hl] at hd ⊢; omega
        have e2 : digF s i bad = decide ((s[i].toNat : Int) ≤ 57) := by
          simp [digF, hb, hl, hd]; simp [byt, hl]; omega
        rw [e2]; clear e2
        go_enter Try.func68, Try.ntmps68
        go_wp2
        go_quiet (fail)
        go_wp2
        go_ret
        exact ⟨_, rfl, rfl⟩
      · have e3 : decide (48 ≤ (s[i].toNat : Int)) = false := by simp [byt, hl] at hd ⊢; omega
        have e2 : digF s i bad = false := by simp [digF]; intros; omega
        rw [e2]; clear e2
        go_enter Try.func68, Try.ntmps68
        go_wp2
        go_quiet (fail)
        go_wp2
        go_ret
        exact ⟨_, rfl, rfl⟩
    · have e1 : decide ((i:Int) < (s.size : Int)) = false := by simp; omega
      have e2 : digF s i bad = false := by simp [digF, hl]
      rw [e2]; clear e2
      go_enter Try.func68, Try.ntmps68
      go_wp2
      go_quiet (fail)
      go_wp2
      go_ret
      exact ⟨_, rfl, rfl⟩
  · have e1 : decide (bad < 0) = false := by simpa using hb
    have e2 : digF s i bad = false := by simp [digF, hb]
    rw [e2]; clear e2
    go_enter Try.func68, Try.ntmps68
    go_wp2
    go_quiet (fail)
    go_wp2
    go_ret
    exact ⟨_, rfl, rfl⟩
end Go.Proofs.Ytjimoigbdcalpaa
