import Derived.Test.YtjimoigbdcalpaaUa
namespace Go.Proofs.Ytjimoigbdcalpaa
open Go.RowKit

/-- What the sign at a place says of the bytes there. -/
structure SignAt (s : ByteArray) (i : Nat) (x : Int) : Prop where
  ascii : ∀ c : Nat, c < 128 → (x = (c : Int) ↔ i < s.size ∧ byt s i = c)
  cross : x = 215 ↔ i + 1 < s.size ∧ byt s i = 195 ∧ byt s (i + 1) = 151
  fin : x = -1 ↔ i = s.size
  wide : -1 ≤ x ∧ x < 2000000
theorem sign_of {b g : Nat} {s : ByteArray} {i : Nat} {w : World} (hp : RS w b g s i) :
    Calls Try.prog 29 #[.pointer (some ⟨b,0,none⟩)] w fun e w' => ∃ x, e = .returned (.int .i32 x) ∧ SignAt s i x ∧ RS w' b g s i ∧ Fr b w w' := by
  have hp0 := hp
  obtain ⟨ms, k, cap, hm, ⟨hk, rfl⟩, hr⟩ := hp
  refine (sign_any b s ms k g cap w hr hk).mono ?_
  rintro e w1 ⟨n, rfl, rfl⟩
  exact ⟨_, rfl, ⟨hm.ascii k hk, hm.cross k hk, hm.fin k hk, hm.wide k hk⟩, hp0.drewN n, (Fr.refl _ _).drewN _⟩
theorem at_of {b g : Nat} {s : ByteArray} {i : Nat} {w : World} (hp : RS w b g s i) :
    Calls Try.prog 44 #[.pointer (some ⟨b,0,none⟩)] w fun e w' => e = .returned (.int .i64 i) ∧ RS w' b g s i ∧ Fr b w w' := by
  have hp0 := hp
  obtain ⟨ms, k, cap, hm, ⟨hk, rfl⟩, hr⟩ := hp
  refine (at_any b s ms k g cap w hr hk).mono ?_
  rintro e w1 ⟨n, rfl, rfl⟩
  exact ⟨rfl, hp0.drewN n, (Fr.refl _ _).drewN _⟩
theorem SignAt.on {s i x} (h : SignAt s i x) {c : Nat} (hc : c < 128) : (x == (c : Int)) = onF s i (-1) c := by
  rw [Bool.eq_iff_iff, beq_iff_eq, h.ascii c hc, onF1]
theorem SignAt.dig {s i x} (h : SignAt s i x) : (decide (48 ≤ x) && decide (x ≤ 57)) = digF s i (-1) := by
  rw [Bool.eq_iff_iff]
  simp only [Bool.and_eq_true, decide_eq_true_eq, digF]
  constructor
  · rintro ⟨h1, h2⟩
    obtain ⟨c, rfl⟩ := Int.eq_ofNat_of_zero_le (show 0 ≤ x by omega)
    have := (h.ascii c (by omega)).1 rfl
    exact ⟨by omega, this.1, by omega, by omega⟩
  · rintro ⟨_, h1, h2, h3⟩
    have := (h.ascii (byt s i) (by omega)).2 ⟨h1, rfl⟩
    omega
theorem SignAt.val {s i x} (h : SignAt s i x) (hd : digF s i (-1) = true) : x = byt s i := by
  have := digF_elim hd
  exact (h.ascii (byt s i) (by omega)).2 ⟨this.2.1, rfl⟩

set_option maxHeartbeats 400000 in
theorem isDigit_any (x : Int) (w : World) :
    Calls Try.prog 69 #[.int .i32 x] w fun e w' => e = .returned (.bool (decide (48 ≤ x) && decide (x ≤ 57))) ∧ w' = w := by
  by_cases h : 48 ≤ x
  · go_enter Try.func69, Try.ntmps69
    go_wp2
    go_ret
    exact ⟨by simp [h], rfl⟩
  · go_enter Try.func69, Try.ntmps69
    go_wp2
    go_ret
    exact ⟨by simp; omega, rfl⟩
theorem isDigit_is {s i x} (h : SignAt s i x) {v : Bool} (hd : digF s i (-1) = v) (w : World) :
    Calls Try.prog 69 #[.int .i32 x] w fun e w' => e = .returned (.bool v) ∧ w' = w := by
  refine (isDigit_any x w).mono ?_
  rintro e w' ⟨rfl, rfl⟩
  exact ⟨by rw [h.dig, hd], rfl⟩

set_option maxHeartbeats 400000 in
theorem num_no {b g : Nat} {s : ByteArray} {i : Nat} {w : World} (hp : RS w b g s i) (hd : digF s i (-1) = false) :
    Calls Try.prog 56 #[.pointer (some ⟨b,0,none⟩)] w fun e w' => e = .panicked (brk i) ∧ Fr b w w' := by
  have HD := stop hd
  clear hd
  go_enter Try.func56, Try.ntmps56
  go_wp2_with fail
  refine (sign_of hp).mono ?_
  rintro e w1 ⟨x, rfl, hx, hp1, f1⟩
  have HX := stop hx
  clear hx
  go_wp2_with fail
  refine (isDigit_is HX.out HD.out _).mono ?_
  rintro e w2 ⟨rfl, rfl⟩
  go_wp2_with fail
  refine (brk_at hp1).mono ?_
  rintro e w3 ⟨rfl, f3⟩
  go_wp2_with fail
  exact ⟨rfl, rfl, f1.trans f3⟩

set_option maxRecDepth 100000 in
set_option maxHeartbeats 1000000 in
theorem num_yes {b g : Nat} {s : ByteArray} {i : Nat} {w : World} (hp : RS w b g s i) (hs : s.size ≤ 200000) (hd : digF s i (-1) = true) :
    Calls Try.prog 56 #[.pointer (some ⟨b,0,none⟩)] w fun e w' => e = .returned (.int .i64 (numN s i (-1))) ∧ RS w' b g s (numI s i (-1)) ∧ Fr b w w' := by
  have HN : Hid (numN s i (-1) = (numGo s (-1) i 4 i 0).1) := by simp [Hid, numN, hd]
  have HI : Hid (numI s i (-1) = (numGo s (-1) i 4 i 0).2) := by simp [Hid, numI, hd]
  have HD := stop hd
  go_enter Try.func56, Try.ntmps56
  go_wp2_with fail
  refine (sign_of hp).mono ?_
  rintro e w1 ⟨x, rfl, hx, hp1, f1⟩
  have HX := stop hx
  clear hx
  go_wp2_with fail
  refine (isDigit_is HX.out HD.out _).mono ?_
  rintro e w2 ⟨rfl, rfl⟩
  go_wp2_with fail
  cases h48 : onF s i (-1) 48 with
  | true =>
    have h0 : numGo s (-1) i 4 i 0 = (0, i + 1) := by
      have hb := (onF1.1 h48).2
      rw [numGo, hd]
      have : (true && (i == i || byt s i != 48)) = true := by simp
      rw [this, if_pos rfl, numGo_stop]
      · simp [hb]
      · simp [hb]
    have HN' : Hid (numN s i (-1) = 0) := by rw [HN.out, h0]; rfl
    have HI' : Hid (numI s i (-1) = i + 1) := by rw [HI.out, h0]; rfl
    clear h0 HN HI hd
    refine (skip_yes hp1 hs (by decide) h48).mono ?_
    rintro e w3 ⟨rfl, hp3, f3⟩
    clear h48
    go_wp2_with fail
    go_ret
    exact ⟨by rw [HN'.out]; rfl, by rw [HI'.out]; exact hp3, f1.trans f3⟩
  | false =>
    have hne : byt s i ≠ 48 := fun e => by
      have := onF1.2 ⟨(digF_elim hd).2.1, e⟩
      rw [h48] at this; cases this
    have HNE := stop hne
    refine (skip_no hp1 (by decide) h48).mono ?_
    rintro e w3 ⟨rfl, hp3, f3⟩
    have F := f1.trans f3
    clear h48 hne f1 f3 hp1
    go_wp2_with fail
    go_loopw [3, 4] (fun n c wr => ∃ j m : Nat, i ≤ j ∧ j ≤ i + 4 ∧ n = .int .i64 m ∧ c = .int .i64 ((j : Int) - i) ∧ Hid (m < 10 ^ (j - i)) ∧ Hid (numGo s (-1) i (i + 4 - j) j m = numGo s (-1) i 4 i 0) ∧ RS wr b g s j ∧ Hid (Fr b w wr)) (fun _ c _ => 4 - (intOf c).toNat)
    case atStart => exact ⟨i, 0, by omega, by omega, rfl, by go_num, by simp [Hid], by rw [show i + 4 - i = 4 from by omega]; rfl, hp3, F⟩
    case round =>
      obtain ⟨j, m, hij, hj4, rfl, rfl, HM, HG, hp4, F4⟩ := hrel
      clear hp hp3 F
      have hmb : (m : Int) < 10000 := by
        have : 10 ^ (j - i) ≤ 10 ^ 4 := Nat.pow_le_pow_right (by omega) (by omega)
        have := HM.out
        omega
      by_cases hlt : j < i + 4
      · cases hdj : digF s j (-1) with
        | true =>
          have HJ := stop hdj
          have hv := digF_elim hdj
          have HS := stop ((numGo_step (m := m) hlt hij (by rw [hdj]; simp [HNE.out])).symm.trans HG.out)
          have HP := stop (pow_bound hij HM.out _ hv.2.2.2)
          clear hdj hd
          go_wp2_with fail
          refine (sign_of hp4).mono ?_
          rintro e w5 ⟨x5, rfl, hx5, hp5, f5⟩
          have HX5 := stop hx5
          clear hx5
          go_wp2_with fail
          refine (isDigit_is HX5.out HJ.out _).mono ?_
          rintro e w6 ⟨rfl, rfl⟩
          go_wp2_with fail
          refine (sign_of hp5).mono ?_
          rintro e w7 ⟨x7, rfl, hx7, hp7, f7⟩
          have e7 := hx7.val HJ.out
          have hb1 := hv.2.2.1
          have hb2 := hv.2.2.2
          clear hx7 hv
          subst e7
          have h7a : (48 : Int) ≤ (byt s j : Int) := by omega
          have h7b : (byt s j : Int) ≤ 57 := by omega
          obtain ⟨ms, k, cap, hm, ⟨hk, hkj⟩, hr⟩ := hp7
          have HKJ := stop hkj
          have hml := hm.len
          have c2 := hr.c2
          have z2 := hr.fz 2
          clear hkj
          go_wp2_with fail
          have hnx := hm.next k hk (by have := (hm.ascii k hk (byt s j) (by omega)).2 (by rw [HKJ.out]; exact ⟨(digF_elim HJ.out).2.1, rfl⟩); omega) (by have := (hm.ascii k hk (byt s j) (by omega)).2 (by rw [HKJ.out]; exact ⟨(digF_elim HJ.out).2.1, rfl⟩); omega)
          obtain ⟨hk2, e2⟩ := hnx
          go_roundw
          case rel =>
            refine ⟨j + 1, 10 * m + (byt s j - 48), by omega, by omega, by go_num, by go_num, HP, HS, ⟨ms, k + 1, cap, hm, ⟨hk2, by rw [e2, HKJ.out]⟩, hr.set (by omega)⟩, ?_⟩
            exact (((F4.out.trans f5).trans f7).setCell _ _)
          case measure => simp [intOf]; omega
        | false =>
          have HJ := stop hdj
          have h0 := HG.out
          rw [numGo_stop _ (by rw [hdj]; rfl)] at h0
          have HN' : Hid (numN s i (-1) = m) := by rw [HN.out, ← h0]; rfl
          have HI' : Hid (numI s i (-1) = j) := by rw [HI.out, ← h0]; rfl
          clear hdj hd h0 HN HI HG
          go_wp2_with fail
          refine (sign_of hp4).mono ?_
          rintro e w5 ⟨x5, rfl, hx5, hp5, f5⟩
          have HX5 := stop hx5
          clear hx5
          go_wp2_with fail
          refine (isDigit_is HX5.out HJ.out _).mono ?_
          rintro e w6 ⟨rfl, rfl⟩
          go_wp2_with fail
          go_ret
          exact ⟨by rw [HN'.out]; rfl, by rw [HI'.out]; exact hp5, F4.out.trans f5⟩
      · have h0 := HG.out
        rw [show i + 4 - j = 0 from by omega] at h0
        have HN' : Hid (numN s i (-1) = m) := by rw [HN.out, ← h0]; rfl
        have HI' : Hid (numI s i (-1) = j) := by rw [HI.out, ← h0]; rfl
        clear hd h0 HN HI HG
        go_wp2_with fail
        go_ret
        exact ⟨by rw [HN'.out]; rfl, by rw [HI'.out]; exact hp4, F4.out⟩
end Go.Proofs.Ytjimoigbdcalpaa
