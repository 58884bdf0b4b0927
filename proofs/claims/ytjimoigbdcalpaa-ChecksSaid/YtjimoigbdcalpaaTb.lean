import Derived.Test.YtjimoigbdcalpaaTa
namespace Go.Proofs.Ytjimoigbdcalpaa
open Go.RowKit

def numGo (s : ByteArray) (bad : Int) (fm : Nat) : Nat → Nat → Nat → Nat × Nat
  | 0, i, n => (n, i)
  | k + 1, i, n => if digF s i bad && (i == fm || byt s fm != 48) then numGo s bad fm k (i + 1) (10 * n + (byt s i - 48)) else (n, i)
def numN (s : ByteArray) (i : Nat) (bad : Int) : Nat := if digF s i bad then (numGo s bad i 4 i 0).1 else 0
def numI (s : ByteArray) (i : Nat) (bad : Int) : Nat := if digF s i bad then (numGo s bad i 4 i 0).2 else i
def numB (s : ByteArray) (i : Nat) (bad : Int) : Int := if digF s i bad then bad else failB i bad
theorem digF_elim {s i bad} (h : digF s i bad = true) : bad < 0 ∧ i < s.size ∧ 48 ≤ byt s i ∧ byt s i ≤ 57 := by
  simpa [digF] using h
theorem byt_get {s : ByteArray} {i : Nat} (h : i < s.size) : byt s i = s[i].toNat := by simp [byt, h]

theorem numGo_stop {s bad fm i n} (k : Nat) (h : (digF s i bad && (i == fm || byt s fm != 48)) = false) : numGo s bad fm k i n = (n, i) := by
  cases k with
  | zero => rfl
  | succ k => rw [numGo, h]; rfl
theorem numGo_step {s bad fm j m} (hk : j < fm + 4) (hj : fm ≤ j) (h : (digF s j bad && (j == fm || byt s fm != 48)) = true) :
    numGo s bad fm (fm + 4 - j) j m = numGo s bad fm (fm + 4 - (j + 1)) (j + 1) (10 * m + (byt s j - 48)) := by
  obtain ⟨q, hq⟩ : ∃ q, fm + 4 - j = q + 1 := ⟨fm + 3 - j, by omega⟩
  rw [hq, numGo, h, show fm + 4 - (j + 1) = q from by omega]
  rfl
theorem pow_bound {i j m : Nat} (h1 : i ≤ j) (h : m < 10 ^ (j - i)) (c : Nat) (hc : c ≤ 57) : 10 * m + (c - 48) < 10 ^ (j + 1 - i) := by
  rw [show j + 1 - i = (j - i) + 1 from by omega, Nat.pow_succ]; omega
theorem PenAt.set1i {w b s i bad} (h : PenAt w b s i bad) {j : Nat} {v : Int} (hv : v = j) : PenAt (w.setCell ⟨b, 1, none⟩ (.int .i64 v)) b s j bad := by
  subst hv; exact h.set1 j
def penI (w : World) (b : Nat) : Nat := match w.cell? ⟨b, 1, none⟩ with | some (.int _ q) => q.toNat | _ => 0
theorem PenAt.penI {w b s i bad} (h : PenAt w b s i bad) : penI w b = i := by simp [Ytjimoigbdcalpaa.penI, h.c1]

set_option maxRecDepth 100000 in
set_option maxHeartbeats 1000000 in
theorem number_any (b : Nat) (s : ByteArray) (i : Nat) (bad : Int) (w : World) (hp : PenAt w b s i bad) (hs : s.size ≤ 200000) (hi : i ≤ s.size) :
    Calls Try.prog 54 #[.pointer (some ⟨b,0,none⟩)] w fun e w' => e = .returned (.int .i64 (numN s i bad)) ∧ PenAt w' b s (numI s i bad) (numB s i bad) ∧ Fr b w w' := by
  by_cases ho : digF s i bad = true
  · have HN : Hid (numN s i bad = (numGo s bad i 4 i 0).1) := by simp [Hid, numN, ho]
    have HI : Hid (numI s i bad = (numGo s bad i 4 i 0).2) := by simp [Hid, numI, ho]
    have HB : Hid (numB s i bad = bad) := by simp [Hid, numB, ho]
    go_enter Try.func54, Try.ntmps54
    go_wp2_with fail
    refine (digit_any b s i bad _ hp).mono ?_
    rintro e w' ⟨n, rfl, rfl⟩
    rw [ho]
    have h1 := hp.c1
    go_wp2_with fail
    go_loopw [3, 4] (fun d n wr => ∃ j m : Nat, i ≤ j ∧ j ≤ i + 4 ∧ m < 10 ^ (j - i) ∧ j ≤ s.size ∧ d = .bool (digF s j bad) ∧ n = .int .i64 m ∧ Hid (numGo s bad i (i + 4 - j) j m = numGo s bad i 4 i 0) ∧ PenAt wr b s j bad ∧ Fr b w wr) (fun _ _ wr => s.size - penI wr b)
    case atStart => exact ⟨i, 0, by omega, by omega, by simp, by omega, by rw [ho], rfl, by rw [show i + 4 - i = 4 from by omega]; rfl, hp.drewN _, (Fr.refl _ _).drewN _⟩
    case round =>
      obtain ⟨j, m, hij, hj4, hm, hjs, rfl, rfl, HG, hp', f1⟩ := hrel
      clear hp h1
      have h0 := hp'.c0
      have h1 := hp'.c1
      have h3 := hp'.fz 1
      have hmb : (m : Int) < 10000 := by
        have : 10 ^ (j - i) ≤ 10 ^ 4 := Nat.pow_le_pow_right (by omega) (by omega)
        omega
      have hmp := hm
      have HM : Hid (m < 10 ^ (j - i)) := hm
      clear hm hmp
      by_cases hd : digF s j bad = true
      · obtain ⟨hb0, hlt, hb1, hb2⟩ := digF_elim hd
        by_cases hk4 : j < i + 4
        · by_cases hc : (j == i || byt s i != 48) = true
          · have HS := numGo_step (m := m) hk4 hij (by rw [hd, hc]; rfl)
            have HS' : Hid (numGo s bad i (i + 4 - (j + 1)) (j + 1) (10 * m + (byt s j - 48)) = numGo s bad i 4 i 0) := HS.symm.trans HG.out
            clear HS
            have HP := pow_bound hij HM.out _ hb2
            have HP' : Hid (10 * m + (byt s j - 48) < 10 ^ (j + 1 - i)) := HP
            rw [byt_get hlt] at hb1 hb2
            have hbb1 : (48 : Int) ≤ (s[j].toNat : Int) := by omega
            have hbb2 : (s[j].toNat : Int) ≤ 57 := by omega
            have HY : Hid (byt s j = s[j].toNat) := byt_get hlt
            have HD : Hid (digF s j bad = true) := hd
            rw [hd]
            clear ho hd hb1 hb2 HP
            have hil : i < s.size := by omega
            rcases Nat.eq_or_lt_of_le hij with he | hne
            · subst he
              go_wp2_with fail
              go_quiet (fail)
              go_wp2_with fail
              have hp2 : PenAt ((wr.drewN nq).setCell ⟨b, 1, none⟩ (.int .i64 ((i : Int) + 1))) b s (i + 1) bad := (hp'.drewN nq).set1i (by omega)
              refine (digit_any b s (i + 1) bad _ hp2).mono ?_
              rintro e w' ⟨n2, rfl, rfl⟩
              go_wp2_with fail
              go_roundw
              case rel => exact ⟨i + 1, 10 * m + (byt s i - 48), by omega, by omega, HP'.out, by omega, rfl, by rw [HY.out]; go_num, HS', hp2.drewN _, f1.trans ((((Fr.refl _ _).drewN _).setCell _ _).drewN _)⟩
              case measure => rw [(hp2.drewN n2).penI, hp'.penI]; omega
            · have hc1 : ((j : Int) == (i : Int)) = false := by simp; omega
              have hc2 : ((s[i].toNat : Int) != 48) = true := by
                have : byt s i ≠ 48 := by
                  have : (j == i) = false := by simp; omega
                  rw [this] at hc; simpa using hc
                rw [byt_get hil] at this
                simp; omega
              clear hc
              go_wp2_with fail
              go_quiet (fail)
              go_wp2_with fail
              have hp2 : PenAt ((wr.drewN nq).setCell ⟨b, 1, none⟩ (.int .i64 ((j : Int) + 1))) b s (j + 1) bad := (hp'.drewN nq).set1i (by omega)
              refine (digit_any b s (j + 1) bad _ hp2).mono ?_
              rintro e w' ⟨n2, rfl, rfl⟩
              go_wp2_with fail
              go_roundw
              case rel => exact ⟨j + 1, 10 * m + (byt s j - 48), by omega, by omega, HP'.out, by omega, rfl, by rw [HY.out]; go_num, HS', hp2.drewN _, f1.trans ((((Fr.refl _ _).drewN _).setCell _ _).drewN _)⟩
              case measure => rw [(hp2.drewN n2).penI, hp'.penI]; omega
          · have HS := numGo_stop (n := m) (i + 4 - j) (show (digF s j bad && (j == i || byt s i != 48)) = false by simp [hc])
            have HS' := HS.symm.trans HG.out
            have HN' : Hid (numN s i bad = m) := by rw [HN.out, ← HS']; rfl
            have HI' : Hid (numI s i bad = j) := by rw [HI.out, ← HS']; rfl
            clear HS HS' HN HI HG
            have hne : i < j := by
              rcases Nat.eq_or_lt_of_le hij with he | hne
              · subst he; simp at hc
              · exact hne
            have hil : i < s.size := by omega
            have hc1 : ((j : Int) == (i : Int)) = false := by simp; omega
            have hc2 : ((s[i].toNat : Int) != 48) = false := by
              have : byt s i = 48 := by
                have h5 : (j == i) = false := by simp; omega
                rw [h5] at hc; simpa using hc
              rw [byt_get hil] at this
              simp; omega
            rw [hd]
            clear ho hd hb1 hb2 hc
            go_wp2_with fail
            go_ret
            exact ⟨by rw [HN'.out]; rfl, by rw [HI'.out, HB.out]; exact hp', f1⟩
        · have HS' : (m, j) = numGo s bad i 4 i 0 := by rw [← HG.out, show i + 4 - j = 0 from by omega]; rfl
          have HN' : Hid (numN s i bad = m) := by rw [HN.out, ← HS']; rfl
          have HI' : Hid (numI s i bad = j) := by rw [HI.out, ← HS']; rfl
          clear HS' HN HI HG
          rw [hd]
          clear ho hd hb1 hb2
          go_wp2_with fail
          go_ret
          exact ⟨by rw [HN'.out]; rfl, by rw [HI'.out, HB.out]; exact hp', f1⟩
      · have hd' : digF s j bad = false := by simpa using hd
        have HS' : (m, j) = numGo s bad i 4 i 0 := by rw [← HG.out, numGo_stop (i + 4 - j) (by rw [hd']; rfl)]
        have HN' : Hid (numN s i bad = m) := by rw [HN.out, ← HS']; rfl
        have HI' : Hid (numI s i bad = j) := by rw [HI.out, ← HS']; rfl
        clear HS' HN HI HG
        rw [hd']
        clear ho hd hd'
        go_wp2_with fail
        go_ret
        exact ⟨by rw [HN'.out]; rfl, by rw [HI'.out, HB.out]; exact hp', f1⟩
  · have ho' : digF s i bad = false := by simpa using ho
    go_enter Try.func54, Try.ntmps54
    go_wp2_with fail
    refine (digit_any b s i bad _ hp).mono ?_
    rintro e w' ⟨n, rfl, rfl⟩
    rw [ho']
    go_wp2_with fail
    refine (fail_any b s i bad _ (hp.drewN _)).mono ?_
    rintro e w' ⟨rfl, hp2, f2⟩
    go_wp2
    go_ret
    exact ⟨by simp [numN, ho'], by rw [numI, numB, if_neg ho, if_neg ho]; exact hp2, ((Fr.refl _ _).drewN _).trans f2⟩
end Go.Proofs.Ytjimoigbdcalpaa
