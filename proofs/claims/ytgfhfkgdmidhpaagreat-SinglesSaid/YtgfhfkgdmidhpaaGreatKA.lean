import Derived.Test.YtgfhfkgdmidhpaaGreatG23
import Derived.Test.YtgfhfkgdmidhpaaGreatG24
namespace Go.Proofs.YtgfhfkgdmidhpaaGreat
open Go.RowKit

def kpTo (bs : List RBlk) (m : Nat) : List Int := (List.range m).map (kprF (suF bs) bs.length)
theorem kpTo_succ (bs m) : zcell (kpTo bs (m + 1)) = zcell (kpTo bs m) ++ [.int .i64 (kprF (suF bs) bs.length m)] := by simp [kpTo, zcell, List.range_succ]
theorem kpTo_len (bs m) : (kpTo bs m).length = m := by simp [kpTo]

set_option maxRecDepth 100000 in
set_option maxHeartbeats 1500000 in
theorem keepersR (s : ByteArray) (w : World) (hs : s.size ≤ maxLen) :
    Calls Tryz.prog 14 #[.string s] w fun x w' => ∃ v, x = .returned (.tuple #[v, .int .i64 (rdF s).e, .int .i64 (rdF s).at_]) ∧ w'.ownsRow w.heap.size 3 1 v (keepF s).length (zcell (keepF s)) ∧ Below w.heap.size w w' := by
  go_enter Tryz.func14, Tryz.ntmps14
  go_wp2_with fail
  refine (read_any s w hs).mono ?_
  rintro x w1 ⟨v1, rfl, P1, f1⟩
  have F1 := stop f1
  have s1 := f1.size
  by_cases h0 : (rdF s).e = 0
  · obtain ⟨ha, hp, h12, hg⟩ := rd0 h0
    have PB := P1 h0
    have HK : Hid (keepF s = kpTo (parF s).bs (parF s).bs.length) := by show _ = _; rw [keepF, if_pos h0]; rfl
    have HA := stop ha
    have HE := stop h0
    have hg' := stop hg
    have PBH := stop PB
    obtain ⟨pv, cv, rfl⟩ := PB.slice
    rw [h0, ha]
    clear f1 P1 PB h0 ha hg
    generalize (parF s).bs = bs at *
    go_wp2_with fail
    go_loopw [8, 9] (fun l i wr => ∃ m : Nat, m ≤ bs.length ∧ i = .int .i64 m ∧ wr.ownsRow w1.heap.size 3 1 l m (zcell (kpTo bs m)) ∧ Hid (Below w1.heap.size w1 wr)) (fun _ i _ => bs.length - (intOf i).toNat)
    case atStart => exact ⟨0, by omega, rfl, World.ownsRow_nil _ _ _ _, Below.refl _ _⟩
    case round =>
      obtain ⟨m, hm, rfl, OL, F⟩ := hrel
      obtain ⟨pl, cl, rfl⟩ := owns_slice2 OL
      have hz := F.out.size
      by_cases hlt : m < bs.length
      · have OLH := stop OL
        have HB2 := stop (PBH.out.keeps3 (Keeps.below F.out))
        clear OL
        go_wp2_with fail
        refine (keeperR bs m w.heap.size _ wr HB2.out hg' hlt (by omega)).mono ?_
        rintro x w2 ⟨rfl, f2⟩
        have s2 := f2.size
        have OL2 := owns_keeps OLH.out (Keeps.below (T := fun _ => True) f2) trivial
        have F2 := stop (F.out.trans (f2.mono hz))
        have HS := stop (kpTo_succ bs m)
        clear f2 OLH F HB2
        generalize kprF (suF bs) bs.length m = kv at *
        go_wp2_with (at_builtin; refine unstop ?_)
        refine stop ?_
        have gB := heap_alloc_last w2 (.cells #[.int .i64 kv] 3)
        replace OL2 := OL2.alloc (.cells #[.int .i64 kv] 3)
        refine app1 Tryz.underlying29 Tryz.info3 rfl (by decide) (by decide) rfl _ _ rfl rfl OL2 gB rfl rfl (List.all_eq_true.1 rfl) (by omega) (by simp; omega) ?_
        intro v3 wS oS gS
        have F3 := stop (Below.grown (F2.out.alloc (by omega) _) gS (by simp; omega) (fun j hj => by have := (OL2.lt j hj).1; omega))
        clear gS gB OL2 F2
        obtain ⟨p5, c5, rfl⟩ := owns_slice2 oS
        have O3 : Hid (wS.ownsRow w1.heap.size 3 1 (.slice p5 (m + 1) c5) (m + 1) (zcell (kpTo bs (m + 1)))) := by rw [HS.out]; exact oS
        clear oS
        go_wp2_with fail
        go_roundw
        case rel => exact ⟨m + 1, by omega, by go_num, O3.out, F3⟩
        case measure => simp [intOf]; omega
      · have hme : m = bs.length := by omega
        subst hme
        have O9 : Hid (wr.ownsRow w.heap.size 3 1 (.slice pl bs.length cl) (keepF s).length (zcell (keepF s)) ∧ Below w.heap.size w wr) := ⟨by rw [HK.out, kpTo_len]; exact owns_base OL s1, F1.out.trans (F.out.mono s1)⟩
        clear OL
        go_wp2_with fail
        go_ret3
        exact ⟨_, by rw [HE.out, HA.out]; rfl, O9.out.1, O9.out.2⟩
  · have HK : Hid (keepF s = []) := by show _ = _; rw [keepF, if_neg h0]
    have hd : (((rdF s).e : Int) != 0) = true := by simp; omega
    clear f1 P1 h0
    go_wp2_with fail
    go_ret3
    exact ⟨_, rfl, by rw [HK.out]; exact World.ownsRow_nil _ _ _ _, F1.out⟩

theorem zcell_at {l : List Int} {j : Nat} (hj : j < l.length) : (zcell l)[j]? = some (.int .i64 l[j]) := by simp [zcell, hj]

set_option maxRecDepth 100000 in
set_option maxHeartbeats 1000000 in
theorem ints_same (l : List Int) (B1 B2 : Nat) (va vb : Value) (w : World) (ha : w.ownsRow B1 3 1 va l.length (zcell l)) (hb : w.ownsRow B2 3 1 vb l.length (zcell l)) (hl : l.length ≤ 1000000) :
    Calls Tryz.prog 15 #[va, vb] w fun x w' => x = .returned (.bool true) ∧ Below w.heap.size w w' := by
  obtain ⟨p1, c1, rfl⟩ := owns_slice2 ha
  obtain ⟨p2, c2, rfl⟩ := owns_slice2 hb
  have HA := stop ha
  have HB := stop hb
  clear ha hb
  go_enter Tryz.func15, Tryz.ntmps15
  go_wp2_with fail
  go_loopw [5] (fun i wr => ∃ m q : Nat, m ≤ l.length ∧ i = .int .i64 m ∧ Hid (wr = w.drewN q)) (fun i _ => l.length - (intOf i).toNat)
  case atStart => exact ⟨0, 0, by omega, rfl, rfl⟩
  case round =>
    obtain ⟨m, q, hm, rfl, HW⟩ := hrel
    by_cases hlt : m < l.length
    · have OA : wr.ownsRow B1 3 1 (.slice p1 l.length c1) l.length (zcell l) := by rw [HW.out]; exact owns_keeps HA.out (Keeps.drewN (T := fun _ => True) w q) trivial
      have OB : wr.ownsRow B2 3 1 (.slice p2 l.length c2) l.length (zcell l) := by rw [HW.out]; exact owns_keeps HB.out (Keeps.drewN (T := fun _ => True) w q) trivial
      obtain ⟨g1, rfl, _, _⟩ := owns_form OA (by omega)
      obtain ⟨g2, rfl, _, _⟩ := owns_form OB (by omega)
      have k1 := owns_cell OA (zcell_at hlt)
      have k2 := owns_cell OB (zcell_at hlt)
      have hd : (l[m] != l[m]) = false := by simp
      clear OA OB
      go_wp2_with fail
      go_quiet (fail)
      have HW2 : Hid (wr.drewN nq = w.drewN (q + nq)) := by show _ = _; rw [HW.out]; simp [World.drewN, Nat.add_assoc]
      go_wp2_with fail
      go_roundw
      case rel => exact ⟨m + 1, q + nq, by omega, by go_num, HW2⟩
      case measure => simp [intOf]; omega
    · go_wp2_with fail
      go_ret
      exact ⟨rfl, by rw [HW.out]; exact below_drewN (Below.refl _ _) _⟩

set_option maxRecDepth 100000 in
set_option maxHeartbeats 1000000 in
theorem blot_any (xs : List Value) (n base : Nat) (v : Value) (w : World) (h : w.ownsRow base 3 1 v n xs) (hl : n ≤ 1000000) :
    Calls Tryz.prog 13 #[v] w fun x w' => x = .returned (.tuple #[]) ∧ Below base w w' := by
  obtain ⟨p1, c1, rfl⟩ := owns_slice2 h
  have HA := stop h
  clear h
  go_enter Tryz.func13, Tryz.ntmps13
  go_wp2_with fail
  go_loopw [2] (fun i wr => ∃ (m : Nat) (ys : List Value), m ≤ n ∧ i = .int .i64 m ∧ Hid (wr.ownsRow base 3 1 (.slice p1 n c1) n ys ∧ Below base w wr)) (fun i _ => n - (intOf i).toNat)
  case atStart => exact ⟨0, xs, by omega, rfl, HA.out, Below.refl _ _⟩
  case round =>
    obtain ⟨m, ys, hm, rfl, HR⟩ := hrel
    by_cases hlt : m < n
    · obtain ⟨g1, rfl, hgb, _⟩ := owns_form HR.out.1 (by omega)
      have hy : ∃ u, ys[m]? = some u := ⟨_, List.getElem?_eq_getElem (by have := HR.out.1.1; omega)⟩
      obtain ⟨u, hy⟩ := hy
      have k1 := owns_cell HR.out.1 hy
      have kf := owns_fz HR.out.1 m
      have HR2 : Hid ((wr.setCell ⟨g1, m, none⟩ (.int .i64 (-9))).ownsRow base 3 1 (.slice (some ⟨g1, 0, none⟩) n c1) n (ys.set m (.int .i64 (-9))) ∧ Below base w (wr.setCell ⟨g1, m, none⟩ (.int .i64 (-9)))) := ⟨owns_store HR.out.1 m _, below_set HR.out.2 _ _ _ hgb⟩
      clear HR hy
      go_wp2_with fail
      go_roundw
      case rel => exact ⟨m + 1, _, by omega, by go_num, HR2⟩
      case measure => simp [intOf]; omega
    · go_wp2_with fail
      go_end0
      exact ⟨rfl, HR.out.2⟩

set_option maxHeartbeats 400000 in
theorem num_any (e : Nat) (w : World) : Calls Tryz.prog 11 #[.int .i64 e] w fun x w' => x = .returned (.int .i64 e) ∧ w' = w := by
  go_enter Tryz.func11, Tryz.ntmps11
  go_wp2
  go_ret
  exact ⟨rfl, rfl⟩
theorem keepF_len (s : ByteArray) : (keepF s).length ≤ 12 := by
  unfold keepF
  split
  · rename_i h
    have := (rd0 h).2.2.1
    simp [kprs]; omega
  · simp

set_option maxRecDepth 100000 in
set_option maxHeartbeats 1000000 in
theorem kept_any (s : ByteArray) (w : World) (hs : s.size ≤ maxLen) : Calls Tryz.prog 4 #[.string s] w fun x w' => x = .returned (.bool true) ∧ Below w.heap.size w w' := by
  have hk := keepF_len s
  go_enter Tryz.func4, Tryz.ntmps4
  go_wp2_with fail
  refine (keepersP s w).mono ?_
  rintro x w1 ⟨v1, rfl, o1, f1⟩
  have s1 := f1.size
  have O1 := stop (And.intro o1 f1)
  clear o1 f1
  go_wp2_with fail
  refine (keepersP s w1).mono ?_
  rintro x w2 ⟨v2, rfl, o2, f2⟩
  have s2 := f2.size
  have O2 := stop (And.intro o2 f2)
  clear o2 f2
  go_wp2_with fail
  refine (blot_any _ _ w1.heap.size v2 w2 O2.out.1 (by omega)).mono ?_
  rintro x w3 ⟨rfl, f3⟩
  have f13 := O2.out.2.trans f3
  have O3 := stop (And.intro (owns_keeps O1.out.1 (Keeps.below (T := fun _ => True) f13) trivial) (O1.out.2.trans (f13.mono s1)))
  clear f3 f13 O1 O2
  go_wp2_with fail
  refine (keepersR s w3 hs).mono ?_
  rintro x w4 ⟨v4, rfl, o4, f4⟩
  have s4 := f4.size
  have O4 := stop (And.intro (owns_keeps O3.out.1 (Keeps.below (T := fun _ => True) f4) trivial) (And.intro o4 (O3.out.2.trans (f4.mono O3.out.2.size))))
  clear o4 f4 O3
  go_wp2_with fail
  refine (ints_same (keepF s) w.heap.size w3.heap.size v1 v4 w4 O4.out.1 O4.out.2.1 (by omega)).mono ?_
  rintro x w5 ⟨rfl, f5⟩
  have F5 := stop (O4.out.2.2.trans (f5.mono O4.out.2.2.size))
  clear f5 O4
  go_wp2_with fail
  refine (num_any _ _).mono ?_
  rintro x w6 ⟨rfl, hw6⟩
  have F6 : Hid (Below w.heap.size w w6) := by show Below _ _ _; rw [hw6]; exact F5.out
  clear hw6 F5
  go_wp2_with fail
  go_ret
  exact ⟨by simp, F6.out⟩

end Go.Proofs.YtgfhfkgdmidhpaaGreat
