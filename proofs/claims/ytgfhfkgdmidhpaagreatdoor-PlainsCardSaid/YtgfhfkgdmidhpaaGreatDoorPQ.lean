import Derived.Test.YtgfhfkgdmidhpaaGreatDoorPF
import Derived.Deep.QuietTactic
namespace Go.Proofs.YtgfhfkgdmidhpaaGreatDoor
open Go.RowKit

theorem bel_drewN {B : Nat} {u v : World} (F : Below B u v) (n : Nat) : Below B u (v.drewN n) := ⟨F.os, F.tape, F.output, F.size, F.block⟩
set_option maxHeartbeats 1000000 in
theorem numR (n : Int) (w : World) : Calls Tryz.prog 8 #[.int .i64 n] w fun e w' => e = .returned (.int .i64 n) ∧ w' = w := by
  go_enter Tryz.func8, Tryz.ntmps8
  go_wp2_with fail
  go_ret
  exact ⟨rfl, rfl⟩

set_option maxHeartbeats 1000000 in
theorem intsZ (l : List Int) (B1 B2 : Nat) (va vb : Value) (w : World) (ha : w.ownsRow B1 3 1 va l.length (zcell l)) (hb : w.ownsRow B2 3 1 vb l.length (zcell l)) (hl : l.length ≤ 100000000000) :
    Calls Tryz.prog 33 #[va, vb] w fun e w' => e = .returned (.bool true) ∧ Below w.heap.size w w' := by
  obtain ⟨pa, ca, rfl⟩ := owns_slice2 ha
  obtain ⟨pb, cb, rfl⟩ := owns_slice2 hb
  have HA := stop ha
  have HB := stop hb
  clear ha hb
  go_enter Tryz.func33, Tryz.ntmps33
  go_wp2_with fail
  go_loopw [5] (fun i wr => ∃ k : Nat, k ≤ l.length ∧ i = .int .i64 k ∧ Hid (Below w.heap.size w wr)) (fun i _ => l.length - (intOf i).toNat)
  case atStart => exact ⟨0, by omega, rfl, Below.refl _ _⟩
  case round =>
    obtain ⟨k, hk, rfl, F⟩ := hrel
    rename World => wA
    by_cases hlt : k < l.length
    · have O1 := owns_keeps HA.out (Keeps.below (T := fun _ => True) F.out) trivial
      have O2 := owns_keeps HB.out (Keeps.below (T := fun _ => True) F.out) trivial
      obtain ⟨g1, rfl, _, _⟩ := owns_form O1 (by omega)
      obtain ⟨g2, rfl, _, _⟩ := owns_form O2 (by omega)
      have c1 := owns_cell O1 (zcell_at hlt)
      have c2 := owns_cell O2 (zcell_at hlt)
      have hd : (l[k] != l[k]) = false := by simp
      clear O1 O2
      go_wp2_with fail
      go_quiet (fail)
      have F2 := stop (bel_drewN F.out nq)
      go_wp2_with fail
      go_roundw
      case rel => exact ⟨k + 1, by omega, by go_num, F2⟩
      case measure => simp [intOf]; omega
    · go_wp2_with fail
      go_ret
      exact ⟨rfl, F.out⟩

set_option maxHeartbeats 1000000 in
theorem choicelessR (bs : List RBlk) (base : Nat) (v : Value) (w : World) (h : BlksOwn w base bs v) (hl : bs.length ≤ 1000) (hc : ∀ b ∈ bs, b.chs = []) :
    Calls Tryz.prog 18 #[v] w fun e w' => e = .returned (.bool true) ∧ Below w.heap.size w w' := by
  obtain ⟨pv, cv, rfl⟩ := h.slice
  have HB := stop h
  have HC := stop hc
  clear h hc
  go_enter Tryz.func18, Tryz.ntmps18
  go_wp2_with fail
  go_loopw [3] (fun i wr => ∃ k : Nat, k ≤ bs.length ∧ i = .int .i64 k ∧ Hid (Below w.heap.size w wr)) (fun i _ => bs.length - (intOf i).toNat)
  case atStart => exact ⟨0, by omega, rfl, Below.refl _ _⟩
  case round =>
    obtain ⟨k, hk, rfl, F⟩ := hrel
    rename World => wA
    by_cases hlt : k < bs.length
    · obtain ⟨g, qc, cc, ps, cs, rfl, _, hg, _, _, hcl⟩ := HB.out.at hlt
      have d0 := hcl 0 _ rfl
      have hz : bs[k].chs.length = 0 := by rw [HC.out _ (List.getElem_mem hlt)]; rfl
      rw [hz] at d0
      simp only [Nat.add_zero] at d0
      replace d0 := (F.out.cell (p := ⟨g, k * 10, none⟩) hg).trans d0
      clear hcl hz
      go_wp2_with fail
      go_roundw
      case rel => exact ⟨k + 1, by omega, by go_num, F⟩
      case measure => simp [intOf]; omega
    · go_wp2_with fail
      go_ret
      exact ⟨rfl, F.out⟩

set_option maxRecDepth 100000 in
set_option maxHeartbeats 2000000 in
theorem AlikeR (bs cs : List RBlk) (B1 B2 : Nat) (v u : Value) (w : World) (h1 : BlksOwn w B1 bs v) (h2 : BlksOwn w B2 cs u) (hl : bs.length ≤ 1000) (hn : bs.length = cs.length)
    (he : ∀ i (hi : i < bs.length) (hj : i < cs.length), bs[i].e.op = cs[i].e.op ∧ bs[i].e.one.1 = cs[i].e.one.1 ∧ bs[i].e.two.1 = cs[i].e.two.1) :
    Calls Tryz.prog 12 #[v, u] w fun e w' => e = .returned (.bool true) ∧ Below w.heap.size w w' := by
  obtain ⟨pv, cv, rfl⟩ := h1.slice
  obtain ⟨pu, cu, rfl⟩ := h2.slice
  have H1 := stop h1
  have H2 := stop h2
  have HN := stop hn
  have HE := stop he
  rw [← hn]
  clear h1 h2 hn he
  go_enter Tryz.func12, Tryz.ntmps12
  go_wp2_with fail
  go_loopw [5] (fun i wr => ∃ k : Nat, k ≤ bs.length ∧ i = .int .i64 k ∧ Hid (Below w.heap.size w wr)) (fun i _ => bs.length - (intOf i).toNat)
  case atStart => exact ⟨0, by omega, rfl, Below.refl _ _⟩
  case round =>
    obtain ⟨k, hk, rfl, F⟩ := hrel
    rename World => wA
    by_cases hlt : k < bs.length
    · have hlt2 : k < cs.length := by have := HN.out; omega
      obtain ⟨g, qc, cc, ps, c1, rfl, _, hg, _, _, hcl⟩ := H1.out.at hlt
      obtain ⟨e1, e2, e3⟩ := HE.out k hlt hlt2
      have hb : ∀ (o : Nat) (x : Value), (blkCells (.slice qc bs[k].chs.length cc) (.slice ps bs[k].sts.length c1) bs[k].e bs[k].at_)[o]? = some x → wA.cell? ⟨g, k * 10 + o, none⟩ = some x := fun o x h => (F.out.cell (p := ⟨g, k * 10 + o, none⟩) hg).trans (hcl o x h)
      have d2 := hb 2 _ rfl
      have d3 := hb 3 _ rfl
      have d4 := hb 4 _ rfl
      have d5 := hb 5 _ rfl
      have d6 := hb 6 _ rfl
      have d7 := hb 7 _ rfl
      have d8 := hb 8 _ rfl
      obtain ⟨g', qc', cc', ps', c1', rfl, _, hg', _, _, hcl'⟩ := H2.out.at hlt2
      have hb' : ∀ (o : Nat) (x : Value), (blkCells (.slice qc' cs[k].chs.length cc') (.slice ps' cs[k].sts.length c1') cs[k].e cs[k].at_)[o]? = some x → wA.cell? ⟨g', k * 10 + o, none⟩ = some x := fun o x h => (F.out.cell (p := ⟨g', k * 10 + o, none⟩) hg').trans (hcl' o x h)
      have c2 := hb' 2 _ rfl
      have c3 := hb' 3 _ rfl
      have c4 := hb' 4 _ rfl
      have c5 := hb' 5 _ rfl
      have c6 := hb' 6 _ rfl
      have c7 := hb' 7 _ rfl
      have c8 := hb' 8 _ rfl
      rw [← e1] at c2
      rw [← e2] at c5
      rw [← e3] at c7
      clear hcl hcl' hb hb' e1 e2 e3
      have hz := F.out.size
      have hgz : g < wA.heap.size := Nat.lt_of_lt_of_le hg hz
      have hgz' : g' < wA.heap.size := Nat.lt_of_lt_of_le hg' hz
      have F2 := stop ((F.out.alloc hz (.cells #[.int .u8 bs[k].e.op, .int .i64 bs[k].e.a.1, .int .i64 bs[k].e.a.2, .int .i64 bs[k].e.one.1, .int .i64 bs[k].e.one.2, .int .i64 bs[k].e.two.1, .int .i64 bs[k].e.two.2] 51)).alloc (by rw [World.size_alloc]; omega) (.cells #[.int .u8 bs[k].e.op, .int .i64 cs[k].e.a.1, .int .i64 cs[k].e.a.2, .int .i64 bs[k].e.one.1, .int .i64 cs[k].e.one.2, .int .i64 bs[k].e.two.1, .int .i64 cs[k].e.two.2] 51))
      go_wp2_with fail
      go_roundw
      case rel => exact ⟨k + 1, by omega, by go_num, F2⟩
      case measure => simp [intOf]; omega
    · go_wp2_with fail
      go_ret
      exact ⟨rfl, F.out⟩

set_option maxRecDepth 100000 in
set_option maxHeartbeats 1000000 in
theorem alikeX (l m : Value) (p : Option Addr) (n c : Nat) (fu : Int) (w : World) (hout : 20 < n ∨ fu < 0 ∨ 300 < fu) :
    Calls Tryz.prog 13 #[l, m, .slice p n c, .int .i64 fu] w fun e w' => e = .returned (.bool true) ∧ Below w.heap.size w w' := by
  by_cases h1 : 20 < n
  · have hd : decide ((20 : Int) < (n : Int)) = true := by simp; omega
    go_enter Tryz.func13, Tryz.ntmps13
    go_wp2_with fail
    go_ret
    exact ⟨rfl, Below.refl _ _⟩
  · have hd : decide ((20 : Int) < (n : Int)) = false := by simp; omega
    by_cases h2 : fu < 0
    · have hd2 : decide (fu < 0) = true := by simpa using h2
      go_enter Tryz.func13, Tryz.ntmps13
      go_wp2_with fail
      go_ret
      exact ⟨rfl, Below.refl _ _⟩
    · have hd2 : decide (fu < 0) = false := by simpa using h2
      have hd3 : decide ((300 : Int) < fu) = true := by simp; omega
      go_enter Tryz.func13, Tryz.ntmps13
      go_wp2_with fail
      go_ret
      exact ⟨rfl, Below.refl _ _⟩

/-- What Play asks of a program. -/
structure PlOk (bs : List RBlk) : Prop where
  pos : 0 < bs.length
  fine : ∀ b ∈ bs, BFine 1000000 b
  cs : ∀ b ∈ bs, b.chs.length + b.sts.length ≤ 100000
  gl : ∀ b ∈ bs, ∀ c ∈ b.chs, c.gs.length ≤ 1000
  op : ∀ b ∈ bs, ∀ t ∈ b.sts, t.op < 256
  nx : ∀ b ∈ bs, b.e.op < 256 ∧ (b.e.op ≠ 46 → b.e.one.1 < bs.length) ∧ (b.e.op = 63 → b.e.two.1 < bs.length)
theorem playA_out (bs : List ABk) (V : List Int) (f : Nat) (N : Nat) (hN : ∀ b ∈ bs, b.sts.length ≤ N) : (playA bs V f).1.length ≤ f * N := by
  suffices h : ∀ k i fm m, (plA bs k i fm m).1.length ≤ m.out.length + k * N from by
    have := h f 0 (-1) ⟨fun _ => 0, V, []⟩
    simp at this
    exact this
  have hst : ∀ (l : List ASt) (m : Mac), (stsA l m).out.length ≤ m.out.length + l.length := by
    intro l
    induction l with
    | nil => intro m; exact Nat.le_refl _
    | cons t l ih => intro m; rw [stsA_cons]; have h1 := ih (stA t m); have h2 := stA_out t m; rw [List.length_cons]; omega
  have hb : ∀ i, (bkA bs i).sts.length ≤ N := by
    intro i
    unfold bkA
    by_cases hi : i < bs.length
    · rw [List.getElem?_eq_getElem hi]; exact hN _ (List.getElem_mem _)
    · rw [List.getElem?_eq_none (by omega)]; exact Nat.zero_le _
  intro k
  induction k with
  | zero => intro i fm m; rw [plA]; exact Nat.le_add_right _ _
  | succ k ih =>
    intro i fm m
    have h1 : (blA (bkA bs i) fm m).out.length ≤ m.out.length + N := by
      unfold blA
      have h2 := hst (bkA bs i).sts (entA (bkA bs i) fm m)
      rw [entA_out] at h2
      have := hb i
      omega
    rw [plA, Nat.succ_mul]
    split
    · show (blA (bkA bs i) fm m).out.length ≤ _; omega
    · have := ih (nxA (bkA bs i) (blA (bkA bs i) fm m)) i (blA (bkA bs i) fm m)
      omega

set_option maxRecDepth 100000 in
set_option maxHeartbeats 1000000 in
theorem alikeR (bs cs : List RBlk) (B1 B2 : Nat) (vl vm vi : Value) (V : List Int) (f : Nat) (w : World) (h1 : BlksOwn w B1 bs vl) (h2 : BlksOwn w B2 cs vm) (hi : InA vi V w) (hV : V.length ≤ 20) (hf : f ≤ 300) (k1 : PlOk bs) (k2 : PlOk cs) (he : playA (absP bs) V f = playA (absP cs) V f) :
    Calls Tryz.prog 13 #[vl, vm, vi, .int .i64 f] w fun e w' => e = .returned (.bool true) ∧ Below w.heap.size w w' := by
  have hol : (playA (absP bs) V f).1.length ≤ 100000000 := by
    have := playA_out (absP bs) V f 100000 (fun b hb => by
      obtain ⟨c, hc, rfl⟩ := List.mem_map.1 hb
      have := k1.cs c hc
      show (c.sts.map absS).length ≤ _
      rw [List.length_map]; omega)
    omega
  have HR1 := stop (playR bs B1 vl vi V f w h1 hi hV hf k1.pos k1.fine k1.cs k1.gl k1.op k1.nx)
  have HR2 : Hid (∀ w', Below w.heap.size w w' → Calls Tryz.prog 32 #[vm, vi, .int .i64 f] w' fun x w'' => ∃ v, x = .returned (.tuple #[v, .int .i64 (playA (absP bs) V f).2]) ∧ Hid (w''.ownsRow w'.heap.size 3 1 v (playA (absP bs) V f).1.length (zcell (playA (absP bs) V f).1) ∧ Below w'.heap.size w' w'')) := fun w' F => by
    rw [he]
    exact playR cs B2 vm vi V f w' (h2.keeps (Keeps.below (T := fun _ => True) F) trivial trivial trivial trivial trivial) (hi.keeps F) hV hf k2.pos k2.fine k2.cs k2.gl k2.op k2.nx
  obtain ⟨pi, ci, rfl, hci, _⟩ := hi
  clear he h1 h2 k1 k2
  generalize playA (absP bs) V f = R at *
  go_enter Tryz.func13, Tryz.ntmps13
  go_wp2_with fail
  refine HR1.out.mono ?_
  rintro x w1 ⟨v1, rfl, H1⟩
  obtain ⟨p1, c1, rfl⟩ := owns_slice2 H1.out.1
  go_wp2_with fail
  refine (HR2.out w1 H1.out.2).mono ?_
  rintro x w2 ⟨v2, rfl, H2⟩
  obtain ⟨p2, c2, rfl⟩ := owns_slice2 H2.out.1
  go_wp2_with fail
  refine (intsZ R.1 w.heap.size w1.heap.size _ _ w2 (owns_keeps H1.out.1 (Keeps.below (T := fun _ => True) H2.out.2) trivial) H2.out.1 (by omega)).mono ?_
  rintro x w3 ⟨rfl, f3⟩
  have F3 := H1.out.2.trans ((H2.out.2.trans (f3.mono H2.out.2.size)).mono H1.out.2.size)
  clear f3 HR1 HR2
  go_wp2_with fail
  go_ret
  exact ⟨rfl, F3⟩

end Go.Proofs.YtgfhfkgdmidhpaaGreatDoor
