import Derived.Test.YtgfhfkgdmidhpaaGreatDoorG05
import Derived.Deep.RegionHeld3
namespace Go.Proofs.YtgfhfkgdmidhpaaGreatDoor
open Go.RowKit

/-- A mark: its place and its sign. -/
def mc (x : Nat × Int) : List Value := [.int .i64 x.1, .int .i32 x.2]
def mcs (l : List (Nat × Int)) : List Value := l.flatMap mc
theorem mcs_at {l : List (Nat × Int)} {j : Nat} (hj : j < l.length) : (mcs l)[j * 2]? = some (.int .i64 l[j].1) ∧ (mcs l)[j * 2 + 1]? = some (.int .i32 l[j].2) := by
  have h : ∀ x ∈ l.map mc, x.length = 2 := by intro x hx; simp at hx; obtain ⟨a, b, _, rfl⟩ := hx; rfl
  have hk : (l.map mc)[j]? = some (mc l[j]) := by simp [hj]
  rw [mcs, List.flatMap_def]
  exact ⟨flat_get 2 _ j 0 _ h hk (by omega), flat_get 2 _ j 1 _ h hk (by omega)⟩
/-- The reader at block b: the text, the marks, the number of the next one. -/
structure RdAt (w : World) (b : Nat) (s : ByteArray) (ms : List (Nat × Int)) (k : Nat) (g cap : Nat) : Prop where
  B : ∃ t, w.heap[b]? = some (.cells #[.string s, .slice (some ⟨g, 0, none⟩) ms.length cap, .int .i64 k] t (0, 0))
  M : w.ownsRow 0 275 2 (.slice (some ⟨g, 0, none⟩) ms.length cap) ms.length (mcs ms)
  N : g ≠ b
theorem RdAt.c0 {w b s ms k g cap} (h : RdAt w b s ms k g cap) : w.cell? ⟨b, 0, none⟩ = some (.string s) := by obtain ⟨⟨t, h⟩, _⟩ := h; simp [World.cell?, h]
theorem RdAt.c1 {w b s ms k g cap} (h : RdAt w b s ms k g cap) : w.cell? ⟨b, 1, none⟩ = some (.slice (some ⟨g, 0, none⟩) ms.length cap) := by obtain ⟨⟨t, h⟩, _⟩ := h; simp [World.cell?, h]
theorem RdAt.c2 {w b s ms k g cap} (h : RdAt w b s ms k g cap) : w.cell? ⟨b, 2, none⟩ = some (.int .i64 k) := by obtain ⟨⟨t, h⟩, _⟩ := h; simp [World.cell?, h]
theorem RdAt.fz {w b s ms k g cap} (h : RdAt w b s ms k g cap) (o : Nat) : w.frozen? ⟨b, o, none⟩ = false := by obtain ⟨⟨t, h⟩, _⟩ := h; simp [World.frozen?, h]
theorem RdAt.lt {w b s ms k g cap} (h : RdAt w b s ms k g cap) : b < w.heap.size := by obtain ⟨⟨t, h⟩, _⟩ := h; exact lt_of_block h
theorem RdAt.glt {w b s ms k g cap} (h : RdAt w b s ms k g cap) : g < w.heap.size := (h.M.lt g rfl).2
theorem RdAt.m0 {w b s ms k g cap} (h : RdAt w b s ms k g cap) {j : Nat} (hj : j < ms.length) : w.cell? ⟨g, j * 2, none⟩ = some (.int .i64 ms[j].1) := owns_cell h.M (mcs_at hj).1
theorem RdAt.m1 {w b s ms k g cap} (h : RdAt w b s ms k g cap) {j : Nat} (hj : j < ms.length) : w.cell? ⟨g, j * 2 + 1, none⟩ = some (.int .i32 ms[j].2) := owns_cell h.M (mcs_at hj).2
theorem RdAt.drewN {w b s ms k g cap} (h : RdAt w b s ms k g cap) (n : Nat) : RdAt (w.drewN n) b s ms k g cap := ⟨h.B, h.M, h.N⟩
theorem RdAt.alloc {w b s ms k g cap} (h : RdAt w b s ms k g cap) (o : Obj) : RdAt (w.alloc o) b s ms k g cap :=
  ⟨let ⟨t, hb⟩ := h.B; ⟨t, blk_alloc hb o⟩, h.M.alloc o, h.N⟩
theorem owns_block_kept {w w' : World} {base e size g n cap xs} (h : w.ownsRow base e size (.slice (some ⟨g, 0, none⟩) n cap) n xs) (hk : w'.heap[g]? = w.heap[g]?) : w'.ownsRow base e size (.slice (some ⟨g, 0, none⟩) n cap) n xs := by
  obtain ⟨h1, h2⟩ := h
  refine ⟨h1, ?_⟩
  rcases h2 with ⟨h0, _⟩ | ⟨g', cap', cur, hv, a, c, d⟩
  · cases h0
  · cases hv; exact .inr ⟨g, cap, cur, rfl, a, hk.trans c, d⟩
theorem RdAt.set {w b s ms k g cap} (h : RdAt w b s ms k g cap) {j : Nat} {v : Int} (hv : v = j) : RdAt (w.setCell ⟨b, 2, none⟩ (.int .i64 v)) b s ms j g cap := by
  subst hv
  refine ⟨?_, owns_block_kept h.M (Below.heap_setCell _ _ _ _ h.N), h.N⟩
  obtain ⟨t, hb⟩ := h.B
  exact ⟨t, blk_set hb 2 _⟩
theorem RdAt.setk {w b s ms k g cap} (h : RdAt w b s ms k g cap) (j o : Nat) (x : Value) (hj : b ≠ j) (hg : g ≠ j) : RdAt (w.setCell ⟨j, o, none⟩ x) b s ms k g cap := by
  refine ⟨?_, owns_block_kept h.M (Below.heap_setCell _ _ _ _ hg), h.N⟩
  obtain ⟨t, hb⟩ := h.B
  exact ⟨t, blk_setOther hb hj o x⟩
theorem RdAt.grown {w w' : World} {b s ms k g cap} {row : Option Nat} (h : RdAt w b s ms k g cap) (hg : w.grownBy w' row) (hr : ∀ j, row = some j → b ≠ j ∧ g ≠ j) : RdAt w' b s ms k g cap := by
  refine ⟨?_, owns_block_kept h.M (hg.block g h.glt (fun e => (hr g e.symm).2 rfl)), h.N⟩
  obtain ⟨t, hb⟩ := h.B
  exact ⟨t, blk_grown hg hb (fun j hj => (hr j hj).1)⟩

/-- What the marks of a text are. -/
structure Marks (s : ByteArray) (ms : List (Nat × Int)) : Prop where
  pos : 0 < ms.length
  first : ∀ h : 0 < ms.length, ms[0].1 = 0
  le : ∀ k, (h : k < ms.length) → ms[k].1 ≤ s.size
  len : ms.length ≤ s.size + 1
  ascii : ∀ k, (h : k < ms.length) → ∀ c : Nat, c < 128 → (ms[k].2 = (c : Int) ↔ ms[k].1 < s.size ∧ byt s ms[k].1 = c)
  next : ∀ k, (h : k < ms.length) → 0 ≤ ms[k].2 → ms[k].2 < 128 → ∃ h2 : k + 1 < ms.length, ms[k + 1].1 = ms[k].1 + 1
  cross : ∀ k, (h : k < ms.length) → (ms[k].2 = 215 ↔ ms[k].1 + 1 < s.size ∧ byt s ms[k].1 = 195 ∧ byt s (ms[k].1 + 1) = 151)
  nextCross : ∀ k, (h : k < ms.length) → ms[k].2 = 215 → ∃ h2 : k + 1 < ms.length, ms[k + 1].1 = ms[k].1 + 2
  fin : ∀ k, (h : k < ms.length) → (ms[k].2 = -1 ↔ ms[k].1 = s.size)
  wide : ∀ k, (h : k < ms.length) → -1 ≤ ms[k].2 ∧ ms[k].2 < 2000000

set_option maxHeartbeats 400000 in
theorem sign_any (b : Nat) (s : ByteArray) (ms : List (Nat × Int)) (k g cap : Nat) (w : World) (hp : RdAt w b s ms k g cap) (hk : k < ms.length) :
    Calls Tryz.prog 158 #[.pointer (some ⟨b,0,none⟩)] w fun e w' => ∃ n, e = .returned (.int .i32 ms[k].2) ∧ w' = w.drewN n := by
  have h1 := hp.c1
  have h2 := hp.c2
  have h3 := hp.m1 hk
  have hk1 : (k : Int) < (ms.length : Int) := by omega
  clear hp
  go_enter Tryz.func158, Tryz.ntmps158
  go_wp2
  go_quiet (fail)
  go_wp2
  go_ret
  exact ⟨_, rfl, rfl⟩

set_option maxHeartbeats 400000 in
theorem at_any (b : Nat) (s : ByteArray) (ms : List (Nat × Int)) (k g cap : Nat) (w : World) (hp : RdAt w b s ms k g cap) (hk : k < ms.length) :
    Calls Tryz.prog 196 #[.pointer (some ⟨b,0,none⟩)] w fun e w' => ∃ n, e = .returned (.int .i64 ms[k].1) ∧ w' = w.drewN n := by
  have h1 := hp.c1
  have h2 := hp.c2
  have h3 := hp.m0 hk
  have hk1 : (k : Int) < (ms.length : Int) := by omega
  clear hp
  go_enter Tryz.func196, Tryz.ntmps196
  go_wp2
  go_quiet (fail)
  go_wp2
  go_ret
  exact ⟨_, rfl, rfl⟩

/-- What a reader gives up with. -/
def brk (p : Int) : List PanicEntry := [{ v := .iface 217 (.agg #[.int .i64 p]), recovered := false }]

set_option maxHeartbeats 400000 in
theorem breakOff_any (b : Nat) (s : ByteArray) (ms : List (Nat × Int)) (k g cap : Nat) (w : World) (hp : RdAt w b s ms k g cap) (hk : k < ms.length) :
    Calls Tryz.prog 201 #[.pointer (some ⟨b,0,none⟩)] w fun e w' => e = .panicked (brk ms[k].1) ∧ Fr b w w' := by
  go_enter Tryz.func201, Tryz.ntmps201
  go_wp2_with fail
  refine (at_any b s ms k g cap _ hp hk).mono ?_
  rintro e w1 ⟨n, rfl, rfl⟩
  go_wp2_with fail
  exact ⟨rfl, rfl, (Fr.refl _ _).drewN _⟩

/-- The reader stands at the place i of a text. -/
def RS (w : World) (b g : Nat) (s : ByteArray) (i : Nat) : Prop := ∃ ms k cap, Marks s ms ∧ (∃ h : k < ms.length, ms[k].1 = i) ∧ RdAt w b s ms k g cap
theorem RS.lt {w b g s i} (h : RS w b g s i) : b < w.heap.size := by obtain ⟨ms, k, cap, _, _, h⟩ := h; exact h.lt
theorem RS.glt {w b g s i} (h : RS w b g s i) : g < w.heap.size := by obtain ⟨ms, k, cap, _, _, h⟩ := h; exact h.glt
theorem RS.gne {w b g s i} (h : RS w b g s i) : g ≠ b := by obtain ⟨ms, k, cap, _, _, h⟩ := h; exact h.N
theorem RS.le {w b g s i} (h : RS w b g s i) : i ≤ s.size := by obtain ⟨ms, k, cap, hm, ⟨hk, rfl⟩, _⟩ := h; exact hm.le k hk
theorem RS.drewN {w b g s i} (h : RS w b g s i) (n : Nat) : RS (w.drewN n) b g s i := by obtain ⟨ms, k, cap, a, c, h⟩ := h; exact ⟨ms, k, cap, a, c, h.drewN n⟩
theorem RS.alloc {w b g s i} (h : RS w b g s i) (o : Obj) : RS (w.alloc o) b g s i := by obtain ⟨ms, k, cap, a, c, h⟩ := h; exact ⟨ms, k, cap, a, c, h.alloc o⟩
theorem RS.setk {w b g s i} (h : RS w b g s i) (j o : Nat) (x : Value) (hj : b ≠ j) (hg : g ≠ j) : RS (w.setCell ⟨j, o, none⟩ x) b g s i := by obtain ⟨ms, k, cap, a, c, h⟩ := h; exact ⟨ms, k, cap, a, c, h.setk j o x hj hg⟩
theorem RS.grown {w w' : World} {b g s i} {row : Option Nat} (h : RS w b g s i) (hg : w.grownBy w' row) (hr : ∀ j, row = some j → b ≠ j ∧ g ≠ j) : RS w' b g s i := by obtain ⟨ms, k, cap, a, c, h⟩ := h; exact ⟨ms, k, cap, a, c, h.grown hg hr⟩
theorem onF1 {s i c} : onF s i (-1) c = true ↔ i < s.size ∧ byt s i = c := by simp [onF]

set_option maxHeartbeats 400000 in
theorem skip_yes {b g : Nat} {s : ByteArray} {i c : Nat} {w : World} (hp : RS w b g s i) (hs : s.size ≤ 200000) (hc : c < 128) (ho : onF s i (-1) c = true) :
    Calls Tryz.prog 197 #[.pointer (some ⟨b,0,none⟩), .int .i32 c] w fun e w' => e = .returned (.bool true) ∧ RS w' b g s (i + 1) ∧ Fr b w w' := by
  obtain ⟨ms, k, cap, hm, ⟨hk, rfl⟩, hr⟩ := hp
  have e1 := (hm.ascii k hk c hc).2 (onF1.1 ho)
  obtain ⟨hk2, e2⟩ := hm.next k hk (by omega) (by omega)
  have h2 := hr.c2
  have h3 := hr.fz 2
  have hl := hm.len
  have e1' : ((ms[k].2 : Int) != (c : Int)) = false := by simp [e1]
  have E2 := stop e2
  clear e1 e2 ho
  go_enter Tryz.func197, Tryz.ntmps197
  go_wp2_with fail
  refine (sign_any b s ms k g cap _ hr hk).mono ?_
  rintro e w1 ⟨n, rfl, rfl⟩
  go_wp2_with fail
  go_ret
  exact ⟨rfl, ⟨ms, k + 1, cap, hm, ⟨hk2, E2.out⟩, (hr.drewN n).set (by omega)⟩, ((Fr.refl _ _).drewN _).setCell _ _⟩

set_option maxHeartbeats 400000 in
theorem skip_no {b g : Nat} {s : ByteArray} {i c : Nat} {w : World} (hp : RS w b g s i) (hc : c < 128) (ho : onF s i (-1) c = false) :
    Calls Tryz.prog 197 #[.pointer (some ⟨b,0,none⟩), .int .i32 c] w fun e w' => e = .returned (.bool false) ∧ RS w' b g s i ∧ Fr b w w' := by
  have hp0 := stop hp
  obtain ⟨ms, k, cap, hm, ⟨hk, rfl⟩, hr⟩ := hp
  have e1' : ((ms[k].2 : Int) != (c : Int)) = true := by
    rw [bne_iff_ne]
    intro e
    have := onF1.2 ((hm.ascii k hk c hc).1 e)
    rw [ho] at this; cases this
  clear ho
  go_enter Tryz.func197, Tryz.ntmps197
  go_wp2_with fail
  refine (sign_any b s ms k g cap _ hr hk).mono ?_
  rintro e w1 ⟨n, rfl, rfl⟩
  go_wp2_with fail
  go_ret
  exact ⟨rfl, hp0.out.drewN n, (Fr.refl _ _).drewN _⟩

theorem brk_at {b g : Nat} {s : ByteArray} {i : Nat} {w : World} (hp : RS w b g s i) :
    Calls Tryz.prog 201 #[.pointer (some ⟨b,0,none⟩)] w fun e w' => e = .panicked (brk i) ∧ Fr b w w' := by
  obtain ⟨ms, k, cap, hm, ⟨hk, rfl⟩, hr⟩ := hp
  exact breakOff_any b s ms k g cap w hr hk

set_option maxHeartbeats 400000 in
theorem want_yes {b g : Nat} {s : ByteArray} {i c : Nat} {w : World} (hp : RS w b g s i) (hs : s.size ≤ 200000) (hc : c < 128) (ho : onF s i (-1) c = true) :
    Calls Tryz.prog 159 #[.pointer (some ⟨b,0,none⟩), .int .i32 c] w fun e w' => e = .returned (.tuple #[]) ∧ RS w' b g s (i + 1) ∧ Fr b w w' := by
  have HO := stop ho
  clear ho
  go_enter Tryz.func159, Tryz.ntmps159
  go_wp2_with fail
  refine (skip_yes hp hs hc HO.out).mono ?_
  rintro e w1 ⟨rfl, hp1, f1⟩
  go_wp2_with fail
  go_end0
  exact ⟨rfl, hp1, f1⟩

set_option maxHeartbeats 400000 in
theorem want_no {b g : Nat} {s : ByteArray} {i c : Nat} {w : World} (hp : RS w b g s i) (hc : c < 128) (ho : onF s i (-1) c = false) :
    Calls Tryz.prog 159 #[.pointer (some ⟨b,0,none⟩), .int .i32 c] w fun e w' => e = .panicked (brk i) ∧ Fr b w w' := by
  have HO := stop ho
  clear ho
  go_enter Tryz.func159, Tryz.ntmps159
  go_wp2_with fail
  refine (skip_no hp hc HO.out).mono ?_
  rintro e w1 ⟨rfl, hp1, f1⟩
  go_wp2_with fail
  refine (brk_at hp1).mono ?_
  rintro e w2 ⟨rfl, f2⟩
  go_wp2_with fail
  exact ⟨rfl, rfl, f1.trans f2⟩
end Go.Proofs.YtgfhfkgdmidhpaaGreatDoor

namespace Go.Proofs.YtgfhfkgdmidhpaaGreatDoor
open Go.RowKit

/-- What the sign at a place says of the bytes there. -/
structure SignAt (s : ByteArray) (i : Nat) (x : Int) : Prop where
  ascii : ∀ c : Nat, c < 128 → (x = (c : Int) ↔ i < s.size ∧ byt s i = c)
  cross : x = 215 ↔ i + 1 < s.size ∧ byt s i = 195 ∧ byt s (i + 1) = 151
  fin : x = -1 ↔ i = s.size
  wide : -1 ≤ x ∧ x < 2000000
theorem sign_of {b g : Nat} {s : ByteArray} {i : Nat} {w : World} (hp : RS w b g s i) :
    Calls Tryz.prog 158 #[.pointer (some ⟨b,0,none⟩)] w fun e w' => ∃ x, e = .returned (.int .i32 x) ∧ SignAt s i x ∧ RS w' b g s i ∧ Fr b w w' := by
  have hp0 := hp
  obtain ⟨ms, k, cap, hm, ⟨hk, rfl⟩, hr⟩ := hp
  refine (sign_any b s ms k g cap w hr hk).mono ?_
  rintro e w1 ⟨n, rfl, rfl⟩
  exact ⟨_, rfl, ⟨hm.ascii k hk, hm.cross k hk, hm.fin k hk, hm.wide k hk⟩, hp0.drewN n, (Fr.refl _ _).drewN _⟩
theorem at_of {b g : Nat} {s : ByteArray} {i : Nat} {w : World} (hp : RS w b g s i) :
    Calls Tryz.prog 196 #[.pointer (some ⟨b,0,none⟩)] w fun e w' => e = .returned (.int .i64 i) ∧ RS w' b g s i ∧ Fr b w w' := by
  have hp0 := hp
  obtain ⟨ms, k, cap, hm, ⟨hk, rfl⟩, hr⟩ := hp
  refine (at_any b s ms k g cap w hr hk).mono ?_
  rintro e w1 ⟨n, rfl, rfl⟩
  exact ⟨rfl, hp0.drewN n, (Fr.refl _ _).drewN _⟩
theorem SignAt.on {s i x} (h : SignAt s i x) {c : Nat} (hc : c < 128) : (x == (c : Int)) = onF s i (-1) c := by
  rw [Bool.eq_iff_iff, beq_iff_eq, h.ascii c hc, onF1]
theorem SignAt.dig {s i x} (h : SignAt s i x) : (decide (48 ≤ x) && decide (x ≤ 57)) = digF s i (-1) := by
  rw [Bool.eq_iff_iff]
  simp only [Bool.and_eq_true, decide_eq_true_eq, digF]
  constructor
  · rintro ⟨h1, h2⟩
    obtain ⟨c, rfl⟩ := Int.eq_ofNat_of_zero_le (show 0 ≤ x by omega)
    have := (h.ascii c (by omega)).1 rfl
    exact ⟨by omega, this.1, by omega, by omega⟩
  · rintro ⟨_, h1, h2, h3⟩
    have := (h.ascii (byt s i) (by omega)).2 ⟨h1, rfl⟩
    omega
theorem SignAt.val {s i x} (h : SignAt s i x) (hd : digF s i (-1) = true) : x = byt s i := by
  have := digF_elim hd
  exact (h.ascii (byt s i) (by omega)).2 ⟨this.2.1, rfl⟩

set_option maxHeartbeats 400000 in
theorem isDigit_any (x : Int) (w : World) :
    Calls Tryz.prog 244 #[.int .i32 x] w fun e w' => e = .returned (.bool (decide (48 ≤ x) && decide (x ≤ 57))) ∧ w' = w := by
  by_cases h : 48 ≤ x
  · go_enter Tryz.func244, Tryz.ntmps244
    go_wp2
    go_ret
    exact ⟨by simp [h], rfl⟩
  · go_enter Tryz.func244, Tryz.ntmps244
    go_wp2
    go_ret
    exact ⟨by simp; omega, rfl⟩
theorem isDigit_is {s i x} (h : SignAt s i x) {v : Bool} (hd : digF s i (-1) = v) (w : World) :
    Calls Tryz.prog 244 #[.int .i32 x] w fun e w' => e = .returned (.bool v) ∧ w' = w := by
  refine (isDigit_any x w).mono ?_
  rintro e w' ⟨rfl, rfl⟩
  exact ⟨by rw [h.dig, hd], rfl⟩

set_option maxHeartbeats 400000 in
theorem num_no {b g : Nat} {s : ByteArray} {i : Nat} {w : World} (hp : RS w b g s i) (hd : digF s i (-1) = false) :
    Calls Tryz.prog 218 #[.pointer (some ⟨b,0,none⟩)] w fun e w' => e = .panicked (brk i) ∧ Fr b w w' := by
  have HD := stop hd
  clear hd
  go_enter Tryz.func218, Tryz.ntmps218
  go_wp2_with fail
  refine (sign_of hp).mono ?_
  rintro e w1 ⟨x, rfl, hx, hp1, f1⟩
  have HX := stop hx
  clear hx
  go_wp2_with fail
  refine (isDigit_is HX.out HD.out _).mono ?_
  rintro e w2 ⟨rfl, rfl⟩
  go_wp2_with fail
  refine (brk_at hp1).mono ?_
  rintro e w3 ⟨rfl, f3⟩
  go_wp2_with fail
  exact ⟨rfl, rfl, f1.trans f3⟩

set_option maxRecDepth 100000 in
set_option maxHeartbeats 1000000 in
theorem num_yes {b g : Nat} {s : ByteArray} {i : Nat} {w : World} (hp : RS w b g s i) (hs : s.size ≤ 200000) (hd : digF s i (-1) = true) :
    Calls Tryz.prog 218 #[.pointer (some ⟨b,0,none⟩)] w fun e w' => e = .returned (.int .i64 (numN s i (-1))) ∧ RS w' b g s (numI s i (-1)) ∧ Fr b w w' := by
  have HN : Hid (numN s i (-1) = (numGo s (-1) i 4 i 0).1) := by simp [Hid, numN, hd]
  have HI : Hid (numI s i (-1) = (numGo s (-1) i 4 i 0).2) := by simp [Hid, numI, hd]
  have HD := stop hd
  go_enter Tryz.func218, Tryz.ntmps218
  go_wp2_with fail
  refine (sign_of hp).mono ?_
  rintro e w1 ⟨x, rfl, hx, hp1, f1⟩
  have HX := stop hx
  clear hx
  go_wp2_with fail
  refine (isDigit_is HX.out HD.out _).mono ?_
  rintro e w2 ⟨rfl, rfl⟩
  go_wp2_with fail
  cases h48 : onF s i (-1) 48 with
  | true =>
    have h0 : numGo s (-1) i 4 i 0 = (0, i + 1) := by
      have hb := (onF1.1 h48).2
      rw [numGo, hd]
      have : (true && (i == i || byt s i != 48)) = true := by simp
      rw [this, if_pos rfl, numGo_stop]
      · simp [hb]
      · simp [hb]
    have HN' : Hid (numN s i (-1) = 0) := by rw [HN.out, h0]; rfl
    have HI' : Hid (numI s i (-1) = i + 1) := by rw [HI.out, h0]; rfl
    clear h0 HN HI hd
    refine (skip_yes hp1 hs (by decide) h48).mono ?_
    rintro e w3 ⟨rfl, hp3, f3⟩
    clear h48
    go_wp2_with fail
    go_ret
    exact ⟨by rw [HN'.out]; rfl, by rw [HI'.out]; exact hp3, f1.trans f3⟩
  | false =>
    have hne : byt s i ≠ 48 := fun e => by
      have := onF1.2 ⟨(digF_elim hd).2.1, e⟩
      rw [h48] at this; cases this
    have HNE := stop hne
    refine (skip_no hp1 (by decide) h48).mono ?_
    rintro e w3 ⟨rfl, hp3, f3⟩
    have F := f1.trans f3
    clear h48 hne f1 f3 hp1
    go_wp2_with fail
    go_loopw [3, 4] (fun n c wr => ∃ j m : Nat, i ≤ j ∧ j ≤ i + 4 ∧ n = .int .i64 m ∧ c = .int .i64 ((j : Int) - i) ∧ Hid (m < 10 ^ (j - i)) ∧ Hid (numGo s (-1) i (i + 4 - j) j m = numGo s (-1) i 4 i 0) ∧ RS wr b g s j ∧ Hid (Fr b w wr)) (fun _ c _ => 4 - (intOf c).toNat)
    case atStart => exact ⟨i, 0, by omega, by omega, rfl, by go_num, by simp [Hid], by rw [show i + 4 - i = 4 from by omega]; rfl, hp3, F⟩
    case round =>
      obtain ⟨j, m, hij, hj4, rfl, rfl, HM, HG, hp4, F4⟩ := hrel
      clear hp hp3 F
      have hmb : (m : Int) < 10000 := by
        have : 10 ^ (j - i) ≤ 10 ^ 4 := Nat.pow_le_pow_right (by omega) (by omega)
        have := HM.out
        omega
      by_cases hlt : j < i + 4
      · cases hdj : digF s j (-1) with
        | true =>
          have HJ := stop hdj
          have hv := digF_elim hdj
          have HS := stop ((numGo_step (m := m) hlt hij (by rw [hdj]; simp [HNE.out])).symm.trans HG.out)
          have HP := stop (pow_bound hij HM.out _ hv.2.2.2)
          clear hdj hd
          go_wp2_with fail
          refine (sign_of hp4).mono ?_
          rintro e w5 ⟨x5, rfl, hx5, hp5, f5⟩
          have HX5 := stop hx5
          clear hx5
          go_wp2_with fail
          refine (isDigit_is HX5.out HJ.out _).mono ?_
          rintro e w6 ⟨rfl, rfl⟩
          go_wp2_with fail
          refine (sign_of hp5).mono ?_
          rintro e w7 ⟨x7, rfl, hx7, hp7, f7⟩
          have e7 := hx7.val HJ.out
          have hb1 := hv.2.2.1
          have hb2 := hv.2.2.2
          clear hx7 hv
          subst e7
          have h7a : (48 : Int) ≤ (byt s j : Int) := by omega
          have h7b : (byt s j : Int) ≤ 57 := by omega
          obtain ⟨ms, k, cap, hm, ⟨hk, hkj⟩, hr⟩ := hp7
          have HKJ := stop hkj
          have hml := hm.len
          have c2 := hr.c2
          have z2 := hr.fz 2
          clear hkj
          go_wp2_with fail
          have hnx := hm.next k hk (by have := (hm.ascii k hk (byt s j) (by omega)).2 (by rw [HKJ.out]; exact ⟨(digF_elim HJ.out).2.1, rfl⟩); omega) (by have := (hm.ascii k hk (byt s j) (by omega)).2 (by rw [HKJ.out]; exact ⟨(digF_elim HJ.out).2.1, rfl⟩); omega)
          obtain ⟨hk2, e2⟩ := hnx
          go_roundw
          case rel =>
            refine ⟨j + 1, 10 * m + (byt s j - 48), by omega, by omega, by go_num, by go_num, HP, HS, ⟨ms, k + 1, cap, hm, ⟨hk2, by rw [e2, HKJ.out]⟩, hr.set (by omega)⟩, ?_⟩
            exact (((F4.out.trans f5).trans f7).setCell _ _)
          case measure => simp [intOf]; omega
        | false =>
          have HJ := stop hdj
          have h0 := HG.out
          rw [numGo_stop _ (by rw [hdj]; rfl)] at h0
          have HN' : Hid (numN s i (-1) = m) := by rw [HN.out, ← h0]; rfl
          have HI' : Hid (numI s i (-1) = j) := by rw [HI.out, ← h0]; rfl
          clear hdj hd h0 HN HI HG
          go_wp2_with fail
          refine (sign_of hp4).mono ?_
          rintro e w5 ⟨x5, rfl, hx5, hp5, f5⟩
          have HX5 := stop hx5
          clear hx5
          go_wp2_with fail
          refine (isDigit_is HX5.out HJ.out _).mono ?_
          rintro e w6 ⟨rfl, rfl⟩
          go_wp2_with fail
          go_ret
          exact ⟨by rw [HN'.out]; rfl, by rw [HI'.out]; exact hp5, F4.out.trans f5⟩
      · have h0 := HG.out
        rw [show i + 4 - j = 0 from by omega] at h0
        have HN' : Hid (numN s i (-1) = m) := by rw [HN.out, ← h0]; rfl
        have HI' : Hid (numI s i (-1) = j) := by rw [HI.out, ← h0]; rfl
        clear hd h0 HN HI HG
        go_wp2_with fail
        go_ret
        exact ⟨by rw [HN'.out]; rfl, by rw [HI'.out]; exact hp4, F4.out⟩
end Go.Proofs.YtgfhfkgdmidhpaaGreatDoor

namespace Go.Proofs.YtgfhfkgdmidhpaaGreatDoor
open Go.RowKit

/-! Once a text has broken off, it stays so. -/
section sticky
variable {s : ByteArray} {i : Nat} {bad : Int} (h : 0 ≤ bad)
include h
theorem st_on {c : Nat} : onF s i bad c = false := by simp [onF]; omega
theorem st_dig : digF s i bad = false := by simp [digF]; omega
theorem st_fail : failB i bad = bad := by rw [failB, if_neg (by omega)]
theorem st_got {c : Nat} : gotI s i bad c = i := by rw [gotI, st_on h]; rfl
theorem st_must {c : Nat} : mustB s i bad c = bad := by rw [mustB, st_on h]; exact st_fail h
theorem st_numB : numB s i bad = bad := by rw [numB, st_dig h]; exact st_fail h
theorem st_numI : numI s i bad = i := by rw [numI, st_dig h]; rfl
theorem st_regB : regB s i bad = bad := by rw [regB, st_must h, st_numB h]
theorem st_opB : opB s i bad = bad := by simp [opB, st_on h]
theorem st_opC : opC s i bad = 0 := by simp [opC, st_on h]
theorem st_givB {to : Nat × Nat} : (givF s to i bad).bad = bad := by simp [givF, st_on h, st_numB h]
theorem st_braB {a : Nat × Nat} : (braF s a i bad).bad = bad := by simp [braF, st_must h, st_numB h]
end sticky
theorem st_choR {s : ByteArray} {c : Cho} (hc : 0 ≤ c.bad) : (choR s c).bad = c.bad := by simp [choR, st_numB hc, st_must hc, st_regB hc]
theorem st_cho {s : ByteArray} (k : Nat) {c : Cho} (hc : 0 ≤ c.bad) : (choGo s k c).bad = c.bad := by
  induction k generalizing c with
  | zero => rfl
  | succ k ih =>
    have h1 := st_choR (s := s) hc
    rw [choGo]
    have : onF s (choR s c).i (choR s c).bad 44 = false := st_on (by rw [h1]; exact hc)
    simp only [this]
    exact h1
theorem st_blk {s : ByteArray} {i0 : Nat} (k : Nat) {chs sts i} {bad : Int} (h : 0 ≤ bad) : (blkGo s i0 k chs sts i bad).bad = bad := by
  cases k with
  | zero => rfl
  | succ k => rw [blkGo, if_neg (by omega)]
/-- At the beginning it has not: -1; behind a step: -1, or a place. -/
theorem failB1 {i} : failB i (-1) = i := by simp [failB]
theorem mustB1 {s i c} : mustB s i (-1) c = if onF s i (-1) c then -1 else (i : Int) := by
  rw [mustB, failB1]
theorem numB1 {s i} : numB s i (-1) = if digF s i (-1) then -1 else (i : Int) := by
  rw [numB, failB1]
theorem regB1 {s i} : regB s i (-1) = if onF s i (-1) 114 then (if digF s (i + 1) (-1) then -1 else ((i + 1 : Nat) : Int)) else (i : Int) := by
  rw [regB, mustB1]
  cases h : onF s i (-1) 114 with
  | true => rw [if_pos rfl, if_pos rfl, gotI, if_pos h, numB1]
  | false => rw [if_neg (by simp), if_neg (by simp), st_numB (by omega)]
theorem regOk {s i} (h : regB s i (-1) < 0) : onF s i (-1) 114 = true ∧ digF s (i + 1) (-1) = true ∧ regB s i (-1) = -1 ∧ regN s i (-1) = numN s (i + 1) (-1) ∧ regI s i (-1) = numI s (i + 1) (-1) := by
  rw [regB1] at h
  cases h1 : onF s i (-1) 114 with
  | false => rw [h1, if_neg (by simp)] at h; omega
  | true =>
    rw [h1, if_pos rfl] at h
    cases h2 : digF s (i + 1) (-1) with
    | false => rw [h2, if_neg (by simp)] at h; omega
    | true =>
      have g1 : gotI s i (-1) 114 = i + 1 := by rw [gotI, if_pos h1]
      have g2 : mustB s i (-1) 114 = -1 := by rw [mustB, if_pos h1]
      exact ⟨rfl, rfl, by rw [regB1, h1, h2]; rfl, by rw [regN, g1, g2], by rw [regI, g1, g2]⟩

set_option maxHeartbeats 400000 in
theorem goal_yes {b g : Nat} {s : ByteArray} {i : Nat} {w : World} (hp : RS w b g s i) (hs : s.size ≤ 200000) (hd : digF s i (-1) = true) :
    Calls Tryz.prog 198 #[.pointer (some ⟨b,0,none⟩)] w fun e w' => e = .returned (.agg #[.int .i64 (numN s i (-1)), .int .i64 i]) ∧ RS w' b g s (numI s i (-1)) ∧ Fr b w w' := by
  have hl := hp.lt
  have hgl := hp.glt
  have hne : b ≠ w.heap.size := by omega
  have HD := stop hd
  clear hd
  go_enter Tryz.func198, Tryz.ntmps198
  go_wp2_with fail
  refine (at_of (hp.alloc _)).mono ?_
  rintro e w1 ⟨rfl, hp1, f1⟩
  go_wp2_with fail
  refine (num_yes hp1 hs HD.out).mono ?_
  rintro e w2 ⟨rfl, hp2, f2⟩
  have f3 := f1.trans f2
  have hk := f3.own hne
  have k0 := cell_of hk 0
  have k1 := cell_of hk 1
  have kf := frozen_of hk
  simp at k0 k1
  clear hk
  go_wp2_with fail
  refine bodyPost_ret (v := .agg #[.int .i64 (numN s i (-1)), .int .i64 i]) (by simp [results, Tryz.results198, go_sem, k0, k1]) rfl ⟨rfl, ?_, ?_⟩
  · exact (hp2.setk _ 0 _ hne (by omega)).setk _ 1 _ hne (by omega)
  · exact ((((Fr.refl _ _).alloc _).trans f3).setk _ 0 _ (Nat.le_refl _)).setk _ 1 _ (Nat.le_refl _)

set_option maxHeartbeats 400000 in
theorem goal_no {b g : Nat} {s : ByteArray} {i : Nat} {w : World} (hp : RS w b g s i) (hd : digF s i (-1) = false) :
    Calls Tryz.prog 198 #[.pointer (some ⟨b,0,none⟩)] w fun e w' => e = .panicked (brk i) ∧ Fr b w w' := by
  have HD := stop hd
  clear hd
  go_enter Tryz.func198, Tryz.ntmps198
  go_wp2_with fail
  refine (at_of (hp.alloc _)).mono ?_
  rintro e w1 ⟨rfl, hp1, f1⟩
  go_wp2_with fail
  refine (num_no hp1 HD.out).mono ?_
  rintro e w2 ⟨rfl, f2⟩
  go_wp2_with fail
  exact ⟨rfl, rfl, (((Fr.refl _ _).alloc _).trans f1).trans f2⟩

set_option maxHeartbeats 400000 in
theorem reg_yes {b g : Nat} {s : ByteArray} {i : Nat} {w : World} (hp : RS w b g s i) (hs : s.size ≤ 200000) (hd : regB s i (-1) < 0) :
    Calls Tryz.prog 199 #[.pointer (some ⟨b,0,none⟩)] w fun e w' => e = .returned (.agg #[.int .i64 (regN s i (-1)), .int .i64 i]) ∧ RS w' b g s (regI s i (-1)) ∧ Fr b w w' := by
  have hl := hp.lt
  have hgl := hp.glt
  have hne : b ≠ w.heap.size := by omega
  obtain ⟨h1, h2, _, h4, h5⟩ := regOk hd
  have H1 := stop h1
  have H2 := stop h2
  have H4 := stop h4
  have H5 := stop h5
  clear hd h1 h2 h4 h5
  go_enter Tryz.func199, Tryz.ntmps199
  go_wp2_with fail
  refine (at_of (hp.alloc _)).mono ?_
  rintro e w1 ⟨rfl, hp1, f1⟩
  go_wp2_with fail
  refine (want_yes (c := 114) hp1 hs (by decide) H1.out).mono ?_
  rintro e w2 ⟨rfl, hp2, f2⟩
  go_wp2_with fail
  refine (num_yes hp2 hs H2.out).mono ?_
  rintro e w3 ⟨rfl, hp3, f3⟩
  have f4 := (f1.trans f2).trans f3
  have hk := f4.own hne
  have k0 := cell_of hk 0
  have k1 := cell_of hk 1
  have kf := frozen_of hk
  simp at k0 k1
  clear hk
  go_wp2_with fail
  rw [H4.out, H5.out]
  refine bodyPost_ret (v := .agg #[.int .i64 (numN s (i + 1) (-1)), .int .i64 i]) (by simp [results, Tryz.results199, go_sem, k0, k1]) rfl ⟨rfl, ?_, ?_⟩
  · exact (hp3.setk _ 0 _ hne (by omega)).setk _ 1 _ hne (by omega)
  · exact ((((Fr.refl _ _).alloc _).trans f4).setk _ 0 _ (Nat.le_refl _)).setk _ 1 _ (Nat.le_refl _)

set_option maxHeartbeats 400000 in
theorem reg_no {b g : Nat} {s : ByteArray} {i : Nat} {w : World} (hp : RS w b g s i) (hs : s.size ≤ 200000) (hd : 0 ≤ regB s i (-1)) :
    Calls Tryz.prog 199 #[.pointer (some ⟨b,0,none⟩)] w fun e w' => e = .panicked (brk (regB s i (-1))) ∧ Fr b w w' := by
  rw [regB1] at hd ⊢
  cases h1 : onF s i (-1) 114 with
  | true =>
    rw [h1, if_pos rfl] at hd
    cases h2 : digF s (i + 1) (-1) with
    | true => rw [h2, if_pos rfl] at hd; omega
    | false =>
      rw [if_pos rfl, if_neg (by simp)]
      have H1 := stop h1
      have H2 := stop h2
      clear hd h1 h2
      go_enter Tryz.func199, Tryz.ntmps199
      go_wp2_with fail
      refine (at_of (hp.alloc _)).mono ?_
      rintro e w1 ⟨rfl, hp1, f1⟩
      go_wp2_with fail
      refine (want_yes (c := 114) hp1 hs (by decide) H1.out).mono ?_
      rintro e w2 ⟨rfl, hp2, f2⟩
      go_wp2_with fail
      refine (num_no hp2 H2.out).mono ?_
      rintro e w3 ⟨rfl, f3⟩
      go_wp2_with fail
      exact ⟨rfl, rfl, ((((Fr.refl _ _).alloc _).trans f1).trans f2).trans f3⟩
  | false =>
    rw [if_neg (by simp)]
    have H1 := stop h1
    clear hd h1
    go_enter Tryz.func199, Tryz.ntmps199
    go_wp2_with fail
    refine (at_of (hp.alloc _)).mono ?_
    rintro e w1 ⟨rfl, hp1, f1⟩
    go_wp2_with fail
    refine (want_no (c := 114) hp1 (by decide) H1.out).mono ?_
    rintro e w2 ⟨rfl, f2⟩
    go_wp2_with fail
    exact ⟨rfl, rfl, (((Fr.refl _ _).alloc _).trans f1).trans f2⟩
end Go.Proofs.YtgfhfkgdmidhpaaGreatDoor

namespace Go.Proofs.YtgfhfkgdmidhpaaGreatDoor
open Go.RowKit

theorem RS.drew {w b g s i} (h : RS w b g s i) : RS w.drew b g s i := by obtain ⟨ms, k, cap, a, c, h⟩ := h; exact ⟨ms, k, cap, a, c, ⟨h.B, h.M, h.N⟩⟩
def opNum (c : Nat) : Nat := if c = 43 then 0 else if c = 45 then 1 else if c = 42 then 2 else 3
def opX (x : Int) : Option Nat := if x = 43 then some 0 else if x = 45 then some 1 else if x = 42 then some 2 else if x = 215 then some 2 else if x = 60 then some 3 else none
def opXv (x : Int) : Value := .tuple #[.int .i64 ((opX x).getD 0 : Nat), .bool (opX x).isSome]

set_option maxHeartbeats 400000 in
theorem opOf_any (x : Int) (w : World) : Calls Tryz.prog 265 #[.int .i32 x] w fun e w' => e = .returned (opXv x) ∧ w' = w := by
  by_cases h1 : x = 43
  · have H : Hid (opXv x = .tuple #[.int .i64 0, .bool true]) := by simp [Hid, opXv, opX, h1]
    have t : (x == 43) = true := by simp [h1]
    clear h1
    go_enter Tryz.func265, Tryz.ntmps265
    go_wp2
    go_ret2
    exact ⟨by rw [H.out]; rfl, rfl⟩
  by_cases h2 : x = 45
  · have H : Hid (opXv x = .tuple #[.int .i64 1, .bool true]) := by simp [Hid, opXv, opX, h2]
    have t1 : (x == 43) = false := by simp [h1]
    have t2 : (x == 45) = true := by simp [h2]
    clear h1 h2
    go_enter Tryz.func265, Tryz.ntmps265
    go_wp2
    go_ret2
    exact ⟨by rw [H.out]; rfl, rfl⟩
  by_cases h3 : x = 42
  · have H : Hid (opXv x = .tuple #[.int .i64 2, .bool true]) := by simp [Hid, opXv, opX, h3]
    have t1 : (x == 43) = false := by simp [h1]
    have t2 : (x == 45) = false := by simp [h2]
    have t3 : (x == 42) = true := by simp [h3]
    clear h1 h2 h3
    go_enter Tryz.func265, Tryz.ntmps265
    go_wp2
    go_ret2
    exact ⟨by rw [H.out]; rfl, rfl⟩
  by_cases h4 : x = 215
  · have H : Hid (opXv x = .tuple #[.int .i64 2, .bool true]) := by simp [Hid, opXv, opX, h4]
    have t1 : (x == 43) = false := by simp [h1]
    have t2 : (x == 45) = false := by simp [h2]
    have t3 : (x == 42) = false := by simp [h3]
    have t4 : (x == 215) = true := by simp [h4]
    clear h1 h2 h3 h4
    go_enter Tryz.func265, Tryz.ntmps265
    go_wp2
    go_ret2
    exact ⟨by rw [H.out]; rfl, rfl⟩
  have t1 : (x == 43) = false := by simp [h1]
  have t2 : (x == 45) = false := by simp [h2]
  have t3 : (x == 42) = false := by simp [h3]
  have t4 : (x == 215) = false := by simp [h4]
  by_cases h5 : x = 60
  · have H : Hid (opXv x = .tuple #[.int .i64 3, .bool true]) := by simp [Hid, opXv, opX, h5]
    have t5 : (x == 60) = true := by simp [h5]
    clear h1 h2 h3 h4 h5
    go_enter Tryz.func265, Tryz.ntmps265
    go_wp2
    go_ret2
    exact ⟨by rw [H.out]; rfl, rfl⟩
  · have H : Hid (opXv x = .tuple #[.int .i64 0, .bool false]) := by simp [Hid, opXv, opX, h1, h2, h3, h4, h5]
    have t5 : (x == 60) = false := by simp [h5]
    clear h1 h2 h3 h4 h5
    go_enter Tryz.func265, Tryz.ntmps265
    go_wp2
    go_ret2
    exact ⟨by rw [H.out]; rfl, rfl⟩

theorem crossOn {s i} : (i + 1 < s.size ∧ byt s i = 195 ∧ byt s (i + 1) = 151) ↔ onF s i (-1) 195 = true ∧ onF s (i + 1) (-1) 151 = true := by
  rw [onF1, onF1]; constructor
  · rintro ⟨a, b, c⟩; exact ⟨⟨by omega, b⟩, a, c⟩
  · rintro ⟨⟨_, b⟩, a, c⟩; exact ⟨a, b, c⟩
theorem on_uniq {s i c d} (h : onF s i (-1) c = true) (hd : c ≠ d) : onF s i (-1) d = false := by
  rw [← Bool.not_eq_true, onF1]; rintro ⟨_, e⟩; exact hd ((onF1.1 h).2.symm.trans e)
/-- What the operator's sign says, against the bytes. -/
theorem SignAt.op {s i x} (h : SignAt s i x) : opX x = if opC s i (-1) ≠ 0 ∧ opB s i (-1) < 0 then some (opNum (opC s i (-1))) else none := by
  have a43 : x = 43 ↔ onF s i (-1) 43 = true := (h.ascii 43 (by decide)).trans (onF1 (c := 43)).symm
  have a45 : x = 45 ↔ onF s i (-1) 45 = true := (h.ascii 45 (by decide)).trans (onF1 (c := 45)).symm
  have a42 : x = 42 ↔ onF s i (-1) 42 = true := (h.ascii 42 (by decide)).trans (onF1 (c := 42)).symm
  have a60 : x = 60 ↔ onF s i (-1) 60 = true := (h.ascii 60 (by decide)).trans (onF1 (c := 60)).symm
  have a215 := h.cross.trans crossOn
  unfold opX opC opB
  cases h1 : onF s i (-1) 43 with
  | true => rw [if_pos (a43.2 h1)]; simp [opNum]
  | false =>
    rw [if_neg (fun e => by rw [a43.1 e] at h1; cases h1)]
    cases h2 : onF s i (-1) 45 with
    | true => rw [if_pos (a45.2 h2)]; simp [opNum]
    | false =>
      rw [if_neg (fun e => by rw [a45.1 e] at h2; cases h2)]
      cases h3 : onF s i (-1) 42 with
      | true => rw [if_pos (a42.2 h3)]; simp [opNum]
      | false =>
        rw [if_neg (fun e => by rw [a42.1 e] at h3; cases h3)]
        cases h4 : onF s i (-1) 60 with
        | true =>
          rw [if_neg (fun e => by have := (a215.1 e).1; rw [on_uniq h4 (by decide)] at this; cases this), if_pos (a60.2 h4)]; simp [opNum]
        | false =>
          cases h5 : onF s i (-1) 195 with
          | true =>
            rw [mustB1]
            cases h6 : onF s (i + 1) (-1) 151 with
            | true => rw [if_pos (a215.2 ⟨h5, h6⟩)]; simp [opNum]
            | false =>
              rw [if_neg (fun e => by have := (a215.1 e).2; rw [h6] at this; cases this), if_neg (fun e => by rw [a60.1 e] at h4; cases h4)]
              simp; omega
          | false =>
            rw [if_neg (fun e => by have := (a215.1 e).1; rw [h5] at this; cases this), if_neg (fun e => by rw [a60.1 e] at h4; cases h4)]
            simp
/-- The next mark behind an operator. -/
theorem op_next {s ms} (hm : Marks s ms) {k : Nat} (hk : k < ms.length) (h : (opX ms[k].2).isSome = true) : ∃ h2 : k + 1 < ms.length, ms[k + 1].1 = opI s ms[k].1 (-1) := by
  have hx : SignAt s ms[k].1 ms[k].2 := ⟨hm.ascii k hk, hm.cross k hk, hm.fin k hk, hm.wide k hk⟩
  have asc : ∀ c : Nat, c < 128 → ms[k].2 = (c : Int) → ∃ h2 : k + 1 < ms.length, ms[k + 1].1 = ms[k].1 + 1 := fun c hc e => hm.next k hk (by omega) (by omega)
  unfold opX at h
  unfold opI
  by_cases h1 : ms[k].2 = 43
  · rw [if_pos (onF1.2 ((hx.ascii 43 (by decide)).1 h1))]; exact asc 43 (by decide) h1
  rw [if_neg (fun e => h1 ((hx.ascii 43 (by decide)).2 (onF1.1 e)))]
  by_cases h2 : ms[k].2 = 45
  · rw [if_pos (onF1.2 ((hx.ascii 45 (by decide)).1 h2))]; exact asc 45 (by decide) h2
  rw [if_neg (fun e => h2 ((hx.ascii 45 (by decide)).2 (onF1.1 e)))]
  by_cases h3 : ms[k].2 = 42
  · rw [if_pos (onF1.2 ((hx.ascii 42 (by decide)).1 h3))]; exact asc 42 (by decide) h3
  rw [if_neg (fun e => h3 ((hx.ascii 42 (by decide)).2 (onF1.1 e)))]
  by_cases h5 : ms[k].2 = 60
  · rw [if_pos (onF1.2 ((hx.ascii 60 (by decide)).1 h5))]; exact asc 60 (by decide) h5
  rw [if_neg (fun e => h5 ((hx.ascii 60 (by decide)).2 (onF1.1 e)))]
  by_cases h4 : ms[k].2 = 215
  · have h6 := crossOn.1 (hx.cross.1 h4)
    rw [if_pos h6.1, gotI, if_pos h6.2]
    obtain ⟨a, b⟩ := hm.nextCross k hk h4
    exact ⟨a, by rw [b]⟩
  · simp [h1, h2, h3, h4, h5] at h

set_option maxHeartbeats 400000 in
theorem op_yes {b g : Nat} {s : ByteArray} {i : Nat} {w : World} (hp : RS w b g s i) (hs : s.size ≤ 200000) (h1 : opC s i (-1) ≠ 0) (h2 : opB s i (-1) < 0) :
    Calls Tryz.prog 258 #[.pointer (some ⟨b,0,none⟩)] w fun e w' => e = .returned (.int .i64 (opNum (opC s i (-1)))) ∧ RS w' b g s (opI s i (-1)) ∧ Fr b w w' := by
  obtain ⟨ms, k, cap, hm, ⟨hk, rfl⟩, hr⟩ := hp
  have hx : SignAt s ms[k].1 ms[k].2 := ⟨hm.ascii k hk, hm.cross k hk, hm.fin k hk, hm.wide k hk⟩
  have ho := hx.op
  rw [if_pos ⟨h1, h2⟩] at ho
  obtain ⟨hk2, e2⟩ := op_next hm hk (by rw [ho]; rfl)
  have E2 := stop e2
  have HV : Hid (opXv ms[k].2 = .tuple #[.int .i64 (opNum (opC s ms[k].1 (-1))), .bool true]) := by show _ = _; rw [opXv, ho]; rfl
  have hl := hm.len
  have c2 := hr.c2
  have z2 := hr.fz 2
  clear h1 h2 ho e2 hx
  go_enter Tryz.func258, Tryz.ntmps258
  go_wp2_with fail
  refine (sign_any b s ms k g cap _ hr hk).mono ?_
  rintro e w1 ⟨n, rfl, rfl⟩
  go_wp2_with fail
  refine (opOf_any _ _).mono ?_
  rintro e w1 ⟨rfl, rfl⟩
  rw [HV.out]
  go_wp2_with fail
  go_ret
  exact ⟨rfl, ⟨ms, k + 1, cap, hm, ⟨hk2, E2.out⟩, (hr.drewN n).set (by omega)⟩, ((Fr.refl _ _).drewN _).setCell _ _⟩

/-- Where a text without an operator breaks off. -/
def brkOp (s : ByteArray) (i : Nat) : Int := if onF s i (-1) 195 then ((i + 1 : Nat) : Int) else (i : Int)
set_option maxHeartbeats 400000 in
theorem breakOffOp_any {b g : Nat} {s : ByteArray} {i : Nat} {w : World} (hp : RS w b g s i) (hs : s.size ≤ 200000) :
    Calls Tryz.prog 266 #[.pointer (some ⟨b,0,none⟩)] w fun e w' => e = .panicked (brk (brkOp s i)) ∧ Fr b w w' := by
  have hle := hp.le
  rw [brkOp]
  cases ho : onF s i (-1) 195 with
  | true =>
    rw [if_pos rfl]
    have h1 := onF1.1 ho
    have hlt := h1.1
    have h3 : ((s[i].toNat : Int) == 195) = true := by have := h1.2; rw [byt_get hlt] at this; simp; omega
    clear ho h1
    go_enter Tryz.func266, Tryz.ntmps266
    go_wp2_with fail
    refine (at_of hp).mono ?_
    rintro e w1 ⟨rfl, hp1, f1⟩
    obtain ⟨ms, k, cap, hm, hkk, hr⟩ := hp1
    have c0 := hr.c0
    clear hm hkk
    go_wp2_with fail
    exact ⟨rfl, rfl, f1⟩
  | false =>
    rw [if_neg (by simp)]
    by_cases hlt : i < s.size
    · have h3 : ((s[i].toNat : Int) == 195) = false := by
        have : byt s i ≠ 195 := fun e => by rw [onF1.2 ⟨hlt, e⟩] at ho; cases ho
        rw [byt_get hlt] at this; simp; omega
      clear ho
      go_enter Tryz.func266, Tryz.ntmps266
      go_wp2_with fail
      refine (at_of hp).mono ?_
      rintro e w1 ⟨rfl, hp1, f1⟩
      have hp2 := stop hp1
      obtain ⟨ms, k, cap, hm, hkk, hr⟩ := hp1
      have c0 := hr.c0
      clear hm hkk hr
      go_wp2_with fail
      refine (brk_at hp2.out).mono ?_
      rintro e w2 ⟨rfl, f2⟩
      go_wp2_with fail
      exact ⟨rfl, rfl, f1.trans f2⟩
    · clear ho
      go_enter Tryz.func266, Tryz.ntmps266
      go_wp2_with fail
      refine (at_of hp).mono ?_
      rintro e w1 ⟨rfl, hp1, f1⟩
      have hp2 := stop hp1
      obtain ⟨ms, k, cap, hm, hkk, hr⟩ := hp1
      have c0 := hr.c0
      clear hm hkk hr
      go_wp2_with fail
      refine (brk_at hp2.out).mono ?_
      rintro e w2 ⟨rfl, f2⟩
      go_wp2_with fail
      exact ⟨rfl, rfl, f1.trans f2⟩

set_option maxHeartbeats 400000 in
theorem op_no {b g : Nat} {s : ByteArray} {i : Nat} {w : World} (hp : RS w b g s i) (hs : s.size ≤ 200000) (h1 : ¬ (opC s i (-1) ≠ 0 ∧ opB s i (-1) < 0)) :
    Calls Tryz.prog 258 #[.pointer (some ⟨b,0,none⟩)] w fun e w' => e = .panicked (brk (brkOp s i)) ∧ Fr b w w' := by
  have H1 := stop h1
  clear h1
  go_enter Tryz.func258, Tryz.ntmps258
  go_wp2_with fail
  refine (sign_of hp).mono ?_
  rintro e w1 ⟨x, rfl, hx, hp1, f1⟩
  have ho := hx.op
  rw [if_neg H1.out] at ho
  have HV : Hid (opXv x = .tuple #[.int .i64 0, .bool false]) := by show _ = _; rw [opXv, ho]; rfl
  clear hx ho H1
  go_wp2_with fail
  refine (opOf_any _ _).mono ?_
  rintro e w1 ⟨rfl, rfl⟩
  rw [HV.out]
  go_wp2_with fail
  refine (breakOffOp_any hp1 hs).mono ?_
  rintro e w2 ⟨rfl, f2⟩
  go_wp2_with fail
  exact ⟨rfl, rfl, f1.trans f2⟩
end Go.Proofs.YtgfhfkgdmidhpaaGreatDoor

namespace Go.Proofs.YtgfhfkgdmidhpaaGreatDoor
open Go.RowKit

/-- A call that panics: for a region that bears one way alone, a second one that never is. -/
theorem never {f : FuncId} {args : Array Value} {w : World} {R : Ending → World → Prop} (h : Calls Tryz.prog f args w R) (v : Value) : Calls Tryz.prog f args w fun e w' => R e w' ∨ (e = .returned v ∧ Hid False) :=
  h.mono fun _ _ h => .inl h
theorem Fr.cells {b : Nat} {w w' : World} (f : Fr b w w') {k : Nat} (hk : k < w.heap.size) (hb : k ≠ b) (o : Nat) : w'.cell? ⟨k, o, none⟩ = w.cell? ⟨k, o, none⟩ := f.cell hk hb

set_option maxHeartbeats 400000 in
theorem fr_copy {b g : Nat} {s : ByteArray} {i tn ta ln la : Nat} {w : World} (hp : RS w b g s i) (h59 : onF s i (-1) 59 = true) :
    Calls Tryz.prog 245 #[.pointer (some ⟨b,0,none⟩), .agg #[.int .i64 tn, .int .i64 ta], .agg #[.int .i64 ln, .int .i64 la]] w
      fun e w' => e = .returned (.iface 142 (.agg #[.int .i64 tn, .int .i64 ta, .int .i64 ln, .int .i64 la])) ∧ RS w' b g s i ∧ Fr b w w' := by
  have hl := hp.lt
  have hgl := hp.glt
  have H59 := stop h59
  clear h59
  go_enter Tryz.func245, Tryz.ntmps245
  go_wp2_with fail
  refine (sign_of ((hp.alloc _).alloc _)).mono ?_
  rintro e w1 ⟨x, rfl, hx, hp1, f1⟩
  have hx' : (x == 59) = true := by have := hx.on (c := 59) (by decide); rw [H59.out] at this; exact this
  have g0 : w1.heap[w.heap.size]? = some (.cells #[.int .i64 tn, .int .i64 ta] 132 (0, 0)) := blk_fr f1 (blk_alloc (heap_alloc_last w _) _) (by omega)
  have g1 : w1.heap[w.heap.size + 1]? = some (.cells #[.int .i64 ln, .int .i64 la] 132 (0, 0)) := blk_fr f1 (by simpa using heap_alloc_last (w.alloc _) _) (by omega)
  have q0 := cell_of g0
  have q1 := cell_of g1
  clear hx g0 g1
  go_wp2_with fail
  go_ret
  exact ⟨rfl, hp1, (((Fr.refl _ _).alloc _).alloc _).trans f1⟩

set_option maxHeartbeats 400000 in
theorem fr_no {b g : Nat} {s : ByteArray} {i tn ta ln la : Nat} {w : World} (hp : RS w b g s i) (hs : s.size ≤ 200000) (h59 : onF s i (-1) 59 = false) (h1 : ¬ (opC s i (-1) ≠ 0 ∧ opB s i (-1) < 0)) :
    Calls Tryz.prog 245 #[.pointer (some ⟨b,0,none⟩), .agg #[.int .i64 tn, .int .i64 ta], .agg #[.int .i64 ln, .int .i64 la]] w
      fun e w' => e = .panicked (brk (brkOp s i)) ∧ Fr b w w' := by
  have H59 := stop h59
  have H1 := stop h1
  clear h59 h1
  go_enter Tryz.func245, Tryz.ntmps245
  go_wp2_with fail
  refine (sign_of ((hp.alloc _).alloc _)).mono ?_
  rintro e w1 ⟨x, rfl, hx, hp1, f1⟩
  have hx' : (x == 59) = false := by have := hx.on (c := 59) (by decide); rw [H59.out] at this; exact this
  clear hx
  go_wp2_with fail
  refine (op_no hp1 hs H1.out).mono ?_
  rintro e w2 ⟨rfl, f2⟩
  go_wp2_with fail
  exact ⟨rfl, rfl, ((((Fr.refl _ _).alloc _).alloc _).trans f1).trans f2⟩

set_option maxHeartbeats 1000000 in
theorem fr_op {b g : Nat} {s : ByteArray} {i tn ta ln la : Nat} {w : World} (hp : RS w b g s i) (hs : s.size ≤ 200000) (h59 : onF s i (-1) 59 = false) (h1 : opC s i (-1) ≠ 0) (h2 : opB s i (-1) < 0) (h3 : regB s (opI s i (-1)) (-1) < 0) :
    Calls Tryz.prog 245 #[.pointer (some ⟨b,0,none⟩), .agg #[.int .i64 tn, .int .i64 ta], .agg #[.int .i64 ln, .int .i64 la]] w
      fun e w' => e = .returned (.iface 370 (.agg #[.int .i64 tn, .int .i64 ta, .int .i64 ln, .int .i64 la, .int .i64 (opNum (opC s i (-1))), .int .i64 (regN s (opI s i (-1)) (-1)), .int .i64 (opI s i (-1))])) ∧ RS w' b g s (regI s (opI s i (-1)) (-1)) ∧ Fr b w w' := by
  have hl := hp.lt
  have hgl := hp.glt
  have H59 := stop h59
  have H1 := stop h1
  have H2 := stop h2
  have H3 := stop h3
  clear h59 h1 h2 h3
  go_enter Tryz.func245, Tryz.ntmps245
  go_wp2_with fail
  refine (sign_of ((hp.alloc _).alloc _)).mono ?_
  rintro e w1 ⟨x, rfl, hx, hp1, f1⟩
  have hx' : (x == 59) = false := by have := hx.on (c := 59) (by decide); rw [H59.out] at this; exact this
  clear hx
  go_wp2_with fail
  refine (op_yes hp1 hs H1.out H2.out).mono ?_
  rintro e w2 ⟨rfl, hp2, f2⟩
  have f3 := f1.trans f2
  have g0 : w2.heap[w.heap.size]? = some (.cells #[.int .i64 tn, .int .i64 ta] 132 (0, 0)) := blk_fr f3 (blk_alloc (heap_alloc_last w _) _) (by omega)
  have g1 : w2.heap[w.heap.size + 1]? = some (.cells #[.int .i64 ln, .int .i64 la] 132 (0, 0)) := blk_fr f3 (by simpa using heap_alloc_last (w.alloc _) _) (by omega)
  have a0 := cell_of g0 0
  have a1 := cell_of g0 1
  have b0 := cell_of g1 0
  have b1 := cell_of g1 1
  simp at a0 a1 b0 b1
  have F := (((Fr.refl b w).alloc _).alloc _).trans f3
  have l0 := lt_of_block g0
  have l1 := lt_of_block g1
  have n0 : w.heap.size ≠ b := by omega
  have n1 : w.heap.size + 1 ≠ b := by omega
  clear f1 f2 f3 g0 g1 hx'
  go_wp2_with fail
  go_region_held3 (fun w' => w'.cell? ⟨w.heap.size, 0, none⟩ = some (.int .i64 tn) ∧ w'.cell? ⟨w.heap.size, 1, none⟩ = some (.int .i64 ta) ∧ w'.cell? ⟨w.heap.size + 1, 0, none⟩ = some (.int .i64 ln) ∧ w'.cell? ⟨w.heap.size + 1, 1, none⟩ = some (.int .i64 la)) (simp [*])
    (first | (go_at_call 199; refine (reg_yes (RS.drew hp2) hs H3.out).mono ?_; rintro e w5 ⟨rfl, hp5, f5⟩; have y0 := f5.cells (k := w.heap.size) l0 n0; have y1 := f5.cells (k := w.heap.size + 1) l1 n1))
  go_wp2_with fail
  go_ret
  exact ⟨rfl, hp5, F.drew.trans f5⟩

set_option maxHeartbeats 1000000 in
theorem fr_opbad {b g : Nat} {s : ByteArray} {i tn ta ln la : Nat} {w : World} (hp : RS w b g s i) (hs : s.size ≤ 200000) (h59 : onF s i (-1) 59 = false) (h1 : opC s i (-1) ≠ 0) (h2 : opB s i (-1) < 0) (h3 : 0 ≤ regB s (opI s i (-1)) (-1)) :
    Calls Tryz.prog 245 #[.pointer (some ⟨b,0,none⟩), .agg #[.int .i64 tn, .int .i64 ta], .agg #[.int .i64 ln, .int .i64 la]] w
      fun e w' => e = .panicked (brk (regB s (opI s i (-1)) (-1))) ∧ Fr b w w' := by
  have hl := hp.lt
  have hgl := hp.glt
  have H59 := stop h59
  have H1 := stop h1
  have H2 := stop h2
  have H3 := stop h3
  clear h59 h1 h2 h3
  go_enter Tryz.func245, Tryz.ntmps245
  go_wp2_with fail
  refine (sign_of ((hp.alloc _).alloc _)).mono ?_
  rintro e w1 ⟨x, rfl, hx, hp1, f1⟩
  have hx' : (x == 59) = false := by have := hx.on (c := 59) (by decide); rw [H59.out] at this; exact this
  clear hx
  go_wp2_with fail
  refine (op_yes hp1 hs H1.out H2.out).mono ?_
  rintro e w2 ⟨rfl, hp2, f2⟩
  have f3 := f1.trans f2
  have g0 : w2.heap[w.heap.size]? = some (.cells #[.int .i64 tn, .int .i64 ta] 132 (0, 0)) := blk_fr f3 (blk_alloc (heap_alloc_last w _) _) (by omega)
  have g1 : w2.heap[w.heap.size + 1]? = some (.cells #[.int .i64 ln, .int .i64 la] 132 (0, 0)) := blk_fr f3 (by simpa using heap_alloc_last (w.alloc _) _) (by omega)
  have a0 := cell_of g0 0
  have a1 := cell_of g0 1
  have b0 := cell_of g1 0
  have b1 := cell_of g1 1
  simp at a0 a1 b0 b1
  have F := (((Fr.refl b w).alloc _).alloc _).trans f3
  have l0 := lt_of_block g0
  have l1 := lt_of_block g1
  have n0 : w.heap.size ≠ b := by omega
  have n1 : w.heap.size + 1 ≠ b := by omega
  clear f1 f2 f3 g0 g1 hx'
  go_wp2_with fail
  go_region_held (fun w' => w'.cell? ⟨w.heap.size, 0, none⟩ = some (.int .i64 tn) ∧ w'.cell? ⟨w.heap.size, 1, none⟩ = some (.int .i64 ta) ∧ w'.cell? ⟨w.heap.size + 1, 0, none⟩ = some (.int .i64 ln) ∧ w'.cell? ⟨w.heap.size + 1, 1, none⟩ = some (.int .i64 la)) (first | exact (Hid.out ‹Hid False›).elim | simp [*])
    (first | (go_at_call 199; refine (never (reg_no (RS.drew hp2) hs H3.out) (.agg #[.int .i64 0, .int .i64 0])).mono ?_; rintro e w5 (⟨rfl, f5⟩ | ⟨rfl, hF⟩); exact ⟨rfl, rfl, F.drew.trans f5⟩))
  all_goals exact (Hid.out ‹Hid False›).elim
end Go.Proofs.YtgfhfkgdmidhpaaGreatDoor
