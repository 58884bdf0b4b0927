import Derived.Test.YtjimoigbdcalpaaTq
import Derived.Deep.RegionHeld3
namespace Go.Proofs.Ytjimoigbdcalpaa
open Go.RowKit

/-- A mark: its place and its sign. -/
def mc (x : Nat × Int) : List Value := [.int .i64 x.1, .int .i32 x.2]
def mcs (l : List (Nat × Int)) : List Value := l.flatMap mc
theorem mcs_at {l : List (Nat × Int)} {j : Nat} (hj : j < l.length) : (mcs l)[j * 2]? = some (.int .i64 l[j].1) ∧ (mcs l)[j * 2 + 1]? = some (.int .i32 l[j].2) := by
  have h : ∀ x ∈ l.map mc, x.length = 2 := by intro x hx; simp at hx; obtain ⟨a, b, _, rfl⟩ := hx; rfl
  have hk : (l.map mc)[j]? = some (mc l[j]) := by simp [hj]
  rw [mcs, List.flatMap_def]
  exact ⟨flat_get 2 _ j 0 _ h hk (by omega), flat_get 2 _ j 1 _ h hk (by omega)⟩
/-- The reader at block b: the text, the marks, the number of the next one. -/
structure RdAt (w : World) (b : Nat) (s : ByteArray) (ms : List (Nat × Int)) (k : Nat) (g cap : Nat) : Prop where
  B : ∃ t, w.heap[b]? = some (.cells #[.string s, .slice (some ⟨g, 0, none⟩) ms.length cap, .int .i64 k] t (0, 0))
  M : w.ownsRow 0 91 2 (.slice (some ⟨g, 0, none⟩) ms.length cap) ms.length (mcs ms)
  N : g ≠ b
theorem RdAt.c0 {w b s ms k g cap} (h : RdAt w b s ms k g cap) : w.cell? ⟨b, 0, none⟩ = some (.string s) := by obtain ⟨⟨t, h⟩, _⟩ := h; simp [World.cell?, h]
theorem RdAt.c1 {w b s ms k g cap} (h : RdAt w b s ms k g cap) : w.cell? ⟨b, 1, none⟩ = some (.slice (some ⟨g, 0, none⟩) ms.length cap) := by obtain ⟨⟨t, h⟩, _⟩ := h; simp [World.cell?, h]
theorem RdAt.c2 {w b s ms k g cap} (h : RdAt w b s ms k g cap) : w.cell? ⟨b, 2, none⟩ = some (.int .i64 k) := by obtain ⟨⟨t, h⟩, _⟩ := h; simp [World.cell?, h]
theorem RdAt.fz {w b s ms k g cap} (h : RdAt w b s ms k g cap) (o : Nat) : w.frozen? ⟨b, o, none⟩ = false := by obtain ⟨⟨t, h⟩, _⟩ := h; simp [World.frozen?, h]
theorem RdAt.lt {w b s ms k g cap} (h : RdAt w b s ms k g cap) : b < w.heap.size := by obtain ⟨⟨t, h⟩, _⟩ := h; exact lt_of_block h
theorem RdAt.glt {w b s ms k g cap} (h : RdAt w b s ms k g cap) : g < w.heap.size := (h.M.lt g rfl).2
theorem RdAt.m0 {w b s ms k g cap} (h : RdAt w b s ms k g cap) {j : Nat} (hj : j < ms.length) : w.cell? ⟨g, j * 2, none⟩ = some (.int .i64 ms[j].1) := owns_cell h.M (mcs_at hj).1
theorem RdAt.m1 {w b s ms k g cap} (h : RdAt w b s ms k g cap) {j : Nat} (hj : j < ms.length) : w.cell? ⟨g, j * 2 + 1, none⟩ = some (.int .i32 ms[j].2) := owns_cell h.M (mcs_at hj).2
theorem RdAt.drewN {w b s ms k g cap} (h : RdAt w b s ms k g cap) (n : Nat) : RdAt (w.drewN n) b s ms k g cap := ⟨h.B, h.M, h.N⟩
theorem RdAt.alloc {w b s ms k g cap} (h : RdAt w b s ms k g cap) (o : Obj) : RdAt (w.alloc o) b s ms k g cap :=
  ⟨let ⟨t, hb⟩ := h.B; ⟨t, blk_alloc hb o⟩, h.M.alloc o, h.N⟩
theorem owns_block_kept {w w' : World} {base e size g n cap xs} (h : w.ownsRow base e size (.slice (some ⟨g, 0, none⟩) n cap) n xs) (hk : w'.heap[g]? = w.heap[g]?) : w'.ownsRow base e size (.slice (some ⟨g, 0, none⟩) n cap) n xs := by
  obtain ⟨h1, h2⟩ := h
  refine ⟨h1, ?_⟩
  rcases h2 with ⟨h0, _⟩ | ⟨g', cap', cur, hv, a, c, d⟩
  · cases h0
  · cases hv; exact .inr ⟨g, cap, cur, rfl, a, hk.trans c, d⟩
theorem RdAt.set {w b s ms k g cap} (h : RdAt w b s ms k g cap) {j : Nat} {v : Int} (hv : v = j) : RdAt (w.setCell ⟨b, 2, none⟩ (.int .i64 v)) b s ms j g cap := by
  subst hv
  refine ⟨?_, owns_block_kept h.M (Below.heap_setCell _ _ _ _ h.N), h.N⟩
  obtain ⟨t, hb⟩ := h.B
  exact ⟨t, blk_set hb 2 _⟩
theorem RdAt.setk {w b s ms k g cap} (h : RdAt w b s ms k g cap) (j o : Nat) (x : Value) (hj : b ≠ j) (hg : g ≠ j) : RdAt (w.setCell ⟨j, o, none⟩ x) b s ms k g cap := by
  refine ⟨?_, owns_block_kept h.M (Below.heap_setCell _ _ _ _ hg), h.N⟩
  obtain ⟨t, hb⟩ := h.B
  exact ⟨t, blk_setOther hb hj o x⟩
theorem RdAt.grown {w w' : World} {b s ms k g cap} {row : Option Nat} (h : RdAt w b s ms k g cap) (hg : w.grownBy w' row) (hr : ∀ j, row = some j → b ≠ j ∧ g ≠ j) : RdAt w' b s ms k g cap := by
  refine ⟨?_, owns_block_kept h.M (hg.block g h.glt (fun e => (hr g e.symm).2 rfl)), h.N⟩
  obtain ⟨t, hb⟩ := h.B
  exact ⟨t, blk_grown hg hb (fun j hj => (hr j hj).1)⟩

/-- What the marks of a text are. -/
structure Marks (s : ByteArray) (ms : List (Nat × Int)) : Prop where
  pos : 0 < ms.length
  first : ∀ h : 0 < ms.length, ms[0].1 = 0
  le : ∀ k, (h : k < ms.length) → ms[k].1 ≤ s.size
  len : ms.length ≤ s.size + 1
  ascii : ∀ k, (h : k < ms.length) → ∀ c : Nat, c < 128 → (ms[k].2 = (c : Int) ↔ ms[k].1 < s.size ∧ byt s ms[k].1 = c)
  next : ∀ k, (h : k < ms.length) → 0 ≤ ms[k].2 → ms[k].2 < 128 → ∃ h2 : k + 1 < ms.length, ms[k + 1].1 = ms[k].1 + 1
  cross : ∀ k, (h : k < ms.length) → (ms[k].2 = 215 ↔ ms[k].1 + 1 < s.size ∧ byt s ms[k].1 = 195 ∧ byt s (ms[k].1 + 1) = 151)
  nextCross : ∀ k, (h : k < ms.length) → ms[k].2 = 215 → ∃ h2 : k + 1 < ms.length, ms[k + 1].1 = ms[k].1 + 2
  fin : ∀ k, (h : k < ms.length) → (ms[k].2 = -1 ↔ ms[k].1 = s.size)
  wide : ∀ k, (h : k < ms.length) → -1 ≤ ms[k].2 ∧ ms[k].2 < 2000000

set_option maxHeartbeats 400000 in
theorem sign_any (b : Nat) (s : ByteArray) (ms : List (Nat × Int)) (k g cap : Nat) (w : World) (hp : RdAt w b s ms k g cap) (hk : k < ms.length) :
    Calls Try.prog 29 #[.pointer (some ⟨b,0,none⟩)] w fun e w' => ∃ n, e = .returned (.int .i32 ms[k].2) ∧ w' = w.drewN n := by
  have h1 := hp.c1
  have h2 := hp.c2
  have h3 := hp.m1 hk
  have hk1 : (k : Int) < (ms.length : Int) := by omega
  clear hp
  go_enter Try.func29, Try.ntmps29
  go_wp2
  go_quiet (fail)
  go_wp2
  go_ret
  exact ⟨_, rfl, rfl⟩

set_option maxHeartbeats 400000 in
theorem at_any (b : Nat) (s : ByteArray) (ms : List (Nat × Int)) (k g cap : Nat) (w : World) (hp : RdAt w b s ms k g cap) (hk : k < ms.length) :
    Calls Try.prog 44 #[.pointer (some ⟨b,0,none⟩)] w fun e w' => ∃ n, e = .returned (.int .i64 ms[k].1) ∧ w' = w.drewN n := by
  have h1 := hp.c1
  have h2 := hp.c2
  have h3 := hp.m0 hk
  have hk1 : (k : Int) < (ms.length : Int) := by omega
  clear hp
  go_enter Try.func44, Try.ntmps44
  go_wp2
  go_quiet (fail)
  go_wp2
  go_ret
  exact ⟨_, rfl, rfl⟩

/-- What a reader gives up with. -/
def brk (p : Int) : List PanicEntry := [{ v := .iface 59 (.agg #[.int .i64 p]), recovered := false }]

set_option maxHeartbeats 400000 in
theorem breakOff_any (b : Nat) (s : ByteArray) (ms : List (Nat × Int)) (k g cap : Nat) (w : World) (hp : RdAt w b s ms k g cap) (hk : k < ms.length) :
    Calls Try.prog 49 #[.pointer (some ⟨b,0,none⟩)] w fun e w' => e = .panicked (brk ms[k].1) ∧ Fr b w w' := by
  go_enter Try.func49, Try.ntmps49
  go_wp2_with fail
  refine (at_any b s ms k g cap _ hp hk).mono ?_
  rintro e w1 ⟨n, rfl, rfl⟩
  go_wp2_with fail
  exact ⟨rfl, rfl, (Fr.refl _ _).drewN _⟩

/-- The reader stands at the place i of a text. -/
def RS (w : World) (b g : Nat) (s : ByteArray) (i : Nat) : Prop := ∃ ms k cap, Marks s ms ∧ (∃ h : k < ms.length, ms[k].1 = i) ∧ RdAt w b s ms k g cap
theorem RS.lt {w b g s i} (h : RS w b g s i) : b < w.heap.size := by obtain ⟨ms, k, cap, _, _, h⟩ := h; exact h.lt
theorem RS.glt {w b g s i} (h : RS w b g s i) : g < w.heap.size := by obtain ⟨ms, k, cap, _, _, h⟩ := h; exact h.glt
theorem RS.gne {w b g s i} (h : RS w b g s i) : g ≠ b := by obtain ⟨ms, k, cap, _, _, h⟩ := h; exact h.N
theorem RS.le {w b g s i} (h : RS w b g s i) : i ≤ s.size := by obtain ⟨ms, k, cap, hm, ⟨hk, rfl⟩, _⟩ := h; exact hm.le k hk
theorem RS.drewN {w b g s i} (h : RS w b g s i) (n : Nat) : RS (w.drewN n) b g s i := by obtain ⟨ms, k, cap, a, c, h⟩ := h; exact ⟨ms, k, cap, a, c, h.drewN n⟩
theorem RS.alloc {w b g s i} (h : RS w b g s i) (o : Obj) : RS (w.alloc o) b g s i := by obtain ⟨ms, k, cap, a, c, h⟩ := h; exact ⟨ms, k, cap, a, c, h.alloc o⟩
theorem RS.setk {w b g s i} (h : RS w b g s i) (j o : Nat) (x : Value) (hj : b ≠ j) (hg : g ≠ j) : RS (w.setCell ⟨j, o, none⟩ x) b g s i := by obtain ⟨ms, k, cap, a, c, h⟩ := h; exact ⟨ms, k, cap, a, c, h.setk j o x hj hg⟩
theorem RS.grown {w w' : World} {b g s i} {row : Option Nat} (h : RS w b g s i) (hg : w.grownBy w' row) (hr : ∀ j, row = some j → b ≠ j ∧ g ≠ j) : RS w' b g s i := by obtain ⟨ms, k, cap, a, c, h⟩ := h; exact ⟨ms, k, cap, a, c, h.grown hg hr⟩
theorem onF1 {s i c} : onF s i (-1) c = true ↔ i < s.size ∧ byt s i = c := by simp [onF]

set_option maxHeartbeats 400000 in
theorem skip_yes {b g : Nat} {s : ByteArray} {i c : Nat} {w : World} (hp : RS w b g s i) (hs : s.size ≤ 200000) (hc : c < 128) (ho : onF s i (-1) c = true) :
    Calls Try.prog 45 #[.pointer (some ⟨b,0,none⟩), .int .i32 c] w fun e w' => e = .returned (.bool true) ∧ RS w' b g s (i + 1) ∧ Fr b w w' := by
  obtain ⟨ms, k, cap, hm, ⟨hk, rfl⟩, hr⟩ := hp
  have e1 := (hm.ascii k hk c hc).2 (onF1.1 ho)
  obtain ⟨hk2, e2⟩ := hm.next k hk (by omega) (by omega)
  have h2 := hr.c2
  have h3 := hr.fz 2
  have hl := hm.len
  have e1' : ((ms[k].2 : Int) != (c : Int)) = false := by simp [e1]
  have E2 := stop e2
  clear e1 e2 ho
  go_enter Try.func45, Try.ntmps45
  go_wp2_with fail
  refine (sign_any b s ms k g cap _ hr hk).mono ?_
  rintro e w1 ⟨n, rfl, rfl⟩
  go_wp2_with fail
  go_ret
  exact ⟨rfl, ⟨ms, k + 1, cap, hm, ⟨hk2, E2.out⟩, (hr.drewN n).set (by omega)⟩, ((Fr.refl _ _).drewN _).setCell _ _⟩

set_option maxHeartbeats 400000 in
theorem skip_no {b g : Nat} {s : ByteArray} {i c : Nat} {w : World} (hp : RS w b g s i) (hc : c < 128) (ho : onF s i (-1) c = false) :
    Calls Try.prog 45 #[.pointer (some ⟨b,0,none⟩), .int .i32 c] w fun e w' => e = .returned (.bool false) ∧ RS w' b g s i ∧ Fr b w w' := by
  have hp0 := stop hp
  obtain ⟨ms, k, cap, hm, ⟨hk, rfl⟩, hr⟩ := hp
  have e1' : ((ms[k].2 : Int) != (c : Int)) = true := by
    rw [bne_iff_ne]
    intro e
    have := onF1.2 ((hm.ascii k hk c hc).1 e)
    rw [ho] at this; cases this
  clear ho
  go_enter Try.func45, Try.ntmps45
  go_wp2_with fail
  refine (sign_any b s ms k g cap _ hr hk).mono ?_
  rintro e w1 ⟨n, rfl, rfl⟩
  go_wp2_with fail
  go_ret
  exact ⟨rfl, hp0.out.drewN n, (Fr.refl _ _).drewN _⟩

theorem brk_at {b g : Nat} {s : ByteArray} {i : Nat} {w : World} (hp : RS w b g s i) :
    Calls Try.prog 49 #[.pointer (some ⟨b,0,none⟩)] w fun e w' => e = .panicked (brk i) ∧ Fr b w w' := by
  obtain ⟨ms, k, cap, hm, ⟨hk, rfl⟩, hr⟩ := hp
  exact breakOff_any b s ms k g cap w hr hk

set_option maxHeartbeats 400000 in
theorem want_yes {b g : Nat} {s : ByteArray} {i c : Nat} {w : World} (hp : RS w b g s i) (hs : s.size ≤ 200000) (hc : c < 128) (ho : onF s i (-1) c = true) :
    Calls Try.prog 30 #[.pointer (some ⟨b,0,none⟩), .int .i32 c] w fun e w' => e = .returned (.tuple #[]) ∧ RS w' b g s (i + 1) ∧ Fr b w w' := by
  have HO := stop ho
  clear ho
  go_enter Try.func30, Try.ntmps30
  go_wp2_with fail
  refine (skip_yes hp hs hc HO.out).mono ?_
  rintro e w1 ⟨rfl, hp1, f1⟩
  go_wp2_with fail
  go_end0
  exact ⟨rfl, hp1, f1⟩

set_option maxHeartbeats 400000 in
theorem want_no {b g : Nat} {s : ByteArray} {i c : Nat} {w : World} (hp : RS w b g s i) (hc : c < 128) (ho : onF s i (-1) c = false) :
    Calls Try.prog 30 #[.pointer (some ⟨b,0,none⟩), .int .i32 c] w fun e w' => e = .panicked (brk i) ∧ Fr b w w' := by
  have HO := stop ho
  clear ho
  go_enter Try.func30, Try.ntmps30
  go_wp2_with fail
  refine (skip_no hp hc HO.out).mono ?_
  rintro e w1 ⟨rfl, hp1, f1⟩
  go_wp2_with fail
  refine (brk_at hp1).mono ?_
  rintro e w2 ⟨rfl, f2⟩
  go_wp2_with fail
  exact ⟨rfl, rfl, f1.trans f2⟩
end Go.Proofs.Ytjimoigbdcalpaa
