import Derived.Test.YtjimoigbdcalpaaRows
import Derived.WalkKit
import Derived.WalkSpells
import Derived.WalkLawsBesides
import Derived.Deep.QuietTactic
import Derived.BigQuiet
namespace Go.Proofs.Ytjimoigbdcalpaa
open Go.RowKit

/-- All blocks that were there, but for block b, are as they were. -/
structure Fr (b : Nat) (w w' : World) : Prop where
  os : w'.os = w.os
  tape : w'.tape = w.tape
  output : w'.output = w.output
  size : w.heap.size ≤ w'.heap.size
  block : ∀ k, k < w.heap.size → k ≠ b → w'.heap[k]? = w.heap[k]?

theorem Fr.refl (b : Nat) (w : World) : Fr b w w := ⟨rfl, rfl, rfl, Nat.le_refl _, fun _ _ _ => rfl⟩
theorem Fr.trans {b : Nat} {u v w : World} (h : Fr b u v) (k : Fr b v w) : Fr b u w :=
  ⟨k.os.trans h.os, k.tape.trans h.tape, k.output.trans h.output, Nat.le_trans h.size k.size, fun i hi hb => (k.block i (Nat.lt_of_lt_of_le hi h.size) hb).trans (h.block i hi hb)⟩
theorem Fr.drew {b : Nat} {u v : World} (h : Fr b u v) : Fr b u v.drew := ⟨h.os, h.tape, h.output, h.size, h.block⟩
theorem Fr.drewN {b : Nat} {u v : World} (h : Fr b u v) (n : Nat) : Fr b u (v.drewN n) := ⟨h.os, h.tape, h.output, h.size, h.block⟩
theorem Fr.setCell {b : Nat} {u v : World} (h : Fr b u v) (o : Nat) (x : Value) : Fr b u (v.setCell ⟨b, o, none⟩ x) :=
  h.trans ⟨rfl, rfl, rfl, by simp [World.setCell], fun k _ hb => Below.heap_setCell _ _ _ _ hb⟩
theorem Fr.alloc {b : Nat} {u v : World} (h : Fr b u v) (o : Obj) : Fr b u (v.alloc o) :=
  h.trans ⟨rfl, rfl, rfl, by simp, fun k hk _ => Below.heap_alloc _ _ _ hk⟩
/-- A store into a block that was not there. -/
theorem Fr.setNew {b : Nat} {u v : World} (h : Fr b u v) {a : Addr} (ha : u.heap.size ≤ a.block) (x : Value) : Fr b u (v.setCell a x) :=
  ⟨h.os, h.tape, h.output, by simpa [World.setCell] using h.size, fun k hk hb => (Below.heap_setCell _ _ _ _ (by omega)).trans (h.block k hk hb)⟩
theorem Fr.cell {b : Nat} {u v : World} (h : Fr b u v) {k o : Nat} (hk : k < u.heap.size) (hb : k ≠ b) : v.cell? ⟨k, o, none⟩ = u.cell? ⟨k, o, none⟩ :=
  World.cell?_of_block (w := u) (h.block k hk hb)
theorem Fr.frozen {b : Nat} {u v : World} (h : Fr b u v) {k o : Nat} (hk : k < u.heap.size) (hb : k ≠ b) : v.frozen? ⟨k, o, none⟩ = u.frozen? ⟨k, o, none⟩ :=
  World.frozen?_of_block (w := u) (h.block k hk hb)

/-- The pen at block b. -/
def PenAt (w : World) (b : Nat) (s : ByteArray) (i : Nat) (bad : Int) : Prop :=
  ∃ t, w.heap[b]? = some (.cells #[.string s, .int .i64 i, .int .i64 bad] t (0, 0))
theorem PenAt.c0 {w b s i bad} (h : PenAt w b s i bad) : w.cell? ⟨b, 0, none⟩ = some (.string s) := by
  obtain ⟨t, h⟩ := h; simp [World.cell?, h]
theorem PenAt.c1 {w b s i bad} (h : PenAt w b s i bad) : w.cell? ⟨b, 1, none⟩ = some (.int .i64 i) := by
  obtain ⟨t, h⟩ := h; simp [World.cell?, h]
theorem PenAt.c2 {w b s i bad} (h : PenAt w b s i bad) : w.cell? ⟨b, 2, none⟩ = some (.int .i64 bad) := by
  obtain ⟨t, h⟩ := h; simp [World.cell?, h]
theorem PenAt.fz {w b s i bad} (h : PenAt w b s i bad) (o : Nat) : w.frozen? ⟨b, o, none⟩ = false := by
  obtain ⟨t, h⟩ := h; simp [World.frozen?, h]
theorem PenAt.lt {w b s i bad} (h : PenAt w b s i bad) : b < w.heap.size := by
  obtain ⟨t, h⟩ := h
  rcases Nat.lt_or_ge b w.heap.size with g | g
  · exact g
  · rw [Array.getElem?_eq_none g] at h; cases h
theorem PenAt.drewN {w b s i bad} (h : PenAt w b s i bad) (n : Nat) : PenAt (w.drewN n) b s i bad := h
theorem PenAt.set1 {w b s i bad} (h : PenAt w b s i bad) (j : Nat) : PenAt (w.setCell ⟨b, 1, none⟩ (.int .i64 j)) b s j bad := by
  obtain ⟨t, h⟩ := h; exact ⟨t, by simp [World.setCell, Array.getElem?_modify, h]⟩
theorem PenAt.set2 {w b s i bad} (h : PenAt w b s i bad) (j : Int) : PenAt (w.setCell ⟨b, 2, none⟩ (.int .i64 j)) b s i j := by
  obtain ⟨t, h⟩ := h; exact ⟨t, by simp [World.setCell, Array.getElem?_modify, h]⟩
theorem PenAt.alloc {w b s i bad} (h : PenAt w b s i bad) (o : Obj) : PenAt (w.alloc o) b s i bad := by
  have hl := h.lt
  obtain ⟨t, h⟩ := h; exact ⟨t, by rw [Below.heap_alloc _ _ _ hl]; exact h⟩
theorem PenAt.setOther {w b s i bad} (h : PenAt w b s i bad) {a : Addr} (ha : b ≠ a.block) (x : Value) : PenAt (w.setCell a x) b s i bad := by
  obtain ⟨t, h⟩ := h; exact ⟨t, by rw [Below.heap_setCell _ _ _ _ ha]; exact h⟩

/-- The byte at i (0 behind the end). -/
def byt (s : ByteArray) (i : Nat) : Nat := if h : i < s.size then s[i].toNat else 0
theorem byt_lt (s : ByteArray) (i : Nat) : byt s i < 256 := by
  unfold byt; split
  · exact UInt8.toNat_lt _
  · omega

def onF (s : ByteArray) (i : Nat) (bad : Int) (c : Nat) : Bool := decide (bad < 0) && (decide (i < s.size) && (byt s i == c))

end Go.Proofs.Ytjimoigbdcalpaa
