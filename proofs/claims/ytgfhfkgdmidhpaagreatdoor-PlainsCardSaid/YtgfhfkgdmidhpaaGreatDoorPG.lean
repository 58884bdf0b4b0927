import Derived.Test.YtgfhfkgdmidhpaaGreatDoorQA
import Derived.Test.YtgfhfkgdmidhpaaGreatDoorG05
import Derived.Test.YtgfhfkgdmidhpaaGreatDoorPA
namespace Go.Proofs.YtgfhfkgdmidhpaaGreatDoor
open Go.RowKit

/-- These bytes stand at a place of a text. -/
def At (s : ByteArray) : Nat → List UInt8 → Prop
  | _, [] => True
  | i, c :: l => i < s.size ∧ byt s i = c.toNat ∧ At s (i + 1) l
theorem At_app {s : ByteArray} : ∀ {l k : List UInt8} {i : Nat}, At s i (l ++ k) ↔ At s i l ∧ At s (i + l.length) k
  | [], k, i => by simp [At]
  | c :: l, k, i => by
    rw [List.cons_append, At, At, At_app (l := l), List.length_cons, show i + 1 + l.length = i + (l.length + 1) from by omega]
    exact ⟨fun ⟨a, b, c, d⟩ => ⟨⟨a, b, c⟩, d⟩, fun ⟨⟨a, b, c⟩, d⟩ => ⟨a, b, c, d⟩⟩
theorem At_whole (l : List UInt8) : At ⟨l.toArray⟩ 0 l := by
  suffices h : ∀ (p q : List UInt8), l = p ++ q → At ⟨l.toArray⟩ p.length q from h [] l rfl
  intro p q
  induction q generalizing p with
  | nil => intro _; trivial
  | cons c q ih =>
    intro e
    have hz : (ByteArray.mk l.toArray).size = l.length := by simp [ByteArray.size]
    have hl : p.length < l.length := by rw [e, List.length_append, List.length_cons]; omega
    refine ⟨by rw [hz]; exact hl, ?_, ?_⟩
    · rw [byt, dif_pos (by rw [hz]; exact hl)]
      show (l.toArray[p.length]'(by simpa using hl)).toNat = _
      congr 1
      rw [List.getElem_toArray]
      subst e
      simp
    · have := ih (p ++ [c]) (by rw [e, List.append_assoc]; rfl)
      rwa [List.length_append, List.length_singleton] at this
theorem on_at {s i c l} (h : At s i (c :: l)) : onF s i (-1) c.toNat = true := by
  obtain ⟨h1, h2, _⟩ := h
  simp [onF, h1, h2]
theorem on_not {s i c l} {d : Nat} (h : At s i (c :: l)) (hd : c.toNat ≠ d) : onF s i (-1) d = false := by
  obtain ⟨h1, h2, _⟩ := h
  simp [onF, h1, h2, hd]
theorem on_end {s i} {d : Nat} (h : i = s.size) : onF s i (-1) d = false := by
  simp [onF, h]
theorem got_at {s i c l} (h : At s i (c :: l)) : gotI s i (-1) c.toNat = i + 1 := by rw [gotI, on_at h]; rfl
theorem must_at {s i c l} (h : At s i (c :: l)) : mustB s i (-1) c.toNat = -1 := by rw [mustB, on_at h]; rfl
/-- No digit stands here. -/
def Nd (s : ByteArray) (i : Nat) : Prop := digF s i (-1) = false
theorem nd_at {s i c l} (h : At s i (c :: l)) (hd : c.toNat < 48 ∨ 57 < c.toNat) : Nd s i := by
  obtain ⟨h1, h2, _⟩ := h
  unfold Nd digF
  rcases hd with hd | hd
  · simp [h1, h2]; omega
  · simp [h1, h2]; omega
theorem nd_end {s : ByteArray} {i} (h : i = s.size) : Nd s i := by simp [Nd, digF, h]
theorem dig_at {s i x l} (h : At s i (UInt8.ofNat (48 + x) :: l)) (hx : x < 10) : digF s i (-1) = true ∧ byt s i = 48 + x ∧ At s (i + 1) l := by
  obtain ⟨h1, h2, h3⟩ := h
  have e : (UInt8.ofNat (48 + x)).toNat = 48 + x := by
    rw [UInt8.toNat_ofNat']; exact Nat.mod_eq_of_lt (by omega)
  rw [e] at h2
  refine ⟨?_, h2, h3⟩
  simp [digF, h1, h2]; omega
theorem num_at {s i n} (hn : n < 10000) (h : At s i (Lib.decDigits n)) (hd : Nd s (i + (Lib.decDigits n).length)) :
    numN s i (-1) = n ∧ numI s i (-1) = i + (Lib.decDigits n).length ∧ numB s i (-1) = -1 := by
  unfold Nd at hd
  by_cases h1 : n < 10
  · rw [dec1 h1] at h hd ⊢
    obtain ⟨d0, b0, _⟩ := dig_at h h1
    simp only [List.length_singleton] at hd ⊢
    simp [numN, numI, numB, d0, numGo, hd, b0]
  by_cases h2 : n < 100
  · rw [decS h1, dec1 (by omega)] at h hd ⊢
    obtain ⟨d0, b0, h⟩ := dig_at h (by omega)
    obtain ⟨d1, b1, _⟩ := dig_at h (by omega)
    simp only [List.length_append, List.length_singleton] at hd ⊢
    have hd : digF s (i + 2) (-1) = false := hd
    have d1 : digF s (i + 1) (-1) = true := d1
    have b1 : byt s (i + 1) = _ := b1
    have z : 10 ≤ n := by omega
    simp [numN, numI, numB, d0, numGo, hd, b0, d1, b1, z]
    omega
  by_cases h3 : n < 1000
  · rw [decS h1, decS (n := n / 10) (by omega), dec1 (n := n / 10 / 10) (by omega)] at h hd ⊢
    obtain ⟨d0, b0, h⟩ := dig_at h (by omega)
    obtain ⟨d1, b1, h⟩ := dig_at h (by omega)
    obtain ⟨d2, b2, _⟩ := dig_at h (by omega)
    simp only [List.length_append, List.length_singleton] at hd ⊢
    have hd : digF s (i + 3) (-1) = false := hd
    have z : ¬ (n / 10 / 10 = 0) := by omega
    simp [numN, numI, numB, d0, numGo, hd, b0, d1, b1, d2, b2, z]
    omega
  · rw [decS h1, decS (n := n / 10) (by omega), decS (n := n / 10 / 10) (by omega), dec1 (n := n / 10 / 10 / 10) (by omega)] at h hd ⊢
    obtain ⟨d0, b0, h⟩ := dig_at h (by omega)
    obtain ⟨d1, b1, h⟩ := dig_at h (by omega)
    obtain ⟨d2, b2, h⟩ := dig_at h (by omega)
    obtain ⟨d3, b3, _⟩ := dig_at h (by omega)
    simp only [List.length_append, List.length_singleton] at hd ⊢
    have z : ¬ (n / 10 / 10 / 10 = 0) := by omega
    simp [numN, numI, numB, d0, numGo, b0, d1, b1, d2, b2, d3, b3, z]
    omega

theorem gone_at {s i n l} (hn : n < 10000) (h : At s i (Lib.decDigits n ++ l)) (hd : Nd s (i + (Lib.decDigits n).length)) :
    numN s i (-1) = n ∧ numI s i (-1) = i + (Lib.decDigits n).length ∧ numB s i (-1) = -1 := num_at hn (At_app.1 h).1 hd
theorem reg_at {s i n} (hn : n < 10000) (h : At s i (rgT n)) (hd : Nd s (i + (rgT n).length)) :
    regN s i (-1) = n ∧ regI s i (-1) = i + (rgT n).length ∧ regB s i (-1) = -1 := by
  unfold rgT at h hd ⊢
  have g := got_at h
  have m := must_at h
  have h2 : At s (i + 1) (Lib.decDigits n) := h.2.2
  rw [List.length_cons] at hd ⊢
  have k := num_at hn h2 (by rwa [show i + 1 + (Lib.decDigits n).length = i + ((Lib.decDigits n).length + 1) from by omega])
  unfold regN regI regB
  rw [show (114 : Nat) = (114 : UInt8).toNat from rfl, g, m]
  exact ⟨k.1, by rw [k.2.1]; omega, k.2.2⟩

end Go.Proofs.YtgfhfkgdmidhpaaGreatDoor

namespace Go.Proofs.YtgfhfkgdmidhpaaGreatDoor
open Go.RowKit

def gvT : ASt → List UInt8
  | .val _ n => Lib.itoa n
  | .cp _ a => rgT a
  | .op o _ a b => rgT a ++ UInt8.ofNat o :: rgT b
  | .inp _ => [63]
  | .out a => rgT a
def stT : ASt → List UInt8
  | .val t n => rgT t ++ 61 :: gvT (.val t n)
  | .cp t a => rgT t ++ 61 :: gvT (.cp t a)
  | .op o t a b => rgT t ++ 61 :: gvT (.op o t a b)
  | .inp t => rgT t ++ 61 :: gvT (.inp t)
  | .out a => 33 :: rgT a
def OkS : ASt → Prop
  | .val t n => t < 10000 ∧ n.natAbs < 10000
  | .cp t a => t < 10000 ∧ a < 10000
  | .op o t a b => (o = 43 ∨ o = 45 ∨ o = 42 ∨ o = 60) ∧ t < 10000 ∧ a < 10000 ∧ b < 10000
  | .inp t => t < 10000
  | .out a => a < 10000
def toS : ASt → Nat
  | .val t _ => t
  | .cp t _ => t
  | .op _ t _ _ => t
  | .inp t => t
  | .out _ => 0
def isOut : ASt → Prop
  | .out _ => True
  | _ => False
theorem dec_head (n : Nat) : ∃ x l, Lib.decDigits n = UInt8.ofNat (48 + x) :: l ∧ x < 10 ∧ (0 < n → 0 < x) := by
  induction n using Nat.strongRecOn with
  | _ n ih =>
    by_cases h : n < 10
    · exact ⟨n, [], dec1 h, h, id⟩
    · obtain ⟨x, l, e, h1, h2⟩ := ih (n / 10) (by omega)
      exact ⟨x, l ++ [UInt8.ofNat (48 + n % 10)], by rw [decS h, e]; rfl, h1, fun _ => h2 (by omega)⟩
theorem on_dig {s i n l} {d : Nat} (h : At s i (Lib.decDigits n ++ l)) (hd : d < 48 ∨ 57 < d) : onF s i (-1) d = false := by
  obtain ⟨x, k, e, hx, _⟩ := dec_head n
  rw [e] at h
  obtain ⟨h1, h2, _⟩ := dig_at (l := k ++ l) h hx
  refine on_not (c := UInt8.ofNat (48 + x)) (l := k ++ l) h ?_
  rw [← h.2.1, h2]; omega
theorem on_dig0 {s i n l} (h : At s i (Lib.decDigits n ++ l)) (hn : 0 < n) : onF s i (-1) 48 = false := by
  obtain ⟨x, k, e, hx, h0⟩ := dec_head n
  rw [e] at h
  obtain ⟨h1, h2, _⟩ := dig_at (l := k ++ l) h hx
  refine on_not (c := UInt8.ofNat (48 + x)) (l := k ++ l) h ?_
  rw [← h.2.1, h2]; have := h0 hn; omega
theorem on_reg {s i n l} {d : Nat} (h : At s i (rgT n ++ l)) (hd : d ≠ 114) : onF s i (-1) d = false := on_not (c := 114) h (fun e => hd e.symm)
theorem on_reg' {s i n l} (h : At s i (rgT n ++ l)) : onF s i (-1) 114 = true := on_at (c := 114) h
theorem opc_none {s i c l} (h : At s i (c :: l)) (h1 : c.toNat = 59) : opC s i (-1) = 0 ∧ opI s i (-1) = i ∧ opB s i (-1) = -1 := by
  unfold opC opI opB
  simp [on_not h (d := 43) (by omega), on_not h (d := 45) (by omega), on_not h (d := 42) (by omega), on_not h (d := 60) (by omega), on_not h (d := 195) (by omega)]
theorem opc_at {s i o l} (h : At s i (UInt8.ofNat o :: l)) (ho : o = 43 ∨ o = 45 ∨ o = 42 ∨ o = 60) : opC s i (-1) = o ∧ opI s i (-1) = i + 1 ∧ opB s i (-1) = -1 := by
  unfold opC opI opB
  have h0 := on_at h
  rcases ho with rfl | rfl | rfl | rfl
  · have h0 : onF s i (-1) 43 = true := h0
    simp [h0]
  · have h0 : onF s i (-1) 45 = true := h0
    have h1 : onF s i (-1) 43 = false := on_not h (by decide)
    simp [h0, h1]
  · have h0 : onF s i (-1) 42 = true := h0
    have h1 : onF s i (-1) 43 = false := on_not h (by decide)
    have h2 : onF s i (-1) 45 = false := on_not h (by decide)
    simp [h0, h1, h2]
  · have h0 : onF s i (-1) 60 = true := h0
    have h1 : onF s i (-1) 43 = false := on_not h (by decide)
    have h2 : onF s i (-1) 45 = false := on_not h (by decide)
    have h3 : onF s i (-1) 42 = false := on_not h (by decide)
    simp [h0, h1, h2, h3]
theorem giv_at {s i tn ti} {t : ASt} {l : List UInt8} (hk : OkS t) (ho : ¬ isOut t) (h : At s i (gvT t ++ 59 :: l)) (ht : tn = toS t) :
    absS (givF s (tn, ti) i (-1)).st = t ∧ (givF s (tn, ti) i (-1)).i = i + (gvT t).length ∧ (givF s (tn, ti) i (-1)).bad = -1 := by
  have hE : At s (i + (gvT t).length) (59 :: l) := (At_app.1 h).2
  have hN : Nd s (i + (gvT t).length) := nd_at hE (by decide)
  match t, hk, ho, ht with
  | .out a, _, ho, _ => exact absurd trivial ho
  | .inp t, hk, _, ht =>
    have h0 : onF s i (-1) 63 = true := on_at (c := 63) h
    subst ht
    simp [givF, h0, absS, gvT]
  | .cp t a, hk, _, ht =>
    have h0 : onF s i (-1) 63 = false := on_reg h (by decide)
    have h1 : onF s i (-1) 114 = true := on_reg' h
    obtain ⟨r1, r2, r3⟩ := reg_at hk.2 (At_app.1 h).1 hN
    obtain ⟨o1, o2, o3⟩ := opc_none hE rfl
    simp only [gvT] at o1 o2 o3
    subst ht
    simp [givF, h0, h1, r1, r2, r3, o1, o2, o3, absS, gvT]
  | .op o t a b, ⟨ho, hto, ha, hb⟩, _, ht =>
    have h0 : onF s i (-1) 63 = false := by
      have h : At s i ((rgT a ++ UInt8.ofNat o :: rgT b) ++ 59 :: l) := h
      rw [List.append_assoc] at h
      exact on_reg h (by decide)
    have h1 : onF s i (-1) 114 = true := by
      have h : At s i ((rgT a ++ UInt8.ofNat o :: rgT b) ++ 59 :: l) := h
      rw [List.append_assoc] at h
      exact on_reg' h
    have hA : At s i (rgT a ++ UInt8.ofNat o :: rgT b) := (At_app.1 h).1
    have hO := (At_app.1 hA).2
    have hon : (UInt8.ofNat o).toNat < 48 ∨ 57 < (UInt8.ofNat o).toNat := by
      rcases ho with rfl | rfl | rfl | rfl <;> decide
    obtain ⟨r1, r2, r3⟩ := reg_at ha (At_app.1 hA).1 (nd_at hO hon)
    obtain ⟨o1, o2, o3⟩ := opc_at hO ho
    have e : i + (gvT (.op o t a b)).length = i + (rgT a).length + 1 + (rgT b).length := by
      simp only [gvT, List.length_append, List.length_cons]; omega
    rw [e] at hN ⊢
    obtain ⟨q1, q2, q3⟩ := reg_at hb hO.2.2 hN
    have on0 : ¬ o = 0 := by omega
    subst ht
    have e1 : absS ⟨o, (tn, ti), (a, i), (b, i + (rgT a).length + 1), 0⟩ = .op o tn a b := by
      unfold absS
      rw [if_neg (by show ¬ o = 118; omega), if_neg (by show ¬ o = 99; omega), if_neg (by show ¬ o = 33; omega), if_neg (by show ¬ o = 63; omega)]
    simp [givF, h0, h1, r1, r2, r3, o1, o2, o3, q1, q2, q3, on0, e1]
  | .val t n, hk, _, ht =>
    obtain ⟨hto, hn⟩ := hk
    subst ht
    by_cases hneg : n < 0
    · have e : gvT (.val tn n) = 45 :: Lib.decDigits n.natAbs := by rw [gvT, Lib.itoa, if_pos hneg]
      rw [e] at h hN ⊢
      have h : At s i (45 :: (Lib.decDigits n.natAbs ++ 59 :: l)) := h
      have h0 : onF s i (-1) 63 = false := on_not h (by decide)
      have h1 : onF s i (-1) 114 = false := on_not h (by decide)
      have h2 : onF s i (-1) 45 = true := on_at (c := 45) h
      have h3 : onF s (i + 1) (-1) 48 = false := on_dig0 h.2.2 (by omega)
      have e2 : i + (45 :: Lib.decDigits n.natAbs).length = i + 1 + (Lib.decDigits n.natAbs).length := by rw [List.length_cons]; omega
      rw [e2] at hN ⊢
      obtain ⟨q1, q2, q3⟩ := gone_at hn h.2.2 hN
      have : -(n.natAbs : Int) = n := by omega
      simp [givF, h0, h1, h2, h3, q1, q2, q3, absS]
      omega
    · have e : gvT (.val tn n) = Lib.decDigits n.toNat := by rw [gvT, Lib.itoa, if_neg hneg]
      rw [e] at h hN ⊢
      have h0 : onF s i (-1) 63 = false := on_dig h (by decide)
      have h1 : onF s i (-1) 114 = false := on_dig h (by decide)
      have h2 : onF s i (-1) 45 = false := on_dig h (by decide)
      obtain ⟨q1, q2, q3⟩ := gone_at (by omega) h hN
      simp [givF, h0, h1, h2, q1, q2, q3, absS]
      omega

end Go.Proofs.YtgfhfkgdmidhpaaGreatDoor

namespace Go.Proofs.YtgfhfkgdmidhpaaGreatDoor
open Go.RowKit

def enT (e : AEn) : List UInt8 := if e.op = 46 then [46] else if e.op = 62 then 62 :: Lib.decDigits e.one else rgT e.a ++ 63 :: (Lib.decDigits e.one ++ 58 :: Lib.decDigits e.two)
def OkE (e : AEn) : Prop := (e.op = 46 ∧ e.a = 0 ∧ e.one = 0 ∧ e.two = 0) ∨ (e.op = 62 ∧ e.a = 0 ∧ e.one < 10000 ∧ e.two = 0) ∨ (e.op = 63 ∧ e.a < 10000 ∧ e.one < 10000 ∧ e.two < 10000)
def stsT (l : List ASt) : List UInt8 := l.flatMap fun t => stT t ++ [59]
theorem stsT_cons (t : ASt) (l : List ASt) : stsT (t :: l) = stT t ++ 59 :: stsT l := by simp [stsT]
theorem stT_in {t : ASt} (h : ¬ isOut t) : stT t = rgT (toS t) ++ 61 :: gvT t := by
  cases t with
  | out a => exact absurd trivial h
  | _ => rfl
theorem toS_lt {t : ASt} (h : OkS t) : toS t < 10000 := by
  cases t with
  | val t n => exact h.1
  | cp t a => exact h.1
  | op o t a b => exact h.2.1
  | inp t => exact h
  | out a => show 0 < 10000; omega
structure BkAt (r : Blk) (sts : List ASt) (e : AEn) (i : Nat) : Prop where
  chs : r.b.chs = []
  sts : r.b.sts.map absS = sts
  e : absE r.b.e = e
  i : r.i = i
  bad : r.bad = -1
theorem blk_at {s : ByteArray} {i0 : Nat} {e : AEn} (he : OkE e) : ∀ (sts : List ASt) (k i : Nat) (acc : List RStep), (∀ t ∈ sts, OkS t) → sts.length < k → At s i (stsT sts ++ enT e) → Nd s (i + (stsT sts ++ enT e).length) →
    BkAt (blkGo s i0 k [] acc i (-1)) (acc.map absS ++ sts) e (i + (stsT sts ++ enT e).length)
  | [], k, i, acc, _, hk, h, hN => by
    obtain ⟨k, rfl⟩ : ∃ j, k = j + 1 := ⟨k - 1, by simp at hk; omega⟩
    have h : At s i (enT e) := h
    have hN : Nd s (i + (enT e).length) := hN
    show BkAt _ (acc.map absS ++ []) e (i + (enT e).length)
    rw [List.append_nil]
    obtain ⟨op, a, one, two⟩ := e
    rcases he with ⟨h1, h2, h3, h4⟩ | ⟨h1, h2, h3, h4⟩ | ⟨h1, h2, h3, h4⟩
    · have h1 : op = 46 := h1
      have h2 : a = 0 := h2
      have h3 : one = 0 := h3
      have h4 : two = 0 := h4
      subst h1 h2 h3 h4
      have on : onF s i (-1) 46 = true := on_at (c := 46) (l := []) h
      rw [blkGo, if_pos (by omega), if_pos on]
      exact ⟨rfl, rfl, rfl, rfl, rfl⟩
    · have h1 : op = 62 := h1
      have h2 : a = 0 := h2
      have h4 : two = 0 := h4
      subst h1 h2 h4
      have h : At s i (62 :: Lib.decDigits one) := h
      have n0 : onF s i (-1) 46 = false := on_not h (by decide)
      have on : onF s i (-1) 62 = true := on_at (c := 62) h
      have e2 : i + (enT ⟨62, 0, one, 0⟩).length = i + 1 + (Lib.decDigits one).length := by
        show i + (62 :: Lib.decDigits one).length = _
        rw [List.length_cons]; omega
      rw [e2] at hN ⊢
      obtain ⟨q1, q2, q3⟩ := num_at h3 h.2.2 hN
      rw [blkGo, if_pos (by omega), if_neg (by rw [n0]; simp), if_pos on]
      exact ⟨rfl, rfl, by show AEn.mk _ _ _ _ = _; rw [show (numN s (i + 1) (-1), i + 1).1 = one from q1], q2, q3⟩
    · have h1 : op = 63 := h1
      subst h1
      have h : At s i (rgT a ++ 63 :: (Lib.decDigits one ++ 58 :: Lib.decDigits two)) := h
      have n0 : onF s i (-1) 46 = false := on_reg h (by decide)
      have n1 : onF s i (-1) 62 = false := on_reg h (by decide)
      have n2 : onF s i (-1) 33 = false := on_reg h (by decide)
      obtain ⟨hA, hB⟩ := At_app.1 h
      obtain ⟨r1, r2, r3⟩ := reg_at h2 hA (nd_at hB (by decide))
      have n3 : onF s (i + (rgT a).length) (-1) 61 = false := on_not hB (by decide)
      have n4 : onF s (i + (rgT a).length) (-1) 64 = false := on_not hB (by decide)
      have g1 : gotI s (i + (rgT a).length) (-1) 63 = _ := got_at (c := 63) hB
      have m1 : mustB s (i + (rgT a).length) (-1) 63 = _ := must_at (c := 63) hB
      obtain ⟨hC, hD⟩ := At_app.1 hB.2.2
      obtain ⟨p1, p2, p3⟩ := num_at h3 hC (nd_at hD (by decide))
      have g2 : gotI s (i + (rgT a).length + 1 + (Lib.decDigits one).length) (-1) 58 = _ := got_at (c := 58) hD
      have m2 : mustB s (i + (rgT a).length + 1 + (Lib.decDigits one).length) (-1) 58 = _ := must_at (c := 58) hD
      have e2 : i + (enT ⟨63, a, one, two⟩).length = i + (rgT a).length + 1 + (Lib.decDigits one).length + 1 + (Lib.decDigits two).length := by
        show i + (rgT a ++ 63 :: (Lib.decDigits one ++ 58 :: Lib.decDigits two)).length = _
        simp only [List.length_append, List.length_cons]; omega
      rw [e2] at hN ⊢
      obtain ⟨q1, q2, q3⟩ := num_at h4 hD.2.2 hN
      rw [blkGo, if_pos (by omega), if_neg (by rw [n0]; simp), if_neg (by rw [n1]; simp), if_neg (by rw [n2]; simp)]
      dsimp only
      rw [r2, r3, if_neg (by rw [n3]; simp), if_neg (by rw [n4]; simp)]
      unfold braF
      dsimp only
      rw [g1, m1, p2, p3, g2, m2]
      exact ⟨rfl, rfl, by show AEn.mk _ _ _ _ = _; rw [show (regN s i (-1), i).1 = a from r1, show (numN s (i + (rgT a).length + 1) (-1), i + (rgT a).length + 1).1 = one from p1]; exact congrArg (AEn.mk 63 a one) q1, q2, q3⟩
  | t :: sts, k, i, acc, ht, hk, h, hN => by
    obtain ⟨k, rfl⟩ : ∃ j, k = j + 1 := ⟨k - 1, by simp at hk; omega⟩
    rw [stsT_cons, List.append_assoc, List.cons_append] at h hN ⊢
    obtain ⟨hA, hB⟩ := At_app.1 h
    have ok := ht t (List.mem_cons_self ..)
    have gB : gotI s (i + (stT t).length) (-1) 59 = _ := got_at (c := 59) hB
    have mB : mustB s (i + (stT t).length) (-1) 59 = _ := must_at (c := 59) hB
    have el : i + (stT t ++ 59 :: (stsT sts ++ enT e)).length = i + (stT t).length + 1 + (stsT sts ++ enT e).length := by
      rw [List.length_append, List.length_cons]; omega
    rw [el] at hN ⊢
    by_cases hout : isOut t
    · obtain ⟨a, rfl⟩ : ∃ a, t = .out a := by
        cases t with
        | out a => exact ⟨a, rfl⟩
        | _ => exact absurd hout (by simp [isOut])
      have h : At s i (33 :: (rgT a ++ 59 :: (stsT sts ++ enT e))) := h
      have n0 : onF s i (-1) 46 = false := on_not h (by decide)
      have n1 : onF s i (-1) 62 = false := on_not h (by decide)
      have n2 : onF s i (-1) 33 = true := on_at (c := 33) h
      have le : i + (stT (.out a)).length = i + 1 + (rgT a).length := by show i + (33 :: rgT a).length = _; rw [List.length_cons]; omega
      rw [le] at gB mB hB hN ⊢
      obtain ⟨r1, r2, r3⟩ := reg_at ok (At_app.1 h.2.2).1 (nd_at hB (by decide))
      rw [blkGo, if_pos (by omega), if_neg (by rw [n0]; simp), if_neg (by rw [n1]; simp), if_pos n2]
      dsimp only
      rw [r2, r3, gB, mB]
      have := blk_at (i0 := i0) he sts k (i + 1 + (rgT a).length + 1) (acc ++ [⟨33, (0, 0), (regN s (i + 1) (-1), i + 1), (0, 0), 0⟩]) (fun t h => ht t (List.mem_cons_of_mem _ h)) (by simp at hk; omega) hB.2.2 hN
      have ea : (acc ++ [(⟨33, (0, 0), (regN s (i + 1) (-1), i + 1), (0, 0), 0⟩ : RStep)]).map absS ++ sts = acc.map absS ++ ASt.out a :: sts := by
        rw [List.map_append, List.append_assoc, r1]; rfl
      rwa [ea] at this
    · rw [stT_in hout] at hA gB mB hB hN ⊢
      have h' := h
      rw [stT_in hout, List.append_assoc] at h'
      have n0 : onF s i (-1) 46 = false := on_reg h' (by decide)
      have n1 : onF s i (-1) 62 = false := on_reg h' (by decide)
      have n2 : onF s i (-1) 33 = false := on_reg h' (by decide)
      obtain ⟨hR, hG⟩ := At_app.1 h'
      have hG : At s (i + (rgT (toS t)).length) (61 :: (gvT t ++ 59 :: (stsT sts ++ enT e))) := hG
      obtain ⟨r1, r2, r3⟩ := reg_at (toS_lt ok) hR (nd_at hG (by decide))
      have o1 : onF s (i + (rgT (toS t)).length) (-1) 61 = true := on_at (c := 61) hG
      obtain ⟨q1, q2, q3⟩ := giv_at (tn := regN s i (-1)) (ti := i) ok hout hG.2.2 r1
      have le : i + (rgT (toS t) ++ 61 :: gvT t).length = i + (rgT (toS t)).length + 1 + (gvT t).length := by rw [List.length_append, List.length_cons]; omega
      rw [le] at gB mB hB hN ⊢
      rw [blkGo, if_pos (by omega), if_neg (by rw [n0]; simp), if_neg (by rw [n1]; simp), if_neg (by rw [n2]; simp)]
      dsimp only
      rw [r2, r3, if_pos o1, q2, q3, gB, mB]
      have := blk_at (i0 := i0) he sts k (i + (rgT (toS t)).length + 1 + (gvT t).length + 1) (acc ++ [(givF s (regN s i (-1), i) (i + (rgT (toS t)).length + 1) (-1)).st]) (fun t h => ht t (List.mem_cons_of_mem _ h)) (by simp at hk; omega) hB.2.2 hN
      have ea : (acc ++ [(givF s (regN s i (-1), i) (i + (rgT (toS t)).length + 1) (-1)).st]).map absS ++ sts = acc.map absS ++ t :: sts := by
        rw [List.map_append, List.append_assoc, List.map_singleton, q1]; rfl
      rwa [ea] at this
def bkT (b : ABk) : List UInt8 := stsT b.sts ++ enT b.e
def prT : List ABk → List UInt8
  | [] => []
  | b :: bs => bkT b ++ (match bs with | [] => [] | _ => 124 :: prT bs)
theorem prT_one (b : ABk) : prT [b] = bkT b := by simp [prT]
theorem prT_cons (b c : ABk) (bs : List ABk) : prT (b :: c :: bs) = bkT b ++ 124 :: prT (c :: bs) := rfl
theorem stsT_ge (l : List ASt) : l.length ≤ (stsT l).length := by
  induction l with
  | nil => exact Nat.le_refl _
  | cons t l ih => rw [stsT_cons, List.length_append, List.length_cons, List.length_cons]; omega
theorem At_le {s : ByteArray} : ∀ {l : List UInt8} {i : Nat}, At s i l → i ≤ s.size → i + l.length ≤ s.size
  | [], i, _, hi => hi
  | c :: l, i, h, hi => by
    have := At_le h.2.2 h.1
    rw [List.length_cons]; omega
structure OkB (b : ABk) : Prop where
  chs : b.chs = []
  sts : ∀ t ∈ b.sts, OkS t
  e : OkE b.e
theorem par_at {s : ByteArray} : ∀ (bs : List ABk) (k i : Nat) (acc : List RBlk), (∀ b ∈ bs, OkB b) → 0 < bs.length → bs.length ≤ k → At s i (prT bs) → i + (prT bs).length = s.size →
    (parGo s k ⟨acc, i, -1⟩).bs.map absB = acc.map absB ++ bs ∧ (parGo s k ⟨acc, i, -1⟩).i = s.size ∧ (parGo s k ⟨acc, i, -1⟩).bad = -1
  | [], k, i, acc, _, h0, _, _, _ => absurd h0 (by simp)
  | [b], k, i, acc, hb, _, hk, h, hs => by
    obtain ⟨k, rfl⟩ : ∃ j, k = j + 1 := ⟨k - 1, by simp at hk; omega⟩
    rw [prT_one] at h hs
    have ob := hb b (List.mem_cons_self ..)
    have hle : b.sts.length < s.size + 1 := by
      have := stsT_ge b.sts
      rw [bkT, List.length_append] at hs
      omega
    have r := blk_at (i0 := i) ob.e b.sts (s.size + 1) i [] ob.sts hle h (nd_end hs)
    have r : BkAt (blkF s i (-1)) b.sts b.e s.size := by
      have e : i + (stsT b.sts ++ enT b.e).length = s.size := hs
      rw [e] at r
      exact r
    have eb : absB (blkF s i (-1)).b = b := by
      rw [absB, r.chs, r.sts, r.e]
      obtain ⟨chs, sts, e⟩ := b
      have := ob.chs
      simp at this; subst this; rfl
    rw [parGo]
    dsimp only
    rw [r.i, r.bad, if_neg (by rw [on_end rfl]; simp)]
    refine ⟨?_, ?_, rfl⟩
    · show (acc ++ [(blkF s i (-1)).b]).map absB = _
      rw [List.map_append, List.map_singleton, eb]
    · show gotI s s.size (-1) 124 = _
      rw [gotI, on_end rfl]; rfl
  | b :: c :: bs, k, i, acc, hb, _, hk, h, hs => by
    obtain ⟨k, rfl⟩ : ∃ j, k = j + 1 := ⟨k - 1, by simp at hk; omega⟩
    rw [prT_cons] at h hs
    obtain ⟨hA, hB⟩ := At_app.1 h
    have ob := hb b (List.mem_cons_self ..)
    have hle : b.sts.length < s.size + 1 := by
      have := stsT_ge b.sts
      rw [bkT, List.length_append, List.length_append] at hs
      omega
    have r : BkAt (blkF s i (-1)) b.sts b.e (i + (bkT b).length) := blk_at (i0 := i) ob.e b.sts (s.size + 1) i [] ob.sts hle hA (nd_at hB (by decide))
    have eb : absB (blkF s i (-1)).b = b := by
      rw [absB, r.chs, r.sts, r.e]
      obtain ⟨chs, sts, e⟩ := b
      have := ob.chs
      simp at this; subst this; rfl
    have on : onF s (i + (bkT b).length) (-1) 124 = true := on_at (c := 124) hB
    have gt : gotI s (i + (bkT b).length) (-1) 124 = i + (bkT b).length + 1 := got_at (c := 124) hB
    rw [parGo]
    dsimp only
    rw [r.i, r.bad, if_pos on, gt]
    have ih := par_at (c :: bs) k (i + (bkT b).length + 1) (acc ++ [(blkF s i (-1)).b]) (fun x hx => hb x (List.mem_cons_of_mem _ hx)) (by simp) (by simp at hk ⊢; omega) hB.2.2 (by rw [List.length_append, List.length_cons] at hs; omega)
    rw [List.map_append, List.map_singleton, eb, List.append_assoc] at ih
    exact ih
/-- A program that is written is read again. -/
theorem par_prT {bs : List ABk} (hb : ∀ b ∈ bs, OkB b) (h0 : 0 < bs.length) (s : ByteArray) (hs : s = ⟨(prT bs).toArray⟩) :
    absP (parF s).bs = bs ∧ parBad s = -1 := by
  have hz : s.size = (prT bs).length := by subst hs; simp [ByteArray.size]
  have hA : At s 0 (prT bs) := by subst hs; exact At_whole _
  have hl : bs.length ≤ s.size + 1 := by
    rw [hz]
    clear hs hz hA h0 hb
    induction bs with
    | nil => simp
    | cons b bs ih =>
      cases bs with
      | nil => simp
      | cons c bs => simp only [prT_cons, List.length_append, List.length_cons] at ih ⊢; omega
  obtain ⟨h1, h2, h3⟩ := par_at bs (s.size + 1) 0 [] hb h0 hl hA (by rw [hz]; omega)
  refine ⟨h1, ?_⟩
  have h2 : (parF s).i = s.size := h2
  have h3 : (parF s).bad = -1 := h3
  rw [parBad, h2, if_neg (by omega), h3]

end Go.Proofs.YtgfhfkgdmidhpaaGreatDoor

namespace Go.Proofs.YtgfhfkgdmidhpaaGreatDoor
open Go.RowKit

/-- All choices of a program: the block's number, the register that is spared for it, the choice. -/
def enB (i n : Nat) (b : ABk) : List (Nat × Nat × ACh) := (b.chs.zipIdx n).map fun p => (i, p.2, p.1)
def enF (i n : Nat) : List ABk → List (Nat × Nat × ACh)
  | [] => []
  | b :: bs => enB i n b ++ enF (i + 1) (n + b.chs.length) bs
def firF (en : List (Nat × Nat × ACh)) (i : Nat) : List ASt := (en.filter fun x => decide (x.1 = i)).map fun x => .cp x.2.2.to x.2.1
def srcsF (n f : Nat) (src : List (Nat × Nat)) : List ASt := (src.filter fun p => decide (p.1 = f)).map fun p => .cp n p.2
def lasF (en : List (Nat × Nat × ACh)) (f : Nat) : List ASt := en.flatMap fun x => srcsF x.2.1 f x.2.2.src
def plnB (en : List (Nat × Nat × ACh)) (i : Nat) (b : ABk) : ABk := ⟨[], firF en i ++ b.sts ++ lasF en i, b.e⟩
def plnA (bs : List ABk) : List ABk := bs.mapIdx fun i b => plnB (enF 0 5000 bs) i b
def OldS : ASt → Prop
  | .val t _ => t < 5000
  | .cp t a => t < 5000 ∧ a < 5000
  | .op _ t a b => t < 5000 ∧ a < 5000 ∧ b < 5000
  | .inp t => t < 5000
  | .out a => a < 5000
def OldC (c : ACh) : Prop := c.to < 5000 ∧ ∀ p ∈ c.src, p.2 < 5000
structure OldB (b : ABk) : Prop where
  sts : ∀ t ∈ b.sts, OldS t
  chs : ∀ c ∈ b.chs, OldC c
  e : b.e.a < 5000
/-- The same as far as the old registers tell. -/
structure Agr (m m' : Mac) : Prop where
  r : ∀ n, n < 5000 → m'.r n = m.r n
  inp : m'.inp = m.inp
  out : m'.out = m.out
theorem upd_agr {m m' : Mac} (h : Agr m m') (n : Nat) {v v' : Int} (hv : v' = v) : ∀ k, k < 5000 → upd m'.r n v' k = upd m.r n v k := by
  intro k hk; subst hv; unfold upd
  by_cases e : k = n
  · rw [if_pos e, if_pos e]
  · rw [if_neg e, if_neg e]; exact h.r k hk
theorem stA_agr {t : ASt} (ht : OldS t) {m m' : Mac} (h : Agr m m') : Agr (stA t m) (stA t m') := by
  cases t with
  | val t n => exact ⟨upd_agr h t rfl, h.inp, h.out⟩
  | cp t a => exact ⟨upd_agr h t (h.r a ht.2), h.inp, h.out⟩
  | op o t a b => exact ⟨upd_agr h t (by rw [h.r a ht.2.1, h.r b ht.2.2]), h.inp, h.out⟩
  | inp t => exact ⟨upd_agr h t (by rw [h.inp]), by show m'.inp.tail = _; rw [h.inp]; rfl, h.out⟩
  | out a => exact ⟨h.r, h.inp, by show m'.out ++ [m'.r a] = _; rw [h.out, h.r a ht]; rfl⟩
theorem stsA_agr : ∀ {l : List ASt} (_ : ∀ t ∈ l, OldS t) {m m' : Mac} (_ : Agr m m'), Agr (stsA l m) (stsA l m')
  | [], _, _, _, h => h
  | t :: l, hl, m, m', h => by
    rw [stsA_cons, stsA_cons]
    exact stsA_agr (fun x hx => hl x (List.mem_cons_of_mem _ hx)) (stA_agr (hl t (List.mem_cons_self ..)) h)
theorem Agr.up {m m' : Mac} (h : Agr m m') {n : Nat} (hn : 5000 ≤ n) (v : Int) : Agr m { m' with r := upd m'.r n v } :=
  ⟨fun k hk => by show upd _ _ _ _ = _; rw [upd_other _ (by omega)]; exact h.r k hk, h.inp, h.out⟩
/-- Copies into spare registers. -/
theorem srcs_run {n f : Nat} (hn : 5000 ≤ n) : ∀ (src : List (Nat × Nat)) (m : Mac) (r0 : Nat → Int), (∀ p ∈ src, p.2 < 5000) → (∀ k, k < 5000 → m.r k = r0 k) →
    (stsA (srcsF n f src) m).inp = m.inp ∧ (stsA (srcsF n f src) m).out = m.out ∧ (∀ k, k ≠ n → (stsA (srcsF n f src) m).r k = m.r k) ∧ (stsA (srcsF n f src) m).r n = src.foldl (fun v p => if p.1 = f then r0 p.2 else v) (m.r n)
  | [], m, r0, _, _ => ⟨rfl, rfl, fun _ _ => rfl, rfl⟩
  | p :: src, m, r0, hs, h0 => by
    have hs' : ∀ p ∈ src, p.2 < 5000 := fun x hx => hs x (List.mem_cons_of_mem _ hx)
    by_cases e : p.1 = f
    · have e1 : srcsF n f (p :: src) = .cp n p.2 :: srcsF n f src := by unfold srcsF; rw [List.filter_cons_of_pos (by simpa using e)]; rfl
      rw [e1, stsA_cons, List.foldl_cons, if_pos e]
      obtain ⟨a, b, c, d⟩ := srcs_run (f := f) hn src (stA (.cp n p.2) m) r0 hs' (fun k hk => by show upd _ _ _ _ = _; rw [upd_other _ (by omega)]; exact h0 k hk)
      refine ⟨a, b, fun k hk => ?_, ?_⟩
      · rw [c k hk]; exact upd_other _ hk
      · rw [d]; congr 1
        show upd _ _ _ _ = _
        rw [upd_same, h0 _ (hs p (List.mem_cons_self ..))]
    · have e1 : srcsF n f (p :: src) = srcsF n f src := by unfold srcsF; rw [List.filter_cons_of_neg (by simpa using e)]
      rw [e1, List.foldl_cons, if_neg e]
      exact srcs_run hn src m r0 hs' h0
theorem fold_hit {f : Nat} {r0 : Nat → Int} : ∀ (src : List (Nat × Nat)) (a b : Int), (∃ p ∈ src, p.1 = f) → src.foldl (fun v p => if p.1 = f then r0 p.2 else v) a = src.foldl (fun v p => if p.1 = f then r0 p.2 else v) b
  | [], _, _, ⟨p, hp, _⟩ => absurd hp (by simp)
  | q :: src, a, b, ⟨p, hp, e⟩ => by
    rw [List.foldl_cons, List.foldl_cons]
    by_cases h : q.1 = f
    · rw [if_pos h, if_pos h]
    · rw [if_neg h, if_neg h]
      refine fold_hit src a b ⟨p, ?_, e⟩
      rcases List.mem_cons.1 hp with rfl | hp
      · exact absurd e h
      · exact hp
theorem srcF_old {f : Nat} {r r0 : Nat → Int} : ∀ (src : List (Nat × Nat)) , (∀ p ∈ src, p.2 < 5000) → (∀ k, k < 5000 → r k = r0 k) → srcF src f r = srcF src f r0 := by
  intro src hs h
  unfold srcF
  suffices ∀ a : Int, src.foldl (fun v p => if p.1 = f then r p.2 else v) a = src.foldl (fun v p => if p.1 = f then r0 p.2 else v) a from this 0
  induction src with
  | nil => intro a; rfl
  | cons p src ih =>
    intro a
    rw [List.foldl_cons, List.foldl_cons, h p.2 (hs p (List.mem_cons_self ..))]
    exact ih (fun x hx => hs x (List.mem_cons_of_mem _ hx)) _
structure EnOk (en : List (Nat × Nat × ACh)) : Prop where
  n : ∀ x ∈ en, 5000 ≤ x.2.1
  c : ∀ x ∈ en, OldC x.2.2
  d : (en.map fun x => x.2.1).Nodup
theorem las_run {f : Nat} : ∀ (en : List (Nat × Nat × ACh)) (m : Mac), EnOk en →
    Agr m (stsA (lasF en f) m) ∧ (∀ k, (∀ x ∈ en, x.2.1 ≠ k) → (stsA (lasF en f) m).r k = m.r k) ∧ (∀ x ∈ en, (∃ p ∈ x.2.2.src, p.1 = f) → (stsA (lasF en f) m).r x.2.1 = srcF x.2.2.src f m.r)
  | [], m, _ => ⟨⟨fun _ _ => rfl, rfl, rfl⟩, fun _ _ => rfl, fun x hx => absurd hx (by simp)⟩
  | y :: en, m, h => by
    have hy := h.n y (List.mem_cons_self ..)
    have hc := h.c y (List.mem_cons_self ..)
    have hd := h.d
    rw [List.map_cons, List.nodup_cons] at hd
    have e1 : lasF (y :: en) f = srcsF y.2.1 f y.2.2.src ++ lasF en f := rfl
    rw [e1, stsA_app]
    obtain ⟨a, b, c, d⟩ := srcs_run (n := y.2.1) (f := f) hy y.2.2.src m m.r hc.2 (fun _ _ => rfl)
    obtain ⟨i1, i2, i3⟩ := las_run (f := f) en (stsA (srcsF y.2.1 f y.2.2.src) m) ⟨fun x hx => h.n x (List.mem_cons_of_mem _ hx), fun x hx => h.c x (List.mem_cons_of_mem _ hx), hd.2⟩
    refine ⟨⟨fun k hk => ?_, i1.inp.trans a, i1.out.trans b⟩, fun k hk => ?_, fun x hx hp => ?_⟩
    · rw [i1.r k hk]; exact c k (by omega)
    · rw [i2 k (fun x hx => hk x (List.mem_cons_of_mem _ hx))]; exact c k (fun e => hk y (List.mem_cons_self ..) e.symm)
    · rcases List.mem_cons.1 hx with rfl | hx
      · rw [i2 _ (fun z hz e => hd.1 (List.mem_map.2 ⟨z, hz, e⟩)), d]
        exact fold_hit _ _ _ hp
      · rw [i3 x hx hp]
        refine srcF_old _ (h.c x (List.mem_cons_of_mem _ hx)).2 (fun k hk => c k (by omega))
/-- The copies out of the spare registers, and the choices. -/
theorem fir_run (g : ACh → Int) : ∀ (l : List (Nat × Nat × ACh)) (m' : Mac) (r : Nat → Int), (∀ x ∈ l, 5000 ≤ x.2.1) → (∀ x ∈ l, OldC x.2.2) → (∀ k, k < 5000 → m'.r k = r k) → (∀ x ∈ l, m'.r x.2.1 = g x.2.2) →
    (stsA (l.map fun x => ASt.cp x.2.2.to x.2.1) m').inp = m'.inp ∧ (stsA (l.map fun x => ASt.cp x.2.2.to x.2.1) m').out = m'.out ∧ ∀ k, k < 5000 → (stsA (l.map fun x => ASt.cp x.2.2.to x.2.1) m').r k = setsA (l.map fun x => (x.2.2.to, g x.2.2)) r k
  | [], m', r, _, _, h, _ => ⟨rfl, rfl, h⟩
  | y :: l, m', r, hn, hc, h, hg => by
    rw [List.map_cons, stsA_cons, List.map_cons]
    have hto := (hc y (List.mem_cons_self ..)).1
    obtain ⟨a, b, c⟩ := fir_run g l (stA (.cp y.2.2.to y.2.1) m') (upd r y.2.2.to (g y.2.2)) (fun x hx => hn x (List.mem_cons_of_mem _ hx)) (fun x hx => hc x (List.mem_cons_of_mem _ hx))
      (fun k hk => by
        show upd _ _ _ _ = _
        rw [hg y (List.mem_cons_self ..)]
        unfold upd
        by_cases e : k = y.2.2.to
        · rw [if_pos e, if_pos e]
        · rw [if_neg e, if_neg e]; exact h k hk)
      (fun x hx => by
        show upd _ _ _ _ = _
        have := hn x (List.mem_cons_of_mem _ hx)
        rw [upd_other _ (by omega)]; exact hg x (List.mem_cons_of_mem _ hx))
    exact ⟨a, b, c⟩
theorem setsA_same {r : Nat → Int} : ∀ (l : List (Nat × Int)), (∀ p ∈ l, p.2 = r p.1) → ∀ k, setsA l r k = r k := by
  suffices ∀ (l : List (Nat × Int)) (q : Nat → Int), (∀ k, q k = r k) → (∀ p ∈ l, p.2 = r p.1) → ∀ k, setsA l q k = r k from fun l => this l r (fun _ => rfl)
  intro l
  induction l with
  | nil => intro q hq _ k; exact hq k
  | cons p l ih =>
    intro q hq hp k
    refine ih (upd q p.1 p.2) (fun k => ?_) (fun x hx => hp x (List.mem_cons_of_mem _ hx)) k
    unfold upd
    by_cases e : k = p.1
    · rw [if_pos e, e]; exact hp p (List.mem_cons_self ..)
    · rw [if_neg e]; exact hq k
theorem en_mem {x : Nat × Nat × ACh} : ∀ (bs : List ABk) (i n : Nat), x ∈ enF i n bs → n ≤ x.2.1 ∧ ∃ h : x.1 - i < bs.length, i ≤ x.1 ∧ x.2.2 ∈ bs[x.1 - i].chs
  | [], _, _, h => absurd h (by simp [enF])
  | b :: bs, i, n, h => by
    rw [enF, List.mem_append] at h
    rcases h with h | h
    · rw [enB, List.mem_map] at h
      obtain ⟨p, hp, rfl⟩ := h
      have := List.mem_zipIdx hp
      refine ⟨this.1, ?_⟩
      have e : i - i = 0 := by omega
      refine ⟨by show i - i < _; rw [e]; simp, Nat.le_refl _, ?_⟩
      simp only [e, List.getElem_cons_zero]
      rw [this.2.2]; exact List.getElem_mem _
    · obtain ⟨h1, h2, h3, h4⟩ := en_mem bs (i + 1) (n + b.chs.length) h
      refine ⟨by omega, by rw [List.length_cons]; omega, by omega, ?_⟩
      have e : x.1 - i = (x.1 - (i + 1)) + 1 := by omega
      simp only [e, List.getElem_cons_succ]; exact h4
theorem en_nums : ∀ (bs : List ABk) (i n : Nat), (enF i n bs).map (fun x => x.2.1) = List.range' n ((bs.map fun b => b.chs.length).sum)
  | [], _, _ => rfl
  | b :: bs, i, n => by
    rw [enF, List.map_append, en_nums bs, List.map_cons, List.sum_cons, List.range'_append_1 |>.symm]
    congr 1
    rw [enB, List.map_map]
    rw [show ((fun x : Nat × Nat × ACh => x.2.1) ∘ fun p : ACh × Nat => (i, p.2, p.1)) = Prod.snd from rfl, List.zipIdx_map_snd]
theorem en_fir (g : ACh → Nat × Int) : ∀ (bs : List ABk) (i n j : Nat) (h : j < bs.length), ((enF i n bs).filter fun x => decide (x.1 = i + j)).map (fun x => g x.2.2) = bs[j].chs.map g
  | [], _, _, _, h => absurd h (by simp)
  | b :: bs, i, n, j, h => by
    rw [enF, List.filter_append, List.map_append]
    cases j with
    | zero =>
      have e1 : (enB i n b).filter (fun x => decide (x.1 = i + 0)) = enB i n b := by
        rw [List.filter_eq_self]; intro x hx
        rw [enB, List.mem_map] at hx
        obtain ⟨p, _, rfl⟩ := hx
        simp
      have e2 : (enF (i + 1) (n + b.chs.length) bs).filter (fun x => decide (x.1 = i + 0)) = [] := by
        rw [List.filter_eq_nil_iff]; intro x hx
        obtain ⟨_, _, h3, _⟩ := en_mem bs _ _ hx
        simp; omega
      rw [e1, e2, List.map_nil, List.append_nil, enB, List.map_map]
      show (b.chs.zipIdx n).map (g ∘ Prod.fst) = b.chs.map g
      rw [← List.map_map, List.zipIdx_map_fst]
    | succ j =>
      have e1 : (enB i n b).filter (fun x => decide (x.1 = i + (j + 1))) = [] := by
        rw [List.filter_eq_nil_iff]; intro x hx
        rw [enB, List.mem_map] at hx
        obtain ⟨p, _, rfl⟩ := hx
        simp
      have := en_fir g bs (i + 1) (n + b.chs.length) j (by simpa using h)
      rw [e1, List.map_nil, List.nil_append, show i + (j + 1) = i + 1 + j from by omega]
      exact this
structure PlnOk (bs : List ABk) : Prop where
  old : ∀ b ∈ bs, OldB b
  one : ∀ b ∈ bs, b.e.op ≠ 46 → b.e.one < bs.length
  two : ∀ b ∈ bs, b.e.op = 63 → b.e.two < bs.length
  ahead : ∀ i (hi : i < bs.length) t (ht : t < bs.length), bs[i].e.op ≠ 46 → (t = bs[i].e.one ∨ (bs[i].e.op = 63 ∧ t = bs[i].e.two)) → ∀ c ∈ bs[t].chs, ∃ p ∈ c.src, p.1 = i
theorem PlnOk.en {bs : List ABk} (h : PlnOk bs) : EnOk (enF 0 5000 bs) :=
  ⟨fun x hx => (en_mem bs 0 5000 hx).1, fun x hx => by
    obtain ⟨_, h1, _, h2⟩ := en_mem bs 0 5000 hx
    exact (h.old _ (List.getElem_mem _)).chs _ h2, by rw [en_nums]; exact List.nodup_range'⟩
theorem pln_sim {bs : List ABk} (h : PlnOk bs) : ∀ (k i : Nat) (frm frm' : Int) (m m' : Mac), i < bs.length → Agr m m' →
    (∀ x ∈ enF 0 5000 bs, x.1 = i → m'.r x.2.1 = if 0 ≤ frm then srcF x.2.2.src frm.toNat m.r else m.r x.2.2.to) →
    plA (plnA bs) k i frm' m' = plA bs k i frm m
  | 0, i, frm, frm', m, m', _, ha, _ => by rw [plA, plA, ha.out]
  | k + 1, i, frm, frm', m, m', hi, ha, hx => by
    have hb : bkA bs i = bs[i] := bkA_at hi
    have hb' : bkA (plnA bs) i = plnB (enF 0 5000 bs) i bs[i] := by
      rw [bkA_at (by rw [plnA, List.length_mapIdx]; exact hi)]
      simp only [plnA, List.getElem_mapIdx]
    have hmem : bs[i] ∈ bs := List.getElem_mem _
    have hold := h.old _ hmem
    -- entry
    have hent : entA (plnB (enF 0 5000 bs) i bs[i]) frm' m' = m' := by
      unfold entA; split
      · rfl
      · rfl
    have hl : ∀ x ∈ (enF 0 5000 bs).filter (fun x => decide (x.1 = i)), x ∈ enF 0 5000 bs ∧ x.1 = i := fun x hx => by
      rw [List.mem_filter] at hx; exact ⟨hx.1, by simpa using hx.2⟩
    have hfir : Agr (entA bs[i] frm m) (stsA (firF (enF 0 5000 bs) i) m') := by
      by_cases hf : 0 ≤ frm
      · obtain ⟨a, b, c⟩ := fir_run (fun c => srcF c.src frm.toNat m.r) ((enF 0 5000 bs).filter fun x => decide (x.1 = i)) m' m.r (fun x hx => h.en.n x (hl x hx).1) (fun x hx => h.en.c x (hl x hx).1) ha.r
          (fun x hx' => by have := hx x (hl x hx').1 (hl x hx').2; rw [if_pos hf] at this; exact this)
        have e2 := en_fir (fun c => (c.to, srcF c.src frm.toNat m.r)) bs 0 5000 i hi
        rw [Nat.zero_add] at e2
        rw [e2] at c
        refine ⟨fun k hk => ?_, ?_, ?_⟩
        · unfold entA; rw [if_pos hf]; exact c k hk
        · unfold entA; rw [if_pos hf]; exact a.trans ha.inp
        · unfold entA; rw [if_pos hf]; exact b.trans ha.out
      · obtain ⟨a, b, c⟩ := fir_run (fun c => m.r c.to) ((enF 0 5000 bs).filter fun x => decide (x.1 = i)) m' m.r (fun x hx => h.en.n x (hl x hx).1) (fun x hx => h.en.c x (hl x hx).1) ha.r
          (fun x hx' => by have := hx x (hl x hx').1 (hl x hx').2; rw [if_neg hf] at this; exact this)
        refine ⟨fun k hk => ?_, ?_, ?_⟩
        · unfold entA; rw [if_neg hf]
          rw [show (stsA (firF (enF 0 5000 bs) i) m').r k = _ from c k hk]
          exact setsA_same _ (fun p hp => by rw [List.mem_map] at hp; obtain ⟨x, _, rfl⟩ := hp; rfl) k
        · unfold entA; rw [if_neg hf]; exact a.trans ha.inp
        · unfold entA; rw [if_neg hf]; exact b.trans ha.out
    have hsts := stsA_agr hold.sts hfir
    obtain ⟨l1, l2, l3⟩ := las_run (f := i) (enF 0 5000 bs) (stsA bs[i].sts (stsA (firF (enF 0 5000 bs) i) m')) h.en
    have hbl : blA (plnB (enF 0 5000 bs) i bs[i]) frm' m' = stsA (lasF (enF 0 5000 bs) i) (stsA bs[i].sts (stsA (firF (enF 0 5000 bs) i) m')) := by
      unfold blA; rw [hent]
      show stsA (firF (enF 0 5000 bs) i ++ bs[i].sts ++ lasF (enF 0 5000 bs) i) m' = _
      rw [stsA_app, stsA_app]
    have hA : Agr (blA bs[i] frm m) (blA (plnB (enF 0 5000 bs) i bs[i]) frm' m') := by
      rw [hbl]
      exact ⟨fun k hk => (l1.r k hk).trans (hsts.r k hk), l1.inp.trans hsts.inp, l1.out.trans hsts.out⟩
    rw [plA, plA, hb, hb']
    have eop : (plnB (enF 0 5000 bs) i bs[i]).e = bs[i].e := rfl
    rw [eop]
    by_cases h46 : bs[i].e.op = 46
    · rw [if_pos h46, if_pos h46, hA.out]
    · rw [if_neg h46, if_neg h46]
      have enx : nxA (plnB (enF 0 5000 bs) i bs[i]) (blA (plnB (enF 0 5000 bs) i bs[i]) frm' m') = nxA bs[i] (blA bs[i] frm m) := by
        unfold nxA; rw [eop, hA.r _ hold.e]
      rw [enx]
      have hnx : nxA bs[i] (blA bs[i] frm m) < bs.length ∧ (nxA bs[i] (blA bs[i] frm m) = bs[i].e.one ∨ (bs[i].e.op = 63 ∧ nxA bs[i] (blA bs[i] frm m) = bs[i].e.two)) := by
        unfold nxA
        split
        · rename_i hq; exact ⟨h.two _ hmem hq.1, .inr ⟨hq.1, rfl⟩⟩
        · exact ⟨h.one _ hmem h46, .inl rfl⟩
      refine pln_sim h k _ _ _ _ _ hnx.1 hA (fun x hx' e => ?_)
      rw [if_pos (by omega), hbl]
      obtain ⟨_, q1, _, q2⟩ := en_mem bs 0 5000 hx'
      have hp := h.ahead i hi x.1 (by simpa using q1) h46 (e ▸ hnx.2) x.2.2 (by simpa using q2)
      rw [l3 x hx' hp, Int.toNat_natCast]
      refine srcF_old _ (h.en.c x hx').2 (fun k hk => ?_)
      exact (hsts.r k hk)
/-- What has no choices does the same. -/
theorem pln_play {bs : List ABk} (h : PlnOk bs) (h0 : 0 < bs.length) (V : List Int) (f : Nat) : playA (plnA bs) V f = playA bs V f :=
  pln_sim h f 0 (-1) (-1) _ _ h0 ⟨fun _ _ => rfl, rfl, rfl⟩ (fun x _ _ => by rw [if_neg (by decide)])

end Go.Proofs.YtgfhfkgdmidhpaaGreatDoor
