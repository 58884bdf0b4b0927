import Derived.Test.YtgfhfkgdmidhpaaGreatDoorG03
import Derived.Test.YtgfhfkgdmidhpaaGreatDoorG04
namespace Go.Proofs.YtgfhfkgdmidhpaaGreatDoor
open Go.RowKit

/-- Programs without their places. -/
inductive ASt where
  | val (to : Nat) (n : Int)
  | cp (to a : Nat)
  | op (o to a b : Nat)
  | inp (to : Nat)
  | out (a : Nat)
structure ACh where
  to : Nat
  src : List (Nat × Nat)
structure AEn where
  op : Nat
  a : Nat
  one : Nat
  two : Nat
structure ABk where
  chs : List ACh
  sts : List ASt
  e : AEn
def absS (t : RStep) : ASt := if t.op = 118 then .val t.to.1 t.n else if t.op = 99 then .cp t.to.1 t.a.1 else if t.op = 33 then .out t.a.1 else if t.op = 63 then .inp t.to.1 else .op t.op t.to.1 t.a.1 t.b.1
def absC (c : RCho) : ACh := ⟨c.to.1, (c.gs.map (·.1)).zip (c.rs.map (·.1))⟩
def absE (e : REnd) : AEn := ⟨e.op, e.a.1, e.one.1, e.two.1⟩
def absB (b : RBlk) : ABk := ⟨b.chs.map absC, b.sts.map absS, absE b.e⟩
def absP (bs : List RBlk) : List ABk := bs.map absB
/-- What the registers hold, what is left of the input, what was put out. -/
structure Mac where
  r : Nat → Int
  inp : List Int
  out : List Int
def upd (r : Nat → Int) (n : Nat) (v : Int) : Nat → Int := fun m => if m = n then v else r m
theorem upd_same (r n v) : upd r n v n = v := if_pos rfl
theorem upd_other {r : Nat → Int} {n m : Nat} (v : Int) (h : m ≠ n) : upd r n v m = r m := if_neg h
def wkF (o : Nat) (a b : Int) : Int := if o = 43 then wrap64 (a + b) else if o = 45 then wrap64 (a - b) else if o = 42 then wrap64 (a * b) else if a < b then 1 else 0
def stA : ASt → Mac → Mac
  | .val t n, m => { m with r := upd m.r t n }
  | .cp t a, m => { m with r := upd m.r t (m.r a) }
  | .op o t a b, m => { m with r := upd m.r t (wkF o (m.r a) (m.r b)) }
  | .inp t, m => { m with r := upd m.r t (m.inp.head?.getD 0), inp := m.inp.tail }
  | .out a, m => { m with out := m.out ++ [m.r a] }
def stsA (l : List ASt) (m : Mac) : Mac := l.foldl (fun m s => stA s m) m
theorem stsA_nil (m) : stsA [] m = m := rfl
theorem stsA_cons (s l m) : stsA (s :: l) m = stsA l (stA s m) := rfl
theorem stsA_app (l k m) : stsA (l ++ k) m = stsA k (stsA l m) := by rw [stsA, List.foldl_append]; rfl
def srcF (src : List (Nat × Nat)) (frm : Nat) (r : Nat → Int) : Int := src.foldl (fun n p => if p.1 = frm then r p.2 else n) 0
def setsA (l : List (Nat × Int)) (r : Nat → Int) : Nat → Int := l.foldl (fun r p => upd r p.1 p.2) r
def chA (chs : List ACh) (frm : Nat) (r : Nat → Int) : Nat → Int := setsA (chs.map fun c => (c.to, srcF c.src frm r)) r
def entA (b : ABk) (frm : Int) (m : Mac) : Mac := if 0 ≤ frm then { m with r := chA b.chs frm.toNat m.r } else m
def blA (b : ABk) (frm : Int) (m : Mac) : Mac := stsA b.sts (entA b frm m)
def noB2 : ABk := ⟨[], [], ⟨0, 0, 0, 0⟩⟩
def bkA (bs : List ABk) (i : Nat) : ABk := bs[i]?.getD noB2
theorem bkA_at {bs : List ABk} {i : Nat} (h : i < bs.length) : bkA bs i = bs[i] := by rw [bkA, List.getElem?_eq_getElem h]; rfl
def nxA (b : ABk) (m : Mac) : Nat := if b.e.op = 63 ∧ m.r b.e.a = 0 then b.e.two else b.e.one
def plA (bs : List ABk) : Nat → Nat → Int → Mac → List Int × Nat
  | 0, _, _, m => (m.out, 1)
  | k + 1, i, frm, m => if (bkA bs i).e.op = 46 then ((blA (bkA bs i) frm m).out, 0) else plA bs k (nxA (bkA bs i) (blA (bkA bs i) frm m)) i (blA (bkA bs i) frm m)
def playA (bs : List ABk) (input : List Int) (fuel : Nat) : List Int × Nat := plA bs fuel 0 (-1) ⟨fun _ => 0, input, []⟩
/-- What a list of names and what they hold tell of a register. -/
def look : List Nat → List Int → Nat → Int
  | a :: ns, h :: hs, n => if a = n then h else look ns hs n
  | _, _, _ => 0
theorem look_hit : ∀ {ns : List Nat} {hs : List Int} {n i : Nat} (hi : i < ns.length) (hl : ns.length = hs.length), ns[i] = n → (∀ j (hj : j < i), ns[j]'(by omega) ≠ n) → look ns hs n = hs[i]'(by omega)
  | [], _, _, _, hi, _, _, _ => by simp at hi
  | a :: ns, [], _, _, _, hl, _, _ => by simp at hl
  | a :: ns, h :: hs, n, 0, _, _, h1, _ => by rw [look, if_pos (by simpa using h1)]; rfl
  | a :: ns, h :: hs, n, i + 1, hi, hl, h1, h2 => by
    rw [look, if_neg (by simpa using h2 0 (by omega))]
    exact look_hit (by simpa using hi) (by simpa using hl) (by simpa using h1) (fun j hj => by simpa using h2 (j + 1) (by omega))
theorem look_nil1 (hs : List Int) (n : Nat) : look [] hs n = 0 := by unfold look; rfl
theorem look_nil2 (ns : List Nat) (n : Nat) : look ns [] n = 0 := by cases ns <;> (unfold look; rfl)
theorem look_none : ∀ {ns : List Nat} {hs : List Int} {n : Nat}, (∀ j (hj : j < ns.length), ns[j] ≠ n) → look ns hs n = 0
  | [], _, _, _ => look_nil1 _ _
  | a :: ns, [], _, _ => look_nil2 _ _
  | a :: ns, h :: hs, n, h2 => by
    rw [look, if_neg (show ¬ a = n from h2 0 (Nat.zero_lt_succ _))]
    exact look_none (fun j hj => h2 (j + 1) (Nat.succ_lt_succ hj))
theorem look_set : ∀ {ns : List Nat} {hs : List Int} {n i : Nat} {v : Int} (hi : i < ns.length) (hl : ns.length = hs.length), ns[i] = n → (∀ j (hj : j < i), ns[j]'(by omega) ≠ n) → ∀ m, look ns (hs.set i v) m = upd (look ns hs) n v m
  | [], _, _, _, _, hi, _, _, _, _ => by simp at hi
  | a :: ns, [], _, _, _, _, hl, _, _, _ => by simp at hl
  | a :: ns, h :: hs, n, 0, v, _, _, h1, _, m => by
    have h1 : a = n := by simpa using h1
    subst h1
    rw [List.set_cons_zero, look, upd]
    by_cases e : a = m
    · rw [if_pos e, if_pos e.symm]
    · rw [if_neg e, if_neg (fun h => e h.symm), look, if_neg e]
  | a :: ns, h :: hs, n, i + 1, v, hi, hl, h1, h2, m => by
    have h0 : a ≠ n := by simpa using h2 0 (by omega)
    have ih := look_set (v := v) (by simpa using hi) (by simpa using hl) (by simpa using h1) (fun j hj => by simpa using h2 (j + 1) (by omega)) (ns := ns) (hs := hs) (i := i) m
    rw [List.set_cons_succ, look, upd]
    by_cases e : a = m
    · rw [if_pos e, if_neg (by omega), look, if_pos e]
    · rw [if_neg e, ih, upd, look, if_neg e]
theorem look_app : ∀ {ns : List Nat} {hs : List Int} {n : Nat} {v : Int}, ns.length = hs.length → (∀ j (hj : j < ns.length), ns[j] ≠ n) → ∀ m, look (ns ++ [n]) (hs ++ [v]) m = upd (look ns hs) n v m
  | [], [], n, v, _, _, m => by
    show (if n = m then v else look [] [] m) = _
    rw [upd]
    by_cases e : n = m
    · rw [if_pos e, if_pos e.symm]
    · rw [if_neg e, if_neg (fun h => e h.symm)]
  | [], h :: hs, _, _, hl, _, _ => by simp at hl
  | a :: ns, [], _, _, hl, _, _ => by simp at hl
  | a :: ns, h :: hs, n, v, hl, h2, m => by
    have h0 : a ≠ n := h2 0 (Nat.zero_lt_succ _)
    have ih := look_app (v := v) (ns := ns) (hs := hs) (by simpa using hl) (fun j hj => h2 (j + 1) (Nat.succ_lt_succ hj)) m
    rw [List.cons_append, List.cons_append, look, upd]
    by_cases e : a = m
    · rw [if_pos e, if_neg (by omega), look, if_pos e]
    · rw [if_neg e, ih, upd, look, if_neg e]

end Go.Proofs.YtgfhfkgdmidhpaaGreatDoor

namespace Go.Proofs.YtgfhfkgdmidhpaaGreatDoor
open Go.RowKit

def zcell (l : List Int) : List Value := l.map fun (n : Int) => Value.int .i64 n
theorem icell_app (a b : List Nat) : icell (a ++ b) = icell a ++ icell b := List.map_append ..
theorem zcell_len (l : List Int) : (zcell l).length = l.length := List.length_map ..
theorem zcell_app (a b : List Int) : zcell (a ++ b) = zcell a ++ zcell b := List.map_append ..
theorem zcell_at {l : List Int} {j : Nat} (h : j < l.length) : (zcell l)[j]? = some (.int .i64 l[j]) := by simp [zcell, h]
theorem zcell_set (l : List Int) (i : Nat) (y : Int) : (zcell l).set i (.int .i64 y) = zcell (l.set i y) := by simp [zcell, List.map_set]
def Apart (u v : Value) : Prop := ∀ k, v.ownBlock = some k → u.ownBlock ≠ some k
theorem Apart.symm {u v : Value} (h : Apart u v) : Apart v u := fun k hk hv => h k hv hk
/-- What is left of the input: a row's end. -/
def InR (base : Nat) (v : Value) (l : List Int) (w : World) : Prop :=
  ∃ p c, v = .slice p l.length c ∧ l.length ≤ c ∧ (0 < l.length → ∃ g o cs, p = some ⟨g, o, none⟩ ∧ base ≤ g ∧ w.heap[g]? = some (.cells cs 3 (0, 0)) ∧ ∀ j (h : j < l.length), cs[o + j]? = some (.int .i64 l[j]))
/-- The block of what is left of the input. -/
def inBlk : Value → Option Nat
  | .slice (some a) n _ => if n = 0 then none else some a.block
  | _ => none
/-- The machine's memory. -/
def MacX (base g : Nat) (ns : List Nat) (hs inp out : List Int) (vN vH vI vO : Value) (wr : World) : Prop :=
  (wr.heap[g]? = some (.cells #[vN, vH, vI, vO] 125 (0, 0)) ∧ base ≤ g) ∧ (wr.ownsRow base 3 1 vN ns.length (icell ns) ∧ wr.ownsRow base 3 1 vH hs.length (zcell hs) ∧ wr.ownsRow base 3 1 vO out.length (zcell out)) ∧ InR base vI inp wr ∧ (Apart vN vH ∧ Apart vN vO ∧ Apart vH vO) ∧ (∀ k, inBlk vI = some k → vN.ownBlock ≠ some k ∧ vH.ownBlock ≠ some k ∧ vO.ownBlock ≠ some k)
/-- The machine. -/
def MacI (base g : Nat) (ns : List Nat) (hs : List Int) (vN vH vI vO : Value) (m : Mac) (wr : World) : Prop :=
  MacX base g ns hs m.inp m.out vN vH vI vO wr ∧ ns.length = hs.length ∧ m.r = look ns hs
theorem InR.keeps {base v l w w'} (h : InR base v l w) (F : Below w.heap.size w w') : InR base v l w' := by
  obtain ⟨p, c, rfl, hc, h⟩ := h
  refine ⟨p, c, rfl, hc, fun h0 => ?_⟩
  obtain ⟨g, o, cs, a, b, c, d⟩ := h h0
  exact ⟨g, o, cs, a, b, by rw [F.block _ (lt_of_block c)]; exact c, d⟩
theorem MacX.keeps {base g ns hs inp out vN vH vI vO w w'} (h : MacX base g ns hs inp out vN vH vI vO w) (F : Below w.heap.size w w') : MacX base g ns hs inp out vN vH vI vO w' := by
  obtain ⟨⟨a, a2⟩, ⟨b, c, d⟩, e, f⟩ := h
  exact ⟨⟨by rw [F.block _ (lt_of_block a)]; exact a, a2⟩, ⟨owns_keeps b (Keeps.below (T := fun _ => True) F) trivial, owns_keeps c (Keeps.below (T := fun _ => True) F) trivial, owns_keeps d (Keeps.below (T := fun _ => True) F) trivial⟩, e.keeps F, f⟩
theorem MacI.keeps {base g ns hs vN vH vI vO m w w'} (h : MacI base g ns hs vN vH vI vO m w) (F : Below w.heap.size w w') : MacI base g ns hs vN vH vI vO m w' := ⟨h.1.keeps F, h.2⟩

set_option maxHeartbeats 1000000 in
theorem getR (base g n : Nat) (ns : List Nat) (hs : List Int) (vN vH vI vO : Value) (m : Mac) (w : World) (h : MacI base g ns hs vN vH vI vO m w) (hl : ns.length ≤ 1000000000000) :
    Calls Tryz.prog 60 #[.pointer (some ⟨g, 0, none⟩), .int .i64 n] w fun x w' => x = .returned (.int .i64 (m.r n)) ∧ Below w.heap.size w w' := by
  obtain ⟨⟨⟨h1, _⟩, ⟨h2, h3, _⟩, _⟩, he, hr⟩ := h
  obtain ⟨pN, cN, rfl⟩ := owns_slice2 h2
  obtain ⟨pH, cH, rfl⟩ := owns_slice2 h3
  have hgw := lt_of_block h1
  have k0 := cell_of h1 0
  have k1 := cell_of h1 1
  simp at k0 k1
  have K0 := stop (And.intro k0 k1)
  have HR := stop hr
  have HE := stop he
  have H2 := stop h2
  have H3 := stop h3
  clear h1 h2 h3 hr he k0 k1
  go_enter Tryz.func60, Tryz.ntmps60
  go_wp2_with fail
  go_loopw [5] (fun i wr => ∃ k : Nat, k ≤ ns.length ∧ i = .int .i64 k ∧ Hid (∀ j (hj : j < ns.length), j < k → ns[j] ≠ n) ∧ Hid (Below w.heap.size w wr)) (fun i _ => ns.length - (intOf i).toNat)
  case atStart => exact ⟨0, by omega, rfl, (fun j _ h => by omega), Below.refl _ _⟩
  case round =>
    obtain ⟨k, hk, rfl, HN, F⟩ := hrel
    rename World => wA
    have k0 := (F.out.cell (p := ⟨g, 0, none⟩) hgw).trans K0.out.1
    have k1 := (F.out.cell (p := ⟨g, 1, none⟩) hgw).trans K0.out.2
    by_cases hlt : k < ns.length
    · have hlt2 : k < hs.length := by have := HE.out; omega
      have O2 := owns_keeps H2.out (Keeps.below (T := fun _ => True) F.out) trivial
      have O3 := owns_keeps H3.out (Keeps.below (T := fun _ => True) F.out) trivial
      obtain ⟨gN, rfl, _, _⟩ := owns_form O2 (by omega)
      obtain ⟨gH, rfl, _, _⟩ := owns_form O3 (by omega)
      have c2 := owns_cell O2 (j := k) (u := .int .i64 ns[k]) (by simp [icell, hlt])
      have c3 := owns_cell O3 (zcell_at hlt2)
      clear O2 O3
      by_cases he : ns[k] = n
      · have HV : Hid (m.r n = hs[k]) := by
          show _ = _
          rw [HR.out]
          exact look_hit hlt HE.out he (fun j hj => HN.out j (by omega) hj)
        have hd : ((ns[k] : Int) == (n : Int)) = true := by simp; omega
        clear he
        go_wp2_with fail
        go_ret
        exact ⟨by rw [HV.out]; rfl, F.out⟩
      · have HN2 : Hid (∀ j (hj : j < ns.length), j < k + 1 → ns[j] ≠ n) := fun j hj hjk => by
          by_cases e : j = k
          · subst e; exact he
          · exact HN.out j hj (by omega)
        have hd : ((ns[k] : Int) == (n : Int)) = false := by simp; omega
        clear he
        go_wp2_with fail
        go_roundw
        case rel => exact ⟨k + 1, by omega, by go_num, HN2, F⟩
        case measure => simp [intOf]; omega
    · have hke : k = ns.length := by omega
      have HV : Hid (m.r n = 0) := by
        show _ = _
        rw [HR.out]
        exact look_none (fun j hj => HN.out j hj (by omega))
      clear hke
      go_wp2_with fail
      go_ret
      exact ⟨by rw [HV.out]; rfl, F.out⟩

end Go.Proofs.YtgfhfkgdmidhpaaGreatDoor
