import Derived.Test.YtgfhfkgdmidhpaaGreatNE
import Derived.Test.YtgfhfkgdmidhpaaGreatND
import Derived.Test.YtgfhfkgdmidhpaaGreatG22
import Derived.Maps.OwnSet
import Derived.Test.YtgfhfkgdmidhpaaGreatNC
import Derived.Test.YtgfhfkgdmidhpaaGreatKA
import Derived.Test.YtgfhfkgdmidhpaaGreatMM
namespace Go.Proofs.YtgfhfkgdmidhpaaGreat
open Go.RowKit Go.Maps

theorem lawK : Keyed Tryz.prog 56 := int_keyed Tryz.underlying56
theorem zeroS (w : World) : (zeroValue 168).run Tryz.prog w = .ok (.agg #[.int .i64 0, .int .i64 0]) w := by kernel_rfl
/-- How a spot reads. -/
def spotElem (v : Value) : Option (DataW Unit × List MemPlace) := match v with
  | .agg ⟨[.int .i64 a, .int .i64 b]⟩ => some (.agg [.lit (.int .i64 a), .lit (.int .i64 b)], [])
  | _ => none
theorem spotElem_inv {v : Value} {z : DataW Unit × List MemPlace} (h : spotElem v = some z) : ∃ a b : Int, v = .agg #[.int .i64 a, .int .i64 b] ∧ z = (.agg [.lit (.int .i64 a), .lit (.int .i64 b)], []) := by
  unfold spotElem at h
  split at h
  · cases h; exact ⟨_, _, rfl, rfl⟩
  · cases h
def spD (u : Use) : DataW Unit := .agg [.lit (.int .i64 u.b), .lit (.int .i64 u.s)]
def mD (l : List Use) : DataW Unit := l.foldl (fun D u => D.put (.int .i64 u.n) (spD u)) (.map [])
theorem mD_snoc (l : List Use) (u : Use) : mD (l ++ [u]) = (mD l).put (.int .i64 u.n) (spD u) := by rw [mD, mD, List.foldl_append]; rfl
theorem fold_isMap : ∀ (l : List Use) (D : DataW Unit), IsMap D → IsMap (l.foldl (fun D u => D.put (.int .i64 u.n) (spD u)) D)
  | [], _, h => h
  | _ :: l, _, h => fold_isMap l _ (h.put _ _)
theorem mD_isMap (l : List Use) : IsMap (mD l) := fold_isMap l _ isMap_empty
theorem tw_snoc {l : List Use} {u : Use} (h : twF (l ++ [u]) = none) : twF l = none ∧ u.n ∉ l.map (·.n) := by
  cases ht : twF l with
  | some x => rw [twF_some ht] at h; cases h
  | none =>
    refine ⟨rfl, fun hm => ?_⟩
    rw [twF_hit ht hm] at h; cases h
theorem key_ne {a b : Nat} (h : a ≠ b) : (Lit.int .i64 (a : Int)) ≠ Lit.int .i64 (b : Int) := fun e => h (by injection e with _ e2; omega)
/-- What the map tells, where no register is given twice. -/
theorem mD_spec (n : Nat) (z : DataW Unit) : ∀ (k : Nat) (l : List Use), l.length = k → twF l = none → (l.find? (fun u => u.n == n) = none → has (mD l) (.int .i64 n) = false) ∧ (∀ u, l.find? (fun u => u.n == n) = some u → has (mD l) (.int .i64 n) = true ∧ (mD l).atKey (.int .i64 n) z = spD u) := by
  intro k
  induction k with
  | zero =>
    intro l hl _
    obtain rfl : l = [] := List.length_eq_zero_iff.1 hl
    exact ⟨fun _ => rfl, fun u hu => by simp at hu⟩
  | succ k ih =>
    intro l hl ht
    obtain ⟨m, v, rfl⟩ : ∃ m v, l = m ++ [v] := by
      rcases List.eq_nil_or_concat l with h | ⟨m, v, h⟩
      · rw [h] at hl; cases hl
      · exact ⟨m, v, by simpa using h⟩
    obtain ⟨h1, h2⟩ := tw_snoc ht
    obtain ⟨i1, i2⟩ := ih m (by simpa using hl) h1
    rw [mD_snoc, List.find?_append]
    by_cases e : v.n = n
    · have hn : m.find? (fun u => u.n == n) = none := by
        rw [List.find?_eq_none]
        intro u hu hh
        exact h2 (List.mem_map.2 ⟨u, hu, by rw [e]; simpa using hh⟩)
      rw [hn]
      have hv : [v].find? (fun u => u.n == n) = some v := by simp [e]
      rw [Option.none_or, hv]
      refine ⟨(fun h => by cases h), fun u hu => ?_⟩
      cases hu
      rw [e]
      exact ⟨has_put_same (mD_isMap m) (by simp [WideAt.IsKeyLit]) _, atKey_put_same (mD_isMap m) (by simp [WideAt.IsKeyLit]) _ _⟩
    · have hv : [v].find? (fun u => u.n == n) = none := by simp [e]
      rw [hv, Option.or_none, has_put_other (key_ne (fun e2 => e e2.symm)), atKey_put_other (key_ne (fun e2 => e e2.symm))]
      exact ⟨i1, i2⟩
def preB (bs : List RBlk) (b1 : Nat) (s1 : Int) (b2 : Nat) (s2 : Int) : Bool := if b1 = b2 then decide (s1 < s2) else overF (suF bs) bs.length b1 b2

set_option maxHeartbeats 1000000 in
theorem precedeP (bs : List RBlk) (B b1 b2 : Nat) (s1 s2 : Int) (v va vu : Value) (w : World) (hv : ∃ p n c, v = .slice p n c) (ha : ∃ p n c, va = .slice p n c) (hu : SetR B w vu bs.length (undL bs)) (h1 : b1 < bs.length) (h2 : b2 < bs.length) (hn : bs.length ≤ 1000) :
    Calls Tryz.prog 95 #[.agg #[v, va, vu], .agg #[.int .i64 b1, .int .i64 s1], .agg #[.int .i64 b2, .int .i64 s2]] w fun x w' => x = .returned (.bool (preB bs b1 s1 b2 s2)) ∧ Below w.heap.size w w' := by
  have HV := stop (And.intro hv ha)
  obtain ⟨pv, nv, cv, rfl⟩ := hv
  obtain ⟨pa, na, ca, rfl⟩ := ha
  obtain ⟨pu, cu, rfl⟩ := hu.slice
  have HU := stop hu
  clear hu
  go_enter Tryz.func95, Tryz.ntmps95
  by_cases he : b1 = b2
  · have HM : Hid (preB bs b1 s1 b2 s2 = decide (s1 < s2)) := by show _ = _; rw [preB, if_pos he]
    have hd : ((b1 : Int) == (b2 : Int)) = true := by simp; omega
    clear he
    go_wp2_with fail
    go_ret
    exact ⟨by rw [HM.out]; rfl, (((Below.refl _ _).alloc (Nat.le_refl _) _).alloc (by simp) _).alloc (by simp; omega) _⟩
  · have HM : Hid (preB bs b1 s1 b2 s2 = overF (suF bs) bs.length b1 b2) := by show _ = _; rw [preB, if_neg he]
    have hd : ((b1 : Int) == (b2 : Int)) = false := by simp; omega
    clear he
    go_wp2_with fail
    obtain ⟨W, hW⟩ : ∃ W, W = ((w.alloc (.cells #[.slice pv nv cv, .slice pa na ca, .slice pu bs.length cu] 89)).alloc (.cells #[.int .i64 b1, .int .i64 s1] 168)).alloc (.cells #[.int .i64 b2, .int .i64 s2] 168) := ⟨_, rfl⟩
    rw [← hW]
    obtain ⟨_, _, _, hz, f3⟩ := three w (.cells #[.slice pv nv cv, .slice pa na ca, .slice pu bs.length cu] 89) (.cells #[.int .i64 b1, .int .i64 s1] 168) (.cells #[.int .i64 b2, .int .i64 s2] 168)
    rw [← hW] at hz f3
    refine (overM bs B b1 b2 _ _ _ W HV.out.1 HV.out.2 (HU.out.keeps f3) h1 h2 hn).mono ?_
    rintro e w5 ⟨rfl, f5⟩
    have F5 := stop (f3.trans (f5.mono (by omega)))
    clear hW f3 f5
    go_wp2_with fail
    go_ret
    exact ⟨by rw [HM.out]; rfl, F5.out⟩

end Go.Proofs.YtgfhfkgdmidhpaaGreat

namespace Go.Proofs.YtgfhfkgdmidhpaaGreat
open Go.RowKit Go.Maps

theorem rdU_fine {bs : List RBlk} (hf : ∀ b ∈ bs, BFine 1000000 b) (hcg : ∀ b ∈ bs, ∀ c ∈ b.chs, ∀ p ∈ c.gs, p.1 < bs.length) {u : Use} (hu : u ∈ rdU bs) : u.n < 10000 ∧ u.b < bs.length := by
  obtain ⟨i, hi, hu⟩ := List.mem_flatMap.1 hu
  have hi := List.mem_range.1 hi
  rw [bkF_at hi, rdBk, List.mem_append, List.mem_append] at hu
  have hfb := hf _ (List.getElem_mem hi)
  rcases hu with hu | hu | hu
  · obtain ⟨c, hc, hu⟩ := List.mem_flatMap.1 hu
    obtain ⟨p, hp, rfl⟩ := List.mem_map.1 hu
    have h1 := List.of_mem_zip hp
    exact ⟨(hfb.ch c hc).2.2.2 p.2 h1.2, hcg _ (List.getElem_mem hi) c hc p.1 h1.1⟩
  · obtain ⟨j, hj, hu⟩ := List.mem_flatMap.1 hu
    have hj := List.mem_range.1 hj
    rw [stR, List.getElem?_eq_getElem hj] at hu
    obtain ⟨r, hr, rfl⟩ := List.mem_map.1 hu
    exact ⟨rdsF_lt (hfb.st _ (List.getElem_mem hj)) r hr, hi⟩
  · obtain ⟨r, hr, rfl⟩ := List.mem_map.1 hu
    refine ⟨?_, hi⟩
    unfold endRg at hr
    split at hr
    · rw [List.mem_singleton] at hr; rw [hr]; exact hfb.e
    · simp at hr
theorem bad_off {bs : List RBlk} {u : Use} (h : rchF (suF bs) bs.length noB u.b = false) : badU bs u = false := by
  rw [badU, mayF, h]; rfl
theorem bad_none {bs : List RBlk} {u : Use} (h : rchF (suF bs) bs.length noB u.b = true) (hf : (gvU bs).find? (fun x => x.n == u.n) = none) : badU bs u = true := by
  rw [badU, mayF, h, hf]; rfl
theorem bad_some {bs : List RBlk} {u g : Use} (h : rchF (suF bs) bs.length noB u.b = true) (hf : (gvU bs).find? (fun x => x.n == u.n) = some g) : badU bs u = !preB bs g.b g.s u.b u.s := by
  rw [badU, mayF, h, hf]; rfl
theorem find_on {α : Type} {P : α → Bool} {l : List α} {k : Nat} (hk : k < l.length) (h : (l.take k).find? P = none) (hb : P l[k] = false) : (l.take (k + 1)).find? P = none := by
  rw [List.take_succ_eq_append_getElem hk, List.find?_append, h]; simp [hb]
theorem find_hit {α : Type} {P : α → Bool} {l : List α} {k : Nat} (hk : k < l.length) (h : (l.take k).find? P = none) (hb : P l[k] = true) : l.find? P = some l[k] := by
  have h2 : (l.take k ++ l[k] :: l.drop (k + 1)).find? P = some l[k] := by rw [List.find?_append, h, List.find?_cons, hb]; rfl
  rwa [← List.drop_eq_getElem_cons hk, List.take_append_drop] at h2
theorem wf64 {n : Nat} (h : n < 10000) : (Lit.int .i64 (n : Int)).wf = true := by
  have h1 : IntKind.i64.min = -9223372036854775808 := rfl
  have h2 : IntKind.i64.max = 9223372036854775807 := rfl
  simp [Lit.wf, h1, h2]; omega
/-- The world within ReadAmiss, while the map is filled and behind it. -/
def RaI (w : World) (n : Nat) (D : DataW Unit) (wr : World) : Prop :=
  wr.heap[w.heap.size]? = some (.cells #[.int .i64 0, .int .i64 0] 108 (0, 0)) ∧ wr.ownsMap Tryz.prog 56 spotElem (w.heap.size + 1) n D ∧ Below w.heap.size w wr
theorem map_below {w w' : World} {b n : Nat} {D : DataW Unit} (h : w.ownsMap Tryz.prog 56 spotElem b n D) (F : Below w.heap.size w w') : w'.ownsMap Tryz.prog 56 spotElem b n D := by
  have hl := h.lt
  obtain ⟨es, clock, hb, r⟩ := h
  exact ⟨es, clock, by rw [F.block _ hl]; exact hb, r⟩
theorem RaI.keeps {w n D wr wr'} (h : RaI w n D wr) (F : Below wr.heap.size wr wr') : RaI w n D wr' := by
  obtain ⟨a, b, c⟩ := h
  exact ⟨by rw [F.block _ (lt_of_block a)]; exact a, map_below b F, c.trans (F.mono c.size)⟩
theorem map_keeps {w w' : World} {base b n : Nat} {D : DataW Unit} {T : TypeId → Prop} (h : w.ownsMap Tryz.prog 56 spotElem b n D) (g : w.grownBy w' (some b)) : Keeps base T w w' := fun k c e _ _ hh => by
  obtain ⟨es, clock, hb, r⟩ := h
  rw [g.block k (lt_of_block hh) (fun e2 => by cases e2; rw [hb] at hh; cases hh)]; exact hh
theorem map_belowG {w w' : World} {b c : Nat} (g : w.grownBy w' (some b)) (hb : c ≤ b) (hc : c ≤ w.heap.size) : Below c w w' := ⟨g.os, g.tape, g.output, g.size, fun k hk => g.block k (by omega) (fun e => by cases e; omega)⟩
/-- The world within ReadAmiss' second loop. -/
def RbI (w : World) (bs : List RBlk) (L R : List Use) (g : Nat) (v va vu vR : Value) (wr : World) : Prop :=
  RaI w L.length (mD L) wr ∧ wr.heap[g]? = some (.cells #[v, va, vu] 89 (0, 0)) ∧ wr.ownsRow w.heap.size 92 1 va (allL bs).length (icell (allL bs)) ∧ SetR w.heap.size wr vu bs.length (undL bs) ∧ wr.ownsRow w.heap.size 170 4 vR R.length (useCells R)
theorem RbI.keeps {w bs L R g v va vu vR wr wr'} (h : RbI w bs L R g v va vu vR wr) (F : Below wr.heap.size wr wr') : RbI w bs L R g v va vu vR wr' := by
  obtain ⟨a, b, c, d, e⟩ := h
  exact ⟨a.keeps F, by rw [F.block _ (lt_of_block b)]; exact b, owns_keeps c (Keeps.below (T := fun _ => True) F) trivial, d.keeps F, owns_keeps e (Keeps.below (T := fun _ => True) F) trivial⟩

set_option maxRecDepth 100000 in
set_option maxHeartbeats 2000000 in
theorem readAmissP (bs : List RBlk) (base : Nat) (v : Value) (w : World) (hP : PBs w base bs v) (hf : Hid (∀ b ∈ bs, BFine 1000000 b)) (hg2 : Hid (∀ b ∈ bs, ∀ c ∈ b.chs, c.gs.length ≤ 1000)) (hcg : Hid (∀ b ∈ bs, ∀ c ∈ b.chs, ∀ p ∈ c.gs, p.1 < bs.length)) (hgl : Hid (∀ b ∈ bs, ∀ p ∈ goalsF b.e, p.1 < bs.length)) (htw : Hid (twF (gvU bs) = none)) (hn0 : 0 < bs.length) (hn : bs.length ≤ 12) :
    Calls Tryz.prog 57 #[v] w fun x w' => ((∃ u, amF bs = some u ∧ x = .returned (.tuple #[.agg #[.int .i64 u.n, .int .i64 u.p], .bool true])) ∨ (amF bs = none ∧ x = .returned (.tuple #[.agg #[.int .i64 0, .int .i64 0], .bool false]))) ∧ Below w.heap.size w w' := by
  obtain ⟨pv, cv, rfl⟩ := hP.slice
  have HP := stop hP
  have HN : Hid (∀ u ∈ gvU bs, u.n < 10000) := fun u hu => gvU_n hf.out hu
  clear hP
  have hmm := @run_makeMap Tryz.prog
  go_enter Tryz.func57, Tryz.ntmps57
  go_wp2_with fail
  clear hmm
  obtain ⟨W, hW⟩ : ∃ W, W = (w.alloc (.cells #[.int .i64 0, .int .i64 0] 108)).alloc (.map #[] 0) := ⟨_, rfl⟩
  rw [← hW]
  obtain ⟨g0, g1, hz, f2⟩ := two w (.cells #[.int .i64 0, .int .i64 0] 108) (.map #[] 0)
  have om := World.ownsMap_made (H := Unit) (w.alloc (.cells #[.int .i64 0, .int .i64 0] 108)) Tryz.prog 56 spotElem
  rw [World.size_alloc] at om
  rw [← hW] at g0 g1 hz f2 om
  refine (givingsP bs base _ W (HP.out.keeps (Keeps.below f2)) hf (by omega)).mono ?_
  rintro x w3 ⟨v3, rfl, H3⟩
  obtain ⟨p3, c3, rfl⟩ := owns_slice2 H3.out.1
  have hl := H3.out.2.1
  have B0 : Hid (RaI w 0 (mD ((gvU bs).take 0)) w3 ∧ w3.ownsRow w.heap.size 170 4 (.slice p3 (gvU bs).length c3) (gvU bs).length (useCells (gvU bs))) := ⟨RaI.keeps ⟨g0, om, f2⟩ H3.out.2.2, owns_base H3.out.1 (by omega)⟩
  generalize hLL : gvU bs = L at *
  have HLE := stop hLL
  clear hLL hW g0 g1 hz f2 H3 om
  go_wp2_with fail
  go_loopw [16] (fun i wr => ∃ k : Nat, k ≤ L.length ∧ i = .int .i64 k ∧ Hid (RaI w k (mD (L.take k)) wr ∧ wr.ownsRow w.heap.size 170 4 (.slice p3 L.length c3) L.length (useCells L))) (fun i _ => L.length - (intOf i).toNat)
  case atStart => exact ⟨0, by omega, rfl, B0⟩
  case round =>
    clear B0
    obtain ⟨k, hk, rfl, HI⟩ := hrel
    rename World => wA
    have hzA := HI.out.1.2.2.size
    have hgA := HI.out.1.2.1.lt
    by_cases hlt : k < L.length
    · obtain ⟨gl, rfl, _, _⟩ := owns_form HI.out.2 (by omega)
      obtain ⟨u0, u1, u2, u3⟩ := useCells_at hlt
      have c0 := owns_cell HI.out.2 u0
      have c1 := owns_cell HI.out.2 u1
      have c2 := owns_cell HI.out.2 u2
      have c3' := owns_cell HI.out.2 u3
      have hLn := HN.out _ (List.getElem_mem hlt)
      have HD : Hid ((mD (L.take k)).put (.int .i64 L[k].n) (spD L[k]) = mD (L.take (k + 1))) := by show _ = _; rw [List.take_succ_eq_append_getElem hlt, mD_snoc]
      have FW := (Below.refl wA.heap.size wA).alloc (Nat.le_refl _) (.cells #[.int .i64 L[k].n, .int .i64 L[k].p, .int .i64 L[k].b, .int .i64 L[k].s] 170)
      have HIW := stop (And.intro (HI.out.1.keeps FW) (HI.out.2.alloc (.cells #[.int .i64 L[k].n, .int .i64 L[k].p, .int .i64 L[k].b, .int .i64 L[k].s] 170)))
      obtain ⟨w1, hrun, ho1, hg1⟩ := HIW.out.1.2.1.update lawK Tryz.underlying172 (by unfold maxLen; omega) (keyOf_int_mk Tryz.underlying56 (a := (L[k].n : Int)) (wf64 hLn)) (val := .agg #[.int .i64 L[k].b, .int .i64 L[k].s]) (d := spD L[k]) (ps := []) rfl
      have HI1 : Hid (RaI w (k + 1) (mD (L.take (k + 1))) w1 ∧ w1.ownsRow w.heap.size 170 4 (.slice (some ⟨gl, 0, none⟩) L.length c3) L.length (useCells L)) := by
        rw [HD.out] at ho1
        exact ⟨⟨map_keeps (base := 0) (T := fun _ => True) HIW.out.1.2.1 hg1 _ _ _ (Nat.zero_le _) trivial HIW.out.1.1, ho1, HIW.out.1.2.2.trans (map_belowG hg1 (by omega) HIW.out.1.2.2.size)⟩, owns_keeps HIW.out.2 (map_keeps (T := fun _ => True) HIW.out.1.2.1 hg1) trivial⟩
      clear u0 u1 u2 u3 HI FW ho1 hg1 HIW HD
      go_wp2_with fail
      go_roundw
      case rel => exact ⟨k + 1, by omega, by go_num, HI1⟩
      case measure => simp [intOf]; omega
    · have hke : k = L.length := by omega
      have HI2 : Hid (RaI w L.length (mD L) wA) := by have := HI.out.1; rw [hke, List.take_length] at this; exact this
      clear hke HI
      go_wp2_with fail
      refine (pathsP bs base _ wA (HP.out.keeps (Keeps.below HI2.out.2.2)) hgl hn0 (by omega)).mono ?_
      rintro x w4 ⟨va, vu, rfl, oa, ou, f4⟩
      obtain ⟨pa, ca, rfl⟩ := owns_slice2 oa
      obtain ⟨pu, cu, rfl⟩ := ou.slice
      have H4 := stop (And.intro (HI2.out.keeps f4) (And.intro (owns_base oa HI2.out.2.2.size) (ou.base HI2.out.2.2.size)))
      clear oa ou f4 HI2
      go_wp2_with fail
      have fW := (Below.refl w4.heap.size w4).alloc (Nat.le_refl _) (.cells #[.slice pv bs.length cv, .slice pa (allL bs).length ca, .slice pu bs.length cu] 89)
      have gW := heap_alloc_last w4 (.cells #[.slice pv bs.length cv, .slice pa (allL bs).length ca, .slice pu bs.length cu] 89)
      have HW := stop (And.intro (H4.out.1.keeps fW) (And.intro gW (And.intro (H4.out.2.1.alloc (.cells #[.slice pv bs.length cv, .slice pa (allL bs).length ca, .slice pu bs.length cu] 89)) (H4.out.2.2.keeps fW))))
      clear fW gW H4
      generalize w4.alloc (.cells #[.slice pv bs.length cv, .slice pa (allL bs).length ca, .slice pu bs.length cu] 89) = W at *
      refine (readingsP bs base _ W (HP.out.keeps (Keeps.below HW.out.1.2.2)) hf hg2 hcg hn).mono ?_
      rintro x w5 ⟨v5, rfl, H5⟩
      obtain ⟨p5, c5, rfl⟩ := owns_slice2 H5.out.1
      have hl5 := H5.out.2.1
      have HRF : Hid (∀ u ∈ rdU bs, u.n < 10000 ∧ u.b < bs.length) := fun u hu => rdU_fine hf.out hcg.out hu
      have HGB : Hid (∀ u ∈ L, u.b < bs.length) := fun u hu => gvU_b (HLE.out ▸ hu)
      have B1 : Hid (RbI w bs L (rdU bs) w4.heap.size (.slice pv bs.length cv) (.slice pa (allL bs).length ca) (.slice pu bs.length cu) (.slice p5 (rdU bs).length c5) w5) := by
        obtain ⟨a, b, c, d⟩ := HW.out
        have F := H5.out.2.2
        exact ⟨a.keeps F, by rw [F.block _ (lt_of_block b)]; exact b, owns_keeps c (Keeps.below (T := fun _ => True) F) trivial, d.keeps F, owns_base H5.out.1 a.2.2.size⟩
      have HTW := stop htw.out
      generalize hRR : rdU bs = R at *
      have HRE : Hid (amF bs = R.find? (badU bs)) := by show _ = _; rw [amF, hRR]
      clear hRR H5 HW
      go_wp2_with fail
      go_loopw [32] (fun i wr => ∃ k : Nat, k ≤ R.length ∧ i = .int .i64 k ∧ Hid ((R.take k).find? (badU bs) = none) ∧ Hid (RbI w bs L R w4.heap.size (.slice pv bs.length cv) (.slice pa (allL bs).length ca) (.slice pu bs.length cu) (.slice p5 R.length c5) wr)) (fun i _ => R.length - (intOf i).toNat)
      case atStart => exact ⟨0, by omega, rfl, rfl, B1⟩
      case round =>
        clear B1
        obtain ⟨j, hj, rfl, HT, HI⟩ := hrel
        rename World => wB
        have hzB := HI.out.1.2.2.size
        have hgB := lt_of_block HI.out.2.1
        by_cases hjl : j < R.length
        · obtain ⟨gl, rfl, _, _⟩ := owns_form HI.out.2.2.2.2 (by omega)
          obtain ⟨u0, u1, u2, u3⟩ := useCells_at hjl
          have c0 := owns_cell HI.out.2.2.2.2 u0
          have c1 := owns_cell HI.out.2.2.2.2 u1
          have c2 := owns_cell HI.out.2.2.2.2 u2
          have c3' := owns_cell HI.out.2.2.2.2 u3
          have b0 := cell_of HI.out.2.1 0
          have b1 := cell_of HI.out.2.1 1
          have b2 := cell_of HI.out.2.1 2
          simp at b0 b1 b2
          obtain ⟨hRn, hRb⟩ := HRF.out _ (List.getElem_mem hjl)
          have FW := (Below.refl wB.heap.size wB).alloc (Nat.le_refl _) (.cells #[.int .i64 R[j].n, .int .i64 R[j].p, .int .i64 R[j].b, .int .i64 R[j].s] 170)
          have gW := heap_alloc_last wB (.cells #[.int .i64 R[j].n, .int .i64 R[j].p, .int .i64 R[j].b, .int .i64 R[j].s] 170)
          have HIW := stop (And.intro (HI.out.keeps FW) gW)
          clear u0 u1 u2 u3 HI FW gW
          go_wp2_with fail
          clear c0 c1 c2 c3' b0 b1 b2
          generalize wB.alloc (.cells #[.int .i64 R[j].n, .int .i64 R[j].p, .int .i64 R[j].b, .int .i64 R[j].s] 170) = W5 at *
          refine (reachM bs w.heap.size R[j].b _ _ _ W5 ⟨_, _, _, rfl⟩ ⟨_, _, _, rfl⟩ HIW.out.1.2.2.1 hRb (by omega)).mono ?_
          rintro e w6 ⟨rfl, f6⟩
          have HI6 := stop (And.intro (HIW.out.1.keeps f6) (by rw [f6.block _ (lt_of_block HIW.out.2)]; exact HIW.out.2 : w6.heap[wB.heap.size]? = some (.cells #[.int .i64 R[j].n, .int .i64 R[j].p, .int .i64 R[j].b, .int .i64 R[j].s] 170 (0, 0))))
          clear HIW f6
          generalize hrb : rchF (suF bs) bs.length noB R[j].b = rb
          have HRB := stop hrb
          clear hrb
          cases rb with
          | false =>
            have HT2 := stop (find_on hjl HT.out (bad_off HRB.out))
            clear HT
            go_wp2_with fail
            go_roundw
            case rel => exact ⟨j + 1, by omega, by go_num, HT2, HI6.out.1⟩
            case measure => simp [intOf]; omega
          | true =>
            have HSP := stop (mD_spec R[j].n (.agg [.lit (.int .i64 0), .lit (.int .i64 0)]) _ L rfl HTW.out)
            obtain ⟨x6, ps6, hrun6, hx6⟩ := HI6.out.1.1.2.1.look_ok lawK Tryz.underlying172 (zeroS w6) (zd := .agg [.lit (.int .i64 0), .lit (.int .i64 0)]) (zp := []) rfl (keyOf_int_mk Tryz.underlying56 (wf64 hRn))
            obtain ⟨a6, d6, rfl, hx7⟩ := spotElem_inv hx6
            have HX := stop hx7
            clear hx6 hx7
            have m0 := cell_of HI6.out.2 0
            have m1 := cell_of HI6.out.2 1
            have m2 := cell_of HI6.out.2 2
            have m3 := cell_of HI6.out.2 3
            simp at m0 m1 m2 m3
            have hs6 := lt_of_block HI6.out.2
            have hs4 := lt_of_block HI6.out.1.2.1
            have hsw := lt_of_block HI6.out.1.1.1
            cases hfd : L.find? (fun u => u.n == R[j].n) with
            | none =>
              have hhb := HSP.out.1 hfd
              rw [hhb] at hrun6
              have HT2 := stop (find_hit hjl HT.out (bad_none HRB.out (by rw [HLE.out]; exact hfd)))
              clear HT HSP hfd hhb HX
              have r0 := cell_of HI6.out.1.1.1 0
              have r1 := cell_of HI6.out.1.1.1 1
              have z0 := frozen_of HI6.out.1.1.1 0
              have z1 := frozen_of HI6.out.1.1.1 1
              simp at r0 r1
              go_wp2_with fail
              have q1 := blk_set HI6.out.1.1.1 0 (.int .i64 R[j].n)
              have q2 := blk_set q1 1 (.int .i64 R[j].p)
              have q3 := blk_alloc q2 (.cells #[.int .i64 a6, .int .i64 d6] 168)
              have k0 := cell_of q3 0
              have k1 := cell_of q3 1
              simp at k0 k1
              have F7 := below_set (below_set HI6.out.1.1.2.2 _ 0 (.int .i64 R[j].n) (Nat.le_refl _)) _ 1 (.int .i64 R[j].p) (Nat.le_refl _)
              refine bodyPost_ret (v := .tuple #[.agg #[.int .i64 R[j].n, .int .i64 R[j].p], .bool true]) (by simp [results, Tryz.results57, go_sem, k0, k1]) rfl ⟨.inl ⟨R[j], by rw [HRE.out]; exact HT2.out, rfl⟩, F7.alloc F7.size _⟩
            | some g =>
              obtain ⟨hhb, hat⟩ := HSP.out.2 g hfd
              rw [hhb] at hrun6
              have hx7 := HX.out
              rw [hat] at hx7
              obtain ⟨rfl, rfl⟩ : a6 = g.b ∧ d6 = g.s := by
                simp only [spD] at hx7
                injection hx7 with h1 _
                injection h1 with h1
                injection h1 with h1 h2
                injection h2 with h2 _
                injection h1 with h1
                injection h2 with h2
                injection h1 with _ h1
                injection h2 with _ h2
                exact ⟨h1.symm, h2.symm⟩
              have hgb := HGB.out _ (List.mem_of_find?_eq_some hfd)
              have HBS := stop (bad_some HRB.out (by rw [HLE.out]; exact hfd))
              clear HSP hfd hhb HX hat hx7
              have b0 := cell_of HI6.out.1.2.1 0
              have b1 := cell_of HI6.out.1.2.1 1
              have b2 := cell_of HI6.out.1.2.1 2
              simp at b0 b1 b2
              go_wp2_with fail
              clear b0 b1 b2 m0 m1 m2 m3 hrun6
              have fW := (Below.refl w6.heap.size w6).alloc (Nat.le_refl _) (.cells #[.int .i64 g.b, .int .i64 g.s] 168)
              have HI7 := stop (And.intro (HI6.out.1.keeps fW) (blk_alloc HI6.out.2 (.cells #[.int .i64 g.b, .int .i64 g.s] 168)))
              clear fW HI6
              generalize w6.alloc (.cells #[.int .i64 g.b, .int .i64 g.s] 168) = W7 at *
              refine (precedeP bs w.heap.size g.b R[j].b g.s R[j].s _ _ _ W7 ⟨_, _, _, rfl⟩ ⟨_, _, _, rfl⟩ HI7.out.1.2.2.2.1 hgb hRb (by omega)).mono ?_
              rintro e w8 ⟨rfl, f8⟩
              have HI8 := stop (And.intro (HI7.out.1.keeps f8) (by rw [f8.block _ (lt_of_block HI7.out.2)]; exact HI7.out.2 : w8.heap[wB.heap.size]? = some (.cells #[.int .i64 R[j].n, .int .i64 R[j].p, .int .i64 R[j].b, .int .i64 R[j].s] 170 (0, 0))))
              clear HI7 f8
              generalize hpb : preB bs g.b g.s R[j].b R[j].s = pb at *
              have HPB := stop hpb
              clear hpb
              cases pb with
              | true =>
                have HT2 := stop (find_on hjl HT.out (by rw [HBS.out]; rfl))
                clear HT HBS
                go_wp2_with fail
                go_roundw
                case rel => exact ⟨j + 1, by omega, by go_num, HT2, HI8.out.1⟩
                case measure => simp [intOf]; omega
              | false =>
                have HT2 := stop (find_hit hjl HT.out (by rw [HBS.out]; rfl))
                clear HT HBS
                have r0 := cell_of HI8.out.1.1.1 0
                have r1 := cell_of HI8.out.1.1.1 1
                have z0 := frozen_of HI8.out.1.1.1 0
                have z1 := frozen_of HI8.out.1.1.1 1
                have m0 := cell_of HI8.out.2 0
                have m1 := cell_of HI8.out.2 1
                simp at r0 r1 m0 m1
                go_wp2_with fail
                have q1 := blk_set HI8.out.1.1.1 0 (.int .i64 R[j].n)
                have q2 := blk_set q1 1 (.int .i64 R[j].p)
                have k0 := cell_of q2 0
                have k1 := cell_of q2 1
                simp at k0 k1
                have F9 := below_set (below_set HI8.out.1.1.2.2 _ 0 (.int .i64 R[j].n) (Nat.le_refl _)) _ 1 (.int .i64 R[j].p) (Nat.le_refl _)
                refine bodyPost_ret (v := .tuple #[.agg #[.int .i64 R[j].n, .int .i64 R[j].p], .bool true]) (by simp [results, Tryz.results57, go_sem, k0, k1]) rfl ⟨.inl ⟨R[j], by rw [HRE.out]; exact HT2.out, rfl⟩, F9⟩
        · have hke : j = R.length := by omega
          have HT2 : Hid (amF bs = none) := by have := HT.out; rw [hke, List.take_length, ← HRE.out] at this; exact this
          have r0 := cell_of HI.out.1.1 0
          have r1 := cell_of HI.out.1.1 1
          have z0 := frozen_of HI.out.1.1 0
          have z1 := frozen_of HI.out.1.1 1
          simp at r0 r1
          clear hke HT
          go_wp2_with fail
          have q1 := blk_set HI.out.1.1 0 (.int .i64 0)
          have q2 := blk_set q1 1 (.int .i64 0)
          have k0 := cell_of q2 0
          have k1 := cell_of q2 1
          simp at k0 k1
          refine bodyPost_ret (v := .tuple #[.agg #[.int .i64 0, .int .i64 0], .bool false]) (by simp [results, Tryz.results57, go_sem, k0, k1]) rfl ⟨.inr ⟨HT2.out, rfl⟩, below_set (below_set HI.out.1.2.2 _ _ _ (Nat.le_refl _)) _ _ _ (Nat.le_refl _)⟩

end Go.Proofs.YtgfhfkgdmidhpaaGreat

namespace Go.Proofs.YtgfhfkgdmidhpaaGreat
open Go.RowKit

set_option maxRecDepth 100000 in
set_option maxHeartbeats 1000000 in
theorem notSingleP (bs : List RBlk) (base : Nat) (v : Value) (w : World) (hP : PBs w base bs v) (hf : Hid (∀ b ∈ bs, BFine 1000000 b)) (hg2 : Hid (∀ b ∈ bs, ∀ c ∈ b.chs, c.gs.length ≤ 1000)) (hcg : Hid (∀ b ∈ bs, ∀ c ∈ b.chs, ∀ p ∈ c.gs, p.1 < bs.length)) (hgl : Hid (∀ b ∈ bs, ∀ p ∈ goalsF b.e, p.1 < bs.length)) (hn0 : 0 < bs.length) (hn : bs.length ≤ 12) :
    Calls Tryz.prog 35 #[v] w fun x w' => x = .returned (.tuple #[.int .i64 (sgE bs).1, .int .i64 (sgE bs).2]) ∧ Below w.heap.size w w' := by
  obtain ⟨pv, cv, rfl⟩ := hP.slice
  have HP := stop hP
  clear hP
  go_enter Tryz.func35, Tryz.ntmps35
  go_wp2_with fail
  refine (givenTwiceP bs base _ _ HP.out hf (by omega)).mono ?_
  rintro x w1 ⟨hx, f1⟩
  have F1 := stop f1
  have s1 := f1.size
  clear f1
  rcases hx with ⟨u, hu, rfl⟩ | ⟨ht, rfl⟩
  · have HE : Hid (sgE bs = (8, (u.p : Int))) := by show _ = _; rw [sgE, hu]
    clear hu
    go_wp2_with fail
    go_region
    go_wp2_with fail
    go_ret2
    have F := F1.out.alloc s1 (.cells #[.int .i64 u.n, .int .i64 u.p] 108)
    exact ⟨by rw [HE.out]; rfl, ⟨F.os, F.tape, F.output, F.size, F.block⟩⟩
  · have HT := stop ht
    clear ht
    go_wp2_with fail
    have F2 := stop (F1.out.alloc s1 (.cells #[.int .i64 0, .int .i64 0] 108))
    generalize w1.alloc (.cells #[.int .i64 0, .int .i64 0] 108) = W2 at *
    refine (readAmissP bs base _ _ (HP.out.keeps (Keeps.below F2.out)) hf hg2 hcg hgl HT hn0 hn).mono ?_
    rintro x w3 ⟨hx, f3⟩
    have F3 := stop (F2.out.trans (f3.mono F2.out.size))
    have s3 := F3.out.size
    clear f3
    rcases hx with ⟨u, hu, rfl⟩ | ⟨hu, rfl⟩
    · have HE : Hid (sgE bs = (9, (u.p : Int))) := by show _ = _; rw [sgE, HT.out]; simp only; rw [hu]
      clear hu
      go_wp2_with fail
      go_region
      go_wp2_with fail
      go_ret2
      have F := F3.out.alloc s3 (.cells #[.int .i64 u.n, .int .i64 u.p] 108)
      exact ⟨by rw [HE.out]; rfl, ⟨F.os, F.tape, F.output, F.size, F.block⟩⟩
    · have HE : Hid (sgE bs = (0, 0)) := by show _ = _; rw [sgE, HT.out]; simp only; rw [hu]
      clear hu
      go_wp2_with fail
      go_ret2
      exact ⟨by rw [HE.out]; rfl, F3.out.alloc s3 _⟩

set_option maxHeartbeats 1000000 in
theorem singleP (s : ByteArray) (w : World) (hs : s.size ≤ maxLen) :
    Calls Tryz.prog 22 #[.string s] w fun x w' => x = .returned (.tuple #[.int .i64 (snE s), .int .i64 (snA s)]) ∧ Below w.heap.size w w' := by
  go_enter Tryz.func22, Tryz.ntmps22
  go_wp2_with fail
  refine (readUpP 40000 (by omega) s w hs).mono ?_
  rintro x w1 ⟨v1, rfl, H1⟩
  by_cases h0 : upE 40000 s = 0
  · have HZ := stop (H1.out.1 h0)
    have hr := (upE_zero h0).1
    obtain ⟨ha, hn0, hn, hgl⟩ := rd0 hr
    obtain ⟨hf, _, hg2⟩ := fineS hr
    have HF := stop hf
    have HG2 := stop hg2
    have HGL := stop hgl
    have HCG := stop (goalsS hr)
    have HE : Hid (snE s = (sgE (parF s).bs).1 ∧ snA s = (sgE (parF s).bs).2) := ⟨by rw [snE, if_pos h0], by rw [snA, if_pos h0]⟩
    have F1 := stop H1.out.2
    have s1 := F1.out.size
    rw [h0, ha]
    obtain ⟨pv, cv, rfl⟩ := HZ.out.slice
    clear h0 ha hf hg2 hgl hr H1
    go_wp2_with fail
    refine (notSingleP (parF s).bs w.heap.size _ w1 HZ.out HF HG2 HCG HGL hn0 (by omega)).mono ?_
    rintro e w2 ⟨rfl, f2⟩
    have F2 := stop (F1.out.trans (f2.mono s1))
    clear f2
    go_wp2_with fail
    go_ret2
    exact ⟨by rw [HE.out.1, HE.out.2]; rfl, F2.out⟩
  · have hd : ((upE 40000 s : Int) != 0) = true := by simp; omega
    have HE : Hid (snE s = upE 40000 s ∧ snA s = (rdF s).at_) := ⟨by rw [snE, if_neg h0], by rw [snA, if_neg h0]⟩
    have F1 := stop H1.out.2
    clear h0 H1
    go_wp2_with fail
    go_ret2
    exact ⟨by rw [HE.out.1, HE.out.2]; rfl, F1.out⟩

set_option maxHeartbeats 1000000 in
theorem singles_any (s : ByteArray) (w : World) (hs : s.size ≤ maxLen) : Calls Tryz.prog 7 #[.string s] w fun x w' => x = .returned (.bool true) ∧ Below w.heap.size w w' := by
  go_enter Tryz.func7, Tryz.ntmps7
  go_wp2_with fail
  refine (singleP s _ hs).mono ?_
  rintro x w1 ⟨rfl, f1⟩
  have F1 := stop f1
  clear f1
  go_wp2_with fail
  refine (singleR s _ hs).mono ?_
  rintro x w2 ⟨rfl, f2⟩
  have F2 := stop (F1.out.trans (f2.mono F1.out.size))
  clear f2
  go_wp2_with fail
  refine (num_any _ _).mono ?_
  rintro x w3 ⟨rfl, hw3⟩
  have F3 : Hid (Below w.heap.size w w3) := by show Below _ _ _; rw [hw3]; exact F2.out
  clear hw3
  go_wp2_with fail
  go_ret
  exact ⟨by simp, F3.out⟩

end Go.Proofs.YtgfhfkgdmidhpaaGreat
