import Derived.Test.YtgfhfkgdmidhpaaGreatMH
import Derived.Test.YtgfhfkgdmidhpaaGreatG22
namespace Go.Proofs.YtgfhfkgdmidhpaaGreat
open Go.RowKit

/-- A row of sets, to be read. -/
def SetQ (base : Nat) (w : World) (v : Value) (n : Nat) (f : Nat → List Nat) : Prop :=
  ∃ us : List Value, w.ownsRow base 100 1 v n us ∧ ∀ (k : Nat) (u : Value), us[k]? = some u → w.ownsRow base 56 1 u (f k).length (icell (f k))
theorem SetQ.slice {base w v n f} (h : SetQ base w v n f) : ∃ p c, v = .slice p n c := by obtain ⟨us, a, _⟩ := h; exact owns_slice2 a
theorem SetQ.keeps {base : Nat} {w w' : World} {v : Value} {n : Nat} {f : Nat → List Nat} (h : SetQ base w v n f) (k : Below w.heap.size w w') : SetQ base w' v n f := by
  obtain ⟨us, a, b⟩ := h
  exact ⟨us, owns_keeps a (Keeps.below (T := fun _ => True) k) trivial, fun j u hu => owns_keeps (b j u hu) (Keeps.below (T := fun _ => True) k) trivial⟩
theorem SetQ.base {base base' : Nat} {w : World} {v : Value} {n : Nat} {f : Nat → List Nat} (h : SetQ base w v n f) (hb : base' ≤ base) : SetQ base' w v n f := by
  obtain ⟨us, a, b⟩ := h
  exact ⟨us, owns_base a hb, fun j u hu => owns_base (b j u hu) hb⟩
theorem SetQ.congr {base : Nat} {w : World} {v : Value} {n : Nat} {f f' : Nat → List Nat} (h : SetQ base w v n f) (e : ∀ k, k < n → f' k = f k) : SetQ base w v n f' := by
  obtain ⟨us, a, b⟩ := h
  have hl : us.length = n := by have := a.1; omega
  refine ⟨us, a, fun j u hu => ?_⟩
  have hj : j < n := by
    rcases Nat.lt_or_ge j us.length with h | h
    · omega
    · rw [List.getElem?_eq_none h] at hu; cases hu
  rw [e j hj]; exact b j u hu
theorem SetQ.at {base : Nat} {w : World} {p : Option Addr} {c n : Nat} {f : Nat → List Nat} (h : SetQ base w (.slice p n c) n f) {k : Nat} (hk : k < n) :
    ∃ g u, p = some ⟨g, 0, none⟩ ∧ base ≤ g ∧ g < w.heap.size ∧ w.cell? ⟨g, k, none⟩ = some u ∧ w.frozen? ⟨g, k, none⟩ = false ∧ w.ownsRow base 56 1 u (f k).length (icell (f k)) := by
  obtain ⟨us, a, b⟩ := h
  obtain ⟨g, rfl, hb, hg⟩ := owns_form a (by omega)
  have hl : us.length = n := by have := a.1; omega
  have hu : us[k]? = some us[k] := List.getElem?_eq_getElem (by omega)
  exact ⟨g, us[k], rfl, hb, hg, owns_cell a hu, owns_fz a k, b k _ hu⟩
theorem SetQ.store {base : Nat} {w : World} {g c n : Nat} {f : Nat → List Nat} (h : SetQ base w (.slice (some ⟨g, 0, none⟩) n c) n f) {k : Nat} {u : Value} {l : List Nat} (o : w.ownsRow base 56 1 u l.length (icell l)) :
    SetQ base (w.setCell ⟨g, k, none⟩ u) (.slice (some ⟨g, 0, none⟩) n c) n (fun j => if j = k then l else f j) := by
  obtain ⟨us, a, b⟩ := h
  have hb : ∃ cs fz, w.heap[g]? = some (.cells cs 100 fz) := by
    rcases a.2 with ⟨h0, _⟩ | ⟨g', cap', cur', hv, _, hc', _⟩
    · cases h0
    · cases hv; exact ⟨_, _, hc'⟩
  obtain ⟨cs, fz, hg⟩ := hb
  refine ⟨us.set k u, owns_store a k u, fun j x hx => ?_⟩
  rw [List.getElem?_set] at hx
  by_cases hj : k = j
  · subst hj
    rw [if_pos rfl] at hx
    split at hx
    · cases hx
      show (w.setCell _ u).ownsRow base 56 1 u (if k = k then l else f k).length (icell (if k = k then l else f k))
      rw [if_pos rfl]
      exact owns_setT o hg (by decide)
    · cases hx
  · rw [if_neg hj] at hx
    show (w.setCell _ u).ownsRow base 56 1 x (if j = k then l else f j).length (icell (if j = k then l else f j))
    rw [if_neg (fun e : j = k => hj e.symm)]
    exact owns_setT (b j x hx) hg (by decide)
/-- What matters at the end of a block, as far as the blocks behind are gone through. -/
def aeTo (bs : List RBlk) (X : Nat → List Nat) (i : Nat) (L : List Nat) (k : Nat) : List Nat := ofL ((L.take k).flatMap fun q => chnL (bkF bs q) i ++ dif (X q) (ofL (ctoL (bkF bs q))))
theorem aeTo_zero (bs X i L) : aeTo bs X i L 0 = [] := by simp [aeTo, ofL_id]
theorem aeTo_all (bs X i) : aeTo bs X i (suF bs i) (suF bs i).length = atL bs X i := by rw [aeTo, List.take_length, atL]
theorem aeTo_succ {bs : List RBlk} {X : Nat → List Nat} {i : Nat} {L : List Nat} {k : Nat} (hk : k < L.length) : ofL (ofL (aeTo bs X i L k ++ ofL (chnL (bkF bs L[k]) i)) ++ dif (X L[k]) (ofL (ctoL (bkF bs L[k])))) = aeTo bs X i L (k + 1) := by
  rw [aeTo, aeTo, List.take_succ_eq_append_getElem hk]
  refine ofL_ext fun x => ?_
  simp only [List.mem_append, ofL_mem, List.mem_flatMap, dif_mem, List.mem_singleton]
  constructor
  · rintro ((⟨q, hq, h⟩ | h) | h)
    · exact ⟨q, .inl hq, h⟩
    · exact ⟨_, .inr rfl, .inl h⟩
    · exact ⟨_, .inr rfl, .inr h⟩
  · rintro ⟨q, hq | rfl, h⟩
    · exact .inl (.inl ⟨q, hq, h⟩)
    · rcases h with h | h
      · exact .inl (.inr h)
      · exact .inr h
theorem aeTo_sm {bs : List RBlk} {X : Nat → List Nat} {n : Nat} (hf : ∀ b ∈ bs, BFine n b) (hX : ∀ k, SM (X k)) (i : Nat) (L : List Nat) (q : Nat) : SM (aeTo bs X i L q) := SM.of fun x hx => by
  rw [List.mem_flatMap] at hx
  obtain ⟨k, _, hk⟩ := hx
  rcases List.mem_append.1 hk with h | h
  · exact chnL_lt (bkF_fine hf k) h
  · exact (hX k).2 x (dif_mem.1 h).1
theorem dif_sm {a : List Nat} (h : SM a) (b : List Nat) : SM (dif a b) := ⟨dif_srt h.1, fun x hx => h.2 x (dif_mem.1 hx).1⟩
theorem cto_sm {n : Nat} {b : RBlk} (h : BFine n b) : SM (ofL (ctoL b)) := SM.of fun x hx => by
  obtain ⟨c, hc, rfl⟩ := List.mem_map.1 hx
  exact (h.ch c hc).1
theorem chn_sm {n : Nat} {b : RBlk} (h : BFine n b) (i : Nat) : SM (ofL (chnL b i)) := SM.of fun _ hx => chnL_lt h hx
/-- The world within atEnd. -/
def AtI (bs : List RBlk) (X : Nat → List Nat) (i : Nat) (w : World) (L : List Nat) (vI : Value) (k : Nat) (v : Value) (wr : World) : Prop :=
  wr.heap[w.heap.size]? = some (.cells #[.slice none 0 0] 100 (0, 0)) ∧ wr.heap[w.heap.size + 1]? = some (.cells #[v] 100 (0, 0)) ∧
  wr.ownsRow w.heap.size 56 1 v (aeTo bs X i L k).length (icell (aeTo bs X i L k)) ∧ wr.ownsRow w.heap.size 92 1 vI L.length (icell L) ∧ Below w.heap.size w wr

set_option maxRecDepth 100000 in
set_option maxHeartbeats 2000000 in
theorem atEndP (bs : List RBlk) (X : Nat → List Nat) (i base B : Nat) (v vf : Value) (w : World) (hP : PBs w base bs v) (hX : SetQ B w vf bs.length X) (hgl : Hid (∀ b ∈ bs, ∀ p ∈ goalsF b.e, p.1 < bs.length)) (hf : Hid (∀ b ∈ bs, BFine 1000000 b)) (hri : Hid (∀ b ∈ bs, ∀ c ∈ b.chs, (c.gs.map (·.1)).Pairwise (· < ·))) (hg2 : Hid (∀ b ∈ bs, ∀ c ∈ b.chs, c.gs.length ≤ 1000)) (hXs : Hid (∀ k, SM (X k))) (hi : i < bs.length) :
    Calls Tryz.prog 53 #[v, .int .i64 i, vf] w fun x w' => ∃ v', x = .returned (.agg #[v']) ∧ Hid (w'.ownsRow w.heap.size 56 1 v' (atL bs X i).length (icell (atL bs X i)) ∧ Below w.heap.size w w') := by
  have HP := stop hP
  have HX := stop hX
  obtain ⟨pv, cv, rfl⟩ := hP.slice
  obtain ⟨pf, cf, rfl⟩ := hX.slice
  obtain ⟨gv, qc, cc, ps, cs1, rfl, _, hgv, hop, _, _, d0, d1, d2, d3⟩ := hP.at hi
  obtain ⟨T, x, hT⟩ := endVal_iface bs[i].e
  rw [hT] at d3
  have HT := stop hT
  have HOP := stop hop
  have al : ∀ (j : Nat) (u : Value), w.cell? ⟨gv, j, none⟩ = some u → ∀ o o', ((w.alloc o).alloc o').cell? ⟨gv, j, none⟩ = some u := fun j u hu o o' => by
    rw [World.cell?_of_block (w := w.alloc o) (Below.heap_alloc (w.alloc o) o' _ (by rw [World.size_alloc]; show gv < _; omega)), World.cell?_of_block (w := w) (Below.heap_alloc w o _ hgv)]; exact hu
  have d0 := al _ _ d0
  have d1 := al _ _ d1
  have d2 := al _ _ d2
  have d3 := al _ _ d3
  clear al hP hX hT hop
  go_enter Tryz.func53, Tryz.ntmps53
  go_wp2_with fail
  obtain ⟨W, hW⟩ : ∃ W, W = (w.alloc (.cells #[.slice none 0 0] 100)).alloc (.cells #[.slice none 0 0] 100) := ⟨_, rfl⟩
  rw [← hW]
  obtain ⟨g0, g1, hz, f2⟩ := two w (.cells #[.slice none 0 0] 100) (.cells #[.slice none 0 0] 100)
  rw [← hW] at g0 g1 hz f2
  clear hW d0 d1 d2 d3
  have HB : Hid (Calls Tryz.prog 86 #[.agg #[.int .i64 bs[i].at_, .slice qc bs[i].chs.length cc, .slice ps bs[i].sts.length cs1, .iface T x]] W fun x w' => ∃ v', x = .returned (.agg #[v']) ∧ w'.ownsRow W.heap.size 92 1 v' (bhd bs[i].e).length (icell (bhd bs[i].e)) ∧ Below W.heap.size W w') := by
    rw [← HT.out]; exact bhdP bs[i].e HOP.out bs[i].at_ qc bs[i].chs.length cc ps bs[i].sts.length cs1 W
  refine HB.out.mono ?_
  rintro r w3 ⟨vb, rfl, o3, f3⟩
  have s3 := f3.size
  obtain ⟨pb, cb, rfl⟩ := owns_slice2 o3
  have hbl : (bhd bs[i].e).length ≤ 2 := by
    have := goalsF_le bs[i].e
    have := ofL_len ((goalsF bs[i].e).map (·.1))
    rw [List.length_map] at this
    rw [bhd]; omega
  have HSU : Hid (suF bs i = bhd bs[i].e) := suF_at hi
  have HLT : Hid (∀ k ∈ bhd bs[i].e, k < bs.length) := fun k hk => suF_lt hgl.out i k (by rw [HSU.out]; exact hk)
  generalize bhd bs[i].e = L at *
  have O3 := stop (And.intro o3 f3)
  clear o3 f3 HB
  go_wp2_with fail
  refine (itmB L W.heap.size _ w3 O3.out.1 (by omega)).mono ?_
  rintro r w4 ⟨vi, rfl, o4, f4⟩
  have s4 := f4.size
  obtain ⟨pi, ci, rfl⟩ := owns_slice2 o4
  have H0 : Hid (AtI bs X i w L (.slice pi L.length ci) 0 (.slice none 0 0) w4) := by
    have f34 := O3.out.2.trans (f4.mono s3)
    exact ⟨by rw [f34.block _ (by omega)]; exact g0, by rw [f34.block _ (by omega)]; exact g1, by rw [aeTo_zero]; exact World.ownsRow_nil _ _ _ _, owns_base o4 (by omega), f2.trans (f34.mono (by omega))⟩
  clear O3 o4 f4 g0 g1 f2
  go_wp2_with fail
  go_loopw [19] (fun j wr => ∃ (k : Nat) (v : Value), k ≤ L.length ∧ j = .int .i64 k ∧ Hid (AtI bs X i w L (.slice pi L.length ci) k v wr)) (fun j _ => L.length - (intOf j).toNat)
  case atStart => exact ⟨0, _, by omega, rfl, H0⟩
  case round =>
    clear H0
    obtain ⟨k, v, hk, rfl, HI⟩ := hrel
    have hzl := lt_of_block HI.out.2.1
    by_cases hlt : k < L.length
    · obtain ⟨gi, rfl, _, _⟩ := owns_form HI.out.2.2.2.1 (by omega)
      have c0 := owns_cell HI.out.2.2.2.1 (icell_at hlt)
      have hkn := HLT.out _ (List.getElem_mem hlt)
      have PB := HP.out.keeps (Keeps.below HI.out.2.2.2.2)
      obtain ⟨gv', qk, ck, pk, sk, hgv', _, _, _, OC, _, _, e1, _, _⟩ := PB.at hkn
      cases hgv'
      have HBF := hf.out _ (List.getElem_mem hkn)
      have hcl := HBF.cl
      have HBFh := stop HBF
      have HRI := stop (hri.out _ (List.getElem_mem hkn))
      have HG2 := stop (hg2.out _ (List.getElem_mem hkn))
      have HOC := stop OC
      have HAE := stop (aeTo_succ (bs := bs) (X := X) (i := i) hlt)
      have HBK := stop (bkF_at hkn)
      clear PB OC HBF
      go_wp2_with fail
      refine (entryP bs[L[k]] 1000000 HBFh HRI HG2 i base qk ck wr HOC.out hcl).mono ?_
      rintro r w5 ⟨v1, v2, rfl, H5⟩
      obtain ⟨p1, c1, rfl⟩ := owns_slice2 H5.out.1
      obtain ⟨p2, c2, rfl⟩ := owns_slice2 H5.out.2.1
      have s5 := H5.out.2.2.size
      obtain ⟨pr, cr, rfl⟩ := owns_slice2 HI.out.2.2.1
      have QX := (HX.out.keeps (w' := wr) (by
        have := HI.out.2.2.2.2
        exact this)).keeps (w' := w5) (H5.out.2.2)
      obtain ⟨gf, uf, rfl, _, hgf, cf5, _, of5⟩ := QX.at hkn
      obtain ⟨pu, cu, rfl⟩ := owns_slice2 of5
      obtain ⟨W7, hW7⟩ : ∃ W7, W7 = (w5.alloc (.cells #[.slice p1 (ofL (chnL bs[L[k]] i)).length c1] 100)).alloc (.cells #[.slice p2 (ofL (ctoL bs[L[k]])).length c2] 100) := ⟨_, rfl⟩
      obtain ⟨h0, h1, hz7, f7⟩ := two w5 (.cells #[.slice p1 (ofL (chnL bs[L[k]] i)).length c1] 100) (.cells #[.slice p2 (ofL (ctoL bs[L[k]])).length c2] 100)
      rw [← hW7] at h0 h1 hz7 f7
      have R7 : Hid (W7.heap[w.heap.size]? = some (.cells #[.slice none 0 0] 100 (0, 0)) ∧ W7.heap[w.heap.size + 1]? = some (.cells #[.slice pr (aeTo bs X i L k).length cr] 100 (0, 0)) ∧ W7.ownsRow w.heap.size 56 1 (.slice pr (aeTo bs X i L k).length cr) (aeTo bs X i L k).length (icell (aeTo bs X i L k)) ∧ W7.ownsRow w.heap.size 92 1 (.slice (some ⟨gi, 0, none⟩) L.length ci) L.length (icell L) ∧ Below w.heap.size w W7 ∧ W7.ownsRow wr.heap.size 56 1 (.slice p1 (ofL (chnL bs[L[k]] i)).length c1) (ofL (chnL bs[L[k]] i)).length (icell (ofL (chnL bs[L[k]] i))) ∧ W7.ownsRow wr.heap.size 56 1 (.slice p2 (ofL (ctoL bs[L[k]])).length c2) (ofL (ctoL bs[L[k]])).length (icell (ofL (ctoL bs[L[k]]))) ∧ W7.ownsRow B 56 1 (.slice pu (X L[k]).length cu) (X L[k]).length (icell (X L[k]))) := by
        obtain ⟨a1, a2, a3, a4, a5⟩ := HI.out
        obtain ⟨j1, j2, j3⟩ := H5.out
        have F := j3.trans (f7.mono s5)
        have K := Keeps.below (base := w.heap.size) (T := fun _ => True) F
        have K5 := Keeps.below (base := wr.heap.size) (T := fun _ => True) f7
        exact ⟨by rw [F.block _ (lt_of_block a1)]; exact a1, by rw [F.block _ (lt_of_block a2)]; exact a2, owns_keeps a3 K trivial, owns_keeps a4 K trivial, a5.trans (F.mono a5.size), owns_keeps j1 K5 trivial, owns_keeps j2 K5 trivial, owns_keeps of5 (Keeps.below (T := fun _ => True) f7) trivial⟩
      have x0 := cell_of R7.out.2.1 0
      have x0f := frozen_of R7.out.2.1 0
      have x1 := cell_of h0 0
      have x2 := cell_of h1 0
      have x3 := (f7.cell (p := ⟨gf, L[k], none⟩) (by show gf < _; omega)).trans cf5
      simp at x0 x1 x2
      have l0 : w.heap.size + 1 < W7.heap.size := by omega
      have l2 : w5.heap.size + 1 < W7.heap.size := by omega
      have l3 : gf < W7.heap.size := by omega
      have L1 := (aeTo_sm hf.out hXs.out i L k).len
      have L2 := (chn_sm HBFh.out i).len
      have L3 := (hXs.out L[k]).len
      have L4 := (cto_sm HBFh.out).len
      have HS4 := stop (cto_sm HBFh.out).1
      have L5 := (dif_sm (hXs.out L[k]) (ofL (ctoL bs[L[k]]))).len
      have L6 : (ofL (aeTo bs X i L k ++ ofL (chnL bs[L[k]] i))).length ≤ 10000 := (SM.puts (aeTo_sm hf.out hXs.out i L k) (chn_sm HBFh.out i).2).len
      rw [HBK.out] at HAE
      have HXK := stop (hXs.out L[k])
      clear HI H5 h0 h1 f7 QX of5 cf5 c0 e1
      go_wp2_with fail
      rw [← hW7]
      clear hW7
      go_region_law (first | (refine stepC rfl 84 #[.agg #[.slice pr (aeTo bs X i L k).length cr], .agg #[.slice p1 (ofL (chnL bs[L[k]] i)).length c1]] (by go_simp) (unionR (aeTo bs X i L k) (ofL (chnL bs[L[k]] i)) w.heap.size wr.heap.size _ _ W7.drew R7.out.2.2.1 R7.out.2.2.2.2.2.1 (by omega) (by omega)) ?_; rintro e w8 ⟨v8, rfl, o8, f8⟩; obtain ⟨p8, c8, rfl⟩ := owns_slice2 o8; have f8' : Below W7.heap.size W7 w8 := ⟨f8.os, f8.tape, f8.output, f8.size, f8.block⟩; have s8 := f8'.size; have y0 := f8'.cell (p := ⟨w.heap.size + 1, 0, none⟩) l0; have y0f := f8'.frozen (p := ⟨w.heap.size + 1, 0, none⟩) l0; have y2 := f8'.cell (p := ⟨w5.heap.size + 1, 0, none⟩) l2; have y3 := f8'.cell (p := ⟨gf, L[k], none⟩) l3; have O8 := stop (And.intro o8 f8'); clear o8 f8 f8') | (refine stepC rfl 85 #[.agg #[.slice pu (X L[k]).length cu], .agg #[.slice p2 (ofL (ctoL bs[L[k]])).length c2]] (by go_simp) (minusR (X L[k]) (ofL (ctoL bs[L[k]])) B wr.heap.size _ _ w8 (owns_keeps R7.out.2.2.2.2.2.2.2 (Keeps.below (T := fun _ => True) O8.out.2) trivial) (owns_keeps R7.out.2.2.2.2.2.2.1 (Keeps.below (T := fun _ => True) O8.out.2) trivial) HS4 (by omega) (by omega)) ?_; rintro e w9 ⟨v9, rfl, o9, f9⟩; obtain ⟨p9, c9, rfl⟩ := owns_slice2 o9; have s9 := f9.size; have z0 := f9.cell (p := ⟨w.heap.size + 1, 0, none⟩) (show w.heap.size + 1 < w8.heap.size by omega); have z0f := f9.frozen (p := ⟨w.heap.size + 1, 0, none⟩) (show w.heap.size + 1 < w8.heap.size by omega); have O9 := stop (And.intro o9 f9); clear o9 f9) | (refine stepC rfl 84 #[.agg #[.slice p8 (ofL (aeTo bs X i L k ++ ofL (chnL bs[L[k]] i))).length c8], .agg #[.slice p9 (dif (X L[k]) (ofL (ctoL bs[L[k]]))).length c9]] (by go_simp) (unionR (ofL (aeTo bs X i L k ++ ofL (chnL bs[L[k]] i))) (dif (X L[k]) (ofL (ctoL bs[L[k]]))) W7.heap.size w8.heap.size _ _ w9 (owns_keeps O8.out.1 (Keeps.below (T := fun _ => True) O9.out.2) trivial) O9.out.1 (by omega) (by omega)) ?_; rintro e wa ⟨va, rfl, oa, fa⟩; obtain ⟨pa, ca, rfl⟩ := owns_slice2 oa; have sa := fa.size; have t0 := fa.cell (p := ⟨w.heap.size + 1, 0, none⟩) (show w.heap.size + 1 < w9.heap.size by omega); have t0f := fa.frozen (p := ⟨w.heap.size + 1, 0, none⟩) (show w.heap.size + 1 < w9.heap.size by omega); have OA := stop (And.intro oa fa); clear oa fa) | fail)
      all_goals
        have HIA : Hid (AtI bs X i w L (.slice (some ⟨gi, 0, none⟩) L.length ci) (k + 1) (.slice pa (ofL (ofL (aeTo bs X i L k ++ ofL (chnL bs[L[k]] i)) ++ dif (X L[k]) (ofL (ctoL bs[L[k]])))).length ca) (wa.setCell ⟨w.heap.size + 1, 0, none⟩ (.slice pa (ofL (ofL (aeTo bs X i L k ++ ofL (chnL bs[L[k]] i)) ++ dif (X L[k]) (ofL (ctoL bs[L[k]])))).length ca))) := by
          have f89 := O8.out.2.trans (O9.out.2.mono s8)
          have f8a := f89.trans (OA.out.2.mono (by omega))
          obtain ⟨a1, a2, a3, a4, a5, _⟩ := R7.out
          have b1 : wa.heap[w.heap.size]? = some (.cells #[.slice none 0 0] 100 (0, 0)) := by rw [f8a.block _ (lt_of_block a1)]; exact a1
          have b2 : wa.heap[w.heap.size + 1]? = some (.cells #[.slice pr (aeTo bs X i L k).length cr] 100 (0, 0)) := by rw [f8a.block _ (lt_of_block a2)]; exact a2
          refine ⟨blk_setOther b1 (by omega) _ _, blk_set b2 _ _, ?_, ?_, ?_⟩
          · rw [← HAE.out]; exact owns_setT (owns_base OA.out.1 (by omega)) b2 (by decide)
          · exact owns_setT (owns_keeps a4 (Keeps.below (T := fun _ => True) f8a) trivial) b2 (by decide)
          · exact below_set (a5.trans (f8a.mono (by omega))) _ _ _ (by omega)
        clear R7 O8 O9 OA
        go_wp2_with fail
        go_roundw
        case rel => exact ⟨k + 1, _, by omega, by go_num, HIA⟩
        case measure => simp [intOf]; omega
    · have hke : k = L.length := by omega
      have H3 : Hid (wr.heap[w.heap.size]? = some (.cells #[.slice none 0 0] 100 (0, 0)) ∧ wr.heap[w.heap.size + 1]? = some (.cells #[v] 100 (0, 0)) ∧ wr.ownsRow w.heap.size 56 1 v (atL bs X i).length (icell (atL bs X i)) ∧ Below w.heap.size w wr) := by
        obtain ⟨a1, a2, a3, _, a5⟩ := HI.out
        rw [hke, ← HSU.out, aeTo_all] at a3
        exact ⟨a1, a2, a3, a5⟩
      obtain ⟨pr, cr, rfl⟩ := owns_slice2 H3.out.2.2.1
      have e0 := cell_of H3.out.1 0
      have e1 := cell_of H3.out.2.1 0
      have z0 := frozen_of H3.out.1 0
      simp at e0 e1
      clear HI
      go_wp2_with fail
      have q1 := blk_set H3.out.1 0 (.slice pr (atL bs X i).length cr)
      have k0 := cell_of q1 0
      simp at k0
      refine bodyPost_ret (v := .agg #[.slice pr (atL bs X i).length cr]) (by simp [results, Tryz.results53, go_sem, k0]) rfl ⟨_, rfl, ?_⟩
      obtain ⟨a1, a2, a3, a4⟩ := H3.out
      exact ⟨owns_setT a3 a1 (by decide), below_set a4 _ _ _ (Nat.le_refl _)⟩

end Go.Proofs.YtgfhfkgdmidhpaaGreat
