import Derived.Test.YtgfhfkgdmidhpaaGreatG13
import Derived.Test.YtgfhfkgdmidhpaaGreatMB
import Derived.Test.YtgfhfkgdmidhpaaGreatG19
import Derived.Test.YtgfhfkgdmidhpaaGreatMD
import Derived.Test.YtgfhfkgdmidhpaaGreatMA
import Derived.Deep.RegionHeld3
import Derived.Deep.RegionHeldLaw
namespace Go.Proofs.YtgfhfkgdmidhpaaGreat
open Go.RowKit

/-- A number was put into the set whose row was v, at a cell of block pb. -/
structure Ad (pb : Nat) (v v' : Value) (w w' : World) : Prop where
  os : w'.os = w.os
  tape : w'.tape = w.tape
  output : w'.output = w.output
  size : w.heap.size ≤ w'.heap.size
  block : ∀ k, k < w.heap.size → k ≠ pb → some k ≠ v.ownBlock → w'.heap[k]? = w.heap[k]?
  new : NewOr w v v'
theorem ptF_old {l : List Nat} {x : Nat} (hs : l.Pairwise (· < ·)) (hx : x ∈ l) : ptF l x = l := srt_ext (ptF_srt _ _) hs fun y => by
  rw [ptF_mem]
  constructor
  · rintro (h | rfl)
    · exact h
    · exact hx
  · exact .inl
theorem ptF_new {l : List Nat} {x i : Nat} (hs : l.Pairwise (· < ·)) (hx : x ∉ l) (hp : Splits l x i) : ptF l x = insL l i x := srt_ext (ptF_srt _ _) (ins_srt hs hx hp) fun y => by
  rw [ptF_mem, ins_mem, or_comm]
theorem set_same {cs : Array Value} {o : Nat} {v : Value} (h : cs[o]? = some v) : cs.setIfInBounds o v = cs := by
  apply Array.ext_getElem?
  intro i
  rw [Array.getElem?_setIfInBounds]
  split
  · rename_i e; subst e
    split
    · exact h.symm
    · rename_i h2; rw [Array.getElem?_eq_none (by omega)] at h; cases h
  · rfl
theorem cell_of2 {w : World} {k : Nat} {cs : Array Value} {t : TypeId} {v : Value} (h : w.heap[k]? = some (.cells cs t (0, 0))) {o : Nat} (ho : cs[o]? = some v) : w.cell? ⟨k, o, none⟩ = some v := (cell_of h o).trans ho
theorem addR (l : List Nat) (x : Nat) (hsrt : Hid (l.Pairwise (· < ·))) (pb po base : Nat) (cs : Array Value) (t : TypeId) (v : Value) (w : World) (hB : w.heap[pb]? = some (.cells cs t (0, 0))) (hp : cs[po]? = some v) (h : w.ownsRow base 56 1 v l.length (icell l)) (hl : l.length ≤ 1000000) (hb : base ≤ w.heap.size) (hpv : v.ownBlock ≠ some pb) :
    Calls Tryz.prog 93 #[.pointer (some ⟨pb, po, none⟩), .int .i64 x] w fun e w' => ∃ (bb : Bool) (v' : Value), e = .returned (.bool bb) ∧ Hid (bb = !(hasF l x) ∧ w'.heap[pb]? = some (.cells (cs.setIfInBounds po v') t (0, 0)) ∧ w'.ownsRow base 56 1 v' (ptF l x).length (icell (ptF l x)) ∧ Ad pb v v' w w') := by
  by_cases hx : x ∈ l
  · refine (addOldR l x hx hsrt pb po base v w (cell_of2 hB hp) h hl).mono ?_
    rintro e w' ⟨rfl, HW⟩
    have hW := HW.out
    subst hW
    refine ⟨false, v, rfl, ?_, ?_, ?_, ⟨rfl, rfl, rfl, Nat.le_refl _, fun _ _ _ _ => rfl, .inl rfl⟩⟩
    · rw [hasF, List.contains_iff_mem.2 hx]; rfl
    · rw [set_same hp]; exact hB
    · rw [ptF_old hsrt.out hx]; exact h
  · refine (addNewR l x hx hsrt pb po base v w (cell_of2 hB hp) (frozen_of hB po) h hl hb hpv).mono ?_
    rintro e w' ⟨rfl, i, v', H⟩
    obtain ⟨_, hsp, o', P⟩ := H.out
    refine ⟨true, v', rfl, ?_, ?_, ?_, ⟨P.os, P.tape, P.output, P.size, P.block, P.new⟩⟩
    · have : l.contains x = false := by rw [← Bool.not_eq_true, List.contains_iff_mem]; exact hx
      rw [hasF, this]; rfl
    · rw [P.at_, blk_set hB]
    · rw [ptF_new hsrt.out hx hsp]; exact o'
theorem Ad.below {pb base : Nat} {v v' : Value} {w0 w w' : World} (A : Ad pb v v' w w') (F : Below base w0 w) (hb : base ≤ pb) (hv : ∀ k, v.ownBlock = some k → base ≤ k) (hs : base ≤ w.heap.size) : Below base w0 w' :=
  F.trans ⟨A.os, A.tape, A.output, A.size, fun j hj => A.block j (by omega) (by omega) (fun e => by have := hv j e.symm; omega)⟩
theorem Ad.owns {pb base e size n : Nat} {v v' u : Value} {xs : List Value} {w w' : World} (A : Ad pb v v' w w') (h : w.ownsRow base e size u n xs) (h1 : u.ownBlock ≠ some pb) (h2 : ∀ k, v.ownBlock = some k → u.ownBlock ≠ some k) : w'.ownsRow base e size u n xs := by
  obtain ⟨a, b⟩ := h
  refine ⟨a, b.imp id ?_⟩
  rintro ⟨g, cap, cur, rfl, b1, c1, d1⟩
  refine ⟨g, cap, cur, rfl, b1, ?_, d1⟩
  rw [A.block g (lt_of_block c1) (fun e => h1 (by rw [e]; rfl)) (fun e => h2 g e.symm rfl)]
  exact c1
theorem Ad.own {pb : Nat} {v v' : Value} {w w' : World} (A : Ad pb v v' w w') (hb : pb < w.heap.size) (hv : v.ownBlock ≠ some pb) : v'.ownBlock ≠ some pb := by
  rcases A.new with h | ⟨g, h, hg⟩
  · rw [h]; exact hv
  · rw [h]; intro e; cases e; omega
/-- Two rows lie in different blocks. -/
def Apart (u v : Value) : Prop := ∀ k, v.ownBlock = some k → u.ownBlock ≠ some k
theorem Ad.apart {pb base e size n : Nat} {v v' u : Value} {xs : List Value} {w w' : World} (A : Ad pb v v' w w') (h : w.ownsRow base e size u n xs) (h2 : Apart u v) : Apart u v' := by
  intro k hk hu
  rcases A.new with h3 | ⟨g, h3, hg⟩
  · rw [h3] at hk; exact h2 k hk hu
  · rw [h3] at hk; cases hk
    have := (h.lt _ hu).2
    omega
theorem Apart.symm {u v : Value} (h : Apart u v) : Apart v u := fun k hk hv => h k hv hk
theorem apart_types {w : World} {b1 b2 e1 e2 s1 s2 n1 n2 : Nat} {u v : Value} {xs ys : List Value} (hu : w.ownsRow b1 e1 s1 u n1 xs) (hv : w.ownsRow b2 e2 s2 v n2 ys) (he : e1 ≠ e2) : Apart u v := by
  intro k hk hk2
  rcases hu.2 with ⟨rfl, _⟩ | ⟨g, cap, cur, rfl, _, c1, _⟩
  · cases hk2
  rcases hv.2 with ⟨rfl, _⟩ | ⟨g', cap', cur', rfl, _, c2, _⟩
  · cases hk
  cases hk
  cases hk2
  rw [c1] at c2
  cases c2
  exact he rfl
theorem own_type {w : World} {b1 e1 s1 n1 pb : Nat} {u : Value} {xs : List Value} {cs : Array Value} {t : TypeId} (hu : w.ownsRow b1 e1 s1 u n1 xs) (hB : w.heap[pb]? = some (.cells cs t (0, 0))) (he : e1 ≠ t) : u.ownBlock ≠ some pb := by
  intro hk
  rcases hu.2 with ⟨rfl, _⟩ | ⟨g, cap, cur, rfl, _, c1, _⟩
  · cases hk
  cases hk
  rw [c1] at hB
  cases hB
  exact he rfl

end Go.Proofs.YtgfhfkgdmidhpaaGreat

namespace Go.Proofs.YtgfhfkgdmidhpaaGreat
open Go.RowKit

/-- Blocks other than b are kept, but for rows of registers. -/
def Ke (b : Nat) (w w' : World) : Prop := ∀ (g : Nat) (cur : Array Value) (e : TypeId), g ≠ b → e ≠ 56 → w.heap[g]? = some (.cells cur e (0, 0)) → w'.heap[g]? = some (.cells cur e (0, 0))
theorem Ke.refl (b w) : Ke b w w := fun _ _ _ _ _ h => h
theorem Ke.trans {b : Nat} {u v w : World} (h : Ke b u v) (k : Ke b v w) : Ke b u w := fun g c e h1 h2 h3 => k g c e h1 h2 (h g c e h1 h2 h3)
theorem Ke.below {b : Nat} {w w' : World} (F : Below w.heap.size w w') : Ke b w w' := fun g c e _ _ h => by rw [F.block g (lt_of_block h)]; exact h
theorem Ke.ad {b base n : Nat} {v v' : Value} {xs : List Value} {w w' : World} (A : Ad b v v' w w') (h : w.ownsRow base 56 1 v n xs) : Ke b w w' := fun g c e h1 h2 h3 => by
  rw [A.block g (lt_of_block h3) h1 (fun e1 => own_type h h3 (fun e2 => h2 e2.symm) e1.symm)]
  exact h3
theorem Ke.owns {b base e size n : Nat} {u : Value} {xs : List Value} {w w' : World} (K : Ke b w w') (h : w.ownsRow base e size u n xs) (he : e ≠ 56) (hb : u.ownBlock ≠ some b) : w'.ownsRow base e size u n xs := by
  obtain ⟨a1, b1⟩ := h
  refine ⟨a1, b1.imp id ?_⟩
  rintro ⟨g, cap, cur, rfl, b2, c1, d1⟩
  exact ⟨g, cap, cur, rfl, b2, K g cur e (fun e1 => hb (by rw [e1]; rfl)) he c1, d1⟩
def rrF (R G : List Nat) (q : List (Nat × Nat)) : List Nat := ofL (R ++ dif (q.map (·.1)) G)
theorem rrF_nil {R : List Nat} (G : List Nat) (h : R.Pairwise (· < ·)) : rrF R G [] = R := by rw [rrF]; simp [dif, ofL_id h]
theorem rrF_in {R G : List Nat} {q : List (Nat × Nat)} {k : Nat} (hk : k < q.length) (h : hasF G q[k].1 = true) : rrF R G (q.take (k + 1)) = rrF R G (q.take k) := by
  rw [rrF, rrF]
  refine ofL_ext fun x => ?_
  rw [List.take_succ_eq_append_getElem hk, List.map_append]
  have hm : q[k].1 ∈ G := hasF_iff.1 h
  simp only [List.mem_append, dif_mem, List.map_cons, List.map_nil, List.mem_singleton]
  constructor
  · rintro (h1 | ⟨h1 | rfl, h2⟩)
    · exact .inl h1
    · exact .inr ⟨h1, h2⟩
    · exact absurd hm h2
  · rintro (h1 | ⟨h1, h2⟩)
    · exact .inl h1
    · exact .inr ⟨.inl h1, h2⟩
theorem rrF_out {R G : List Nat} {q : List (Nat × Nat)} {k : Nat} (hk : k < q.length) (h : hasF G q[k].1 = false) : rrF R G (q.take (k + 1)) = ptF (rrF R G (q.take k)) q[k].1 := by
  refine srt_ext (ofL_srt _) (ptF_srt _ _) fun x => ?_
  rw [ptF_mem, rrF, rrF, ofL_mem, ofL_mem, List.take_succ_eq_append_getElem hk, List.map_append]
  have hm : q[k].1 ∉ G := fun e => by rw [hasF_iff.2 e] at h; cases h
  simp only [List.mem_append, dif_mem, List.map_cons, List.map_nil, List.mem_singleton]
  constructor
  · rintro (h1 | ⟨h1 | rfl, h2⟩)
    · exact .inl (.inl h1)
    · exact .inl (.inr ⟨h1, h2⟩)
    · exact .inr rfl
  · rintro ((h1 | ⟨h1, h2⟩) | rfl)
    · exact .inl h1
    · exact .inr ⟨.inl h1, h2⟩
    · exact .inr ⟨.inr rfl, hm⟩
theorem rrF_sm {R G : List Nat} {q : List (Nat × Nat)} (hR : SM R) (hq : ∀ p ∈ q, p.1 < 10000) (k : Nat) : SM (rrF R G (q.take k)) := SM.of fun x hx => by
  rcases List.mem_append.1 hx with h | h
  · exact hR.2 x h
  · obtain ⟨p, hp, rfl⟩ := List.mem_map.1 (dif_mem.1 h).1
    exact hq p (List.mem_of_mem_take hp)

set_option maxRecDepth 100000 in
set_option maxHeartbeats 1500000 in
theorem readE (R G : List Nat) (q : List (Nat × Nat)) (hG : Hid (SM G)) (hR : Hid (SM R)) (hq : Hid (∀ p ∈ q, p.1 < 10000)) (b base : Nat) (vr vg vq : Value) (w : World)
    (hB : w.heap[b]? = some (.cells #[vr, vg] 152 (0, 0))) (hr : w.ownsRow base 56 1 vr R.length (icell R)) (hg : w.ownsRow base 56 1 vg G.length (icell G)) (hA : Apart vg vr) (hv : w.ownsRow 0 108 2 vq q.length (pcs q)) (hb : base ≤ b) (hql : q.length ≤ 1000) :
    Calls Tryz.prog 121 #[.pointer (some ⟨b, 0, none⟩), vq] w fun x w' => x = .returned (.tuple #[]) ∧ ∃ vr', Hid (w'.heap[b]? = some (.cells #[vr', vg] 152 (0, 0)) ∧ w'.ownsRow base 56 1 vr' (rrF R G q).length (icell (rrF R G q)) ∧ w'.ownsRow base 56 1 vg G.length (icell G) ∧ Apart vg vr' ∧ Ke b w w' ∧ Below base w w') := by
  obtain ⟨pq, cq, rfl⟩ := owns_slice2 hv
  have hbl := lt_of_block hB
  have H0 := stop (And.intro hB (And.intro hr (And.intro hg (And.intro hA hv))))
  clear hB hr hg hA hv
  go_enter Tryz.func121, Tryz.ntmps121
  go_wp2_with fail
  go_loopw [8] (fun i wr => ∃ (k : Nat) (vr' : Value), k ≤ q.length ∧ i = .int .i64 k ∧ Hid (wr.heap[b]? = some (.cells #[vr', vg] 152 (0, 0)) ∧ wr.ownsRow base 56 1 vr' (rrF R G (q.take k)).length (icell (rrF R G (q.take k))) ∧ wr.ownsRow base 56 1 vg G.length (icell G) ∧ Apart vg vr' ∧ wr.ownsRow 0 108 2 (.slice pq q.length cq) q.length (pcs q) ∧ Ke b w wr ∧ Below base w wr)) (fun i _ => q.length - (intOf i).toNat)
  case atStart => exact ⟨0, vr, by omega, rfl, H0.out.1, by rw [List.take_zero, rrF_nil _ hR.out.1]; exact H0.out.2.1, H0.out.2.2.1, H0.out.2.2.2.1, H0.out.2.2.2.2, Ke.refl _ _, Below.refl _ _⟩
  case round =>
    clear H0
    obtain ⟨k, vr', hk, rfl, HI⟩ := hrel
    obtain ⟨i1, i2, i3, i4, i5, i6, i7⟩ := HI.out
    have hz := i7.size
    by_cases hlt : k < q.length
    · obtain ⟨gq, rfl, _, _⟩ := owns_form i5 (by omega)
      have c0 := owns_cell i5 (pcs_at hlt).1
      have c1 := owns_cell i5 (pcs_at hlt).2
      clear i1 i2 i3 i4 i5 i6 i7
      go_wp2_with fail
      obtain ⟨W, hW⟩ : ∃ W, W = wr.alloc (.cells #[.int .i64 q[k].1, .int .i64 q[k].2] 108) := ⟨_, rfl⟩
      rw [← hW]
      have HW : Hid (W.heap[wr.heap.size]? = some (.cells #[.int .i64 q[k].1, .int .i64 q[k].2] 108 (0, 0)) ∧ W.heap[b]? = some (.cells #[vr', vg] 152 (0, 0)) ∧ W.ownsRow base 56 1 vr' (rrF R G (q.take k)).length (icell (rrF R G (q.take k))) ∧ W.ownsRow base 56 1 vg G.length (icell G) ∧ Apart vg vr' ∧ W.ownsRow 0 108 2 (.slice (some ⟨gq, 0, none⟩) q.length cq) q.length (pcs q) ∧ Ke b w W ∧ Below base w W) := by
        obtain ⟨i1, i2, i3, i4, i5, i6, i7⟩ := HI.out
        have F := (Below.refl wr.heap.size wr).alloc (Nat.le_refl _) (.cells #[.int .i64 q[k].1, .int .i64 q[k].2] 108)
        rw [hW]
        exact ⟨heap_alloc_last _ _, blk_alloc i1 _, i2.alloc _, i3.alloc _, i4, i5.alloc _, i6.trans (Ke.below F), i7.alloc (by omega) _⟩
      have hWs : W.heap.size = wr.heap.size + 1 := by rw [hW, World.size_alloc]
      have k0 := cell_of HW.out.1 0
      have k1 := cell_of HW.out.2.1 1
      simp at k0 k1
      obtain ⟨pg, cg, rfl⟩ := owns_slice2 HW.out.2.2.2.1
      have hGl := hG.out.len
      have hGs := stop hG.out.1
      have HG4 := stop HW.out.2.2.2.1
      clear hW HI c0 c1
      go_region_law (first | (refine stepC rfl 125 #[.agg #[.slice pg G.length cg], .int .i64 q[k].1] (by go_simp) (hasSR G q[k].1 base _ W.drew HG4.out hGs (by omega)) ?_; rintro e w5 ⟨rfl, f5⟩; have f5' : Below W.heap.size W w5 := ⟨f5.os, f5.tape, f5.output, f5.size, f5.block⟩; have s5 := f5'.size; have F5 := stop f5'; clear f5 f5') | fail)
      all_goals
        have HI5 : Hid (w5.heap[wr.heap.size]? = some (.cells #[.int .i64 q[k].1, .int .i64 q[k].2] 108 (0, 0)) ∧ w5.heap[b]? = some (.cells #[vr', .slice pg G.length cg] 152 (0, 0)) ∧ w5.ownsRow base 56 1 vr' (rrF R G (q.take k)).length (icell (rrF R G (q.take k))) ∧ w5.ownsRow base 56 1 (.slice pg G.length cg) G.length (icell G) ∧ Apart (.slice pg G.length cg) vr' ∧ w5.ownsRow 0 108 2 (.slice (some ⟨gq, 0, none⟩) q.length cq) q.length (pcs q) ∧ Ke b w w5 ∧ Below base w w5) := by
          obtain ⟨i0, i1, i2, i3, i4, i5, i6, i7⟩ := HW.out
          have K := Keeps.below (base := 0) (T := fun _ => True) F5.out
          have K2 := Keeps.below (base := base) (T := fun _ => True) F5.out
          have hbW := lt_of_block i1
          exact ⟨by rw [F5.out.block _ (by omega)]; exact i0, by rw [F5.out.block _ hbW]; exact i1, owns_keeps i2 K2 trivial, owns_keeps i3 K2 trivial, i4, owns_keeps i5 K trivial, i6.trans (Ke.below F5.out), i7.trans (F5.out.mono (by omega))⟩
        have y0 := cell_of HI5.out.1 0
        simp at y0
        clear HW HG4 k0 k1 F5
        cases hh : hasF G q[k].1 with
        | true =>
          have HT := stop (rrF_in (R := R) hlt hh)
          clear hh
          go_wp2_with fail
          go_roundw
          case rel =>
            obtain ⟨_, i1, i2, i3, i4, i5, i6, i7⟩ := HI5.out
            exact ⟨k + 1, vr', by omega, by go_num, i1, by rw [HT.out]; exact i2, i3, i4, i5, i6, i7⟩
          case measure => simp [intOf]; omega
        | false =>
          have HT := stop (rrF_out (R := R) hlt hh)
          have HSM := stop (rrF_sm (G := G) hR.out hq.out k)
          have hRl := HSM.out.len
          have hbb : base ≤ w5.heap.size := by omega
          have HNB := stop (own_type HI5.out.2.2.1 HI5.out.2.1 (by decide))
          clear hh
          go_wp2_with fail
          go_region_law (first | (refine stepC rfl 93 #[.pointer (some ⟨b, 0, none⟩), .int .i64 q[k].1] (by go_simp) (addR (rrF R G (q.take k)) q[k].1 HSM.out.1 b 0 base #[vr', .slice pg G.length cg] 152 vr' w5.drew HI5.out.2.1 rfl HI5.out.2.2.1 (by omega) hbb HNB.out) ?_; rintro e w6 ⟨bb, v6, rfl, H6⟩) | fail)
          all_goals
            have HI6 : Hid (w6.heap[b]? = some (.cells #[v6, .slice pg G.length cg] 152 (0, 0)) ∧ w6.ownsRow base 56 1 v6 (rrF R G (q.take (k + 1))).length (icell (rrF R G (q.take (k + 1)))) ∧ w6.ownsRow base 56 1 (.slice pg G.length cg) G.length (icell G) ∧ Apart (.slice pg G.length cg) v6 ∧ w6.ownsRow 0 108 2 (.slice (some ⟨gq, 0, none⟩) q.length cq) q.length (pcs q) ∧ Ke b w w6 ∧ Below base w w6) := by
              obtain ⟨i0, i1, i2, i3, i4, i5, i6, i7⟩ := HI5.out
              obtain ⟨_, j1, j2, j3'⟩ := H6.out
              have j3 : Ad b vr' v6 w5 w6 := ⟨j3'.os, j3'.tape, j3'.output, j3'.size, j3'.block, j3'.new⟩
              have KA : Ke b w5 w6 := Ke.ad j3 i2
              rw [HT.out]
              exact ⟨j1, j2, j3.owns i3 (own_type i3 i1 (by decide)) i4, j3.apart i3 i4, KA.owns i5 (by decide) (own_type i5 i1 (by decide)), i6.trans KA, j3.below i7 hb (fun k hk => (i2.lt k hk).1) hbb⟩
            clear HI5 H6 HT HSM y0
            go_wp2_with fail
            go_roundw
            case rel => exact ⟨k + 1, v6, by omega, by go_num, HI6⟩
            case measure => simp [intOf]; omega
    · have hke : k = q.length := by omega
      have HE : Hid (rrF R G (q.take k) = rrF R G q) := by show _ = _; rw [hke, List.take_length]
      clear i1 i2 i3 i4 i5 i6 i7
      go_wp2_with fail
      go_end0
      obtain ⟨i1, i2, i3, i4, i5, i6, i7⟩ := HI.out
      exact ⟨rfl, vr', i1, by rw [← HE.out]; exact i2, i3, i4, i6, i7⟩

end Go.Proofs.YtgfhfkgdmidhpaaGreat

namespace Go.Proofs.YtgfhfkgdmidhpaaGreat
open Go.RowKit

set_option maxHeartbeats 400000 in
theorem rdMTake (t : RStep) (w : World) : Calls Tryz.prog 245 #[.agg #[.int .i64 t.to.1, .int .i64 t.to.2]] w fun x w' => ∃ v, x = .returned v ∧ w'.ownsRow w.heap.size 108 2 v 0 (pcs []) ∧ Below w.heap.size w w' := by
  go_enter Tryz.func245, Tryz.ntmps245
  go_wp2
  go_ret
  exact ⟨_, rfl, World.ownsRow_nil _ _ _ _, (Below.refl _ _).alloc (Nat.le_refl _) _⟩
set_option maxHeartbeats 400000 in
theorem gvMTake (t : RStep) (w : World) : Calls Tryz.prog 244 #[.agg #[.int .i64 t.to.1, .int .i64 t.to.2]] w fun x w' => x = .returned (.tuple #[.agg #[.int .i64 t.to.1, .int .i64 t.to.2], .bool true]) ∧ Below w.heap.size w w' := by
  go_enter Tryz.func244, Tryz.ntmps244
  go_wp2
  refine bodyPost_ret (v := .tuple #[.agg #[.int .i64 t.to.1, .int .i64 t.to.2], .bool true]) (by simp [results, Tryz.results244, go_sem]) rfl ⟨rfl, ((Below.refl _ _).alloc (Nat.le_refl _) _).alloc (by simp) _⟩
set_option maxHeartbeats 400000 in
theorem rdMCopy (t : RStep) (w : World) : Calls Tryz.prog 254 #[.agg #[.int .i64 t.to.1, .int .i64 t.to.2, .int .i64 t.a.1, .int .i64 t.a.2]] w fun x w' => ∃ v, x = .returned v ∧ w'.ownsRow w.heap.size 108 2 v 1 (pcs [t.a]) ∧ Below w.heap.size w w' := by
  go_enter Tryz.func254, Tryz.ntmps254
  go_wp2
  go_ret
  refine ⟨_, rfl, ?_, ((Below.refl _ _).alloc (Nat.le_refl _) _).alloc (by simp) _⟩
  have ON := owns_new (w.alloc (.cells #[.int .i64 t.to.1, .int .i64 t.to.2, .int .i64 t.a.1, .int .i64 t.a.2] 293)) w.heap.size 108 2 1 #[.int .i64 t.a.1, .int .i64 t.a.2] (by simp) rfl (by decide)
  rw [World.size_alloc] at ON
  exact ON
set_option maxHeartbeats 400000 in
theorem gvMCopy (t : RStep) (w : World) : Calls Tryz.prog 253 #[.agg #[.int .i64 t.to.1, .int .i64 t.to.2, .int .i64 t.a.1, .int .i64 t.a.2]] w fun x w' => x = .returned (.tuple #[.agg #[.int .i64 t.to.1, .int .i64 t.to.2], .bool true]) ∧ Below w.heap.size w w' := by
  go_enter Tryz.func253, Tryz.ntmps253
  go_wp2
  refine bodyPost_ret (v := .tuple #[.agg #[.int .i64 t.to.1, .int .i64 t.to.2], .bool true]) (by simp [results, Tryz.results253, go_sem]) rfl ⟨rfl, ((Below.refl _ _).alloc (Nat.le_refl _) _).alloc (by simp) _⟩
set_option maxHeartbeats 400000 in
theorem rdMLoad (t : RStep) (w : World) : Calls Tryz.prog 250 #[.agg #[.int .i64 t.to.1, .int .i64 t.to.2, .int .i64 t.n]] w fun x w' => ∃ v, x = .returned v ∧ w'.ownsRow w.heap.size 108 2 v 0 (pcs []) ∧ Below w.heap.size w w' := by
  go_enter Tryz.func250, Tryz.ntmps250
  go_wp2
  go_ret
  exact ⟨_, rfl, World.ownsRow_nil _ _ _ _, (Below.refl _ _).alloc (Nat.le_refl _) _⟩
set_option maxHeartbeats 400000 in
theorem gvMLoad (t : RStep) (w : World) : Calls Tryz.prog 249 #[.agg #[.int .i64 t.to.1, .int .i64 t.to.2, .int .i64 t.n]] w fun x w' => x = .returned (.tuple #[.agg #[.int .i64 t.to.1, .int .i64 t.to.2], .bool true]) ∧ Below w.heap.size w w' := by
  go_enter Tryz.func249, Tryz.ntmps249
  go_wp2
  refine bodyPost_ret (v := .tuple #[.agg #[.int .i64 t.to.1, .int .i64 t.to.2], .bool true]) (by simp [results, Tryz.results249, go_sem]) rfl ⟨rfl, ((Below.refl _ _).alloc (Nat.le_refl _) _).alloc (by simp) _⟩
set_option maxHeartbeats 400000 in
theorem rdMPut (t : RStep) (w : World) : Calls Tryz.prog 237 #[.agg #[.int .i64 t.a.1, .int .i64 t.a.2]] w fun x w' => ∃ v, x = .returned v ∧ w'.ownsRow w.heap.size 108 2 v 1 (pcs [t.a]) ∧ Below w.heap.size w w' := by
  go_enter Tryz.func237, Tryz.ntmps237
  go_wp2
  go_ret
  refine ⟨_, rfl, ?_, ((Below.refl _ _).alloc (Nat.le_refl _) _).alloc (by simp) _⟩
  have ON := owns_new (w.alloc (.cells #[.int .i64 t.a.1, .int .i64 t.a.2] 233)) w.heap.size 108 2 1 #[.int .i64 t.a.1, .int .i64 t.a.2] (by simp) rfl (by decide)
  rw [World.size_alloc] at ON
  exact ON
set_option maxHeartbeats 400000 in
theorem gvMPut (t : RStep) (w : World) : Calls Tryz.prog 236 #[.agg #[.int .i64 t.a.1, .int .i64 t.a.2]] w fun x w' => x = .returned (.tuple #[.agg #[.int .i64 0, .int .i64 0], .bool false]) ∧ Below w.heap.size w w' := by
  go_enter Tryz.func236, Tryz.ntmps236
  go_wp2
  refine bodyPost_ret (v := .tuple #[.agg #[.int .i64 0, .int .i64 0], .bool false]) (by simp [results, Tryz.results236, go_sem]) rfl ⟨rfl, ((Below.refl _ _).alloc (Nat.le_refl _) _).alloc (by simp) _⟩
set_option maxHeartbeats 400000 in
theorem rdMCompute (t : RStep) (w : World) : Calls Tryz.prog 259 #[.agg #[.int .i64 t.to.1, .int .i64 t.to.2, .int .i64 t.a.1, .int .i64 t.a.2, .int .i64 (opNum t.op), .int .i64 t.b.1, .int .i64 t.b.2]] w fun x w' => ∃ v, x = .returned v ∧ w'.ownsRow w.heap.size 108 2 v 2 (pcs [t.a, t.b]) ∧ Below w.heap.size w w' := by
  go_enter Tryz.func259, Tryz.ntmps259
  go_wp2
  go_ret
  refine ⟨_, rfl, ?_, ((Below.refl _ _).alloc (Nat.le_refl _) _).alloc (by simp) _⟩
  have ON := owns_new (w.alloc (.cells #[.int .i64 t.to.1, .int .i64 t.to.2, .int .i64 t.a.1, .int .i64 t.a.2, .int .i64 (opNum t.op), .int .i64 t.b.1, .int .i64 t.b.2] 297)) w.heap.size 108 2 2 #[.int .i64 t.a.1, .int .i64 t.a.2, .int .i64 t.b.1, .int .i64 t.b.2] (by simp) rfl (by decide)
  rw [World.size_alloc] at ON
  exact ON
set_option maxHeartbeats 400000 in
theorem gvMCompute (t : RStep) (w : World) : Calls Tryz.prog 258 #[.agg #[.int .i64 t.to.1, .int .i64 t.to.2, .int .i64 t.a.1, .int .i64 t.a.2, .int .i64 (opNum t.op), .int .i64 t.b.1, .int .i64 t.b.2]] w fun x w' => x = .returned (.tuple #[.agg #[.int .i64 t.to.1, .int .i64 t.to.2], .bool true]) ∧ Below w.heap.size w w' := by
  go_enter Tryz.func258, Tryz.ntmps258
  go_wp2
  refine bodyPost_ret (v := .tuple #[.agg #[.int .i64 t.to.1, .int .i64 t.to.2], .bool true]) (by simp [results, Tryz.results258, go_sem]) rfl ⟨rfl, ((Below.refl _ _).alloc (Nat.le_refl _) _).alloc (by simp) _⟩
/-- What a step reads and gives, by its methods. -/
theorem stepM (t : RStep) : ∃ T x fr fg, stVal t = .iface T x ∧ (∀ w : World, (method 429 T x "Reads").run Tryz.prog w = .ok (fr, x) w) ∧ (∀ args (w : World), (callFunc fr args).run Tryz.prog w = .ok (.enter fr args) w) ∧
    (∀ w : World, Calls Tryz.prog fr #[x] w fun r w' => ∃ v, r = .returned v ∧ w'.ownsRow w.heap.size 108 2 v (rdsF t).length (pcs (rdsF t)) ∧ Below w.heap.size w w') ∧
    (∀ w : World, (method 429 T x "Gives").run Tryz.prog w = .ok (fg, x) w) ∧ (∀ args (w : World), (callFunc fg args).run Tryz.prog w = .ok (.enter fg args) w) ∧
    (∀ w : World, Calls Tryz.prog fg #[x] w fun r w' => r = .returned (.tuple #[if t.op = 33 then .agg #[.int .i64 0, .int .i64 0] else .agg #[.int .i64 t.to.1, .int .i64 t.to.2], .bool (t.op != 33)]) ∧ Below w.heap.size w w') := by
  by_cases h63 : t.op = 63
  · refine ⟨_, _, 245, 244, by rw [stVal, if_pos h63], fun w => by kernel_rfl, enters_of Tryz.func245 (by kernel_rfl) rfl, fun w => (rdMTake t w).mono ?_, fun w => by kernel_rfl, enters_of Tryz.func244 (by kernel_rfl) rfl, fun w => (gvMTake t w).mono ?_⟩
    · rintro r w' ⟨v, rfl, o, f⟩
      refine ⟨v, rfl, ?_, f⟩
      have : rdsF t = [] := by simp [rdsF, h63]
      rw [this]; exact o
    · rintro r w' ⟨rfl, f⟩
      refine ⟨?_, f⟩
      simp [h63]
  by_cases h99 : t.op = 99
  · refine ⟨_, _, 254, 253, by rw [stVal, if_neg h63, if_pos h99], fun w => by kernel_rfl, enters_of Tryz.func254 (by kernel_rfl) rfl, fun w => (rdMCopy t w).mono ?_, fun w => by kernel_rfl, enters_of Tryz.func253 (by kernel_rfl) rfl, fun w => (gvMCopy t w).mono ?_⟩
    · rintro r w' ⟨v, rfl, o, f⟩
      refine ⟨v, rfl, ?_, f⟩
      have : rdsF t = [t.a] := by simp [rdsF, h99]
      rw [this]; exact o
    · rintro r w' ⟨rfl, f⟩
      refine ⟨?_, f⟩
      simp [h99]
  by_cases h118 : t.op = 118
  · refine ⟨_, _, 250, 249, by rw [stVal, if_neg h63, if_neg h99, if_pos h118], fun w => by kernel_rfl, enters_of Tryz.func250 (by kernel_rfl) rfl, fun w => (rdMLoad t w).mono ?_, fun w => by kernel_rfl, enters_of Tryz.func249 (by kernel_rfl) rfl, fun w => (gvMLoad t w).mono ?_⟩
    · rintro r w' ⟨v, rfl, o, f⟩
      refine ⟨v, rfl, ?_, f⟩
      have : rdsF t = [] := by simp [rdsF, h118]
      rw [this]; exact o
    · rintro r w' ⟨rfl, f⟩
      refine ⟨?_, f⟩
      simp [h118]
  by_cases h33 : t.op = 33
  · refine ⟨_, _, 237, 236, by rw [stVal, if_neg h63, if_neg h99, if_neg h118, if_pos h33], fun w => by kernel_rfl, enters_of Tryz.func237 (by kernel_rfl) rfl, fun w => (rdMPut t w).mono ?_, fun w => by kernel_rfl, enters_of Tryz.func236 (by kernel_rfl) rfl, fun w => (gvMPut t w).mono ?_⟩
    · rintro r w' ⟨v, rfl, o, f⟩
      refine ⟨v, rfl, ?_, f⟩
      have : rdsF t = [t.a] := by simp [rdsF, h33]
      rw [this]; exact o
    · rintro r w' ⟨rfl, f⟩
      refine ⟨?_, f⟩
      simp [h33]
  refine ⟨_, _, 259, 258, by rw [stVal, if_neg h63, if_neg h99, if_neg h118, if_neg h33], fun w => by kernel_rfl, enters_of Tryz.func259 (by kernel_rfl) rfl, fun w => (rdMCompute t w).mono ?_, fun w => by kernel_rfl, enters_of Tryz.func258 (by kernel_rfl) rfl, fun w => (gvMCompute t w).mono ?_⟩
  · rintro r w' ⟨v, rfl, o, f⟩
    refine ⟨v, rfl, ?_, f⟩
    have : rdsF t = [t.a, t.b] := by simp [rdsF, h63, h99, h118, h33]
    rw [this]; exact o
  · rintro r w' ⟨rfl, f⟩
    refine ⟨?_, f⟩
    simp [h33]
set_option maxHeartbeats 400000 in
theorem rdMStop (w : World) : Calls Tryz.prog 229 #[.agg #[]] w fun x w' => x = .returned (.slice none 0 0) ∧ Below w.heap.size w w' := by
  go_enter Tryz.func229, Tryz.ntmps229
  go_wp2
  go_ret
  exact ⟨rfl, (Below.refl _ _).alloc (Nat.le_refl _) _⟩
set_option maxHeartbeats 400000 in
theorem rdMJump (a b : Nat) (w : World) : Calls Tryz.prog 233 #[.agg #[.int .i64 a, .int .i64 b]] w fun x w' => x = .returned (.slice none 0 0) ∧ Below w.heap.size w w' := by
  go_enter Tryz.func233, Tryz.ntmps233
  go_wp2
  go_ret
  exact ⟨rfl, (Below.refl _ _).alloc (Nat.le_refl _) _⟩
set_option maxHeartbeats 400000 in
theorem rdMFork (p q a b c d : Nat) (w : World) : Calls Tryz.prog 241 #[.agg #[.int .i64 p, .int .i64 q, .int .i64 a, .int .i64 b, .int .i64 c, .int .i64 d]] w fun x w' => ∃ v, x = .returned v ∧ w'.ownsRow w.heap.size 108 2 v 1 (pcs [(p, q)]) ∧ Below w.heap.size w w' := by
  go_enter Tryz.func241, Tryz.ntmps241
  go_wp2
  go_ret
  refine ⟨_, rfl, ?_, ((Below.refl _ _).alloc (Nat.le_refl _) _).alloc (by simp) _⟩
  have ON := owns_new (w.alloc (.cells #[.int .i64 p, .int .i64 q, .int .i64 a, .int .i64 b, .int .i64 c, .int .i64 d] 274)) w.heap.size 108 2 1 #[.int .i64 p, .int .i64 q] (by simp) rfl (by decide)
  rw [World.size_alloc] at ON
  exact ON
/-- The registers that an end reads. -/
def endRg (e : REnd) : List (Nat × Nat) := if e.op = 63 then [e.a] else []
theorem endRg_map (e : REnd) : (endRg e).map (·.1) = endRds e := by
  unfold endRg endRds
  split <;> rfl
theorem endM (e : REnd) (hop : e.op = 46 ∨ e.op = 62 ∨ e.op = 63) : ∃ T x fn, endVal e = .iface T x ∧ (∀ w : World, (method 429 T x "Reads").run Tryz.prog w = .ok (fn, x) w) ∧ (∀ args (w : World), (callFunc fn args).run Tryz.prog w = .ok (.enter fn args) w) ∧
    ∀ w : World, Calls Tryz.prog fn #[x] w fun r w' => ∃ v, r = .returned v ∧ w'.ownsRow w.heap.size 108 2 v (endRg e).length (pcs (endRg e)) ∧ Below w.heap.size w w' := by
  rcases hop with hop | hop | hop
  · obtain ⟨a1, _⟩ := endStop hop
    refine ⟨_, _, 229, a1, fun w => by kernel_rfl, enters_of Tryz.func229 (by kernel_rfl) rfl, fun w => (rdMStop w).mono ?_⟩
    rintro r w' ⟨rfl, f⟩
    have : endRg e = [] := by simp [endRg, hop]
    rw [this]
    exact ⟨_, rfl, World.ownsRow_nil _ _ _ _, f⟩
  · obtain ⟨a1, _⟩ := endJump hop
    refine ⟨_, _, 233, a1, fun w => by kernel_rfl, enters_of Tryz.func233 (by kernel_rfl) rfl, fun w => (rdMJump _ _ w).mono ?_⟩
    rintro r w' ⟨rfl, f⟩
    have : endRg e = [] := by simp [endRg, hop]
    rw [this]
    exact ⟨_, rfl, World.ownsRow_nil _ _ _ _, f⟩
  · obtain ⟨a1, _⟩ := endFork hop
    refine ⟨_, _, 241, a1, fun w => by kernel_rfl, enters_of Tryz.func241 (by kernel_rfl) rfl, fun w => (rdMFork _ _ _ _ _ _ w).mono ?_⟩
    rintro r w' ⟨v, rfl, o, f⟩
    have : endRg e = [e.a] := by simp [endRg, hop]
    rw [this]
    exact ⟨_, rfl, o, f⟩

end Go.Proofs.YtgfhfkgdmidhpaaGreat
