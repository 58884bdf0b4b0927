import Derived.Test.YtgfhfkgdmidhpaaGreatDoorPK
import Derived.Test.YtgfhfkgdmidhpaaGreatDoorPY
import Derived.Lib.Join
namespace Go.Proofs.YtgfhfkgdmidhpaaGreatDoor
open Go.RowKit

theorem few_of {bs : List RBlk} {n : Nat} (hj : JP bs n) (hn : n ≤ 40000) (hr : RdOk bs) : Few (absP bs) := by
  have hw := hj.w
  have key : 4 * ((absP bs).map fun b => b.sts.length).sum + 3 * ((absP bs).map fun b => b.chs.length).sum + 5 * ((absP bs).map fun b => (b.chs.map fun c => c.src.length).sum).sum ≤ bsW bs ∧ ((absP bs).map fun b => b.chs.length).sum ≤ ((absP bs).map fun b => (b.chs.map fun c => c.src.length).sum).sum := by
    have h1 := hj.ch
    have h2 := hr.rs
    clear hj hn hr hw
    induction bs with
    | nil => exact ⟨Nat.le_refl _, Nat.le_refl _⟩
    | cons b bs ih =>
      obtain ⟨i1, i2⟩ := ih (fun x hx => h1 x (List.mem_cons_of_mem _ hx)) (fun x hx => h2 x (List.mem_cons_of_mem _ hx))
      have ew : bsW (b :: bs) = blW b + bsW bs := by simp [bsW]
      have hb : 3 * b.chs.length + 5 * (((absB b).chs.map fun c => c.src.length).sum) = chW b.chs ∧ b.chs.length ≤ ((absB b).chs.map fun c => c.src.length).sum := by
        have h1 := h1 b (List.mem_cons_self ..)
        have h2 := h2 b (List.mem_cons_self ..)
        show 3 * b.chs.length + 5 * (((b.chs.map absC).map fun c => c.src.length).sum) = chW b.chs ∧ b.chs.length ≤ ((b.chs.map absC).map fun c => c.src.length).sum
        generalize b.chs = l at *
        induction l with
        | nil => exact ⟨rfl, Nat.le_refl _⟩
        | cons c l ihc =>
          obtain ⟨j1, j2⟩ := ihc (fun x hx => h1 x (List.mem_cons_of_mem _ hx)) (fun x hx => h2 x (List.mem_cons_of_mem _ hx))
          have e1 : chW (c :: l) = 3 + 5 * c.gs.length + chW l := by simp [chW]
          have e2 : (absC c).src.length = c.gs.length := by
            show ((c.gs.map (·.1)).zip (c.rs.map (·.1))).length = _
            have := h2 c (List.mem_cons_self ..)
            simp; omega
          have e3 := h1 c (List.mem_cons_self ..)
          rw [List.map_cons, List.map_cons, List.sum_cons, List.length_cons, e1, e2]
          omega
      have l1 : (absB b).sts.length = b.sts.length := by simp [absB]
      have l2 : (absB b).chs.length = b.chs.length := by simp [absB]
      rw [ew, blW]
      rw [show absP (b :: bs) = absB b :: absP bs from rfl]
      rw [List.map_cons, List.map_cons, List.map_cons, List.sum_cons, List.sum_cons, List.sum_cons, l1, l2]
      obtain ⟨b1, b2⟩ := hb
      omega
  obtain ⟨k1, k2⟩ := key
  exact ⟨by omega, by omega⟩
theorem lost_no2 {bs : List RBlk} (h1 : ∀ b ∈ bs, b.chs = []) (h2 : ∀ b ∈ bs, ∀ p ∈ goalsF b.e, p.1 < bs.length) : lostF bs = -1 := by
  unfold lostF
  have : (bs.flatMap allG).find? (stray bs.length) = none := by
    rw [List.find?_eq_none]
    intro g hg
    obtain ⟨b, hb, hg⟩ := List.mem_flatMap.1 hg
    unfold allG chG at hg
    rw [h1 b hb] at hg
    have := h2 b hb g hg
    simp [stray]; omega
  rw [this]; rfl
theorem unf_no {bs : List RBlk} (h1 : ∀ b ∈ bs, b.chs = []) : unfF bs = -1 := by
  unfold unfF
  have : (List.range bs.length).findSome? (unfAt bs) = none := by
    rw [List.findSome?_eq_none_iff]
    intro i hi
    have hi : i < bs.length := by simpa using hi
    unfold unfAt
    rw [List.getElem?_eq_getElem hi]
    show unfB _ [] bs[i].chs = none
    rw [h1 _ (List.getElem_mem _)]
    rfl
  rw [this]; rfl
theorem goals_abs {b : RBlk} {c : ABk} (h : absB b = c) (hk : OkE c.e) {n : Nat} (h1 : c.e.op ≠ 46 → c.e.one < n) (h2 : c.e.op = 63 → c.e.two < n) : ∀ p ∈ goalsF b.e, p.1 < n := by
  subst h
  intro p hp
  unfold goalsF at hp
  split at hp
  · rename_i e
    rw [List.mem_singleton] at hp; subst hp
    exact h1 (by show b.e.op ≠ 46; omega)
  · split at hp
    · rename_i e
      simp only [List.mem_cons, List.not_mem_nil, or_false] at hp
      rcases hp with rfl | rfl
      · exact h1 (by show b.e.op ≠ 46; omega)
      · exact h2 e
    · simp at hp
/-- The text of the program without choices is read, and is that program. -/
theorem pln_read {bs : List RBlk} {n : Nat} (hj : JP bs n) (hr : RdOk bs) (hnew : newF bs = none) (hf : Few (absP bs)) (s : ByteArray) (hs : s = ⟨(prT (plnA (absP bs))).toArray⟩) :
    rdF s = ⟨0, 0⟩ ∧ absP (parF s).bs = plnA (absP bs) := by
  have hP := pln_ok hj hr hnew
  have hl : (absP bs).length = bs.length := by simp [absP]
  have hA : ∀ b ∈ absP bs, OkA b := fun b hb => by
    obtain ⟨c, hc, rfl⟩ := List.mem_map.1 hb
    refine ⟨fun t ht => ?_, hj.e c hc⟩
    obtain ⟨x, hx, rfl⟩ := List.mem_map.1 ht
    exact (hj.st c hc x hx).1
  have hB := pln_fine hP hf hA
  have hlp : (plnA (absP bs)).length = bs.length := by rw [plnA, List.length_mapIdx, hl]
  obtain ⟨r1, r2⟩ := par_prT hB (by rw [hlp]; exact hr.pos) s hs
  have hz : s.size ≤ 200000 := by
    have := pln_len hP hf hA (by rw [hl]; exact hr.le)
    subst hs
    simpa [ByteArray.size] using this
  have hln : (parF s).bs.length = bs.length := by
    have := congrArg List.length r1
    rw [hlp] at this
    simpa [absP] using this
  have hmem : ∀ b ∈ (parF s).bs, absB b ∈ plnA (absP bs) := fun b hb => by
    rw [← r1]; exact List.mem_map.2 ⟨b, hb, rfl⟩
  have hch : ∀ b ∈ (parF s).bs, b.chs = [] := fun b hb => by
    have := (hB _ (hmem b hb)).chs
    have : b.chs.map absC = [] := this
    simpa using this
  have hg : ∀ b ∈ (parF s).bs, ∀ p ∈ goalsF b.e, p.1 < (parF s).bs.length := fun b hb => by
    have hm := hmem b hb
    have ok := (hB _ hm).e
    unfold plnA at hm
    rw [List.mem_mapIdx] at hm
    obtain ⟨i, hi, e⟩ := hm
    have e2 : (absB b).e = (absP bs)[i].e := by rw [← e]; rfl
    have hm2 : (absP bs)[i] ∈ absP bs := List.getElem_mem _
    have h1 := hP.one _ hm2
    have h2 := hP.two _ hm2
    rw [← e2, hl] at h1 h2
    rw [hln]
    exact goals_abs rfl ok h1 h2
  refine ⟨?_, r1⟩
  unfold rdF
  rw [if_neg (by omega), r2, if_neg (by omega), dif_neg (by rw [hln]; have := hr.le; omega), lost_no2 hch hg, if_neg (by omega), unf_no hch, if_neg (by omega)]

end Go.Proofs.YtgfhfkgdmidhpaaGreatDoor

namespace Go.Proofs.YtgfhfkgdmidhpaaGreatDoor
open Go.RowKit

theorem join_snoc_sts : ∀ (sts : List ASt) (e : List UInt8), Lib.join (sts.map stT ++ [e]) [59] = stsT sts ++ e
  | [], e => by rw [List.map_nil, List.nil_append, Lib.join_one]; rfl
  | [t], e => by
    rw [stsT_cons]
    show Lib.join [stT t, e] [59] = _
    rw [Lib.join_cons]
    simp [Lib.joinTail, stsT]
  | t :: u :: sts, e => by
    have ih := join_snoc_sts (u :: sts) e
    rw [stsT_cons, List.append_assoc, List.cons_append, ← ih]
    rw [List.map_cons, List.cons_append, Lib.join_cons, List.map_cons, List.cons_append, Lib.join_cons]
    simp [Lib.joinTail]
theorem join_bk : ∀ (bs : List ABk), Lib.join (bs.map bkT) [124] = prT bs
  | [] => rfl
  | [b] => by rw [List.map_cons, List.map_nil, Lib.join_one, prT_one]
  | b :: c :: bs => by
    have ih := join_bk (c :: bs)
    rw [prT_cons, ← ih, List.map_cons, Lib.join_cons, List.map_cons, Lib.join_cons]
    simp [Lib.joinTail]
/-- The plain program, with places. -/
abbrev EnR := Nat × Nat × RCho
def enRB (i n : Nat) (b : RBlk) : List EnR := (b.chs.zipIdx n).map fun p => (i, p.2, p.1)
def enRF (i n : Nat) : List RBlk → List EnR
  | [] => []
  | b :: bs => enRB i n b ++ enRF (i + 1) (n + b.chs.length) bs
def cpR (to a : Nat × Nat) : RStep := ⟨99, to, a, (0, 0), 0⟩
def firR (en : List EnR) (i : Nat) : List RStep := (en.filter fun x => decide (x.1 = i)).map fun x => cpR x.2.2.to (x.2.1, 0)
def srcsR (n f : Nat) (src : List ((Nat × Nat) × (Nat × Nat))) : List RStep := (src.filter fun p => decide (p.1.1 = f)).map fun p => cpR (n, 0) p.2
def lasR (en : List EnR) (f : Nat) : List RStep := en.flatMap fun x => srcsR x.2.1 f (x.2.2.gs.zip x.2.2.rs)
def plnRB (en : List EnR) (i : Nat) (b : RBlk) : RBlk := ⟨[], firR en i ++ b.sts ++ lasR en i, b.e, 0⟩
def plnR (bs : List RBlk) : List RBlk := bs.mapIdx fun i b => plnRB (enRF 0 5000 bs) i b
def absX (x : EnR) : Nat × Nat × ACh := (x.1, x.2.1, absC x.2.2)
theorem absS_cp (to a : Nat × Nat) : absS (cpR to a) = .cp to.1 a.1 := by
  unfold absS cpR; rw [if_neg (by simp), if_pos rfl]
theorem en_abs : ∀ (bs : List RBlk) (i n : Nat), enF i n (absP bs) = (enRF i n bs).map absX
  | [], _, _ => rfl
  | b :: bs, i, n => by
    have e1 : (absB b).chs.length = b.chs.length := by simp [absB]
    show enB i n (absB b) ++ enF (i + 1) (n + (absB b).chs.length) (absP bs) = _
    rw [e1, en_abs bs, enRF, List.map_append]
    congr 1
    unfold enB enRB
    show ((b.chs.map absC).zipIdx n).map _ = _
    rw [List.zipIdx_map, List.map_map, List.map_map]
    rfl
theorem fir_abs (en : List EnR) (i : Nat) : firF (en.map absX) i = (firR en i).map absS := by
  unfold firF firR
  rw [List.filter_map, List.map_map, List.map_map]
  refine List.map_congr_left (fun x _ => ?_)
  show _ = absS (cpR _ _)
  rw [absS_cp]; rfl
theorem las_abs (en : List EnR) (f : Nat) : lasF (en.map absX) f = (lasR en f).map absS := by
  unfold lasF lasR
  rw [List.flatMap_map, List.map_flatMap]
  congr 1
  funext x
  show srcsF x.2.1 f ((x.2.2.gs.map (·.1)).zip (x.2.2.rs.map (·.1))) = _
  unfold srcsF srcsR
  rw [List.zip_map, List.filter_map, List.map_map, List.map_map]
  refine List.map_congr_left (fun p _ => ?_)
  show _ = absS (cpR _ _)
  rw [absS_cp]; rfl
theorem pln_abs (bs : List RBlk) : absP (plnR bs) = plnA (absP bs) := by
  have hb : ∀ i b, absB (plnRB (enRF 0 5000 bs) i b) = plnB (enF 0 5000 (absP bs)) i (absB b) := fun i b => by
    unfold plnB
    rw [en_abs, fir_abs, las_abs]
    show ABk.mk _ _ _ = _
    rw [show (plnRB (enRF 0 5000 bs) i b).sts = firR (enRF 0 5000 bs) i ++ b.sts ++ lasR (enRF 0 5000 bs) i from rfl, List.map_append, List.map_append]
    rfl
  unfold plnA
  refine List.ext_getElem (by simp [absP, plnR]) (fun i h1 h2 => ?_)
  simp only [absP, plnR, List.getElem_map, List.getElem_mapIdx]
  exact hb _ _
/-- As far as block i, choice j. -/
def cnt (bs : List RBlk) (i : Nat) : Nat := ((bs.take i).map fun b => b.chs.length).sum
def enTo (bs : List RBlk) (i j : Nat) : List EnR := enRF 0 5000 (bs.take i) ++ (enRB i (5000 + cnt bs i) (bkF bs i)).take j
theorem enRF_app : ∀ (bs : List RBlk) (b : RBlk) (i n : Nat), enRF i n (bs ++ [b]) = enRF i n bs ++ enRB (i + bs.length) (n + (bs.map fun b => b.chs.length).sum) b
  | [], b, i, n => by simp [enRF]
  | c :: bs, b, i, n => by
    rw [List.cons_append, enRF, enRF_app bs, enRF, List.append_assoc, List.length_cons, List.map_cons, List.sum_cons]
    rw [show i + 1 + bs.length = i + (bs.length + 1) from by omega, Nat.add_assoc]
theorem enTo_zero (bs : List RBlk) : enTo bs 0 0 = [] := by simp [enTo, enRF]
theorem enRB_len (i n : Nat) (b : RBlk) : (enRB i n b).length = b.chs.length := by simp [enRB]
theorem enTo_next {bs : List RBlk} {i j : Nat} (hi : i < bs.length) (hj : j < bs[i].chs.length) : enTo bs i (j + 1) = enTo bs i j ++ [(i, 5000 + cnt bs i + j, bs[i].chs[j])] := by
  unfold enTo
  rw [bkF_at hi, List.take_succ_eq_append_getElem (by rw [enRB_len]; exact hj), List.append_assoc]
  congr 2
  simp [enRB]
theorem enTo_up {bs : List RBlk} {i j : Nat} (hi : i < bs.length) (hj : j = bs[i].chs.length) : enTo bs i j = enTo bs (i + 1) 0 := by
  unfold enTo
  have e : (enRB i (5000 + cnt bs i) bs[i]).take j = enRB i (5000 + cnt bs i) bs[i] := List.take_of_length_le (by rw [enRB_len]; omega)
  rw [List.take_zero, List.append_nil, bkF_at hi, e, List.take_succ_eq_append_getElem hi, enRF_app, Nat.zero_add]
  have e2 : (bs.take i).length = i := by rw [List.length_take]; omega
  rw [e2]; rfl
theorem enTo_all (bs : List RBlk) : enTo bs bs.length 0 = enRF 0 5000 bs := by
  unfold enTo; rw [List.take_zero, List.append_nil, List.take_of_length_le (Nat.le_refl _)]
theorem cnt_next {bs : List RBlk} {i : Nat} (hi : i < bs.length) : cnt bs (i + 1) = cnt bs i + bs[i].chs.length := by
  unfold cnt; rw [List.take_succ_eq_append_getElem hi, List.map_append, List.sum_append]; rfl
theorem firR_snoc (en : List EnR) (x : EnR) (k : Nat) : firR (en ++ [x]) k = if x.1 = k then firR en k ++ [cpR x.2.2.to (x.2.1, 0)] else firR en k := by
  unfold firR
  rw [List.filter_append, List.map_append]
  by_cases h : x.1 = k
  · rw [if_pos h, List.filter_cons_of_pos (by simpa using h)]; rfl
  · rw [if_neg h, List.filter_cons_of_neg (by simpa using h)]; simp
/-- What is behind a choice's sources up to q. -/
def lasQ (en : List EnR) (n q : Nat) (c : RCho) (f : Nat) : List RStep := lasR en f ++ srcsR n f ((c.gs.zip c.rs).take q)
theorem lasQ_zero (en : List EnR) (n : Nat) (c : RCho) (f : Nat) : lasQ en n 0 c f = lasR en f := by simp [lasQ, srcsR]
theorem lasQ_next {c : RCho} {q : Nat} (hq : q < c.gs.length) (hr : q < c.rs.length) (en : List EnR) (n f : Nat) : lasQ en n (q + 1) c f = if c.gs[q].1 = f then lasQ en n q c f ++ [cpR (n, 0) c.rs[q]] else lasQ en n q c f := by
  unfold lasQ
  have hz : q < (c.gs.zip c.rs).length := by simp; omega
  rw [List.take_succ_eq_append_getElem hz]
  unfold srcsR
  rw [List.filter_append, List.map_append]
  have e : (c.gs.zip c.rs)[q] = (c.gs[q], c.rs[q]) := by simp
  rw [e]
  by_cases h : c.gs[q].1 = f
  · rw [if_pos h, List.filter_cons_of_pos (by simpa using h), List.append_assoc]; rfl
  · rw [if_neg h, List.filter_cons_of_neg (by simpa using h)]; simp
theorem lasQ_all {c : RCho} {q : Nat} (hq : q = c.gs.length) (hl : c.rs.length = c.gs.length) (en : List EnR) (i n f : Nat) : lasQ en n q c f = lasR (en ++ [(i, n, c)]) f := by
  unfold lasQ lasR
  rw [List.take_of_length_le (by simp; omega), List.flatMap_append]
  simp

end Go.Proofs.YtgfhfkgdmidhpaaGreatDoor
