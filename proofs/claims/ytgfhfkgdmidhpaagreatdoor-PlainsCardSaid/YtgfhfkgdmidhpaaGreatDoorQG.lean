import Derived.Test.YtgfhfkgdmidhpaaGreatDoorQE
import Derived.Test.YtgfhfkgdmidhpaaGreatDoorPM
namespace Go.Proofs.YtgfhfkgdmidhpaaGreatDoor
open Go.RowKit

theorem enRF_app2 : ∀ (bs cs : List RBlk) (i n : Nat), enRF i n (bs ++ cs) = enRF i n bs ++ enRF (i + bs.length) (n + (bs.map fun b => b.chs.length).sum) cs
  | [], cs, i, n => by simp [enRF]
  | c :: bs, cs, i, n => by
    rw [List.cons_append, enRF, enRF_app2 bs, enRF, List.append_assoc, List.length_cons, List.map_cons, List.sum_cons]
    rw [show i + 1 + bs.length = i + (bs.length + 1) from by omega, Nat.add_assoc]
theorem enTo_pre {bs : List RBlk} {i : Nat} (hi : i < bs.length) (j : Nat) : ∃ r, enRF 0 5000 bs = enTo bs i j ++ r := by
  have e : bs = bs.take i ++ bs[i] :: bs.drop (i + 1) := by rw [List.getElem_cons_drop, List.take_append_drop]
  have e2 : enRF 0 5000 bs = enRF 0 5000 (bs.take i) ++ (enRB i (5000 + cnt bs i) bs[i] ++ enRF (i + 1) (5000 + cnt bs i + bs[i].chs.length) (bs.drop (i + 1))) := by
    have hl : (bs.take i).length = i := by rw [List.length_take]; omega
    have := enRF_app2 (bs.take i) (bs[i] :: bs.drop (i + 1)) 0 5000
    rw [← e, hl, Nat.zero_add, enRF] at this
    exact this
  refine ⟨(enRB i (5000 + cnt bs i) bs[i]).drop j ++ enRF (i + 1) (5000 + cnt bs i + bs[i].chs.length) (bs.drop (i + 1)), ?_⟩
  rw [e2]
  unfold enTo
  rw [bkF_at hi, List.append_assoc, ← List.append_assoc (List.take j _), List.take_append_drop]
def gsN (en : List EnR) : Nat := (en.map fun x => x.2.2.gs.length).sum
theorem gsN_app (a b : List EnR) : gsN (a ++ b) = gsN a + gsN b := by simp [gsN]
theorem firR_len (en : List EnR) (k : Nat) : (firR en k).length ≤ en.length := by
  unfold firR; rw [List.length_map]; exact List.length_filter_le _ _
theorem srcsR_len (n f : Nat) (src) : (srcsR n f src).length ≤ src.length := by
  unfold srcsR; rw [List.length_map]; exact List.length_filter_le _ _
theorem lasR_len : ∀ (en : List EnR) (f : Nat), (lasR en f).length ≤ gsN en
  | [], _ => Nat.le_refl _
  | x :: en, f => by
    have h1 := srcsR_len x.2.1 f (x.2.2.gs.zip x.2.2.rs)
    have h2 := lasR_len en f
    have e : lasR (x :: en) f = srcsR x.2.1 f (x.2.2.gs.zip x.2.2.rs) ++ lasR en f := rfl
    have e2 : gsN (x :: en) = x.2.2.gs.length + gsN en := by simp [gsN]
    rw [e, List.length_append, e2]
    rw [List.length_zip] at h1
    omega
theorem lasQ_len (en : List EnR) (n q : Nat) (c : RCho) (f : Nat) : (lasQ en n q c f).length ≤ gsN en + c.gs.length := by
  unfold lasQ
  have h1 := lasR_len en f
  have h2 := srcsR_len n f ((c.gs.zip c.rs).take q)
  rw [List.length_take, List.length_zip] at h2
  rw [List.length_append]; omega
structure EnL (bs : List RBlk) : Prop where
  c : (enRF 0 5000 bs).length ≤ 5000
  r : gsN (enRF 0 5000 bs) ≤ 100000
theorem EnL.at {bs : List RBlk} (h : EnL bs) {i : Nat} (hi : i < bs.length) (j : Nat) : (enTo bs i j).length ≤ 5000 ∧ gsN (enTo bs i j) ≤ 100000 := by
  obtain ⟨r, e⟩ := enTo_pre hi j
  have h1 := h.c
  have h2 := h.r
  rw [e] at h1 h2
  rw [List.length_append] at h1
  rw [gsN_app] at h2
  omega
theorem cnt_le {bs : List RBlk} (h : EnL bs) {i j : Nat} (hi : i < bs.length) (hj : j ≤ bs[i].chs.length) : cnt bs i + j ≤ 5000 := by
  have h1 := (h.at hi j).1
  have e : (enTo bs i j).length = cnt bs i + j := by
    unfold enTo
    rw [List.length_append, List.length_take, enRB_len, bkF_at hi, Nat.min_eq_left hj]
    congr 1
    have : ∀ (l : List RBlk) (i n : Nat), (enRF i n l).length = (l.map fun b => b.chs.length).sum := by
      intro l
      induction l with
      | nil => intro _ _; rfl
      | cons b l ih => intro i n; rw [enRF, List.length_append, ih, enRB_len, List.map_cons, List.sum_cons]
    exact this _ _ _
  omega
def gsF (a b : Nat) : Bool → Nat
  | true => a
  | false => b
def ffF (a b : Nat → List RStep) : Bool → Nat → List RStep
  | true => a
  | false => b
theorem Tryz.info100 : (Tryz.prog.info? 100).map (fun i => (i.zero, i.size, i.bytes)) = some (some (.slice none 0 0), 1, 24) := by kernel_rfl
theorem made_sl (n : Nat) : (madeCells (Value.slice none 0 0).cells (n * 1)).toList = List.replicate n (.slice none 0 0) := by
  rw [show (Value.slice none 0 0).cells = #[.slice none 0 0] from rfl, Nat.mul_one]
  apply List.ext_getElem
  · simp [madeCells]
  · intro i h1 h2
    simp [madeCells, Nat.mod_one]

/-- The world within Plain. -/
def PlS (n : Nat) (w : World) (G1 G2 SB sp : Nat) (fF fL : Nat → List RStep) (wr : World) : Prop :=
  Fam w.heap.size wr (gsF G1 G2) n (ffF fF fL) ∧ wr.heap[SB]? = some (.cells #[.int .i64 sp, .int .i64 0] 132 (0, 0)) ∧ w.heap.size ≤ SB ∧ Below w.heap.size w wr
theorem PlS.keeps {n w G1 G2 SB sp fF fL wr wr'} (h : PlS n w G1 G2 SB sp fF fL wr) (F : Below wr.heap.size wr wr') : PlS n w G1 G2 SB sp fF fL wr' := by
  obtain ⟨a, b, c, d⟩ := h
  exact ⟨a.keeps F, by rw [F.block _ (lt_of_block b)]; exact b, c, d.trans (F.mono d.size)⟩
theorem Fam.ch {base w w' gs n f} (h : Fam base w gs n f) {SB : Nat} {cs : Array Value} {t : TypeId} (hB : w.heap[SB]? = some (.cells cs t (0, 0))) (h1 : 100 ≠ t) (h2 : 150 ≠ t) (C : Ch (fun j => j = SB) w w') : Fam base w' gs n f := by
  obtain ⟨us, a, b, c, d⟩ := h
  exact ⟨us, fun s => owns_blk (a s) (fun j hj hj2 => C.block j hj (fun e => own_type (a s) hB h1 (by rw [← e]; exact hj2))), fun s k u hu => owns_blk (b s k u hu) (fun j hj hj2 => C.block j hj (fun e => own_type (b s k u hu) hB h2 (by rw [← e]; exact hj2))), c, d⟩
theorem PlS.spare {n w G1 G2 SB sp fF fL wr} (h : PlS n w G1 G2 SB sp fF fL wr) : PlS n w G1 G2 SB (sp + 1) fF fL (wr.setCell ⟨SB, 0, none⟩ (.int .i64 ((sp : Int) + 1))) := by
  obtain ⟨a, b, c, d⟩ := h
  refine ⟨a.ch b (by decide) (by decide) (Ch.set _ _ _ rfl), ?_, c, below_set d _ _ _ c⟩
  rw [blk_set b]
  simp
/-- A copy behind one of the rows. -/
theorem PlS.put {n : Nat} {w wr w3 : World} {G1 G2 SB sp : Nat} {fF fL : Nat → List RStep} {o : Obj} (h : PlS n w G1 G2 SB sp fF fL wr) (s : Bool) {k : Nat} (hk : k < n) {u u' : Value} {t : RStep} (hu : wr.cell? ⟨gsF G1 G2 s, k, none⟩ = some u)
    (oS : w3.ownsRow w.heap.size 150 1 u' ((ffF fF fL s k).length + 1) ((ffF fF fL s k).map stVal ++ [stVal t])) (gS : (wr.alloc o).grownBy w3 u.ownBlock) (nS : u'.ownBlock = u.ownBlock ∨ u'.ownBlock = some (wr.alloc o).heap.size)
    {fF' fL' : Nat → List RStep} (hf : ffF fF' fL' s k = ffF fF fL s k ++ [t]) (hf2 : ∀ s' j, (s', j) ≠ (s, k) → ffF fF' fL' s' j = ffF fF fL s' j) :
    PlS n w G1 G2 SB sp fF' fL' (w3.setCell ⟨gsF G1 G2 s, k, none⟩ u') ∧ Ch (fun j => j = gsF G1 G2 s ∨ some j = u.ownBlock) wr (w3.setCell ⟨gsF G1 G2 s, k, none⟩ u') := by
  obtain ⟨a, b, c, d⟩ := h
  obtain ⟨u2, hu2, _, ob, hgl, hgb⟩ := a.at s hk
  rw [hu] at hu2
  cases hu2
  obtain ⟨p1, C⟩ := a.put s hk hu oS gS nS hf hf2
  obtain ⟨us, ao, _⟩ := a
  obtain ⟨cur, hcur⟩ := row_blk (ao s)
  refine ⟨⟨p1, ?_, c, d.trans (C.toBelow d.size (fun j hj => ?_))⟩, C⟩
  · rw [C.block _ (lt_of_block b) (fun hp => ?_)]
    · exact b
    · rcases hp with hp | hp
      · rw [← hp, b] at hcur; cases hcur
      · exact own_type ob b (by decide) hp.symm
  · rcases hj with hj | hj
    · rw [hj]; exact hgb
    · exact (ob.lt j hj.symm).1

end Go.Proofs.YtgfhfkgdmidhpaaGreatDoor

namespace Go.Proofs.YtgfhfkgdmidhpaaGreatDoor
open Go.RowKit


/-- The row of blocks that is being made. -/
def zBk : List Value := [.int .i64 0, .slice none 0 0, .slice none 0 0, .nilIface]
def zBs (m : Nat) : List Value := (List.replicate m zBk).flatten
def Mde (bs : List RBlk) (base g k : Nat) (wr : World) : Prop :=
  ∃ vs : List (Value × Value), vs.length = k ∧ wr.ownsRow base 104 4 (.slice (some ⟨g, 0, none⟩) bs.length bs.length) bs.length (pbFlat ((plnR bs).take k) vs ++ zBs (bs.length - k)) ∧ PBlkAll wr base ((plnR bs).take k) vs
theorem zBs_succ (n : Nat) : zBs (n + 1) = zBs n ++ zBk := by
  unfold zBs; rw [List.replicate_succ', List.flatten_append]; simp
theorem made_blk (n : Nat) : (madeCells (Value.agg #[.int .i64 0, .slice none 0 0, .slice none 0 0, .nilIface]).cells (n * 4)).toList = pbFlat [] [] ++ zBs n := by
  rw [show (Value.agg #[.int .i64 0, .slice none 0 0, .slice none 0 0, .nilIface]).cells = #[.int .i64 0, .slice none 0 0, .slice none 0 0, .nilIface] from rfl]
  show _ = zBs n
  have e : ∀ m, (madeCells #[.int .i64 0, .slice none 0 0, .slice none 0 0, .nilIface] m).toList = (List.range m).map (fun i => (#[Value.int .i64 0, .slice none 0 0, .slice none 0 0, .nilIface] : Array Value)[i % 4]!) := fun m => by
    unfold madeCells
    rw [Array.toList_map, Array.toList_range]
    rfl
  rw [e]
  clear e
  induction n with
  | zero => rfl
  | succ n ih =>
    rw [zBs_succ, ← ih, show (n + 1) * 4 = n * 4 + 1 + 1 + 1 + 1 from by omega, List.range_succ, List.range_succ, List.range_succ, List.range_succ, List.map_append, List.map_append, List.map_append, List.map_append]
    rw [List.append_assoc, List.append_assoc, List.append_assoc]
    congr 1
    simp only [List.map_cons, List.map_nil, List.cons_append, List.nil_append]
    rw [show n * 4 % 4 = 0 from by omega, show (n * 4 + 1) % 4 = 1 from by omega, show (n * 4 + 1 + 1) % 4 = 2 from by omega, show (n * 4 + 1 + 1 + 1) % 4 = 3 from by omega]
    rfl
theorem pbFlat_len : ∀ (cs : List RBlk) (vs : List (Value × Value)), vs.length = cs.length → (pbFlat cs vs).length = 4 * cs.length
  | [], [], _ => rfl
  | [], _ :: _, h => by simp at h
  | _ :: _, [], h => by simp at h
  | c :: cs, v :: vs, h => by
    have e : pbFlat (c :: cs) (v :: vs) = pblkCells c v.1 v.2 ++ pbFlat cs vs := rfl
    have := pbFlat_len cs vs (by simpa using h)
    rw [e, List.length_append, this, List.length_cons]
    show 4 + _ = _
    omega
theorem plnR_len (bs : List RBlk) : (plnR bs).length = bs.length := by simp [plnR]
theorem plnR_at {bs : List RBlk} {k : Nat} (hk : k < bs.length) : (plnR bs)[k]'(by rw [plnR_len]; exact hk) = plnRB (enRF 0 5000 bs) k bs[k] := by simp [plnR]
theorem zBs_cons (m : Nat) : zBs (m + 1) = zBk ++ zBs m := by
  unfold zBs; rw [List.replicate_succ, List.flatten_cons]
theorem Mde.cell {bs : List RBlk} {base g k : Nat} {wr : World} (h : Mde bs base g k wr) (hk : k < bs.length) : ∀ j, j < 4 → ∃ u, wr.cell? ⟨g, k * 4 + j, none⟩ = some u := by
  obtain ⟨vs, hv, o, _⟩ := h
  intro j hj
  have hl : (pbFlat ((plnR bs).take k) vs).length = 4 * k := by
    have ht : ((plnR bs).take k).length = k := by rw [List.length_take, plnR_len]; omega
    rw [pbFlat_len _ _ (by rw [hv, ht]), ht]
  have hx : (pbFlat ((plnR bs).take k) vs ++ zBs (bs.length - k))[k * 4 + j]? = zBk[j]? := by
    rw [List.getElem?_append_right (by omega), hl, show k * 4 + j - 4 * k = j from by omega, show bs.length - k = (bs.length - k - 1) + 1 from by omega, zBs_cons, List.getElem?_append_left (by show j < 4; exact hj)]
  have hz : j < zBk.length := hj
  rw [List.getElem?_eq_getElem hz] at hx
  exact ⟨_, owns_cell o hx⟩
theorem Mde.keeps {bs base g k wr wr'} (h : Mde bs base g k wr) (F : Below wr.heap.size wr wr') : Mde bs base g k wr' := by
  obtain ⟨vs, hv, o, a⟩ := h
  exact ⟨vs, hv, owns_keeps o (Keeps.below (T := fun _ => True) F) trivial, a.keeps (Keeps.below (T := fun _ => True) F) trivial trivial trivial⟩
theorem cell_blk {x y : World} {b o : Nat} (h : y.heap[b]? = x.heap[b]?) : y.cell? ⟨b, o, none⟩ = x.cell? ⟨b, o, none⟩ := by
  simp only [World.cell?, h]
theorem set4 {x : World} {g k o b : Nat} {v0 v1 v2 v3 : Value} (h : b ≠ g) : ((((x.setCell ⟨g, k * 4, none⟩ v0).setCell ⟨g, k * 4 + 1, none⟩ v1).setCell ⟨g, k * 4 + 2, none⟩ v2).setCell ⟨g, k * 4 + 3, none⟩ v3).cell? ⟨b, o, none⟩ = x.cell? ⟨b, o, none⟩ :=
  cell_blk (by rw [set_block h, set_block h, set_block h, set_block h])
def set4W (x : World) (g k : Nat) (v0 v1 v2 v3 : Value) : World := (((x.setCell ⟨g, k * 4, none⟩ v0).setCell ⟨g, k * 4 + 1, none⟩ v1).setCell ⟨g, k * 4 + 2, none⟩ v2).setCell ⟨g, k * 4 + 3, none⟩ v3
theorem set4_ch (x : World) (g k : Nat) (v0 v1 v2 v3 : Value) : Ch (fun j => j = g) x (set4W x g k v0 v1 v2 v3) :=
  ((((Ch.set (P := fun j => j = g) x (k * 4) v0 rfl).trans (Ch.set (P := fun j => j = g) _ (k * 4 + 1) v1 rfl)).trans (Ch.set (P := fun j => j = g) _ (k * 4 + 2) v2 rfl)).trans (Ch.set (P := fun j => j = g) _ (k * 4 + 3) v3 rfl))
theorem PlS.made {n w G1 G2 SB sp fF fL wr g k v0 v1 v2 v3} {cur : Array Value} (h : PlS n w G1 G2 SB sp fF fL wr) (hg : wr.heap[g]? = some (.cells cur 104 (0, 0))) (hb : w.heap.size ≤ g) : PlS n w G1 G2 SB sp fF fL (set4W wr g k v0 v1 v2 v3) := by
  obtain ⟨a, b, c, d⟩ := h
  have C := set4_ch wr g k v0 v1 v2 v3
  refine ⟨a.ch hg (by decide) (by decide) C, ?_, c, d.trans (C.toBelow d.size (fun j hj => by rw [hj]; exact hb))⟩
  rw [C.block _ (lt_of_block b) (fun e => by rw [e, hg] at b; simp at b)]
  exact b
theorem set_four (L Z : List Value) (z0 z1 z2 z3 a0 a1 a2 a3 : Value) {k : Nat} (hl : L.length = 4 * k) : ((((L ++ (z0 :: z1 :: z2 :: z3 :: Z)).set (k * 4) a0).set (k * 4 + 1) a1).set (k * 4 + 2) a2).set (k * 4 + 3) a3 = L ++ (a0 :: a1 :: a2 :: a3 :: Z) := by
  rw [List.set_append_right (h := by omega), hl, show k * 4 - 4 * k = 0 from by omega, List.set_cons_zero]
  rw [List.set_append_right (h := by omega), hl, show k * 4 + 1 - 4 * k = 1 from by omega, List.set_cons_succ, List.set_cons_zero]
  rw [List.set_append_right (h := by omega), hl, show k * 4 + 2 - 4 * k = 2 from by omega, List.set_cons_succ, List.set_cons_succ, List.set_cons_zero]
  rw [List.set_append_right (h := by omega), hl, show k * 4 + 3 - 4 * k = 3 from by omega, List.set_cons_succ, List.set_cons_succ, List.set_cons_succ, List.set_cons_zero]
theorem Mde.put {bs : List RBlk} {base g k : Nat} {wr : World} (h : Mde bs base g k wr) (hk : k < bs.length) {v ev : Value} {B : Nat} (hB : base ≤ B) (o : wr.ownsRow B 150 1 v (firR (enRF 0 5000 bs) k ++ bs[k].sts ++ lasR (enRF 0 5000 bs) k).length ((firR (enRF 0 5000 bs) k ++ bs[k].sts ++ lasR (enRF 0 5000 bs) k).map stVal)) (he : endVal bs[k].e = ev) (hop : bs[k].e.op = 46 ∨ bs[k].e.op = 62 ∨ bs[k].e.op = 63) :
    Mde bs base g (k + 1) (set4W wr g k (.int .i64 0) (.slice none 0 0) v ev) := by
  obtain ⟨vs, hv, row, all⟩ := h
  obtain ⟨cur, hcur⟩ := row_blk row
  have ht : ((plnR bs).take k).length = k := by rw [List.length_take, plnR_len]; omega
  have hl : (pbFlat ((plnR bs).take k) vs).length = 4 * k := by rw [pbFlat_len _ _ (by rw [hv, ht]), ht]
  have e1 : (plnR bs).take (k + 1) = (plnR bs).take k ++ [plnRB (enRF 0 5000 bs) k bs[k]] := by
    rw [List.take_succ_eq_append_getElem (by rw [plnR_len]; exact hk), plnR_at hk]
  have KP : Keeps base (fun e => e = 147 ∨ e = 140 ∨ e = 150) wr (set4W wr g k (.int .i64 0) (.slice none 0 0) v ev) := fun j c e _ ht2 hh => by
    rw [(set4_ch wr g k _ _ _ _).block j (lt_of_block hh) (fun e2 => ?_)]
    · exact hh
    · rw [e2, hcur] at hh
      cases hh
      rcases ht2 with h | h | h <;> cases h
  refine ⟨vs ++ [(.slice none 0 0, v)], by rw [List.length_append, hv]; rfl, ?_, ?_⟩
  · have s := (((row.stored (k * 4) (.int .i64 0)).1.stored (k * 4 + 1) (.slice none 0 0)).1.stored (k * 4 + 2) v).1.stored (k * 4 + 3) ev
    have s := s.1
    rw [show bs.length - k = (bs.length - (k + 1)) + 1 from by omega, zBs_cons] at s
    have es : pbFlat ((plnR bs).take k) vs ++ (zBk ++ zBs (bs.length - (k + 1))) = pbFlat ((plnR bs).take k) vs ++ (Value.int .i64 0 :: .slice none 0 0 :: .slice none 0 0 :: .nilIface :: zBs (bs.length - (k + 1))) := rfl
    rw [es, set_four _ _ _ _ _ _ _ _ _ _ hl] at s
    rw [e1, pbFlat_snoc _ _ (by rw [hv, ht]), List.append_assoc]
    have ep : pblkCells (plnRB (enRF 0 5000 bs) k bs[k]) (.slice none 0 0) v ++ zBs (bs.length - (k + 1)) = (Value.int .i64 0 :: .slice none 0 0 :: v :: ev :: zBs (bs.length - (k + 1))) := by
      rw [← he]; rfl
    rw [ep]
    exact s
  · rw [e1]
    refine PBlkAll.snoc (c := plnRB (enRF 0 5000 bs) k bs[k]) (v := (.slice none 0 0, v)) hop ?_ (all.keeps KP (.inl rfl) (.inr (.inl rfl)) (.inr (.inr rfl)))
    refine ⟨⟨[], World.ownsRow_nil _ _ _ _, trivial⟩, ?_⟩
    exact owns_keeps (owns_base o hB) KP (.inr (.inr rfl))
theorem Mde.all {bs : List RBlk} {base g : Nat} {wr : World} (h : Mde bs base g bs.length wr) : PBs wr base (plnR bs) (.slice (some ⟨g, 0, none⟩) bs.length bs.length) := by
  obtain ⟨vs, hv, row, all⟩ := h
  rw [List.take_of_length_le (by rw [plnR_len]; exact Nat.le_refl _)] at row all
  rw [Nat.sub_self, show zBs 0 = [] from rfl, List.append_nil] at row
  exact ⟨vs, by rw [plnR_len]; exact row, all⟩

end Go.Proofs.YtgfhfkgdmidhpaaGreatDoor
