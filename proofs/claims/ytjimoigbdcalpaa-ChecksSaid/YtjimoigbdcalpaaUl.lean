import Derived.Test.YtjimoigbdcalpaaUk
namespace Go.Proofs.Ytjimoigbdcalpaa
open Go.RowKit

def PBlkAll (w : World) (base : Nat) : List RBlk → List (Value × Value) → Prop
  | [], [] => True
  | c :: cs, v :: vs => ((c.e.op = 46 ∨ c.e.op = 62 ∨ c.e.op = 63) ∧ PBlk w base c v.1 v.2) ∧ PBlkAll w base cs vs
  | _, _ => False
def pbFlat (cs : List RBlk) (vs : List (Value × Value)) : List Value := (List.zipWith (fun c v => pblkCells c v.1 v.2) cs vs).flatten
def PBs (w : World) (base : Nat) (cs : List RBlk) (v : Value) : Prop := ∃ vs, w.ownsRow base 43 4 v cs.length (pbFlat cs vs) ∧ PBlkAll w base cs vs
def T6 (e : TypeId) : Prop := e = 103 ∨ e = 101 ∨ e = 143
def T7 (e : TypeId) : Prop := e = 103 ∨ e = 101 ∨ e = 143 ∨ e = 43
theorem PBlk.keeps {w w' base r vc vs} {T : TypeId → Prop} (h : PBlk w base r vc vs) (k : Keeps base T w w') (h1 : T 103) (h2 : T 101) (h3 : T 143) : PBlk w' base r vc vs :=
  ⟨h.1.keeps k h1 h2, owns_keeps h.2 k h3⟩
theorem PBlk.base {w base base' r vc vs} (h : PBlk w base r vc vs) (hb : base' ≤ base) : PBlk w base' r vc vs := ⟨h.1.base hb, owns_base h.2 hb⟩
theorem PBlkAll.len {w base} : ∀ {cs vs}, PBlkAll w base cs vs → vs.length = cs.length
  | [], [], _ => rfl
  | _ :: _, _ :: _, h => by simp [PBlkAll.len h.2]
  | [], _ :: _, h => h.elim
  | _ :: _, [], h => h.elim
theorem PBlkAll.keeps {w w' base} {T : TypeId → Prop} (k : Keeps base T w w') (h1 : T 103) (h2 : T 101) (h3 : T 143) : ∀ {cs vs}, PBlkAll w base cs vs → PBlkAll w' base cs vs
  | [], [], _ => trivial
  | _ :: _, _ :: _, h => ⟨⟨h.1.1, h.1.2.keeps k h1 h2 h3⟩, PBlkAll.keeps k h1 h2 h3 h.2⟩
  | [], _ :: _, h => h.elim
  | _ :: _, [], h => h.elim
theorem PBlkAll.base {w base base'} (hb : base' ≤ base) : ∀ {cs vs}, PBlkAll w base cs vs → PBlkAll w base' cs vs
  | [], [], _ => trivial
  | _ :: _, _ :: _, h => ⟨⟨h.1.1, h.1.2.base hb⟩, PBlkAll.base hb h.2⟩
  | [], _ :: _, h => h.elim
  | _ :: _, [], h => h.elim
theorem PBlkAll.snoc {w base} {c : RBlk} {v : Value × Value} (h1 : c.e.op = 46 ∨ c.e.op = 62 ∨ c.e.op = 63) (h2 : PBlk w base c v.1 v.2) : ∀ {cs vs}, PBlkAll w base cs vs → PBlkAll w base (cs ++ [c]) (vs ++ [v])
  | [], [], _ => ⟨⟨h1, h2⟩, trivial⟩
  | _ :: _, _ :: _, h => ⟨h.1, PBlkAll.snoc h1 h2 h.2⟩
  | [], _ :: _, h => h.elim
  | _ :: _, [], h => h.elim
theorem pbFlat_snoc {cs : List RBlk} {vs : List (Value × Value)} (c v) (h : vs.length = cs.length) : pbFlat (cs ++ [c]) (vs ++ [v]) = pbFlat cs vs ++ pblkCells c v.1 v.2 := by
  simp [pbFlat, List.zipWith_append h.symm]
theorem PBs.keeps {w w' base cs v} (h : PBs w base cs v) (k : Keeps base T7 w w') : PBs w' base cs v := by
  obtain ⟨vs, a, b⟩ := h
  exact ⟨vs, owns_keeps a k (by simp [T7]), b.keeps k (by simp [T7]) (by simp [T7]) (by simp [T7])⟩
theorem PBs.base {w base base' cs v} (h : PBs w base cs v) (hb : base' ≤ base) : PBs w base' cs v := by
  obtain ⟨vs, a, b⟩ := h
  exact ⟨vs, owns_base a hb, b.base hb⟩
theorem PBs.slice {w base cs v} (h : PBs w base cs v) : ∃ p c, v = .slice p cs.length c := by
  obtain ⟨vs, a, _⟩ := h; exact owns_slice2 a
theorem Try.info43 : (Try.prog.info? 43).map (fun i => (i.zero, i.size, i.bytes)) = some (some (.agg #[.int .i64 0, .slice none 0 0, .slice none 0 0, .nilIface]), 4, 72) := by kernel_rfl

def PgPost (b : Nat) (s : ByteArray) (w : World) (e : Ending) (w' : World) : Prop :=
  (∃ v, e = .returned v ∧ parBad s < 0 ∧ PBs w' w.heap.size (parF s).bs v ∧ Fr b w w') ∨ (e = .panicked (brk (parBad s)) ∧ 0 ≤ parBad s ∧ Fr b w w')
theorem par_end {s a k p} (h : parF s = parSt s true k p) (hk : 0 < k) (ha : onF s (blkF s p.i p.bad).i (blkF s p.i p.bad).bad 124 = a) (hf : a = false) : parF s = ⟨p.bs ++ [(blkF s p.i p.bad).b], (blkF s p.i p.bad).i, (blkF s p.i p.bad).bad⟩ := by
  rw [h, parSt_step hk, ha, hf, parSt, if_neg (by simp), gotI, ha, hf, if_neg (by simp)]

set_option maxRecDepth 100000 in
set_option maxHeartbeats 8000000 in
theorem program_any {b g : Nat} {s : ByteArray} {w : World} (hp : RS w b g s 0) (hs : s.size ≤ 200000) :
    Calls Try.prog 17 #[.pointer (some ⟨b,0,none⟩)] w fun e w' => PgPost b s w e w' := by
  have hb := hp.lt
  have hg := hp.glt
  go_enter Try.func17, Try.ntmps17
  go_wp2_with fail
  go_loopw [3] (fun l wr => ∃ (k : Nat) (p : Par), s.size < k + p.i ∧ p.i ≤ s.size ∧ p.bs.length ≤ p.i ∧ Hid (p.bad = -1) ∧ Hid (parF s = parSt s true k p) ∧ PBs wr w.heap.size p.bs l ∧ RS wr b g s p.i ∧ Hid (Fr b w wr) ∧ w.heap.size ≤ wr.heap.size) (fun _ wr => s.size - rdI wr b)
  case atStart => exact ⟨s.size + 1, ⟨[], 0, -1⟩, by show _ < _; omega, by simp, by simp, rfl, rfl, ⟨[], World.ownsRow_nil _ _ _ _, trivial⟩, hp, Fr.refl _ _, Nat.le_refl _⟩
  case round =>
    obtain ⟨k, p, hk, hpi, hpl, HPB, HR, O, P, F, hz⟩ := hrel
    have HRI : Hid (rdI wr b = p.i) := P.rdI
    have HK : Hid (0 < k) := by show 0 < k; omega
    obtain ⟨pl, cl, rfl⟩ := O.slice
    clear hp
    go_wp2_with fail
    refine (block2_any P hs).mono ?_
    have HD : Hid (blkF s p.i p.bad = blkF s p.i (-1)) := by show _ = _; rw [HPB.out]
    have hge := blkF_ge (s := s) (i := p.i) (bad := -1)
    have hle := blkF_le (bad := -1) hpi
    generalize hd : blkF s p.i (-1) = d at *
    clear hd
    rintro e w1 (⟨vc, vs, rfl, hbad, hop, OB, P1, f1⟩ | ⟨rfl, hbad, f1⟩)
    · have HB := stop hbad
      have HOP := stop hop
      clear hbad hop
      replace OB := OB.base hz
      replace O := O.keeps (Keeps.fr f1 (by omega))
      replace F := stop (F.out.trans f1)
      have hz1 := Nat.le_trans hz f1.size
      obtain ⟨pc1, cc1, rfl⟩ := OB.1.slice
      obtain ⟨ps1, cs1, rfl⟩ := owns_slice2 OB.2
      obtain ⟨T, x, hev⟩ := endVal_iface d.b.e
      have HEV := stop hev
      rw [show (pblkCells d.b (.slice pc1 d.b.chs.length cc1) (.slice ps1 d.b.sts.length cs1)).toArray = #[.int .i64 d.b.at_, .slice pc1 d.b.chs.length cc1, .slice ps1 d.b.sts.length cs1, .iface T x] from by rw [pblkCells, hev]]
      clear hev f1 P hz
      go_wp2_with (at_builtin; refine unstop ?_)
      refine stop ?_
      have gB := heap_alloc_last w1 (.cells #[.int .i64 d.b.at_, .slice pc1 d.b.chs.length cc1, .slice ps1 d.b.sts.length cs1, .iface T x] 43)
      replace O := O.keeps (Keeps.alloc _ _ _ (.cells #[.int .i64 d.b.at_, .slice pc1 d.b.chs.length cc1, .slice ps1 d.b.sts.length cs1, .iface T x] 43))
      replace OB := OB.keeps (Keeps.alloc _ T6 _ (.cells #[.int .i64 d.b.at_, .slice pc1 d.b.chs.length cc1, .slice ps1 d.b.sts.length cs1, .iface T x] 43)) (by simp [T6]) (by simp [T6]) (by simp [T6])
      replace P1 := P1.alloc (.cells #[.int .i64 d.b.at_, .slice pc1 d.b.chs.length cc1, .slice ps1 d.b.sts.length cs1, .iface T x] 43)
      replace F := stop (F.out.alloc (.cells #[.int .i64 d.b.at_, .slice pc1 d.b.chs.length cc1, .slice ps1 d.b.sts.length cs1, .iface T x] 43))
      obtain ⟨us, O1, hAll⟩ := O
      refine app1 Try.underlying30 Try.info43 rfl (by decide) (by decide) rfl _ _ rfl rfl O1 gB rfl rfl (List.all_eq_true.1 rfl) (by omega) (by rw [World.size_alloc]; omega) ?_
      intro v3 wS oS gS
      have K : Keeps w.heap.size T6 _ wS := Keeps.grown O1 gS (by simp [T6])
      have O3 : PBs wS w.heap.size (p.bs ++ [d.b]) v3 := by
        refine ⟨us ++ [(.slice pc1 d.b.chs.length cc1, .slice ps1 d.b.sts.length cs1)], ?_, ?_⟩
        · rw [pbFlat_snoc _ _ hAll.len, List.length_append, pblkCells, HEV.out]; exact oS
        · exact PBlkAll.snoc HOP.out (OB.keeps K (by simp [T6]) (by simp [T6]) (by simp [T6])) (hAll.keeps K (by simp [T6]) (by simp [T6]) (by simp [T6]))
      have P3 := P1.grown gS (fun j hj => by have := (O1.lt j hj).1; constructor <;> omega)
      have F3 := stop (F.out.grown gS (fun j hj => by have := (O1.lt j hj).1; omega))
      have hz3 : w.heap.size ≤ wS.heap.size := by have := gS.size; rw [World.size_alloc] at this; omega
      obtain ⟨p5, c5, h5⟩ := O3.slice
      rw [List.length_append, List.length_singleton] at h5
      subst h5
      clear K O1 hAll gS oS gB OB P1 F hz1
      go_wp2_with fail
      refine (sign_of P3).mono ?_
      rintro e w4 ⟨y, rfl, hy, P4, f4⟩
      replace O3 := O3.keeps (Keeps.fr f4 (by omega))
      replace F3 := stop (F3.out.trans f4)
      have hz4 := Nat.le_trans hz3 f4.size
      have hfin := hy.fin
      clear f4 P3 hz3 hy
      by_cases hend : d.i = s.size
      · have hy1 : (y == -1) = true := by simp [hfin.2 hend]
        have HP : Hid (parF s = ⟨p.bs ++ [d.b], d.i, d.bad⟩) := by
          have := par_end HR.out HK.out rfl (by rw [HD.out, ← Bool.not_eq_true]; intro e; have := (onF_lt e).2.1; omega)
          rwa [HD.out] at this
        have HPB2 : Hid (parBad s = -1) := by show _ = _; rw [parBad, HP.out, if_neg (by show ¬ d.i < s.size; omega)]; exact HB.out
        clear hfin HR hend
        go_wp2_with fail
        go_ret
        exact .inl ⟨_, rfl, by rw [HPB2.out]; omega, by rw [HP.out]; exact O3, F3.out⟩
      · have hy1 : (y == -1) = false := by simp; intro e; exact hend (hfin.1 e)
        clear hfin
        go_wp2_with fail
        cases h124 : onF s d.i (-1) 124 with
        | true =>
          have hlt := (onF_lt h124).2.1
          have HR2 : Hid (parF s = parSt s true (k - 1) ⟨p.bs ++ [d.b], d.i + 1, d.bad⟩) := by
            show _ = _
            rw [HR.out, parSt_step HK.out, HD.out, HB.out, h124, gotI, if_pos h124]
          refine (want_yes (c := 124) P4 hs (by decide) h124).mono ?_
          rintro e w5 ⟨rfl, P5, f5⟩
          clear h124
          go_wp2_with fail
          go_roundw
          case rel => exact ⟨k - 1, ⟨p.bs ++ [d.b], d.i + 1, d.bad⟩, by show s.size < k - 1 + (d.i + 1); omega, by show d.i + 1 ≤ s.size; omega, by show (p.bs ++ [d.b]).length ≤ d.i + 1; simp; omega, HB, HR2, O3.keeps (Keeps.fr f5 (by omega)), P5, F3.out.trans f5, Nat.le_trans hz4 f5.size⟩
          case measure => rw [P5.rdI, HRI.out]; omega
        | false =>
          have HP : Hid (parF s = ⟨p.bs ++ [d.b], d.i, d.bad⟩) := by
            have := par_end HR.out HK.out rfl (by rw [HD.out, HB.out]; exact h124)
            rwa [HD.out] at this
          have HPB2 : Hid (parBad s = d.i) := by
            show _ = _
            rw [parBad, HP.out, if_pos (by show d.i < s.size; omega)]
            show failB d.i d.bad = d.i
            rw [HB.out, failB1]
          refine (want_no (c := 124) P4 (by decide) h124).mono ?_
          rintro e w5 ⟨rfl, f5⟩
          clear h124
          go_wp2_with fail
          exact ⟨rfl, .inr ⟨by rw [HPB2.out], by rw [HPB2.out]; omega, F3.out.trans f5⟩⟩
    · have HB := stop hbad
      have HP : Hid (parF s = ⟨p.bs ++ [d.b], d.i, d.bad⟩) := by
        have := par_end HR.out HK.out rfl (by rw [HD.out]; exact st_on hbad)
        rwa [HD.out] at this
      have HPB2 : Hid (parBad s = d.bad) := by
        show _ = _
        rw [parBad, HP.out]
        show (if d.i < s.size then failB d.i d.bad else d.bad) = d.bad
        rw [st_fail hbad]; simp
      clear hbad
      go_wp2_with fail
      exact ⟨rfl, .inr ⟨by rw [HPB2.out], by rw [HPB2.out]; exact HB.out, F.out.trans f1⟩⟩
end Go.Proofs.Ytjimoigbdcalpaa
