import Derived.Test.YtgfhfkgdmidhpaaGreatMD
import Derived.Test.YtgfhfkgdmidhpaaGreatG22
namespace Go.Proofs.YtgfhfkgdmidhpaaGreat
open Go.RowKit

/-- A register where it is given or read: its number, its place, the block, the step. -/
structure Use where
  n : Nat
  p : Nat
  b : Nat
  s : Int
def stU (b : RBlk) (i j : Nat) : List Use := match b.sts[j]? with | some t => if t.op = 33 then [] else [⟨t.to.1, t.to.2, i, j⟩] | none => []
theorem stU_put {b : RBlk} {i j : Nat} (hj : j < b.sts.length) (h : b.sts[j].op = 33) : stU b i j = [] := by rw [stU, List.getElem?_eq_getElem hj]; simp [h]
theorem stU_give {b : RBlk} {i j : Nat} (hj : j < b.sts.length) (h : ¬ b.sts[j].op = 33) : stU b i j = [⟨b.sts[j].to.1, b.sts[j].to.2, i, j⟩] := by rw [stU, List.getElem?_eq_getElem hj]; simp [h]
def chU (i : Nat) (c : RCho) : Use := ⟨c.to.1, c.to.2, i, -1⟩
def gvBk (b : RBlk) (i : Nat) : List Use := b.chs.map (chU i) ++ (List.range b.sts.length).flatMap (stU b i)
/-- Where registers are given, in the order of the text. -/
def gvUp (bs : List RBlk) (m : Nat) : List Use := (List.range m).flatMap fun i => gvBk (bkF bs i) i
def gvU (bs : List RBlk) : List Use := gvUp bs bs.length
theorem gvUp_next (bs : List RBlk) (m : Nat) : gvUp bs (m + 1) = gvUp bs m ++ gvBk (bkF bs m) m := by rw [gvUp, gvUp, List.range_succ, List.flatMap_append]; simp
def twG (seen : List Nat) : List Use → Option Use
  | [] => none
  | u :: us => if seen.contains u.n then some u else twG (seen ++ [u.n]) us
/-- The first one that gives a register again. -/
def twF (l : List Use) : Option Use := twG [] l
theorem twG_snoc (u : Use) : ∀ (l : List Use) (seen : List Nat), twG seen (l ++ [u]) = match twG seen l with | some x => some x | none => if (seen ++ l.map (·.n)).contains u.n then some u else none
  | [], seen => by simp [twG]
  | v :: l, seen => by
    rw [List.cons_append, twG, twG]
    by_cases h : seen.contains v.n = true
    · rw [if_pos h, if_pos h]
    · rw [if_neg h, if_neg h, twG_snoc u l (seen ++ [v.n])]
      simp [List.append_assoc]
theorem twF_some {l : List Use} {x : Use} (h : twF l = some x) (u : Use) : twF (l ++ [u]) = some x := by rw [twF, twG_snoc]; rw [twF] at h; rw [h]
theorem twF_hit {l : List Use} {u : Use} (h : twF l = none) (hu : u.n ∈ l.map (·.n)) : twF (l ++ [u]) = some u := by
  rw [twF, twG_snoc]; rw [twF] at h; rw [h]; simp only [List.nil_append]
  rw [if_pos (List.contains_iff_mem.2 hu)]
theorem twF_no {l : List Use} {u : Use} (h : twF l = none) (hu : u.n ∉ l.map (·.n)) : twF (l ++ [u]) = none := by
  rw [twF, twG_snoc]; rw [twF] at h; rw [h]; simp only [List.nil_append]
  rw [if_neg (fun e => hu (List.contains_iff_mem.1 e))]
def atO (o : Option Use) : Int := match o with | some u => u.p | none => -1
def whF (l : List Use) (n : Nat) : Int := match l.findIdx? (fun u => u.n == n) with | some i => i | none => -1
theorem whF_mem {l : List Use} {n : Nat} : 0 ≤ whF l n ↔ n ∈ l.map (·.n) := by
  unfold whF
  cases h : l.findIdx? (fun u => u.n == n) with
  | none =>
    rw [List.findIdx?_eq_none_iff] at h
    constructor
    · intro e; exact absurd e (by decide)
    · intro e
      obtain ⟨u, hu, rfl⟩ := List.mem_map.1 e
      have := h u hu
      simp at this
  | some i =>
    rw [List.findIdx?_eq_some_iff_getElem] at h
    obtain ⟨hi, h1, _⟩ := h
    constructor
    · intro _; exact List.mem_map.2 ⟨l[i], List.getElem_mem hi, by simpa using h1⟩
    · intro _; show (0 : Int) ≤ (i : Int); omega
def siteCells (l : List Use) : List Value := l.flatMap fun u => [.int .i64 u.n, .int .i64 u.b, .int .i64 u.s]
theorem siteCells_app (l m : List Use) : siteCells (l ++ m) = siteCells l ++ siteCells m := by rw [siteCells, siteCells, siteCells, List.flatMap_append]
theorem siteCells_at {l : List Use} {j : Nat} (hj : j < l.length) : (siteCells l)[j * 3]? = some (.int .i64 l[j].n) ∧ (siteCells l)[j * 3 + 1]? = some (.int .i64 l[j].b) ∧ (siteCells l)[j * 3 + 2]? = some (.int .i64 l[j].s) := by
  have F := fun k hk => flat_get 3 (l.map fun u : Use => [Value.int .i64 u.n, .int .i64 u.b, .int .i64 u.s]) j k [.int .i64 l[j].n, .int .i64 l[j].b, .int .i64 l[j].s] (fun x hx => by obtain ⟨y, _, rfl⟩ := List.mem_map.1 hx; rfl) (by simp [hj]) hk
  rw [siteCells, List.flatMap_def]
  exact ⟨F 0 (by omega), F 1 (by omega), F 2 (by omega)⟩

set_option maxHeartbeats 1000000 in
theorem whereR (l : List Use) (n base : Nat) (v : Value) (w : World) (h : w.ownsRow base 177 3 v l.length (siteCells l)) (hl : l.length ≤ 100000000000) :
    Calls Tryz.prog 96 #[v, .int .i64 n] w fun x w' => x = .returned (.int .i64 (whF l n)) ∧ w' = w := by
  obtain ⟨p, c, rfl⟩ := owns_slice2 h
  have H := stop h
  clear h
  go_enter Tryz.func96, Tryz.ntmps96
  go_wp2_with fail
  go_loop [5] (fun i => ∃ k : Nat, k ≤ l.length ∧ i = .int .i64 k ∧ Hid (∀ j, (hj : j < l.length) → j < k → l[j].n ≠ n)) (fun i => l.length - (intOf i).toNat)
  case atStart => exact ⟨0, by omega, rfl, fun j hj hk => absurd hk (by omega)⟩
  case round =>
    obtain ⟨k, hk, rfl, HN⟩ := hrel
    by_cases hlt : k < l.length
    · obtain ⟨g, rfl, _, _⟩ := owns_form H.out (by omega)
      have hc := owns_cell H.out (siteCells_at hlt).1
      by_cases he : l[k].n = n
      · have he' : ((l[k].n : Int) == (n : Int)) = true := by simp; omega
        have HR : Hid (whF l n = k) := by
          show whF l n = _
          have : l.findIdx? (fun u => u.n == n) = some k := List.findIdx?_eq_some_iff_getElem.2 ⟨hlt, by simpa using he, fun j hj => by simpa using HN.out j (by omega) hj⟩
          rw [whF, this]
        clear he
        go_wp2_with fail
        go_ret
        exact ⟨by rw [HR.out]; rfl, rfl⟩
      · have he' : ((l[k].n : Int) == (n : Int)) = false := by simp; omega
        have HN2 : Hid (∀ j, (hj : j < l.length) → j < k + 1 → l[j].n ≠ n) := fun j hj hjk => by
          rcases Nat.lt_succ_iff_lt_or_eq.1 hjk with h | rfl
          · exact HN.out j hj h
          · exact he
        clear he
        go_wp2_with fail
        go_round
        case rel => exact ⟨k + 1, by omega, by go_num, HN2⟩
        case measure => simp [intOf]; omega
    · have HR : Hid (whF l n = -1) := by
        show whF l n = _
        have : l.findIdx? (fun u => u.n == n) = none := by
          rw [List.findIdx?_eq_none_iff]
          intro u hu
          obtain ⟨j, hj, rfl⟩ := List.getElem_of_mem hu
          simpa using HN.out j hj (by omega)
        rw [whF, this]
      go_wp2_with fail
      go_ret
      exact ⟨by rw [HR.out]; rfl, rfl⟩

end Go.Proofs.YtgfhfkgdmidhpaaGreat

namespace Go.Proofs.YtgfhfkgdmidhpaaGreat
open Go.RowKit

theorem Tryz.info177 : (Tryz.prog.info? 177).map (fun i => (i.zero, i.size, i.bytes)) = some (some (.agg #[.int .i64 0, .int .i64 0, .int .i64 0]), 3, 24) := by kernel_rfl

set_option maxRecDepth 100000 in
set_option maxHeartbeats 2000000 in
theorem sitesR (bs : List RBlk) (base : Nat) (v : Value) (w : World) (h : BlksOwn w base bs v) (hf : Hid (∀ b ∈ bs, BFine 1000000 b)) (hn : bs.length ≤ 1000) :
    Calls Tryz.prog 58 #[v] w fun x w' => ∃ v', x = .returned (.tuple #[v', .int .i64 (atO (twF (gvU bs)))]) ∧ Hid (w'.ownsRow w.heap.size 177 3 v' (gvU bs).length (siteCells (gvU bs)) ∧ (gvU bs).length ≤ 100000000000 ∧ Below w.heap.size w w') := by
  obtain ⟨pv, cv, rfl⟩ := h.slice
  have HB := stop h
  clear h
  go_enter Tryz.func58, Tryz.ntmps58
  go_wp2_with fail
  go_loopw [4, 5, 6] (fun o a i wr => ∃ (m : Nat) (L : List Use), m ≤ bs.length ∧ i = .int .i64 m ∧ a = .int .i64 (atO (twF L)) ∧ Hid (L = gvUp bs m) ∧ L.length ≤ 3000000 * m ∧ wr.ownsRow w.heap.size 177 3 o L.length (siteCells L) ∧ Hid (Below w.heap.size w wr)) (fun _ _ i _ => bs.length - (intOf i).toNat)
  case atStart => exact ⟨0, [], by omega, rfl, rfl, rfl, by simp, World.ownsRow_nil _ _ _ _, Below.refl _ _⟩
  case round =>
    obtain ⟨m, L, hm, rfl, rfl, HL, hll, OL, F⟩ := hrel
    rename World => wA
    obtain ⟨pl, cl, rfl⟩ := owns_slice2 OL
    have hz := F.out.size
    have OLH := stop OL
    clear OL
    by_cases hlt : m < bs.length
    · have HFM := stop (hf.out _ (List.getElem_mem hlt))
      have hcl := HFM.out.cl
      have hsl := HFM.out.sl
      have HBK := stop (bkF_at hlt)
      obtain ⟨gv, _, _, _, _, rfl, _, _, _, _, _⟩ := (HB.out.keeps3 (Keeps.below F.out)).at hlt
      go_wp2_with fail
      go_loopw [4, 5, 7] (fun o a i wr => ∃ (q : Nat) (L2 : List Use), q ≤ bs[m].chs.length ∧ i = .int .i64 q ∧ a = .int .i64 (atO (twF L2)) ∧ Hid (L2 = L ++ (bs[m].chs.take q).map (chU m)) ∧ L2.length ≤ 3000000 * m + q ∧ wr.ownsRow w.heap.size 177 3 o L2.length (siteCells L2) ∧ Hid (Below w.heap.size w wr)) (fun _ _ i _ => bs[m].chs.length - (intOf i).toNat)
      case atStart => exact ⟨0, L, by omega, rfl, rfl, by simp [Hid], by omega, OLH.out, F⟩
      case round =>
        obtain ⟨q, L2, hq, rfl, rfl, HL2, hl2, OL2, F2⟩ := hrel
        rename World => wB
        obtain ⟨pl2, cl2, rfl⟩ := owns_slice2 OL2
        have hz2 := F2.out.size
        have OL2H := stop OL2
        clear OL2
        obtain ⟨gv', qc, cc, ps, cs, hgv, _, _, OC, OS0, hc⟩ := (HB.out.keeps3 (Keeps.below F2.out)).at hlt
        cases hgv
        have d0 : wB.cell? ⟨gv, m * 10, none⟩ = _ := hc 0 _ rfl
        have d1 := hc 1 _ rfl
        clear hc
        by_cases hql : q < bs[m].chs.length
        · obtain ⟨gc, pf, cf, pr, cr, rfl, _, _, _, _, e0, e1, _, _⟩ := OC.at hql
          have HL3 : Hid (L2 ++ [chU m bs[m].chs[q]] = L ++ (bs[m].chs.take (q + 1)).map (chU m)) := by
            show _ = _
            rw [HL2.out, List.take_succ_eq_append_getElem hql, List.map_append, List.append_assoc]; rfl
          have OLW := stop (OL2H.out.alloc (.cells #[.int .i64 bs[m].chs[q].to.1, .int .i64 bs[m].chs[q].to.2] 77))
          have FW := stop (F2.out.alloc hz2 (.cells #[.int .i64 bs[m].chs[q].to.1, .int .i64 bs[m].chs[q].to.2] 77))
          have gW := heap_alloc_last wB (.cells #[.int .i64 bs[m].chs[q].to.1, .int .i64 bs[m].chs[q].to.2] 77)
          have sW : w.heap.size ≤ (wB.alloc (.cells #[.int .i64 bs[m].chs[q].to.1, .int .i64 bs[m].chs[q].to.2] 77)).heap.size := by rw [World.size_alloc]; omega
          clear OC OS0
          go_wp2_with fail
          generalize wB.alloc (.cells #[.int .i64 bs[m].chs[q].to.1, .int .i64 bs[m].chs[q].to.2] 77) = WB at *
          have k0 := cell_of gW 0
          have k1 := cell_of gW 1
          simp at k0 k1
          clear gW d0 d1 e0 e1
          refine (whereR L2 bs[m].chs[q].to.1 w.heap.size _ WB OLW.out (by omega)).mono ?_
          rintro x w' ⟨rfl, hw'⟩
          rw [hw']
          clear hw' w'
          cases htw : twF L2 with
          | some x =>
            have HTW := stop (twF_some htw (chU m bs[m].chs[q]))
            by_cases hit : 0 ≤ whF L2 bs[m].chs[q].to.1
            · clear htw
              generalize whF L2 bs[m].chs[q].to.1 = wv at *
              simp only [atO]
              go_wp2_with (at_builtin; refine unstop ?_)
              refine stop ?_
              have gB := heap_alloc_last WB (.cells #[.int .i64 bs[m].chs[q].to.1, .int .i64 m, .int .i64 (-1)] 177)
              have OB := OLW.out.alloc (.cells #[.int .i64 bs[m].chs[q].to.1, .int .i64 m, .int .i64 (-1)] 177)
              refine app1L Tryz.underlying111 Tryz.info177 rfl (by decide) (by decide) rfl _ _ rfl rfl OB gB rfl rfl (List.all_eq_true.1 rfl) (by omega) (by simp; omega) ?_
              intro v3 w3 oS gS
              have F3 := stop (Below.grown (FW.out.alloc (by omega) (.cells #[.int .i64 bs[m].chs[q].to.1, .int .i64 m, .int .i64 (-1)] 177)) gS (by simp; omega) (fun j hj => by have := (OB.lt j hj).1; omega))
              obtain ⟨v3p, v3c, rfl⟩ := owns_slice2 oS
              have O3 : Hid (w3.ownsRow w.heap.size 177 3 (.slice v3p (L2.length + 1) v3c) (L2 ++ [chU m bs[m].chs[q]]).length (siteCells (L2 ++ [chU m bs[m].chs[q]]))) := by
                show World.ownsRow _ _ _ _ _ _ _
                rw [siteCells_app, List.length_append]
                exact oS
              clear gS gB OB oS
              go_wp2_with fail
              go_roundw
              case rel => exact ⟨q + 1, L2 ++ [chU m bs[m].chs[q]], by omega, by go_num, by rw [HTW.out]; rfl, HL3, by rw [List.length_append, List.length_singleton]; omega, O3.out, F3⟩
              case measure => simp [intOf]; omega
            · clear htw
              generalize whF L2 bs[m].chs[q].to.1 = wv at *
              simp only [atO]
              go_wp2_with (at_builtin; refine unstop ?_)
              refine stop ?_
              have gB := heap_alloc_last WB (.cells #[.int .i64 bs[m].chs[q].to.1, .int .i64 m, .int .i64 (-1)] 177)
              have OB := OLW.out.alloc (.cells #[.int .i64 bs[m].chs[q].to.1, .int .i64 m, .int .i64 (-1)] 177)
              refine app1L Tryz.underlying111 Tryz.info177 rfl (by decide) (by decide) rfl _ _ rfl rfl OB gB rfl rfl (List.all_eq_true.1 rfl) (by omega) (by simp; omega) ?_
              intro v3 w3 oS gS
              have F3 := stop (Below.grown (FW.out.alloc (by omega) (.cells #[.int .i64 bs[m].chs[q].to.1, .int .i64 m, .int .i64 (-1)] 177)) gS (by simp; omega) (fun j hj => by have := (OB.lt j hj).1; omega))
              obtain ⟨v3p, v3c, rfl⟩ := owns_slice2 oS
              have O3 : Hid (w3.ownsRow w.heap.size 177 3 (.slice v3p (L2.length + 1) v3c) (L2 ++ [chU m bs[m].chs[q]]).length (siteCells (L2 ++ [chU m bs[m].chs[q]]))) := by
                show World.ownsRow _ _ _ _ _ _ _
                rw [siteCells_app, List.length_append]
                exact oS
              clear gS gB OB oS
              go_wp2_with fail
              go_roundw
              case rel => exact ⟨q + 1, L2 ++ [chU m bs[m].chs[q]], by omega, by go_num, by rw [HTW.out]; rfl, HL3, by rw [List.length_append, List.length_singleton]; omega, O3.out, F3⟩
              case measure => simp [intOf]; omega
          | none =>
            by_cases hit : 0 ≤ whF L2 bs[m].chs[q].to.1
            · have HTW := stop (twF_hit (u := chU m bs[m].chs[q]) htw (whF_mem.1 hit))
              clear htw
              generalize whF L2 bs[m].chs[q].to.1 = wv at *
              simp only [atO]
              go_wp2_with (at_builtin; refine unstop ?_)
              refine stop ?_
              have gB := heap_alloc_last WB (.cells #[.int .i64 bs[m].chs[q].to.1, .int .i64 m, .int .i64 (-1)] 177)
              have OB := OLW.out.alloc (.cells #[.int .i64 bs[m].chs[q].to.1, .int .i64 m, .int .i64 (-1)] 177)
              refine app1L Tryz.underlying111 Tryz.info177 rfl (by decide) (by decide) rfl _ _ rfl rfl OB gB rfl rfl (List.all_eq_true.1 rfl) (by omega) (by simp; omega) ?_
              intro v3 w3 oS gS
              have F3 := stop (Below.grown (FW.out.alloc (by omega) (.cells #[.int .i64 bs[m].chs[q].to.1, .int .i64 m, .int .i64 (-1)] 177)) gS (by simp; omega) (fun j hj => by have := (OB.lt j hj).1; omega))
              obtain ⟨v3p, v3c, rfl⟩ := owns_slice2 oS
              have O3 : Hid (w3.ownsRow w.heap.size 177 3 (.slice v3p (L2.length + 1) v3c) (L2 ++ [chU m bs[m].chs[q]]).length (siteCells (L2 ++ [chU m bs[m].chs[q]]))) := by
                show World.ownsRow _ _ _ _ _ _ _
                rw [siteCells_app, List.length_append]
                exact oS
              clear gS gB OB oS
              go_wp2_with fail
              go_roundw
              case rel => exact ⟨q + 1, L2 ++ [chU m bs[m].chs[q]], by omega, by go_num, by rw [HTW.out]; rfl, HL3, by rw [List.length_append, List.length_singleton]; omega, O3.out, F3⟩
              case measure => simp [intOf]; omega
            · have HTW := stop (twF_no (u := chU m bs[m].chs[q]) htw (fun h => hit (whF_mem.2 h)))
              clear htw
              generalize whF L2 bs[m].chs[q].to.1 = wv at *
              simp only [atO]
              go_wp2_with (at_builtin; refine unstop ?_)
              refine stop ?_
              have gB := heap_alloc_last WB (.cells #[.int .i64 bs[m].chs[q].to.1, .int .i64 m, .int .i64 (-1)] 177)
              have OB := OLW.out.alloc (.cells #[.int .i64 bs[m].chs[q].to.1, .int .i64 m, .int .i64 (-1)] 177)
              refine app1L Tryz.underlying111 Tryz.info177 rfl (by decide) (by decide) rfl _ _ rfl rfl OB gB rfl rfl (List.all_eq_true.1 rfl) (by omega) (by simp; omega) ?_
              intro v3 w3 oS gS
              have F3 := stop (Below.grown (FW.out.alloc (by omega) (.cells #[.int .i64 bs[m].chs[q].to.1, .int .i64 m, .int .i64 (-1)] 177)) gS (by simp; omega) (fun j hj => by have := (OB.lt j hj).1; omega))
              obtain ⟨v3p, v3c, rfl⟩ := owns_slice2 oS
              have O3 : Hid (w3.ownsRow w.heap.size 177 3 (.slice v3p (L2.length + 1) v3c) (L2 ++ [chU m bs[m].chs[q]]).length (siteCells (L2 ++ [chU m bs[m].chs[q]]))) := by
                show World.ownsRow _ _ _ _ _ _ _
                rw [siteCells_app, List.length_append]
                exact oS
              clear gS gB OB oS
              go_wp2_with fail
              go_roundw
              case rel => exact ⟨q + 1, L2 ++ [chU m bs[m].chs[q]], by omega, by go_num, by rw [HTW.out]; rfl, HL3, by rw [List.length_append, List.length_singleton]; omega, O3.out, F3⟩
              case measure => simp [intOf]; omega
        · have hqe : q = bs[m].chs.length := by omega
          have HL3 : Hid (L2 = L ++ bs[m].chs.map (chU m)) := by show _ = _; rw [HL2.out, hqe, List.take_length]
          clear hqe HL2 OC OS0
          go_wp2_with fail
          clear d0 d1
          go_loopw [4, 5, 9] (fun o a i wr => ∃ (k : Nat) (L4 : List Use), k ≤ bs[m].sts.length ∧ i = .int .i64 k ∧ a = .int .i64 (atO (twF L4)) ∧ Hid (L4 = L2 ++ (List.range k).flatMap (stU bs[m] m)) ∧ L4.length ≤ 3000000 * m + 1000000 + k ∧ wr.ownsRow w.heap.size 177 3 o L4.length (siteCells L4) ∧ Hid (Below w.heap.size w wr)) (fun _ _ i _ => bs[m].sts.length - (intOf i).toNat)
          case atStart => exact ⟨0, L2, by omega, rfl, rfl, by simp [Hid], by omega, OL2H.out, F2⟩
          case round =>
            obtain ⟨k, L4, hk, rfl, rfl, HL4, hl4, OL4, F4⟩ := hrel
            rename World => wC
            obtain ⟨pl4, cl4, rfl⟩ := owns_slice2 OL4
            have hz4 := F4.out.size
            have OL4H := stop OL4
            clear OL4
            obtain ⟨gv', qc, cc, ps, cs, hgv, _, _, _, OS, hc⟩ := (HB.out.keeps3 (Keeps.below F4.out)).at hlt
            cases hgv
            have d1 := hc 1 _ rfl
            clear hc
            by_cases hkl : k < bs[m].sts.length
            · obtain ⟨gs, rfl, _, _⟩ := owns_form OS (by omega)
              have t0 : wC.cell? ⟨gs, k * 8, none⟩ = some (.int .u8 bs[m].sts[k].op) := owns_cell OS (stepCells_at hkl (k := 0) (by omega))
              have t1 : wC.cell? ⟨gs, k * 8 + 1, none⟩ = some (.int .i64 bs[m].sts[k].to.1) := owns_cell OS (stepCells_at hkl (k := 1) (by omega))
              have t2 : wC.cell? ⟨gs, k * 8 + 2, none⟩ = some (.int .i64 bs[m].sts[k].to.2) := owns_cell OS (stepCells_at hkl (k := 2) (by omega))
              have t3 : wC.cell? ⟨gs, k * 8 + 3, none⟩ = some (.int .i64 bs[m].sts[k].a.1) := owns_cell OS (stepCells_at hkl (k := 3) (by omega))
              have t4 : wC.cell? ⟨gs, k * 8 + 4, none⟩ = some (.int .i64 bs[m].sts[k].a.2) := owns_cell OS (stepCells_at hkl (k := 4) (by omega))
              have t5 : wC.cell? ⟨gs, k * 8 + 5, none⟩ = some (.int .i64 bs[m].sts[k].b.1) := owns_cell OS (stepCells_at hkl (k := 5) (by omega))
              have t6 : wC.cell? ⟨gs, k * 8 + 6, none⟩ = some (.int .i64 bs[m].sts[k].b.2) := owns_cell OS (stepCells_at hkl (k := 6) (by omega))
              have t7 : wC.cell? ⟨gs, k * 8 + 7, none⟩ = some (.int .i64 bs[m].sts[k].n) := owns_cell OS (stepCells_at hkl (k := 7) (by omega))
              have OLW := stop (OL4H.out.alloc (.cells #[.int .u8 bs[m].sts[k].op, .int .i64 bs[m].sts[k].to.1, .int .i64 bs[m].sts[k].to.2, .int .i64 bs[m].sts[k].a.1, .int .i64 bs[m].sts[k].a.2, .int .i64 bs[m].sts[k].b.1, .int .i64 bs[m].sts[k].b.2, .int .i64 bs[m].sts[k].n] 163))
              have FW := stop (F4.out.alloc hz4 (.cells #[.int .u8 bs[m].sts[k].op, .int .i64 bs[m].sts[k].to.1, .int .i64 bs[m].sts[k].to.2, .int .i64 bs[m].sts[k].a.1, .int .i64 bs[m].sts[k].a.2, .int .i64 bs[m].sts[k].b.1, .int .i64 bs[m].sts[k].b.2, .int .i64 bs[m].sts[k].n] 163))
              have gW := heap_alloc_last wC (.cells #[.int .u8 bs[m].sts[k].op, .int .i64 bs[m].sts[k].to.1, .int .i64 bs[m].sts[k].to.2, .int .i64 bs[m].sts[k].a.1, .int .i64 bs[m].sts[k].a.2, .int .i64 bs[m].sts[k].b.1, .int .i64 bs[m].sts[k].b.2, .int .i64 bs[m].sts[k].n] 163)
              have sW : w.heap.size ≤ (wC.alloc (.cells #[.int .u8 bs[m].sts[k].op, .int .i64 bs[m].sts[k].to.1, .int .i64 bs[m].sts[k].to.2, .int .i64 bs[m].sts[k].a.1, .int .i64 bs[m].sts[k].a.2, .int .i64 bs[m].sts[k].b.1, .int .i64 bs[m].sts[k].b.2, .int .i64 bs[m].sts[k].n] 163)).heap.size := by rw [World.size_alloc]; omega
              clear OS
              by_cases h33 : bs[m].sts[k].op = 33
              · have HL5 : Hid (L4 = L2 ++ (List.range (k + 1)).flatMap (stU bs[m] m)) := by
                  show _ = _
                  rw [HL4.out, List.range_succ, List.flatMap_append]; simp [stU_put hkl h33]
                have hd : ((bs[m].sts[k].op : Int) == 33) = true := by simp; omega
                clear h33
                go_wp2_with fail
                go_roundw
                case rel => exact ⟨k + 1, L4, by omega, by go_num, rfl, HL5, by omega, OLW.out, FW⟩
                case measure => simp [intOf]; omega
              have HL5 : Hid (L4 ++ [(⟨bs[m].sts[k].to.1, bs[m].sts[k].to.2, m, k⟩ : Use)] = L2 ++ (List.range (k + 1)).flatMap (stU bs[m] m)) := by
                show _ = _
                rw [HL4.out, List.range_succ, List.flatMap_append, List.append_assoc]; simp [stU_give hkl h33]
              have hd : ((bs[m].sts[k].op : Int) == 33) = false := by simp; omega
              clear h33
              go_wp2_with fail
              generalize wC.alloc (.cells #[.int .u8 bs[m].sts[k].op, .int .i64 bs[m].sts[k].to.1, .int .i64 bs[m].sts[k].to.2, .int .i64 bs[m].sts[k].a.1, .int .i64 bs[m].sts[k].a.2, .int .i64 bs[m].sts[k].b.1, .int .i64 bs[m].sts[k].b.2, .int .i64 bs[m].sts[k].n] 163) = WB at *
              have k1 := cell_of gW 1
              have k2 := cell_of gW 2
              simp at k1 k2
              clear gW d1 t0 t1 t2 t3 t4 t5 t6 t7
              refine (whereR L4 bs[m].sts[k].to.1 w.heap.size _ WB OLW.out (by omega)).mono ?_
              rintro x w' ⟨rfl, hw'⟩
              rw [hw']
              clear hw' w'
              cases htw : twF L4 with
              | some x =>
                have HTW := stop (twF_some htw (⟨bs[m].sts[k].to.1, bs[m].sts[k].to.2, m, k⟩ : Use))
                by_cases hit : 0 ≤ whF L4 bs[m].sts[k].to.1
                · clear htw
                  generalize whF L4 bs[m].sts[k].to.1 = wv at *
                  simp only [atO]
                  go_wp2_with (at_builtin; refine unstop ?_)
                  refine stop ?_
                  have gB := heap_alloc_last WB (.cells #[.int .i64 bs[m].sts[k].to.1, .int .i64 m, .int .i64 k] 177)
                  have OB := OLW.out.alloc (.cells #[.int .i64 bs[m].sts[k].to.1, .int .i64 m, .int .i64 k] 177)
                  refine app1L Tryz.underlying111 Tryz.info177 rfl (by decide) (by decide) rfl _ _ rfl rfl OB gB rfl rfl (List.all_eq_true.1 rfl) (by omega) (by simp; omega) ?_
                  intro v3 w3 oS gS
                  have F3 := stop (Below.grown (FW.out.alloc (by omega) (.cells #[.int .i64 bs[m].sts[k].to.1, .int .i64 m, .int .i64 k] 177)) gS (by simp; omega) (fun j hj => by have := (OB.lt j hj).1; omega))
                  obtain ⟨v3p, v3c, rfl⟩ := owns_slice2 oS
                  have O3 : Hid (w3.ownsRow w.heap.size 177 3 (.slice v3p (L4.length + 1) v3c) (L4 ++ [(⟨bs[m].sts[k].to.1, bs[m].sts[k].to.2, m, k⟩ : Use)]).length (siteCells (L4 ++ [(⟨bs[m].sts[k].to.1, bs[m].sts[k].to.2, m, k⟩ : Use)]))) := by
                    show World.ownsRow _ _ _ _ _ _ _
                    rw [siteCells_app, List.length_append]
                    exact oS
                  clear gS gB OB oS
                  go_wp2_with fail
                  go_roundw
                  case rel => exact ⟨k + 1, L4 ++ [(⟨bs[m].sts[k].to.1, bs[m].sts[k].to.2, m, k⟩ : Use)], by omega, by go_num, by rw [HTW.out]; rfl, HL5, by rw [List.length_append, List.length_singleton]; omega, O3.out, F3⟩
                  case measure => simp [intOf]; omega
                · clear htw
                  generalize whF L4 bs[m].sts[k].to.1 = wv at *
                  simp only [atO]
                  go_wp2_with (at_builtin; refine unstop ?_)
                  refine stop ?_
                  have gB := heap_alloc_last WB (.cells #[.int .i64 bs[m].sts[k].to.1, .int .i64 m, .int .i64 k] 177)
                  have OB := OLW.out.alloc (.cells #[.int .i64 bs[m].sts[k].to.1, .int .i64 m, .int .i64 k] 177)
                  refine app1L Tryz.underlying111 Tryz.info177 rfl (by decide) (by decide) rfl _ _ rfl rfl OB gB rfl rfl (List.all_eq_true.1 rfl) (by omega) (by simp; omega) ?_
                  intro v3 w3 oS gS
                  have F3 := stop (Below.grown (FW.out.alloc (by omega) (.cells #[.int .i64 bs[m].sts[k].to.1, .int .i64 m, .int .i64 k] 177)) gS (by simp; omega) (fun j hj => by have := (OB.lt j hj).1; omega))
                  obtain ⟨v3p, v3c, rfl⟩ := owns_slice2 oS
                  have O3 : Hid (w3.ownsRow w.heap.size 177 3 (.slice v3p (L4.length + 1) v3c) (L4 ++ [(⟨bs[m].sts[k].to.1, bs[m].sts[k].to.2, m, k⟩ : Use)]).length (siteCells (L4 ++ [(⟨bs[m].sts[k].to.1, bs[m].sts[k].to.2, m, k⟩ : Use)]))) := by
                    show World.ownsRow _ _ _ _ _ _ _
                    rw [siteCells_app, List.length_append]
                    exact oS
                  clear gS gB OB oS
                  go_wp2_with fail
                  go_roundw
                  case rel => exact ⟨k + 1, L4 ++ [(⟨bs[m].sts[k].to.1, bs[m].sts[k].to.2, m, k⟩ : Use)], by omega, by go_num, by rw [HTW.out]; rfl, HL5, by rw [List.length_append, List.length_singleton]; omega, O3.out, F3⟩
                  case measure => simp [intOf]; omega
              | none =>
                by_cases hit : 0 ≤ whF L4 bs[m].sts[k].to.1
                · have HTW := stop (twF_hit (u := (⟨bs[m].sts[k].to.1, bs[m].sts[k].to.2, m, k⟩ : Use)) htw (whF_mem.1 hit))
                  clear htw
                  generalize whF L4 bs[m].sts[k].to.1 = wv at *
                  simp only [atO]
                  go_wp2_with (at_builtin; refine unstop ?_)
                  refine stop ?_
                  have gB := heap_alloc_last WB (.cells #[.int .i64 bs[m].sts[k].to.1, .int .i64 m, .int .i64 k] 177)
                  have OB := OLW.out.alloc (.cells #[.int .i64 bs[m].sts[k].to.1, .int .i64 m, .int .i64 k] 177)
                  refine app1L Tryz.underlying111 Tryz.info177 rfl (by decide) (by decide) rfl _ _ rfl rfl OB gB rfl rfl (List.all_eq_true.1 rfl) (by omega) (by simp; omega) ?_
                  intro v3 w3 oS gS
                  have F3 := stop (Below.grown (FW.out.alloc (by omega) (.cells #[.int .i64 bs[m].sts[k].to.1, .int .i64 m, .int .i64 k] 177)) gS (by simp; omega) (fun j hj => by have := (OB.lt j hj).1; omega))
                  obtain ⟨v3p, v3c, rfl⟩ := owns_slice2 oS
                  have O3 : Hid (w3.ownsRow w.heap.size 177 3 (.slice v3p (L4.length + 1) v3c) (L4 ++ [(⟨bs[m].sts[k].to.1, bs[m].sts[k].to.2, m, k⟩ : Use)]).length (siteCells (L4 ++ [(⟨bs[m].sts[k].to.1, bs[m].sts[k].to.2, m, k⟩ : Use)]))) := by
                    show World.ownsRow _ _ _ _ _ _ _
                    rw [siteCells_app, List.length_append]
                    exact oS
                  clear gS gB OB oS
                  go_wp2_with fail
                  go_roundw
                  case rel => exact ⟨k + 1, L4 ++ [(⟨bs[m].sts[k].to.1, bs[m].sts[k].to.2, m, k⟩ : Use)], by omega, by go_num, by rw [HTW.out]; rfl, HL5, by rw [List.length_append, List.length_singleton]; omega, O3.out, F3⟩
                  case measure => simp [intOf]; omega
                · have HTW := stop (twF_no (u := (⟨bs[m].sts[k].to.1, bs[m].sts[k].to.2, m, k⟩ : Use)) htw (fun h => hit (whF_mem.2 h)))
                  clear htw
                  generalize whF L4 bs[m].sts[k].to.1 = wv at *
                  simp only [atO]
                  go_wp2_with (at_builtin; refine unstop ?_)
                  refine stop ?_
                  have gB := heap_alloc_last WB (.cells #[.int .i64 bs[m].sts[k].to.1, .int .i64 m, .int .i64 k] 177)
                  have OB := OLW.out.alloc (.cells #[.int .i64 bs[m].sts[k].to.1, .int .i64 m, .int .i64 k] 177)
                  refine app1L Tryz.underlying111 Tryz.info177 rfl (by decide) (by decide) rfl _ _ rfl rfl OB gB rfl rfl (List.all_eq_true.1 rfl) (by omega) (by simp; omega) ?_
                  intro v3 w3 oS gS
                  have F3 := stop (Below.grown (FW.out.alloc (by omega) (.cells #[.int .i64 bs[m].sts[k].to.1, .int .i64 m, .int .i64 k] 177)) gS (by simp; omega) (fun j hj => by have := (OB.lt j hj).1; omega))
                  obtain ⟨v3p, v3c, rfl⟩ := owns_slice2 oS
                  have O3 : Hid (w3.ownsRow w.heap.size 177 3 (.slice v3p (L4.length + 1) v3c) (L4 ++ [(⟨bs[m].sts[k].to.1, bs[m].sts[k].to.2, m, k⟩ : Use)]).length (siteCells (L4 ++ [(⟨bs[m].sts[k].to.1, bs[m].sts[k].to.2, m, k⟩ : Use)]))) := by
                    show World.ownsRow _ _ _ _ _ _ _
                    rw [siteCells_app, List.length_append]
                    exact oS
                  clear gS gB OB oS
                  go_wp2_with fail
                  go_roundw
                  case rel => exact ⟨k + 1, L4 ++ [(⟨bs[m].sts[k].to.1, bs[m].sts[k].to.2, m, k⟩ : Use)], by omega, by go_num, by rw [HTW.out]; rfl, HL5, by rw [List.length_append, List.length_singleton]; omega, O3.out, F3⟩
                  case measure => simp [intOf]; omega
            · have hke : k = bs[m].sts.length := by omega
              have HL6 : Hid (L4 = gvUp bs (m + 1)) := by
                show _ = _
                rw [HL4.out, hke, HL3.out, HL.out, gvUp_next, gvBk, HBK.out, List.append_assoc]
              clear hke HL4 OS
              go_wp2_with fail
              go_roundw
              case rel => exact ⟨m + 1, L4, by omega, by go_num, rfl, HL6, by omega, OL4H.out, F4⟩
              case measure => simp [intOf]; omega
    · have hme : m = bs.length := by omega
      have HLE : Hid (L = gvU bs) := by show _ = _; rw [HL.out, hme]; rfl
      clear hme HL
      go_wp2_with fail
      go_ret2
      exact ⟨_, by rw [← HLE.out]; rfl, by rw [← HLE.out]; exact OLH.out, by rw [← HLE.out]; omega, F.out⟩

end Go.Proofs.YtgfhfkgdmidhpaaGreat
