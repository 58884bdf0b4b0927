import Derived.Test.YtgfhfkgdmidhpaaGreatG21
import Derived.Test.YtgfhfkgdmidhpaaGreatG05
import Derived.Test.YtgfhfkgdmidhpaaGreatG23
namespace Go.Proofs.YtgfhfkgdmidhpaaGreat
open Go.RowKit

/-- A row of truth values. -/
def bcell (n : Nat) (f : Nat → Bool) : List Value := (List.range n).map fun j => Value.bool (f j)
theorem bcell_len (n f) : (bcell n f).length = n := by simp [bcell]
theorem bcell_at {n : Nat} {f : Nat → Bool} {j : Nat} (hj : j < n) : (bcell n f)[j]? = some (.bool (f j)) := by simp [bcell, hj]
theorem bcell_set {n : Nat} {f g : Nat → Bool} {k : Nat} (hg : ∀ j, j < n → g j = (f j || j == k)) : (bcell n f).set k (.bool true) = bcell n g := by
  apply List.ext_getElem?
  intro j
  rw [List.getElem?_set]
  by_cases hj : j < n
  · rw [bcell_at hj, bcell_at hj, hg j hj, bcell_len]
    by_cases e : k = j
    · subst e; simp [hj]
    · have : (j == k) = false := by simp; omega
      simp [e, this]
  · have h1 : (bcell n f)[j]? = none := List.getElem?_eq_none (by rw [bcell_len]; omega)
    have h2 : (bcell n g)[j]? = none := List.getElem?_eq_none (by rw [bcell_len]; omega)
    rw [h1, h2, bcell_len]
    by_cases e : k = j
    · subst e; simp [hj]
    · simp [e]
theorem bcell_congr {n : Nat} {f g : Nat → Bool} (h : ∀ j, j < n → f j = g j) : bcell n f = bcell n g := List.map_congr_left fun j hj => by rw [h j (by simpa using hj)]
theorem bcell_rep (n : Nat) : bcell n (fun _ => false) = List.replicate n (.bool false) := by
  apply List.ext_getElem (by simp [bcell])
  intro i h1 h2
  simp [bcell]
def barW (wo : Int) (j : Nat) : Bool := decide ((j : Int) = wo)
theorem barW_no : barW (-1) = noB := by funext j; simp [barW, noB]
theorem barW_is (a : Nat) : barW (a : Int) = isB a := by funext j; rw [Bool.eq_iff_iff]; simp [barW, isB]; omega
/-- The blocks behind, as the reference lists them. -/
def toR (e : REnd) : List Nat := behF (goalsF e)
theorem toR_mem {e x} : x ∈ toR e ↔ x ∈ bhd e := by
  rw [bhd_mem, toR]
  have hle := goalsF_le e
  generalize goalsF e = gl at *
  match gl, hle with
  | [], _ => simp [behF]
  | [p], _ => simp [behF]; exact eq_comm
  | [p, q], _ =>
    simp only [behF]
    by_cases h : q.1 = p.1
    · rw [if_pos h]; simp [h]; exact eq_comm
    · rw [if_neg h]; simp [eq_comm]
theorem toR_len (e) : (toR e).length ≤ 2 := by
  have hle := goalsF_le e
  unfold toR
  generalize goalsF e = gl at *
  match gl, hle with
  | [], _ => simp [behF]
  | [p], _ => simp [behF]
  | [p, q], _ => simp only [behF]; split <;> simp
def markTo (bar f : Nat → Bool) (to : List Nat) (q : Nat) : Nat → Bool := fun j => f j || ((to.take q).contains j && !bar j)
theorem markTo_all {bs : List RBlk} {bar f : Nat → Bool} {i : Nat} (hi : i < bs.length) (hf : f i = true) : markTo bar f (toR bs[i].e) (toR bs[i].e).length = rnd1 (suF bs) bar f i := by
  funext j
  rw [rnd1, if_pos hf, markTo, mark, List.take_length, suF_at hi]
  have : (toR bs[i].e).contains j = (bhd bs[i].e).contains j := by rw [Bool.eq_iff_iff, List.contains_iff_mem, List.contains_iff_mem, toR_mem]
  rw [this]
theorem markTo_hit {bar f : Nat → Bool} {to : List Nat} {q : Nat} (hq : q < to.length) (hb : bar to[q] = false) (j : Nat) : markTo bar f to (q + 1) j = (markTo bar f to q j || j == to[q]) := by
  rw [markTo, markTo, List.take_succ_eq_append_getElem hq]
  rw [Bool.eq_iff_iff]
  simp only [Bool.or_eq_true, Bool.and_eq_true, List.contains_iff_mem, List.mem_append, List.mem_singleton, Bool.not_eq_true', beq_iff_eq]
  constructor
  · rintro (h | ⟨h | h, h2⟩)
    · exact .inl (.inl h)
    · exact .inl (.inr ⟨h, h2⟩)
    · exact .inr h
  · rintro ((h | h) | h)
    · exact .inl h
    · exact .inr ⟨.inl h.1, h.2⟩
    · exact .inr ⟨.inr h, by rw [h]; exact hb⟩
theorem markTo_miss {bar f : Nat → Bool} {to : List Nat} {q : Nat} (hq : q < to.length) (hb : bar to[q] = true) (j : Nat) : markTo bar f to (q + 1) j = markTo bar f to q j := by
  rw [markTo, markTo, List.take_succ_eq_append_getElem hq]
  rw [Bool.eq_iff_iff]
  simp only [Bool.or_eq_true, Bool.and_eq_true, List.contains_iff_mem, List.mem_append, List.mem_singleton, Bool.not_eq_true']
  constructor
  · rintro (h | ⟨h | h, h2⟩)
    · exact .inl h
    · exact .inr ⟨h, h2⟩
    · rw [h, hb] at h2; cases h2
  · rintro (h | h)
    · exact .inl h
    · exact .inr ⟨.inl h.1, h.2⟩
theorem Tryz.info4 : (Tryz.prog.info? 4).map (fun i => (i.zero, i.size, i.bytes)) = some (some (.bool false), 1, 1) := by kernel_rfl

set_option maxRecDepth 100000 in
set_option maxHeartbeats 4000000 in
theorem reachR (bs : List RBlk) (wo : Int) (base : Nat) (v : Value) (w : World) (h : BlksOwn w base bs v) (hgl : Hid (∀ b ∈ bs, ∀ p ∈ goalsF b.e, p.1 < bs.length)) (hn0 : 0 < bs.length) (hn : bs.length ≤ 1000) :
    Calls Tryz.prog 45 #[v, .int .i64 wo] w fun x w' => ∃ v', x = .returned v' ∧ w'.ownsRow w.heap.size 4 1 v' bs.length (bcell bs.length (rchF (suF bs) bs.length (barW wo))) ∧ Below w.heap.size w w' := by
  obtain ⟨pv, cv, rfl⟩ := h.slice
  have HB := stop h
  clear h
  obtain ⟨I9, Hi9, Hz9, Hs9, Hb9⟩ := info_parts Tryz.info4
  go_enter Tryz.func45, Tryz.ntmps45
  go_wp2_with (at_make; refine unstop ?_)
  refine stop ?_
  refine wpList_make_full _ rfl _ _ 93 rfl w.heap.size 4 I9 (.bool false) 1 Tryz.underlying93 Hi9 Hz9 Hs9 .i64 .i64 _ _ bs.length rfl rfl rfl rfl (by rw [Hb9]; omega) (by unfold maxLen; omega) (Nat.le_refl _) ?_
  intro w1 o1 g1
  rw [made_one _ rfl, ← bcell_rep] at o1
  have F1 := stop (Below.grown (Below.refl w.heap.size w) g1 (Nat.le_refl _) (fun k hk => by cases hk))
  clear g1 Hi9 Hz9 Hs9 Hb9
  by_cases hwo : wo = 0
  · subst hwo
    have HC : Hid (bcell bs.length (rchF (suF bs) bs.length (barW 0)) = bcell bs.length (fun _ => false)) := bcell_congr fun j _ => by simp [rchF, barW]
    have O1 := stop o1
    clear o1
    go_wp2_with fail
    go_ret
    exact ⟨_, rfl, by rw [HC.out]; exact O1.out, F1.out⟩
  · have hd : (wo == 0) = false := by simpa using hwo
    have c0 := owns_cell o1 (bcell_at hn0)
    have cf := owns_fz o1 0
    have o2 := owns_store o1 0 (.bool true)
    rw [bcell_set (g := start0) (fun j _ => by simp [start0])] at o2
    have B0 : Hid ((w1.setCell ⟨w.heap.size, 0, none⟩ (.bool true)).ownsRow w.heap.size 4 1 (.slice (some ⟨w.heap.size, 0, none⟩) bs.length bs.length) bs.length (bcell bs.length (rnds (suF bs) (barW wo) bs.length start0 0)) ∧ Below w.heap.size w (w1.setCell ⟨w.heap.size, 0, none⟩ (.bool true))) := ⟨o2, below_set F1.out _ _ _ (Nat.le_refl _)⟩
    clear o1 o2 F1
    go_wp2_with fail
    go_loopw [6] (fun i wr => ∃ r : Nat, r ≤ bs.length ∧ i = .int .i64 r ∧ Hid (wr.ownsRow w.heap.size 4 1 (.slice (some ⟨w.heap.size, 0, none⟩) bs.length bs.length) bs.length (bcell bs.length (rnds (suF bs) (barW wo) bs.length start0 r)) ∧ Below w.heap.size w wr)) (fun i _ => bs.length - (intOf i).toNat)
    case atStart => exact ⟨0, by omega, rfl, B0⟩
    case round =>
      clear B0 c0 cf
      obtain ⟨r, hr, rfl, HR⟩ := hrel
      by_cases hrl : r < bs.length
      · go_wp2_with fail
        go_loopw [7] (fun i wr2 => ∃ m : Nat, m ≤ bs.length ∧ i = .int .i64 m ∧ Hid (wr2.ownsRow w.heap.size 4 1 (.slice (some ⟨w.heap.size, 0, none⟩) bs.length bs.length) bs.length (bcell bs.length (rndTo (suF bs) (barW wo) (rnds (suF bs) (barW wo) bs.length start0 r) m)) ∧ Below w.heap.size w wr2)) (fun i _ => bs.length - (intOf i).toNat)
        case atStart => exact ⟨0, by omega, rfl, HR⟩
        case round =>
          clear HR
          obtain ⟨m, hm, rfl, HR2⟩ := hrel
          by_cases hml : m < bs.length
          · have hB := HB.out.keeps3 (Keeps.below HR2.out.2)
            obtain ⟨g, qc, cc, ps, cs, rfl, _, _, _, _, hc⟩ := hB.at hml
            have d0 : wr.cell? ⟨g, m * 10, none⟩ = _ := hc 0 _ rfl
            have d1 := hc 1 _ rfl
            have d2 := hc 2 _ rfl
            have d3 := hc 3 _ rfl
            have d4 := hc 4 _ rfl
            have d5 := hc 5 _ rfl
            have d6 := hc 6 _ rfl
            have d7 := hc 7 _ rfl
            have d8 := hc 8 _ rfl
            have d9 := hc 9 _ rfl
            have HTM := stop (markTo_all (bs := bs) (bar := barW wo) (f := rndTo (suF bs) (barW wo) (rnds (suF bs) (barW wo) bs.length start0 r) m) hml)
            have HNE : Hid (rndTo (suF bs) (barW wo) (rnds (suF bs) (barW wo) bs.length start0 r) (m + 1) = rnd1 (suF bs) (barW wo) (rndTo (suF bs) (barW wo) (rnds (suF bs) (barW wo) bs.length start0 r) m) m) := rfl
            have HTL : Hid (∀ x ∈ toR bs[m].e, x < bs.length) := fun x hx => suF_lt hgl.out m x (by rw [suF_at hml]; exact toR_mem.1 hx)
            obtain ⟨f, hf⟩ : ∃ f, f = rndTo (suF bs) (barW wo) (rnds (suF bs) (barW wo) bs.length start0 r) m := ⟨_, rfl⟩
            rw [← hf] at HTM HNE HR2
            clear hc hB hf
            go_wp2_with fail
            refine (behind_any qc _ cc ps _ cs bs[m].e _ _).mono ?_
            rintro x w2 ⟨vt, rfl, OT, f2⟩
            have hz2 := f2.size
            have hz1 := HR2.out.2.size
            have htl := toR_len bs[m].e
            have OT2 : w2.ownsRow wr.heap.size 3 1 vt (toR bs[m].e).length (icell (toR bs[m].e)) := OT
            generalize toR bs[m].e = to at *
            obtain ⟨pt, ct, rfl⟩ := owns_slice2 OT2
            have H3 : Hid (w2.ownsRow w.heap.size 4 1 (.slice (some ⟨w.heap.size, 0, none⟩) bs.length bs.length) bs.length (bcell bs.length f) ∧ w2.ownsRow w.heap.size 3 1 (.slice pt to.length ct) to.length (icell to) ∧ Below w.heap.size w w2) := ⟨owns_keeps HR2.out.1 (Keeps.below (T := fun _ => True) f2) trivial, owns_base OT2 hz1, HR2.out.2.trans (f2.mono hz1)⟩
            clear OT OT2 f2 d0 d1 d2 d3 d4 d5 d6 d7 d8 d9 HR2
            go_wp2_with fail
            cases hfm : f m with
            | false =>
              have HF : Hid (rnd1 (suF bs) (barW wo) f m = f) := by show _ = _; rw [rnd1, hfm]; rfl
              go_loopw [9] (fun k wr3 => k = .int .i64 0 ∧ Hid (wr3.ownsRow w.heap.size 4 1 (.slice (some ⟨w.heap.size, 0, none⟩) bs.length bs.length) bs.length (bcell bs.length f) ∧ Below w.heap.size w wr3)) (fun _ _ => 0)
              case atStart => exact ⟨rfl, H3.out.1, H3.out.2.2⟩
              case round =>
                clear H3
                obtain ⟨rfl, HR3⟩ := hrel
                have cm := owns_cell HR3.out.1 (bcell_at hml)
                rw [hfm] at cm
                clear hfm
                by_cases h0 : to.length = 0
                · have hd0 : decide ((0 : Int) < (to.length : Int)) = false := by simp [h0]
                  go_wp2_with fail
                  go_roundw
                  case rel => exact ⟨m + 1, by omega, by go_num, by rw [HNE.out, HF.out]; exact HR3⟩
                  case measure => simp [intOf]; omega
                · have hd0 : decide ((0 : Int) < (to.length : Int)) = true := by simp; omega
                  go_wp2_with fail
                  go_roundw
                  case rel => exact ⟨m + 1, by omega, by go_num, by rw [HNE.out, HF.out]; exact HR3⟩
                  case measure => simp [intOf]; omega
            | true =>
              have HF := stop (HTM.out hfm)
              go_loopw [9] (fun k wr3 => ∃ q : Nat, q ≤ to.length ∧ k = .int .i64 q ∧ Hid (wr3.ownsRow w.heap.size 4 1 (.slice (some ⟨w.heap.size, 0, none⟩) bs.length bs.length) bs.length (bcell bs.length (markTo (barW wo) f to q)) ∧ wr3.ownsRow w.heap.size 3 1 (.slice pt to.length ct) to.length (icell to) ∧ Below w.heap.size w wr3)) (fun k _ => to.length - (intOf k).toNat)
              case atStart => exact ⟨0, by omega, rfl, by rw [bcell_congr (g := f) (fun j _ => by simp [markTo])]; exact H3.out.1, H3.out.2⟩
              case round =>
                clear H3
                obtain ⟨q, hq, rfl, HR3⟩ := hrel
                by_cases hql : q < to.length
                · have cm := owns_cell HR3.out.1 (bcell_at hml)
                  have hmm : markTo (barW wo) f to q m = true := by simp [markTo, hfm]
                  rw [hmm] at cm
                  obtain ⟨gt, rfl, _, _⟩ := owns_form HR3.out.2.1 (by omega)
                  have ct0 := owns_cell HR3.out.2.1 (icell_at hql)
                  have htq := HTL.out _ (List.getElem_mem hql)
                  have cq := owns_cell HR3.out.1 (bcell_at (f := markTo (barW wo) f to q) htq)
                  have cqf := owns_fz HR3.out.1 to[q]
                  clear hfm hmm
                  by_cases hbq : barW wo to[q] = true
                  · have hd1 : ((to[q] : Int) != wo) = false := by simpa [barW] using hbq
                    have HM := stop (bcell_congr (n := bs.length) (fun j _ => markTo_miss (f := f) hql hbq j))
                    clear hbq
                    go_wp2_with fail
                    go_roundw
                    case rel => exact ⟨q + 1, by omega, by go_num, by rw [HM.out]; exact HR3.out.1, HR3.out.2⟩
                    case measure => simp [intOf]; omega
                  · have hbq' : barW wo to[q] = false := by simpa using hbq
                    have hd1 : ((to[q] : Int) != wo) = true := by simpa [barW] using hbq'
                    have HM : Hid ((wr.setCell ⟨w.heap.size, to[q], none⟩ (.bool true)).ownsRow w.heap.size 4 1 (.slice (some ⟨w.heap.size, 0, none⟩) bs.length bs.length) bs.length (bcell bs.length (markTo (barW wo) f to (q + 1))) ∧ (wr.setCell ⟨w.heap.size, to[q], none⟩ (.bool true)).ownsRow w.heap.size 3 1 (.slice (some ⟨gt, 0, none⟩) to.length ct) to.length (icell to) ∧ Below w.heap.size w (wr.setCell ⟨w.heap.size, to[q], none⟩ (.bool true))) := by
                      refine ⟨?_, ?_, below_set HR3.out.2.2 _ _ _ (Nat.le_refl _)⟩
                      · have := owns_store HR3.out.1 to[q] (.bool true)
                        rwa [bcell_set (fun j _ => markTo_hit (f := f) hql hbq' j)] at this
                      · rcases HR3.out.1.2 with ⟨h0, _⟩ | ⟨g', cap', cur', hv, _, hc', _⟩
                        · cases h0
                        · cases hv; exact owns_setT HR3.out.2.1 hc' (by decide)
                    clear hbq hbq'
                    go_wp2_with fail
                    go_roundw
                    case rel => exact ⟨q + 1, by omega, by go_num, HM⟩
                    case measure => simp [intOf]; omega
                · have hqe : q = to.length := by omega
                  subst hqe
                  have HR4 : Hid (wr.ownsRow w.heap.size 4 1 (.slice (some ⟨w.heap.size, 0, none⟩) bs.length bs.length) bs.length (bcell bs.length (rndTo (suF bs) (barW wo) (rnds (suF bs) (barW wo) bs.length start0 r) (m + 1))) ∧ Below w.heap.size w wr) := ⟨by rw [HNE.out, ← HF.out]; exact HR3.out.1, HR3.out.2.2⟩
                  clear hfm
                  go_wp2_with fail
                  go_roundw
                  case rel => exact ⟨m + 1, by omega, by go_num, HR4⟩
                  case measure => simp [intOf]; omega
          · have hme : m = bs.length := by omega
            subst hme
            have HR4 : Hid (wr.ownsRow w.heap.size 4 1 (.slice (some ⟨w.heap.size, 0, none⟩) bs.length bs.length) bs.length (bcell bs.length (rnds (suF bs) (barW wo) bs.length start0 (r + 1))) ∧ Below w.heap.size w wr) := HR2
            go_wp2_with fail
            go_roundw
            case rel => exact ⟨r + 1, by omega, by go_num, HR4⟩
            case measure => simp [intOf]; omega
      · have hre : r = bs.length := by omega
        subst hre
        have HC : Hid (bcell bs.length (rchF (suF bs) bs.length (barW wo)) = bcell bs.length (rnds (suF bs) (barW wo) bs.length start0 bs.length)) := bcell_congr fun j _ => by
          have : barW wo 0 = false := by simp [barW]; omega
          rw [rchF, this]; rfl
        go_wp2_with fail
        go_ret
        exact ⟨_, rfl, by rw [HC.out]; exact HR.out.1, HR.out.2⟩

end Go.Proofs.YtgfhfkgdmidhpaaGreat

namespace Go.Proofs.YtgfhfkgdmidhpaaGreat
open Go.RowKit

set_option maxRecDepth 100000 in
set_option maxHeartbeats 2000000 in
theorem overR (bs : List RBlk) (a b : Nat) (base : Nat) (v : Value) (w : World) (h : BlksOwn w base bs v) (hgl : Hid (∀ b ∈ bs, ∀ p ∈ goalsF b.e, p.1 < bs.length)) (hb : b < bs.length) (hn : bs.length ≤ 1000) :
    Calls Tryz.prog 46 #[v, .int .i64 a, .int .i64 b] w fun x w' => x = .returned (.bool (overF (suF bs) bs.length a b)) ∧ Below w.heap.size w w' := by
  have HB := stop h
  obtain ⟨pv, cv, rfl⟩ := h.slice
  clear h
  go_enter Tryz.func46, Tryz.ntmps46
  go_wp2_with fail
  refine (reachR bs (-1) base _ w HB.out hgl (by omega) hn).mono ?_
  rintro x w1 ⟨v1, rfl, o1, f1⟩
  rw [barW_no] at o1
  have s1 := f1.size
  obtain ⟨p1, c1, rfl⟩ := owns_slice2 o1
  have O1 := stop (And.intro o1 f1)
  clear o1 f1
  go_wp2_with fail
  refine (reachR bs (a : Int) base _ w1 (HB.out.keeps3 (Keeps.below O1.out.2)) hgl (by omega) hn).mono ?_
  rintro x w2 ⟨v2, rfl, o2, f2⟩
  rw [barW_is] at o2
  have o1 := owns_keeps O1.out.1 (Keeps.below (T := fun _ => True) f2) trivial
  have F2 := stop (O1.out.2.trans (f2.mono s1))
  obtain ⟨p2, c2, rfl⟩ := owns_slice2 o2
  obtain ⟨g1, rfl, _, _⟩ := owns_form o1 (by omega)
  obtain ⟨g2, rfl, _, _⟩ := owns_form o2 (by omega)
  have k1 := owns_cell o1 (bcell_at hb)
  have k2 := owns_cell o2 (bcell_at hb)
  clear o1 o2 f2 O1
  have HO : Hid (overF (suF bs) bs.length a b = (rchF (suF bs) bs.length noB b && !rchF (suF bs) bs.length (isB a) b)) := rfl
  cases hr : rchF (suF bs) bs.length noB b with
  | false =>
    rw [hr] at k1
    have HO2 : Hid (overF (suF bs) bs.length a b = false) := by show _ = _; rw [HO.out, hr]; rfl
    clear hr HO
    go_wp2_with fail
    go_ret
    exact ⟨by rw [HO2.out]; rfl, F2.out⟩
  | true =>
    rw [hr] at k1
    have HO2 : Hid (overF (suF bs) bs.length a b = !rchF (suF bs) bs.length (isB a) b) := by show _ = _; rw [HO.out, hr]; rfl
    clear hr HO
    go_wp2_with fail
    go_ret
    exact ⟨by rw [HO2.out]; rfl, F2.out⟩

def lastTo (su : Nat → List Nat) (n b a c : Nat) : Bool := othB su n b a && (List.range c).all fun d => !othB su n b d || overF su n d a
theorem lastTo_all (su n b a) : lastTo su n b a n = lastB su n b a := rfl
theorem lastTo_succ (su n b a c) : lastTo su n b a (c + 1) = (lastTo su n b a c && (!othB su n b c || overF su n c a)) := by
  rw [lastTo, lastTo, List.range_succ, List.all_append, Bool.and_assoc]; simp
theorem lastTo_no {su n b a c} (hc : c ≤ n) (h : lastTo su n b a c = false) : lastB su n b a = false := by
  cases h2 : lastB su n b a with
  | false => rfl
  | true =>
    exfalso
    rw [lastB, Bool.and_eq_true, List.all_eq_true] at h2
    have : lastTo su n b a c = true := by
      rw [lastTo, Bool.and_eq_true, List.all_eq_true]
      exact ⟨h2.1, fun d hd => h2.2 d (by simp at hd ⊢; omega)⟩
    rw [this] at h; cases h

set_option maxRecDepth 100000 in
set_option maxHeartbeats 1500000 in
theorem keeperR (bs : List RBlk) (b : Nat) (base : Nat) (v : Value) (w : World) (h : BlksOwn w base bs v) (hgl : Hid (∀ b ∈ bs, ∀ p ∈ goalsF b.e, p.1 < bs.length)) (hb : b < bs.length) (hn : bs.length ≤ 1000) :
    Calls Tryz.prog 27 #[v, .int .i64 b] w fun x w' => x = .returned (.int .i64 (kprF (suF bs) bs.length b)) ∧ Below w.heap.size w w' := by
  have HB := stop h
  obtain ⟨pv, cv, rfl⟩ := h.slice
  clear h
  go_enter Tryz.func27, Tryz.ntmps27
  go_wp2_with fail
  refine (reachR bs (-1) base _ w HB.out hgl (by omega) hn).mono ?_
  rintro x w1 ⟨v1, rfl, o1, f1⟩
  rw [barW_no] at o1
  have s1 := f1.size
  obtain ⟨p1, c1, rfl⟩ := owns_slice2 o1
  obtain ⟨g1, rfl, _, _⟩ := owns_form o1 (by omega)
  have k1 := owns_cell o1 (bcell_at hb)
  have F1 := stop f1
  clear o1 f1
  cases hr : rchF (suF bs) bs.length noB b with
  | false =>
    rw [hr] at k1
    have HF : Hid (kprF (suF bs) bs.length b = -2) := by show _ = _; rw [kprF, hr]; rfl
    clear hr
    go_wp2_with fail
    go_ret
    exact ⟨by rw [HF.out]; rfl, F1.out⟩
  | true =>
    rw [hr] at k1
    have HKF : Hid (kprF (suF bs) bs.length b = (match kprO (suF bs) bs.length b with | some a => (a : Int) | none => -1)) := by show _ = _; rw [kprF, hr, if_pos rfl]; cases kprO (suF bs) bs.length b <;> rfl
    clear hr
    go_wp2_with fail
    clear k1
    go_loopw [6] (fun i wr => ∃ a : Nat, a ≤ bs.length ∧ i = .int .i64 a ∧ Hid (∀ j, j < a → lastB (suF bs) bs.length b j = false) ∧ Hid (Below w.heap.size w wr)) (fun i _ => bs.length - (intOf i).toNat)
    case atStart => exact ⟨0, by omega, rfl, fun j hj => by omega, F1⟩
    case round =>
      clear F1
      obtain ⟨a, ha, rfl, HN, F⟩ := hrel
      by_cases hlt : a < bs.length
      · by_cases hab : a = b
        · have HL0 : Hid (lastTo (suF bs) bs.length b a 0 = false) := by show _ = _; simp [lastTo, othB, hab]
          have hd : ((a : Int) != (b : Int)) = false := by simp [hab]
          clear hab
          go_wp2_with fail
          clear hd
          go_loopw [8, 9] (fun l k wr2 => ∃ c : Nat, c ≤ bs.length ∧ k = .int .i64 c ∧ l = .bool (lastTo (suF bs) bs.length b a c) ∧ Hid (Below w.heap.size w wr2)) (fun _ k _ => bs.length - (intOf k).toNat)
          case atStart => exact ⟨0, by omega, rfl, by rw [HL0.out], F⟩
          case round =>
            clear F
            obtain ⟨c, hc, rfl, rfl, F⟩ := hrel
            have HBL := stop (HB.out.keeps3 (Keeps.below F.out))
            have hz := F.out.size
            by_cases hcl : c < bs.length
            · cases hl : lastTo (suF bs) bs.length b a c with
              | false =>
                have HN2 : Hid (∀ j, j < a + 1 → lastB (suF bs) bs.length b j = false) := fun j hj => by
                  by_cases e : j = a
                  · subst e; exact lastTo_no hc hl
                  · exact HN.out j (by omega)
                clear hl
                go_wp2_with fail
                go_roundw
                case rel => exact ⟨a + 1, by omega, by go_num, HN2, F⟩
                case measure => simp [intOf]; omega
              | true =>
                have HS := lastTo_succ (suF bs) bs.length b a c
                rw [hl, Bool.true_and] at HS
                clear hl
                by_cases hcb : c = b
                · have ho : othB (suF bs) bs.length b c = false := by simp [othB, hcb]
                  rw [ho] at HS
                  have HS' := stop HS
                  have hd : ((c : Int) != (b : Int)) = false := by simp [hcb]
                  clear HS ho hcb
                  go_wp2_with fail
                  go_roundw
                  case rel => exact ⟨c + 1, by omega, by go_num, by rw [HS'.out]; rfl, F⟩
                  case measure => simp [intOf]; omega
                · have hd : ((c : Int) != (b : Int)) = true := by simp; omega
                  have ho : othB (suF bs) bs.length b c = overF (suF bs) bs.length c b := by simp [othB, hcb]
                  rw [ho] at HS
                  have HS' := stop HS
                  clear HS ho
                  go_wp2_with fail
                  refine (overR bs c b base _ wr HBL.out hgl hb hn).mono ?_
                  rintro x w5 ⟨rfl, f5⟩
                  have s5 := f5.size
                  have F5 := stop (F.out.trans (f5.mono hz))
                  clear f5
                  cases h1 : overF (suF bs) bs.length c b with
                  | false =>
                    have HS2 : Hid (lastTo (suF bs) bs.length b a (c + 1) = true) := by show _ = _; rw [HS'.out, h1]; rfl
                    clear h1
                    go_wp2_with fail
                    go_roundw
                    case rel => exact ⟨c + 1, by omega, by go_num, by rw [HS2.out], F5⟩
                    case measure => simp [intOf]; omega
                  | true =>
                    have HS2 : Hid (lastTo (suF bs) bs.length b a (c + 1) = overF (suF bs) bs.length c a) := by show _ = _; rw [HS'.out, h1]; rfl
                    clear h1
                    go_wp2_with fail
                    refine (overR bs c a base _ w5 (HB.out.keeps3 (Keeps.below F5.out)) hgl hlt hn).mono ?_
                    rintro x w6 ⟨rfl, f6⟩
                    have F6 := stop (F5.out.trans (f6.mono (by omega)))
                    clear f6
                    cases h2 : overF (suF bs) bs.length c a with
                    | false =>
                      have HS3 : Hid (lastTo (suF bs) bs.length b a (c + 1) = false) := by show _ = _; rw [HS2.out, h2]
                      clear h2
                      go_wp2_with fail
                      go_roundw
                      case rel => exact ⟨c + 1, by omega, by go_num, by rw [HS3.out], F6⟩
                      case measure => simp [intOf]; omega
                    | true =>
                      have HS3 : Hid (lastTo (suF bs) bs.length b a (c + 1) = true) := by show _ = _; rw [HS2.out, h2]
                      clear h2
                      go_wp2_with fail
                      go_roundw
                      case rel => exact ⟨c + 1, by omega, by go_num, by rw [HS3.out], F6⟩
                      case measure => simp [intOf]; omega
            · have hce : c = bs.length := by omega
              subst hce
              cases hl : lastTo (suF bs) bs.length b a bs.length with
              | false =>
                have HN2 : Hid (∀ j, j < a + 1 → lastB (suF bs) bs.length b j = false) := fun j hj => by
                  by_cases e : j = a
                  · subst e; exact lastTo_no hc hl
                  · exact HN.out j (by omega)
                clear hl
                go_wp2_with fail
                go_roundw
                case rel => exact ⟨a + 1, by omega, by go_num, HN2, F⟩
                case measure => simp [intOf]; omega
              | true =>
                have HF : Hid (kprF (suF bs) bs.length b = (a : Int)) := by
                  have hk : kprO (suF bs) bs.length b = some a := by
                    have := find_at (P := lastB (suF bs) bs.length b) (L := List.range bs.length) (k := a) (by simpa using hlt) (fun j hj hjl => by rw [List.getElem_range]; exact HN.out j hj) (by rw [List.getElem_range]; exact hl)
                    rw [List.getElem_range] at this
                    exact this
                  show _ = _
                  rw [HKF.out, hk]
                clear hl
                go_wp2_with fail
                go_ret
                exact ⟨by rw [HF.out]; rfl, F.out⟩

        · have hd : ((a : Int) != (b : Int)) = true := by simp; omega
          have HLO : Hid (lastTo (suF bs) bs.length b a 0 = overF (suF bs) bs.length a b) := by show _ = _; simp [lastTo, othB, hab]
          have hz0 := F.out.size
          go_wp2_with fail
          refine (overR bs a b base _ wr (HB.out.keeps3 (Keeps.below F.out)) hgl hb hn).mono ?_
          rintro x w3 ⟨rfl, f3⟩
          have F3 := stop (F.out.trans (f3.mono hz0))
          clear f3 F hab
          have F := F3
          have HL0 := HLO
          clear F3 HLO
          go_wp2_with fail
          clear hd
          go_loopw [8, 9] (fun l k wr2 => ∃ c : Nat, c ≤ bs.length ∧ k = .int .i64 c ∧ l = .bool (lastTo (suF bs) bs.length b a c) ∧ Hid (Below w.heap.size w wr2)) (fun _ k _ => bs.length - (intOf k).toNat)
          case atStart => exact ⟨0, by omega, rfl, by rw [HL0.out], F⟩
          case round =>
            clear F
            obtain ⟨c, hc, rfl, rfl, F⟩ := hrel
            have HBL := stop (HB.out.keeps3 (Keeps.below F.out))
            have hz := F.out.size
            by_cases hcl : c < bs.length
            · cases hl : lastTo (suF bs) bs.length b a c with
              | false =>
                have HN2 : Hid (∀ j, j < a + 1 → lastB (suF bs) bs.length b j = false) := fun j hj => by
                  by_cases e : j = a
                  · subst e; exact lastTo_no hc hl
                  · exact HN.out j (by omega)
                clear hl
                go_wp2_with fail
                go_roundw
                case rel => exact ⟨a + 1, by omega, by go_num, HN2, F⟩
                case measure => simp [intOf]; omega
              | true =>
                have HS := lastTo_succ (suF bs) bs.length b a c
                rw [hl, Bool.true_and] at HS
                clear hl
                by_cases hcb : c = b
                · have ho : othB (suF bs) bs.length b c = false := by simp [othB, hcb]
                  rw [ho] at HS
                  have HS' := stop HS
                  have hd : ((c : Int) != (b : Int)) = false := by simp [hcb]
                  clear HS ho hcb
                  go_wp2_with fail
                  go_roundw
                  case rel => exact ⟨c + 1, by omega, by go_num, by rw [HS'.out]; rfl, F⟩
                  case measure => simp [intOf]; omega
                · have hd : ((c : Int) != (b : Int)) = true := by simp; omega
                  have ho : othB (suF bs) bs.length b c = overF (suF bs) bs.length c b := by simp [othB, hcb]
                  rw [ho] at HS
                  have HS' := stop HS
                  clear HS ho
                  go_wp2_with fail
                  refine (overR bs c b base _ wr HBL.out hgl hb hn).mono ?_
                  rintro x w5 ⟨rfl, f5⟩
                  have s5 := f5.size
                  have F5 := stop (F.out.trans (f5.mono hz))
                  clear f5
                  cases h1 : overF (suF bs) bs.length c b with
                  | false =>
                    have HS2 : Hid (lastTo (suF bs) bs.length b a (c + 1) = true) := by show _ = _; rw [HS'.out, h1]; rfl
                    clear h1
                    go_wp2_with fail
                    go_roundw
                    case rel => exact ⟨c + 1, by omega, by go_num, by rw [HS2.out], F5⟩
                    case measure => simp [intOf]; omega
                  | true =>
                    have HS2 : Hid (lastTo (suF bs) bs.length b a (c + 1) = overF (suF bs) bs.length c a) := by show _ = _; rw [HS'.out, h1]; rfl
                    clear h1
                    go_wp2_with fail
                    refine (overR bs c a base _ w5 (HB.out.keeps3 (Keeps.below F5.out)) hgl hlt hn).mono ?_
                    rintro x w6 ⟨rfl, f6⟩
                    have F6 := stop (F5.out.trans (f6.mono (by omega)))
                    clear f6
                    cases h2 : overF (suF bs) bs.length c a with
                    | false =>
                      have HS3 : Hid (lastTo (suF bs) bs.length b a (c + 1) = false) := by show _ = _; rw [HS2.out, h2]
                      clear h2
                      go_wp2_with fail
                      go_roundw
                      case rel => exact ⟨c + 1, by omega, by go_num, by rw [HS3.out], F6⟩
                      case measure => simp [intOf]; omega
                    | true =>
                      have HS3 : Hid (lastTo (suF bs) bs.length b a (c + 1) = true) := by show _ = _; rw [HS2.out, h2]
                      clear h2
                      go_wp2_with fail
                      go_roundw
                      case rel => exact ⟨c + 1, by omega, by go_num, by rw [HS3.out], F6⟩
                      case measure => simp [intOf]; omega
            · have hce : c = bs.length := by omega
              subst hce
              cases hl : lastTo (suF bs) bs.length b a bs.length with
              | false =>
                have HN2 : Hid (∀ j, j < a + 1 → lastB (suF bs) bs.length b j = false) := fun j hj => by
                  by_cases e : j = a
                  · subst e; exact lastTo_no hc hl
                  · exact HN.out j (by omega)
                clear hl
                go_wp2_with fail
                go_roundw
                case rel => exact ⟨a + 1, by omega, by go_num, HN2, F⟩
                case measure => simp [intOf]; omega
              | true =>
                have HF : Hid (kprF (suF bs) bs.length b = (a : Int)) := by
                  have hk : kprO (suF bs) bs.length b = some a := by
                    have := find_at (P := lastB (suF bs) bs.length b) (L := List.range bs.length) (k := a) (by simpa using hlt) (fun j hj hjl => by rw [List.getElem_range]; exact HN.out j hj) (by rw [List.getElem_range]; exact hl)
                    rw [List.getElem_range] at this
                    exact this
                  show _ = _
                  rw [HKF.out, hk]
                clear hl
                go_wp2_with fail
                go_ret
                exact ⟨by rw [HF.out]; rfl, F.out⟩
      · have HF : Hid (kprF (suF bs) bs.length b = -1) := by
          show _ = _
          rw [HKF.out, kprO, List.find?_eq_none.2 fun x hx => by rw [HN.out x (by simp at hx; omega)]; simp]
        go_wp2_with fail
        go_ret
        exact ⟨by rw [HF.out]; rfl, F.out⟩

end Go.Proofs.YtgfhfkgdmidhpaaGreat
