import Derived.Test.YtgfhfkgdmidhpaaGreatMD
import Derived.Test.YtgfhfkgdmidhpaaGreatMC
import Derived.Test.YtgfhfkgdmidhpaaGreatMB
import Derived.Test.YtgfhfkgdmidhpaaGreatG22
import Derived.Test.YtgfhfkgdmidhpaaGreatRB
import Derived.Deep.LoopGhost
namespace Go.Proofs.YtgfhfkgdmidhpaaGreat
open Go.RowKit

theorem RowR.congr {base : Nat} {w : World} {v : Value} {n : Nat} {f f' : Nat → List Nat} (h : RowR base w v n f) (e : ∀ k, k < n → f' k = f k) : RowR base w v n f' := by
  obtain ⟨us, a, b⟩ := h
  have hl : us.length = n := by have := a.1; omega
  refine ⟨us, a, fun j u hu => ?_⟩
  have hj : j < n := by
    rcases Nat.lt_or_ge j us.length with h | h
    · omega
    · rw [List.getElem?_eq_none h] at hu; cases hu
  rw [e j hj]; exact b j u hu
theorem RowR.store {base : Nat} {w : World} {g c n : Nat} {f : Nat → List Nat} (h : RowR base w (.slice (some ⟨g, 0, none⟩) n c) n f) {k : Nat} {u : Value} {l : List Nat} (o : w.ownsRow base 3 1 u l.length (icell l)) :
    RowR base (w.setCell ⟨g, k, none⟩ u) (.slice (some ⟨g, 0, none⟩) n c) n (fun j => if j = k then l else f j) := by
  obtain ⟨us, a, b⟩ := h
  have hb : ∃ cs fz, w.heap[g]? = some (.cells cs 29 fz) := by
    rcases a.2 with ⟨h0, _⟩ | ⟨g', cap', cur', hv, _, hc', _⟩
    · cases h0
    · cases hv; exact ⟨_, _, hc'⟩
  obtain ⟨cs, fz, hg⟩ := hb
  refine ⟨us.set k u, owns_store a k u, fun j x hx => ?_⟩
  rw [List.getElem?_set] at hx
  by_cases hj : k = j
  · subst hj
    rw [if_pos rfl] at hx
    split at hx
    · cases hx
      show (w.setCell _ u).ownsRow base 3 1 u (if k = k then l else f k).length (icell (if k = k then l else f k))
      rw [if_pos rfl]
      exact owns_setT o hg (by decide)
    · cases hx
  · rw [if_neg hj] at hx
    show (w.setCell _ u).ownsRow base 3 1 x (if j = k then l else f j).length (icell (if j = k then l else f j))
    rw [if_neg (fun e : j = k => hj e.symm)]
    exact owns_setT (b j x hx) hg (by decide)

set_option maxRecDepth 100000 in
set_option maxHeartbeats 2000000 in
theorem liveR (bs : List RBlk) (base : Nat) (v : Value) (w : World) (h : BlksOwn w base bs v) (hgl : Hid (∀ b ∈ bs, ∀ p ∈ goalsF b.e, p.1 < bs.length)) (hf : Hid (∀ b ∈ bs, BFine 1000000 b)) (hg2 : Hid (∀ b ∈ bs, ∀ c ∈ b.chs, c.gs.length ≤ 1000)) (hn0 : 0 < bs.length) (hn : bs.length ≤ 1000) :
    Calls Tryz.prog 34 #[v] w fun x w' => ∃ v', x = .returned v' ∧ Hid (RowR w.heap.size w' v' bs.length (matL bs) ∧ Below w.heap.size w w') := by
  obtain ⟨pv, cv, rfl⟩ := h.slice
  have HB := stop h
  clear h
  obtain ⟨I9, Hi9, Hz9, Hs9, Hb9⟩ := info_parts Tryz.info29
  have HI := stop (And.intro Hi9 (And.intro Hz9 (And.intro Hs9 Hb9)))
  clear Hi9 Hz9 Hs9 Hb9
  go_enter Tryz.func34, Tryz.ntmps34
  go_wp2_with (at_make; refine unstop ?_)
  refine stop ?_
  refine wpList_make_full _ rfl _ _ 36 rfl w.heap.size 29 I9 (.slice none 0 0) 1 Tryz.underlying36 HI.out.1 HI.out.2.1 HI.out.2.2.1 .i64 .i64 _ _ bs.length rfl rfl rfl rfl (by rw [HI.out.2.2.2]; omega) (by unfold maxLen; omega) (Nat.le_refl _) ?_
  intro w3 o3 gr3
  rw [made_one _ rfl] at o3
  have f3 : Below w.heap.size w w3 := Below.grown (Below.refl _ _) gr3 (Nat.le_refl _) (fun k hk => by cases hk)
  have S3 : RowR w.heap.size w3 (.slice (some ⟨w.heap.size, 0, none⟩) bs.length bs.length) bs.length (fun _ => []) := by
    refine ⟨_, o3, fun k u hu => ?_⟩
    obtain ⟨_, rfl⟩ := get_rep hu
    exact World.ownsRow_nil _ _ _ _
  have B0 := stop (And.intro S3 f3)
  clear o3 gr3 f3 S3 HI
  go_wp2_with fail
  go_loopg [4] (2 * (bs.length * 10000 - sumL bs.length (fun _ => [])) + 1) (fun g s wr => ∃ (X : Nat → List Nat) (tb : Bool), s = .bool tb ∧ g = 2 * (bs.length * 10000 - sumL bs.length X) + tb.toNat ∧ Hid (Grow bs X ∧ RowR w.heap.size wr (.slice (some ⟨w.heap.size, 0, none⟩) bs.length bs.length) bs.length X ∧ Below w.heap.size w wr ∧ (tb = false → ∀ i, i < bs.length → mstep bs X i = X i)))
  case atStart => exact ⟨fun _ => [], true, rfl, rfl, Grow.zero _, B0.out.1, B0.out.2, fun h => by cases h⟩
  case round =>
    clear B0
    obtain ⟨X, tb, rfl, rfl, HR⟩ := hrel
    rename World => wA
    cases tb with
    | false =>
      have HM : Hid (∀ k, k < bs.length → matL bs k = X k) := fun k hk => (mat_eq hf.out (suF_lt hgl.out) HR.out.1.snd (HR.out.2.2.2 rfl) hk).symm
      go_wp2_with fail
      go_ret
      exact ⟨_, rfl, HR.out.2.1.congr HM.out, HR.out.2.2.1⟩
    | true =>
      go_wp2_with fail
      go_loopw [4, 5] (fun t k wr => ∃ (j : Nat) (Y : Nat → List Nat) (tb : Bool), j ≤ bs.length ∧ k = .int .i64 ((j : Int) - 1) ∧ t = .bool tb ∧ Hid (Grow bs Y ∧ RowR w.heap.size wr (.slice (some ⟨w.heap.size, 0, none⟩) bs.length bs.length) bs.length Y ∧ Below w.heap.size w wr ∧ (tb = false → sumL bs.length Y = sumL bs.length X ∧ ∀ i, j ≤ i → i < bs.length → mstep bs Y i = Y i) ∧ (tb = true → sumL bs.length X < sumL bs.length Y))) (fun _ k _ => (intOf k + 1).toNat)
      case atStart => exact ⟨bs.length, X, false, by omega, by go_num, rfl, HR.out.1, HR.out.2.1, HR.out.2.2.1, (fun _ => ⟨rfl, fun i h1 h2 => absurd h1 (by omega)⟩), fun h => by cases h⟩
      case round =>
        obtain ⟨j, Y, tb, hj, rfl, rfl, HY⟩ := hrel
        rename World => wB
        have hzB := HY.out.2.2.1.size
        by_cases hj0 : 0 < j
        · obtain ⟨j', rfl⟩ : ∃ j', j = j' + 1 := ⟨j - 1, by omega⟩
          have hk1 : (((j' + 1 : Nat) : Int) - 1) = (j' : Int) := by omega
          rw [hk1]
          have hjl : j' < bs.length := by omega
          have HYS : Hid (∀ k, SM (Y k)) := fun k => ⟨HY.out.1.srt k, fun r hr => mat_lt hf.out (HY.out.1.snd k r hr)⟩
          clear hk1
          go_wp2_with fail
          refine (beforeR bs Y j' base w.heap.size _ _ wB (HB.out.keeps3 (Keeps.below HY.out.2.2.1)) HY.out.2.1 hgl hf hg2 HYS hjl hn).mono ?_
          rintro e wC ⟨vC, rfl, oC, fC⟩
          obtain ⟨pC, cC, rfl⟩ := owns_slice2 oC
          have sC := fC.size
          have RC := HY.out.2.1.keeps fC
          obtain ⟨gN, uN, eN, _, hgN, cN, cNf, oN⟩ := RC.at hjl
          cases eN
          obtain ⟨pN, cNc, rfl⟩ := owns_slice2 oN
          have HC := stop (And.intro oC (And.intro RC (And.intro oN (HY.out.2.2.1.trans (fC.mono hzB)))))
          have hml : (mstep bs Y j').length ≤ 10000 := HY.out.1.step.len hf.out j'
          clear oC fC RC oN
          go_wp2_with fail
          refine (sameRef (mstep bs Y j') (Y j') wB.heap.size w.heap.size _ _ wC HC.out.1 HC.out.2.2.1 (by omega)).mono ?_
          rintro e wD ⟨rfl, fD⟩
          have sD := fD.size
          have RD := HC.out.2.1.keeps fD
          obtain ⟨gD, uD, eD, _, hgD, cD, cDf, _⟩ := RD.at hjl
          cases eD
          have HD := stop (And.intro (owns_keeps HC.out.1 (Keeps.below (T := fun _ => True) fD) trivial) (And.intro RD (HC.out.2.2.2.trans (fD.mono (by omega)))))
          clear fD RD cN cNf
          by_cases he : mstep bs Y j' = Y j'
          · have hq : eqF (mstep bs Y j') (Y j') = true := by rw [eqF, he]; simp
            rw [hq]
            have HY2 : Hid (Grow bs Y ∧ RowR w.heap.size wD (.slice (some ⟨w.heap.size, 0, none⟩) bs.length bs.length) bs.length Y ∧ Below w.heap.size w wD ∧ (tb = false → sumL bs.length Y = sumL bs.length X ∧ ∀ i, j' ≤ i → i < bs.length → mstep bs Y i = Y i) ∧ (tb = true → sumL bs.length X < sumL bs.length Y)) := by
              refine ⟨HY.out.1, HD.out.2.1, HD.out.2.2, fun ht => ⟨(HY.out.2.2.2.1 ht).1, fun i h1 h2 => ?_⟩, HY.out.2.2.2.2⟩
              by_cases e : i = j'
              · rw [e]; exact he
              · exact (HY.out.2.2.2.1 ht).2 i (by omega) h2
            clear he hq HC HD HY
            go_wp2_with fail
            go_roundw
            case rel => exact ⟨j', Y, tb, by omega, by go_num, rfl, HY2⟩
            case measure => simp [intOf]
          · have hq : eqF (mstep bs Y j') (Y j') = false := by simpa [eqF] using he
            rw [hq]
            have HY2 : Hid (Grow bs (upd Y j' (mstep bs Y j')) ∧ RowR w.heap.size (wD.setCell ⟨w.heap.size, j', none⟩ (.slice pC (mstep bs Y j').length cC)) (.slice (some ⟨w.heap.size, 0, none⟩) bs.length bs.length) bs.length (upd Y j' (mstep bs Y j')) ∧ Below w.heap.size w (wD.setCell ⟨w.heap.size, j', none⟩ (.slice pC (mstep bs Y j').length cC)) ∧ (true = false → sumL bs.length (upd Y j' (mstep bs Y j')) = sumL bs.length X ∧ ∀ i, j' ≤ i → i < bs.length → mstep bs (upd Y j' (mstep bs Y j')) i = (upd Y j' (mstep bs Y j')) i) ∧ (true = true → sumL bs.length X < sumL bs.length (upd Y j' (mstep bs Y j')))) := by
              have hlt := HY.out.1.upd_lt hf.out hjl he
              refine ⟨HY.out.1.upd j', RowR.store HD.out.2.1 (k := j') (owns_base HD.out.1 (by omega)), below_set HD.out.2.2 _ _ _ (Nat.le_refl _), (fun h => by cases h), fun _ => ?_⟩
              cases tb with
              | false => have := (HY.out.2.2.2.1 rfl).1; omega
              | true => have := HY.out.2.2.2.2 rfl; omega
            clear he hq HC HD HY
            go_wp2_with fail
            go_roundw
            case rel => exact ⟨j', upd Y j' (mstep bs Y j'), true, by omega, by go_num, rfl, HY2.out.1, HY2.out.2.1, HY2.out.2.2.1, HY2.out.2.2.2.1, fun _ => HY2.out.2.2.2.2 trivial⟩
            case measure => simp [intOf]
        · have hje : j = 0 := by omega
          subst hje
          have HLM : sumL bs.length Y ≤ bs.length * 10000 := sumL_lim fun i _ => HY.out.1.len hf.out i
          have HME : 2 * (bs.length * 10000 - sumL bs.length Y) + tb.toNat < 2 * (bs.length * 10000 - sumL bs.length X) + 1 := by
            cases tb with
            | false => have := (HY.out.2.2.2.1 rfl).1; simp; omega
            | true => have := HY.out.2.2.2.2 rfl; simp; omega
          have HY2 : Hid (Grow bs Y ∧ RowR w.heap.size wB (.slice (some ⟨w.heap.size, 0, none⟩) bs.length bs.length) bs.length Y ∧ Below w.heap.size w wB ∧ (tb = false → ∀ i, i < bs.length → mstep bs Y i = Y i)) := ⟨HY.out.1, HY.out.2.1, HY.out.2.2.1, fun ht i hi => (HY.out.2.2.2.1 ht).2 i (Nat.zero_le _) hi⟩
          clear HY
          go_wp2_with fail
          go_roundg (2 * (bs.length * 10000 - sumL bs.length Y) + tb.toNat)
          case measure => exact HME
          case rel => exact ⟨Y, tb, rfl, rfl, HY2⟩

end Go.Proofs.YtgfhfkgdmidhpaaGreat
