import Derived.Test.YtgfhfkgdmidhpaaGreatMC
import Derived.Test.YtgfhfkgdmidhpaaGreatRA
import Derived.Test.YtgfhfkgdmidhpaaGreatG24
import Derived.Test.YtgfhfkgdmidhpaaGreatG20
import Derived.Deep.Cut
namespace Go.Proofs.YtgfhfkgdmidhpaaGreat
open Go.RowKit

/-- A rising list of registers. -/
def SM (l : List Nat) : Prop := l.Pairwise (· < ·) ∧ ∀ x ∈ l, x < 10000
theorem SM.len {l : List Nat} (h : SM l) : l.length ≤ 10000 := srt_lim h.1 h.2
theorem SM.nil : SM [] := ⟨List.Pairwise.nil, fun _ h => by simp at h⟩
theorem SM.of {l : List Nat} (h : ∀ x ∈ l, x < 10000) : SM (ofL l) := ⟨ofL_srt _, fun x hx => h x (ofL_mem.1 hx)⟩
theorem SM.put {l : List Nat} (h : SM l) {x : Nat} (hx : x < 10000) : SM (ptF l x) := ⟨ptF_srt _ _, fun y hy => by rcases ptF_mem.1 hy with h1 | h1; exact h.2 y h1; omega⟩
theorem SM.wo {l : List Nat} (h : SM l) (x : Nat) : SM (YtgfhfkgdmidhpaaGreat.wo l x) := ⟨wo_srt _ h.1, fun y hy => h.2 y (wo_mem.1 hy).1⟩
theorem SM.wos {l : List Nat} (h : SM l) (cs : List Nat) : SM (YtgfhfkgdmidhpaaGreat.wos l cs) := ⟨wos_srt _ h.1, fun y hy => h.2 y (wos_mem.1 hy).1⟩
theorem SM.puts {a l : List Nat} (h : SM a) (hl : ∀ x ∈ l, x < 10000) : SM (ofL (a ++ l)) := SM.of fun x hx => by
  rcases List.mem_append.1 hx with h1 | h1
  · exact h.2 x h1
  · exact hl x h1
theorem ofL_app_nil {a : List Nat} (h : a.Pairwise (· < ·)) : ofL (a ++ []) = a := by rw [List.append_nil, ofL_id h]
theorem atTo_sm {bs : List RBlk} {X : Nat → List Nat} {n : Nat} (hf : ∀ b ∈ bs, BFine n b) (hX : ∀ k, SM (X k)) (i : Nat) (to : List Nat) (q : Nat) : SM (atTo bs X i to q) := SM.of fun x hx => by
  rw [List.mem_flatMap] at hx
  obtain ⟨k, _, hk⟩ := hx
  rcases List.mem_append.1 hk with h | h
  · exact (hX k).2 x (dif_mem.1 h).1
  · exact chnL_lt (bkF_fine hf k) h
theorem bkTo_sm {A : List Nat} {ts : List RStep} {e : REnd} (hA : SM A) (ht : ∀ t ∈ ts, StFine t) (he : e.a.1 < 10000) : SM (bkTo A ts e) := SM.of fun x hx => by
  rcases List.mem_append.1 hx with h | h
  · exact rdLs_lt he ht h
  · exact hA.2 x (dif_mem.1 h).1
theorem stepCells_at {l : List RStep} {j : Nat} (hj : j < l.length) {k : Nat} (hk : k < 8) : (l.flatMap stepCells)[j * 8 + k]? = (stepCells l[j])[k]? := by
  rw [List.flatMap_def]
  refine flat_get 8 _ j k _ (fun x hx => ?_) (by simp [hj]) hk
  simp only [List.mem_map] at hx
  obtain ⟨t, _, rfl⟩ := hx
  rfl


end Go.Proofs.YtgfhfkgdmidhpaaGreat

namespace Go.Proofs.YtgfhfkgdmidhpaaGreat
open Go.RowKit

theorem rdsF_le2 (t : RStep) : (rdsF t).length ≤ 2 := by
  unfold rdsF
  repeat' split
  all_goals simp
theorem cRegs_len (c : RCho) (i : Nat) : (cRegs c i).length ≤ c.gs.length := by
  rw [cRegs, List.length_map]
  refine Nat.le_trans (List.length_filter_le _ _) ?_
  rw [List.length_zip]; omega
theorem chnL_len {i : Nat} : ∀ {cs : List RCho}, (∀ c ∈ cs, c.gs.length ≤ 1000) → (cs.flatMap fun c => cRegs c i).length ≤ 1000 * cs.length
  | [], _ => by simp
  | c :: cs, h => by
    rw [List.flatMap_cons, List.length_append, List.length_cons]
    have h1 := cRegs_len c i
    have h2 := h c (List.mem_cons_self ..)
    have h3 := chnL_len (i := i) (cs := cs) fun d hd => h d (List.mem_cons_of_mem _ hd)
    omega
theorem atL_sm {bs : List RBlk} {X : Nat → List Nat} {n : Nat} (hf : ∀ b ∈ bs, BFine n b) (hX : ∀ k, SM (X k)) (i : Nat) : SM (atL bs X i) := SM.of fun x hx => by
  obtain ⟨k, _, hk⟩ := List.mem_flatMap.1 hx
  rcases List.mem_append.1 hk with h | h
  · exact chnL_lt (bkF_fine hf k) h
  · exact (hX k).2 x (dif_mem.1 h).1

set_option maxRecDepth 100000 in
set_option maxHeartbeats 2000000 in
theorem beforeR (bs : List RBlk) (X : Nat → List Nat) (i base B : Nat) (v vin : Value) (w : World) (h : BlksOwn w base bs v) (hX : RowR B w vin bs.length X) (hgl : Hid (∀ b ∈ bs, ∀ p ∈ goalsF b.e, p.1 < bs.length)) (hf : Hid (∀ b ∈ bs, BFine 1000000 b)) (hg2 : Hid (∀ b ∈ bs, ∀ c ∈ b.chs, c.gs.length ≤ 1000)) (hXs : Hid (∀ k, SM (X k))) (hi : i < bs.length) (_hn : bs.length ≤ 1000) :
    Calls Tryz.prog 54 #[v, vin, .int .i64 i] w fun x w' => ∃ v', x = .returned v' ∧ w'.ownsRow w.heap.size 3 1 v' (mstep bs X i).length (icell (mstep bs X i)) ∧ Below w.heap.size w w' := by
  obtain ⟨pv, cv, rfl⟩ := h.slice
  obtain ⟨pi, ci, rfl⟩ := hX.slice
  have HB := stop h
  have HX := stop hX
  obtain ⟨gv, qc, cc, ps, cs, rfl, _, _, OC, OS, hc⟩ := h.at hi
  have d0 : w.cell? ⟨gv, i * 10, none⟩ = _ := hc 0 _ rfl
  have d1 := hc 1 _ rfl
  have d2 := hc 2 _ rfl
  have d3 := hc 3 _ rfl
  have d4 := hc 4 _ rfl
  have d5 := hc 5 _ rfl
  have d6 := hc 6 _ rfl
  have d7 := hc 7 _ rfl
  have d8 := hc 8 _ rfl
  have d9 := hc 9 _ rfl
  have HFI := stop (hf.out _ (List.getElem_mem hi))
  clear hc h hX OC OS
  go_enter Tryz.func54, Tryz.ntmps54
  go_wp2_with fail
  refine (behind_any qc _ cc ps _ cs bs[i].e _ _).mono ?_
  rintro x w1 ⟨vt, rfl, o1, f1⟩
  have s1 := f1.size
  obtain ⟨pt, ct, rfl⟩ := owns_slice2 o1
  have HT : Hid (∀ x, x ∈ behF (goalsF bs[i].e) ↔ x ∈ suF bs i) := fun x => by rw [suF_at hi]; exact toR_mem
  have htl : (behF (goalsF bs[i].e)).length ≤ 2 := by
    have := goalsF_le bs[i].e
    revert this
    generalize goalsF bs[i].e = gl
    match gl with
    | [] => intro _; simp [behF]
    | [x] => intro _; simp [behF]
    | x :: y :: r => intro _; rw [behF]; split <;> simp
  have HS : Hid (∀ k ∈ behF (goalsF bs[i].e), k < bs.length) := fun k hk => suF_lt hgl.out i k ((HT.out k).1 hk)
  generalize behF (goalsF bs[i].e) = tl at o1 HT htl HS
  have H1 := stop (And.intro o1 (And.intro f1 (And.intro (HB.out.keeps3 (Keeps.below f1)) (HX.out.keeps f1))))
  clear o1 f1 HB HX d0 d1 d2 d3 d4 d5 d6 d7 d8 d9
  go_wp2_with fail
  go_loopw [7, 9] (fun o k wr => ∃ (q : Nat) (M : List Nat), q ≤ tl.length ∧ k = .int .i64 q ∧ Hid (M = atTo bs X i tl q) ∧ M.length ≤ 10000 ∧ wr.ownsRow w1.heap.size 3 1 o M.length (icell M) ∧ Hid (Below w1.heap.size w1 wr)) (fun _ k _ => tl.length - (intOf k).toNat)
  case atStart => exact ⟨0, [], by omega, rfl, (atTo_zero _ _ _ _).symm, by simp, World.ownsRow_nil _ _ _ _, Below.refl _ _⟩
  case round =>
    obtain ⟨q, M, hq, rfl, HM, hml, OM, F⟩ := hrel
    rename World => wA
    obtain ⟨pm, cm, rfl⟩ := owns_slice2 OM
    have hz := F.out.size
    have OMH := stop OM
    clear OM
    by_cases hlt : q < tl.length
    · have OT := owns_keeps H1.out.1 (Keeps.below (T := fun _ => True) F.out) trivial
      obtain ⟨gt, rfl, _, _⟩ := owns_form OT (by omega)
      have ct0 := owns_cell OT (icell_at hlt)
      have hkn := HS.out _ (List.getElem_mem hlt)
      have HA := stop (atTo_succ (bs := bs) (X := X) (i := i) hlt)
      have HR := H1.out.2.2.2.keeps F.out
      obtain ⟨gi, u, rfl, _, _, hcu, _, hou⟩ := HR.at hkn
      obtain ⟨pu, cu, rfl⟩ := owns_slice2 hou
      have hB := H1.out.2.2.1.keeps3 (Keeps.below F.out)
      obtain ⟨gv', qk, ck, pk, sk, hgv, _, _, OC, _, hc⟩ := hB.at hkn
      cases hgv
      have d0 : wA.cell? ⟨gv, tl[q] * 10, none⟩ = _ := hc 0 _ rfl
      have hbk : bkF bs tl[q] = bs[tl[q]] := bkF_at hkn
      rw [hbk] at HA
      have HFK := hf.out _ (List.getElem_mem hkn)
      have L1 := HFK.cl
      have HG2 := stop (hg2.out _ (List.getElem_mem hkn))
      have HCF := stop HFK.ch
      have HXK := stop (hXs.out tl[q])
      have OCH := stop OC
      have HOU := stop hou
      have D := stop hc
      have HML := stop (atTo_sm hf.out hXs.out i tl (q + 1))
      clear OT HR hou hB OC hc HFK hbk
      generalize hb : bs[tl[q]] = b at *
      generalize hxk : X tl[q] = xk at *
      generalize hto : tl[q] = tq at *
      have HK := stop (And.intro hb (And.intro hxk hto))
      clear hb hxk hto
      go_wp2_with fail
      clear hcu
      have HTS := stop (atTo_sm hf.out hXs.out i tl q)
      rw [← HM.out] at HTS
      go_loopw [10, 12] (fun o j wr => ∃ (t : Nat) (N : List Nat), t ≤ b.chs.length ∧ j = .int .i64 t ∧ Hid (N = wos xk ((ctoL b).take t)) ∧ N.length ≤ 10000 ∧ wr.ownsRow 0 3 1 o N.length (icell N) ∧ Hid (Below wA.heap.size wA wr)) (fun _ j _ => b.chs.length - (intOf j).toNat)
      case atStart => exact ⟨0, xk, by omega, rfl, by show _ = _; rw [List.take_zero, wos_nil], HXK.out.len, owns_base HOU.out (Nat.zero_le _), Below.refl _ _⟩
      case round =>
        obtain ⟨t, N, ht, rfl, HN, hnl, ON, F2⟩ := hrel
        rename World => wB
        obtain ⟨pn, cn, rfl⟩ := owns_slice2 ON
        have hzB := F2.out.size
        have ONH := stop ON
        clear ON
        have OCB := OCH.out.keeps (Keeps.below (T := fun _ => True) F2.out) trivial trivial trivial
        by_cases htl : t < b.chs.length
        · obtain ⟨gc, pf, cf, pr, cr, rfl, _, _, _, _, e0, _, _, _⟩ := OCB.at htl
          have htc : t < (ctoL b).length := by simpa [ctoL] using htl
          have HW := stop (wos_take (cs := ctoL b) HXK.out.1 htc)
          have hct : (ctoL b)[t] = b.chs[t].to.1 := by simp [ctoL]
          rw [hct, ← HN.out] at HW
          clear OCB hct
          go_wp2_with fail
          refine (outR N b.chs[t].to.1 0 _ wB ONH.out (by omega)).mono ?_
          rintro e wC ⟨vC, rfl, oC, fC⟩
          obtain ⟨pC, cC, rfl⟩ := owns_slice2 oC
          have hlC := wo_len N b.chs[t].to.1
          have OC := stop (And.intro (owns_base oC (Nat.zero_le _)) (F2.out.trans (fC.mono hzB)))
          clear oC fC e0
          go_wp2_with fail
          go_roundw
          case rel => exact ⟨t + 1, wo N b.chs[t].to.1, by omega, by go_num, HW.out, by omega, OC.out.1, OC.out.2⟩
          case measure => simp [intOf]; omega
        · have hte : t = b.chs.length := by omega
          have HN2 : Hid (N = wos xk (ctoL b)) := by
            show _ = _
            rw [HN.out, hte, List.take_of_length_le (by simp [ctoL])]
          have HNS : Hid (SM N) := by show SM N; rw [HN2.out]; exact HXK.out.wos _
          have cB : ∀ j u, (blkCells (.slice qk b.chs.length ck) (.slice pk b.sts.length sk) b.e b.at_)[j]? = some u → wB.cell? ⟨gv, tq * 10 + j, none⟩ = some u := fun j u hu => (F2.out.cell (p := ⟨gv, tq * 10 + j, none⟩) (World.block_lt_of_cell? _ _ (D.out j u hu))).trans (D.out j u hu)
          have ct1 := (F2.out.cell (p := ⟨gt, q, none⟩) (World.block_lt_of_cell? _ _ ct0)).trans ct0
          have d0 : wB.cell? ⟨gv, tq * 10, none⟩ = _ := cB 0 _ rfl
          have d1 := cB 1 _ rfl
          have d2 := cB 2 _ rfl
          have d3 := cB 3 _ rfl
          have d4 := cB 4 _ rfl
          have d5 := cB 5 _ rfl
          have d6 := cB 6 _ rfl
          have d7 := cB 7 _ rfl
          have d8 := cB 8 _ rfl
          have d9 := cB 9 _ rfl
          have HRS : Hid (∀ c ∈ b.chs, c.rs.length = c.gs.length) := fun c hc => (HCF.out c hc).2.1
          have HOB := stop OCB
          have OMB := stop (owns_keeps OMH.out (Keeps.below (T := fun _ => True) F2.out) trivial)
          clear cB OCB HN hte
          go_wp2_with fail
          refine (chosenR b i base qk ck pk _ sk wB HOB.out HRS L1 HG2).mono ?_
          rintro e wD ⟨vm, rfl, oD, fD⟩
          obtain ⟨pd, cd, rfl⟩ := owns_slice2 oD
          have hzD := fD.size
          have HD := stop (And.intro oD (And.intro (owns_keeps ONH.out (Keeps.below (T := fun _ => True) fD) trivial) (And.intro (owns_keeps OMB.out (Keeps.below (T := fun _ => True) fD) trivial) ((F.out.trans (F2.out.mono hz)).trans (fD.mono (by omega))))))
          have HCL : Hid (∀ x ∈ chnL b i, x < 10000) := fun x hx => by
            obtain ⟨c, hc, hr⟩ := List.mem_flatMap.1 hx
            exact cRegs_lt (HCF.out c hc) hr
          clear oD fD d0 d1 d2 d3 d4 d5 d6 d7 d8 d9 ct1 HOB OMB ONH
          have hcll : (chnL b i).length ≤ 1000 * b.chs.length := chnL_len HG2.out
          generalize hcl : chnL b i = cl at *
          have HCLE := stop hcl
          clear hcl
          go_wp2_with fail
          go_loopw [7, 14] (fun o j wr => ∃ (t : Nat) (M2 : List Nat), t ≤ N.length ∧ j = .int .i64 t ∧ Hid (M2 = ofL (M ++ N.take t)) ∧ M2.length ≤ 10000 ∧ wr.ownsRow w1.heap.size 3 1 o M2.length (icell M2) ∧ Hid (Below wD.heap.size wD wr)) (fun _ j _ => N.length - (intOf j).toNat)
          case atStart => exact ⟨0, M, by omega, rfl, by show _ = _; rw [List.take_zero, ofL_app_nil HTS.out.1], hml, HD.out.2.2.1, Below.refl _ _⟩
          case round =>
            obtain ⟨t3, M2, ht3, rfl, HM2, hm2, OM2, F3⟩ := hrel
            rename World => wE
            obtain ⟨pe, ce, rfl⟩ := owns_slice2 OM2
            have hzE := F3.out.size
            have OEH := stop OM2
            clear OM2
            by_cases ht3l : t3 < N.length
            · have OX := owns_keeps HD.out.2.1 (Keeps.below (T := fun _ => True) F3.out) trivial
              obtain ⟨gn, rfl, _, _⟩ := owns_form OX (by omega)
              have cn0 := owns_cell OX (icell_at ht3l)
              have HPT := stop (put_take (a := M) ht3l)
              rw [← HM2.out] at HPT
              have HS2 : Hid (SM (ofL (M ++ N.take (t3 + 1)))) := HTS.out.puts fun x hx => HNS.out.2 x (List.mem_of_mem_take hx)
              have HM2s : Hid (M2.Pairwise (· < ·)) := by show M2.Pairwise _; rw [HM2.out]; exact ofL_srt _
              clear OX
              go_wp2_with fail
              refine (putR M2 N[t3] w1.heap.size _ wE OEH.out HM2s (by omega)).mono ?_
              rintro e wG ⟨vG, rfl, oG, fG⟩
              obtain ⟨pG, cG, rfl⟩ := owns_slice2 oG
              have hlG : (ptF M2 N[t3]).length ≤ 10000 := by rw [HPT.out]; exact HS2.out.len
              have OG := stop (And.intro (owns_base oG (show w1.heap.size ≤ wE.heap.size by omega)) (F3.out.trans (fG.mono hzE)))
              clear oG fG cn0
              go_wp2_with fail
              go_roundw
              case rel => exact ⟨t3 + 1, ptF M2 N[t3], by omega, by go_num, HPT.out, hlG, OG.out.1, OG.out.2⟩
              case measure => simp [intOf]; omega
            · have ht3e : t3 = N.length := by omega
              have HM3 : Hid (M2 = ofL (M ++ N)) := by show _ = _; rw [HM2.out, ht3e, List.take_length]
              have HS3 : Hid (SM (ofL (M ++ N))) := HTS.out.puts HNS.out.2
              have H4 := stop (And.intro (owns_keeps HD.out.1 (Keeps.below (T := fun _ => True) F3.out) trivial) (HD.out.2.2.2.trans (F3.out.mono (show w1.heap.size ≤ wD.heap.size by omega))))
              clear HM2 ht3e
              go_wp2_with fail
              go_loopw [7, 15] (fun o j wr => ∃ (t : Nat) (M4 : List Nat), t ≤ cl.length ∧ j = .int .i64 t ∧ Hid (M4 = ofL (M2 ++ cl.take t)) ∧ M4.length ≤ 10000 ∧ wr.ownsRow w1.heap.size 3 1 o M4.length (icell M4) ∧ Hid (Below wE.heap.size wE wr)) (fun _ j _ => cl.length - (intOf j).toNat)
              case atStart => exact ⟨0, M2, by omega, rfl, by show _ = _; rw [List.take_zero, ofL_app_nil (by rw [HM3.out]; exact ofL_srt _)], hm2, OEH.out, Below.refl _ _⟩
              case round =>
                obtain ⟨t4, M4, ht4, rfl, HM4, hm4, OM4, F4⟩ := hrel
                rename World => wH
                obtain ⟨ph, ch, rfl⟩ := owns_slice2 OM4
                have hzH := F4.out.size
                have OHH := stop OM4
                clear OM4
                by_cases ht4l : t4 < cl.length
                · have OX := owns_keeps H4.out.1 (Keeps.below (T := fun _ => True) F4.out) trivial
                  obtain ⟨gn, rfl, _, _⟩ := owns_form OX (by omega)
                  have cn0 := owns_cell OX (icell_at ht4l)
                  have HPT := stop (put_take (a := M2) ht4l)
                  rw [← HM4.out] at HPT
                  have HS2 : Hid (SM (ofL (M2 ++ cl.take (t4 + 1)))) := by
                    show SM _
                    rw [HM3.out]
                    exact HS3.out.puts fun x hx => HCL.out x (List.mem_of_mem_take hx)
                  have HM4s : Hid (M4.Pairwise (· < ·)) := by show M4.Pairwise _; rw [HM4.out]; exact ofL_srt _
                  clear OX
                  go_wp2_with fail
                  refine (putR M4 cl[t4] w1.heap.size _ wH OHH.out HM4s (by omega)).mono ?_
                  rintro e wG ⟨vG, rfl, oG, fG⟩
                  obtain ⟨pG, cG, rfl⟩ := owns_slice2 oG
                  have hlG : (ptF M4 cl[t4]).length ≤ 10000 := by rw [HPT.out]; exact HS2.out.len
                  have OG := stop (And.intro (owns_base oG (show w1.heap.size ≤ wH.heap.size by omega)) (F4.out.trans (fG.mono hzH)))
                  clear oG fG cn0
                  go_wp2_with fail
                  go_roundw
                  case rel => exact ⟨t4 + 1, ptF M4 cl[t4], by omega, by go_num, HPT.out, hlG, OG.out.1, OG.out.2⟩
                  case measure => simp [intOf]; omega
                · have ht4e : t4 = cl.length := by omega
                  have HMF : Hid (M4 = atTo bs X i tl (q + 1)) := by
                    show _ = _
                    rw [HM4.out, ht4e, List.take_length, HM3.out, ← HA.out, HN2.out, HM.out]
                  have FF := stop (H4.out.2.trans (F4.out.mono (by omega)))
                  clear HM4 ht4e
                  go_wp2_with fail
                  go_roundw
                  case rel => exact ⟨q + 1, M4, by omega, by go_num, HMF, hm4, OHH.out, FF⟩
                  case measure => simp [intOf]; omega
    · have hqe : q = tl.length := by omega
      have HMA : Hid (M = atL bs X i) := by show _ = _; rw [HM.out, hqe]; exact atTo_all _ _ _ HT.out
      clear HM hqe
      have HAS : Hid (SM M) := by show SM M; rw [HMA.out]; exact atL_sm hf.out hXs.out i
      have hB := H1.out.2.2.1.keeps3 (Keeps.below F.out)
      obtain ⟨gv', qi, ci2, pi2, si, hgv, _, _, _, _, hc⟩ := hB.at hi
      cases hgv
      have d2 := hc 2 _ rfl
      have d3 := hc 3 _ rfl
      have HBE := stop (bkTo_end (e := bs[i].e) HAS.out.1)
      have HEA := HFI.out.e
      clear hB hc
      go_upto_if 99 with fail
      go_cut [7] from 20 (fun o wr => ∃ (p : Option Addr) (c : Nat) (M3 : List Nat), o = .slice p M3.length c ∧ Hid (M3 = bkTo M [] bs[i].e) ∧ Hid (SM M3) ∧ Hid (wr.ownsRow w1.heap.size 3 1 (.slice p M3.length c) M3.length (icell M3)) ∧ Hid (Below w1.heap.size w1 wr))
      case first =>
        by_cases h63 : bs[i].e.op = 63
        · have hd : ((bs[i].e.op : Int) == 63) = true := by simp; omega
          have HP := stop (HBE.out.1 h63)
          have HSS := stop (HAS.out.put HEA)
          clear h63
          go_wp2_with fail
          refine (putR M bs[i].e.a.1 w1.heap.size _ wA OMH.out HAS.out.1 (by omega)).mono ?_
          rintro e wG ⟨vG, rfl, oG, fG⟩
          obtain ⟨pG, cG, rfl⟩ := owns_slice2 oG
          have OG := stop (And.intro (owns_base oG (show w1.heap.size ≤ wA.heap.size by omega)) (F.out.trans (fG.mono hz)))
          clear oG fG
          go_wp2_with fail
          go_meet
          exact ⟨pG, cG, _, rfl, HP, HSS, OG.out.1, OG.out.2⟩
        · have hd : ((bs[i].e.op : Int) == 63) = false := by simp; omega
          have HP := stop (HBE.out.2 h63)
          clear h63
          go_wp2_with fail
          go_meet
          exact ⟨_, _, M, rfl, HP, HAS, OMH.out, F⟩
      case rest =>
        obtain ⟨p3, c3, M3, rfl, HM3, HS3, O3, F3⟩ := hcut
        have hz3 := F3.out.size
        have hB := H1.out.2.2.1.keeps3 (Keeps.below F3.out)
        obtain ⟨gv', qi, ci2, pi2, si, hgv, _, _, _, _, hc⟩ := hB.at hi
        cases hgv
        have d1 := hc 1 _ rfl
        have hsl := HFI.out.sl
        have HST := stop HFI.out.st
        have hM3l := HS3.out.len
        have HBK := stop (bkF_at hi)
        clear hB hc d2 d3 OMH HBE
        go_wp2_with fail
        clear d1
        go_loopw [7, 16] (fun o k wr => ∃ (j : Nat) (M5 : List Nat), j ≤ bs[i].sts.length ∧ k = .int .i64 ((j : Int) - 1) ∧ Hid (M5 = bkTo M (bs[i].sts.drop j) bs[i].e) ∧ M5.length ≤ 10000 ∧ wr.ownsRow w1.heap.size 3 1 o M5.length (icell M5) ∧ Hid (Below w1.heap.size w1 wr)) (fun _ k _ => (intOf k + 1).toNat)
        case atStart => exact ⟨bs[i].sts.length, M3, by omega, by go_num, by show _ = _; rw [List.drop_length]; exact HM3.out, hM3l, O3.out, F3⟩
        case round =>
          obtain ⟨j, M5, hj, rfl, HM5, hm5, O5, F5⟩ := hrel
          rename World => wI
          obtain ⟨p5, c5, rfl⟩ := owns_slice2 O5
          have O5H := stop O5
          have hz5 := F5.out.size
          clear O5
          by_cases hj0 : 0 < j
          · obtain ⟨j', rfl⟩ : ∃ j', j = j' + 1 := ⟨j - 1, by omega⟩
            have hk1 : (((j' + 1 : Nat) : Int) - 1) = (j' : Int) := by omega
            rw [hk1]
            have hjl : j' < bs[i].sts.length := by omega
            have hB := H1.out.2.2.1.keeps3 (Keeps.below F5.out)
            obtain ⟨gv', qi, ci2, pi2, si, hgv, _, _, _, OS, hc⟩ := hB.at hi
            cases hgv
            have d1 := hc 1 _ rfl
            obtain ⟨gs, rfl, _, _⟩ := owns_form OS (by omega)
            have t0 : wI.cell? ⟨gs, j' * 8, none⟩ = some (.int .u8 bs[i].sts[j'].op) := owns_cell OS (stepCells_at hjl (k := 0) (by omega))
            have t1 : wI.cell? ⟨gs, j' * 8 + 1, none⟩ = some (.int .i64 bs[i].sts[j'].to.1) := owns_cell OS (stepCells_at hjl (k := 1) (by omega))
            have t2 : wI.cell? ⟨gs, j' * 8 + 2, none⟩ = some (.int .i64 bs[i].sts[j'].to.2) := owns_cell OS (stepCells_at hjl (k := 2) (by omega))
            have t3 : wI.cell? ⟨gs, j' * 8 + 3, none⟩ = some (.int .i64 bs[i].sts[j'].a.1) := owns_cell OS (stepCells_at hjl (k := 3) (by omega))
            have t4 : wI.cell? ⟨gs, j' * 8 + 4, none⟩ = some (.int .i64 bs[i].sts[j'].a.2) := owns_cell OS (stepCells_at hjl (k := 4) (by omega))
            have t5 : wI.cell? ⟨gs, j' * 8 + 5, none⟩ = some (.int .i64 bs[i].sts[j'].b.1) := owns_cell OS (stepCells_at hjl (k := 5) (by omega))
            have t6 : wI.cell? ⟨gs, j' * 8 + 6, none⟩ = some (.int .i64 bs[i].sts[j'].b.2) := owns_cell OS (stepCells_at hjl (k := 6) (by omega))
            have t7 : wI.cell? ⟨gs, j' * 8 + 7, none⟩ = some (.int .i64 bs[i].sts[j'].n) := owns_cell OS (stepCells_at hjl (k := 7) (by omega))
            have HTF := stop (HST.out _ (List.getElem_mem hjl))
            have HDR := stop (List.drop_eq_getElem_cons hjl)
            have HMS : Hid (SM M5) := by
              show SM M5
              rw [HM5.out]
              exact bkTo_sm HAS.out (fun t ht => HST.out t (List.mem_of_mem_drop ht)) HEA
            clear hB hc OS hk1
            by_cases h33 : bs[i].sts[j'].op = 33
            · have hd : ((bs[i].sts[j'].op : Int) != 33) = false := by simp; omega
              have HNX := stop (bkTo_put (A := M) (ts := bs[i].sts.drop (j' + 1)) (e := bs[i].e) h33)
              rw [← HM5.out, ← HDR.out] at HNX
              clear h33
              go_wp2_with fail
              refine (readsR bs[i].sts[j'] _).mono ?_
              rintro r wJ ⟨vr, rfl, oR, fR⟩
              obtain ⟨pr, cr, rfl⟩ := owns_slice2 oR
              have sR := fR.size
              have HJ := stop (And.intro (owns_base oR (Nat.zero_le _)) (And.intro (owns_keeps (O5H.out.alloc _) (Keeps.below (T := fun _ => True) fR) trivial) ((F5.out.alloc hz5 _).trans (fR.mono (by rw [World.size_alloc]; omega)))))
              have hrl := rdsF_le2 bs[i].sts[j']
              have HRL : Hid (∀ x ∈ (rdsF bs[i].sts[j']).map (·.1), x < 10000) := fun x hx => rds_lt HTF.out hx
              have HSS : Hid (SM (M5)) := HMS.out
              clear oR fR
              generalize hrq : rdsF bs[i].sts[j'] = rq at *
              clear hrq
              go_wp2_with fail
              go_loopw [7, 19] (fun o k wr => ∃ (t : Nat) (M6 : List Nat), t ≤ rq.length ∧ k = .int .i64 t ∧ Hid (M6 = ofL (M5 ++ (rq.map (·.1)).take t)) ∧ M6.length ≤ 10000 ∧ wr.ownsRow w1.heap.size 3 1 o M6.length (icell M6) ∧ Hid (Below wJ.heap.size wJ wr)) (fun _ k _ => rq.length - (intOf k).toNat)
              case atStart => exact ⟨0, M5, by omega, rfl, by show _ = _; rw [List.take_zero, ofL_app_nil HSS.out.1], HSS.out.len, HJ.out.2.1, Below.refl _ _⟩
              case round =>
                obtain ⟨t6, M6, ht6, rfl, HM6, hm6, O6, F6⟩ := hrel
                rename World => wK
                obtain ⟨p6, c6, rfl⟩ := owns_slice2 O6
                have hz6 := F6.out.size
                have O6H := stop O6
                clear O6
                by_cases ht6l : t6 < rq.length
                · have OX := owns_keeps HJ.out.1 (Keeps.below (T := fun _ => True) F6.out) trivial
                  obtain ⟨gn, rfl, _, _⟩ := owns_form OX (by omega)
                  have cn0 := owns_cell OX (pcs_at ht6l).1
                  have ht6m : t6 < (rq.map (·.1)).length := by rw [List.length_map]; exact ht6l
                  have HPT := stop (put_take (a := M5) ht6m)
                  rw [List.getElem_map, ← HM6.out] at HPT
                  have HS2 : Hid (SM (ofL (M5 ++ (rq.map (·.1)).take (t6 + 1)))) := HSS.out.puts fun x hx => HRL.out x (List.mem_of_mem_take hx)
                  have HM6s : Hid (M6.Pairwise (· < ·)) := by show M6.Pairwise _; rw [HM6.out]; exact ofL_srt _
                  clear OX
                  go_wp2_with fail
                  refine (putR M6 rq[t6].1 w1.heap.size _ wK O6H.out HM6s (by omega)).mono ?_
                  rintro e wG ⟨vG, rfl, oG, fG⟩
                  obtain ⟨pG, cG, rfl⟩ := owns_slice2 oG
                  have hlG : (ptF M6 rq[t6].1).length ≤ 10000 := by rw [HPT.out]; exact HS2.out.len
                  have hw1 := HJ.out.2.2.size
                  have OG := stop (And.intro (owns_base oG (show w1.heap.size ≤ wK.heap.size by omega)) (F6.out.trans (fG.mono hz6)))
                  clear oG fG cn0
                  go_wp2_with fail
                  go_roundw
                  case rel => exact ⟨t6 + 1, ptF M6 rq[t6].1, by omega, by go_num, HPT.out, hlG, OG.out.1, OG.out.2⟩
                  case measure => simp [intOf]; omega
                · have ht6e : t6 = rq.length := by omega
                  have HMF : Hid (M6 = bkTo M (bs[i].sts.drop j') bs[i].e) := by
                    show _ = _
                    rw [HM6.out, ht6e, List.take_of_length_le (by rw [List.length_map]; omega)]
                    exact HNX.out
                  have FF := stop (HJ.out.2.2.trans (F6.out.mono HJ.out.2.2.size))
                  clear HM6 ht6e
                  go_wp2_with fail
                  go_roundw
                  case rel => exact ⟨j', M6, by omega, by go_num, HMF, hm6, O6H.out, FF⟩
                  case measure => simp [intOf]
            · have hd : ((bs[i].sts[j'].op : Int) != 33) = true := by simp; omega
              have HNX := stop (bkTo_give (A := M) (ts := bs[i].sts.drop (j' + 1)) (e := bs[i].e) h33)
              rw [← HM5.out, ← HDR.out] at HNX
              clear h33
              have gW := heap_alloc_last wI (.cells #[.int .u8 bs[i].sts[j'].op, .int .i64 bs[i].sts[j'].to.1, .int .i64 bs[i].sts[j'].to.2, .int .i64 bs[i].sts[j'].a.1, .int .i64 bs[i].sts[j'].a.2, .int .i64 bs[i].sts[j'].b.1, .int .i64 bs[i].sts[j'].b.2, .int .i64 bs[i].sts[j'].n] 163)
              have sW : (wI.alloc (.cells #[.int .u8 bs[i].sts[j'].op, .int .i64 bs[i].sts[j'].to.1, .int .i64 bs[i].sts[j'].to.2, .int .i64 bs[i].sts[j'].a.1, .int .i64 bs[i].sts[j'].a.2, .int .i64 bs[i].sts[j'].b.1, .int .i64 bs[i].sts[j'].b.2, .int .i64 bs[i].sts[j'].n] 163)).heap.size = wI.heap.size + 1 := World.size_alloc _ _
              have OW := stop (O5H.out.alloc (.cells #[.int .u8 bs[i].sts[j'].op, .int .i64 bs[i].sts[j'].to.1, .int .i64 bs[i].sts[j'].to.2, .int .i64 bs[i].sts[j'].a.1, .int .i64 bs[i].sts[j'].a.2, .int .i64 bs[i].sts[j'].b.1, .int .i64 bs[i].sts[j'].b.2, .int .i64 bs[i].sts[j'].n] 163))
              have FW := stop (F5.out.alloc hz5 (.cells #[.int .u8 bs[i].sts[j'].op, .int .i64 bs[i].sts[j'].to.1, .int .i64 bs[i].sts[j'].to.2, .int .i64 bs[i].sts[j'].a.1, .int .i64 bs[i].sts[j'].a.2, .int .i64 bs[i].sts[j'].b.1, .int .i64 bs[i].sts[j'].b.2, .int .i64 bs[i].sts[j'].n] 163))
              go_wp2_with fail
              generalize wI.alloc (.cells #[.int .u8 bs[i].sts[j'].op, .int .i64 bs[i].sts[j'].to.1, .int .i64 bs[i].sts[j'].to.2, .int .i64 bs[i].sts[j'].a.1, .int .i64 bs[i].sts[j'].a.2, .int .i64 bs[i].sts[j'].b.1, .int .i64 bs[i].sts[j'].b.2, .int .i64 bs[i].sts[j'].n] 163) = WI at *
              refine (outR M5 bs[i].sts[j'].to.1 w1.heap.size _ WI OW.out (by omega)).mono ?_
              rintro r wO ⟨vO, rfl, oO, fO⟩
              obtain ⟨pO, cO, rfl⟩ := owns_slice2 oO
              have sO := fO.size
              have gO : wO.heap[wI.heap.size]? = some (.cells #[.int .u8 bs[i].sts[j'].op, .int .i64 bs[i].sts[j'].to.1, .int .i64 bs[i].sts[j'].to.2, .int .i64 bs[i].sts[j'].a.1, .int .i64 bs[i].sts[j'].a.2, .int .i64 bs[i].sts[j'].b.1, .int .i64 bs[i].sts[j'].b.2, .int .i64 bs[i].sts[j'].n] 163 (0, 0)) := by rw [fO.block _ (by omega)]; exact gW
              have k0 := cell_of gO 0
              have k1 := cell_of gO 1
              have k2 := cell_of gO 2
              have k3 := cell_of gO 3
              have k4 := cell_of gO 4
              have k5 := cell_of gO 5
              have k6 := cell_of gO 6
              have k7 := cell_of gO 7
              simp at k0 k1 k2 k3 k4 k5 k6 k7
              have HO := stop (And.intro (owns_base oO (show w1.heap.size ≤ WI.heap.size by omega)) (FW.out.trans (fO.mono (by omega))))
              clear oO fO gO gW
              go_wp2_with fail
              clear k0 k1 k2 k3 k4 k5 k6 k7
              refine (readsR bs[i].sts[j'] _).mono ?_
              rintro r wJ ⟨vr, rfl, oR, fR⟩
              obtain ⟨pr, cr, rfl⟩ := owns_slice2 oR
              have sR := fR.size
              have HJ := stop (And.intro (owns_base oR (Nat.zero_le _)) (And.intro (owns_keeps (HO.out.1) (Keeps.below (T := fun _ => True) fR) trivial) ((HO.out.2).trans (fR.mono (by omega)))))
              have hrl := rdsF_le2 bs[i].sts[j']
              have HRL : Hid (∀ x ∈ (rdsF bs[i].sts[j']).map (·.1), x < 10000) := fun x hx => rds_lt HTF.out hx
              have HSS : Hid (SM (wo M5 bs[i].sts[j'].to.1)) := HMS.out.wo _
              clear oR fR
              generalize hrq : rdsF bs[i].sts[j'] = rq at *
              clear hrq
              go_wp2_with fail
              go_loopw [7, 19] (fun o k wr => ∃ (t : Nat) (M6 : List Nat), t ≤ rq.length ∧ k = .int .i64 t ∧ Hid (M6 = ofL (wo M5 bs[i].sts[j'].to.1 ++ (rq.map (·.1)).take t)) ∧ M6.length ≤ 10000 ∧ wr.ownsRow w1.heap.size 3 1 o M6.length (icell M6) ∧ Hid (Below wJ.heap.size wJ wr)) (fun _ k _ => rq.length - (intOf k).toNat)
              case atStart => exact ⟨0, wo M5 bs[i].sts[j'].to.1, by omega, rfl, by show _ = _; rw [List.take_zero, ofL_app_nil HSS.out.1], HSS.out.len, HJ.out.2.1, Below.refl _ _⟩
              case round =>
                obtain ⟨t6, M6, ht6, rfl, HM6, hm6, O6, F6⟩ := hrel
                rename World => wK
                obtain ⟨p6, c6, rfl⟩ := owns_slice2 O6
                have hz6 := F6.out.size
                have O6H := stop O6
                clear O6
                by_cases ht6l : t6 < rq.length
                · have OX := owns_keeps HJ.out.1 (Keeps.below (T := fun _ => True) F6.out) trivial
                  obtain ⟨gn, rfl, _, _⟩ := owns_form OX (by omega)
                  have cn0 := owns_cell OX (pcs_at ht6l).1
                  have ht6m : t6 < (rq.map (·.1)).length := by rw [List.length_map]; exact ht6l
                  have HPT := stop (put_take (a := wo M5 bs[i].sts[j'].to.1) ht6m)
                  rw [List.getElem_map, ← HM6.out] at HPT
                  have HS2 : Hid (SM (ofL (wo M5 bs[i].sts[j'].to.1 ++ (rq.map (·.1)).take (t6 + 1)))) := HSS.out.puts fun x hx => HRL.out x (List.mem_of_mem_take hx)
                  have HM6s : Hid (M6.Pairwise (· < ·)) := by show M6.Pairwise _; rw [HM6.out]; exact ofL_srt _
                  clear OX
                  go_wp2_with fail
                  refine (putR M6 rq[t6].1 w1.heap.size _ wK O6H.out HM6s (by omega)).mono ?_
                  rintro e wG ⟨vG, rfl, oG, fG⟩
                  obtain ⟨pG, cG, rfl⟩ := owns_slice2 oG
                  have hlG : (ptF M6 rq[t6].1).length ≤ 10000 := by rw [HPT.out]; exact HS2.out.len
                  have hw1 := HJ.out.2.2.size
                  have OG := stop (And.intro (owns_base oG (show w1.heap.size ≤ wK.heap.size by omega)) (F6.out.trans (fG.mono hz6)))
                  clear oG fG cn0
                  go_wp2_with fail
                  go_roundw
                  case rel => exact ⟨t6 + 1, ptF M6 rq[t6].1, by omega, by go_num, HPT.out, hlG, OG.out.1, OG.out.2⟩
                  case measure => simp [intOf]; omega
                · have ht6e : t6 = rq.length := by omega
                  have HMF : Hid (M6 = bkTo M (bs[i].sts.drop j') bs[i].e) := by
                    show _ = _
                    rw [HM6.out, ht6e, List.take_of_length_le (by rw [List.length_map]; omega)]
                    exact HNX.out
                  have FF := stop (HJ.out.2.2.trans (F6.out.mono HJ.out.2.2.size))
                  clear HM6 ht6e
                  go_wp2_with fail
                  go_roundw
                  case rel => exact ⟨j', M6, by omega, by go_num, HMF, hm6, O6H.out, FF⟩
                  case measure => simp [intOf]
          · have hje : j = 0 := by omega
            subst hje
            have HFN : Hid (M5 = mstep bs X i) := by
              show _ = _
              rw [HM5.out, List.drop_zero, HMA.out, ← HBK.out, bkTo_all]
            go_wp2_with fail
            go_ret
            exact ⟨_, rfl, by rw [← HFN.out]; exact owns_base O5H.out s1, H1.out.2.1.trans (F5.out.mono s1)⟩

end Go.Proofs.YtgfhfkgdmidhpaaGreat
