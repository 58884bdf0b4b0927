import Derived.Test.YtgfhfkgdmidhpaaGreatMF
namespace Go.Proofs.YtgfhfkgdmidhpaaGreat
open Go.RowKit

theorem rdTo_sm {b : RBlk} {n : Nat} (h : BFine n b) (k : Nat) : SM (rdTo b.sts k) := SM.of fun _ hx => rdLs_lt (e := noEnd) (by show 0 < 10000; omega) (fun t ht => h.st t (List.mem_of_mem_take ht)) hx
theorem gvTo_sm {b : RBlk} {n : Nat} (h : BFine n b) (k : Nat) : SM (gvTo b.sts k) := SM.of fun x hx => by
  rw [gvLs, List.mem_map] at hx
  obtain ⟨t, ht, rfl⟩ := hx
  exact (h.st t (List.mem_of_mem_take (List.mem_filter.1 ht).1)).1
theorem rdsF_le (t : RStep) : (rdsF t).length ≤ 2 := by
  unfold rdsF
  repeat' split
  all_goals simp
theorem rdsF_lt {t : RStep} (h : StFine t) : ∀ p ∈ rdsF t, p.1 < 10000 := fun p hp => rds_lt h (List.mem_map.2 ⟨p, hp, rfl⟩)
/-- The world within effectOf. -/
def EfI (b : RBlk) (w : World) (box : Array Value) (k : Nat) (vr vg : Value) (wr : World) : Prop :=
  wr.heap[w.heap.size]? = some (.cells box 69 (0, 0)) ∧ wr.heap[w.heap.size + 1]? = some (.cells #[.slice none 0 0, .slice none 0 0] 152 (0, 0)) ∧ wr.heap[w.heap.size + 1 + 1]? = some (.cells #[vr, vg] 152 (0, 0)) ∧
  wr.ownsRow w.heap.size 56 1 vr (rdTo b.sts k).length (icell (rdTo b.sts k)) ∧ wr.ownsRow w.heap.size 56 1 vg (gvTo b.sts k).length (icell (gvTo b.sts k)) ∧ Apart vg vr ∧ Below w.heap.size w wr
theorem EfI.keeps {b w box k vr vg wr wr'} (h : EfI b w box k vr vg wr) (F : Below wr.heap.size wr wr') : EfI b w box k vr vg wr' := by
  obtain ⟨a1, a2, a3, a4, a5, a6, a7⟩ := h
  have K := Keeps.below (base := w.heap.size) (T := fun _ => True) F
  exact ⟨by rw [F.block _ (lt_of_block a1)]; exact a1, by rw [F.block _ (lt_of_block a2)]; exact a2, by rw [F.block _ (lt_of_block a3)]; exact a3, owns_keeps a4 K trivial, owns_keeps a5 K trivial, a6, a7.trans (F.mono a7.size)⟩

set_option maxRecDepth 100000 in
set_option maxHeartbeats 2000000 in
theorem effP (b : RBlk) (n : Nat) (hf : Hid (BFine n b)) (hop : Hid (b.e.op = 46 ∨ b.e.op = 62 ∨ b.e.op = 63)) (at_ base : Nat) (qc : Option Addr) (mc cc : Nat) (ps : Option Addr) (cs : Nat) (w : World) (hS : w.ownsRow base 209 1 (.slice ps b.sts.length cs) b.sts.length (b.sts.map stVal)) (hl : b.sts.length ≤ 1000000) :
    Calls Tryz.prog 81 #[.agg #[.int .i64 at_, .slice qc mc cc, .slice ps b.sts.length cs, endVal b.e]] w fun x w' => ∃ vr vg, x = .returned (.agg #[vr, vg]) ∧ Hid (w'.ownsRow w.heap.size 56 1 vr (rdB b).length (icell (rdB b)) ∧ w'.ownsRow w.heap.size 56 1 vg (gvB b).length (icell (gvB b)) ∧ Below w.heap.size w w') := by
  obtain ⟨TE, xe, fe, hev, hem, het, hec⟩ := endM b.e hop.out
  rw [hev]
  have HES := stop (And.intro hem (And.intro het hec))
  have HS := stop hS
  clear hev hem het hec hS
  go_enter Tryz.func81, Tryz.ntmps81
  go_wp2_with fail
  obtain ⟨W, hW⟩ : ∃ W, W = ((w.alloc (.cells #[.int .i64 at_, .slice qc mc cc, .slice ps b.sts.length cs, .iface TE xe] 69)).alloc (.cells #[.slice none 0 0, .slice none 0 0] 152)).alloc (.cells #[.slice none 0 0, .slice none 0 0] 152) := ⟨_, rfl⟩
  rw [← hW]
  obtain ⟨g0, g1, g2, hz, f3⟩ := three w (.cells #[.int .i64 at_, .slice qc mc cc, .slice ps b.sts.length cs, .iface TE xe] 69) (.cells #[.slice none 0 0, .slice none 0 0] 152) (.cells #[.slice none 0 0, .slice none 0 0] 152)
  rw [← hW] at g0 g1 g2 hz f3
  have H0 : Hid (EfI b w #[.int .i64 at_, .slice qc mc cc, .slice ps b.sts.length cs, .iface TE xe] 0 (.slice none 0 0) (.slice none 0 0) W) := ⟨g0, g1, g2, by rw [rdTo_zero]; exact World.ownsRow_nil _ _ _ _, by rw [gvTo_zero]; exact World.ownsRow_nil _ _ _ _, (fun k hk => by cases hk), f3⟩
  clear hW g0 g1 g2 f3
  go_loopw [11] (fun i wr => ∃ (k : Nat) (vr vg : Value), k ≤ b.sts.length ∧ i = .int .i64 k ∧ Hid (EfI b w #[.int .i64 at_, .slice qc mc cc, .slice ps b.sts.length cs, .iface TE xe] k vr vg wr)) (fun i _ => b.sts.length - (intOf i).toNat)
  case atStart => exact ⟨0, _, _, by omega, rfl, H0⟩
  case round =>
    clear H0
    obtain ⟨k, vr, vg, hk, rfl, HI⟩ := hrel
    have hz := HI.out.2.2.2.2.2.2.size
    by_cases hlt : k < b.sts.length
    · have OS := owns_keeps HS.out (Keeps.below (T := fun _ => True) HI.out.2.2.2.2.2.2) trivial
      obtain ⟨gs, rfl, _, _⟩ := owns_form OS (by omega)
      obtain ⟨T, x, fr, fg, hsv, hrm, hrt, hrc, hgm, hgt, hgc⟩ := stepM b.sts[k]
      have cS := owns_cell OS (j := k) (u := .iface T x) (by rw [← hsv]; simp [hlt])
      have HR := stop (And.intro hrm (And.intro hrt hrc))
      have HG := stop (And.intro hgm (And.intro hgt hgc))
      clear hsv hrm hrt hrc hgm hgt hgc OS
      go_wp2_with fail
      rw [HR.out.1, Result.andThen_ok]
      simp only [HR.out.2.1]
      unfold Oper.upon
      refine (HR.out.2.2 _).mono ?_
      rintro r w1 ⟨vq, rfl, o1, f1⟩
      have HI1 := stop (HI.out.keeps f1)
      have HQ := stop (owns_base o1 (Nat.zero_le _))
      obtain ⟨pq, cq, rfl⟩ := owns_slice2 o1
      have hrl := rdsF_le b.sts[k]
      have HT := hf.out.st _ (List.getElem_mem hlt)
      have HRL := stop (rdsF_lt HT)
      have HRS := stop (rdTo_sm hf.out k)
      have HGS := stop (gvTo_sm hf.out k)
      have HNX := stop (rdTo_succ hlt)
      clear HR HI cS o1 f1 HT
      go_wp2_with fail
      refine (readE (rdTo b.sts k) (gvTo b.sts k) (rdsF b.sts[k]) HGS HRS HRL (w.heap.size + 1 + 1) w.heap.size vr vg _ w1 HI1.out.2.2.1 HI1.out.2.2.2.1 HI1.out.2.2.2.2.1 HI1.out.2.2.2.2.2.1 HQ.out (by omega) (by omega)).mono ?_
      rintro r w2 ⟨rfl, vr2, H2⟩
      have HI2 : Hid (w2.heap[w.heap.size]? = some (.cells #[.int .i64 at_, .slice qc mc cc, .slice (some ⟨gs, 0, none⟩) b.sts.length cs, .iface TE xe] 69 (0, 0)) ∧ w2.heap[w.heap.size + 1]? = some (.cells #[.slice none 0 0, .slice none 0 0] 152 (0, 0)) ∧ w2.heap[w.heap.size + 1 + 1]? = some (.cells #[vr2, vg] 152 (0, 0)) ∧ w2.ownsRow w.heap.size 56 1 vr2 (rdTo b.sts (k + 1)).length (icell (rdTo b.sts (k + 1))) ∧ w2.ownsRow w.heap.size 56 1 vg (gvTo b.sts k).length (icell (gvTo b.sts k)) ∧ Apart vg vr2 ∧ Below w.heap.size w w2) := by
        obtain ⟨a1, a2, a3, a4, a5, a6, a7⟩ := HI1.out
        obtain ⟨j1, j2, j3, j4, j5, j6⟩ := H2.out
        rw [rrF, HNX.out] at j2
        exact ⟨j5 _ _ _ (by omega) (by decide) a1, j5 _ _ _ (by omega) (by decide) a2, j1, j2, j3, j4, a7.trans j6⟩
      have hz2 := HI2.out.2.2.2.2.2.2.size
      clear HI1 HQ H2 HNX HRS HRL
      by_cases h33 : b.sts[k].op = 33
      · have hg2 : ∀ w : World, Calls Tryz.prog fg #[x] w fun r w' => r = .returned (.tuple #[.agg #[.int .i64 0, .int .i64 0], .bool false]) ∧ Below w.heap.size w w' := fun w => (HG.out.2.2 w).mono (by
          rintro r w' ⟨rfl, f⟩
          exact ⟨by simp [h33], f⟩)
        have HG2 := stop hg2
        have HNG := stop (gvTo_put hlt h33)
        clear hg2 h33
        go_wp2_with fail
        rw [HG.out.1, Result.andThen_ok]
        simp only [HG.out.2.1]
        unfold Oper.upon
        refine (HG2.out _).mono ?_
        rintro r w3 ⟨rfl, f3⟩
        have HI3 : Hid (EfI b w #[.int .i64 at_, .slice qc mc cc, .slice (some ⟨gs, 0, none⟩) b.sts.length cs, .iface TE xe] (k + 1) vr2 vg (w3.alloc (.cells #[.int .i64 0, .int .i64 0] 108))) := by
          obtain ⟨a1, a2, a3, a4, a5, a6, a7⟩ := HI2.out
          rw [HNG.out] at a5
          exact (EfI.keeps (wr := w2) ⟨a1, a2, a3, a4, a5, a6, a7⟩ f3).keeps ((Below.refl w3.heap.size w3).alloc (Nat.le_refl _) _)
        clear HI2 HG HG2 f3
        go_wp2_with fail
        go_roundw
        case rel => exact ⟨k + 1, vr2, vg, by omega, by go_num, HI3⟩
        case measure => simp [intOf]; omega
      · have hg2 : ∀ w : World, Calls Tryz.prog fg #[x] w fun r w' => r = .returned (.tuple #[.agg #[.int .i64 b.sts[k].to.1, .int .i64 b.sts[k].to.2], .bool true]) ∧ Below w.heap.size w w' := fun w => (HG.out.2.2 w).mono (by
          rintro r w' ⟨rfl, f⟩
          exact ⟨by simp [h33], f⟩)
        have HG2 := stop hg2
        have HNG := stop (gvTo_give hlt h33)
        clear hg2 h33
        go_wp2_with fail
        rw [HG.out.1, Result.andThen_ok]
        simp only [HG.out.2.1]
        unfold Oper.upon
        refine (HG2.out _).mono ?_
        rintro r w3 ⟨rfl, f3⟩
        obtain ⟨W4, hW4⟩ : ∃ W4, W4 = w3.alloc (.cells #[.int .i64 b.sts[k].to.1, .int .i64 b.sts[k].to.2] 108) := ⟨_, rfl⟩
        have HI3 : Hid (W4.heap[w.heap.size]? = some (.cells #[.int .i64 at_, .slice qc mc cc, .slice (some ⟨gs, 0, none⟩) b.sts.length cs, .iface TE xe] 69 (0, 0)) ∧ W4.heap[w.heap.size + 1]? = some (.cells #[.slice none 0 0, .slice none 0 0] 152 (0, 0)) ∧ W4.heap[w.heap.size + 1 + 1]? = some (.cells #[vr2, vg] 152 (0, 0)) ∧ W4.ownsRow w.heap.size 56 1 vr2 (rdTo b.sts (k + 1)).length (icell (rdTo b.sts (k + 1))) ∧ W4.ownsRow w.heap.size 56 1 vg (gvTo b.sts k).length (icell (gvTo b.sts k)) ∧ Apart vg vr2 ∧ Below w.heap.size w W4) := by
          obtain ⟨a1, a2, a3, a4, a5, a6, a7⟩ := HI2.out
          have F := f3.trans (((Below.refl w3.heap.size w3).alloc (Nat.le_refl _) (.cells #[.int .i64 b.sts[k].to.1, .int .i64 b.sts[k].to.2] 108)).mono f3.size)
          rw [← hW4] at F
          have K := Keeps.below (base := w.heap.size) (T := fun _ => True) F
          exact ⟨by rw [F.block _ (lt_of_block a1)]; exact a1, by rw [F.block _ (lt_of_block a2)]; exact a2, by rw [F.block _ (lt_of_block a3)]; exact a3, owns_keeps a4 K trivial, owns_keeps a5 K trivial, a6, a7.trans (F.mono a7.size)⟩
        have hz4 := HI3.out.2.2.2.2.2.2.size
        have hgl := HGS.out.len
        have HGP := stop HGS.out.1
        clear HI2 HG HG2 f3
        go_wp2_with fail
        rw [← hW4]
        clear hW4
        refine (addR (gvTo b.sts k) b.sts[k].to.1 HGP (w.heap.size + 1 + 1) 1 w.heap.size #[vr2, vg] 152 vg W4 HI3.out.2.2.1 rfl HI3.out.2.2.2.2.1 (by omega) (by omega) (own_type HI3.out.2.2.2.2.1 HI3.out.2.2.1 (by decide))).mono ?_
        rintro r w5 ⟨bb, vg5, rfl, H5⟩
        have HI5 : Hid (EfI b w #[.int .i64 at_, .slice qc mc cc, .slice (some ⟨gs, 0, none⟩) b.sts.length cs, .iface TE xe] (k + 1) vr2 vg5 w5) := by
          obtain ⟨a1, a2, a3, a4, a5, a6, a7⟩ := HI3.out
          obtain ⟨_, j1, j2, j3⟩ := H5.out
          have KA := Ke.ad j3 a5
          rw [ptF, HNG.out] at j2
          exact ⟨KA _ _ _ (by omega) (by decide) a1, KA _ _ _ (by omega) (by decide) a2, j1, j3.owns a4 (own_type a4 a3 (by decide)) a6.symm, j2, (j3.apart a4 a6.symm).symm, j3.below a7 (by omega) (fun k hk => (a5.lt k hk).1) (by omega)⟩
        clear HI3 H5
        go_wp2_with fail
        go_roundw
        case rel => exact ⟨k + 1, vr2, vg5, by omega, by go_num, HI5⟩
        case measure => simp [intOf]; omega
    · have hke : k = b.sts.length := by omega
      subst hke
      have b3 := cell_of HI.out.1 3
      simp at b3
      have HRE := stop (rdTo_end b)
      have HGE := stop (gvTo_all b)
      have HRS := stop (rdTo_sm hf.out b.sts.length)
      have HGS := stop (gvTo_sm hf.out b.sts.length)
      have HEL : Hid (∀ p ∈ endRg b.e, p.1 < 10000) := fun p hp => by
        have h1 := hf.out.e
        unfold endRg at hp
        split at hp
        · rw [List.mem_singleton] at hp; rw [hp]; exact h1
        · simp at hp
      have hel : (endRg b.e).length ≤ 1 := by
        unfold endRg; split <;> simp
      have HEM := stop (endRg_map b.e)
      go_wp2_with fail
      rw [HES.out.1, Result.andThen_ok]
      simp only [HES.out.2.1]
      unfold Oper.upon
      refine (HES.out.2.2 _).mono ?_
      rintro r w1 ⟨vq, rfl, o1, f1⟩
      have HI1 := stop (HI.out.keeps f1)
      have HQ := stop (owns_base o1 (Nat.zero_le _))
      obtain ⟨pq, cq, rfl⟩ := owns_slice2 o1
      clear HI o1 f1 b3
      go_wp2_with fail
      refine (readE (rdTo b.sts b.sts.length) (gvTo b.sts b.sts.length) (endRg b.e) HGS HRS HEL (w.heap.size + 1 + 1) w.heap.size vr vg _ w1 HI1.out.2.2.1 HI1.out.2.2.2.1 HI1.out.2.2.2.2.1 HI1.out.2.2.2.2.2.1 HQ.out (by omega) (by omega)).mono ?_
      rintro r w2 ⟨rfl, vr2, H2⟩
      have H3 : Hid (w2.heap[w.heap.size + 1]? = some (.cells #[.slice none 0 0, .slice none 0 0] 152 (0, 0)) ∧ w2.heap[w.heap.size + 1 + 1]? = some (.cells #[vr2, vg] 152 (0, 0)) ∧ w2.ownsRow w.heap.size 56 1 vr2 (rdB b).length (icell (rdB b)) ∧ w2.ownsRow w.heap.size 56 1 vg (gvB b).length (icell (gvB b)) ∧ Below w.heap.size w w2) := by
        obtain ⟨a1, a2, a3, a4, a5, a6, a7⟩ := HI1.out
        obtain ⟨j1, j2, j3, j4, j5, j6⟩ := H2.out
        rw [rrF, HEM.out, HRE.out] at j2
        rw [HGE.out] at j3
        exact ⟨j5 _ _ _ (by omega) (by decide) a2, j1, j2, j3, a7.trans j6⟩
      have e0 := cell_of H3.out.2.1 0
      have e1 := cell_of H3.out.2.1 1
      have r0 := cell_of H3.out.1 0
      have r1 := cell_of H3.out.1 1
      have z0 := frozen_of H3.out.1 0
      have z1 := frozen_of H3.out.1 1
      simp at e0 e1 r0 r1
      obtain ⟨pr2, cr2, rfl⟩ := owns_slice2 H3.out.2.2.1
      obtain ⟨pg2, cg2, rfl⟩ := owns_slice2 H3.out.2.2.2.1
      clear HI1 HQ H2
      go_wp2_with fail
      have q1 := blk_set H3.out.1 0 (.slice pr2 (rdB b).length cr2)
      have q2 := blk_set q1 1 (.slice pg2 (gvB b).length cg2)
      have k0 := cell_of q2 0
      have k1 := cell_of q2 1
      simp at k0 k1
      refine bodyPost_ret (v := .agg #[.slice pr2 (rdB b).length cr2, .slice pg2 (gvB b).length cg2]) (by simp [results, Tryz.results81, go_sem, k0, k1]) rfl ⟨_, _, rfl, ?_⟩
      obtain ⟨a1, a2, a3, a4, a5⟩ := H3.out
      exact ⟨owns_setT (owns_setT a3 a1 (by decide)) q1 (by decide), owns_setT (owns_setT a4 a1 (by decide)) q1 (by decide), below_set (below_set a5 _ _ _ (by omega)) _ _ _ (by omega)⟩

end Go.Proofs.YtgfhfkgdmidhpaaGreat
