import Derived.Test.YtjimoigbdcalpaaTk
namespace Go.Proofs.Ytjimoigbdcalpaa
open Go.RowKit

def behF (gl : List (Nat × Nat)) : List Nat := match gl with
  | [] => []
  | [x] => [x.1]
  | x :: y :: _ => if y.1 = x.1 then [x.1] else [x.1, y.1]
def behTo (gl : List (Nat × Nat)) (k : Nat) : List Nat := behF (gl.take k)
theorem goalsF_le (e : REnd) : (goalsF e).length ≤ 2 := by
  unfold goalsF
  by_cases h1 : e.op = 62
  · simp [h1]
  · by_cases h2 : e.op = 63 <;> simp [h1, h2]
theorem Try.info3 : (Try.prog.info? 3).map (fun i => (i.zero, i.size, i.bytes)) = some (some (.int .i64 0), 1, 8) := by kernel_rfl

set_option maxRecDepth 100000 in
set_option maxHeartbeats 400000 in
theorem behind_any (qc : Option Addr) (mc cc : Nat) (ps : Option Addr) (ms cs : Nat) (e : REnd) (at_ : Nat) (w : World) :
    Calls Try.prog 43 #[.agg #[.slice qc mc cc, .slice ps ms cs, .int .u8 e.op, .int .i64 e.a.1, .int .i64 e.a.2, .int .i64 e.one.1, .int .i64 e.one.2, .int .i64 e.two.1, .int .i64 e.two.2, .int .i64 at_]] w
      fun x w' => ∃ v, x = .returned v ∧ w'.ownsRow w.heap.size 3 1 v (behF (goalsF e)).length (icell (behF (goalsF e))) ∧ Below w.heap.size w w' := by
  have hgl := goalsF_le e
  go_enter Try.func43, Try.ntmps43
  go_wp2_with fail
  refine (goals_any qc mc cc ps ms cs e at_ _).mono ?_
  rintro x w1 ⟨vg, rfl, OG, f1⟩
  have F : Below w.heap.size w w1 := ((Below.refl _ _).alloc (Nat.le_refl _) _).trans (f1.mono (by simp))
  rw [World.size_alloc] at OG
  have hz : w.heap.size + 1 ≤ w1.heap.size := by simpa using f1.size
  clear f1
  generalize hgl2 : goalsF e = gl at *
  have HGL := stop hgl2
  clear hgl2
  obtain ⟨pg, cg, rfl⟩ := owns_slice2 OG
  go_wp2_with fail
  go_loopw [3, 5] (fun l i wr => ∃ k : Nat, k ≤ gl.length ∧ i = .int .i64 k ∧ wr.ownsRow (w.heap.size + 1) 3 1 l (behTo gl k).length (icell (behTo gl k)) ∧ wr.ownsRow (w.heap.size + 1) 52 2 (.slice pg gl.length cg) gl.length (pcs gl) ∧ Below w.heap.size w wr ∧ w.heap.size + 1 ≤ wr.heap.size) (fun _ i _ => gl.length - (intOf i).toNat)
  case atStart => exact ⟨0, by omega, rfl, World.ownsRow_nil _ _ _ _, OG, F, hz⟩
  case round =>
    clear OG F hz
    obtain ⟨k, hk, rfl, OL, OG, F, hz⟩ := hrel
    obtain ⟨pl, cl, rfl⟩ := owns_slice2 OL
    by_cases hlt : k < gl.length
    · obtain ⟨gg, rfl, hgb, hgs⟩ := owns_form OG (by omega)
      match gl, k, hgl, hk, hlt with
      | [x], 0, _, _, _ =>
        have c0 := owns_cell OG (j := 0) (u := .int .i64 x.1) (by simp [pcs, pc])
        have hd : ((0 : Int) == 0) = true := rfl
        go_wp2_with fail
        go_quiet (fail)
        go_wp2_with (at_builtin; refine unstop ?_)
        refine stop ?_
        have gB := heap_alloc_last (wr.drewN nq) (.cells #[.int .i64 x.1] 3)
        replace OL : ((wr.drewN nq).alloc (.cells #[.int .i64 x.1] 3)).ownsRow _ 3 1 _ _ _ := (owns_keeps OL (Keeps.drewN (T := fun _ => True) wr nq) trivial).alloc (.cells #[.int .i64 x.1] 3)
        replace OG : ((wr.drewN nq).alloc (.cells #[.int .i64 x.1] 3)).ownsRow _ 52 2 _ _ _ := (owns_keeps OG (Keeps.drewN (T := fun _ => True) wr nq) trivial).alloc (.cells #[.int .i64 x.1] 3)
        refine app1 Try.underlying87 Try.info3 rfl (by decide) (by decide) rfl _ _ rfl rfl OL gB rfl rfl (List.all_eq_true.1 rfl) (by simp [behTo, behF]) (by simp; omega) ?_
        intro v1 wS oS gS
        replace OG := owns_keeps OG (Keeps.grown (T := fun x => x = 52) OL gS (by simp)) rfl
        replace F := Below.grown ((below_drewN F nq).alloc (by simp; omega) (.cells #[.int .i64 x.1] 3)) gS (by simp; omega) (fun j hj => by have := (OL.lt j hj).1; omega)
        have hz2 : w.heap.size + 1 ≤ wS.heap.size := by have := gS.size; simp at this; omega
        clear gS OL gB
        obtain ⟨p5, c5, rfl⟩ := owns_slice2 oS
        go_wp2_with fail
        go_roundw
        case rel => exact ⟨1, by simp, rfl, by simpa [behTo, behF, icell] using oS, OG⟩
        case measure => simp [intOf]
      | [x, y], 0, _, _, _ =>
        have c0 := owns_cell OG (j := 0) (u := .int .i64 x.1) (by simp [pcs, pc])
        have hd : ((0 : Int) == 0) = true := rfl
        go_wp2_with fail
        go_quiet (fail)
        go_wp2_with (at_builtin; refine unstop ?_)
        refine stop ?_
        have gB := heap_alloc_last (wr.drewN nq) (.cells #[.int .i64 x.1] 3)
        replace OL : ((wr.drewN nq).alloc (.cells #[.int .i64 x.1] 3)).ownsRow _ 3 1 _ _ _ := (owns_keeps OL (Keeps.drewN (T := fun _ => True) wr nq) trivial).alloc (.cells #[.int .i64 x.1] 3)
        replace OG : ((wr.drewN nq).alloc (.cells #[.int .i64 x.1] 3)).ownsRow _ 52 2 _ _ _ := (owns_keeps OG (Keeps.drewN (T := fun _ => True) wr nq) trivial).alloc (.cells #[.int .i64 x.1] 3)
        refine app1 Try.underlying87 Try.info3 rfl (by decide) (by decide) rfl _ _ rfl rfl OL gB rfl rfl (List.all_eq_true.1 rfl) (by simp [behTo, behF]) (by simp; omega) ?_
        intro v1 wS oS gS
        replace OG := owns_keeps OG (Keeps.grown (T := fun x => x = 52) OL gS (by simp)) rfl
        replace F := Below.grown ((below_drewN F nq).alloc (by simp; omega) (.cells #[.int .i64 x.1] 3)) gS (by simp; omega) (fun j hj => by have := (OL.lt j hj).1; omega)
        have hz2 : w.heap.size + 1 ≤ wS.heap.size := by have := gS.size; simp at this; omega
        clear gS OL gB
        obtain ⟨p5, c5, rfl⟩ := owns_slice2 oS
        go_wp2_with fail
        go_roundw
        case rel => exact ⟨1, by simp, rfl, by simpa [behTo, behF, icell] using oS, OG⟩
        case measure => simp [intOf]
      | [x, y], 1, _, _, _ =>
        have c0 := owns_cell OG (j := 0) (u := .int .i64 x.1) (by simp [pcs, pc])
        have c2 := owns_cell OG (j := 2) (u := .int .i64 y.1) (by simp [pcs, pc])
        by_cases hxy : y.1 = x.1
        · have hn : ((y.1 : Int) != (x.1 : Int)) = false := by simp; omega
          have HXY := stop hxy
          clear hxy
          go_wp2_with fail
          go_quiet (fail)
          go_wp2_with fail
          go_roundw
          case rel => exact ⟨2, by simp, rfl, by simpa [behTo, behF, icell, HXY.out] using (owns_keeps OL (Keeps.drewN (T := fun _ => True) wr nq) trivial), owns_keeps OG (Keeps.drewN (T := fun _ => True) wr nq) trivial, below_drewN F nq, hz⟩
          case measure => simp [intOf]
        · have hn : ((y.1 : Int) != (x.1 : Int)) = true := by simp; omega
          go_wp2_with fail
          go_quiet (fail)
          go_wp2_with (at_builtin; refine unstop ?_)
          refine stop ?_
          have gB := heap_alloc_last (wr.drewN nq) (.cells #[.int .i64 y.1] 3)
          replace OL : ((wr.drewN nq).alloc (.cells #[.int .i64 y.1] 3)).ownsRow _ 3 1 _ _ _ := (owns_keeps OL (Keeps.drewN (T := fun _ => True) wr nq) trivial).alloc (.cells #[.int .i64 y.1] 3)
          replace OG : ((wr.drewN nq).alloc (.cells #[.int .i64 y.1] 3)).ownsRow _ 52 2 _ _ _ := (owns_keeps OG (Keeps.drewN (T := fun _ => True) wr nq) trivial).alloc (.cells #[.int .i64 y.1] 3)
          refine app1 Try.underlying87 Try.info3 rfl (by decide) (by decide) rfl _ _ rfl rfl OL gB rfl rfl (List.all_eq_true.1 rfl) (by simp [behTo, behF]) (by simp; omega) ?_
          intro v1 wS oS gS
          replace OG := owns_keeps OG (Keeps.grown (T := fun x => x = 52) OL gS (by simp)) rfl
          replace F := Below.grown ((below_drewN F nq).alloc (by simp; omega) (.cells #[.int .i64 y.1] 3)) gS (by simp; omega) (fun j hj => by have := (OL.lt j hj).1; omega)
          have hz2 : w.heap.size + 1 ≤ wS.heap.size := by have := gS.size; simp at this; omega
          clear gS OL gB
          obtain ⟨p5, c5, rfl⟩ := owns_slice2 oS
          go_wp2_with fail
          go_roundw
          case rel => exact ⟨2, by simp, rfl, by simpa [behTo, behF, icell, hxy] using oS, OG⟩
          case measure => simp [intOf]
    · have hke : k = gl.length := by omega
      subst hke
      go_wp2_with fail
      go_ret
      have OL2 := owns_base (base' := w.heap.size) OL (by omega)
      rw [behTo, List.take_length] at OL2
      rw [HGL.out]
      exact ⟨.slice pl (behF gl).length cl, by simp [behTo], OL2, F⟩
end Go.Proofs.Ytjimoigbdcalpaa
