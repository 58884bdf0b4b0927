import Derived.Test.YtgfhfkgdmidhpaaGreatDoorM41
import Derived.Test.YtgfhfkgdmidhpaaGreatDoorCards
import Derived.Test.YtgfhfkgdmidhpaaGreatDoorTie
import Derived.ProofKit
import Derived.ChangeBears2
import Derived.OpenShut
import Derived.Deep.DeepHandedRow
import Derived.Lib.LaidTab
import Derived.Lib.AppendIntMem
namespace Go.Proofs.YtgfhfkgdmidhpaaGreatDoor
open Go.ChangeShapes Go.WideShapes Go.ChangeAt Go.RowKit
open Go.ChangeMaps (open_string shut_string)
theorem Tryz.own:ownKnob Tryz.prog.godebug=none:=by kernel_rfl
theorem Qlr:Tryz.prog.globalNamed "internal/strconv.uint64pow10" =some 1:=by kernel_rfl
theorem QfA:(Tryz.prog.globals[1]?).map (·.type)=some 375:=by kernel_rfl
theorem Qj4:Tryz.prog.cellsOf 375=20:=by kernel_rfl
theorem Qj5:Tryz.prog.cellsOf 345=1:=by kernel_rfl
theorem Qf0:Tryz.prog.cellsOf 3=1:=by kernel_rfl
theorem GN{P:Program}{x:String×DataW Unit}{rest:List (String×DataW Unit)}{W:World}(h:laidMet P (x::rest) W):laidMet P rest W:=by
 obtain⟨ps,⟨g,t,cs,fuel,p,q,_,_,_,_,hr,rfl⟩,hnd,ho⟩:=h
 exact⟨q,hr,(List.nodup_append.1 hnd).2.1,fun b off hb=>ho b off (List.mem_append_right _ hb)⟩
theorem Qhi:(Rows.laid_internal_strconv_uint64pow10:DataW Unit)=Lib.tabData .u64 Lib.pow10Tab:=by kernel_rfl
theorem QiW{W:World}(h:laidMetH Tryz.prog Rows.makesRow.laid W):Tab W:=by
 have h1:laidMet Tryz.prog [("math/bits.deBruijn32tab",Rows.laid_math_bits_deBruijn32tab),("math/bits.deBruijn64tab",Rows.laid_math_bits_deBruijn64tab),("internal/strconv.uint64pow10",Rows.laid_internal_strconv_uint64pow10)] W:=h
 have h2:=GN (GN h1)
 rw[Qhi]at h2
 have h3:Lib.TabIs Tryz.prog W "internal/strconv.uint64pow10" .u64 Lib.pow10Tab:=Lib.tabIs_of_head (rest:=[]) Qlr QfA Tryz.underlying375 Tryz.underlying345 Qj5 Qj4 h2
 exact Lib.tabBelow_of_tabIs h3
theorem RE{w:World}{a:Addr}{v:Value}(h:w.cell? a=some v):a.block<w.heap.size:=by
 rcases Nat.lt_or_ge a.block w.heap.size with h1|h1
 ·exact h1
 ·exfalso
  rw[World.cell?,Array.getElem?_eq_none h1]at h
  simp at h
theorem QaB{H:Type}{enc:TypeId×Value→H}{w:World}{base:Nat}{sp:Nat→Bool}{held:Bool}:DataW.Trod enc Tryz.prog w base sp held 22 (.slice none 0 0) .nil []:=by
 refine⟨1,?_⟩
 simp[DataW.trod,Tryz.underlying22,Value.cells]
theorem QdE(a:Addr)(n:Nat):(a.add n).block=a.block:=by
 unfold Addr.add;split<;>rfl
set_option maxRecDepth 100000 in
set_option maxHeartbeats 1600000 in
theorem UQ(H:Type)(enc:TypeId×Value→H)(W:World)(base:Nat)(args:Array Value)(ds gs:List (DataW H))(before:List MemPlace)
  (hval:∀(j:Nat) t v,Tryz.f3.params[j]?=some t→args[j]?=some v→Value.okWide Tryz.prog W .any base t v)
  (hW:DataW.Whole enc Tryz.prog Tryz.f3.params.toList Rows.makesSpec.vars false W args.toList ds gs before)(hL:laidMetH Tryz.prog Rows.makesRow.laid W):
  Calls Tryz.prog 3 args W fun e W'=>∃v,e=.returned v∧Rows.makesSpec.post enc Tryz.prog Tryz.f3 false true false false W args v W':=by
 have hT:=QiW hL
 have hW':=hW
 obtain⟨p,q,hA0,hV,rfl,hfz,hnd⟩:=hW
 have hA:DataW.TrodAll enc Tryz.prog W 0 (fun _=>true) true Tryz.f3.params.toList args.toList ds p:=hA0
 rw[Tryz.params3]at hA hval
 obtain⟨v0,v1,v2,d0,d1,d2,p0,p1,p2,rfl,rfl,rfl,h0,h1,h2⟩:=trodAll_three hA
 obtain⟨rfl,rfl⟩:=trodVars_none hV
 obtain⟨s,rfl,rfl,rfl,ws⟩:=open_string Tryz.underlying9 (hval 0 9 v0 rfl rfl) h0
 obtain⟨n,rfl,rfl,rfl,hwn⟩:=open_int Tryz.underlying3 (hval 2 3 v2 rfl rfl) h2
 obtain⟨a0,len,cap,rfl⟩:=okWide_slice Tryz.underlying22 (hval 1 22 v1 rfl rfl)
 obtain⟨fuel,hf⟩:=h1
 rcases open_ints Tryz.underlying22 Tryz.underlying3 Qf0 hf with ⟨hcs,hx⟩|⟨a,len',cap',zs,hcs,_,hl,hm,hz,hx,hcell,hwz⟩
 ·simp[Value.cells]at hcs
  obtain⟨rfl,rfl,rfl⟩:=hcs
  simp only[Prod.mk.injEq]at hx
  obtain⟨rfl,rfl⟩:=hx
  clear hA0
  refine(QeR s (.slice none 0 0) [] n W ws ⟨none,0,rfl,Nat.le_refl _,fun h=>by simp at h⟩ hT).mono fun e W' ⟨he,hB⟩=>?_
  subst he
  refine⟨_,rfl,_,_,_,[],[],[],hW',?_,?_,?_,hB.frame _,fun h=>by cases h⟩
  ·exact trodAll_mk1 (shut_bool Tryz.underlying4 _)
  ·have t1:=hf
   have t3:=trodAll_mk3 (shut_string (enc:=enc) (P:=Tryz.prog) (w:=W') (base:=0) (sp:=fun b=>decide (b<W.heap.size)) (held:=true) Tryz.underlying9 ws) (QaB (enc:=enc) (w:=W') (base:=0) (sp:=fun b=>decide (b<W.heap.size)) (held:=true)) (shut_int (enc:=enc) (P:=Tryz.prog) (w:=W') (base:=0) (spare:=fun b=>decide (b<W.heap.size)) (held:=true) Tryz.underlying3 hwn)
   simp only[List.append_nil]at t3
   exact t3
  ·exact rfl
 ·simp[Value.cells]at hcs
  obtain⟨rfl,rfl,rfl⟩:=hcs
  simp only[Prod.mk.injEq]at hx
  obtain⟨rfl,rfl⟩:=hx
  simp only[if_true]at hz
  clear hA0
  have hI:InA (.slice (some a) len cap) (zs.take len) W:=by
   have hlen:(zs.take len).length=len:=by rw[List.length_take];omega
   refine⟨some a,cap,by rw[hlen],by rw[hlen];exact hl,fun h0=>?_⟩
   rw[hlen]at h0
   obtain⟨b,off,spot⟩:=a
   have hspot:spot=none:=by simpa[Addr.add] using World.cell?_spot (hcell 0 (by omega))
   subst hspot
   refine⟨b,off,rfl,RE (hcell 0 (by omega)),fun j hj=>?_⟩
   rw[hlen]at hj
   have:=hcell j (by omega)
   rw[add_plain]at this
   rw[this]
   simp[List.getD,show j<zs.length from by omega]
  refine(QeR s _ _ n W ws hI hT).mono fun e W' ⟨he,hB⟩=>?_
  subst he
  refine⟨_,rfl,_,_,_,[],MemPlace.row a zs.length,[],hW',?_,?_,?_,hB.frame _,fun h=>by cases h⟩
  ·exact trodAll_mk1 (shut_bool Tryz.underlying4 _)
  ·have t1:=shut_ints (enc:=enc) (P:=Tryz.prog) (w:=W') (base:=0) (spare:=fun b=>decide (b<W.heap.size)) (held:=true) (a:=a) (len:=len) (cap:=cap) (zs:=zs) 0 Tryz.underlying22 Tryz.underlying3 Qf0
    (Nat.zero_le _) hl hm (by
     by_cases h0:0<zs.length
     ·have:=RE (hcell 0 h0)
      rw[QdE]at this
      simp[this,hz]
     ·have hc0:cap=0:=by omega
      have hl0:len=0:=by omega
      rw[hz,hc0,hl0];simp) (fun i hi=>by
     have:=RE (hcell i hi)
     exact(hB.cell (p:=a.add i) this).trans (hcell i hi)) hwz
   have t3:=trodAll_mk3 (shut_string (enc:=enc) (w:=W') (base:=0) (sp:=fun b=>decide (b<W.heap.size)) (held:=true) Tryz.underlying9 ws) (⟨2,by simpa[Value.cells] using t1⟩:DataW.Trod enc Tryz.prog W' 0 (fun b=>decide (b<W.heap.size)) true 22 (.slice (some a) len cap) _ _) (shut_int (enc:=enc) (w:=W') (base:=0) (spare:=fun b=>decide (b<W.heap.size)) (held:=true) Tryz.underlying3 hwn)
   simp only[List.append_nil,List.nil_append]at t3
   exact t3
  ·exact rfl
def Qji(cs:Array Value):Obj→Obj
 | .cells _ t frozen=>.cells cs t frozen
 | o=>o
noncomputable def Wd(os:Os):World:=
 { World.holding Tryz.prog os ⟨#[],#[],[]⟩ with heap:=(((World.holding Tryz.prog os ⟨#[],#[],[]⟩).heap.modify 1 (Qji #[.int .u64 1,.int .u64 10,.int .u64 100,.int .u64 1000,.int .u64 10000,.int .u64 100000,.int .u64 1000000,.int .u64 10000000,.int .u64 100000000,.int .u64 1000000000,.int .u64 10000000000,.int .u64 100000000000,.int .u64 1000000000000,.int .u64 10000000000000,.int .u64 100000000000000,.int .u64 1000000000000000,.int .u64 10000000000000000,.int .u64 100000000000000000,.int .u64 1000000000000000000,.int .u64 10000000000000000000])).modify 2 (Qji #[.int .u8 0,.int .u8 1,.int .u8 28,.int .u8 2,.int .u8 29,.int .u8 14,.int .u8 24,.int .u8 3,.int .u8 30,.int .u8 22,.int .u8 20,.int .u8 15,.int .u8 25,.int .u8 17,.int .u8 4,.int .u8 8,.int .u8 31,.int .u8 27,.int .u8 13,.int .u8 23,.int .u8 21,.int .u8 19,.int .u8 16,.int .u8 7,.int .u8 26,.int .u8 12,.int .u8 18,.int .u8 6,.int .u8 11,.int .u8 5,.int .u8 10,.int .u8 9])).modify 3 (Qji #[.int .u8 0,.int .u8 1,.int .u8 56,.int .u8 2,.int .u8 57,.int .u8 49,.int .u8 28,.int .u8 3,.int .u8 61,.int .u8 58,.int .u8 42,.int .u8 50,.int .u8 38,.int .u8 29,.int .u8 17,.int .u8 4,.int .u8 62,.int .u8 47,.int .u8 59,.int .u8 36,.int .u8 45,.int .u8 43,.int .u8 51,.int .u8 22,.int .u8 53,.int .u8 39,.int .u8 33,.int .u8 30,.int .u8 24,.int .u8 18,.int .u8 12,.int .u8 5,.int .u8 63,.int .u8 55,.int .u8 48,.int .u8 27,.int .u8 60,.int .u8 41,.int .u8 37,.int .u8 16,.int .u8 46,.int .u8 35,.int .u8 44,.int .u8 21,.int .u8 52,.int .u8 32,.int .u8 23,.int .u8 11,.int .u8 54,.int .u8 26,.int .u8 40,.int .u8 15,.int .u8 34,.int .u8 20,.int .u8 31,.int .u8 10,.int .u8 25,.int .u8 14,.int .u8 19,.int .u8 9,.int .u8 13,.int .u8 8,.int .u8 7,.int .u8 6]) }
set_option maxRecDepth 100000 in
theorem QeX(os:Os):laidMet Tryz.prog Rows.makesRow.laid ((Wd os).forCall (fun _ _=>0) ⟨#[],#[.string ⟨#[]⟩,.slice none 0 0,.int .i64 0],[]⟩).memory:=
 laidMet_of_run' 8 (by kernel_rfl) (by kernel_rfl)
set_option maxRecDepth 100000 in
theorem QcG(os:Os){H:Type}(enc:TypeId×Value→H):∃places,DataW.whole enc Tryz.prog ((Wd os).forCall (fun _ _=>0) ⟨#[],#[.string ⟨#[]⟩,.slice none 0 0,.int .i64 0],[]⟩).memory Tryz.f3.params.toList Rows.makesSpec.vars false #[Value.string ⟨#[]⟩,.slice none 0 0,.int .i64 0].toList 8=some ([.lit (.string []),.nil,.lit (.int .i64 0)],[],places):=
 ⟨[],by kernel_rfl⟩
set_option maxHeartbeats 1600000 in
set_option maxRecDepth 100000 in
theorem RC(os:Os)(started:os.Started)(H:Type)(enc:TypeId×Value→H)(F:Stop.Interp):
  ReturnsInHanded {} Tryz.checked os 3 .any ((OpenSpec.ofChange Rows.makesSpec).preRow enc Tryz.prog Tryz.f3 Rows.makesRow.domain false Rows.makesRow.laid) (((OpenSpec.ofChange Rows.makesSpec).at F).post enc Tryz.prog Tryz.f3 false true false false):=by
 obtain⟨places,hx⟩:=QcG os enc
 refine returnsInHanded_of_row (C:=Tryz.checked) (s:=OpenSpec.ofChange Rows.makesSpec) Tryz.own started (by kernel_rfl) Tryz.func3
  (witness_row_at (enc:=enc) (C:=Tryz.checked) false (Wd os) #[.string ⟨#[]⟩,.slice none 0 0,.int .i64 0] rfl (by kernel_rfl) (by kernel_rfl) (by kernel_rfl)
   (OpenSpec.preRow_of_cond 8 hx (by kernel_rfl) (fun k hk=>by cases hk) (by kernel_rfl) (QeX os))) ?_
 intro W base args ds gs before hval hW _ _ _ hL _ _
 exact UQ H enc W base args ds gs before hval hW hL
theorem Qa2:Rows.MakesSaid:=
 OpenClaim.holds_of_cond 3 Tryz.f3 rfl rfl rfl rfl rfl rfl rfl ⟨rfl,rfl,rfl,rfl,rfl⟩ rfl rfl rfl rfl rfl (by kernel_rfl) Tryz.func3 (by kernel_rfl)
  (of_decide_eq_true (by kernel_rfl)) (by unfold Func.isWrapper;first | (rw[if_pos (by decide +kernel)];kernel_rfl) | (rw[if_neg (by decide +kernel)];exact⟨rfl,rfl⟩))
  (fun os started H enc _ F=>by rw[OpenClaim.pre_eq_preRow];exact RC os started H enc F)
theorem NS(f:FuncId)(fn:Func)(hf:Tryz.pinned.checked.prog.funcNamed "solo/sololaw.Makes" =some f) (hfn:Tryz.pinned.checked.prog.funcs[f]?=some fn):
  true=Tryz.pinned.checked.prog.looks []∧∀(j:Nat) t,fn.params[j]?=some t→Tryz.pinned.checked.prog.wantsStandIn t=false:=by
 obtain rfl:f=3:=Option.some.inj ((show Tryz.prog.funcNamed "solo/sololaw.Makes" =some 3 by kernel_rfl).symm.trans hf) |>.symm
 obtain rfl:fn=Tryz.f3:=(Option.some.inj (Tryz.func3.symm.trans hfn)).symm
 refine⟨by kernel_rfl,fun j t ht=>?_⟩
 rw[Tryz.params3]at ht
 have h3:t=9∨t=22∨t=3:=by simpa using Array.mem_of_getElem? ht
 rcases h3 with rfl|rfl|rfl
 ·exact(show Tryz.prog.wantsStandIn 9=false by kernel_rfl)
 ·exact(show Tryz.prog.wantsStandIn 22=false by kernel_rfl)
 ·exact(show Tryz.prog.wantsStandIn 3=false by kernel_rfl)
theorem makes_holds:Rows.MakesCardSaid:=
 Claim7.holds_tied_plain_at .later [] _ _ _ _ Qa2 (fun _ h=>by cases h) (by kernel_rfl) (fun _ h=>by cases h) makes_row_tie rfl ⟨rfl,rfl⟩ (by kernel_rfl) rfl NS (by kernel_rfl)
end Go.Proofs.YtgfhfkgdmidhpaaGreatDoor
