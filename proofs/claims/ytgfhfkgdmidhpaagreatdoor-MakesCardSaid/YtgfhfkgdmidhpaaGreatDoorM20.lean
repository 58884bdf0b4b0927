import Derived.Test.YtgfhfkgdmidhpaaGreatDoorM19
import Derived.Deep.Cut
namespace Go.Proofs.YtgfhfkgdmidhpaaGreatDoor
open Go.RowKit
open Go.Proofs.Tryz
set_option maxRecDepth 100000
set_option maxHeartbeats 8000000
def ptF(l:List Nat)(x:Nat):List Nat:=ofL (l++[x])
theorem ZW{l:List Nat}{x y:Nat}:y∈ptF l x↔y∈l∨y=x:=by rw[ptF,QN,QB,QF]
theorem X6(l x):(ptF l x).Pairwise (· < ·):=Zi _
theorem Qhf(l:List Nat)(x:Nat):(ptF l x).length≤l.length+1:=by
 have:=WT (l++[x]);rw[Qw]at this;exact this
def dnF(l:List Nat)(x m:Nat):Bool:=(l.take m).any fun y=>decide (x≤y)
def JH(l:List Nat)(x m:Nat):List Nat:=if dnF l x m then ptF (l.take m) x else l.take m
theorem VS{l:List Nat}{x m:Nat}(hm:m<l.length):dnF l x (m+1)=(dnF l x m||decide (x≤l[m])):=Qgb hm
theorem Qei(l:List Nat)(x m:Nat):(JH l x m).length≤l.length+1:=by
 unfold JH;have hm:(l.take m).length≤l.length:=by rw[List.length_take];omega
 split
 ·have:=Qhf (l.take m) x;omega
 ·omega
theorem WO{l:List Nat}(h:l.Pairwise (· < ·)){m:Nat}(hm:m<l.length):∀y∈l.take m,y<l[m]:=fun y hy=>by
 obtain⟨j,hj,rfl⟩:=List.getElem_of_mem hy;rw[List.length_take]at hj;rw[List.getElem_take];exact List.pairwise_iff_getElem.1 h j m (by omega) hm (by omega)
theorem No{l:List Nat}(h:l.Pairwise (· < ·))(m:Nat):(l.take m).Pairwise (· < ·):=h.sublist (List.take_sublist _ _)
theorem Ym{l:List Nat}{x:Nat}(h:l.Pairwise (· < ·))(hx:∀y∈l,y<x):(l++[x]).Pairwise (· < ·):=by
 rw[List.pairwise_append];exact⟨h,List.pairwise_singleton _ _,fun a ha b hb=>by rw[QF]at hb;subst hb;exact hx a ha⟩
theorem QfI{l:List Nat}{x m:Nat}(h:dnF l x m=false):∀y∈l.take m,y<x:=fun y hy=>by
 have:=List.any_eq_false.1 h y hy;simpa using this
theorem Qh6{l:List Nat}{x m:Nat}(h:dnF l x m=true):∃y∈l.take m,x≤y:=by
 obtain⟨y,hy,hx⟩:=List.any_eq_true.1 h;exact⟨y,hy,by simpa using hx⟩
theorem Qle{l:List Nat}{x m:Nat}(hl:l.Pairwise (· < ·))(hm:m<l.length)(hd:dnF l x m=false)(hx:x<l[m]):dnF l x (m+1)=true∧JH l x (m+1)=JH l x m++[x]++[l[m]]:=by
 have h1:dnF l x (m+1)=true:=by rw[VS hm,hd];simp;omega
 refine⟨h1,?_⟩;rw[JH,if_pos h1,JH,hd,if_neg (by simp)];have s1:=Ym (No hl m) (QfI hd);refine Zo (X6 _ _) (Ym s1 fun y hy=>?_) fun y=>?_
 ·rcases QB.1 hy with h|h
  ·exact WO hl hm y h
  ·rw[QF.1 h];exact hx
 ·rw[ZW,Zb hm];simp only[List.mem_append,List.mem_singleton];constructor
  ·rintro ((h|h)|h)
   ·exact .inl (.inl h)
   ·exact .inr h
   ·exact .inl (.inr h)
  ·rintro ((h|h)|h)
   ·exact .inl (.inl h)
   ·exact .inr h
   ·exact .inl (.inr h)
theorem Qld{l:List Nat}{x m:Nat}(hl:l.Pairwise (· < ·))(hm:m<l.length)(hd:dnF l x m=false)(hx:x=l[m]):dnF l x (m+1)=true∧JH l x (m+1)=JH l x m++[l[m]]:=by
 have h1:dnF l x (m+1)=true:=by rw[VS hm,hd];simp;omega
 refine⟨h1,?_⟩;rw[JH,if_pos h1,JH,hd,if_neg (by simp)];refine Zo (X6 _ _) (Ym (No hl m) (WO hl hm)) fun y=>?_;rw[ZW,Zb hm,←hx];simp only[List.mem_append,List.mem_singleton];constructor
 ·rintro (h|h)
  ·exact h
  ·exact .inr h
 ·exact .inl
theorem Qlc{l:List Nat}{x m:Nat}(hm:m<l.length)(hd:dnF l x m=false)(hx:l[m]<x):dnF l x (m+1)=false∧JH l x (m+1)=JH l x m++[l[m]]:=by
 have h1:dnF l x (m+1)=false:=by rw[VS hm,hd];simp;omega
 refine⟨h1,?_⟩;rw[JH,h1,if_neg (by simp),JH,hd,if_neg (by simp),List.take_succ_eq_append_getElem hm]
theorem Qlb{l:List Nat}{x m:Nat}(hl:l.Pairwise (· < ·))(hm:m<l.length)(hd:dnF l x m=true):x<l[m]∧dnF l x (m+1)=true∧JH l x (m+1)=JH l x m++[l[m]]:=by
 obtain⟨z,hz,hxz⟩:=Qh6 hd;have hzm:=WO hl hm z hz;have h1:dnF l x (m+1)=true:=by rw[VS hm,hd];rfl
 refine⟨by omega,h1,?_⟩;rw[JH,if_pos h1,JH,if_pos hd];refine Zo (X6 _ _) (Ym (X6 _ _) fun y hy=>?_) fun y=>?_
 ·rcases ZW.1 hy with h|h
  ·exact WO hl hm y h
  ·rw[h];omega
 ·rw[ZW,Zb hm,QB,QB,ZW,QF];constructor
  ·rintro ((h|h)|h)
   ·exact .inl (.inl h)
   ·exact .inr h
   ·exact .inl (.inr h)
  ·rintro ((h|h)|h)
   ·exact .inl (.inl h)
   ·exact .inr h
   ·exact .inl (.inr h)
theorem Qjj{l:List Nat}{x:Nat}(hl:l.Pairwise (· < ·))(hd:dnF l x l.length=false):ptF l x=JH l x l.length++[x]:=by
 have hx:=QfI hd;rw[JH,hd,if_neg (by simp)];rw[List.take_length]at hx ⊢;exact Zo (X6 _ _) (Ym hl hx) fun y=>by rw[ZW,QB,QF]
theorem Qhc{l:List Nat}{x:Nat}(hd:dnF l x l.length=true):ptF l x=JH l x l.length:=by
 rw[JH,if_pos hd,List.take_length]
theorem putR(l:List Nat)(x base:Nat)(v:Value)(w:World)(h:w.ownsRow base 3 1 v l.length (Qe l))(hsrt:Hid (l.Pairwise (· < ·)))(hl:l.length≤500000):
  Calls prog 57 #[v,.int .i64 x] w fun r w'=>∃v',r=.returned v'∧w'.ownsRow w.heap.size 3 1 v' (ptF l x).length (Qe (ptF l x))∧Below w.heap.size w w':=by
 obtain⟨p1,c1,rfl⟩:=Qa h;have HA:=Qc h;clear h;go_enter func57,ntmps57;go_wp2_with fail
 go_loopw [5,6,7] (fun o d i wr=>∃m:Nat,m≤l.length∧i=.int .i64 m∧d=.bool (dnF l x m)∧wr.ownsRow w.heap.size 3 1 o (JH l x m).length (Qe (JH l x m))∧Hid (Below w.heap.size w wr)) (fun _ _ i _=>l.length-(intOf i).toNat)
 case atStart=>exact⟨0,by omega,rfl,rfl,Q3 _ _ _ _,Below.refl _ _⟩
 case round=>
  obtain⟨m,hm,rfl,rfl,OL,F⟩:=hrel;obtain⟨pl,cl,rfl⟩:=Qa OL;have hz:=F.o.size;have hal:=Qei l x m;by_cases hlt:m<l.length
  ·have OA:=Qd HA.o (Qh F.o) trivial;obtain⟨g1,rfl,_,_⟩:=Qk OA (by omega);have k1:=Qf OA (QY hlt);clear OA
   cases hd:dnF l x m with
   | true=>
    have HT2:=Qlb hsrt.out hlt hd;have hxl:=HT2.1;have HT:=Qc HT2.2;have h2:¬(x=l[m]):=by omega
    clear hd HT2 hxl;have OLH:=Qc OL;clear OL;go_wp2_with (at_builtin;refine QA ?_);refine Qc ?_;have gB:=heap_alloc_last wr (.cells #[.int .i64 l[m]] 3);have OB:=OLH.o.alloc (.cells #[.int .i64 l[m]] 3);refine J7 underlying22 JF rfl (by decide) (by decide) rfl _ _ rfl rfl OB gB rfl rfl (List.all_eq_true.1 rfl) (by omega) (by simp;omega) ?_;intro v3 w3 oS gS;have F3:=Qc (Below.grown (F.o.alloc (by omega) (.cells #[.int .i64 l[m]] 3)) gS (by simp;omega) (fun j hj=>by have:=(OB.lt j hj).1;omega));have w3z:=F3.o.size;obtain⟨v3p,v3c,rfl⟩:=Qa oS;have O3:=Qc oS;clear gS gB OB oS;go_wp2_with fail;go_roundw
    case rel=>exact⟨m+1,by omega,by go_num,by rw[HT.o.1],by rw[HT.o.2,List.length_append];simpa[Qe] using O3.o,F3⟩
    case measure=>simp[intOf];omega
   | false=>
    by_cases hx:x<l[m]
    ·have HT:=Qc (Qle hsrt.out hlt hd hx);have h1:x<l[m]:=hx;have h2:¬(x=l[m]):=by omega
     clear hd hx;have OLH:=Qc OL;clear OL;go_wp2_with (at_builtin;refine QA ?_);refine Qc ?_;have gB:=heap_alloc_last wr (.cells #[.int .i64 x] 3);have OB:=OLH.o.alloc (.cells #[.int .i64 x] 3);refine J7 underlying22 JF rfl (by decide) (by decide) rfl _ _ rfl rfl OB gB rfl rfl (List.all_eq_true.1 rfl) (by omega) (by simp;omega) ?_;intro v3 w3 oS gS;have F3:=Qc (Below.grown (F.o.alloc (by omega) (.cells #[.int .i64 x] 3)) gS (by simp;omega) (fun j hj=>by have:=(OB.lt j hj).1;omega));have w3z:=F3.o.size;obtain⟨v3p,v3c,rfl⟩:=Qa oS;have O3:=Qc oS;clear gS gB OB oS;have k3:=Qf (Qd HA.o (Qh F3.o) trivial) (QY hlt);clear k1;go_wp2_with (at_builtin;refine QA ?_);refine Qc ?_;have gB:=heap_alloc_last w3 (.cells #[.int .i64 l[m]] 3);have OB:=O3.o.alloc (.cells #[.int .i64 l[m]] 3);refine J7 underlying22 JF rfl (by decide) (by decide) rfl _ _ rfl rfl OB gB rfl rfl (List.all_eq_true.1 rfl) (by omega) (by simp;omega) ?_;intro v4 w4 oS gS;have F4:=Qc (Below.grown (F3.o.alloc (by omega) (.cells #[.int .i64 l[m]] 3)) gS (by simp;omega) (fun j hj=>by have:=(OB.lt j hj).1;omega));have w4z:=F4.o.size;obtain⟨v4p,v4c,rfl⟩:=Qa oS;have O4:=Qc oS;clear gS gB OB oS;go_wp2_with fail;go_roundw
     case rel=>exact⟨m+1,by omega,by go_num,by rw[HT.o.1],by rw[HT.o.2,List.length_append,List.length_append];simpa[Qe] using O4.o,F4⟩
     case measure=>simp[intOf];omega
    ·by_cases hx2:x=l[m]
     ·clear hx;have hx:=hx2;clear hx2;have HT:=Qc (Qld hsrt.out hlt hd hx);have hb1:=QY hlt;rw[←hx]at HT k1;clear hd hx hb1;have OLH:=Qc OL;clear OL;go_wp2_with (at_builtin;refine QA ?_);refine Qc ?_;have gB:=heap_alloc_last wr (.cells #[.int .i64 x] 3);have OB:=OLH.o.alloc (.cells #[.int .i64 x] 3);refine J7 underlying22 JF rfl (by decide) (by decide) rfl _ _ rfl rfl OB gB rfl rfl (List.all_eq_true.1 rfl) (by omega) (by simp;omega) ?_;intro v3 w3 oS gS;have F3:=Qc (Below.grown (F.o.alloc (by omega) (.cells #[.int .i64 x] 3)) gS (by simp;omega) (fun j hj=>by have:=(OB.lt j hj).1;omega));have w3z:=F3.o.size;obtain⟨v3p,v3c,rfl⟩:=Qa oS;have O3:=Qc oS;clear gS gB OB oS;go_wp2_with fail;go_roundw
      case rel=>exact⟨m+1,by omega,by go_num,by rw[HT.o.1],by rw[HT.o.2,List.length_append];simpa[Qe] using O3.o,F3⟩
      case measure=>simp[intOf];omega
     ·have HT:=Qc (Qlc hlt hd (by omega:l[m]<x));have h1:¬(x<l[m]):=hx;have h2:¬(x=l[m]):=hx2;clear hd hx hx2;have OLH:=Qc OL;clear OL;go_wp2_with (at_builtin;refine QA ?_);refine Qc ?_;have gB:=heap_alloc_last wr (.cells #[.int .i64 l[m]] 3);have OB:=OLH.o.alloc (.cells #[.int .i64 l[m]] 3);refine J7 underlying22 JF rfl (by decide) (by decide) rfl _ _ rfl rfl OB gB rfl rfl (List.all_eq_true.1 rfl) (by omega) (by simp;omega) ?_;intro v3 w3 oS gS;have F3:=Qc (Below.grown (F.o.alloc (by omega) (.cells #[.int .i64 l[m]] 3)) gS (by simp;omega) (fun j hj=>by have:=(OB.lt j hj).1;omega));have w3z:=F3.o.size;obtain⟨v3p,v3c,rfl⟩:=Qa oS;have O3:=Qc oS;clear gS gB OB oS;go_wp2_with fail;go_roundw
      case rel=>exact⟨m+1,by omega,by go_num,by rw[HT.o.1],by rw[HT.o.2,List.length_append];simpa[Qe] using O3.o,F3⟩
      case measure=>simp[intOf];omega
  ·have hme:m=l.length:=by omega
   subst hme
   cases hd:dnF l x l.length with
   | true=>
    have HT:=Qc (Qhc hd);have OLH:=Qc OL;clear hd OL;go_wp2_with fail;go_ret;exact⟨_,rfl,by rw[HT.o];exact OLH.o,F.o⟩
   | false=>
    have HT:=Qc (Qjj hsrt.out hd);clear hd;have OLH:=Qc OL;clear OL;go_wp2_with (at_builtin;refine QA ?_);refine Qc ?_;have gB:=heap_alloc_last wr (.cells #[.int .i64 x] 3);have OB:=OLH.o.alloc (.cells #[.int .i64 x] 3);refine J7 underlying22 JF rfl (by decide) (by decide) rfl _ _ rfl rfl OB gB rfl rfl (List.all_eq_true.1 rfl) (by omega) (by simp;omega) ?_;intro v3 w3 oS gS;have F3:=Qc (Below.grown (F.o.alloc (by omega) (.cells #[.int .i64 x] 3)) gS (by simp;omega) (fun j hj=>by have:=(OB.lt j hj).1;omega));have w3z:=F3.o.size;obtain⟨v3p,v3c,rfl⟩:=Qa oS;have O3:=Qc oS;clear gS gB OB oS;go_wp2_with fail;go_ret;exact⟨_,rfl,by rw[HT.o,List.length_append];simpa[Qe] using O3.o,F3.o⟩
def rdsF(t:Qz):List (Nat×Nat):=if t.op=99 then [t.a] else if t.op=33 then [t.a] else if t.op=118 then [] else if t.op=63 then [] else [t.a,t.b]
theorem Qg0(t:Qz):rdsF t=Yg t:=by
 unfold rdsF Yg;by_cases h1:t.op=118
 ·rw[if_neg (by omega),if_neg (by omega),if_pos h1,if_pos h1]
 by_cases h2:t.op=99
 ·rw[if_pos h2,if_neg h1,if_pos h2]
 rw[if_neg h2,if_neg h1,if_neg h1,if_neg h2]
theorem Qg2(t:Qz)(w:World):Calls prog 304 #[.agg #[.int .i64 t.to.1,.int .i64 t.to.2]] w fun x w'=>∃v,x=.returned v∧w'.ownsRow w.heap.size 132 2 v 0 (pcs [])∧Below w.heap.size w w':=by
 go_enter func304,ntmps304
 go_wp2
 go_ret;exact⟨_,rfl,Q3 _ _ _ _,(Below.refl _ _).alloc (Qi _) _⟩
theorem QhQ(t:Qz)(w:World):Calls prog 303 #[.agg #[.int .i64 t.to.1,.int .i64 t.to.2]] w fun x w'=>x=.returned (.tuple #[.agg #[.int .i64 t.to.1,.int .i64 t.to.2],.bool true])∧Below w.heap.size w w':=by
 go_enter func303,ntmps303
 go_wp2
 refine bodyPost_ret (v:=.tuple #[.agg #[.int .i64 t.to.1,.int .i64 t.to.2],.bool true]) (by simp[results,results303,go_sem]) rfl ⟨rfl,((Below.refl _ _).alloc (Nat.le_refl _) _).alloc (by simp) _⟩
theorem Qg7(t:Qz)(w:World):Calls prog 286 #[.agg #[.int .i64 t.to.1,.int .i64 t.to.2,.int .i64 t.a.1,.int .i64 t.a.2]] w fun x w'=>∃v,x=.returned v∧w'.ownsRow w.heap.size 132 2 v 1 (pcs [t.a])∧Below w.heap.size w w':=by
 go_enter func286,ntmps286
 go_wp2
 go_ret;refine⟨_,rfl,?_,((Below.refl _ _).alloc (Nat.le_refl _) _).alloc (by simp) _⟩;have ON:=ZK (w.alloc (.cells #[.int .i64 t.to.1,.int .i64 t.to.2,.int .i64 t.a.1,.int .i64 t.a.2] 142)) w.heap.size 132 2 1 #[.int .i64 t.a.1,.int .i64 t.a.2] (by simp) rfl (by decide);rw[Qt]at ON;exact ON
theorem QhS(t:Qz)(w:World):Calls prog 285 #[.agg #[.int .i64 t.to.1,.int .i64 t.to.2,.int .i64 t.a.1,.int .i64 t.a.2]] w fun x w'=>x=.returned (.tuple #[.agg #[.int .i64 t.to.1,.int .i64 t.to.2],.bool true])∧Below w.heap.size w w':=by
 go_enter func285,ntmps285
 go_wp2
 refine bodyPost_ret (v:=.tuple #[.agg #[.int .i64 t.to.1,.int .i64 t.to.2],.bool true]) (by simp[results,results285,go_sem]) rfl ⟨rfl,((Below.refl _ _).alloc (Nat.le_refl _) _).alloc (by simp) _⟩
theorem Qg4(t:Qz)(w:World):Calls prog 296 #[.agg #[.int .i64 t.to.1,.int .i64 t.to.2,.int .i64 t.n]] w fun x w'=>∃v,x=.returned v∧w'.ownsRow w.heap.size 132 2 v 0 (pcs [])∧Below w.heap.size w w':=by
 go_enter func296,ntmps296
 go_wp2
 go_ret;exact⟨_,rfl,Q3 _ _ _ _,(Below.refl _ _).alloc (Qi _) _⟩
theorem QhR(t:Qz)(w:World):Calls prog 295 #[.agg #[.int .i64 t.to.1,.int .i64 t.to.2,.int .i64 t.n]] w fun x w'=>x=.returned (.tuple #[.agg #[.int .i64 t.to.1,.int .i64 t.to.2],.bool true])∧Below w.heap.size w w':=by
 go_enter func295,ntmps295
 go_wp2
 refine bodyPost_ret (v:=.tuple #[.agg #[.int .i64 t.to.1,.int .i64 t.to.2],.bool true]) (by simp[results,results295,go_sem]) rfl ⟨rfl,((Below.refl _ _).alloc (Nat.le_refl _) _).alloc (by simp) _⟩
theorem Qje(t:Qz)(w:World):Calls prog 316 #[.agg #[.int .i64 t.a.1,.int .i64 t.a.2]] w fun x w'=>∃v,x=.returned v∧w'.ownsRow w.heap.size 132 2 v 1 (pcs [t.a])∧Below w.heap.size w w':=by
 go_enter func316,ntmps316
 go_wp2
 go_ret;refine⟨_,rfl,?_,((Below.refl _ _).alloc (Nat.le_refl _) _).alloc (by simp) _⟩;have ON:=ZK (w.alloc (.cells #[.int .i64 t.a.1,.int .i64 t.a.2] 315)) w.heap.size 132 2 1 #[.int .i64 t.a.1,.int .i64 t.a.2] (by simp) rfl (by decide);rw[Qt]at ON;exact ON
theorem QjN(t:Qz)(w:World):Calls prog 315 #[.agg #[.int .i64 t.a.1,.int .i64 t.a.2]] w fun x w'=>x=.returned (.tuple #[.agg #[.int .i64 0,.int .i64 0],.bool false])∧Below w.heap.size w w':=by
 go_enter func315,ntmps315
 go_wp2
 refine bodyPost_ret (v:=.tuple #[.agg #[.int .i64 0,.int .i64 0],.bool false]) (by simp[results,results315,go_sem]) rfl ⟨rfl,((Below.refl _ _).alloc (Nat.le_refl _) _).alloc (by simp) _⟩
theorem QaH(t:Qz)(w:World):Calls prog 325 #[.agg #[.int .i64 t.to.1,.int .i64 t.to.2,.int .i64 t.a.1,.int .i64 t.a.2,.int .i64 (Je t.op),.int .i64 t.b.1,.int .i64 t.b.2]] w fun x w'=>∃v,x=.returned v∧w'.ownsRow w.heap.size 132 2 v 2 (pcs [t.a,t.b])∧Below w.heap.size w w':=by
 go_enter func325,ntmps325
 go_wp2
 go_ret;refine⟨_,rfl,?_,((Below.refl _ _).alloc (Nat.le_refl _) _).alloc (by simp) _⟩;have ON:=ZK (w.alloc (.cells #[.int .i64 t.to.1,.int .i64 t.to.2,.int .i64 t.a.1,.int .i64 t.a.2,.int .i64 (Je t.op),.int .i64 t.b.1,.int .i64 t.b.2] 370)) w.heap.size 132 2 2 #[.int .i64 t.a.1,.int .i64 t.a.2,.int .i64 t.b.1,.int .i64 t.b.2] (by simp) rfl (by decide);rw[Qt]at ON;exact ON
theorem Qa7(t:Qz)(w:World):Calls prog 324 #[.agg #[.int .i64 t.to.1,.int .i64 t.to.2,.int .i64 t.a.1,.int .i64 t.a.2,.int .i64 (Je t.op),.int .i64 t.b.1,.int .i64 t.b.2]] w fun x w'=>x=.returned (.tuple #[.agg #[.int .i64 t.to.1,.int .i64 t.to.2],.bool true])∧Below w.heap.size w w':=by
 go_enter func324,ntmps324
 go_wp2
 refine bodyPost_ret (v:=.tuple #[.agg #[.int .i64 t.to.1,.int .i64 t.to.2],.bool true]) (by simp[results,results324,go_sem]) rfl ⟨rfl,((Below.refl _ _).alloc (Nat.le_refl _) _).alloc (by simp) _⟩
theorem Ns(t:Qz):∃T x fr fg,QS t=.iface T x∧(∀w:World,(method 500 T x "Reads").run prog w=.ok (fr,x) w)∧(∀args (w:World),(callFunc fr args).run prog w=.ok (.enter fr args) w) ∧
  (∀w:World,Calls prog fr #[x] w fun r w'=>∃v,r=.returned v∧w'.ownsRow w.heap.size 132 2 v (rdsF t).length (pcs (rdsF t))∧Below w.heap.size w w') ∧
  (∀w:World,(method 500 T x "Gives").run prog w=.ok (fg,x) w)∧(∀args (w:World),(callFunc fg args).run prog w=.ok (.enter fg args) w) ∧
  (∀w:World,Calls prog fg #[x] w fun r w'=>r=.returned (.tuple #[if t.op=33 then .agg #[.int .i64 0,.int .i64 0] else .agg #[.int .i64 t.to.1,.int .i64 t.to.2],.bool (t.op != 33)])∧Below w.heap.size w w'):=by
 by_cases h63:t.op=63
 ·refine⟨_,_,304,303,by rw[QS,if_pos h63],fun w=>by kernel_rfl,enters_of func304 (by kernel_rfl) rfl,fun w=>(Qg2 t w).mono ?_,fun w=>by kernel_rfl,enters_of func303 (by kernel_rfl) rfl,fun w=>(QhQ t w).mono ?_⟩
  ·rintro r w' ⟨v,rfl,o,f⟩;refine⟨v,rfl,?_,f⟩;have:rdsF t=[]:=by simp[rdsF,h63]
   rw[this];exact o
  ·rintro r w' ⟨rfl,f⟩;refine⟨?_,f⟩;simp[h63]
 by_cases h99:t.op=99
 ·refine⟨_,_,286,285,by rw[QS,if_neg h63,if_pos h99],fun w=>by kernel_rfl,enters_of func286 (by kernel_rfl) rfl,fun w=>(Qg7 t w).mono ?_,fun w=>by kernel_rfl,enters_of func285 (by kernel_rfl) rfl,fun w=>(QhS t w).mono ?_⟩
  ·rintro r w' ⟨v,rfl,o,f⟩;refine⟨v,rfl,?_,f⟩;have:rdsF t=[t.a]:=by simp[rdsF,h99]
   rw[this];exact o
  ·rintro r w' ⟨rfl,f⟩;refine⟨?_,f⟩;simp[h99]
 by_cases h118:t.op=118
 ·refine⟨_,_,296,295,by rw[QS,if_neg h63,if_neg h99,if_pos h118],fun w=>by kernel_rfl,enters_of func296 (by kernel_rfl) rfl,fun w=>(Qg4 t w).mono ?_,fun w=>by kernel_rfl,enters_of func295 (by kernel_rfl) rfl,fun w=>(QhR t w).mono ?_⟩
  ·rintro r w' ⟨v,rfl,o,f⟩;refine⟨v,rfl,?_,f⟩;have:rdsF t=[]:=by simp[rdsF,h118]
   rw[this];exact o
  ·rintro r w' ⟨rfl,f⟩;refine⟨?_,f⟩;simp[h118]
 by_cases h33:t.op=33
 ·refine⟨_,_,316,315,by rw[QS,if_neg h63,if_neg h99,if_neg h118,if_pos h33],fun w=>by kernel_rfl,enters_of func316 (by kernel_rfl) rfl,fun w=>(Qje t w).mono ?_,fun w=>by kernel_rfl,enters_of func315 (by kernel_rfl) rfl,fun w=>(QjN t w).mono ?_⟩
  ·rintro r w' ⟨v,rfl,o,f⟩;refine⟨v,rfl,?_,f⟩;have:rdsF t=[t.a]:=by simp[rdsF,h33]
   rw[this];exact o
  ·rintro r w' ⟨rfl,f⟩;refine⟨?_,f⟩;simp[h33]
 refine⟨_,_,325,324,by rw[QS,if_neg h63,if_neg h99,if_neg h118,if_neg h33],fun w=>by kernel_rfl,enters_of func325 (by kernel_rfl) rfl,fun w=>(QaH t w).mono ?_,fun w=>by kernel_rfl,enters_of func324 (by kernel_rfl) rfl,fun w=>(Qa7 t w).mono ?_⟩
 ·rintro r w' ⟨v,rfl,o,f⟩;refine⟨v,rfl,?_,f⟩;have:rdsF t=[t.a,t.b]:=by simp[rdsF,h63,h99,h118,h33]
  rw[this];exact o
 ·rintro r w' ⟨rfl,f⟩;refine⟨?_,f⟩;simp[h33]
theorem Qg3(w:World):Calls prog 308 #[.agg #[]] w fun x w'=>x=.returned (.slice none 0 0)∧Below w.heap.size w w':=by
 go_enter func308,ntmps308
 go_wp2
 go_ret;exact⟨rfl,(Below.refl _ _).alloc (Qi _) _⟩
theorem Qg5(a b:Nat)(w:World):Calls prog 312 #[.agg #[.int .i64 a,.int .i64 b]] w fun x w'=>x=.returned (.slice none 0 0)∧Below w.heap.size w w':=by
 go_enter func312,ntmps312
 go_wp2
 go_ret;exact⟨rfl,(Below.refl _ _).alloc (Qi _) _⟩
theorem Qg6(p q a b c d:Nat)(w:World):Calls prog 320 #[.agg #[.int .i64 p,.int .i64 q,.int .i64 a,.int .i64 b,.int .i64 c,.int .i64 d]] w fun x w'=>∃v,x=.returned v∧w'.ownsRow w.heap.size 132 2 v 1 (pcs [(p,q)])∧Below w.heap.size w w':=by
 go_enter func320,ntmps320
 go_wp2
 go_ret;refine⟨_,rfl,?_,((Below.refl _ _).alloc (Nat.le_refl _) _).alloc (by simp) _⟩;have ON:=ZK (w.alloc (.cells #[.int .i64 p,.int .i64 q,.int .i64 a,.int .i64 b,.int .i64 c,.int .i64 d] 353)) w.heap.size 132 2 1 #[.int .i64 p,.int .i64 q] (by simp) rfl (by decide);rw[Qt]at ON;exact ON
def XA(e:Z6):List (Nat×Nat):=if e.op=63 then [e.a] else []
theorem Qlx(e:Z6)(hop:e.op=46∨e.op=62∨e.op=63):∃T x fn,Zc e=.iface T x∧(∀w:World,(method 500 T x "Reads").run prog w=.ok (fn,x) w)∧(∀args (w:World),(callFunc fn args).run prog w=.ok (.enter fn args) w) ∧
  ∀w:World,Calls prog fn #[x] w fun r w'=>∃v,r=.returned v∧w'.ownsRow w.heap.size 132 2 v (XA e).length (pcs (XA e))∧Below w.heap.size w w':=by
 rcases hop with hop|hop|hop
 ·obtain⟨a1,_⟩:=K6 hop;refine⟨_,_,308,a1,fun w=>by kernel_rfl,enters_of func308 (by kernel_rfl) rfl,fun w=>(Qg3 w).mono ?_⟩;rintro r w' ⟨rfl,f⟩;have:XA e=[]:=by simp[XA,hop]
  rw[this];exact⟨_,rfl,Q3 _ _ _ _,f⟩
 ·obtain⟨a1,_⟩:=K7 hop;refine⟨_,_,312,a1,fun w=>by kernel_rfl,enters_of func312 (by kernel_rfl) rfl,fun w=>(Qg5 _ _ w).mono ?_⟩;rintro r w' ⟨rfl,f⟩;have:XA e=[]:=by simp[XA,hop]
  rw[this];exact⟨_,rfl,Q3 _ _ _ _,f⟩
 ·obtain⟨a1,_⟩:=JI hop;refine⟨_,_,320,a1,fun w=>by kernel_rfl,enters_of func320 (by kernel_rfl) rfl,fun w=>(Qg6 _ _ _ _ _ _ w).mono ?_⟩;rintro r w' ⟨v,rfl,o,f⟩;have:XA e=[e.a]:=by simp[XA,hop]
  rw[this];exact⟨_,rfl,o,f⟩
theorem Qeb(t:Qz)(w:World):
  Calls prog 55 #[.agg #[.int .u8 t.op,.int .i64 t.to.1,.int .i64 t.to.2,.int .i64 t.a.1,.int .i64 t.a.2,.int .i64 t.b.1,.int .i64 t.b.2,.int .i64 t.n]] w
   fun x w'=>∃v,x=.returned v∧w'.ownsRow w.heap.size 48 2 v (rdsF t).length (pcs (rdsF t))∧Below w.heap.size w w':=by
 by_cases h0:t.op=99
 ·have HG:Hid (rdsF t=[t.a]):=by simp[Hid,rdsF,h0]
  have e0:((t.op:Int)==99)=true:=by simp;omega
  clear h0;go_enter func55,ntmps55
  go_wp2
  go_ret;rw[HG.o];refine⟨_,rfl,?_,((Below.refl _ _).alloc (Nat.le_refl _) _).alloc (by simp) _⟩;have ON:=ZK (w.alloc (.cells #[.int .u8 t.op,.int .i64 t.to.1,.int .i64 t.to.2,.int .i64 t.a.1,.int .i64 t.a.2,.int .i64 t.b.1,.int .i64 t.b.2,.int .i64 t.n] 66)) w.heap.size 48 2 1 #[.int .i64 t.a.1,.int .i64 t.a.2] (by simp) rfl (by decide);rw[Qt]at ON;exact ON
 ·by_cases h1:t.op=33
  ·have HG:Hid (rdsF t=[t.a]):=by simp[Hid,rdsF,h1]
   have e0:((t.op:Int)==99)=false:=by simp;omega
   have e1:((t.op:Int)==33)=true:=by simp;omega
   clear h0 h1;go_enter func55,ntmps55
   go_wp2
   go_ret;rw[HG.o];refine⟨_,rfl,?_,((Below.refl _ _).alloc (Nat.le_refl _) _).alloc (by simp) _⟩;have ON:=ZK (w.alloc (.cells #[.int .u8 t.op,.int .i64 t.to.1,.int .i64 t.to.2,.int .i64 t.a.1,.int .i64 t.a.2,.int .i64 t.b.1,.int .i64 t.b.2,.int .i64 t.n] 66)) w.heap.size 48 2 1 #[.int .i64 t.a.1,.int .i64 t.a.2] (by simp) rfl (by decide);rw[Qt]at ON;exact ON
  ·by_cases h2:t.op=118
   ·have HG:Hid (rdsF t=[]):=by simp[Hid,rdsF,h2]
    have e0:((t.op:Int)==99)=false:=by simp;omega
    have e1:((t.op:Int)==33)=false:=by simp;omega
    have e2:((t.op:Int)==118)=true:=by simp;omega
    clear h0 h1 h2;go_enter func55,ntmps55
    go_wp2
    go_ret;rw[HG.o];exact⟨_,rfl,Q3 _ _ _ _,(Below.refl _ _).alloc (Qi _) _⟩
   ·by_cases h3:t.op=63
    ·have HG:Hid (rdsF t=[]):=by simp[Hid,rdsF,h3]
     have e0:((t.op:Int)==99)=false:=by simp;omega
     have e1:((t.op:Int)==33)=false:=by simp;omega
     have e2:((t.op:Int)==118)=false:=by simp;omega
     have e3:((t.op:Int)==63)=true:=by simp;omega
     clear h0 h1 h2 h3;go_enter func55,ntmps55
     go_wp2
     go_ret;rw[HG.o];exact⟨_,rfl,Q3 _ _ _ _,(Below.refl _ _).alloc (Qi _) _⟩
    ·have HG:Hid (rdsF t=[t.a,t.b]):=by simp[Hid,rdsF,h0,h1,h2,h3]
     have e0:((t.op:Int)==99)=false:=by simp;omega
     have e1:((t.op:Int)==33)=false:=by simp;omega
     have e2:((t.op:Int)==118)=false:=by simp;omega
     have e3:((t.op:Int)==63)=false:=by simp;omega
     clear h0 h1 h2 h3;go_enter func55,ntmps55
     go_wp2
     go_ret;rw[HG.o];refine⟨_,rfl,?_,((Below.refl _ _).alloc (Nat.le_refl _) _).alloc (by simp) _⟩;have ON:=ZK (w.alloc (.cells #[.int .u8 t.op,.int .i64 t.to.1,.int .i64 t.to.2,.int .i64 t.a.1,.int .i64 t.a.2,.int .i64 t.b.1,.int .i64 t.b.2,.int .i64 t.n] 66)) w.heap.size 48 2 2 #[.int .i64 t.a.1,.int .i64 t.a.2,.int .i64 t.b.1,.int .i64 t.b.2] (by simp) rfl (by decide);rw[Qt]at ON;exact ON
theorem Kh(s i bad):regN s i bad<10000:=Xo _ _ _
def StFine(t:Qz):Prop:=t.to.1<10000∧t.a.1<10000∧t.b.1<10000
def ChFine(n:Nat)(c:Q0):Prop:=c.to.1<10000∧c.rs.length=c.gs.length∧c.gs.length≤n∧∀r∈c.rs,r.1<10000
structure QU(n:Nat)(b:Qm):Prop where
 cl:b.chs.length≤n
 sl:b.sts.length≤n
 ch:∀c∈b.chs,ChFine n c
 st:∀t∈b.sts,StFine t
 e:b.e.a.1<10000
theorem Qdp{s to i bad}(h:to.1<10000):StFine (givF s to i bad).st:=by
 unfold givF;by_cases h1:onF s i bad 63=true
 ·rw[if_pos h1];exact⟨h,Nat.zero_lt_succ _,Nat.zero_lt_succ _⟩
 rw[if_neg h1];by_cases h2:onF s i bad 114=true
 ·rw[if_pos h2];by_cases h3:opC s (regI s i bad) (regB s i bad)=0
  ·dsimp only;rw[if_pos h3];exact⟨h,Kh _ _ _,Nat.zero_lt_succ _⟩
  ·dsimp only;rw[if_neg h3];exact⟨h,Kh _ _ _,Kh _ _ _⟩
 rw[if_neg h2];by_cases h4:onF s i bad 45=true
 ·rw[if_pos h4];exact⟨h,Nat.zero_lt_succ _,Nat.zero_lt_succ _⟩
 ·rw[if_neg h4];exact⟨h,Nat.zero_lt_succ _,Nat.zero_lt_succ _⟩
theorem Qbf{s}(k:Nat):∀c:Cho,c.rs.length=c.gs.length→(∀r∈c.rs,r.1<10000)→(ZO s k c).rs.length=(ZO s k c).gs.length∧∀r∈(ZO s k c).rs,r.1<10000:=by
 induction k with
 | zero=>intro c h1 h2;exact⟨h1,h2⟩
 | succ k ih=>
  intro c h1 h2;have g1:(choR s c).rs.length=(choR s c).gs.length:=by simp[choR,h1]
  have g2:∀r∈(choR s c).rs,r.1<10000:=fun r hr=>by
   simp only[choR,List.mem_append,List.mem_singleton]at hr;rcases hr with hr|hr
   ·exact h2 r hr
   ·subst hr;exact Kh _ _ _
  rw[ZO]
  cases h:onF s (choR s c).i (choR s c).bad 44 with
  | true=>rw[if_pos rfl];exact ih _ g1 g2
  | false=>rw[if_neg (by simp)];exact⟨g1,g2⟩
theorem GV{s i bad}:(choF s i bad).rs.length=(choF s i bad).gs.length∧∀r∈(choF s i bad).rs,r.1<10000:=Qbf _ _ rfl (fun r hr=>by simp at hr)
theorem Qbh{s i0}(k:Nat):∀chs sts i bad,chs.length+k≤s.size+1→sts.length+k≤s.size+1→(∀c∈chs,ChFine (s.size+1) c)→(∀t∈sts,StFine t)→QU (s.size+1) (QP s i0 k chs sts i bad).b:=by
 induction k with
 | zero=>intro chs sts i bad h1 h2 h3 h4;exact⟨h1,h2,h3,h4,by show 0<10000;omega⟩
 | succ k ih=>
  intro chs sts i bad hc hl hch hst;have hcl:chs.length≤s.size+1:=by omega
  have hsl:sts.length≤s.size+1:=by omega
  rw[QP];by_cases hb:bad<0
  ·rw[if_pos hb];by_cases h1:onF s i bad 46=true
   ·rw[if_pos h1];exact⟨hcl,hsl,hch,hst,by show 0<10000;omega⟩
   rw[if_neg h1];by_cases h2:onF s i bad 62=true
   ·rw[if_pos h2];exact⟨hcl,hsl,hch,hst,by show 0<10000;omega⟩
   rw[if_neg h2];by_cases h3:onF s i bad 33=true
   ·rw[if_pos h3];refine ih _ _ _ _ (by omega) (by rw[Qw,List.length_singleton];omega) hch ?_;intro t ht;rcases QB.1 ht with ht|ht
    ·exact hst t ht
    ·rw[QF]at ht;subst ht;exact⟨by show 0<10000;omega,Kh _ _ _,by show 0<10000;omega⟩
   rw[if_neg h3];dsimp only;by_cases h4:onF s (regI s i bad) (regB s i bad) 61=true
   ·rw[if_pos h4];refine ih _ _ _ _ (by omega) (by rw[Qw,List.length_singleton];omega) hch ?_;intro t ht;rcases QB.1 ht with ht|ht
    ·exact hst t ht
    ·rw[QF]at ht;subst ht;exact Qdp (Kh _ _ _)
   rw[if_neg h4];by_cases h5:(onF s (regI s i bad) (regB s i bad) 64&&sts.isEmpty)=true
   ·rw[if_pos h5];refine ih _ _ _ _ (by rw[Qw,List.length_singleton];omega) (by omega) ?_ hst;intro c hc;rcases QB.1 hc with hc|hc
    ·exact hch c hc
    ·rw[QF]at hc;subst hc;exact⟨Kh _ _ _,GV.1,Qap,GV.2⟩
   rw[if_neg h5];exact⟨hcl,hsl,hch,hst,Kh _ _ _⟩
  ·rw[if_neg hb];exact⟨hcl,hsl,hch,hst,by show 0<10000;omega⟩
theorem Qbj{s i bad}:QU (s.size+1) (blkF s i bad).b:=Qbh _ _ _ _ _ (by simp) (by simp) (fun c hc=>by simp at hc) (fun c hc=>by simp at hc)
theorem NI{s}(k:Nat):∀p:Par,(∀b∈p.bs,QU (s.size+1) b)→∀b∈(Xj s k p).bs,QU (s.size+1) b:=by
 induction k with
 | zero=>intro p h;exact h
 | succ k ih=>
  intro p h;rw[Xj];have hq:∀b∈p.bs++[(blkF s p.i p.bad).b],QU (s.size+1) b:=by
   intro b hb;rcases QB.1 hb with hb|hb
   ·exact h b hb
   ·rw[QF]at hb;subst hb;exact Qbj
  cases ho:onF s (blkF s p.i p.bad).i (blkF s p.i p.bad).bad 124 with
  | true=>rw[if_pos rfl];exact ih _ hq
  | false=>rw[if_neg (by simp)];exact hq
theorem Vj(s:ByteArray):∀b∈(Qu s).bs,QU (s.size+1) b:=NI _ _ (fun b hb=>by simp at hb)
def bkF(bs:List Qm)(i:Nat):Qm:=(bs[i]?).getD ⟨[],[],KG,0⟩
theorem Zj{bs:List Qm}{i:Nat}(h:i<bs.length):bkF bs i=bs[i]:=by rw[bkF,Zl h];rfl
theorem QcZ{s:ByteArray}(k:Nat)(p:Par)(h:0<p.bs.length∨0<k):0<(Xj s k p).bs.length:=by
 induction k generalizing p with
 | zero=>
  rcases h with h|h
  ·exact h
  ·omega
 | succ k ih=>
  rw[Xj];split
  ·exact ih _ (.inl (by simp))
  ·simp
theorem rd0{s:ByteArray}(h:(rdF s).e=0):(rdF s).at_=0∧0<(Qu s).bs.length∧(Qu s).bs.length≤12∧∀b∈(Qu s).bs,∀p∈goalsF b.e,p.1<(Qu s).bs.length:=by
 have hp:0<(Qu s).bs.length:=QcZ _ _ (.inr (by omega));unfold rdF at h ⊢;by_cases h1:200000<s.size
 ·rw[if_pos h1]at h;cases h
 rw[if_neg h1]at h ⊢;by_cases h2:0≤Q9 s
 ·rw[if_pos h2]at h;cases h
 rw[if_neg h2]at h ⊢;by_cases h3:12<(Qu s).bs.length
 ·rw[dif_pos h3]at h;cases h
 rw[dif_neg h3]at h ⊢;by_cases h4:0≤Xb (Qu s).bs
 ·rw[if_pos h4]at h;cases h
 rw[if_neg h4]at h ⊢;by_cases h5:0≤JR (Qu s).bs
 ·rw[if_pos h5]at h;cases h
 rw[if_neg h5];exact⟨rfl,hp,by omega,UV h4⟩
theorem QU.mono{n m:Nat}{b:Qm}(h:QU n b)(hn:n≤m):QU m b:=⟨Qy h.cl hn,Qy h.sl hn,fun c hc=>⟨(h.ch c hc).1,(h.ch c hc).2.1,Qy (h.ch c hc).2.2.1 hn,(h.ch c hc).2.2.2⟩,h.st,h.e⟩
theorem Nl{ah:List Nat}:∀{cs:List Q0}{gv:List Nat},Jp ah gv cs=none→∀c∈cs,Zw c.gs=ah
 | [],_,_,c,hc=>by simp at hc
 | d::cs,gv,h,c,hc=>by
  rw[Jp]at h;split at h
  ·rename_i ho;rcases List.mem_cons.1 hc with rfl|hc
   ·rw[Kr,Bool.and_eq_true]at ho;simpa using ho.1
   ·exact Nl h c hc
  ·cases h
theorem Qg9{s:ByteArray}(h:(rdF s).e=0):s.size≤200000∧∀(i:Nat)(hi:i<(Qu s).bs.length),∀c∈(Qu s).bs[i].chs,Zw c.gs=aheF (Qu s).bs i:=by
 unfold rdF at h;by_cases h1:200000<s.size
 ·rw[if_pos h1]at h;cases h
 rw[if_neg h1]at h;by_cases h2:0≤Q9 s
 ·rw[if_pos h2]at h;cases h
 rw[if_neg h2]at h;by_cases h3:12<(Qu s).bs.length
 ·rw[dif_pos h3]at h;cases h
 rw[dif_neg h3]at h;by_cases h4:0≤Xb (Qu s).bs
 ·rw[if_pos h4]at h;cases h
 rw[if_neg h4]at h;by_cases h5:0≤JR (Qu s).bs
 ·rw[if_pos h5]at h;cases h
 refine⟨by omega,fun i hi c hc=>?_⟩;have hn:(List.range (Qu s).bs.length).findSome? (Xy (Qu s).bs)=none:=by
  cases e:(List.range (Qu s).bs.length).findSome? (Xy (Qu s).bs) with
  | none=>rfl
  | some x=>rw[JR,e]at h5;exact absurd (by show (0:Int)≤(x:Int);omega) h5
 rw[List.findSome?_eq_none_iff]at hn;have:=hn i (List.mem_range.2 hi);rw[Xy,Zl hi]at this;exact Nl this c hc
theorem WG{s:ByteArray}(h:(rdF s).e=0):(∀b∈(Qu s).bs,QU 1000000 b)∧(∀b∈(Qu s).bs,∀c∈b.chs,(c.gs.map (·.1)).Pairwise (· < ·))∧(∀b∈(Qu s).bs,∀c∈b.chs,c.gs.length≤1000):=by
 obtain⟨hs,hc⟩:=Qg9 h;obtain⟨_,_,h12,_⟩:=rd0 h;refine⟨fun b hb=>(Vj s b hb).mono (by omega),fun b hb c hcc=>?_,fun b hb c hcc=>?_⟩
 ·obtain⟨i,hi,rfl⟩:=List.getElem_of_mem hb;have:=hc i hi c hcc;rw[Zw]at this;rw[this];exact Wo _ _ _
 ·obtain⟨i,hi,rfl⟩:=List.getElem_of_mem hb;have:=congrArg List.length (hc i hi c hcc);rw[Zw,List.length_map]at this;have:=Qav (Qu s).bs i;omega
def upE(m:Nat)(s:ByteArray):Nat:=if (rdF s).e=0 then (if m<s.size then 1 else 0) else (rdF s).e
theorem Nj{m s}(h:upE m s=0):(rdF s).e=0∧s.size≤m:=by
 unfold upE at h;by_cases h0:(rdF s).e=0
 ·rw[if_pos h0]at h;by_cases h1:m<s.size
  ·rw[if_pos h1]at h;cases h
  ·exact⟨h0,by omega⟩
 ·rw[if_neg h0]at h;exact absurd h h0
def PUp(w:World)(base m:Nat)(s:ByteArray)(v:Value):Prop:=upE m s=0→PBs w base (Qu s).bs v
theorem QgW(m:Nat)(_hm:m≤1000000)(s:ByteArray)(w:World)(_hs:s.size≤maxLen):
  Calls prog 19 #[.int .i64 m,.string s] w fun x w'=>∃v,x=.returned (.tuple #[v,.int .i64 (upE m s),.int .i64 (rdF s).at_])∧Hid (PUp w' w.heap.size m s v∧Below w.heap.size w w'):=by
 unfold maxLen at _hs;go_enter func19,ntmps19;go_wp2_with fail;refine(QcR s w).mono ?_;rintro x w1 ⟨v1,rfl,P1,f1⟩;have H1:=Qc (And.intro P1 f1);clear P1 f1;by_cases h0:(rdF s).e=0
 ·have ha:=(rd0 h0).1;have HA:=Qc ha;rw[h0,ha];by_cases hl:m<s.size
  ·have HE:Hid (upE m s=1):=by show _=_;rw[upE,if_pos h0,if_pos hl]
   clear h0 ha;go_wp2_with fail
   go_ret3
   exact⟨_,by rw[HE.o,HA.o];rfl,(fun h=>by rw[HE.o]at h;cases h),H1.o.2⟩
  ·have HE:Hid (upE m s=0):=by show _=_;rw[upE,if_pos h0,if_neg hl]
   have HP:=Qc (H1.o.1 h0);clear h0 ha;go_wp2_with fail
   go_ret3
   exact⟨_,by rw[HE.o,HA.o];rfl,fun _=>HP.o,H1.o.2⟩
 ·have HE:Hid (upE m s=(rdF s).e):=by show _=_;rw[upE,if_neg h0]
  have hd:(((rdF s).e:Int)==0)=false:=by simp;omega
  have HZ:Hid (upE m s≠0):=by show _≠_;rw[HE.o];exact h0
  clear h0;go_wp2_with fail
  go_ret3
  exact⟨_,by rw[HE.o];rfl,fun h=>absurd h HZ.o,H1.o.2⟩
theorem Qba{s:ByteArray}(h:(rdF s).e=0):∀b∈(Qu s).bs,∀c∈b.chs,∀p∈c.gs,p.1<(Qu s).bs.length:=by
 intro b hb c hc p hp;obtain⟨i,hi,rfl⟩:=List.getElem_of_mem hb;have:=(Qg9 h).2 i hi c hc;have hm:p.1∈Zw c.gs:=Qv.2 ⟨p,hp,rfl⟩;rw[this]at hm;exact Gf hm
def Jb(e:Z6):List Nat:=if e.op=63 then [e.a.1] else []
def JW:List Qz→Z6→List Nat
 | [],e=>Jb e
 | t::ts,e=>(rdsF t).map (·.1)++(if t.op=33 then JW ts e else wo (JW ts e) t.to.1)
def J3(ts:List Qz):List Nat:=(ts.filter fun t=>t.op != 33).map (·.to.1)
def rdB(b:Qm):List Nat:=ofL (JW b.sts b.e)
def gvB(b:Qm):List Nat:=ofL (J3 b.sts)
theorem Qec{t:Qz}(h:StFine t){r:Nat}(hr:r∈(rdsF t).map (·.1)):r<10000:=by
 obtain⟨h1,h2,h3⟩:=h;unfold rdsF at hr;split at hr
 ·simp at hr;omega
 split at hr
 ·simp at hr;omega
 split at hr
 ·simp at hr
 split at hr
 ·simp at hr
 ·simp at hr;omega
theorem WR{e:Z6}(he:e.a.1<10000):∀{ts:List Qz},(∀t∈ts,StFine t)→∀{r:Nat},r∈JW ts e→r<10000
 | [],_,r,hr=>by
  rw[JW,Jb]at hr;split at hr
  ·rw[QF]at hr;omega
  ·simp at hr
 | t::ts,h,r,hr=>by
  rw[JW,QB]at hr;rcases hr with hr|hr
  ·exact Qec (h t (List.mem_cons_self ..)) hr
  ·have ih:=WR he (ts:=ts) (fun t ht=>h t (ZD _ ht)) (r:=r);split at hr
   ·exact ih hr
   ·exact ih (G8.1 hr).1
theorem Qf6{n:Nat}{bs:List Qm}(h:∀b∈bs,QU n b)(i:Nat):QU n (bkF bs i):=by
 by_cases hi:i<bs.length
 ·rw[Zj hi];exact h _ (Qx hi)
 ·rw[bkF,ZI (by omega)];exact⟨Nat.zero_le _,Nat.zero_le _,fun c hc=>by simp at hc,fun c hc=>by simp at hc,by show 0<10000;omega⟩
theorem QgA{l:List Nat}(hl:l.Pairwise (· < ·)){n:Nat}(h:∀x∈l,x<n):l=QI n (fun x=>l.contains x):=YH hl fun x=>⟨fun hx=>⟨h x hx,by simpa using hx⟩,fun hx=>by simpa using hx.2⟩
theorem QgB{l:List Nat}(hl:l.Pairwise (· < ·)){n:Nat}(h:∀x∈l,x<n):l.length≤n:=by
 rw[QgA hl h];exact Z2 _ _
theorem UE{l:List Nat}(h:l.Pairwise (· < ·)):ofL l=l:=Zo (Zi _) h fun _=>QN
def Yq(ts:List Qz)(k:Nat):List Nat:=ofL (JW (ts.take k) KG)
def Ju(ts:List Qz)(k:Nat):List Nat:=ofL (J3 (ts.take k))
def SM(l:List Nat):Prop:=l.Pairwise (· < ·)∧∀x∈l,x<10000
theorem SM.len{l:List Nat}(h:SM l):l.length≤10000:=QgB h.1 h.2
theorem SM.nil:SM []:=⟨List.Pairwise.nil,fun _ h=>by simp at h⟩
theorem SM.of{l:List Nat}(h:∀x∈l,x<10000):SM (ofL l):=⟨Zi _,fun x hx=>h x (QN.1 hx)⟩
theorem Qed(t:Qz):(rdsF t).length≤2:=by
 unfold rdsF
 repeat' split
 all_goals simp
structure Use where
 n:Nat
 p:Nat
 b:Nat
 s:Int
def stU(b:Qm)(i j:Nat):List Use:=match b.sts[j]? with|some t=>if t.op=33 then [] else [⟨t.to.1,t.to.2,i,j⟩] | none=>[]
theorem Qgy{b:Qm}{i j:Nat}(hj:j<b.sts.length)(h:b.sts[j].op=33):stU b i j=[]:=by rw[stU,List.getElem?_eq_getElem hj];simp[h]
theorem QdS{b:Qm}{i j:Nat}(hj:j<b.sts.length)(h:¬b.sts[j].op=33):stU b i j=[⟨b.sts[j].to.1,b.sts[j].to.2,i,j⟩]:=by rw[stU,List.getElem?_eq_getElem hj];simp[h]
def chU(i:Nat)(c:Q0):Use:=⟨c.to.1,c.to.2,i,-1⟩
def Qa8(b:Qm)(i:Nat):List Use:=b.chs.map (chU i)++(List.range b.sts.length).flatMap (stU b i)
def Qaa(bs:List Qm)(m:Nat):List Use:=(List.range m).flatMap fun i=>Qa8 (bkF bs i) i
def gvU(bs:List Qm):List Use:=Qaa bs bs.length
theorem Qdl(bs:List Qm)(m:Nat):Qaa bs (m+1)=Qaa bs m++Qa8 (bkF bs m) m:=by rw[Qaa,Qaa,List.range_succ,List.flatMap_append];simp
def twG(seen:List Nat):List Use→Option Use
 | []=>none
 | u::us=>if seen.contains u.n then some u else twG (seen++[u.n]) us
def twF(l:List Use):Option Use:=twG [] l
theorem Vt(u:Use):∀(l:List Use)(seen:List Nat),twG seen (l++[u])=match twG seen l with|some x=>some x|none=>if (seen++l.map (·.n)).contains u.n then some u else none
 | [],seen=>by simp[twG]
 | v::l,seen=>by
  rw[List.cons_append,twG,twG];by_cases h:seen.contains v.n=true
  ·rw[if_pos h,if_pos h]
  ·rw[if_neg h,if_neg h,Vt u l (seen++[v.n])];simp[List.append_assoc]
theorem Nn{l:List Use}{x:Use}(h:twF l=some x)(u:Use):twF (l++[u])=some x:=by rw[twF,Vt];rw[twF]at h;rw[h]
theorem Qbt{l:List Use}{u:Use}(h:twF l=none)(hu:u.n∈l.map (·.n)):twF (l++[u])=some u:=by
 rw[twF,Vt];rw[twF]at h;rw[h];simp only[List.nil_append];rw[if_pos (List.contains_iff_mem.2 hu)]
theorem QdN{l:List Use}{u:Use}(h:twF l=none)(hu:u.n∉l.map (·.n)):twF (l++[u])=none:=by
 rw[twF,Vt];rw[twF]at h;rw[h];simp only[List.nil_append];rw[if_neg (fun e=>hu (List.contains_iff_mem.1 e))]
def atO(o:Option Use):Int:=match o with|some u=>u.p|none=>-1
def whF(l:List Use)(n:Nat):Int:=match l.findIdx? (fun u=>u.n==n) with|some i=>i|none=>-1
theorem Vr{l:List Use}{n:Nat}:0≤whF l n↔n∈l.map (·.n):=by
 unfold whF
 cases h:l.findIdx? (fun u=>u.n==n) with
 | none=>
  rw[List.findIdx?_eq_none_iff]at h;constructor
  ·intro e;exact absurd e (by decide)
  ·intro e;obtain⟨u,hu,rfl⟩:=Qv.1 e;have:=h u hu;simp at this
 | some i=>
  rw[List.findIdx?_eq_some_iff_getElem]at h;obtain⟨hi,h1,_⟩:=h;constructor
  ·intro _;exact List.mem_map.2 ⟨l[i],List.getElem_mem hi,by simpa using h1⟩
  ·intro _;show (0:Int)≤(i:Int);omega
def QV(l:List Use):List Value:=l.flatMap fun u=>[.int .i64 u.n,.int .i64 u.b,.int .i64 u.s]
theorem ZN(l m:List Use):QV (l++m)=QV l++QV m:=by rw[QV,QV,QV,List.flatMap_append]
theorem JG{l:List Use}{j:Nat}(hj:j<l.length):(QV l)[j*3]?=some (.int .i64 l[j].n)∧(QV l)[j*3+1]?=some (.int .i64 l[j].b)∧(QV l)[j*3+2]?=some (.int .i64 l[j].s):=by
 have F:=fun k hk=>Z4 3 (l.map fun u:Use=>[Value.int .i64 u.n,.int .i64 u.b,.int .i64 u.s]) j k [.int .i64 l[j].n,.int .i64 l[j].b,.int .i64 l[j].s] (fun x hx=>by obtain⟨y,_,rfl⟩:=List.mem_map.1 hx;rfl) (by simp[hj]) hk;rw[QV,List.flatMap_def];exact⟨F 0 (by omega),F 1 (by omega),F 2 (by omega)⟩
theorem Uk(l:List Use)(n base:Nat)(v:Value)(w:World)(h:w.ownsRow base 115 3 v l.length (QV l))(hl:l.length≤100000000000):
  Calls prog 53 #[v,.int .i64 n] w fun x w'=>x=.returned (.int .i64 (whF l n))∧w'=w:=by
 obtain⟨p,c,rfl⟩:=Qa h;have H:=Qc h;clear h;go_enter func53,ntmps53;go_wp2_with fail
 go_loop [5] (fun i=>∃k:Nat,k≤l.length∧i=.int .i64 k∧Hid (∀j,(hj:j<l.length)→j<k→l[j].n≠n)) (fun i=>l.length-(intOf i).toNat)
 case atStart=>exact⟨0,by omega,rfl,fun j hj hk=>absurd hk (by omega)⟩
 case round=>
  obtain⟨k,hk,rfl,HN⟩:=hrel;by_cases hlt:k<l.length
  ·obtain⟨g,rfl,_,_⟩:=Qk H.o (by omega);have hc:=Qf H.o (JG hlt).1;by_cases he:l[k].n=n
   ·have he':((l[k].n:Int)==(n:Int))=true:=by simp;omega
    have HR:Hid (whF l n=k):=by
     show whF l n=_;have:l.findIdx? (fun u=>u.n==n)=some k:=List.findIdx?_eq_some_iff_getElem.2 ⟨hlt,by simpa using he,fun j hj=>by simpa using HN.o j (by omega) hj⟩;rw[whF,this]
    clear he;go_wp2_with fail;go_ret;exact⟨by rw[HR.o];rfl,rfl⟩
   ·have he':((l[k].n:Int)==(n:Int))=false:=by simp;omega
    have HN2:Hid (∀j,(hj:j<l.length)→j<k+1→l[j].n≠n):=fun j hj hjk=>by
     rcases Nat.lt_succ_iff_lt_or_eq.1 hjk with h|rfl
     ·exact HN.o j hj h
     ·exact he
    clear he;go_wp2_with fail
    go_round
    case rel=>exact⟨k+1,by omega,by go_num,HN2⟩
    case measure=>simp[intOf];omega
  ·have HR:Hid (whF l n=-1):=by
    show whF l n=_;have:l.findIdx? (fun u=>u.n==n)=none:=by
     rw[List.findIdx?_eq_none_iff];intro u hu;obtain⟨j,hj,rfl⟩:=List.getElem_of_mem hu;simpa using HN.o j hj (by omega)
    rw[whF,this]
   go_wp2_with fail;go_ret;exact⟨by rw[HR.o];rfl,rfl⟩
end Go.Proofs.YtgfhfkgdmidhpaaGreatDoor
