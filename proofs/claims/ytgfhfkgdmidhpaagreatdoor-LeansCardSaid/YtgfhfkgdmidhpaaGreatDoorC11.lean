import Derived.Test.YtgfhfkgdmidhpaaGreatDoorC10
import Derived.Test.YtgfhfkgdmidhpaaGreatDoorC04
namespace Go.Proofs.YtgfhfkgdmidhpaaGreatDoor
open Go.RowKit
set_option maxRecDepth 100000
set_option maxHeartbeats 8000000
def Zk(bs:List Ql)(m:Nat)(gs:List (Nat×Nat))(k:Nat):List Nat:=if Qt (Q3 gs) k then ZP bs k m++[m] else ZP bs k m
theorem VL(bs m k):Zk bs m [] k=ZP bs k m:=rfl
theorem QeT(gl:List (Nat×Nat))(h:gl.length≤2)(k:Nat):Qt (Xl gl) k=Qt (Q3 gl) k:=by
 match gl,h with
 | [],_=>rfl
 | [x],_=>rfl
 | [x,y],_=>
  unfold Xl Qt Q3;by_cases e:y.1=x.1
  ·simp[e]
  ·simp[e]
theorem VO{bs:List Ql}{m:Nat}(hm:m<bs.length)(k:Nat):Zk bs m (goalsF bs[m].e) k=ZP bs k (m+1):=by
 rw[Uq,Zk,VP,List.getElem?_eq_getElem hm];simp only[QeT _ (Zx _)]
theorem Ur{bs:List Ql}{k m y:Nat}(h:y∈ZP bs k m):y<m:=by
 have:=(List.mem_filter.1 h).1;simpa using this
theorem VJ(bs:List Ql)(k m:Nat):(ZP bs k m).Pairwise (· < ·):=List.pairwise_lt_range.filter _
theorem JE(bs:List Ql)(m:Nat) (gs k):(Zk bs m gs k).Pairwise (· < ·):=by
 unfold Zk;cases Qt (Q3 gs) k
 ·exact VJ _ _ _
 ·refine List.pairwise_append.2 ⟨VJ _ _ _,by simp,fun a ha b hb=>?_⟩;have:=Ur ha;simp at hb;omega
theorem VN(bs:List Ql)(m:Nat) (gs k):(Zk bs m gs k).length≤m+1:=by
 have:=Yx bs k m;unfold Zk;cases Qt (Q3 gs) k<;>simp<;>omega
theorem VK{bs:List Ql}{m:Nat}{gs:List (Nat×Nat)}{t:Nat}(ht:t<gs.length)(h:Qt (Q3 (gs.take t)) gs[t].1=true)(k:Nat):Zk bs m (gs.take (t+1)) k=Zk bs m (gs.take t) k:=by
 unfold Zk;rw[show Qt (Q3 (gs.take (t+1))) k=Qt (Q3 (gs.take t)) k from ?_];rw[List.take_succ_eq_append_getElem ht];unfold Qt Q3 at *;rw[List.map_append,Bool.eq_iff_iff];simp only[List.contains_iff_mem,List.mem_append]at *;constructor
 ·rintro (h1|h1)
  ·exact h1
  ·simp at h1;rw[h1];exact h
 ·exact .inl
theorem KO{bs:List Ql}{m:Nat}{gs:List (Nat×Nat)}{k:Nat}(h:Qt (Q3 gs) k=true):m∈Zk bs m gs k:=by simp[Zk,h]
theorem VM{bs:List Ql}{m:Nat}{gs:List (Nat×Nat)}{t:Nat}(ht:t<gs.length)(h:Qt (Q3 (gs.take t)) gs[t].1=false):Zk bs m (gs.take (t+1)) gs[t].1=Zk bs m (gs.take t) gs[t].1++[m]:=by
 unfold Zk;rw[h,show Qt (Q3 (gs.take (t+1))) gs[t].1=true from ?_]
 ·rfl
 rw[List.take_succ_eq_append_getElem ht];unfold Qt Q3;rw[List.map_append,List.contains_iff_mem];exact List.mem_append.2 (.inr (by simp))
theorem Yn{bs:List Ql}{m:Nat}{gs:List (Nat×Nat)}{k:Nat}(h:Qt (Q3 gs) k=false):∀y∈Zk bs m gs k,y<m:=by
 intro y hy;rw[Zk,h]at hy;exact Ur hy
theorem Ym{bs:List Ql}{m:Nat}{gs:List (Nat×Nat)}{t:Nat}(ht:t<gs.length){k:Nat}(hk:k≠gs[t].1):Zk bs m (gs.take (t+1)) k=Zk bs m (gs.take t) k:=by
 unfold Zk;rw[show Qt (Q3 (gs.take (t+1))) k=Qt (Q3 (gs.take t)) k from ?_];rw[List.take_succ_eq_append_getElem ht];unfold Qt Q3 at *;rw[List.map_append,Bool.eq_iff_iff];simp only[List.contains_iff_mem,List.mem_append];constructor
 ·rintro (h1|h1)
  ·exact h1
  ·simp at h1;exact absurd h1 hk
 ·exact .inl
theorem GS{n k:Nat}{x u:Value}(h:(List.replicate n x)[k]?=some u):k<n∧u=x:=by
 rw[List.getElem?_replicate]at h;split at h
 ·cases h;exact⟨by assumption,rfl⟩
 ·cases h
def Qe5(e:Z3)(w:World)(r:Ending)(w':World):Prop:=∃v,r=.returned v∧w'.ownsRow w.heap.size 145 2 v (goalsF e).length (pcs (goalsF e))∧Below w.heap.size w w'
theorem QjC(e:Z3)(h:goalsF e=[])(w:World):Calls Tryz.prog 307 #[.agg #[]] w (Qe5 e w):=by
 refine(Ua w).mono ?_;rintro r w' ⟨rfl,f⟩;exact⟨_,rfl,by rw[h];exact World.ownsRow_nil _ _ _ _,f⟩
theorem QjB(e:Z3)(h:goalsF e=[e.one])(w:World):Calls Tryz.prog 311 #[.agg #[.int .i64 e.one.1,.int .i64 e.one.2]] w (Qe5 e w):=by
 refine(W8 _ _ w).mono ?_;rintro r w' ⟨g,rfl,o,f⟩;exact⟨_,rfl,by rw[h];exact o,f⟩
theorem QjA(e:Z3)(h:goalsF e=[e.one,e.two])(w:World):Calls Tryz.prog 319 #[.agg #[.int .i64 e.a.1,.int .i64 e.a.2,.int .i64 e.one.1,.int .i64 e.one.2,.int .i64 e.two.1,.int .i64 e.two.2]] w (Qe5 e w):=by
 refine(VC _ _ _ _ _ _ w).mono ?_;rintro r w' ⟨g,rfl,o,f⟩;exact⟨_,rfl,by rw[h];exact o,f⟩
theorem WS(n:Nat):(madeCells (Value.agg #[.slice none 0 0]).cells (n*1)).toList=List.replicate n (.slice none 0 0):=by
 rw[show (Value.agg #[.slice none 0 0]).cells=#[.slice none 0 0] from rfl,Nat.mul_one];apply List.ext_getElem
 ·simp[madeCells]
 ·intro i h1 h2;simp[madeCells,Nat.mod_one]
theorem QaA(bs:List Ql)(base:Nat)(v:Value)(w:World)(h:PBs w base bs v)(hn:bs.length≤1000)(hgl:Hid (∀b∈bs,∀p∈goalsF b.e,p.1<bs.length)):
  Calls Tryz.prog 41 #[v] w fun e w'=>∃v',e=.returned v'∧Ki w.heap.size w' v' bs.length (aheF bs)∧Below w.heap.size w w':=by
 obtain⟨pv,cv,rfl⟩:=h.slice;obtain⟨I9,Hi9,Hz9,Hs9,Hb9⟩:=info_parts Tryz.info82;go_enter Tryz.func41,Tryz.ntmps41;go_wp2_with (at_make;refine Qv ?_);refine Qc ?_;refine wpList_make_full _ rfl _ _ 83 rfl w.heap.size 82 I9 (.agg #[.slice none 0 0]) 1 Tryz.underlying83 Hi9 Hz9 Hs9 .i64 .i64 _ _ bs.length rfl rfl rfl rfl (by rw[Hb9];omega) (by unfold maxLen;omega) (by simp) ?_;intro w1 o1 g1;have S1:Ki w.heap.size w1 (.slice (some ⟨w.heap.size,0,none⟩) bs.length bs.length) bs.length (fun k=>ZP bs k 0):=by
  refine⟨_,o1,fun k u hu=>?_,fun j k u u' hu hu' _=>?_⟩
  ·rw[WS]at hu;obtain⟨_,rfl⟩:=GS hu;exact World.ownsRow_nil _ _ _ _
  ·rw[WS]at hu;obtain⟨_,rfl⟩:=GS hu;exact .inl rfl
 have F1:Hid (Below w.heap.size w w1):=Below.grown (Below.refl _ _) g1 (Nat.le_refl _) (fun k hk=>by cases hk);clear o1 g1 Hi9 Hz9 Hs9 Hb9;go_wp2_with fail
 go_loopw [13] (fun i wr=>∃m:Nat,m≤bs.length∧i=.int .i64 m∧Ki w.heap.size wr (.slice (some ⟨w.heap.size,0,none⟩) bs.length bs.length) bs.length (fun k=>ZP bs k m)∧Hid (Below w.heap.size w wr)) (fun i _=>bs.length-(intOf i).toNat)
 case atStart=>exact⟨0,by omega,rfl,S1,F1⟩
 case round=>
  clear S1 F1;obtain⟨m,hm,rfl,S,F⟩:=hrel;by_cases hlt:m<bs.length
  ·have hB:=h.keeps (Qs.below F.o);obtain⟨g,qc,cc,ps,cs1,rfl,_,hgz,hop,OC,OS,d0,d1,d2,d3⟩:=hB.at hlt;have hz0:=F.o.size;clear hB OC OS;rcases hop with hop|hop|hop
   ·obtain⟨a1,a2⟩:=KK hop;rw[a1]at d3;have hmt:∀w:World,(method 500 309 (.agg #[]) "Goals").run Tryz.prog w=.ok (307,(.agg #[])) w:=fun w=>by kernel_rfl
    have HA:=Qc a2;clear a1 a2 hop;go_wp2_with fail;refine(QjC bs[m].e HA.o _).mono ?_;rintro e w2 ⟨vg,rfl,OG,f2⟩;obtain⟨pg,cg,rfl⟩:=Qb OG;have hz1:w.heap.size≤w2.heap.size:=by have:=f2.size;rw[World.size_alloc]at this;omega
    have F2:Hid (Below w.heap.size w w2):=(F.o.alloc hz0 _).trans (f2.mono (by rw[World.size_alloc];omega));have S2:=S.keeps (((Below.refl _ _).alloc (Nat.le_refl _) (.cells #[.int .i64 bs[m].at_,.slice qc bs[m].chs.length cc,.slice ps bs[m].sts.length cs1,.iface 309 (.agg #[])] 104)).trans (f2.mono (by rw[World.size_alloc];omega)));have HGL:Hid (∀p∈goalsF bs[m].e,p.1<bs.length):=hgl.out _ (List.getElem_mem hlt);have hg2:=Zx bs[m].e;have HAI:Hid (∀k,Zk bs m (goalsF bs[m].e) k=ZP bs k (m+1)):=VO hlt;clear d0 d1 d2 d3 f2 hmt S F HA;generalize hgs:goalsF bs[m].e=gs at *;clear hgs;go_wp2_with fail
    go_loopw [22] (fun j wz=>∃t:Nat,t≤gs.length∧j=.int .i64 t∧Ki w.heap.size wz (.slice (some ⟨w.heap.size,0,none⟩) bs.length bs.length) bs.length (Zk bs m (gs.take t))∧Hid (Below w.heap.size w wz)∧wz.ownsRow (wr.heap.size+1) 145 2 (.slice pg gs.length cg) gs.length (pcs gs)) (fun j _=>gs.length-(intOf j).toNat)
    case atStart=>
     refine⟨0,by omega,rfl,S2.congr (fun k _=>VL bs m k),F2,?_⟩;rw[World.size_alloc]at OG;exact OG
    case round=>
     clear OG S2 F2 hz1 hz0;obtain⟨t,ht,rfl,S,F,OG⟩:=hrel;by_cases htl:t<gs.length
     ·obtain⟨gf,rfl,_,hgf⟩:=Qh OG (by omega);have f0:=Qe OG (QX htl).1;have f1:=Qe OG (QX htl).2;have hk:gs[t].1<bs.length:=HGL.o _ (List.getElem_mem htl);have hz:=F.o.size;have S2:=S.keeps ((Below.refl _ _).alloc (Nat.le_refl _) (.cells #[.int .i64 gs[t].1,.int .i64 gs[t].2] 145));have F2:=Qc (F.o.alloc hz (.cells #[.int .i64 gs[t].1,.int .i64 gs[t].2] 145));have OG2:=OG.alloc (.cells #[.int .i64 gs[t].1,.int .i64 gs[t].2] 145);obtain⟨g9,u,e9,hb9,hc9,hf9,o9,n9⟩:=S2.at hk;cases e9;have hlen:=VN bs m (gs.take t) gs[t].1;have HU:=Qc (And.intro hc9 (And.intro hf9 (And.intro o9 n9)));clear hc9 hf9 o9 n9 S F OG;by_cases hh:Qt (Q3 (gs.take t)) gs[t].1=true
      ·have HH:=Qc hh;clear hh;go_wp2_with fail;refine(Wc (Zk bs m (gs.take t) gs[t].1) m (KO HH.o) (JE _ _ _ _) w.heap.size gs[t].1 w.heap.size u _ HU.o.1 HU.o.2.2.1 (by omega)).mono ?_;rintro e w5 ⟨rfl,hw5⟩;have S5:=S2.congr (fun k _=>VK htl HH.o k);rw[←hw5.out]at S5 F2 OG2;clear HU S2 hw5;go_wp2_with fail;go_roundw
       case rel=>exact⟨t+1,by omega,by go_num,S5,F2,OG2⟩
       case measure=>simp[intOf];omega
      ·have HH:=Qc (Bool.eq_false_iff.2 hh);clear hh;go_wp2_with fail;refine(Rj (Zk bs m (gs.take t) gs[t].1) m (Yn HH.o) (JE _ _ _ _) w.heap.size gs[t].1 w.heap.size u _ HU.o.1 HU.o.2.1 HU.o.2.2.1 (by omega) (by rw[World.size_alloc];omega) HU.o.2.2.2).mono ?_;rintro e w5 ⟨rfl,u5,h5⟩;have S5:Ki w.heap.size w5 (.slice (some ⟨w.heap.size,0,none⟩) bs.length bs.length) bs.length (Zk bs m (gs.take (t+1))):=S2.put hk HU.o.1 h5.out.2 (by rw[List.length_append];exact h5.out.1) _ (VM htl HH.o) (fun j hj=>Ym htl hj);have F5:=Qc (Put.below F2.o (Nat.le_refl _) HU.o.2.2.1 h5.out.2 (by rw[World.size_alloc];omega));obtain⟨us2,a2,_,_⟩:=S2;have OG5:=Qd OG2 (Qs.put (T:=fun e=>e=145) a2 HU.o.2.2.1 h5.out.2 (by decide) (by decide)) rfl;clear HU h5 a2 F2 OG2;go_wp2_with fail;go_roundw
       case rel=>exact⟨t+1,by omega,by go_num,S5,F5,OG5⟩
       case measure=>simp[intOf];omega
     ·have hte:t=gs.length:=by omega
      subst hte;have S5:=S.congr (f':=fun k=>ZP bs k (m+1)) (fun k _=>by rw[List.take_length];exact(HAI.o k).symm);clear S OG;go_wp2_with fail;go_roundw
      case rel=>exact⟨m+1,by omega,by go_num,S5,F⟩
      case measure=>simp[intOf];omega
   ·obtain⟨a1,a2⟩:=KL hop;rw[a1]at d3;have hmt:∀w:World,(method 500 312 (.agg #[.int .i64 bs[m].e.one.1,.int .i64 bs[m].e.one.2]) "Goals").run Tryz.prog w=.ok (311,(.agg #[.int .i64 bs[m].e.one.1,.int .i64 bs[m].e.one.2])) w:=fun w=>by kernel_rfl
    have HA:=Qc a2;clear a1 a2 hop;go_wp2_with fail;refine(QjB bs[m].e HA.o _).mono ?_;rintro e w2 ⟨vg,rfl,OG,f2⟩;obtain⟨pg,cg,rfl⟩:=Qb OG;have hz1:w.heap.size≤w2.heap.size:=by have:=f2.size;rw[World.size_alloc]at this;omega
    have F2:Hid (Below w.heap.size w w2):=(F.o.alloc hz0 _).trans (f2.mono (by rw[World.size_alloc];omega));have S2:=S.keeps (((Below.refl _ _).alloc (Nat.le_refl _) (.cells #[.int .i64 bs[m].at_,.slice qc bs[m].chs.length cc,.slice ps bs[m].sts.length cs1,.iface 312 (.agg #[.int .i64 bs[m].e.one.1,.int .i64 bs[m].e.one.2])] 104)).trans (f2.mono (by rw[World.size_alloc];omega)));have HGL:Hid (∀p∈goalsF bs[m].e,p.1<bs.length):=hgl.out _ (List.getElem_mem hlt);have hg2:=Zx bs[m].e;have HAI:Hid (∀k,Zk bs m (goalsF bs[m].e) k=ZP bs k (m+1)):=VO hlt;clear d0 d1 d2 d3 f2 hmt S F HA;generalize hgs:goalsF bs[m].e=gs at *;clear hgs;go_wp2_with fail
    go_loopw [22] (fun j wz=>∃t:Nat,t≤gs.length∧j=.int .i64 t∧Ki w.heap.size wz (.slice (some ⟨w.heap.size,0,none⟩) bs.length bs.length) bs.length (Zk bs m (gs.take t))∧Hid (Below w.heap.size w wz)∧wz.ownsRow (wr.heap.size+1) 145 2 (.slice pg gs.length cg) gs.length (pcs gs)) (fun j _=>gs.length-(intOf j).toNat)
    case atStart=>
     refine⟨0,by omega,rfl,S2.congr (fun k _=>VL bs m k),F2,?_⟩;rw[World.size_alloc]at OG;exact OG
    case round=>
     clear OG S2 F2 hz1 hz0;obtain⟨t,ht,rfl,S,F,OG⟩:=hrel;by_cases htl:t<gs.length
     ·obtain⟨gf,rfl,_,hgf⟩:=Qh OG (by omega);have f0:=Qe OG (QX htl).1;have f1:=Qe OG (QX htl).2;have hk:gs[t].1<bs.length:=HGL.o _ (List.getElem_mem htl);have hz:=F.o.size;have S2:=S.keeps ((Below.refl _ _).alloc (Nat.le_refl _) (.cells #[.int .i64 gs[t].1,.int .i64 gs[t].2] 145));have F2:=Qc (F.o.alloc hz (.cells #[.int .i64 gs[t].1,.int .i64 gs[t].2] 145));have OG2:=OG.alloc (.cells #[.int .i64 gs[t].1,.int .i64 gs[t].2] 145);obtain⟨g9,u,e9,hb9,hc9,hf9,o9,n9⟩:=S2.at hk;cases e9;have hlen:=VN bs m (gs.take t) gs[t].1;have HU:=Qc (And.intro hc9 (And.intro hf9 (And.intro o9 n9)));clear hc9 hf9 o9 n9 S F OG;by_cases hh:Qt (Q3 (gs.take t)) gs[t].1=true
      ·have HH:=Qc hh;clear hh;go_wp2_with fail;refine(Wc (Zk bs m (gs.take t) gs[t].1) m (KO HH.o) (JE _ _ _ _) w.heap.size gs[t].1 w.heap.size u _ HU.o.1 HU.o.2.2.1 (by omega)).mono ?_;rintro e w5 ⟨rfl,hw5⟩;have S5:=S2.congr (fun k _=>VK htl HH.o k);rw[←hw5.out]at S5 F2 OG2;clear HU S2 hw5;go_wp2_with fail;go_roundw
       case rel=>exact⟨t+1,by omega,by go_num,S5,F2,OG2⟩
       case measure=>simp[intOf];omega
      ·have HH:=Qc (Bool.eq_false_iff.2 hh);clear hh;go_wp2_with fail;refine(Rj (Zk bs m (gs.take t) gs[t].1) m (Yn HH.o) (JE _ _ _ _) w.heap.size gs[t].1 w.heap.size u _ HU.o.1 HU.o.2.1 HU.o.2.2.1 (by omega) (by rw[World.size_alloc];omega) HU.o.2.2.2).mono ?_;rintro e w5 ⟨rfl,u5,h5⟩;have S5:Ki w.heap.size w5 (.slice (some ⟨w.heap.size,0,none⟩) bs.length bs.length) bs.length (Zk bs m (gs.take (t+1))):=S2.put hk HU.o.1 h5.out.2 (by rw[List.length_append];exact h5.out.1) _ (VM htl HH.o) (fun j hj=>Ym htl hj);have F5:=Qc (Put.below F2.o (Nat.le_refl _) HU.o.2.2.1 h5.out.2 (by rw[World.size_alloc];omega));obtain⟨us2,a2,_,_⟩:=S2;have OG5:=Qd OG2 (Qs.put (T:=fun e=>e=145) a2 HU.o.2.2.1 h5.out.2 (by decide) (by decide)) rfl;clear HU h5 a2 F2 OG2;go_wp2_with fail;go_roundw
       case rel=>exact⟨t+1,by omega,by go_num,S5,F5,OG5⟩
       case measure=>simp[intOf];omega
     ·have hte:t=gs.length:=by omega
      subst hte;have S5:=S.congr (f':=fun k=>ZP bs k (m+1)) (fun k _=>by rw[List.take_length];exact(HAI.o k).symm);clear S OG;go_wp2_with fail;go_roundw
      case rel=>exact⟨m+1,by omega,by go_num,S5,F⟩
      case measure=>simp[intOf];omega
   ·obtain⟨a1,a2⟩:=Jx hop;rw[a1]at d3;have hmt:∀w:World,(method 500 353 (.agg #[.int .i64 bs[m].e.a.1,.int .i64 bs[m].e.a.2,.int .i64 bs[m].e.one.1,.int .i64 bs[m].e.one.2,.int .i64 bs[m].e.two.1,.int .i64 bs[m].e.two.2]) "Goals").run Tryz.prog w=.ok (319,(.agg #[.int .i64 bs[m].e.a.1,.int .i64 bs[m].e.a.2,.int .i64 bs[m].e.one.1,.int .i64 bs[m].e.one.2,.int .i64 bs[m].e.two.1,.int .i64 bs[m].e.two.2])) w:=fun w=>by kernel_rfl
    have HA:=Qc a2;clear a1 a2 hop;go_wp2_with fail;refine(QjA bs[m].e HA.o _).mono ?_;rintro e w2 ⟨vg,rfl,OG,f2⟩;obtain⟨pg,cg,rfl⟩:=Qb OG;have hz1:w.heap.size≤w2.heap.size:=by have:=f2.size;rw[World.size_alloc]at this;omega
    have F2:Hid (Below w.heap.size w w2):=(F.o.alloc hz0 _).trans (f2.mono (by rw[World.size_alloc];omega));have S2:=S.keeps (((Below.refl _ _).alloc (Nat.le_refl _) (.cells #[.int .i64 bs[m].at_,.slice qc bs[m].chs.length cc,.slice ps bs[m].sts.length cs1,.iface 353 (.agg #[.int .i64 bs[m].e.a.1,.int .i64 bs[m].e.a.2,.int .i64 bs[m].e.one.1,.int .i64 bs[m].e.one.2,.int .i64 bs[m].e.two.1,.int .i64 bs[m].e.two.2])] 104)).trans (f2.mono (by rw[World.size_alloc];omega)));have HGL:Hid (∀p∈goalsF bs[m].e,p.1<bs.length):=hgl.out _ (List.getElem_mem hlt);have hg2:=Zx bs[m].e;have HAI:Hid (∀k,Zk bs m (goalsF bs[m].e) k=ZP bs k (m+1)):=VO hlt;clear d0 d1 d2 d3 f2 hmt S F HA;generalize hgs:goalsF bs[m].e=gs at *;clear hgs;go_wp2_with fail
    go_loopw [22] (fun j wz=>∃t:Nat,t≤gs.length∧j=.int .i64 t∧Ki w.heap.size wz (.slice (some ⟨w.heap.size,0,none⟩) bs.length bs.length) bs.length (Zk bs m (gs.take t))∧Hid (Below w.heap.size w wz)∧wz.ownsRow (wr.heap.size+1) 145 2 (.slice pg gs.length cg) gs.length (pcs gs)) (fun j _=>gs.length-(intOf j).toNat)
    case atStart=>
     refine⟨0,by omega,rfl,S2.congr (fun k _=>VL bs m k),F2,?_⟩;rw[World.size_alloc]at OG;exact OG
    case round=>
     clear OG S2 F2 hz1 hz0;obtain⟨t,ht,rfl,S,F,OG⟩:=hrel;by_cases htl:t<gs.length
     ·obtain⟨gf,rfl,_,hgf⟩:=Qh OG (by omega);have f0:=Qe OG (QX htl).1;have f1:=Qe OG (QX htl).2;have hk:gs[t].1<bs.length:=HGL.o _ (List.getElem_mem htl);have hz:=F.o.size;have S2:=S.keeps ((Below.refl _ _).alloc (Nat.le_refl _) (.cells #[.int .i64 gs[t].1,.int .i64 gs[t].2] 145));have F2:=Qc (F.o.alloc hz (.cells #[.int .i64 gs[t].1,.int .i64 gs[t].2] 145));have OG2:=OG.alloc (.cells #[.int .i64 gs[t].1,.int .i64 gs[t].2] 145);obtain⟨g9,u,e9,hb9,hc9,hf9,o9,n9⟩:=S2.at hk;cases e9;have hlen:=VN bs m (gs.take t) gs[t].1;have HU:=Qc (And.intro hc9 (And.intro hf9 (And.intro o9 n9)));clear hc9 hf9 o9 n9 S F OG;by_cases hh:Qt (Q3 (gs.take t)) gs[t].1=true
      ·have HH:=Qc hh;clear hh;go_wp2_with fail;refine(Wc (Zk bs m (gs.take t) gs[t].1) m (KO HH.o) (JE _ _ _ _) w.heap.size gs[t].1 w.heap.size u _ HU.o.1 HU.o.2.2.1 (by omega)).mono ?_;rintro e w5 ⟨rfl,hw5⟩;have S5:=S2.congr (fun k _=>VK htl HH.o k);rw[←hw5.out]at S5 F2 OG2;clear HU S2 hw5;go_wp2_with fail;go_roundw
       case rel=>exact⟨t+1,by omega,by go_num,S5,F2,OG2⟩
       case measure=>simp[intOf];omega
      ·have HH:=Qc (Bool.eq_false_iff.2 hh);clear hh;go_wp2_with fail;refine(Rj (Zk bs m (gs.take t) gs[t].1) m (Yn HH.o) (JE _ _ _ _) w.heap.size gs[t].1 w.heap.size u _ HU.o.1 HU.o.2.1 HU.o.2.2.1 (by omega) (by rw[World.size_alloc];omega) HU.o.2.2.2).mono ?_;rintro e w5 ⟨rfl,u5,h5⟩;have S5:Ki w.heap.size w5 (.slice (some ⟨w.heap.size,0,none⟩) bs.length bs.length) bs.length (Zk bs m (gs.take (t+1))):=S2.put hk HU.o.1 h5.out.2 (by rw[List.length_append];exact h5.out.1) _ (VM htl HH.o) (fun j hj=>Ym htl hj);have F5:=Qc (Put.below F2.o (Nat.le_refl _) HU.o.2.2.1 h5.out.2 (by rw[World.size_alloc];omega));obtain⟨us2,a2,_,_⟩:=S2;have OG5:=Qd OG2 (Qs.put (T:=fun e=>e=145) a2 HU.o.2.2.1 h5.out.2 (by decide) (by decide)) rfl;clear HU h5 a2 F2 OG2;go_wp2_with fail;go_roundw
       case rel=>exact⟨t+1,by omega,by go_num,S5,F5,OG5⟩
       case measure=>simp[intOf];omega
     ·have hte:t=gs.length:=by omega
      subst hte;have S5:=S.congr (f':=fun k=>ZP bs k (m+1)) (fun k _=>by rw[List.take_length];exact(HAI.o k).symm);clear S OG;go_wp2_with fail;go_roundw
      case rel=>exact⟨m+1,by omega,by go_num,S5,F⟩
      case measure=>simp[intOf];omega
  ·have hme:m=bs.length:=by omega
   subst hme;go_wp2_with fail;go_ret;exact⟨_,rfl,S,F.o⟩
def stL(n:Nat)(st:Nat→Nat):List Nat:=(List.range n).map st
theorem Kx(n st):(stL n st).length=n:=by simp[stL]
theorem JH{n:Nat}{st:Nat→Nat}{j:Nat}(hj:j<n):(Qg (stL n st))[j]?=some (.int .i64 (st j)):=by simp[Qg,stL,hj]
theorem Gq{n:Nat}{st:Nat→Nat}{o v:Nat}(ho:o<n):(Qg (stL n st)).set o (.int .i64 v)=Qg (stL n (Xo st o v)):=by
 refine List.ext_getElem? fun j=>?_;by_cases hj:j=o
 ·subst hj;rw[List.getElem?_set_self (by simpa[Qg,stL] using ho),JH ho,Q4]
 ·rw[List.getElem?_set_ne (fun e=>hj e.symm)];rcases Nat.lt_or_ge j n with h|h
  ·rw[JH h,JH h,Zb hj]
  ·rw[List.getElem?_eq_none (by simpa[Qg,stL] using h),List.getElem?_eq_none (by simpa[Qg,stL] using h)]
theorem Qfk{n:Nat}{st st':Nat→Nat}(h:stL n st=stL n st'):∀j,j<n→st j=st' j:=fun j hj=>by
 have:=congrArg (fun l=>l[j]?) h;simpa[stL,hj] using this
def StR(w:World)(base n:Nat)(v:Value)(st:Nat→Nat):Prop:=w.ownsRow base 78 1 v n (Qg (stL n st))
theorem StR.slice{w base n v st}(h:StR w base n v st):∃p c,v=.slice p n c:=Qb h
theorem StR.keeps{w w':World} {base n v st}(h:StR w base n v st)(F:Below w.heap.size w w'):StR w' base n v st:=Qd h (Qi F) trivial
open Classical in
noncomputable def dp(st:Nat→Nat)(r:Nat):Nat:=if h:∃k t,Up st r t k then h.choose else 0
theorem Up.dp{st r t k}(h:Up st r t k):dp st r=k:=by
 have e:∃k t,Up st r t k:=⟨k,t,h⟩;unfold Proofs.YtgfhfkgdmidhpaaGreatDoor.dp;rw[dif_pos e];obtain⟨t',ht⟩:=e.choose_spec;exact(ht.one h).2
theorem ofP(st:Nat→Nat)(n r t q base:Nat)(v:Value)(w:World)(h:StR w base n v st)(hu:Hid (Up st r t q))(hlt:Hid (∀x,x<n→st x<n))(hr:r<n)(hn:n≤100000):
  Calls Tryz.prog 152 #[v,.int .i64 r] w fun e w'=>e=.returned (.int .i64 t)∧w'=w:=by
 obtain⟨p,c,rfl⟩:=h.slice;obtain⟨g,rfl,_,_⟩:=Qh h (by omega);have H:=Qc h;clear h;go_enter Tryz.func152,Tryz.ntmps152;go_wp2_with fail
 go_loop [1] (fun i=>∃x k:Nat,x<n∧i=.int .i64 x∧Hid (Up st x t k)) (fun i=>dp st (intOf i).toNat)
 case atStart=>exact⟨r,q,hr,rfl,hu⟩
 case round=>
  obtain⟨x,k,hx,rfl,HU⟩:=hrel;have hc:=Qe H.o (JH (st:=st) hx);by_cases e:st x=x
  ·have e':((st x:Int) != (x:Int))=false:=by simp;omega
   have HT:Hid (x=t):=(HU.o.one (.here e)).1.symm;clear e;go_wp2_with fail;go_ret;exact⟨by rw[HT.o];rfl,rfl⟩
  ·have e':((st x:Int) != (x:Int))=true:=by simp;omega
   have HN:Hid (∃k',Up st (st x) t k'∧k=k'+1):=by
    cases HU.o with
    | here h=>exact absurd h e
    | next _ h=>exact⟨_,h,rfl⟩
   have HL:=Qc (hlt.out x hx);clear e;go_wp2_with fail
   go_round
   case rel=>
    obtain⟨k',h1,_⟩:=HN.o;exact⟨st x,k',HL.o,rfl,h1⟩
   case measure=>
    obtain⟨k',h1,h2⟩:=HN.o;simp only[intOf,Int.toNat_natCast];rw[h1.dp,HU.o.dp];omega
theorem Qih(a b:List Nat)(B1 B2:Nat)(va vb:Value)(w:World)(ha:w.ownsRow B1 78 1 va a.length (Qg a))(hb:w.ownsRow B2 78 1 vb b.length (Qg b))(la:a.length≤1000000)(lb:b.length≤1000000):
  Calls Tryz.prog 302 #[va,vb] w fun x w'=>x=.returned (.bool (eqF a b))∧∃n,w'=w.drewN n:=by
 obtain⟨p1,c1,rfl⟩:=Qb ha;obtain⟨p2,c2,rfl⟩:=Qb hb;by_cases hl:a.length=b.length
 ·have hl':((a.length:Int) != (b.length:Int))=false:=by simp;omega
  have HL:=Qc hl;clear hl;go_enter Tryz.func302,Tryz.ntmps302;go_wp2_with fail
  go_loopw [13] (fun i wr=>∃k n:Nat,k≤a.length∧i=.int .i64 k∧wr=w.drewN n∧Hid (∀j,j<k→(h1:j<a.length)→(h2:j<b.length)→a[j]=b[j])) (fun i _=>a.length-(intOf i).toNat)
  case atStart=>exact⟨0,0,by omega,rfl,rfl,fun j hj=>by omega⟩
  case round=>
   obtain⟨k,n,hk,rfl,rfl,HE⟩:=hrel;by_cases hlt:k<a.length
   ·have hlb:k<b.length:=by have:=HL.o;omega
    obtain⟨g1,rfl,_,_⟩:=Qh ha (by omega);obtain⟨g2,rfl,_,_⟩:=Qh hb (by omega);have f1:=Qe ha (ZI hlt);have f2:=Qe hb (ZI hlb);by_cases he:a[k]=b[k]
    ·have he':((a[k]:Int) != (b[k]:Int))=false:=by simp;omega
     have HE2:Hid (∀j,j<k+1→(h1:j<a.length)→(h2:j<b.length)→a[j]=b[j]):=fun j hj h1 h2=>by
      rcases Nat.lt_succ_iff_lt_or_eq.1 hj with hj|rfl
      ·exact HE.o j hj h1 h2
      ·exact he
     clear he;go_wp2_with fail
     go_quiet (fail)
     go_wp2_with fail;go_roundw
     case rel=>exact⟨k+1,n+nq,by omega,by go_num,by simp,HE2⟩
     case measure=>simp[intOf];omega
    ·have he':((a[k]:Int) != (b[k]:Int))=true:=by simp;omega
     have HN:=Qc (Qer hlt hlb he);clear he;go_wp2_with fail
     go_quiet (fail)
     go_wp2_with fail;go_ret;exact⟨by rw[HN.o];rfl,n+nq,by simp⟩
   ·have HN:=Qc (Qbj HL.o (fun j h1 h2=>HE.o j (by omega) h1 h2));go_wp2_with fail;go_ret;exact⟨by rw[HN.o];rfl,n,rfl⟩
 ·have hl':((a.length:Int) != (b.length:Int))=true:=by simp;omega
  have HN:=Qc (Qbi hl);clear hl;go_enter Tryz.func302,Tryz.ntmps302;go_wp2_with fail;go_ret;exact⟨by rw[HN.o];rfl,0,rfl⟩
theorem QjI(l:List Nat)(base:Nat)(v:Value)(w:World)(h:w.ownsRow base 78 1 v l.length (Qg l))(hl:l.length≤3000000):
  Calls Tryz.prog 150 #[v] w fun e w'=>∃v',e=.returned v'∧w'.ownsRow w.heap.size 78 1 v' l.length (Qg l)∧Below w.heap.size w w':=by
 have HO:=Qc h;rcases h.2 with ⟨rfl,h0⟩|⟨g,c,cur,rfl,hbg,hg,hnc,hcm,hcs,ht⟩
 ·have he:∀w,(binOp BinOp.eql 208 (.slice none 0 0) (.slice none 0 0)).run Tryz.prog w=.ok (.bool true) w:=fun w=>by kernel_rfl
  go_enter Tryz.func150,Tryz.ntmps150;go_wp2_with (at_builtin;refine Qv ?_);go_ret;exact⟨_,rfl,⟨HO.o.1,HO.o.2.imp id (fun⟨_,_,_,e,_⟩=>by cases e)⟩,Below.refl _ _⟩
 ·clear h;have HG:=Qc hg;clear hg ht;have he:∀w,(binOp BinOp.eql 208 (.slice (some ⟨g,0,none⟩) l.length c) (.slice none 0 0)).run Tryz.prog w=.ok (.bool false) w:=fun w=>by kernel_rfl
  go_enter Tryz.func150,Tryz.ntmps150;go_wp2_with (at_builtin;refine Qv ?_);refine Qc ?_;obtain⟨I,Hi,Hz,Hs,Hb⟩:=info_parts Tryz.info78;refine wpList_append_own _ rfl _ _ 208 rfl w.heap.size 78 I (.int .i64 0) 1 8 Tryz.underlying208 Hi Hz Hs Hb rfl (by decide) (.slice (some ⟨w.heap.size,0,none⟩) 0 0) 0 [] rfl (World.ownsRow_made w #[] 0 (Nat.le_refl _) (by decide) rfl) ⟨g,0,none⟩ l.length c (Qg l) rfl (by simp[Qg]) (fun j u hj=>?_) (fun u hu=>?_) (by unfold maxLen;omega) (by omega) (by simp) ?_
  ·exact(HO.o.alloc (.cells #[] 78)).cells rfl j u hj
  ·obtain⟨n,_,rfl⟩:=List.mem_map.1 hu;rfl
  ·intro v1 w1 o1 g1 _;rw[Nat.zero_add,List.nil_append]at o1;have O1:=Qc (And.intro o1 g1);clear o1 g1;go_wp2_with fail;go_ret;exact⟨v1,rfl,O1.o.1,Below.grown ((Below.refl _ _).alloc (Nat.le_refl _) _) O1.o.2 (by simp) (fun k hk=>by cases hk;exact Nat.le_refl _)⟩
theorem QiN(a b:List Nat)(B1 B2:Nat)(va vb:Value)(w:World)(ha:w.ownsRow B1 78 1 va a.length (Qg a))(hb:w.ownsRow B2 78 1 vb b.length (Qg b))(hla:a.length≤1000000)(hlb:b.length≤1000000):
  Calls Tryz.prog 301 #[va,vb] w fun e w'=>e=.returned (.bool (eqF a b))∧Below w.heap.size w w':=by
 obtain⟨pa,ca,rfl⟩:=Qb ha;obtain⟨pb,cb,rfl⟩:=Qb hb;go_enter Tryz.func301,Tryz.ntmps301;go_wp2_with fail;refine(Qih a b B1 B2 _ _ _ ha hb hla hlb).mono ?_;rintro e w1 ⟨rfl,n,hw1⟩;have F1:Hid (Below w.heap.size w w1):=by rw[hw1];exact below_drewN (Below.refl _ _) _
 clear hw1;go_wp2_with fail;go_ret;exact⟨rfl,F1.o⟩
theorem JK(p:Nat×Int)(l:List (Nat×Int))(r:Nat→Int):K7 (p::l) r=K7 l (upd r p.1 p.2):=rfl
theorem Km{x:Nat}:∀{l:List (Nat×Int)}{r:Nat→Int},x∉l.map (·.1)→K7 l r x=r x
 | [],_,_=>rfl
 | p::l,r,h=>by
  rw[List.map_cons,List.mem_cons,not_or]at h;rw[JK,Km h.2,Z7 _ h.1]
theorem Wv{x:Nat}{v:Int}:∀{l:List (Nat×Int)}{r:Nat→Int},(l.map (·.1)).Nodup→(x,v)∈l→K7 l r x=v
 | [],_,_,h=>by simp at h
 | p::l,r,hd,h=>by
  rw[List.map_cons,List.nodup_cons]at hd;rw[JK];rcases List.mem_cons.1 h with rfl|h
  ·rw[Km hd.1,Jh]
  ·exact Wv hd.2 h
theorem UD{p:Nat}{r:Nat→Int}:∀{src:List (Nat×Nat)}{a:Int},p∉src.map (·.1)→src.foldl (fun n q=>if q.1=p then r q.2 else n) a=a
 | [],_,_=>rfl
 | q::src,a,h=>by
  rw[List.map_cons,List.mem_cons,not_or]at h;rw[List.foldl_cons,if_neg (fun e=>h.1 e.symm)];exact UD h.2
theorem RA{p q:Nat}{r:Nat→Int}:∀{src:List (Nat×Nat)}{a:Int},(src.map (·.1)).Nodup→(p,q)∈src→src.foldl (fun n x=>if x.1=p then r x.2 else n) a=r q
 | [],_,_,h=>by simp at h
 | x::src,a,hd,h=>by
  rw[List.map_cons,List.nodup_cons]at hd;rw[List.foldl_cons];rcases List.mem_cons.1 h with rfl|h
  ·rw[if_pos rfl,UD hd.1]
  ·exact RA hd.2 h
theorem QaK{src:List (Nat×Nat)}{p q:Nat}{r:Nat→Int}(hd:(src.map (·.1)).Nodup)(h:(p,q)∈src):KX src p r=r q:=RA hd h
theorem U8(bs:List ABk)(b:Nat):(NO bs b).Nodup:=List.Pairwise.filter _ List.nodup_range
def Rm(st:Nat→Nat)(r n:Nat):Prop:=rt st n=rt st r∧∀j,j<n→rt st j≠rt st r
theorem QgV(st:Nat→Nat)(r:Nat):∃n,Rm st r n:=by
 have key:∀k,(∃n,Rm st r n)∨∀j,j<k→rt st j≠rt st r:=by
  intro k
  induction k with
  | zero=>exact .inr fun j hj=>absurd hj (by omega)
  | succ k ih=>
   rcases ih with h|h
   ·exact .inl h
   ·by_cases e:rt st k=rt st r
    ·exact .inl ⟨k,e,h⟩
    ·refine .inr fun j hj=>?_;rcases Nat.lt_succ_iff_lt_or_eq.1 hj with h1|rfl
     ·exact h j h1
     ·exact e
 rcases key (r+1) with h|h
 ·exact h
 ·exact absurd rfl (h r (by omega))
noncomputable def nm(st:Nat→Nat)(r:Nat):Nat:=(QgV st r).choose
theorem RU(st:Nat→Nat)(r:Nat):Rm st r (nm st r):=(QgV st r).choose_spec
theorem Rm.one{st:Nat→Nat}{r n m:Nat}(h:Rm st r n)(k:Rm st r m):n=m:=by
 rcases Nat.lt_trichotomy n m with h1|h1|h1
 ·exact absurd h.1 (k.2 n h1)
 ·exact h1
 ·exact absurd k.1 (h.2 m h1)
theorem YE(st:Nat→Nat)(r:Nat):rt st (nm st r)=rt st r∧nm st r≤r:=by
 refine⟨(RU st r).1,?_⟩;rcases Nat.lt_or_ge r (nm st r) with h|h
 ·exact absurd rfl ((RU st r).2 r h)
 ·exact h
theorem QdC{st:Nat→Nat}{r q:Nat}(h:rt st r=rt st q):nm st r=nm st q:=by
 have h1:=RU st r;rw[Rm,h]at h1;exact Rm.one h1 (RU st q)
theorem YP{st:Nat→Nat}{r q:Nat}(h:nm st r=nm st q):rt st r=rt st q:=by
 rw[←(YE st r).1,h,(YE st q).1]
def WX:ASt→Bool
 | .cp _ _=>true
 | _=>false
def rnS(f:Nat→Nat):ASt→ASt
 | .val t n=>.val (f t) n
 | .cp t a=>.cp (f t) (f a)
 | .op o t a b=>.op o (f t) (f a) (f b)
 | .inp t=>.inp (f t)
 | .out a=>.out (f a)
def rnE(f:Nat→Nat)(e:AEn):AEn:=if e.op=63 then { e with a:=f e.a } else e
def rnC(co:Nat→Bool)(f:Nat→Nat)(c:ACh):ACh:=⟨f c.to,c.src.map fun p=>(p.1,if co p.1 then f p.2 else 0)⟩
noncomputable def mgB(co:Nat→Bool)(st:Nat→Nat)(b:ABk):ABk:=⟨(b.chs.filter fun c=>rt st c.to==c.to).map (rnC co (nm st)),(b.sts.filter fun t=>!WX t).map (rnS (nm st)),rnE (nm st) b.e⟩
def Y8(b:ABk):ABk:=⟨[],[],rnE (fun _=>0) b.e⟩
def trA(co:Nat→Bool)(f:ABk→ABk)(bs:List ABk):List ABk:=bs.mapIdx fun i b=>if co i then f b else Y8 b
noncomputable def mgA(co:Nat→Bool)(st:Nat→Nat)(bs:List ABk):List ABk:=trA co (mgB co st) bs
theorem JY(co f)(bs:List ABk):(trA co f bs).length=bs.length:=by simp[trA]
theorem Xc{co:Nat→Bool}{f:ABk→ABk}{bs:List ABk}{i:Nat}(hi:i<bs.length):bkA (trA co f bs) i=if co i then f (bkA bs i) else Y8 (bkA bs i):=by
 rw[Um (by rw[JY];exact hi),Um hi];simp[trA]
theorem Y0{co:Nat→Bool}{f:ABk→ABk}{bs:List ABk}{i:Nat}(hi:bs.length≤i):bkA (trA co f bs) i=WQ:=by
 rw[bkA,List.getElem?_eq_none (by rw[JY];exact hi)];rfl
theorem YJ(f e):(rnE f e).op=e.op:=by unfold rnE;split<;>rfl
theorem GD(f e):(rnE f e).one=e.one:=by unfold rnE;split<;>rfl
theorem GC(f e):(rnE f e).two=e.two:=by unfold rnE;split<;>rfl
theorem Qeh(f e):gsA (rnE f e)=gsA e:=by unfold gsA;rw[YJ,GD,GC]
theorem NT{co:Nat→Bool}{f:ABk→ABk}{bs:List ABk}(hf:∀b,gsA (f b).e=gsA b.e):suA (trA co f bs)=suA bs:=by
 funext i
 rcases Nat.lt_or_ge i bs.length with hi|hi
 ·rw[suA,Xc hi,suA];split
  ·exact hf _
  ·exact Qeh _ _
 ·rw[suA,Y0 hi,suA,bkA,List.getElem?_eq_none hi];rfl
theorem NU(co st bs):suA (mgA co st bs)=suA bs:=NT fun _=>Qeh _ _
def Av(bs:List ABk)(r b:Nat)(k:Int):Prop:=∃b' s',Gv bs r b' s'∧Pre bs b' s' b k
structure Sim(bs:List ABk)(st:Nat→Nat)(b:Nat)(k:Int)(m m2:Mac):Prop where
 r:∀r,Av bs r b k→m2.r (nm st r)=m.r r
 inp:m2.inp=m.inp
 out:m2.out=m.out
section
variable {bs:List ABk} {co:Nat→Bool} {st:Nat→Nat}
theorem V6{b j x:Nat}{t:ASt}(ht:(bkA bs b).sts[j]?=some t)(h:gvS t=some x):Gv bs x b j:=.inr ⟨j,rfl,t,ht,h⟩
theorem Rg{b j r:Nat}{t:ASt}(ht:(bkA bs b).sts[j]?=some t)(h:Av bs r b ((j:Int)+1)):gvS t=some r∨Av bs r b j:=by
 obtain⟨b',s',g,p⟩:=h;rcases p with ⟨rfl,p⟩|p
 ·rcases Int.lt_or_le s' j with h1|h1
  ·exact .inr ⟨b',s',g,.inl ⟨rfl,h1⟩⟩
  ·have:s'=j:=by omega
   subst this;rcases g with ⟨e,_⟩|⟨i,e,t',h2,h3⟩
   ·omega
   ·have:i=j:=by omega
    subst this;rw[ht]at h2;cases h2;exact .inl h3
 ·exact .inr ⟨b',s',g,.inr p⟩
theorem NL(_hP:POk bs)(hS:Sgl bs)(h:SOk bs st){x r b:Nat}{k:Int}(hx:Gv bs x b k)(hxr:rt st x=x)(hr:Av bs r b k):nm st r≠nm st x:=by
 intro e;obtain⟨b',s',g,p⟩:=hr;have e2:=YP e;rw[hxr]at e2;rcases h.site g with e3|⟨b2,s2,g2,p2⟩
 ·rw[e2]at e3;subst e3;obtain⟨rfl,rfl⟩:=hS.one g hx;exact p.irr
 ·rw[e2]at g2;obtain⟨rfl,rfl⟩:=hS.one g2 hx;exact(p2.trans p).irr
theorem UF(hS:Sgl bs)(h:SOk bs st){b j x:Nat}{t:ASt}(ht:(bkA bs b).sts[j]?=some t)(hg:gvS t=some x)(hc:WX t=false):rt st x=x:=by
 apply h.self;apply Classical.byContradiction;intro hn;have g:=V6 ht hg;rcases h.just hn with ⟨b3,j3,a,_,h2,_⟩|⟨b3,c,_,_,h2,rfl,_⟩
 ·obtain⟨rfl,e⟩:=hS.one g (V6 h2 rfl);have:j=j3:=by omega
  subst this;rw[ht]at h2;cases h2;cases hc
 ·obtain⟨_,e⟩:=hS.one g (.inl ⟨rfl,c,h2,rfl⟩:Gv bs c.to b3 (-1));omega
theorem QcW(hP:POk bs)(hS:Sgl bs)(h:Us bs co st){b j:Nat}{t:ASt}(hb:Cm bs b)(ht:(bkA bs b).sts[j]?=some t){m m2:Mac}(hm:Sim bs st b j m m2):
  Sim bs st b ((j:Int)+1) (stA t m) (if WX t then m2 else stA (rnS (nm st) t) m2):=by
 have hrd:∀r∈rdS t,m2.r (nm st r)=m.r r:=fun r hr=>hm.r r (hS.rd (.inl ⟨t,ht,hr⟩) hb);have hset:∀{x:Nat} {v v2:Int},gvS t=some x→WX t=false→v2=v→∀r,Av bs r b ((j:Int)+1)→upd m2.r (nm st x) v2 (nm st r)=upd m.r x v r:=by
  intro x v v2 hg hc hv r hr;subst hv;by_cases e:r=x
  ·subst e;rw[Jh,Jh]
  ·rcases Rg ht hr with h1|h1
   ·rw[hg]at h1;cases h1;exact absurd rfl e
   ·rw[Z7 _ e,Z7 _ (NL hP hS h.ok (V6 ht hg) (UF hS h.ok ht hg hc) h1)];exact hm.r r h1
 cases t with
 | val t n=>exact⟨hset rfl rfl rfl,hm.inp,hm.out⟩
 | cp t a=>
  refine⟨fun r hr=>?_,hm.inp,hm.out⟩;show m2.r (nm st r)=upd m.r t (m.r a) r;have ha:=hrd a (by simp[rdS]);by_cases e:r=t
  ·subst e;rw[Jh,←ha,QdC (h.cp hb ht).1]
  ·rcases Rg ht hr with h1|h1
   ·cases h1;exact absurd rfl e
   ·rw[Z7 _ e];exact hm.r r h1
 | op o t a b2=>exact⟨hset rfl rfl (by rw[hrd a (by simp[rdS]),hrd b2 (by simp[rdS])]),hm.inp,hm.out⟩
 | inp t=>exact⟨hset rfl rfl (by rw[hm.inp]),by show m2.inp.tail=_;rw[hm.inp];rfl,hm.out⟩
 | out a=>
  refine⟨fun r hr=>?_,hm.inp,by show m2.out++[m2.r (nm st a)]=_;rw[hm.out,hrd a (by simp[rdS])];rfl⟩;rcases Rg ht hr with h1|h1
  ·cases h1
  ·exact hm.r r h1
theorem UE(hP:POk bs)(hS:Sgl bs)(h:Us bs co st){b:Nat}(hb:Cm bs b):∀(l:List ASt)(j:Nat)(m m2:Mac),(bkA bs b).sts.drop j=l→Sim bs st b j m m2→j≤(bkA bs b).sts.length →
  Sim bs st b (bkA bs b).sts.length (KV l m) (KV ((l.filter fun t=>!WX t).map (rnS (nm st))) m2)
 | [],j,m,m2,hl,hm,hj=>by
  have:(bkA bs b).sts.length≤j:=by simpa using hl
  rw[show ((bkA bs b).sts.length:Int)=j by omega];exact hm
 | t::l,j,m,m2,hl,hm,hj=>by
  have ht:(bkA bs b).sts[j]?=some t:=by
   have:=congrArg (fun l=>l[0]?) hl;simpa[List.getElem?_drop] using this
  have hlt:j<(bkA bs b).sts.length:=by
   rcases Nat.lt_or_ge j (bkA bs b).sts.length with h1|h1
   ·exact h1
   ·rw[List.getElem?_eq_none h1]at ht;cases ht
  have h1:=QcW hP hS h hb ht hm;have hl2:(bkA bs b).sts.drop (j+1)=l:=by
   have:=congrArg List.tail hl;rw[List.tail_drop]at this;exact this
  have h2:=UE hP hS h hb l (j+1) _ _ hl2 h1 hlt;rw[Kl]
  cases hc:WX t with
  | true=>rw[hc,if_pos rfl]at h2;rw[List.filter_cons_of_neg (by rw[hc];decide)];exact h2
  | false=>rw[hc,if_neg (by decide)]at h2;rw[List.filter_cons_of_pos (by rw[hc];decide),List.map_cons,Kl];exact h2
theorem QbY(hP:POk bs)(hS:Sgl bs)(hco:∀b,co b=true↔Cm bs b)(h:Us bs co st){p b:Nat}(hp:Cm bs p)(he:b∈suA bs p){m m2:Mac}(hm:Sim bs st p (bkA bs p).sts.length m m2):
  Sim bs st b 0 (Kb (bkA bs b) p m) (Kb (mgB co st (bkA bs b)) p m2):=by
 have hb:Cm bs b:=.step hp he rfl;rw[Kb,Kb,if_pos (by omega),if_pos (by omega)];refine⟨fun r hr=>?_,hm.inp,hm.out⟩;show chA _ ((p:Int).toNat) m2.r (nm st r)=chA _ ((p:Int).toNat) m.r r;rw[Int.toNat_natCast];have hsrc:∀{c q},c∈(bkA bs b).chs→(p,q)∈c.src→KX c.src p m.r=m.r q∧m2.r (nm st q)=m.r q∧q<5000:=fun {c q} hc hq=>by
  have hrd:Rea bs q p (bkA bs p).sts.length:=.inr ⟨rfl,.inr ⟨b,c,hc,hq⟩⟩;exact⟨QaK (by rw[hP.src hc];exact U8 _ _) hq,hm.r q (hS.rd hrd hp),hP.oldR hrd⟩
 have hkeys:(((bkA bs b).chs.map fun c=>(c.to,KX c.src p m.r)).map (·.1))=(bkA bs b).chs.map (·.to):=by rw[List.map_map];rfl
 have hkeys2:((((mgB co st (bkA bs b)).chs).map fun c=>(c.to,KX c.src p m2.r)).map (·.1))=((bkA bs b).chs.filter fun c=>rt st c.to==c.to).map fun c=>nm st c.to:=by
  simp only[mgB,List.map_map];rfl
 have hnd2:(((bkA bs b).chs.filter fun c=>rt st c.to==c.to).map fun c=>nm st c.to).Nodup:=by
  have h1:((bkA bs b).chs.filter fun c=>rt st c.to==c.to).Pairwise fun c d=>c.to≠d.to:=List.Pairwise.filter _ (List.pairwise_map.1 (hS.chs b));have h3:((bkA bs b).chs.filter fun c=>rt st c.to==c.to).Pairwise fun c d=>nm st c.to≠nm st d.to:=by
   refine List.Pairwise.imp_of_mem ?_ h1;intro c d hc hd hne e;have c1:=List.mem_filter.1 hc;have d1:=List.mem_filter.1 hd;have:=YP e;exact hne (by rw[←show rt st c.to=c.to by simpa using c1.2,this];simpa using d1.2)
  exact List.pairwise_map.2 h3
 have hout:∀x,(∀b' s',Gv bs x b' s'→Pre bs b' s' b (-1)∨(b'=b∧s'=-1∧rt st x≠x))→(∃b' s',Gv bs x b' s')→nm st x∉((bkA bs b).chs.filter fun c=>rt st c.to==c.to).map fun c=>nm st c.to:=by
  intro x hx ⟨bx,sx,gx⟩ hmem;obtain⟨c,hc,e⟩:=List.mem_map.1 hmem;obtain⟨hc1,hc2⟩:=List.mem_filter.1 hc;have gc:Gv bs c.to b (-1):=.inl ⟨rfl,c,hc1,rfl⟩;have hrt:rt st c.to=c.to:=by simpa using hc2
  rcases hx bx sx gx with hp|⟨rfl,rfl,hne⟩
  ·exact NL hP hS h.ok gc hrt ⟨bx,sx,gx,hp⟩ e.symm
  ·have e2:=YP e;rw[hrt]at e2;rcases h.ok.site gx with e3|⟨b2,s2,g2,p2⟩
   ·exact hne e3
   ·rw[←e2]at g2;obtain⟨rfl,rfl⟩:=hS.one g2 gc;exact p2.irr
 obtain⟨b',s',g,q⟩:=hr;by_cases hch:∃c∈(bkA bs b).chs,c.to=r
 ·obtain⟨c,hc,rfl⟩:=hch;obtain⟨x,hx⟩:=hP.from hc he;obtain⟨s1,s2,s3⟩:=hsrc hc hx;have e1:chA (bkA bs b).chs p m.r c.to=m.r x:=by
   rw[chA,Wv (v:=m.r x) (by rw[hkeys];exact hS.chs b) (List.mem_map.2 ⟨c,hc,by rw[s1]⟩)]
  rw[e1,←s2];by_cases hrt:rt st c.to=c.to
  ·have hc2:c∈(bkA bs b).chs.filter fun c=>rt st c.to==c.to:=List.mem_filter.2 ⟨hc,by simpa using hrt⟩;rw[chA];refine Wv (by rw[hkeys2];exact hnd2) (List.mem_map.2 ⟨rnC co (nm st) c,List.mem_map.2 ⟨c,hc2,rfl⟩,?_⟩);have:KX (rnC co (nm st) c).src p m2.r=m2.r (nm st x):=by
    refine QaK ?_ (List.mem_map.2 ⟨(p,x),hx,?_⟩)
    ·show (((c.src.map fun p=>(p.1,if co p.1 then nm st p.2 else 0))).map (·.1)).Nodup;rw[List.map_map];show (c.src.map (·.1)).Nodup;rw[hP.src hc];exact U8 _ _
    ·show (p,if co p then nm st x else 0)=_;rw[if_pos ((hco p).2 hp)]
   rw[this];rfl
  ·have g0:Gv bs c.to b (-1):=.inl ⟨rfl,c,hc,rfl⟩;rw[chA,Km (by
    rw[hkeys2];exact hout c.to (fun b2 s2 g2=>.inr (by obtain⟨rfl,rfl⟩:=hS.one g0 g2;exact⟨rfl,rfl,hrt⟩)) ⟨b,-1,g0⟩)]
   have hn:st c.to≠c.to:=fun e=>hrt (h.ok.self e);rcases h.ok.just hn with ⟨b3,j3,a3,_,h2,_⟩|⟨b3,d,_,_,h2,h3,h4⟩
   ·obtain⟨_,e⟩:=hS.one g0 (V6 h2 rfl);omega
   ·obtain⟨rfl,_⟩:=hS.one g0 (.inl ⟨rfl,d,h2,h3⟩:Gv bs c.to b3 (-1));have:=Qbp hS h2 hc h3;subst this;rw[QdC (h4 _ hx hp).symm]
 ·have hpre:Pre bs b' s' b (-1):=by
   rcases q with ⟨rfl,q⟩|q
   ·rcases g with ⟨_,c,hc,e⟩|⟨j,rfl,_⟩
    ·exact absurd ⟨c,hc,e⟩ hch
    ·omega
   ·exact .inr q
  rw[chA,Km (by rw[hkeys2];exact hout r (fun b2 s2 g2=>.inl (by obtain⟨rfl,rfl⟩:=hS.one g g2;exact hpre)) ⟨b',s',g⟩),chA,Km (by
   rw[hkeys];intro hm;obtain⟨c,hc,e⟩:=List.mem_map.1 hm;exact hch ⟨c,hc,e⟩)]
  refine hm.r r ⟨b',s',g,?_⟩;rcases hpre with ⟨rfl,hlt⟩|⟨hne,ho⟩
  ·rcases g with ⟨rfl,_⟩|⟨j,rfl,_⟩<;>omega
  ·have ho2:=ho.ahead hp he hne;by_cases e:b'=p
   ·subst e;refine .inl ⟨rfl,?_⟩;rcases g with ⟨rfl,_⟩|⟨j,rfl,t,h2,_⟩
    ·omega
    ·have:j<(bkA bs b').sts.length:=by
      rcases Nat.lt_or_ge j (bkA bs b').sts.length with h1|h1
      ·exact h1
      ·rw[List.getElem?_eq_none h1]at h2;cases h2
     omega
   ·exact .inr ⟨e,ho2⟩
end
def ZM(l:List Int):List Value:=l.map fun (n:Int)=>Value.int .i64 n
theorem Vz(a b:List Nat):Qg (a++b)=Qg a++Qg b:=List.map_append ..
theorem Yo(a b:List Int):ZM (a++b)=ZM a++ZM b:=List.map_append ..
theorem Kk{l:List Int}{j:Nat}(h:j<l.length):(ZM l)[j]?=some (.int .i64 l[j]):=by simp[ZM,h]
theorem QbO(l:List Int)(i:Nat)(y:Int):(ZM l).set i (.int .i64 y)=ZM (l.set i y):=by simp[ZM,List.map_set]
def ZQ(u v:Value):Prop:=∀k,v.ownBlock=some k→u.ownBlock≠some k
theorem ZQ.symm{u v:Value}(h:ZQ u v):ZQ v u:=fun k hk hv=>h k hv hk
def InR(base:Nat)(v:Value)(l:List Int)(w:World):Prop:=
 ∃p c,v=.slice p l.length c∧l.length≤c∧(0<l.length→∃g o cs,p=some ⟨g,o,none⟩∧base≤g∧w.heap[g]?=some (.cells cs 3 (0,0))∧∀j (h:j<l.length),cs[o+j]?=some (.int .i64 l[j]))
def Xj:Value→Option Nat
 | .slice (some a) n _=>if n=0 then none else some a.block
 | _=>none
def Kj(base g:Nat)(ns:List Nat)(hs inp out:List Int)(vN vH vI vO:Value)(wr:World):Prop:=
 (wr.heap[g]?=some (.cells #[vN,vH,vI,vO] 125 (0,0))∧base≤g)∧(wr.ownsRow base 3 1 vN ns.length (Qg ns)∧wr.ownsRow base 3 1 vH hs.length (ZM hs)∧wr.ownsRow base 3 1 vO out.length (ZM out))∧InR base vI inp wr∧(ZQ vN vH∧ZQ vN vO∧ZQ vH vO)∧(∀k,Xj vI=some k→vN.ownBlock≠some k∧vH.ownBlock≠some k∧vO.ownBlock≠some k)
def KQ(base g:Nat)(ns:List Nat)(hs:List Int)(vN vH vI vO:Value)(m:Mac)(wr:World):Prop:=
 Kj base g ns hs m.inp m.out vN vH vI vO wr∧ns.length=hs.length∧m.r=look ns hs
theorem InR.keeps{base v l w w'}(h:InR base v l w)(F:Below w.heap.size w w'):InR base v l w':=by
 obtain⟨p,c,rfl,hc,h⟩:=h;refine⟨p,c,rfl,hc,fun h0=>?_⟩;obtain⟨g,o,cs,a,b,c,d⟩:=h h0;exact⟨g,o,cs,a,b,by rw[F.block _ (lt_of_block c)];exact c,d⟩
theorem Kj.keeps{base g ns hs inp out vN vH vI vO w w'}(h:Kj base g ns hs inp out vN vH vI vO w)(F:Below w.heap.size w w'):Kj base g ns hs inp out vN vH vI vO w':=by
 obtain⟨⟨a,a2⟩,⟨b,c,d⟩,e,f⟩:=h;exact⟨⟨by rw[F.block _ (lt_of_block a)];exact a,a2⟩,⟨Qd b (Qi F) trivial,Qd c (Qi F) trivial,Qd d (Qi F) trivial⟩,e.keeps F,f⟩
theorem KQ.keeps{base g ns hs vN vH vI vO m w w'}(h:KQ base g ns hs vN vH vI vO m w)(F:Below w.heap.size w w'):KQ base g ns hs vN vH vI vO m w':=⟨h.1.keeps F,h.2⟩
theorem Qjy(base g n:Nat)(ns:List Nat)(hs:List Int)(vN vH vI vO:Value)(m:Mac)(w:World)(h:KQ base g ns hs vN vH vI vO m w)(hl:ns.length≤1000000000000):
  Calls Tryz.prog 60 #[.pointer (some ⟨g,0,none⟩),.int .i64 n] w fun x w'=>x=.returned (.int .i64 (m.r n))∧Below w.heap.size w w':=by
 obtain⟨⟨⟨h1,_⟩,⟨h2,h3,_⟩,_⟩,he,hr⟩:=h;obtain⟨pN,cN,rfl⟩:=Qb h2;obtain⟨pH,cH,rfl⟩:=Qb h3;have hgw:=lt_of_block h1;have k0:=Qa h1 0;have k1:=Qa h1 1;simp at k0 k1;have K0:=Qc (And.intro k0 k1);have HR:=Qc hr;have HE:=Qc he;have H2:=Qc h2;have H3:=Qc h3;clear h1 h2 h3 hr he k0 k1;go_enter Tryz.func60,Tryz.ntmps60;go_wp2_with fail
 go_loopw [5] (fun i wr=>∃k:Nat,k≤ns.length∧i=.int .i64 k∧Hid (∀j (hj:j<ns.length),j<k→ns[j]≠n)∧Hid (Below w.heap.size w wr)) (fun i _=>ns.length-(intOf i).toNat)
 case atStart=>exact⟨0,by omega,rfl,(fun j _ h=>by omega),Below.refl _ _⟩
 case round=>
  obtain⟨k,hk,rfl,HN,F⟩:=hrel;rename World=>wA;have k0:=(F.o.cell (p:=⟨g,0,none⟩) hgw).trans K0.o.1;have k1:=(F.o.cell (p:=⟨g,1,none⟩) hgw).trans K0.o.2;by_cases hlt:k<ns.length
  ·have hlt2:k<hs.length:=by have:=HE.o;omega
   have O2:=Qd H2.o (Qi F.o) trivial;have O3:=Qd H3.o (Qi F.o) trivial;obtain⟨gN,rfl,_,_⟩:=Qh O2 (by omega);obtain⟨gH,rfl,_,_⟩:=Qh O3 (by omega);have c2:=Qe O2 (j:=k) (u:=.int .i64 ns[k]) (by simp[Qg,hlt]);have c3:=Qe O3 (Kk hlt2);clear O2 O3;by_cases he:ns[k]=n
   ·have HV:Hid (m.r n=hs[k]):=by
     show _=_;rw[HR.o];exact Na hlt HE.o he (fun j hj=>HN.o j (by omega) hj)
    have hd:((ns[k]:Int)==(n:Int))=true:=by simp;omega
    clear he;go_wp2_with fail;go_ret;exact⟨by rw[HV.o];rfl,F.o⟩
   ·have HN2:Hid (∀j (hj:j<ns.length),j<k+1→ns[j]≠n):=fun j hj hjk=>by
     by_cases e:j=k
     ·subst e;exact he
     ·exact HN.o j hj (by omega)
    have hd:((ns[k]:Int)==(n:Int))=false:=by simp;omega
    clear he;go_wp2_with fail;go_roundw
    case rel=>exact⟨k+1,by omega,by go_num,HN2,F⟩
    case measure=>simp[intOf];omega
  ·have hke:k=ns.length:=by omega
   have HV:Hid (m.r n=0):=by
    show _=_;rw[HR.o];exact US (fun j hj=>HN.o j hj (by omega))
   clear hke;go_wp2_with fail;go_ret;exact⟨by rw[HV.o];rfl,F.o⟩
end Go.Proofs.YtgfhfkgdmidhpaaGreatDoor
