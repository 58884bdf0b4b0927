import Derived.Test.YtgfhfkgdmidhpaaGreatDoorM15
namespace Go.Proofs.YtgfhfkgdmidhpaaGreatDoor
open Go.RowKit
open Go.Proofs.Tryz
set_option maxRecDepth 100000
set_option maxHeartbeats 8000000
theorem Qe8(l:List Nat)(x i:Nat)(hi:i<l.length)(g c:Nat)(cur:Array Value)(w:World)(hg:w.heap[g]?=some (.cells cur 143 (0,0)))(hc:l.length+1≤c)(hc2:c≤maxLen)(hcs:cur.size=c)(ht:cur.toList.take l.length=Qe l)
  {B:Nat}{tt:TypeId}(hB:w.heap[B]?=some (.cells #[.int .i64 x] tt (0,0)))(hBg:B≠g):
  Calls prog 121 #[.slice (some ⟨g,0,none⟩) l.length c,.int .i64 i,.slice (some ⟨B,0,none⟩) 1 1] w fun e w'=>∃A,e=.returned (.slice (some ⟨g,0,none⟩) (l.length+1) c)∧Hid (w'.heap[g]?=some (.cells A 143 (0,0))∧A.size=c∧A.toList.take (l.length+1)=Qe (Xh l i x)∧w.grownBy w' (some g)):=by
 have hz2:¬((i:Int)=(l.length:Int)):=by omega
 have hc63:c≤9223372036854775807:=by unfold maxLen at hc2;omega
 have hov:∀lb cb,(callFunc 172 #[.slice (some ⟨B,0,none⟩) 1 1,.slice (some ⟨g,i+1,none⟩) lb cb]).run prog w=.ok (.value (.bool false)) w:=fun lb cb=>by
  rw[run_callFunc_extern func172 (by kernel_rfl) (by kernel_rfl) (by kernel_rfl) (e:=Extern.SlicesOverlaps.overlaps #[80,80] #[4]) (by kernel_rfl),
   Lib.run_overlaps_apart w 80 4 143 underlying80 1 (fun w=>by obtain⟨I,Hi,Hz,Hs,Hb⟩:=info_parts XV;simp[Go.sizeOf,typeInfo,Hi,Hs]) ⟨B,0,none⟩ ⟨g,i+1,none⟩ 1 1 lb cb hBg tt 143 1 c (by simp[World.shape?,hB]) (by simp[World.shape?,hg,hcs]) (by omega) (by simp[World.frozen?,hB]) (by simp[World.frozen?,hB])]
  rfl
 have hlen:(Qe l).length=l.length:=by simp[Qe]
 have hcl:cur.toList.length=c:=by simpa using hcs
 have hdl:((Qe l).drop i).length=l.length-i:=by rw[List.length_drop,hlen]
 obtain⟨A1,hA1⟩:∃A1:Array Value,A1=(cur.toList.take (i+1)++(Qe l).drop i++cur.toList.drop (i+1+((Qe l).drop i).length)).toArray:=⟨_,rfl⟩;obtain⟨A2,hA2⟩:∃A2:Array Value,A2=(A1.toList.take i++[Value.int .i64 x]++A1.toList.drop (i+1)).toArray:=⟨_,rfl⟩;have hs1:A1.toList.length=c:=by
  rw[hA1];simp only[List.length_append,List.length_take,List.length_drop,hlen,hcl];omega
 have hs1':A1.size=c:=by simpa using hs1
 have hs2:A2.toList.length=c:=by
  rw[hA2];simp only[List.length_append,List.length_take,List.length_drop,List.length_cons,List.length_nil,hs1];omega
 have hsz:(prog.info? 143).map (·.size)=some 1:=by
  obtain⟨i0,hi0,_,h1,_⟩:=info_parts XV;rw[hi0];simp[h1]
 have hone:∀v∈(Qe l).drop i,v.oneCell'=true:=fun v hv=>by
  obtain⟨n,_,rfl⟩:=Qv.1 (List.mem_of_mem_drop hv);rfl
 have hcp1:∀(W:World),W.heap=w.heap→∀ty dc sc,(Builtin.copy_ #[80,80] ty #[.slice (some ⟨g,i+1,none⟩) (l.length-i) dc,.slice (some ⟨g,i,none⟩) (l.length+1-i) sc]).run prog W=.ok (goInt ((Qe l).drop i).length) (W.setRow g A1):=fun W hW ty dc sc=>by
  rw[hA1];refine run_copy_row prog W 80 80 ty 143 g (i+1) _ dc ⟨g,i,none⟩ _ sc cur 143 ((Qe l).drop i) underlying80 hsz (by rw[hW];exact hg) (by rw[hdl];simp only[Nat.min_def];split<;>omega) (fun j v hj=>?_) (by rw[hdl,hcs];omega) hone;rw[Addr.add_lit];rw[List.getElem?_drop,←ht,List.getElem?_take]at hj;split at hj
  ·simp only[World.cell?,hW,hg];simpa using hj
  ·cases hj
 have hcp2:∀(W:World),W.heap=(w.setRow g A1).heap→∀ty dc,(Builtin.copy_ #[80,80] ty #[.slice (some ⟨g,i,none⟩) (l.length+1-i) dc,.slice (some ⟨B,0,none⟩) 1 1]).run prog W=.ok (goInt 1) (W.setRow g A2):=fun W hW ty dc=>by
  rw[hA2];refine run_copy_row prog W 80 80 ty 143 g i (l.length+1-i) dc ⟨B,0,none⟩ 1 1 A1 143 [.int .i64 x] underlying80 hsz (by rw[hW];exact setRow_heap w g cur _ 143 _ hg) (by simp only[Nat.min_def,List.length_cons,List.length_nil];split<;>omega) (fun j v hj=>?_) (by simp only[List.length_cons,List.length_nil];omega) (List.all_eq_true.1 rfl);rw[Addr.add_lit];simp only[World.cell?,hW,setRow_other w g B _ hBg,hB]
  match j,hj with
  | 0,hj=>simpa using hj
 have hw1:IntKind.i64.wrap ((i:Int)+1)=(i:Int)+1:=by rw[IntKind.wrap_i64];unfold maxLen at hc2;omega
 have hb1:(0:Int)≤(i:Int)+1:=by omega
 have htn:((i:Int)+1).toNat=i+1:=by omega
 have hb2:¬(c=i+1):=by omega
 have hb3:(i:Int)≤(l.length:Int)+1:=by omega
 have hb4:¬(c=i):=by omega
 have hin:i≤l.length:=by omega
 have HA1:=Qc hA1;have HA2:=Qc hA2;have HT:=Qc ht;have HG:=Qc hg;clear hA1 hA2 ht hg;have hc2:=hcp2 (w.drew.setRow g A1) rfl;go_enter func121,ntmps121;go_wp2_with (simp only[hov])
 go_region_law (refine step_copy_runI rfl _ _ 80 80 rfl (.slice (some ⟨g,i+1,none⟩) (l.length-i) (c-(i+1))) (.slice (some ⟨g,i,none⟩) (l.length+1-i) (c-i)) (by go_simp) (by go_simp) (hcp1 w.drew rfl _ _ _) ?_)
 go_wp2
 go_ret;refine⟨A2,rfl,?_,by simpa using hs2,?_,?_⟩
 ·exact setRow_heap (w.drew.setRow g A1) g A1 _ 143 _ (setRow_heap w.drew g cur _ 143 _ HG.o)
 ·rw[HA2.o,HA1.o];rw[show Qe (Xh l i x)=(Qe l).take i++Value.int .i64 x::(Qe l).drop i by simp[Qe,Xh]];exact NZ cur.toList (Qe l) _ i l.length HT.o (by omega) hi
 ·exact⟨rfl,rfl,rfl,by simp,fun k _ hk=>(setRow_other _ g k _ (fun e=>hk (by rw[e]))).trans (setRow_other _ g k _ (fun e=>hk (by rw[e])))⟩
theorem Qfb(l:List Nat)(x i:Nat)(hi:i<l.length)(hl:l.length≤1000000)(g c:Nat)(cur:Array Value)(w:World)(hg:w.heap[g]?=some (.cells cur 143 (0,0)))(hnc:l.length≤c)(hc:c<l.length+1)(hcs:cur.size=c)(ht:cur.toList.take l.length=Qe l)
  {B:Nat}{tt:TypeId}(hB:w.heap[B]?=some (.cells #[.int .i64 x] tt (0,0))):
  Calls prog 121 #[.slice (some ⟨g,0,none⟩) l.length c,.int .i64 i,.slice (some ⟨B,0,none⟩) 1 1] w fun e w'=>∃A G,e=.returned (.slice (some ⟨w.heap.size,0,none⟩) (l.length+1) G)∧Hid (w'.heap[w.heap.size]?=some (.cells A 143 (0,0))∧l.length+1≤G∧G≤maxLen∧A.size=G∧A.toList.take (l.length+1)=Qe (Xh l i x)∧w.grownBy w' none):=by
 obtain⟨i0,hi0,hz0,hzs,hzb⟩:=info_parts XV;have hlen:(Qe l).length=l.length:=by simp[Qe]
 have hdl:((Qe l).drop i).length=l.length-i:=by rw[List.length_drop,hlen]
 have hbw:g<w.heap.size:=by
  rcases Nat.lt_or_ge g w.heap.size with h|h
  ·exact h
  ·rw[Array.getElem?_eq_none h]at hg;cases hg
 have hBw:B<w.heap.size:=by
  rcases Nat.lt_or_ge B w.heap.size with h|h
  ·exact h
  ·rw[Array.getElem?_eq_none h]at hB;cases hB
 have hcells:∀j v,(Qe l)[j]?=some v→w.cell? ⟨g,j,none⟩=some v:=fun j v hj=>by
  rw[←ht,List.getElem?_take]at hj;split at hj
  ·simp only[World.cell?,hg];simpa using hj
  ·cases hj
 have hsz:(prog.info? 143).map (·.size)=some 1:=by rw[hi0];simp[hzs]
 have hone:∀v∈(Qe l).drop i,v.oneCell'=true:=fun v hv=>by
  obtain⟨n,_,rfl⟩:=Qv.1 (List.mem_of_mem_drop hv);rfl
 have hold:(Builtin.firstCells i0.size i (.slice (some ⟨g,0,none⟩) i c)).run prog w.drew=.ok ((Qe l).take i).toArray w.drew:=by
  rw[hzs];exact run_firstCells_some w.drew 1 i ⟨g,0,none⟩ i c ((Qe l).take i) (by rw[List.length_take,hlen];omega) (fun j v hj=>by
   rw[Addr.add_lit,Nat.zero_add];rw[List.getElem?_take]at hj;split at hj
   ·exact hcells j v hj
   ·cases hj)
 obtain⟨G,hG⟩:∃G,G=grownCap w (l.length+1) c 143:=⟨_,rfl⟩;have hGn:l.length+1≤G:=by rw[hG];exact grownCap_ge w _ _ _
 have hGm:G≤maxLen:=by rw[hG];exact grownCap_le_maxLen w (l.length+1) c 143 (by unfold maxLen;omega)
 obtain⟨ROW,hROW⟩:∃ROW:Array Value,ROW=((Qe l).take i).toArray++Builtin.zeroCells (Value.int .i64 0).cells (l.length+1-i)++Builtin.zeroCells (Value.int .i64 0).cells (G-(l.length+1)):=⟨_,rfl⟩;have hkk:(l.length:Int)+1-(i:Int)=((l.length+1-i:Nat):Int):=by omega
 have hik:i+(l.length+1-i)=l.length+1:=by omega
 have hrz:∀ty,(Builtin.append_ #[80,3] ty #[.slice (some ⟨g,0,none⟩) i c,.int .i64 ((l.length:Int)+1-(i:Int))]).run prog w =
   .ok (.slice (some ⟨w.heap.size,0,none⟩) (l.length+1) G) (w.drew.alloc (.cells ROW 143)):=fun ty=>by
  have h:=Lib.run_append_grow_zeros w 80 3 ty 143 i0 _ .i64 .i64 underlying80 underlying3 hi0 hz0 (some ⟨g,0,none⟩) i c ((Qe l).take i) hold (l.length+1-i) (by omega) (by omega) (by omega) (by omega) (by rw[hzb];omega) (by rw[hzb,hik];exact growslice_fits (by omega) (by omega));rw[hik,←hG,←hROW]at h;rw[hkk];exact h
 have hRs:ROW.size=G:=by
  rw[hROW];simp[Builtin.zeroCells,Value.cells,hlen];omega
 obtain⟨A1,hA1⟩:∃A1:Array Value,A1=(ROW.toList.take i++[Value.int .i64 x]++ROW.toList.drop (i+1)).toArray:=⟨_,rfl⟩;obtain⟨A2,hA2⟩:∃A2:Array Value,A2=(A1.toList.take (i+1)++(Qe l).drop i++A1.toList.drop (i+1+((Qe l).drop i).length)).toArray:=⟨_,rfl⟩;have hs1:A1.size=G:=by
  rw[hA1];simp only[List.size_toArray,List.length_append,List.length_take,List.length_drop,List.length_cons,List.length_nil,Array.length_toList,hRs];omega
 have hs2:A2.size=G:=by
  rw[hA2];simp only[List.size_toArray,List.length_append,List.length_take,List.length_drop,hlen,Array.length_toList,hs1];omega
 have hn0:(w.alloc (.cells ROW 143)).drew.heap[w.heap.size]?=some (.cells ROW 143 (0,0)):=heap_alloc_new w _;have hnB:(w.alloc (.cells ROW 143)).drew.heap[B]?=some (.cells #[.int .i64 x] tt (0,0)):=(Below.heap_alloc w _ B hBw).trans hB;have hng:(w.alloc (.cells ROW 143)).drew.heap[g]?=some (.cells cur 143 (0,0)):=(Below.heap_alloc w _ g hbw).trans hg;obtain⟨W1,hW1⟩:∃W1,W1=(w.alloc (.cells ROW 143)).drew:=⟨_,rfl⟩;rw[←hW1]at hn0 hnB hng;have hcA:∀ty dc,(Builtin.copy_ #[80,80] ty #[.slice (some ⟨w.heap.size,i,none⟩) (l.length+1-i) dc,.slice (some ⟨B,0,none⟩) 1 1]).run prog W1=.ok (goInt 1) (W1.setRow w.heap.size A1):=fun ty dc=>by
  rw[hA1];refine run_copy_row prog W1 80 80 ty 143 w.heap.size i (l.length+1-i) dc ⟨B,0,none⟩ 1 1 ROW 143 [.int .i64 x] underlying80 hsz hn0 (by simp only[Nat.min_def,List.length_cons,List.length_nil];split<;>omega) (fun j v hj=>?_) (by simp only[List.length_cons,List.length_nil];omega) (List.all_eq_true.1 rfl);rw[Addr.add_lit];simp only[World.cell?,hnB]
  match j,hj with
  | 0,hj=>simpa using hj
 have hcB:∀(W:World),W.heap=(W1.setRow w.heap.size A1).heap→∀ty dc sc,(Builtin.copy_ #[80,80] ty #[.slice (some ⟨w.heap.size,i+1,none⟩) (l.length-i) dc,.slice (some ⟨g,i,none⟩) (l.length-i) sc]).run prog W=.ok (goInt ((Qe l).drop i).length) (W.setRow w.heap.size A2):=fun W hW ty dc sc=>by
  rw[hA2];refine run_copy_row prog W 80 80 ty 143 w.heap.size (i+1) _ dc ⟨g,i,none⟩ _ sc A1 143 ((Qe l).drop i) underlying80 hsz (by rw[hW];exact setRow_heap W1 _ ROW _ 143 _ hn0) (by rw[hdl];simp) (fun j v hj=>?_) (by rw[hdl];omega) hone;rw[Addr.add_lit];rw[List.getElem?_drop]at hj;have h2:=hcells _ _ hj;simp only[World.cell?,hW,setRow_other W1 w.heap.size g _ (by omega),hng];simpa[World.cell?,hg] using h2
 have hw1:IntKind.i64.wrap ((i:Int)+1)=(i:Int)+1:=by rw[IntKind.wrap_i64];omega
 have hb1:(0:Int)≤(i:Int)+1:=by omega
 have htn:((i:Int)+1).toNat=i+1:=by omega
 have hGi:¬(G=i):=by omega
 have hGim:¬(G=i+1):=by omega
 have hci:¬(c=i):=by omega
 have hin:i≤l.length:=by omega
 have hz2:¬((i:Int)=(l.length:Int)):=by omega
 have hz3:(c:Int)<(l.length:Int)+1:=by omega
 have hG63:G≤9223372036854775807:=by unfold maxLen at hGm;omega
 have HH:=Qc (And.intro hA1 (And.intro hA2 (And.intro ht (And.intro hg (And.intro hn0 (And.intro hROW (And.intro hs2 hRs)))))));have HW:=Qc hW1;have HGM:=Qc hGm;clear hA1 hA2 ht hg hn0 hnB hng hROW hG hkk hik hold hs1 hs2 hi0 hz0 hzs hzb hcs hdl hB hRs hGm;subst hW1;have hc2:=hcB (((w.alloc (.cells ROW 143)).drew.setRow w.heap.size A1).drew) rfl;go_enter func121,ntmps121;go_wp2_with (at_builtin;refine Lib.wpList_append_run _ rfl _ _ _ _ rfl _ _ rfl rfl _ _ (hrz _) ?_)
 go_region_law (refine step_copy_runI rfl _ _ 80 80 rfl (.slice (some ⟨w.heap.size,i+1,none⟩) (l.length-i) (G-(i+1))) (.slice (some ⟨g,i,none⟩) (l.length-i) (c-i)) (by go_simp) (by go_simp) (hcB (((w.alloc (.cells ROW 143)).drew.setRow w.heap.size A1).drew) rfl _ _ _) ?_)
 go_wp2
 go_ret;obtain⟨hA1,hA2,ht,hg,hn0,hROW,hs2,hRs⟩:=HH.o;refine⟨A2,G,rfl,?_,hGn,HGM.o,hs2,?_,?_⟩
 ·exact setRow_heap _ _ A1 _ 143 _ (setRow_heap _ _ ROW _ 143 _ hn0)
 ·have hlr:ROW.toList.take i=(Qe l).take i:=by
   rw[hROW];simp only[Array.toList_append,List.append_assoc];rw[List.take_left' (by rw[List.length_take,hlen];omega)]
  rw[show Qe (Xh l i x)=(Qe l).take i++Value.int .i64 x::(Qe l).drop i by simp[Qe,Xh]];have e1:A1.toList.take (i+1)=(Qe l).take i++[Value.int .i64 x]:=by
   rw[hA1,hlr];exact List.take_left' (by rw[List.length_append,List.length_take,hlen];simp;omega)
  rw[hA2,e1];rw[List.take_left' (by simp[hlen];omega)];simp
 ·refine⟨rfl,rfl,rfl,by simp,fun k hk _=>?_⟩;rw[setRow_other _ _ k _ (by omega)];show ((w.alloc (.cells ROW 143)).drew.setRow w.heap.size A1).heap[k]?=_;rw[setRow_other _ _ k _ (by omega)];exact Below.heap_alloc w _ k hk
theorem Qlm(l:List Nat)(x i:Nat)(hi:i≤l.length)(base:Nat)(v:Value)(w:World)(h:w.ownsRow base 143 1 v l.length (Qe l))(hl:l.length≤1000000)(hb:base≤w.heap.size)
  {B:Nat}{tt:TypeId}(hB:w.heap[B]?=some (.cells #[.int .i64 x] tt (0,0)))(hBv:v.ownBlock≠some B):
  Calls prog 121 #[v,.int .i64 i,.slice (some ⟨B,0,none⟩) 1 1] w fun e w'=>∃v',e=.returned v'∧w'.ownsRow base 143 1 v' (Xh l i x).length (Qe (Xh l i x))∧w.grownBy w' v.ownBlock∧VZ w v v':=by
 have hil:(Xh l i x).length=l.length+1:=by simp[Xh];omega
 rw[hil];by_cases he:i=l.length
 ·subst he;rw[show Xh l l.length x=l++[x] by simp[Xh]];exact Qb3 l x base v w h hl hb hB
 ·rcases h.2 with ⟨rfl,h0⟩|⟨g,c,cur,rfl,hbg,hg,hnc,hcm,hcs,ht⟩
  ·omega
  ·rw[Nat.mul_one]at hcs ht;by_cases hr:l.length+1≤c
   ·refine(Qe8 l x i (by omega) g c cur w hg hr hcm hcs ht hB (fun e=>hBv (by rw[e];rfl))).mono ?_;rintro e w' ⟨A,rfl,hh⟩;obtain⟨a1,a2,a3,a4⟩:=hh.out;refine⟨_,rfl,⟨by simp[Qe,hil],.inr ⟨g,c,A,rfl,hbg,a1,hr,hcm,by omega,by rw[Nat.mul_one];exact a3⟩⟩,a4,.inl rfl⟩
   ·refine(Qfb l x i (by omega) hl g c cur w hg hnc (by omega) hcs ht hB).mono ?_;rintro e w' ⟨A,G,rfl,hh⟩;obtain⟨a1,a2,a3,a4,a5,a6⟩:=hh.out;refine⟨_,rfl,⟨by simp[Qe,hil],.inr ⟨w.heap.size,G,A,rfl,hb,a1,a2,a3,by omega,by rw[Nat.mul_one];exact a5⟩⟩,⟨a6.os,a6.tape,a6.output,a6.size,fun k hk _=>a6.block k hk (by simp)⟩,.inr ⟨_,rfl,Nat.le_refl _⟩⟩
theorem Qge(l:List Nat)(x:Nat)(hx:Hid (x∉l))(hsrt:Hid (l.Pairwise (· < ·)))(pb po base:Nat)(v:Value)(w:World)(hp:w.cell? ⟨pb,po,none⟩=some v)(hf:w.frozen? ⟨pb,po,none⟩=false)(h:w.ownsRow base 143 1 v l.length (Qe l))(hl:l.length≤1000000)(hb:base≤w.heap.size)(hpv:Hid (v.ownBlock≠some pb)):
  Calls prog 71 #[.pointer (some ⟨pb,po,none⟩),.int .i64 x] w fun e w'=>e=.returned (.bool true)∧∃i v',Hid (i≤l.length∧Kt l x i∧w'.ownsRow base 143 1 v' (Xh l i x).length (Qe (Xh l i x))∧Put pb po v v' w w'):=by
 go_enter func71,ntmps71;go_wp2_with fail;refine(VV l x hsrt base v w h hl).mono ?_;rintro e w1 ⟨rfl,i,hi,hsp,rfl⟩;rw[YA hx.out];have hpb:pb<w1.heap.size:=Zh _ _ hp;have HP:=Qc hpv.out;have HF:=Qc hf;have HI:=Qc (And.intro hi hsp);clear hsp hf hx hsrt hpv;go_wp2_with fail;refine(Qlm l x i hi (base:=base) (v:=v) (w1.alloc (.cells #[.int .i64 x] 143)) (h.alloc _) hl (by simp;omega) (heap_alloc_new _ _) (fun e=>by obtain⟨_,h2⟩:=World.ownsRow.lt h _ e;omega)).mono ?_;rintro e w2 ⟨v2,rfl,o2,g2,n2⟩;obtain⟨p2,c2,rfl⟩:=Qa o2;have hb2:w2.heap[pb]?=w1.heap[pb]?:=(g2.block pb (by simp;omega) (fun e=>HP.o e.symm)).trans (Below.heap_alloc _ _ _ hpb);have hp2:w2.cell? ⟨pb,po,none⟩=some v:=by rw[World.cell?_of_block (w:=w1) hb2];exact hp
 have hf2:w2.frozen? ⟨pb,po,none⟩=false:=by rw[World.frozen?_of_block (w:=w1) hb2];exact HF.o
 have HR:=Qc (And.intro o2 (And.intro g2 n2));clear o2 g2 n2 hb2 hp h;go_wp2_with fail;go_ret;obtain⟨o2,g2,n2⟩:=HR.o;refine⟨rfl,_,_,HI.o.1,HI.o.2,UB o2 n2 hpb HP.o,QaI g2 hpb HP.o n2⟩
theorem Qb2{l:List Nat}{x i y:Nat}:y∈Xh l i x↔y=x∨y∈l:=by
 rw[Xh,QB,List.mem_cons];constructor
 ·rintro (h|h|h)
  ·exact .inr (List.mem_of_mem_take h)
  ·exact .inl h
  ·exact .inr (List.mem_of_mem_drop h)
 ·rintro (h|h)
  ·exact .inr (.inl h)
  ·rw[←List.take_append_drop i l,QB]at h;rcases h with h|h
   ·exact .inl h
   ·exact .inr (.inr h)
theorem Qb1{l:List Nat}{x i:Nat}(h:l.Pairwise (· < ·))(hx:x∉l)(hs:Kt l x i):(Xh l i x).Pairwise (· < ·):=by
 rw[Xh,List.pairwise_append,List.pairwise_cons];have hlow:∀a∈l.take i,a<x:=fun a ha=>by
  obtain⟨k,hk,rfl⟩:=List.getElem_of_mem ha;rw[List.length_take]at hk;rw[List.getElem_take];exact hs.1 k (by omega) (by omega)
 have hhigh:∀b∈l.drop i,x<b:=fun b hb=>by
  obtain⟨k,hk,rfl⟩:=List.getElem_of_mem hb;rw[List.length_drop]at hk;rw[List.getElem_drop];have h1:=hs.2 (i+k) (by omega) (by omega);have h2:l[i+k]≠x:=fun e=>hx (by rw[←e];exact Qx _);omega
 refine⟨h.sublist (List.take_sublist _ _),⟨hhigh,h.sublist (List.drop_sublist _ _)⟩,fun a ha b hb=>?_⟩;rcases List.mem_cons.1 hb with rfl|hb
 ·exact hlow a ha
 ·exact Nat.lt_trans (hlow a ha) (hhigh b hb)
def bhd(e:Z6):List Nat:=ofL ((goalsF e).map (·.1))
theorem Qcu{e x}:x∈bhd e↔∃p∈goalsF e,p.1=x:=by rw[bhd,QN,Qv]
theorem two(w:World)(o0 o1:Obj):((w.alloc o0).alloc o1).heap[w.heap.size]?=some o0∧((w.alloc o0).alloc o1).heap[w.heap.size+1]?=some o1∧((w.alloc o0).alloc o1).heap.size=w.heap.size+2∧Below w.heap.size w ((w.alloc o0).alloc o1):=by
 have h1:=heap_alloc_last (w.alloc o0) o1;rw[Qt]at h1;exact⟨Qo (heap_alloc_last _ _) _,h1,by simp,(((Below.refl _ _).alloc (Nat.le_refl _) _).alloc (by simp) _)⟩
def XN(gl:List (Nat×Nat))(k:Nat):List Nat:=ofL ((gl.take k).map (·.1))
theorem Qfu(e):XN (goalsF e) (goalsF e).length=bhd e:=by rw[XN,List.take_length,bhd]
theorem Yy(gl k):(XN gl k).Pairwise (· < ·):=Zi _
theorem GO{gl:List (Nat×Nat)}{k x:Nat}(hk:k<gl.length):x∈XN gl (k+1)↔x=gl[k].1∨x∈XN gl k:=by
 rw[XN,XN,QN,QN,Zb hk,List.map_append,QB];simp[or_comm]
theorem Qfr{gl:List (Nat×Nat)}{k:Nat}(hk:k<gl.length)(h:gl[k].1∈XN gl k):XN gl (k+1)=XN gl k:=
 Zo (Yy _ _) (Yy _ _) fun x=>by
  rw[GO hk];constructor
  ·rintro (rfl|h1)
   ·exact h
   ·exact h1
  ·exact .inr
theorem Qfs{gl:List (Nat×Nat)}{k i:Nat}(hk:k<gl.length)(h:gl[k].1∉XN gl k)(hs:Kt (XN gl k) gl[k].1 i):XN gl (k+1)=Xh (XN gl k) i gl[k].1:=
 Zo (Yy _ _) (Qb1 (Yy _ _) h hs) fun x=>by rw[GO hk,Qb2]
theorem WT(l:List Nat):(ofL l).length≤l.length:=by
 have h1:(ofL l).length=(Lib.compact (ZL l)).length:=by simp[ofL]
 rw[h1];exact Qy (RU _) (by rw[Xd];exact Qi _)
theorem Qft(gl k):(XN gl k).length≤gl.length:=by
 refine Qy (WT _) ?_;rw[List.length_map,List.length_take];omega
theorem QgL{w:World}{base k:Nat}{v:Value}{t:TypeId}(h:w.heap[k]?=some (.cells #[v] t (0,0)))(hb:base≤k):w.ownsRow base t 1 (.slice (some ⟨k,0,none⟩) 1 1) 1 [v]:=
 ⟨rfl,.inr ⟨k,1,#[v],rfl,hb,h,Qi _,by decide,rfl,rfl⟩⟩
theorem NE{w w':World}{pb:Nat}{v v':Value}{t:TypeId}(h:w.heap[pb]?=some (.cells #[v] t (0,0)))(hp:Put pb 0 v v' w w'):w'.heap[pb]?=some (.cells #[v'] t (0,0)):=by
 rw[hp.at_,Qq h 0 v'];rfl
theorem QbF{w w':World}{pb:Nat}{v v':Value}(hp:Put pb 0 v v' w w')(hb:pb<w.heap.size)(hv:v.ownBlock≠some pb):v'.ownBlock≠some pb:=by
 rcases hp.new with h|⟨g,h,hg⟩
 ·rw[h];exact hv
 ·rw[h];intro e;cases e;omega
theorem QhX(e:Z6)(hop:e.op=46∨e.op=62∨e.op=63):∃T x fn,Zc e=.iface T x∧(∀w:World,(method 500 T x "Goals").run prog w=.ok (fn,x) w)∧(∀args (w:World),(callFunc fn args).run prog w=.ok (.enter fn args) w) ∧
  ∀w:World,Calls prog fn #[x] w fun r w'=>∃v,r=.returned v∧w'.ownsRow w.heap.size 145 2 v (goalsF e).length (pcs (goalsF e))∧Below w.heap.size w w':=by
 rcases hop with hop|hop|hop
 ·obtain⟨a1,a2⟩:=K6 hop;refine⟨_,_,307,a1,fun w=>by kernel_rfl,enters_of func307 (by kernel_rfl) rfl,fun w=>(UZ w).mono ?_⟩;rintro r w' ⟨rfl,f⟩;rw[a2];exact⟨_,rfl,Q3 _ _ _ _,f⟩
 ·obtain⟨a1,a2⟩:=K7 hop;refine⟨_,_,311,a1,fun w=>by kernel_rfl,enters_of func311 (by kernel_rfl) rfl,fun w=>(UY _ _ w).mono ?_⟩;rintro r w' ⟨g,rfl,o,f⟩;rw[a2];exact⟨_,rfl,o,f⟩
 ·obtain⟨a1,a2⟩:=JI hop;refine⟨_,_,319,a1,fun w=>by kernel_rfl,enters_of func319 (by kernel_rfl) rfl,fun w=>(Wg _ _ _ _ _ _ w).mono ?_⟩;rintro r w' ⟨g,rfl,o,f⟩;rw[a2];exact⟨_,rfl,o,f⟩
theorem Qk0(e:Z6)(hop:e.op=46∨e.op=62∨e.op=63)(at_:Nat)(qc:Option Addr)(mc cc:Nat)(ps:Option Addr)(ms cs:Nat)(w:World):
  Calls prog 127 #[.agg #[.int .i64 at_,.slice qc mc cc,.slice ps ms cs,Zc e]] w fun x w'=>∃v',x=.returned (.agg #[v'])∧w'.ownsRow w.heap.size 143 1 v' (bhd e).length (Qe (bhd e))∧Below w.heap.size w w':=by
 obtain⟨T,x,fn,hev,hmt,hent,hcall⟩:=QhX e hop;rw[hev];have HC:=Qc hcall;have HM:=Qc hmt;have HT:=Qc hent;have HE:=Qc (Qfu e);have hgl2:=ZH e;obtain⟨gl,hgl⟩:∃gl,gl=goalsF e:=⟨_,rfl⟩;rw[←hgl]at HE hgl2 HC;clear hcall hev hmt hent hop hgl;go_enter func127,ntmps127;go_wp2_with fail;rw[HM.o,Result.andThen_ok];simp only[HT.o];unfold Oper.upon;obtain⟨W3,hW3⟩:∃W3,W3=((w.alloc (.cells #[.int .i64 at_,.slice qc mc cc,.slice ps ms cs,.iface T x] 104)).alloc (.cells #[.slice none 0 0] 82)).alloc (.cells #[.slice none 0 0] 82):=⟨_,rfl⟩;rw[←hW3];obtain⟨_,g1,g2,hz,f3⟩:=Yf w (.cells #[.int .i64 at_,.slice qc mc cc,.slice ps ms cs,.iface T x] 104) (.cells #[.slice none 0 0] 82) (.cells #[.slice none 0 0] 82);rw[←hW3]at g1 g2 hz f3;clear hW3;refine(HC.o _).mono ?_;rintro r w5 ⟨vg,rfl,OG,f5⟩;have hs5:=f5.size;have B0:Hid (w5.heap[w.heap.size+1]?=some (.cells #[.slice none 0 0] 82 (0,0))∧w5.heap[w.heap.size+1+1]?=some (.cells #[.slice none 0 0] 82 (0,0))∧w5.ownsRow (w.heap.size+3) 145 2 vg gl.length (pcs gl)∧Below w.heap.size w w5∧w.heap.size+3≤w5.heap.size):=
  ⟨by rw[f5.block _ (by omega)];exact g1,by rw[f5.block _ (by omega)];exact g2,Qj OG (by omega),f3.trans (f5.mono (by omega)),by omega⟩
 obtain⟨pg,cg,rfl⟩:=Qa OG;clear g1 g2 f3 f5 hs5 hz HC HM HT OG;go_wp2_with fail
 go_loopw [10] (fun i wr=>∃(k:Nat)(v:Value),k≤gl.length∧i=.int .i64 k∧Hid (wr.heap[w.heap.size+1]?=some (.cells #[.slice none 0 0] 82 (0,0))∧wr.heap[w.heap.size+1+1]?=some (.cells #[v] 82 (0,0))∧wr.ownsRow (w.heap.size+3) 143 1 v (XN gl k).length (Qe (XN gl k))∧wr.ownsRow (w.heap.size+3) 145 2 (.slice pg gl.length cg) gl.length (pcs gl)∧v.ownBlock≠some (w.heap.size+1+1)∧Below w.heap.size w wr∧w.heap.size+3≤wr.heap.size)) (fun i _=>gl.length-(intOf i).toNat)
 case atStart=>exact⟨0,_,by omega,rfl,B0.o.1,B0.o.2.1,by simpa[XN,ofL,ZL,Xk,Lib.compact,Lib.compactUpTo,Qe] using World.ownsRow_nil _ _ _ _,B0.o.2.2.1,by simp[Value.ownBlock],B0.o.2.2.2.1,B0.o.2.2.2.2⟩
 case round=>
  clear B0;obtain⟨k,v,hk,rfl,HR⟩:=hrel;obtain⟨r1,r2,rv,rg,rn,rf,rz⟩:=HR.o;by_cases hlt:k<gl.length
  ·obtain⟨gg,rfl,_,hgs⟩:=Qk rg (by omega);have c0:=Qf rg (Zt hlt).1;have c1:=Qf rg (Zt hlt).2;have HZ:=Qc (And.intro r1 (And.intro r2 (And.intro rv (And.intro rg (And.intro rn rf)))));have hle:(XN gl k).length≤1000000:=Qy (Qft _ _) (by omega);clear HR r1 r2 rv rg rn rf;go_wp2_with fail;obtain⟨r1,r2,rv,rg,rn,rf⟩:=HZ.o;obtain⟨WW,hWW⟩:∃WW,WW=wr.alloc (.cells #[.int .i64 gl[k].1,.int .i64 gl[k].2] 145):=⟨_,rfl⟩;rw[←hWW];have q1:WW.heap[w.heap.size+1]?=some (.cells #[.slice none 0 0] 82 (0,0)):=by rw[hWW];exact Qo r1 _
   have q2:WW.heap[w.heap.size+1+1]?=some (.cells #[v] 82 (0,0)):=by rw[hWW];exact Qo r2 _
   have qv:WW.ownsRow (w.heap.size+3) 143 1 v (XN gl k).length (Qe (XN gl k)):=by rw[hWW];exact rv.alloc _
   have qg:WW.ownsRow (w.heap.size+3) 145 2 (.slice (some ⟨gg,0,none⟩) gl.length cg) gl.length (pcs gl):=by rw[hWW];exact rg.alloc _
   have qf:Below w.heap.size w WW:=by rw[hWW];exact rf.alloc (by omega) _
   have qz:w.heap.size+3≤WW.heap.size:=by rw[hWW,Qt];omega
   have k2:WW.cell? ⟨w.heap.size+1+1,0,none⟩=some v:=by have:=Qb q2 0;simpa using this
   have hsrt:=Qc (Yy gl k);clear hWW r1 r2 rv rg rf HZ c0 c1;by_cases hx:gl[k].1∈XN gl k
   ·refine(Uh (XN gl k) gl[k].1 hx hsrt _ 0 _ v WW k2 qv hle).mono ?_;rintro e w7 ⟨rfl,HW⟩;have H7:Hid (w7.heap[w.heap.size+1]?=some (.cells #[.slice none 0 0] 82 (0,0))∧w7.heap[w.heap.size+1+1]?=some (.cells #[v] 82 (0,0))∧w7.ownsRow (w.heap.size+3) 143 1 v (XN gl (k+1)).length (Qe (XN gl (k+1)))∧w7.ownsRow (w.heap.size+3) 145 2 (.slice (some ⟨gg,0,none⟩) gl.length cg) gl.length (pcs gl)∧v.ownBlock≠some (w.heap.size+1+1)∧Below w.heap.size w w7∧w.heap.size+3≤w7.heap.size):=by
     rw[HW.o,Qfr hlt hx];exact⟨q1,q2,qv,qg,rn,qf,qz⟩
    clear q1 q2 qv qg qf qz k2 hx HW rn;go_wp2_with fail;go_roundw
    case rel=>exact⟨k+1,v,by omega,by go_num,H7⟩
    case measure=>simp[intOf];omega
   ·refine(Qge (XN gl k) gl[k].1 hx hsrt _ 0 _ v WW k2 (Qg q2 0) qv hle qz rn).mono ?_;rintro e w7 ⟨rfl,i7,v7,H⟩;have H7:Hid (w7.heap[w.heap.size+1]?=some (.cells #[.slice none 0 0] 82 (0,0))∧w7.heap[w.heap.size+1+1]?=some (.cells #[v7] 82 (0,0))∧w7.ownsRow (w.heap.size+3) 143 1 v7 (XN gl (k+1)).length (Qe (XN gl (k+1)))∧w7.ownsRow (w.heap.size+3) 145 2 (.slice (some ⟨gg,0,none⟩) gl.length cg) gl.length (pcs gl)∧v7.ownBlock≠some (w.heap.size+1+1)∧Below w.heap.size w w7∧w.heap.size+3≤w7.heap.size):=by
     obtain⟨_,hsp,o7,hp⟩:=H.o;rw[Qfs hlt hx hsp];refine⟨?_,NE q2 hp,o7,?_,QbF hp (lt_of_block q2) rn,?_,Qy qz hp.size⟩
     ·rw[hp.block _ (by omega) (by omega) (fun e=>by have:=(qv.lt _ e.symm).1;omega)];exact q1
     ·exact Qd qg (Qr.put (T:=fun t=>t=145) (QgL (base:=0) q2 (Nat.zero_le _)) qv hp (by simp) (by simp)) rfl
     ·exact Put.below qf (by omega) (Qj qv (by omega)) hp (by omega)
    clear q1 q2 qv qg qf qz k2 hx H rn;go_wp2_with fail;go_roundw
    case rel=>exact⟨k+1,v7,by omega,by go_num,H7⟩
    case measure=>simp[intOf];omega
  ·have hke:k=gl.length:=by omega
   subst hke;obtain⟨pv,cv,rfl⟩:=Qa rv;have k1:=Qb r1 0;have k1f:=Qg r1 0;have k2:=Qb r2 0;simp at k1 k2;have F6:Hid ((wr.setCell ⟨w.heap.size+1,0,none⟩ (.slice pv (XN gl gl.length).length cv)).ownsRow w.heap.size 143 1 (.slice pv (XN gl gl.length).length cv) (XN gl gl.length).length (Qe (XN gl gl.length))∧Below w.heap.size w (wr.setCell ⟨w.heap.size+1,0,none⟩ (.slice pv (XN gl gl.length).length cv))):=
    ⟨Qj (QE rv _ 0 _ (by omega)) (by omega),Qp rf _ _ _ (by omega)⟩
   rw[HE.o]at F6 k2;clear HR r1 r2 rv rg rn rf;go_wp2_with fail;refine bodyPost_ret (v:=.agg #[.slice pv (bhd e).length cv]) (by simp[results,results127,go_sem,k1]) rfl ⟨_,rfl,?_,?_⟩
   ·exact F6.o.1
   ·exact F6.o.2
def suF(bs:List Qm)(i:Nat):List Nat:=match bs[i]? with|some b=>bhd b.e|none=>[]
theorem V5{bs:List Qm}{i:Nat}(hi:i<bs.length):suF bs i=bhd bs[i].e:=by rw[suF,Zl hi]
theorem XB{bs:List Qm}(h:∀b∈bs,∀p∈goalsF b.e,p.1<bs.length):∀i k,k∈suF bs i→k<bs.length:=by
 intro i k hk;unfold suF at hk
 cases hb:bs[i]? with
 | none=>rw[hb]at hk;cases hk
 | some b=>
  rw[hb]at hk;obtain⟨p,hp,rfl⟩:=Qcu.1 hk;exact h b (List.mem_of_getElem? hb) p hp
theorem Qbw{l:List Nat}{n:Nat}(h:l.Pairwise (· < ·))(hl:∀x∈l,x<n):l.length≤n:=by
 have e:l=QI n (QD l):=YH h fun x=>by
  rw[Ze];exact⟨fun hx=>⟨hl x hx,hx⟩,fun hx=>hx.2⟩
 rw[e];exact Z2 _ _
def bhs(bs:List Qm)(S:List Nat):List Nat:=ofL (S.flatMap (suF bs))
theorem Qct(bs S):(bhs bs S).Pairwise (· < ·):=Zi _
theorem YR{bs S x}:x∈bhs bs S↔∃i∈S,x∈suF bs i:=by rw[bhs,QN,List.mem_flatMap]
theorem Qf7{bs:List Qm}{S:List Nat}{k:Nat}(hk:k<S.length)(hb:S[k]<bs.length):ofL (bhs bs (S.take k)++bhd bs[S[k]].e)=bhs bs (S.take (k+1)):=
 Zo (Zi _) (Zi _) fun x=>by
  rw[QN,QB,YR,YR,Zb hk,←V5 hb];constructor
  ·rintro (⟨i,hi,hx⟩|hx)
   ·exact⟨i,QB.2 (.inl hi),hx⟩
   ·exact⟨S[k],QB.2 (.inr (QF.2 rfl)),hx⟩
  ·rintro⟨i,hi,hx⟩;rcases QB.1 hi with hi|hi
   ·exact .inl ⟨i,hi,hx⟩
   ·rw[QF.1 hi]at hx;exact .inr hx
theorem Na{bs:List Qm}{S:List Nat}(h:∀b∈bs,∀p∈goalsF b.e,p.1<bs.length):(bhs bs S).length≤bs.length:=
 Qbw (Qct _ _) fun x hx=>by
  obtain⟨i,_,hi⟩:=YR.1 hx;exact XB h i x hi
theorem Qcv(bs:List Qm)(S:List Nat)(base Bs:Nat)(v vs:Value)(w:World)(h:PBs w base bs v)(ho:w.ownsRow Bs 143 1 vs S.length (Qe S))(hS:Hid (∀x∈S,x<bs.length))(hgl:Hid (∀b∈bs,∀p∈goalsF b.e,p.1<bs.length))(hn:bs.length≤1000)(hl:S.length≤1000):
  Calls prog 166 #[v,.agg #[vs]] w fun x w'=>∃v',x=.returned (.agg #[v'])∧w'.ownsRow w.heap.size 143 1 v' (bhs bs S).length (Qe (bhs bs S))∧Below w.heap.size w w':=by
 obtain⟨pv,cv,rfl⟩:=h.slice;obtain⟨po,co,rfl⟩:=Qa ho;have HP:=Qc h;have HO:=Qc ho;clear h ho;go_enter func166,ntmps166;go_wp2_with fail;obtain⟨W3,hW3⟩:∃W3,W3=((w.alloc (.cells #[.slice po S.length co] 82)).alloc (.cells #[.slice none 0 0] 82)).alloc (.cells #[.slice none 0 0] 82):=⟨_,rfl⟩;rw[←hW3];obtain⟨_,g1,g2,hz,f3⟩:=Yf w (.cells #[.slice po S.length co] 82) (.cells #[.slice none 0 0] 82) (.cells #[.slice none 0 0] 82);rw[←hW3]at g1 g2 hz f3;clear hW3;refine(Qe6 S Bs _ W3 (Qd HO.o (Qh f3) trivial) (by omega)).mono ?_;rintro r w5 ⟨vi,rfl,OI,f5⟩;have hs5:=f5.size;have B0:Hid (w5.heap[w.heap.size+1]?=some (.cells #[.slice none 0 0] 82 (0,0))∧w5.heap[w.heap.size+1+1]?=some (.cells #[.slice none 0 0] 82 (0,0))∧w5.ownsRow (w.heap.size+3) 143 1 vi S.length (Qe S)∧Below w.heap.size w w5∧w.heap.size+3≤w5.heap.size):=
  ⟨by rw[f5.block _ (by omega)];exact g1,by rw[f5.block _ (by omega)];exact g2,Qj OI (by omega),f3.trans (f5.mono (by omega)),by omega⟩
 obtain⟨pi,ci,rfl⟩:=Qa OI;clear g1 g2 f3 f5 hs5 hz OI;go_wp2_with fail
 go_loopw [11] (fun i wr=>∃(k:Nat)(va:Value),k≤S.length∧i=.int .i64 k∧Hid (wr.heap[w.heap.size+1]?=some (.cells #[.slice none 0 0] 82 (0,0))∧wr.heap[w.heap.size+1+1]?=some (.cells #[va] 82 (0,0))∧wr.ownsRow (w.heap.size+3) 143 1 va (bhs bs (S.take k)).length (Qe (bhs bs (S.take k)))∧wr.ownsRow (w.heap.size+3) 143 1 (.slice pi S.length ci) S.length (Qe S)∧Below w.heap.size w wr∧w.heap.size+3≤wr.heap.size)) (fun i _=>S.length-(intOf i).toNat)
 case atStart=>exact⟨0,_,by omega,rfl,B0.o.1,B0.o.2.1,by simpa[bhs,ofL,ZL,Xk,Lib.compact,Lib.compactUpTo,Qe] using World.ownsRow_nil _ _ _ _,B0.o.2.2.1,B0.o.2.2.2.1,B0.o.2.2.2.2⟩
 case round=>
  clear B0;obtain⟨k,va,hk,rfl,HR⟩:=hrel;obtain⟨r1,r2,rv,ri,rf,rz⟩:=HR.o;by_cases hlt:k<S.length
  ·obtain⟨gi,rfl,_,hgs⟩:=Qk ri (by omega);have c0:=Qf ri (QY hlt);have hSk:=hS.out _ (Qx hlt);have hPB:=HP.o.keeps (Qr.below rf);obtain⟨g,qc,cc,ps,cs1,rfl,_,hgz,hop,OC,OS,d0,d1,d2,d3⟩:=hPB.at hSk;obtain⟨pa,ca,rfl⟩:=Qa rv;have k2:=Qb r2 0;have k2f:=Qg r2 0;simp at k2;have L1:(bhs bs (S.take k)).length≤1000000:=Qy (Na hgl.out) (by omega);have L2:(bhd bs[S[k]].e).length≤1000000:=by
    have:=ZH bs[S[k]].e;have:=WT ((goalsF bs[S[k]].e).map (·.1));rw[List.length_map]at this;rw[bhd];omega
   have HX:=Qc (Qf7 hlt hSk);have HOP:=Qc hop;obtain⟨ev,hev⟩:∃ev,ev=Zc bs[S[k]].e:=⟨_,rfl⟩;have HZ:=Qc (And.intro r1 (And.intro r2 (And.intro rv (And.intro ri (And.intro rf (And.intro rz hev))))));rw[←hev]at d3;obtain⟨T,x,hT⟩:=QQ bs[S[k]].e;rw[←hev]at hT;rw[hT]at d3;have hTx:=Qc hT;have hmb:w.heap.size+1+1<wr.heap.size:=by omega
   have hgw:g<w.heap.size:=by
    obtain⟨g',_,_,_,_,e,_,hg',_⟩:=HP.o.at hSk;cases e;exact hg'
   have hgne:¬(w.heap.size+1+1=g):=by omega
   clear HR r1 r2 rv ri rf hPB hop OC OS hev hT;go_wp2_with fail;have HB:Hid (Calls prog 127 #[.agg #[.int .i64 bs[S[k]].at_,.slice qc bs[S[k]].chs.length cc,.slice ps bs[S[k]].sts.length cs1,.iface T x]] wr.drew fun x w'=>∃v',x=.returned (.agg #[v'])∧w'.ownsRow wr.drew.heap.size 143 1 v' (bhd bs[S[k]].e).length (Qe (bhd bs[S[k]].e))∧Below wr.drew.heap.size wr.drew w'):=by
    rw[←hTx.out,HZ.o.2.2.2.2.2.2];exact Qk0 bs[S[k]].e HOP.o bs[S[k]].at_ qc bs[S[k]].chs.length cc ps bs[S[k]].sts.length cs1 wr.drew
   go_region_law (first | (refine Z1 rfl 127 #[.agg #[.int .i64 bs[S[k]].at_,.slice qc bs[S[k]].chs.length cc,.slice ps bs[S[k]].sts.length cs1,.iface T x]] (by go_simp) HB.o ?_;rintro e w6 ⟨v6,rfl,o6,f6⟩;obtain⟨p6,c6,rfl⟩:=Qa o6;have f6':Below wr.heap.size wr w6:=⟨f6.os,f6.tape,f6.output,f6.size,f6.block⟩;have y4:=f6'.cell (p:=⟨w.heap.size+1+1,0,none⟩) hmb;have y5:=f6'.frozen (p:=⟨w.heap.size+1+1,0,none⟩) hmb;have l6:w.heap.size+1+1<w6.heap.size:=Nat.lt_of_lt_of_le hmb f6'.size;have O6:=Qc (And.intro o6 f6');clear o6 f6 f6') | (refine Z1 rfl 165 #[.agg #[.slice pa (bhs bs (S.take k)).length ca],.agg #[.slice p6 (bhd bs[S[k]].e).length c6]] (by go_simp) (G9 (bhs bs (S.take k)) (bhd bs[S[k]].e) (w.heap.size+3) wr.heap.size _ _ w6 (Qd HZ.o.2.2.1 (Qh O6.o.2) trivial) O6.o.1 L1 L2) ?_;rintro e w7 ⟨v7,rfl,o7,f7⟩;obtain⟨p7,c7,rfl⟩:=Qa o7;have z4:=f7.cell (p:=⟨w.heap.size+1+1,0,none⟩) l6;have z5:=f7.frozen (p:=⟨w.heap.size+1+1,0,none⟩) l6;have O7:=Qc (And.intro o7 f7);clear o7 f7) | fail)
   all_goals
    obtain⟨r1,r2,rv,ri,rf,rz,_⟩:=HZ.o;have hz6:=O6.o.2.size;have hz7:=O7.o.2.size;have f37:=O6.o.2.trans (O7.o.2.mono hz6);have H7:Hid ((w7.setCell ⟨w.heap.size+1+1,0,none⟩ (.slice p7 (ofL (bhs bs (S.take k)++bhd bs[S[k]].e)).length c7)).heap[w.heap.size+1]?=some (.cells #[.slice none 0 0] 82 (0,0))∧(w7.setCell ⟨w.heap.size+1+1,0,none⟩ (.slice p7 (ofL (bhs bs (S.take k)++bhd bs[S[k]].e)).length c7)).heap[w.heap.size+1+1]?=some (.cells #[.slice p7 (ofL (bhs bs (S.take k)++bhd bs[S[k]].e)).length c7] 82 (0,0))∧(w7.setCell ⟨w.heap.size+1+1,0,none⟩ (.slice p7 (ofL (bhs bs (S.take k)++bhd bs[S[k]].e)).length c7)).ownsRow (w.heap.size+3) 143 1 (.slice p7 (ofL (bhs bs (S.take k)++bhd bs[S[k]].e)).length c7) (bhs bs (S.take (k+1))).length (Qe (bhs bs (S.take (k+1))))∧(w7.setCell ⟨w.heap.size+1+1,0,none⟩ (.slice p7 (ofL (bhs bs (S.take k)++bhd bs[S[k]].e)).length c7)).ownsRow (w.heap.size+3) 143 1 (.slice (some ⟨gi,0,none⟩) S.length ci) S.length (Qe S)∧Below w.heap.size w (w7.setCell ⟨w.heap.size+1+1,0,none⟩ (.slice p7 (ofL (bhs bs (S.take k)++bhd bs[S[k]].e)).length c7))∧w.heap.size+3≤(w7.setCell ⟨w.heap.size+1+1,0,none⟩ (.slice p7 (ofL (bhs bs (S.take k)++bhd bs[S[k]].e)).length c7)).heap.size):=by
     have e1:w7.heap[w.heap.size+1]?=some (.cells #[.slice none 0 0] 82 (0,0)):=by rw[f37.block _ (by omega)];exact r1
     have e2:w7.heap[w.heap.size+1+1]?=some (.cells #[.slice pa (bhs bs (S.take k)).length ca] 82 (0,0)):=by rw[f37.block _ (by omega)];exact r2
     refine⟨Ql e1 (by omega) _ _,Qq e2 _ _,?_,?_,?_,by rw[Zs];omega⟩
     ·rw[←HX.o];exact Qj (QE O7.o.1 _ 0 _ (by omega)) (by omega)
     ·exact QE (Qd ri (Qh f37) trivial) _ 0 _ (by omega)
     ·exact Qp (rf.trans (f37.mono (by omega))) _ _ _ (by omega)
    clear r1 r2 rv ri rf rz hz6 hz7 f37 O6 O7 HZ HB;go_wp2_with fail;go_roundw
    case rel=>exact⟨k+1,_,by omega,by go_num,H7⟩
    case measure=>simp[intOf];omega
  ·have hke:k=S.length:=by omega
   subst hke;obtain⟨pv2,cv2,rfl⟩:=Qa rv;rw[List.take_length]at rv;have k1:=Qb r1 0;have k1f:=Qg r1 0;have k2:=Qb r2 0;simp at k1 k2;have F6:Hid ((wr.setCell ⟨w.heap.size+1,0,none⟩ (.slice pv2 (bhs bs S).length cv2)).ownsRow w.heap.size 143 1 (.slice pv2 (bhs bs S).length cv2) (bhs bs S).length (Qe (bhs bs S))∧Below w.heap.size w (wr.setCell ⟨w.heap.size+1,0,none⟩ (.slice pv2 (bhs bs S).length cv2))):=
    ⟨Qj (QE rv _ 0 _ (by omega)) (by omega),Qp rf _ _ _ (by omega)⟩
   clear HR r1 r2 rv ri rf;go_wp2_with fail;refine bodyPost_ret (v:=.agg #[.slice pv2 (bhs bs S).length cv2]) (by simp[results,results166,go_sem,k1]) rfl ⟨_,rfl,?_,?_⟩
   ·exact F6.o.1
   ·exact F6.o.2
end Go.Proofs.YtgfhfkgdmidhpaaGreatDoor
