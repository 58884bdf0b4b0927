import Derived.Test.YtgfhfkgdmidhpaaGreatDoorM24
namespace Go.Proofs.YtgfhfkgdmidhpaaGreatDoor
open Go.RowKit
open Go.Proofs.Tryz
set_option maxRecDepth 100000
set_option maxHeartbeats 8000000
theorem Qhs{l m:List Nat}(h:∀x,x∈l↔x∈m):ofL l=ofL m:=Zo (Zi _) (Zi _) fun x=>by rw[QN,QN,h]
theorem Qdo{t:Qz}{ts:List Qz}{r:Nat}:r∈J3 (t::ts)↔(t.op≠33∧r=t.to.1)∨r∈J3 ts:=by
 rw[J3,J3,List.filter_cons];by_cases h:t.op=33<;>simp[h]
theorem Uy{us:List Qz}{e:Z6}{r:Nat}:∀{ts:List Qz},r∈JW (ts++us) e↔r∈JW ts KG∨(r∈JW us e∧r∉J3 ts)
 | []=>by simp[JW,Jb,KG,J3]
 | t::ts=>by
  have ih:=Uy (us:=us) (e:=e) (r:=r) (ts:=ts);rw[List.cons_append,JW,JW,QB,QB,Qdo];by_cases h:t.op=33
  ·rw[if_pos h,if_pos h,ih];constructor
   ·rintro (h1|h1|⟨h1,h2⟩)
    ·exact .inl (.inl h1)
    ·exact .inl (.inr h1)
    ·exact .inr ⟨h1,fun h3=>by rcases h3 with h3|h3;exact h3.1 h;exact h2 h3⟩
   ·rintro ((h1|h1)|⟨h1,h2⟩)
    ·exact .inl h1
    ·exact .inr (.inl h1)
    ·exact .inr (.inr ⟨h1,fun h3=>h2 (.inr h3)⟩)
  ·rw[if_neg h,if_neg h,G8,G8,ih];constructor
   ·rintro (h1|⟨h1|⟨h1,h2⟩,h3⟩)
    ·exact .inl (.inl h1)
    ·exact .inl (.inr ⟨h1,h3⟩)
    ·exact .inr ⟨h1,fun h4=>by rcases h4 with h4|h4;exact h3 h4.2;exact h2 h4⟩
   ·rintro ((h1|⟨h1,h2⟩)|⟨h1,h2⟩)
    ·exact .inl h1
    ·exact .inr ⟨.inl h1,h2⟩
    ·exact .inr ⟨.inr ⟨h1,fun h3=>h2 (.inr h3)⟩,fun h3=>h2 (.inl ⟨h,h3⟩)⟩
theorem QcT(ts):Yq ts 0=[]:=by rw[Yq,List.take_zero,JW];simp[Jb,KG,UE]
theorem Qdm(ts):Ju ts 0=[]:=by rw[Ju,List.take_zero];simp[J3,UE]
theorem QcU{ts:List Qz}{k:Nat}(hk:k<ts.length):ofL (Yq ts k++dif ((rdsF ts[k]).map (·.1)) (Ju ts k))=Yq ts (k+1):=by
 refine Zo (Zi _) (Zi _) fun r=>?_;rw[QN,QB,XX,Yq,Ju,QN,QN,Yq,QN,Zb hk,Uy];have:∀t:Qz,r∈JW [t] KG↔r∈(rdsF t).map (·.1):=fun t=>by
  by_cases h:t.op=33<;>simp[JW,Jb,KG,h,wo]
 rw[this]
theorem Qfn{ts:List Qz}{k:Nat}(hk:k<ts.length)(h:ts[k].op=33):Ju ts k=Ju ts (k+1):=by
 rw[Ju,Ju,Zb hk,J3,J3,List.filter_append];simp[h]
theorem Qdn{ts:List Qz}{k:Nat}(hk:k<ts.length)(h:¬ts[k].op=33):ofL (Ju ts k++[ts[k].to.1])=Ju ts (k+1):=by
 refine Zo (Zi _) (Zi _) fun r=>?_;rw[QN,QB,Ju,Ju,QN,QN,Zb hk,J3,J3,List.filter_append];simp[h]
theorem Qeg(b:Qm):ofL (Yq b.sts b.sts.length++dif (Jb b.e) (Ju b.sts b.sts.length))=rdB b:=by
 refine Zo (Zi _) (Zi _) fun r=>?_;rw[QN,QB,XX,Yq,Ju,rdB,QN,QN,QN,List.take_length];have:=Uy (ts:=b.sts) (us:=[]) (e:=b.e) (r:=r);rw[List.append_nil,JW]at this;rw[this]
theorem Qab(b:Qm):Ju b.sts b.sts.length=gvB b:=by rw[Ju,List.take_length,gvB]
theorem Ad.apart{pb base e size n:Nat}{v v' u:Value}{xs:List Value}{w w':World}(A:Ad pb v v' w w')(h:w.ownsRow base e size u n xs)(h2:Q4 u v):Q4 u v':=by
 intro k hk hu;rcases A.new with h3|⟨g,h3,hg⟩
 ·rw[h3]at hk;exact h2 k hk hu
 ·rw[h3]at hk;cases hk;have:=(h.lt _ hu).2;omega
end Go.Proofs.YtgfhfkgdmidhpaaGreatDoor
namespace Go.Proofs.YtgfhfkgdmidhpaaGreatDoor
open Go.RowKit
open Go.Sort
open Go.Proofs.Tryz
set_option maxRecDepth 100000
set_option maxHeartbeats 8000000
theorem QkJ(n:Nat)(w:World)(hn:n≤3000000):
  Calls prog 209 #[.slice none 0 0,.int .i64 n] w fun e w'=>∃v',e=.returned v'∧w'.ownsRow w.heap.size 78 1 v' 0 []∧Below w.heap.size w w':=by
 by_cases h0:n=0
 ·subst h0;go_enter func209,ntmps209;go_wp2_with fail;go_ret;exact⟨_,rfl,Q3 _ _ _ _,Below.refl _ _⟩
 ·obtain⟨i0,hi0,hz0,hzs,hzb⟩:=info_parts Kq;obtain⟨G,hG⟩:∃G,G=grownCap w n 0 78:=⟨_,rfl⟩;have hGn:n≤G:=by rw[hG];exact grownCap_ge w _ _ _
  have hGm:G≤maxLen:=by rw[hG];exact grownCap_le_maxLen w n 0 78 (by unfold maxLen;omega)
  obtain⟨ROW,hROW⟩:∃ROW:Array Value,ROW=#[]++Builtin.zeroCells (Value.int .i64 0).cells n++Builtin.zeroCells (Value.int .i64 0).cells (G-n):=⟨_,rfl⟩;have hRs:ROW.size=G:=by
   rw[hROW];simp[Builtin.zeroCells,Value.cells];omega
  have hold:(Builtin.firstCells i0.size 0 (.slice none 0 0)).run prog w.drew=.ok #[] w.drew:=by rw[hzs];kernel_rfl
  have hrz:∀ty,(Builtin.append_ #[159,3] ty #[.slice none 0 0,.int .i64 n]).run prog w=.ok (.slice (some ⟨w.heap.size,0,none⟩) n G) (w.drew.alloc (.cells ROW 78)):=fun ty=>by
   have h:=Lib.run_append_grow_zeros w 159 3 ty 78 i0 _ .i64 .i64 underlying159 underlying3 hi0 hz0 none 0 0 [] hold n (by omega) (by omega) (by omega) (by omega) (by rw[hzb];omega) (by rw[hzb,Nat.zero_add];exact growslice_fits (by omega) (by omega));rw[Nat.zero_add,←hG,←hROW]at h;exact h
  have HG:=Qc (And.intro hG hROW);have HO:=Qc (And.intro hold hi0);clear hG hROW hold hi0 hz0 hzs hzb;go_enter func209,ntmps209;go_wp2_with (at_builtin;refine Lib.wpList_append_run _ rfl _ _ _ _ rfl _ _ rfl rfl _ _ (hrz _) ?_);go_ret;refine⟨_,rfl,?_,?_⟩
  ·exact⟨rfl,.inr ⟨w.heap.size,G,ROW,rfl,Qi _,heap_alloc_last w.drew _,Nat.zero_le _,hGm,by rw[hRs];omega,rfl⟩⟩
  ·have f:=(Below.refl w.heap.size w).alloc (Qi _) (.cells ROW 78);exact⟨f.os,f.tape,f.output,f.size,f.block⟩
theorem Qh8(a b:List Nat)(B1 B2:Nat)(va vb:Value)(w:World)(ha:w.ownsRow B1 78 1 va a.length (Qe a))(hb:w.ownsRow B2 78 1 vb b.length (Qe b))(hla:a.length≤1000000)(hlb:b.length≤1000000)
  (g:Nat)(c:Nat)(hg:w.heap[g]?=some (.cells #[va,vb] 159 (0,0))):
  Calls prog 176 #[.slice (some ⟨g,0,none⟩) 2 c] w fun e w'=>∃v',e=.returned v'∧w'.ownsRow w.heap.size 78 1 v' (a++b).length (Qe (a++b))∧Below w.heap.size w w':=by
 obtain⟨pa,ca,rfl⟩:=Qa ha;obtain⟨pb,cb,rfl⟩:=Qa hb;have c0:=Qb hg 0;have c1:=Qb hg 1;simp at c0 c1;have hgl:g<w.heap.size:=lt_of_block hg;have HA:=Qc ha;have HB:=Qc hb;clear ha hb hg;go_enter func176,ntmps176;go_wp2_with fail
 go_loop [3,11] (fun s i=>(i=.int .i64 0∧s=.int .i64 0)∨(i=.int .i64 1∧s=.int .i64 a.length)∨(i=.int .i64 2∧s=.int .i64 ((a.length+b.length:Nat):Int))) (fun _ i=>2-(intOf i).toNat)
 case atStart=>exact .inl ⟨rfl,rfl⟩
 case round=>
  rcases hrel with ⟨rfl,rfl⟩|⟨rfl,rfl⟩|⟨rfl,rfl⟩
  ·have hd:decide ((a.length:Int)<0)=false:=by simp
   go_wp2_with fail
   go_round
   case rel=>exact .inr (.inl ⟨rfl,by simp⟩)
   case measure=>simp[intOf]
  ·have hd:decide ((a.length:Int)+(b.length:Int)<0)=false:=by simp;omega
   go_wp2_with fail
   go_round
   case rel=>exact .inr (.inr ⟨rfl,by go_num⟩)
   case measure=>simp[intOf]
  ·go_wp2_with fail;refine(QkJ (a.length+b.length) _ (by omega)).mono ?_;rintro e w1 ⟨v1,rfl,o1,f1⟩;have F1:=Qc f1;have hz:=f1.size;obtain⟨p1,q1,rfl⟩:=Qa o1;clear f1;go_wp2_with fail
   go_loopw [6,27] (fun l i wr=>Hid (Below w.heap.size w wr)∧w.heap.size≤wr.heap.size∧((i=.int .i64 0∧wr.ownsRow w.heap.size 78 1 l 0 [])∨(i=.int .i64 1∧wr.ownsRow w.heap.size 78 1 l a.length (Qe a))∨(i=.int .i64 2∧wr.ownsRow w.heap.size 78 1 l (a.length+b.length) (Qe a++Qe b)))) (fun _ i _=>2-(intOf i).toNat)
   case atStart=>exact⟨F1,hz,.inl ⟨rfl,o1⟩⟩
   case round=>
    clear o1 F1 hz;obtain⟨F,hz,hrel⟩:=hrel;have d0:wr.cell? ⟨g,0,none⟩=_:=(F.o.cell (p:=⟨g,0,none⟩) hgl).trans c0;have d1:wr.cell? ⟨g,1,none⟩=_:=(F.o.cell (p:=⟨g,1,none⟩) hgl).trans c1;rcases hrel with ⟨rfl,o⟩|⟨rfl,o⟩|⟨rfl,o⟩
    ·obtain⟨p2,q2,rfl⟩:=Qa o;go_wp2_with (at_builtin;refine QA ?_);refine Qc ?_;refine Nc underlying159 Kq rfl rfl _ _ rfl rfl o rfl (Qd HA.o (Qh F.o) trivial) (YN a) (by unfold maxLen;omega) (by omega) hz ?_;intro v3 w3 o3 g3;rw[Nat.zero_add,List.nil_append]at o3;replace F:=Qc (Below.grown F.o g3 hz (fun j hj=>(o.lt j hj).1));have hz3:w.heap.size≤w3.heap.size:=Qy hz g3.size;clear g3 o;obtain⟨p5,c5,rfl⟩:=Qa o3;go_wp2_with fail;go_roundw
     case rel=>exact⟨F,hz3,.inr (.inl ⟨rfl,o3⟩)⟩
     case measure=>simp[intOf]
    ·obtain⟨p2,q2,rfl⟩:=Qa o;go_wp2_with (at_builtin;refine QA ?_);refine Qc ?_;refine Nc underlying159 Kq rfl rfl _ _ rfl rfl o rfl (Qd HB.o (Qh F.o) trivial) (YN b) (by unfold maxLen;omega) (by omega) hz ?_;intro v3 w3 o3 g3;replace F:=Qc (Below.grown F.o g3 hz (fun j hj=>(o.lt j hj).1));have hz3:w.heap.size≤w3.heap.size:=Qy hz g3.size;clear g3 o;obtain⟨p5,c5,rfl⟩:=Qa o3;go_wp2_with fail;go_roundw
     case rel=>exact⟨F,hz3,.inr (.inr ⟨rfl,o3⟩)⟩
     case measure=>simp[intOf]
    ·obtain⟨p2,q2,rfl⟩:=Qa o;have O:=Qc o;clear o;go_wp2_with fail;go_ret;exact⟨_,rfl,by rw[KI,Qw];exact O.o,F.o⟩
theorem QkU(l:List Nat)(base:Nat)(v:Value)(w:World)(h:w.ownsRow base 78 1 v l.length (Qe l))(hl:l.length≤3000000):
  Calls prog 132 #[v] w fun e w'=>∃v',e=.returned v'∧w'.ownsRow w.heap.size 78 1 v' l.length (Qe l)∧Below w.heap.size w w':=by
 have HO:=Qc h;rcases h.2 with ⟨rfl,h0⟩|⟨g,c,cur,rfl,hbg,hg,hnc,hcm,hcs,ht⟩
 ·have he:∀w,(binOp BinOp.eql 159 (.slice none 0 0) (.slice none 0 0)).run prog w=.ok (.bool true) w:=fun w=>by kernel_rfl
  go_enter func132,ntmps132;go_wp2_with (at_builtin;refine QA ?_);go_ret;exact⟨_,rfl,⟨HO.o.1,HO.o.2.imp id (fun⟨_,_,_,e,_⟩=>by cases e)⟩,Below.refl _ _⟩
 ·clear h;have HG:=Qc hg;clear hg ht;have he:∀w,(binOp BinOp.eql 159 (.slice (some ⟨g,0,none⟩) l.length c) (.slice none 0 0)).run prog w=.ok (.bool false) w:=fun w=>by kernel_rfl
  go_enter func132,ntmps132;go_wp2_with (at_builtin;refine QA ?_);refine Qc ?_;obtain⟨I,Hi,Hz,Hs,Hb⟩:=info_parts Kq;refine wpList_append_own _ rfl _ _ 159 rfl w.heap.size 78 I (.int .i64 0) 1 8 underlying159 Hi Hz Hs Hb rfl (by decide) (.slice (some ⟨w.heap.size,0,none⟩) 0 0) 0 [] rfl (World.ownsRow_made w #[] 0 (Nat.le_refl _) (by decide) rfl) ⟨g,0,none⟩ l.length c (Qe l) rfl (by simp[Qe]) (fun j u hj=>?_) (fun u hu=>?_) (by unfold maxLen;omega) (by omega) (by simp) ?_
  ·exact(HO.o.alloc (.cells #[] 78)).cells rfl j u hj
  ·obtain⟨n,_,rfl⟩:=Qv.1 hu;rfl
  ·intro v1 w1 o1 g1 _;rw[Nat.zero_add,List.nil_append]at o1;have O1:=Qc (And.intro o1 g1);clear o1 g1;go_wp2_with fail;go_ret;exact⟨v1,rfl,O1.o.1,Below.grown ((Below.refl _ _).alloc (Nat.le_refl _) _) O1.o.2 (by simp) (fun k hk=>by cases hk;exact Nat.le_refl _)⟩
theorem sortR(l:List Nat)(base B:Nat)(v:Value)(w0 w:World)(h:w.ownsRow base 78 1 v l.length (Qe l))(F:Below B w0 w)(hB:B≤base)(hl:l.length≤3000000):
  Calls prog 185 #[v] w fun e w'=>e=.returned (.tuple #[])∧Hid (w'.ownsRow base 78 1 v l.length ((ZL l).map (Value.int .i64))∧Below B w0 w'):=by
 rcases h.2 with ⟨rfl,h0⟩|⟨g,c,cur,rfl,hbg,hg,hnc,hcm,hcs,ht⟩
 ·have hl0:l=[]:=List.eq_nil_of_length_eq_zero h0;subst hl0;refine(AnyM.slices_Sort_int_none Tryz.sortR none 0 w).mono ?_;rintro e w' ⟨rfl,rfl⟩;exact⟨rfl,by simpa[ZL,Xk,Qe] using h,F⟩
 ·rw[Nat.mul_one]at ht;rw[K3]at ht;have hH:Holds (Value.int .i64) w g 0 (Xk l).toArray:=holds_of_blockI hg (by rw[Z0];exact ht);have hs:=AnyM.slices_Sort_int Tryz.sortR g 0 c (Xk l) w hH (lt_of_block hg) (by rw[Z0];omega);rw[Z0]at hs;refine Calls.mono hs ?_;rintro e w' ⟨rfl,n,os,rfl⟩;refine⟨rfl,?_,?_⟩
  ·exact ownsRow_sortedI (ss:=Xk l) (ts:=ZL l) (by rw[Xd,Z0]) hbg hg (by rw[Z0];exact hnc) hcm hcs |> fun q=>by rw[Z0]at q;exact q
  ·have gb:=grownBy_sortedI (w:=w) (g:=g) (n:=n) (os:=os) (ZL l).toArray;exact Below.grown F gb (by have:=lt_of_block hg;omega) (fun k hk=>by cases hk;omega)
theorem compactR(l:List Nat)(base B:Nat)(v:Value)(w0 w:World)(h:w.ownsRow base 78 1 v l.length ((ZL l).map (Value.int .i64)))(F:Below B w0 w)(hB:B≤base)(hl:l.length≤3000000):
  Calls prog 208 #[v] w fun e w'=>∃v',e=.returned v'∧Hid (w'.ownsRow base 78 1 v' (ofL l).length (Qe (ofL l))∧Below B w0 w'):=by
 have hcl:(ofL l).length=(Lib.compact (ZL l)).length:=by simp[ofL]
 rcases h.2 with ⟨rfl,h0⟩|⟨g,c,cur,rfl,hbg,hg,hnc,hcm,hcs,ht⟩
 ·have hl0:l=[]:=List.eq_nil_of_length_eq_zero h0;subst hl0;refine(AnyG.slices_Compact_int_empty Tryz.compactR none 0 w).mono ?_;rintro e w' ⟨rfl,rfl⟩;exact⟨_,rfl,by simp[ofL,ZL,Xk,Lib.compact,Lib.compactUpTo,Qe];exact World.ownsRow_nil _ _ _ _,F⟩
 ·rw[Nat.mul_one]at ht;have hle:(Lib.compact (ZL l)).length≤(ZL l).length:=RU _;have hH:Holds (Value.int .i64) w g 0 (ZL l).toArray:=holds_of_blockI hg (by rw[Xd];exact ht);have hs:=AnyG.slices_Compact_int Tryz.compactR g 0 c (ZL l) w hH (by rw[Xd];omega) (by rw[Xd];exact hnc);rw[Xd]at hs;refine Calls.mono hs ?_;rintro e w' ⟨rfl,q,rfl⟩;refine⟨_,rfl,?_,GW F (by omega) (lt_of_block hg) _⟩;rw[Xd]at hle;have:=QbA (w:=w) (n:=q) (m:=(Lib.compact (ZL l)).length) (ts:=Lib.compact (ZL l)++List.replicate (l.length-(Lib.compact (ZL l)).length) 0) hbg hg (by simp) (by simp;omega) hcm hcs;rw[List.take_left' rfl,←VH l,←K3,VH]at this;rw[hcl];exact this
theorem ofR(l:List Nat)(base:Nat)(v:Value)(w:World)(h:w.ownsRow base 78 1 v l.length (Qe l))(hl:l.length≤3000000):
  Calls prog 175 #[v] w fun e w'=>∃v',e=.returned (.agg #[v'])∧w'.ownsRow w.heap.size 78 1 v' (ofL l).length (Qe (ofL l))∧Below w.heap.size w w':=by
 obtain⟨p,c,rfl⟩:=Qa h;go_enter func175,ntmps175;go_wp2_with fail;refine(QkU l base _ _ (h.alloc _) hl).mono ?_;rintro e w1 ⟨v1,rfl,o1,f1⟩;have O1:=Qc (And.intro o1 f1);obtain⟨p1,c1,rfl⟩:=Qa o1;clear f1 o1 h;go_wp2_with fail;refine(sortR l _ _ _ _ w1 O1.o.1 O1.o.2 (Qi _) hl).mono ?_;rintro e w2 ⟨rfl,H2⟩;go_wp2_with fail;refine(compactR l _ _ _ _ w2 H2.o.1 H2.o.2 (Qi _) hl).mono ?_;rintro e w3 ⟨v3,rfl,H3⟩;have hb3:w3.heap[w.heap.size]?=some (.cells #[.slice none 0 0] 161 (0,0)):=by rw[H3.o.2.block _ (by simp)];exact heap_alloc_last _ _
 have k0:=Qb hb3 0;have kf:=Qg hb3;simp at k0;obtain⟨p3,c3,rfl⟩:=Qa H3.o.1;clear hb3 O1 H2;go_wp2_with fail;refine bodyPost_ret (v:=.agg #[.slice p3 (ofL l).length c3]) (by simp[results,results175,go_sem,k0]) rfl ⟨_,rfl,?_,?_⟩
 ·exact Qj (QE H3.o.1 w.heap.size 0 _ (by simp)) (by simp)
 ·exact Qp (((Below.refl _ _).alloc (Nat.le_refl _) _).trans (H3.o.2.mono (by simp))) _ _ _ (Nat.le_refl _)
theorem Qe5(l:List Nat)(base:Nat)(v:Value)(w:World)(h:w.ownsRow base 78 1 v l.length (Qe l))(hl:l.length≤3000000):
  Calls prog 76 #[.agg #[v]] w fun e w'=>∃v',e=.returned v'∧w'.ownsRow w.heap.size 78 1 v' l.length (Qe l)∧Below w.heap.size w w':=by
 obtain⟨p,c,rfl⟩:=Qa h;go_enter func76,ntmps76;go_wp2_with fail;refine(QkU l base _ _ (h.alloc _) hl).mono ?_;rintro e w1 ⟨v1,rfl,o1,f1⟩;have O1:Hid (w1.ownsRow w.heap.size 78 1 v1 l.length (Qe l)∧Below w.heap.size w w1):=⟨Qj o1 (by simp),((Below.refl _ _).alloc (Nat.le_refl _) _).trans (f1.mono (by simp))⟩;clear o1 f1;go_wp2_with fail;go_ret;exact⟨v1,rfl,O1.o.1,O1.o.2⟩
theorem Qln(l lo:List Nat)(base B2:Nat)(v vo:Value)(w:World)(h:w.ownsRow base 78 1 v l.length (Qe l))(ho:w.ownsRow B2 78 1 vo lo.length (Qe lo))(hsrt:Hid (lo.Pairwise (· < ·)))(hl:l.length≤1000000)(hlo:lo.length≤1000000):
  Calls prog 210 #[v,.func (.func 108) #[.agg #[vo]] #[]] w fun e w'=>e=.returned (.int .i64 (Jm lo l))∧Below w.heap.size w w':=by
 obtain⟨p,c,rfl⟩:=Qa h;obtain⟨po,co,rfl⟩:=Qa ho;go_enter func210,ntmps210;go_wp2_with fail
 go_loopw [8] (fun i wr=>∃k:Nat,k≤l.length∧i=.int .i64 k∧Hid (∀j,j<k→(hj:j<l.length)→QD lo l[j]=false)∧Hid (Below w.heap.size w wr)) (fun i _=>l.length-(intOf i).toNat)
 case atStart=>exact⟨0,by omega,rfl,fun j hj=>by omega,Below.refl _ _⟩
 case round=>
  obtain⟨k,hk,rfl,HN,F⟩:=hrel;have hz:=F.o.size;by_cases hlt:k<l.length
  ·obtain⟨g,rfl,_,hgl⟩:=Qk h (by omega);have c0:wr.cell? ⟨g,k,none⟩=_:=(F.o.cell (p:=⟨g,k,none⟩) hgl).trans (Qf h (QY hlt));have ho2:=Qc (Qd ho (Qh F.o) trivial);go_wp2_with fail;refine(Qff lo l[k] B2 _ wr ho2.out hsrt hlo).mono ?_;rintro e w2 ⟨rfl,f2⟩;have F2:=Qc (F.o.trans (f2.mono hz));clear f2 c0
   cases hh:QD lo l[k] with
   | true=>
    have HF:=Qc (GS hlt HN.o hh);clear hh;go_wp2_with fail;go_ret;exact⟨by rw[HF.o];rfl,F2.o⟩
   | false=>
    have HN2:Hid (∀j,j<k+1→(hj:j<l.length)→QD lo l[j]=false):=fun j hj hjl=>by
     by_cases e:j=k
     ·subst e;exact hh
     ·exact HN.o j (by omega) hjl
    clear hh;go_wp2_with fail;go_roundw
    case rel=>exact⟨k+1,by omega,by go_num,HN2,F2⟩
    case measure=>simp[intOf];omega
  ·have HF:=Qc (U3 (lo:=lo) (l:=l) fun j hj=>HN.o j (by omega) hj);go_wp2_with fail;go_ret;exact⟨by rw[HF.o];rfl,F.o⟩
theorem Qlz(l lo:List Nat)(base B2:Nat)(v vo:Value)(w0 w:World)(h:w.ownsRow base 78 1 v l.length (Qe l))(ho:w0.ownsRow B2 78 1 vo lo.length (Qe lo))(F:Below w0.heap.size w0 w)(hB:w0.heap.size≤base)(hsrt:Hid (lo.Pairwise (· < ·)))(hl:l.length≤1000000)(hlo:lo.length≤1000000):
  Calls prog 177 #[v,.func (.func 108) #[.agg #[vo]] #[]] w fun e w'=>∃v',e=.returned v'∧Hid (w'.ownsRow base 78 1 v' (dif l lo).length (Qe (dif l lo))∧Below w0.heap.size w0 w'):=by
 obtain⟨p,c,rfl⟩:=Qa h;obtain⟨po,co,rfl⟩:=Qa ho;have HO:=Qc ho;have HF:=Qc F;go_enter func177,ntmps177;go_wp2_with fail;refine(Qln l lo base B2 _ _ w h (Qd ho (Qh F) trivial) hsrt hl hlo).mono ?_;rintro e w1 ⟨rfl,f1⟩;have o1:=Qd h (Qh f1) trivial;have F1:=Qc (F.trans (f1.mono F.size));clear f1 h F HF ho;rcases WF lo l with ⟨hf,hall⟩ | ⟨k,hk,hf,hin,hnot⟩
 ·rw[hf];have HD:=Qc (And.intro (RQ hall) o1);clear hf hall o1;go_wp2_with fail;go_ret;exact⟨_,rfl,by rw[HD.o.1];exact HD.o.2,F1.o⟩
 ·rw[hf];obtain⟨g,rfl,hgb,_⟩:=Qk o1 (by omega);have HK:Hid (dif (l.take (k+1)) lo=l.take k):=by show _=_;rw[Xs hk hin,Vb (by omega) hnot]
  have hd:((k:Int)==-1)=false:=by simp
  have S0:Hid (l.take k++([l[k]]++l.drop (k+1))=l):=by show _=_;simp
  have hkl:k<1000000:=by omega
  clear hf hin hnot;go_wp2_with fail
  go_loopw [5,6] (fun i j wr=>∃q t:Nat,k<t∧t≤l.length∧q<t∧i=.int .i64 q∧j=.int .i64 t∧(∃mid:List Nat,Hid (q=(dif (l.take t) lo).length∧mid.length=t-q∧wr.ownsRow base 78 1 (.slice (some ⟨g,0,none⟩) l.length c) l.length (Qe (dif (l.take t) lo++(mid++l.drop t)))))∧Hid (Below w0.heap.size w0 wr)) (fun _ j _=>l.length-(intOf j).toNat)
  case atStart=>exact⟨k,k+1,by omega,by omega,by omega,rfl,by go_num,⟨[l[k]],by rw[HK.o,List.length_take];omega,by simp,by rw[HK.o,S0.o];exact o1⟩,F1⟩
  case round=>
   clear o1 F1;obtain⟨q,t,hkt,ht,hqt,rfl,rfl,⟨mid,HM⟩,F⟩:=hrel;have hz:=F.o.size;by_cases hlt:t<l.length
   ·have hdt:l.drop t=l[t]::l.drop (t+1):=List.drop_eq_getElem_cons hlt;have c0:wr.cell? ⟨g,t,none⟩=some (.int .i64 l[t]):=by
     have hx:(Qe (dif (l.take t) lo++(mid++l.drop t)))[t]?=some (.int .i64 l[t]):=by
      have e1:(dif (l.take t) lo++(mid++l.drop t))[t]?=some l[t]:=by
       rw[hdt,←List.append_assoc,List.getElem?_append_right (by rw[Qw];have:=HM.o.1;have:=HM.o.2.1;omega)];rw[Qw,show t-((dif (l.take t) lo).length+mid.length)=0 by have:=HM.o.1;have:=HM.o.2.1;omega];rfl
      rw[Qe,List.getElem?_map,e1];rfl
     exact Qf HM.o.2.2 hx
    have ho2:=Qc (Qd HO.o (Qh F.o) trivial);go_wp2_with fail;refine(Qff lo l[t] B2 _ wr ho2.out hsrt hlo).mono ?_;rintro e w2 ⟨rfl,f2⟩;have F2:=Qc (F.o.trans (f2.mono hz));have o2:=Qd HM.o.2.2 (Qh f2) trivial;clear f2 c0 ho2
    cases hh:QD lo l[t] with
    | true=>
     have HM2:Hid (q=(dif (l.take (t+1)) lo).length∧(mid++[l[t]]).length=t+1-q∧w2.ownsRow base 78 1 (.slice (some ⟨g,0,none⟩) l.length c) l.length (Qe (dif (l.take (t+1)) lo++((mid++[l[t]])++l.drop (t+1))))):=by
      refine⟨by rw[Xs hlt hh];exact HM.o.1,by simp;have:=HM.o.2.1;omega,?_⟩;rw[Xs hlt hh,List.append_assoc,List.singleton_append,←hdt];exact o2
     clear hh hdt o2;go_wp2_with fail;go_roundw
     case rel=>exact⟨q,t+1,by omega,by omega,by omega,rfl,by go_num,⟨_,HM2⟩,F2⟩
     case measure=>simp[intOf];omega
    | false=>
     have hfz:=Xz o2 q;have hq1:=HM.o.1;have hq2:=HM.o.2.1;have hcq:∃u,w2.cell? ⟨g,q,none⟩=some u:=by
      have hx:∃u,(Qe (dif (l.take t) lo++(mid++l.drop t)))[q]?=some u:=⟨_,List.getElem?_eq_getElem (by simp[Qe];omega)⟩;obtain⟨u,hu⟩:=hx;exact⟨u,Qf o2 hu⟩
     obtain⟨u,hu⟩:=hcq;obtain⟨mid',hm1,hm2⟩:=QbU (kept:=dif (l.take t) lo) (mid:=mid) (rest:=l.drop (t+1)) (x:=l[t]) (y:=l[t]) (by intro e;rw[e]at hq2;simp at hq2;omega);have HM2:Hid (q+1=(dif (l.take (t+1)) lo).length∧mid'.length=t+1-(q+1)∧(w2.setCell ⟨g,q,none⟩ (.int .i64 l[t])).ownsRow base 78 1 (.slice (some ⟨g,0,none⟩) l.length c) l.length (Qe (dif (l.take (t+1)) lo++(mid'++l.drop (t+1))))):=by
      refine⟨by rw[Jn hlt hh];simp;omega,by omega,?_⟩;rw[Jn hlt hh,←hm2,←hq1,←hdt,←We];exact ZA o2 q _
     have F3:=Qc (Qp F2.o g q (.int .i64 l[t]) (by omega));have hql:q<l.length:=by omega
     clear hh hdt o2 hm2 hq1;go_wp2_with fail;go_roundw
     case rel=>exact⟨q+1,t+1,by omega,by omega,by omega,by go_num,by go_num,⟨_,HM2⟩,F3⟩
     case measure=>simp[intOf];omega
   ·have hte:t=l.length:=by omega
    subst hte;obtain⟨hq1,hq2,o2⟩:=HM.o;have hzv:∀w,(zeroValue 78).run prog w=.ok (.int .i64 0) w:=fun w=>by kernel_rfl
    have hcl:∀ty,(Builtin.clear_ #[159] ty #[.slice (some ⟨g,q,none⟩) (l.length-q) (c-q)]).run prog wr=.ok (.tuple #[]) (wr.setCells g q (List.replicate (l.length-q) (.int .i64 0))):=
     fun ty=>Lib.run_clear_slice wr _ _ ty _ underlying159 hzv rfl rfl g q _ _ (by omega) (fun t ht=>by
      have hx:∃u,(Qe (dif (l.take l.length) lo++(mid++l.drop l.length)))[q+t]?=some u:=⟨_,List.getElem?_eq_getElem (by simp[Qe]at hq1 hq2 ⊢;omega)⟩;obtain⟨u,hu⟩:=hx;rw[Qf o2 hu];rfl) (fun t _=>Xz o2 _)
    have HE:Hid (∃xs',(wr.setCells g q (List.replicate (l.length-q) (.int .i64 0))).ownsRow base 78 1 (.slice (some ⟨g,0,none⟩) l.length c) l.length xs'∧xs'.take q=Qe (dif l lo)):=by
     obtain⟨xs',a,b⟩:=Ko (List.replicate (l.length-q) (.int .i64 0)) q wr _ o2;refine⟨xs',a,b.trans ?_⟩;rw[List.take_length]at hq1 ⊢;rw[KI,hq1,List.take_left' (by simp[Qe])]
    have F3:=Qc (J4 (base:=w0.heap.size) (g:=g) (by omega) (List.replicate (l.length-q) (.int .i64 0)) q wr F.o);have HQ:Hid (q=(dif l lo).length):=by rw[List.take_length]at hq1;exact hq1
    have hnc:l.length≤c:=by
     rcases o2.2 with ⟨h0,_⟩|⟨_,_,_,hv,_,_,hn,_⟩
     ·cases h0
     ·cases hv;exact hn
    have hcm:c≤9223372036854775807:=by
     rcases o2.2 with ⟨h0,_⟩|⟨_,_,_,hv,_,_,_,hn,_⟩
     ·cases h0
     ·cases hv;unfold maxLen at hn;omega
    clear o2 hq1 hq2 HM hzv;go_wp2_with fail;go_ret;obtain⟨xs',a,b⟩:=HE.o;refine⟨_,rfl,?_,F3.o⟩;have:=NK a (m:=q) (by omega);rw[b]at this;rw[←HQ.o];exact this
theorem QjT(a b:List Nat)(B1 B2:Nat)(va vb:Value)(w:World)(ha:w.ownsRow B1 78 1 va a.length (Qe a))(hb:w.ownsRow B2 78 1 vb b.length (Qe b))(la:a.length≤1000000)(lb:b.length≤1000000):
  Calls prog 293 #[va,vb] w fun x w'=>x=.returned (.bool (eqF a b))∧∃n,w'=w.drewN n:=by
 obtain⟨p1,c1,rfl⟩:=Qa ha;obtain⟨p2,c2,rfl⟩:=Qa hb;by_cases hl:a.length=b.length
 ·have hl':((a.length:Int) != (b.length:Int))=false:=by simp;omega
  have HL:=Qc hl;clear hl;go_enter func293,ntmps293;go_wp2_with fail
  go_loopw [13] (fun i wr=>∃k n:Nat,k≤a.length∧i=.int .i64 k∧wr=w.drewN n∧Hid (∀j,j<k→(h1:j<a.length)→(h2:j<b.length)→a[j]=b[j])) (fun i _=>a.length-(intOf i).toNat)
  case atStart=>exact⟨0,0,by omega,rfl,rfl,fun j hj=>by omega⟩
  case round=>
   obtain⟨k,n,hk,rfl,rfl,HE⟩:=hrel;by_cases hlt:k<a.length
   ·have hlb:k<b.length:=by have:=HL.o;omega
    obtain⟨g1,rfl,_,_⟩:=Qk ha (by omega);obtain⟨g2,rfl,_,_⟩:=Qk hb (by omega);have f1:=Qf ha (QY hlt);have f2:=Qf hb (QY hlb);by_cases he:a[k]=b[k]
    ·have he':((a[k]:Int) != (b[k]:Int))=false:=by simp;omega
     have HE2:Hid (∀j,j<k+1→(h1:j<a.length)→(h2:j<b.length)→a[j]=b[j]):=fun j hj h1 h2=>by
      rcases Nat.lt_succ_iff_lt_or_eq.1 hj with hj|rfl
      ·exact HE.o j hj h1 h2
      ·exact he
     clear he;go_wp2_with fail
     go_quiet (fail)
     go_wp2_with fail;go_roundw
     case rel=>exact⟨k+1,n+nq,by omega,by go_num,by simp,HE2⟩
     case measure=>simp[intOf];omega
    ·have he':((a[k]:Int) != (b[k]:Int))=true:=by simp;omega
     have HN:=Qc (QfG hlt hlb he);clear he;go_wp2_with fail
     go_quiet (fail)
     go_wp2_with fail;go_ret;exact⟨by rw[HN.o];rfl,n+nq,by simp⟩
   ·have HN:=Qc (Qce HL.o (fun j h1 h2=>HE.o j (by omega) h1 h2));go_wp2_with fail;go_ret;exact⟨by rw[HN.o];rfl,n,rfl⟩
 ·have hl':((a.length:Int) != (b.length:Int))=true:=by simp;omega
  have HN:=Qc (Qcc hl);clear hl;go_enter func293,ntmps293;go_wp2_with fail;go_ret;exact⟨by rw[HN.o];rfl,0,rfl⟩
theorem QjA(a b:List Nat)(B1 B2:Nat)(va vb:Value)(w:World)(ha:w.ownsRow B1 78 1 va a.length (Qe a))(hb:w.ownsRow B2 78 1 vb b.length (Qe b))(hsb:Hid (b.Pairwise (· < ·)))(hla:a.length≤1000000)(hlb:b.length≤1000000):
  Calls prog 126 #[.agg #[va],.agg #[vb]] w fun e w'=>∃v',e=.returned (.agg #[v'])∧w'.ownsRow w.heap.size 78 1 v' (dif a b).length (Qe (dif a b))∧Below w.heap.size w w':=by
 obtain⟨pa,ca,rfl⟩:=Qa ha;obtain⟨pb,cb,rfl⟩:=Qa hb;have hmf:∀(fn:Fn)(first cap:Array Value)(w:World),(Instr.makeFunc fn first cap).run prog w=.ok (.func fn first cap) w:=fun _ _ _ _=>rfl
 go_enter func126,ntmps126;go_wp2_with fail;obtain⟨W2,hW2⟩:∃W2,W2=((w.alloc (.cells #[.slice pa a.length ca] 161)).alloc (.cells #[.slice pb b.length cb] 161)).alloc (.cells #[.slice none 0 0] 161):=⟨_,rfl⟩;rw[←hW2];obtain⟨g0,g1,g2,hz,f2⟩:=Yf w (.cells #[.slice pa a.length ca] 161) (.cells #[.slice pb b.length cb] 161) (.cells #[.slice none 0 0] 161);rw[←hW2]at g0 g1 g2 hz f2;have k0:=Qb g0 0;have k1:=Qb g1 0;have k2:=Qb g2 0;have k3:=Qg g2 0;simp at k0 k1 k2;have O2:=Qc (And.intro (Qd ha (Qh f2) trivial) (Qd hb (Qh f2) trivial));have F2:=Qc f2;have l0:w.heap.size<W2.heap.size:=by omega
 have l1:w.heap.size+1<W2.heap.size:=by omega
 have l2:w.heap.size+1+1<W2.heap.size:=by omega
 clear hW2 ha hb g0 g1 g2 f2
 go_region_held (fun w'=>w'.cell? ⟨w.heap.size,0,none⟩=some (.slice pa a.length ca)∧w'.cell? ⟨w.heap.size+1,0,none⟩=some (.slice pb b.length cb)∧w'.frozen? ⟨w.heap.size+1+1,0,none⟩=false) (simp[*,QkQ,QkP])
  (first | (go_at_call 76;refine(Qe5 a B1 _ W2.drew O2.o.1 (by omega)).mono ?_;rintro e w5 ⟨v5,rfl,o5,f5⟩;have f5':Below W2.heap.size W2 w5:=⟨f5.os,f5.tape,f5.output,f5.size,f5.block⟩;have y0:=f5'.cell (p:=⟨w.heap.size,0,none⟩) l0;have y1:=f5'.cell (p:=⟨w.heap.size+1,0,none⟩) l1;have y2:=f5'.cell (p:=⟨w.heap.size+1+1,0,none⟩) l2;have y3:=f5'.frozen (p:=⟨w.heap.size+1+1,0,none⟩) l2) | (go_at_call 177;refine(Qlz a b W2.heap.size B2 v5 (.slice pb b.length cb) W2 w5 o5 O2.o.2 f5' (Qi _) hsb hla hlb).mono ?_;rintro e w6 ⟨v6,rfl,H6⟩;obtain⟨p6,c6,rfl⟩:=Qa H6.o.1;have z0:=H6.o.2.cell (p:=⟨w.heap.size,0,none⟩) l0;have z1:=H6.o.2.cell (p:=⟨w.heap.size+1,0,none⟩) l1;have z2:=H6.o.2.cell (p:=⟨w.heap.size+1+1,0,none⟩) l2;have z3:=H6.o.2.frozen (p:=⟨w.heap.size+1+1,0,none⟩) l2))
 all_goals
  go_wp2_with fail;refine bodyPost_ret (v:=.agg #[.slice p6 (dif a b).length c6]) (by simp[results,results126,go_sem,z2,k2]) rfl ⟨_,rfl,?_,?_⟩
  ·exact Qj (QE H6.o.1 _ 0 _ l2) (by omega)
  ·exact Qp (F2.o.trans (H6.o.2.mono (by omega))) _ _ _ (by omega)
theorem QiR(a b:List Nat)(B1 B2:Nat)(va vb:Value)(w:World)(ha:w.ownsRow B1 78 1 va a.length (Qe a))(hb:w.ownsRow B2 78 1 vb b.length (Qe b))(hla:a.length≤1000000)(hlb:b.length≤1000000):
  Calls prog 125 #[.agg #[va],.agg #[vb]] w fun e w'=>∃v',e=.returned (.agg #[v'])∧w'.ownsRow w.heap.size 78 1 v' (ofL (a++b)).length (Qe (ofL (a++b)))∧Below w.heap.size w w':=by
 obtain⟨pa,ca,rfl⟩:=Qa ha;obtain⟨pb,cb,rfl⟩:=Qa hb;have hab:(a++b).length≤3000000:=by rw[Qw];omega
 obtain⟨ab,HAB⟩:∃ab,Hid (ab=a++b):=⟨_,rfl⟩;rw[←HAB.o]at hab ⊢;go_enter func125,ntmps125;go_wp2_with fail;obtain⟨W3,hW3⟩:∃W3,W3=((w.alloc (.cells #[.slice pa a.length ca] 161)).alloc (.cells #[.slice pb b.length cb] 161)).alloc (.cells #[.slice none 0 0] 161):=⟨_,rfl⟩;rw[←hW3];obtain⟨_,_,g2,hz,f3⟩:=Yf w (.cells #[.slice pa a.length ca] 161) (.cells #[.slice pb b.length cb] 161) (.cells #[.slice none 0 0] 161);rw[←hW3]at g2 hz f3;have g3:=heap_alloc_last W3 (.cells #[.slice pa a.length ca,.slice pb b.length cb] 159);have f4:Below w.heap.size w (W3.alloc (.cells #[.slice pa a.length ca,.slice pb b.length cb] 159)):=f3.alloc (by omega) _;rw[show w.heap.size+1+1+1=W3.heap.size by omega];refine(Qh8 a b B1 B2 _ _ _ (Qd ha (Qh f4) trivial) (Qd hb (Qh f4) trivial) hla hlb _ 2 g3).mono ?_;rintro e w5 ⟨v5,rfl,o5,f5⟩;rw[←HAB.o]at o5;have F5:=Qc (And.intro o5 (And.intro f5 (And.intro f4 (And.intro g2 (And.intro hz hW3)))));obtain⟨p5,c5,rfl⟩:=Qa o5;clear ha hb hW3 g2 g3 f3 f4 f5 o5;go_wp2_with fail;refine(ofR ab _ _ w5 F5.o.1 hab).mono ?_;rintro e w6 ⟨v6,rfl,o6,f6⟩;obtain⟨p6,c6,rfl⟩:=Qa o6;obtain⟨_,f5,f4,g2,hz,hW3⟩:=F5.o;have hs5:W3.heap.size+1≤w5.heap.size:=by have:=f5.size;rw[Qt]at this;exact this
 have g6:w6.heap[w.heap.size+1+1]?=some (.cells #[.slice none 0 0] 161 (0,0)):=by rw[f6.block _ (by omega),f5.block _ (by rw[Qt];omega)];exact Qo g2 _
 have k2:=Qb g6 0;have k3:=Qg g6 0;simp at k2;have l5:w.heap.size+1+1<w5.heap.size:=by omega
 have F6:=Qc (And.intro (Qj (QE o6 _ 0 (.slice p6 (ofL ab).length c6) l5) (show w.heap.size≤w5.heap.size by omega)) (Qp ((f4.trans (f5.mono (by rw[Qt];omega))).trans (f6.mono (by omega))) (w.heap.size+1+1) 0 (.slice p6 (ofL ab).length c6) (by omega)));clear g6 f6 o6 f5 f4 g2 hW3 F5 hz hs5 l5;go_wp2_with fail;refine bodyPost_ret (v:=.agg #[.slice p6 (ofL ab).length c6]) (by simp[results,results125,go_sem,k2]) rfl ⟨_,rfl,?_,?_⟩
 ·exact F6.o.1
 ·exact F6.o.2
theorem Qko(a b:List Nat)(B1 B2:Nat)(va vb:Value)(w:World)(ha:w.ownsRow B1 78 1 va a.length (Qe a))(hb:w.ownsRow B2 78 1 vb b.length (Qe b))(hla:a.length≤1000000)(hlb:b.length≤1000000):
  Calls prog 292 #[.agg #[va],.agg #[vb]] w fun e w'=>e=.returned (.bool (eqF a b))∧Below w.heap.size w w':=by
 obtain⟨pa,ca,rfl⟩:=Qa ha;obtain⟨pb,cb,rfl⟩:=Qa hb;go_enter func292,ntmps292;go_wp2_with fail;refine(QjT a b B1 B2 _ _ _ ((ha.alloc _).alloc _) ((hb.alloc _).alloc _) hla hlb).mono ?_;rintro e w1 ⟨rfl,n,hw1⟩;have F1:Hid (Below w.heap.size w w1):=by rw[hw1];exact below_drewN (((Below.refl _ _).alloc (Nat.le_refl _) _).alloc (by simp) _) _
 clear hw1;go_wp2_with fail;go_ret;exact⟨rfl,F1.o⟩
end Go.Proofs.YtgfhfkgdmidhpaaGreatDoor
namespace Go.Proofs.YtgfhfkgdmidhpaaGreatDoor
open Go.RowKit
open Go.Proofs.Tryz
set_option maxRecDepth 100000
set_option maxHeartbeats 8000000
def rrF(R G:List Nat)(q:List (Nat×Nat)):List Nat:=ofL (R++dif (q.map (·.1)) G)
theorem QgK{R:List Nat}(G:List Nat)(h:R.Pairwise (· < ·)):rrF R G []=R:=by rw[rrF];simp[dif,UE h]
theorem Qi7{R G:List Nat}{q:List (Nat×Nat)}{k:Nat}(hk:k<q.length)(h:QD G q[k].1=true):rrF R G (q.take (k+1))=rrF R G (q.take k):=by
 rw[rrF,rrF];refine Qhs fun x=>?_;rw[Zb hk,List.map_append];have hm:q[k].1∈G:=Ze.1 h;simp only[List.mem_append,XX,List.map_cons,List.map_nil,List.mem_singleton];constructor
 ·rintro (h1|⟨h1|rfl,h2⟩)
  ·exact .inl h1
  ·exact .inr ⟨h1,h2⟩
  ·exact absurd hm h2
 ·rintro (h1|⟨h1,h2⟩)
  ·exact .inl h1
  ·exact .inr ⟨.inl h1,h2⟩
theorem QgJ{R G:List Nat}{q:List (Nat×Nat)}{k:Nat}(hk:k<q.length)(h:QD G q[k].1=false):rrF R G (q.take (k+1))=ptF (rrF R G (q.take k)) q[k].1:=by
 refine Zo (Zi _) (X6 _ _) fun x=>?_;rw[ZW,rrF,rrF,QN,QN,Zb hk,List.map_append];have hm:q[k].1∉G:=fun e=>by rw[Ze.2 e]at h;cases h
 simp only[List.mem_append,XX,List.map_cons,List.map_nil,List.mem_singleton];constructor
 ·rintro (h1|⟨h1|rfl,h2⟩)
  ·exact .inl (.inl h1)
  ·exact .inl (.inr ⟨h1,h2⟩)
  ·exact .inr rfl
 ·rintro ((h1|⟨h1,h2⟩)|rfl)
  ·exact .inl h1
  ·exact .inr ⟨.inl h1,h2⟩
  ·exact .inr ⟨.inr rfl,hm⟩
theorem Qi6{R G:List Nat}{q:List (Nat×Nat)}(hR:SM R)(hq:∀p∈q,p.1<10000)(k:Nat):SM (rrF R G (q.take k)):=SM.of fun x hx=>by
 rcases QB.1 hx with h|h
 ·exact hR.2 x h
 ·obtain⟨p,hp,rfl⟩:=Qv.1 (XX.1 h).1;exact hq p (List.mem_of_mem_take hp)
theorem Qiw(R G:List Nat)(q:List (Nat×Nat))(hG:Hid (SM G))(hR:Hid (SM R))(hq:Hid (∀p∈q,p.1<10000))(b base:Nat)(vr vg vq:Value)(w:World)
  (hB:w.heap[b]?=some (.cells #[vr,vg] 234 (0,0)))(hr:w.ownsRow base 78 1 vr R.length (Qe R))(hg:w.ownsRow base 78 1 vg G.length (Qe G))(hA:Q4 vg vr)(hv:w.ownsRow 0 132 2 vq q.length (pcs q))(hb:base≤b)(hql:q.length≤1000):
  Calls prog 174 #[.pointer (some ⟨b,0,none⟩),vq] w fun x w'=>x=.returned (.tuple #[])∧∃vr',Hid (w'.heap[b]?=some (.cells #[vr',vg] 234 (0,0))∧w'.ownsRow base 78 1 vr' (rrF R G q).length (Qe (rrF R G q))∧w'.ownsRow base 78 1 vg G.length (Qe G)∧Q4 vg vr'∧Ke b w w'∧Below base w w'):=by
 obtain⟨pq,cq,rfl⟩:=Qa hv;have hbl:=lt_of_block hB;have H0:=Qc (And.intro hB (And.intro hr (And.intro hg (And.intro hA hv))));clear hB hr hg hA hv;go_enter func174,ntmps174;go_wp2_with fail
 go_loopw [8] (fun i wr=>∃(k:Nat)(vr':Value),k≤q.length∧i=.int .i64 k∧Hid (wr.heap[b]?=some (.cells #[vr',vg] 234 (0,0))∧wr.ownsRow base 78 1 vr' (rrF R G (q.take k)).length (Qe (rrF R G (q.take k)))∧wr.ownsRow base 78 1 vg G.length (Qe G)∧Q4 vg vr'∧wr.ownsRow 0 132 2 (.slice pq q.length cq) q.length (pcs q)∧Ke b w wr∧Below base w wr)) (fun i _=>q.length-(intOf i).toNat)
 case atStart=>exact⟨0,vr,by omega,rfl,H0.o.1,by rw[List.take_zero,QgK _ hR.out.1];exact H0.o.2.1,H0.o.2.2.1,H0.o.2.2.2.1,H0.o.2.2.2.2,Ke.refl _ _,Below.refl _ _⟩
 case round=>
  clear H0;obtain⟨k,vr',hk,rfl,HI⟩:=hrel;obtain⟨i1,i2,i3,i4,i5,i6,i7⟩:=HI.o;have hz:=i7.size;by_cases hlt:k<q.length
  ·obtain⟨gq,rfl,_,_⟩:=Qk i5 (by omega);have c0:=Qf i5 (Zt hlt).1;have c1:=Qf i5 (Zt hlt).2;clear i1 i2 i3 i4 i5 i6 i7;go_wp2_with fail;obtain⟨W,hW⟩:∃W,W=wr.alloc (.cells #[.int .i64 q[k].1,.int .i64 q[k].2] 132):=⟨_,rfl⟩;rw[←hW];have HW:Hid (W.heap[wr.heap.size]?=some (.cells #[.int .i64 q[k].1,.int .i64 q[k].2] 132 (0,0))∧W.heap[b]?=some (.cells #[vr',vg] 234 (0,0))∧W.ownsRow base 78 1 vr' (rrF R G (q.take k)).length (Qe (rrF R G (q.take k)))∧W.ownsRow base 78 1 vg G.length (Qe G)∧Q4 vg vr'∧W.ownsRow 0 132 2 (.slice (some ⟨gq,0,none⟩) q.length cq) q.length (pcs q)∧Ke b w W∧Below base w W):=by
    obtain⟨i1,i2,i3,i4,i5,i6,i7⟩:=HI.o;have F:=(Below.refl wr.heap.size wr).alloc (Qi _) (.cells #[.int .i64 q[k].1,.int .i64 q[k].2] 132);rw[hW];exact⟨heap_alloc_last _ _,Qo i1 _,i2.alloc _,i3.alloc _,i4,i5.alloc _,i6.trans (Ke.below F),i7.alloc (by omega) _⟩
   have hWs:W.heap.size=wr.heap.size+1:=by rw[hW,Qt]
   have k0:=Qb HW.o.1 0;have k1:=Qb HW.o.2.1 1;simp at k0 k1;obtain⟨pg,cg,rfl⟩:=Qa HW.o.2.2.2.1;have hGl:=hG.out.len;have hGs:=Qc hG.out.1;have HG4:=Qc HW.o.2.2.2.1;clear hW HI c0 c1
   go_region_law (first | (refine Z1 rfl 108 #[.agg #[.slice pg G.length cg],.int .i64 q[k].1] (by go_simp) (Qff G q[k].1 base _ W.drew HG4.o hGs (by omega)) ?_;rintro e w5 ⟨rfl,f5⟩;have f5':Below W.heap.size W w5:=⟨f5.os,f5.tape,f5.output,f5.size,f5.block⟩;have s5:=f5'.size;have F5:=Qc f5';clear f5 f5') | fail)
   all_goals
    have HI5:Hid (w5.heap[wr.heap.size]?=some (.cells #[.int .i64 q[k].1,.int .i64 q[k].2] 132 (0,0))∧w5.heap[b]?=some (.cells #[vr',.slice pg G.length cg] 234 (0,0))∧w5.ownsRow base 78 1 vr' (rrF R G (q.take k)).length (Qe (rrF R G (q.take k)))∧w5.ownsRow base 78 1 (.slice pg G.length cg) G.length (Qe G)∧Q4 (.slice pg G.length cg) vr'∧w5.ownsRow 0 132 2 (.slice (some ⟨gq,0,none⟩) q.length cq) q.length (pcs q)∧Ke b w w5∧Below base w w5):=by
     obtain⟨i0,i1,i2,i3,i4,i5,i6,i7⟩:=HW.o;have K:=Qr.below (base:=0) (T:=fun _=>True) F5.o;have K2:=Qr.below (base:=base) (T:=fun _=>True) F5.o;have hbW:=lt_of_block i1;exact⟨by rw[F5.o.block _ (by omega)];exact i0,by rw[F5.o.block _ hbW];exact i1,Qd i2 K2 trivial,Qd i3 K2 trivial,i4,Qd i5 K trivial,i6.trans (Ke.below F5.o),i7.trans (F5.o.mono (by omega))⟩
    have y0:=Qb HI5.o.1 0;simp at y0;clear HW HG4 k0 k1 F5
    cases hh:QD G q[k].1 with
    | true=>
     have HT:=Qc (Qi7 (R:=R) hlt hh);clear hh;go_wp2_with fail;go_roundw
     case rel=>
      obtain⟨_,i1,i2,i3,i4,i5,i6,i7⟩:=HI5.o;exact⟨k+1,vr',by omega,by go_num,i1,by rw[HT.o];exact i2,i3,i4,i5,i6,i7⟩
     case measure=>simp[intOf];omega
    | false=>
     have HT:=Qc (QgJ (R:=R) hlt hh);have HSM:=Qc (Qi6 (G:=G) hR.out hq.out k);have hRl:=HSM.o.len;have hbb:base≤w5.heap.size:=by omega
     have HNB:=Qc (QG HI5.o.2.2.1 HI5.o.2.1 (by decide));clear hh;go_wp2_with fail
     go_region_law (first | (refine Z1 rfl 98 #[.pointer (some ⟨b,0,none⟩),.int .i64 q[k].1] (by go_simp) (Qim (rrF R G (q.take k)) q[k].1 HSM.o.1 b 0 base #[vr',.slice pg G.length cg] 234 vr' w5.drew HI5.o.2.1 rfl HI5.o.2.2.1 (by omega) hbb HNB.o) ?_;rintro e w6 ⟨bb,v6,rfl,H6⟩) | fail)
     all_goals
      have HI6:Hid (w6.heap[b]?=some (.cells #[v6,.slice pg G.length cg] 234 (0,0))∧w6.ownsRow base 78 1 v6 (rrF R G (q.take (k+1))).length (Qe (rrF R G (q.take (k+1))))∧w6.ownsRow base 78 1 (.slice pg G.length cg) G.length (Qe G)∧Q4 (.slice pg G.length cg) v6∧w6.ownsRow 0 132 2 (.slice (some ⟨gq,0,none⟩) q.length cq) q.length (pcs q)∧Ke b w w6∧Below base w w6):=by
       obtain⟨i0,i1,i2,i3,i4,i5,i6,i7⟩:=HI5.o;obtain⟨_,j1,j2,j3'⟩:=H6.o;have j3:Ad b vr' v6 w5 w6:=⟨j3'.os,j3'.tape,j3'.output,j3'.size,j3'.block,j3'.new⟩;have KA:Ke b w5 w6:=Ke.ad j3 i2;rw[HT.o];exact⟨j1,j2,j3.owns i3 (QG i3 i1 (by decide)) i4,j3.apart i3 i4,KA.owns i5 (by decide) (QG i5 i1 (by decide)),i6.trans KA,j3.below i7 hb (fun k hk=>(i2.lt k hk).1) hbb⟩
      clear HI5 H6 HT HSM y0;go_wp2_with fail;go_roundw
      case rel=>exact⟨k+1,v6,by omega,by go_num,HI6⟩
      case measure=>simp[intOf];omega
  ·have hke:k=q.length:=by omega
   have HE:Hid (rrF R G (q.take k)=rrF R G q):=by show _=_;rw[hke,List.take_length]
   clear i1 i2 i3 i4 i5 i6 i7;go_wp2_with fail
   go_end0
   obtain⟨i1,i2,i3,i4,i5,i6,i7⟩:=HI.o;exact⟨rfl,vr',i1,by rw[←HE.o];exact i2,i3,i4,i6,i7⟩
theorem Qdq(e:Z6):(XA e).map (·.1)=Jb e:=by
 unfold XA Jb;split<;>rfl
def YX(c:Q0)(i:Nat):Option Nat:=((c.gs.zip c.rs).find? fun p=>p.1.1==i).map (·.2.1)
theorem Qd9(c:Q0)(i base:Nat)(p:Option Addr)(cp:Nat)(w:World)(hr:Hid (c.gs.length=c.rs.length))(h:w.ownsRow base 147 4 (.slice p c.gs.length cp) c.gs.length (Q8 c.gs c.rs))(hl:c.gs.length≤1000000):
  Calls prog 178 #[.agg #[.int .i64 c.to.1,.int .i64 c.to.2,.slice p c.gs.length cp],.int .i64 i] w fun x w'=>((∃r:Nat,YX c i=some r∧x=.returned (.tuple #[.int .i64 r,.bool true]))∨(YX c i=none∧x=.returned (.tuple #[.int .i64 0,.bool false])))∧Below w.heap.size w w':=by
 have HS:=Qc h;clear h;go_enter func178,ntmps178;go_wp2_with fail;obtain⟨W,hW⟩:∃W,W=w.alloc (.cells #[.int .i64 c.to.1,.int .i64 c.to.2,.slice p c.gs.length cp] 140):=⟨_,rfl⟩;have hF:=(Below.refl w.heap.size w).alloc (Qi _) (.cells #[.int .i64 c.to.1,.int .i64 c.to.2,.slice p c.gs.length cp] 140);rw[←hW]at hF ⊢;have HF:=Qc hF;clear hW hF
 go_loopw [11] (fun k wr=>∃t:Nat,t≤c.gs.length∧k=.int .i64 t∧Hid (((c.gs.zip c.rs).take t).find? (fun p=>p.1.1==i)=none)∧Hid (Below w.heap.size w wr)) (fun k _=>c.gs.length-(intOf k).toNat)
 case atStart=>exact⟨0,by omega,rfl,by simp[Hid],HF⟩
 case round=>
  obtain⟨t,ht,rfl,HN,F⟩:=hrel;have hz:=F.o.size;by_cases hlt:t<c.gs.length
  ·have htr:t<c.rs.length:=by have:=hr.out;omega
   have htz:t<(c.gs.zip c.rs).length:=by rw[List.length_zip];omega
   have OS:=Qd HS.o (Qh F.o) trivial;obtain⟨g,rfl,_,_⟩:=Qk OS (by omega);obtain⟨s0,s1,s2,s3⟩:=Zp hr.out hlt;have c0:=Qf OS s0;have c1:=Qf OS s1;have c2:=Qf OS s2;have c3:=Qf OS s3;have hzt:(c.gs.zip c.rs)[t]=(c.gs[t],c.rs[t]):=List.getElem_zip;clear OS s0 s1 s2 s3;by_cases he:c.gs[t].1=i
   ·have HR:Hid (YX c i=some c.rs[t].1):=by
     show YX c i=_;rw[YX,Z8 htz HN.o (by rw[hzt];simpa using he),hzt];rfl
    have hd:((c.gs[t].1:Int)==(i:Int))=true:=by simp;omega
    clear he hzt;go_wp2_with fail
    go_ret2
    exact⟨.inl ⟨_,HR.o,rfl⟩,F.o.alloc (by omega) _⟩
   ·have HN2:=Qc (Xe htz HN.o (by rw[hzt];simpa using he));have hd:((c.gs[t].1:Int)==(i:Int))=false:=by simp;omega
    have F2:=Qc (F.o.alloc (by omega) (.cells #[.int .i64 c.gs[t].1,.int .i64 c.gs[t].2,.int .i64 c.rs[t].1,.int .i64 c.rs[t].2] 147));clear he hzt;go_wp2_with fail;go_roundw
    case rel=>exact⟨t+1,by omega,by go_num,HN2,F2⟩
    case measure=>simp[intOf];omega
  ·have HR:Hid (YX c i=none):=by
    show YX c i=_;have:=HN.o;rw[Zg (by rw[List.length_zip];have:=hr.out;omega)]at this;rw[YX,this];rfl
   go_wp2_with fail
   go_ret2
   exact⟨.inr ⟨HR.o,rfl⟩,F.o⟩
end Go.Proofs.YtgfhfkgdmidhpaaGreatDoor
