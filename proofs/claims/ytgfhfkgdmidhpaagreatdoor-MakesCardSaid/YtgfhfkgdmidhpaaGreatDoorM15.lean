import Derived.Test.YtgfhfkgdmidhpaaGreatDoorM14
import Derived.Sort.OwnSortedInts
namespace Go.Proofs.YtgfhfkgdmidhpaaGreatDoor
open Go.RowKit
open Go.Sort
open Go.Proofs.Tryz
set_option maxRecDepth 100000
set_option maxHeartbeats 8000000
theorem K3(l:List Nat):Qe l=(Xk l).map (Value.int .i64):=by simp[Qe,Xk]
theorem Z0(l:List Nat):(Xk l).length=l.length:=by simp[Xk]
theorem Qac(w:World):grow w #[]=w:=by simp[grow]
theorem QbA{w:World}{base g cap n m:Nat}{e:TypeId}{cur:Array Value}{ts:List Int}(hbase:base≤g)(hb:w.heap[g]?=some (.cells cur e (0,0)))(hm:m≤ts.length)(ht:ts.length≤cap)(h2:cap≤maxLen)(h3:cur.size=cap*1):
  (putRow (Value.int .i64) (Sort.ahead w n) g 0 ts.toArray).ownsRow base e 1 (.slice (some ⟨g,0,none⟩) m cap) m ((ts.take m).map (Value.int .i64)):=by
 have hh:=heap_sortedI (w:=w) (g:=g) (n:=n) (os:=#[]) ts.toArray hb;rw[Qac]at hh;refine⟨by simp;omega,.inr ⟨g,cap,_,rfl,hbase,hh,by omega,h2,by simp[putCells,h3],?_⟩⟩;have:=take_putCellsI cur ts (by omega);rw[Nat.mul_one,List.map_take,←this,List.take_take,Nat.min_eq_left hm]
theorem GW{w0 w:World}{base g n:Nat}(F:Below base w0 w)(hb:base≤g)(hg:g<w.heap.size)(d:Array Int):Below base w0 (putRow (Value.int .i64) (Sort.ahead w n) g 0 d):=by
 have h:=grownBy_sortedI (w:=w) (g:=g) (n:=n) (os:=#[]) d;rw[Qac]at h;exact F.trans ⟨h.os,h.tape,h.output,h.size,fun k hk=>h.block k (by omega) (fun e=>by cases e;omega)⟩
theorem RU(zs:List Int):(Lib.compact zs).length≤zs.length:=by
 have:=List.length_filter_le (Lib.keeps zs.toArray) (List.range zs.length);simpa[Lib.compact,Lib.compactUpTo] using this
theorem QkV(l:List Nat)(base:Nat)(v:Value)(w:World)(h:w.ownsRow base 143 1 v l.length (Qe l))(hl:l.length≤3000000):
  Calls prog 162 #[v] w fun e w'=>∃v',e=.returned v'∧w'.ownsRow w.heap.size 143 1 v' l.length (Qe l)∧Below w.heap.size w w':=by
 have HO:=Qc h;rcases h.2 with ⟨rfl,h0⟩|⟨g,c,cur,rfl,hbg,hg,hnc,hcm,hcs,ht⟩
 ·have he:∀w,(binOp BinOp.eql 80 (.slice none 0 0) (.slice none 0 0)).run prog w=.ok (.bool true) w:=fun w=>by kernel_rfl
  go_enter func162,ntmps162;go_wp2_with (at_builtin;refine QA ?_);go_ret;exact⟨_,rfl,⟨HO.o.1,HO.o.2.imp id (fun⟨_,_,_,e,_⟩=>by cases e)⟩,Below.refl _ _⟩
 ·clear h;have HG:=Qc hg;clear hg ht;have he:∀w,(binOp BinOp.eql 80 (.slice (some ⟨g,0,none⟩) l.length c) (.slice none 0 0)).run prog w=.ok (.bool false) w:=fun w=>by kernel_rfl
  go_enter func162,ntmps162;go_wp2_with (at_builtin;refine QA ?_);refine Qc ?_;obtain⟨I,Hi,Hz,Hs,Hb⟩:=info_parts XV;refine wpList_append_own _ rfl _ _ 80 rfl w.heap.size 143 I (.int .i64 0) 1 8 underlying80 Hi Hz Hs Hb rfl (by decide) (.slice (some ⟨w.heap.size,0,none⟩) 0 0) 0 [] rfl (World.ownsRow_made w #[] 0 (Nat.le_refl _) (by decide) rfl) ⟨g,0,none⟩ l.length c (Qe l) rfl (by simp[Qe]) (fun j u hj=>?_) (fun u hu=>?_) (by unfold maxLen;omega) (by omega) (by simp) ?_
  ·exact(HO.o.alloc (.cells #[] 143)).cells rfl j u hj
  ·obtain⟨n,_,rfl⟩:=Qv.1 hu;rfl
  ·intro v1 w1 o1 g1 _;rw[Nat.zero_add,List.nil_append]at o1;have O1:=Qc (And.intro o1 g1);clear o1 g1;go_wp2_with fail;go_ret;exact⟨v1,rfl,O1.o.1,Below.grown ((Below.refl _ _).alloc (Nat.le_refl _) _) O1.o.2 (by simp) (fun k hk=>by cases hk;exact Nat.le_refl _)⟩
theorem sortB(l:List Nat)(base B:Nat)(v:Value)(w0 w:World)(h:w.ownsRow base 143 1 v l.length (Qe l))(F:Below B w0 w)(hB:B≤base)(hl:l.length≤3000000):
  Calls prog 168 #[v] w fun e w'=>e=.returned (.tuple #[])∧Hid (w'.ownsRow base 143 1 v l.length ((ZL l).map (Value.int .i64))∧Below B w0 w'):=by
 rcases h.2 with ⟨rfl,h0⟩|⟨g,c,cur,rfl,hbg,hg,hnc,hcm,hcs,ht⟩
 ·have hl0:l=[]:=List.eq_nil_of_length_eq_zero h0;subst hl0;refine(AnyM.slices_Sort_int_none Tryz.sortB none 0 w).mono ?_;rintro e w' ⟨rfl,rfl⟩;exact⟨rfl,by simpa[ZL,Xk,Qe] using h,F⟩
 ·rw[Nat.mul_one]at ht;rw[K3]at ht;have hH:Holds (Value.int .i64) w g 0 (Xk l).toArray:=holds_of_blockI hg (by rw[Z0];exact ht);have hs:=AnyM.slices_Sort_int Tryz.sortB g 0 c (Xk l) w hH (lt_of_block hg) (by rw[Z0];omega);rw[Z0]at hs;refine Calls.mono hs ?_;rintro e w' ⟨rfl,n,os,rfl⟩;refine⟨rfl,?_,?_⟩
  ·exact ownsRow_sortedI (ss:=Xk l) (ts:=ZL l) (by rw[Xd,Z0]) hbg hg (by rw[Z0];exact hnc) hcm hcs |> fun q=>by rw[Z0]at q;exact q
  ·have gb:=grownBy_sortedI (w:=w) (g:=g) (n:=n) (os:=os) (ZL l).toArray;exact Below.grown F gb (by have:=lt_of_block hg;omega) (fun k hk=>by cases hk;omega)
theorem compactB(l:List Nat)(base B:Nat)(v:Value)(w0 w:World)(h:w.ownsRow base 143 1 v l.length ((ZL l).map (Value.int .i64)))(F:Below B w0 w)(hB:B≤base)(hl:l.length≤3000000):
  Calls prog 169 #[v] w fun e w'=>∃v',e=.returned v'∧Hid (w'.ownsRow base 143 1 v' (ofL l).length (Qe (ofL l))∧Below B w0 w'):=by
 have hcl:(ofL l).length=(Lib.compact (ZL l)).length:=by simp[ofL]
 rcases h.2 with ⟨rfl,h0⟩|⟨g,c,cur,rfl,hbg,hg,hnc,hcm,hcs,ht⟩
 ·have hl0:l=[]:=List.eq_nil_of_length_eq_zero h0;subst hl0;refine(AnyG.slices_Compact_int_empty Tryz.compactB none 0 w).mono ?_;rintro e w' ⟨rfl,rfl⟩;exact⟨_,rfl,by simp[ofL,ZL,Xk,Lib.compact,Lib.compactUpTo,Qe];exact World.ownsRow_nil _ _ _ _,F⟩
 ·rw[Nat.mul_one]at ht;have hle:(Lib.compact (ZL l)).length≤(ZL l).length:=RU _;have hH:Holds (Value.int .i64) w g 0 (ZL l).toArray:=holds_of_blockI hg (by rw[Xd];exact ht);have hs:=AnyG.slices_Compact_int Tryz.compactB g 0 c (ZL l) w hH (by rw[Xd];omega) (by rw[Xd];exact hnc);rw[Xd]at hs;refine Calls.mono hs ?_;rintro e w' ⟨rfl,q,rfl⟩;refine⟨_,rfl,?_,GW F (by omega) (lt_of_block hg) _⟩;rw[Xd]at hle;have:=QbA (w:=w) (n:=q) (m:=(Lib.compact (ZL l)).length) (ts:=Lib.compact (ZL l)++List.replicate (l.length-(Lib.compact (ZL l)).length) 0) hbg hg (by simp) (by simp;omega) hcm hcs;rw[List.take_left' rfl,←VH l,←K3,VH]at this;rw[hcl];exact this
theorem ofB(l:List Nat)(base:Nat)(v:Value)(w:World)(h:w.ownsRow base 143 1 v l.length (Qe l))(hl:l.length≤3000000):
  Calls prog 119 #[v] w fun e w'=>∃v',e=.returned (.agg #[v'])∧w'.ownsRow w.heap.size 143 1 v' (ofL l).length (Qe (ofL l))∧Below w.heap.size w w':=by
 obtain⟨p,c,rfl⟩:=Qa h;go_enter func119,ntmps119;go_wp2_with fail;refine(QkV l base _ _ (h.alloc _) hl).mono ?_;rintro e w1 ⟨v1,rfl,o1,f1⟩;have O1:=Qc (And.intro o1 f1);obtain⟨p1,c1,rfl⟩:=Qa o1;clear f1 o1 h;go_wp2_with fail;refine(sortB l _ _ _ _ w1 O1.o.1 O1.o.2 (Qi _) hl).mono ?_;rintro e w2 ⟨rfl,H2⟩;go_wp2_with fail;refine(compactB l _ _ _ _ w2 H2.o.1 H2.o.2 (Qi _) hl).mono ?_;rintro e w3 ⟨v3,rfl,H3⟩;have hb3:w3.heap[w.heap.size]?=some (.cells #[.slice none 0 0] 82 (0,0)):=by rw[H3.o.2.block _ (by simp)];exact heap_alloc_last _ _
 have k0:=Qb hb3 0;have kf:=Qg hb3;simp at k0;obtain⟨p3,c3,rfl⟩:=Qa H3.o.1;clear hb3 O1 H2;go_wp2_with fail;refine bodyPost_ret (v:=.agg #[.slice p3 (ofL l).length c3]) (by simp[results,results119,go_sem,k0]) rfl ⟨_,rfl,?_,?_⟩
 ·exact Qj (QE H3.o.1 w.heap.size 0 _ (by simp)) (by simp)
 ·exact Qp (((Below.refl _ _).alloc (Nat.le_refl _) _).trans (H3.o.2.mono (by simp))) _ _ _ (Nat.le_refl _)
end Go.Proofs.YtgfhfkgdmidhpaaGreatDoor
namespace Go.Proofs.YtgfhfkgdmidhpaaGreatDoor
open Go.RowKit
open Go.Proofs.Tryz
set_option maxRecDepth 100000
set_option maxHeartbeats 8000000
theorem NK{w:World}{base e g c n m:Nat}{xs:List Value}(h:w.ownsRow base e 1 (.slice (some ⟨g,0,none⟩) n c) n xs)(hm:m≤n):w.ownsRow base e 1 (.slice (some ⟨g,0,none⟩) m c) m (xs.take m):=by
 obtain⟨h1,h2⟩:=h;rcases h2 with ⟨h0,_⟩|⟨g',c',cur,hv,hb,hh,hn,hc,hs,ht⟩
 ·cases h0
 ·cases hv;refine⟨by simp;omega,.inr ⟨g,c,cur,rfl,hb,hh,by omega,hc,hs,?_⟩⟩;rw[←ht,List.take_take]
  congr 1
  omega
theorem Ko{base e g c n:Nat}:∀(vs:List Value)(o:Nat)(w:World)(xs:List Value),w.ownsRow base e 1 (.slice (some ⟨g,0,none⟩) n c) n xs→∃xs',(w.setCells g o vs).ownsRow base e 1 (.slice (some ⟨g,0,none⟩) n c) n xs'∧xs'.take o=xs.take o
 | [],_,_,xs,h=>⟨xs,h,rfl⟩
 | v::vs,o,w,xs,h=>by
  obtain⟨xs',a,b⟩:=Ko vs (o+1) (w.setCell ⟨g,o,none⟩ v) (xs.set o v) (ZA h o v);refine⟨xs',a,?_⟩;have:=congrArg (List.take o) b;rw[List.take_take,List.take_take,Nat.min_eq_left (by omega),List.take_set_of_le (Qi _)]at this;exact this
theorem J4{base g:Nat}{u:World}(hg:base≤g):∀(vs:List Value)(o:Nat)(w:World),Below base u w→Below base u (w.setCells g o vs)
 | [],_,_,h=>h
 | v::vs,o,_,h=>J4 hg vs (o+1) _ (Qp h g o v hg)
theorem Ze{l:List Nat}{x:Nat}:QD l x=true↔x∈l:=by simp[QD]
theorem Qah{l:List Nat}{x i:Nat}(hsrt:l.Pairwise (· < ·))(hs:Kt l x i):ZB l x i=QD l x:=by
 by_cases hx:x∈l
 ·rw[Ze.2 hx];obtain⟨k,hk,he⟩:=List.getElem_of_mem hx;have hki:¬k<i:=fun h=>by have:=hs.1 k h hk;omega
  have hle:=hs.2 i (Qi _) (by omega);have hie:i=k:=by
   rcases Nat.lt_or_ge i k with h|h
   ·have:=List.pairwise_iff_getElem.1 hsrt i k (by omega) hk h;omega
   ·omega
  subst hie;simp[ZB,hk,he]
 ·have h1:QD l x=false:=by
   cases h:QD l x with
   | false=>rfl
   | true=>exact absurd (Ze.1 h) hx
  rw[h1];unfold ZB
  cases h:l[i]? with
  | none=>rfl
  | some y=>
   have:=List.mem_of_getElem? h;simp only[beq_eq_false_iff_ne];rintro rfl;exact hx this
def Jm(lo l:List Nat):Int:=match l.findIdx? (QD lo) with | some i=>i | none=>-1
theorem GS{lo l:List Nat}{k:Nat}(hk:k<l.length)(hn:∀j,j<k→(hj:j<l.length)→QD lo l[j]=false)(hh:QD lo l[k]=true):Jm lo l=k:=by
 have:l.findIdx? (QD lo)=some k:=List.findIdx?_eq_some_iff_getElem.2 ⟨hk,hh,fun j hj=>by simp[hn j hj (by omega)]⟩;rw[Jm,this]
theorem U3{lo l:List Nat}(hn:∀j,(hj:j<l.length)→QD lo l[j]=false):Jm lo l=-1:=by
 have:l.findIdx? (QD lo)=none:=List.findIdx?_eq_none_iff.2 fun x hx=>by
  obtain⟨j,hj,rfl⟩:=List.getElem_of_mem hx;exact hn j hj
 rw[Jm,this]
theorem WF(lo l:List Nat):(Jm lo l=-1∧∀x∈l,QD lo x=false)∨∃k,∃h:k<l.length,Jm lo l=(k:Int)∧QD lo l[k]=true∧∀j,j<k→(hj:j<l.length)→QD lo l[j]=false:=by
 cases h:l.findIdx? (QD lo) with
 | none=>exact .inl ⟨by rw[Jm,h],fun x hx=>List.findIdx?_eq_none_iff.1 h x hx⟩
 | some k=>
  obtain⟨hk,a,b⟩:=List.findIdx?_eq_some_iff_getElem.1 h;exact .inr ⟨k,hk,by rw[Jm,h],a,fun j hj hl=>by simpa using b j hj⟩
def dif(l lo:List Nat):List Nat:=l.filter fun x=>!QD lo x
theorem XX{l lo:List Nat}{x:Nat}:x∈dif l lo↔x∈l∧x∉lo:=by
 rw[dif,List.mem_filter];constructor
 ·rintro⟨a,b⟩;exact⟨a,fun h=>by rw[Ze.2 h]at b;cases b⟩
 ·rintro⟨a,b⟩;refine⟨a,?_⟩
  cases h:QD lo x with
  | false=>rfl
  | true=>exact absurd (Ze.1 h) b
theorem YQ{l lo:List Nat}(h:l.Pairwise (· < ·)):(dif l lo).Pairwise (· < ·):=List.Pairwise.filter _ h
theorem RQ{l lo:List Nat}(h:∀x∈l,QD lo x=false):dif l lo=l:=List.filter_eq_self.2 fun x hx=>by rw[h x hx];rfl
theorem Jn{l lo:List Nat}{j:Nat}(hj:j<l.length)(h:QD lo l[j]=false):dif (l.take (j+1)) lo=dif (l.take j) lo++[l[j]]:=by
 rw[List.take_succ_eq_append_getElem hj,dif,List.filter_append];simp[dif,h]
theorem Xs{l lo:List Nat}{j:Nat}(hj:j<l.length)(h:QD lo l[j]=true):dif (l.take (j+1)) lo=dif (l.take j) lo:=by
 rw[List.take_succ_eq_append_getElem hj,dif,List.filter_append];simp[dif,h]
theorem Vb{l lo:List Nat}:∀{k:Nat},k≤l.length→(∀j,j<k→(hj:j<l.length)→QD lo l[j]=false)→dif (l.take k) lo=l.take k:=by
 intro k _ h;refine RQ fun x hx=>?_;obtain⟨j,hj,rfl⟩:=List.getElem_of_mem hx;rw[List.getElem_take];rw[List.length_take]at hj;exact h j (by omega) (by omega)
theorem QbU{kept mid rest:List Nat}{x y:Nat}(hm:mid≠[]):∃mid':List Nat,mid'.length=mid.length∧(kept++(mid++(x::rest))).set kept.length y=kept++[y]++(mid'++rest):=by
 match mid,hm with
 | m::ms,_=>
  refine⟨ms++[x],by simp,?_⟩;rw[List.set_append_right _ _ (Qi _)];simp
theorem We(l:List Nat)(i y:Nat):(Qe l).set i (.int .i64 y)=Qe (l.set i y):=by simp[Qe,List.map_set]
theorem Qe6(l:List Nat)(base:Nat)(v:Value)(w:World)(h:w.ownsRow base 143 1 v l.length (Qe l))(hl:l.length≤3000000):
  Calls prog 116 #[.agg #[v]] w fun e w'=>∃v',e=.returned v'∧w'.ownsRow w.heap.size 143 1 v' l.length (Qe l)∧Below w.heap.size w w':=by
 obtain⟨p,c,rfl⟩:=Qa h;go_enter func116,ntmps116;go_wp2_with fail;refine(QkV l base _ _ (h.alloc _) hl).mono ?_;rintro e w1 ⟨v1,rfl,o1,f1⟩;have O1:Hid (w1.ownsRow w.heap.size 143 1 v1 l.length (Qe l)∧Below w.heap.size w w1):=⟨Qj o1 (by simp),((Below.refl _ _).alloc (Nat.le_refl _) _).trans (f1.mono (by simp))⟩;clear o1 f1;go_wp2_with fail;go_ret;exact⟨v1,rfl,O1.o.1,O1.o.2⟩
theorem N6(l:List Nat)(x base:Nat)(v:Value)(w:World)(h:w.ownsRow base 143 1 v l.length (Qe l))(hsrt:Hid (l.Pairwise (· < ·)))(hl:l.length≤1000000):
  Calls prog 130 #[.agg #[v],.int .i64 x] w fun e w'=>e=.returned (.bool (QD l x))∧Below w.heap.size w w':=by
 obtain⟨p,c,rfl⟩:=Qa h;go_enter func130,ntmps130;go_wp2_with fail;refine(VV l x hsrt base _ _ (h.alloc _) hl).mono ?_;rintro e w1 ⟨hw1,i,hi,hsp,rfl⟩;have F:Hid (Below w.heap.size w w1):=by rw[hw1];exact(Below.refl _ _).alloc (Qi _) _
 rw[Qah hsrt.out hsp];clear hw1 hsp;go_wp2_with fail;go_ret;exact⟨rfl,F.o⟩
theorem Qlp(l lo:List Nat)(base B2:Nat)(v vo:Value)(w:World)(h:w.ownsRow base 143 1 v l.length (Qe l))(ho:w.ownsRow B2 143 1 vo lo.length (Qe lo))(hsrt:Hid (lo.Pairwise (· < ·)))(hl:l.length≤1000000)(hlo:lo.length≤1000000):
  Calls prog 203 #[v,.func (.func 130) #[.agg #[vo]] #[]] w fun e w'=>e=.returned (.int .i64 (Jm lo l))∧Below w.heap.size w w':=by
 obtain⟨p,c,rfl⟩:=Qa h;obtain⟨po,co,rfl⟩:=Qa ho;go_enter func203,ntmps203;go_wp2_with fail
 go_loopw [8] (fun i wr=>∃k:Nat,k≤l.length∧i=.int .i64 k∧Hid (∀j,j<k→(hj:j<l.length)→QD lo l[j]=false)∧Hid (Below w.heap.size w wr)) (fun i _=>l.length-(intOf i).toNat)
 case atStart=>exact⟨0,by omega,rfl,fun j hj=>by omega,Below.refl _ _⟩
 case round=>
  obtain⟨k,hk,rfl,HN,F⟩:=hrel;have hz:=F.o.size;by_cases hlt:k<l.length
  ·obtain⟨g,rfl,_,hgl⟩:=Qk h (by omega);have c0:wr.cell? ⟨g,k,none⟩=_:=(F.o.cell (p:=⟨g,k,none⟩) hgl).trans (Qf h (QY hlt));have ho2:=Qc (Qd ho (Qh F.o) trivial);go_wp2_with fail;refine(N6 lo l[k] B2 _ wr ho2.out hsrt hlo).mono ?_;rintro e w2 ⟨rfl,f2⟩;have F2:=Qc (F.o.trans (f2.mono hz));clear f2 c0
   cases hh:QD lo l[k] with
   | true=>
    have HF:=Qc (GS hlt HN.o hh);clear hh;go_wp2_with fail;go_ret;exact⟨by rw[HF.o];rfl,F2.o⟩
   | false=>
    have HN2:Hid (∀j,j<k+1→(hj:j<l.length)→QD lo l[j]=false):=fun j hj hjl=>by
     by_cases e:j=k
     ·subst e;exact hh
     ·exact HN.o j (by omega) hjl
    clear hh;go_wp2_with fail;go_roundw
    case rel=>exact⟨k+1,by omega,by go_num,HN2,F2⟩
    case measure=>simp[intOf];omega
  ·have HF:=Qc (U3 (lo:=lo) (l:=l) fun j hj=>HN.o j (by omega) hj);go_wp2_with fail;go_ret;exact⟨by rw[HF.o];rfl,F.o⟩
theorem QlA(l lo:List Nat)(base B2:Nat)(v vo:Value)(w0 w:World)(h:w.ownsRow base 143 1 v l.length (Qe l))(ho:w0.ownsRow B2 143 1 vo lo.length (Qe lo))(F:Below w0.heap.size w0 w)(hB:w0.heap.size≤base)(hsrt:Hid (lo.Pairwise (· < ·)))(hl:l.length≤1000000)(hlo:lo.length≤1000000):
  Calls prog 167 #[v,.func (.func 130) #[.agg #[vo]] #[]] w fun e w'=>∃v',e=.returned v'∧Hid (w'.ownsRow base 143 1 v' (dif l lo).length (Qe (dif l lo))∧Below w0.heap.size w0 w'):=by
 obtain⟨p,c,rfl⟩:=Qa h;obtain⟨po,co,rfl⟩:=Qa ho;have HO:=Qc ho;have HF:=Qc F;go_enter func167,ntmps167;go_wp2_with fail;refine(Qlp l lo base B2 _ _ w h (Qd ho (Qh F) trivial) hsrt hl hlo).mono ?_;rintro e w1 ⟨rfl,f1⟩;have o1:=Qd h (Qh f1) trivial;have F1:=Qc (F.trans (f1.mono F.size));clear f1 h F HF ho;rcases WF lo l with ⟨hf,hall⟩ | ⟨k,hk,hf,hin,hnot⟩
 ·rw[hf];have HD:=Qc (And.intro (RQ hall) o1);clear hf hall o1;go_wp2_with fail;go_ret;exact⟨_,rfl,by rw[HD.o.1];exact HD.o.2,F1.o⟩
 ·rw[hf];obtain⟨g,rfl,hgb,_⟩:=Qk o1 (by omega);have HK:Hid (dif (l.take (k+1)) lo=l.take k):=by show _=_;rw[Xs hk hin,Vb (by omega) hnot]
  have hd:((k:Int)==-1)=false:=by simp
  have S0:Hid (l.take k++([l[k]]++l.drop (k+1))=l):=by show _=_;simp
  have hkl:k<1000000:=by omega
  clear hf hin hnot;go_wp2_with fail
  go_loopw [5,6] (fun i j wr=>∃q t:Nat,k<t∧t≤l.length∧q<t∧i=.int .i64 q∧j=.int .i64 t∧(∃mid:List Nat,Hid (q=(dif (l.take t) lo).length∧mid.length=t-q∧wr.ownsRow base 143 1 (.slice (some ⟨g,0,none⟩) l.length c) l.length (Qe (dif (l.take t) lo++(mid++l.drop t)))))∧Hid (Below w0.heap.size w0 wr)) (fun _ j _=>l.length-(intOf j).toNat)
  case atStart=>exact⟨k,k+1,by omega,by omega,by omega,rfl,by go_num,⟨[l[k]],by rw[HK.o,List.length_take];omega,by simp,by rw[HK.o,S0.o];exact o1⟩,F1⟩
  case round=>
   clear o1 F1;obtain⟨q,t,hkt,ht,hqt,rfl,rfl,⟨mid,HM⟩,F⟩:=hrel;have hz:=F.o.size;by_cases hlt:t<l.length
   ·have hdt:l.drop t=l[t]::l.drop (t+1):=List.drop_eq_getElem_cons hlt;have c0:wr.cell? ⟨g,t,none⟩=some (.int .i64 l[t]):=by
     have hx:(Qe (dif (l.take t) lo++(mid++l.drop t)))[t]?=some (.int .i64 l[t]):=by
      have e1:(dif (l.take t) lo++(mid++l.drop t))[t]?=some l[t]:=by
       rw[hdt,←List.append_assoc,List.getElem?_append_right (by rw[Qw];have:=HM.o.1;have:=HM.o.2.1;omega)];rw[Qw,show t-((dif (l.take t) lo).length+mid.length)=0 by have:=HM.o.1;have:=HM.o.2.1;omega];rfl
      rw[Qe,List.getElem?_map,e1];rfl
     exact Qf HM.o.2.2 hx
    have ho2:=Qc (Qd HO.o (Qh F.o) trivial);go_wp2_with fail;refine(N6 lo l[t] B2 _ wr ho2.out hsrt hlo).mono ?_;rintro e w2 ⟨rfl,f2⟩;have F2:=Qc (F.o.trans (f2.mono hz));have o2:=Qd HM.o.2.2 (Qh f2) trivial;clear f2 c0 ho2
    cases hh:QD lo l[t] with
    | true=>
     have HM2:Hid (q=(dif (l.take (t+1)) lo).length∧(mid++[l[t]]).length=t+1-q∧w2.ownsRow base 143 1 (.slice (some ⟨g,0,none⟩) l.length c) l.length (Qe (dif (l.take (t+1)) lo++((mid++[l[t]])++l.drop (t+1))))):=by
      refine⟨by rw[Xs hlt hh];exact HM.o.1,by simp;have:=HM.o.2.1;omega,?_⟩;rw[Xs hlt hh,List.append_assoc,List.singleton_append,←hdt];exact o2
     clear hh hdt o2;go_wp2_with fail;go_roundw
     case rel=>exact⟨q,t+1,by omega,by omega,by omega,rfl,by go_num,⟨_,HM2⟩,F2⟩
     case measure=>simp[intOf];omega
    | false=>
     have hfz:=Xz o2 q;have hq1:=HM.o.1;have hq2:=HM.o.2.1;have hcq:∃u,w2.cell? ⟨g,q,none⟩=some u:=by
      have hx:∃u,(Qe (dif (l.take t) lo++(mid++l.drop t)))[q]?=some u:=⟨_,List.getElem?_eq_getElem (by simp[Qe];omega)⟩;obtain⟨u,hu⟩:=hx;exact⟨u,Qf o2 hu⟩
     obtain⟨u,hu⟩:=hcq;obtain⟨mid',hm1,hm2⟩:=QbU (kept:=dif (l.take t) lo) (mid:=mid) (rest:=l.drop (t+1)) (x:=l[t]) (y:=l[t]) (by intro e;rw[e]at hq2;simp at hq2;omega);have HM2:Hid (q+1=(dif (l.take (t+1)) lo).length∧mid'.length=t+1-(q+1)∧(w2.setCell ⟨g,q,none⟩ (.int .i64 l[t])).ownsRow base 143 1 (.slice (some ⟨g,0,none⟩) l.length c) l.length (Qe (dif (l.take (t+1)) lo++(mid'++l.drop (t+1))))):=by
      refine⟨by rw[Jn hlt hh];simp;omega,by omega,?_⟩;rw[Jn hlt hh,←hm2,←hq1,←hdt,←We];exact ZA o2 q _
     have F3:=Qc (Qp F2.o g q (.int .i64 l[t]) (by omega));have hql:q<l.length:=by omega
     clear hh hdt o2 hm2 hq1;go_wp2_with fail;go_roundw
     case rel=>exact⟨q+1,t+1,by omega,by omega,by omega,by go_num,by go_num,⟨_,HM2⟩,F3⟩
     case measure=>simp[intOf];omega
   ·have hte:t=l.length:=by omega
    subst hte;obtain⟨hq1,hq2,o2⟩:=HM.o;have hzv:∀w,(zeroValue 143).run prog w=.ok (.int .i64 0) w:=fun w=>by kernel_rfl
    have hcl:∀ty,(Builtin.clear_ #[80] ty #[.slice (some ⟨g,q,none⟩) (l.length-q) (c-q)]).run prog wr=.ok (.tuple #[]) (wr.setCells g q (List.replicate (l.length-q) (.int .i64 0))):=
     fun ty=>Lib.run_clear_slice wr _ _ ty _ underlying80 hzv rfl rfl g q _ _ (by omega) (fun t ht=>by
      have hx:∃u,(Qe (dif (l.take l.length) lo++(mid++l.drop l.length)))[q+t]?=some u:=⟨_,List.getElem?_eq_getElem (by simp[Qe]at hq1 hq2 ⊢;omega)⟩;obtain⟨u,hu⟩:=hx;rw[Qf o2 hu];rfl) (fun t _=>Xz o2 _)
    have HE:Hid (∃xs',(wr.setCells g q (List.replicate (l.length-q) (.int .i64 0))).ownsRow base 143 1 (.slice (some ⟨g,0,none⟩) l.length c) l.length xs'∧xs'.take q=Qe (dif l lo)):=by
     obtain⟨xs',a,b⟩:=Ko (List.replicate (l.length-q) (.int .i64 0)) q wr _ o2;refine⟨xs',a,b.trans ?_⟩;rw[List.take_length]at hq1 ⊢;rw[KI,hq1,List.take_left' (by simp[Qe])]
    have F3:=Qc (J4 (base:=w0.heap.size) (g:=g) (by omega) (List.replicate (l.length-q) (.int .i64 0)) q wr F.o);have HQ:Hid (q=(dif l lo).length):=by rw[List.take_length]at hq1;exact hq1
    have hnc:l.length≤c:=by
     rcases o2.2 with ⟨h0,_⟩|⟨_,_,_,hv,_,_,hn,_⟩
     ·cases h0
     ·cases hv;exact hn
    have hcm:c≤9223372036854775807:=by
     rcases o2.2 with ⟨h0,_⟩|⟨_,_,_,hv,_,_,_,hn,_⟩
     ·cases h0
     ·cases hv;unfold maxLen at hn;omega
    clear o2 hq1 hq2 HM hzv;go_wp2_with fail;go_ret;obtain⟨xs',a,b⟩:=HE.o;refine⟨_,rfl,?_,F3.o⟩;have:=NK a (m:=q) (by omega);rw[b]at this;rw[←HQ.o];exact this
theorem Yf(w:World)(o0 o1 o2:Obj):(((w.alloc o0).alloc o1).alloc o2).heap[w.heap.size]?=some o0∧(((w.alloc o0).alloc o1).alloc o2).heap[w.heap.size+1]?=some o1∧(((w.alloc o0).alloc o1).alloc o2).heap[w.heap.size+1+1]?=some o2∧(((w.alloc o0).alloc o1).alloc o2).heap.size=w.heap.size+3∧Below w.heap.size w (((w.alloc o0).alloc o1).alloc o2):=by
 have h1:=heap_alloc_last (w.alloc o0) o1;have h2:=heap_alloc_last ((w.alloc o0).alloc o1) o2;rw[Qt]at h1;rw[Qt,Qt]at h2;exact⟨Qo (Qo (heap_alloc_last _ _) _) _,Qo h1 _,h2,by simp,(((Below.refl _ _).alloc (Nat.le_refl _) _).alloc (by simp) _).alloc (by simp;omega) _⟩
theorem QkP(w:World)(n o o':Nat)(x:Value):(w.setCell ⟨n+1+1,o,none⟩ x).cell? ⟨n,o',none⟩=w.cell? ⟨n,o',none⟩:=World.cell?_setCell_far _ _ _ _ (by simp;omega)
theorem QkQ(w:World)(n o o':Nat)(x:Value):(w.setCell ⟨n+1+1,o,none⟩ x).cell? ⟨n+1,o',none⟩=w.cell? ⟨n+1,o',none⟩:=World.cell?_setCell_far _ _ _ _ (by simp)
theorem QjU(a b:List Nat)(B1 B2:Nat)(va vb:Value)(w:World)(ha:w.ownsRow B1 143 1 va a.length (Qe a))(hb:w.ownsRow B2 143 1 vb b.length (Qe b))(la:a.length≤1000000)(lb:b.length≤1000000):
  Calls prog 160 #[va,vb] w fun x w'=>x=.returned (.bool (eqF a b))∧∃n,w'=w.drewN n:=GT a b B1 B2 va vb w ha hb la lb
theorem Wc(a b:List Nat)(B1 B2:Nat)(va vb:Value)(w:World)(ha:w.ownsRow B1 143 1 va a.length (Qe a))(hb:w.ownsRow B2 143 1 vb b.length (Qe b))(hsb:Hid (b.Pairwise (· < ·)))(hla:a.length≤1000000)(hlb:b.length≤1000000):
  Calls prog 118 #[.agg #[va],.agg #[vb]] w fun e w'=>∃v',e=.returned (.agg #[v'])∧w'.ownsRow w.heap.size 143 1 v' (dif a b).length (Qe (dif a b))∧Below w.heap.size w w':=by
 obtain⟨pa,ca,rfl⟩:=Qa ha;obtain⟨pb,cb,rfl⟩:=Qa hb;have hmf:∀(fn:Fn)(first cap:Array Value)(w:World),(Instr.makeFunc fn first cap).run prog w=.ok (.func fn first cap) w:=fun _ _ _ _=>rfl
 go_enter func118,ntmps118;go_wp2_with fail;obtain⟨W2,hW2⟩:∃W2,W2=((w.alloc (.cells #[.slice pa a.length ca] 82)).alloc (.cells #[.slice pb b.length cb] 82)).alloc (.cells #[.slice none 0 0] 82):=⟨_,rfl⟩;rw[←hW2];obtain⟨g0,g1,g2,hz,f2⟩:=Yf w (.cells #[.slice pa a.length ca] 82) (.cells #[.slice pb b.length cb] 82) (.cells #[.slice none 0 0] 82);rw[←hW2]at g0 g1 g2 hz f2;have k0:=Qb g0 0;have k1:=Qb g1 0;have k2:=Qb g2 0;have k3:=Qg g2 0;simp at k0 k1 k2;have O2:=Qc (And.intro (Qd ha (Qh f2) trivial) (Qd hb (Qh f2) trivial));have F2:=Qc f2;have l0:w.heap.size<W2.heap.size:=by omega
 have l1:w.heap.size+1<W2.heap.size:=by omega
 have l2:w.heap.size+1+1<W2.heap.size:=by omega
 clear hW2 ha hb g0 g1 g2 f2
 go_region_held (fun w'=>w'.cell? ⟨w.heap.size,0,none⟩=some (.slice pa a.length ca)∧w'.cell? ⟨w.heap.size+1,0,none⟩=some (.slice pb b.length cb)∧w'.frozen? ⟨w.heap.size+1+1,0,none⟩=false) (simp[*,QkQ,QkP])
  (first | (go_at_call 116;refine(Qe6 a B1 _ W2.drew O2.o.1 (by omega)).mono ?_;rintro e w5 ⟨v5,rfl,o5,f5⟩;have f5':Below W2.heap.size W2 w5:=⟨f5.os,f5.tape,f5.output,f5.size,f5.block⟩;have y0:=f5'.cell (p:=⟨w.heap.size,0,none⟩) l0;have y1:=f5'.cell (p:=⟨w.heap.size+1,0,none⟩) l1;have y2:=f5'.cell (p:=⟨w.heap.size+1+1,0,none⟩) l2;have y3:=f5'.frozen (p:=⟨w.heap.size+1+1,0,none⟩) l2) | (go_at_call 167;refine(QlA a b W2.heap.size B2 v5 (.slice pb b.length cb) W2 w5 o5 O2.o.2 f5' (Qi _) hsb hla hlb).mono ?_;rintro e w6 ⟨v6,rfl,H6⟩;obtain⟨p6,c6,rfl⟩:=Qa H6.o.1;have z0:=H6.o.2.cell (p:=⟨w.heap.size,0,none⟩) l0;have z1:=H6.o.2.cell (p:=⟨w.heap.size+1,0,none⟩) l1;have z2:=H6.o.2.cell (p:=⟨w.heap.size+1+1,0,none⟩) l2;have z3:=H6.o.2.frozen (p:=⟨w.heap.size+1+1,0,none⟩) l2))
 all_goals
  go_wp2_with fail;refine bodyPost_ret (v:=.agg #[.slice p6 (dif a b).length c6]) (by simp[results,results118,go_sem,z2,k2]) rfl ⟨_,rfl,?_,?_⟩
  ·exact Qj (QE H6.o.1 _ 0 _ l2) (by omega)
  ·exact Qp (F2.o.trans (H6.o.2.mono (by omega))) _ _ _ (by omega)
theorem G9(a b:List Nat)(B1 B2:Nat)(va vb:Value)(w:World)(ha:w.ownsRow B1 143 1 va a.length (Qe a))(hb:w.ownsRow B2 143 1 vb b.length (Qe b))(hla:a.length≤1000000)(hlb:b.length≤1000000):
  Calls prog 165 #[.agg #[va],.agg #[vb]] w fun e w'=>∃v',e=.returned (.agg #[v'])∧w'.ownsRow w.heap.size 143 1 v' (ofL (a++b)).length (Qe (ofL (a++b)))∧Below w.heap.size w w':=by
 obtain⟨pa,ca,rfl⟩:=Qa ha;obtain⟨pb,cb,rfl⟩:=Qa hb;have hab:(a++b).length≤3000000:=by rw[Qw];omega
 obtain⟨ab,HAB⟩:∃ab,Hid (ab=a++b):=⟨_,rfl⟩;rw[←HAB.o]at hab ⊢;go_enter func165,ntmps165;go_wp2_with fail;obtain⟨W3,hW3⟩:∃W3,W3=((w.alloc (.cells #[.slice pa a.length ca] 82)).alloc (.cells #[.slice pb b.length cb] 82)).alloc (.cells #[.slice none 0 0] 82):=⟨_,rfl⟩;rw[←hW3];obtain⟨_,_,g2,hz,f3⟩:=Yf w (.cells #[.slice pa a.length ca] 82) (.cells #[.slice pb b.length cb] 82) (.cells #[.slice none 0 0] 82);rw[←hW3]at g2 hz f3;have g3:=heap_alloc_last W3 (.cells #[.slice pa a.length ca,.slice pb b.length cb] 80);have f4:Below w.heap.size w (W3.alloc (.cells #[.slice pa a.length ca,.slice pb b.length cb] 80)):=f3.alloc (by omega) _;rw[show w.heap.size+1+1+1=W3.heap.size by omega];refine(Qh9 a b B1 B2 _ _ _ (Qd ha (Qh f4) trivial) (Qd hb (Qh f4) trivial) hla hlb _ 2 g3).mono ?_;rintro e w5 ⟨v5,rfl,o5,f5⟩;rw[←HAB.o]at o5;have F5:=Qc (And.intro o5 (And.intro f5 (And.intro f4 (And.intro g2 (And.intro hz hW3)))));obtain⟨p5,c5,rfl⟩:=Qa o5;clear ha hb hW3 g2 g3 f3 f4 f5 o5;go_wp2_with fail;refine(ofB ab _ _ w5 F5.o.1 hab).mono ?_;rintro e w6 ⟨v6,rfl,o6,f6⟩;obtain⟨p6,c6,rfl⟩:=Qa o6;obtain⟨_,f5,f4,g2,hz,hW3⟩:=F5.o;have hs5:W3.heap.size+1≤w5.heap.size:=by have:=f5.size;rw[Qt]at this;exact this
 have g6:w6.heap[w.heap.size+1+1]?=some (.cells #[.slice none 0 0] 82 (0,0)):=by rw[f6.block _ (by omega),f5.block _ (by rw[Qt];omega)];exact Qo g2 _
 have k2:=Qb g6 0;have k3:=Qg g6 0;simp at k2;have l5:w.heap.size+1+1<w5.heap.size:=by omega
 have F6:=Qc (And.intro (Qj (QE o6 _ 0 (.slice p6 (ofL ab).length c6) l5) (show w.heap.size≤w5.heap.size by omega)) (Qp ((f4.trans (f5.mono (by rw[Qt];omega))).trans (f6.mono (by omega))) (w.heap.size+1+1) 0 (.slice p6 (ofL ab).length c6) (by omega)));clear g6 f6 o6 f5 f4 g2 hW3 F5 hz hs5 l5;go_wp2_with fail;refine bodyPost_ret (v:=.agg #[.slice p6 (ofL ab).length c6]) (by simp[results,results165,go_sem,k2]) rfl ⟨_,rfl,?_,?_⟩
 ·exact F6.o.1
 ·exact F6.o.2
theorem Qiv(a b:List Nat)(B1 B2:Nat)(va vb:Value)(w:World)(ha:w.ownsRow B1 143 1 va a.length (Qe a))(hb:w.ownsRow B2 143 1 vb b.length (Qe b))(hla:a.length≤1000000)(hlb:b.length≤1000000):
  Calls prog 284 #[.agg #[va],.agg #[vb]] w fun e w'=>e=.returned (.bool (eqF a b))∧Below w.heap.size w w':=by
 obtain⟨pa,ca,rfl⟩:=Qa ha;obtain⟨pb,cb,rfl⟩:=Qa hb;go_enter func284,ntmps284;go_wp2_with fail;refine(QjU a b B1 B2 _ _ _ ((ha.alloc _).alloc _) ((hb.alloc _).alloc _) hla hlb).mono ?_;rintro e w1 ⟨rfl,n,hw1⟩;have F1:Hid (Below w.heap.size w w1):=by rw[hw1];exact below_drewN (((Below.refl _ _).alloc (Nat.le_refl _) _).alloc (by simp) _) _
 clear hw1;go_wp2_with fail;go_ret;exact⟨rfl,F1.o⟩
end Go.Proofs.YtgfhfkgdmidhpaaGreatDoor
