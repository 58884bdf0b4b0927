import Derived.Test.YtgfhfkgdmidhpaaGreatDoorC13
namespace Go.Proofs.YtgfhfkgdmidhpaaGreatDoor
open Go.RowKit
set_option maxRecDepth 100000
set_option maxHeartbeats 8000000
theorem Qdr{w:World}{base e g c n m:Nat}{xs:List Value}(h:w.ownsRow base e 1 (.slice (some ⟨g,0,none⟩) n c) n xs)(hm:m≤n):w.ownsRow base e 1 (.slice (some ⟨g,0,none⟩) m c) m (xs.take m):=by
 obtain⟨h1,h2⟩:=h;rcases h2 with ⟨h0,_⟩|⟨g',c',cur,hv,hb,hh,hn,hc,hs,ht⟩
 ·cases h0
 ·cases hv;refine⟨by simp;omega,.inr ⟨g,c,cur,rfl,hb,hh,by omega,hc,hs,?_⟩⟩;rw[←ht,List.take_take]
  congr 1
  omega
theorem YD{base e g c n:Nat}:∀(vs:List Value)(o:Nat)(w:World)(xs:List Value),w.ownsRow base e 1 (.slice (some ⟨g,0,none⟩) n c) n xs→∃xs',(w.setCells g o vs).ownsRow base e 1 (.slice (some ⟨g,0,none⟩) n c) n xs'∧xs'.take o=xs.take o
 | [],_,_,xs,h=>⟨xs,h,rfl⟩
 | v::vs,o,w,xs,h=>by
  obtain⟨xs',a,b⟩:=YD vs (o+1) (w.setCell ⟨g,o,none⟩ v) (xs.set o v) (Zz h o v);refine⟨xs',a,?_⟩;have:=congrArg (List.take o) b;rw[List.take_take,List.take_take,Nat.min_eq_left (by omega),List.take_set_of_le (Nat.le_refl _)]at this;exact this
theorem Yj{base g:Nat}{u:World}(hg:base≤g):∀(vs:List Value)(o:Nat)(w:World),Below base u w→Below base u (w.setCells g o vs)
 | [],_,_,h=>h
 | v::vs,o,_,h=>Yj hg vs (o+1) _ (Qr h g o v hg)
theorem ZJ{l:List Nat}{x:Nat}:Qt l x=true↔x∈l:=by simp[Qt]
theorem Ns{l:List Nat}{x i:Nat}(hsrt:l.Pairwise (· < ·))(hs:Kh l x i):Zi l x i=Qt l x:=by
 by_cases hx:x∈l
 ·rw[ZJ.2 hx];obtain⟨k,hk,he⟩:=List.getElem_of_mem hx;have hki:¬k<i:=fun h=>by have:=hs.1 k h hk;omega
  have hle:=hs.2 i (Nat.le_refl _) (by omega);have hie:i=k:=by
   rcases Nat.lt_or_ge i k with h|h
   ·have:=List.pairwise_iff_getElem.1 hsrt i k (by omega) hk h;omega
   ·omega
  subst hie;simp[Zi,hk,he]
 ·have h1:Qt l x=false:=by
   cases h:Qt l x with
   | false=>rfl
   | true=>exact absurd (ZJ.1 h) hx
  rw[h1];unfold Zi
  cases h:l[i]? with
  | none=>rfl
  | some y=>
   have:=List.mem_of_getElem? h;simp only[beq_eq_false_iff_ne];rintro rfl;exact hx this
def Jw(lo l:List Nat):Int:=match l.findIdx? (Qt lo) with | some i=>i | none=>-1
theorem Qcj{lo l:List Nat}{k:Nat}(hk:k<l.length)(hn:∀j,j<k→(hj:j<l.length)→Qt lo l[j]=false)(hh:Qt lo l[k]=true):Jw lo l=k:=by
 have:l.findIdx? (Qt lo)=some k:=List.findIdx?_eq_some_iff_getElem.2 ⟨hk,hh,fun j hj=>by simp[hn j hj (by omega)]⟩;rw[Jw,this]
theorem Qaq{lo l:List Nat}(hn:∀j,(hj:j<l.length)→Qt lo l[j]=false):Jw lo l=-1:=by
 have:l.findIdx? (Qt lo)=none:=List.findIdx?_eq_none_iff.2 fun x hx=>by
  obtain⟨j,hj,rfl⟩:=List.getElem_of_mem hx;exact hn j hj
 rw[Jw,this]
theorem Nw(lo l:List Nat):(Jw lo l=-1∧∀x∈l,Qt lo x=false)∨∃k,∃h:k<l.length,Jw lo l=(k:Int)∧Qt lo l[k]=true∧∀j,j<k→(hj:j<l.length)→Qt lo l[j]=false:=by
 cases h:l.findIdx? (Qt lo) with
 | none=>exact .inl ⟨by rw[Jw,h],fun x hx=>List.findIdx?_eq_none_iff.1 h x hx⟩
 | some k=>
  obtain⟨hk,a,b⟩:=List.findIdx?_eq_some_iff_getElem.1 h;exact .inr ⟨k,hk,by rw[Jw,h],a,fun j hj hl=>by simpa using b j hj⟩
def dif(l lo:List Nat):List Nat:=l.filter fun x=>!Qt lo x
theorem GX{l lo:List Nat}{x:Nat}:x∈dif l lo↔x∈l∧x∉lo:=by
 rw[dif,List.mem_filter];constructor
 ·rintro⟨a,b⟩;exact⟨a,fun h=>by rw[ZJ.2 h]at b;cases b⟩
 ·rintro⟨a,b⟩;refine⟨a,?_⟩
  cases h:Qt lo x with
  | false=>rfl
  | true=>exact absurd (ZJ.1 h) b
theorem GW{l lo:List Nat}(h:l.Pairwise (· < ·)):(dif l lo).Pairwise (· < ·):=List.Pairwise.filter _ h
theorem Qbm{l lo:List Nat}(h:∀x∈l,Qt lo x=false):dif l lo=l:=List.filter_eq_self.2 fun x hx=>by rw[h x hx];rfl
theorem YG{l lo:List Nat}{j:Nat}(hj:j<l.length)(h:Qt lo l[j]=false):dif (l.take (j+1)) lo=dif (l.take j) lo++[l[j]]:=by
 rw[List.take_succ_eq_append_getElem hj,dif,List.filter_append];simp[dif,h]
theorem Kc{l lo:List Nat}{j:Nat}(hj:j<l.length)(h:Qt lo l[j]=true):dif (l.take (j+1)) lo=dif (l.take j) lo:=by
 rw[List.take_succ_eq_append_getElem hj,dif,List.filter_append];simp[dif,h]
theorem Uv{l lo:List Nat}:∀{k:Nat},k≤l.length→(∀j,j<k→(hj:j<l.length)→Qt lo l[j]=false)→dif (l.take k) lo=l.take k:=by
 intro k _ h;refine Qbm fun x hx=>?_;obtain⟨j,hj,rfl⟩:=List.getElem_of_mem hx;rw[List.getElem_take];rw[List.length_take]at hj;exact h j (by omega) (by omega)
theorem Qf3{kept mid rest:List Nat}{x y:Nat}(hm:mid≠[]):∃mid':List Nat,mid'.length=mid.length∧(kept++(mid++(x::rest))).set kept.length y=kept++[y]++(mid'++rest):=by
 match mid,hm with
 | m::ms,_=>
  refine⟨ms++[x],by simp,?_⟩;rw[List.set_append_right _ _ (Nat.le_refl _)];simp
theorem Qcg(l:List Nat)(i y:Nat):(Qg l).set i (.int .i64 y)=Qg (l.set i y):=by simp[Qg,List.map_set]
theorem Qi3(l:List Nat)(base:Nat)(v:Value)(w:World)(h:w.ownsRow base 143 1 v l.length (Qg l))(hl:l.length≤3000000):
  Calls Tryz.prog 116 #[.agg #[v]] w fun e w'=>∃v',e=.returned v'∧w'.ownsRow w.heap.size 143 1 v' l.length (Qg l)∧Below w.heap.size w w':=by
 obtain⟨p,c,rfl⟩:=Qb h;go_enter Tryz.func116,Tryz.ntmps116;go_wp2_with fail;refine(Qjc l base _ _ (h.alloc _) hl).mono ?_;rintro e w1 ⟨v1,rfl,o1,f1⟩;have O1:Hid (w1.ownsRow w.heap.size 143 1 v1 l.length (Qg l)∧Below w.heap.size w w1):=⟨Qm o1 (by simp),((Below.refl _ _).alloc (Nat.le_refl _) _).trans (f1.mono (by simp))⟩;clear o1 f1;go_wp2_with fail;go_ret;exact⟨v1,rfl,O1.o.1,O1.o.2⟩
theorem Qba(l:List Nat)(x base:Nat)(v:Value)(w:World)(h:w.ownsRow base 143 1 v l.length (Qg l))(hsrt:Hid (l.Pairwise (· < ·)))(hl:l.length≤1000000):
  Calls Tryz.prog 130 #[.agg #[v],.int .i64 x] w fun e w'=>e=.returned (.bool (Qt l x))∧Below w.heap.size w w':=by
 obtain⟨p,c,rfl⟩:=Qb h;go_enter Tryz.func130,Tryz.ntmps130;go_wp2_with fail;refine(Vj l x hsrt base _ _ (h.alloc _) hl).mono ?_;rintro e w1 ⟨hw1,i,hi,hsp,rfl⟩;have F:Hid (Below w.heap.size w w1):=by rw[hw1];exact(Below.refl _ _).alloc (Nat.le_refl _) _
 rw[Ns hsrt.out hsp];clear hw1 hsp;go_wp2_with fail;go_ret;exact⟨rfl,F.o⟩
theorem Qjx(l lo:List Nat)(base B2:Nat)(v vo:Value)(w:World)(h:w.ownsRow base 143 1 v l.length (Qg l))(ho:w.ownsRow B2 143 1 vo lo.length (Qg lo))(hsrt:Hid (lo.Pairwise (· < ·)))(hl:l.length≤1000000)(hlo:lo.length≤1000000):
  Calls Tryz.prog 203 #[v,.func (.func 130) #[.agg #[vo]] #[]] w fun e w'=>e=.returned (.int .i64 (Jw lo l))∧Below w.heap.size w w':=by
 obtain⟨p,c,rfl⟩:=Qb h;obtain⟨po,co,rfl⟩:=Qb ho;go_enter Tryz.func203,Tryz.ntmps203;go_wp2_with fail
 go_loopw [8] (fun i wr=>∃k:Nat,k≤l.length∧i=.int .i64 k∧Hid (∀j,j<k→(hj:j<l.length)→Qt lo l[j]=false)∧Hid (Below w.heap.size w wr)) (fun i _=>l.length-(intOf i).toNat)
 case atStart=>exact⟨0,by omega,rfl,fun j hj=>by omega,Below.refl _ _⟩
 case round=>
  obtain⟨k,hk,rfl,HN,F⟩:=hrel;have hz:=F.o.size;by_cases hlt:k<l.length
  ·obtain⟨g,rfl,_,hgl⟩:=Qh h (by omega);have c0:wr.cell? ⟨g,k,none⟩=_:=(F.o.cell (p:=⟨g,k,none⟩) hgl).trans (Qe h (ZI hlt));have ho2:=Qc (Qd ho (Qi F.o) trivial);go_wp2_with fail;refine(Qba lo l[k] B2 _ wr ho2.out hsrt hlo).mono ?_;rintro e w2 ⟨rfl,f2⟩;have F2:=Qc (F.o.trans (f2.mono hz));clear f2 c0
   cases hh:Qt lo l[k] with
   | true=>
    have HF:=Qc (Qcj hlt HN.o hh);clear hh;go_wp2_with fail;go_ret;exact⟨by rw[HF.o];rfl,F2.o⟩
   | false=>
    have HN2:Hid (∀j,j<k+1→(hj:j<l.length)→Qt lo l[j]=false):=fun j hj hjl=>by
     by_cases e:j=k
     ·subst e;exact hh
     ·exact HN.o j (by omega) hjl
    clear hh;go_wp2_with fail;go_roundw
    case rel=>exact⟨k+1,by omega,by go_num,HN2,F2⟩
    case measure=>simp[intOf];omega
  ·have HF:=Qc (Qaq (lo:=lo) (l:=l) fun j hj=>HN.o j (by omega) hj);go_wp2_with fail;go_ret;exact⟨by rw[HF.o];rfl,F.o⟩
theorem QjH(l lo:List Nat)(base B2:Nat)(v vo:Value)(w0 w:World)(h:w.ownsRow base 143 1 v l.length (Qg l))(ho:w0.ownsRow B2 143 1 vo lo.length (Qg lo))(F:Below w0.heap.size w0 w)(hB:w0.heap.size≤base)(hsrt:Hid (lo.Pairwise (· < ·)))(hl:l.length≤1000000)(hlo:lo.length≤1000000):
  Calls Tryz.prog 167 #[v,.func (.func 130) #[.agg #[vo]] #[]] w fun e w'=>∃v',e=.returned v'∧Hid (w'.ownsRow base 143 1 v' (dif l lo).length (Qg (dif l lo))∧Below w0.heap.size w0 w'):=by
 obtain⟨p,c,rfl⟩:=Qb h;obtain⟨po,co,rfl⟩:=Qb ho;have HO:=Qc ho;have HF:=Qc F;go_enter Tryz.func167,Tryz.ntmps167;go_wp2_with fail;refine(Qjx l lo base B2 _ _ w h (Qd ho (Qi F) trivial) hsrt hl hlo).mono ?_;rintro e w1 ⟨rfl,f1⟩;have o1:=Qd h (Qi f1) trivial;have F1:=Qc (F.trans (f1.mono F.size));clear f1 h F HF ho;rcases Nw lo l with ⟨hf,hall⟩ | ⟨k,hk,hf,hin,hnot⟩
 ·rw[hf];have HD:=Qc (And.intro (Qbm hall) o1);clear hf hall o1;go_wp2_with fail;go_ret;exact⟨_,rfl,by rw[HD.o.1];exact HD.o.2,F1.o⟩
 ·rw[hf];obtain⟨g,rfl,hgb,_⟩:=Qh o1 (by omega);have HK:Hid (dif (l.take (k+1)) lo=l.take k):=by show _=_;rw[Kc hk hin,Uv (by omega) hnot]
  have hd:((k:Int)==-1)=false:=by simp
  have S0:Hid (l.take k++([l[k]]++l.drop (k+1))=l):=by show _=_;simp
  have hkl:k<1000000:=by omega
  clear hf hin hnot;go_wp2_with fail
  go_loopw [5,6] (fun i j wr=>∃q t:Nat,k<t∧t≤l.length∧q<t∧i=.int .i64 q∧j=.int .i64 t∧(∃mid:List Nat,Hid (q=(dif (l.take t) lo).length∧mid.length=t-q∧wr.ownsRow base 143 1 (.slice (some ⟨g,0,none⟩) l.length c) l.length (Qg (dif (l.take t) lo++(mid++l.drop t)))))∧Hid (Below w0.heap.size w0 wr)) (fun _ j _=>l.length-(intOf j).toNat)
  case atStart=>exact⟨k,k+1,by omega,by omega,by omega,rfl,by go_num,⟨[l[k]],by rw[HK.o,List.length_take];omega,by simp,by rw[HK.o,S0.o];exact o1⟩,F1⟩
  case round=>
   clear o1 F1;obtain⟨q,t,hkt,ht,hqt,rfl,rfl,⟨mid,HM⟩,F⟩:=hrel;have hz:=F.o.size;by_cases hlt:t<l.length
   ·have hdt:l.drop t=l[t]::l.drop (t+1):=List.drop_eq_getElem_cons hlt;have c0:wr.cell? ⟨g,t,none⟩=some (.int .i64 l[t]):=by
     have hx:(Qg (dif (l.take t) lo++(mid++l.drop t)))[t]?=some (.int .i64 l[t]):=by
      have e1:(dif (l.take t) lo++(mid++l.drop t))[t]?=some l[t]:=by
       rw[hdt,←List.append_assoc,List.getElem?_append_right (by rw[List.length_append];have:=HM.o.1;have:=HM.o.2.1;omega)];rw[List.length_append,show t-((dif (l.take t) lo).length+mid.length)=0 by have:=HM.o.1;have:=HM.o.2.1;omega];rfl
      rw[Qg,List.getElem?_map,e1];rfl
     exact Qe HM.o.2.2 hx
    have ho2:=Qc (Qd HO.o (Qi F.o) trivial);go_wp2_with fail;refine(Qba lo l[t] B2 _ wr ho2.out hsrt hlo).mono ?_;rintro e w2 ⟨rfl,f2⟩;have F2:=Qc (F.o.trans (f2.mono hz));have o2:=Qd HM.o.2.2 (Qi f2) trivial;clear f2 c0 ho2
    cases hh:Qt lo l[t] with
    | true=>
     have HM2:Hid (q=(dif (l.take (t+1)) lo).length∧(mid++[l[t]]).length=t+1-q∧w2.ownsRow base 143 1 (.slice (some ⟨g,0,none⟩) l.length c) l.length (Qg (dif (l.take (t+1)) lo++((mid++[l[t]])++l.drop (t+1))))):=by
      refine⟨by rw[Kc hlt hh];exact HM.o.1,by simp;have:=HM.o.2.1;omega,?_⟩;rw[Kc hlt hh,List.append_assoc,List.singleton_append,←hdt];exact o2
     clear hh hdt o2;go_wp2_with fail;go_roundw
     case rel=>exact⟨q,t+1,by omega,by omega,by omega,rfl,by go_num,⟨_,HM2⟩,F2⟩
     case measure=>simp[intOf];omega
    | false=>
     have hfz:=XE o2 q;have hq1:=HM.o.1;have hq2:=HM.o.2.1;have hcq:∃u,w2.cell? ⟨g,q,none⟩=some u:=by
      have hx:∃u,(Qg (dif (l.take t) lo++(mid++l.drop t)))[q]?=some u:=⟨_,List.getElem?_eq_getElem (by simp[Qg];omega)⟩;obtain⟨u,hu⟩:=hx;exact⟨u,Qe o2 hu⟩
     obtain⟨u,hu⟩:=hcq;obtain⟨mid',hm1,hm2⟩:=Qf3 (kept:=dif (l.take t) lo) (mid:=mid) (rest:=l.drop (t+1)) (x:=l[t]) (y:=l[t]) (by intro e;rw[e]at hq2;simp at hq2;omega);have HM2:Hid (q+1=(dif (l.take (t+1)) lo).length∧mid'.length=t+1-(q+1)∧(w2.setCell ⟨g,q,none⟩ (.int .i64 l[t])).ownsRow base 143 1 (.slice (some ⟨g,0,none⟩) l.length c) l.length (Qg (dif (l.take (t+1)) lo++(mid'++l.drop (t+1))))):=by
      refine⟨by rw[YG hlt hh];simp;omega,by omega,?_⟩;rw[YG hlt hh,←hm2,←hq1,←hdt,←Qcg];exact Zz o2 q _
     have F3:=Qc (Qr F2.o g q (.int .i64 l[t]) (by omega));have hql:q<l.length:=by omega
     clear hh hdt o2 hm2 hq1;go_wp2_with fail;go_roundw
     case rel=>exact⟨q+1,t+1,by omega,by omega,by omega,by go_num,by go_num,⟨_,HM2⟩,F3⟩
     case measure=>simp[intOf];omega
   ·have hte:t=l.length:=by omega
    subst hte;obtain⟨hq1,hq2,o2⟩:=HM.o;have hzv:∀w,(zeroValue 143).run Tryz.prog w=.ok (.int .i64 0) w:=fun w=>by kernel_rfl
    have hcl:∀ty,(Builtin.clear_ #[80] ty #[.slice (some ⟨g,q,none⟩) (l.length-q) (c-q)]).run Tryz.prog wr=.ok (.tuple #[]) (wr.setCells g q (List.replicate (l.length-q) (.int .i64 0))):=
     fun ty=>Lib.run_clear_slice wr _ _ ty _ Tryz.underlying80 hzv rfl rfl g q _ _ (by omega) (fun t ht=>by
      have hx:∃u,(Qg (dif (l.take l.length) lo++(mid++l.drop l.length)))[q+t]?=some u:=⟨_,List.getElem?_eq_getElem (by simp[Qg]at hq1 hq2 ⊢;omega)⟩;obtain⟨u,hu⟩:=hx;rw[Qe o2 hu];rfl) (fun t _=>XE o2 _)
    have HE:Hid (∃xs',(wr.setCells g q (List.replicate (l.length-q) (.int .i64 0))).ownsRow base 143 1 (.slice (some ⟨g,0,none⟩) l.length c) l.length xs'∧xs'.take q=Qg (dif l lo)):=by
     obtain⟨xs',a,b⟩:=YD (List.replicate (l.length-q) (.int .i64 0)) q wr _ o2;refine⟨xs',a,b.trans ?_⟩;rw[List.take_length]at hq1 ⊢;rw[Vz,hq1,List.take_left' (by simp[Qg])]
    have F3:=Qc (Yj (base:=w0.heap.size) (g:=g) (by omega) (List.replicate (l.length-q) (.int .i64 0)) q wr F.o);have HQ:Hid (q=(dif l lo).length):=by rw[List.take_length]at hq1;exact hq1
    have hnc:l.length≤c:=by
     rcases o2.2 with ⟨h0,_⟩|⟨_,_,_,hv,_,_,hn,_⟩
     ·cases h0
     ·cases hv;exact hn
    have hcm:c≤9223372036854775807:=by
     rcases o2.2 with ⟨h0,_⟩|⟨_,_,_,hv,_,_,_,hn,_⟩
     ·cases h0
     ·cases hv;unfold maxLen at hn;omega
    clear o2 hq1 hq2 HM hzv;go_wp2_with fail;go_ret;obtain⟨xs',a,b⟩:=HE.o;refine⟨_,rfl,?_,F3.o⟩;have:=Qdr a (m:=q) (by omega);rw[b]at this;rw[←HQ.o];exact this
theorem Wm(w:World)(o0 o1 o2:Obj):(((w.alloc o0).alloc o1).alloc o2).heap[w.heap.size]?=some o0∧(((w.alloc o0).alloc o1).alloc o2).heap[w.heap.size+1]?=some o1∧(((w.alloc o0).alloc o1).alloc o2).heap[w.heap.size+1+1]?=some o2∧(((w.alloc o0).alloc o1).alloc o2).heap.size=w.heap.size+3∧Below w.heap.size w (((w.alloc o0).alloc o1).alloc o2):=by
 have h1:=heap_alloc_last (w.alloc o0) o1;have h2:=heap_alloc_last ((w.alloc o0).alloc o1) o2;rw[World.size_alloc]at h1;rw[World.size_alloc,World.size_alloc]at h2;exact⟨Qj (Qj (heap_alloc_last _ _) _) _,Qj h1 _,h2,by simp,(((Below.refl _ _).alloc (Nat.le_refl _) _).alloc (by simp) _).alloc (by simp;omega) _⟩
theorem QjF(w:World)(n o o':Nat)(x:Value):(w.setCell ⟨n+1+1,o,none⟩ x).cell? ⟨n,o',none⟩=w.cell? ⟨n,o',none⟩:=World.cell?_setCell_far _ _ _ _ (by simp;omega)
theorem QjG(w:World)(n o o':Nat)(x:Value):(w.setCell ⟨n+1+1,o,none⟩ x).cell? ⟨n+1,o',none⟩=w.cell? ⟨n+1,o',none⟩:=World.cell?_setCell_far _ _ _ _ (by simp)
theorem Qii(a b:List Nat)(B1 B2:Nat)(va vb:Value)(w:World)(ha:w.ownsRow B1 143 1 va a.length (Qg a))(hb:w.ownsRow B2 143 1 vb b.length (Qg b))(la:a.length≤1000000)(lb:b.length≤1000000):
  Calls Tryz.prog 160 #[va,vb] w fun x w'=>x=.returned (.bool (eqF a b))∧∃n,w'=w.drewN n:=U5 a b B1 B2 va vb w ha hb la lb
theorem Qad(a b:List Nat)(B1 B2:Nat)(va vb:Value)(w:World)(ha:w.ownsRow B1 143 1 va a.length (Qg a))(hb:w.ownsRow B2 143 1 vb b.length (Qg b))(hsb:Hid (b.Pairwise (· < ·)))(hla:a.length≤1000000)(hlb:b.length≤1000000):
  Calls Tryz.prog 118 #[.agg #[va],.agg #[vb]] w fun e w'=>∃v',e=.returned (.agg #[v'])∧w'.ownsRow w.heap.size 143 1 v' (dif a b).length (Qg (dif a b))∧Below w.heap.size w w':=by
 obtain⟨pa,ca,rfl⟩:=Qb ha;obtain⟨pb,cb,rfl⟩:=Qb hb;have hmf:∀(fn:Fn)(first cap:Array Value)(w:World),(Instr.makeFunc fn first cap).run Tryz.prog w=.ok (.func fn first cap) w:=fun _ _ _ _=>rfl
 go_enter Tryz.func118,Tryz.ntmps118;go_wp2_with fail;obtain⟨W2,hW2⟩:∃W2,W2=((w.alloc (.cells #[.slice pa a.length ca] 82)).alloc (.cells #[.slice pb b.length cb] 82)).alloc (.cells #[.slice none 0 0] 82):=⟨_,rfl⟩;rw[←hW2];obtain⟨g0,g1,g2,hz,f2⟩:=Wm w (.cells #[.slice pa a.length ca] 82) (.cells #[.slice pb b.length cb] 82) (.cells #[.slice none 0 0] 82);rw[←hW2]at g0 g1 g2 hz f2;have k0:=Qa g0 0;have k1:=Qa g1 0;have k2:=Qa g2 0;have k3:=Qf g2 0;simp at k0 k1 k2;have O2:=Qc (And.intro (Qd ha (Qi f2) trivial) (Qd hb (Qi f2) trivial));have F2:=Qc f2;have l0:w.heap.size<W2.heap.size:=by omega
 have l1:w.heap.size+1<W2.heap.size:=by omega
 have l2:w.heap.size+1+1<W2.heap.size:=by omega
 clear hW2 ha hb g0 g1 g2 f2
 go_region_held (fun w'=>w'.cell? ⟨w.heap.size,0,none⟩=some (.slice pa a.length ca)∧w'.cell? ⟨w.heap.size+1,0,none⟩=some (.slice pb b.length cb)∧w'.frozen? ⟨w.heap.size+1+1,0,none⟩=false) (simp[*,QjG,QjF])
  (first | (go_at_call 116;refine(Qi3 a B1 _ W2.drew O2.o.1 (by omega)).mono ?_;rintro e w5 ⟨v5,rfl,o5,f5⟩;have f5':Below W2.heap.size W2 w5:=⟨f5.os,f5.tape,f5.output,f5.size,f5.block⟩;have y0:=f5'.cell (p:=⟨w.heap.size,0,none⟩) l0;have y1:=f5'.cell (p:=⟨w.heap.size+1,0,none⟩) l1;have y2:=f5'.cell (p:=⟨w.heap.size+1+1,0,none⟩) l2;have y3:=f5'.frozen (p:=⟨w.heap.size+1+1,0,none⟩) l2) | (go_at_call 167;refine(QjH a b W2.heap.size B2 v5 (.slice pb b.length cb) W2 w5 o5 O2.o.2 f5' (Nat.le_refl _) hsb hla hlb).mono ?_;rintro e w6 ⟨v6,rfl,H6⟩;obtain⟨p6,c6,rfl⟩:=Qb H6.o.1;have z0:=H6.o.2.cell (p:=⟨w.heap.size,0,none⟩) l0;have z1:=H6.o.2.cell (p:=⟨w.heap.size+1,0,none⟩) l1;have z2:=H6.o.2.cell (p:=⟨w.heap.size+1+1,0,none⟩) l2;have z3:=H6.o.2.frozen (p:=⟨w.heap.size+1+1,0,none⟩) l2))
 all_goals
  go_wp2_with fail;refine bodyPost_ret (v:=.agg #[.slice p6 (dif a b).length c6]) (by simp[results,Tryz.results118,go_sem,z2,k2]) rfl ⟨_,rfl,?_,?_⟩
  ·exact Qm (QB H6.o.1 _ 0 _ l2) (by omega)
  ·exact Qr (F2.o.trans (H6.o.2.mono (by omega))) _ _ _ (by omega)
theorem QcE(a b:List Nat)(B1 B2:Nat)(va vb:Value)(w:World)(ha:w.ownsRow B1 143 1 va a.length (Qg a))(hb:w.ownsRow B2 143 1 vb b.length (Qg b))(hla:a.length≤1000000)(hlb:b.length≤1000000):
  Calls Tryz.prog 165 #[.agg #[va],.agg #[vb]] w fun e w'=>∃v',e=.returned (.agg #[v'])∧w'.ownsRow w.heap.size 143 1 v' (ofL (a++b)).length (Qg (ofL (a++b)))∧Below w.heap.size w w':=by
 obtain⟨pa,ca,rfl⟩:=Qb ha;obtain⟨pb,cb,rfl⟩:=Qb hb;have hab:(a++b).length≤3000000:=by rw[List.length_append];omega
 obtain⟨ab,HAB⟩:∃ab,Hid (ab=a++b):=⟨_,rfl⟩;rw[←HAB.o]at hab ⊢;go_enter Tryz.func165,Tryz.ntmps165;go_wp2_with fail;obtain⟨W3,hW3⟩:∃W3,W3=((w.alloc (.cells #[.slice pa a.length ca] 82)).alloc (.cells #[.slice pb b.length cb] 82)).alloc (.cells #[.slice none 0 0] 82):=⟨_,rfl⟩;rw[←hW3];obtain⟨_,_,g2,hz,f3⟩:=Wm w (.cells #[.slice pa a.length ca] 82) (.cells #[.slice pb b.length cb] 82) (.cells #[.slice none 0 0] 82);rw[←hW3]at g2 hz f3;have g3:=heap_alloc_last W3 (.cells #[.slice pa a.length ca,.slice pb b.length cb] 80);have f4:Below w.heap.size w (W3.alloc (.cells #[.slice pa a.length ca,.slice pb b.length cb] 80)):=f3.alloc (by omega) _;rw[show w.heap.size+1+1+1=W3.heap.size by omega];refine(Qgv a b B1 B2 _ _ _ (Qd ha (Qi f4) trivial) (Qd hb (Qi f4) trivial) hla hlb _ 2 g3).mono ?_;rintro e w5 ⟨v5,rfl,o5,f5⟩;rw[←HAB.o]at o5;have F5:=Qc (And.intro o5 (And.intro f5 (And.intro f4 (And.intro g2 (And.intro hz hW3)))));obtain⟨p5,c5,rfl⟩:=Qb o5;clear ha hb hW3 g2 g3 f3 f4 f5 o5;go_wp2_with fail;refine(ofB ab _ _ w5 F5.o.1 hab).mono ?_;rintro e w6 ⟨v6,rfl,o6,f6⟩;obtain⟨p6,c6,rfl⟩:=Qb o6;obtain⟨_,f5,f4,g2,hz,hW3⟩:=F5.o;have hs5:W3.heap.size+1≤w5.heap.size:=by have:=f5.size;rw[World.size_alloc]at this;exact this
 have g6:w6.heap[w.heap.size+1+1]?=some (.cells #[.slice none 0 0] 82 (0,0)):=by rw[f6.block _ (by omega),f5.block _ (by rw[World.size_alloc];omega)];exact Qj g2 _
 have k2:=Qa g6 0;have k3:=Qf g6 0;simp at k2;have l5:w.heap.size+1+1<w5.heap.size:=by omega
 have F6:=Qc (And.intro (Qm (QB o6 _ 0 (.slice p6 (ofL ab).length c6) l5) (show w.heap.size≤w5.heap.size by omega)) (Qr ((f4.trans (f5.mono (by rw[World.size_alloc];omega))).trans (f6.mono (by omega))) (w.heap.size+1+1) 0 (.slice p6 (ofL ab).length c6) (by omega)));clear g6 f6 o6 f5 f4 g2 hW3 F5 hz hs5 l5;go_wp2_with fail;refine bodyPost_ret (v:=.agg #[.slice p6 (ofL ab).length c6]) (by simp[results,Tryz.results165,go_sem,k2]) rfl ⟨_,rfl,?_,?_⟩
 ·exact F6.o.1
 ·exact F6.o.2
theorem QiO(a b:List Nat)(B1 B2:Nat)(va vb:Value)(w:World)(ha:w.ownsRow B1 143 1 va a.length (Qg a))(hb:w.ownsRow B2 143 1 vb b.length (Qg b))(hla:a.length≤1000000)(hlb:b.length≤1000000):
  Calls Tryz.prog 284 #[.agg #[va],.agg #[vb]] w fun e w'=>e=.returned (.bool (eqF a b))∧Below w.heap.size w w':=by
 obtain⟨pa,ca,rfl⟩:=Qb ha;obtain⟨pb,cb,rfl⟩:=Qb hb;go_enter Tryz.func284,Tryz.ntmps284;go_wp2_with fail;refine(Qii a b B1 B2 _ _ _ ((ha.alloc _).alloc _) ((hb.alloc _).alloc _) hla hlb).mono ?_;rintro e w1 ⟨rfl,n,hw1⟩;have F1:Hid (Below w.heap.size w w1):=by rw[hw1];exact below_drewN (((Below.refl _ _).alloc (Nat.le_refl _) _).alloc (by simp) _) _
 clear hw1;go_wp2_with fail;go_ret;exact⟨rfl,F1.o⟩
theorem Qd1(l:List Nat)(x i:Nat)(hi:i<l.length)(g c:Nat)(cur:Array Value)(w:World)(hg:w.heap[g]?=some (.cells cur 143 (0,0)))(hc:l.length+1≤c)(hc2:c≤maxLen)(hcs:cur.size=c)(ht:cur.toList.take l.length=Qg l)
  {B:Nat}{tt:TypeId}(hB:w.heap[B]?=some (.cells #[.int .i64 x] tt (0,0)))(hBg:B≠g):
  Calls Tryz.prog 121 #[.slice (some ⟨g,0,none⟩) l.length c,.int .i64 i,.slice (some ⟨B,0,none⟩) 1 1] w fun e w'=>∃A,e=.returned (.slice (some ⟨g,0,none⟩) (l.length+1) c)∧Hid (w'.heap[g]?=some (.cells A 143 (0,0))∧A.size=c∧A.toList.take (l.length+1)=Qg (ZT l i x)∧w.grownBy w' (some g)):=by
 have hz2:¬((i:Int)=(l.length:Int)):=by omega
 have hc63:c≤9223372036854775807:=by unfold maxLen at hc2;omega
 have hov:∀lb cb,(callFunc 172 #[.slice (some ⟨B,0,none⟩) 1 1,.slice (some ⟨g,i+1,none⟩) lb cb]).run Tryz.prog w=.ok (.value (.bool false)) w:=fun lb cb=>by
  rw[run_callFunc_extern Tryz.func172 (by kernel_rfl) (by kernel_rfl) (by kernel_rfl) (e:=Extern.SlicesOverlaps.overlaps #[80,80] #[4]) (by kernel_rfl),
   Lib.run_overlaps_apart w 80 4 143 Tryz.underlying80 1 (fun w=>by obtain⟨I,Hi,Hz,Hs,Hb⟩:=info_parts Tryz.info143;simp[Go.sizeOf,typeInfo,Hi,Hs]) ⟨B,0,none⟩ ⟨g,i+1,none⟩ 1 1 lb cb hBg tt 143 1 c (by simp[World.shape?,hB]) (by simp[World.shape?,hg,hcs]) (by omega) (by simp[World.frozen?,hB]) (by simp[World.frozen?,hB])]
  rfl
 have hlen:(Qg l).length=l.length:=by simp[Qg]
 have hcl:cur.toList.length=c:=by simpa using hcs
 have hdl:((Qg l).drop i).length=l.length-i:=by rw[List.length_drop,hlen]
 obtain⟨A1,hA1⟩:∃A1:Array Value,A1=(cur.toList.take (i+1)++(Qg l).drop i++cur.toList.drop (i+1+((Qg l).drop i).length)).toArray:=⟨_,rfl⟩;obtain⟨A2,hA2⟩:∃A2:Array Value,A2=(A1.toList.take i++[Value.int .i64 x]++A1.toList.drop (i+1)).toArray:=⟨_,rfl⟩;have hs1:A1.toList.length=c:=by
  rw[hA1];simp only[List.length_append,List.length_take,List.length_drop,hlen,hcl];omega
 have hs1':A1.size=c:=by simpa using hs1
 have hs2:A2.toList.length=c:=by
  rw[hA2];simp only[List.length_append,List.length_take,List.length_drop,List.length_cons,List.length_nil,hs1];omega
 have hsz:(Tryz.prog.info? 143).map (·.size)=some 1:=by
  obtain⟨i0,hi0,_,h1,_⟩:=info_parts Tryz.info143;rw[hi0];simp[h1]
 have hone:∀v∈(Qg l).drop i,v.oneCell'=true:=fun v hv=>by
  obtain⟨n,_,rfl⟩:=List.mem_map.1 (List.mem_of_mem_drop hv);rfl
 have hcp1:∀(W:World),W.heap=w.heap→∀ty dc sc,(Builtin.copy_ #[80,80] ty #[.slice (some ⟨g,i+1,none⟩) (l.length-i) dc,.slice (some ⟨g,i,none⟩) (l.length+1-i) sc]).run Tryz.prog W=.ok (goInt ((Qg l).drop i).length) (W.setRow g A1):=fun W hW ty dc sc=>by
  rw[hA1];refine run_copy_row Tryz.prog W 80 80 ty 143 g (i+1) _ dc ⟨g,i,none⟩ _ sc cur 143 ((Qg l).drop i) Tryz.underlying80 hsz (by rw[hW];exact hg) (by rw[hdl];simp only[Nat.min_def];split<;>omega) (fun j v hj=>?_) (by rw[hdl,hcs];omega) hone;rw[Addr.add_lit];rw[List.getElem?_drop,←ht,List.getElem?_take]at hj;split at hj
  ·simp only[World.cell?,hW,hg];simpa using hj
  ·cases hj
 have hcp2:∀(W:World),W.heap=(w.setRow g A1).heap→∀ty dc,(Builtin.copy_ #[80,80] ty #[.slice (some ⟨g,i,none⟩) (l.length+1-i) dc,.slice (some ⟨B,0,none⟩) 1 1]).run Tryz.prog W=.ok (goInt 1) (W.setRow g A2):=fun W hW ty dc=>by
  rw[hA2];refine run_copy_row Tryz.prog W 80 80 ty 143 g i (l.length+1-i) dc ⟨B,0,none⟩ 1 1 A1 143 [.int .i64 x] Tryz.underlying80 hsz (by rw[hW];exact setRow_heap w g cur _ 143 _ hg) (by simp only[Nat.min_def,List.length_cons,List.length_nil];split<;>omega) (fun j v hj=>?_) (by simp only[List.length_cons,List.length_nil];omega) (List.all_eq_true.1 rfl);rw[Addr.add_lit];simp only[World.cell?,hW,setRow_other w g B _ hBg,hB]
  match j,hj with
  | 0,hj=>simpa using hj
 have hw1:IntKind.i64.wrap ((i:Int)+1)=(i:Int)+1:=by rw[IntKind.wrap_i64];unfold maxLen at hc2;omega
 have hb1:(0:Int)≤(i:Int)+1:=by omega
 have htn:((i:Int)+1).toNat=i+1:=by omega
 have hb2:¬(c=i+1):=by omega
 have hb3:(i:Int)≤(l.length:Int)+1:=by omega
 have hb4:¬(c=i):=by omega
 have hin:i≤l.length:=by omega
 have HA1:=Qc hA1;have HA2:=Qc hA2;have HT:=Qc ht;have HG:=Qc hg;clear hA1 hA2 ht hg;have hc2:=hcp2 (w.drew.setRow g A1) rfl;go_enter Tryz.func121,Tryz.ntmps121;go_wp2_with (simp only[hov])
 go_region_law (refine step_copy_runI rfl _ _ 80 80 rfl (.slice (some ⟨g,i+1,none⟩) (l.length-i) (c-(i+1))) (.slice (some ⟨g,i,none⟩) (l.length+1-i) (c-i)) (by go_simp) (by go_simp) (hcp1 w.drew rfl _ _ _) ?_)
 go_wp2
 go_ret;refine⟨A2,rfl,?_,by simpa using hs2,?_,?_⟩
 ·exact setRow_heap (w.drew.setRow g A1) g A1 _ 143 _ (setRow_heap w.drew g cur _ 143 _ HG.o)
 ·rw[HA2.o,HA1.o];rw[show Qg (ZT l i x)=(Qg l).take i++Value.int .i64 x::(Qg l).drop i by simp[Qg,ZT]];exact Nc cur.toList (Qg l) _ i l.length HT.o (by omega) hi
 ·exact⟨rfl,rfl,rfl,by simp,fun k _ hk=>(setRow_other _ g k _ (fun e=>hk (by rw[e]))).trans (setRow_other _ g k _ (fun e=>hk (by rw[e])))⟩
theorem Qd4(l:List Nat)(x i:Nat)(hi:i<l.length)(hl:l.length≤1000000)(g c:Nat)(cur:Array Value)(w:World)(hg:w.heap[g]?=some (.cells cur 143 (0,0)))(hnc:l.length≤c)(hc:c<l.length+1)(hcs:cur.size=c)(ht:cur.toList.take l.length=Qg l)
  {B:Nat}{tt:TypeId}(hB:w.heap[B]?=some (.cells #[.int .i64 x] tt (0,0))):
  Calls Tryz.prog 121 #[.slice (some ⟨g,0,none⟩) l.length c,.int .i64 i,.slice (some ⟨B,0,none⟩) 1 1] w fun e w'=>∃A G,e=.returned (.slice (some ⟨w.heap.size,0,none⟩) (l.length+1) G)∧Hid (w'.heap[w.heap.size]?=some (.cells A 143 (0,0))∧l.length+1≤G∧G≤maxLen∧A.size=G∧A.toList.take (l.length+1)=Qg (ZT l i x)∧w.grownBy w' none):=by
 obtain⟨i0,hi0,hz0,hzs,hzb⟩:=info_parts Tryz.info143;have hlen:(Qg l).length=l.length:=by simp[Qg]
 have hdl:((Qg l).drop i).length=l.length-i:=by rw[List.length_drop,hlen]
 have hbw:g<w.heap.size:=by
  rcases Nat.lt_or_ge g w.heap.size with h|h
  ·exact h
  ·rw[Array.getElem?_eq_none h]at hg;cases hg
 have hBw:B<w.heap.size:=by
  rcases Nat.lt_or_ge B w.heap.size with h|h
  ·exact h
  ·rw[Array.getElem?_eq_none h]at hB;cases hB
 have hcells:∀j v,(Qg l)[j]?=some v→w.cell? ⟨g,j,none⟩=some v:=fun j v hj=>by
  rw[←ht,List.getElem?_take]at hj;split at hj
  ·simp only[World.cell?,hg];simpa using hj
  ·cases hj
 have hsz:(Tryz.prog.info? 143).map (·.size)=some 1:=by rw[hi0];simp[hzs]
 have hone:∀v∈(Qg l).drop i,v.oneCell'=true:=fun v hv=>by
  obtain⟨n,_,rfl⟩:=List.mem_map.1 (List.mem_of_mem_drop hv);rfl
 have hold:(Builtin.firstCells i0.size i (.slice (some ⟨g,0,none⟩) i c)).run Tryz.prog w.drew=.ok ((Qg l).take i).toArray w.drew:=by
  rw[hzs];exact run_firstCells_some w.drew 1 i ⟨g,0,none⟩ i c ((Qg l).take i) (by rw[List.length_take,hlen];omega) (fun j v hj=>by
   rw[Addr.add_lit,Nat.zero_add];rw[List.getElem?_take]at hj;split at hj
   ·exact hcells j v hj
   ·cases hj)
 obtain⟨G,hG⟩:∃G,G=grownCap w (l.length+1) c 143:=⟨_,rfl⟩;have hGn:l.length+1≤G:=by rw[hG];exact grownCap_ge w _ _ _
 have hGm:G≤maxLen:=by rw[hG];exact grownCap_le_maxLen w (l.length+1) c 143 (by unfold maxLen;omega)
 obtain⟨ROW,hROW⟩:∃ROW:Array Value,ROW=((Qg l).take i).toArray++Builtin.zeroCells (Value.int .i64 0).cells (l.length+1-i)++Builtin.zeroCells (Value.int .i64 0).cells (G-(l.length+1)):=⟨_,rfl⟩;have hkk:(l.length:Int)+1-(i:Int)=((l.length+1-i:Nat):Int):=by omega
 have hik:i+(l.length+1-i)=l.length+1:=by omega
 have hrz:∀ty,(Builtin.append_ #[80,3] ty #[.slice (some ⟨g,0,none⟩) i c,.int .i64 ((l.length:Int)+1-(i:Int))]).run Tryz.prog w =
   .ok (.slice (some ⟨w.heap.size,0,none⟩) (l.length+1) G) (w.drew.alloc (.cells ROW 143)):=fun ty=>by
  have h:=Lib.run_append_grow_zeros w 80 3 ty 143 i0 _ .i64 .i64 Tryz.underlying80 Tryz.underlying3 hi0 hz0 (some ⟨g,0,none⟩) i c ((Qg l).take i) hold (l.length+1-i) (by omega) (by omega) (by omega) (by omega) (by rw[hzb];omega) (by rw[hzb,hik];exact growslice_fits (by omega) (by omega));rw[hik,←hG,←hROW]at h;rw[hkk];exact h
 have hRs:ROW.size=G:=by
  rw[hROW];simp[Builtin.zeroCells,Value.cells,hlen];omega
 obtain⟨A1,hA1⟩:∃A1:Array Value,A1=(ROW.toList.take i++[Value.int .i64 x]++ROW.toList.drop (i+1)).toArray:=⟨_,rfl⟩;obtain⟨A2,hA2⟩:∃A2:Array Value,A2=(A1.toList.take (i+1)++(Qg l).drop i++A1.toList.drop (i+1+((Qg l).drop i).length)).toArray:=⟨_,rfl⟩;have hs1:A1.size=G:=by
  rw[hA1];simp only[List.size_toArray,List.length_append,List.length_take,List.length_drop,List.length_cons,List.length_nil,Array.length_toList,hRs];omega
 have hs2:A2.size=G:=by
  rw[hA2];simp only[List.size_toArray,List.length_append,List.length_take,List.length_drop,hlen,Array.length_toList,hs1];omega
 have hn0:(w.alloc (.cells ROW 143)).drew.heap[w.heap.size]?=some (.cells ROW 143 (0,0)):=heap_alloc_new w _;have hnB:(w.alloc (.cells ROW 143)).drew.heap[B]?=some (.cells #[.int .i64 x] tt (0,0)):=(Below.heap_alloc w _ B hBw).trans hB;have hng:(w.alloc (.cells ROW 143)).drew.heap[g]?=some (.cells cur 143 (0,0)):=(Below.heap_alloc w _ g hbw).trans hg;obtain⟨W1,hW1⟩:∃W1,W1=(w.alloc (.cells ROW 143)).drew:=⟨_,rfl⟩;rw[←hW1]at hn0 hnB hng;have hcA:∀ty dc,(Builtin.copy_ #[80,80] ty #[.slice (some ⟨w.heap.size,i,none⟩) (l.length+1-i) dc,.slice (some ⟨B,0,none⟩) 1 1]).run Tryz.prog W1=.ok (goInt 1) (W1.setRow w.heap.size A1):=fun ty dc=>by
  rw[hA1];refine run_copy_row Tryz.prog W1 80 80 ty 143 w.heap.size i (l.length+1-i) dc ⟨B,0,none⟩ 1 1 ROW 143 [.int .i64 x] Tryz.underlying80 hsz hn0 (by simp only[Nat.min_def,List.length_cons,List.length_nil];split<;>omega) (fun j v hj=>?_) (by simp only[List.length_cons,List.length_nil];omega) (List.all_eq_true.1 rfl);rw[Addr.add_lit];simp only[World.cell?,hnB]
  match j,hj with
  | 0,hj=>simpa using hj
 have hcB:∀(W:World),W.heap=(W1.setRow w.heap.size A1).heap→∀ty dc sc,(Builtin.copy_ #[80,80] ty #[.slice (some ⟨w.heap.size,i+1,none⟩) (l.length-i) dc,.slice (some ⟨g,i,none⟩) (l.length-i) sc]).run Tryz.prog W=.ok (goInt ((Qg l).drop i).length) (W.setRow w.heap.size A2):=fun W hW ty dc sc=>by
  rw[hA2];refine run_copy_row Tryz.prog W 80 80 ty 143 w.heap.size (i+1) _ dc ⟨g,i,none⟩ _ sc A1 143 ((Qg l).drop i) Tryz.underlying80 hsz (by rw[hW];exact setRow_heap W1 _ ROW _ 143 _ hn0) (by rw[hdl];simp) (fun j v hj=>?_) (by rw[hdl];omega) hone;rw[Addr.add_lit];rw[List.getElem?_drop]at hj;have h2:=hcells _ _ hj;simp only[World.cell?,hW,setRow_other W1 w.heap.size g _ (by omega),hng];simpa[World.cell?,hg] using h2
 have hw1:IntKind.i64.wrap ((i:Int)+1)=(i:Int)+1:=by rw[IntKind.wrap_i64];omega
 have hb1:(0:Int)≤(i:Int)+1:=by omega
 have htn:((i:Int)+1).toNat=i+1:=by omega
 have hGi:¬(G=i):=by omega
 have hGim:¬(G=i+1):=by omega
 have hci:¬(c=i):=by omega
 have hin:i≤l.length:=by omega
 have hz2:¬((i:Int)=(l.length:Int)):=by omega
 have hz3:(c:Int)<(l.length:Int)+1:=by omega
 have hG63:G≤9223372036854775807:=by unfold maxLen at hGm;omega
 have HH:=Qc (And.intro hA1 (And.intro hA2 (And.intro ht (And.intro hg (And.intro hn0 (And.intro hROW (And.intro hs2 hRs)))))));have HW:=Qc hW1;have HGM:=Qc hGm;clear hA1 hA2 ht hg hn0 hnB hng hROW hG hkk hik hold hs1 hs2 hi0 hz0 hzs hzb hcs hdl hB hRs hGm;subst hW1;have hc2:=hcB (((w.alloc (.cells ROW 143)).drew.setRow w.heap.size A1).drew) rfl;go_enter Tryz.func121,Tryz.ntmps121;go_wp2_with (at_builtin;refine Lib.wpList_append_run _ rfl _ _ _ _ rfl _ _ rfl rfl _ _ (hrz _) ?_)
 go_region_law (refine step_copy_runI rfl _ _ 80 80 rfl (.slice (some ⟨w.heap.size,i+1,none⟩) (l.length-i) (G-(i+1))) (.slice (some ⟨g,i,none⟩) (l.length-i) (c-i)) (by go_simp) (by go_simp) (hcB (((w.alloc (.cells ROW 143)).drew.setRow w.heap.size A1).drew) rfl _ _ _) ?_)
 go_wp2
 go_ret;obtain⟨hA1,hA2,ht,hg,hn0,hROW,hs2,hRs⟩:=HH.o;refine⟨A2,G,rfl,?_,hGn,HGM.o,hs2,?_,?_⟩
 ·exact setRow_heap _ _ A1 _ 143 _ (setRow_heap _ _ ROW _ 143 _ hn0)
 ·have hlr:ROW.toList.take i=(Qg l).take i:=by
   rw[hROW];simp only[Array.toList_append,List.append_assoc];rw[List.take_left' (by rw[List.length_take,hlen];omega)]
  rw[show Qg (ZT l i x)=(Qg l).take i++Value.int .i64 x::(Qg l).drop i by simp[Qg,ZT]];have e1:A1.toList.take (i+1)=(Qg l).take i++[Value.int .i64 x]:=by
   rw[hA1,hlr];exact List.take_left' (by rw[List.length_append,List.length_take,hlen];simp;omega)
  rw[hA2,e1];rw[List.take_left' (by simp[hlen];omega)];simp
 ·refine⟨rfl,rfl,rfl,by simp,fun k hk _=>?_⟩;rw[setRow_other _ _ k _ (by omega)];show ((w.alloc (.cells ROW 143)).drew.setRow w.heap.size A1).heap[k]?=_;rw[setRow_other _ _ k _ (by omega)];exact Below.heap_alloc w _ k hk
theorem Qjw(l:List Nat)(x i:Nat)(hi:i≤l.length)(base:Nat)(v:Value)(w:World)(h:w.ownsRow base 143 1 v l.length (Qg l))(hl:l.length≤1000000)(hb:base≤w.heap.size)
  {B:Nat}{tt:TypeId}(hB:w.heap[B]?=some (.cells #[.int .i64 x] tt (0,0)))(hBv:v.ownBlock≠some B):
  Calls Tryz.prog 121 #[v,.int .i64 i,.slice (some ⟨B,0,none⟩) 1 1] w fun e w'=>∃v',e=.returned v'∧w'.ownsRow base 143 1 v' (ZT l i x).length (Qg (ZT l i x))∧w.grownBy w' v.ownBlock∧Vp w v v':=by
 have hil:(ZT l i x).length=l.length+1:=by simp[ZT];omega
 rw[hil];by_cases he:i=l.length
 ·subst he;rw[show ZT l l.length x=l++[x] by simp[ZT]];exact Qa8 l x base v w h hl hb hB
 ·rcases h.2 with ⟨rfl,h0⟩|⟨g,c,cur,rfl,hbg,hg,hnc,hcm,hcs,ht⟩
  ·omega
  ·rw[Nat.mul_one]at hcs ht;by_cases hr:l.length+1≤c
   ·refine(Qd1 l x i (by omega) g c cur w hg hr hcm hcs ht hB (fun e=>hBv (by rw[e];rfl))).mono ?_;rintro e w' ⟨A,rfl,hh⟩;obtain⟨a1,a2,a3,a4⟩:=hh.out;refine⟨_,rfl,⟨by simp[Qg,hil],.inr ⟨g,c,A,rfl,hbg,a1,hr,hcm,by omega,by rw[Nat.mul_one];exact a3⟩⟩,a4,.inl rfl⟩
   ·refine(Qd4 l x i (by omega) hl g c cur w hg hnc (by omega) hcs ht hB).mono ?_;rintro e w' ⟨A,G,rfl,hh⟩;obtain⟨a1,a2,a3,a4,a5,a6⟩:=hh.out;refine⟨_,rfl,⟨by simp[Qg,hil],.inr ⟨w.heap.size,G,A,rfl,hb,a1,a2,a3,by omega,by rw[Nat.mul_one];exact a5⟩⟩,⟨a6.os,a6.tape,a6.output,a6.size,fun k hk _=>a6.block k hk (by simp)⟩,.inr ⟨_,rfl,Nat.le_refl _⟩⟩
theorem QeZ(l:List Nat)(x:Nat)(hx:Hid (x∉l))(hsrt:Hid (l.Pairwise (· < ·)))(pb po base:Nat)(v:Value)(w:World)(hp:w.cell? ⟨pb,po,none⟩=some v)(hf:w.frozen? ⟨pb,po,none⟩=false)(h:w.ownsRow base 143 1 v l.length (Qg l))(hl:l.length≤1000000)(hb:base≤w.heap.size)(hpv:Hid (v.ownBlock≠some pb)):
  Calls Tryz.prog 71 #[.pointer (some ⟨pb,po,none⟩),.int .i64 x] w fun e w'=>e=.returned (.bool true)∧∃i v',Hid (i≤l.length∧Kh l x i∧w'.ownsRow base 143 1 v' (ZT l i x).length (Qg (ZT l i x))∧Put pb po v v' w w'):=by
 go_enter Tryz.func71,Tryz.ntmps71;go_wp2_with fail;refine(Vj l x hsrt base v w h hl).mono ?_;rintro e w1 ⟨rfl,i,hi,hsp,rfl⟩;rw[Yh hx.out];have hpb:pb<w1.heap.size:=World.block_lt_of_cell? _ _ hp;have HP:=Qc hpv.out;have HF:=Qc hf;have HI:=Qc (And.intro hi hsp);clear hsp hf hx hsrt hpv;go_wp2_with fail;refine(Qjw l x i hi (base:=base) (v:=v) (w1.alloc (.cells #[.int .i64 x] 143)) (h.alloc _) hl (by simp;omega) (heap_alloc_new _ _) (fun e=>by obtain⟨_,h2⟩:=World.ownsRow.lt h _ e;omega)).mono ?_;rintro e w2 ⟨v2,rfl,o2,g2,n2⟩;obtain⟨p2,c2,rfl⟩:=Qb o2;have hb2:w2.heap[pb]?=w1.heap[pb]?:=(g2.block pb (by simp;omega) (fun e=>HP.o e.symm)).trans (Below.heap_alloc _ _ _ hpb);have hp2:w2.cell? ⟨pb,po,none⟩=some v:=by rw[World.cell?_of_block (w:=w1) hb2];exact hp
 have hf2:w2.frozen? ⟨pb,po,none⟩=false:=by rw[World.frozen?_of_block (w:=w1) hb2];exact HF.o
 have HR:=Qc (And.intro o2 (And.intro g2 n2));clear o2 g2 n2 hb2 hp h;go_wp2_with fail;go_ret;obtain⟨o2,g2,n2⟩:=HR.o;refine⟨rfl,_,_,HI.o.1,HI.o.2,WJ o2 n2 hpb HP.o,N4 g2 hpb HP.o n2⟩
theorem Qa7{l:List Nat}{x i y:Nat}:y∈ZT l i x↔y=x∨y∈l:=by
 rw[ZT,List.mem_append,List.mem_cons];constructor
 ·rintro (h|h|h)
  ·exact .inr (List.mem_of_mem_take h)
  ·exact .inl h
  ·exact .inr (List.mem_of_mem_drop h)
 ·rintro (h|h)
  ·exact .inr (.inl h)
  ·rw[←List.take_append_drop i l,List.mem_append]at h;rcases h with h|h
   ·exact .inl h
   ·exact .inr (.inr h)
theorem Qa6{l:List Nat}{x i:Nat}(h:l.Pairwise (· < ·))(hx:x∉l)(hs:Kh l x i):(ZT l i x).Pairwise (· < ·):=by
 rw[ZT,List.pairwise_append,List.pairwise_cons];have hlow:∀a∈l.take i,a<x:=fun a ha=>by
  obtain⟨k,hk,rfl⟩:=List.getElem_of_mem ha;rw[List.length_take]at hk;rw[List.getElem_take];exact hs.1 k (by omega) (by omega)
 have hhigh:∀b∈l.drop i,x<b:=fun b hb=>by
  obtain⟨k,hk,rfl⟩:=List.getElem_of_mem hb;rw[List.length_drop]at hk;rw[List.getElem_drop];have h1:=hs.2 (i+k) (by omega) (by omega);have h2:l[i+k]≠x:=fun e=>hx (by rw[←e];exact List.getElem_mem _);omega
 refine⟨h.sublist (List.take_sublist _ _),⟨hhigh,h.sublist (List.drop_sublist _ _)⟩,fun a ha b hb=>?_⟩;rcases List.mem_cons.1 hb with rfl|hb
 ·exact hlow a ha
 ·exact Nat.lt_trans (hlow a ha) (hhigh b hb)
def bhd(e:Z3):List Nat:=ofL ((goalsF e).map (·.1))
theorem QbE{e x}:x∈bhd e↔∃p∈goalsF e,p.1=x:=by rw[bhd,Z1,List.mem_map]
theorem two(w:World)(o0 o1:Obj):((w.alloc o0).alloc o1).heap[w.heap.size]?=some o0∧((w.alloc o0).alloc o1).heap[w.heap.size+1]?=some o1∧((w.alloc o0).alloc o1).heap.size=w.heap.size+2∧Below w.heap.size w ((w.alloc o0).alloc o1):=by
 have h1:=heap_alloc_last (w.alloc o0) o1;rw[World.size_alloc]at h1;exact⟨Qj (heap_alloc_last _ _) _,h1,by simp,(((Below.refl _ _).alloc (Nat.le_refl _) _).alloc (by simp) _)⟩
def Xu(gl:List (Nat×Nat))(k:Nat):List Nat:=ofL ((gl.take k).map (·.1))
theorem Qeg(e):Xu (goalsF e) (goalsF e).length=bhd e:=by rw[Xu,List.take_length,bhd]
theorem Yg(gl k):(Xu gl k).Pairwise (· < ·):=XX _
theorem UZ{gl:List (Nat×Nat)}{k x:Nat}(hk:k<gl.length):x∈Xu gl (k+1)↔x=gl[k].1∨x∈Xu gl k:=by
 rw[Xu,Xu,Z1,Z1,List.take_succ_eq_append_getElem hk,List.map_append,List.mem_append];simp[or_comm]
theorem Qed{gl:List (Nat×Nat)}{k:Nat}(hk:k<gl.length)(h:gl[k].1∈Xu gl k):Xu gl (k+1)=Xu gl k:=
 ZX (Yg _ _) (Yg _ _) fun x=>by
  rw[UZ hk];constructor
  ·rintro (rfl|h1)
   ·exact h
   ·exact h1
  ·exact .inr
theorem Qee{gl:List (Nat×Nat)}{k i:Nat}(hk:k<gl.length)(h:gl[k].1∉Xu gl k)(hs:Kh (Xu gl k) gl[k].1 i):Xu gl (k+1)=ZT (Xu gl k) i gl[k].1:=
 ZX (Yg _ _) (Qa6 (Yg _ _) h hs) fun x=>by rw[UZ hk,Qa7]
theorem GI(l:List Nat):(ofL l).length≤l.length:=by
 have h1:(ofL l).length=(Lib.compact (Xe l)).length:=by simp[ofL]
 rw[h1];exact Nat.le_trans (Qbo _) (by rw[JI];exact Nat.le_refl _)
theorem Qef(gl k):(Xu gl k).length≤gl.length:=by
 refine Nat.le_trans (GI _) ?_;rw[List.length_map,List.length_take];omega
theorem Qft{w:World}{base k:Nat}{v:Value}{t:TypeId}(h:w.heap[k]?=some (.cells #[v] t (0,0)))(hb:base≤k):w.ownsRow base t 1 (.slice (some ⟨k,0,none⟩) 1 1) 1 [v]:=
 ⟨rfl,.inr ⟨k,1,#[v],rfl,hb,h,Nat.le_refl _,by decide,rfl,rfl⟩⟩
theorem Qdj{w w':World}{pb:Nat}{v v':Value}{t:TypeId}(h:w.heap[pb]?=some (.cells #[v] t (0,0)))(hp:Put pb 0 v v' w w'):w'.heap[pb]?=some (.cells #[v'] t (0,0)):=by
 rw[hp.at_,Qp h 0 v'];rfl
theorem QfJ{w w':World}{pb:Nat}{v v':Value}(hp:Put pb 0 v v' w w')(hb:pb<w.heap.size)(hv:v.ownBlock≠some pb):v'.ownBlock≠some pb:=by
 rcases hp.new with h|⟨g,h,hg⟩
 ·rw[h];exact hv
 ·rw[h];intro e;cases e;omega
theorem Qgp(e:Z3)(hop:e.op=46∨e.op=62∨e.op=63):∃T x fn,QP e=.iface T x∧(∀w:World,(method 500 T x "Goals").run Tryz.prog w=.ok (fn,x) w)∧(∀args (w:World),(callFunc fn args).run Tryz.prog w=.ok (.enter fn args) w) ∧
  ∀w:World,Calls Tryz.prog fn #[x] w fun r w'=>∃v,r=.returned v∧w'.ownsRow w.heap.size 145 2 v (goalsF e).length (pcs (goalsF e))∧Below w.heap.size w w':=by
 rcases hop with hop|hop|hop
 ·obtain⟨a1,a2⟩:=KK hop;refine⟨_,_,307,a1,fun w=>by kernel_rfl,enters_of Tryz.func307 (by kernel_rfl) rfl,fun w=>(Ua w).mono ?_⟩;rintro r w' ⟨rfl,f⟩;rw[a2];exact⟨_,rfl,World.ownsRow_nil _ _ _ _,f⟩
 ·obtain⟨a1,a2⟩:=KL hop;refine⟨_,_,311,a1,fun w=>by kernel_rfl,enters_of Tryz.func311 (by kernel_rfl) rfl,fun w=>(W8 _ _ w).mono ?_⟩;rintro r w' ⟨g,rfl,o,f⟩;rw[a2];exact⟨_,rfl,o,f⟩
 ·obtain⟨a1,a2⟩:=Jx hop;refine⟨_,_,319,a1,fun w=>by kernel_rfl,enters_of Tryz.func319 (by kernel_rfl) rfl,fun w=>(VC _ _ _ _ _ _ w).mono ?_⟩;rintro r w' ⟨g,rfl,o,f⟩;rw[a2];exact⟨_,rfl,o,f⟩
theorem QjJ(e:Z3)(hop:e.op=46∨e.op=62∨e.op=63)(at_:Nat)(qc:Option Addr)(mc cc:Nat)(ps:Option Addr)(ms cs:Nat)(w:World):
  Calls Tryz.prog 127 #[.agg #[.int .i64 at_,.slice qc mc cc,.slice ps ms cs,QP e]] w fun x w'=>∃v',x=.returned (.agg #[v'])∧w'.ownsRow w.heap.size 143 1 v' (bhd e).length (Qg (bhd e))∧Below w.heap.size w w':=by
 obtain⟨T,x,fn,hev,hmt,hent,hcall⟩:=Qgp e hop;rw[hev];have HC:=Qc hcall;have HM:=Qc hmt;have HT:=Qc hent;have HE:=Qc (Qeg e);have hgl2:=Zx e;obtain⟨gl,hgl⟩:∃gl,gl=goalsF e:=⟨_,rfl⟩;rw[←hgl]at HE hgl2 HC;clear hcall hev hmt hent hop hgl;go_enter Tryz.func127,Tryz.ntmps127;go_wp2_with fail;rw[HM.o,Result.andThen_ok];simp only[HT.o];unfold Oper.upon;obtain⟨W3,hW3⟩:∃W3,W3=((w.alloc (.cells #[.int .i64 at_,.slice qc mc cc,.slice ps ms cs,.iface T x] 104)).alloc (.cells #[.slice none 0 0] 82)).alloc (.cells #[.slice none 0 0] 82):=⟨_,rfl⟩;rw[←hW3];obtain⟨_,g1,g2,hz,f3⟩:=Wm w (.cells #[.int .i64 at_,.slice qc mc cc,.slice ps ms cs,.iface T x] 104) (.cells #[.slice none 0 0] 82) (.cells #[.slice none 0 0] 82);rw[←hW3]at g1 g2 hz f3;clear hW3;refine(HC.o _).mono ?_;rintro r w5 ⟨vg,rfl,OG,f5⟩;have hs5:=f5.size;have B0:Hid (w5.heap[w.heap.size+1]?=some (.cells #[.slice none 0 0] 82 (0,0))∧w5.heap[w.heap.size+1+1]?=some (.cells #[.slice none 0 0] 82 (0,0))∧w5.ownsRow (w.heap.size+3) 145 2 vg gl.length (pcs gl)∧Below w.heap.size w w5∧w.heap.size+3≤w5.heap.size):=
  ⟨by rw[f5.block _ (by omega)];exact g1,by rw[f5.block _ (by omega)];exact g2,Qm OG (by omega),f3.trans (f5.mono (by omega)),by omega⟩
 obtain⟨pg,cg,rfl⟩:=Qb OG;clear g1 g2 f3 f5 hs5 hz HC HM HT OG;go_wp2_with fail
 go_loopw [10] (fun i wr=>∃(k:Nat)(v:Value),k≤gl.length∧i=.int .i64 k∧Hid (wr.heap[w.heap.size+1]?=some (.cells #[.slice none 0 0] 82 (0,0))∧wr.heap[w.heap.size+1+1]?=some (.cells #[v] 82 (0,0))∧wr.ownsRow (w.heap.size+3) 143 1 v (Xu gl k).length (Qg (Xu gl k))∧wr.ownsRow (w.heap.size+3) 145 2 (.slice pg gl.length cg) gl.length (pcs gl)∧v.ownBlock≠some (w.heap.size+1+1)∧Below w.heap.size w wr∧w.heap.size+3≤wr.heap.size)) (fun i _=>gl.length-(intOf i).toNat)
 case atStart=>exact⟨0,_,by omega,rfl,B0.o.1,B0.o.2.1,by simpa[Xu,ofL,Xe,XC,Lib.compact,Lib.compactUpTo,Qg] using World.ownsRow_nil _ _ _ _,B0.o.2.2.1,by simp[Value.ownBlock],B0.o.2.2.2.1,B0.o.2.2.2.2⟩
 case round=>
  clear B0;obtain⟨k,v,hk,rfl,HR⟩:=hrel;obtain⟨r1,r2,rv,rg,rn,rf,rz⟩:=HR.o;by_cases hlt:k<gl.length
  ·obtain⟨gg,rfl,_,hgs⟩:=Qh rg (by omega);have c0:=Qe rg (QX hlt).1;have c1:=Qe rg (QX hlt).2;have HZ:=Qc (And.intro r1 (And.intro r2 (And.intro rv (And.intro rg (And.intro rn rf)))));have hle:(Xu gl k).length≤1000000:=Nat.le_trans (Qef _ _) (by omega);clear HR r1 r2 rv rg rn rf;go_wp2_with fail;obtain⟨r1,r2,rv,rg,rn,rf⟩:=HZ.o;obtain⟨WW,hWW⟩:∃WW,WW=wr.alloc (.cells #[.int .i64 gl[k].1,.int .i64 gl[k].2] 145):=⟨_,rfl⟩;rw[←hWW];have q1:WW.heap[w.heap.size+1]?=some (.cells #[.slice none 0 0] 82 (0,0)):=by rw[hWW];exact Qj r1 _
   have q2:WW.heap[w.heap.size+1+1]?=some (.cells #[v] 82 (0,0)):=by rw[hWW];exact Qj r2 _
   have qv:WW.ownsRow (w.heap.size+3) 143 1 v (Xu gl k).length (Qg (Xu gl k)):=by rw[hWW];exact rv.alloc _
   have qg:WW.ownsRow (w.heap.size+3) 145 2 (.slice (some ⟨gg,0,none⟩) gl.length cg) gl.length (pcs gl):=by rw[hWW];exact rg.alloc _
   have qf:Below w.heap.size w WW:=by rw[hWW];exact rf.alloc (by omega) _
   have qz:w.heap.size+3≤WW.heap.size:=by rw[hWW,World.size_alloc];omega
   have k2:WW.cell? ⟨w.heap.size+1+1,0,none⟩=some v:=by have:=Qa q2 0;simpa using this
   have hsrt:=Qc (Yg gl k);clear hWW r1 r2 rv rg rf HZ c0 c1;by_cases hx:gl[k].1∈Xu gl k
   ·refine(Wc (Xu gl k) gl[k].1 hx hsrt _ 0 _ v WW k2 qv hle).mono ?_;rintro e w7 ⟨rfl,HW⟩;have H7:Hid (w7.heap[w.heap.size+1]?=some (.cells #[.slice none 0 0] 82 (0,0))∧w7.heap[w.heap.size+1+1]?=some (.cells #[v] 82 (0,0))∧w7.ownsRow (w.heap.size+3) 143 1 v (Xu gl (k+1)).length (Qg (Xu gl (k+1)))∧w7.ownsRow (w.heap.size+3) 145 2 (.slice (some ⟨gg,0,none⟩) gl.length cg) gl.length (pcs gl)∧v.ownBlock≠some (w.heap.size+1+1)∧Below w.heap.size w w7∧w.heap.size+3≤w7.heap.size):=by
     rw[HW.o,Qed hlt hx];exact⟨q1,q2,qv,qg,rn,qf,qz⟩
    clear q1 q2 qv qg qf qz k2 hx HW rn;go_wp2_with fail;go_roundw
    case rel=>exact⟨k+1,v,by omega,by go_num,H7⟩
    case measure=>simp[intOf];omega
   ·refine(QeZ (Xu gl k) gl[k].1 hx hsrt _ 0 _ v WW k2 (Qf q2 0) qv hle qz rn).mono ?_;rintro e w7 ⟨rfl,i7,v7,H⟩;have H7:Hid (w7.heap[w.heap.size+1]?=some (.cells #[.slice none 0 0] 82 (0,0))∧w7.heap[w.heap.size+1+1]?=some (.cells #[v7] 82 (0,0))∧w7.ownsRow (w.heap.size+3) 143 1 v7 (Xu gl (k+1)).length (Qg (Xu gl (k+1)))∧w7.ownsRow (w.heap.size+3) 145 2 (.slice (some ⟨gg,0,none⟩) gl.length cg) gl.length (pcs gl)∧v7.ownBlock≠some (w.heap.size+1+1)∧Below w.heap.size w w7∧w.heap.size+3≤w7.heap.size):=by
     obtain⟨_,hsp,o7,hp⟩:=H.o;rw[Qee hlt hx hsp];refine⟨?_,Qdj q2 hp,o7,?_,QfJ hp (lt_of_block q2) rn,?_,Nat.le_trans qz hp.size⟩
     ·rw[hp.block _ (by omega) (by omega) (fun e=>by have:=(qv.lt _ e.symm).1;omega)];exact q1
     ·exact Qd qg (Qs.put (T:=fun t=>t=145) (Qft (base:=0) q2 (Nat.zero_le _)) qv hp (by simp) (by simp)) rfl
     ·exact Put.below qf (by omega) (Qm qv (by omega)) hp (by omega)
    clear q1 q2 qv qg qf qz k2 hx H rn;go_wp2_with fail;go_roundw
    case rel=>exact⟨k+1,v7,by omega,by go_num,H7⟩
    case measure=>simp[intOf];omega
  ·have hke:k=gl.length:=by omega
   subst hke;obtain⟨pv,cv,rfl⟩:=Qb rv;have k1:=Qa r1 0;have k1f:=Qf r1 0;have k2:=Qa r2 0;simp at k1 k2;have F6:Hid ((wr.setCell ⟨w.heap.size+1,0,none⟩ (.slice pv (Xu gl gl.length).length cv)).ownsRow w.heap.size 143 1 (.slice pv (Xu gl gl.length).length cv) (Xu gl gl.length).length (Qg (Xu gl gl.length))∧Below w.heap.size w (wr.setCell ⟨w.heap.size+1,0,none⟩ (.slice pv (Xu gl gl.length).length cv))):=
    ⟨Qm (QB rv _ 0 _ (by omega)) (by omega),Qr rf _ _ _ (by omega)⟩
   rw[HE.o]at F6 k2;clear HR r1 r2 rv rg rn rf;go_wp2_with fail;refine bodyPost_ret (v:=.agg #[.slice pv (bhd e).length cv]) (by simp[results,Tryz.results127,go_sem,k1]) rfl ⟨_,rfl,?_,?_⟩
   ·exact F6.o.1
   ·exact F6.o.2
end Go.Proofs.YtgfhfkgdmidhpaaGreatDoor
