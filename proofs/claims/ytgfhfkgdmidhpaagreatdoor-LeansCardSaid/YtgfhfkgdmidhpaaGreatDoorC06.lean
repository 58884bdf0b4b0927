import Derived.Test.YtgfhfkgdmidhpaaGreatDoorC05
import Derived.Deep.RegionHeld3
import Derived.Lib.OthersKept
namespace Go.Proofs.YtgfhfkgdmidhpaaGreatDoor
open Go.RowKit
set_option maxRecDepth 100000
set_option maxHeartbeats 8000000
def Q3(l:List (Nat×Nat)):List Nat:=l.map (·.1)
def Kp(ahead given:List Nat)(c:QH):Bool:=decide (Q3 c.gs=ahead)&&!Qt given c.to.1
def Js(ahead:List Nat):List Nat→List QH→Option Nat
 | _,[]=>none
 | gv,c::cs=>if Kp ahead gv c then Js ahead (gv++[c.to.1]) cs else some c.to.2
def Xw(bs:List Ql)(i:Nat):Option Nat:=match bs[i]? with|some b=>Js (aheF bs i) [] b.chs|none=>none
def YM(o:Option Nat):Int:=match o with|some g=>g|none=>-1
def Ka(bs:List Ql):Int:=YM ((List.range bs.length).findSome? (Xw bs))
def tos(l:List QH):List Nat:=l.map (·.to.1)
theorem Rq{ahead:List Nat}{chs:List QH}{q:Nat}(hq:q<chs.length):Js ahead (tos (chs.take q)) (chs.drop q)=if Kp ahead (tos (chs.take q)) chs[q] then Js ahead (tos (chs.take (q+1))) (chs.drop (q+1)) else some chs[q].to.2:=by
 rw[List.drop_eq_getElem_cons hq,Js,List.take_succ_eq_append_getElem hq,show tos (chs.take q++[chs[q]])=tos (chs.take q)++[chs[q].to.1] from by rw[tos,List.map_append];rfl]
theorem VX{bs:List Ql}{m:Nat}(hm:m<bs.length)(h:∀i,i<m→Xw bs i=none){x:Nat}(hx:Xw bs m=some x):Ka bs=x:=by
 have h1:(List.range bs.length).findSome? (Xw bs)=some x:=by
  have e:List.range bs.length=List.range m++(m::(List.range (bs.length-m-1)).map (fun y=>m+(1+y))):=by
   have:=List.range_add (n:=m) (m:=bs.length-m);rw[show m+(bs.length-m)=bs.length from by omega]at this;rw[this,show bs.length-m=1+(bs.length-m-1) from by omega,List.range_add];simp
  rw[e,List.findSome?_append];have h2:(List.range m).findSome? (Xw bs)=none:=by
   rw[List.findSome?_eq_none_iff];intro i hi;exact h i (by simpa using hi)
  rw[h2];simp[hx]
 rw[Ka,h1];rfl
theorem Wj{bs:List Ql}(h:∀i,i<bs.length→Xw bs i=none):Ka bs=-1:=by
 have h2:(List.range bs.length).findSome? (Xw bs)=none:=by
  rw[List.findSome?_eq_none_iff];intro i hi;exact h i (by simpa using hi)
 rw[Ka,h2];rfl
theorem QfY{l:List (Nat×Nat)}{a:List Nat}(hl:l.length=a.length)(h:∀x,(h1:x<l.length)→(h2:x<a.length)→l[x].1=a[x]):Q3 l=a:=by
 apply List.ext_getElem (by simpa[Q3] using hl);intro i h1 h2;simp only[Q3,List.getElem_map];exact h i (by simpa[Q3] using h1) h2
theorem QfX{l:List (Nat×Nat)}{a:List Nat}{x:Nat}(h1:x<l.length)(h2:x<a.length)(h:l[x].1≠a[x]):Q3 l≠a:=by
 intro e;subst e;simp[Q3]at h
theorem NN(bs k):(aheF bs k).length≤bs.length:=Yx _ _ _
theorem QbR(bs:List Ql)(base:Nat)(v:Value)(w:World)(h:QK w base bs v)(hl:bs.length≤1000000)(hc1:∀b∈bs,b.chs.length≤1000000)(hc2:∀b∈bs,∀c∈b.chs,c.gs.length≤1000000):
  Calls Tryz.prog 24 #[v] w fun x w'=>x=.returned (.int .i64 (Ka bs))∧Below w.heap.size w w':=by
 obtain⟨pv,cv,rfl⟩:=h.slice;go_enter Tryz.func24,Tryz.ntmps24;go_wp2_with fail
 go_loopw [3] (fun i wr=>∃m:Nat,m≤bs.length∧i=.int .i64 m∧(∀x,x<m→Hid (Xw bs x=none))∧Hid (Below w.heap.size w wr)) (fun i _=>bs.length-(intOf i).toNat)
 case atStart=>exact⟨0,by omega,rfl,fun x hx=>by omega,Below.refl _ _⟩
 case round=>
  obtain⟨m,hm,rfl,H1,F⟩:=hrel;by_cases hlt:m<bs.length
  ·have hB:=h.keeps3 (Qs.below F.o);go_wp2_with fail;refine(Qcw bs m _ _ _ hB hl).mono ?_;rintro x w1 ⟨va,rfl,OA,f1⟩;have hz0:=F.o.size;replace F:=Qc (F.o.trans (f1.mono hz0));have hz1:w.heap.size≤w1.heap.size:=F.o.size;have HU:Hid (Xw bs m=Js (aheF bs m) [] bs[m].chs):=by show _=_;simp[Xw,hlt]
   have hal:=NN bs m;generalize aheF bs m=ah at *;obtain⟨pa,ca,rfl⟩:=Qb OA;have L1:=hc1 _ (List.getElem_mem hlt);have L2:=hc2 _ (List.getElem_mem hlt);clear f1 hB;go_wp2_with fail
   go_loopw [5,6] (fun gv k wq=>∃q:Nat,q≤bs[m].chs.length∧k=.int .i64 q∧wq.ownsRow w1.heap.size 3 1 gv (tos (bs[m].chs.take q)).length (Qg (tos (bs[m].chs.take q)))∧Hid (Xw bs m=Js ah (tos (bs[m].chs.take q)) (bs[m].chs.drop q))∧Hid (Below w1.heap.size w1 wq)) (fun _ k _=>bs[m].chs.length-(intOf k).toNat)
   case atStart=>exact⟨0,by omega,rfl,World.ownsRow_nil _ _ _ _,by simpa[tos] using HU,Below.refl _ _⟩
   case round=>
    clear HU;obtain⟨q,hq,rfl,OV,H2,F2⟩:=hrel;have FF:=F.o.trans (F2.o.mono hz1);have hB:=h.keeps3 (Qs.below FF);obtain⟨g,qc,cc,ps,cs,rfl,_,hgs,OC,_,hc⟩:=hB.at hlt;have d0:wr.cell? ⟨g,m*10,none⟩=_:=hc 0 _ rfl;clear hc hB;obtain⟨pv2,cv2,rfl⟩:=Qb OV;have hz2:=F2.o.size;by_cases hql:q<bs[m].chs.length
    ·obtain⟨gc,pf,cf,pr,cr,rfl,_,hgc,OF,_,e0,e1,e2,e3⟩:=OC.at hql;have L3:=L2 _ (List.getElem_mem hql);have H2':=Qc (H2.o.trans (Rq hql));replace OA:=Qd OA (Qi F2.o) trivial;clear H2;have hvl:(tos (bs[m].chs.take q)).length≤1000000:=by simp[tos];omega
     generalize hto:tos (bs[m].chs.take q)=gv at *;replace hto:=Qc hto;generalize hcc:bs[m].chs[q]=c at *;replace hcc:=Qc hcc;by_cases hlen:c.gs.length=ah.length
     ·have hle:((c.gs.length:Int)==(ah.length:Int))=true:=by simp;omega
      have HLEN:=Qc hlen;clear hlen;go_wp2_with fail;refine(Yt gv c.to.1 _ _ _ (OV.alloc (.cells #[.int .i64 c.to.1,.int .i64 c.to.2,.slice pf c.gs.length cf,.slice pr c.rs.length cr] 64)) hvl).mono ?_;rintro x w9 ⟨rfl,rfl⟩
      cases hh:Qt gv c.to.1 with
      | true=>
       have HK:Kp ah gv c=false:=by simp[Kp,hh]
       clear hh;go_wp2_with fail;have HP:Hid (Ka bs=c.to.2):=VX hlt (fun x hx=>(H1 x hx).out) (by rw[H2'.o,if_neg (by simp[HK])]);clear H2' HK
       go_loopw [8,9] (fun o j wz=>o=.bool false∧j=.int .i64 0∧wz=wr.alloc (.cells #[.int .i64 c.to.1,.int .i64 c.to.2,.slice pf c.gs.length cf,.slice pr c.rs.length cr] 64)) (fun _ _ _=>0)
       case atStart=>exact⟨rfl,rfl,rfl⟩
       case round=>
        obtain⟨rfl,rfl,rfl⟩:=hrel;by_cases hg0:0<c.gs.length
        all_goals
         go_wp2_with fail;go_ret;exact⟨by rw[HP.o];rfl,FF.alloc (by omega) _⟩
      | false=>
       have HH:=Qc hh;clear hh;go_wp2_with fail
       go_loopw [8,9] (fun o j wz=>∃(b:Bool)(t n:Nat),o=.bool b∧j=.int .i64 t∧t≤c.gs.length∧wz=(wr.alloc (.cells #[.int .i64 c.to.1,.int .i64 c.to.2,.slice pf c.gs.length cf,.slice pr c.rs.length cr] 64)).drewN n∧Hid (b=true→∀x,(h1:x<t)→(h2:x<c.gs.length)→(h3:x<ah.length)→c.gs[x].1=ah[x])∧Hid (b=false→Kp ah gv c=false)) (fun _ j _=>c.gs.length-(intOf j).toNat)
       case atStart=>exact⟨true,0,0,rfl,rfl,by omega,rfl,fun _ x h1=>by omega,fun h=>by cases h⟩
       case round=>
        obtain⟨b,t,n,rfl,rfl,htl,rfl,HT,HF⟩:=hrel
        cases b with
        | false=>
         have HP:Hid (Ka bs=c.to.2):=VX hlt (fun x hx=>(H1 x hx).out) (by rw[H2'.o,if_neg (by simp[HF.o rfl])]);clear H2' HT HF;by_cases hg0:t<c.gs.length
         all_goals
          go_wp2_with fail;go_ret;exact⟨by rw[HP.o];rfl,below_drewN (FF.alloc (by omega) _) _⟩
        | true=>
         by_cases hg0:t<c.gs.length
         ·have hga:t<ah.length:=by have:=HLEN.o;omega
          obtain⟨gf,rfl,_,hgf⟩:=Qh OF (by omega);obtain⟨ga,rfl,_,hga2⟩:=Qh OA (by omega);have f0:=Qe OF (QX hg0).1;have a0:=Qe OA (j:=t) (u:=.int .i64 ah[t]) (by simp[Qg,hga]);have n5:gf<wr.heap.size:=hgf;have n6:ga<wr.heap.size:=hga2;have HE:Hid (((c.gs[t].1:Int)==(ah[t]:Int))=true→∀x,(h1:x<t+1)→(h2:x<c.gs.length)→(h3:x<ah.length)→c.gs[x].1=ah[x]):=by
           intro he x h1 h2 h3;rcases Nat.lt_succ_iff_lt_or_eq.1 h1 with h1|rfl
           ·exact HT.o rfl x h1 h2 h3
           ·simp at he;omega
          have HG:Hid (((c.gs[t].1:Int)==(ah[t]:Int))=false→Kp ah gv c=false):=by
           intro he;have:Q3 c.gs≠ah:=QfX hg0 hga (by simp at he;omega);simp[Kp,this]
          clear HT HF;go_wp2_with fail
          go_quiet (fail)
          go_wp2_with fail;go_roundw
          case rel=>exact⟨_,t+1,n+nq,rfl,by go_num,by omega,by simp,HE,HG⟩
          case measure=>simp[intOf];omega
         ·have HK:Kp ah gv c=true:=by
           have h1:Q3 c.gs=ah:=QfY HLEN.o (fun x h1 h2=>HT.o rfl x (by omega) h1 h2);simp[Kp,h1,HH.o]
          have H3:=H2'.o;rw[if_pos HK]at H3;have H3':=Qc H3;clear H2' H3 HK HT HF;go_wp2_with (at_builtin;refine Qv ?_);refine Qc ?_;have gB:(((wr.alloc (.cells #[.int .i64 c.to.1,.int .i64 c.to.2,.slice pf c.gs.length cf,.slice pr c.rs.length cr] 64)).drewN n).alloc (.cells #[.int .i64 c.to.1] 3)).heap[wr.heap.size+1]?=some (.cells #[.int .i64 c.to.1] 3 (0,0)):=by
           have:=heap_alloc_last ((wr.alloc (.cells #[.int .i64 c.to.1,.int .i64 c.to.2,.slice pf c.gs.length cf,.slice pr c.rs.length cr] 64)).drewN n) (.cells #[.int .i64 c.to.1] 3)
           rwa [show ((wr.alloc (.cells #[.int .i64 c.to.1,.int .i64 c.to.2,.slice pf c.gs.length cf,.slice pr c.rs.length cr] 64)).drewN n).heap.size=wr.heap.size+1 from World.size_alloc _ _]at this
          have OV2:=(Qd (OV.alloc (.cells #[.int .i64 c.to.1,.int .i64 c.to.2,.slice pf c.gs.length cf,.slice pr c.rs.length cr] 64)) (Qs.drewN (T:=fun _=>True) (wr.alloc (.cells #[.int .i64 c.to.1,.int .i64 c.to.2,.slice pf c.gs.length cf,.slice pr c.rs.length cr] 64)) n) trivial).alloc (.cells #[.int .i64 c.to.1] 3);have hzz:w1.heap.size≤(((wr.alloc (.cells #[.int .i64 c.to.1,.int .i64 c.to.2,.slice pf c.gs.length cf,.slice pr c.rs.length cr] 64)).drewN n).alloc (.cells #[.int .i64 c.to.1] 3)).heap.size:=by
           rw[World.size_alloc,show ((wr.alloc (.cells #[.int .i64 c.to.1,.int .i64 c.to.2,.slice pf c.gs.length cf,.slice pr c.rs.length cr] 64)).drewN n).heap.size=wr.heap.size+1 from World.size_alloc _ _];omega
          have F5:=(below_drewN (F2.o.alloc (by omega) (.cells #[.int .i64 c.to.1,.int .i64 c.to.2,.slice pf c.gs.length cf,.slice pr c.rs.length cr] 64)) n).alloc (by rw[show ((wr.alloc (.cells #[.int .i64 c.to.1,.int .i64 c.to.2,.slice pf c.gs.length cf,.slice pr c.rs.length cr] 64)).drewN n).heap.size=wr.heap.size+1 from World.size_alloc _ _];omega) (.cells #[.int .i64 c.to.1] 3);have HT1:Hid (tos (bs[m].chs.take (q+1))=gv++[c.to.1]):=by
           show _=_;rw[List.take_succ_eq_append_getElem hql,tos,List.map_append,←hto.out,←hcc.out];rfl
          refine Kd Tryz.underlying22 Tryz.info3 rfl (by decide) (by decide) rfl _ _ rfl rfl OV2 gB rfl rfl (List.all_eq_true.1 rfl) hvl hzz ?_;intro v3 wS oS gS;have F6:=Qc (Below.grown F5 gS hzz (fun j hj=>(OV2.lt j hj).1));clear gS gB OV2 F5 hzz;obtain⟨p5,c5,rfl⟩:=Qb oS;go_wp2_with fail;go_roundw
          case rel=>exact⟨q+1,by omega,by go_num,by rw[HT1.o,List.length_append];simpa[Qg] using oS,H3',F6⟩
          case measure=>simp[intOf];omega
     ·have hle:((c.gs.length:Int)==(ah.length:Int))=false:=by simp;omega
      have HK:Kp ah gv c=false:=by
       have:Q3 c.gs≠ah:=fun e=>hlen (by rw[←e];simp[Q3]);simp[Kp,this]
      clear hlen;go_wp2_with fail;have HP:Hid (Ka bs=c.to.2):=VX hlt (fun x hx=>(H1 x hx).out) (by rw[H2'.o,if_neg (by simp[HK])]);clear H2' HK
      go_loopw [8,9] (fun o j wz=>o=.bool false∧j=.int .i64 0∧wz=wr.alloc (.cells #[.int .i64 c.to.1,.int .i64 c.to.2,.slice pf c.gs.length cf,.slice pr c.rs.length cr] 64)) (fun _ _ _=>0)
      case atStart=>exact⟨rfl,rfl,rfl⟩
      case round=>
       obtain⟨rfl,rfl,rfl⟩:=hrel;by_cases hg0:0<c.gs.length
       all_goals
        go_wp2_with fail;go_ret;exact⟨by rw[HP.o];rfl,FF.alloc (by omega) _⟩
    ·have HN:Hid (Xw bs m=none):=by
      have:=H2.o;rw[List.drop_eq_nil_of_le (by omega)]at this;exact this
     clear H2;have H1':∀x,x<m+1→Hid (Xw bs x=none):=fun x hx=>by
      rcases Nat.lt_succ_iff_lt_or_eq.1 hx with hx|rfl
      ·exact H1 x hx
      ·exact HN
     have F3:=Qc FF;clear FF;go_wp2_with fail;go_roundw
     case rel=>exact⟨m+1,by omega,by go_num,H1',F3⟩
     case measure=>simp[intOf];omega
  ·have HP:Hid (Ka bs=-1):=Wj (fun i hi=>(H1 i (by omega)).out);go_wp2_with fail;go_ret;exact⟨by rw[HP.o];rfl,F.o⟩
theorem Qcm{s} (k c):(Zv s k c).gs.length≤c.gs.length+k:=by
 induction k generalizing c with
 | zero=>exact Nat.le_refl _
 | succ k ih=>
  rw[Zv];have h0:(choR s c).gs.length=c.gs.length+1:=by simp[choR]
  cases h:onF s (choR s c).i (choR s c).bad 44 with
  | true=>
   rw[if_pos rfl];have:=ih { choR s c with i:=gotI s (choR s c).i (choR s c).bad 44 };dsimp only at this ⊢;omega
  | false=>rw[if_neg (by simp)];dsimp only;omega
theorem NF{s i bad}:(choF s i bad).gs.length≤s.size+1:=by
 have:=Qcm (s:=s) (s.size+1) { gs:=[],rs:=[],i:=gotI s i bad 64,bad:=mustB s i bad 64 };simpa[choF] using this
theorem Qcr{s i0}(k:Nat):∀chs sts i bad,(QG s i0 k chs sts i bad).b.chs.length≤chs.length+k∧((∀c∈chs,c.gs.length≤s.size+1)→∀c∈(QG s i0 k chs sts i bad).b.chs,c.gs.length≤s.size+1):=by
 induction k with
 | zero=>intro chs sts i bad;exact⟨Nat.le_refl _,fun h=>h⟩
 | succ k ih=>
  intro chs sts i bad;rw[QG];by_cases hb:bad<0
  ·rw[if_pos hb];by_cases h1:onF s i bad 46=true
   ·rw[if_pos h1];exact⟨Nat.le_add_right _ _,fun h=>h⟩
   rw[if_neg h1];by_cases h2:onF s i bad 62=true
   ·rw[if_pos h2];exact⟨Nat.le_add_right _ _,fun h=>h⟩
   rw[if_neg h2];by_cases h3:onF s i bad 33=true
   ·rw[if_pos h3];exact⟨Nat.le_trans (ih _ _ _ _).1 (by omega),(ih _ _ _ _).2⟩
   rw[if_neg h3];dsimp only;by_cases h4:onF s (regI s i bad) (regB s i bad) 61=true
   ·rw[if_pos h4];exact⟨Nat.le_trans (ih _ _ _ _).1 (by omega),(ih _ _ _ _).2⟩
   rw[if_neg h4];by_cases h5:(onF s (regI s i bad) (regB s i bad) 64&&sts.isEmpty)=true
   ·rw[if_pos h5];refine⟨Nat.le_trans (ih _ _ _ _).1 (by simp;omega),fun h=>(ih _ _ _ _).2 ?_⟩;intro c hc;rcases List.mem_append.1 hc with hc|hc
    ·exact h c hc
    ·simp at hc;subst hc;exact NF
   rw[if_neg h5];exact⟨Nat.le_add_right _ _,fun h=>h⟩
  ·rw[if_neg hb];exact⟨Nat.le_add_right _ _,fun h=>h⟩
def Vs(n:Nat)(b:Ql):Prop:=b.chs.length≤n∧∀c∈b.chs,c.gs.length≤n
theorem Qcs{s i bad}:Vs (s.size+1) (blkF s i bad).b:=by
 have h:=Qcr (s:=s) (i0:=i) (s.size+1) [] [] i bad;exact⟨by simpa[blkF] using h.1,h.2 (by simp)⟩
theorem N6{s} (k p)(h:∀b∈p.bs,Vs (s.size+1) b):(ZU s k p).bs.length≤p.bs.length+k∧∀b∈(ZU s k p).bs,Vs (s.size+1) b:=by
 induction k generalizing p with
 | zero=>exact⟨Nat.le_refl _,h⟩
 | succ k ih=>
  rw[ZU];have hq:∀b∈p.bs++[(blkF s p.i p.bad).b],Vs (s.size+1) b:=by
   intro b hb;rcases List.mem_append.1 hb with hb|hb
   ·exact h b hb
   ·simp at hb;subst hb;exact Qcs
  cases ho:onF s (blkF s p.i p.bad).i (blkF s p.i p.bad).bad 124 with
  | true=>
   rw[if_pos rfl];have:=ih ⟨p.bs++[(blkF s p.i p.bad).b],gotI s (blkF s p.i p.bad).i (blkF s p.i p.bad).bad 124,(blkF s p.i p.bad).bad⟩ hq;refine⟨Nat.le_trans this.1 (by simp;omega),this.2⟩
  | false=>rw[if_neg (by simp)];exact⟨by simp,hq⟩
theorem UM(s):(Qq s).bs.length≤s.size+1∧∀b∈(Qq s).bs,Vs (s.size+1) b:=by
 have:=N6 (s:=s) (s.size+1) ⟨[],0,-1⟩ (by simp);simpa[Qq] using this
structure Rd where
 e:Nat
 at_:Int
def rdF(s:ByteArray):Rd:=
 if 200000<s.size then ⟨1,0⟩
 else if 0≤QR s then ⟨2,QR s⟩
 else if h:12<(Qq s).bs.length then ⟨3,(Qq s).bs[12].at_⟩
 else if 0≤ZR (Qq s).bs then ⟨4,ZR (Qq s).bs⟩
 else if 0≤Ka (Qq s).bs then ⟨6,Ka (Qq s).bs⟩
 else ⟨0,0⟩
def Qe3(w:World)(base:Nat)(s:ByteArray)(v:Value):Prop:=(rdF s).e=0→QK w base (Qq s).bs v
theorem RI{w base s v e a}(h:rdF s=⟨e,a⟩)(he:e≠0):Qe3 w base s v:=fun g=>by rw[h]at g;exact absurd g he
theorem QhB{w base s v}(h:QK w base (Qq s).bs v):Qe3 w base s v:=fun _=>h
theorem RG(s:ByteArray)(w:World)(hs:s.size≤maxLen):
  Calls Tryz.prog 7 #[.string s] w fun x w'=>∃v,x=.returned (.tuple #[v,.int .i64 (rdF s).e,.int .i64 (rdF s).at_])∧Qe3 w' w.heap.size s v∧Below w.heap.size w w':=by
 unfold maxLen at hs;by_cases h1:200000<s.size
 ·have HR:Hid (rdF s=⟨1,0⟩):=by show _=_;rw[rdF,if_pos h1]
  go_enter Tryz.func7,Tryz.ntmps7;go_wp2_with fail
  go_ret3
  exact⟨_,by rw[HR.o];rfl,RI HR.o (by decide),Below.refl _ _⟩
 ·go_enter Tryz.func7,Tryz.ntmps7;go_wp2_with fail;refine(Qb5 s _ (by omega)).mono ?_;rintro x w1 ⟨v,rfl,O,f1⟩;have F:Below w.heap.size w w1:=⟨f1.os,f1.tape,f1.output,f1.size,fun k hk=>f1.block k hk (by omega)⟩;have hfine:=UM s;clear f1;by_cases h2:0≤QR s
  ·have HR:Hid (rdF s=⟨2,QR s⟩):=by show _=_;rw[rdF,if_neg h1,if_pos h2]
   clear hfine;go_wp2_with fail
   go_ret3
   exact⟨_,by rw[HR.o];rfl,RI HR.o (by decide),F⟩
  ·obtain⟨pv,cv,rfl⟩:=O.slice;by_cases h3:12<(Qq s).bs.length
   ·have HR:Hid (rdF s=⟨3,(Qq s).bs[12].at_⟩):=by show _=_;rw[rdF,if_neg h1,if_neg h2,dif_pos h3]
    obtain⟨g,qc,cc,ps,cs,rfl,_,_,_,_,hc⟩:=O.at h3;have d9:w1.cell? ⟨g,129,none⟩=_:=hc 9 _ rfl;have hbl:(Qq s).bs.length≤1000000:=by omega
    clear hc hfine
    go_wp2
    go_quiet (fail)
    go_wp2
    go_ret3
    exact⟨_,by rw[HR.o];rfl,RI HR.o (by decide),below_drewN F _⟩
   ·have hf1:(Qq s).bs.length≤1000000:=by omega
    have hf2:∀b∈(Qq s).bs,b.chs.length≤1000000:=fun b hb=>by have:=(hfine.2 b hb).1;omega
    have hf3:∀b∈(Qq s).bs,∀c∈b.chs,c.gs.length≤1000000:=fun b hb c hc=>by have:=(hfine.2 b hb).2 c hc;omega
    clear hfine;go_wp2_with fail;refine(QdP _ _ _ _ O hf1 hf2 hf3).mono ?_;rintro x w2 ⟨rfl,f2⟩;have F2:=F.trans (f2.mono F.size);replace O:=O.keeps3 (Qs.below f2);by_cases h4:0≤ZR (Qq s).bs
    ·have HR:Hid (rdF s=⟨4,ZR (Qq s).bs⟩):=by show _=_;rw[rdF,if_neg h1,if_neg (by omega),dif_neg h3,if_pos h4]
     clear hf2 hf3;go_wp2_with fail
     go_ret3
     exact⟨_,by rw[HR.o];rfl,RI HR.o (by decide),F2⟩
    ·go_wp2_with fail;refine(QbR _ _ _ _ O hf1 hf2 hf3).mono ?_;rintro x w3 ⟨rfl,f3⟩;have F3:=F2.trans (f3.mono F2.size);replace O:=O.keeps3 (Qs.below f3);by_cases h5:0≤Ka (Qq s).bs
     ·have HR:Hid (rdF s=⟨6,Ka (Qq s).bs⟩):=by show _=_;rw[rdF,if_neg h1,if_neg (by omega),dif_neg h3,if_neg (by omega),if_pos h5]
      clear hf2 hf3;go_wp2_with fail
      go_ret3
      exact⟨_,by rw[HR.o];rfl,RI HR.o (by decide),F3⟩
     ·have HR:Hid (rdF s=⟨0,0⟩):=by show _=_;rw[rdF,if_neg h1,if_neg (by omega),dif_neg h3,if_neg (by omega),if_neg h5]
      clear hf2 hf3;go_wp2_with fail
      go_ret3
      exact⟨_,by rw[HR.o];rfl,QhB O,F3⟩
def mc(x:Nat×Int):List Value:=[.int .i64 x.1,.int .i32 x.2]
def mcs(l:List (Nat×Int)):List Value:=l.flatMap mc
theorem QdO{l:List (Nat×Int)}{j:Nat}(hj:j<l.length):(mcs l)[j*2]?=some (.int .i64 l[j].1)∧(mcs l)[j*2+1]?=some (.int .i32 l[j].2):=by
 have h:∀x∈l.map mc,x.length=2:=by intro x hx;simp at hx;obtain⟨a,b,_,rfl⟩:=hx;rfl
 have hk:(l.map mc)[j]?=some (mc l[j]):=by simp[hj]
 rw[mcs,List.flatMap_def];exact⟨ZS 2 _ j 0 _ h hk (by omega),ZS 2 _ j 1 _ h hk (by omega)⟩
structure Xm(w:World)(b:Nat)(s:ByteArray)(ms:List (Nat×Int))(k:Nat)(g cap:Nat):Prop where
 B:∃t,w.heap[b]?=some (.cells #[.string s,.slice (some ⟨g,0,none⟩) ms.length cap,.int .i64 k] t (0,0))
 M:w.ownsRow 0 275 2 (.slice (some ⟨g,0,none⟩) ms.length cap) ms.length (mcs ms)
 N:g≠b
theorem Xm.c0{w b s ms k g cap}(h:Xm w b s ms k g cap):w.cell? ⟨b,0,none⟩=some (.string s):=by obtain⟨⟨t,h⟩,_⟩:=h;simp[World.cell?,h]
theorem Xm.c1{w b s ms k g cap}(h:Xm w b s ms k g cap):w.cell? ⟨b,1,none⟩=some (.slice (some ⟨g,0,none⟩) ms.length cap):=by obtain⟨⟨t,h⟩,_⟩:=h;simp[World.cell?,h]
theorem Xm.c2{w b s ms k g cap}(h:Xm w b s ms k g cap):w.cell? ⟨b,2,none⟩=some (.int .i64 k):=by obtain⟨⟨t,h⟩,_⟩:=h;simp[World.cell?,h]
theorem Xm.fz{w b s ms k g cap}(h:Xm w b s ms k g cap)(o:Nat):w.frozen? ⟨b,o,none⟩=false:=by obtain⟨⟨t,h⟩,_⟩:=h;simp[World.frozen?,h]
theorem Xm.lt{w b s ms k g cap}(h:Xm w b s ms k g cap):b<w.heap.size:=by obtain⟨⟨t,h⟩,_⟩:=h;exact lt_of_block h
theorem Xm.glt{w b s ms k g cap}(h:Xm w b s ms k g cap):g<w.heap.size:=(h.M.lt g rfl).2
theorem Xm.m0{w b s ms k g cap}(h:Xm w b s ms k g cap){j:Nat}(hj:j<ms.length):w.cell? ⟨g,j*2,none⟩=some (.int .i64 ms[j].1):=Qe h.M (QdO hj).1
theorem Xm.m1{w b s ms k g cap}(h:Xm w b s ms k g cap){j:Nat}(hj:j<ms.length):w.cell? ⟨g,j*2+1,none⟩=some (.int .i32 ms[j].2):=Qe h.M (QdO hj).2
theorem Xm.drewN{w b s ms k g cap}(h:Xm w b s ms k g cap)(n:Nat):Xm (w.drewN n) b s ms k g cap:=⟨h.B,h.M,h.N⟩
theorem Xm.alloc{w b s ms k g cap}(h:Xm w b s ms k g cap)(o:Obj):Xm (w.alloc o) b s ms k g cap:=
 ⟨let ⟨t,hb⟩:=h.B;⟨t,Qj hb o⟩,h.M.alloc o,h.N⟩
theorem Jo{w w':World} {base e size g n cap xs}(h:w.ownsRow base e size (.slice (some ⟨g,0,none⟩) n cap) n xs)(hk:w'.heap[g]?=w.heap[g]?):w'.ownsRow base e size (.slice (some ⟨g,0,none⟩) n cap) n xs:=by
 obtain⟨h1,h2⟩:=h;refine⟨h1,?_⟩;rcases h2 with ⟨h0,_⟩|⟨g',cap',cur,hv,a,c,d⟩
 ·cases h0
 ·cases hv;exact .inr ⟨g,cap,cur,rfl,a,hk.trans c,d⟩
theorem Xm.set{w b s ms k g cap}(h:Xm w b s ms k g cap){j:Nat}{v:Int}(hv:v=j):Xm (w.setCell ⟨b,2,none⟩ (.int .i64 v)) b s ms j g cap:=by
 subst hv;refine⟨?_,Jo h.M (Below.heap_setCell _ _ _ _ h.N),h.N⟩;obtain⟨t,hb⟩:=h.B;exact⟨t,Qp hb 2 _⟩
theorem Xm.setk{w b s ms k g cap}(h:Xm w b s ms k g cap)(j o:Nat)(x:Value)(hj:b≠j)(hg:g≠j):Xm (w.setCell ⟨j,o,none⟩ x) b s ms k g cap:=by
 refine⟨?_,Jo h.M (Below.heap_setCell _ _ _ _ hg),h.N⟩;obtain⟨t,hb⟩:=h.B;exact⟨t,Qo hb hj o x⟩
theorem Xm.grown{w w':World} {b s ms k g cap}{row:Option Nat}(h:Xm w b s ms k g cap)(hg:w.grownBy w' row)(hr:∀j,row=some j→b≠j∧g≠j):Xm w' b s ms k g cap:=by
 refine⟨?_,Jo h.M (hg.block g h.glt (fun e=>(hr g e.symm).2 rfl)),h.N⟩;obtain⟨t,hb⟩:=h.B;exact⟨t,Qz hg hb (fun j hj=>(hr j hj).1)⟩
structure NQ(s:ByteArray)(ms:List (Nat×Int)):Prop where
 pos:0<ms.length
 first:∀h:0<ms.length,ms[0].1=0
 le:∀k,(h:k<ms.length)→ms[k].1≤s.size
 len:ms.length≤s.size+1
 ascii:∀k,(h:k<ms.length)→∀c:Nat,c<128→(ms[k].2=(c:Int)↔ms[k].1<s.size∧byt s ms[k].1=c)
 next:∀k,(h:k<ms.length)→0≤ms[k].2→ms[k].2<128→∃h2:k+1<ms.length,ms[k+1].1=ms[k].1+1
 cross:∀k,(h:k<ms.length)→(ms[k].2=215↔ms[k].1+1<s.size∧byt s ms[k].1=195∧byt s (ms[k].1+1)=151)
 nextCross:∀k,(h:k<ms.length)→ms[k].2=215→∃h2:k+1<ms.length,ms[k+1].1=ms[k].1+2
 fin:∀k,(h:k<ms.length)→(ms[k].2=-1↔ms[k].1=s.size)
 wide:∀k,(h:k<ms.length)→-1≤ms[k].2∧ms[k].2<2000000
theorem Y2(b:Nat)(s:ByteArray)(ms:List (Nat×Int))(k g cap:Nat)(w:World)(hp:Xm w b s ms k g cap)(hk:k<ms.length):
  Calls Tryz.prog 158 #[.pointer (some ⟨b,0,none⟩)] w fun e w'=>∃n,e=.returned (.int .i32 ms[k].2)∧w'=w.drewN n:=by
 have h1:=hp.c1;have h2:=hp.c2;have h3:=hp.m1 hk;have hk1:(k:Int)<(ms.length:Int):=by omega
 clear hp;go_enter Tryz.func158,Tryz.ntmps158
 go_wp2
 go_quiet (fail)
 go_wp2
 go_ret;exact⟨_,rfl,rfl⟩
theorem Qaz(b:Nat)(s:ByteArray)(ms:List (Nat×Int))(k g cap:Nat)(w:World)(hp:Xm w b s ms k g cap)(hk:k<ms.length):
  Calls Tryz.prog 196 #[.pointer (some ⟨b,0,none⟩)] w fun e w'=>∃n,e=.returned (.int .i64 ms[k].1)∧w'=w.drewN n:=by
 have h1:=hp.c1;have h2:=hp.c2;have h3:=hp.m0 hk;have hk1:(k:Int)<(ms.length:Int):=by omega
 clear hp;go_enter Tryz.func196,Tryz.ntmps196
 go_wp2
 go_quiet (fail)
 go_wp2
 go_ret;exact⟨_,rfl,rfl⟩
def brk(p:Int):List PanicEntry:=[{ v:=.iface 217 (.agg #[.int .i64 p]),recovered:=false }]
theorem G8(b:Nat)(s:ByteArray)(ms:List (Nat×Int))(k g cap:Nat)(w:World)(hp:Xm w b s ms k g cap)(hk:k<ms.length):
  Calls Tryz.prog 201 #[.pointer (some ⟨b,0,none⟩)] w fun e w'=>e=.panicked (brk ms[k].1)∧Fr b w w':=by
 go_enter Tryz.func201,Tryz.ntmps201;go_wp2_with fail;refine(Qaz b s ms k g cap _ hp hk).mono ?_;rintro e w1 ⟨n,rfl,rfl⟩;go_wp2_with fail;exact⟨rfl,rfl,(Fr.refl _ _).drewN _⟩
def RS(w:World)(b g:Nat)(s:ByteArray)(i:Nat):Prop:=∃ms k cap,NQ s ms∧(∃h:k<ms.length,ms[k].1=i)∧Xm w b s ms k g cap
theorem RS.lt{w b g s i}(h:RS w b g s i):b<w.heap.size:=by obtain⟨ms,k,cap,_,_,h⟩:=h;exact h.lt
theorem RS.glt{w b g s i}(h:RS w b g s i):g<w.heap.size:=by obtain⟨ms,k,cap,_,_,h⟩:=h;exact h.glt
theorem RS.le{w b g s i}(h:RS w b g s i):i≤s.size:=by obtain⟨ms,k,cap,hm,⟨hk,rfl⟩,_⟩:=h;exact hm.le k hk
theorem RS.drewN{w b g s i}(h:RS w b g s i)(n:Nat):RS (w.drewN n) b g s i:=by obtain⟨ms,k,cap,a,c,h⟩:=h;exact⟨ms,k,cap,a,c,h.drewN n⟩
theorem RS.alloc{w b g s i}(h:RS w b g s i)(o:Obj):RS (w.alloc o) b g s i:=by obtain⟨ms,k,cap,a,c,h⟩:=h;exact⟨ms,k,cap,a,c,h.alloc o⟩
theorem RS.setk{w b g s i}(h:RS w b g s i)(j o:Nat)(x:Value)(hj:b≠j)(hg:g≠j):RS (w.setCell ⟨j,o,none⟩ x) b g s i:=by obtain⟨ms,k,cap,a,c,h⟩:=h;exact⟨ms,k,cap,a,c,h.setk j o x hj hg⟩
theorem RS.grown{w w':World} {b g s i}{row:Option Nat}(h:RS w b g s i)(hg:w.grownBy w' row)(hr:∀j,row=some j→b≠j∧g≠j):RS w' b g s i:=by obtain⟨ms,k,cap,a,c,h⟩:=h;exact⟨ms,k,cap,a,c,h.grown hg hr⟩
theorem JN{s i c}:onF s i (-1) c=true↔i<s.size∧byt s i=c:=by simp[onF]
theorem Xf{b g:Nat}{s:ByteArray}{i c:Nat}{w:World}(hp:RS w b g s i)(hs:s.size≤200000)(hc:c<128)(ho:onF s i (-1) c=true):
  Calls Tryz.prog 197 #[.pointer (some ⟨b,0,none⟩),.int .i32 c] w fun e w'=>e=.returned (.bool true)∧RS w' b g s (i+1)∧Fr b w w':=by
 obtain⟨ms,k,cap,hm,⟨hk,rfl⟩,hr⟩:=hp;have e1:=(hm.ascii k hk c hc).2 (JN.1 ho);obtain⟨hk2,e2⟩:=hm.next k hk (by omega) (by omega);have h2:=hr.c2;have h3:=hr.fz 2;have hl:=hm.len;have e1':((ms[k].2:Int) != (c:Int))=false:=by simp[e1]
 have E2:=Qc e2;clear e1 e2 ho;go_enter Tryz.func197,Tryz.ntmps197;go_wp2_with fail;refine(Y2 b s ms k g cap _ hr hk).mono ?_;rintro e w1 ⟨n,rfl,rfl⟩;go_wp2_with fail;go_ret;exact⟨rfl,⟨ms,k+1,cap,hm,⟨hk2,E2.o⟩,(hr.drewN n).set (by omega)⟩,((Fr.refl _ _).drewN _).setCell _ _⟩
theorem XP{b g:Nat}{s:ByteArray}{i c:Nat}{w:World}(hp:RS w b g s i)(hc:c<128)(ho:onF s i (-1) c=false):
  Calls Tryz.prog 197 #[.pointer (some ⟨b,0,none⟩),.int .i32 c] w fun e w'=>e=.returned (.bool false)∧RS w' b g s i∧Fr b w w':=by
 have hp0:=Qc hp;obtain⟨ms,k,cap,hm,⟨hk,rfl⟩,hr⟩:=hp;have e1':((ms[k].2:Int) != (c:Int))=true:=by
  rw[bne_iff_ne];intro e;have:=JN.2 ((hm.ascii k hk c hc).1 e);rw[ho]at this;cases this
 clear ho;go_enter Tryz.func197,Tryz.ntmps197;go_wp2_with fail;refine(Y2 b s ms k g cap _ hr hk).mono ?_;rintro e w1 ⟨n,rfl,rfl⟩;go_wp2_with fail;go_ret;exact⟨rfl,hp0.out.drewN n,(Fr.refl _ _).drewN _⟩
theorem YW{b g:Nat}{s:ByteArray}{i:Nat}{w:World}(hp:RS w b g s i):
  Calls Tryz.prog 201 #[.pointer (some ⟨b,0,none⟩)] w fun e w'=>e=.panicked (brk i)∧Fr b w w':=by
 obtain⟨ms,k,cap,hm,⟨hk,rfl⟩,hr⟩:=hp;exact G8 b s ms k g cap w hr hk
theorem Jg{b g:Nat}{s:ByteArray}{i c:Nat}{w:World}(hp:RS w b g s i)(hs:s.size≤200000)(hc:c<128)(ho:onF s i (-1) c=true):
  Calls Tryz.prog 159 #[.pointer (some ⟨b,0,none⟩),.int .i32 c] w fun e w'=>e=.returned (.tuple #[])∧RS w' b g s (i+1)∧Fr b w w':=by
 have HO:=Qc ho;clear ho;go_enter Tryz.func159,Tryz.ntmps159;go_wp2_with fail;refine(Xf hp hs hc HO.o).mono ?_;rintro e w1 ⟨rfl,hp1,f1⟩;go_wp2_with fail
 go_end0
 exact⟨rfl,hp1,f1⟩
theorem Kt{b g:Nat}{s:ByteArray}{i c:Nat}{w:World}(hp:RS w b g s i)(hc:c<128)(ho:onF s i (-1) c=false):
  Calls Tryz.prog 159 #[.pointer (some ⟨b,0,none⟩),.int .i32 c] w fun e w'=>e=.panicked (brk i)∧Fr b w w':=by
 have HO:=Qc ho;clear ho;go_enter Tryz.func159,Tryz.ntmps159;go_wp2_with fail;refine(XP hp hc HO.o).mono ?_;rintro e w1 ⟨rfl,hp1,f1⟩;go_wp2_with fail;refine(YW hp1).mono ?_;rintro e w2 ⟨rfl,f2⟩;go_wp2_with fail;exact⟨rfl,rfl,f1.trans f2⟩
theorem GT{s:ByteArray}{i:Nat}(h:i<s.size):(s.get! i).toNat=byt s i:=by
 rw[KM h];simp only[ByteArray.get!,ByteArray.getElem_eq_getElem_data];rw[getElem!_pos]
theorem Jc{s:ByteArray}{i:Nat}(h:i<s.size):
  ((Utf8.decode s i).1<128↔byt s i<128)∧(byt s i<128→Utf8.decode s i=(byt s i,1)) ∧
  ((Utf8.decode s i).1=215↔i+1<s.size∧byt s i=195∧byt s (i+1)=151)∧((Utf8.decode s i).1=215→(Utf8.decode s i).2=2) ∧
  1≤(Utf8.decode s i).2∧i+(Utf8.decode s i).2≤s.size∧(Utf8.decode s i).1<2000000:=by
 have hb:=QeM s i;have g0:(s.get! (i+0)).toNat=byt s i:=GT h;unfold Utf8.decode;simp only[g0];by_cases h1:byt s i<128
 ·rw[if_pos h1];refine⟨by simp[h1],fun _=>rfl,?_,?_,by simp,by show i+1≤_;omega,by show byt s i<_;omega⟩
  ·constructor
   ·intro e;have e:byt s i=215:=e;omega
   ·rintro⟨_,e,_⟩;omega
  ·intro e;have e:byt s i=215:=e;omega
 ·rw[if_neg h1];have key:∀c wd:Nat,128≤c→c≠215→¬(i+1<s.size∧byt s i=195∧byt s (i+1)=151)→1≤wd→i+wd≤s.size→c<2000000 →
    (((c,wd):Nat×Nat).1<128↔byt s i<128)∧(byt s i<128→((c,wd):Nat×Nat)=(byt s i,1))∧(((c,wd):Nat×Nat).1=215↔i+1<s.size∧byt s i=195∧byt s (i+1)=151)∧(((c,wd):Nat×Nat).1=215→((c,wd):Nat×Nat).2=2)∧1≤((c,wd):Nat×Nat).2∧i+((c,wd):Nat×Nat).2≤s.size∧((c,wd):Nat×Nat).1<2000000:=by
   intro c wd a1 a2 a3 a4 a5 a6;exact⟨⟨fun e=>by have e:c<128:=e;omega,fun e=>absurd e h1⟩,fun e=>absurd e h1,⟨fun e=>absurd e a2,fun e=>absurd e a3⟩,fun e=>absurd e a2,a4,a5,a6⟩
  by_cases h2:(byt s i / 32==6&&(decide (i+1<s.size)&&(s.get! (i+1)).toNat / 64==2))=true
  ·rw[if_pos h2];simp only[Bool.and_eq_true,beq_iff_eq,decide_eq_true_eq]at h2;obtain⟨h3,h4,h5⟩:=h2;rw[GT h4]at h5 ⊢;have hb1:=QeM s (i+1);by_cases h6:(byt s i % 32)*64+byt s (i+1) % 64≥128
   ·rw[if_pos h6];refine⟨⟨fun e=>by have e:(byt s i % 32)*64+byt s (i+1) % 64<128:=e;omega,fun e=>absurd e h1⟩,fun e=>absurd e h1,⟨fun e=>?_,fun e=>?_⟩,fun _=>rfl,by show 1≤2;decide,by show i+2≤_;omega,by show (byt s i % 32)*64+byt s (i+1) % 64<2000000;omega⟩
    ·have e:(byt s i % 32)*64+byt s (i+1) % 64=215:=e;exact⟨h4,by omega,by omega⟩
    ·show (byt s i % 32)*64+byt s (i+1) % 64=215;omega
   ·rw[if_neg h6];exact key 65533 1 (by omega) (by omega) (fun e=>h6 (by omega)) (by omega) (by omega) (by omega)
  ·rw[if_neg h2];have hn:¬(i+1<s.size∧byt s i=195∧byt s (i+1)=151):=by
    rintro⟨a,c,d⟩;apply h2;simp only[Bool.and_eq_true,beq_iff_eq,decide_eq_true_eq];exact⟨by omega,a,by rw[GT a];omega⟩
   by_cases h3:(byt s i / 16==14&&(decide (i+1<s.size)&&(s.get! (i+1)).toNat / 64==2)&&(decide (i+2<s.size)&&(s.get! (i+2)).toNat / 64==2))=true
   ·rw[if_pos h3];simp only[Bool.and_eq_true,beq_iff_eq,decide_eq_true_eq]at h3;obtain⟨⟨h4,h5,h6⟩,h7,h8⟩:=h3;generalize (s.get! (i+1)).toNat=x1 at *;generalize (s.get! (i+2)).toNat=x2 at *;obtain⟨c,hc⟩:∃c,c=byt s i % 16*4096+x1 % 64*64+x2 % 64:=⟨_,rfl⟩;rw[←hc];by_cases h9:(decide (c≥2048)&&Utf8.valid (c:Int))=true
    ·rw[if_pos h9];simp only[Bool.and_eq_true,decide_eq_true_eq]at h9;exact key _ 3 (by omega) (by omega) hn (by omega) (by omega) (by omega)
    ·rw[if_neg h9];exact key 65533 1 (by omega) (by omega) hn (by omega) (by omega) (by omega)
   ·rw[if_neg h3];by_cases h4:(byt s i / 8==30&&(decide (i+1<s.size)&&(s.get! (i+1)).toNat / 64==2)&&(decide (i+2<s.size)&&(s.get! (i+2)).toNat / 64==2)&&(decide (i+3<s.size)&&(s.get! (i+3)).toNat / 64==2))=true
    ·rw[if_pos h4];simp only[Bool.and_eq_true,beq_iff_eq,decide_eq_true_eq]at h4;obtain⟨⟨⟨h5,h6,h7⟩,h8,h9⟩,h10,h11⟩:=h4;generalize (s.get! (i+1)).toNat=x1 at *;generalize (s.get! (i+2)).toNat=x2 at *;generalize (s.get! (i+3)).toNat=x3 at *;obtain⟨c,hc⟩:∃c,c=byt s i % 8*262144+x1 % 64*4096+x2 % 64*64+x3 % 64:=⟨_,rfl⟩;rw[←hc];by_cases h12:(decide (c≥65536)&&Utf8.valid (c:Int))=true
     ·rw[if_pos h12];simp only[Bool.and_eq_true,decide_eq_true_eq]at h12;refine key _ 4 (by omega) (by omega) hn (by omega) (by omega) ?_;have hv:=h12.2;unfold Utf8.valid at hv;simp at hv;omega
     ·rw[if_neg h12];exact key 65533 1 (by omega) (by omega) hn (by omega) (by omega) (by omega)
    ·rw[if_neg h4];exact key 65533 1 (by omega) (by omega) hn (by omega) (by omega) (by omega)
structure Rl(s:ByteArray)(ms:List (Nat×Int))(pos:Nat):Prop where
 zero:ms=[]→pos=0
 first:∀h:0<ms.length,ms[0].1=0
 at_:∀k,(h:k<ms.length)→ms[k].1<s.size∧ms[k].2=(Utf8.decode s ms[k].1).1
 next:∀k,(h:k+1<ms.length)→ms[k+1].1=ms[k].1+(Utf8.decode s ms[k].1).2
 last:∀k,(h:k<ms.length)→k+1=ms.length→pos=ms[k].1+(Utf8.decode s ms[k].1).2
 len:ms.length≤pos
 le:pos≤s.size
theorem Rl.nil(s):Rl s [] 0:=⟨fun _=>rfl,fun h=>absurd h (by simp),fun k h=>absurd h (by simp),fun k h=>absurd h (by simp),fun k h=>absurd h (by simp),by simp,by simp⟩
theorem Rl.snoc{s ms pos}(h:Rl s ms pos)(hp:pos<s.size):Rl s (ms++[(pos,((Utf8.decode s pos).1:Int))]) (pos+(Utf8.decode s pos).2):=by
 have hf:=Jc hp;have hl:(ms++[(pos,((Utf8.decode s pos).1:Int))]).length=ms.length+1:=by simp
 refine⟨by simp,?_,?_,?_,?_,?_,hf.2.2.2.2.2.1⟩
 ·intro h0;by_cases hm:0<ms.length
  ·rw[List.getElem_append_left hm];exact h.first hm
  ·have:ms=[]:=by cases ms with|nil=>rfl|cons _ _=>simp at hm
   subst this;simp[h.zero rfl]
 ·intro k hk;by_cases hm:k<ms.length
  ·rw[List.getElem_append_left hm];exact h.at_ k hm
  ·have:k=ms.length:=by omega
   subst this;simp[hp]
 ·intro k hk;rw[hl]at hk;by_cases hm:k+1<ms.length
  ·rw[List.getElem_append_left hm,List.getElem_append_left (by omega)];exact h.next k hm
  ·have:k+1=ms.length:=by omega
   rw[List.getElem_append_left (show k<ms.length by omega),List.getElem_append_right (by omega)];simp[this];exact h.last k (by omega) this
 ·intro k hk he;rw[hl]at he;have:k=ms.length:=by omega
  subst this;simp
 ·rw[hl];have:=h.len;omega
theorem Rl.marks{s ms}(h:Rl s ms s.size):NQ s (ms++[(s.size,-1)]):=by
 have hl:(ms++[(s.size,(-1:Int))]).length=ms.length+1:=by simp
 have hlast:(ms++[(s.size,(-1:Int))])[ms.length]'(by omega)=(s.size,-1):=by simp
 have hget:∀k,(hk:k<ms.length)→(ms++[(s.size,(-1:Int))])[k]'(by omega)=ms[k]:=fun k hk=>List.getElem_append_left hk;have hnx:∀k,(hk:k<ms.length)→∃h2:k+1<(ms++[(s.size,(-1:Int))]).length,((ms++[(s.size,(-1:Int))])[k+1]).1=ms[k].1+(Utf8.decode s ms[k].1).2:=by
  intro k hk;refine⟨by omega,?_⟩;by_cases hm:k+1<ms.length
  ·rw[hget _ hm];exact h.next k hm
  ·have e:k+1=ms.length:=by omega
   have:=h.last k hk e;simp only[e,hlast];exact this
 refine⟨by omega,?_,?_,?_,?_,?_,?_,?_,?_,?_⟩
 ·intro h0;by_cases hm:0<ms.length
  ·rw[hget 0 hm];exact h.first hm
  ·have:ms=[]:=by cases ms with|nil=>rfl|cons _ _=>simp at hm
   subst this;simp[h.zero rfl]
 ·intro k hk;by_cases hm:k<ms.length
  ·rw[hget k hm];have:=(h.at_ k hm).1;omega
  ·have:k=ms.length:=by omega
   subst this;rw[hlast];exact Nat.le_refl _
 ·rw[hl];have:=h.len;omega
 ·intro k hk c hc;by_cases hm:k<ms.length
  ·rw[hget k hm];obtain⟨a1,a2⟩:=h.at_ k hm;have hf:=Jc a1;rw[a2];constructor
   ·intro e;have e:(Utf8.decode s ms[k].1).1=c:=by omega
    have h1:=hf.1.1 (by omega);have h2:=hf.2.1 h1;rw[h2]at e;exact⟨a1,e⟩
   ·rintro⟨_,e⟩;have h2:=hf.2.1 (by omega);rw[h2];show ((byt s ms[k].1:Nat):Int)=c;omega
  ·have:k=ms.length:=by omega
   subst this;rw[hlast];exact⟨fun e=>by have e:(-1:Int)=c:=e;omega,fun e=>absurd e.1 (Nat.lt_irrefl _)⟩
 ·intro k hk h0 h1;by_cases hm:k<ms.length
  ·obtain⟨h2,e⟩:=hnx k hm;refine⟨h2,?_⟩;rw[hget k hm]at h1 ⊢;obtain⟨a1,a2⟩:=h.at_ k hm;have hf:=Jc a1;have h3:=hf.2.1 (hf.1.1 (by omega));rw[e,h3]
  ·have:k=ms.length:=by omega
   subst this;rw[hlast]at h0;exact absurd (show _ from h0) (by show ¬_;simp)
 ·intro k hk;by_cases hm:k<ms.length
  ·rw[hget k hm];obtain⟨a1,a2⟩:=h.at_ k hm;have hf:=Jc a1;rw[a2,←hf.2.2.1];omega
  ·have:k=ms.length:=by omega
   subst this;rw[hlast];exact⟨fun e=>by have e:(-1:Int)=215:=e;omega,fun e=>absurd e.1 (by show ¬s.size+1<s.size;omega)⟩
 ·intro k hk h0;by_cases hm:k<ms.length
  ·obtain⟨h2,e⟩:=hnx k hm;refine⟨h2,?_⟩;rw[hget k hm]at h0 ⊢;obtain⟨a1,a2⟩:=h.at_ k hm;have hf:=Jc a1;rw[e,hf.2.2.2.1 (by omega)]
  ·have:k=ms.length:=by omega
   subst this;rw[hlast]at h0;exact absurd (show _ from h0) (by show ¬_;simp)
 ·intro k hk;by_cases hm:k<ms.length
  ·rw[hget k hm];obtain⟨a1,a2⟩:=h.at_ k hm;rw[a2];exact⟨fun e=>by omega,fun e=>by omega⟩
  ·have:k=ms.length:=by omega
   subst this;rw[hlast];exact⟨fun _=>rfl,fun _=>rfl⟩
 ·intro k hk;by_cases hm:k<ms.length
  ·rw[hget k hm];obtain⟨a1,a2⟩:=h.at_ k hm;have hf:=Jc a1;rw[a2];have:=hf.2.2.2.2.2.2;exact⟨by omega,by omega⟩
  ·have:k=ms.length:=by omega
   subst this;rw[hlast];exact⟨by show (-1:Int)≤-1;decide,by show (-1:Int)<2000000;decide⟩
theorem Qs.iter{base:Nat}{T:TypeId→Prop}{w:World}{k:Nat}{s:ByteArray}{pos:Nat}(hk:w.heap[k]?=some (.stringIter s pos))(p:Nat):Qs base T w (w.iterAt k s p):=by
 intro g cur e _ _ h;rw[Lib.iterAt_other _ _ _ _ _ (fun e=>by subst e;rw[h]at hk;cases hk)];exact h
theorem Qal{w w':World}{k:Nat}{s:ByteArray}{pos:Nat} {base e size v n xs}(hk:w.heap[k]?=some (.stringIter s pos))(ho:w.ownsRow base e size v n xs)(hg:w.grownBy w' v.ownBlock):w'.heap[k]?=some (.stringIter s pos):=by
 refine Qz hg hk ?_;intro j hj e1;subst e1;rcases ho.2 with ⟨rfl,_⟩|⟨g,cap,cur,rfl,_,hc,_⟩
 ·simp[Value.ownBlock]at hj
 ·simp only[Value.ownBlock,Option.some.injEq]at hj;subst hj;rw[hk]at hc;cases hc
theorem Tryz.info275:(Tryz.prog.info? 275).map (fun i=>(i.zero,i.size,i.bytes))=some (some (.agg #[.int .i64 0,.int .i32 0]),2,16):=by kernel_rfl
theorem RX(l:List (Nat×Int))(x:Nat×Int):mcs l++[.int .i64 x.1,.int .i32 x.2]=mcs (l++[x]):=by simp[mcs,mc]
theorem RY(s:ByteArray)(w:World)(hs:s.size≤200000):
  Calls Tryz.prog 112 #[.string s] w fun e w'=>∃ms g cap,e=.returned (.slice (some ⟨g,0,none⟩) ms.length cap)∧NQ s ms∧w'.ownsRow w.heap.size 275 2 (.slice (some ⟨g,0,none⟩) ms.length cap) ms.length (mcs ms)∧Below w.heap.size w w':=by
 obtain⟨I9,Hi9,Hz9,Hs9,Hb9⟩:=info_parts Tryz.info275;go_enter Tryz.func112,Tryz.ntmps112;go_wp2_with (at_make;refine Qv ?_);refine Qc ?_;refine wpList_make_own w rfl _ _ 218 rfl w.heap.size 275 I9 (.agg #[.int .i64 0,.int .i32 0]) 2 Tryz.underlying218 Hi9 Hz9 Hs9 .i64 .i64 _ (s.size+1) rfl rfl (by simp) (by rw[Hb9];omega) (by unfold maxLen;omega) (Nat.le_refl _) ?_;intro w1 o1 g1;have F1:Below w.heap.size w w1:=Below.grown (Below.refl _ _) g1 (Nat.le_refl _) (fun k hk=>by cases hk);have hz1:w.heap.size≤w1.heap.size:=g1.size;clear g1;go_wp2_with fail
 go_loopw [3] (fun v wr=>∃(ms:List (Nat×Int))(pos:Nat),wr.heap[w1.heap.size]?=some (.stringIter s pos)∧wr.ownsRow w.heap.size 275 2 v ms.length (mcs ms)∧Hid (Rl s ms pos)∧ms.length≤pos∧pos≤s.size∧Hid (Below w.heap.size w wr)∧w1.heap.size<wr.heap.size) (fun _ wr=>s.size-wr.iterPos w1.heap.size)
 case atStart=>exact⟨[],0,heap_alloc_last w1 _,o1.alloc _,Rl.nil s,by simp,by simp,F1.alloc hz1 _,by show _<(w1.alloc (.stringIter s 0)).heap.size;rw[World.size_alloc];omega⟩
 case round=>
  clear o1 F1;obtain⟨ms,pos,hit,O,HM,hml,hps,F,hz⟩:=hrel;have HPI:Hid (wr.iterPos w1.heap.size=pos):=iterPos_of hit;obtain⟨pv,cv,rfl⟩:=Qb O;by_cases hp:pos<s.size
  ·have hnx:∀ty,(Instr.next (.pointer (some ⟨w1.heap.size,0,none⟩)) true ty).run Tryz.prog wr=_:=fun ty=>Lib.run_next_any_at wr w1.heap.size s pos ty hit hp;have hf:=Jc hp;have hit2:=Lib.iterAt_heap wr w1.heap.size s pos (pos+(Utf8.decode s pos).2) hit;have O2:=Qd O (Qs.iter (base:=w.heap.size) (T:=fun _=>True) hit (pos+(Utf8.decode s pos).2)) trivial;have F2:=Qc (Lib.below_iterAt F.o (k:=w1.heap.size) hz1 s (pos+(Utf8.decode s pos).2));have hz2:w1.heap.size<(wr.iterAt w1.heap.size s (pos+(Utf8.decode s pos).2)).heap.size:=by rw[Lib.iterAt_size];exact hz
   have HM2:=Qc (HM.o.snoc hp);obtain⟨W1,hW1⟩:∃W1,W1=wr.iterAt w1.heap.size s (pos+(Utf8.decode s pos).2):=⟨_,rfl⟩;rw[←hW1]at hnx hit2 O2 F2 hz2;have hd1:=hf.2.2.2.2.1;have hd2:=hf.2.2.2.2.2.1;clear hW1 hit O F HM hf hz;go_wp2_with (at_builtin;refine Qv ?_);refine Qc ?_;have gB:=heap_alloc_last W1 (.cells #[.int .i64 pos,.int .i32 ((Utf8.decode s pos).1:Int)] 275);have O3:=O2.alloc (.cells #[.int .i64 pos,.int .i32 ((Utf8.decode s pos).1:Int)] 275);have hz3:w.heap.size≤(W1.alloc (.cells #[.int .i64 pos,.int .i32 ((Utf8.decode s pos).1:Int)] 275)).heap.size:=by rw[World.size_alloc];omega
   refine Kd Tryz.underlying218 Tryz.info275 rfl (by decide) (by decide) rfl _ _ rfl rfl O3 gB rfl rfl (List.all_eq_true.1 rfl) (by omega) hz3 ?_;intro v6 w6 o6 gr6;have hit6:=Qal (Qj hit2 _) O3 gr6;have F6:=Qc (Below.grown (F2.o.alloc (by omega) _) gr6 hz3 (fun j hj=>(O3.lt j hj).1));have hz6:w1.heap.size<w6.heap.size:=by have:=gr6.size;rw[World.size_alloc]at this;omega
   have o7:w6.ownsRow w.heap.size 275 2 v6 (ms++[(pos,((Utf8.decode s pos).1:Int))]).length (mcs (ms++[(pos,((Utf8.decode s pos).1:Int))])):=by
    rw[←RX,List.length_append];exact o6
   obtain⟨p6,c6,rfl⟩:=Qb o6;clear gB O3 hz3 gr6 o6 hnx O2 F2 hit2 hz2;go_wp2_with fail;go_roundw
   case rel=>exact⟨_,_,hit6,o7,HM2,by simp;omega,hd2,F6,hz6⟩
   case measure=>rw[iterPos_of hit6,HPI.o];omega
  ·have hnx:∀ty,(Instr.next (.pointer (some ⟨w1.heap.size,0,none⟩)) true ty).run Tryz.prog wr=_:=fun ty=>Lib.run_next_end_at wr w1.heap.size s pos ty hit hp;have he:pos=s.size:=by omega
   have HM2:Hid (NQ s (ms++[(s.size,-1)])):=by have:=HM.o;rw[he]at this;exact this.marks
   clear HM he;go_wp2_with (at_builtin;refine Qv ?_);refine Qc ?_;have gB:=heap_alloc_last wr (.cells #[.int .i64 s.size,.int .i32 (-1)] 275);have O3:=O.alloc (.cells #[.int .i64 s.size,.int .i32 (-1)] 275);have hz3:w.heap.size≤(wr.alloc (.cells #[.int .i64 s.size,.int .i32 (-1)] 275)).heap.size:=by rw[World.size_alloc];omega
   refine Kd Tryz.underlying218 Tryz.info275 rfl (by decide) (by decide) rfl _ _ rfl rfl O3 gB rfl rfl (List.all_eq_true.1 rfl) (by omega) hz3 ?_;intro v6 w6 o6 gr6;have F6:=Qc (Below.grown (F.o.alloc (by omega) _) gr6 hz3 (fun j hj=>(O3.lt j hj).1));have o7:w6.ownsRow w.heap.size 275 2 v6 (ms++[(s.size,(-1:Int))]).length (mcs (ms++[(s.size,(-1:Int))])):=by
    rw[←RX,List.length_append];exact o6
   obtain⟨p6,c6,h6⟩:=Qb o7;subst h6;obtain⟨g6,rfl,_,_⟩:=Qh o7 (by simp);clear gB O3 hz3 gr6 o6 hnx O F;go_wp2_with fail;go_ret;exact⟨ms++[(s.size,-1)],g6,c6,by simp,HM2.o,o7,F6.o⟩
structure Jr(s:ByteArray)(i:Nat)(x:Int):Prop where
 ascii:∀c:Nat,c<128→(x=(c:Int)↔i<s.size∧byt s i=c)
 cross:x=215↔i+1<s.size∧byt s i=195∧byt s (i+1)=151
 fin:x=-1↔i=s.size
 wide:-1≤x∧x<2000000
theorem Xp{b g:Nat}{s:ByteArray}{i:Nat}{w:World}(hp:RS w b g s i):
  Calls Tryz.prog 158 #[.pointer (some ⟨b,0,none⟩)] w fun e w'=>∃x,e=.returned (.int .i32 x)∧Jr s i x∧RS w' b g s i∧Fr b w w':=by
 have hp0:=hp;obtain⟨ms,k,cap,hm,⟨hk,rfl⟩,hr⟩:=hp;refine(Y2 b s ms k g cap w hr hk).mono ?_;rintro e w1 ⟨n,rfl,rfl⟩;exact⟨_,rfl,⟨hm.ascii k hk,hm.cross k hk,hm.fin k hk,hm.wide k hk⟩,hp0.drewN n,(Fr.refl _ _).drewN _⟩
theorem VV{b g:Nat}{s:ByteArray}{i:Nat}{w:World}(hp:RS w b g s i):
  Calls Tryz.prog 196 #[.pointer (some ⟨b,0,none⟩)] w fun e w'=>e=.returned (.int .i64 i)∧RS w' b g s i∧Fr b w w':=by
 have hp0:=hp;obtain⟨ms,k,cap,hm,⟨hk,rfl⟩,hr⟩:=hp;refine(Qaz b s ms k g cap w hr hk).mono ?_;rintro e w1 ⟨n,rfl,rfl⟩;exact⟨rfl,hp0.drewN n,(Fr.refl _ _).drewN _⟩
theorem Jr.on{s i x}(h:Jr s i x){c:Nat}(hc:c<128):(x==(c:Int))=onF s i (-1) c:=by
 rw[Bool.eq_iff_iff,beq_iff_eq,h.ascii c hc,JN]
theorem Jr.dig{s i x}(h:Jr s i x):(decide (48≤x)&&decide (x≤57))=Q9 s i (-1):=by
 rw[Bool.eq_iff_iff];simp only[Bool.and_eq_true,decide_eq_true_eq,Q9];constructor
 ·rintro⟨h1,h2⟩;obtain⟨c,rfl⟩:=Int.eq_ofNat_of_zero_le (show 0≤x by omega);have:=(h.ascii c (by omega)).1 rfl;exact⟨by omega,this.1,by omega,by omega⟩
 ·rintro⟨_,h1,h2,h3⟩;have:=(h.ascii (byt s i) (by omega)).2 ⟨h1,rfl⟩;omega
theorem Jr.val{s i x}(h:Jr s i x)(hd:Q9 s i (-1)=true):x=byt s i:=by
 have:=JC hd;exact(h.ascii (byt s i) (by omega)).2 ⟨this.2.1,rfl⟩
theorem Nk(x:Int)(w:World):
  Calls Tryz.prog 244 #[.int .i32 x] w fun e w'=>e=.returned (.bool (decide (48≤x)&&decide (x≤57)))∧w'=w:=by
 by_cases h:48≤x
 ·go_enter Tryz.func244,Tryz.ntmps244
  go_wp2
  go_ret;exact⟨by simp[h],rfl⟩
 ·go_enter Tryz.func244,Tryz.ntmps244
  go_wp2
  go_ret;exact⟨by simp;omega,rfl⟩
theorem KI{s i x}(h:Jr s i x){v:Bool}(hd:Q9 s i (-1)=v)(w:World):
  Calls Tryz.prog 244 #[.int .i32 x] w fun e w'=>e=.returned (.bool v)∧w'=w:=by
 refine(Nk x w).mono ?_;rintro e w' ⟨rfl,rfl⟩;exact⟨by rw[h.dig,hd],rfl⟩
theorem GJ{b g:Nat}{s:ByteArray}{i:Nat}{w:World}(hp:RS w b g s i)(hd:Q9 s i (-1)=false):
  Calls Tryz.prog 218 #[.pointer (some ⟨b,0,none⟩)] w fun e w'=>e=.panicked (brk i)∧Fr b w w':=by
 have HD:=Qc hd;clear hd;go_enter Tryz.func218,Tryz.ntmps218;go_wp2_with fail;refine(Xp hp).mono ?_;rintro e w1 ⟨x,rfl,hx,hp1,f1⟩;have HX:=Qc hx;clear hx;go_wp2_with fail;refine(KI HX.o HD.o _).mono ?_;rintro e w2 ⟨rfl,rfl⟩;go_wp2_with fail;refine(YW hp1).mono ?_;rintro e w3 ⟨rfl,f3⟩;go_wp2_with fail;exact⟨rfl,rfl,f1.trans f3⟩
theorem V4{b g:Nat}{s:ByteArray}{i:Nat}{w:World}(hp:RS w b g s i)(hs:s.size≤200000)(hd:Q9 s i (-1)=true):
  Calls Tryz.prog 218 #[.pointer (some ⟨b,0,none⟩)] w fun e w'=>e=.returned (.int .i64 (numN s i (-1)))∧RS w' b g s (numI s i (-1))∧Fr b w w':=by
 have HN:Hid (numN s i (-1)=(QY s (-1) i 4 i 0).1):=by simp[Hid,numN,hd]
 have HI:Hid (numI s i (-1)=(QY s (-1) i 4 i 0).2):=by simp[Hid,numI,hd]
 have HD:=Qc hd;go_enter Tryz.func218,Tryz.ntmps218;go_wp2_with fail;refine(Xp hp).mono ?_;rintro e w1 ⟨x,rfl,hx,hp1,f1⟩;have HX:=Qc hx;clear hx;go_wp2_with fail;refine(KI HX.o HD.o _).mono ?_;rintro e w2 ⟨rfl,rfl⟩;go_wp2_with fail
 cases h48:onF s i (-1) 48 with
 | true=>
  have h0:QY s (-1) i 4 i 0=(0,i+1):=by
   have hb:=(JN.1 h48).2;rw[QY,hd];have:(true&&(i==i||byt s i != 48))=true:=by simp
   rw[this,if_pos rfl,KG]
   ·simp[hb]
   ·simp[hb]
  have HN':Hid (numN s i (-1)=0):=by rw[HN.o,h0];rfl
  have HI':Hid (numI s i (-1)=i+1):=by rw[HI.o,h0];rfl
  clear h0 HN HI hd;refine(Xf hp1 hs (by decide) h48).mono ?_;rintro e w3 ⟨rfl,hp3,f3⟩;clear h48;go_wp2_with fail;go_ret;exact⟨by rw[HN'.o];rfl,by rw[HI'.o];exact hp3,f1.trans f3⟩
 | false=>
  have hne:byt s i≠48:=fun e=>by
   have:=JN.2 ⟨(JC hd).2.1,e⟩;rw[h48]at this;cases this
  have HNE:=Qc hne;refine(XP hp1 (by decide) h48).mono ?_;rintro e w3 ⟨rfl,hp3,f3⟩;have F:=f1.trans f3;clear h48 hne f1 f3 hp1;go_wp2_with fail
  go_loopw [3,4] (fun n c wr=>∃j m:Nat,i≤j∧j≤i+4∧n=.int .i64 m∧c=.int .i64 ((j:Int)-i)∧Hid (m<10 ^ (j-i))∧Hid (QY s (-1) i (i+4-j) j m=QY s (-1) i 4 i 0)∧RS wr b g s j∧Hid (Fr b w wr)) (fun _ c _=>4-(intOf c).toNat)
  case atStart=>exact⟨i,0,by omega,by omega,rfl,by go_num,by simp[Hid],by rw[show i+4-i=4 from by omega];rfl,hp3,F⟩
  case round=>
   obtain⟨j,m,hij,hj4,rfl,rfl,HM,HG,hp4,F4⟩:=hrel;clear hp hp3 F;have hmb:(m:Int)<10000:=by
    have:10 ^ (j-i)≤10 ^ 4:=Nat.pow_le_pow_right (by omega) (by omega);have:=HM.o;omega
   by_cases hlt:j<i+4
   ·cases hdj:Q9 s j (-1) with
    | true=>
     have HJ:=Qc hdj;have hv:=JC hdj;have HS:=Qc ((WP (m:=m) hlt hij (by rw[hdj];simp[HNE.o])).symm.trans HG.o);have HP:=Qc (UK hij HM.o _ hv.2.2.2);clear hdj hd;go_wp2_with fail;refine(Xp hp4).mono ?_;rintro e w5 ⟨x5,rfl,hx5,hp5,f5⟩;have HX5:=Qc hx5;clear hx5;go_wp2_with fail;refine(KI HX5.o HJ.o _).mono ?_;rintro e w6 ⟨rfl,rfl⟩;go_wp2_with fail;refine(Xp hp5).mono ?_;rintro e w7 ⟨x7,rfl,hx7,hp7,f7⟩;have e7:=hx7.val HJ.o;have hb1:=hv.2.2.1;have hb2:=hv.2.2.2;clear hx7 hv;subst e7;have h7a:(48:Int)≤(byt s j:Int):=by omega
     have h7b:(byt s j:Int)≤57:=by omega
     obtain⟨ms,k,cap,hm,⟨hk,hkj⟩,hr⟩:=hp7;have HKJ:=Qc hkj;have hml:=hm.len;have c2:=hr.c2;have z2:=hr.fz 2;clear hkj;go_wp2_with fail;have hnx:=hm.next k hk (by have:=(hm.ascii k hk (byt s j) (by omega)).2 (by rw[HKJ.o];exact⟨(JC HJ.o).2.1,rfl⟩);omega) (by have:=(hm.ascii k hk (byt s j) (by omega)).2 (by rw[HKJ.o];exact⟨(JC HJ.o).2.1,rfl⟩);omega);obtain⟨hk2,e2⟩:=hnx;go_roundw
     case rel=>
      refine⟨j+1,10*m+(byt s j-48),by omega,by omega,by go_num,by go_num,HP,HS,⟨ms,k+1,cap,hm,⟨hk2,by rw[e2,HKJ.o]⟩,hr.set (by omega)⟩,?_⟩;exact(((F4.o.trans f5).trans f7).setCell _ _)
     case measure=>simp[intOf];omega
    | false=>
     have HJ:=Qc hdj;have h0:=HG.o;rw[KG _ (by rw[hdj];rfl)]at h0;have HN':Hid (numN s i (-1)=m):=by rw[HN.o,←h0];rfl
     have HI':Hid (numI s i (-1)=j):=by rw[HI.o,←h0];rfl
     clear hdj hd h0 HN HI HG;go_wp2_with fail;refine(Xp hp4).mono ?_;rintro e w5 ⟨x5,rfl,hx5,hp5,f5⟩;have HX5:=Qc hx5;clear hx5;go_wp2_with fail;refine(KI HX5.o HJ.o _).mono ?_;rintro e w6 ⟨rfl,rfl⟩;go_wp2_with fail;go_ret;exact⟨by rw[HN'.o];rfl,by rw[HI'.o];exact hp5,F4.o.trans f5⟩
   ·have h0:=HG.o;rw[show i+4-j=0 from by omega]at h0;have HN':Hid (numN s i (-1)=m):=by rw[HN.o,←h0];rfl
    have HI':Hid (numI s i (-1)=j):=by rw[HI.o,←h0];rfl
    clear hd h0 HN HI HG;go_wp2_with fail;go_ret;exact⟨by rw[HN'.o];rfl,by rw[HI'.o];exact hp4,F4.o⟩
end Go.Proofs.YtgfhfkgdmidhpaaGreatDoor
