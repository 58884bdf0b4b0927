import Derived.Test.YtgfhfkgdmidhpaaGreatDoorM05
import Derived.Deep.RegionHeld3
namespace Go.Proofs.YtgfhfkgdmidhpaaGreatDoor
open Go.RowKit
open Tryz
set_option maxRecDepth 100000
set_option maxHeartbeats 8000000
section find
variable {α β:Type}
theorem Xe{P:α→Bool}{l:List α}{j:Nat}(hj:j<l.length)(h:(l.take j).find? P=none)(hn:P l[j]=false):(l.take (j+1)).find? P=none:=by
 rw[List.take_succ_eq_append_getElem hj,List.find?_append,h];simp[hn]
theorem Z8{P:α→Bool}{l:List α}{j:Nat}(hj:j<l.length)(h:(l.take j).find? P=none)(hn:P l[j]=true):l.find? P=some l[j]:=by
 conv=>lhs;rw[←List.take_append_drop j l]
 rw[List.find?_append,h,List.drop_eq_getElem_cons hj,List.find?_cons_of_pos hn];rfl
theorem X9{P:β→Bool}{f:α→List β}{l:List α}{k:Nat}(hk:k<l.length)(h:((l.take k).flatMap f).find? P=none)(hn:(f l[k]).find? P=none):((l.take (k+1)).flatMap f).find? P=none:=by
 rw[List.take_succ_eq_append_getElem hk,List.flatMap_append,List.find?_append,h];simpa using hn
theorem XR{P:β→Bool}{f:α→List β}{l:List α}{k:Nat}{g:β}(hk:k<l.length)(h:((l.take k).flatMap f).find? P=none)(hn:(f l[k]).find? P=some g):(l.flatMap f).find? P=some g:=by
 conv=>lhs;rw[←List.take_append_drop k l]
 rw[List.flatMap_append,List.find?_append,h,List.drop_eq_getElem_cons hk,List.flatMap_cons,List.find?_append,hn];rfl
theorem YD{P:α→Bool}{a b:List α}(h:a.find? P=none)(hb:b.find? P=none):(a++b).find? P=none:=by rw[List.find?_append,h,hb];rfl
theorem Ug{P:α→Bool}{a b:List α}{g:α}(h:a.find? P=none)(hb:b.find? P=some g):(a++b).find? P=some g:=by rw[List.find?_append,h,hb];rfl
theorem Gc{P:α→Bool}{a b:List α}{g:α}(h:a.find? P=some g):(a++b).find? P=some g:=by rw[List.find?_append,h];rfl
end find
def chG(b:Qm):List (Nat×Nat):=b.chs.flatMap (·.gs)
def Ks(b:Qm):List (Nat×Nat):=chG b++goalsF b.e
def XC(n:Nat)(g:Nat×Nat):Bool:=decide (n≤g.1)
def Qks(o:Option (Nat×Nat)):Int:=match o with|some g=>g.2|none=>-1
def Xb(bs:List Qm):Int:=Qks ((bs.flatMap Ks).find? (XC bs.length))
theorem Qek(l:List (Nat×Nat)):pcs l=(l.map pc).flatten:=by rw[pcs,List.flatMap_def]
theorem Zt{l:List (Nat×Nat)}{j:Nat}(hj:j<l.length):(pcs l)[j*2]?=some (.int .i64 l[j].1)∧(pcs l)[j*2+1]?=some (.int .i64 l[j].2):=by
 have h:∀x∈l.map pc,x.length=2:=by intro x hx;simp at hx;obtain⟨a,b,_,rfl⟩:=hx;rfl
 have hk:(l.map pc)[j]?=some (pc l[j]):=by simp[hj]
 rw[Qek];exact⟨Z4 2 _ j 0 _ h hk (by omega),Z4 2 _ j 1 _ h hk (by omega)⟩
theorem Jg.at{w base}:∀{cs vs},Jg w base cs vs→∀{k}(hk:k<cs.length),∃v,vs[k]?=some v∧w.ownsRow base 49 2 v.1 cs[k].gs.length (pcs cs[k].gs)∧w.ownsRow base 48 2 v.2 cs[k].rs.length (pcs cs[k].rs)
 | [],[],_,k,hk=>absurd hk (by simp)
 | c::cs,v::vs,h,0,_=>⟨v,rfl,h.1.1,h.1.2⟩
 | c::cs,v::vs,h,k+1,hk=>by
  obtain⟨u,a,b,d⟩:=Jg.at h.2 (k:=k) (by simpa using hk);exact⟨u,by simpa using a,by simpa using b,by simpa using d⟩
 | [],_::_,h,_,_=>h.elim
 | _::_,[],h,_,_=>h.elim
theorem XH.at{w:World}{base:Nat}{cs:List Q0}{p:Option Addr}{m cap:Nat}(h:XH w base cs (.slice p m cap)){k:Nat}(hk:k<cs.length):
  ∃g pf cf pr cr,p=some ⟨g,0,none⟩∧base≤g∧g<w.heap.size∧w.ownsRow base 49 2 (.slice pf cs[k].gs.length cf) cs[k].gs.length (pcs cs[k].gs)∧w.ownsRow base 48 2 (.slice pr cs[k].rs.length cr) cs[k].rs.length (pcs cs[k].rs) ∧
   w.cell? ⟨g,k*4,none⟩=some (.int .i64 cs[k].to.1)∧w.cell? ⟨g,k*4+1,none⟩=some (.int .i64 cs[k].to.2)∧w.cell? ⟨g,k*4+2,none⟩=some (.slice pf cs[k].gs.length cf)∧w.cell? ⟨g,k*4+3,none⟩=some (.slice pr cs[k].rs.length cr):=by
 obtain⟨vs,a,b⟩:=h;obtain⟨v,hv,hc,hs⟩:=b.at hk;obtain⟨p',c',e1⟩:=Qa a;cases e1;obtain⟨g,rfl,hb,hg⟩:=Qk a (by omega);obtain⟨pf,cf,e2⟩:=Qa hc;obtain⟨pr,cr,e3⟩:=Qa hs;have hl:∀x∈List.zipWith Wl cs vs,x.length=4:=by
  intro x hx;rw[List.mem_iff_getElem?]at hx;obtain⟨n,hn⟩:=hx;rw[List.getElem?_zipWith]at hn;split at hn
  ·cases hn;rfl
  ·cases hn
 have hk2:(List.zipWith Wl cs vs)[k]?=some (Wl cs[k] v):=by rw[List.getElem?_zipWith,hv,Zl hk]
 have F:=fun j hj=>Z4 4 _ k j _ hl hk2 hj;refine⟨g,pf,cf,pr,cr,rfl,hb,hg,by rw[←e2];exact hc,by rw[←e3];exact hs,?_,?_,?_,?_⟩
 ·exact Qf a (F 0 (by omega))
 ·exact Qf a (F 1 (by omega))
 ·rw[←e2];exact Qf a (F 2 (by omega))
 ·rw[←e3];exact Qf a (F 3 (by omega))
theorem QeV(bs:List Qm)(base:Nat)(v:Value)(w:World)(h:QR w base bs v)(hl:bs.length≤1000000)(hc1:∀b∈bs,b.chs.length≤1000000)(hc2:∀b∈bs,∀c∈b.chs,c.gs.length≤1000000):
  Calls prog 23 #[v] w fun x w'=>x=.returned (.int .i64 (Xb bs))∧Below w.heap.size w w':=by
 obtain⟨pv,cv,rfl⟩:=h.slice;go_enter func23,ntmps23;go_wp2_with fail
 go_loopw [3] (fun i wr=>∃m:Nat,m≤bs.length∧i=.int .i64 m∧Hid (((bs.take m).flatMap Ks).find? (XC bs.length)=none)∧Hid (Below w.heap.size w wr)) (fun i _=>bs.length-(intOf i).toNat)
 case atStart=>exact⟨0,by omega,rfl,by simp[Hid],Below.refl _ _⟩
 case round=>
  obtain⟨m,hm,rfl,H1,F⟩:=hrel;by_cases hlt:m<bs.length
  ·have hB:=h.keeps3 (Qr.below F.o);obtain⟨g,qc,cc,ps,cs,rfl,_,_,OC,_,hc⟩:=hB.at hlt;have d0:wr.cell? ⟨g,m*10,none⟩=_:=hc 0 _ rfl;have d1:=hc 1 _ rfl;have d2:=hc 2 _ rfl;have d3:=hc 3 _ rfl;have d4:=hc 4 _ rfl;have d5:=hc 5 _ rfl;have d6:=hc 6 _ rfl;have d7:=hc 7 _ rfl;have d8:=hc 8 _ rfl;have d9:=hc 9 _ rfl;have L1:=hc1 _ (Qx hlt);have L2:=hc2 _ (Qx hlt);clear hc hB;go_wp2_with fail
   go_loop [4] (fun k=>∃q:Nat,q≤bs[m].chs.length∧k=.int .i64 q∧Hid (((bs[m].chs.take q).flatMap (·.gs)).find? (XC bs.length)=none)) (fun k=>bs[m].chs.length-(intOf k).toNat)
   case atStart=>exact⟨0,by omega,rfl,by simp[Hid]⟩
   case round=>
    obtain⟨q,hq,rfl,H2⟩:=hrel;by_cases hql:q<bs[m].chs.length
    ·obtain⟨gc,pf,cf,pr,cr,rfl,_,_,OF,_,_,_,e2,_⟩:=OC.at hql;have L3:=L2 _ (Qx hql);go_wp2_with fail
     go_loop [6] (fun j=>∃t:Nat,t≤bs[m].chs[q].gs.length∧j=.int .i64 t∧Hid ((bs[m].chs[q].gs.take t).find? (XC bs.length)=none)) (fun j=>bs[m].chs[q].gs.length-(intOf j).toNat)
     case atStart=>exact⟨0,by omega,rfl,by simp[Hid]⟩
     case round=>
      obtain⟨t,ht,rfl,H3⟩:=hrel;by_cases htl:t<bs[m].chs[q].gs.length
      ·obtain⟨gf,rfl,_,_⟩:=Qk OF (by omega);have f0:=Qf OF (Zt htl).1;have f1:=Qf OF (Zt htl).2;by_cases hst:bs.length≤bs[m].chs[q].gs[t].1
       ·have HP:Hid (Xb bs=bs[m].chs[q].gs[t].2):=by
         show Xb bs=_;rw[Xb,XR hlt H1.o (Gc (XR hql H2.o (Z8 htl H3.o (by simpa[XC] using hst))))];rfl
        go_wp2_with fail;go_ret;exact⟨by rw[HP.o];rfl,F.o⟩
       ·have H3':=Qc (Xe htl H3.o (by simpa[XC] using hst));go_wp2_with fail
        go_round
        case rel=>exact⟨t+1,by omega,by go_num,H3'⟩
        case measure=>simp[intOf];omega
      ·have H2':Hid (((bs[m].chs.take (q+1)).flatMap (·.gs)).find? (XC bs.length)=none):=X9 hql H2.o (by have:=H3.o;rwa [Zg (by omega)]at this);go_wp2_with fail
       go_round
       case rel=>exact⟨q+1,by omega,by go_num,H2'⟩
       case measure=>simp[intOf];omega
    ·have HC:Hid ((chG bs[m]).find? (XC bs.length)=none):=by
      have:=H2.o
      rwa [Zg (by omega)]at this
     clear H2;go_wp2_with fail;refine(GP qc _ cc ps _ cs bs[m].e _ _).mono ?_;rintro x w1 ⟨vg,rfl,OG,f1⟩;have hz0:=F.o.size;have F2:=Qc (F.o.trans (f1.mono hz0));have hgl:=ZH bs[m].e;obtain⟨pg,cg,rfl⟩:=Qa OG;clear d0 d1 d2 d3 d4 d5 d6 d7 d8 d9 f1;go_wp2_with fail
     go_loop [8] (fun j=>∃t:Nat,t≤(goalsF bs[m].e).length∧j=.int .i64 t∧Hid (((goalsF bs[m].e).take t).find? (XC bs.length)=none)) (fun j=>(goalsF bs[m].e).length-(intOf j).toNat)
     case atStart=>exact⟨0,by omega,rfl,by simp[Hid]⟩
     case round=>
      obtain⟨t,ht,rfl,H3⟩:=hrel;by_cases htl:t<(goalsF bs[m].e).length
      ·obtain⟨gf,rfl,_,_⟩:=Qk OG (by omega);have f0:=Qf OG (Zt htl).1;have f1:=Qf OG (Zt htl).2;by_cases hst:bs.length≤(goalsF bs[m].e)[t].1
       ·have HP:Hid (Xb bs=(goalsF bs[m].e)[t].2):=by
         show Xb bs=_;rw[Xb,XR hlt H1.o (Ug HC.o (Z8 htl H3.o (by simpa[XC] using hst)))];rfl
        go_wp2_with fail;go_ret;exact⟨by rw[HP.o];rfl,F2.o⟩
       ·have H3':=Qc (Xe htl H3.o (by simpa[XC] using hst));go_wp2_with fail
        go_round
        case rel=>exact⟨t+1,by omega,by go_num,H3'⟩
        case measure=>simp[intOf];omega
      ·have H1':Hid (((bs.take (m+1)).flatMap Ks).find? (XC bs.length)=none):=X9 hlt H1.o (YD HC.o (by have:=H3.o;rwa [Zg (by omega)]at this));go_wp2_with fail;go_roundw
       case rel=>exact⟨m+1,by omega,by go_num,H1',F2⟩
       case measure=>simp[intOf];omega
  ·have HP:Hid (Xb bs=-1):=by
    show Xb bs=_;have:=H1.o;rw[Zg (by omega)]at this;rw[Xb,this];rfl
   go_wp2_with fail;go_ret;exact⟨by rw[HP.o];rfl,F.o⟩
def Zw(l:List (Nat×Nat)):List Nat:=l.map (·.1)
def Kr(ahead given:List Nat)(c:Q0):Bool:=decide (Zw c.gs=ahead)&&!QD given c.to.1
def Jp(ahead:List Nat):List Nat→List Q0→Option Nat
 | _,[]=>none
 | gv,c::cs=>if Kr ahead gv c then Jp ahead (gv++[c.to.1]) cs else some c.to.2
def Xy(bs:List Qm)(i:Nat):Option Nat:=match bs[i]? with|some b=>Jp (aheF bs i) [] b.chs|none=>none
def Vh(o:Option Nat):Int:=match o with|some g=>g|none=>-1
def JR(bs:List Qm):Int:=Vh ((List.range bs.length).findSome? (Xy bs))
def tos(l:List Q0):List Nat:=l.map (·.to.1)
theorem Nk{ahead:List Nat}{chs:List Q0}{q:Nat}(hq:q<chs.length):Jp ahead (tos (chs.take q)) (chs.drop q)=if Kr ahead (tos (chs.take q)) chs[q] then Jp ahead (tos (chs.take (q+1))) (chs.drop (q+1)) else some chs[q].to.2:=by
 rw[List.drop_eq_getElem_cons hq,Jp,Zb hq,show tos (chs.take q++[chs[q]])=tos (chs.take q)++[chs[q].to.1] from by rw[tos,List.map_append];rfl]
theorem WM{bs:List Qm}{m:Nat}(hm:m<bs.length)(h:∀i,i<m→Xy bs i=none){x:Nat}(hx:Xy bs m=some x):JR bs=x:=by
 have h1:(List.range bs.length).findSome? (Xy bs)=some x:=by
  have e:List.range bs.length=List.range m++(m::(List.range (bs.length-m-1)).map (fun y=>m+(1+y))):=by
   have:=List.range_add (n:=m) (m:=bs.length-m);rw[show m+(bs.length-m)=bs.length from by omega]at this;rw[this,show bs.length-m=1+(bs.length-m-1) from by omega,List.range_add];simp
  rw[e,List.findSome?_append];have h2:(List.range m).findSome? (Xy bs)=none:=by
   rw[List.findSome?_eq_none_iff];intro i hi;exact h i (by simpa using hi)
  rw[h2];simp[hx]
 rw[JR,h1];rfl
theorem Ul{bs:List Qm}(h:∀i,i<bs.length→Xy bs i=none):JR bs=-1:=by
 have h2:(List.range bs.length).findSome? (Xy bs)=none:=by
  rw[List.findSome?_eq_none_iff];intro i hi;exact h i (by simpa using hi)
 rw[JR,h2];rfl
theorem Qhv{l:List (Nat×Nat)}{a:List Nat}(hl:l.length=a.length)(h:∀x,(h1:x<l.length)→(h2:x<a.length)→l[x].1=a[x]):Zw l=a:=by
 apply List.ext_getElem (by simpa[Zw] using hl);intro i h1 h2;simp only[Zw,List.getElem_map];exact h i (by simpa[Zw] using h1) h2
theorem Qhu{l:List (Nat×Nat)}{a:List Nat}{x:Nat}(h1:x<l.length)(h2:x<a.length)(h:l[x].1≠a[x]):Zw l≠a:=by
 intro e;subst e;simp[Zw]at h
theorem Qav(bs k):(aheF bs k).length≤bs.length:=YT _ _ _
theorem QcI(bs:List Qm)(base:Nat)(v:Value)(w:World)(h:QR w base bs v)(hl:bs.length≤1000000)(hc1:∀b∈bs,b.chs.length≤1000000)(hc2:∀b∈bs,∀c∈b.chs,c.gs.length≤1000000):
  Calls prog 24 #[v] w fun x w'=>x=.returned (.int .i64 (JR bs))∧Below w.heap.size w w':=by
 obtain⟨pv,cv,rfl⟩:=h.slice;go_enter func24,ntmps24;go_wp2_with fail
 go_loopw [3] (fun i wr=>∃m:Nat,m≤bs.length∧i=.int .i64 m∧(∀x,x<m→Hid (Xy bs x=none))∧Hid (Below w.heap.size w wr)) (fun i _=>bs.length-(intOf i).toNat)
 case atStart=>exact⟨0,by omega,rfl,fun x hx=>by omega,Below.refl _ _⟩
 case round=>
  obtain⟨m,hm,rfl,H1,F⟩:=hrel;by_cases hlt:m<bs.length
  ·have hB:=h.keeps3 (Qr.below F.o);go_wp2_with fail;refine(QdC bs m _ _ _ hB hl).mono ?_;rintro x w1 ⟨va,rfl,OA,f1⟩;have hz0:=F.o.size;replace F:=Qc (F.o.trans (f1.mono hz0));have hz1:w.heap.size≤w1.heap.size:=F.o.size;have HU:Hid (Xy bs m=Jp (aheF bs m) [] bs[m].chs):=by show _=_;simp[Xy,hlt]
   have hal:=Qav bs m;generalize aheF bs m=ah at *;obtain⟨pa,ca,rfl⟩:=Qa OA;have L1:=hc1 _ (Qx hlt);have L2:=hc2 _ (Qx hlt);clear f1 hB;go_wp2_with fail
   go_loopw [5,6] (fun gv k wq=>∃q:Nat,q≤bs[m].chs.length∧k=.int .i64 q∧wq.ownsRow w1.heap.size 3 1 gv (tos (bs[m].chs.take q)).length (Qe (tos (bs[m].chs.take q)))∧Hid (Xy bs m=Jp ah (tos (bs[m].chs.take q)) (bs[m].chs.drop q))∧Hid (Below w1.heap.size w1 wq)) (fun _ k _=>bs[m].chs.length-(intOf k).toNat)
   case atStart=>exact⟨0,by omega,rfl,World.ownsRow_nil _ _ _ _,by simpa[tos] using HU,Below.refl _ _⟩
   case round=>
    clear HU;obtain⟨q,hq,rfl,OV,H2,F2⟩:=hrel;have FF:=F.o.trans (F2.o.mono hz1);have hB:=h.keeps3 (Qr.below FF);obtain⟨g,qc,cc,ps,cs,rfl,_,hgs,OC,_,hc⟩:=hB.at hlt;have d0:wr.cell? ⟨g,m*10,none⟩=_:=hc 0 _ rfl;clear hc hB;obtain⟨pv2,cv2,rfl⟩:=Qa OV;have hz2:=F2.o.size;by_cases hql:q<bs[m].chs.length
    ·obtain⟨gc,pf,cf,pr,cr,rfl,_,hgc,OF,_,e0,e1,e2,e3⟩:=OC.at hql;have L3:=L2 _ (Qx hql);have H2':=Qc (H2.o.trans (Nk hql));replace OA:=Qd OA (Qh F2.o) trivial;clear H2;have hvl:(tos (bs[m].chs.take q)).length≤1000000:=by simp[tos];omega
     generalize hto:tos (bs[m].chs.take q)=gv at *;replace hto:=Qc hto;generalize hcc:bs[m].chs[q]=c at *;replace hcc:=Qc hcc;by_cases hlen:c.gs.length=ah.length
     ·have hle:((c.gs.length:Int)==(ah.length:Int))=true:=by simp;omega
      have HLEN:=Qc hlen;clear hlen;go_wp2_with fail;refine(Ub gv c.to.1 _ _ _ (OV.alloc (.cells #[.int .i64 c.to.1,.int .i64 c.to.2,.slice pf c.gs.length cf,.slice pr c.rs.length cr] 64)) hvl).mono ?_;rintro x w9 ⟨rfl,rfl⟩
      cases hh:QD gv c.to.1 with
      | true=>
       have HK:Kr ah gv c=false:=by simp[Kr,hh]
       clear hh;go_wp2_with fail;have HP:Hid (JR bs=c.to.2):=WM hlt (fun x hx=>(H1 x hx).out) (by rw[H2'.o,if_neg (by simp[HK])]);clear H2' HK
       go_loopw [8,9] (fun o j wz=>o=.bool false∧j=.int .i64 0∧wz=wr.alloc (.cells #[.int .i64 c.to.1,.int .i64 c.to.2,.slice pf c.gs.length cf,.slice pr c.rs.length cr] 64)) (fun _ _ _=>0)
       case atStart=>exact⟨rfl,rfl,rfl⟩
       case round=>
        obtain⟨rfl,rfl,rfl⟩:=hrel;by_cases hg0:0<c.gs.length
        all_goals
         go_wp2_with fail;go_ret;exact⟨by rw[HP.o];rfl,FF.alloc (by omega) _⟩
      | false=>
       have HH:=Qc hh;clear hh;go_wp2_with fail
       go_loopw [8,9] (fun o j wz=>∃(b:Bool)(t n:Nat),o=.bool b∧j=.int .i64 t∧t≤c.gs.length∧wz=(wr.alloc (.cells #[.int .i64 c.to.1,.int .i64 c.to.2,.slice pf c.gs.length cf,.slice pr c.rs.length cr] 64)).drewN n∧Hid (b=true→∀x,(h1:x<t)→(h2:x<c.gs.length)→(h3:x<ah.length)→c.gs[x].1=ah[x])∧Hid (b=false→Kr ah gv c=false)) (fun _ j _=>c.gs.length-(intOf j).toNat)
       case atStart=>exact⟨true,0,0,rfl,rfl,by omega,rfl,fun _ x h1=>by omega,fun h=>by cases h⟩
       case round=>
        obtain⟨b,t,n,rfl,rfl,htl,rfl,HT,HF⟩:=hrel
        cases b with
        | false=>
         have HP:Hid (JR bs=c.to.2):=WM hlt (fun x hx=>(H1 x hx).out) (by rw[H2'.o,if_neg (by simp[HF.o rfl])]);clear H2' HT HF;by_cases hg0:t<c.gs.length
         all_goals
          go_wp2_with fail;go_ret;exact⟨by rw[HP.o];rfl,below_drewN (FF.alloc (by omega) _) _⟩
        | true=>
         by_cases hg0:t<c.gs.length
         ·have hga:t<ah.length:=by have:=HLEN.o;omega
          obtain⟨gf,rfl,_,hgf⟩:=Qk OF (by omega);obtain⟨ga,rfl,_,hga2⟩:=Qk OA (by omega);have f0:=Qf OF (Zt hg0).1;have a0:=Qf OA (j:=t) (u:=.int .i64 ah[t]) (by simp[Qe,hga]);have n5:gf<wr.heap.size:=hgf;have n6:ga<wr.heap.size:=hga2;have HE:Hid (((c.gs[t].1:Int)==(ah[t]:Int))=true→∀x,(h1:x<t+1)→(h2:x<c.gs.length)→(h3:x<ah.length)→c.gs[x].1=ah[x]):=by
           intro he x h1 h2 h3;rcases Nat.lt_succ_iff_lt_or_eq.1 h1 with h1|rfl
           ·exact HT.o rfl x h1 h2 h3
           ·simp at he;omega
          have HG:Hid (((c.gs[t].1:Int)==(ah[t]:Int))=false→Kr ah gv c=false):=by
           intro he;have:Zw c.gs≠ah:=Qhu hg0 hga (by simp at he;omega);simp[Kr,this]
          clear HT HF;go_wp2_with fail
          go_quiet (fail)
          go_wp2_with fail;go_roundw
          case rel=>exact⟨_,t+1,n+nq,rfl,by go_num,by omega,by simp,HE,HG⟩
          case measure=>simp[intOf];omega
         ·have HK:Kr ah gv c=true:=by
           have h1:Zw c.gs=ah:=Qhv HLEN.o (fun x h1 h2=>HT.o rfl x (by omega) h1 h2);simp[Kr,h1,HH.o]
          have H3:=H2'.o;rw[if_pos HK]at H3;have H3':=Qc H3;clear H2' H3 HK HT HF;go_wp2_with (at_builtin;refine QA ?_);refine Qc ?_;have gB:(((wr.alloc (.cells #[.int .i64 c.to.1,.int .i64 c.to.2,.slice pf c.gs.length cf,.slice pr c.rs.length cr] 64)).drewN n).alloc (.cells #[.int .i64 c.to.1] 3)).heap[wr.heap.size+1]?=some (.cells #[.int .i64 c.to.1] 3 (0,0)):=by
           have:=heap_alloc_last ((wr.alloc (.cells #[.int .i64 c.to.1,.int .i64 c.to.2,.slice pf c.gs.length cf,.slice pr c.rs.length cr] 64)).drewN n) (.cells #[.int .i64 c.to.1] 3)
           rwa [show ((wr.alloc (.cells #[.int .i64 c.to.1,.int .i64 c.to.2,.slice pf c.gs.length cf,.slice pr c.rs.length cr] 64)).drewN n).heap.size=wr.heap.size+1 from Qt _ _]at this
          have OV2:=(Qd (OV.alloc (.cells #[.int .i64 c.to.1,.int .i64 c.to.2,.slice pf c.gs.length cf,.slice pr c.rs.length cr] 64)) (Qr.drewN (T:=fun _=>True) (wr.alloc (.cells #[.int .i64 c.to.1,.int .i64 c.to.2,.slice pf c.gs.length cf,.slice pr c.rs.length cr] 64)) n) trivial).alloc (.cells #[.int .i64 c.to.1] 3);have hzz:w1.heap.size≤(((wr.alloc (.cells #[.int .i64 c.to.1,.int .i64 c.to.2,.slice pf c.gs.length cf,.slice pr c.rs.length cr] 64)).drewN n).alloc (.cells #[.int .i64 c.to.1] 3)).heap.size:=by
           rw[Qt,show ((wr.alloc (.cells #[.int .i64 c.to.1,.int .i64 c.to.2,.slice pf c.gs.length cf,.slice pr c.rs.length cr] 64)).drewN n).heap.size=wr.heap.size+1 from Qt _ _];omega
          have F5:=(below_drewN (F2.o.alloc (by omega) (.cells #[.int .i64 c.to.1,.int .i64 c.to.2,.slice pf c.gs.length cf,.slice pr c.rs.length cr] 64)) n).alloc (by rw[show ((wr.alloc (.cells #[.int .i64 c.to.1,.int .i64 c.to.2,.slice pf c.gs.length cf,.slice pr c.rs.length cr] 64)).drewN n).heap.size=wr.heap.size+1 from Qt _ _];omega) (.cells #[.int .i64 c.to.1] 3);have HT1:Hid (tos (bs[m].chs.take (q+1))=gv++[c.to.1]):=by
           show _=_;rw[Zb hql,tos,List.map_append,←hto.out,←hcc.out];rfl
          refine J7 underlying22 JF rfl (by decide) (by decide) rfl _ _ rfl rfl OV2 gB rfl rfl (Xi.1 rfl) hvl hzz ?_;intro v3 wS oS gS;have F6:=Qc (Below.grown F5 gS hzz (fun j hj=>(OV2.lt j hj).1));clear gS gB OV2 F5 hzz;obtain⟨p5,c5,rfl⟩:=Qa oS;go_wp2_with fail;go_roundw
          case rel=>exact⟨q+1,by omega,by go_num,by rw[HT1.o,List.length_append];simpa[Qe] using oS,H3',F6⟩
          case measure=>simp[intOf];omega
     ·have hle:((c.gs.length:Int)==(ah.length:Int))=false:=by simp;omega
      have HK:Kr ah gv c=false:=by
       have:Zw c.gs≠ah:=fun e=>hlen (by rw[←e];simp[Zw]);simp[Kr,this]
      clear hlen;go_wp2_with fail;have HP:Hid (JR bs=c.to.2):=WM hlt (fun x hx=>(H1 x hx).out) (by rw[H2'.o,if_neg (by simp[HK])]);clear H2' HK
      go_loopw [8,9] (fun o j wz=>o=.bool false∧j=.int .i64 0∧wz=wr.alloc (.cells #[.int .i64 c.to.1,.int .i64 c.to.2,.slice pf c.gs.length cf,.slice pr c.rs.length cr] 64)) (fun _ _ _=>0)
      case atStart=>exact⟨rfl,rfl,rfl⟩
      case round=>
       obtain⟨rfl,rfl,rfl⟩:=hrel;by_cases hg0:0<c.gs.length
       all_goals
        go_wp2_with fail;go_ret;exact⟨by rw[HP.o];rfl,FF.alloc (by omega) _⟩
    ·have HN:Hid (Xy bs m=none):=by
      have:=H2.o;rw[List.drop_eq_nil_of_le (by omega)]at this;exact this
     clear H2;have H1':∀x,x<m+1→Hid (Xy bs x=none):=fun x hx=>by
      rcases Nat.lt_succ_iff_lt_or_eq.1 hx with hx|rfl
      ·exact H1 x hx
      ·exact HN
     have F3:=Qc FF;clear FF;go_wp2_with fail;go_roundw
     case rel=>exact⟨m+1,by omega,by go_num,H1',F3⟩
     case measure=>simp[intOf];omega
  ·have HP:Hid (JR bs=-1):=Ul (fun i hi=>(H1 i (by omega)).out);go_wp2_with fail;go_ret;exact⟨by rw[HP.o];rfl,F.o⟩
theorem Qdt{s} (k c):(ZO s k c).gs.length≤c.gs.length+k:=by
 induction k generalizing c with
 | zero=>exact Qi _
 | succ k ih=>
  rw[ZO];have h0:(choR s c).gs.length=c.gs.length+1:=by simp[choR]
  cases h:onF s (choR s c).i (choR s c).bad 44 with
  | true=>
   rw[if_pos rfl];have:=ih { choR s c with i:=gotI s (choR s c).i (choR s c).bad 44 };dsimp only at this ⊢;omega
  | false=>rw[if_neg (by simp)];dsimp only;omega
theorem Qap{s i bad}:(choF s i bad).gs.length≤s.size+1:=by
 have:=Qdt (s:=s) (s.size+1) { gs:=[],rs:=[],i:=gotI s i bad 64,bad:=mustB s i bad 64 };simpa[choF] using this
theorem Qdy{s i0}(k:Nat):∀chs sts i bad,(QP s i0 k chs sts i bad).b.chs.length≤chs.length+k∧((∀c∈chs,c.gs.length≤s.size+1)→∀c∈(QP s i0 k chs sts i bad).b.chs,c.gs.length≤s.size+1):=by
 induction k with
 | zero=>intro chs sts i bad;exact⟨Qi _,fun h=>h⟩
 | succ k ih=>
  intro chs sts i bad;rw[QP];by_cases hb:bad<0
  ·rw[if_pos hb];by_cases h1:onF s i bad 46=true
   ·rw[if_pos h1];exact⟨Nat.le_add_right _ _,fun h=>h⟩
   rw[if_neg h1];by_cases h2:onF s i bad 62=true
   ·rw[if_pos h2];exact⟨Nat.le_add_right _ _,fun h=>h⟩
   rw[if_neg h2];by_cases h3:onF s i bad 33=true
   ·rw[if_pos h3];exact⟨Qy (ih _ _ _ _).1 (by omega),(ih _ _ _ _).2⟩
   rw[if_neg h3];dsimp only;by_cases h4:onF s (regI s i bad) (regB s i bad) 61=true
   ·rw[if_pos h4];exact⟨Qy (ih _ _ _ _).1 (by omega),(ih _ _ _ _).2⟩
   rw[if_neg h4];by_cases h5:(onF s (regI s i bad) (regB s i bad) 64&&sts.isEmpty)=true
   ·rw[if_pos h5];refine⟨Nat.le_trans (ih _ _ _ _).1 (by simp;omega),fun h=>(ih _ _ _ _).2 ?_⟩;intro c hc;rcases QB.1 hc with hc|hc
    ·exact h c hc
    ·simp at hc;subst hc;exact Qap
   rw[if_neg h5];exact⟨Nat.le_add_right _ _,fun h=>h⟩
  ·rw[if_neg hb];exact⟨Nat.le_add_right _ _,fun h=>h⟩
def V4(n:Nat)(b:Qm):Prop:=b.chs.length≤n∧∀c∈b.chs,c.gs.length≤n
theorem Qdz{s i bad}:V4 (s.size+1) (blkF s i bad).b:=by
 have h:=Qdy (s:=s) (i0:=i) (s.size+1) [] [] i bad;exact⟨by simpa[blkF] using h.1,h.2 (by simp)⟩
theorem QaJ{s} (k p)(h:∀b∈p.bs,V4 (s.size+1) b):(Xj s k p).bs.length≤p.bs.length+k∧∀b∈(Xj s k p).bs,V4 (s.size+1) b:=by
 induction k generalizing p with
 | zero=>exact⟨Qi _,h⟩
 | succ k ih=>
  rw[Xj];have hq:∀b∈p.bs++[(blkF s p.i p.bad).b],V4 (s.size+1) b:=by
   intro b hb;rcases QB.1 hb with hb|hb
   ·exact h b hb
   ·simp at hb;subst hb;exact Qdz
  cases ho:onF s (blkF s p.i p.bad).i (blkF s p.i p.bad).bad 124 with
  | true=>
   rw[if_pos rfl];have:=ih ⟨p.bs++[(blkF s p.i p.bad).b],gotI s (blkF s p.i p.bad).i (blkF s p.i p.bad).bad 124,(blkF s p.i p.bad).bad⟩ hq;refine⟨Nat.le_trans this.1 (by simp;omega),this.2⟩
  | false=>rw[if_neg (by simp)];exact⟨by simp,hq⟩
theorem GF(s):(Qu s).bs.length≤s.size+1∧∀b∈(Qu s).bs,V4 (s.size+1) b:=by
 have:=QaJ (s:=s) (s.size+1) ⟨[],0,-1⟩ (by simp);simpa[Qu] using this
structure Rd where
 e:Nat
 at_:Int
def rdF(s:ByteArray):Rd:=
 if 200000<s.size then ⟨1,0⟩
 else if 0≤Q9 s then ⟨2,Q9 s⟩
 else if h:12<(Qu s).bs.length then ⟨3,(Qu s).bs[12].at_⟩
 else if 0≤Xb (Qu s).bs then ⟨4,Xb (Qu s).bs⟩
 else if 0≤JR (Qu s).bs then ⟨6,JR (Qu s).bs⟩
 else ⟨0,0⟩
def Qgi(w:World)(base:Nat)(s:ByteArray)(v:Value):Prop:=(rdF s).e=0→QR w base (Qu s).bs v
theorem NC{w base s v e a}(h:rdF s=⟨e,a⟩)(he:e≠0):Qgi w base s v:=fun g=>by rw[h]at g;exact absurd g he
theorem Qjd{w base s v}(h:QR w base (Qu s).bs v):Qgi w base s v:=fun _=>h
theorem NA(s:ByteArray)(w:World)(hs:s.size≤maxLen):
  Calls prog 7 #[.string s] w fun x w'=>∃v,x=.returned (.tuple #[v,.int .i64 (rdF s).e,.int .i64 (rdF s).at_])∧Qgi w' w.heap.size s v∧Below w.heap.size w w':=by
 unfold maxLen at hs;by_cases h1:200000<s.size
 ·have HR:Hid (rdF s=⟨1,0⟩):=by show _=_;rw[rdF,if_pos h1]
  go_enter func7,ntmps7;go_wp2_with fail
  go_ret3
  exact⟨_,by rw[HR.o];rfl,NC HR.o (by decide),Below.refl _ _⟩
 ·go_enter func7,ntmps7;go_wp2_with fail;refine(QcY s _ (by omega)).mono ?_;rintro x w1 ⟨v,rfl,O,f1⟩;have F:Below w.heap.size w w1:=⟨f1.os,f1.tape,f1.output,f1.size,fun k hk=>f1.block k hk (by omega)⟩;have hfine:=GF s;clear f1;by_cases h2:0≤Q9 s
  ·have HR:Hid (rdF s=⟨2,Q9 s⟩):=by show _=_;rw[rdF,if_neg h1,if_pos h2]
   clear hfine;go_wp2_with fail
   go_ret3
   exact⟨_,by rw[HR.o];rfl,NC HR.o (by decide),F⟩
  ·obtain⟨pv,cv,rfl⟩:=O.slice;by_cases h3:12<(Qu s).bs.length
   ·have HR:Hid (rdF s=⟨3,(Qu s).bs[12].at_⟩):=by show _=_;rw[rdF,if_neg h1,if_neg h2,dif_pos h3]
    obtain⟨g,qc,cc,ps,cs,rfl,_,_,_,_,hc⟩:=O.at h3;have d9:w1.cell? ⟨g,129,none⟩=_:=hc 9 _ rfl;have hbl:(Qu s).bs.length≤1000000:=by omega
    clear hc hfine
    go_wp2
    go_quiet (fail)
    go_wp2
    go_ret3
    exact⟨_,by rw[HR.o];rfl,NC HR.o (by decide),below_drewN F _⟩
   ·have hf1:(Qu s).bs.length≤1000000:=by omega
    have hf2:∀b∈(Qu s).bs,b.chs.length≤1000000:=fun b hb=>by have:=(hfine.2 b hb).1;omega
    have hf3:∀b∈(Qu s).bs,∀c∈b.chs,c.gs.length≤1000000:=fun b hb c hc=>by have:=(hfine.2 b hb).2 c hc;omega
    clear hfine;go_wp2_with fail;refine(QeV _ _ _ _ O hf1 hf2 hf3).mono ?_;rintro x w2 ⟨rfl,f2⟩;have F2:=F.trans (f2.mono F.size);replace O:=O.keeps3 (Qr.below f2);by_cases h4:0≤Xb (Qu s).bs
    ·have HR:Hid (rdF s=⟨4,Xb (Qu s).bs⟩):=by show _=_;rw[rdF,if_neg h1,if_neg (by omega),dif_neg h3,if_pos h4]
     clear hf2 hf3;go_wp2_with fail
     go_ret3
     exact⟨_,by rw[HR.o];rfl,NC HR.o (by decide),F2⟩
    ·go_wp2_with fail;refine(QcI _ _ _ _ O hf1 hf2 hf3).mono ?_;rintro x w3 ⟨rfl,f3⟩;have F3:=F2.trans (f3.mono F2.size);replace O:=O.keeps3 (Qr.below f3);by_cases h5:0≤JR (Qu s).bs
     ·have HR:Hid (rdF s=⟨6,JR (Qu s).bs⟩):=by show _=_;rw[rdF,if_neg h1,if_neg (by omega),dif_neg h3,if_neg (by omega),if_pos h5]
      clear hf2 hf3;go_wp2_with fail
      go_ret3
      exact⟨_,by rw[HR.o];rfl,NC HR.o (by decide),F3⟩
     ·have HR:Hid (rdF s=⟨0,0⟩):=by show _=_;rw[rdF,if_neg h1,if_neg (by omega),dif_neg h3,if_neg (by omega),if_neg h5]
      clear hf2 hf3;go_wp2_with fail
      go_ret3
      exact⟨_,by rw[HR.o];rfl,Qjd O,F3⟩
def mc(x:Nat×Int):List Value:=[.int .i64 x.1,.int .i32 x.2]
def mcs(l:List (Nat×Int)):List Value:=l.flatMap mc
theorem QeQ{l:List (Nat×Int)}{j:Nat}(hj:j<l.length):(mcs l)[j*2]?=some (.int .i64 l[j].1)∧(mcs l)[j*2+1]?=some (.int .i32 l[j].2):=by
 have h:∀x∈l.map mc,x.length=2:=by intro x hx;simp at hx;obtain⟨a,b,_,rfl⟩:=hx;rfl
 have hk:(l.map mc)[j]?=some (mc l[j]):=by simp[hj]
 rw[mcs,List.flatMap_def];exact⟨Z4 2 _ j 0 _ h hk (by omega),Z4 2 _ j 1 _ h hk (by omega)⟩
structure XG(w:World)(b:Nat)(s:ByteArray)(ms:List (Nat×Int))(k:Nat)(g cap:Nat):Prop where
 B:∃t,w.heap[b]?=some (.cells #[.string s,.slice (some ⟨g,0,none⟩) ms.length cap,.int .i64 k] t (0,0))
 M:w.ownsRow 0 275 2 (.slice (some ⟨g,0,none⟩) ms.length cap) ms.length (mcs ms)
 N:g≠b
theorem XG.c0{w b s ms k g cap}(h:XG w b s ms k g cap):w.cell? ⟨b,0,none⟩=some (.string s):=by obtain⟨⟨t,h⟩,_⟩:=h;simp[World.cell?,h]
theorem XG.c1{w b s ms k g cap}(h:XG w b s ms k g cap):w.cell? ⟨b,1,none⟩=some (.slice (some ⟨g,0,none⟩) ms.length cap):=by obtain⟨⟨t,h⟩,_⟩:=h;simp[World.cell?,h]
theorem XG.c2{w b s ms k g cap}(h:XG w b s ms k g cap):w.cell? ⟨b,2,none⟩=some (.int .i64 k):=by obtain⟨⟨t,h⟩,_⟩:=h;simp[World.cell?,h]
theorem XG.fz{w b s ms k g cap}(h:XG w b s ms k g cap)(o:Nat):w.frozen? ⟨b,o,none⟩=false:=by obtain⟨⟨t,h⟩,_⟩:=h;simp[World.frozen?,h]
theorem XG.lt{w b s ms k g cap}(h:XG w b s ms k g cap):b<w.heap.size:=by obtain⟨⟨t,h⟩,_⟩:=h;exact lt_of_block h
theorem XG.glt{w b s ms k g cap}(h:XG w b s ms k g cap):g<w.heap.size:=(h.M.lt g rfl).2
theorem XG.m0{w b s ms k g cap}(h:XG w b s ms k g cap){j:Nat}(hj:j<ms.length):w.cell? ⟨g,j*2,none⟩=some (.int .i64 ms[j].1):=Qf h.M (QeQ hj).1
theorem XG.m1{w b s ms k g cap}(h:XG w b s ms k g cap){j:Nat}(hj:j<ms.length):w.cell? ⟨g,j*2+1,none⟩=some (.int .i32 ms[j].2):=Qf h.M (QeQ hj).2
theorem XG.drewN{w b s ms k g cap}(h:XG w b s ms k g cap)(n:Nat):XG (w.drewN n) b s ms k g cap:=⟨h.B,h.M,h.N⟩
theorem XG.alloc{w b s ms k g cap}(h:XG w b s ms k g cap)(o:Obj):XG (w.alloc o) b s ms k g cap:=
 ⟨let ⟨t,hb⟩:=h.B;⟨t,Qo hb o⟩,h.M.alloc o,h.N⟩
theorem Jx{w w':World} {base e size g n cap xs}(h:w.ownsRow base e size (.slice (some ⟨g,0,none⟩) n cap) n xs)(hk:w'.heap[g]?=w.heap[g]?):w'.ownsRow base e size (.slice (some ⟨g,0,none⟩) n cap) n xs:=by
 obtain⟨h1,h2⟩:=h;refine⟨h1,?_⟩;rcases h2 with ⟨h0,_⟩|⟨g',cap',cur,hv,a,c,d⟩
 ·cases h0
 ·cases hv;exact .inr ⟨g,cap,cur,rfl,a,hk.trans c,d⟩
theorem XG.set{w b s ms k g cap}(h:XG w b s ms k g cap){j:Nat}{v:Int}(hv:v=j):XG (w.setCell ⟨b,2,none⟩ (.int .i64 v)) b s ms j g cap:=by
 subst hv;refine⟨?_,Jx h.M (Below.heap_setCell _ _ _ _ h.N),h.N⟩;obtain⟨t,hb⟩:=h.B;exact⟨t,Qq hb 2 _⟩
theorem XG.setk{w b s ms k g cap}(h:XG w b s ms k g cap)(j o:Nat)(x:Value)(hj:b≠j)(hg:g≠j):XG (w.setCell ⟨j,o,none⟩ x) b s ms k g cap:=by
 refine⟨?_,Jx h.M (Below.heap_setCell _ _ _ _ hg),h.N⟩;obtain⟨t,hb⟩:=h.B;exact⟨t,Ql hb hj o x⟩
theorem XG.grown{w w':World} {b s ms k g cap}{row:Option Nat}(h:XG w b s ms k g cap)(hg:w.grownBy w' row)(hr:∀j,row=some j→b≠j∧g≠j):XG w' b s ms k g cap:=by
 refine⟨?_,Jx h.M (hg.block g h.glt (fun e=>(hr g e.symm).2 rfl)),h.N⟩;obtain⟨t,hb⟩:=h.B;exact⟨t,QC hg hb (fun j hj=>(hr j hj).1)⟩
structure Qax(s:ByteArray)(ms:List (Nat×Int)):Prop where
 pos:0<ms.length
 first:∀h:0<ms.length,ms[0].1=0
 le:∀k,(h:k<ms.length)→ms[k].1≤s.size
 len:ms.length≤s.size+1
 ascii:∀k,(h:k<ms.length)→∀c:Nat,c<128→(ms[k].2=(c:Int)↔ms[k].1<s.size∧byt s ms[k].1=c)
 next:∀k,(h:k<ms.length)→0≤ms[k].2→ms[k].2<128→∃h2:k+1<ms.length,ms[k+1].1=ms[k].1+1
 cross:∀k,(h:k<ms.length)→(ms[k].2=215↔ms[k].1+1<s.size∧byt s ms[k].1=195∧byt s (ms[k].1+1)=151)
 nextCross:∀k,(h:k<ms.length)→ms[k].2=215→∃h2:k+1<ms.length,ms[k+1].1=ms[k].1+2
 fin:∀k,(h:k<ms.length)→(ms[k].2=-1↔ms[k].1=s.size)
 wide:∀k,(h:k<ms.length)→-1≤ms[k].2∧ms[k].2<2000000
theorem Vw(b:Nat)(s:ByteArray)(ms:List (Nat×Int))(k g cap:Nat)(w:World)(hp:XG w b s ms k g cap)(hk:k<ms.length):
  Calls prog 158 #[.pointer (some ⟨b,0,none⟩)] w fun e w'=>∃n,e=.returned (.int .i32 ms[k].2)∧w'=w.drewN n:=by
 have h1:=hp.c1;have h2:=hp.c2;have h3:=hp.m1 hk;have hk1:(k:Int)<(ms.length:Int):=by omega
 clear hp;go_enter func158,ntmps158
 go_wp2
 go_quiet (fail)
 go_wp2
 go_ret;exact⟨_,rfl,rfl⟩
theorem Qbl(b:Nat)(s:ByteArray)(ms:List (Nat×Int))(k g cap:Nat)(w:World)(hp:XG w b s ms k g cap)(hk:k<ms.length):
  Calls prog 196 #[.pointer (some ⟨b,0,none⟩)] w fun e w'=>∃n,e=.returned (.int .i64 ms[k].1)∧w'=w.drewN n:=by
 have h1:=hp.c1;have h2:=hp.c2;have h3:=hp.m0 hk;have hk1:(k:Int)<(ms.length:Int):=by omega
 clear hp;go_enter func196,ntmps196
 go_wp2
 go_quiet (fail)
 go_wp2
 go_ret;exact⟨_,rfl,rfl⟩
def brk(p:Int):List PanicEntry:=[{ v:=.iface 217 (.agg #[.int .i64 p]),recovered:=false }]
theorem RX(b:Nat)(s:ByteArray)(ms:List (Nat×Int))(k g cap:Nat)(w:World)(hp:XG w b s ms k g cap)(hk:k<ms.length):
  Calls prog 201 #[.pointer (some ⟨b,0,none⟩)] w fun e w'=>e=.panicked (brk ms[k].1)∧Fr b w w':=by
 go_enter func201,ntmps201;go_wp2_with fail;refine(Qbl b s ms k g cap _ hp hk).mono ?_;rintro e w1 ⟨n,rfl,rfl⟩;go_wp2_with fail;exact⟨rfl,rfl,(Fr.refl _ _).drewN _⟩
def RS(w:World)(b g:Nat)(s:ByteArray)(i:Nat):Prop:=∃ms k cap,Qax s ms∧(∃h:k<ms.length,ms[k].1=i)∧XG w b s ms k g cap
theorem RS.lt{w b g s i}(h:RS w b g s i):b<w.heap.size:=by obtain⟨ms,k,cap,_,_,h⟩:=h;exact h.lt
theorem RS.glt{w b g s i}(h:RS w b g s i):g<w.heap.size:=by obtain⟨ms,k,cap,_,_,h⟩:=h;exact h.glt
theorem RS.le{w b g s i}(h:RS w b g s i):i≤s.size:=by obtain⟨ms,k,cap,hm,⟨hk,rfl⟩,_⟩:=h;exact hm.le k hk
theorem RS.drewN{w b g s i}(h:RS w b g s i)(n:Nat):RS (w.drewN n) b g s i:=by obtain⟨ms,k,cap,a,c,h⟩:=h;exact⟨ms,k,cap,a,c,h.drewN n⟩
theorem RS.alloc{w b g s i}(h:RS w b g s i)(o:Obj):RS (w.alloc o) b g s i:=by obtain⟨ms,k,cap,a,c,h⟩:=h;exact⟨ms,k,cap,a,c,h.alloc o⟩
theorem RS.setk{w b g s i}(h:RS w b g s i)(j o:Nat)(x:Value)(hj:b≠j)(hg:g≠j):RS (w.setCell ⟨j,o,none⟩ x) b g s i:=by obtain⟨ms,k,cap,a,c,h⟩:=h;exact⟨ms,k,cap,a,c,h.setk j o x hj hg⟩
theorem RS.grown{w w':World} {b g s i}{row:Option Nat}(h:RS w b g s i)(hg:w.grownBy w' row)(hr:∀j,row=some j→b≠j∧g≠j):RS w' b g s i:=by obtain⟨ms,k,cap,a,c,h⟩:=h;exact⟨ms,k,cap,a,c,h.grown hg hr⟩
theorem JZ{s i c}:onF s i (-1) c=true↔i<s.size∧byt s i=c:=by simp[onF]
theorem XD{b g:Nat}{s:ByteArray}{i c:Nat}{w:World}(hp:RS w b g s i)(hs:s.size≤200000)(hc:c<128)(ho:onF s i (-1) c=true):
  Calls prog 197 #[.pointer (some ⟨b,0,none⟩),.int .i32 c] w fun e w'=>e=.returned (.bool true)∧RS w' b g s (i+1)∧Fr b w w':=by
 obtain⟨ms,k,cap,hm,⟨hk,rfl⟩,hr⟩:=hp;have e1:=(hm.ascii k hk c hc).2 (JZ.1 ho);obtain⟨hk2,e2⟩:=hm.next k hk (by omega) (by omega);have h2:=hr.c2;have h3:=hr.fz 2;have hl:=hm.len;have e1':((ms[k].2:Int) != (c:Int))=false:=by simp[e1]
 have E2:=Qc e2;clear e1 e2 ho;go_enter func197,ntmps197;go_wp2_with fail;refine(Vw b s ms k g cap _ hr hk).mono ?_;rintro e w1 ⟨n,rfl,rfl⟩;go_wp2_with fail;go_ret;exact⟨rfl,⟨ms,k+1,cap,hm,⟨hk2,E2.o⟩,(hr.drewN n).set (by omega)⟩,((Fr.refl _ _).drewN _).setCell _ _⟩
theorem X2{b g:Nat}{s:ByteArray}{i c:Nat}{w:World}(hp:RS w b g s i)(hc:c<128)(ho:onF s i (-1) c=false):
  Calls prog 197 #[.pointer (some ⟨b,0,none⟩),.int .i32 c] w fun e w'=>e=.returned (.bool false)∧RS w' b g s i∧Fr b w w':=by
 have hp0:=Qc hp;obtain⟨ms,k,cap,hm,⟨hk,rfl⟩,hr⟩:=hp;have e1':((ms[k].2:Int) != (c:Int))=true:=by
  rw[bne_iff_ne];intro e;have:=JZ.2 ((hm.ascii k hk c hc).1 e);rw[ho]at this;cases this
 clear ho;go_enter func197,ntmps197;go_wp2_with fail;refine(Vw b s ms k g cap _ hr hk).mono ?_;rintro e w1 ⟨n,rfl,rfl⟩;go_wp2_with fail;go_ret;exact⟨rfl,hp0.out.drewN n,(Fr.refl _ _).drewN _⟩
theorem Vq{b g:Nat}{s:ByteArray}{i:Nat}{w:World}(hp:RS w b g s i):
  Calls prog 201 #[.pointer (some ⟨b,0,none⟩)] w fun e w'=>e=.panicked (brk i)∧Fr b w w':=by
 obtain⟨ms,k,cap,hm,⟨hk,rfl⟩,hr⟩:=hp;exact RX b s ms k g cap w hr hk
theorem Jo{b g:Nat}{s:ByteArray}{i c:Nat}{w:World}(hp:RS w b g s i)(hs:s.size≤200000)(hc:c<128)(ho:onF s i (-1) c=true):
  Calls prog 159 #[.pointer (some ⟨b,0,none⟩),.int .i32 c] w fun e w'=>e=.returned (.tuple #[])∧RS w' b g s (i+1)∧Fr b w w':=by
 have HO:=Qc ho;clear ho;go_enter func159,ntmps159;go_wp2_with fail;refine(XD hp hs hc HO.o).mono ?_;rintro e w1 ⟨rfl,hp1,f1⟩;go_wp2_with fail
 go_end0
 exact⟨rfl,hp1,f1⟩
theorem KM{b g:Nat}{s:ByteArray}{i c:Nat}{w:World}(hp:RS w b g s i)(hc:c<128)(ho:onF s i (-1) c=false):
  Calls prog 159 #[.pointer (some ⟨b,0,none⟩),.int .i32 c] w fun e w'=>e=.panicked (brk i)∧Fr b w w':=by
 have HO:=Qc ho;clear ho;go_enter func159,ntmps159;go_wp2_with fail;refine(X2 hp hc HO.o).mono ?_;rintro e w1 ⟨rfl,hp1,f1⟩;go_wp2_with fail;refine(Vq hp1).mono ?_;rintro e w2 ⟨rfl,f2⟩;go_wp2_with fail;exact⟨rfl,rfl,f1.trans f2⟩
theorem RN{s:ByteArray}{i:Nat}(h:i<s.size):(s.get! i).toNat=byt s i:=by
 rw[K8 h];simp only[ByteArray.get!,ByteArray.getElem_eq_getElem_data];rw[getElem!_pos]
theorem Ji{s:ByteArray}{i:Nat}(h:i<s.size):
  ((Utf8.decode s i).1<128↔byt s i<128)∧(byt s i<128→Utf8.decode s i=(byt s i,1)) ∧
  ((Utf8.decode s i).1=215↔i+1<s.size∧byt s i=195∧byt s (i+1)=151)∧((Utf8.decode s i).1=215→(Utf8.decode s i).2=2) ∧
  1≤(Utf8.decode s i).2∧i+(Utf8.decode s i).2≤s.size∧(Utf8.decode s i).1<2000000:=by
 have hb:=Qf2 s i;have g0:(s.get! (i+0)).toNat=byt s i:=RN h;unfold Utf8.decode;simp only[g0];by_cases h1:byt s i<128
 ·rw[if_pos h1];refine⟨by simp[h1],fun _=>rfl,?_,?_,by simp,by show i+1≤_;omega,by show byt s i<_;omega⟩
  ·constructor
   ·intro e;have e:byt s i=215:=e;omega
   ·rintro⟨_,e,_⟩;omega
  ·intro e;have e:byt s i=215:=e;omega
 ·rw[if_neg h1];have key:∀c wd:Nat,128≤c→c≠215→¬(i+1<s.size∧byt s i=195∧byt s (i+1)=151)→1≤wd→i+wd≤s.size→c<2000000 →
    (((c,wd):Nat×Nat).1<128↔byt s i<128)∧(byt s i<128→((c,wd):Nat×Nat)=(byt s i,1))∧(((c,wd):Nat×Nat).1=215↔i+1<s.size∧byt s i=195∧byt s (i+1)=151)∧(((c,wd):Nat×Nat).1=215→((c,wd):Nat×Nat).2=2)∧1≤((c,wd):Nat×Nat).2∧i+((c,wd):Nat×Nat).2≤s.size∧((c,wd):Nat×Nat).1<2000000:=by
   intro c wd a1 a2 a3 a4 a5 a6;exact⟨⟨fun e=>by have e:c<128:=e;omega,fun e=>absurd e h1⟩,fun e=>absurd e h1,⟨fun e=>absurd e a2,fun e=>absurd e a3⟩,fun e=>absurd e a2,a4,a5,a6⟩
  by_cases h2:(byt s i / 32==6&&(decide (i+1<s.size)&&(s.get! (i+1)).toNat / 64==2))=true
  ·rw[if_pos h2];simp only[Bool.and_eq_true,beq_iff_eq,decide_eq_true_eq]at h2;obtain⟨h3,h4,h5⟩:=h2;rw[RN h4]at h5 ⊢;have hb1:=Qf2 s (i+1);by_cases h6:(byt s i % 32)*64+byt s (i+1) % 64≥128
   ·rw[if_pos h6];refine⟨⟨fun e=>by have e:(byt s i % 32)*64+byt s (i+1) % 64<128:=e;omega,fun e=>absurd e h1⟩,fun e=>absurd e h1,⟨fun e=>?_,fun e=>?_⟩,fun _=>rfl,by show 1≤2;decide,by show i+2≤_;omega,by show (byt s i % 32)*64+byt s (i+1) % 64<2000000;omega⟩
    ·have e:(byt s i % 32)*64+byt s (i+1) % 64=215:=e;exact⟨h4,by omega,by omega⟩
    ·show (byt s i % 32)*64+byt s (i+1) % 64=215;omega
   ·rw[if_neg h6];exact key 65533 1 (by omega) (by omega) (fun e=>h6 (by omega)) (by omega) (by omega) (by omega)
  ·rw[if_neg h2];have hn:¬(i+1<s.size∧byt s i=195∧byt s (i+1)=151):=by
    rintro⟨a,c,d⟩;apply h2;simp only[Bool.and_eq_true,beq_iff_eq,decide_eq_true_eq];exact⟨by omega,a,by rw[RN a];omega⟩
   by_cases h3:(byt s i / 16==14&&(decide (i+1<s.size)&&(s.get! (i+1)).toNat / 64==2)&&(decide (i+2<s.size)&&(s.get! (i+2)).toNat / 64==2))=true
   ·rw[if_pos h3];simp only[Bool.and_eq_true,beq_iff_eq,decide_eq_true_eq]at h3;obtain⟨⟨h4,h5,h6⟩,h7,h8⟩:=h3;generalize (s.get! (i+1)).toNat=x1 at *;generalize (s.get! (i+2)).toNat=x2 at *;obtain⟨c,hc⟩:∃c,c=byt s i % 16*4096+x1 % 64*64+x2 % 64:=⟨_,rfl⟩;rw[←hc];by_cases h9:(decide (c≥2048)&&Utf8.valid (c:Int))=true
    ·rw[if_pos h9];simp only[Bool.and_eq_true,decide_eq_true_eq]at h9;exact key _ 3 (by omega) (by omega) hn (by omega) (by omega) (by omega)
    ·rw[if_neg h9];exact key 65533 1 (by omega) (by omega) hn (by omega) (by omega) (by omega)
   ·rw[if_neg h3];by_cases h4:(byt s i / 8==30&&(decide (i+1<s.size)&&(s.get! (i+1)).toNat / 64==2)&&(decide (i+2<s.size)&&(s.get! (i+2)).toNat / 64==2)&&(decide (i+3<s.size)&&(s.get! (i+3)).toNat / 64==2))=true
    ·rw[if_pos h4];simp only[Bool.and_eq_true,beq_iff_eq,decide_eq_true_eq]at h4;obtain⟨⟨⟨h5,h6,h7⟩,h8,h9⟩,h10,h11⟩:=h4;generalize (s.get! (i+1)).toNat=x1 at *;generalize (s.get! (i+2)).toNat=x2 at *;generalize (s.get! (i+3)).toNat=x3 at *;obtain⟨c,hc⟩:∃c,c=byt s i % 8*262144+x1 % 64*4096+x2 % 64*64+x3 % 64:=⟨_,rfl⟩;rw[←hc];by_cases h12:(decide (c≥65536)&&Utf8.valid (c:Int))=true
     ·rw[if_pos h12];simp only[Bool.and_eq_true,decide_eq_true_eq]at h12;refine key _ 4 (by omega) (by omega) hn (by omega) (by omega) ?_;have hv:=h12.2;unfold Utf8.valid at hv;simp at hv;omega
     ·rw[if_neg h12];exact key 65533 1 (by omega) (by omega) hn (by omega) (by omega) (by omega)
    ·rw[if_neg h4];exact key 65533 1 (by omega) (by omega) hn (by omega) (by omega) (by omega)
end Go.Proofs.YtgfhfkgdmidhpaaGreatDoor
