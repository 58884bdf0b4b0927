import Derived.Test.YtgfhfkgdmidhpaaGreatDoorC24
import Derived.Maps.OwnSet
namespace Go.Proofs.YtgfhfkgdmidhpaaGreatDoor
open Go.RowKit
set_option maxRecDepth 100000
set_option maxHeartbeats 8000000
def Ku(b:Nat)(w w':World):Prop:=∀(g:Nat)(cur:Array Value)(e:TypeId),g≠b→e≠203→w.heap[g]?=some (.cells cur e (0,0))→w'.heap[g]?=some (.cells cur e (0,0))
theorem Ku.trans{b:Nat}{u v w:World}(h:Ku b u v)(k:Ku b v w):Ku b u w:=fun g c e h1 h2 h3=>k g c e h1 h2 (h g c e h1 h2 h3)
theorem Ku.below{b:Nat}{w w':World}(F:Below w.heap.size w w'):Ku b w w':=fun g c e _ _ h=>by rw[F.block g (lt_of_block h)];exact h
theorem Ku.owns{b base e size n:Nat}{u:Value}{xs:List Value}{w w':World}(K:Ku b w w')(h:w.ownsRow base e size u n xs)(he:e≠203)(hb:u.ownBlock≠some b):w'.ownsRow base e size u n xs:=by
 obtain⟨a1,b1⟩:=h;refine⟨a1,b1.imp id ?_⟩;rintro⟨g,cap,cur,rfl,b2,c1,d1⟩;exact⟨g,cap,cur,rfl,b2,K g cur e (fun e1=>hb (by rw[e1];rfl)) he c1,d1⟩
def usF(q:List (Nat×Nat))(b:Nat)(s:Int):List Use:=q.map fun r=>⟨r.1,r.2,b,s⟩
theorem QbI(L:List Use)(q:List (Nat×Nat))(b:Nat)(s:Int)(ub base:Nat)(v vq:Value)(w:World)(hB:w.heap[ub]?=some (.cells #[v] 198 (0,0)))(hv:w.ownsRow base 203 4 v L.length (QJ L))(hq:w.ownsRow 0 132 2 vq q.length (pcs q))(hb:base≤ub)(hql:q.length≤1000)(hL:L.length≤90000000000):
  Calls Tryz.prog 147 #[vq,.agg #[.int .i64 b,.int .i64 s],.pointer (some ⟨ub,0,none⟩)] w fun x w'=>x=.returned (.tuple #[])∧∃v',Hid (w'.heap[ub]?=some (.cells #[v'] 198 (0,0))∧w'.ownsRow base 203 4 v' (L++usF q b s).length (QJ (L++usF q b s))∧Ku ub w w'∧Below base w w'):=by
 obtain⟨pq,cq,rfl⟩:=Qb hq;have hbl:=lt_of_block hB;have hW:=heap_alloc_last w (.cells #[.int .i64 b,.int .i64 s] 201);have fW:=(Below.refl w.heap.size w).alloc (Nat.le_refl _) (.cells #[.int .i64 b,.int .i64 s] 201);have sW:w.heap.size<(w.alloc (.cells #[.int .i64 b,.int .i64 s] 201)).heap.size:=by rw[World.size_alloc];omega
 have H0:Hid ((w.alloc (.cells #[.int .i64 b,.int .i64 s] 201)).heap[w.heap.size]?=some (.cells #[.int .i64 b,.int .i64 s] 201 (0,0))∧(w.alloc (.cells #[.int .i64 b,.int .i64 s] 201)).heap[ub]?=some (.cells #[v] 198 (0,0))∧(w.alloc (.cells #[.int .i64 b,.int .i64 s] 201)).ownsRow base 203 4 v L.length (QJ L)∧(w.alloc (.cells #[.int .i64 b,.int .i64 s] 201)).ownsRow 0 132 2 (.slice pq q.length cq) q.length (pcs q)∧Ku ub w (w.alloc (.cells #[.int .i64 b,.int .i64 s] 201))∧Below base w (w.alloc (.cells #[.int .i64 b,.int .i64 s] 201))):=⟨hW,Qj hB _,hv.alloc _,hq.alloc _,Ku.below fW,fW.mono (by omega)⟩;clear hB hv hq hW fW;go_enter Tryz.func147,Tryz.ntmps147;go_wp2_with fail
 go_loopw [9] (fun i wr=>∃(k:Nat)(v:Value)(M:List Use),k≤q.length∧i=.int .i64 k∧Hid (M=L++usF (q.take k) b s)∧M.length≤90000000000+k∧Hid (wr.heap[w.heap.size]?=some (.cells #[.int .i64 b,.int .i64 s] 201 (0,0))∧wr.heap[ub]?=some (.cells #[v] 198 (0,0))∧wr.ownsRow base 203 4 v M.length (QJ M)∧wr.ownsRow 0 132 2 (.slice pq q.length cq) q.length (pcs q)∧Ku ub w wr∧Below base w wr)) (fun i _=>q.length-(intOf i).toNat)
 case atStart=>exact⟨0,v,L,by omega,rfl,by simp[Hid,usF],by omega,H0⟩
 case round=>
  clear H0;obtain⟨k,v,M,hk,rfl,HM,hml,HI⟩:=hrel;rename World=>wA;have hzA:=HI.o.2.2.2.2.2.size;have hgA:=lt_of_block HI.o.1;by_cases hlt:k<q.length
  ·obtain⟨gq,rfl,_,_⟩:=Qh HI.o.2.2.2.1 (by omega);have c0:=Qe HI.o.2.2.2.1 (QX hlt).1;have c1:=Qe HI.o.2.2.2.1 (QX hlt).2;have HM2:Hid (M++[(⟨q[k].1,q[k].2,b,s⟩:Use)]=L++usF (q.take (k+1)) b s):=by
    show _=_;rw[HM.o,usF,usF,List.take_succ_eq_append_getElem hlt,List.map_append,List.append_assoc];rfl
   obtain⟨pm,cm,rfl⟩:=Qb HI.o.2.2.1;have f1:=(Below.refl wA.heap.size wA).alloc (Nat.le_refl _) (.cells #[.int .i64 q[k].1,.int .i64 q[k].2] 132);have hI1:Hid ((wA.alloc (.cells #[.int .i64 q[k].1,.int .i64 q[k].2] 132)).heap[w.heap.size]?=some (.cells #[.int .i64 b,.int .i64 s] 201 (0,0))∧(wA.alloc (.cells #[.int .i64 q[k].1,.int .i64 q[k].2] 132)).heap[ub]?=some (.cells #[.slice pm M.length cm] 198 (0,0))∧(wA.alloc (.cells #[.int .i64 q[k].1,.int .i64 q[k].2] 132)).ownsRow base 203 4 (.slice pm M.length cm) M.length (QJ M)∧(wA.alloc (.cells #[.int .i64 q[k].1,.int .i64 q[k].2] 132)).ownsRow 0 132 2 (.slice (some ⟨gq,0,none⟩) q.length cq) q.length (pcs q)∧Ku ub w (wA.alloc (.cells #[.int .i64 q[k].1,.int .i64 q[k].2] 132))∧Below base w (wA.alloc (.cells #[.int .i64 q[k].1,.int .i64 q[k].2] 132))):=by
    obtain⟨a1,a2,a3,a4,a5,a6⟩:=HI.o;exact⟨Qj a1 _,Qj a2 _,a3.alloc _,a4.alloc _,a5.trans (Ku.below f1),a6.alloc (by omega) _⟩
   have x0:=Qa hI1.out.1 0;have x1:=Qa hI1.out.1 1;have x2:=Qa hI1.out.2.1 0;simp at x0 x1 x2;clear HI HM f1;go_wp2_with (at_builtin;refine Qv ?_);refine Qc ?_;clear c0 c1;have gB:=heap_alloc_last (wA.alloc (.cells #[.int .i64 q[k].1,.int .i64 q[k].2] 132)) (.cells #[.int .i64 q[k].1,.int .i64 q[k].2,.int .i64 b,.int .i64 s] 203);have OB:=hI1.out.2.2.1.alloc (.cells #[.int .i64 q[k].1,.int .i64 q[k].2,.int .i64 b,.int .i64 s] 203);rw[World.size_alloc]at gB;refine KT Tryz.underlying198 Tryz.info203 rfl (by decide) (by decide) rfl _ _ rfl rfl OB gB rfl rfl (List.all_eq_true.1 rfl) (by omega) (by simp;omega) ?_;intro v3 w3 oS gS;obtain⟨v3p,v3c,rfl⟩:=Qb oS;have nb:∀{g:Nat} {cur:Array Value} {e:TypeId},e≠203→(wA.alloc (.cells #[.int .i64 q[k].1,.int .i64 q[k].2] 132)).heap[g]?=some (.cells cur e (0,0))→w3.heap[g]?=some (.cells cur e (0,0)):=fun he hg=>Qz gS (Qj hg _) (fun j hj e2=>Qw hI1.out.2.2.1 hg (fun e3=>he e3.symm) (by subst e2;exact hj));have g3:=nb (by decide) hI1.out.2.1;have H3:Hid ((w3.setCell ⟨ub,0,none⟩ (.slice v3p (M.length+1) v3c)).heap[w.heap.size]?=some (.cells #[.int .i64 b,.int .i64 s] 201 (0,0))∧(w3.setCell ⟨ub,0,none⟩ (.slice v3p (M.length+1) v3c)).heap[ub]?=some (.cells #[.slice v3p (M.length+1) v3c] 198 (0,0))∧(w3.setCell ⟨ub,0,none⟩ (.slice v3p (M.length+1) v3c)).ownsRow base 203 4 (.slice v3p (M.length+1) v3c) (M++[(⟨q[k].1,q[k].2,b,s⟩:Use)]).length (QJ (M++[(⟨q[k].1,q[k].2,b,s⟩:Use)]))∧(w3.setCell ⟨ub,0,none⟩ (.slice v3p (M.length+1) v3c)).ownsRow 0 132 2 (.slice (some ⟨gq,0,none⟩) q.length cq) q.length (pcs q)∧Ku ub w (w3.setCell ⟨ub,0,none⟩ (.slice v3p (M.length+1) v3c))∧Below base w (w3.setCell ⟨ub,0,none⟩ (.slice v3p (M.length+1) v3c))):=by
    obtain⟨a1,a2,a3,a4,a5,a6⟩:=hI1.out;have sK:Ku ub (wA.alloc (.cells #[.int .i64 q[k].1,.int .i64 q[k].2] 132)) (w3.setCell ⟨ub,0,none⟩ (.slice v3p (M.length+1) v3c)):=fun g cur e hg he hh=>Qo (nb he hh) hg _ _;refine⟨sK _ _ _ (by omega) (by decide) a1,Qp g3 _ _,?_,sK.owns a4 (by decide) (Qw a4 a2 (by decide)),a5.trans sK,Qr (Below.grown (a6.alloc (by rw[World.size_alloc];omega) _) gS (by simp;omega) (fun j hj=>by have:=(OB.lt j hj).1;omega)) _ _ _ hb⟩;rw[Kv,List.length_append];obtain⟨b1,b2⟩:=oS;refine⟨b1,b2.imp id ?_⟩;rintro⟨g,cap,cur,e,b3,c3',d1⟩;refine⟨g,cap,cur,e,b3,?_,d1⟩;refine Qo c3' ?_ _ _;rintro rfl;rw[g3]at c3';cases c3'
   have y0:=Qa g3 0;have y0f:=Qf g3 0;simp at y0;clear gS gB OB oS nb g3 hI1 x0 x1 x2;go_wp2_with fail;go_roundw
   case rel=>exact⟨k+1,_,M++[(⟨q[k].1,q[k].2,b,s⟩:Use)],by omega,by go_num,HM2,by rw[List.length_append,List.length_singleton];omega,H3⟩
   case measure=>simp[intOf];omega
  ·have hke:k=q.length:=by omega
   have HM2:Hid (M=L++usF q b s):=by show _=_;rw[HM.o,hke,List.take_length]
   clear hke HM;go_wp2_with fail
   go_end0
   obtain⟨a1,a2,a3,a4,a5,a6⟩:=HI.o;exact⟨rfl,v,a2,by rw[←HM2.o];exact a3,a5,a6⟩
theorem Qar(bs:List Ql)(b base:Nat)(v:Value)(w:World)(hP:PBs w base bs v)(hb:b<bs.length):
  Calls Tryz.prog 148 #[v,.int .i64 b] w fun x w'=>x=.returned (.agg #[.int .i64 b,.int .i64 bs[b].sts.length])∧Below w.heap.size w w':=by
 obtain⟨pv,cv,rfl⟩:=hP.slice;obtain⟨gv,qc,cc,ps,cs1,rfl,_,hgv,_,_,_,_,_,d2,_⟩:=hP.at hb;have f1:=(Below.refl w.heap.size w).alloc (Nat.le_refl _) (.cells #[.int .i64 0,.int .i64 0] 201);replace d2:=(f1.cell (p:=⟨gv,b*4+2,none⟩) hgv).trans d2;clear f1 hP;go_enter Tryz.func148,Tryz.ntmps148;go_wp2_with fail;refine bodyPost_ret (v:=.agg #[.int .i64 b,.int .i64 bs[b].sts.length]) (by simp[results,Tryz.results148,go_sem]) rfl ⟨rfl,(Below.refl _ _).alloc (Nat.le_refl _) _⟩
theorem Qb2(bs:List Ql)(m:Nat):WE bs (m+1)=WE bs m++QfH bs (bkF bs m) m:=by rw[WE,WE,List.range_succ,List.flatMap_append];simp
def RdI(w:World)(vU:Value)(L:List Use)(wr:World):Prop:=wr.heap[w.heap.size]?=some (.cells #[vU] 198 (0,0))∧wr.ownsRow w.heap.size 203 4 vU L.length (QJ L)∧Below w.heap.size w wr
theorem RdI.keeps{w vU L wr wr'}(h:RdI w vU L wr)(F:Below wr.heap.size wr wr'):RdI w vU L wr':=by
 obtain⟨a,b,c⟩:=h;exact⟨by rw[F.block _ (lt_of_block a)];exact a,Qd b (Qi F) trivial,c.trans (F.mono c.size)⟩
theorem Qb0(bs:List Ql)(base:Nat)(v:Value)(w:World)(hP:PBs w base bs v)(hf:Hid (∀b∈bs,ZG 1000000 b))(hg2:Hid (∀b∈bs,∀c∈b.chs,c.gs.length≤1000))(hcg:Hid (∀b∈bs,∀c∈b.chs,∀p∈c.gs,p.1<bs.length))(hn:bs.length≤12):
  Calls Tryz.prog 99 #[v] w fun x w'=>∃v',x=.returned v'∧Hid (w'.ownsRow w.heap.size 203 4 v' (rdU bs).length (QJ (rdU bs))∧(rdU bs).length≤90000000000∧Below w.heap.size w w'):=by
 obtain⟨pv,cv,rfl⟩:=hP.slice;have HP:=Qc hP;clear hP;have B0:Hid (RdI w (.slice none 0 0) [] (w.alloc (.cells #[.slice none 0 0] 198))):=⟨heap_alloc_last _ _,World.ownsRow_nil _ _ _ _,(Below.refl _ _).alloc (Nat.le_refl _) _⟩;go_enter Tryz.func99,Tryz.ntmps99;go_wp2_with fail
 go_loopw [17] (fun i wr=>∃(m:Nat)(vU:Value)(L:List Use),m≤bs.length∧i=.int .i64 m∧Hid (L=WE bs m)∧L.length≤1100000000*m∧Hid (RdI w vU L wr)) (fun i _=>bs.length-(intOf i).toNat)
 case atStart=>exact⟨0,_,[],by omega,rfl,rfl,by simp,B0⟩
 case round=>
  clear B0;obtain⟨m,vU,L,hm,rfl,HL,hll,HI⟩:=hrel;rename World=>wA;have hz:=HI.o.2.2.size;have hgA:=lt_of_block HI.o.1;by_cases hlt:m<bs.length
  ·have HFM:=Qc (hf.out _ (List.getElem_mem hlt));have hcl:=HFM.o.cl;have hsl:=HFM.o.sl;have HBK:=Qc (Zt hlt);have HG2:=Qc (hg2.out _ (List.getElem_mem hlt));have HCG:=Qc (hcg.out _ (List.getElem_mem hlt));obtain⟨gv,qc,cc,ps,cs1,rfl,_,hgv,hop,OC,OS,d0,d1,d2,d3⟩:=HP.o.at hlt;have HOC:=Qc (And.intro OC OS);obtain⟨T,x,fe,hT,hem,het,hec⟩:=Qij bs[m].e hop;have HES:=Qc (And.intro hem (And.intro het hec));rw[hT]at d3;replace d0:=(HI.o.2.2.cell (p:=⟨gv,m*4,none⟩) hgv).trans d0;replace d1:=(HI.o.2.2.cell (p:=⟨gv,m*4+1,none⟩) hgv).trans d1;replace d2:=(HI.o.2.2.cell (p:=⟨gv,m*4+2,none⟩) hgv).trans d2;replace d3:=(HI.o.2.2.cell (p:=⟨gv,m*4+3,none⟩) hgv).trans d3;have fW:=(Below.refl wA.heap.size wA).alloc (Nat.le_refl _) (.cells #[.int .i64 bs[m].at_,.slice qc bs[m].chs.length cc,.slice ps bs[m].sts.length cs1,.iface T x] 104);have HW:=Qc (And.intro (heap_alloc_last wA (.cells #[.int .i64 bs[m].at_,.slice qc bs[m].chs.length cc,.slice ps bs[m].sts.length cs1,.iface T x] 104)) (HI.o.keeps fW));clear hop OC OS hT hem het hec fW;go_wp2_with fail;clear d0 d1 d2 d3;generalize wA.alloc (.cells #[.int .i64 bs[m].at_,.slice qc bs[m].chs.length cc,.slice ps bs[m].sts.length cs1,.iface T x] 104)=W at *
   go_loopw [26] (fun i wr=>∃(q:Nat)(vU:Value)(L2:List Use),q≤bs[m].chs.length∧i=.int .i64 q∧Hid (L2=L++(bs[m].chs.take q).flatMap (chR bs))∧L2.length≤1100000000*m+1000*q∧Hid (wr.heap[wA.heap.size]?=some (.cells #[.int .i64 bs[m].at_,.slice qc bs[m].chs.length cc,.slice ps bs[m].sts.length cs1,.iface T x] 104 (0,0))∧RdI w vU L2 wr)) (fun i _=>bs[m].chs.length-(intOf i).toNat)
   case atStart=>exact⟨0,vU,L,by omega,rfl,by simp[Hid],by omega,HW⟩
   case round=>
    obtain⟨q,vU2,L2,hq,rfl,HL2,hl2,H2⟩:=hrel;rename World=>wB;have hz2:=H2.o.2.2.2.size;have hgB:=lt_of_block H2.o.1;by_cases hql:q<bs[m].chs.length
    ·obtain⟨gc,pu,cu,rfl,_,hgcw,hgr,OSR,e0,e1,e2⟩:=HOC.o.1.at hql;replace e0:=(H2.o.2.2.2.cell (p:=⟨gc,q*3,none⟩) hgcw).trans e0;replace e1:=(H2.o.2.2.2.cell (p:=⟨gc,q*3+1,none⟩) hgcw).trans e1;replace e2:=(H2.o.2.2.2.cell (p:=⟨gc,q*3+2,none⟩) hgcw).trans e2;have HGR:=Qc hgr;have hgl:=HG2.o _ (List.getElem_mem hql);have HCQ:=Qc (HCG.o _ (List.getElem_mem hql));have fB:=(Below.refl wB.heap.size wB).alloc (Nat.le_refl _) (.cells #[.int .i64 bs[m].chs[q].to.1,.int .i64 bs[m].chs[q].to.2,.slice pu bs[m].chs[q].gs.length cu] 140);have H3:=Qc (And.intro (Qj H2.o.1 (.cells #[.int .i64 bs[m].chs[q].to.1,.int .i64 bs[m].chs[q].to.2,.slice pu bs[m].chs[q].gs.length cu] 140)) (And.intro (H2.o.2.keeps fB) OSR));clear hgr OSR fB;go_wp2_with fail;clear e0 e1 e2;generalize wB.alloc (.cells #[.int .i64 bs[m].chs[q].to.1,.int .i64 bs[m].chs[q].to.2,.slice pu bs[m].chs[q].gs.length cu] 140)=W3 at *
     go_loopw [33] (fun i wr=>∃(t:Nat)(vU:Value)(L3:List Use),t≤bs[m].chs[q].gs.length∧i=.int .i64 t∧Hid (L3=L2++(chR bs bs[m].chs[q]).take t)∧L3.length≤1100000000*m+1000*q+t∧Hid (wr.heap[wA.heap.size]?=some (.cells #[.int .i64 bs[m].at_,.slice (some ⟨gc,0,none⟩) bs[m].chs.length cc,.slice ps bs[m].sts.length cs1,.iface T x] 104 (0,0))∧RdI w vU L3 wr)) (fun i _=>bs[m].chs[q].gs.length-(intOf i).toNat)
     case atStart=>exact⟨0,vU2,L2,by omega,rfl,by simp[Hid],by omega,H3.o.1,H3.o.2.1⟩
     case round=>
      obtain⟨t,vU3,L3,ht,rfl,HL3,hl3,H4⟩:=hrel;rename World=>wC;have hz4:=H4.o.2.2.2.size;have hgC:=lt_of_block H4.o.1;by_cases htl:t<bs[m].chs[q].gs.length
      ·have htr:t<bs[m].chs[q].rs.length:=by have:=HGR.o;omega
       have OX:=Qd H3.o.2.2 (Qi H4.o.2.2.2) trivial;obtain⟨gu,rfl,_,_⟩:=Qh OX (by omega);obtain⟨s0,s1,s2,s3⟩:=QF HGR.o htl;replace s0:=Qe OX s0;replace s1:=Qe OX s1;replace s2:=Qe OX s2;replace s3:=Qe OX s3;have hfr:=HCQ.o _ (List.getElem_mem htl);obtain⟨hct,hce⟩:=QeK (bs:=bs) HGR.o.symm htr;have HL5:Hid (L3++usF [bs[m].chs[q].rs[t]] bs[m].chs[q].gs[t].1 bs[bs[m].chs[q].gs[t].1].sts.length=L2++(chR bs bs[m].chs[q]).take (t+1)):=by
        show _=_;rw[HL3.o,List.take_succ_eq_append_getElem hct,List.append_assoc,hce,Zt hfr];rfl
       have gW:=heap_alloc_last wC (.cells #[.int .i64 bs[m].chs[q].gs[t].1,.int .i64 bs[m].chs[q].gs[t].2,.int .i64 bs[m].chs[q].rs[t].1,.int .i64 bs[m].chs[q].rs[t].2] 147);have fW:=(Below.refl wC.heap.size wC).alloc (Nat.le_refl _) (.cells #[.int .i64 bs[m].chs[q].gs[t].1,.int .i64 bs[m].chs[q].gs[t].2,.int .i64 bs[m].chs[q].rs[t].1,.int .i64 bs[m].chs[q].rs[t].2] 147);have H5:=Qc (And.intro (Qj H4.o.1 (.cells #[.int .i64 bs[m].chs[q].gs[t].1,.int .i64 bs[m].chs[q].gs[t].2,.int .i64 bs[m].chs[q].rs[t].1,.int .i64 bs[m].chs[q].rs[t].2] 147)) (H4.o.2.keeps fW));have sW:wC.heap.size<(wC.alloc (.cells #[.int .i64 bs[m].chs[q].gs[t].1,.int .i64 bs[m].chs[q].gs[t].2,.int .i64 bs[m].chs[q].rs[t].1,.int .i64 bs[m].chs[q].rs[t].2] 147)).heap.size:=by rw[World.size_alloc];omega
       clear OX hce HL3 H4 fW;go_wp2_with fail;clear s0 s1 s2 s3;generalize wC.alloc (.cells #[.int .i64 bs[m].chs[q].gs[t].1,.int .i64 bs[m].chs[q].gs[t].2,.int .i64 bs[m].chs[q].rs[t].1,.int .i64 bs[m].chs[q].rs[t].2] 147)=W5 at *;have k0:=Qa gW 0;have k2:=Qa gW 2;have k3:=Qa gW 3;simp at k0 k2 k3;have a0:∀o,(W5.alloc o).cell? ⟨wC.heap.size,0,none⟩=some (.int .i64 bs[m].chs[q].gs[t].1):=fun o=>by have:=Qa (Qj gW o) 0;simpa using this
       have HE1:Hid (Calls Tryz.prog 148 #[.slice (some ⟨gv,0,none⟩) bs.length cv,.int .i64 bs[m].chs[q].gs[t].1] W5.drew fun x w'=>x=.returned (.agg #[.int .i64 bs[m].chs[q].gs[t].1,.int .i64 bs[bs[m].chs[q].gs[t].1].sts.length])∧Below W5.drew.heap.size W5.drew w'):=Qar bs bs[m].chs[q].gs[t].1 base _ W5.drew (HP.o.keeps (w':=W5.drew) (Qs.below (w':=W5) H5.o.2.2.2)) hfr;have HE2:Hid (Calls Tryz.prog 148 #[.slice (some ⟨gv,0,none⟩) bs.length cv,.int .i64 bs[m].chs[q].gs[t].1] (W5.alloc (.cells #[.int .i64 bs[m].chs[q].rs[t].1,.int .i64 bs[m].chs[q].rs[t].2] 132)).drew fun x w'=>x=.returned (.agg #[.int .i64 bs[m].chs[q].gs[t].1,.int .i64 bs[bs[m].chs[q].gs[t].1].sts.length])∧Below (W5.alloc (.cells #[.int .i64 bs[m].chs[q].rs[t].1,.int .i64 bs[m].chs[q].rs[t].2] 132)).drew.heap.size (W5.alloc (.cells #[.int .i64 bs[m].chs[q].rs[t].1,.int .i64 bs[m].chs[q].rs[t].2] 132)).drew w'):=Qar bs bs[m].chs[q].gs[t].1 base _ (W5.alloc (.cells #[.int .i64 bs[m].chs[q].rs[t].1,.int .i64 bs[m].chs[q].rs[t].2] 132)).drew (HP.o.keeps (w':=(W5.alloc (.cells #[.int .i64 bs[m].chs[q].rs[t].1,.int .i64 bs[m].chs[q].rs[t].2] 132)).drew) (Qs.below (w':=W5.alloc (.cells #[.int .i64 bs[m].chs[q].rs[t].1,.int .i64 bs[m].chs[q].rs[t].2] 132)) (H5.o.2.2.2.alloc H5.o.2.2.2.size _))) hfr;have zW5:=H5.o.2.2.2.size
       go_region_law (first | (refine ZN rfl 148 #[.slice (some ⟨gv,0,none⟩) bs.length cv,.int .i64 bs[m].chs[q].gs[t].1] (by go_simp) HE1.o ?_;rintro e w6 ⟨rfl,f6⟩;have f6':Below W5.heap.size W5 w6:=⟨f6.os,f6.tape,f6.output,f6.size,f6.block⟩;have s6:=f6'.size;have y2:=(f6'.cell (p:=⟨wC.heap.size,2,none⟩) sW).trans k2;have y3:=(f6'.cell (p:=⟨wC.heap.size,3,none⟩) sW).trans k3;have O6:=Qc (And.intro (H5.o.2.keeps f6') f6');clear f6 f6') | (refine ZN rfl 148 #[.slice (some ⟨gv,0,none⟩) bs.length cv,.int .i64 bs[m].chs[q].gs[t].1] (by go_simp) HE2.o ?_;rintro e w6 ⟨rfl,f6⟩;have f6':Below (W5.alloc (.cells #[.int .i64 bs[m].chs[q].rs[t].1,.int .i64 bs[m].chs[q].rs[t].2] 132)).heap.size (W5.alloc (.cells #[.int .i64 bs[m].chs[q].rs[t].1,.int .i64 bs[m].chs[q].rs[t].2] 132)) w6:=⟨f6.os,f6.tape,f6.output,f6.size,f6.block⟩;have T6:Hid (w6.ownsRow 0 132 2 (.slice (some ⟨W5.heap.size,0,none⟩) 1 1) [bs[m].chs[q].rs[t]].length (pcs [bs[m].chs[q].rs[t]])):=Qd (ZA W5 0 132 2 1 #[.int .i64 bs[m].chs[q].rs[t].1,.int .i64 bs[m].chs[q].rs[t].2] (Nat.zero_le _) rfl (by decide)) (Qi f6') trivial;have O6:Hid (RdI w vU3 L3 w6∧Below W5.heap.size W5 w6):=⟨(H5.o.2.keeps ((Below.refl _ _).alloc (Nat.le_refl _) _)).keeps f6',((Below.refl W5.heap.size W5).alloc (Nat.le_refl _) _).trans (f6'.mono (by rw[World.size_alloc];omega))⟩;clear f6 f6') | (refine ZN rfl 147 #[.slice (some ⟨w6.heap.size,0,none⟩) 1 1,.agg #[.int .i64 bs[m].chs[q].gs[t].1,.int .i64 bs[bs[m].chs[q].gs[t].1].sts.length],.pointer (some ⟨w.heap.size,0,none⟩)] (by go_simp) (QbI L3 [bs[m].chs[q].rs[t]] bs[m].chs[q].gs[t].1 bs[bs[m].chs[q].gs[t].1].sts.length w.heap.size w.heap.size vU3 _ (w6.alloc (.cells #[.int .i64 bs[m].chs[q].rs[t].1,.int .i64 bs[m].chs[q].rs[t].2] 132)) (Qj O6.o.1.1 _) (O6.o.1.2.1.alloc _) (ZA w6 0 132 2 1 #[.int .i64 bs[m].chs[q].rs[t].1,.int .i64 bs[m].chs[q].rs[t].2] (Nat.zero_le _) rfl (by decide)) (Nat.le_refl _) (by simp) (by omega)) ?_;rintro e w7 ⟨rfl,v7,H7⟩;have R7:Hid (w7.heap[wA.heap.size]?=some (.cells #[.int .i64 bs[m].at_,.slice (some ⟨gc,0,none⟩) bs[m].chs.length cc,.slice ps bs[m].sts.length cs1,.iface T x] 104 (0,0))∧RdI w v7 (L3++usF [bs[m].chs[q].rs[t]] bs[m].chs[q].gs[t].1 bs[bs[m].chs[q].gs[t].1].sts.length) w7):=⟨H7.o.2.2.1 _ _ _ (by omega) (by decide) (Qj (by rw[O6.o.2.block _ (lt_of_block H5.o.1)];exact H5.o.1) _),H7.o.1,H7.o.2.1,(O6.o.1.2.2.alloc O6.o.1.2.2.size _).trans H7.o.2.2.2⟩;clear H7) | (refine ZN rfl 147 #[.slice (some ⟨W5.heap.size,0,none⟩) 1 1,.agg #[.int .i64 bs[m].chs[q].gs[t].1,.int .i64 bs[bs[m].chs[q].gs[t].1].sts.length],.pointer (some ⟨w.heap.size,0,none⟩)] (by go_simp) (QbI L3 [bs[m].chs[q].rs[t]] bs[m].chs[q].gs[t].1 bs[bs[m].chs[q].gs[t].1].sts.length w.heap.size w.heap.size vU3 _ w6 O6.o.1.1 O6.o.1.2.1 T6.o (Nat.le_refl _) (by simp) (by omega)) ?_;rintro e w7 ⟨rfl,v7,H7⟩;have R7:Hid (w7.heap[wA.heap.size]?=some (.cells #[.int .i64 bs[m].at_,.slice (some ⟨gc,0,none⟩) bs[m].chs.length cc,.slice ps bs[m].sts.length cs1,.iface T x] 104 (0,0))∧RdI w v7 (L3++usF [bs[m].chs[q].rs[t]] bs[m].chs[q].gs[t].1 bs[bs[m].chs[q].gs[t].1].sts.length) w7):=⟨H7.o.2.2.1 _ _ _ (by omega) (by decide) (by rw[O6.o.2.block _ (lt_of_block H5.o.1)];exact H5.o.1),H7.o.1,H7.o.2.1,O6.o.1.2.2.trans H7.o.2.2.2⟩;clear H7) | fail)
       all_goals
        clear HE1 HE2 H5 a0;go_wp2_with fail;go_roundw
        case rel=>exact⟨t+1,v7,L3++usF [bs[m].chs[q].rs[t]] bs[m].chs[q].gs[t].1 bs[bs[m].chs[q].gs[t].1].sts.length,by omega,by go_num,HL5,by rw[List.length_append,usF,List.length_map,List.length_singleton];omega,R7⟩
        case measure=>simp[intOf];omega
      ·have hte:t=bs[m].chs[q].gs.length:=by omega
       have HL4:Hid (L3=L++(bs[m].chs.take (q+1)).flatMap (chR bs)):=by
        show _=_;have e:(chR bs bs[m].chs[q]).take t=chR bs bs[m].chs[q]:=List.take_of_length_le (by rw[chR,List.length_map,List.length_zip];have:=HGR.o;omega);rw[HL3.o,HL2.o,e,List.take_succ_eq_append_getElem hql,List.flatMap_append,List.append_assoc];simp
       clear hte HL3;go_wp2_with fail;go_roundw
       case rel=>exact⟨q+1,vU3,L3,by omega,by go_num,HL4,by omega,H4⟩
       case measure=>simp[intOf];omega
    ·have hqe:q=bs[m].chs.length:=by omega
     have HL3:Hid (L2=L++bs[m].chs.flatMap (chR bs)):=by show _=_;rw[HL2.o,hqe,List.take_length]
     have b2:=Qa H2.o.1 2;simp at b2;clear hqe HL2;go_wp2_with fail;clear b2
     go_loopw [52] (fun i wr=>∃(k:Nat)(vU:Value)(L4:List Use),k≤bs[m].sts.length∧i=.int .i64 k∧Hid (L4=L2++(List.range k).flatMap (stR bs[m] m))∧L4.length≤1100000000*m+1000000000+2*k∧Hid (wr.heap[wA.heap.size]?=some (.cells #[.int .i64 bs[m].at_,.slice qc bs[m].chs.length cc,.slice ps bs[m].sts.length cs1,.iface T x] 104 (0,0))∧RdI w vU L4 wr)) (fun i _=>bs[m].sts.length-(intOf i).toNat)
     case atStart=>exact⟨0,vU2,L2,by omega,rfl,by simp[Hid],by omega,H2⟩
     case round=>
      obtain⟨k,vU4,L4,hk,rfl,HL4,hl4,H4⟩:=hrel;rename World=>wC;have hz4:=H4.o.2.2.2.size;have hgC:=lt_of_block H4.o.1;by_cases hkl:k<bs[m].sts.length
      ·have OSC:=Qd HOC.o.2 (Qi H4.o.2.2.2) trivial;obtain⟨gs,rfl,_,_⟩:=Qh OSC (by omega);obtain⟨T2,x2,fr,fg,hsv,hrm,hrt,hrc,_,_,_⟩:=Rx bs[m].sts[k];have cS:=Qe OSC (j:=k) (u:=.iface T2 x2) (by rw[←hsv];simp[hkl]);have HR:=Qc (And.intro hrm (And.intro hrt hrc));have HST:Hid (stR bs[m] m k=usF (rdsF bs[m].sts[k]) m k):=by show _=_;rw[stR,List.getElem?_eq_getElem hkl];rfl
       have HL5:Hid (L4++usF (rdsF bs[m].sts[k]) m k=L2++(List.range (k+1)).flatMap (stR bs[m] m)):=by
        show _=_;rw[HL4.o,List.range_succ,List.flatMap_append,List.append_assoc,←HST.o];simp
       have hrl:=Qfz bs[m].sts[k];have hul:(usF (rdsF bs[m].sts[k]) m k).length≤2:=by rw[usF,List.length_map];exact hrl
       clear hsv hrm hrt hrc OSC HST HL4;go_wp2_with fail;rw[HR.o.1,Result.andThen_ok];simp only[HR.o.2.1];unfold Oper.upon;refine(HR.o.2.2 _).mono ?_;rintro r w5 ⟨vq,rfl,o5,f5⟩;obtain⟨pq,cq,rfl⟩:=Qb o5;have H5:=Qc (And.intro (by rw[f5.block _ hgC];exact H4.o.1:w5.heap[wA.heap.size]?=some (.cells #[.int .i64 bs[m].at_,.slice qc bs[m].chs.length cc,.slice (some ⟨gs,0,none⟩) bs[m].sts.length cs1,.iface T x] 104 (0,0))) (And.intro (H4.o.2.keeps f5) (Qm o5 (Nat.zero_le _))));clear o5 f5 H4 HR cS;go_wp2_with fail;refine(QbI L4 (rdsF bs[m].sts[k]) m k w.heap.size w.heap.size vU4 _ w5 H5.o.2.1.1 H5.o.2.1.2.1 H5.o.2.2 (Nat.le_refl _) (by omega) (by omega)).mono ?_;rintro r w6 ⟨rfl,v6,H6⟩;have H7:Hid (w6.heap[wA.heap.size]?=some (.cells #[.int .i64 bs[m].at_,.slice qc bs[m].chs.length cc,.slice (some ⟨gs,0,none⟩) bs[m].sts.length cs1,.iface T x] 104 (0,0))∧RdI w v6 (L4++usF (rdsF bs[m].sts[k]) m k) w6):=⟨H6.o.2.2.1 _ _ _ (by omega) (by decide) H5.o.1,H6.o.1,H6.o.2.1,H5.o.2.1.2.2.trans H6.o.2.2.2⟩;clear H5 H6;go_wp2_with fail;go_roundw
       case rel=>exact⟨k+1,v6,L4++usF (rdsF bs[m].sts[k]) m k,by omega,by go_num,HL5,by rw[List.length_append];omega,H7⟩
       case measure=>simp[intOf];omega
      ·have hke:k=bs[m].sts.length:=by omega
       have HL5:Hid (L4++usF (QZ bs[m].e) m bs[m].sts.length=WE bs (m+1)):=by
        show _=_;rw[HL4.o,hke,HL3.o,HL.o,Qb2,HBK.o,QfH,List.append_assoc,List.append_assoc];rfl
       have b3:=Qa H4.o.1 3;simp at b3;have hrl:(QZ bs[m].e).length≤1:=by unfold QZ;split<;>simp
       have hul:(usF (QZ bs[m].e) m bs[m].sts.length).length≤1:=by rw[usF,List.length_map];exact hrl
       clear hke HL4;go_wp2_with fail;rw[HES.o.1,Result.andThen_ok];simp only[HES.o.2.1];unfold Oper.upon;refine(HES.o.2.2 _).mono ?_;rintro r w5 ⟨vq,rfl,o5,f5⟩;obtain⟨pq,cq,rfl⟩:=Qb o5;have s5:=f5.size;have H5:=Qc (And.intro (H4.o.2.keeps f5) (Qm o5 (Nat.zero_le _)));clear o5 f5 H4 b3;go_wp2_with fail;refine(Qar bs m base _ w5 (HP.o.keeps (Qs.below H5.o.1.2.2)) hlt).mono ?_;rintro r w6 ⟨rfl,f6⟩;have H6:=Qc (And.intro (H5.o.1.keeps f6) (Qd H5.o.2 (Qi f6) trivial));clear f6 H5;go_wp2_with fail;refine(QbI L4 (QZ bs[m].e) m bs[m].sts.length w.heap.size w.heap.size vU4 _ w6 H6.o.1.1 H6.o.1.2.1 H6.o.2 (Nat.le_refl _) (by omega) (by omega)).mono ?_;rintro r w7 ⟨rfl,v7,H7⟩;have H8:Hid (RdI w v7 (L4++usF (QZ bs[m].e) m bs[m].sts.length) w7):=⟨H7.o.1,H7.o.2.1,H6.o.1.2.2.trans H7.o.2.2.2⟩;clear H6 H7;go_wp2_with fail;go_roundw
       case rel=>exact⟨m+1,v7,L4++usF (QZ bs[m].e) m bs[m].sts.length,by omega,by go_num,HL5,by rw[List.length_append];omega,H8⟩
       case measure=>simp[intOf];omega
  ·have hme:m=bs.length:=by omega
   have HLE:Hid (L=rdU bs):=by show _=_;rw[HL.o,hme];rfl
   have k0:=Qa HI.o.1 0;simp at k0;obtain⟨pl,cl,rfl⟩:=Qb HI.o.2.1;clear hme HL;go_wp2_with fail;go_ret;exact⟨_,rfl,by rw[←HLE.o];exact HI.o.2.1,by rw[←HLE.o];omega,HI.o.2.2⟩
theorem QaF{m:List Use}{x:Use}:∀{l:List Use}{seen:List Nat},twG seen l=some x→twG seen (l++m)=some x
 | [],_,h=>by rw[twG]at h;cases h
 | u::l,seen,h=>by
  rw[List.cons_append,twG];rw[twG]at h;split at h
  ·rename_i h1;rw[if_pos h1];exact h
  ·rename_i h1;rw[if_neg h1];exact QaF h
theorem Qhd{l:List Use}{k:Nat}(hk:k<l.length)(h:twF (l.take k)=none)(hm:l[k].n∈(l.take k).map (·.n)):twF l=some l[k]:=by
 have h1:=VY h hm;rw[←List.take_succ_eq_append_getElem hk]at h1;have:=QaF (m:=l.drop (k+1)) h1
 rwa [List.take_append_drop]at this
theorem Qhc{l:List Use}{k:Nat}(hk:k<l.length)(h:twF (l.take k)=none)(hm:l[k].n∉(l.take k).map (·.n)):twF (l.take (k+1))=none:=by
 rw[List.take_succ_eq_append_getElem hk];exact NR h hm
theorem Qid{n:Nat}{b:Ql}(h:ZG n b){i:Nat}{u:Use}(hu:u∈Va b i):u.n<10000:=by
 rw[Va,List.mem_append]at hu;rcases hu with hu|hu
 ·obtain⟨c,hc,rfl⟩:=List.mem_map.1 hu;exact(h.ch c hc).1
 ·obtain⟨j,hj,hu⟩:=List.mem_flatMap.1 hu;have hj:=List.mem_range.1 hj;by_cases h33:b.sts[j].op=33
  ·rw[Gk hj h33]at hu;simp at hu
  ·rw[Wt hj h33,List.mem_singleton]at hu;rw[hu];exact(h.st _ (List.getElem_mem hj)).1
theorem Qg2{n:Nat}{bs:List Ql}(h:∀b∈bs,ZG n b){u:Use}(hu:u∈gvU bs):u.n<10000:=by
 obtain⟨i,_,hu⟩:=List.mem_flatMap.1 hu;exact Qid (QeR h i) hu
def Kn(l:List Use)(k:Nat):List Nat:=ofL ((l.take k).map (·.n))
theorem NY(l:List Use):Kn l 0=[]:=by simp[Kn,QhV]
theorem NZ{l:List Use}{k:Nat}(hk:k<l.length):ptF (Kn l k) l[k].n=Kn l (k+1):=by
 refine ZX (XS _ _) (XX _) fun x=>?_;rw[Zf,Kn,Kn,Z1,Z1,List.take_succ_eq_append_getElem hk,List.map_append,List.mem_append];simp
theorem Qc0{l:List Use}(h:∀u∈l,u.n<10000)(k:Nat):SM (Kn l k):=SM.of fun x hx=>by
 obtain⟨u,hu,rfl⟩:=List.mem_map.1 hx;exact h u (List.mem_of_mem_take hu)
def TwI(w:World)(l:List Use)(vL:Value)(k:Nat)(v:Value)(wr:World):Prop:=
 wr.heap[w.heap.size]?=some (.cells #[.int .i64 0,.int .i64 0] 132 (0,0))∧wr.heap[w.heap.size+1]?=some (.cells #[v] 161 (0,0))∧wr.ownsRow w.heap.size 78 1 v (Kn l k).length (Qg (Kn l k))∧wr.ownsRow w.heap.size 203 4 vL l.length (QJ l)∧Below w.heap.size w wr
theorem Nq(bs:List Ql)(base:Nat)(v:Value)(w:World)(hP:PBs w base bs v)(hf:Hid (∀b∈bs,ZG 1000000 b))(hn:bs.length≤1000):
  Calls Tryz.prog 62 #[v] w fun x w'=>((∃u,twF (gvU bs)=some u∧x=.returned (.tuple #[.agg #[.int .i64 u.n,.int .i64 u.p],.bool true]))∨(twF (gvU bs)=none∧x=.returned (.tuple #[.agg #[.int .i64 0,.int .i64 0],.bool false])))∧Below w.heap.size w w':=by
 obtain⟨pv,cv,rfl⟩:=hP.slice;have HP:=Qc hP;have HN:Hid (∀u∈gvU bs,u.n<10000):=fun u hu=>Qg2 hf.out hu;clear hP;go_enter Tryz.func62,Tryz.ntmps62;go_wp2_with fail;obtain⟨W,hW⟩:∃W,W=(w.alloc (.cells #[.int .i64 0,.int .i64 0] 132)).alloc (.cells #[.slice none 0 0] 161):=⟨_,rfl⟩;rw[←hW];obtain⟨g0,g1,hz,f2⟩:=two w (.cells #[.int .i64 0,.int .i64 0] 132) (.cells #[.slice none 0 0] 161);rw[←hW]at g0 g1 hz f2;refine(Np bs base _ W (HP.o.keeps (Qs.below f2)) hf hn).mono ?_;rintro x w3 ⟨v3,rfl,H3⟩;obtain⟨p3,c3,rfl⟩:=Qb H3.o.1;have hl:=H3.o.2.1;have B0:Hid (TwI w (gvU bs) (.slice p3 (gvU bs).length c3) 0 (.slice none 0 0) w3):=⟨by rw[H3.o.2.2.block _ (by omega)];exact g0,by rw[H3.o.2.2.block _ (by omega)];exact g1,by rw[NY];exact World.ownsRow_nil _ _ _ _,Qm H3.o.1 (by omega),f2.trans (H3.o.2.2.mono (by omega))⟩;generalize hLL:gvU bs=L at *;have HLE:=Qc hLL;clear hLL hW g0 g1 hz f2 H3;go_wp2_with fail
 go_loopw [10] (fun i wr=>∃(k:Nat)(v:Value),k≤L.length∧i=.int .i64 k∧Hid (twF (L.take k)=none)∧Hid (TwI w L (.slice p3 L.length c3) k v wr)) (fun i _=>L.length-(intOf i).toNat)
 case atStart=>exact⟨0,_,by omega,rfl,rfl,B0⟩
 case round=>
  clear B0;obtain⟨k,v,hk,rfl,HT,HI⟩:=hrel;rename World=>wA;have hzA:=HI.o.2.2.2.2.size;have hgA:=lt_of_block HI.o.2.1;by_cases hlt:k<L.length
  ·obtain⟨gl,rfl,_,_⟩:=Qh HI.o.2.2.2.1 (by omega);obtain⟨u0,u1,u2,u3⟩:=KZ hlt;have c0:=Qe HI.o.2.2.2.1 u0;have c1:=Qe HI.o.2.2.2.1 u1;have c2:=Qe HI.o.2.2.2.1 u2;have c3':=Qe HI.o.2.2.2.1 u3;have gW:=heap_alloc_last wA (.cells #[.int .i64 L[k].n,.int .i64 L[k].p,.int .i64 L[k].b,.int .i64 L[k].s] 203);have FW:=(Below.refl wA.heap.size wA).alloc (Nat.le_refl _) (.cells #[.int .i64 L[k].n,.int .i64 L[k].p,.int .i64 L[k].b,.int .i64 L[k].s] 203);have HIW:Hid (TwI w L (.slice (some ⟨gl,0,none⟩) L.length c3) k v (wA.alloc (.cells #[.int .i64 L[k].n,.int .i64 L[k].p,.int .i64 L[k].b,.int .i64 L[k].s] 203))):=by
    obtain⟨a1,a2,a3,a4,a5⟩:=HI.o;exact⟨Qj a1 _,Qj a2 _,a3.alloc _,a4.alloc _,a5.alloc hzA _⟩
   have HSS:=Qc (Qc0 HN.o k);have hsl:=HSS.o.len;have HS1:=Qc HSS.o.1;have HNX:=Qc (NZ hlt);have hzW:w.heap.size≤(wA.alloc (.cells #[.int .i64 L[k].n,.int .i64 L[k].p,.int .i64 L[k].b,.int .i64 L[k].s] 203)).heap.size:=by rw[World.size_alloc];omega
   clear u0 u1 u2 u3 HI FW;go_wp2_with fail;clear c0 c1 c2 c3';generalize wA.alloc (.cells #[.int .i64 L[k].n,.int .i64 L[k].p,.int .i64 L[k].b,.int .i64 L[k].s] 203)=W5 at *;refine(Qjf (Kn L k) L[k].n HS1 (w.heap.size+1) 0 w.heap.size #[v] 161 v W5 HIW.o.2.1 rfl HIW.o.2.2.1 (by omega) hzW (Qw HIW.o.2.2.1 HIW.o.2.1 (by decide))).mono ?_;rintro e w6 ⟨bb,v6,rfl,H6⟩;have KA:=Ke.ad H6.o.2.2.2 HIW.o.2.2.1;have g6:w6.heap[wA.heap.size]?=some (.cells #[.int .i64 L[k].n,.int .i64 L[k].p,.int .i64 L[k].b,.int .i64 L[k].s] 203 (0,0)):=KA _ _ _ (by omega) (by decide) gW;have HI6:Hid (TwI w L (.slice (some ⟨gl,0,none⟩) L.length c3) (k+1) v6 w6):=by
    obtain⟨a1,a2,a3,a4,a5⟩:=HIW.o;obtain⟨_,j1,j2,j3⟩:=H6.o;rw[HNX.o]at j2;exact⟨KA _ _ _ (by omega) (by decide) a1,j1,j2,KA.owns a4 (by decide) (Qw a4 a2 (by decide)),j3.below a5 (by omega) (fun k hk=>(a3.lt k hk).1) hzW⟩
   have hbb:=H6.o.1;clear HIW H6 KA gW HNX
   cases bb with
   | true=>
    have hnm:L[k].n∉(L.take k).map (·.n):=fun h=>by
     have:Qt (Kn L k) L[k].n=true:=ZJ.2 (Z1.2 h);rw[this]at hbb;cases hbb
    have HT2:=Qc (Qhc hlt HT.o hnm);clear hbb hnm g6;go_wp2_with fail;go_roundw
    case rel=>exact⟨k+1,v6,by omega,by go_num,HT2,HI6⟩
    case measure=>simp[intOf];omega
   | false=>
    have hm:L[k].n∈(L.take k).map (·.n):=by
     have:Qt (Kn L k) L[k].n=true:=by cases h:Qt (Kn L k) L[k].n with
      | true=>rfl
      | false=>rw[h]at hbb;cases hbb
     exact Z1.1 (ZJ.1 this)
    have HT2:=Qc (Qhd hlt HT.o hm);have b0:=Qa g6 0;have b1:=Qa g6 1;have r0:=Qa HI6.o.1 0;have r1:=Qa HI6.o.1 1;have z0:=Qf HI6.o.1 0;have z1:=Qf HI6.o.1 1;simp at b0 b1 r0 r1;clear hbb hm g6;go_wp2_with fail;have q1:=Qp HI6.o.1 0 (.int .i64 L[k].n);have q2:=Qp q1 1 (.int .i64 L[k].p);have k0:=Qa q2 0;have k1:=Qa q2 1;simp at k0 k1;refine bodyPost_ret (v:=.tuple #[.agg #[.int .i64 L[k].n,.int .i64 L[k].p],.bool true]) (by simp[results,Tryz.results62,go_sem,k0,k1]) rfl ⟨.inl ⟨L[k],by rw[HLE.o];exact HT2.o,rfl⟩,Qr (Qr HI6.o.2.2.2.2 _ _ _ (Nat.le_refl _)) _ _ _ (Nat.le_refl _)⟩
  ·have hke:k=L.length:=by omega
   have HT2:Hid (twF L=none):=by have:=HT.o;rw[hke,List.take_length]at this;exact this
   have r0:=Qa HI.o.1 0;have r1:=Qa HI.o.1 1;have z0:=Qf HI.o.1 0;have z1:=Qf HI.o.1 1;simp at r0 r1;clear hke HT;go_wp2_with fail;have q1:=Qp HI.o.1 0 (.int .i64 0);have q2:=Qp q1 1 (.int .i64 0);have k0:=Qa q2 0;have k1:=Qa q2 1;simp at k0 k1;refine bodyPost_ret (v:=.tuple #[.agg #[.int .i64 0,.int .i64 0],.bool false]) (by simp[results,Tryz.results62,go_sem,k0,k1]) rfl ⟨.inr ⟨by rw[HLE.o];exact HT2.o,rfl⟩,Qr (Qr HI.o.2.2.2.2 _ _ _ (Nat.le_refl _)) _ _ _ (Nat.le_refl _)⟩
end Go.Proofs.YtgfhfkgdmidhpaaGreatDoor
namespace Go.Proofs.YtgfhfkgdmidhpaaGreatDoor
open Go.RowKit Go.Maps
set_option maxRecDepth 100000
set_option maxHeartbeats 8000000
theorem Qge:Keyed Tryz.prog 78:=int_keyed Tryz.underlying78
theorem QiE(w:World):(zeroValue 201).run Tryz.prog w=.ok (.agg #[.int .i64 0,.int .i64 0]) w:=by kernel_rfl
def JJ(v:Value):Option (DataW Unit×List MemPlace):=match v with
 | .agg ⟨[.int .i64 a,.int .i64 b]⟩=>some (.agg [.lit (.int .i64 a),.lit (.int .i64 b)],[])
 | _=>none
theorem Gx{v:Value}{z:DataW Unit×List MemPlace}(h:JJ v=some z):∃a b:Int,v=.agg #[.int .i64 a,.int .i64 b]∧z=(.agg [.lit (.int .i64 a),.lit (.int .i64 b)],[]):=by
 unfold JJ at h;split at h
 ·cases h;exact⟨_,_,rfl,rfl⟩
 ·cases h
def spD(u:Use):DataW Unit:=.agg [.lit (.int .i64 u.b),.lit (.int .i64 u.s)]
def mD(l:List Use):DataW Unit:=l.foldl (fun D u=>D.put (.int .i64 u.n) (spD u)) (.map [])
theorem Qa3(l:List Use)(u:Use):mD (l++[u])=(mD l).put (.int .i64 u.n) (spD u):=by rw[mD,mD,List.foldl_append];rfl
theorem Ud:∀(l:List Use)(D:DataW Unit),IsMap D→IsMap (l.foldl (fun D u=>D.put (.int .i64 u.n) (spD u)) D)
 | [],_,h=>h
 | _::l,_,h=>Ud l _ (h.put _ _)
theorem R3(l:List Use):IsMap (mD l):=Ud l _ isMap_empty
theorem Qfd{l:List Use}{u:Use}(h:twF (l++[u])=none):twF l=none∧u.n∉l.map (·.n):=by
 cases ht:twF l with
 | some x=>rw[Wk ht]at h;cases h
 | none=>
  refine⟨rfl,fun hm=>?_⟩;rw[VY ht hm]at h;cases h
theorem Qak{a b:Nat}(h:a≠b):(Lit.int .i64 (a:Int))≠Lit.int .i64 (b:Int):=fun e=>h (by injection e with _ e2;omega)
theorem Qgb(n:Nat)(z:DataW Unit):∀(k:Nat)(l:List Use),l.length=k→twF l=none→(l.find? (fun u=>u.n==n)=none→has (mD l) (.int .i64 n)=false)∧(∀u,l.find? (fun u=>u.n==n)=some u→has (mD l) (.int .i64 n)=true∧(mD l).atKey (.int .i64 n) z=spD u):=by
 intro k
 induction k with
 | zero=>
  intro l hl _;obtain rfl:l=[]:=List.length_eq_zero_iff.1 hl;exact⟨fun _=>rfl,fun u hu=>by simp at hu⟩
 | succ k ih=>
  intro l hl ht;obtain⟨m,v,rfl⟩:∃m v,l=m++[v]:=by
   rcases List.eq_nil_or_concat l with h|⟨m,v,h⟩
   ·rw[h]at hl;cases hl
   ·exact⟨m,v,by simpa using h⟩
  obtain⟨h1,h2⟩:=Qfd ht;obtain⟨i1,i2⟩:=ih m (by simpa using hl) h1;rw[Qa3,List.find?_append];by_cases e:v.n=n
  ·have hn:m.find? (fun u=>u.n==n)=none:=by
    rw[List.find?_eq_none];intro u hu hh;exact h2 (List.mem_map.2 ⟨u,hu,by rw[e];simpa using hh⟩)
   rw[hn];have hv:[v].find? (fun u=>u.n==n)=some v:=by simp[e]
   rw[Option.none_or,hv];refine⟨(fun h=>by cases h),fun u hu=>?_⟩;cases hu;rw[e];exact⟨has_put_same (R3 m) (by simp[WideAt.IsKeyLit]) _,atKey_put_same (R3 m) (by simp[WideAt.IsKeyLit]) _ _⟩
  ·have hv:[v].find? (fun u=>u.n==n)=none:=by simp[e]
   rw[hv,Option.or_none,has_put_other (Qak (fun e2=>e e2.symm)),atKey_put_other (Qak (fun e2=>e e2.symm))];exact⟨i1,i2⟩
def N5(bs:List Ql)(b1:Nat)(s1:Int)(b2:Nat)(s2:Int):Bool:=if b1=b2 then decide (s1<s2) else X6 (suF bs) bs.length b1 b2
theorem Qdm(bs:List Ql)(B b1 b2:Nat)(s1 s2:Int)(v va vu:Value)(w:World)(hv:∃p n c,v=.slice p n c)(ha:∃p n c,va=.slice p n c)(hu:Jd B w vu bs.length (JX bs))(h1:b1<bs.length)(h2:b2<bs.length)(hn:bs.length≤1000):
  Calls Tryz.prog 100 #[.agg #[v,va,vu],.agg #[.int .i64 b1,.int .i64 s1],.agg #[.int .i64 b2,.int .i64 s2]] w fun x w'=>x=.returned (.bool (N5 bs b1 s1 b2 s2))∧Below w.heap.size w w':=by
 have HV:=Qc (And.intro hv ha);obtain⟨pv,nv,cv,rfl⟩:=hv;obtain⟨pa,na,ca,rfl⟩:=ha;obtain⟨pu,cu,rfl⟩:=hu.slice;have HU:=Qc hu;clear hu;go_enter Tryz.func100,Tryz.ntmps100;by_cases he:b1=b2
 ·have HM:Hid (N5 bs b1 s1 b2 s2=decide (s1<s2)):=by show _=_;rw[N5,if_pos he]
  have hd:((b1:Int)==(b2:Int))=true:=by simp;omega
  clear he;go_wp2_with fail;go_ret;exact⟨by rw[HM.o];rfl,(((Below.refl _ _).alloc (Nat.le_refl _) _).alloc (by simp) _).alloc (by simp;omega) _⟩
 ·have HM:Hid (N5 bs b1 s1 b2 s2=X6 (suF bs) bs.length b1 b2):=by show _=_;rw[N5,if_neg he]
  have hd:((b1:Int)==(b2:Int))=false:=by simp;omega
  clear he;go_wp2_with fail;obtain⟨W,hW⟩:∃W,W=((w.alloc (.cells #[.slice pv nv cv,.slice pa na ca,.slice pu bs.length cu] 85)).alloc (.cells #[.int .i64 b1,.int .i64 s1] 201)).alloc (.cells #[.int .i64 b2,.int .i64 s2] 201):=⟨_,rfl⟩;rw[←hW];obtain⟨_,_,_,hz,f3⟩:=Wm w (.cells #[.slice pv nv cv,.slice pa na ca,.slice pu bs.length cu] 85) (.cells #[.int .i64 b1,.int .i64 s1] 201) (.cells #[.int .i64 b2,.int .i64 s2] 201);rw[←hW]at hz f3;refine(QiS bs B b1 b2 _ _ _ W HV.o.1 HV.o.2 (HU.o.keeps f3) h1 h2 hn).mono ?_;rintro e w5 ⟨rfl,f5⟩;have F5:=Qc (f3.trans (f5.mono (by omega)));clear hW f3 f5;go_wp2_with fail;go_ret;exact⟨by rw[HM.o];rfl,F5.o⟩
end Go.Proofs.YtgfhfkgdmidhpaaGreatDoor
