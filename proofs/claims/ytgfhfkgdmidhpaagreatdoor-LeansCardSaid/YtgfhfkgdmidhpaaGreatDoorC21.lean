import Derived.Test.YtgfhfkgdmidhpaaGreatDoorC20
import Derived.Deep.LoopGhost
namespace Go.Proofs.YtgfhfkgdmidhpaaGreatDoor
open Go.RowKit
set_option maxRecDepth 100000
set_option maxHeartbeats 8000000
def chR(bs:List Ql)(c:QH):List Use:=(c.gs.zip c.rs).map fun p=>⟨p.2.1,p.2.2,p.1.1,(bkF bs p.1.1).sts.length⟩
def stR(b:Ql)(i j:Nat):List Use:=match b.sts[j]? with|some t=>(rdsF t).map (fun r=>⟨r.1,r.2,i,j⟩)|none=>[]
def enR(b:Ql)(i:Nat):List Use:=(QZ b.e).map fun r=>⟨r.1,r.2,i,b.sts.length⟩
def QfH(bs:List Ql)(b:Ql)(i:Nat):List Use:=b.chs.flatMap (chR bs)++((List.range b.sts.length).flatMap (stR b i)++enR b i)
def WE(bs:List Ql)(m:Nat):List Use:=(List.range m).flatMap fun i=>QfH bs (bkF bs i) i
def rdU(bs:List Ql):List Use:=WE bs bs.length
def X4(bs:List Ql)(u:Use):Bool:=!KH bs u.n u.b u.s
def amF(bs:List Ql):Option Use:=(rdU bs).find? (X4 bs)
theorem YK{α:Type}{f:Nat→List α}{P:α→Bool}{m:Nat}(h:((List.range m).flatMap f).find? P=none)(hn:(f m).find? P=none):((List.range (m+1)).flatMap f).find? P=none:=by
 rw[List.range_succ,List.flatMap_append,List.find?_append,h];simpa using hn
theorem Yq{α:Type}{f:Nat→List α}{P:α→Bool}{m n:Nat}{u:α}(hm:m<n)(h:((List.range m).flatMap f).find? P=none)(hn:(f m).find? P=some u):((List.range n).flatMap f).find? P=some u:=by
 have e:List.range n=List.range m++(m::(List.range (n-m-1)).map (fun y=>m+(1+y))):=by
  have:=List.range_add (n:=m) (m:=n-m);rw[show m+(n-m)=n from by omega]at this;rw[this,show n-m=1+(n-m-1) from by omega,List.range_add];simp
 rw[e,List.flatMap_append,List.find?_append,h,List.flatMap_cons,List.find?_append,hn];rfl
theorem QeK{bs:List Ql}{c:QH}(hr:c.rs.length=c.gs.length){t:Nat}(ht:t<c.rs.length):∃h:t<(chR bs c).length,(chR bs c)[t]=⟨c.rs[t].1,c.rs[t].2,(c.gs[t]'(by omega)).1,(bkF bs (c.gs[t]'(by omega)).1).sts.length⟩:=by
 have hz:t<(chR bs c).length:=by rw[chR,List.length_map,List.length_zip];omega
 exact⟨hz,by simp[chR]⟩
theorem Qix(bs:List Ql)(base B gp:Nat)(vL:Value)(w:World)(h:GrI bs base B gp vL w)(hf:Hid (∀b∈bs,ZG 1000000 b))(hg2:Hid (∀b∈bs,∀c∈b.chs,c.gs.length≤1000))(hcg:Hid (∀b∈bs,∀c∈b.chs,∀p∈c.gs,p.1<bs.length))(hl:(gvU bs).length≤100000000000)(hn:bs.length≤1000):
  Calls Tryz.prog 27 #[.pointer (some ⟨gp,0,none⟩)] w fun x w'=>x=.returned (.int .i64 (atO (amF bs)))∧Below w.heap.size w w':=by
 obtain⟨pv,cv,rfl⟩:∃p c,vL=.slice p bs.length c:=by obtain⟨_,_,_,_,b,_⟩:=h;exact b.slice
 have HG:=Qc h;have hgw:gp<w.heap.size:=by obtain⟨_,_,_,a,_⟩:=h;exact lt_of_block a
 have hk0:w.cell? ⟨gp,0,none⟩=some (.slice pv bs.length cv):=by
  obtain⟨_,_,_,a,_⟩:=h;have:=Qa a 0;simpa using this
 have HK0:=Qc hk0;have HBL:Hid (QK w base bs (.slice pv bs.length cv)):=by obtain⟨_,_,_,_,b,_⟩:=h;exact b
 clear h hk0;go_enter Tryz.func27,Tryz.ntmps27;go_wp2_with fail
 go_loopw [3] (fun i wr=>∃m:Nat,m≤bs.length∧i=.int .i64 m∧Hid ((WE bs m).find? (X4 bs)=none)∧Hid (Below w.heap.size w wr)) (fun i _=>bs.length-(intOf i).toNat)
 case atStart=>exact⟨0,by omega,rfl,by simp[Hid,WE],Below.refl _ _⟩
 case round=>
  obtain⟨m,hm,rfl,HN1,F⟩:=hrel;rename World=>wA;have hz:=F.o.size;have kg:=(F.o.cell (p:=⟨gp,0,none⟩) hgw).trans HK0.o;by_cases hlt:m<bs.length
  ·obtain⟨gv,qc,cc,ps,cs,rfl,_,hgv,OC,OS0,hc⟩:=(HBL.o.keeps3 (Qs.below F.o)).at hlt;have d0:wA.cell? ⟨gv,m*10,none⟩=_:=hc 0 _ rfl;have d1:=hc 1 _ rfl;have d2:=hc 2 _ rfl;have d3:=hc 3 _ rfl;have d4:=hc 4 _ rfl;have d5:=hc 5 _ rfl;have d6:=hc 6 _ rfl;have d7:=hc 7 _ rfl;have d8:=hc 8 _ rfl;have d9:=hc 9 _ rfl;have HFM:=Qc (hf.out _ (List.getElem_mem hlt));have hcl:=HFM.o.cl;have hsl:=HFM.o.sl;have HBK:=Qc (Zt hlt);have HG2:=Qc (hg2.out _ (List.getElem_mem hlt));have HCG:=Qc (hcg.out _ (List.getElem_mem hlt));have gW:=heap_alloc_last wA (.cells #[.slice qc bs[m].chs.length cc,.slice ps bs[m].sts.length cs,.int .u8 bs[m].e.op,.int .i64 bs[m].e.a.1,.int .i64 bs[m].e.a.2,.int .i64 bs[m].e.one.1,.int .i64 bs[m].e.one.2,.int .i64 bs[m].e.two.1,.int .i64 bs[m].e.two.2,.int .i64 bs[m].at_] 53);have fW:=(Below.refl wA.heap.size wA).alloc (Nat.le_refl _) (.cells #[.slice qc bs[m].chs.length cc,.slice ps bs[m].sts.length cs,.int .u8 bs[m].e.op,.int .i64 bs[m].e.a.1,.int .i64 bs[m].e.a.2,.int .i64 bs[m].e.one.1,.int .i64 bs[m].e.one.2,.int .i64 bs[m].e.two.1,.int .i64 bs[m].e.two.2,.int .i64 bs[m].at_] 53);have sW:wA.heap.size<(wA.alloc (.cells #[.slice qc bs[m].chs.length cc,.slice ps bs[m].sts.length cs,.int .u8 bs[m].e.op,.int .i64 bs[m].e.a.1,.int .i64 bs[m].e.a.2,.int .i64 bs[m].e.one.1,.int .i64 bs[m].e.one.2,.int .i64 bs[m].e.two.1,.int .i64 bs[m].e.two.2,.int .i64 bs[m].at_] 53)).heap.size:=by rw[World.size_alloc];omega
   have HW:=Qc (And.intro gW (And.intro (F.o.trans (fW.mono hz)) (And.intro (OC.keeps (Qi fW) trivial trivial trivial) (Qd OS0 (Qi fW) trivial))));clear hc OC OS0 gW fW;go_wp2_with fail;clear d0 d1 d2 d3 d4 d5 d6 d7 d8 d9 kg;generalize wA.alloc (.cells #[.slice qc bs[m].chs.length cc,.slice ps bs[m].sts.length cs,.int .u8 bs[m].e.op,.int .i64 bs[m].e.a.1,.int .i64 bs[m].e.a.2,.int .i64 bs[m].e.one.1,.int .i64 bs[m].e.one.2,.int .i64 bs[m].e.two.1,.int .i64 bs[m].e.two.2,.int .i64 bs[m].at_] 53)=W at *;have zW:=HW.o.2.1.size
   go_loopw [5] (fun i wr=>∃q:Nat,q≤bs[m].chs.length∧i=.int .i64 q∧Hid (((bs[m].chs.take q).flatMap (chR bs)).find? (X4 bs)=none)∧Hid (Below W.heap.size W wr)) (fun i _=>bs[m].chs.length-(intOf i).toNat)
   case atStart=>exact⟨0,by omega,rfl,by simp[Hid],Below.refl _ _⟩
   case round=>
    obtain⟨q,hq,rfl,HN2,F2⟩:=hrel;rename World=>wB;have hz2:=F2.o.size;have gB:wB.heap[wA.heap.size]?=some (.cells #[.slice qc bs[m].chs.length cc,.slice ps bs[m].sts.length cs,.int .u8 bs[m].e.op,.int .i64 bs[m].e.a.1,.int .i64 bs[m].e.a.2,.int .i64 bs[m].e.one.1,.int .i64 bs[m].e.one.2,.int .i64 bs[m].e.two.1,.int .i64 bs[m].e.two.2,.int .i64 bs[m].at_] 53 (0,0)):=by rw[F2.o.block _ (by omega)];exact HW.o.1
    have b0:=Qa gB 0;have b1:=Qa gB 1;have b2:=Qa gB 2;have b3:=Qa gB 3;have b4:=Qa gB 4;simp at b0 b1 b2 b3 b4;clear gB;by_cases hql:q<bs[m].chs.length
    ·have OCB:=HW.o.2.2.1.keeps (Qi F2.o) trivial trivial trivial;obtain⟨gc,pf,cf,pr,cr,rfl,_,_,OF,OR,e0,e1,e2,e3⟩:=OCB.at hql;have HCF:=HFM.o.ch _ (List.getElem_mem hql);have hrl:=HCF.2.1;have HRL:=Qc hrl;have hgl:=HG2.o _ (List.getElem_mem hql);have hrl2:bs[m].chs[q].rs.length≤1000:=by omega
     have HCQ:=Qc (HCG.o _ (List.getElem_mem hql));have g3:=heap_alloc_last wB (.cells #[.int .i64 bs[m].chs[q].to.1,.int .i64 bs[m].chs[q].to.2,.slice pf bs[m].chs[q].gs.length cf,.slice pr bs[m].chs[q].rs.length cr] 64);have f3:=(Below.refl wB.heap.size wB).alloc (Nat.le_refl _) (.cells #[.int .i64 bs[m].chs[q].to.1,.int .i64 bs[m].chs[q].to.2,.slice pf bs[m].chs[q].gs.length cf,.slice pr bs[m].chs[q].rs.length cr] 64);have s3:wB.heap.size<(wB.alloc (.cells #[.int .i64 bs[m].chs[q].to.1,.int .i64 bs[m].chs[q].to.2,.slice pf bs[m].chs[q].gs.length cf,.slice pr bs[m].chs[q].rs.length cr] 64)).heap.size:=by rw[World.size_alloc];omega
     have H3:=Qc (And.intro g3 (And.intro (F2.o.trans (f3.mono hz2)) (And.intro (Qd OF (Qi f3) trivial) (Qd OR (Qi f3) trivial))));clear OCB OF OR g3 f3 HCF hrl b1 b2 b3 b4;go_wp2_with fail;clear e0 e1 e2 e3 b0;generalize wB.alloc (.cells #[.int .i64 bs[m].chs[q].to.1,.int .i64 bs[m].chs[q].to.2,.slice pf bs[m].chs[q].gs.length cf,.slice pr bs[m].chs[q].rs.length cr] 64)=W3 at *
     go_loopw [7] (fun i wr=>∃t:Nat,t≤bs[m].chs[q].rs.length∧i=.int .i64 t∧Hid (((chR bs bs[m].chs[q]).take t).find? (X4 bs)=none)∧Hid (Below W3.heap.size W3 wr)) (fun i _=>bs[m].chs[q].rs.length-(intOf i).toNat)
     case atStart=>exact⟨0,by omega,rfl,by simp[Hid],Below.refl _ _⟩
     case round=>
      obtain⟨t,ht,rfl,HN3,F3⟩:=hrel;rename World=>wC;have hz3:=F3.o.size;have gC:wC.heap[wB.heap.size]?=some (.cells #[.int .i64 bs[m].chs[q].to.1,.int .i64 bs[m].chs[q].to.2,.slice pf bs[m].chs[q].gs.length cf,.slice pr bs[m].chs[q].rs.length cr] 64 (0,0)):=by rw[F3.o.block _ (by omega)];exact H3.o.1
      have c2:=Qa gC 2;have c3:=Qa gC 3;simp at c2 c3;clear gC;by_cases htl:t<bs[m].chs[q].rs.length
      ·have htg:t<bs[m].chs[q].gs.length:=by have:=HRL.o;omega
       have OFC:=Qd H3.o.2.2.1 (Qi F3.o) trivial;have ORC:=Qd H3.o.2.2.2 (Qi F3.o) trivial;obtain⟨gf,rfl,_,_⟩:=Qh OFC (by omega);obtain⟨gr,rfl,_,_⟩:=Qh ORC (by omega);have f0:=Qe OFC (QX htg).1;have r0:=Qe ORC (QX htl).1;have r1:=Qe ORC (QX htl).2;have hfr:=HCQ.o _ (List.getElem_mem htg);have FC:=H3.o.2.1.trans (F3.o.mono (show W.heap.size≤W3.heap.size by have:=H3.o.2.1.size;omega));have FCw:=HW.o.2.1.trans (FC.mono zW);have kg:=(FCw.cell (p:=⟨gp,0,none⟩) hgw).trans HK0.o;obtain⟨gv',qf,ccf,psf,csf,hgv',_,_,_,_,hcf⟩:=(HBL.o.keeps3 (Qs.below FCw)).at hfr;cases hgv';have df:=hcf 1 _ rfl;obtain⟨hct,hce⟩:=QeK (bs:=bs) HRL.o htl;have HCE:=Qc hce;have HBF:=Qc (Zt hfr);have HGC:=Qc (HG.o.keeps (w':=wC.drew) ⟨FCw.os,FCw.tape,FCw.output,FCw.size,FCw.block⟩);have FCH:=Qc FCw;have h3s:=H3.o.2.1.size;clear OFC ORC hcf hce FC FCw;go_wp2_with fail
       go_region_law (first | (refine ZN rfl 54 #[.pointer (some ⟨gp,0,none⟩),.int .i64 bs[m].chs[q].rs[t].1,.int .i64 bs[m].chs[q].gs[t].1,.int .i64 bs[bs[m].chs[q].gs[t].1].sts.length] (by go_simp) (Qh7 bs base B gp _ bs[m].chs[q].rs[t].1 bs[m].chs[q].gs[t].1 bs[bs[m].chs[q].gs[t].1].sts.length wC.drew HGC.o hfr hl) ?_;rintro e wD ⟨rfl,fD⟩;have fD':Below wC.heap.size wC wD:=⟨fD.os,fD.tape,fD.output,fD.size,fD.block⟩;have sD:=fD'.size;have y3:=fD'.cell (p:=⟨wB.heap.size,3,none⟩) (show wB.heap.size<wC.heap.size by omega);have y5:=(fD'.cell (p:=⟨gr,t*2+1,none⟩) (World.block_lt_of_cell? _ _ r1)).trans r1;have FD:=Qc fD';clear fD fD') | fail)
       all_goals
        cases hmy:KH bs bs[m].chs[q].rs[t].1 bs[m].chs[q].gs[t].1 bs[bs[m].chs[q].gs[t].1].sts.length with
        | true=>
         have HN5:=Qc (Xk hct HN3.o (by rw[HCE.o,X4,HBF.o,hmy];rfl));have FF:=Qc (F3.o.trans (FD.o.mono hz3));clear hmy;go_wp2_with fail;go_roundw
         case rel=>exact⟨t+1,by omega,by go_num,HN5,FF⟩
         case measure=>simp[intOf];omega
        | false=>
         have HAM:Hid (amF bs=some (chR bs bs[m].chs[q])[t]):=Yq hlt HN1.o (by rw[HBK.o];exact Uo (XA hql HN2.o (XB hct HN3.o (by rw[HCE.o,X4,HBF.o,hmy];rfl))));have FF:=Qc (FCH.o.trans (FD.o.mono (show w.heap.size≤wC.heap.size by omega)));clear hmy;go_wp2_with fail;go_ret;exact⟨by rw[HAM.o,HCE.o];rfl,FF.o⟩
      ·have hte:t=bs[m].chs[q].rs.length:=by omega
       have HN4:Hid (((bs[m].chs.take (q+1)).flatMap (chR bs)).find? (X4 bs)=none):=XZ hql HN2.o (by have:=HN3.o;rwa [List.take_of_length_le (by rw[chR,List.length_map,List.length_zip];omega)]at this);have FF:=Qc (H3.o.2.1.trans (F3.o.mono (show W.heap.size≤W3.heap.size by have:=H3.o.2.1.size;omega)));clear hte HN3 c2;go_wp2_with fail;go_roundw
       case rel=>exact⟨q+1,by omega,by go_num,HN4,FF⟩
       case measure=>simp[intOf];omega
    ·have hqe:q=bs[m].chs.length:=by omega
     have HNC:Hid ((bs[m].chs.flatMap (chR bs)).find? (X4 bs)=none):=by have:=HN2.o;rwa [hqe,List.take_length]at this
     clear hqe HN2 b2 b3 b4;go_wp2_with fail;clear b0 b1
     go_loopw [10] (fun i wr=>∃k:Nat,k≤bs[m].sts.length∧i=.int .i64 k∧Hid (((List.range k).flatMap (stR bs[m] m)).find? (X4 bs)=none)∧Hid (Below W.heap.size W wr)) (fun i _=>bs[m].sts.length-(intOf i).toNat)
     case atStart=>exact⟨0,by omega,rfl,by simp[Hid],F2⟩
     case round=>
      obtain⟨k,hk,rfl,HN4,F4⟩:=hrel;rename World=>wE;have hz4:=F4.o.size;have gE:wE.heap[wA.heap.size]?=some (.cells #[.slice qc bs[m].chs.length cc,.slice ps bs[m].sts.length cs,.int .u8 bs[m].e.op,.int .i64 bs[m].e.a.1,.int .i64 bs[m].e.a.2,.int .i64 bs[m].e.one.1,.int .i64 bs[m].e.one.2,.int .i64 bs[m].e.two.1,.int .i64 bs[m].e.two.2,.int .i64 bs[m].at_] 53 (0,0)):=by rw[F4.o.block _ (by omega)];exact HW.o.1
      have b1:=Qa gE 1;have b2:=Qa gE 2;have b3:=Qa gE 3;have b4:=Qa gE 4;simp at b1 b2 b3 b4;have FEw:=HW.o.2.1.trans (F4.o.mono zW);have FEH:=Qc FEw;have hzE:=FEw.size;clear FEw;by_cases hkl:k<bs[m].sts.length
      ·have OS:=Qd HW.o.2.2.2 (Qi F4.o) trivial;obtain⟨gs,rfl,_,_⟩:=Qh OS (by omega);have t0:wE.cell? ⟨gs,k*8,none⟩=some (.int .u8 bs[m].sts[k].op):=Qe OS (Qn hkl (k:=0) (by omega));have t1:wE.cell? ⟨gs,k*8+1,none⟩=some (.int .i64 bs[m].sts[k].to.1):=Qe OS (Qn hkl (k:=1) (by omega));have t2:wE.cell? ⟨gs,k*8+2,none⟩=some (.int .i64 bs[m].sts[k].to.2):=Qe OS (Qn hkl (k:=2) (by omega));have t3:wE.cell? ⟨gs,k*8+3,none⟩=some (.int .i64 bs[m].sts[k].a.1):=Qe OS (Qn hkl (k:=3) (by omega));have t4:wE.cell? ⟨gs,k*8+4,none⟩=some (.int .i64 bs[m].sts[k].a.2):=Qe OS (Qn hkl (k:=4) (by omega));have t5:wE.cell? ⟨gs,k*8+5,none⟩=some (.int .i64 bs[m].sts[k].b.1):=Qe OS (Qn hkl (k:=5) (by omega));have t6:wE.cell? ⟨gs,k*8+6,none⟩=some (.int .i64 bs[m].sts[k].b.2):=Qe OS (Qn hkl (k:=6) (by omega));have t7:wE.cell? ⟨gs,k*8+7,none⟩=some (.int .i64 bs[m].sts[k].n):=Qe OS (Qn hkl (k:=7) (by omega));have hrl:=Qdg bs[m].sts[k];have HST:Hid (stR bs[m] m k=(rdsF bs[m].sts[k]).map (fun r=>(⟨r.1,r.2,m,k⟩:Use))):=by show _=_;rw[stR,List.getElem?_eq_getElem hkl]
       clear OS gE b2 b3 b4;go_wp2_with fail;refine(Qdd bs[m].sts[k] wE).mono ?_;rintro r wF ⟨vr,rfl,oF,fF⟩;obtain⟨pF,cF,rfl⟩:=Qb oF;have sF:=fF.size;have HF:=Qc (And.intro oF fF);clear oF fF t0 t1 t2 t3 t4 t5 t6 t7 b1;generalize rdsF bs[m].sts[k]=rq at *;go_wp2_with fail
       go_loopw [12] (fun i wr=>∃t:Nat,t≤rq.length∧i=.int .i64 t∧Hid (((rq.map (fun r=>(⟨r.1,r.2,m,k⟩:Use))).take t).find? (X4 bs)=none)∧Hid (Below wF.heap.size wF wr)) (fun i _=>rq.length-(intOf i).toNat)
       case atStart=>exact⟨0,by omega,rfl,by simp[Hid],Below.refl _ _⟩
       case round=>
        obtain⟨t,ht,rfl,HN5,F5⟩:=hrel;rename World=>wG;have hz5:=F5.o.size;by_cases htl:t<rq.length
        ·have OX:=Qd HF.o.1 (Qi F5.o) trivial;obtain⟨gr,rfl,_,_⟩:=Qh OX (by omega);have r0:=Qe OX (QX htl).1;have r1:=Qe OX (QX htl).2;have FGw:=FEH.o.trans ((HF.o.2.trans (F5.o.mono sF)).mono hzE);have htm:t<(rq.map (fun r=>(⟨r.1,r.2,m,k⟩:Use))).length:=by rw[List.length_map];exact htl
         have HCE:Hid ((rq.map (fun r=>(⟨r.1,r.2,m,k⟩:Use)))[t]=⟨rq[t].1,rq[t].2,m,k⟩):=by show _=_;rw[List.getElem_map]
         have HGC:=Qc (And.intro (HG.o.keeps FGw) FGw);have hzG:=FGw.size;clear OX FGw;go_wp2_with fail;refine(Qh7 bs base B gp _ rq[t].1 m k wG HGC.o.1 hlt hl).mono ?_;rintro e wH ⟨rfl,fH⟩;have y5:=(fH.cell (p:=⟨gr,t*2+1,none⟩) (World.block_lt_of_cell? _ _ r1)).trans r1;have FH:=Qc fH;clear fH r0
         cases hmy:KH bs rq[t].1 m k with
         | true=>
          have HN6:=Qc (Xk htm HN5.o (by rw[HCE.o,X4,hmy];rfl));have FF:=Qc (F5.o.trans (FH.o.mono hz5));clear hmy r1;go_wp2_with fail;go_roundw
          case rel=>exact⟨t+1,by omega,by go_num,HN6,FF⟩
          case measure=>simp[intOf];omega
         | false=>
          have HAM:Hid (amF bs=some ⟨rq[t].1,rq[t].2,m,k⟩):=Yq hlt HN1.o (by rw[HBK.o];exact Wb HNC.o (Uo (Yq hkl HN4.o (by rw[HST.o,←HCE.o];exact XB htm HN5.o (by rw[HCE.o,X4,hmy];rfl)))));have FF:=Qc (HGC.o.2.trans (FH.o.mono hzG));clear hmy r1;go_wp2_with fail;go_ret;exact⟨by rw[HAM.o];rfl,FF.o⟩
        ·have hte:t=rq.length:=by omega
         have HN6:Hid (((List.range (k+1)).flatMap (stR bs[m] m)).find? (X4 bs)=none):=YK HN4.o (by rw[HST.o];have:=HN5.o;rwa [List.take_of_length_le (by rw[List.length_map];omega)]at this);have FF:=Qc (F4.o.trans ((HF.o.2.trans (F5.o.mono sF)).mono hz4));clear hte HN5;go_wp2_with fail;go_roundw
         case rel=>exact⟨k+1,by omega,by go_num,HN6,FF⟩
         case measure=>simp[intOf];omega
      ·have hke:k=bs[m].sts.length:=by omega
       have HNS:Hid (((List.range bs[m].sts.length).flatMap (stR bs[m] m)).find? (X4 bs)=none):=by have:=HN4.o;rwa [hke]at this
       clear hke HN4 gE;by_cases h63:bs[m].e.op=63
       ·have hd:((bs[m].e.op:Int)==63)=true:=by simp;omega
        have HEN:Hid (enR bs[m] m=[⟨bs[m].e.a.1,bs[m].e.a.2,m,bs[m].sts.length⟩]):=by show _=_;rw[enR,QZ,if_pos h63];rfl
        have HGC:=Qc (HG.o.keeps FEH.o);clear h63;go_wp2_with fail;refine(Qh7 bs base B gp _ bs[m].e.a.1 m bs[m].sts.length wE HGC.o hlt hl).mono ?_;rintro e wH ⟨rfl,fH⟩;have y4:=(fH.cell (p:=⟨wA.heap.size,4,none⟩) (show wA.heap.size<wE.heap.size by omega)).trans b4;have FH:=Qc (FEH.o.trans (fH.mono hzE));clear fH b1 b2 b3 b4
        cases hmy:KH bs bs[m].e.a.1 m bs[m].sts.length with
        | true=>
         have HN6:Hid ((WE bs (m+1)).find? (X4 bs)=none):=YK HN1.o (by rw[HBK.o];exact Yl HNC.o (Yl HNS.o (by rw[HEN.o];simp[X4,hmy])));clear hmy;go_wp2_with fail;go_roundw
         case rel=>exact⟨m+1,by omega,by go_num,HN6,FH⟩
         case measure=>simp[intOf];omega
        | false=>
         have HAM:Hid (amF bs=some ⟨bs[m].e.a.1,bs[m].e.a.2,m,bs[m].sts.length⟩):=Yq hlt HN1.o (by rw[HBK.o];exact Wb HNC.o (Wb HNS.o (by rw[HEN.o];simp[X4,hmy])));clear hmy;go_wp2_with fail;go_ret;exact⟨by rw[HAM.o];rfl,FH.o⟩
       ·have hd:((bs[m].e.op:Int)==63)=false:=by simp;omega
        have HN6:Hid ((WE bs (m+1)).find? (X4 bs)=none):=YK HN1.o (by rw[HBK.o];exact Yl HNC.o (Yl HNS.o (by rw[enR,QZ,if_neg h63];rfl)));clear h63;go_wp2_with fail;go_roundw
        case rel=>exact⟨m+1,by omega,by go_num,HN6,FEH⟩
        case measure=>simp[intOf];omega
  ·have hme:m=bs.length:=by omega
   have HAM:Hid (amF bs=none):=by have:=HN1.o;rw[hme]at this;exact this
   clear hme HN1;go_wp2_with fail;go_ret;exact⟨by rw[HAM.o];rfl,F.o⟩
def sgE(bs:List Ql):Nat×Int:=match twF (gvU bs) with|some u=>(8,u.p)|none=>match amF bs with|some u=>(9,u.p)|none=>(0,0)
theorem Vy(bs:List Ql)(base:Nat)(v:Value)(w:World)(h:QK w base bs v)(hgl:Hid (∀b∈bs,∀p∈goalsF b.e,p.1<bs.length))(hf:Hid (∀b∈bs,ZG 1000000 b))(hg2:Hid (∀b∈bs,∀c∈b.chs,c.gs.length≤1000))(hcg:Hid (∀b∈bs,∀c∈b.chs,∀p∈c.gs,p.1<bs.length))(hn0:0<bs.length)(hn:bs.length≤1000):
  Calls Tryz.prog 9 #[v] w fun x w'=>x=.returned (.tuple #[.int .i64 (sgE bs).1,.int .i64 (sgE bs).2])∧Below w.heap.size w w':=by
 obtain⟨pv,cv,rfl⟩:=h.slice;have HB:=Qc h;clear h;go_enter Tryz.func9,Tryz.ntmps9;go_wp2_with fail;refine(QcV bs base _ w HB.o hf hn).mono ?_;rintro x w1 ⟨v1,rfl,H1⟩;have hl:=H1.o.2.1;have F1:=Qc H1.o.2.2;have s1:=F1.o.size
 cases ht:twF (gvU bs) with
 | some u=>
  have HE:Hid (sgE bs=(8,(u.p:Int))):=by show _=_;rw[sgE,ht]
  clear ht H1;simp only[atO];go_wp2_with fail
  go_ret2
  exact⟨by rw[HE.o];rfl,F1.o⟩
 | none=>
  have HT:=Qc ht;clear ht H1;simp only[atO];go_wp2_with fail;refine(Qif bs base _ w1 (HB.o.keeps3 (Qs.below F1.o)) hgl hf hn0 hn).mono ?_;rintro x w2 ⟨gp,rfl,H2⟩;have s2:=H2.o.2.size;go_wp2_with fail;refine(Qix bs base w1.heap.size gp _ w2 H2.o.1 hf hg2 hcg hl hn).mono ?_;rintro x w3 ⟨rfl,f3⟩;have F3:=Qc (F1.o.trans ((H2.o.2.trans (f3.mono s2)).mono s1));clear f3 H2
  cases ha:amF bs with
  | some u=>
   have HE:Hid (sgE bs=(9,(u.p:Int))):=by show _=_;rw[sgE,HT.o];simp only;rw[ha]
   clear ha;simp only[atO];go_wp2_with fail
   go_ret2
   exact⟨by rw[HE.o];rfl,F3.o⟩
  | none=>
   have HE:Hid (sgE bs=(0,0)):=by show _=_;rw[sgE,HT.o];simp only;rw[ha]
   clear ha;simp only[atO];go_wp2_with fail
   go_ret2
   exact⟨by rw[HE.o];rfl,F3.o⟩
theorem QO(bs:List Ql)(i:Nat):bkA (absP bs) i=Zy (bkF bs i):=by
 rcases Nat.lt_or_ge i bs.length with h|h
 ·rw[Um (by simpa[absP] using h),Zt h];simp[absP]
 ·rw[bkA,List.getElem?_eq_none (by simpa[absP] using h),bkF,List.getElem?_eq_none h];rfl
theorem Jz{bs:List Ql}{i:Nat}(h:i<bs.length):bkF bs i∈bs:=by rw[Zt h];exact List.getElem_mem h
theorem Qbb(e:Z3):gsA (Zc e)=(goalsF e).map (·.1):=by
 unfold gsA goalsF;show (if e.op=62 then [e.one.1] else if e.op=63 then [e.one.1,e.two.1] else [])=_;split
 ·rfl
 ·split<;>rfl
theorem QgI{l:List (Nat×Nat)}(h:l.length≤2){x:Nat}:x∈Xl l↔x∈l.map (·.1):=by
 match l,h with
 | [],_=>simp[Xl]
 | [p],_=>simp[Xl]
 | [p,q],_=>
  simp only[Xl];split
  ·rename_i e;simp[e]
  ·simp
theorem Gf(bs:List Ql)(i x:Nat):x∈suA (absP bs) i↔x∈suF bs i:=by
 rw[suA,QO];show x∈gsA (Zc (bkF bs i).e)↔_;rw[Qbb];rcases Nat.lt_or_ge i bs.length with h|h
 ·rw[Wo h,Zt h,←VZ,toR,QgI (Zx _)]
 ·rw[suF,bkF,List.getElem?_eq_none h];simp[goalsF,RT]
theorem UJ{su su':Nat→List Nat}(h:∀i x,x∈su i↔x∈su' i){bar:Nat→Bool}{k:Nat}(hr:Rch su bar k):Rch su' bar k:=by
 induction hr with
 | zero hb=>exact .zero hb
 | step _ hk hb ih=>exact .step ih ((h _ _).1 hk) hb
theorem V2(bs:List Ql)(bar:Nat→Bool)(k:Nat):Rch (suA (absP bs)) bar k↔Rch (suF bs) bar k:=
 ⟨UJ (Gf bs),UJ fun i x=>(Gf bs i x).symm⟩
def coF(bs:List Ql)(b:Nat):Bool:=rchF (suF bs) bs.length noB b
theorem QW{bs:List Ql}(hr:Kr bs)(b:Nat):coF bs b=true↔Cm (absP bs) b:=by
 rw[coF,Y6 hr.pos (Kw hr.goals),Cm,V2]
theorem RP{bs:List Ql}(hr:Kr bs){a b:Nat}:X6 (suF bs) bs.length a b=true↔Ovr (suA (absP bs)) a b:=by
 rw[Qb7 hr.pos (Kw hr.goals),Ovr,Ovr,V2,V2]
theorem QbH(bs:List Ql)(b:Nat):aheF bs b=NO (absP bs) b:=by
 unfold aheF ZP NO;rw[show (absP bs).length=bs.length by simp[absP]];refine List.filter_congr fun i hi=>?_;have hi:=List.mem_range.1 hi;have:VP bs b i=true↔(suA (absP bs) i).contains b=true:=by
  rw[List.contains_iff_mem,Gf,Wo hi,←VZ,VP,List.getElem?_eq_getElem hi];show Qt (Xl (goalsF bs[i].e)) b=true↔_;rw[Qt,List.contains_iff_mem];rfl
 cases h1:VP bs b i<;>cases h2:(suA (absP bs) i).contains b<;>simp_all
theorem G3{bs:List Ql}{b:Nat}{c:ACh}(h:c∈(bkA (absP bs) b).chs):∃d∈(bkF bs b).chs,c=QL d∧b<bs.length:=by
 rw[QO]at h;obtain⟨d,hd,rfl⟩:=List.mem_map.1 h;refine⟨d,hd,rfl,?_⟩;rcases Nat.lt_or_ge b bs.length with h|h
 ·exact h
 ·rw[bkF,List.getElem?_eq_none h]at hd;simp at hd
theorem QaE{α β:Type}:∀{l:List α}{k:List β},l.length=k.length→(l.zip k).map (·.1)=l
 | [],[],_=>rfl
 | [],_::_,h=>by simp at h
 | _::_,[],h=>by simp at h
 | a::l,b::k,h=>by rw[List.zip_cons_cons,List.map_cons,QaE (by simpa using h)]
theorem NP{c:QH}(h:c.rs.length=c.gs.length):(QL c).src.map (·.1)=Q3 c.gs:=QaE (by simp[h])
theorem Qgk{t:ASt}{x:Nat}(h:OldS t)(hg:gvS t=some x):x<5000:=by
 cases t with
 | val t n=>cases hg;exact h
 | cp t a=>cases hg;exact h.1
 | op o t a b=>cases hg;exact h.1
 | inp t=>cases hg;exact h
 | out a=>cases hg
theorem QfA{t:ASt}{x:Nat}(h:OldS t)(hx:x∈rdS t):x<5000:=by
 cases t with
 | val t n=>simp[rdS]at hx
 | cp t a=>simp[rdS]at hx;subst hx;exact h.2
 | op o t a b=>
  simp[rdS]at hx;rcases hx with rfl|rfl
  ·exact h.2.1
  ·exact h.2.2
 | inp t=>simp[rdS]at hx
 | out a=>simp[rdS]at hx;subst hx;exact h
theorem Re{bs:List ABk}(hO:∀b∈bs,OldB b)(i:Nat):OldB (bkA bs i):=by
 rcases Nat.lt_or_ge i bs.length with h|h
 ·rw[Um h];exact hO _ (List.getElem_mem h)
 ·rw[bkA,List.getElem?_eq_none h];exact⟨fun t ht=>by simp[WQ]at ht,fun t ht=>by simp[WQ]at ht,by simp[WQ]⟩
theorem QhI{bs:List Ql}(hr:Kr bs)(hO:∀b∈absP bs,OldB b)(he:∀b∈bs,OkE (Zc b.e)):POk (absP bs):=by
 have hl:(absP bs).length=bs.length:=by simp[absP]
 refine⟨by rw[hl];exact hr.pos,fun i k hk=>?_,fun i hi=>?_,fun {b c} hc=>?_,fun {r b s} g=>?_,fun {r b k} h=>?_⟩
 ·rw[hl];exact Kw hr.goals i k ((Gf bs i k).1 hk)
 ·rw[hl]at hi;rw[QO];have:=he _ (Jz hi);show (Zc (bkF bs i).e).op=46∨_;rcases this with h|h|h
  ·exact .inl h.1
  ·exact .inr (.inl h.1)
  ·exact .inr (.inr h.1)
 ·obtain⟨d,hd,rfl,hb⟩:=G3 hc;rw[NP (hr.rs _ (Jz hb) d hd),←QbH];rw[Zt hb]at hd;exact hr.ahead b hb d hd
 ·have ho:=Re hO b;rcases g with ⟨_,c,hc,rfl⟩|⟨j,_,t,ht,hg⟩
  ·exact(ho.chs c hc).1
  ·exact Qgk (ho.sts t (List.mem_of_getElem? ht)) hg
 ·have ho:=Re hO b;rcases h with ⟨t,ht,hx⟩|⟨_,h|⟨b2,c,hc,hs⟩⟩
  ·exact QfA (ho.sts t (List.mem_of_getElem? ht)) hx
  ·unfold rdE at h;split at h
   ·rw[List.mem_singleton]at h;subst h;exact ho.e
   ·simp at h
  ·exact((Re hO b2).chs c hc).2 _ hs
theorem Jv(t:Qy):gvS (QA t)=if t.op=33 then none else some t.to.1:=by
 unfold QA;by_cases h1:t.op=118
 ·rw[if_pos h1,if_neg (by omega)];rfl
 rw[if_neg h1];by_cases h2:t.op=99
 ·rw[if_pos h2,if_neg (by omega)];rfl
 rw[if_neg h2];by_cases h3:t.op=33
 ·rw[if_pos h3,if_pos h3];rfl
 rw[if_neg h3,if_neg h3];by_cases h4:t.op=63
 ·rw[if_pos h4];rfl
 rw[if_neg h4];rfl
theorem Yp(t:Qy):rdS (QA t)=(rdsF t).map (·.1):=by
 unfold QA rdsF;by_cases h1:t.op=118
 ·simp[h1,rdS]
 by_cases h2:t.op=99
 ·simp[h2,rdS]
 by_cases h3:t.op=33
 ·simp[h3,rdS]
 by_cases h4:t.op=63
 ·simp[h4,rdS]
 simp[h1,h2,h3,h4,rdS]
theorem WZ{bs:List Ql}{r b:Nat}{s:Int}:Gv (absP bs) r b s↔∃u∈gvU bs,u.n=r∧u.b=b∧u.s=s:=by
 constructor
 ·intro g;have hb:b<bs.length:=by
   rcases Nat.lt_or_ge b bs.length with h|h
   ·exact h
   ·exfalso;have e:bkA (absP bs) b=WQ:=by rw[bkA,List.getElem?_eq_none (by simpa[absP] using h)];rfl
    rcases g with ⟨_,c,hc,_⟩|⟨j,_,t,ht,_⟩
    ·rw[e]at hc;simp[WQ]at hc
    ·rw[e]at ht;simp[WQ]at ht
  rcases g with ⟨rfl,c,hc,rfl⟩|⟨j,rfl,t,ht,hg⟩
  ·obtain⟨d,hd,rfl,_⟩:=G3 hc;exact⟨chU b d,List.mem_flatMap.2 ⟨b,List.mem_range.2 hb,List.mem_append_left _ (List.mem_map.2 ⟨d,hd,rfl⟩)⟩,rfl,rfl,rfl⟩
  ·rw[QO]at ht;have ht:((bkF bs b).sts.map QA)[j]?=some t:=ht;rw[List.getElem?_map]at ht
   cases hx:(bkF bs b).sts[j]? with
   | none=>rw[hx]at ht;cases ht
   | some x=>
    rw[hx]at ht;have ht:QA x=t:=by simpa using ht
    subst ht;rw[Jv]at hg;by_cases h33:x.op=33
    ·rw[if_pos h33]at hg;cases hg
    ·rw[if_neg h33]at hg;have hg:x.to.1=r:=by simpa using hg
     have hj:j<(bkF bs b).sts.length:=by
      rcases Nat.lt_or_ge j (bkF bs b).sts.length with h|h
      ·exact h
      ·rw[List.getElem?_eq_none h]at hx;cases hx
     refine⟨⟨x.to.1,x.to.2,b,j⟩,List.mem_flatMap.2 ⟨b,List.mem_range.2 hb,List.mem_append_right _ (List.mem_flatMap.2 ⟨j,List.mem_range.2 hj,?_⟩)⟩,hg,rfl,rfl⟩;rw[stU,hx];simp[h33]
 ·rintro⟨u,hu,rfl,rfl,rfl⟩;obtain⟨i,hi,hu⟩:=List.mem_flatMap.1 hu;rcases List.mem_append.1 hu with h|h
  ·obtain⟨c,hc,rfl⟩:=List.mem_map.1 h;refine .inl ⟨rfl,QL c,?_,rfl⟩;rw[QO];exact List.mem_map.2 ⟨c,hc,rfl⟩
  ·obtain⟨j,hj,h⟩:=List.mem_flatMap.1 h;have hj:=List.mem_range.1 hj;rw[stU,List.getElem?_eq_getElem hj]at h;dsimp only at h;by_cases h33:(bkF bs i).sts[j].op=33
   ·rw[if_pos h33]at h;simp at h
   ·rw[if_neg h33,List.mem_singleton]at h;subst h;refine .inr ⟨j,rfl,QA (bkF bs i).sts[j],?_,by rw[Jv,if_neg h33]⟩;rw[QO];show ((bkF bs i).sts.map QA)[j]?=_;rw[List.getElem?_map,List.getElem?_eq_getElem hj];rfl
theorem QaL{bs:List Ql}(_hrs:∀b∈bs,∀c∈b.chs,c.rs.length=c.gs.length){r b k:Nat}(hb:b<bs.length):Rea (absP bs) r b k↔∃u∈rdU bs,u.n=r∧u.b=b∧u.s=k:=by
 have hlen:(bkA (absP bs) b).sts.length=(bkF bs b).sts.length:=by rw[QO];exact List.length_map _
 constructor
 ·intro h;rcases h with ⟨t,ht,hx⟩|⟨rfl,h|⟨b2,c,hc,hs⟩⟩
  ·rw[QO]at ht;have ht:((bkF bs b).sts.map QA)[k]?=some t:=ht;rw[List.getElem?_map]at ht
   cases hy:(bkF bs b).sts[k]? with
   | none=>rw[hy]at ht;cases ht
   | some y=>
    rw[hy]at ht;have ht:QA y=t:=by simpa using ht
    subst ht;rw[Yp]at hx;obtain⟨q,hq,rfl⟩:=List.mem_map.1 hx;have hk:k<(bkF bs b).sts.length:=by
     rcases Nat.lt_or_ge k (bkF bs b).sts.length with h|h
     ·exact h
     ·rw[List.getElem?_eq_none h]at hy;cases hy
    refine⟨⟨q.1,q.2,b,k⟩,List.mem_flatMap.2 ⟨b,List.mem_range.2 hb,List.mem_append_right _ (List.mem_append_left _ (List.mem_flatMap.2 ⟨k,List.mem_range.2 hk,?_⟩))⟩,rfl,rfl,rfl⟩;rw[stR,hy];exact List.mem_map.2 ⟨q,hq,rfl⟩
  ·rw[QO]at h;have h:r∈rdE (Zc (bkF bs b).e):=h;unfold rdE at h;by_cases h63:(bkF bs b).e.op=63
   ·rw[if_pos (show (Zc (bkF bs b).e).op=63 from h63),List.mem_singleton]at h;refine⟨⟨(bkF bs b).e.a.1,(bkF bs b).e.a.2,b,(bkF bs b).sts.length⟩,List.mem_flatMap.2 ⟨b,List.mem_range.2 hb,List.mem_append_right _ (List.mem_append_right _ ?_)⟩,h.symm,rfl,by show ((bkF bs b).sts.length:Int)=_;rw[hlen]⟩;unfold enR QZ;rw[if_pos h63];simp
   ·rw[if_neg (show ¬(Zc (bkF bs b).e).op=63 from h63)]at h;simp at h
  ·obtain⟨d,hd,rfl,hb2⟩:=G3 hc;have hs:(b,r)∈(d.gs.map (·.1)).zip (d.rs.map (·.1)):=hs;rw[List.zip_map]at hs;obtain⟨p,hp,e⟩:=List.mem_map.1 hs;have e1:p.1.1=b:=congrArg (·.1) e;have e2:p.2.1=r:=congrArg (·.2) e;refine⟨⟨p.2.1,p.2.2,p.1.1,(bkF bs p.1.1).sts.length⟩,List.mem_flatMap.2 ⟨b2,List.mem_range.2 hb2,List.mem_append_left _ (List.mem_flatMap.2 ⟨d,hd,List.mem_map.2 ⟨p,hp,rfl⟩⟩)⟩,e2,e1,by rw[hlen,e1]⟩
 ·rintro⟨u,hu,rfl,rfl,hk⟩;obtain⟨i,hi,hu⟩:=List.mem_flatMap.1 hu;have hi:=List.mem_range.1 hi;rcases List.mem_append.1 hu with h|h
  ·obtain⟨c,hc,h⟩:=List.mem_flatMap.1 h;obtain⟨p,hp,rfl⟩:=List.mem_map.1 h;have hk:((bkF bs p.1.1).sts.length:Int)=k:=hk;refine .inr ⟨by rw[hlen];show k=(bkF bs p.1.1).sts.length;omega,.inr ⟨i,QL c,by rw[QO];exact List.mem_map.2 ⟨c,hc,rfl⟩,?_⟩⟩;show (p.1.1,p.2.1)∈(c.gs.map (·.1)).zip (c.rs.map (·.1));rw[List.zip_map];exact List.mem_map.2 ⟨p,hp,rfl⟩
  ·rcases List.mem_append.1 h with h|h
   ·obtain⟨j,hj,h⟩:=List.mem_flatMap.1 h;have hj:=List.mem_range.1 hj;rw[stR,List.getElem?_eq_getElem hj]at h;obtain⟨q,hq,rfl⟩:=List.mem_map.1 h;have hk:(j:Int)=k:=hk;have:j=k:=by omega
    subst this;refine .inl ⟨QA (bkF bs i).sts[j],?_,by rw[Yp];exact List.mem_map.2 ⟨q,hq,rfl⟩⟩;rw[QO];show ((bkF bs i).sts.map QA)[j]?=_;rw[List.getElem?_map,List.getElem?_eq_getElem hj];rfl
   ·unfold enR QZ at h;obtain⟨q,hq,rfl⟩:=List.mem_map.1 h;have hk:((bkF bs i).sts.length:Int)=k:=hk;refine .inr ⟨by rw[hlen];show k=(bkF bs i).sts.length;omega,.inl ?_⟩;rw[QO];show q.1∈rdE (Zc (bkF bs i).e);unfold rdE;by_cases h63:(bkF bs i).e.op=63
    ·rw[if_pos h63,List.mem_singleton]at hq;subst hq;rw[if_pos (show (Zc (bkF bs i).e).op=63 from h63)];exact List.mem_singleton.2 rfl
    ·rw[if_neg h63]at hq;simp at hq
theorem YZ:∀{l:List Use}{seen:List Nat},twG seen l=none↔(l.map (·.n)).Nodup∧∀u∈l,u.n∉seen
 | [],seen=>by simp[twG]
 | u::l,seen=>by
  rw[twG];by_cases h:seen.contains u.n=true
  ·rw[if_pos h];constructor
   ·intro e;cases e
   ·intro e;exact absurd (List.contains_iff_mem.1 h) (e.2 u (List.mem_cons_self ..))
  ·rw[if_neg h,YZ,List.map_cons,List.nodup_cons];have h:=fun e=>h (List.contains_iff_mem.2 e);constructor
   ·rintro⟨h1,h2⟩;refine⟨⟨fun e=>?_,h1⟩,fun v hv=>?_⟩
    ·obtain⟨v,hv,e⟩:=List.mem_map.1 e;exact h2 v hv (by rw[e];simp)
    ·rcases List.mem_cons.1 hv with rfl|hv
     ·exact h
     ·exact fun e=>h2 v hv (List.mem_append_left _ e)
   ·rintro⟨⟨h1,h2⟩,h3⟩;refine⟨h2,fun v hv e=>?_⟩;rcases List.mem_append.1 e with e|e
    ·exact h3 v (List.mem_cons_of_mem _ hv) e
    ·rw[List.mem_singleton]at e;exact h1 (List.mem_map.2 ⟨v,hv,e⟩)
theorem Ge:∀{l:List Use},(l.map (·.n)).Nodup→∀{u v:Use},u∈l→v∈l→u.n=v.n→u=v
 | [],_,_,_,h,_,_=>by simp at h
 | x::l,hd,u,v,hu,hv,e=>by
  rw[List.map_cons,List.nodup_cons]at hd;rcases List.mem_cons.1 hu with hux|hu
  ·rcases List.mem_cons.1 hv with hvx|hv
   ·rw[hux,hvx]
   ·exact absurd (List.mem_map.2 ⟨v,hv,by rw[←e,hux]⟩) hd.1
  ·rcases List.mem_cons.1 hv with hvx|hv
   ·exact absurd (List.mem_map.2 ⟨u,hu,by rw[e,hvx]⟩) hd.1
   ·exact Ge hd.2 hu hv e
theorem QcD{l:List Use}(hd:(l.map (·.n)).Nodup){u:Use}(hu:u∈l):l.find? (fun x=>x.n==u.n)=some u:=by
 cases h:l.find? (fun x=>x.n==u.n) with
 | none=>
  rw[List.find?_eq_none]at h;exact absurd (h u hu) (by simp)
 | some v=>
  have h1:=List.find?_some h;have h2:=List.mem_of_find?_eq_some h;rw[Ge hd h2 hu (by simpa using h1)]
theorem Qht{bs:List Ql}(hr:Kr bs)(h1:twF (gvU bs)=none)(h2:amF bs=none):Sgl (absP bs):=by
 have hd:=(YZ.1 h1).1;refine⟨fun {r b b' s s'} g g'=>?_,fun b=>?_,fun {r b k} hx hb=>?_⟩
 ·obtain⟨u,hu,rfl,rfl,rfl⟩:=WZ.1 g;obtain⟨v,hv,e,rfl,rfl⟩:=WZ.1 g';rw[Ge hd hu hv e.symm];exact⟨rfl,rfl⟩
 ·rcases Nat.lt_or_ge b bs.length with h|h
  ·rw[QO];show (((bkF bs b).chs.map QL).map (·.to)).Nodup;rw[List.map_map];have hs:((Va (bkF bs b) b).map (·.n)).Sublist ((gvU bs).map (·.n)):=by
    refine List.Sublist.map _ ?_;rw[gvU,VW,List.flatMap_def];exact List.sublist_flatten_of_mem (List.mem_map.2 ⟨b,List.mem_range.2 h,rfl⟩)
   have h3:=hd.sublist hs;rw[Va,List.map_append,List.map_map]at h3;exact(List.nodup_append.1 h3).1
  ·rw[bkA,List.getElem?_eq_none (by simpa[absP] using h)];exact List.nodup_nil
 ·have hbl:b<bs.length:=by have:=Rch.lt hr.pos (Kw hr.goals) ((V2 bs noB b).1 hb);exact this
  obtain⟨u,hu,rfl,rfl,hk⟩:=(QaL hr.rs hbl).1 hx;have hm:KH bs u.n u.b u.s=true:=by
   rw[amF,List.find?_eq_none]at h2;have:=h2 u hu;simpa[X4] using this
  rw[KH,if_pos (show rchF (suF bs) bs.length noB u.b=true from (QW hr _).2 hb)]at hm
  cases hf:(gvU bs).find? (fun x=>x.n==u.n) with
  | none=>rw[hf]at hm;cases hm
  | some v=>
   rw[hf]at hm;have e1:v.n=u.n:=by simpa using List.find?_some hf
   refine⟨v.b,v.s,WZ.2 ⟨v,List.mem_of_find?_eq_some hf,e1,rfl,rfl⟩,?_⟩;dsimp only at hm;by_cases e:v.b=u.b
   ·rw[if_pos e]at hm;exact .inl ⟨e,by rw[←hk];simpa using hm⟩
   ·rw[if_neg e]at hm;exact .inr ⟨e,(RP hr).1 hm⟩
theorem QcX{bs:List Ql}(hr:Kr bs)(hcg:∀b∈bs,∀c∈b.chs,∀p∈c.gs,p.1<bs.length)(h:Sgl (absP bs)):sgE bs=(0,0):=by
 have hd:((gvU bs).map (·.n)).Nodup:=by
  have hP:(gvU bs).Pairwise fun u v=>u.n≠v.n:=by
   rw[gvU,VW,List.pairwise_flatMap];have hmem:∀{i u},i<bs.length→u∈Va (bkF bs i) i→Gv (absP bs) u.n i u.s:=fun {i u} hi hu=>WZ.2 ⟨u,List.mem_flatMap.2 ⟨i,List.mem_range.2 hi,hu⟩,rfl,Qec hu,rfl⟩;refine⟨fun i hi=>?_,?_⟩
   ·have hi:=List.mem_range.1 hi;rw[Va,List.pairwise_append];refine⟨?_,?_,fun u hu v hv e=>?_⟩
    ·have:=h.chs i;rw[QO]at this;have this:(((bkF bs i).chs.map QL).map (·.to)).Nodup:=this;rw[List.map_map]at this;exact List.pairwise_map.2 (List.pairwise_map.1 this)
    ·rw[List.pairwise_flatMap];refine⟨fun j hj=>?_,?_⟩
     ·rw[stU];split
      ·split
       ·exact List.Pairwise.nil
       ·exact List.pairwise_singleton _ _
      ·exact List.Pairwise.nil
     ·refine List.Pairwise.imp_of_mem ?_ List.nodup_range;intro j j' hj hj' hne u hu v hv e;have g1:=hmem hi (List.mem_append_right _ (List.mem_flatMap.2 ⟨j,hj,hu⟩));have g2:=hmem hi (List.mem_append_right _ (List.mem_flatMap.2 ⟨j',hj',hv⟩));rw[e]at g1;have e1:∀{j:Nat} {u:Use},u∈stU (bkF bs i) i j→u.s=j:=fun {j u} hu=>by
       rw[stU]at hu;split at hu
       ·split at hu
        ·simp at hu
        ·rw[List.mem_singleton]at hu;rw[hu]
       ·simp at hu
      have:=(h.one g1 g2).2;rw[e1 hu,e1 hv]at this;omega
    ·have g1:=hmem hi (List.mem_append_left _ hu);have g2:=hmem hi (List.mem_append_right _ hv);rw[e]at g1;have:=(h.one g1 g2).2;obtain⟨c,_,rfl⟩:=List.mem_map.1 hu;obtain⟨j,_,hv⟩:=List.mem_flatMap.1 hv;have e1:v.s=j:=by
      rw[stU]at hv;split at hv
      ·split at hv
       ·simp at hv
       ·rw[List.mem_singleton]at hv;rw[hv]
      ·simp at hv
     rw[e1]at this;have this:(-1:Int)=j:=this;omega
   ·refine List.Pairwise.imp_of_mem ?_ List.nodup_range;intro i i' hi hi' hne u hu v hv e;have g1:=hmem (List.mem_range.1 hi) hu;have g2:=hmem (List.mem_range.1 hi') hv;rw[e]at g1;exact hne (h.one g1 g2).1
  exact List.pairwise_map.2 hP
 have h1:twF (gvU bs)=none:=YZ.2 ⟨hd,fun _ _=>by simp⟩;have h2:amF bs=none:=by
  rw[amF,List.find?_eq_none];intro u hu;rw[X4,Bool.not_eq_true',Bool.not_eq_false];rw[KH];have hul:u.b<bs.length:=by
   obtain⟨i,hi,hu⟩:=List.mem_flatMap.1 hu;have hi:=List.mem_range.1 hi;rcases List.mem_append.1 hu with h|h
   ·obtain⟨c,hc,h⟩:=List.mem_flatMap.1 h;obtain⟨p,hp,rfl⟩:=List.mem_map.1 h;exact hcg _ (Jz hi) c hc _ (List.of_mem_zip hp).1
   ·rcases List.mem_append.1 h with h|h
    ·obtain⟨j,hj,h⟩:=List.mem_flatMap.1 h;rw[stR,List.getElem?_eq_getElem (List.mem_range.1 hj)]at h;obtain⟨q,hq,rfl⟩:=List.mem_map.1 h;exact hi
    ·obtain⟨q,hq,rfl⟩:=List.mem_map.1 h;exact hi
  have hus:∃k:Nat,u.s=k:=by
   obtain⟨i,hi,hu⟩:=List.mem_flatMap.1 hu;rcases List.mem_append.1 hu with h|h
   ·obtain⟨c,hc,h⟩:=List.mem_flatMap.1 h;obtain⟨p,hp,rfl⟩:=List.mem_map.1 h;exact⟨_,rfl⟩
   ·rcases List.mem_append.1 h with h|h
    ·obtain⟨j,hj,h⟩:=List.mem_flatMap.1 h;rw[stR,List.getElem?_eq_getElem (List.mem_range.1 hj)]at h;obtain⟨q,hq,rfl⟩:=List.mem_map.1 h;exact⟨j,rfl⟩
    ·obtain⟨q,hq,rfl⟩:=List.mem_map.1 h;exact⟨_,rfl⟩
  obtain⟨k,hk⟩:=hus;by_cases hc:rchF (suF bs) bs.length noB u.b=true
  ·rw[if_pos hc];obtain⟨b',s',g,p⟩:=h.rd ((QaL hr.rs hul).2 ⟨u,hu,rfl,rfl,hk⟩) ((QW hr _).1 hc);obtain⟨v,hv,e,rfl,rfl⟩:=WZ.1 g;rw[←e,QcD hd hv];dsimp only;rcases p with ⟨e1,p⟩|⟨e1,p⟩
   ·rw[if_pos e1,hk];simpa using p
   ·rw[if_neg e1];exact(RP hr).2 p
  ·rw[if_neg hc]
 rw[sgE,h1];dsimp only;rw[h2]
structure Grd(w:World)(bs:List Ql)(base B:Nat)(v va vu:Value):Prop where
 p:PBs w base bs v
 a:w.ownsRow B 143 1 va (Qx bs).length (Qg (Qx bs))
 u:Jd B w vu bs.length (JX bs)
theorem Grd.keeps{w w' bs base B v va vu}(h:Grd w bs base B v va vu)(F:Below w.heap.size w w'):Grd w' bs base B v va vu:=
 ⟨h.p.keeps (Qs.below F),Qd h.a (Qi F) trivial,h.u.keeps F⟩
theorem Grd.form{w bs base B v va vu}(h:Grd w bs base B v va vu):(∃p c,v=.slice p bs.length c)∧(∃p c,va=.slice p (Qx bs).length c)∧∃p c,vu=.slice p bs.length c:=⟨h.p.slice,Qb h.a,h.u.slice⟩
theorem Grd.reach{w bs base B v va vu}(h:Grd w bs base B v va vu){b:Nat}(hb:b<bs.length)(hn:bs.length≤1000):
  Calls Tryz.prog 77 #[.agg #[v,va,vu],.int .i64 b] w fun e w'=>e=.returned (.bool (coF bs b))∧Below w.heap.size w w':=by
 obtain⟨⟨p,c,rfl⟩,_,q,d,rfl⟩:=h.form;exact Qdf bs B b _ va _ w ⟨_,_,_,rfl⟩ ⟨_,_,_,rfl⟩ h.a hb hn
theorem Qfp(bs:List Ql)(base B b r:Nat)(v va vu:Value)(w:World)(h:Grd w bs base B v va vu)(hb:b<bs.length)(hn:bs.length≤1000):
  Calls Tryz.prog 135 #[.agg #[v,va,vu,v],.int .i64 b,.int .i64 r] w fun e w'=>e=.returned (.agg #[.int .i64 b,.int .i64 0,.int .i64 (if coF bs b then r else 0:Nat),.int .i64 0])∧Below w.heap.size w w':=by
 obtain⟨⟨p,c,rfl⟩,⟨pa,ca,rfl⟩,q,d,rfl⟩:=h.form;have H:=Qc h;clear h;obtain⟨y,hy⟩:∃y:Nat,y=if coF bs b then r else 0:=⟨_,rfl⟩;rw[←hy];have HY:=Qc hy;clear hy;go_enter Tryz.func135,Tryz.ntmps135;go_wp2_with fail;obtain⟨W,hW⟩:∃W,W=(w.alloc (.cells #[.slice p bs.length c,.slice pa (Qx bs).length ca,.slice q bs.length d,.slice p bs.length c] 87)).alloc (.cells #[.int .i64 0,.int .i64 0,.int .i64 0,.int .i64 0] 147):=⟨_,rfl⟩;rw[←hW];have FW:Below w.heap.size w W:=by rw[hW];exact((Below.refl _ _).alloc (Nat.le_refl _) _).alloc (by simp) _
 have bW:W.heap[w.heap.size+1]?=some (.cells #[.int .i64 0,.int .i64 0,.int .i64 0,.int .i64 0] 147 (0,0)):=by
  rw[hW];have:=heap_alloc_last (w.alloc (.cells #[.slice p bs.length c,.slice pa (Qx bs).length ca,.slice q bs.length d,.slice p bs.length c] 87)) (.cells #[.int .i64 0,.int .i64 0,.int .i64 0,.int .i64 0] 147);rw[World.size_alloc]at this;exact this
 have zW:=lt_of_block bW;refine((H.o.keeps FW).reach hb hn).mono ?_;rintro e w3 ⟨rfl,f3⟩;have b3:w3.heap[w.heap.size+1]?=some (.cells #[.int .i64 0,.int .i64 0,.int .i64 0,.int .i64 0] 147 (0,0)):=by rw[f3.block _ zW];exact bW
 have F3:=Qc (FW.trans (f3.mono FW.size));have k0:=Qa b3 0;have k1:=Qa b3 1;have k2:=Qa b3 2;have k3:=Qa b3 3;have kf:=Qf b3 0;have kf1:=Qf b3 1;have kf2:=Qf b3 2;have kf3:=Qf b3 3;simp at k0 k1 k2 k3;have HR:∀y:Nat,Hid (∀W4,W4=(((w3.setCell ⟨w.heap.size+1,0,none⟩ (.int .i64 b)).setCell ⟨w.heap.size+1,1,none⟩ (.int .i64 0)).setCell ⟨w.heap.size+1,2,none⟩ (.int .i64 y)).setCell ⟨w.heap.size+1,3,none⟩ (.int .i64 0)→W4.cell? ⟨w.heap.size+1,0,none⟩=some (.int .i64 b)∧W4.cell? ⟨w.heap.size+1,1,none⟩=some (.int .i64 0)∧W4.cell? ⟨w.heap.size+1,2,none⟩=some (.int .i64 y)∧W4.cell? ⟨w.heap.size+1,3,none⟩=some (.int .i64 0)∧Below w.heap.size w W4):=by
  rintro y W4 rfl;have b4:=Qp (Qp (Qp (Qp b3 0 (.int .i64 b)) 1 (.int .i64 0)) 2 (.int .i64 y)) 3 (.int .i64 0);have q0:=Qa b4 0;have q1:=Qa b4 1;have q2:=Qa b4 2;have q3:=Qa b4 3;simp at q0 q1 q2 q3;exact⟨q0,q1,q2,q3,Qr (Qr (Qr (Qr F3.o _ _ _ (by omega)) _ _ _ (by omega)) _ _ _ (by omega)) _ _ _ (by omega)⟩
 clear f3 FW bW b3 hW;have HR:=HR y;obtain⟨k,hk⟩:∃k,k=coF bs b:=⟨_,rfl⟩;rw[←hk]
 cases k with
 | true=>
  have hr:y=r:=by rw[HY.o,←hk];rfl
  subst hr;clear hk HY;go_wp2_with fail;obtain⟨q0,q1,q2,q3,F4⟩:=HR.o _ rfl;obtain⟨W4,hW4⟩:∃W4,W4=(((w3.setCell ⟨w.heap.size+1,0,none⟩ (.int .i64 b)).setCell ⟨w.heap.size+1,1,none⟩ (.int .i64 0)).setCell ⟨w.heap.size+1,2,none⟩ (.int .i64 y)).setCell ⟨w.heap.size+1,3,none⟩ (.int .i64 0):=⟨_,rfl⟩;rw[←hW4]at q0 q1 q2 q3 F4 ⊢;refine bodyPost_ret (v:=.agg #[.int .i64 b,.int .i64 0,.int .i64 y,.int .i64 0]) (by simp[results,Tryz.results135,go_sem,q0,q1,q2,q3]) rfl ⟨rfl,F4⟩
 | false=>
  have hr:y=0:=by rw[HY.o,←hk];rfl
  subst hr;clear hk HY;go_wp2_with fail;obtain⟨q0,q1,q2,q3,F4⟩:=HR.o _ rfl;obtain⟨W4,hW4⟩:∃W4,W4=(((w3.setCell ⟨w.heap.size+1,0,none⟩ (.int .i64 b)).setCell ⟨w.heap.size+1,1,none⟩ (.int .i64 0)).setCell ⟨w.heap.size+1,2,none⟩ (.int .i64 0)).setCell ⟨w.heap.size+1,3,none⟩ (.int .i64 0):=⟨_,rfl⟩;rw[show ((0:Nat):Int)=0 from rfl]at q2 F4 q0 q1 q3;rw[←hW4]at q0 q1 q2 q3 F4 ⊢;refine bodyPost_ret (v:=.agg #[.int .i64 b,.int .i64 0,.int .i64 0,.int .i64 0]) (by simp[results,Tryz.results135,go_sem,q0,q1,q2,q3]) rfl ⟨rfl,F4⟩
structure ChR(w:World)(base:Nat)(c:QH)(v:Value):Prop where
 len:c.gs.length=c.rs.length
 row:w.ownsRow base 147 4 v c.gs.length (QQ c.gs c.rs)
theorem ChR.keeps{w w' base c v}(h:ChR w base c v)(F:Below w.heap.size w w'):ChR w' base c v:=⟨h.len,Qd h.row (Qi F) trivial⟩
structure Ga(n m:Nat)(c:QH):Prop where
 to:c.to.1<n
 gs:∀p∈c.gs,p.1<m
 rs:∀p∈c.rs,p.1<n
 few:c.gs.length≤1000
theorem QcS{c:QH}(h:c.gs.length=c.rs.length){k:Nat}(hk:k<c.gs.length):(QL c).src.drop k=(c.gs[k].1,(c.rs[k]'(by omega)).1)::(QL c).src.drop (k+1):=by
 have hl:k<(QL c).src.length:=by simp[QL];omega
 rw[List.drop_eq_getElem_cons hl]
 congr 1
 simp[QL]
theorem Qfn{c:QH}(h:c.gs.length=c.rs.length):(QL c).src.length=c.gs.length:=by simp[QL];omega
def OnI(w:World)(g0 g1:Obj)(wr:World):Prop:=wr.heap[w.heap.size]?=some g0∧wr.heap[w.heap.size+1]?=some g1∧Below w.heap.size w wr
theorem OnI.keeps{w g0 g1 wr wr'}(h:OnI w g0 g1 wr)(F:Below wr.heap.size wr wr'):OnI w g0 g1 wr':=by
 obtain⟨a,b,c⟩:=h;exact⟨by rw[F.block _ (lt_of_block a)];exact a,by rw[F.block _ (lt_of_block b)];exact b,c.trans (F.mono c.size)⟩
theorem OnI.start(w:World)(c0 c1:Array Value)(t0 t1:TypeId):OnI w (.cells c0 t0 (0,0)) (.cells c1 t1 (0,0)) ((w.alloc (.cells c0 t0)).alloc (.cells c1 t1)):=by
 obtain⟨a,b,_,d⟩:=two w (.cells c0 t0) (.cells c1 t1);exact⟨a,b,d⟩
theorem Qdx(bs:List Ql)(st:Nat→Nat)(n base B B2 B3:Nat)(c:QH)(v va vu vc vs:Value)(w:World)(h:Grd w bs base B v va vu)(hc:ChR w B2 c vc)(hs:StR w B3 n vs st)(hk:Hid (StK n st))(hl:Hid (Ga n bs.length c))(hn:bs.length≤1000)(hn2:n≤100000):
  Calls Tryz.prog 151 #[.agg #[v,va,vu,v],.agg #[.int .i64 c.to.1,.int .i64 c.to.2,vc],vs] w fun e w'=>∃x:Nat,e=.returned (.tuple #[.int .i64 x,.bool (XW (coF bs) st (QL c)).isSome])∧(∀y,XW (coF bs) st (QL c)=some y→x=y)∧Below w.heap.size w w':=by
 obtain⟨⟨p,cp,rfl⟩,⟨pa,ca,rfl⟩,q,d,rfl⟩:=h.form;obtain⟨pc,cc,rfl⟩:=Qb hc.row;obtain⟨p2,c2,rfl⟩:=hs.slice;have H:=Qc (And.intro h (And.intro hc hs));clear h hc hs;have hfew:=hl.out.few;go_enter Tryz.func151,Tryz.ntmps151;go_wp2_with fail;have B0:=Qc (OnI.start w #[.slice p bs.length cp,.slice pa (Qx bs).length ca,.slice q bs.length d,.slice p bs.length cp] #[.int .i64 c.to.1,.int .i64 c.to.2,.slice pc c.gs.length cc] 87 140);generalize (w.alloc (.cells #[.slice p bs.length cp,.slice pa (Qx bs).length ca,.slice q bs.length d,.slice p bs.length cp] 87)).alloc (.cells #[.int .i64 c.to.1,.int .i64 c.to.2,.slice pc c.gs.length cc] 140)=W at *
 go_loopw [9,20] (fun i j wr=>∃one k:Nat,k≤c.gs.length∧i=.int .i64 one∧j=.int .i64 k∧Hid (XW (coF bs) st (QL c)=Xh (coF bs) st c.to.1 one ((QL c).src.drop k))∧Hid (OnI w (.cells #[.slice p bs.length cp,.slice pa (Qx bs).length ca,.slice q bs.length d,.slice p bs.length cp] 87 (0,0)) (.cells #[.int .i64 c.to.1,.int .i64 c.to.2,.slice pc c.gs.length cc] 140 (0,0)) wr)) (fun _ j _=>c.gs.length-(intOf j).toNat)
 case atStart=>exact⟨c.to.1,0,by omega,rfl,rfl,rfl,B0⟩
 case round=>
  clear B0;obtain⟨one,k,hkl,rfl,rfl,HO,HI⟩:=hrel;by_cases hlt:k<c.gs.length
  ·obtain⟨gc,rfl,_,_⟩:=Qh H.o.2.1.row (by omega);have HC:=Qc (H.o.2.1.keeps HI.o.2.2);have hlr:k<c.rs.length:=by have:=H.o.2.1.len;omega
   obtain⟨s0,s1,s2,s3⟩:=QF H.o.2.1.len hlt;have c0:=Qe HC.o.row s0;have c1:=Qe HC.o.row s1;have c2:=Qe HC.o.row s2;have c3:=Qe HC.o.row s3;clear s0 s1 s2 s3;have hr:=hl.out.rs _ (List.getElem_mem hlr);have hg:=hl.out.gs _ (List.getElem_mem hlt);obtain⟨dd,hu⟩:=hk.out.up _ hr;have HU:=Qc hu;clear hu;have HD:=Qc (HO.o.trans (by rw[QcS H.o.2.1.len hlt]));clear HO;go_wp2_with fail;obtain⟨W1,hW1⟩:∃W1,W1=wr.alloc (.cells #[.int .i64 c.gs[k].1,.int .i64 c.gs[k].2,.int .i64 c.rs[k].1,.int .i64 c.rs[k].2] 147):=⟨_,rfl⟩;rw[←hW1];have F1:Below wr.heap.size wr W1:=by rw[hW1];exact(Below.refl _ _).alloc (Nat.le_refl _) _
   have b1:W1.heap[wr.heap.size]?=some (.cells #[.int .i64 c.gs[k].1,.int .i64 c.gs[k].2,.int .i64 c.rs[k].1,.int .i64 c.rs[k].2] 147 (0,0)):=by rw[hW1];exact heap_alloc_last _ _
   have HI1:=Qc (HI.o.keeps F1);have z0:=Qa b1 0;have z1:=Qa b1 1;simp at z0 z1;have x0:=Qa HI1.o.1 0;have x1:=Qa HI1.o.1 1;have x2:=Qa HI1.o.1 2;simp at x0 x1 x2;refine(ofP st n c.rs[k].1 (rt st c.rs[k].1) dd B3 _ W1 (H.o.2.2.keeps HI1.o.2.2) HU (Qc hk.out.lt) hr hn2).mono ?_;rintro e w2 ⟨rfl,rfl⟩;clear hW1 F1 b1 c0 c1 c2 c3;by_cases e1:rt st c.rs[k].1=c.to.1
   ·have e1':((rt st c.rs[k].1:Int)==(c.to.1:Int))=true:=by simp;omega
    have HO2:Hid (XW (coF bs) st (QL c)=Xh (coF bs) st c.to.1 one ((QL c).src.drop (k+1))):=by show _=_;rw[HD.o,Xh,if_pos (.inl e1)]
    clear e1 HD;go_wp2_with fail;go_roundw
    case rel=>exact⟨one,k+1,by omega,rfl,by go_num,HO2,HI1⟩
    case measure=>simp[intOf];omega
   ·have e1':((rt st c.rs[k].1:Int)==(c.to.1:Int))=false:=by simp;omega
    by_cases e2:rt st c.rs[k].1=one
    ·have e2':((rt st c.rs[k].1:Int)==(one:Int))=true:=by simp;omega
     have HO2:Hid (XW (coF bs) st (QL c)=Xh (coF bs) st c.to.1 one ((QL c).src.drop (k+1))):=by show _=_;rw[HD.o,Xh,if_pos (.inr (.inl e2))]
     clear e1 HD e2;go_wp2_with fail;go_roundw
     case rel=>exact⟨one,k+1,by omega,rfl,by go_num,HO2,HI1⟩
     case measure=>simp[intOf];omega
    ·have e2':((rt st c.rs[k].1:Int)==(one:Int))=false:=by simp;omega
     have E12:=Qc (And.intro e1 e2);clear e1 e2;go_wp2_with fail;refine((H.o.1.keeps HI1.o.2.2).reach hg hn).mono ?_;rintro e w3 ⟨rfl,f3⟩;have HI3:=Qc (HI1.o.keeps f3);clear f3;obtain⟨kk,hkk⟩:∃kk,kk=coF bs c.gs[k].1:=⟨_,rfl⟩;rw[←hkk]
     cases kk with
     | false=>
      have HO2:Hid (XW (coF bs) st (QL c)=Xh (coF bs) st c.to.1 one ((QL c).src.drop (k+1))):=by show _=_;rw[HD.o,Xh,if_pos (.inr (.inr hkk.symm))]
      clear HD E12 hkk;go_wp2_with fail;go_roundw
      case rel=>exact⟨one,k+1,by omega,rfl,by go_num,HO2,HI3⟩
      case measure=>simp[intOf];omega
     | true=>
      have hnot:¬(rt st c.rs[k].1=c.to.1∨rt st c.rs[k].1=one∨coF bs c.gs[k].1=false):=by
       rintro (h|h|h)
       ·exact E12.o.1 h
       ·exact E12.o.2 h
       ·rw[←hkk]at h;cases h
      have HO1:=Qc (HD.o.trans (by rw[Xh,if_neg hnot]));clear HD E12 hkk hnot;by_cases e3:one=c.to.1
      ·have e3':((one:Int) != (c.to.1:Int))=false:=by simp;omega
       rw[if_pos e3]at HO1;clear e3;go_wp2_with fail;go_roundw
       case rel=>exact⟨rt st c.rs[k].1,k+1,by omega,rfl,by go_num,HO1,HI3⟩
       case measure=>simp[intOf];omega
      ·have e3':((one:Int) != (c.to.1:Int))=true:=by simp;omega
       rw[if_neg e3]at HO1;clear e3;go_wp2_with fail
       go_ret2
       exact⟨0,by rw[HO1.o];rfl,(fun y hy=>by rw[HO1.o]at hy;cases hy),HI3.o.2.2⟩
  ·have HD:Hid (XW (coF bs) st (QL c)=if one=c.to.1 then none else some one):=by
    show _=_;rw[HO.o,List.drop_of_length_le (by rw[Qfn H.o.2.1.len];omega)];rfl
   by_cases e:one=c.to.1
   ·have e':((one:Int) != (c.to.1:Int))=false:=by simp;omega
    rw[if_pos e]at HD;clear e;go_wp2_with fail
    go_ret2
    exact⟨one,by rw[HD.o];rfl,(fun y hy=>by rw[HD.o]at hy;cases hy),HI.o.2.2⟩
   ·have e':((one:Int) != (c.to.1:Int))=true:=by simp;omega
    rw[if_neg e]at HD;clear e;go_wp2_with fail
    go_ret2
    exact⟨one,by rw[HD.o];rfl,(fun y hy=>by rw[HD.o]at hy;cases hy;rfl),HI.o.2.2⟩
end Go.Proofs.YtgfhfkgdmidhpaaGreatDoor
