import Derived.Test.YtgfhfkgdmidhpaaGreatDoorM22
import Derived.Deep.LoopGhost
namespace Go.Proofs.YtgfhfkgdmidhpaaGreatDoor
open Go.RowKit
open Go.Proofs.Tryz
set_option maxRecDepth 100000
set_option maxHeartbeats 8000000
def chR(bs:List Qm)(c:Q0):List Use:=(c.gs.zip c.rs).map fun p=>⟨p.2.1,p.2.2,p.1.1,(bkF bs p.1.1).sts.length⟩
def stR(b:Qm)(i j:Nat):List Use:=match b.sts[j]? with|some t=>(rdsF t).map (fun r=>⟨r.1,r.2,i,j⟩)|none=>[]
def enR(b:Qm)(i:Nat):List Use:=(XA b.e).map fun r=>⟨r.1,r.2,i,b.sts.length⟩
def Qla(bs:List Qm)(b:Qm)(i:Nat):List Use:=b.chs.flatMap (chR bs)++((List.range b.sts.length).flatMap (stR b i)++enR b i)
def Qef(bs:List Qm)(m:Nat):List Use:=(List.range m).flatMap fun i=>Qla bs (bkF bs i) i
def rdU(bs:List Qm):List Use:=Qef bs bs.length
def Yb(bs:List Qm)(u:Use):Bool:=!VJ bs u.n u.b u.s
def amF(bs:List Qm):Option Use:=(rdU bs).find? (Yb bs)
theorem Vf{α:Type}{f:Nat→List α}{P:α→Bool}{m:Nat}(h:((List.range m).flatMap f).find? P=none)(hn:(f m).find? P=none):((List.range (m+1)).flatMap f).find? P=none:=by
 rw[List.range_succ,List.flatMap_append,List.find?_append,h];simpa using hn
theorem YJ{α:Type}{f:Nat→List α}{P:α→Bool}{m n:Nat}{u:α}(hm:m<n)(h:((List.range m).flatMap f).find? P=none)(hn:(f m).find? P=some u):((List.range n).flatMap f).find? P=some u:=by
 have e:List.range n=List.range m++(m::(List.range (n-m-1)).map (fun y=>m+(1+y))):=by
  have:=List.range_add (n:=m) (m:=n-m);rw[show m+(n-m)=n from by omega]at this;rw[this,show n-m=1+(n-m-1) from by omega,List.range_add];simp
 rw[e,List.flatMap_append,List.find?_append,h,List.flatMap_cons,List.find?_append,hn];rfl
theorem Qj3{bs:List Qm}{c:Q0}(hr:c.rs.length=c.gs.length){t:Nat}(ht:t<c.rs.length):∃h:t<(chR bs c).length,(chR bs c)[t]=⟨c.rs[t].1,c.rs[t].2,(c.gs[t]'(by omega)).1,(bkF bs (c.gs[t]'(by omega)).1).sts.length⟩:=by
 have hz:t<(chR bs c).length:=by rw[chR,List.length_map,List.length_zip];omega
 exact⟨hz,by simp[chR]⟩
theorem Qj9(bs:List Qm)(base B gp:Nat)(vL:Value)(w:World)(h:GrI bs base B gp vL w)(hf:Hid (∀b∈bs,QU 1000000 b))(hg2:Hid (∀b∈bs,∀c∈b.chs,c.gs.length≤1000))(hcg:Hid (∀b∈bs,∀c∈b.chs,∀p∈c.gs,p.1<bs.length))(hl:(gvU bs).length≤100000000000)(hn:bs.length≤1000):
  Calls prog 27 #[.pointer (some ⟨gp,0,none⟩)] w fun x w'=>x=.returned (.int .i64 (atO (amF bs)))∧Below w.heap.size w w':=by
 obtain⟨pv,cv,rfl⟩:∃p c,vL=.slice p bs.length c:=by obtain⟨_,_,_,_,b,_⟩:=h;exact b.slice
 have HG:=Qc h;have hgw:gp<w.heap.size:=by obtain⟨_,_,_,a,_⟩:=h;exact lt_of_block a
 have hk0:w.cell? ⟨gp,0,none⟩=some (.slice pv bs.length cv):=by
  obtain⟨_,_,_,a,_⟩:=h;have:=Qb a 0;simpa using this
 have HK0:=Qc hk0;have HBL:Hid (QR w base bs (.slice pv bs.length cv)):=by obtain⟨_,_,_,_,b,_⟩:=h;exact b
 clear h hk0;go_enter func27,ntmps27;go_wp2_with fail
 go_loopw [3] (fun i wr=>∃m:Nat,m≤bs.length∧i=.int .i64 m∧Hid ((Qef bs m).find? (Yb bs)=none)∧Hid (Below w.heap.size w wr)) (fun i _=>bs.length-(intOf i).toNat)
 case atStart=>exact⟨0,by omega,rfl,by simp[Hid,Qef],Below.refl _ _⟩
 case round=>
  obtain⟨m,hm,rfl,HN1,F⟩:=hrel;rename World=>wA;have hz:=F.o.size;have kg:=(F.o.cell (p:=⟨gp,0,none⟩) hgw).trans HK0.o;by_cases hlt:m<bs.length
  ·obtain⟨gv,qc,cc,ps,cs,rfl,_,hgv,OC,OS0,hc⟩:=(HBL.o.keeps3 (Qr.below F.o)).at hlt;have d0:wA.cell? ⟨gv,m*10,none⟩=_:=hc 0 _ rfl;have d1:=hc 1 _ rfl;have d2:=hc 2 _ rfl;have d3:=hc 3 _ rfl;have d4:=hc 4 _ rfl;have d5:=hc 5 _ rfl;have d6:=hc 6 _ rfl;have d7:=hc 7 _ rfl;have d8:=hc 8 _ rfl;have d9:=hc 9 _ rfl;have HFM:=Qc (hf.out _ (Qx hlt));have hcl:=HFM.o.cl;have hsl:=HFM.o.sl;have HBK:=Qc (Zj hlt);have HG2:=Qc (hg2.out _ (Qx hlt));have HCG:=Qc (hcg.out _ (Qx hlt));have gW:=heap_alloc_last wA (.cells #[.slice qc bs[m].chs.length cc,.slice ps bs[m].sts.length cs,.int .u8 bs[m].e.op,.int .i64 bs[m].e.a.1,.int .i64 bs[m].e.a.2,.int .i64 bs[m].e.one.1,.int .i64 bs[m].e.one.2,.int .i64 bs[m].e.two.1,.int .i64 bs[m].e.two.2,.int .i64 bs[m].at_] 53);have fW:=(Below.refl wA.heap.size wA).alloc (Qi _) (.cells #[.slice qc bs[m].chs.length cc,.slice ps bs[m].sts.length cs,.int .u8 bs[m].e.op,.int .i64 bs[m].e.a.1,.int .i64 bs[m].e.a.2,.int .i64 bs[m].e.one.1,.int .i64 bs[m].e.one.2,.int .i64 bs[m].e.two.1,.int .i64 bs[m].e.two.2,.int .i64 bs[m].at_] 53);have sW:wA.heap.size<(wA.alloc (.cells #[.slice qc bs[m].chs.length cc,.slice ps bs[m].sts.length cs,.int .u8 bs[m].e.op,.int .i64 bs[m].e.a.1,.int .i64 bs[m].e.a.2,.int .i64 bs[m].e.one.1,.int .i64 bs[m].e.one.2,.int .i64 bs[m].e.two.1,.int .i64 bs[m].e.two.2,.int .i64 bs[m].at_] 53)).heap.size:=by rw[Qt];omega
   have HW:=Qc (And.intro gW (And.intro (F.o.trans (fW.mono hz)) (And.intro (OC.keeps (Qh fW) trivial trivial trivial) (Qd OS0 (Qh fW) trivial))));clear hc OC OS0 gW fW;go_wp2_with fail;clear d0 d1 d2 d3 d4 d5 d6 d7 d8 d9 kg;generalize wA.alloc (.cells #[.slice qc bs[m].chs.length cc,.slice ps bs[m].sts.length cs,.int .u8 bs[m].e.op,.int .i64 bs[m].e.a.1,.int .i64 bs[m].e.a.2,.int .i64 bs[m].e.one.1,.int .i64 bs[m].e.one.2,.int .i64 bs[m].e.two.1,.int .i64 bs[m].e.two.2,.int .i64 bs[m].at_] 53)=W at *;have zW:=HW.o.2.1.size
   go_loopw [5] (fun i wr=>∃q:Nat,q≤bs[m].chs.length∧i=.int .i64 q∧Hid (((bs[m].chs.take q).flatMap (chR bs)).find? (Yb bs)=none)∧Hid (Below W.heap.size W wr)) (fun i _=>bs[m].chs.length-(intOf i).toNat)
   case atStart=>exact⟨0,by omega,rfl,by simp[Hid],Below.refl _ _⟩
   case round=>
    obtain⟨q,hq,rfl,HN2,F2⟩:=hrel;rename World=>wB;have hz2:=F2.o.size;have gB:wB.heap[wA.heap.size]?=some (.cells #[.slice qc bs[m].chs.length cc,.slice ps bs[m].sts.length cs,.int .u8 bs[m].e.op,.int .i64 bs[m].e.a.1,.int .i64 bs[m].e.a.2,.int .i64 bs[m].e.one.1,.int .i64 bs[m].e.one.2,.int .i64 bs[m].e.two.1,.int .i64 bs[m].e.two.2,.int .i64 bs[m].at_] 53 (0,0)):=by rw[F2.o.block _ (by omega)];exact HW.o.1
    have b0:=Qb gB 0;have b1:=Qb gB 1;have b2:=Qb gB 2;have b3:=Qb gB 3;have b4:=Qb gB 4;simp at b0 b1 b2 b3 b4;clear gB;by_cases hql:q<bs[m].chs.length
    ·have OCB:=HW.o.2.2.1.keeps (Qh F2.o) trivial trivial trivial;obtain⟨gc,pf,cf,pr,cr,rfl,_,_,OF,OR,e0,e1,e2,e3⟩:=OCB.at hql;have HCF:=HFM.o.ch _ (Qx hql);have hrl:=HCF.2.1;have HRL:=Qc hrl;have hgl:=HG2.o _ (Qx hql);have hrl2:bs[m].chs[q].rs.length≤1000:=by omega
     have HCQ:=Qc (HCG.o _ (Qx hql));have g3:=heap_alloc_last wB (.cells #[.int .i64 bs[m].chs[q].to.1,.int .i64 bs[m].chs[q].to.2,.slice pf bs[m].chs[q].gs.length cf,.slice pr bs[m].chs[q].rs.length cr] 64);have f3:=(Below.refl wB.heap.size wB).alloc (Qi _) (.cells #[.int .i64 bs[m].chs[q].to.1,.int .i64 bs[m].chs[q].to.2,.slice pf bs[m].chs[q].gs.length cf,.slice pr bs[m].chs[q].rs.length cr] 64);have s3:wB.heap.size<(wB.alloc (.cells #[.int .i64 bs[m].chs[q].to.1,.int .i64 bs[m].chs[q].to.2,.slice pf bs[m].chs[q].gs.length cf,.slice pr bs[m].chs[q].rs.length cr] 64)).heap.size:=by rw[Qt];omega
     have H3:=Qc (And.intro g3 (And.intro (F2.o.trans (f3.mono hz2)) (And.intro (Qd OF (Qh f3) trivial) (Qd OR (Qh f3) trivial))));clear OCB OF OR g3 f3 HCF hrl b1 b2 b3 b4;go_wp2_with fail;clear e0 e1 e2 e3 b0;generalize wB.alloc (.cells #[.int .i64 bs[m].chs[q].to.1,.int .i64 bs[m].chs[q].to.2,.slice pf bs[m].chs[q].gs.length cf,.slice pr bs[m].chs[q].rs.length cr] 64)=W3 at *
     go_loopw [7] (fun i wr=>∃t:Nat,t≤bs[m].chs[q].rs.length∧i=.int .i64 t∧Hid (((chR bs bs[m].chs[q]).take t).find? (Yb bs)=none)∧Hid (Below W3.heap.size W3 wr)) (fun i _=>bs[m].chs[q].rs.length-(intOf i).toNat)
     case atStart=>exact⟨0,by omega,rfl,by simp[Hid],Below.refl _ _⟩
     case round=>
      obtain⟨t,ht,rfl,HN3,F3⟩:=hrel;rename World=>wC;have hz3:=F3.o.size;have gC:wC.heap[wB.heap.size]?=some (.cells #[.int .i64 bs[m].chs[q].to.1,.int .i64 bs[m].chs[q].to.2,.slice pf bs[m].chs[q].gs.length cf,.slice pr bs[m].chs[q].rs.length cr] 64 (0,0)):=by rw[F3.o.block _ (by omega)];exact H3.o.1
      have c2:=Qb gC 2;have c3:=Qb gC 3;simp at c2 c3;clear gC;by_cases htl:t<bs[m].chs[q].rs.length
      ·have htg:t<bs[m].chs[q].gs.length:=by have:=HRL.o;omega
       have OFC:=Qd H3.o.2.2.1 (Qh F3.o) trivial;have ORC:=Qd H3.o.2.2.2 (Qh F3.o) trivial;obtain⟨gf,rfl,_,_⟩:=Qk OFC (by omega);obtain⟨gr,rfl,_,_⟩:=Qk ORC (by omega);have f0:=Qf OFC (Zt htg).1;have r0:=Qf ORC (Zt htl).1;have r1:=Qf ORC (Zt htl).2;have hfr:=HCQ.o _ (Qx htg);have FC:=H3.o.2.1.trans (F3.o.mono (show W.heap.size≤W3.heap.size by have:=H3.o.2.1.size;omega));have FCw:=HW.o.2.1.trans (FC.mono zW);have kg:=(FCw.cell (p:=⟨gp,0,none⟩) hgw).trans HK0.o;obtain⟨gv',qf,ccf,psf,csf,hgv',_,_,_,_,hcf⟩:=(HBL.o.keeps3 (Qr.below FCw)).at hfr;cases hgv';have df:=hcf 1 _ rfl;obtain⟨hct,hce⟩:=Qj3 (bs:=bs) HRL.o htl;have HCE:=Qc hce;have HBF:=Qc (Zj hfr);have HGC:=Qc (HG.o.keeps (w':=wC.drew) ⟨FCw.os,FCw.tape,FCw.output,FCw.size,FCw.block⟩);have FCH:=Qc FCw;have h3s:=H3.o.2.1.size;clear OFC ORC hcf hce FC FCw;go_wp2_with fail
       go_region_law (first | (refine Z1 rfl 54 #[.pointer (some ⟨gp,0,none⟩),.int .i64 bs[m].chs[q].rs[t].1,.int .i64 bs[m].chs[q].gs[t].1,.int .i64 bs[bs[m].chs[q].gs[t].1].sts.length] (by go_simp) (QjC bs base B gp _ bs[m].chs[q].rs[t].1 bs[m].chs[q].gs[t].1 bs[bs[m].chs[q].gs[t].1].sts.length wC.drew HGC.o hfr hl) ?_;rintro e wD ⟨rfl,fD⟩;have fD':Below wC.heap.size wC wD:=⟨fD.os,fD.tape,fD.output,fD.size,fD.block⟩;have sD:=fD'.size;have y3:=fD'.cell (p:=⟨wB.heap.size,3,none⟩) (show wB.heap.size<wC.heap.size by omega);have y5:=(fD'.cell (p:=⟨gr,t*2+1,none⟩) (World.block_lt_of_cell? _ _ r1)).trans r1;have FD:=Qc fD';clear fD fD') | fail)
       all_goals
        cases hmy:VJ bs bs[m].chs[q].rs[t].1 bs[m].chs[q].gs[t].1 bs[bs[m].chs[q].gs[t].1].sts.length with
        | true=>
         have HN5:=Qc (Xe hct HN3.o (by rw[HCE.o,Yb,HBF.o,hmy];rfl));have FF:=Qc (F3.o.trans (FD.o.mono hz3));clear hmy;go_wp2_with fail;go_roundw
         case rel=>exact⟨t+1,by omega,by go_num,HN5,FF⟩
         case measure=>simp[intOf];omega
        | false=>
         have HAM:Hid (amF bs=some (chR bs bs[m].chs[q])[t]):=YJ hlt HN1.o (by rw[HBK.o];exact Gc (XR hql HN2.o (Z8 hct HN3.o (by rw[HCE.o,Yb,HBF.o,hmy];rfl))));have FF:=Qc (FCH.o.trans (FD.o.mono (show w.heap.size≤wC.heap.size by omega)));clear hmy;go_wp2_with fail;go_ret;exact⟨by rw[HAM.o,HCE.o];rfl,FF.o⟩
      ·have hte:t=bs[m].chs[q].rs.length:=by omega
       have HN4:Hid (((bs[m].chs.take (q+1)).flatMap (chR bs)).find? (Yb bs)=none):=X9 hql HN2.o (by have:=HN3.o;rwa [Zg (by rw[chR,List.length_map,List.length_zip];omega)]at this);have FF:=Qc (H3.o.2.1.trans (F3.o.mono (show W.heap.size≤W3.heap.size by have:=H3.o.2.1.size;omega)));clear hte HN3 c2;go_wp2_with fail;go_roundw
       case rel=>exact⟨q+1,by omega,by go_num,HN4,FF⟩
       case measure=>simp[intOf];omega
    ·have hqe:q=bs[m].chs.length:=by omega
     have HNC:Hid ((bs[m].chs.flatMap (chR bs)).find? (Yb bs)=none):=by have:=HN2.o;rwa [hqe,List.take_length]at this
     clear hqe HN2 b2 b3 b4;go_wp2_with fail;clear b0 b1
     go_loopw [10] (fun i wr=>∃k:Nat,k≤bs[m].sts.length∧i=.int .i64 k∧Hid (((List.range k).flatMap (stR bs[m] m)).find? (Yb bs)=none)∧Hid (Below W.heap.size W wr)) (fun i _=>bs[m].sts.length-(intOf i).toNat)
     case atStart=>exact⟨0,by omega,rfl,by simp[Hid],F2⟩
     case round=>
      obtain⟨k,hk,rfl,HN4,F4⟩:=hrel;rename World=>wE;have hz4:=F4.o.size;have gE:wE.heap[wA.heap.size]?=some (.cells #[.slice qc bs[m].chs.length cc,.slice ps bs[m].sts.length cs,.int .u8 bs[m].e.op,.int .i64 bs[m].e.a.1,.int .i64 bs[m].e.a.2,.int .i64 bs[m].e.one.1,.int .i64 bs[m].e.one.2,.int .i64 bs[m].e.two.1,.int .i64 bs[m].e.two.2,.int .i64 bs[m].at_] 53 (0,0)):=by rw[F4.o.block _ (by omega)];exact HW.o.1
      have b1:=Qb gE 1;have b2:=Qb gE 2;have b3:=Qb gE 3;have b4:=Qb gE 4;simp at b1 b2 b3 b4;have FEw:=HW.o.2.1.trans (F4.o.mono zW);have FEH:=Qc FEw;have hzE:=FEw.size;clear FEw;by_cases hkl:k<bs[m].sts.length
      ·have OS:=Qd HW.o.2.2.2 (Qh F4.o) trivial;obtain⟨gs,rfl,_,_⟩:=Qk OS (by omega);have t0:wE.cell? ⟨gs,k*8,none⟩=some (.int .u8 bs[m].sts[k].op):=Qf OS (Qs hkl (k:=0) (by omega));have t1:wE.cell? ⟨gs,k*8+1,none⟩=some (.int .i64 bs[m].sts[k].to.1):=Qf OS (Qs hkl (k:=1) (by omega));have t2:wE.cell? ⟨gs,k*8+2,none⟩=some (.int .i64 bs[m].sts[k].to.2):=Qf OS (Qs hkl (k:=2) (by omega));have t3:wE.cell? ⟨gs,k*8+3,none⟩=some (.int .i64 bs[m].sts[k].a.1):=Qf OS (Qs hkl (k:=3) (by omega));have t4:wE.cell? ⟨gs,k*8+4,none⟩=some (.int .i64 bs[m].sts[k].a.2):=Qf OS (Qs hkl (k:=4) (by omega));have t5:wE.cell? ⟨gs,k*8+5,none⟩=some (.int .i64 bs[m].sts[k].b.1):=Qf OS (Qs hkl (k:=5) (by omega));have t6:wE.cell? ⟨gs,k*8+6,none⟩=some (.int .i64 bs[m].sts[k].b.2):=Qf OS (Qs hkl (k:=6) (by omega));have t7:wE.cell? ⟨gs,k*8+7,none⟩=some (.int .i64 bs[m].sts[k].n):=Qf OS (Qs hkl (k:=7) (by omega));have hrl:=Qed bs[m].sts[k];have HST:Hid (stR bs[m] m k=(rdsF bs[m].sts[k]).map (fun r=>(⟨r.1,r.2,m,k⟩:Use))):=by show _=_;rw[stR,Zl hkl]
       clear OS gE b2 b3 b4;go_wp2_with fail;refine(Qeb bs[m].sts[k] wE).mono ?_;rintro r wF ⟨vr,rfl,oF,fF⟩;obtain⟨pF,cF,rfl⟩:=Qa oF;have sF:=fF.size;have HF:=Qc (And.intro oF fF);clear oF fF t0 t1 t2 t3 t4 t5 t6 t7 b1;generalize rdsF bs[m].sts[k]=rq at *;go_wp2_with fail
       go_loopw [12] (fun i wr=>∃t:Nat,t≤rq.length∧i=.int .i64 t∧Hid (((rq.map (fun r=>(⟨r.1,r.2,m,k⟩:Use))).take t).find? (Yb bs)=none)∧Hid (Below wF.heap.size wF wr)) (fun i _=>rq.length-(intOf i).toNat)
       case atStart=>exact⟨0,by omega,rfl,by simp[Hid],Below.refl _ _⟩
       case round=>
        obtain⟨t,ht,rfl,HN5,F5⟩:=hrel;rename World=>wG;have hz5:=F5.o.size;by_cases htl:t<rq.length
        ·have OX:=Qd HF.o.1 (Qh F5.o) trivial;obtain⟨gr,rfl,_,_⟩:=Qk OX (by omega);have r0:=Qf OX (Zt htl).1;have r1:=Qf OX (Zt htl).2;have FGw:=FEH.o.trans ((HF.o.2.trans (F5.o.mono sF)).mono hzE);have htm:t<(rq.map (fun r=>(⟨r.1,r.2,m,k⟩:Use))).length:=by rw[List.length_map];exact htl
         have HCE:Hid ((rq.map (fun r=>(⟨r.1,r.2,m,k⟩:Use)))[t]=⟨rq[t].1,rq[t].2,m,k⟩):=by show _=_;rw[List.getElem_map]
         have HGC:=Qc (And.intro (HG.o.keeps FGw) FGw);have hzG:=FGw.size;clear OX FGw;go_wp2_with fail;refine(QjC bs base B gp _ rq[t].1 m k wG HGC.o.1 hlt hl).mono ?_;rintro e wH ⟨rfl,fH⟩;have y5:=(fH.cell (p:=⟨gr,t*2+1,none⟩) (Zh _ _ r1)).trans r1;have FH:=Qc fH;clear fH r0
         cases hmy:VJ bs rq[t].1 m k with
         | true=>
          have HN6:=Qc (Xe htm HN5.o (by rw[HCE.o,Yb,hmy];rfl));have FF:=Qc (F5.o.trans (FH.o.mono hz5));clear hmy r1;go_wp2_with fail;go_roundw
          case rel=>exact⟨t+1,by omega,by go_num,HN6,FF⟩
          case measure=>simp[intOf];omega
         | false=>
          have HAM:Hid (amF bs=some ⟨rq[t].1,rq[t].2,m,k⟩):=YJ hlt HN1.o (by rw[HBK.o];exact Ug HNC.o (Gc (YJ hkl HN4.o (by rw[HST.o,←HCE.o];exact Z8 htm HN5.o (by rw[HCE.o,Yb,hmy];rfl)))));have FF:=Qc (HGC.o.2.trans (FH.o.mono hzG));clear hmy r1;go_wp2_with fail;go_ret;exact⟨by rw[HAM.o];rfl,FF.o⟩
        ·have hte:t=rq.length:=by omega
         have HN6:Hid (((List.range (k+1)).flatMap (stR bs[m] m)).find? (Yb bs)=none):=Vf HN4.o (by rw[HST.o];have:=HN5.o;rwa [Zg (by rw[List.length_map];omega)]at this);have FF:=Qc (F4.o.trans ((HF.o.2.trans (F5.o.mono sF)).mono hz4));clear hte HN5;go_wp2_with fail;go_roundw
         case rel=>exact⟨k+1,by omega,by go_num,HN6,FF⟩
         case measure=>simp[intOf];omega
      ·have hke:k=bs[m].sts.length:=by omega
       have HNS:Hid (((List.range bs[m].sts.length).flatMap (stR bs[m] m)).find? (Yb bs)=none):=by have:=HN4.o;rwa [hke]at this
       clear hke HN4 gE;by_cases h63:bs[m].e.op=63
       ·have hd:((bs[m].e.op:Int)==63)=true:=by simp;omega
        have HEN:Hid (enR bs[m] m=[⟨bs[m].e.a.1,bs[m].e.a.2,m,bs[m].sts.length⟩]):=by show _=_;rw[enR,XA,if_pos h63];rfl
        have HGC:=Qc (HG.o.keeps FEH.o);clear h63;go_wp2_with fail;refine(QjC bs base B gp _ bs[m].e.a.1 m bs[m].sts.length wE HGC.o hlt hl).mono ?_;rintro e wH ⟨rfl,fH⟩;have y4:=(fH.cell (p:=⟨wA.heap.size,4,none⟩) (show wA.heap.size<wE.heap.size by omega)).trans b4;have FH:=Qc (FEH.o.trans (fH.mono hzE));clear fH b1 b2 b3 b4
        cases hmy:VJ bs bs[m].e.a.1 m bs[m].sts.length with
        | true=>
         have HN6:Hid ((Qef bs (m+1)).find? (Yb bs)=none):=Vf HN1.o (by rw[HBK.o];exact YD HNC.o (YD HNS.o (by rw[HEN.o];simp[Yb,hmy])));clear hmy;go_wp2_with fail;go_roundw
         case rel=>exact⟨m+1,by omega,by go_num,HN6,FH⟩
         case measure=>simp[intOf];omega
        | false=>
         have HAM:Hid (amF bs=some ⟨bs[m].e.a.1,bs[m].e.a.2,m,bs[m].sts.length⟩):=YJ hlt HN1.o (by rw[HBK.o];exact Ug HNC.o (Ug HNS.o (by rw[HEN.o];simp[Yb,hmy])));clear hmy;go_wp2_with fail;go_ret;exact⟨by rw[HAM.o];rfl,FH.o⟩
       ·have hd:((bs[m].e.op:Int)==63)=false:=by simp;omega
        have HN6:Hid ((Qef bs (m+1)).find? (Yb bs)=none):=Vf HN1.o (by rw[HBK.o];exact YD HNC.o (YD HNS.o (by rw[enR,XA,if_neg h63];rfl)));clear h63;go_wp2_with fail;go_roundw
        case rel=>exact⟨m+1,by omega,by go_num,HN6,FEH⟩
        case measure=>simp[intOf];omega
  ·have hme:m=bs.length:=by omega
   have HAM:Hid (amF bs=none):=by have:=HN1.o;rw[hme]at this;exact this
   clear hme HN1;go_wp2_with fail;go_ret;exact⟨by rw[HAM.o];rfl,F.o⟩
def sgE(bs:List Qm):Nat×Int:=match twF (gvU bs) with|some u=>(8,u.p)|none=>match amF bs with|some u=>(9,u.p)|none=>(0,0)
theorem Qdi(bs:List Qm)(base:Nat)(v:Value)(w:World)(h:QR w base bs v)(hgl:Hid (∀b∈bs,∀p∈goalsF b.e,p.1<bs.length))(hf:Hid (∀b∈bs,QU 1000000 b))(hg2:Hid (∀b∈bs,∀c∈b.chs,c.gs.length≤1000))(hcg:Hid (∀b∈bs,∀c∈b.chs,∀p∈c.gs,p.1<bs.length))(hn0:0<bs.length)(hn:bs.length≤1000):
  Calls prog 9 #[v] w fun x w'=>x=.returned (.tuple #[.int .i64 (sgE bs).1,.int .i64 (sgE bs).2])∧Below w.heap.size w w':=by
 obtain⟨pv,cv,rfl⟩:=h.slice;have HB:=Qc h;clear h;go_enter func9,ntmps9;go_wp2_with fail;refine(QdW bs base _ w HB.o hf hn).mono ?_;rintro x w1 ⟨v1,rfl,H1⟩;have hl:=H1.o.2.1;have F1:=Qc H1.o.2.2;have s1:=F1.o.size
 cases ht:twF (gvU bs) with
 | some u=>
  have HE:Hid (sgE bs=(8,(u.p:Int))):=by show _=_;rw[sgE,ht]
  clear ht H1;simp only[atO];go_wp2_with fail
  go_ret2
  exact⟨by rw[HE.o];rfl,F1.o⟩
 | none=>
  have HT:=Qc ht;clear ht H1;simp only[atO];go_wp2_with fail;refine(QjO bs base _ w1 (HB.o.keeps3 (Qr.below F1.o)) hgl hf hn0 hn).mono ?_;rintro x w2 ⟨gp,rfl,H2⟩;have s2:=H2.o.2.size;go_wp2_with fail;refine(Qj9 bs base w1.heap.size gp _ w2 H2.o.1 hf hg2 hcg hl hn).mono ?_;rintro x w3 ⟨rfl,f3⟩;have F3:=Qc (F1.o.trans ((H2.o.2.trans (f3.mono s2)).mono s1));clear f3 H2
  cases ha:amF bs with
  | some u=>
   have HE:Hid (sgE bs=(9,(u.p:Int))):=by show _=_;rw[sgE,HT.o];simp only;rw[ha]
   clear ha;simp only[atO];go_wp2_with fail
   go_ret2
   exact⟨by rw[HE.o];rfl,F3.o⟩
  | none=>
   have HE:Hid (sgE bs=(0,0)):=by show _=_;rw[sgE,HT.o];simp only;rw[ha]
   clear ha;simp only[atO];go_wp2_with fail
   go_ret2
   exact⟨by rw[HE.o];rfl,F3.o⟩
theorem QX(bs:List Qm)(i:Nat):bkA (absP bs) i=Xf (bkF bs i):=by
 rcases Nat.lt_or_ge i bs.length with h|h
 ·rw[Ya (by simpa[absP] using h),Zj h];simp[absP]
 ·rw[bkA,List.getElem?_eq_none (by simpa[absP] using h),bkF,List.getElem?_eq_none h];rfl
theorem Qih{bs:List Qm}{i:Nat}(h:i<bs.length):bkF bs i∈bs:=by rw[Zj h];exact Qx h
theorem Qb8(e:Z6):gsA (ZT e)=(goalsF e).map (·.1):=by
 unfold gsA goalsF;show (if e.op=62 then [e.one.1] else if e.op=63 then [e.one.1,e.two.1] else [])=_;split
 ·rfl
 ·split<;>rfl
theorem Qii{l:List (Nat×Nat)}(h:l.length≤2){x:Nat}:x∈XY l↔x∈l.map (·.1):=by
 match l,h with
 | [],_=>simp[XY]
 | [p],_=>simp[XY]
 | [p,q],_=>
  simp only[XY];split
  ·rename_i e;simp[e]
  ·simp
theorem KO(bs:List Qm)(i x:Nat):x∈suA (absP bs) i↔x∈suF bs i:=by
 rw[suA,QX];show x∈gsA (ZT (bkF bs i).e)↔_;rw[Qb8];rcases Nat.lt_or_ge i bs.length with h|h
 ·rw[V5 h,Zj h,←WN,toR,Qii (ZH _)]
 ·rw[suF,bkF,List.getElem?_eq_none h];simp[goalsF,KG]
theorem GC{su su':Nat→List Nat}(h:∀i x,x∈su i↔x∈su' i){bar:Nat→Bool}{k:Nat}(hr:Rch su bar k):Rch su' bar k:=by
 induction hr with
 | zero hb=>exact .zero hb
 | step _ hk hb ih=>exact .step ih ((h _ _).1 hk) hb
theorem KT(bs:List Qm)(bar:Nat→Bool)(k:Nat):Rch (suA (absP bs)) bar k↔Rch (suF bs) bar k:=
 ⟨GC (KO bs),GC fun i x=>(KO bs i x).symm⟩
def coF(bs:List Qm)(b:Nat):Bool:=rchF (suF bs) bs.length noB b
theorem VT{bs:List Qm}(hr:J5 bs)(b:Nat):coF bs b=true↔Cm (absP bs) b:=by
 rw[coF,KB hr.pos (XB hr.goals),Cm,KT]
theorem Jt{bs:List Qm}(hr:J5 bs){a b:Nat}:ZG (suF bs) bs.length a b=true↔Ovr (suA (absP bs)) a b:=by
 rw[YL hr.pos (XB hr.goals),Ovr,Ovr,KT,KT]
theorem Yc(bs:List Qm)(b:Nat):aheF bs b=Jk (absP bs) b:=by
 unfold aheF Xc Jk;rw[show (absP bs).length=bs.length by simp[absP]];refine List.filter_congr fun i hi=>?_;have hi:=List.mem_range.1 hi;have:WL bs b i=true↔(suA (absP bs) i).contains b=true:=by
  rw[List.contains_iff_mem,KO,V5 hi,←WN,WL,Zl hi];show QD (XY (goalsF bs[i].e)) b=true↔_;rw[QD,List.contains_iff_mem];rfl
 cases h1:WL bs b i<;>cases h2:(suA (absP bs) i).contains b<;>simp_all
theorem RV{bs:List Qm}{b:Nat}{c:ACh}(h:c∈(bkA (absP bs) b).chs):∃d∈(bkF bs b).chs,c=Zn d∧b<bs.length:=by
 rw[QX]at h;obtain⟨d,hd,rfl⟩:=Qv.1 h;refine⟨d,hd,rfl,?_⟩;rcases Nat.lt_or_ge b bs.length with h|h
 ·exact h
 ·rw[bkF,List.getElem?_eq_none h]at hd;simp at hd
theorem Qbo{α β:Type}:∀{l:List α}{k:List β},l.length=k.length→(l.zip k).map (·.1)=l
 | [],[],_=>rfl
 | [],_::_,h=>by simp at h
 | _::_,[],h=>by simp at h
 | a::l,b::k,h=>by rw[List.zip_cons_cons,List.map_cons,Qbo (by simpa using h)]
theorem Qaw{c:Q0}(h:c.rs.length=c.gs.length):(Zn c).src.map (·.1)=Zw c.gs:=Qbo (by simp[h])
theorem K4(t:Qz):gvS (QK t)=if t.op=33 then none else some t.to.1:=by
 unfold QK;by_cases h1:t.op=118
 ·rw[if_pos h1,if_neg (by omega)];rfl
 rw[if_neg h1];by_cases h2:t.op=99
 ·rw[if_pos h2,if_neg (by omega)];rfl
 rw[if_neg h2];by_cases h3:t.op=33
 ·rw[if_pos h3,if_pos h3];rfl
 rw[if_neg h3,if_neg h3];by_cases h4:t.op=63
 ·rw[if_pos h4];rfl
 rw[if_neg h4];rfl
theorem VA(t:Qz):rdS (QK t)=(rdsF t).map (·.1):=by
 unfold QK rdsF;by_cases h1:t.op=118
 ·simp[h1,rdS]
 by_cases h2:t.op=99
 ·simp[h2,rdS]
 by_cases h3:t.op=33
 ·simp[h3,rdS]
 by_cases h4:t.op=63
 ·simp[h4,rdS]
 simp[h1,h2,h3,h4,rdS]
theorem Qfm{bs:List Qm}{r b:Nat}{s:Int}:Gv (absP bs) r b s↔∃u∈gvU bs,u.n=r∧u.b=b∧u.s=s:=by
 constructor
 ·intro g;have hb:b<bs.length:=by
   rcases Nat.lt_or_ge b bs.length with h|h
   ·exact h
   ·exfalso;have e:bkA (absP bs) b=UH:=by rw[bkA,List.getElem?_eq_none (by simpa[absP] using h)];rfl
    rcases g with ⟨_,c,hc,_⟩|⟨j,_,t,ht,_⟩
    ·rw[e]at hc;simp[UH]at hc
    ·rw[e]at ht;simp[UH]at ht
  rcases g with ⟨rfl,c,hc,rfl⟩|⟨j,rfl,t,ht,hg⟩
  ·obtain⟨d,hd,rfl,_⟩:=RV hc;exact⟨chU b d,List.mem_flatMap.2 ⟨b,List.mem_range.2 hb,List.mem_append_left _ (Qv.2 ⟨d,hd,rfl⟩)⟩,rfl,rfl,rfl⟩
  ·rw[QX]at ht;have ht:((bkF bs b).sts.map QK)[j]?=some t:=ht;rw[List.getElem?_map]at ht
   cases hx:(bkF bs b).sts[j]? with
   | none=>rw[hx]at ht;cases ht
   | some x=>
    rw[hx]at ht;have ht:QK x=t:=by simpa using ht
    subst ht;rw[K4]at hg;by_cases h33:x.op=33
    ·rw[if_pos h33]at hg;cases hg
    ·rw[if_neg h33]at hg;have hg:x.to.1=r:=by simpa using hg
     have hj:j<(bkF bs b).sts.length:=by
      rcases Nat.lt_or_ge j (bkF bs b).sts.length with h|h
      ·exact h
      ·rw[ZI h]at hx;cases hx
     refine⟨⟨x.to.1,x.to.2,b,j⟩,List.mem_flatMap.2 ⟨b,List.mem_range.2 hb,List.mem_append_right _ (List.mem_flatMap.2 ⟨j,List.mem_range.2 hj,?_⟩)⟩,hg,rfl,rfl⟩;rw[stU,hx];simp[h33]
 ·rintro⟨u,hu,rfl,rfl,rfl⟩;obtain⟨i,hi,hu⟩:=List.mem_flatMap.1 hu;rcases QB.1 hu with h|h
  ·obtain⟨c,hc,rfl⟩:=Qv.1 h;refine .inl ⟨rfl,Zn c,?_,rfl⟩;rw[QX];exact Qv.2 ⟨c,hc,rfl⟩
  ·obtain⟨j,hj,h⟩:=List.mem_flatMap.1 h;have hj:=List.mem_range.1 hj;rw[stU,Zl hj]at h;dsimp only at h;by_cases h33:(bkF bs i).sts[j].op=33
   ·rw[if_pos h33]at h;simp at h
   ·rw[if_neg h33,QF]at h;subst h;refine .inr ⟨j,rfl,QK (bkF bs i).sts[j],?_,by rw[K4,if_neg h33]⟩;rw[QX];show ((bkF bs i).sts.map QK)[j]?=_;rw[List.getElem?_map,Zl hj];rfl
theorem QgX{bs:List Qm}(_hrs:∀b∈bs,∀c∈b.chs,c.rs.length=c.gs.length){r b k:Nat}(hb:b<bs.length):Rea (absP bs) r b k↔∃u∈rdU bs,u.n=r∧u.b=b∧u.s=k:=by
 have hlen:(bkA (absP bs) b).sts.length=(bkF bs b).sts.length:=by rw[QX];exact List.length_map _
 constructor
 ·intro h;rcases h with ⟨t,ht,hx⟩|⟨rfl,h|⟨b2,c,hc,hs⟩⟩
  ·rw[QX]at ht;have ht:((bkF bs b).sts.map QK)[k]?=some t:=ht;rw[List.getElem?_map]at ht
   cases hy:(bkF bs b).sts[k]? with
   | none=>rw[hy]at ht;cases ht
   | some y=>
    rw[hy]at ht;have ht:QK y=t:=by simpa using ht
    subst ht;rw[VA]at hx;obtain⟨q,hq,rfl⟩:=Qv.1 hx;have hk:k<(bkF bs b).sts.length:=by
     rcases Nat.lt_or_ge k (bkF bs b).sts.length with h|h
     ·exact h
     ·rw[ZI h]at hy;cases hy
    refine⟨⟨q.1,q.2,b,k⟩,List.mem_flatMap.2 ⟨b,List.mem_range.2 hb,List.mem_append_right _ (List.mem_append_left _ (List.mem_flatMap.2 ⟨k,List.mem_range.2 hk,?_⟩))⟩,rfl,rfl,rfl⟩;rw[stR,hy];exact Qv.2 ⟨q,hq,rfl⟩
  ·rw[QX]at h;have h:r∈rdE (ZT (bkF bs b).e):=h;unfold rdE at h;by_cases h63:(bkF bs b).e.op=63
   ·rw[if_pos (show (ZT (bkF bs b).e).op=63 from h63),QF]at h;refine⟨⟨(bkF bs b).e.a.1,(bkF bs b).e.a.2,b,(bkF bs b).sts.length⟩,List.mem_flatMap.2 ⟨b,List.mem_range.2 hb,List.mem_append_right _ (List.mem_append_right _ ?_)⟩,h.symm,rfl,by show ((bkF bs b).sts.length:Int)=_;rw[hlen]⟩;unfold enR XA;rw[if_pos h63];simp
   ·rw[if_neg (show ¬(ZT (bkF bs b).e).op=63 from h63)]at h;simp at h
  ·obtain⟨d,hd,rfl,hb2⟩:=RV hc;have hs:(b,r)∈(d.gs.map (·.1)).zip (d.rs.map (·.1)):=hs;rw[List.zip_map]at hs;obtain⟨p,hp,e⟩:=Qv.1 hs;have e1:p.1.1=b:=congrArg (·.1) e;have e2:p.2.1=r:=congrArg (·.2) e;refine⟨⟨p.2.1,p.2.2,p.1.1,(bkF bs p.1.1).sts.length⟩,List.mem_flatMap.2 ⟨b2,List.mem_range.2 hb2,List.mem_append_left _ (List.mem_flatMap.2 ⟨d,hd,Qv.2 ⟨p,hp,rfl⟩⟩)⟩,e2,e1,by rw[hlen,e1]⟩
 ·rintro⟨u,hu,rfl,rfl,hk⟩;obtain⟨i,hi,hu⟩:=List.mem_flatMap.1 hu;have hi:=List.mem_range.1 hi;rcases QB.1 hu with h|h
  ·obtain⟨c,hc,h⟩:=List.mem_flatMap.1 h;obtain⟨p,hp,rfl⟩:=Qv.1 h;have hk:((bkF bs p.1.1).sts.length:Int)=k:=hk;refine .inr ⟨by rw[hlen];show k=(bkF bs p.1.1).sts.length;omega,.inr ⟨i,Zn c,by rw[QX];exact Qv.2 ⟨c,hc,rfl⟩,?_⟩⟩;show (p.1.1,p.2.1)∈(c.gs.map (·.1)).zip (c.rs.map (·.1));rw[List.zip_map];exact Qv.2 ⟨p,hp,rfl⟩
  ·rcases QB.1 h with h|h
   ·obtain⟨j,hj,h⟩:=List.mem_flatMap.1 h;have hj:=List.mem_range.1 hj;rw[stR,Zl hj]at h;obtain⟨q,hq,rfl⟩:=Qv.1 h;have hk:(j:Int)=k:=hk;have:j=k:=by omega
    subst this;refine .inl ⟨QK (bkF bs i).sts[j],?_,by rw[VA];exact Qv.2 ⟨q,hq,rfl⟩⟩;rw[QX];show ((bkF bs i).sts.map QK)[j]?=_;rw[List.getElem?_map,Zl hj];rfl
   ·unfold enR XA at h;obtain⟨q,hq,rfl⟩:=Qv.1 h;have hk:((bkF bs i).sts.length:Int)=k:=hk;refine .inr ⟨by rw[hlen];show k=(bkF bs i).sts.length;omega,.inl ?_⟩;rw[QX];show q.1∈rdE (ZT (bkF bs i).e);unfold rdE;by_cases h63:(bkF bs i).e.op=63
    ·rw[if_pos h63,QF]at hq;subst hq;rw[if_pos (show (ZT (bkF bs i).e).op=63 from h63)];exact QF.2 rfl
    ·rw[if_neg h63]at hq;simp at hq
theorem Nm:∀{l:List Use}{seen:List Nat},twG seen l=none↔(l.map (·.n)).Nodup∧∀u∈l,u.n∉seen
 | [],seen=>by simp[twG]
 | u::l,seen=>by
  rw[twG];by_cases h:seen.contains u.n=true
  ·rw[if_pos h];constructor
   ·intro e;cases e
   ·intro e;exact absurd (List.contains_iff_mem.1 h) (e.2 u (List.mem_cons_self ..))
  ·rw[if_neg h,Nm,List.map_cons,List.nodup_cons];have h:=fun e=>h (List.contains_iff_mem.2 e);constructor
   ·rintro⟨h1,h2⟩;refine⟨⟨fun e=>?_,h1⟩,fun v hv=>?_⟩
    ·obtain⟨v,hv,e⟩:=Qv.1 e;exact h2 v hv (by rw[e];simp)
    ·rcases List.mem_cons.1 hv with rfl|hv
     ·exact h
     ·exact fun e=>h2 v hv (List.mem_append_left _ e)
   ·rintro⟨⟨h1,h2⟩,h3⟩;refine⟨h2,fun v hv e=>?_⟩;rcases QB.1 e with e|e
    ·exact h3 v (ZD _ hv) e
    ·rw[QF]at e;exact h1 (Qv.2 ⟨v,hv,e⟩)
theorem Qbr:∀{l:List Use},(l.map (·.n)).Nodup→∀{u v:Use},u∈l→v∈l→u.n=v.n→u=v
 | [],_,_,_,h,_,_=>by simp at h
 | x::l,hd,u,v,hu,hv,e=>by
  rw[List.map_cons,List.nodup_cons]at hd;rcases List.mem_cons.1 hu with hux|hu
  ·rcases List.mem_cons.1 hv with hvx|hv
   ·rw[hux,hvx]
   ·exact absurd (Qv.2 ⟨v,hv,by rw[←e,hux]⟩) hd.1
  ·rcases List.mem_cons.1 hv with hvx|hv
   ·exact absurd (Qv.2 ⟨u,hu,by rw[e,hvx]⟩) hd.1
   ·exact Qbr hd.2 hu hv e
theorem QdK{l:List Use}(hd:(l.map (·.n)).Nodup){u:Use}(hu:u∈l):l.find? (fun x=>x.n==u.n)=some u:=by
 cases h:l.find? (fun x=>x.n==u.n) with
 | none=>
  rw[List.find?_eq_none]at h;exact absurd (h u hu) (by simp)
 | some v=>
  have h1:=List.find?_some h;have h2:=List.mem_of_find?_eq_some h;rw[Qbr hd h2 hu (by simpa using h1)]
theorem Qi5{bs:List Qm}(hr:J5 bs)(hcg:∀b∈bs,∀c∈b.chs,∀p∈c.gs,p.1<bs.length)(h:Sgl (absP bs)):sgE bs=(0,0):=by
 have hd:((gvU bs).map (·.n)).Nodup:=by
  have hP:(gvU bs).Pairwise fun u v=>u.n≠v.n:=by
   rw[gvU,Qaa,List.pairwise_flatMap];have hmem:∀{i u},i<bs.length→u∈Qa8 (bkF bs i) i→Gv (absP bs) u.n i u.s:=fun {i u} hi hu=>Qfm.2 ⟨u,List.mem_flatMap.2 ⟨i,List.mem_range.2 hi,hu⟩,rfl,Qfq hu,rfl⟩;refine⟨fun i hi=>?_,?_⟩
   ·have hi:=List.mem_range.1 hi;rw[Qa8,List.pairwise_append];refine⟨?_,?_,fun u hu v hv e=>?_⟩
    ·have:=h.chs i;rw[QX]at this;have this:(((bkF bs i).chs.map Zn).map (·.to)).Nodup:=this;rw[List.map_map]at this;exact List.pairwise_map.2 (List.pairwise_map.1 this)
    ·rw[List.pairwise_flatMap];refine⟨fun j hj=>?_,?_⟩
     ·rw[stU];split
      ·split
       ·exact List.Pairwise.nil
       ·exact List.pairwise_singleton _ _
      ·exact List.Pairwise.nil
     ·refine List.Pairwise.imp_of_mem ?_ List.nodup_range;intro j j' hj hj' hne u hu v hv e;have g1:=hmem hi (List.mem_append_right _ (List.mem_flatMap.2 ⟨j,hj,hu⟩));have g2:=hmem hi (List.mem_append_right _ (List.mem_flatMap.2 ⟨j',hj',hv⟩));rw[e]at g1;have e1:∀{j:Nat} {u:Use},u∈stU (bkF bs i) i j→u.s=j:=fun {j u} hu=>by
       rw[stU]at hu;split at hu
       ·split at hu
        ·simp at hu
        ·rw[QF]at hu;rw[hu]
       ·simp at hu
      have:=(h.one g1 g2).2;rw[e1 hu,e1 hv]at this;omega
    ·have g1:=hmem hi (List.mem_append_left _ hu);have g2:=hmem hi (List.mem_append_right _ hv);rw[e]at g1;have:=(h.one g1 g2).2;obtain⟨c,_,rfl⟩:=Qv.1 hu;obtain⟨j,_,hv⟩:=List.mem_flatMap.1 hv;have e1:v.s=j:=by
      rw[stU]at hv;split at hv
      ·split at hv
       ·simp at hv
       ·rw[QF]at hv;rw[hv]
      ·simp at hv
     rw[e1]at this;have this:(-1:Int)=j:=this;omega
   ·refine List.Pairwise.imp_of_mem ?_ List.nodup_range;intro i i' hi hi' hne u hu v hv e;have g1:=hmem (List.mem_range.1 hi) hu;have g2:=hmem (List.mem_range.1 hi') hv;rw[e]at g1;exact hne (h.one g1 g2).1
  exact List.pairwise_map.2 hP
 have h1:twF (gvU bs)=none:=Nm.2 ⟨hd,fun _ _=>by simp⟩;have h2:amF bs=none:=by
  rw[amF,List.find?_eq_none];intro u hu;rw[Yb,Bool.not_eq_true',Bool.not_eq_false];rw[VJ];have hul:u.b<bs.length:=by
   obtain⟨i,hi,hu⟩:=List.mem_flatMap.1 hu;have hi:=List.mem_range.1 hi;rcases QB.1 hu with h|h
   ·obtain⟨c,hc,h⟩:=List.mem_flatMap.1 h;obtain⟨p,hp,rfl⟩:=Qv.1 h;exact hcg _ (Qih hi) c hc _ (List.of_mem_zip hp).1
   ·rcases QB.1 h with h|h
    ·obtain⟨j,hj,h⟩:=List.mem_flatMap.1 h;rw[stR,Zl (List.mem_range.1 hj)]at h;obtain⟨q,hq,rfl⟩:=Qv.1 h;exact hi
    ·obtain⟨q,hq,rfl⟩:=Qv.1 h;exact hi
  have hus:∃k:Nat,u.s=k:=by
   obtain⟨i,hi,hu⟩:=List.mem_flatMap.1 hu;rcases QB.1 hu with h|h
   ·obtain⟨c,hc,h⟩:=List.mem_flatMap.1 h;obtain⟨p,hp,rfl⟩:=Qv.1 h;exact⟨_,rfl⟩
   ·rcases QB.1 h with h|h
    ·obtain⟨j,hj,h⟩:=List.mem_flatMap.1 h;rw[stR,Zl (List.mem_range.1 hj)]at h;obtain⟨q,hq,rfl⟩:=Qv.1 h;exact⟨j,rfl⟩
    ·obtain⟨q,hq,rfl⟩:=Qv.1 h;exact⟨_,rfl⟩
  obtain⟨k,hk⟩:=hus;by_cases hc:rchF (suF bs) bs.length noB u.b=true
  ·rw[if_pos hc];obtain⟨b',s',g,p⟩:=h.rd ((QgX hr.rs hul).2 ⟨u,hu,rfl,rfl,hk⟩) ((VT hr _).1 hc);obtain⟨v,hv,e,rfl,rfl⟩:=Qfm.1 g;rw[←e,QdK hd hv];dsimp only;rcases p with ⟨e1,p⟩|⟨e1,p⟩
   ·rw[if_pos e1,hk];simpa using p
   ·rw[if_neg e1];exact(Jt hr).2 p
  ·rw[if_neg hc]
 rw[sgE,h1];dsimp only;rw[h2]
structure Grd(w:World)(bs:List Qm)(base B:Nat)(v va vu:Value):Prop where
 p:PBs w base bs v
 a:w.ownsRow B 143 1 va (QT bs).length (Qe (QT bs))
 u:XK B w vu bs.length (QW bs)
theorem Grd.keeps{w w' bs base B v va vu}(h:Grd w bs base B v va vu)(F:Below w.heap.size w w'):Grd w' bs base B v va vu:=
 ⟨h.p.keeps (Qr.below F),Qd h.a (Qh F) trivial,h.u.keeps F⟩
theorem Grd.drew{w bs base B v va vu}(h:Grd w bs base B v va vu):Grd w.drew bs base B v va vu:=h.keeps (Jj w)
theorem Grd.form{w bs base B v va vu}(h:Grd w bs base B v va vu):(∃p c,v=.slice p bs.length c)∧(∃p c,va=.slice p (QT bs).length c)∧∃p c,vu=.slice p bs.length c:=⟨h.p.slice,Qa h.a,h.u.slice⟩
theorem Grd.reach{w bs base B v va vu}(h:Grd w bs base B v va vu){b:Nat}(hb:b<bs.length)(hn:bs.length≤1000):
  Calls prog 77 #[.agg #[v,va,vu],.int .i64 b] w fun e w'=>e=.returned (.bool (coF bs b))∧Below w.heap.size w w':=by
 obtain⟨⟨p,c,rfl⟩,_,q,d,rfl⟩:=h.form;exact Qjb bs B b _ va _ w ⟨_,_,_,rfl⟩ ⟨_,_,_,rfl⟩ h.a hb hn
theorem QgE(bs:List Qm)(base B b r:Nat)(v va vu:Value)(w:World)(h:Grd w bs base B v va vu)(hb:b<bs.length)(hn:bs.length≤1000):
  Calls prog 135 #[.agg #[v,va,vu,v],.int .i64 b,.int .i64 r] w fun e w'=>e=.returned (.agg #[.int .i64 b,.int .i64 0,.int .i64 (if coF bs b then r else 0:Nat),.int .i64 0])∧Below w.heap.size w w':=by
 obtain⟨⟨p,c,rfl⟩,⟨pa,ca,rfl⟩,q,d,rfl⟩:=h.form;have H:=Qc h;clear h;obtain⟨y,hy⟩:∃y:Nat,y=if coF bs b then r else 0:=⟨_,rfl⟩;rw[←hy];have HY:=Qc hy;clear hy;go_enter func135,ntmps135;go_wp2_with fail;obtain⟨W,hW⟩:∃W,W=(w.alloc (.cells #[.slice p bs.length c,.slice pa (QT bs).length ca,.slice q bs.length d,.slice p bs.length c] 87)).alloc (.cells #[.int .i64 0,.int .i64 0,.int .i64 0,.int .i64 0] 147):=⟨_,rfl⟩;rw[←hW];have FW:Below w.heap.size w W:=by rw[hW];exact((Below.refl _ _).alloc (Nat.le_refl _) _).alloc (by simp) _
 have bW:W.heap[w.heap.size+1]?=some (.cells #[.int .i64 0,.int .i64 0,.int .i64 0,.int .i64 0] 147 (0,0)):=by
  rw[hW];have:=heap_alloc_last (w.alloc (.cells #[.slice p bs.length c,.slice pa (QT bs).length ca,.slice q bs.length d,.slice p bs.length c] 87)) (.cells #[.int .i64 0,.int .i64 0,.int .i64 0,.int .i64 0] 147);rw[Qt]at this;exact this
 have zW:=lt_of_block bW;refine((H.o.keeps FW).reach hb hn).mono ?_;rintro e w3 ⟨rfl,f3⟩;have b3:w3.heap[w.heap.size+1]?=some (.cells #[.int .i64 0,.int .i64 0,.int .i64 0,.int .i64 0] 147 (0,0)):=by rw[f3.block _ zW];exact bW
 have F3:=Qc (FW.trans (f3.mono FW.size));have k0:=Qb b3 0;have k1:=Qb b3 1;have k2:=Qb b3 2;have k3:=Qb b3 3;have kf:=Qg b3 0;have kf1:=Qg b3 1;have kf2:=Qg b3 2;have kf3:=Qg b3 3;simp at k0 k1 k2 k3;have HR:∀y:Nat,Hid (∀W4,W4=(((w3.setCell ⟨w.heap.size+1,0,none⟩ (.int .i64 b)).setCell ⟨w.heap.size+1,1,none⟩ (.int .i64 0)).setCell ⟨w.heap.size+1,2,none⟩ (.int .i64 y)).setCell ⟨w.heap.size+1,3,none⟩ (.int .i64 0)→W4.cell? ⟨w.heap.size+1,0,none⟩=some (.int .i64 b)∧W4.cell? ⟨w.heap.size+1,1,none⟩=some (.int .i64 0)∧W4.cell? ⟨w.heap.size+1,2,none⟩=some (.int .i64 y)∧W4.cell? ⟨w.heap.size+1,3,none⟩=some (.int .i64 0)∧Below w.heap.size w W4):=by
  rintro y W4 rfl;have b4:=Qq (Qq (Qq (Qq b3 0 (.int .i64 b)) 1 (.int .i64 0)) 2 (.int .i64 y)) 3 (.int .i64 0);have q0:=Qb b4 0;have q1:=Qb b4 1;have q2:=Qb b4 2;have q3:=Qb b4 3;simp at q0 q1 q2 q3;exact⟨q0,q1,q2,q3,Qp (Qp (Qp (Qp F3.o _ _ _ (by omega)) _ _ _ (by omega)) _ _ _ (by omega)) _ _ _ (by omega)⟩
 clear f3 FW bW b3 hW;have HR:=HR y;obtain⟨k,hk⟩:∃k,k=coF bs b:=⟨_,rfl⟩;rw[←hk]
 cases k with
 | true=>
  have hr:y=r:=by rw[HY.o,←hk];rfl
  subst hr;clear hk HY;go_wp2_with fail;obtain⟨q0,q1,q2,q3,F4⟩:=HR.o _ rfl;obtain⟨W4,hW4⟩:∃W4,W4=(((w3.setCell ⟨w.heap.size+1,0,none⟩ (.int .i64 b)).setCell ⟨w.heap.size+1,1,none⟩ (.int .i64 0)).setCell ⟨w.heap.size+1,2,none⟩ (.int .i64 y)).setCell ⟨w.heap.size+1,3,none⟩ (.int .i64 0):=⟨_,rfl⟩;rw[←hW4]at q0 q1 q2 q3 F4 ⊢;refine bodyPost_ret (v:=.agg #[.int .i64 b,.int .i64 0,.int .i64 y,.int .i64 0]) (by simp[results,results135,go_sem,q0,q1,q2,q3]) rfl ⟨rfl,F4⟩
 | false=>
  have hr:y=0:=by rw[HY.o,←hk];rfl
  subst hr;clear hk HY;go_wp2_with fail;obtain⟨q0,q1,q2,q3,F4⟩:=HR.o _ rfl;obtain⟨W4,hW4⟩:∃W4,W4=(((w3.setCell ⟨w.heap.size+1,0,none⟩ (.int .i64 b)).setCell ⟨w.heap.size+1,1,none⟩ (.int .i64 0)).setCell ⟨w.heap.size+1,2,none⟩ (.int .i64 0)).setCell ⟨w.heap.size+1,3,none⟩ (.int .i64 0):=⟨_,rfl⟩;rw[show ((0:Nat):Int)=0 from rfl]at q2 F4 q0 q1 q3;rw[←hW4]at q0 q1 q2 q3 F4 ⊢;refine bodyPost_ret (v:=.agg #[.int .i64 b,.int .i64 0,.int .i64 0,.int .i64 0]) (by simp[results,results135,go_sem,q0,q1,q2,q3]) rfl ⟨rfl,F4⟩
def JT(f:Nat→Nat)(e:Z6):Z6:=if e.op=63 then { e with a:=(f e.a.1,0) } else e
def YW(b:Qm):Qm:=⟨[],[],JT (fun _=>0) b.e,0⟩
theorem QcB(f:Nat→Nat)(e:Z6):ZT (JT f e)=rnE f (ZT e):=by
 unfold JT rnE;by_cases h:e.op=63
 ·rw[if_pos h,if_pos (show (ZT e).op=63 from h)];rfl
 ·rw[if_neg h,if_neg (show ¬(ZT e).op=63 from h)]
theorem Qgg(b:Qm):Xf (YW b)=Qc5 (Xf b):=by
 unfold Xf YW Qc5;dsimp only;rw[QcB];rfl
theorem unP(r:Nat)(w:World):Calls prog 78 #[.int .i64 r] w fun e w'=>e=.returned (.int .i64 0)∧w'=w:=by
 go_enter func78,ntmps78;go_wp2_with fail;go_ret;exact⟨rfl,rfl⟩
def unV:Value:=.func (.func 78) #[] #[]
theorem Qlh(r a:Nat)(w:World):Calls prog 289 #[unV,.agg #[.int .i64 r,.int .i64 a]] w fun e w'=>e=.returned (.agg #[.int .i64 0,.int .i64 0])∧Below w.heap.size w w':=by
 unfold unV;go_enter func289,ntmps289;go_wp2_with fail;refine(unP r _).mono ?_;rintro e w3 ⟨rfl,rfl⟩;go_wp2_with fail;refine bodyPost_ret (v:=.agg #[.int .i64 0,.int .i64 0]) (by simp[results,results289,go_sem]) rfl ⟨rfl,((Below.refl _ _).alloc (Nat.le_refl _) _).alloc (by simp) _⟩
end Go.Proofs.YtgfhfkgdmidhpaaGreatDoor
