import Derived.Test.YtgfhfkgdmidhpaaGreatDoorC19
namespace Go.Proofs.YtgfhfkgdmidhpaaGreatDoor
open Go.RowKit
set_option maxRecDepth 100000
set_option maxHeartbeats 8000000
theorem VA(a:Int)(n p:Nat)(w:World):Calls Tryz.prog 28 #[.int .i64 a,.agg #[.int .i64 n,.int .i64 p]] w fun e w'=>e=.returned (.int .i64 (gr a (n,p)))∧Below w.heap.size w w':=by
 have F1:=Qc ((Below.refl w.heap.size w).alloc (Nat.le_refl _) (.cells #[.int .i64 n,.int .i64 p] 48));by_cases h1:4999<n
 ·have hd1:decide ((4999:Int)<(n:Int))=true:=by simp;omega
  by_cases h2:a<0
  ·have hd2:decide (a<0)=true:=by simpa using h2
   have HG:Hid (gr a (n,p)=p):=by show _=_;unfold gr;rw[if_pos ⟨h1,.inl h2⟩]
   clear h1 h2;go_enter Tryz.func28,Tryz.ntmps28;go_wp2_with fail;go_ret;exact⟨by rw[HG.o];rfl,F1.o⟩
  ·have hd2:decide (a<0)=false:=by simpa using h2
   by_cases h3:(p:Int)<a
   ·have hd3:decide ((p:Int)<a)=true:=by simpa using h3
    have HG:Hid (gr a (n,p)=p):=by show _=_;unfold gr;rw[if_pos ⟨h1,.inr h3⟩]
    clear h1 h2 h3;go_enter Tryz.func28,Tryz.ntmps28;go_wp2_with fail;go_ret;exact⟨by rw[HG.o];rfl,F1.o⟩
   ·have hd3:decide ((p:Int)<a)=false:=by simpa using h3
    have HG:Hid (gr a (n,p)=a):=by show _=_;unfold gr;rw[if_neg (by omega)]
    clear h1 h2 h3;go_enter Tryz.func28,Tryz.ntmps28;go_wp2_with fail;go_ret;exact⟨by rw[HG.o];rfl,F1.o⟩
 ·have hd1:decide ((4999:Int)<(n:Int))=false:=by simp;omega
  have HG:Hid (gr a (n,p)=a):=by show _=_;unfold gr;rw[if_neg (by omega)]
  clear h1;go_enter Tryz.func28,Tryz.ntmps28;go_wp2_with fail;go_ret;exact⟨by rw[HG.o];rfl,F1.o⟩
theorem Qn{l:List Qy}{j:Nat}(hj:j<l.length){k:Nat}(hk:k<8):(l.flatMap Zw)[j*8+k]?=(Zw l[j])[k]?:=by
 rw[List.flatMap_def];refine ZS 8 _ j k _ (fun x hx=>?_) (by simp[hj]) hk;simp only[List.mem_map]at hx;obtain⟨t,_,rfl⟩:=hx;rfl
theorem YR{l:List (Nat×Nat)}{y:Int}(h:y=l.foldl gr (-1))(x:Nat×Nat):gr y x=(l++[x]).foldl gr (-1):=by
 rw[List.foldl_append,←h];rfl
theorem Rn(bs:List Ql)(base:Nat)(v:Value)(w:World)(h:QK w base bs v)(hl:bs.length≤1000)(hf:∀b∈bs,ZG 1000000 b):
  Calls Tryz.prog 10 #[v] w fun e w'=>e=.returned (.int .i64 (Qao bs))∧Below w.heap.size w w':=by
 obtain⟨pv,cv,rfl⟩:=h.slice;have HB:=Qc h;have HF:=Qc hf;clear h hf;go_enter Tryz.func10,Tryz.ntmps10;go_wp2_with fail
 go_loopw [3,4] (fun a i wr=>∃(k:Nat)(y:Int),k≤bs.length∧i=.int .i64 k∧a=.int .i64 y∧Hid (y=((bs.take k).flatMap Y4).foldl gr (-1))∧Hid (Below w.heap.size w wr)) (fun _ i _=>bs.length-(intOf i).toNat)
 case atStart=>exact⟨0,-1,by omega,rfl,rfl,rfl,Below.refl _ _⟩
 case round=>
  obtain⟨k,y,hk,rfl,rfl,HY,F⟩:=hrel;rename World=>wA;by_cases hlt:k<bs.length
  ·obtain⟨g,qc,cc,ps,cs,rfl,_,hg,OC,OS,hc⟩:=HB.o.at hlt;have d0:=hc 0 _ rfl;have d1:=hc 1 _ rfl;have d3:=hc 3 _ rfl;have d4:=hc 4 _ rfl;simp only[Nat.add_zero]at d0;have HD:=Qc (And.intro d0 (And.intro d1 (And.intro d3 d4)));have HOC:=Qc (And.intro OC OS);have HBF:=Qc (HF.o _ (List.getElem_mem hlt));have hcl:=HBF.o.cl;have hsl:=HBF.o.sl;have HN:Hid ((bs.take (k+1)).flatMap Y4=(bs.take k).flatMap Y4++Y4 bs[k]):=by show _=_;rw[List.take_succ_eq_append_getElem hlt,List.flatMap_append,List.flatMap_cons,List.flatMap_nil,List.append_nil]
   replace d0:=(F.o.cell (p:=⟨g,k*10,none⟩) hg).trans d0;obtain⟨L0,hL0⟩:∃L0,L0=(bs.take k).flatMap Y4:=⟨_,rfl⟩;rw[←hL0]at HY HN;have HL0:=Qc hL0;clear d1 d3 d4 hc OC OS hL0;go_wp2_with fail;clear d0
   go_loopw [3,5] (fun a i wr=>∃(t:Nat)(y:Int),t≤bs[k].chs.length∧i=.int .i64 t∧a=.int .i64 y∧Hid (y=(L0++(bs[k].chs.take t).flatMap ZO).foldl gr (-1))∧Hid (Below w.heap.size w wr)) (fun _ i _=>bs[k].chs.length-(intOf i).toNat)
   case atStart=>exact⟨0,y,by omega,rfl,rfl,by show _=_;simpa using HY.o,F⟩
   case round=>
    clear HY F;obtain⟨t,y,ht,rfl,rfl,HY,F⟩:=hrel;rename World=>wB;have e0:=(F.o.cell (p:=⟨g,k*10,none⟩) hg).trans HD.o.1;by_cases htl:t<bs[k].chs.length
    ·obtain⟨gc,pf,cf,pr,cr,rfl,_,hgc,_,OR,c0,c1,_,c3⟩:=HOC.o.1.at htl;replace c0:=(F.o.cell (p:=⟨gc,t*4,none⟩) hgc).trans c0;replace c1:=(F.o.cell (p:=⟨gc,t*4+1,none⟩) hgc).trans c1;have HC3:=Qc c3;have HOR:=Qc OR;have hrl:bs[k].chs[t].rs.length≤1000000:=by have:=(HBF.o.ch _ (List.getElem_mem htl));have h1:=this.2.1;have h2:=this.2.2.1;omega
     have HN2:Hid (L0++(bs[k].chs.take (t+1)).flatMap ZO=(L0++(bs[k].chs.take t).flatMap ZO)++ZO bs[k].chs[t]):=by show _=_;rw[List.take_succ_eq_append_getElem htl,List.flatMap_append,List.flatMap_cons,List.flatMap_nil,List.append_nil,List.append_assoc]
     obtain⟨L2,hL2⟩:∃L2,L2=L0++(bs[k].chs.take t).flatMap ZO:=⟨_,rfl⟩;rw[←hL2]at HY HN2;clear hL2 c3 OR;go_wp2_with fail;refine(VA y bs[k].chs[t].to.1 bs[k].chs[t].to.2 _).mono ?_;rintro e w2 ⟨rfl,f2⟩;have F2:=Qc (F.o.trans (f2.mono F.o.size));have HY2:=Qc (YR HY.o (bs[k].chs[t].to.1,bs[k].chs[t].to.2));clear f2 HY F c0 c1 e0;go_wp2_with fail
     go_loopw [3,6] (fun a i wr=>∃(q:Nat)(y:Int),q≤bs[k].chs[t].rs.length∧i=.int .i64 q∧a=.int .i64 y∧Hid (y=(L2++[bs[k].chs[t].to]++bs[k].chs[t].rs.take q).foldl gr (-1))∧Hid (Below w.heap.size w wr)) (fun _ i _=>bs[k].chs[t].rs.length-(intOf i).toNat)
     case atStart=>exact⟨0,_,by omega,rfl,rfl,by show _=_;rw[HY2.o];simp,F2⟩
     case round=>
      clear HY2 F2;obtain⟨q,y,hq,rfl,rfl,HY,F⟩:=hrel;rename World=>wC;have e0:=(F.o.cell (p:=⟨g,k*10,none⟩) hg).trans HD.o.1;have c3:=(F.o.cell (p:=⟨gc,t*4+3,none⟩) hgc).trans HC3.o;by_cases hql:q<bs[k].chs[t].rs.length
      ·have OR:=Qd HOR.o (Qi F.o) trivial;obtain⟨gr',rfl,_,_⟩:=Qh OR (by omega);have r0:=Qe OR (QX hql).1;have r1:=Qe OR (QX hql).2;clear OR;go_wp2_with fail;refine(VA y bs[k].chs[t].rs[q].1 bs[k].chs[t].rs[q].2 _).mono ?_;rintro e w2 ⟨rfl,f2⟩;have F2:=Qc (F.o.trans (f2.mono F.o.size));have HY2:Hid (gr y (bs[k].chs[t].rs[q].1,bs[k].chs[t].rs[q].2)=(L2++[bs[k].chs[t].to]++bs[k].chs[t].rs.take (q+1)).foldl gr (-1)):=by
        show _=_;rw[List.take_succ_eq_append_getElem hql,←List.append_assoc];exact YR HY.o _
       clear f2 HY F r0 r1 e0 c3;go_wp2_with fail;go_roundw
       case rel=>exact⟨q+1,_,by omega,by go_num,rfl,HY2,F2⟩
       case measure=>simp[intOf];omega
      ·have HY2:Hid (y=(L0++(bs[k].chs.take (t+1)).flatMap ZO).foldl gr (-1)):=by
        show _=_;rw[HN2.o,HY.o,List.take_of_length_le (by omega),List.append_assoc];rfl
       clear HY;go_wp2_with fail;go_roundw
       case rel=>exact⟨t+1,_,by omega,by go_num,rfl,HY2,F⟩
       case measure=>simp[intOf];omega
    ·have HY2:Hid (y=(L0++bs[k].chs.flatMap ZO).foldl gr (-1)):=by
      show _=_;rw[HY.o,List.take_of_length_le (by omega)]
     clear HY;have e1:=(F.o.cell (p:=⟨g,k*10+1,none⟩) hg).trans HD.o.2.1;go_wp2_with fail;clear e0 e1
     go_loopw [3,7] (fun a i wr=>∃(q:Nat)(y:Int),q≤bs[k].sts.length∧i=.int .i64 q∧a=.int .i64 y∧Hid (y=((L0++bs[k].chs.flatMap ZO)++(bs[k].sts.take q).flatMap (fun t=>[t.to,t.a,t.b])).foldl gr (-1))∧Hid (Below w.heap.size w wr)) (fun _ i _=>bs[k].sts.length-(intOf i).toNat)
     case atStart=>exact⟨0,y,by omega,rfl,rfl,by show _=_;simpa using HY2.o,F⟩
     case round=>
      clear HY2 F;obtain⟨q,y,hq,rfl,rfl,HY,F⟩:=hrel;rename World=>wC;have e1:=(F.o.cell (p:=⟨g,k*10+1,none⟩) hg).trans HD.o.2.1;by_cases hql:q<bs[k].sts.length
      ·have OS:=Qd HOC.o.2 (Qi F.o) trivial;obtain⟨gs,rfl,_,hgs⟩:=Qh OS (by omega);have t1:wC.cell? ⟨gs,q*8+1,none⟩=some (.int .i64 bs[k].sts[q].to.1):=Qe OS (Qn hql (k:=1) (by omega));have t2:wC.cell? ⟨gs,q*8+2,none⟩=some (.int .i64 bs[k].sts[q].to.2):=Qe OS (Qn hql (k:=2) (by omega));have t3:wC.cell? ⟨gs,q*8+3,none⟩=some (.int .i64 bs[k].sts[q].a.1):=Qe OS (Qn hql (k:=3) (by omega));have t4:wC.cell? ⟨gs,q*8+4,none⟩=some (.int .i64 bs[k].sts[q].a.2):=Qe OS (Qn hql (k:=4) (by omega));have t5:wC.cell? ⟨gs,q*8+5,none⟩=some (.int .i64 bs[k].sts[q].b.1):=Qe OS (Qn hql (k:=5) (by omega));have t6:wC.cell? ⟨gs,q*8+6,none⟩=some (.int .i64 bs[k].sts[q].b.2):=Qe OS (Qn hql (k:=6) (by omega));have hgC:g<wC.heap.size:=Nat.lt_of_lt_of_le hg F.o.size;clear OS;go_wp2_with fail;refine(VA y bs[k].sts[q].to.1 bs[k].sts[q].to.2 _).mono ?_;rintro e w2 ⟨rfl,f2⟩;replace e1:=(f2.cell (p:=⟨g,k*10+1,none⟩) hgC).trans e1;replace t3:=(f2.cell (p:=⟨gs,q*8+3,none⟩) hgs).trans t3;replace t4:=(f2.cell (p:=⟨gs,q*8+4,none⟩) hgs).trans t4;replace t5:=(f2.cell (p:=⟨gs,q*8+5,none⟩) hgs).trans t5;replace t6:=(f2.cell (p:=⟨gs,q*8+6,none⟩) hgs).trans t6;have hgC2:g<w2.heap.size:=Nat.lt_of_lt_of_le hgC f2.size;have hgs2:gs<w2.heap.size:=Nat.lt_of_lt_of_le hgs f2.size;have F2:=Qc (F.o.trans (f2.mono F.o.size));clear f2 t1 t2;go_wp2_with fail;refine(VA _ bs[k].sts[q].a.1 bs[k].sts[q].a.2 _).mono ?_;rintro e w3 ⟨rfl,f3⟩;replace e1:=(f3.cell (p:=⟨g,k*10+1,none⟩) hgC2).trans e1;replace t5:=(f3.cell (p:=⟨gs,q*8+5,none⟩) hgs2).trans t5;replace t6:=(f3.cell (p:=⟨gs,q*8+6,none⟩) hgs2).trans t6;have F3:=Qc (F2.o.trans (f3.mono F2.o.size));clear f3 t3 t4;go_wp2_with fail;refine(VA _ bs[k].sts[q].b.1 bs[k].sts[q].b.2 _).mono ?_;rintro e w4 ⟨rfl,f4⟩;have F4:=Qc (F3.o.trans (f4.mono F3.o.size));have HY2:Hid (gr (gr (gr y (bs[k].sts[q].to.1,bs[k].sts[q].to.2)) (bs[k].sts[q].a.1,bs[k].sts[q].a.2)) (bs[k].sts[q].b.1,bs[k].sts[q].b.2)=((L0++bs[k].chs.flatMap ZO)++(bs[k].sts.take (q+1)).flatMap (fun t=>[t.to,t.a,t.b])).foldl gr (-1)):=by
        show _=_;rw[List.take_succ_eq_append_getElem hql,List.flatMap_append,←List.append_assoc,List.foldl_append,←HY.o];rfl
       clear f4 HY F F2 F3 t5 t6 e1;go_wp2_with fail;go_roundw
       case rel=>exact⟨q+1,_,by omega,by go_num,rfl,HY2,F4⟩
       case measure=>simp[intOf];omega
      ·have e3:=(F.o.cell (p:=⟨g,k*10+3,none⟩) hg).trans HD.o.2.2.1;have e4:=(F.o.cell (p:=⟨g,k*10+4,none⟩) hg).trans HD.o.2.2.2;go_wp2_with fail;refine(VA y bs[k].e.a.1 bs[k].e.a.2 _).mono ?_;rintro e w2 ⟨rfl,f2⟩;have F2:=Qc (F.o.trans (f2.mono F.o.size));have HY2:Hid (gr y (bs[k].e.a.1,bs[k].e.a.2)=((bs.take (k+1)).flatMap Y4).foldl gr (-1)):=by
        show _=_;rw[HN.o];unfold Y4;rw[HY.o,List.take_of_length_le (by omega),←List.append_assoc,←List.append_assoc];exact YR rfl _
       clear f2 HY F e3 e4 e1;go_wp2_with fail;go_roundw
       case rel=>exact⟨k+1,_,by omega,by go_num,rfl,HY2,F2⟩
       case measure=>simp[intOf];omega
  ·have HE:Hid (y=Qao bs):=by
    show _=_;rw[HY.o,List.take_of_length_le (by omega)];rfl
   clear HY;go_wp2_with fail;go_ret;exact⟨by rw[←HE.o];rfl,F.o⟩
theorem Tryz.info115:(Tryz.prog.info? 115).map (fun i=>(i.zero,i.size,i.bytes))=some (some (.agg #[.int .i64 0,.int .i64 0,.int .i64 0]),3,24):=by kernel_rfl
theorem QcV(bs:List Ql)(base:Nat)(v:Value)(w:World)(h:QK w base bs v)(hf:Hid (∀b∈bs,ZG 1000000 b))(hn:bs.length≤1000):
  Calls Tryz.prog 25 #[v] w fun x w'=>∃v',x=.returned (.tuple #[v',.int .i64 (atO (twF (gvU bs)))])∧Hid (w'.ownsRow w.heap.size 115 3 v' (gvU bs).length (QN (gvU bs))∧(gvU bs).length≤100000000000∧Below w.heap.size w w'):=by
 obtain⟨pv,cv,rfl⟩:=h.slice;have HB:=Qc h;clear h;go_enter Tryz.func25,Tryz.ntmps25;go_wp2_with fail
 go_loopw [4,5,6] (fun o a i wr=>∃(m:Nat)(L:List Use),m≤bs.length∧i=.int .i64 m∧a=.int .i64 (atO (twF L))∧Hid (L=VW bs m)∧L.length≤3000000*m∧wr.ownsRow w.heap.size 115 3 o L.length (QN L)∧Hid (Below w.heap.size w wr)) (fun _ _ i _=>bs.length-(intOf i).toNat)
 case atStart=>exact⟨0,[],by omega,rfl,rfl,rfl,by simp,World.ownsRow_nil _ _ _ _,Below.refl _ _⟩
 case round=>
  obtain⟨m,L,hm,rfl,rfl,HL,hll,OL,F⟩:=hrel;rename World=>wA;obtain⟨pl,cl,rfl⟩:=Qb OL;have hz:=F.o.size;have OLH:=Qc OL;clear OL;by_cases hlt:m<bs.length
  ·have HFM:=Qc (hf.out _ (List.getElem_mem hlt));have hcl:=HFM.o.cl;have hsl:=HFM.o.sl;have HBK:=Qc (Zt hlt);obtain⟨gv,_,_,_,_,rfl,_,_,_,_,_⟩:=(HB.o.keeps3 (Qs.below F.o)).at hlt;go_wp2_with fail
   go_loopw [4,5,7] (fun o a i wr=>∃(q:Nat)(L2:List Use),q≤bs[m].chs.length∧i=.int .i64 q∧a=.int .i64 (atO (twF L2))∧Hid (L2=L++(bs[m].chs.take q).map (chU m))∧L2.length≤3000000*m+q∧wr.ownsRow w.heap.size 115 3 o L2.length (QN L2)∧Hid (Below w.heap.size w wr)) (fun _ _ i _=>bs[m].chs.length-(intOf i).toNat)
   case atStart=>exact⟨0,L,by omega,rfl,rfl,by simp[Hid],by omega,OLH.o,F⟩
   case round=>
    obtain⟨q,L2,hq,rfl,rfl,HL2,hl2,OL2,F2⟩:=hrel;rename World=>wB;obtain⟨pl2,cl2,rfl⟩:=Qb OL2;have hz2:=F2.o.size;have OL2H:=Qc OL2;clear OL2;obtain⟨gv',qc,cc,ps,cs,hgv,_,_,OC,OS0,hc⟩:=(HB.o.keeps3 (Qs.below F2.o)).at hlt;cases hgv;have d0:wB.cell? ⟨gv,m*10,none⟩=_:=hc 0 _ rfl;have d1:=hc 1 _ rfl;clear hc;by_cases hql:q<bs[m].chs.length
    ·obtain⟨gc,pf,cf,pr,cr,rfl,_,_,_,_,e0,e1,_,_⟩:=OC.at hql;have HL3:Hid (L2++[chU m bs[m].chs[q]]=L++(bs[m].chs.take (q+1)).map (chU m)):=by
      show _=_;rw[HL2.o,List.take_succ_eq_append_getElem hql,List.map_append,List.append_assoc];rfl
     have OLW:=Qc (OL2H.o.alloc (.cells #[.int .i64 bs[m].chs[q].to.1,.int .i64 bs[m].chs[q].to.2] 48));have FW:=Qc (F2.o.alloc hz2 (.cells #[.int .i64 bs[m].chs[q].to.1,.int .i64 bs[m].chs[q].to.2] 48));have gW:=heap_alloc_last wB (.cells #[.int .i64 bs[m].chs[q].to.1,.int .i64 bs[m].chs[q].to.2] 48);have sW:w.heap.size≤(wB.alloc (.cells #[.int .i64 bs[m].chs[q].to.1,.int .i64 bs[m].chs[q].to.2] 48)).heap.size:=by rw[World.size_alloc];omega
     clear OC OS0;go_wp2_with fail;generalize wB.alloc (.cells #[.int .i64 bs[m].chs[q].to.1,.int .i64 bs[m].chs[q].to.2] 48)=WB at *;have k0:=Qa gW 0;have k1:=Qa gW 1;simp at k0 k1;clear gW d0 d1 e0 e1;refine(Wh L2 bs[m].chs[q].to.1 w.heap.size _ WB OLW.o (by omega)).mono ?_;rintro x w' ⟨rfl,hw'⟩;rw[hw'];clear hw' w'
     cases htw:twF L2 with
     | some x=>
      have HTW:=Qc (Wk htw (chU m bs[m].chs[q]));by_cases hit:0≤whF L2 bs[m].chs[q].to.1
      ·clear htw;generalize whF L2 bs[m].chs[q].to.1=wv at *;simp only[atO];go_wp2_with (at_builtin;refine Qv ?_);refine Qc ?_;have gB:=heap_alloc_last WB (.cells #[.int .i64 bs[m].chs[q].to.1,.int .i64 m,.int .i64 (-1)] 115);have OB:=OLW.o.alloc (.cells #[.int .i64 bs[m].chs[q].to.1,.int .i64 m,.int .i64 (-1)] 115);refine KT Tryz.underlying54 Tryz.info115 rfl (by decide) (by decide) rfl _ _ rfl rfl OB gB rfl rfl (List.all_eq_true.1 rfl) (by omega) (by simp;omega) ?_;intro v3 w3 oS gS;have F3:=Qc (Below.grown (FW.o.alloc (by omega) (.cells #[.int .i64 bs[m].chs[q].to.1,.int .i64 m,.int .i64 (-1)] 115)) gS (by simp;omega) (fun j hj=>by have:=(OB.lt j hj).1;omega));obtain⟨v3p,v3c,rfl⟩:=Qb oS;have O3:Hid (w3.ownsRow w.heap.size 115 3 (.slice v3p (L2.length+1) v3c) (L2++[chU m bs[m].chs[q]]).length (QN (L2++[chU m bs[m].chs[q]]))):=by
        show World.ownsRow _ _ _ _ _ _ _;rw[Zu,List.length_append];exact oS
       clear gS gB OB oS;go_wp2_with fail;go_roundw
       case rel=>exact⟨q+1,L2++[chU m bs[m].chs[q]],by omega,by go_num,by rw[HTW.o];rfl,HL3,by rw[List.length_append,List.length_singleton];omega,O3.o,F3⟩
       case measure=>simp[intOf];omega
      ·clear htw;generalize whF L2 bs[m].chs[q].to.1=wv at *;simp only[atO];go_wp2_with (at_builtin;refine Qv ?_);refine Qc ?_;have gB:=heap_alloc_last WB (.cells #[.int .i64 bs[m].chs[q].to.1,.int .i64 m,.int .i64 (-1)] 115);have OB:=OLW.o.alloc (.cells #[.int .i64 bs[m].chs[q].to.1,.int .i64 m,.int .i64 (-1)] 115);refine KT Tryz.underlying54 Tryz.info115 rfl (by decide) (by decide) rfl _ _ rfl rfl OB gB rfl rfl (List.all_eq_true.1 rfl) (by omega) (by simp;omega) ?_;intro v3 w3 oS gS;have F3:=Qc (Below.grown (FW.o.alloc (by omega) (.cells #[.int .i64 bs[m].chs[q].to.1,.int .i64 m,.int .i64 (-1)] 115)) gS (by simp;omega) (fun j hj=>by have:=(OB.lt j hj).1;omega));obtain⟨v3p,v3c,rfl⟩:=Qb oS;have O3:Hid (w3.ownsRow w.heap.size 115 3 (.slice v3p (L2.length+1) v3c) (L2++[chU m bs[m].chs[q]]).length (QN (L2++[chU m bs[m].chs[q]]))):=by
        show World.ownsRow _ _ _ _ _ _ _;rw[Zu,List.length_append];exact oS
       clear gS gB OB oS;go_wp2_with fail;go_roundw
       case rel=>exact⟨q+1,L2++[chU m bs[m].chs[q]],by omega,by go_num,by rw[HTW.o];rfl,HL3,by rw[List.length_append,List.length_singleton];omega,O3.o,F3⟩
       case measure=>simp[intOf];omega
     | none=>
      by_cases hit:0≤whF L2 bs[m].chs[q].to.1
      ·have HTW:=Qc (VY (u:=chU m bs[m].chs[q]) htw (YX.1 hit));clear htw;generalize whF L2 bs[m].chs[q].to.1=wv at *;simp only[atO];go_wp2_with (at_builtin;refine Qv ?_);refine Qc ?_;have gB:=heap_alloc_last WB (.cells #[.int .i64 bs[m].chs[q].to.1,.int .i64 m,.int .i64 (-1)] 115);have OB:=OLW.o.alloc (.cells #[.int .i64 bs[m].chs[q].to.1,.int .i64 m,.int .i64 (-1)] 115);refine KT Tryz.underlying54 Tryz.info115 rfl (by decide) (by decide) rfl _ _ rfl rfl OB gB rfl rfl (List.all_eq_true.1 rfl) (by omega) (by simp;omega) ?_;intro v3 w3 oS gS;have F3:=Qc (Below.grown (FW.o.alloc (by omega) (.cells #[.int .i64 bs[m].chs[q].to.1,.int .i64 m,.int .i64 (-1)] 115)) gS (by simp;omega) (fun j hj=>by have:=(OB.lt j hj).1;omega));obtain⟨v3p,v3c,rfl⟩:=Qb oS;have O3:Hid (w3.ownsRow w.heap.size 115 3 (.slice v3p (L2.length+1) v3c) (L2++[chU m bs[m].chs[q]]).length (QN (L2++[chU m bs[m].chs[q]]))):=by
        show World.ownsRow _ _ _ _ _ _ _;rw[Zu,List.length_append];exact oS
       clear gS gB OB oS;go_wp2_with fail;go_roundw
       case rel=>exact⟨q+1,L2++[chU m bs[m].chs[q]],by omega,by go_num,by rw[HTW.o];rfl,HL3,by rw[List.length_append,List.length_singleton];omega,O3.o,F3⟩
       case measure=>simp[intOf];omega
      ·have HTW:=Qc (NR (u:=chU m bs[m].chs[q]) htw (fun h=>hit (YX.2 h)));clear htw;generalize whF L2 bs[m].chs[q].to.1=wv at *;simp only[atO];go_wp2_with (at_builtin;refine Qv ?_);refine Qc ?_;have gB:=heap_alloc_last WB (.cells #[.int .i64 bs[m].chs[q].to.1,.int .i64 m,.int .i64 (-1)] 115);have OB:=OLW.o.alloc (.cells #[.int .i64 bs[m].chs[q].to.1,.int .i64 m,.int .i64 (-1)] 115);refine KT Tryz.underlying54 Tryz.info115 rfl (by decide) (by decide) rfl _ _ rfl rfl OB gB rfl rfl (List.all_eq_true.1 rfl) (by omega) (by simp;omega) ?_;intro v3 w3 oS gS;have F3:=Qc (Below.grown (FW.o.alloc (by omega) (.cells #[.int .i64 bs[m].chs[q].to.1,.int .i64 m,.int .i64 (-1)] 115)) gS (by simp;omega) (fun j hj=>by have:=(OB.lt j hj).1;omega));obtain⟨v3p,v3c,rfl⟩:=Qb oS;have O3:Hid (w3.ownsRow w.heap.size 115 3 (.slice v3p (L2.length+1) v3c) (L2++[chU m bs[m].chs[q]]).length (QN (L2++[chU m bs[m].chs[q]]))):=by
        show World.ownsRow _ _ _ _ _ _ _;rw[Zu,List.length_append];exact oS
       clear gS gB OB oS;go_wp2_with fail;go_roundw
       case rel=>exact⟨q+1,L2++[chU m bs[m].chs[q]],by omega,by go_num,by rw[HTW.o];rfl,HL3,by rw[List.length_append,List.length_singleton];omega,O3.o,F3⟩
       case measure=>simp[intOf];omega
    ·have hqe:q=bs[m].chs.length:=by omega
     have HL3:Hid (L2=L++bs[m].chs.map (chU m)):=by show _=_;rw[HL2.o,hqe,List.take_length]
     clear hqe HL2 OC OS0;go_wp2_with fail;clear d0 d1
     go_loopw [4,5,9] (fun o a i wr=>∃(k:Nat)(L4:List Use),k≤bs[m].sts.length∧i=.int .i64 k∧a=.int .i64 (atO (twF L4))∧Hid (L4=L2++(List.range k).flatMap (stU bs[m] m))∧L4.length≤3000000*m+1000000+k∧wr.ownsRow w.heap.size 115 3 o L4.length (QN L4)∧Hid (Below w.heap.size w wr)) (fun _ _ i _=>bs[m].sts.length-(intOf i).toNat)
     case atStart=>exact⟨0,L2,by omega,rfl,rfl,by simp[Hid],by omega,OL2H.o,F2⟩
     case round=>
      obtain⟨k,L4,hk,rfl,rfl,HL4,hl4,OL4,F4⟩:=hrel;rename World=>wC;obtain⟨pl4,cl4,rfl⟩:=Qb OL4;have hz4:=F4.o.size;have OL4H:=Qc OL4;clear OL4;obtain⟨gv',qc,cc,ps,cs,hgv,_,_,_,OS,hc⟩:=(HB.o.keeps3 (Qs.below F4.o)).at hlt;cases hgv;have d1:=hc 1 _ rfl;clear hc;by_cases hkl:k<bs[m].sts.length
      ·obtain⟨gs,rfl,_,_⟩:=Qh OS (by omega);have t0:wC.cell? ⟨gs,k*8,none⟩=some (.int .u8 bs[m].sts[k].op):=Qe OS (Qn hkl (k:=0) (by omega));have t1:wC.cell? ⟨gs,k*8+1,none⟩=some (.int .i64 bs[m].sts[k].to.1):=Qe OS (Qn hkl (k:=1) (by omega));have t2:wC.cell? ⟨gs,k*8+2,none⟩=some (.int .i64 bs[m].sts[k].to.2):=Qe OS (Qn hkl (k:=2) (by omega));have t3:wC.cell? ⟨gs,k*8+3,none⟩=some (.int .i64 bs[m].sts[k].a.1):=Qe OS (Qn hkl (k:=3) (by omega));have t4:wC.cell? ⟨gs,k*8+4,none⟩=some (.int .i64 bs[m].sts[k].a.2):=Qe OS (Qn hkl (k:=4) (by omega));have t5:wC.cell? ⟨gs,k*8+5,none⟩=some (.int .i64 bs[m].sts[k].b.1):=Qe OS (Qn hkl (k:=5) (by omega));have t6:wC.cell? ⟨gs,k*8+6,none⟩=some (.int .i64 bs[m].sts[k].b.2):=Qe OS (Qn hkl (k:=6) (by omega));have t7:wC.cell? ⟨gs,k*8+7,none⟩=some (.int .i64 bs[m].sts[k].n):=Qe OS (Qn hkl (k:=7) (by omega));have OLW:=Qc (OL4H.o.alloc (.cells #[.int .u8 bs[m].sts[k].op,.int .i64 bs[m].sts[k].to.1,.int .i64 bs[m].sts[k].to.2,.int .i64 bs[m].sts[k].a.1,.int .i64 bs[m].sts[k].a.2,.int .i64 bs[m].sts[k].b.1,.int .i64 bs[m].sts[k].b.2,.int .i64 bs[m].sts[k].n] 66));have FW:=Qc (F4.o.alloc hz4 (.cells #[.int .u8 bs[m].sts[k].op,.int .i64 bs[m].sts[k].to.1,.int .i64 bs[m].sts[k].to.2,.int .i64 bs[m].sts[k].a.1,.int .i64 bs[m].sts[k].a.2,.int .i64 bs[m].sts[k].b.1,.int .i64 bs[m].sts[k].b.2,.int .i64 bs[m].sts[k].n] 66));have gW:=heap_alloc_last wC (.cells #[.int .u8 bs[m].sts[k].op,.int .i64 bs[m].sts[k].to.1,.int .i64 bs[m].sts[k].to.2,.int .i64 bs[m].sts[k].a.1,.int .i64 bs[m].sts[k].a.2,.int .i64 bs[m].sts[k].b.1,.int .i64 bs[m].sts[k].b.2,.int .i64 bs[m].sts[k].n] 66);have sW:w.heap.size≤(wC.alloc (.cells #[.int .u8 bs[m].sts[k].op,.int .i64 bs[m].sts[k].to.1,.int .i64 bs[m].sts[k].to.2,.int .i64 bs[m].sts[k].a.1,.int .i64 bs[m].sts[k].a.2,.int .i64 bs[m].sts[k].b.1,.int .i64 bs[m].sts[k].b.2,.int .i64 bs[m].sts[k].n] 66)).heap.size:=by rw[World.size_alloc];omega
       clear OS;by_cases h33:bs[m].sts[k].op=33
       ·have HL5:Hid (L4=L2++(List.range (k+1)).flatMap (stU bs[m] m)):=by
         show _=_;rw[HL4.o,List.range_succ,List.flatMap_append];simp[Gk hkl h33]
        have hd:((bs[m].sts[k].op:Int)==33)=true:=by simp;omega
        clear h33;go_wp2_with fail;go_roundw
        case rel=>exact⟨k+1,L4,by omega,by go_num,rfl,HL5,by omega,OLW.o,FW⟩
        case measure=>simp[intOf];omega
       have HL5:Hid (L4++[(⟨bs[m].sts[k].to.1,bs[m].sts[k].to.2,m,k⟩:Use)]=L2++(List.range (k+1)).flatMap (stU bs[m] m)):=by
        show _=_;rw[HL4.o,List.range_succ,List.flatMap_append,List.append_assoc];simp[Wt hkl h33]
       have hd:((bs[m].sts[k].op:Int)==33)=false:=by simp;omega
       clear h33;go_wp2_with fail;generalize wC.alloc (.cells #[.int .u8 bs[m].sts[k].op,.int .i64 bs[m].sts[k].to.1,.int .i64 bs[m].sts[k].to.2,.int .i64 bs[m].sts[k].a.1,.int .i64 bs[m].sts[k].a.2,.int .i64 bs[m].sts[k].b.1,.int .i64 bs[m].sts[k].b.2,.int .i64 bs[m].sts[k].n] 66)=WB at *;have k1:=Qa gW 1;have k2:=Qa gW 2;simp at k1 k2;clear gW d1 t0 t1 t2 t3 t4 t5 t6 t7;refine(Wh L4 bs[m].sts[k].to.1 w.heap.size _ WB OLW.o (by omega)).mono ?_;rintro x w' ⟨rfl,hw'⟩;rw[hw'];clear hw' w'
       cases htw:twF L4 with
       | some x=>
        have HTW:=Qc (Wk htw (⟨bs[m].sts[k].to.1,bs[m].sts[k].to.2,m,k⟩:Use));by_cases hit:0≤whF L4 bs[m].sts[k].to.1
        ·clear htw;generalize whF L4 bs[m].sts[k].to.1=wv at *;simp only[atO];go_wp2_with (at_builtin;refine Qv ?_);refine Qc ?_;have gB:=heap_alloc_last WB (.cells #[.int .i64 bs[m].sts[k].to.1,.int .i64 m,.int .i64 k] 115);have OB:=OLW.o.alloc (.cells #[.int .i64 bs[m].sts[k].to.1,.int .i64 m,.int .i64 k] 115);refine KT Tryz.underlying54 Tryz.info115 rfl (by decide) (by decide) rfl _ _ rfl rfl OB gB rfl rfl (List.all_eq_true.1 rfl) (by omega) (by simp;omega) ?_;intro v3 w3 oS gS;have F3:=Qc (Below.grown (FW.o.alloc (by omega) (.cells #[.int .i64 bs[m].sts[k].to.1,.int .i64 m,.int .i64 k] 115)) gS (by simp;omega) (fun j hj=>by have:=(OB.lt j hj).1;omega));obtain⟨v3p,v3c,rfl⟩:=Qb oS;have O3:Hid (w3.ownsRow w.heap.size 115 3 (.slice v3p (L4.length+1) v3c) (L4++[(⟨bs[m].sts[k].to.1,bs[m].sts[k].to.2,m,k⟩:Use)]).length (QN (L4++[(⟨bs[m].sts[k].to.1,bs[m].sts[k].to.2,m,k⟩:Use)]))):=by
          show World.ownsRow _ _ _ _ _ _ _;rw[Zu,List.length_append];exact oS
         clear gS gB OB oS;go_wp2_with fail;go_roundw
         case rel=>exact⟨k+1,L4++[(⟨bs[m].sts[k].to.1,bs[m].sts[k].to.2,m,k⟩:Use)],by omega,by go_num,by rw[HTW.o];rfl,HL5,by rw[List.length_append,List.length_singleton];omega,O3.o,F3⟩
         case measure=>simp[intOf];omega
        ·clear htw;generalize whF L4 bs[m].sts[k].to.1=wv at *;simp only[atO];go_wp2_with (at_builtin;refine Qv ?_);refine Qc ?_;have gB:=heap_alloc_last WB (.cells #[.int .i64 bs[m].sts[k].to.1,.int .i64 m,.int .i64 k] 115);have OB:=OLW.o.alloc (.cells #[.int .i64 bs[m].sts[k].to.1,.int .i64 m,.int .i64 k] 115);refine KT Tryz.underlying54 Tryz.info115 rfl (by decide) (by decide) rfl _ _ rfl rfl OB gB rfl rfl (List.all_eq_true.1 rfl) (by omega) (by simp;omega) ?_;intro v3 w3 oS gS;have F3:=Qc (Below.grown (FW.o.alloc (by omega) (.cells #[.int .i64 bs[m].sts[k].to.1,.int .i64 m,.int .i64 k] 115)) gS (by simp;omega) (fun j hj=>by have:=(OB.lt j hj).1;omega));obtain⟨v3p,v3c,rfl⟩:=Qb oS;have O3:Hid (w3.ownsRow w.heap.size 115 3 (.slice v3p (L4.length+1) v3c) (L4++[(⟨bs[m].sts[k].to.1,bs[m].sts[k].to.2,m,k⟩:Use)]).length (QN (L4++[(⟨bs[m].sts[k].to.1,bs[m].sts[k].to.2,m,k⟩:Use)]))):=by
          show World.ownsRow _ _ _ _ _ _ _;rw[Zu,List.length_append];exact oS
         clear gS gB OB oS;go_wp2_with fail;go_roundw
         case rel=>exact⟨k+1,L4++[(⟨bs[m].sts[k].to.1,bs[m].sts[k].to.2,m,k⟩:Use)],by omega,by go_num,by rw[HTW.o];rfl,HL5,by rw[List.length_append,List.length_singleton];omega,O3.o,F3⟩
         case measure=>simp[intOf];omega
       | none=>
        by_cases hit:0≤whF L4 bs[m].sts[k].to.1
        ·have HTW:=Qc (VY (u:=(⟨bs[m].sts[k].to.1,bs[m].sts[k].to.2,m,k⟩:Use)) htw (YX.1 hit));clear htw;generalize whF L4 bs[m].sts[k].to.1=wv at *;simp only[atO];go_wp2_with (at_builtin;refine Qv ?_);refine Qc ?_;have gB:=heap_alloc_last WB (.cells #[.int .i64 bs[m].sts[k].to.1,.int .i64 m,.int .i64 k] 115);have OB:=OLW.o.alloc (.cells #[.int .i64 bs[m].sts[k].to.1,.int .i64 m,.int .i64 k] 115);refine KT Tryz.underlying54 Tryz.info115 rfl (by decide) (by decide) rfl _ _ rfl rfl OB gB rfl rfl (List.all_eq_true.1 rfl) (by omega) (by simp;omega) ?_;intro v3 w3 oS gS;have F3:=Qc (Below.grown (FW.o.alloc (by omega) (.cells #[.int .i64 bs[m].sts[k].to.1,.int .i64 m,.int .i64 k] 115)) gS (by simp;omega) (fun j hj=>by have:=(OB.lt j hj).1;omega));obtain⟨v3p,v3c,rfl⟩:=Qb oS;have O3:Hid (w3.ownsRow w.heap.size 115 3 (.slice v3p (L4.length+1) v3c) (L4++[(⟨bs[m].sts[k].to.1,bs[m].sts[k].to.2,m,k⟩:Use)]).length (QN (L4++[(⟨bs[m].sts[k].to.1,bs[m].sts[k].to.2,m,k⟩:Use)]))):=by
          show World.ownsRow _ _ _ _ _ _ _;rw[Zu,List.length_append];exact oS
         clear gS gB OB oS;go_wp2_with fail;go_roundw
         case rel=>exact⟨k+1,L4++[(⟨bs[m].sts[k].to.1,bs[m].sts[k].to.2,m,k⟩:Use)],by omega,by go_num,by rw[HTW.o];rfl,HL5,by rw[List.length_append,List.length_singleton];omega,O3.o,F3⟩
         case measure=>simp[intOf];omega
        ·have HTW:=Qc (NR (u:=(⟨bs[m].sts[k].to.1,bs[m].sts[k].to.2,m,k⟩:Use)) htw (fun h=>hit (YX.2 h)));clear htw;generalize whF L4 bs[m].sts[k].to.1=wv at *;simp only[atO];go_wp2_with (at_builtin;refine Qv ?_);refine Qc ?_;have gB:=heap_alloc_last WB (.cells #[.int .i64 bs[m].sts[k].to.1,.int .i64 m,.int .i64 k] 115);have OB:=OLW.o.alloc (.cells #[.int .i64 bs[m].sts[k].to.1,.int .i64 m,.int .i64 k] 115);refine KT Tryz.underlying54 Tryz.info115 rfl (by decide) (by decide) rfl _ _ rfl rfl OB gB rfl rfl (List.all_eq_true.1 rfl) (by omega) (by simp;omega) ?_;intro v3 w3 oS gS;have F3:=Qc (Below.grown (FW.o.alloc (by omega) (.cells #[.int .i64 bs[m].sts[k].to.1,.int .i64 m,.int .i64 k] 115)) gS (by simp;omega) (fun j hj=>by have:=(OB.lt j hj).1;omega));obtain⟨v3p,v3c,rfl⟩:=Qb oS;have O3:Hid (w3.ownsRow w.heap.size 115 3 (.slice v3p (L4.length+1) v3c) (L4++[(⟨bs[m].sts[k].to.1,bs[m].sts[k].to.2,m,k⟩:Use)]).length (QN (L4++[(⟨bs[m].sts[k].to.1,bs[m].sts[k].to.2,m,k⟩:Use)]))):=by
          show World.ownsRow _ _ _ _ _ _ _;rw[Zu,List.length_append];exact oS
         clear gS gB OB oS;go_wp2_with fail;go_roundw
         case rel=>exact⟨k+1,L4++[(⟨bs[m].sts[k].to.1,bs[m].sts[k].to.2,m,k⟩:Use)],by omega,by go_num,by rw[HTW.o];rfl,HL5,by rw[List.length_append,List.length_singleton];omega,O3.o,F3⟩
         case measure=>simp[intOf];omega
      ·have hke:k=bs[m].sts.length:=by omega
       have HL6:Hid (L4=VW bs (m+1)):=by
        show _=_;rw[HL4.o,hke,HL3.o,HL.o,UY,Va,HBK.o,List.append_assoc]
       clear hke HL4 OS;go_wp2_with fail;go_roundw
       case rel=>exact⟨m+1,L4,by omega,by go_num,rfl,HL6,by omega,OL4H.o,F4⟩
       case measure=>simp[intOf];omega
  ·have hme:m=bs.length:=by omega
   have HLE:Hid (L=gvU bs):=by show _=_;rw[HL.o,hme];rfl
   clear hme HL;go_wp2_with fail
   go_ret2
   exact⟨_,by rw[←HLE.o];rfl,by rw[←HLE.o];exact OLH.o,by rw[←HLE.o];omega,F.o⟩
theorem RO{w w':World}{base e n:Nat}{u:Value}{xs:List Value}{row:Option Nat}(o:w.ownsRow base e 1 u n xs)(gr:w.grownBy w' row)(hne:∀b,u.ownBlock=some b→row≠some b):w'.ownsRow base e 1 u n xs:=by
 obtain⟨o1,o2⟩:=o;refine⟨o1,o2.imp id ?_⟩;rintro⟨g,cap,cur,rfl,hb,hg,hr⟩;refine⟨g,cap,cur,rfl,hb,?_,hr⟩;exact Qz gr hg (fun j hj e=>hne g rfl (by rw[hj,e]))
theorem Tryz.info67:(Tryz.prog.info? 67).map (fun i=>(i.zero,i.size,i.bytes))=some (some (.slice none 0 0),1,24):=by kernel_rfl
theorem Qay(n:Nat)(f:Nat→Bool):Q0 (n+1) f=Q0 n f++[.bool (f n)]:=by simp[Q0,List.range_succ]
def GpI(bs:List Ql)(w:World)(gp:Nat)(vL:Value)(m:Nat)(vS vC vO:Value)(wr:World):Prop:=
 wr.heap[gp]?=some (.cells #[vL,vS,vC,vO] 118 (0,0))∧wr.ownsRow w.heap.size 115 3 vS (gvU bs).length (QN (gvU bs))∧wr.ownsRow w.heap.size 4 1 vC bs.length (Q0 bs.length (rchF (suF bs) bs.length noB))∧Rk w.heap.size wr vO m (fun a=>X6 (suF bs) bs.length a) bs.length∧Below w.heap.size w wr
theorem GpI.keeps{bs w gp vL m vS vC vO wr wr'}(h:GpI bs w gp vL m vS vC vO wr)(F:Below wr.heap.size wr wr'):GpI bs w gp vL m vS vC vO wr':=by
 obtain⟨a,b,c,d,e⟩:=h;exact⟨by rw[F.block _ (lt_of_block a)];exact a,Qd b (Qi F) trivial,Qd c (Qi F) trivial,d.keeps F,e.trans (F.mono e.size)⟩
theorem Qif(bs:List Ql)(base:Nat)(v:Value)(w:World)(h:QK w base bs v)(hgl:Hid (∀b∈bs,∀p∈goalsF b.e,p.1<bs.length))(hf:Hid (∀b∈bs,ZG 1000000 b))(hn0:0<bs.length)(hn:bs.length≤1000):
  Calls Tryz.prog 26 #[v] w fun x w'=>∃gp,x=.returned (.pointer (some ⟨gp,0,none⟩))∧Hid (GrI bs base w.heap.size gp v w'∧Below w.heap.size w w'):=by
 obtain⟨pv,cv,rfl⟩:=h.slice;have HB:=Qc h;clear h;go_enter Tryz.func26,Tryz.ntmps26;go_wp2_with fail;refine(GE bs (-1) base _ w HB.o hgl hn0 hn).mono ?_;rintro x w1 ⟨v1,rfl,o1,f1⟩;rw[Rf]at o1;obtain⟨p1,c1,rfl⟩:=Qb o1;have s1:=f1.size;have H1:=Qc (And.intro o1 f1);clear o1 f1;go_wp2_with fail;have gW:=heap_alloc_last w1 (.cells #[.slice pv bs.length cv,.slice none 0 0,.slice p1 bs.length c1,.slice none 0 0] 118);have H2:Hid ((w1.alloc (.cells #[.slice pv bs.length cv,.slice none 0 0,.slice p1 bs.length c1,.slice none 0 0] 118)).ownsRow w.heap.size 4 1 (.slice p1 bs.length c1) bs.length (Q0 bs.length (rchF (suF bs) bs.length noB))∧Below w.heap.size w (w1.alloc (.cells #[.slice pv bs.length cv,.slice none 0 0,.slice p1 bs.length c1,.slice none 0 0] 118))∧w1.heap.size<(w1.alloc (.cells #[.slice pv bs.length cv,.slice none 0 0,.slice p1 bs.length c1,.slice none 0 0] 118)).heap.size):=⟨H1.o.1.alloc _,H1.o.2.alloc s1 _,by rw[World.size_alloc];omega⟩;generalize w1.alloc (.cells #[.slice pv bs.length cv,.slice none 0 0,.slice p1 bs.length c1,.slice none 0 0] 118)=W at *;have sW:=H2.o.2.1.size;refine(QcV bs base _ W (HB.o.keeps3 (Qs.below H2.o.2.1)) hf hn).mono ?_;rintro x w2 ⟨v2,rfl,H3⟩;obtain⟨p2,c2,rfl⟩:=Qb H3.o.1;have s2:=H3.o.2.2.size;have g2:w2.heap[w1.heap.size]?=some (.cells #[.slice pv bs.length cv,.slice none 0 0,.slice p1 bs.length c1,.slice none 0 0] 118 (0,0)):=by rw[H3.o.2.2.block _ (lt_of_block gW)];exact gW
 have k1:=Qa g2 1;have k1f:=Qf g2 1;simp at k1;have B0:Hid (GpI bs w w1.heap.size (.slice pv bs.length cv) 0 (.slice p2 (gvU bs).length c2) (.slice p1 bs.length c1) (.slice none 0 0) (w2.setCell ⟨w1.heap.size,1,none⟩ (.slice p2 (gvU bs).length c2))):=by
  refine⟨Qp g2 _ _,?_,?_,⟨[],World.ownsRow_nil _ _ _ _,fun k u hu=>by simp at hu⟩,Qr (H2.o.2.1.trans (H3.o.2.2.mono sW)) _ _ _ s1⟩
  ·have:=H3.o.1;obtain⟨a1,b1⟩:=Qm this (show w.heap.size≤W.heap.size by omega);refine⟨a1,b1.imp id ?_⟩;rintro⟨g,cap,cur,e,b2,c3,d1⟩;refine⟨g,cap,cur,e,b2,?_,d1⟩;rw[Below.heap_setCell _ _ _ _ ?_]
   ·exact c3
   ·rintro rfl;rw[g2]at c3;cases c3
  ·exact Xq (Qd H2.o.1 (Qi H3.o.2.2) trivial) g2 (by decide)
 clear g2 gW H1 H2 H3;go_wp2_with fail
 go_loopw [6] (fun i wr=>∃(m:Nat)(vO:Value),m≤bs.length∧i=.int .i64 m∧Hid (GpI bs w w1.heap.size (.slice pv bs.length cv) m (.slice p2 (gvU bs).length c2) (.slice p1 bs.length c1) vO wr)) (fun i _=>bs.length-(intOf i).toNat)
 case atStart=>exact⟨0,_,by omega,rfl,B0⟩
 case round=>
  clear B0;obtain⟨m,vO,hm,rfl,HR⟩:=hrel;rename World=>wA;have hzA:=HR.o.2.2.2.2.size;by_cases hlt:m<bs.length
  ·go_wp2_with fail;refine(GE bs m base _ wA (HB.o.keeps3 (Qs.below HR.o.2.2.2.2)) hgl hn0 hn).mono ?_;rintro x w3 ⟨v3,rfl,o3,f3⟩;rw[QgJ]at o3;obtain⟨p3,c3,rfl⟩:=Qb o3;have s3:=f3.size;have HR3:=Qc (HR.o.keeps f3);have H3:=Qc (And.intro o3 (And.intro f3 (lt_of_block HR3.o.1)));clear o3 f3;go_wp2_with fail
   go_loopw [8,9] (fun o j wr=>∃b:Nat,b≤bs.length∧j=.int .i64 b∧wr.ownsRow w3.heap.size 4 1 o b (Q0 b (X6 (suF bs) bs.length m))∧Hid (Below w3.heap.size w3 wr)) (fun _ j _=>bs.length-(intOf j).toNat)
   case atStart=>exact⟨0,by omega,rfl,World.ownsRow_nil _ _ _ _,Below.refl _ _⟩
   case round=>
    obtain⟨b,hb,rfl,OB,FB⟩:=hrel;rename World=>wB;obtain⟨pb,cb,rfl⟩:=Qb OB;have hzB:=FB.o.size;have OBH:=Qc OB;clear OB;have HRB:=Qc (HR3.o.keeps FB.o);have k2:=Qa HRB.o.1 2;have k3:=Qa HRB.o.1 3;simp at k2 k3;by_cases hbl:b<bs.length
    ·have OC:=HRB.o.2.2.1;obtain⟨gc,rfl,_,_⟩:=Qh OC (by omega);have kc:=Qe OC (Zp hbl);have OR:=Qd H3.o.1 (Qi FB.o) trivial;obtain⟨gr,rfl,_,_⟩:=Qh OR (by omega);have kr:=Qe OR (Zp hbl);have HOV:Hid (X6 (suF bs) bs.length m b=(rchF (suF bs) bs.length noB b&&!rchF (suF bs) bs.length (isB m) b)):=rfl;clear OC OR k3;generalize rchF (suF bs) bs.length noB b=x1 at *;generalize rchF (suF bs) bs.length (isB m) b=x2 at *;cases x1<;>cases x2 <;>
      (go_wp2_with (at_builtin;refine Qv ?_)
       refine Qc ?_;have HO2:=HOV.o;simp at HO2;have gB:=heap_alloc_last wB (.cells #[.bool (X6 (suF bs) bs.length m b)] 4);have OBB:=OBH.o.alloc (.cells #[.bool (X6 (suF bs) bs.length m b)] 4);rw[HO2]at gB OBB;refine Kd Tryz.underlying67 Tryz.info4 rfl (by decide) (by decide) rfl _ _ rfl rfl OBB gB rfl rfl (List.all_eq_true.1 rfl) (by omega) (by simp;omega) ?_;intro v4 w4 oS gS;have F4:=Qc (Below.grown (FB.o.alloc (by omega) _) gS (by simp;omega) (fun j hj=>by have:=(OBB.lt j hj).1;omega));obtain⟨p4,c4,rfl⟩:=Qb oS;have O4:Hid (w4.ownsRow w3.heap.size 4 1 (.slice p4 (b+1) c4) (b+1) (Q0 (b+1) (X6 (suF bs) bs.length m))):=by
        show World.ownsRow _ _ _ _ _ _ _;rw[Qay,HO2];exact oS
       clear gS gB OBB oS HO2;go_wp2_with fail;go_roundw
       case rel=>exact⟨b+1,by omega,by go_num,O4.o,F4⟩
       case measure=>simp[intOf];omega)
    ·have hbe:b=bs.length:=by omega
     subst hbe;obtain⟨us,ou,hrows⟩:=HRB.o.2.2.2.1;obtain⟨po,co,rfl⟩:=Qb ou;have HU:=Qc (And.intro ou hrows);have hul:us.length=m:=by have:=ou.1;omega
     clear ou hrows k2;go_wp2_with (at_builtin;refine Qv ?_);refine Qc ?_;have gB:=heap_alloc_last wB (.cells #[.slice pb bs.length cb] 67);have OUB:=HU.o.1.alloc (.cells #[.slice pb bs.length cb] 67);have hzw:w.heap.size≤wB.heap.size:=by omega
     refine Kd Tryz.underlying116 Tryz.info67 rfl (by decide) (by decide) rfl _ _ rfl rfl OUB gB rfl rfl (List.all_eq_true.1 rfl) (by omega) (by simp;omega) ?_;intro v5 w5 oS gS;obtain⟨p5,c5,rfl⟩:=Qb oS;have hgp:=HRB.o.1;have g5:w5.heap[w1.heap.size]?=some (.cells #[.slice pv bs.length cv,.slice p2 (gvU bs).length c2,.slice p1 bs.length c1,.slice po m co] 118 (0,0)):=Qz gS (Qj hgp _) (fun j hj e=>Qw HU.o.1 hgp (by decide) (by have h2:(Value.slice po m co).ownBlock=some j:=hj;rw[h2,e]));have B5:Hid (GpI bs w w1.heap.size (.slice pv bs.length cv) (m+1) (.slice p2 (gvU bs).length c2) (.slice p1 bs.length c1) (.slice p5 (m+1) c5) (w5.setCell ⟨w1.heap.size,3,none⟩ (.slice p5 (m+1) c5))):=by
      obtain⟨a1,a2,a3,a4,a5⟩:=HRB.o;have nb:∀{e sz n:Nat} {u:Value} {xs:List Value},wB.ownsRow w.heap.size e sz u n xs→e≠67→∀b,u.ownBlock=some b→(Value.slice po m co).ownBlock≠some b:=fun hu he b hb e2=>NM hu HU.o.1 he b e2 hb;have kp:∀{e n:Nat} {u:Value} {xs:List Value},wB.ownsRow w.heap.size e 1 u n xs→e≠67→e≠118→(w5.setCell ⟨w1.heap.size,3,none⟩ (.slice p5 (m+1) c5)).ownsRow w.heap.size e 1 u n xs:=fun hu he h180=>Xq (RO (hu.alloc _) gS (nb hu he)) g5 (fun e2=>h180 e2.symm);refine⟨Qp g5 _ _,?_,kp a3 (by decide) (by decide),⟨us++[.slice pb bs.length cb],Xq oS g5 (by decide),fun k u hu=>?_⟩,Qr (Below.grown (a5.alloc hzw _) gS (by rw[World.size_alloc];omega) (fun j hj=>by have:=(OUB.lt j hj).1;omega)) _ _ _ (by omega)⟩
      ·obtain⟨b1,b2⟩:=a2;refine⟨b1,b2.imp id ?_⟩;rintro⟨g,cap,cur,e,b3,c3',d1⟩;refine⟨g,cap,cur,e,b3,?_,d1⟩;refine Qo (Qz gS (Qj c3' _) (fun j hj e3=>?_)) ?_ _ _
       ·have hh:=HU.o.1;exact Qw hh c3' (by decide) (by have h2:(Value.slice po m co).ownBlock=some j:=hj;rw[h2,e3])
       ·rintro rfl;rw[a1]at c3';cases c3'
      ·rw[List.getElem?_append]at hu;split at hu
       ·exact kp (HU.o.2 k u hu) (by decide) (by decide)
       ·rename_i hk;have hk2:k=m:=by
         rcases Nat.lt_or_ge (k-us.length) 1 with h|h
         ·omega
         ·rw[List.getElem?_eq_none (by simpa using h)]at hu;cases hu
        subst hk2;rw[hul]at hu;simp at hu;subst hu;exact kp (Qm OBH.o (by omega)) (by decide) (by decide)
     have k3':=Qa g5 3;have k3f:=Qf g5 3;simp at k3';clear gS gB OUB oS g5 HU HRB hgp k3;go_wp2_with fail;go_roundw
     case rel=>exact⟨m+1,_,by omega,by go_num,B5⟩
     case measure=>simp[intOf];omega
  ·have hme:m=bs.length:=by omega
   have HG:Hid (GrI bs base w.heap.size w1.heap.size (.slice pv bs.length cv) wA∧Below w.heap.size w wA):=by
    obtain⟨a1,a2,a3,a4,a5⟩:=HR.o;rw[hme]at a4;exact⟨⟨_,_,_,a1,HB.o.keeps3 (Qs.below a5),a2,a3,a4⟩,a5⟩
   clear hme HR;go_wp2_with fail;go_ret;exact⟨_,rfl,HG⟩
end Go.Proofs.YtgfhfkgdmidhpaaGreatDoor
