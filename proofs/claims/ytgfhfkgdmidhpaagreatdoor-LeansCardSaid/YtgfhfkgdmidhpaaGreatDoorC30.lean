import Derived.Test.YtgfhfkgdmidhpaaGreatDoorC20
namespace Go.Proofs.YtgfhfkgdmidhpaaGreatDoor
open Go.RowKit
set_option maxRecDepth 100000
set_option maxHeartbeats 8000000
theorem QbX{l:List (Nat×Nat)}{t:Nat}(ht:t<l.length)(frm:Nat)(r:Nat→Int):KX (l.take (t+1)) frm r=if l[t].1=frm then r l[t].2 else KX (l.take t) frm r:=by
 rw[KX,List.take_succ_eq_append_getElem ht,List.foldl_append];rfl
def chV(chs:List QH)(frm:Nat)(r:Nat→Int):List Int:=chs.map fun c=>KX (QL c).src frm r
theorem QeE{chs:List QH}{k:Nat}(hk:k<chs.length) (frm r):(chV chs frm r).take (k+1)=(chV chs frm r).take k++[KX (QL chs[k]).src frm r]:=by
 rw[List.take_succ_eq_append_getElem (by rw[chV,List.length_map];exact hk)];simp[chV]
theorem Qbw(chs frm r):(chV chs frm r).length=chs.length:=List.length_map ..
theorem NX(l:List (Nat×Int)){k:Nat}(hk:k<l.length) (r):K7 (l.take (k+1)) r=upd (K7 (l.take k) r) l[k].1 l[k].2:=by
 rw[K7,List.take_succ_eq_append_getElem hk,List.foldl_append];rfl
def VF(chs:List QH)(frm k:Nat)(r:Nat→Int):Nat→Int:=K7 (((chs.map QL).map fun c=>(c.to,KX c.src frm r)).take k) r
theorem Qcp{chs:List QH}{k:Nat}(hk:k<chs.length) (frm r):VF chs frm (k+1) r=upd (VF chs frm k r) chs[k].to.1 ((chV chs frm r)[k]'(by rw[Qbw];exact hk)):=by
 rw[VF,NX _ (by simpa using hk)];simp[chV,VF,QL]
theorem QeJ(chs:List QH) (frm r):VF chs frm chs.length r=chA (chs.map QL) frm r:=by
 rw[VF,List.take_of_length_le (by simp)];rfl
theorem Qgz(base0 g q frm:Nat)(b:Ql)(vc vs:Value)(m:Mac)(w0 w:World)(h:Xb w0.heap.size g q m w)(F0:Below w0.heap.size w0 w)(hC:Xn w0 base0 b.chs vc)(hvs:∃p n c,vs=.slice p n c)(hf:ZG 1000000 b)(hg2:∀c∈b.chs,c.gs.length≤1000)(hq:q≤100000000):
  Calls Tryz.prog 58 #[.pointer (some ⟨g,0,none⟩),.agg #[vc,vs,.int .u8 b.e.op,.int .i64 b.e.a.1,.int .i64 b.e.a.2,.int .i64 b.e.one.1,.int .i64 b.e.one.2,.int .i64 b.e.two.1,.int .i64 b.e.two.2,.int .i64 b.at_],.int .i64 frm] w fun x w'=>x=.returned (.tuple #[])∧Hid (Xb w0.heap.size g (q+b.chs.length) { m with r:=chA (b.chs.map QL) frm m.r } w'∧Kg g w w'∧Below w0.heap.size w w'):=by
 obtain⟨pc0,cc0,rfl⟩:∃p c,vc=.slice p b.chs.length c:=hC.slice;obtain⟨ps,ns0,cs,rfl⟩:=hvs;have HM:=Qc h;have HC:=Qc hC;have HF0:=Qc F0;have h0w:=F0.size;have hcl:=hf.cl;have HF:=Qc hf;have HG2:=Qc hg2;clear h F0 hC hf hg2;have B0:Hid ((w.alloc (.cells #[.slice pc0 b.chs.length cc0,.slice ps ns0 cs,.int .u8 b.e.op,.int .i64 b.e.a.1,.int .i64 b.e.a.2,.int .i64 b.e.one.1,.int .i64 b.e.one.2,.int .i64 b.e.two.1,.int .i64 b.e.two.2,.int .i64 b.at_] 53)).heap[w.heap.size]?=some (.cells #[.slice pc0 b.chs.length cc0,.slice ps ns0 cs,.int .u8 b.e.op,.int .i64 b.e.a.1,.int .i64 b.e.a.2,.int .i64 b.e.one.1,.int .i64 b.e.one.2,.int .i64 b.e.two.1,.int .i64 b.e.two.2,.int .i64 b.at_] 53 (0,0))∧Below w.heap.size w (w.alloc (.cells #[.slice pc0 b.chs.length cc0,.slice ps ns0 cs,.int .u8 b.e.op,.int .i64 b.e.a.1,.int .i64 b.e.a.2,.int .i64 b.e.one.1,.int .i64 b.e.one.2,.int .i64 b.e.two.1,.int .i64 b.e.two.2,.int .i64 b.at_] 53))):=⟨heap_alloc_last _ _,(Below.refl _ _).alloc (Nat.le_refl _) _⟩;go_enter Tryz.func58,Tryz.ntmps58;go_wp2_with fail;have hb0:Hid ((#[.slice pc0 b.chs.length cc0,.slice ps ns0 cs,.int .u8 b.e.op,.int .i64 b.e.a.1,.int .i64 b.e.a.2,.int .i64 b.e.one.1,.int .i64 b.e.one.2,.int .i64 b.e.two.1,.int .i64 b.e.two.2,.int .i64 b.at_]:Array Value)[0]?=some (.slice pc0 b.chs.length cc0)):=rfl;generalize (#[.slice pc0 b.chs.length cc0,.slice ps ns0 cs,.int .u8 b.e.op,.int .i64 b.e.a.1,.int .i64 b.e.a.2,.int .i64 b.e.one.1,.int .i64 b.e.one.2,.int .i64 b.e.two.1,.int .i64 b.e.two.2,.int .i64 b.at_]:Array Value)=BX at *
 go_loopw [6,7] (fun v i wr=>∃(k:Nat)(V:List Int),k≤b.chs.length∧i=.int .i64 k∧V.length=k∧Hid (V=(chV b.chs frm m.r).take k)∧wr.ownsRow w.heap.size 3 1 v V.length (ZM V)∧Hid (wr.heap[w.heap.size]?=some (.cells BX 53 (0,0))∧Below w.heap.size w wr)) (fun _ i _=>b.chs.length-(intOf i).toNat)
 case atStart=>exact⟨0,[],by omega,rfl,rfl,rfl,World.ownsRow_nil _ _ _ _,B0⟩
 case round=>
  clear B0;obtain⟨k,V,hk,rfl,hvk,HV,OV,HI⟩:=hrel;rename World=>wA;obtain⟨pV,cV,rfl⟩:=Qb OV;have HOV:=Qc OV;have hzA:=HI.o.2.size;have hgA:=lt_of_block HI.o.1;have k0:wA.cell? ⟨w.heap.size,0,none⟩=some (.slice pc0 b.chs.length cc0):=(Qa HI.o.1 0).trans hb0.out;have HK:=Qc hvk;have hV1:V.length≤1000000:=by omega
  clear OV hvk;by_cases hlt:k<b.chs.length
  ·obtain⟨gc,pf,cf,pr,cr,rfl,_,hgc,OF,OR,e0,e1,e2,e3⟩:=HC.o.at hlt;have FA:=Qc (HF0.o.trans (HI.o.2.mono h0w));replace e0:=(FA.o.cell (p:=⟨gc,k*4,none⟩) hgc).trans e0;replace e1:=(FA.o.cell (p:=⟨gc,k*4+1,none⟩) hgc).trans e1;replace e2:=(FA.o.cell (p:=⟨gc,k*4+2,none⟩) hgc).trans e2;replace e3:=(FA.o.cell (p:=⟨gc,k*4+3,none⟩) hgc).trans e3;have HCH:=Qc (HF.o.ch _ (List.getElem_mem hlt));have hgl:=HG2.o _ (List.getElem_mem hlt);have HOF:=Qc (And.intro OF OR);have gW:=heap_alloc_last wA (.cells #[.int .i64 b.chs[k].to.1,.int .i64 b.chs[k].to.2,.slice pf b.chs[k].gs.length cf,.slice pr b.chs[k].rs.length cr] 64);have FW:=(Below.refl wA.heap.size wA).alloc (Nat.le_refl _) (.cells #[.int .i64 b.chs[k].to.1,.int .i64 b.chs[k].to.2,.slice pf b.chs[k].gs.length cf,.slice pr b.chs[k].rs.length cr] 64);have sW:wA.heap.size<(wA.alloc (.cells #[.int .i64 b.chs[k].to.1,.int .i64 b.chs[k].to.2,.slice pf b.chs[k].gs.length cf,.slice pr b.chs[k].rs.length cr] 64)).heap.size:=by rw[World.size_alloc];omega
   have HW:=Qc (And.intro gW (And.intro FW (HOV.o.alloc (.cells #[.int .i64 b.chs[k].to.1,.int .i64 b.chs[k].to.2,.slice pf b.chs[k].gs.length cf,.slice pr b.chs[k].rs.length cr] 64))));clear OF OR gW FW;go_wp2_with fail;clear e0 e1 e2 e3 k0;generalize wA.alloc (.cells #[.int .i64 b.chs[k].to.1,.int .i64 b.chs[k].to.2,.slice pf b.chs[k].gs.length cf,.slice pr b.chs[k].rs.length cr] 64)=W at *;have zW:=HW.o.2.1.size
   go_loopw [9,10] (fun n i wr=>∃(t:Nat)(y:Int),t≤b.chs[k].gs.length∧i=.int .i64 t∧n=.int .i64 y∧Hid (y=KX ((QL b.chs[k]).src.take t) frm m.r)∧Hid (Below W.heap.size W wr)) (fun _ i _=>b.chs[k].gs.length-(intOf i).toNat)
   case atStart=>exact⟨0,0,by omega,rfl,rfl,rfl,Below.refl _ _⟩
   case round=>
    obtain⟨t,y,ht,rfl,rfl,HY,F2⟩:=hrel;rename World=>wB;have z2:=F2.o.size;have gB:wB.heap[wA.heap.size]?=some (.cells #[.int .i64 b.chs[k].to.1,.int .i64 b.chs[k].to.2,.slice pf b.chs[k].gs.length cf,.slice pr b.chs[k].rs.length cr] 64 (0,0)):=by rw[F2.o.block _ (by omega)];exact HW.o.1
    have b2:=Qa gB 2;have b3:=Qa gB 3;simp at b2 b3;clear gB;have FB:=Qc (FA.o.trans ((HW.o.2.1.trans (F2.o.mono zW)).mono (by have:=FA.o.size;omega)));by_cases htl:t<b.chs[k].gs.length
    ·have htr:t<b.chs[k].rs.length:=by have:=HCH.o.2.1;omega
     have OFB:=Qd HOF.o.1 (Qi FB.o) trivial;have ORB:=Qd HOF.o.2 (Qi FB.o) trivial;obtain⟨gf,rfl,_,_⟩:=Qh OFB (by omega);obtain⟨gr,rfl,_,_⟩:=Qh ORB (by omega);have f0:=Qe OFB (QX htl).1;have r0:=Qe ORB (QX htr).1;have hsl:t<(QL b.chs[k]).src.length:=by simp[QL];omega
     have hse:(QL b.chs[k]).src[t]=(b.chs[k].gs[t].1,b.chs[k].rs[t].1):=by simp[QL]
     have HNX:=Qc (QbX hsl frm m.r);have HSE:=Qc hse;clear OFB ORB hse;by_cases he:b.chs[k].gs[t].1=frm
     ·have HN2:Hid (m.r b.chs[k].rs[t].1=KX ((QL b.chs[k]).src.take (t+1)) frm m.r):=by show _=_;rw[HNX.o,HSE.o,if_pos he]
      have hd:((b.chs[k].gs[t].1:Int)==(frm:Int))=true:=by simp;omega
      clear he HNX HSE;go_wp2_with fail;refine(GU w0.heap.size g b.chs[k].rs[t].1 q m wB (HM.o.keeps ((HI.o.2.trans ((HW.o.2.1.trans (F2.o.mono zW)).mono hzA)))) (by omega)).mono ?_;rintro e w5 ⟨rfl,f5⟩;have F5:=Qc (F2.o.trans (f5.mono z2));clear f5;go_wp2_with fail;go_roundw
      case rel=>exact⟨t+1,_,by omega,by go_num,rfl,HN2,F5⟩
      case measure=>simp[intOf];omega
     ·have HN2:Hid (y=KX ((QL b.chs[k]).src.take (t+1)) frm m.r):=by show _=_;rw[HNX.o,HSE.o,if_neg he];exact HY.o
      have hd:((b.chs[k].gs[t].1:Int)==(frm:Int))=false:=by simp;omega
      clear he HNX HSE;go_wp2_with fail;go_roundw
      case rel=>exact⟨t+1,_,by omega,by go_num,rfl,HN2,F2⟩
      case measure=>simp[intOf];omega
    ·have hte:t=b.chs[k].gs.length:=by omega
     have HYE:Hid (V++[y]=(chV b.chs frm m.r).take (k+1)):=by
      show _=_;rw[QeE hlt,←HV.o,HY.o,List.take_of_length_le (by simp[QL];omega)]
     clear hte HY;go_wp2_with (at_builtin;refine Qv ?_);refine Qc ?_;have OVB:=Qd HW.o.2.2 (Qi F2.o) trivial;have gB:=heap_alloc_last wB (.cells #[.int .i64 y] 3);have OB:=OVB.alloc (.cells #[.int .i64 y] 3);refine KU Tryz.underlying22 Tryz.info3 rfl (by decide) (by decide) rfl _ _ rfl rfl OB gB rfl rfl (List.all_eq_true.1 rfl) (by omega) (by simp;omega) ?_;intro v6 w6 oS gS nS;obtain⟨v6p,v6c,rfl⟩:=Qb oS;have C6:=ZB gS;have R6:Hid (w6.ownsRow w.heap.size 3 1 (.slice v6p (V.length+1) v6c) (V++[y]).length (ZM (V++[y]))∧w6.heap[w.heap.size]?=some (.cells BX 53 (0,0))∧Below w.heap.size w w6):=by
      refine⟨by rw[Yo,List.length_append];exact oS,?_,?_⟩
      ·have hbB:wB.heap[w.heap.size]?=some (.cells BX 53 (0,0)):=by rw[F2.o.block _ (by omega),HW.o.2.1.block _ hgA];exact HI.o.1
       rw[C6.block _ (by omega) (fun e2=>Qw OVB hbB (by decide) e2.symm)];exact hbB
      ·exact(HI.o.2.trans ((HW.o.2.1.trans (F2.o.mono zW)).mono hzA)).trans (C6.toBelow (by omega) (fun k hk=>(OVB.lt k hk.symm).1))
     clear oS gS nS gB OB OVB C6 b2 b3;go_wp2_with fail;go_roundw
     case rel=>exact⟨k+1,V++[y],by omega,by go_num,by rw[List.length_append,List.length_singleton,HK.o],HYE,R6.o.1,R6.o.2⟩
     case measure=>simp[intOf];omega
  ·have hke:k=b.chs.length:=by omega
   have HVE:Hid (V=chV b.chs frm m.r):=by show _=_;rw[HV.o,hke,List.take_of_length_le (by rw[Qbw];omega)]
   have hVl:V.length=b.chs.length:=by have:=HK.o;omega
   have HVL:=Qc hVl;obtain⟨ns,hs,vN,vH,vI,vO,hM,hnq⟩:=HM.o;have ap:ZQ (.slice pV V.length cV) vN∧ZQ (.slice pV V.length cV) vH:=⟨fun j hj hj2=>by have:=(HOV.o.lt j hj2).1;have:=(hM.1.2.1.1.lt j hj).2;omega,fun j hj hj2=>by have:=(HOV.o.lt j hj2).1;have:=(hM.1.2.1.2.1.lt j hj).2;omega⟩;have B2:Hid (KQ w0.heap.size g ns hs vN vH vI vO { m with r:=VF b.chs frm 0 m.r } wA∧wA.heap[w.heap.size]?=some (.cells BX 53 (0,0))∧wA.ownsRow w.heap.size 3 1 (.slice pV V.length cV) V.length (ZM V)∧ZQ (.slice pV V.length cV) vN∧ZQ (.slice pV V.length cV) vH∧Kg g w wA∧Below w0.heap.size w wA):=⟨hM.keeps HI.o.2,HI.o.1,HOV.o,ap.1,ap.2,Kg.below HI.o.2,HI.o.2.mono h0w⟩;have hgw:g<w.heap.size:=lt_of_block hM.1.1.1;clear hM ap hke HV HK HOV HI hVl;go_wp2_with fail;clear k0
   go_loopw [11] (fun i wr=>∃(j:Nat)(ns:List Nat)(hs:List Int)(vN vH vI vO:Value),j≤b.chs.length∧i=.int .i64 j∧ns.length≤q+j∧Hid (KQ w0.heap.size g ns hs vN vH vI vO { m with r:=VF b.chs frm j m.r } wr∧wr.heap[w.heap.size]?=some (.cells BX 53 (0,0))∧wr.ownsRow w.heap.size 3 1 (.slice pV V.length cV) V.length (ZM V)∧ZQ (.slice pV V.length cV) vN∧ZQ (.slice pV V.length cV) vH∧Kg g w wr∧Below w0.heap.size w wr)) (fun i _=>b.chs.length-(intOf i).toNat)
   case atStart=>exact⟨0,ns,hs,vN,vH,vI,vO,by omega,rfl,by omega,B2⟩
   case round=>
    clear B2;obtain⟨j,ns,hs,vN,vH,vI,vO,hj,rfl,hnj,H2⟩:=hrel;rename World=>wB;have b0:wB.cell? ⟨w.heap.size,0,none⟩=some (.slice pc0 b.chs.length cc0):=(Qa H2.o.2.1 0).trans hb0.out;have hzB:=H2.o.2.2.2.2.2.2.size;by_cases hjl:j<b.chs.length
    ·obtain⟨gc,pf,cf,pr,cr,rfl,_,hgc,_,_,e0,_,_,_⟩:=HC.o.at hjl;replace e0:=((HF0.o.trans H2.o.2.2.2.2.2.2).cell (p:=⟨gc,j*4,none⟩) hgc).trans e0;have hjV:j<V.length:=by have:=HVL.o;omega
     obtain⟨gV,rfl,_,_⟩:=Qh H2.o.2.2.1 (by omega);have cV0:=Qe H2.o.2.2.1 (Kk hjV);have HNX:Hid (upd (VF b.chs frm j m.r) b.chs[j].to.1 V[j]=VF b.chs frm (j+1) m.r):=by
      show _=_;rw[Qcp hjl]
      congr 1
      simp[HVE.o]
     go_wp2_with fail;have HS:Hid (Calls Tryz.prog 94 #[.pointer (some ⟨g,0,none⟩),.int .i64 b.chs[j].to.1,.int .i64 V[j]] wB.drew fun x w'=>x=.returned (.tuple #[])∧∃ns' hs' vN' vH',Hid (KQ w0.heap.size g ns' hs' vN' vH' vI vO { m with r:=upd (VF b.chs frm j m.r) b.chs[j].to.1 V[j] } w'∧ns'.length≤ns.length+1∧Sf g vN vH vN' vH' wB.drew w')):=QiM w0.heap.size g b.chs[j].to.1 V[j] ns hs vN vH vI vO _ wB.drew (H2.o.1.keeps (w':=wB.drew) ⟨rfl,rfl,rfl,Nat.le_refl _,fun _ _=>rfl⟩) (by omega) (Nat.le_trans h0w hzB)
     go_region_law (first | (refine ZN rfl 94 #[.pointer (some ⟨g,0,none⟩),.int .i64 b.chs[j].to.1,.int .i64 V[j]] (by go_simp) HS.o ?_;rintro x w5 ⟨rfl,ns5,hs5,vN5,vH5,H5d⟩;have H5:Hid (KQ w0.heap.size g ns5 hs5 vN5 vH5 vI vO { m with r:=upd (VF b.chs frm j m.r) b.chs[j].to.1 V[j] } w5∧ns5.length≤ns.length+1∧Sf g vN vH vN5 vH5 wB w5):=⟨H5d.o.1,H5d.o.2.1,⟨⟨H5d.o.2.2.ch.os,H5d.o.2.2.ch.tape,H5d.o.2.2.ch.output,H5d.o.2.2.ch.size,H5d.o.2.2.ch.block⟩,H5d.o.2.2.newN,H5d.o.2.2.newH⟩⟩;clear H5d) | fail)
     all_goals
      clear e0 cV0 b0 HS;have K5:=H2.o.1.kg H5.o.2.2;have hV5:ZQ (.slice (some ⟨gV,0,none⟩) V.length cV) vN5∧ZQ (.slice (some ⟨gV,0,none⟩) V.length cV) vH5:=⟨H5.o.2.2.newN.apart H2.o.2.2.1 H2.o.2.2.2.1,H5.o.2.2.newH.apart H2.o.2.2.1 H2.o.2.2.2.2.1⟩;have R5:Hid (KQ w0.heap.size g ns5 hs5 vN5 vH5 vI vO { m with r:=VF b.chs frm (j+1) m.r } w5∧w5.heap[w.heap.size]?=some (.cells BX 53 (0,0))∧w5.ownsRow w.heap.size 3 1 (.slice (some ⟨gV,0,none⟩) V.length cV) V.length (ZM V)∧ZQ (.slice (some ⟨gV,0,none⟩) V.length cV) vN5∧ZQ (.slice (some ⟨gV,0,none⟩) V.length cV) vH5∧Kg g w w5∧Below w0.heap.size w w5):=by
       refine⟨by rw[←HNX.o];exact H5.o.1,K5 _ _ _ (by omega) (by decide) H2.o.2.1,ZH H2.o.2.2.1 (fun i hi hi2=>H5.o.2.2.ch.block i hi (fun hp=>hp.elim (fun e2=>Qw H2.o.2.2.1 H2.o.1.1.1.1 (by decide) (by rw[←e2];exact hi2)) (fun hp=>hp.elim (fun e2=>H2.o.2.2.2.1 i e2.symm hi2) (fun e2=>H2.o.2.2.2.2.1 i e2.symm hi2)))),hV5.1,hV5.2,H2.o.2.2.2.2.2.1.trans K5,H2.o.2.2.2.2.2.2.trans (H2.o.1.bel H5.o.2.2 (by omega))⟩
      have hn5:ns5.length≤q+(j+1):=by have:=H5.o.2.1;omega
      clear H5 K5 hV5 H2;go_wp2_with fail;go_roundw
      case rel=>exact⟨j+1,ns5,hs5,vN5,vH5,vI,vO,by omega,by go_num,hn5,R5⟩
      case measure=>simp[intOf];omega
    ·have hje:j=b.chs.length:=by omega
     have R:Hid (Xb w0.heap.size g (q+b.chs.length) { m with r:=chA (b.chs.map QL) frm m.r } wB∧Kg g w wB∧Below w0.heap.size w wB):=by
      refine⟨⟨ns,hs,vN,vH,vI,vO,?_,by omega⟩,H2.o.2.2.2.2.2.1,H2.o.2.2.2.2.2.2⟩;rw[←QeJ,←hje];exact H2.o.1
     clear hje H2;go_wp2_with fail
     go_end0
     exact⟨rfl,R.o⟩
def InA(v:Value)(l:List Int)(w:World):Prop:=
 ∃p c,v=.slice p l.length c∧l.length≤c∧(0<l.length→∃g o,p=some ⟨g,o,none⟩∧g<w.heap.size∧∀j (h:j<l.length),w.cell? ⟨g,o+j,none⟩=some (.int .i64 l[j]))
theorem InA.keeps{v l w w'}(h:InA v l w)(F:Below w.heap.size w w'):InA v l w':=by
 obtain⟨p,c,rfl,hc,h⟩:=h;refine⟨p,c,rfl,hc,fun h0=>?_⟩;obtain⟨g,o,a,b,d⟩:=h h0;exact⟨g,o,a,Nat.lt_of_lt_of_le b F.size,fun j hj=>(F.cell (p:=⟨g,o+j,none⟩) b).trans (d j hj)⟩
theorem Qan{w w':World}{r:Option Nat}(g:w.drew.grownBy w' r):w.grownBy w' r:=⟨g.os,g.tape,g.output,g.size,g.block⟩
theorem QiC{base:Nat}{v:Value}{l:List Int}{w:World}(h:w.ownsRow base 3 1 v l.length (ZM l)):InR base v l w:=by
 obtain⟨p,c,rfl⟩:=Qb h;refine⟨p,c,rfl,?_,fun h0=>?_⟩
 ·rcases h.2 with ⟨h1,h2⟩|⟨g,cap,cur,hv,hb,hg,hc,_,hs,hx⟩
  ·simp only[Value.slice.injEq]at h1;omega
  ·cases hv;exact hc
 ·obtain⟨g,rfl,hb,hl⟩:=Qh h h0;rcases h.2 with ⟨h1,_⟩|⟨g',cap,cur,hv,_,hg,hc,_,hs,hx⟩
  ·cases h1
  ·cases hv;refine⟨g,0,cur,rfl,hb,hg,fun j hj=>?_⟩;have:=Qe h (Kk hj);rw[Qa hg]at this
   rwa [Nat.zero_add]
theorem Ji{bs:List Ql}{i:Nat}(hi:i<bs.length)(j:Nat)(fm:Int)(m:Mac):plA (absP bs) (j+1) i fm m=if bs[i].e.op=46 then ((blA (Zy bs[i]) fm m).out,0) else plA (absP bs) j (nxA (Zy bs[i]) (blA (Zy bs[i]) fm m)) i (blA (Zy bs[i]) fm m):=by
 have e:bkA (absP bs) i=Zy bs[i]:=by rw[Um (by simpa[absP] using hi)];simp[absP]
 rw[plA,e];rfl
theorem Gt(t:ASt)(m:Mac):(stA t m).out.length≤m.out.length+1:=by
 cases t<;>simp[stA]
theorem Qes(b:ABk)(fm:Int)(m:Mac):(Kb b fm m).out=m.out:=by
 unfold Kb;split<;>rfl
theorem UB{l:List Qy}{t:Nat}(ht:t<l.length)(m:Mac):KV ((l.take (t+1)).map QA) m=stA (QA l[t]) (KV ((l.take t).map QA) m):=by
 rw[List.take_succ_eq_append_getElem ht,List.map_append,QcM];rfl
theorem Xb.outRow{base g q m w}(h:Xb base g q m w):∃vO,w.cell? ⟨g,3,none⟩=some vO∧w.ownsRow base 3 1 vO m.out.length (ZM m.out):=by
 obtain⟨ns,hs,vN,vH,vI,vO,hM,_⟩:=h;refine⟨vO,?_,hM.1.2.1.2.2⟩;have:=Qa hM.1.1.1 3;simpa using this
theorem Xb.lt{base g q m w}(h:Xb base g q m w):g<w.heap.size:=by
 obtain⟨ns,hs,vN,vH,vI,vO,hM,_⟩:=h;exact lt_of_block hM.1.1.1
theorem QgU(bs:List Ql)(base:Nat)(vl vi:Value)(V:List Int)(f:Nat)(w:World)(h:QK w base bs vl)(hi:InA vi V w)(hV:V.length≤20)(hf:f≤300)(hpos:0<bs.length)
  (hfine:∀b∈bs,ZG 1000000 b)(hcs:∀b∈bs,b.chs.length+b.sts.length≤100000)(hgl:∀b∈bs,∀c∈b.chs,c.gs.length≤1000)(hop:∀b∈bs,∀t∈b.sts,t.op<256)(hnx:∀b∈bs,b.e.op<256∧(b.e.op≠46→b.e.one.1<bs.length)∧(b.e.op=63→b.e.two.1<bs.length)):
  Calls Tryz.prog 32 #[vl,vi,.int .i64 f] w fun x w'=>∃v,x=.returned (.tuple #[v,.int .i64 (playA (absP bs) V f).2])∧Hid (w'.ownsRow w.heap.size 3 1 v (playA (absP bs) V f).1.length (ZM (playA (absP bs) V f).1)∧Below w.heap.size w w'):=by
 obtain⟨pl,cl,rfl⟩:=h.slice;have hib:=hi;obtain⟨pi,ci,rfl,hci,_⟩:=hi;have HB:=Qc h;have HI:=Qc hib;have HF:=Qc hfine;have HG:=Qc hgl;have HCS:=Qc hcs;have HO:=Qc hop;have HX:=Qc hnx;clear h hib hfine hgl hop hnx hcs;go_enter Tryz.func32,Tryz.ntmps32;go_wp2_with fail;have B0:Hid ((w.alloc (.cells #[.slice none 0 0,.slice none 0 0,.slice none 0 0,.slice none 0 0] 125)).heap[w.heap.size]?=some (.cells #[.slice none 0 0,.slice none 0 0,.slice none 0 0,.slice none 0 0] 125 (0,0))∧Below w.heap.size w (w.alloc (.cells #[.slice none 0 0,.slice none 0 0,.slice none 0 0,.slice none 0 0] 125))):=⟨heap_alloc_last _ _,(Below.refl _ _).alloc (Nat.le_refl _) _⟩
 go_loopw [9] (fun i wr=>∃(k:Nat)(L:List Int)(vI:Value),k≤V.length∧i=.int .i64 k∧Hid (L=V.take k)∧wr.ownsRow w.heap.size 3 1 vI L.length (ZM L)∧Hid (wr.heap[w.heap.size]?=some (.cells #[.slice none 0 0,.slice none 0 0,vI,.slice none 0 0] 125 (0,0))∧Below w.heap.size w wr)) (fun i _=>V.length-(intOf i).toNat)
 case atStart=>exact⟨0,[],_,by omega,rfl,rfl,World.ownsRow_nil _ _ _ _,B0⟩
 case round=>
  clear B0;obtain⟨k,L,vI,hk,rfl,HL,OV,HW⟩:=hrel;rename World=>wA;obtain⟨pI,cI,rfl⟩:=Qb OV;have hzA:=HW.o.2.size;have hgA:=lt_of_block HW.o.1;have hkl:L.length=k:=by rw[HL.o,List.length_take];omega
  by_cases hlt:k<V.length
  ·obtain⟨p,c,e,_,hin⟩:=HI.o;obtain⟨gI,oI,rfl,hcs,hcx⟩:=hin (by omega);cases e;have c0:wA.cell? ⟨gI,oI+k,none⟩=some (.int .i64 V[k]):=by
    rw[HW.o.2.cell (p:=⟨gI,oI+k,none⟩) hcs];exact hcx k hlt
   have m2:wA.cell? ⟨w.heap.size,2,none⟩=some (.slice pI L.length cI):=by
    have:=Qa HW.o.1 2;simpa using this
   have HOV:=Qc OV;have HN:Hid (L++[V[k]]=V.take (k+1)):=by show _=_;rw[List.take_succ_eq_append_getElem hlt,HL.o]
   have HKL:=Qc hkl;have hk20:L.length≤20:=by omega
   have OBd:Hid ((wA.alloc (.cells #[.int .i64 V[k]] 3)).drew.ownsRow w.heap.size 3 1 (.slice pI L.length cI) L.length (ZM L)):=OV.alloc _;have hzD:Hid ((wA.alloc (.cells #[.int .i64 V[k]] 3)).drew.heap[wA.heap.size]?=some (.cells #[.int .i64 V[k]] 3 (0,0))):=heap_alloc_last wA _;have hsD:w.heap.size≤(wA.alloc (.cells #[.int .i64 V[k]] 3)).drew.heap.size:=by show _≤(wA.alloc _).heap.size;rw[World.size_alloc];omega
   clear hkl hcx hcs OV hin;go_wp2_with fail
   go_region_law (first | (refine Wr Tryz.underlying22 Tryz.info3 rfl (by decide) (by decide) rfl _ _ rfl rfl OBd.o hzD.out rfl rfl (List.all_eq_true.1 rfl) (by omega) hsD ?_;intro v7 w7 oS gS nS;obtain⟨v7p,v7c,rfl⟩:=Qb oS;have C7:=ZB (Qan gS);have a7:w7.heap[w.heap.size]?=some (.cells #[.slice none 0 0,.slice none 0 0,.slice pI L.length cI,.slice none 0 0] 125 (0,0)):=(by rw[C7.block _ hgA (fun e2=>Qw HOV.o HW.o.1 (by decide) e2.symm)];exact HW.o.1);have z2:=Qa a7 2;have z2f:=Qf a7 2;have H7:=Qc (And.intro oS (And.intro a7 C7));simp at z2;clear oS gS nS a7 C7))
   all_goals
    have R:Hid ((w7.setCell ⟨w.heap.size,2,none⟩ (.slice v7p (L.length+1) v7c)).ownsRow w.heap.size 3 1 (.slice v7p (L.length+1) v7c) (L++[V[k]]).length (ZM (L++[V[k]]))∧(w7.setCell ⟨w.heap.size,2,none⟩ (.slice v7p (L.length+1) v7c)).heap[w.heap.size]?=some (.cells #[.slice none 0 0,.slice none 0 0,.slice v7p (L.length+1) v7c,.slice none 0 0] 125 (0,0))∧Below w.heap.size w (w7.setCell ⟨w.heap.size,2,none⟩ (.slice v7p (L.length+1) v7c))):=by
     refine⟨?_,?_,?_⟩
     ·rw[Yo,List.length_append];exact ZH H7.o.1 (fun j _ hj=>Qu (fun e2=>Qw H7.o.1 H7.o.2.1 (by decide) (by rw[←e2];exact hj)))
     ·rw[Qp H7.o.2.1];rfl
     ·exact Qr (HW.o.2.trans (H7.o.2.2.toBelow (by omega) (fun j hj=>(HOV.o.lt j hj.symm).1))) _ _ _ (Nat.le_refl _)
    clear H7 HOV OBd hzD c0 m2 z2 z2f;go_wp2_with fail;go_roundw
    case rel=>exact⟨k+1,L++[V[k]],_,by omega,by go_num,HN,R.o.1,R.o.2⟩
    case measure=>simp[intOf];omega
  ·have hke:k=V.length:=by omega
   have M0:Hid (Xb w.heap.size w.heap.size 0 ⟨fun _=>0,V,[]⟩ wA∧Below w.heap.size w wA):=by
    obtain rfl:L=V:=by rw[HL.o,hke,List.take_length]
    refine⟨⟨[],[],.slice none 0 0,.slice none 0 0,_,.slice none 0 0,⟨⟨⟨HW.o.1,Nat.le_refl _⟩,⟨World.ownsRow_nil _ _ _ _,World.ownsRow_nil _ _ _ _,World.ownsRow_nil _ _ _ _⟩,QiC OV,⟨(fun j hj=>by cases hj),(fun j hj=>by cases hj),(fun j hj=>by cases hj)⟩,fun j hj=>⟨(fun h=>by cases h),(fun h=>by cases h),(fun h=>by cases h)⟩⟩,rfl,?_⟩,Nat.le_refl _⟩,HW.o.2⟩
    funext n
    exact(UT _ _).symm
   clear hke OV HW hkl HL;go_wp2_with fail;have HS:Hid (plA (absP bs) f 0 (-1) ⟨fun _=>0,V,[]⟩=playA (absP bs) V f):=rfl
   go_loopw [2,10,11] (fun fu at_ fr wr=>∃(k i:Nat)(fm:Int)(m:Mac)(q:Nat),fu=.int .i64 k∧at_=.int .i64 i∧fr=.int .i64 fm∧k≤f∧i<bs.length∧q+100000*k≤100000*f∧m.out.length+100000*k≤100000*f∧Hid ((fm=-1∨∃j:Nat,fm=j)∧plA (absP bs) k i fm m=playA (absP bs) V f)∧Hid (Xb w.heap.size w.heap.size q m wr∧Below w.heap.size w wr)) (fun fu _ _ _=>(intOf fu).toNat)
   case atStart=>exact⟨f,0,-1,_,0,rfl,rfl,rfl,by omega,hpos,by omega,by simp,⟨.inl rfl,HS.o⟩,M0⟩
   case round=>
    clear M0 HS;obtain⟨k,i,fm,m,q,rfl,rfl,rfl,hk,hi,hq,hol,HP,HM⟩:=hrel;rename World=>wB;by_cases hk0:k=0
    ·subst hk0;obtain⟨vO,o3,OO⟩:=HM.o.1.outRow;obtain⟨pO,cO,rfl⟩:=Qb OO;have HE:Hid (playA (absP bs) V f=(m.out,1)):=by show _=_;rw[←HP.o.2,plA]
     have HOO:=Qc OO;clear OO HP;go_wp2_with fail
     go_ret2
     refine⟨_,by rw[HE.o];rfl,?_⟩;rw[HE.o];exact⟨HOO.o,HM.o.2⟩
    ·have hkp:0<k:=by omega
     obtain⟨j,hj⟩:∃j,j=k-1:=⟨_,rfl⟩;have HJ:=Qc hj;have HPE:Hid (plA (absP bs) (j+1) i fm m=playA (absP bs) V f):=by show _=_;rw[hj,show k-1+1=k from by omega];exact HP.o.2
     have hjk:j+1≤k:=by omega
     have hkj:k≤j+1:=by omega
     clear hk0 hj;obtain⟨g,qc,cc,ps,cs,rfl,_,hg,OC,OS,hc⟩:=HB.o.at hi;have hcl:∀(o:Nat)(u:Value),(XD (.slice qc bs[i].chs.length cc) (.slice ps bs[i].sts.length cs) bs[i].e bs[i].at_)[o]?=some u→wB.cell? ⟨g,i*10+o,none⟩=some u:=fun o u h=>(HM.o.2.cell (p:=⟨g,i*10+o,none⟩) hg).trans (hc o u h);have d0:=hcl 0 _ rfl;have d1:=hcl 1 _ rfl;have d2:=hcl 2 _ rfl;have d3:=hcl 3 _ rfl;have d4:=hcl 4 _ rfl;have d5:=hcl 5 _ rfl;have d6:=hcl 6 _ rfl;have d7:=hcl 7 _ rfl;have d8:=hcl 8 _ rfl;have d9:=hcl 9 _ rfl;simp only[Nat.add_zero]at d0;have HOC:=Qc (And.intro OC OS);have hgM:=HM.o.1.lt;have hcsi:=HCS.o _ (List.getElem_mem hi);have F1:=Qc ((Below.refl wB.heap.size wB).alloc (Nat.le_refl _) (.cells #[.slice qc bs[i].chs.length cc,.slice ps bs[i].sts.length cs,.int .u8 bs[i].e.op,.int .i64 bs[i].e.a.1,.int .i64 bs[i].e.a.2,.int .i64 bs[i].e.one.1,.int .i64 bs[i].e.one.2,.int .i64 bs[i].e.two.1,.int .i64 bs[i].e.two.2,.int .i64 bs[i].at_] 53));have hzB:=HM.o.2.size;have g1:=heap_alloc_last wB (.cells #[.slice qc bs[i].chs.length cc,.slice ps bs[i].sts.length cs,.int .u8 bs[i].e.op,.int .i64 bs[i].e.a.1,.int .i64 bs[i].e.a.2,.int .i64 bs[i].e.one.1,.int .i64 bs[i].e.one.2,.int .i64 bs[i].e.two.1,.int .i64 bs[i].e.two.2,.int .i64 bs[i].at_] 53);have hfm:=HP.o.1;clear hc hcl OC OS HP;have HBF:=Qc (HF.o _ (List.getElem_mem hi));have HGG:=Qc (HG.o _ (List.getElem_mem hi));rcases hfm with rfl|⟨fj,rfl⟩
     ·have X:∃(m1:Mac)(q1:Nat),Hid (m1=Kb (Zy bs[i]) (-1) m)∧q1≤q+bs[i].chs.length∧m1.out.length≤m.out.length∧Hid (Xb w.heap.size w.heap.size q1 m1 (wB.alloc (.cells #[.slice qc bs[i].chs.length cc,.slice ps bs[i].sts.length cs,.int .u8 bs[i].e.op,.int .i64 bs[i].e.a.1,.int .i64 bs[i].e.a.2,.int .i64 bs[i].e.one.1,.int .i64 bs[i].e.one.2,.int .i64 bs[i].e.two.1,.int .i64 bs[i].e.two.2,.int .i64 bs[i].at_] 53))∧Below w.heap.size w (wB.alloc (.cells #[.slice qc bs[i].chs.length cc,.slice ps bs[i].sts.length cs,.int .u8 bs[i].e.op,.int .i64 bs[i].e.a.1,.int .i64 bs[i].e.a.2,.int .i64 bs[i].e.one.1,.int .i64 bs[i].e.one.2,.int .i64 bs[i].e.two.1,.int .i64 bs[i].e.two.2,.int .i64 bs[i].at_] 53))∧(wB.alloc (.cells #[.slice qc bs[i].chs.length cc,.slice ps bs[i].sts.length cs,.int .u8 bs[i].e.op,.int .i64 bs[i].e.a.1,.int .i64 bs[i].e.a.2,.int .i64 bs[i].e.one.1,.int .i64 bs[i].e.one.2,.int .i64 bs[i].e.two.1,.int .i64 bs[i].e.two.2,.int .i64 bs[i].at_] 53)).heap[wB.heap.size]?=some (.cells #[.slice qc bs[i].chs.length cc,.slice ps bs[i].sts.length cs,.int .u8 bs[i].e.op,.int .i64 bs[i].e.a.1,.int .i64 bs[i].e.a.2,.int .i64 bs[i].e.one.1,.int .i64 bs[i].e.one.2,.int .i64 bs[i].e.two.1,.int .i64 bs[i].e.two.2,.int .i64 bs[i].at_] 53 (0,0))):=⟨m,q,rfl,by omega,Nat.le_refl _,HM.o.1.keeps F1.o,HM.o.2.trans (F1.o.mono hzB),g1⟩;obtain⟨m1,q1,HE1,hq1,ho1,H1⟩:=X;clear g1 F1;go_wp2_with fail;clear d0 d1 d2 d3 d4 d5 d6 d7 d8 d9;generalize wB.alloc (.cells #[.slice qc bs[i].chs.length cc,.slice ps bs[i].sts.length cs,.int .u8 bs[i].e.op,.int .i64 bs[i].e.a.1,.int .i64 bs[i].e.a.2,.int .i64 bs[i].e.one.1,.int .i64 bs[i].e.one.2,.int .i64 bs[i].e.two.1,.int .i64 bs[i].e.two.2,.int .i64 bs[i].at_] 53)=W1 at *;have b1:=Qa H1.o.2.2 1;simp at b1;go_wp2_with fail;clear b1
      go_loopw [13] (fun ii wr=>∃(t q2:Nat)(m2:Mac),t≤bs[i].sts.length∧ii=.int .i64 t∧q2≤q1+t∧m2.out.length≤m1.out.length+t∧Hid (m2=KV ((bs[i].sts.take t).map QA) m1)∧Hid (Xb w.heap.size w.heap.size q2 m2 wr∧Below w.heap.size w wr∧wr.heap[wB.heap.size]?=some (.cells #[.slice qc bs[i].chs.length cc,.slice ps bs[i].sts.length cs,.int .u8 bs[i].e.op,.int .i64 bs[i].e.a.1,.int .i64 bs[i].e.a.2,.int .i64 bs[i].e.one.1,.int .i64 bs[i].e.one.2,.int .i64 bs[i].e.two.1,.int .i64 bs[i].e.two.2,.int .i64 bs[i].at_] 53 (0,0)))) (fun ii _=>bs[i].sts.length-(intOf ii).toNat)
      case atStart=>exact⟨0,q1,m1,by omega,rfl,by omega,by omega,rfl,H1⟩
      case round=>
       clear H1;obtain⟨t,q2,m2,ht,rfl,hq2,ho2,HE2,H2⟩:=hrel;rename World=>wC;have hzC:=H2.o.2.1.size;have hbC:=lt_of_block H2.o.2.2;have b1:=Qa H2.o.2.2 1;simp at b1;by_cases htl:t<bs[i].sts.length
       ·have OS:=Qd HOC.o.2 (Qi H2.o.2.1) trivial;obtain⟨gs,rfl,_,hgs⟩:=Qh OS (by omega);have t0:wC.cell? ⟨gs,t*8,none⟩=some (.int .u8 bs[i].sts[t].op):=Qe OS (Qn htl (k:=0) (by omega));have t1:wC.cell? ⟨gs,t*8+1,none⟩=some (.int .i64 bs[i].sts[t].to.1):=Qe OS (Qn htl (k:=1) (by omega));have t2:wC.cell? ⟨gs,t*8+2,none⟩=some (.int .i64 bs[i].sts[t].to.2):=Qe OS (Qn htl (k:=2) (by omega));have t3:wC.cell? ⟨gs,t*8+3,none⟩=some (.int .i64 bs[i].sts[t].a.1):=Qe OS (Qn htl (k:=3) (by omega));have t4:wC.cell? ⟨gs,t*8+4,none⟩=some (.int .i64 bs[i].sts[t].a.2):=Qe OS (Qn htl (k:=4) (by omega));have t5:wC.cell? ⟨gs,t*8+5,none⟩=some (.int .i64 bs[i].sts[t].b.1):=Qe OS (Qn htl (k:=5) (by omega));have t6:wC.cell? ⟨gs,t*8+6,none⟩=some (.int .i64 bs[i].sts[t].b.2):=Qe OS (Qn htl (k:=6) (by omega));have t7:wC.cell? ⟨gs,t*8+7,none⟩=some (.int .i64 bs[i].sts[t].n):=Qe OS (Qn htl (k:=7) (by omega));have hop:=HO.o _ (List.getElem_mem hi) _ (List.getElem_mem htl);have HNX:=Qc (UB htl m1);have hob:=Gt (QA bs[i].sts[t]) m2;clear OS;go_wp2_with fail;refine(QgT w.heap.size w.heap.size q2 bs[i].sts[t] m2 wC H2.o.1 hop (by omega) (by omega) hzC).mono ?_;rintro x w5 ⟨rfl,H5⟩;have R5:Hid (Xb w.heap.size w.heap.size (q2+1) (stA (QA bs[i].sts[t]) m2) w5∧Below w.heap.size w w5∧w5.heap[wB.heap.size]?=some (.cells #[.slice qc bs[i].chs.length cc,.slice (some ⟨gs,0,none⟩) bs[i].sts.length cs,.int .u8 bs[i].e.op,.int .i64 bs[i].e.a.1,.int .i64 bs[i].e.a.2,.int .i64 bs[i].e.one.1,.int .i64 bs[i].e.one.2,.int .i64 bs[i].e.two.1,.int .i64 bs[i].e.two.2,.int .i64 bs[i].at_] 53 (0,0))):=⟨H5.o.1,H2.o.2.1.trans H5.o.2.2,H5.o.2.1 _ _ _ (by omega) (by decide) H2.o.2.2⟩;have HE5:Hid (stA (QA bs[i].sts[t]) m2=KV ((bs[i].sts.take (t+1)).map QA) m1):=by show _=_;rw[HNX.o,HE2.o]
        clear H5 H2 HE2 HNX t0 t1 t2 t3 t4 t5 t6 t7 b1;go_wp2_with fail;go_roundw
        case rel=>exact⟨t+1,q2+1,_,by omega,by go_num,by omega,by omega,HE5,R5⟩
        case measure=>simp[intOf];omega
       ·have HE3:Hid (m2=blA (Zy bs[i]) (-1) m):=by
         show _=_;rw[HE2.o,List.take_of_length_le (by omega),HE1.o];rfl
        have b2:=Qa H2.o.2.2 2;have b3:=Qa H2.o.2.2 3;have b5:=Qa H2.o.2.2 5;have b7:=Qa H2.o.2.2 7;simp at b2 b3 b5 b7;have hxi:=HX.o _ (List.getElem_mem hi);by_cases h46:bs[i].e.op=46
        ·have hd:((bs[i].e.op:Int)==46)=true:=by simp;omega
         obtain⟨vO,o3,OO⟩:=H2.o.1.outRow;obtain⟨pO,cO,rfl⟩:=Qb OO;have HE:Hid (playA (absP bs) V f=(m2.out,0)):=by show _=_;rw[←HPE.o,Ji hi,if_pos h46,HE3.o]
         have HOO:=Qc OO;clear OO h46 hxi;go_wp2_with fail
         go_ret2
         refine⟨_,by rw[HE.o];rfl,?_⟩;rw[HE.o];exact⟨HOO.o,H2.o.2.1⟩
        ·have hd:((bs[i].e.op:Int)==46)=false:=by simp;omega
         have h1n:=hxi.2.1 h46;by_cases h63:bs[i].e.op=63
         ·have hd2:((bs[i].e.op:Int)==63)=true:=by simp;omega
          have h2n:=hxi.2.2 h63;by_cases hr:m2.r bs[i].e.a.1=0
          ·have hd3:((m2.r bs[i].e.a.1:Int)==0)=true:=by simpa using hr
           have HN:Hid (plA (absP bs) j bs[i].e.two.1 (i:Int) m2=playA (absP bs) V f):=by
            show _=_;rw[←HPE.o,Ji hi,if_neg h46,←HE3.o]
            congr 1
            unfold nxA;rw[if_pos ⟨h63,hr⟩];rfl
           clear h46 h63 hr hxi;go_wp2_with fail;refine(GU w.heap.size w.heap.size bs[i].e.a.1 q2 m2 wC H2.o.1 (by omega)).mono ?_;rintro x w6 ⟨rfl,f6⟩;have H6:Hid (Xb w.heap.size w.heap.size q2 m2 w6∧Below w.heap.size w w6):=⟨H2.o.1.keeps f6,H2.o.2.1.trans (f6.mono hzC)⟩;replace b7:=(f6.cell (p:=⟨wB.heap.size,7,none⟩) hbC).trans b7;clear f6 b1 b2 b3 b5 H2;go_wp2_with fail;go_roundw
           case rel=>exact⟨j,bs[i].e.two.1,i,m2,q2,by rw[HJ.o];go_num,rfl,rfl,by omega,h2n,by omega,by omega,⟨.inr ⟨i,rfl⟩,HN.o⟩,H6⟩
           case measure=>simp[intOf];try omega
          ·have hd3:((m2.r bs[i].e.a.1:Int)==0)=false:=by simpa using hr
           have HN:Hid (plA (absP bs) j bs[i].e.one.1 (i:Int) m2=playA (absP bs) V f):=by
            show _=_;rw[←HPE.o,Ji hi,if_neg h46,←HE3.o]
            congr 1
            unfold nxA;rw[if_neg (fun h=>hr h.2)];rfl
           clear h46 h63 hr hxi;go_wp2_with fail;refine(GU w.heap.size w.heap.size bs[i].e.a.1 q2 m2 wC H2.o.1 (by omega)).mono ?_;rintro x w6 ⟨rfl,f6⟩;have H6:Hid (Xb w.heap.size w.heap.size q2 m2 w6∧Below w.heap.size w w6):=⟨H2.o.1.keeps f6,H2.o.2.1.trans (f6.mono hzC)⟩;clear f6 b1 b2 b3 b5 b7 H2;go_wp2_with fail;go_roundw
           case rel=>exact⟨j,bs[i].e.one.1,i,m2,q2,by rw[HJ.o];go_num,rfl,rfl,by omega,h1n,by omega,by omega,⟨.inr ⟨i,rfl⟩,HN.o⟩,H6⟩
           case measure=>simp[intOf];try omega
         ·have hd2:((bs[i].e.op:Int)==63)=false:=by simp;omega
          have HN:Hid (plA (absP bs) j bs[i].e.one.1 (i:Int) m2=playA (absP bs) V f):=by
           show _=_;rw[←HPE.o,Ji hi,if_neg h46,←HE3.o]
           congr 1
           unfold nxA;rw[if_neg (fun h=>h63 h.1)];rfl
          have H6:Hid (Xb w.heap.size w.heap.size q2 m2 wC∧Below w.heap.size w wC):=⟨H2.o.1,H2.o.2.1⟩;clear h46 h63 hxi H2;go_wp2_with fail;go_roundw
          case rel=>exact⟨j,bs[i].e.one.1,i,m2,q2,by rw[HJ.o];go_num,rfl,rfl,by omega,h1n,by omega,by omega,⟨.inr ⟨i,rfl⟩,HN.o⟩,H6⟩
          case measure=>simp[intOf];try omega
     ·go_wp2_with fail;refine(Qgz base w.heap.size q fj bs[i] _ _ m w _ (HM.o.1.keeps F1.o) (HM.o.2.trans (F1.o.mono hzB)) HOC.o.1 ⟨_,_,_,rfl⟩ HBF.o HGG.o (by omega)).mono ?_;rintro x W1 ⟨rfl,HC1⟩;have X:∃(m1:Mac)(q1:Nat),Hid (m1=Kb (Zy bs[i]) (fj:Int) m)∧q1≤q+bs[i].chs.length∧m1.out.length≤m.out.length∧Hid (Xb w.heap.size w.heap.size q1 m1 W1∧Below w.heap.size w W1∧W1.heap[wB.heap.size]?=some (.cells #[.slice qc bs[i].chs.length cc,.slice ps bs[i].sts.length cs,.int .u8 bs[i].e.op,.int .i64 bs[i].e.a.1,.int .i64 bs[i].e.a.2,.int .i64 bs[i].e.one.1,.int .i64 bs[i].e.one.2,.int .i64 bs[i].e.two.1,.int .i64 bs[i].e.two.2,.int .i64 bs[i].at_] 53 (0,0))):=⟨{ m with r:=chA (bs[i].chs.map QL) fj m.r },q+bs[i].chs.length,(by show _=_;unfold Kb;rw[if_pos (by omega),Int.toNat_natCast];rfl),Nat.le_refl _,Nat.le_refl _,HC1.o.1,(HM.o.2.trans (F1.o.mono hzB)).trans HC1.o.2.2,HC1.o.2.1 _ _ _ (by omega) (by decide) g1⟩;obtain⟨m1,q1,HE1,hq1,ho1,H1⟩:=X;clear g1 F1 HC1 d0 d1 d2 d3 d4 d5 d6 d7 d8 d9;go_wp2_with fail;have b1:=Qa H1.o.2.2 1;simp at b1;go_wp2_with fail;clear b1
      go_loopw [13] (fun ii wr=>∃(t q2:Nat)(m2:Mac),t≤bs[i].sts.length∧ii=.int .i64 t∧q2≤q1+t∧m2.out.length≤m1.out.length+t∧Hid (m2=KV ((bs[i].sts.take t).map QA) m1)∧Hid (Xb w.heap.size w.heap.size q2 m2 wr∧Below w.heap.size w wr∧wr.heap[wB.heap.size]?=some (.cells #[.slice qc bs[i].chs.length cc,.slice ps bs[i].sts.length cs,.int .u8 bs[i].e.op,.int .i64 bs[i].e.a.1,.int .i64 bs[i].e.a.2,.int .i64 bs[i].e.one.1,.int .i64 bs[i].e.one.2,.int .i64 bs[i].e.two.1,.int .i64 bs[i].e.two.2,.int .i64 bs[i].at_] 53 (0,0)))) (fun ii _=>bs[i].sts.length-(intOf ii).toNat)
      case atStart=>exact⟨0,q1,m1,by omega,rfl,by omega,by omega,rfl,H1⟩
      case round=>
       clear H1;obtain⟨t,q2,m2,ht,rfl,hq2,ho2,HE2,H2⟩:=hrel;rename World=>wC;have hzC:=H2.o.2.1.size;have hbC:=lt_of_block H2.o.2.2;have b1:=Qa H2.o.2.2 1;simp at b1;by_cases htl:t<bs[i].sts.length
       ·have OS:=Qd HOC.o.2 (Qi H2.o.2.1) trivial;obtain⟨gs,rfl,_,hgs⟩:=Qh OS (by omega);have t0:wC.cell? ⟨gs,t*8,none⟩=some (.int .u8 bs[i].sts[t].op):=Qe OS (Qn htl (k:=0) (by omega));have t1:wC.cell? ⟨gs,t*8+1,none⟩=some (.int .i64 bs[i].sts[t].to.1):=Qe OS (Qn htl (k:=1) (by omega));have t2:wC.cell? ⟨gs,t*8+2,none⟩=some (.int .i64 bs[i].sts[t].to.2):=Qe OS (Qn htl (k:=2) (by omega));have t3:wC.cell? ⟨gs,t*8+3,none⟩=some (.int .i64 bs[i].sts[t].a.1):=Qe OS (Qn htl (k:=3) (by omega));have t4:wC.cell? ⟨gs,t*8+4,none⟩=some (.int .i64 bs[i].sts[t].a.2):=Qe OS (Qn htl (k:=4) (by omega));have t5:wC.cell? ⟨gs,t*8+5,none⟩=some (.int .i64 bs[i].sts[t].b.1):=Qe OS (Qn htl (k:=5) (by omega));have t6:wC.cell? ⟨gs,t*8+6,none⟩=some (.int .i64 bs[i].sts[t].b.2):=Qe OS (Qn htl (k:=6) (by omega));have t7:wC.cell? ⟨gs,t*8+7,none⟩=some (.int .i64 bs[i].sts[t].n):=Qe OS (Qn htl (k:=7) (by omega));have hop:=HO.o _ (List.getElem_mem hi) _ (List.getElem_mem htl);have HNX:=Qc (UB htl m1);have hob:=Gt (QA bs[i].sts[t]) m2;clear OS;go_wp2_with fail;refine(QgT w.heap.size w.heap.size q2 bs[i].sts[t] m2 wC H2.o.1 hop (by omega) (by omega) hzC).mono ?_;rintro x w5 ⟨rfl,H5⟩;have R5:Hid (Xb w.heap.size w.heap.size (q2+1) (stA (QA bs[i].sts[t]) m2) w5∧Below w.heap.size w w5∧w5.heap[wB.heap.size]?=some (.cells #[.slice qc bs[i].chs.length cc,.slice (some ⟨gs,0,none⟩) bs[i].sts.length cs,.int .u8 bs[i].e.op,.int .i64 bs[i].e.a.1,.int .i64 bs[i].e.a.2,.int .i64 bs[i].e.one.1,.int .i64 bs[i].e.one.2,.int .i64 bs[i].e.two.1,.int .i64 bs[i].e.two.2,.int .i64 bs[i].at_] 53 (0,0))):=⟨H5.o.1,H2.o.2.1.trans H5.o.2.2,H5.o.2.1 _ _ _ (by omega) (by decide) H2.o.2.2⟩;have HE5:Hid (stA (QA bs[i].sts[t]) m2=KV ((bs[i].sts.take (t+1)).map QA) m1):=by show _=_;rw[HNX.o,HE2.o]
        clear H5 H2 HE2 HNX t0 t1 t2 t3 t4 t5 t6 t7 b1;go_wp2_with fail;go_roundw
        case rel=>exact⟨t+1,q2+1,_,by omega,by go_num,by omega,by omega,HE5,R5⟩
        case measure=>simp[intOf];omega
       ·have HE3:Hid (m2=blA (Zy bs[i]) ((fj:Int)) m):=by
         show _=_;rw[HE2.o,List.take_of_length_le (by omega),HE1.o];rfl
        have b2:=Qa H2.o.2.2 2;have b3:=Qa H2.o.2.2 3;have b5:=Qa H2.o.2.2 5;have b7:=Qa H2.o.2.2 7;simp at b2 b3 b5 b7;have hxi:=HX.o _ (List.getElem_mem hi);by_cases h46:bs[i].e.op=46
        ·have hd:((bs[i].e.op:Int)==46)=true:=by simp;omega
         obtain⟨vO,o3,OO⟩:=H2.o.1.outRow;obtain⟨pO,cO,rfl⟩:=Qb OO;have HE:Hid (playA (absP bs) V f=(m2.out,0)):=by show _=_;rw[←HPE.o,Ji hi,if_pos h46,HE3.o]
         have HOO:=Qc OO;clear OO h46 hxi;go_wp2_with fail
         go_ret2
         refine⟨_,by rw[HE.o];rfl,?_⟩;rw[HE.o];exact⟨HOO.o,H2.o.2.1⟩
        ·have hd:((bs[i].e.op:Int)==46)=false:=by simp;omega
         have h1n:=hxi.2.1 h46;by_cases h63:bs[i].e.op=63
         ·have hd2:((bs[i].e.op:Int)==63)=true:=by simp;omega
          have h2n:=hxi.2.2 h63;by_cases hr:m2.r bs[i].e.a.1=0
          ·have hd3:((m2.r bs[i].e.a.1:Int)==0)=true:=by simpa using hr
           have HN:Hid (plA (absP bs) j bs[i].e.two.1 (i:Int) m2=playA (absP bs) V f):=by
            show _=_;rw[←HPE.o,Ji hi,if_neg h46,←HE3.o]
            congr 1
            unfold nxA;rw[if_pos ⟨h63,hr⟩];rfl
           clear h46 h63 hr hxi;go_wp2_with fail;refine(GU w.heap.size w.heap.size bs[i].e.a.1 q2 m2 wC H2.o.1 (by omega)).mono ?_;rintro x w6 ⟨rfl,f6⟩;have H6:Hid (Xb w.heap.size w.heap.size q2 m2 w6∧Below w.heap.size w w6):=⟨H2.o.1.keeps f6,H2.o.2.1.trans (f6.mono hzC)⟩;replace b7:=(f6.cell (p:=⟨wB.heap.size,7,none⟩) hbC).trans b7;clear f6 b1 b2 b3 b5 H2;go_wp2_with fail;go_roundw
           case rel=>exact⟨j,bs[i].e.two.1,i,m2,q2,by rw[HJ.o];go_num,rfl,rfl,by omega,h2n,by omega,by omega,⟨.inr ⟨i,rfl⟩,HN.o⟩,H6⟩
           case measure=>simp[intOf];try omega
          ·have hd3:((m2.r bs[i].e.a.1:Int)==0)=false:=by simpa using hr
           have HN:Hid (plA (absP bs) j bs[i].e.one.1 (i:Int) m2=playA (absP bs) V f):=by
            show _=_;rw[←HPE.o,Ji hi,if_neg h46,←HE3.o]
            congr 1
            unfold nxA;rw[if_neg (fun h=>hr h.2)];rfl
           clear h46 h63 hr hxi;go_wp2_with fail;refine(GU w.heap.size w.heap.size bs[i].e.a.1 q2 m2 wC H2.o.1 (by omega)).mono ?_;rintro x w6 ⟨rfl,f6⟩;have H6:Hid (Xb w.heap.size w.heap.size q2 m2 w6∧Below w.heap.size w w6):=⟨H2.o.1.keeps f6,H2.o.2.1.trans (f6.mono hzC)⟩;clear f6 b1 b2 b3 b5 b7 H2;go_wp2_with fail;go_roundw
           case rel=>exact⟨j,bs[i].e.one.1,i,m2,q2,by rw[HJ.o];go_num,rfl,rfl,by omega,h1n,by omega,by omega,⟨.inr ⟨i,rfl⟩,HN.o⟩,H6⟩
           case measure=>simp[intOf];try omega
         ·have hd2:((bs[i].e.op:Int)==63)=false:=by simp;omega
          have HN:Hid (plA (absP bs) j bs[i].e.one.1 (i:Int) m2=playA (absP bs) V f):=by
           show _=_;rw[←HPE.o,Ji hi,if_neg h46,←HE3.o]
           congr 1
           unfold nxA;rw[if_neg (fun h=>h63 h.1)];rfl
          have H6:Hid (Xb w.heap.size w.heap.size q2 m2 wC∧Below w.heap.size w wC):=⟨H2.o.1,H2.o.2.1⟩;clear h46 h63 hxi H2;go_wp2_with fail;go_roundw
          case rel=>exact⟨j,bs[i].e.one.1,i,m2,q2,by rw[HJ.o];go_num,rfl,rfl,by omega,h1n,by omega,by omega,⟨.inr ⟨i,rfl⟩,HN.o⟩,H6⟩
          case measure=>simp[intOf];try omega
theorem Qcu{B:Nat}{u v:World}(F:Below B u v)(n:Nat):Below B u (v.drewN n):=⟨F.os,F.tape,F.output,F.size,F.block⟩
theorem QfZ(n:Int)(w:World):Calls Tryz.prog 8 #[.int .i64 n] w fun e w'=>e=.returned (.int .i64 n)∧w'=w:=by
 go_enter Tryz.func8,Tryz.ntmps8;go_wp2_with fail;go_ret;exact⟨rfl,rfl⟩
theorem Qi4(l:List Int)(B1 B2:Nat)(va vb:Value)(w:World)(ha:w.ownsRow B1 3 1 va l.length (ZM l))(hb:w.ownsRow B2 3 1 vb l.length (ZM l))(hl:l.length≤100000000000):
  Calls Tryz.prog 33 #[va,vb] w fun e w'=>e=.returned (.bool true)∧Below w.heap.size w w':=by
 obtain⟨pa,ca,rfl⟩:=Qb ha;obtain⟨pb,cb,rfl⟩:=Qb hb;have HA:=Qc ha;have HB:=Qc hb;clear ha hb;go_enter Tryz.func33,Tryz.ntmps33;go_wp2_with fail
 go_loopw [5] (fun i wr=>∃k:Nat,k≤l.length∧i=.int .i64 k∧Hid (Below w.heap.size w wr)) (fun i _=>l.length-(intOf i).toNat)
 case atStart=>exact⟨0,by omega,rfl,Below.refl _ _⟩
 case round=>
  obtain⟨k,hk,rfl,F⟩:=hrel;rename World=>wA;by_cases hlt:k<l.length
  ·have O1:=Qd HA.o (Qi F.o) trivial;have O2:=Qd HB.o (Qi F.o) trivial;obtain⟨g1,rfl,_,_⟩:=Qh O1 (by omega);obtain⟨g2,rfl,_,_⟩:=Qh O2 (by omega);have c1:=Qe O1 (Kk hlt);have c2:=Qe O2 (Kk hlt);have hd:(l[k] != l[k])=false:=by simp
   clear O1 O2;go_wp2_with fail
   go_quiet (fail)
   have F2:=Qc (Qcu F.o nq);go_wp2_with fail;go_roundw
   case rel=>exact⟨k+1,by omega,by go_num,F2⟩
   case measure=>simp[intOf];omega
  ·go_wp2_with fail;go_ret;exact⟨rfl,F.o⟩
theorem QiD(bs cs:List Ql)(B1 B2:Nat)(v u:Value)(w:World)(h1:QK w B1 bs v)(h2:QK w B2 cs u)(hl:bs.length≤1000)(hn:bs.length=cs.length)
  (he:∀i (hi:i<bs.length)(hj:i<cs.length),bs[i].e.op=cs[i].e.op∧bs[i].e.one.1=cs[i].e.one.1∧bs[i].e.two.1=cs[i].e.two.1):
  Calls Tryz.prog 12 #[v,u] w fun e w'=>e=.returned (.bool true)∧Below w.heap.size w w':=by
 obtain⟨pv,cv,rfl⟩:=h1.slice;obtain⟨pu,cu,rfl⟩:=h2.slice;have H1:=Qc h1;have H2:=Qc h2;have HN:=Qc hn;have HE:=Qc he;rw[←hn];clear h1 h2 hn he;go_enter Tryz.func12,Tryz.ntmps12;go_wp2_with fail
 go_loopw [5] (fun i wr=>∃k:Nat,k≤bs.length∧i=.int .i64 k∧Hid (Below w.heap.size w wr)) (fun i _=>bs.length-(intOf i).toNat)
 case atStart=>exact⟨0,by omega,rfl,Below.refl _ _⟩
 case round=>
  obtain⟨k,hk,rfl,F⟩:=hrel;rename World=>wA;by_cases hlt:k<bs.length
  ·have hlt2:k<cs.length:=by have:=HN.o;omega
   obtain⟨g,qc,cc,ps,c1,rfl,_,hg,_,_,hcl⟩:=H1.o.at hlt;obtain⟨e1,e2,e3⟩:=HE.o k hlt hlt2;have hb:∀(o:Nat)(x:Value),(XD (.slice qc bs[k].chs.length cc) (.slice ps bs[k].sts.length c1) bs[k].e bs[k].at_)[o]?=some x→wA.cell? ⟨g,k*10+o,none⟩=some x:=fun o x h=>(F.o.cell (p:=⟨g,k*10+o,none⟩) hg).trans (hcl o x h);have d2:=hb 2 _ rfl;have d3:=hb 3 _ rfl;have d4:=hb 4 _ rfl;have d5:=hb 5 _ rfl;have d6:=hb 6 _ rfl;have d7:=hb 7 _ rfl;have d8:=hb 8 _ rfl;obtain⟨g',qc',cc',ps',c1',rfl,_,hg',_,_,hcl'⟩:=H2.o.at hlt2;have hb':∀(o:Nat)(x:Value),(XD (.slice qc' cs[k].chs.length cc') (.slice ps' cs[k].sts.length c1') cs[k].e cs[k].at_)[o]?=some x→wA.cell? ⟨g',k*10+o,none⟩=some x:=fun o x h=>(F.o.cell (p:=⟨g',k*10+o,none⟩) hg').trans (hcl' o x h);have c2:=hb' 2 _ rfl;have c3:=hb' 3 _ rfl;have c4:=hb' 4 _ rfl;have c5:=hb' 5 _ rfl;have c6:=hb' 6 _ rfl;have c7:=hb' 7 _ rfl;have c8:=hb' 8 _ rfl;rw[←e1]at c2;rw[←e2]at c5;rw[←e3]at c7;clear hcl hcl' hb hb' e1 e2 e3;have hz:=F.o.size;have hgz:g<wA.heap.size:=Nat.lt_of_lt_of_le hg hz;have hgz':g'<wA.heap.size:=Nat.lt_of_lt_of_le hg' hz;have F2:=Qc ((F.o.alloc hz (.cells #[.int .u8 bs[k].e.op,.int .i64 bs[k].e.a.1,.int .i64 bs[k].e.a.2,.int .i64 bs[k].e.one.1,.int .i64 bs[k].e.one.2,.int .i64 bs[k].e.two.1,.int .i64 bs[k].e.two.2] 51)).alloc (by rw[World.size_alloc];omega) (.cells #[.int .u8 bs[k].e.op,.int .i64 cs[k].e.a.1,.int .i64 cs[k].e.a.2,.int .i64 bs[k].e.one.1,.int .i64 cs[k].e.one.2,.int .i64 bs[k].e.two.1,.int .i64 cs[k].e.two.2] 51));go_wp2_with fail;go_roundw
   case rel=>exact⟨k+1,by omega,by go_num,F2⟩
   case measure=>simp[intOf];omega
  ·go_wp2_with fail;go_ret;exact⟨rfl,F.o⟩
theorem Qiy(l m:Value)(p:Option Addr)(n c:Nat)(fu:Int)(w:World)(hout:20<n∨fu<0∨300<fu):
  Calls Tryz.prog 13 #[l,m,.slice p n c,.int .i64 fu] w fun e w'=>e=.returned (.bool true)∧Below w.heap.size w w':=by
 by_cases h1:20<n
 ·have hd:decide ((20:Int)<(n:Int))=true:=by simp;omega
  go_enter Tryz.func13,Tryz.ntmps13;go_wp2_with fail;go_ret;exact⟨rfl,Below.refl _ _⟩
 ·have hd:decide ((20:Int)<(n:Int))=false:=by simp;omega
  by_cases h2:fu<0
  ·have hd2:decide (fu<0)=true:=by simpa using h2
   go_enter Tryz.func13,Tryz.ntmps13;go_wp2_with fail;go_ret;exact⟨rfl,Below.refl _ _⟩
  ·have hd2:decide (fu<0)=false:=by simpa using h2
   have hd3:decide ((300:Int)<fu)=true:=by simp;omega
   go_enter Tryz.func13,Tryz.ntmps13;go_wp2_with fail;go_ret;exact⟨rfl,Below.refl _ _⟩
structure Qe4(bs:List Ql):Prop where
 pos:0<bs.length
 fine:∀b∈bs,ZG 1000000 b
 cs:∀b∈bs,b.chs.length+b.sts.length≤100000
 gl:∀b∈bs,∀c∈b.chs,c.gs.length≤1000
 op:∀b∈bs,∀t∈b.sts,t.op<256
 nx:∀b∈bs,b.e.op<256∧(b.e.op≠46→b.e.one.1<bs.length)∧(b.e.op=63→b.e.two.1<bs.length)
theorem Qb4(bs:List ABk)(V:List Int)(f:Nat)(N:Nat)(hN:∀b∈bs,b.sts.length≤N):(playA bs V f).1.length≤f*N:=by
 suffices h:∀k i fm m,(plA bs k i fm m).1.length≤m.out.length+k*N from by
  have:=h f 0 (-1) ⟨fun _=>0,V,[]⟩;simp at this;exact this
 have hst:∀(l:List ASt)(m:Mac),(KV l m).out.length≤m.out.length+l.length:=by
  intro l
  induction l with
  | nil=>intro m;exact Nat.le_refl _
  | cons t l ih=>intro m;rw[Kl];have h1:=ih (stA t m);have h2:=Gt t m;rw[List.length_cons];omega
 have hb:∀i,(bkA bs i).sts.length≤N:=by
  intro i;unfold bkA;by_cases hi:i<bs.length
  ·rw[List.getElem?_eq_getElem hi];exact hN _ (List.getElem_mem _)
  ·rw[List.getElem?_eq_none (by omega)];exact Nat.zero_le _
 intro k
 induction k with
 | zero=>intro i fm m;rw[plA];exact Nat.le_add_right _ _
 | succ k ih=>
  intro i fm m;have h1:(blA (bkA bs i) fm m).out.length≤m.out.length+N:=by
   unfold blA;have h2:=hst (bkA bs i).sts (Kb (bkA bs i) fm m);rw[Qes]at h2;have:=hb i;omega
  rw[plA,Nat.succ_mul];split
  ·show (blA (bkA bs i) fm m).out.length≤_;omega
  ·have:=ih (nxA (bkA bs i) (blA (bkA bs i) fm m)) i (blA (bkA bs i) fm m);omega
theorem Qiz(bs cs:List Ql)(B1 B2:Nat)(vl vm vi:Value)(V:List Int)(f:Nat)(w:World)(h1:QK w B1 bs vl)(h2:QK w B2 cs vm)(hi:InA vi V w)(hV:V.length≤20)(hf:f≤300)(k1:Qe4 bs)(k2:Qe4 cs)(he:playA (absP bs) V f=playA (absP cs) V f):
  Calls Tryz.prog 13 #[vl,vm,vi,.int .i64 f] w fun e w'=>e=.returned (.bool true)∧Below w.heap.size w w':=by
 have hol:(playA (absP bs) V f).1.length≤100000000:=by
  have:=Qb4 (absP bs) V f 100000 (fun b hb=>by
   obtain⟨c,hc,rfl⟩:=List.mem_map.1 hb;have:=k1.cs c hc;show (c.sts.map QA).length≤_;rw[List.length_map];omega)
  omega
 have HR1:=Qc (QgU bs B1 vl vi V f w h1 hi hV hf k1.pos k1.fine k1.cs k1.gl k1.op k1.nx);have HR2:Hid (∀w',Below w.heap.size w w'→Calls Tryz.prog 32 #[vm,vi,.int .i64 f] w' fun x w''=>∃v,x=.returned (.tuple #[v,.int .i64 (playA (absP bs) V f).2])∧Hid (w''.ownsRow w'.heap.size 3 1 v (playA (absP bs) V f).1.length (ZM (playA (absP bs) V f).1)∧Below w'.heap.size w' w'')):=fun w' F=>by
  rw[he];exact QgU cs B2 vm vi V f w' (h2.keeps (Qi F) trivial trivial trivial trivial trivial) (hi.keeps F) hV hf k2.pos k2.fine k2.cs k2.gl k2.op k2.nx
 obtain⟨pi,ci,rfl,hci,_⟩:=hi;clear he h1 h2 k1 k2;generalize playA (absP bs) V f=R at *;go_enter Tryz.func13,Tryz.ntmps13;go_wp2_with fail;refine HR1.o.mono ?_;rintro x w1 ⟨v1,rfl,H1⟩;obtain⟨p1,c1,rfl⟩:=Qb H1.o.1;go_wp2_with fail;refine(HR2.o w1 H1.o.2).mono ?_;rintro x w2 ⟨v2,rfl,H2⟩;obtain⟨p2,c2,rfl⟩:=Qb H2.o.1;go_wp2_with fail;refine(Qi4 R.1 w.heap.size w1.heap.size _ _ w2 (Qd H1.o.1 (Qi H2.o.2) trivial) H2.o.1 (by omega)).mono ?_;rintro x w3 ⟨rfl,f3⟩;have F3:=H1.o.2.trans ((H2.o.2.trans (f3.mono H2.o.2.size)).mono H1.o.2.size);clear f3 HR1 HR2;go_wp2_with fail;go_ret;exact⟨rfl,F3⟩
end Go.Proofs.YtgfhfkgdmidhpaaGreatDoor
