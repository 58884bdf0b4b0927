import Derived.Test.YtgfhfkgdmidhpaaGreatDoorM21
namespace Go.Proofs.YtgfhfkgdmidhpaaGreatDoor
open Go.RowKit
open Go.Proofs.Tryz
set_option maxRecDepth 100000
set_option maxHeartbeats 8000000
theorem Kk:(prog.info? 115).map (fun i=>(i.zero,i.size,i.bytes))=some (some (.agg #[.int .i64 0,.int .i64 0,.int .i64 0]),3,24):=by kernel_rfl
theorem QdW(bs:List Qm)(base:Nat)(v:Value)(w:World)(h:QR w base bs v)(hf:Hid (∀b∈bs,QU 1000000 b))(hn:bs.length≤1000):
  Calls prog 25 #[v] w fun x w'=>∃v',x=.returned (.tuple #[v',.int .i64 (atO (twF (gvU bs)))])∧Hid (w'.ownsRow w.heap.size 115 3 v' (gvU bs).length (QV (gvU bs))∧(gvU bs).length≤100000000000∧Below w.heap.size w w'):=by
 obtain⟨pv,cv,rfl⟩:=h.slice;have HB:=Qc h;clear h;go_enter func25,ntmps25;go_wp2_with fail
 go_loopw [4,5,6] (fun o a i wr=>∃(m:Nat)(L:List Use),m≤bs.length∧i=.int .i64 m∧a=.int .i64 (atO (twF L))∧Hid (L=Qaa bs m)∧L.length≤3000000*m∧wr.ownsRow w.heap.size 115 3 o L.length (QV L)∧Hid (Below w.heap.size w wr)) (fun _ _ i _=>bs.length-(intOf i).toNat)
 case atStart=>exact⟨0,[],by omega,rfl,rfl,rfl,by simp,World.ownsRow_nil _ _ _ _,Below.refl _ _⟩
 case round=>
  obtain⟨m,L,hm,rfl,rfl,HL,hll,OL,F⟩:=hrel;rename World=>wA;obtain⟨pl,cl,rfl⟩:=Qa OL;have hz:=F.o.size;have OLH:=Qc OL;clear OL;by_cases hlt:m<bs.length
  ·have HFM:=Qc (hf.out _ (Qx hlt));have hcl:=HFM.o.cl;have hsl:=HFM.o.sl;have HBK:=Qc (Zj hlt);obtain⟨gv,_,_,_,_,rfl,_,_,_,_,_⟩:=(HB.o.keeps3 (Qr.below F.o)).at hlt;go_wp2_with fail
   go_loopw [4,5,7] (fun o a i wr=>∃(q:Nat)(L2:List Use),q≤bs[m].chs.length∧i=.int .i64 q∧a=.int .i64 (atO (twF L2))∧Hid (L2=L++(bs[m].chs.take q).map (chU m))∧L2.length≤3000000*m+q∧wr.ownsRow w.heap.size 115 3 o L2.length (QV L2)∧Hid (Below w.heap.size w wr)) (fun _ _ i _=>bs[m].chs.length-(intOf i).toNat)
   case atStart=>exact⟨0,L,by omega,rfl,rfl,by simp[Hid],by omega,OLH.o,F⟩
   case round=>
    obtain⟨q,L2,hq,rfl,rfl,HL2,hl2,OL2,F2⟩:=hrel;rename World=>wB;obtain⟨pl2,cl2,rfl⟩:=Qa OL2;have hz2:=F2.o.size;have OL2H:=Qc OL2;clear OL2;obtain⟨gv',qc,cc,ps,cs,hgv,_,_,OC,OS0,hc⟩:=(HB.o.keeps3 (Qr.below F2.o)).at hlt;cases hgv;have d0:wB.cell? ⟨gv,m*10,none⟩=_:=hc 0 _ rfl;have d1:=hc 1 _ rfl;clear hc;by_cases hql:q<bs[m].chs.length
    ·obtain⟨gc,pf,cf,pr,cr,rfl,_,_,_,_,e0,e1,_,_⟩:=OC.at hql;have HL3:Hid (L2++[chU m bs[m].chs[q]]=L++(bs[m].chs.take (q+1)).map (chU m)):=by
      show _=_;rw[HL2.o,Zb hql,List.map_append,List.append_assoc];rfl
     have OLW:=Qc (OL2H.o.alloc (.cells #[.int .i64 bs[m].chs[q].to.1,.int .i64 bs[m].chs[q].to.2] 48));have FW:=Qc (F2.o.alloc hz2 (.cells #[.int .i64 bs[m].chs[q].to.1,.int .i64 bs[m].chs[q].to.2] 48));have gW:=heap_alloc_last wB (.cells #[.int .i64 bs[m].chs[q].to.1,.int .i64 bs[m].chs[q].to.2] 48);have sW:w.heap.size≤(wB.alloc (.cells #[.int .i64 bs[m].chs[q].to.1,.int .i64 bs[m].chs[q].to.2] 48)).heap.size:=by rw[Qt];omega
     clear OC OS0;go_wp2_with fail;generalize wB.alloc (.cells #[.int .i64 bs[m].chs[q].to.1,.int .i64 bs[m].chs[q].to.2] 48)=WB at *;have k0:=Qb gW 0;have k1:=Qb gW 1;simp at k0 k1;clear gW d0 d1 e0 e1;refine(Uk L2 bs[m].chs[q].to.1 w.heap.size _ WB OLW.o (by omega)).mono ?_;rintro x w' ⟨rfl,hw'⟩;rw[hw'];clear hw' w'
     cases htw:twF L2 with
     | some x=>
      have HTW:=Qc (Nn htw (chU m bs[m].chs[q]));by_cases hit:0≤whF L2 bs[m].chs[q].to.1
      ·clear htw;generalize whF L2 bs[m].chs[q].to.1=wv at *;simp only[atO];go_wp2_with (at_builtin;refine QA ?_);refine Qc ?_;have gB:=heap_alloc_last WB (.cells #[.int .i64 bs[m].chs[q].to.1,.int .i64 m,.int .i64 (-1)] 115);have OB:=OLW.o.alloc (.cells #[.int .i64 bs[m].chs[q].to.1,.int .i64 m,.int .i64 (-1)] 115);refine KL underlying54 Kk rfl (by decide) (by decide) rfl _ _ rfl rfl OB gB rfl rfl (List.all_eq_true.1 rfl) (by omega) (by simp;omega) ?_;intro v3 w3 oS gS;have F3:=Qc (Below.grown (FW.o.alloc (by omega) (.cells #[.int .i64 bs[m].chs[q].to.1,.int .i64 m,.int .i64 (-1)] 115)) gS (by simp;omega) (fun j hj=>by have:=(OB.lt j hj).1;omega));obtain⟨v3p,v3c,rfl⟩:=Qa oS;have O3:Hid (w3.ownsRow w.heap.size 115 3 (.slice v3p (L2.length+1) v3c) (L2++[chU m bs[m].chs[q]]).length (QV (L2++[chU m bs[m].chs[q]]))):=by
        show World.ownsRow _ _ _ _ _ _ _;rw[ZN,Qw];exact oS
       clear gS gB OB oS;go_wp2_with fail;go_roundw
       case rel=>exact⟨q+1,L2++[chU m bs[m].chs[q]],by omega,by go_num,by rw[HTW.o];rfl,HL3,by rw[Qw,List.length_singleton];omega,O3.o,F3⟩
       case measure=>simp[intOf];omega
      ·clear htw;generalize whF L2 bs[m].chs[q].to.1=wv at *;simp only[atO];go_wp2_with (at_builtin;refine QA ?_);refine Qc ?_;have gB:=heap_alloc_last WB (.cells #[.int .i64 bs[m].chs[q].to.1,.int .i64 m,.int .i64 (-1)] 115);have OB:=OLW.o.alloc (.cells #[.int .i64 bs[m].chs[q].to.1,.int .i64 m,.int .i64 (-1)] 115);refine KL underlying54 Kk rfl (by decide) (by decide) rfl _ _ rfl rfl OB gB rfl rfl (List.all_eq_true.1 rfl) (by omega) (by simp;omega) ?_;intro v3 w3 oS gS;have F3:=Qc (Below.grown (FW.o.alloc (by omega) (.cells #[.int .i64 bs[m].chs[q].to.1,.int .i64 m,.int .i64 (-1)] 115)) gS (by simp;omega) (fun j hj=>by have:=(OB.lt j hj).1;omega));obtain⟨v3p,v3c,rfl⟩:=Qa oS;have O3:Hid (w3.ownsRow w.heap.size 115 3 (.slice v3p (L2.length+1) v3c) (L2++[chU m bs[m].chs[q]]).length (QV (L2++[chU m bs[m].chs[q]]))):=by
        show World.ownsRow _ _ _ _ _ _ _;rw[ZN,Qw];exact oS
       clear gS gB OB oS;go_wp2_with fail;go_roundw
       case rel=>exact⟨q+1,L2++[chU m bs[m].chs[q]],by omega,by go_num,by rw[HTW.o];rfl,HL3,by rw[Qw,List.length_singleton];omega,O3.o,F3⟩
       case measure=>simp[intOf];omega
     | none=>
      by_cases hit:0≤whF L2 bs[m].chs[q].to.1
      ·have HTW:=Qc (Qbt (u:=chU m bs[m].chs[q]) htw (Vr.1 hit));clear htw;generalize whF L2 bs[m].chs[q].to.1=wv at *;simp only[atO];go_wp2_with (at_builtin;refine QA ?_);refine Qc ?_;have gB:=heap_alloc_last WB (.cells #[.int .i64 bs[m].chs[q].to.1,.int .i64 m,.int .i64 (-1)] 115);have OB:=OLW.o.alloc (.cells #[.int .i64 bs[m].chs[q].to.1,.int .i64 m,.int .i64 (-1)] 115);refine KL underlying54 Kk rfl (by decide) (by decide) rfl _ _ rfl rfl OB gB rfl rfl (List.all_eq_true.1 rfl) (by omega) (by simp;omega) ?_;intro v3 w3 oS gS;have F3:=Qc (Below.grown (FW.o.alloc (by omega) (.cells #[.int .i64 bs[m].chs[q].to.1,.int .i64 m,.int .i64 (-1)] 115)) gS (by simp;omega) (fun j hj=>by have:=(OB.lt j hj).1;omega));obtain⟨v3p,v3c,rfl⟩:=Qa oS;have O3:Hid (w3.ownsRow w.heap.size 115 3 (.slice v3p (L2.length+1) v3c) (L2++[chU m bs[m].chs[q]]).length (QV (L2++[chU m bs[m].chs[q]]))):=by
        show World.ownsRow _ _ _ _ _ _ _;rw[ZN,Qw];exact oS
       clear gS gB OB oS;go_wp2_with fail;go_roundw
       case rel=>exact⟨q+1,L2++[chU m bs[m].chs[q]],by omega,by go_num,by rw[HTW.o];rfl,HL3,by rw[Qw,List.length_singleton];omega,O3.o,F3⟩
       case measure=>simp[intOf];omega
      ·have HTW:=Qc (QdN (u:=chU m bs[m].chs[q]) htw (fun h=>hit (Vr.2 h)));clear htw;generalize whF L2 bs[m].chs[q].to.1=wv at *;simp only[atO];go_wp2_with (at_builtin;refine QA ?_);refine Qc ?_;have gB:=heap_alloc_last WB (.cells #[.int .i64 bs[m].chs[q].to.1,.int .i64 m,.int .i64 (-1)] 115);have OB:=OLW.o.alloc (.cells #[.int .i64 bs[m].chs[q].to.1,.int .i64 m,.int .i64 (-1)] 115);refine KL underlying54 Kk rfl (by decide) (by decide) rfl _ _ rfl rfl OB gB rfl rfl (List.all_eq_true.1 rfl) (by omega) (by simp;omega) ?_;intro v3 w3 oS gS;have F3:=Qc (Below.grown (FW.o.alloc (by omega) (.cells #[.int .i64 bs[m].chs[q].to.1,.int .i64 m,.int .i64 (-1)] 115)) gS (by simp;omega) (fun j hj=>by have:=(OB.lt j hj).1;omega));obtain⟨v3p,v3c,rfl⟩:=Qa oS;have O3:Hid (w3.ownsRow w.heap.size 115 3 (.slice v3p (L2.length+1) v3c) (L2++[chU m bs[m].chs[q]]).length (QV (L2++[chU m bs[m].chs[q]]))):=by
        show World.ownsRow _ _ _ _ _ _ _;rw[ZN,Qw];exact oS
       clear gS gB OB oS;go_wp2_with fail;go_roundw
       case rel=>exact⟨q+1,L2++[chU m bs[m].chs[q]],by omega,by go_num,by rw[HTW.o];rfl,HL3,by rw[Qw,List.length_singleton];omega,O3.o,F3⟩
       case measure=>simp[intOf];omega
    ·have hqe:q=bs[m].chs.length:=by omega
     have HL3:Hid (L2=L++bs[m].chs.map (chU m)):=by show _=_;rw[HL2.o,hqe,List.take_length]
     clear hqe HL2 OC OS0;go_wp2_with fail;clear d0 d1
     go_loopw [4,5,9] (fun o a i wr=>∃(k:Nat)(L4:List Use),k≤bs[m].sts.length∧i=.int .i64 k∧a=.int .i64 (atO (twF L4))∧Hid (L4=L2++(List.range k).flatMap (stU bs[m] m))∧L4.length≤3000000*m+1000000+k∧wr.ownsRow w.heap.size 115 3 o L4.length (QV L4)∧Hid (Below w.heap.size w wr)) (fun _ _ i _=>bs[m].sts.length-(intOf i).toNat)
     case atStart=>exact⟨0,L2,by omega,rfl,rfl,by simp[Hid],by omega,OL2H.o,F2⟩
     case round=>
      obtain⟨k,L4,hk,rfl,rfl,HL4,hl4,OL4,F4⟩:=hrel;rename World=>wC;obtain⟨pl4,cl4,rfl⟩:=Qa OL4;have hz4:=F4.o.size;have OL4H:=Qc OL4;clear OL4;obtain⟨gv',qc,cc,ps,cs,hgv,_,_,_,OS,hc⟩:=(HB.o.keeps3 (Qr.below F4.o)).at hlt;cases hgv;have d1:=hc 1 _ rfl;clear hc;by_cases hkl:k<bs[m].sts.length
      ·obtain⟨gs,rfl,_,_⟩:=Qk OS (by omega);have t0:wC.cell? ⟨gs,k*8,none⟩=some (.int .u8 bs[m].sts[k].op):=Qf OS (Qs hkl (k:=0) (by omega));have t1:wC.cell? ⟨gs,k*8+1,none⟩=some (.int .i64 bs[m].sts[k].to.1):=Qf OS (Qs hkl (k:=1) (by omega));have t2:wC.cell? ⟨gs,k*8+2,none⟩=some (.int .i64 bs[m].sts[k].to.2):=Qf OS (Qs hkl (k:=2) (by omega));have t3:wC.cell? ⟨gs,k*8+3,none⟩=some (.int .i64 bs[m].sts[k].a.1):=Qf OS (Qs hkl (k:=3) (by omega));have t4:wC.cell? ⟨gs,k*8+4,none⟩=some (.int .i64 bs[m].sts[k].a.2):=Qf OS (Qs hkl (k:=4) (by omega));have t5:wC.cell? ⟨gs,k*8+5,none⟩=some (.int .i64 bs[m].sts[k].b.1):=Qf OS (Qs hkl (k:=5) (by omega));have t6:wC.cell? ⟨gs,k*8+6,none⟩=some (.int .i64 bs[m].sts[k].b.2):=Qf OS (Qs hkl (k:=6) (by omega));have t7:wC.cell? ⟨gs,k*8+7,none⟩=some (.int .i64 bs[m].sts[k].n):=Qf OS (Qs hkl (k:=7) (by omega));have OLW:=Qc (OL4H.o.alloc (.cells #[.int .u8 bs[m].sts[k].op,.int .i64 bs[m].sts[k].to.1,.int .i64 bs[m].sts[k].to.2,.int .i64 bs[m].sts[k].a.1,.int .i64 bs[m].sts[k].a.2,.int .i64 bs[m].sts[k].b.1,.int .i64 bs[m].sts[k].b.2,.int .i64 bs[m].sts[k].n] 66));have FW:=Qc (F4.o.alloc hz4 (.cells #[.int .u8 bs[m].sts[k].op,.int .i64 bs[m].sts[k].to.1,.int .i64 bs[m].sts[k].to.2,.int .i64 bs[m].sts[k].a.1,.int .i64 bs[m].sts[k].a.2,.int .i64 bs[m].sts[k].b.1,.int .i64 bs[m].sts[k].b.2,.int .i64 bs[m].sts[k].n] 66));have gW:=heap_alloc_last wC (.cells #[.int .u8 bs[m].sts[k].op,.int .i64 bs[m].sts[k].to.1,.int .i64 bs[m].sts[k].to.2,.int .i64 bs[m].sts[k].a.1,.int .i64 bs[m].sts[k].a.2,.int .i64 bs[m].sts[k].b.1,.int .i64 bs[m].sts[k].b.2,.int .i64 bs[m].sts[k].n] 66);have sW:w.heap.size≤(wC.alloc (.cells #[.int .u8 bs[m].sts[k].op,.int .i64 bs[m].sts[k].to.1,.int .i64 bs[m].sts[k].to.2,.int .i64 bs[m].sts[k].a.1,.int .i64 bs[m].sts[k].a.2,.int .i64 bs[m].sts[k].b.1,.int .i64 bs[m].sts[k].b.2,.int .i64 bs[m].sts[k].n] 66)).heap.size:=by rw[Qt];omega
       clear OS;by_cases h33:bs[m].sts[k].op=33
       ·have HL5:Hid (L4=L2++(List.range (k+1)).flatMap (stU bs[m] m)):=by
         show _=_;rw[HL4.o,List.range_succ,List.flatMap_append];simp[Qgy hkl h33]
        have hd:((bs[m].sts[k].op:Int)==33)=true:=by simp;omega
        clear h33;go_wp2_with fail;go_roundw
        case rel=>exact⟨k+1,L4,by omega,by go_num,rfl,HL5,by omega,OLW.o,FW⟩
        case measure=>simp[intOf];omega
       have HL5:Hid (L4++[(⟨bs[m].sts[k].to.1,bs[m].sts[k].to.2,m,k⟩:Use)]=L2++(List.range (k+1)).flatMap (stU bs[m] m)):=by
        show _=_;rw[HL4.o,List.range_succ,List.flatMap_append,List.append_assoc];simp[QdS hkl h33]
       have hd:((bs[m].sts[k].op:Int)==33)=false:=by simp;omega
       clear h33;go_wp2_with fail;generalize wC.alloc (.cells #[.int .u8 bs[m].sts[k].op,.int .i64 bs[m].sts[k].to.1,.int .i64 bs[m].sts[k].to.2,.int .i64 bs[m].sts[k].a.1,.int .i64 bs[m].sts[k].a.2,.int .i64 bs[m].sts[k].b.1,.int .i64 bs[m].sts[k].b.2,.int .i64 bs[m].sts[k].n] 66)=WB at *;have k1:=Qb gW 1;have k2:=Qb gW 2;simp at k1 k2;clear gW d1 t0 t1 t2 t3 t4 t5 t6 t7;refine(Uk L4 bs[m].sts[k].to.1 w.heap.size _ WB OLW.o (by omega)).mono ?_;rintro x w' ⟨rfl,hw'⟩;rw[hw'];clear hw' w'
       cases htw:twF L4 with
       | some x=>
        have HTW:=Qc (Nn htw (⟨bs[m].sts[k].to.1,bs[m].sts[k].to.2,m,k⟩:Use));by_cases hit:0≤whF L4 bs[m].sts[k].to.1
        ·clear htw;generalize whF L4 bs[m].sts[k].to.1=wv at *;simp only[atO];go_wp2_with (at_builtin;refine QA ?_);refine Qc ?_;have gB:=heap_alloc_last WB (.cells #[.int .i64 bs[m].sts[k].to.1,.int .i64 m,.int .i64 k] 115);have OB:=OLW.o.alloc (.cells #[.int .i64 bs[m].sts[k].to.1,.int .i64 m,.int .i64 k] 115);refine KL underlying54 Kk rfl (by decide) (by decide) rfl _ _ rfl rfl OB gB rfl rfl (List.all_eq_true.1 rfl) (by omega) (by simp;omega) ?_;intro v3 w3 oS gS;have F3:=Qc (Below.grown (FW.o.alloc (by omega) (.cells #[.int .i64 bs[m].sts[k].to.1,.int .i64 m,.int .i64 k] 115)) gS (by simp;omega) (fun j hj=>by have:=(OB.lt j hj).1;omega));obtain⟨v3p,v3c,rfl⟩:=Qa oS;have O3:Hid (w3.ownsRow w.heap.size 115 3 (.slice v3p (L4.length+1) v3c) (L4++[(⟨bs[m].sts[k].to.1,bs[m].sts[k].to.2,m,k⟩:Use)]).length (QV (L4++[(⟨bs[m].sts[k].to.1,bs[m].sts[k].to.2,m,k⟩:Use)]))):=by
          show World.ownsRow _ _ _ _ _ _ _;rw[ZN,Qw];exact oS
         clear gS gB OB oS;go_wp2_with fail;go_roundw
         case rel=>exact⟨k+1,L4++[(⟨bs[m].sts[k].to.1,bs[m].sts[k].to.2,m,k⟩:Use)],by omega,by go_num,by rw[HTW.o];rfl,HL5,by rw[Qw,List.length_singleton];omega,O3.o,F3⟩
         case measure=>simp[intOf];omega
        ·clear htw;generalize whF L4 bs[m].sts[k].to.1=wv at *;simp only[atO];go_wp2_with (at_builtin;refine QA ?_);refine Qc ?_;have gB:=heap_alloc_last WB (.cells #[.int .i64 bs[m].sts[k].to.1,.int .i64 m,.int .i64 k] 115);have OB:=OLW.o.alloc (.cells #[.int .i64 bs[m].sts[k].to.1,.int .i64 m,.int .i64 k] 115);refine KL underlying54 Kk rfl (by decide) (by decide) rfl _ _ rfl rfl OB gB rfl rfl (List.all_eq_true.1 rfl) (by omega) (by simp;omega) ?_;intro v3 w3 oS gS;have F3:=Qc (Below.grown (FW.o.alloc (by omega) (.cells #[.int .i64 bs[m].sts[k].to.1,.int .i64 m,.int .i64 k] 115)) gS (by simp;omega) (fun j hj=>by have:=(OB.lt j hj).1;omega));obtain⟨v3p,v3c,rfl⟩:=Qa oS;have O3:Hid (w3.ownsRow w.heap.size 115 3 (.slice v3p (L4.length+1) v3c) (L4++[(⟨bs[m].sts[k].to.1,bs[m].sts[k].to.2,m,k⟩:Use)]).length (QV (L4++[(⟨bs[m].sts[k].to.1,bs[m].sts[k].to.2,m,k⟩:Use)]))):=by
          show World.ownsRow _ _ _ _ _ _ _;rw[ZN,Qw];exact oS
         clear gS gB OB oS;go_wp2_with fail;go_roundw
         case rel=>exact⟨k+1,L4++[(⟨bs[m].sts[k].to.1,bs[m].sts[k].to.2,m,k⟩:Use)],by omega,by go_num,by rw[HTW.o];rfl,HL5,by rw[Qw,List.length_singleton];omega,O3.o,F3⟩
         case measure=>simp[intOf];omega
       | none=>
        by_cases hit:0≤whF L4 bs[m].sts[k].to.1
        ·have HTW:=Qc (Qbt (u:=(⟨bs[m].sts[k].to.1,bs[m].sts[k].to.2,m,k⟩:Use)) htw (Vr.1 hit));clear htw;generalize whF L4 bs[m].sts[k].to.1=wv at *;simp only[atO];go_wp2_with (at_builtin;refine QA ?_);refine Qc ?_;have gB:=heap_alloc_last WB (.cells #[.int .i64 bs[m].sts[k].to.1,.int .i64 m,.int .i64 k] 115);have OB:=OLW.o.alloc (.cells #[.int .i64 bs[m].sts[k].to.1,.int .i64 m,.int .i64 k] 115);refine KL underlying54 Kk rfl (by decide) (by decide) rfl _ _ rfl rfl OB gB rfl rfl (List.all_eq_true.1 rfl) (by omega) (by simp;omega) ?_;intro v3 w3 oS gS;have F3:=Qc (Below.grown (FW.o.alloc (by omega) (.cells #[.int .i64 bs[m].sts[k].to.1,.int .i64 m,.int .i64 k] 115)) gS (by simp;omega) (fun j hj=>by have:=(OB.lt j hj).1;omega));obtain⟨v3p,v3c,rfl⟩:=Qa oS;have O3:Hid (w3.ownsRow w.heap.size 115 3 (.slice v3p (L4.length+1) v3c) (L4++[(⟨bs[m].sts[k].to.1,bs[m].sts[k].to.2,m,k⟩:Use)]).length (QV (L4++[(⟨bs[m].sts[k].to.1,bs[m].sts[k].to.2,m,k⟩:Use)]))):=by
          show World.ownsRow _ _ _ _ _ _ _;rw[ZN,Qw];exact oS
         clear gS gB OB oS;go_wp2_with fail;go_roundw
         case rel=>exact⟨k+1,L4++[(⟨bs[m].sts[k].to.1,bs[m].sts[k].to.2,m,k⟩:Use)],by omega,by go_num,by rw[HTW.o];rfl,HL5,by rw[Qw,List.length_singleton];omega,O3.o,F3⟩
         case measure=>simp[intOf];omega
        ·have HTW:=Qc (QdN (u:=(⟨bs[m].sts[k].to.1,bs[m].sts[k].to.2,m,k⟩:Use)) htw (fun h=>hit (Vr.2 h)));clear htw;generalize whF L4 bs[m].sts[k].to.1=wv at *;simp only[atO];go_wp2_with (at_builtin;refine QA ?_);refine Qc ?_;have gB:=heap_alloc_last WB (.cells #[.int .i64 bs[m].sts[k].to.1,.int .i64 m,.int .i64 k] 115);have OB:=OLW.o.alloc (.cells #[.int .i64 bs[m].sts[k].to.1,.int .i64 m,.int .i64 k] 115);refine KL underlying54 Kk rfl (by decide) (by decide) rfl _ _ rfl rfl OB gB rfl rfl (List.all_eq_true.1 rfl) (by omega) (by simp;omega) ?_;intro v3 w3 oS gS;have F3:=Qc (Below.grown (FW.o.alloc (by omega) (.cells #[.int .i64 bs[m].sts[k].to.1,.int .i64 m,.int .i64 k] 115)) gS (by simp;omega) (fun j hj=>by have:=(OB.lt j hj).1;omega));obtain⟨v3p,v3c,rfl⟩:=Qa oS;have O3:Hid (w3.ownsRow w.heap.size 115 3 (.slice v3p (L4.length+1) v3c) (L4++[(⟨bs[m].sts[k].to.1,bs[m].sts[k].to.2,m,k⟩:Use)]).length (QV (L4++[(⟨bs[m].sts[k].to.1,bs[m].sts[k].to.2,m,k⟩:Use)]))):=by
          show World.ownsRow _ _ _ _ _ _ _;rw[ZN,Qw];exact oS
         clear gS gB OB oS;go_wp2_with fail;go_roundw
         case rel=>exact⟨k+1,L4++[(⟨bs[m].sts[k].to.1,bs[m].sts[k].to.2,m,k⟩:Use)],by omega,by go_num,by rw[HTW.o];rfl,HL5,by rw[Qw,List.length_singleton];omega,O3.o,F3⟩
         case measure=>simp[intOf];omega
      ·have hke:k=bs[m].sts.length:=by omega
       have HL6:Hid (L4=Qaa bs (m+1)):=by
        show _=_;rw[HL4.o,hke,HL3.o,HL.o,Qdl,Qa8,HBK.o,List.append_assoc]
       clear hke HL4 OS;go_wp2_with fail;go_roundw
       case rel=>exact⟨m+1,L4,by omega,by go_num,rfl,HL6,by omega,OL4H.o,F4⟩
       case measure=>simp[intOf];omega
  ·have hme:m=bs.length:=by omega
   have HLE:Hid (L=gvU bs):=by show _=_;rw[HL.o,hme];rfl
   clear hme HL;go_wp2_with fail
   go_ret2
   exact⟨_,by rw[←HLE.o];rfl,by rw[←HLE.o];exact OLH.o,by rw[←HLE.o];omega,F.o⟩
theorem NJ{w w':World}{base e n:Nat}{u:Value}{xs:List Value}{row:Option Nat}(o:w.ownsRow base e 1 u n xs)(gr:w.grownBy w' row)(hne:∀b,u.ownBlock=some b→row≠some b):w'.ownsRow base e 1 u n xs:=by
 obtain⟨o1,o2⟩:=o;refine⟨o1,o2.imp id ?_⟩;rintro⟨g,cap,cur,rfl,hb,hg,hr⟩;refine⟨g,cap,cur,rfl,hb,?_,hr⟩;exact QC gr hg (fun j hj e=>hne g rfl (by rw[hj,e]))
theorem QjH:(prog.info? 67).map (fun i=>(i.zero,i.size,i.bytes))=some (some (.slice none 0 0),1,24):=by kernel_rfl
theorem Qbk(n:Nat)(f:Nat→Bool):Zu (n+1) f=Zu n f++[.bool (f n)]:=by simp[Zu,List.range_succ]
def GpI(bs:List Qm)(w:World)(gp:Nat)(vL:Value)(m:Nat)(vS vC vO:Value)(wr:World):Prop:=
 wr.heap[gp]?=some (.cells #[vL,vS,vC,vO] 118 (0,0))∧wr.ownsRow w.heap.size 115 3 vS (gvU bs).length (QV (gvU bs))∧wr.ownsRow w.heap.size 4 1 vC bs.length (Zu bs.length (rchF (suF bs) bs.length noB))∧Nf w.heap.size wr vO m (fun a=>ZG (suF bs) bs.length a) bs.length∧Below w.heap.size w wr
theorem GpI.keeps{bs w gp vL m vS vC vO wr wr'}(h:GpI bs w gp vL m vS vC vO wr)(F:Below wr.heap.size wr wr'):GpI bs w gp vL m vS vC vO wr':=by
 obtain⟨a,b,c,d,e⟩:=h;exact⟨by rw[F.block _ (lt_of_block a)];exact a,Qd b (Qh F) trivial,Qd c (Qh F) trivial,d.keeps F,e.trans (F.mono e.size)⟩
theorem QjO(bs:List Qm)(base:Nat)(v:Value)(w:World)(h:QR w base bs v)(hgl:Hid (∀b∈bs,∀p∈goalsF b.e,p.1<bs.length))(hf:Hid (∀b∈bs,QU 1000000 b))(hn0:0<bs.length)(hn:bs.length≤1000):
  Calls prog 26 #[v] w fun x w'=>∃gp,x=.returned (.pointer (some ⟨gp,0,none⟩))∧Hid (GrI bs base w.heap.size gp v w'∧Below w.heap.size w w'):=by
 obtain⟨pv,cv,rfl⟩:=h.slice;have HB:=Qc h;clear h;go_enter func26,ntmps26;go_wp2_with fail;refine(Rp bs (-1) base _ w HB.o hgl hn0 hn).mono ?_;rintro x w1 ⟨v1,rfl,o1,f1⟩;rw[Nb]at o1;obtain⟨p1,c1,rfl⟩:=Qa o1;have s1:=f1.size;have H1:=Qc (And.intro o1 f1);clear o1 f1;go_wp2_with fail;have gW:=heap_alloc_last w1 (.cells #[.slice pv bs.length cv,.slice none 0 0,.slice p1 bs.length c1,.slice none 0 0] 118);have H2:Hid ((w1.alloc (.cells #[.slice pv bs.length cv,.slice none 0 0,.slice p1 bs.length c1,.slice none 0 0] 118)).ownsRow w.heap.size 4 1 (.slice p1 bs.length c1) bs.length (Zu bs.length (rchF (suF bs) bs.length noB))∧Below w.heap.size w (w1.alloc (.cells #[.slice pv bs.length cv,.slice none 0 0,.slice p1 bs.length c1,.slice none 0 0] 118))∧w1.heap.size<(w1.alloc (.cells #[.slice pv bs.length cv,.slice none 0 0,.slice p1 bs.length c1,.slice none 0 0] 118)).heap.size):=⟨H1.o.1.alloc _,H1.o.2.alloc s1 _,by rw[Qt];omega⟩;generalize w1.alloc (.cells #[.slice pv bs.length cv,.slice none 0 0,.slice p1 bs.length c1,.slice none 0 0] 118)=W at *;have sW:=H2.o.2.1.size;refine(QdW bs base _ W (HB.o.keeps3 (Qr.below H2.o.2.1)) hf hn).mono ?_;rintro x w2 ⟨v2,rfl,H3⟩;obtain⟨p2,c2,rfl⟩:=Qa H3.o.1;have s2:=H3.o.2.2.size;have g2:w2.heap[w1.heap.size]?=some (.cells #[.slice pv bs.length cv,.slice none 0 0,.slice p1 bs.length c1,.slice none 0 0] 118 (0,0)):=by rw[H3.o.2.2.block _ (lt_of_block gW)];exact gW
 have k1:=Qb g2 1;have k1f:=Qg g2 1;simp at k1;have B0:Hid (GpI bs w w1.heap.size (.slice pv bs.length cv) 0 (.slice p2 (gvU bs).length c2) (.slice p1 bs.length c1) (.slice none 0 0) (w2.setCell ⟨w1.heap.size,1,none⟩ (.slice p2 (gvU bs).length c2))):=by
  refine⟨Qq g2 _ _,?_,?_,⟨[],World.ownsRow_nil _ _ _ _,fun k u hu=>by simp at hu⟩,Qp (H2.o.2.1.trans (H3.o.2.2.mono sW)) _ _ _ s1⟩
  ·have:=H3.o.1;obtain⟨a1,b1⟩:=Qj this (show w.heap.size≤W.heap.size by omega);refine⟨a1,b1.imp id ?_⟩;rintro⟨g,cap,cur,e,b2,c3,d1⟩;refine⟨g,cap,cur,e,b2,?_,d1⟩;rw[Below.heap_setCell _ _ _ _ ?_]
   ·exact c3
   ·rintro rfl;rw[g2]at c3;cases c3
  ·exact QL (Qd H2.o.1 (Qh H3.o.2.2) trivial) g2 (by decide)
 clear g2 gW H1 H2 H3;go_wp2_with fail
 go_loopw [6] (fun i wr=>∃(m:Nat)(vO:Value),m≤bs.length∧i=.int .i64 m∧Hid (GpI bs w w1.heap.size (.slice pv bs.length cv) m (.slice p2 (gvU bs).length c2) (.slice p1 bs.length c1) vO wr)) (fun i _=>bs.length-(intOf i).toNat)
 case atStart=>exact⟨0,_,by omega,rfl,B0⟩
 case round=>
  clear B0;obtain⟨m,vO,hm,rfl,HR⟩:=hrel;rename World=>wA;have hzA:=HR.o.2.2.2.2.size;by_cases hlt:m<bs.length
  ·go_wp2_with fail;refine(Rp bs m base _ wA (HB.o.keeps3 (Qr.below HR.o.2.2.2.2)) hgl hn0 hn).mono ?_;rintro x w3 ⟨v3,rfl,o3,f3⟩;rw[Qij]at o3;obtain⟨p3,c3,rfl⟩:=Qa o3;have s3:=f3.size;have HR3:=Qc (HR.o.keeps f3);have H3:=Qc (And.intro o3 (And.intro f3 (lt_of_block HR3.o.1)));clear o3 f3;go_wp2_with fail
   go_loopw [8,9] (fun o j wr=>∃b:Nat,b≤bs.length∧j=.int .i64 b∧wr.ownsRow w3.heap.size 4 1 o b (Zu b (ZG (suF bs) bs.length m))∧Hid (Below w3.heap.size w3 wr)) (fun _ j _=>bs.length-(intOf j).toNat)
   case atStart=>exact⟨0,by omega,rfl,Q3 _ _ _ _,Below.refl _ _⟩
   case round=>
    obtain⟨b,hb,rfl,OB,FB⟩:=hrel;rename World=>wB;obtain⟨pb,cb,rfl⟩:=Qa OB;have hzB:=FB.o.size;have OBH:=Qc OB;clear OB;have HRB:=Qc (HR3.o.keeps FB.o);have k2:=Qb HRB.o.1 2;have k3:=Qb HRB.o.1 3;simp at k2 k3;by_cases hbl:b<bs.length
    ·have OC:=HRB.o.2.2.1;obtain⟨gc,rfl,_,_⟩:=Qk OC (by omega);have kc:=Qf OC (ZS hbl);have OR:=Qd H3.o.1 (Qh FB.o) trivial;obtain⟨gr,rfl,_,_⟩:=Qk OR (by omega);have kr:=Qf OR (ZS hbl);have HOV:Hid (ZG (suF bs) bs.length m b=(rchF (suF bs) bs.length noB b&&!rchF (suF bs) bs.length (isB m) b)):=rfl;clear OC OR k3;generalize rchF (suF bs) bs.length noB b=x1 at *;generalize rchF (suF bs) bs.length (isB m) b=x2 at *;cases x1<;>cases x2 <;>
      (go_wp2_with (at_builtin;refine QA ?_)
       refine Qc ?_;have HO2:=HOV.o;simp at HO2;have gB:=heap_alloc_last wB (.cells #[.bool (ZG (suF bs) bs.length m b)] 4);have OBB:=OBH.o.alloc (.cells #[.bool (ZG (suF bs) bs.length m b)] 4);rw[HO2]at gB OBB;refine J7 underlying67 QiK rfl (by decide) (by decide) rfl _ _ rfl rfl OBB gB rfl rfl (List.all_eq_true.1 rfl) (by omega) (by simp;omega) ?_;intro v4 w4 oS gS;have F4:=Qc (Below.grown (FB.o.alloc (by omega) _) gS (by simp;omega) (fun j hj=>by have:=(OBB.lt j hj).1;omega));obtain⟨p4,c4,rfl⟩:=Qa oS;have O4:Hid (w4.ownsRow w3.heap.size 4 1 (.slice p4 (b+1) c4) (b+1) (Zu (b+1) (ZG (suF bs) bs.length m))):=by
        show World.ownsRow _ _ _ _ _ _ _;rw[Qbk,HO2];exact oS
       clear gS gB OBB oS HO2;go_wp2_with fail;go_roundw
       case rel=>exact⟨b+1,by omega,by go_num,O4.o,F4⟩
       case measure=>simp[intOf];omega)
    ·have hbe:b=bs.length:=by omega
     subst hbe;obtain⟨us,ou,hrows⟩:=HRB.o.2.2.2.1;obtain⟨po,co,rfl⟩:=Qa ou;have HU:=Qc (And.intro ou hrows);have hul:us.length=m:=by have:=ou.1;omega
     clear ou hrows k2;go_wp2_with (at_builtin;refine QA ?_);refine Qc ?_;have gB:=heap_alloc_last wB (.cells #[.slice pb bs.length cb] 67);have OUB:=HU.o.1.alloc (.cells #[.slice pb bs.length cb] 67);have hzw:w.heap.size≤wB.heap.size:=by omega
     refine J7 underlying116 QjH rfl (by decide) (by decide) rfl _ _ rfl rfl OUB gB rfl rfl (List.all_eq_true.1 rfl) (by omega) (by simp;omega) ?_;intro v5 w5 oS gS;obtain⟨p5,c5,rfl⟩:=Qa oS;have hgp:=HRB.o.1;have g5:w5.heap[w1.heap.size]?=some (.cells #[.slice pv bs.length cv,.slice p2 (gvU bs).length c2,.slice p1 bs.length c1,.slice po m co] 118 (0,0)):=QC gS (Qo hgp _) (fun j hj e=>QG HU.o.1 hgp (by decide) (by have h2:(Value.slice po m co).ownBlock=some j:=hj;rw[h2,e]));have B5:Hid (GpI bs w w1.heap.size (.slice pv bs.length cv) (m+1) (.slice p2 (gvU bs).length c2) (.slice p1 bs.length c1) (.slice p5 (m+1) c5) (w5.setCell ⟨w1.heap.size,3,none⟩ (.slice p5 (m+1) c5))):=by
      obtain⟨a1,a2,a3,a4,a5⟩:=HRB.o;have nb:∀{e sz n:Nat} {u:Value} {xs:List Value},wB.ownsRow w.heap.size e sz u n xs→e≠67→∀b,u.ownBlock=some b→(Value.slice po m co).ownBlock≠some b:=fun hu he b hb e2=>Qau hu HU.o.1 he b e2 hb;have kp:∀{e n:Nat} {u:Value} {xs:List Value},wB.ownsRow w.heap.size e 1 u n xs→e≠67→e≠118→(w5.setCell ⟨w1.heap.size,3,none⟩ (.slice p5 (m+1) c5)).ownsRow w.heap.size e 1 u n xs:=fun hu he h180=>QL (NJ (hu.alloc _) gS (nb hu he)) g5 (fun e2=>h180 e2.symm);refine⟨Qq g5 _ _,?_,kp a3 (by decide) (by decide),⟨us++[.slice pb bs.length cb],QL oS g5 (by decide),fun k u hu=>?_⟩,Qp (Below.grown (a5.alloc hzw _) gS (by rw[Qt];omega) (fun j hj=>by have:=(OUB.lt j hj).1;omega)) _ _ _ (by omega)⟩
      ·obtain⟨b1,b2⟩:=a2;refine⟨b1,b2.imp id ?_⟩;rintro⟨g,cap,cur,e,b3,c3',d1⟩;refine⟨g,cap,cur,e,b3,?_,d1⟩;refine Ql (QC gS (Qo c3' _) (fun j hj e3=>?_)) ?_ _ _
       ·have hh:=HU.o.1;exact QG hh c3' (by decide) (by have h2:(Value.slice po m co).ownBlock=some j:=hj;rw[h2,e3])
       ·rintro rfl;rw[a1]at c3';cases c3'
      ·rw[List.getElem?_append]at hu;split at hu
       ·exact kp (HU.o.2 k u hu) (by decide) (by decide)
       ·rename_i hk;have hk2:k=m:=by
         rcases Nat.lt_or_ge (k-us.length) 1 with h|h
         ·omega
         ·rw[List.getElem?_eq_none (by simpa using h)]at hu;cases hu
        subst hk2;rw[hul]at hu;simp at hu;subst hu;exact kp (Qj OBH.o (by omega)) (by decide) (by decide)
     have k3':=Qb g5 3;have k3f:=Qg g5 3;simp at k3';clear gS gB OUB oS g5 HU HRB hgp k3;go_wp2_with fail;go_roundw
     case rel=>exact⟨m+1,_,by omega,by go_num,B5⟩
     case measure=>simp[intOf];omega
  ·have hme:m=bs.length:=by omega
   have HG:Hid (GrI bs base w.heap.size w1.heap.size (.slice pv bs.length cv) wA∧Below w.heap.size w wA):=by
    obtain⟨a1,a2,a3,a4,a5⟩:=HR.o;rw[hme]at a4;exact⟨⟨_,_,_,a1,HB.o.keeps3 (Qr.below a5),a2,a3,a4⟩,a5⟩
   clear hme HR;go_wp2_with fail;go_ret;exact⟨_,rfl,HG⟩
end Go.Proofs.YtgfhfkgdmidhpaaGreatDoor
