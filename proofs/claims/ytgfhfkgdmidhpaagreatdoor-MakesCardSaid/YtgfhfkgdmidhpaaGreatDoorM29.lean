import Derived.Test.YtgfhfkgdmidhpaaGreatDoorM28
namespace Go.Proofs.YtgfhfkgdmidhpaaGreatDoor
open Go.RowKit
open Go.Proofs.Tryz
set_option maxRecDepth 100000
set_option maxHeartbeats 8000000
def InA(v:Value)(l:List Int)(w:World):Prop:=
 ∃p c,v=.slice p l.length c∧l.length≤c∧(0<l.length→∃g o,p=some ⟨g,o,none⟩∧g<w.heap.size∧∀j (h:j<l.length),w.cell? ⟨g,o+j,none⟩=some (.int .i64 l[j]))
theorem InA.keeps{v l w w'}(h:InA v l w)(F:Below w.heap.size w w'):InA v l w':=by
 obtain⟨p,c,rfl,hc,h⟩:=h;refine⟨p,c,rfl,hc,fun h0=>?_⟩;obtain⟨g,o,a,b,d⟩:=h h0;exact⟨g,o,a,QH b F.size,fun j hj=>(F.cell (p:=⟨g,o+j,none⟩) b).trans (d j hj)⟩
theorem Qa9{w w':World}{r:Option Nat}(g:w.drew.grownBy w' r):w.grownBy w' r:=⟨g.os,g.tape,g.output,g.size,g.block⟩
theorem Qke{base:Nat}{v:Value}{l:List Int}{w:World}(h:w.ownsRow base 3 1 v l.length (Xa l)):InR base v l w:=by
 obtain⟨p,c,rfl⟩:=Qa h;refine⟨p,c,rfl,?_,fun h0=>?_⟩
 ·rcases h.2 with ⟨h1,h2⟩|⟨g,cap,cur,hv,hb,hg,hc,_,hs,hx⟩
  ·simp only[Value.slice.injEq]at h1;omega
  ·cases hv;exact hc
 ·obtain⟨g,rfl,hb,hl⟩:=Qk h h0;rcases h.2 with ⟨h1,_⟩|⟨g',cap,cur,hv,_,hg,hc,_,hs,hx⟩
  ·cases h1
  ·cases hv;refine⟨g,0,cur,rfl,hb,hg,fun j hj=>?_⟩;have:=Qf h (Kw hj);rw[Qb hg]at this
   rwa [Nat.zero_add]
theorem Jr{bs:List Qm}{i:Nat}(hi:i<bs.length)(j:Nat)(fm:Int)(m:Mac):plA (absP bs) (j+1) i fm m=if bs[i].e.op=46 then ((blA (Xf bs[i]) fm m).out,0) else plA (absP bs) j (nxA (Xf bs[i]) (blA (Xf bs[i]) fm m)) i (blA (Xf bs[i]) fm m):=by
 have e:bkA (absP bs) i=Xf bs[i]:=by rw[Ya (by simpa[absP] using hi)];simp[absP]
 rw[plA,e];rfl
theorem Rj(t:ASt)(m:Mac):(stA t m).out.length≤m.out.length+1:=by
 cases t<;>simp[stA]
theorem QfH(b:ABk)(fm:Int)(m:Mac):(entA b fm m).out=m.out:=by
 unfold entA;split<;>rfl
theorem Gx{l:List Qz}{t:Nat}(ht:t<l.length)(m:Mac):Yi ((l.take (t+1)).map QK) m=stA (QK l[t]) (Yi ((l.take t).map QK) m):=by
 rw[Zb ht,List.map_append,Nq];rfl
theorem Xw.outRow{base g q m w}(h:Xw base g q m w):∃vO,w.cell? ⟨g,3,none⟩=some vO∧w.ownsRow base 3 1 vO m.out.length (Xa m.out):=by
 obtain⟨ns,hs,vN,vH,vI,vO,hM,_⟩:=h;refine⟨vO,?_,hM.1.2.1.2.2⟩;have:=Qb hM.1.1.1 3;simpa using this
theorem Xw.lt{base g q m w}(h:Xw base g q m w):g<w.heap.size:=by
 obtain⟨ns,hs,vN,vH,vI,vO,hM,_⟩:=h;exact lt_of_block hM.1.1.1
theorem Qix(bs:List Qm)(base:Nat)(vl vi:Value)(V:List Int)(f:Nat)(w:World)(h:QR w base bs vl)(hi:InA vi V w)(hV:V.length≤20)(hf:f≤300)(hpos:0<bs.length)
  (hfine:∀b∈bs,QU 1000000 b)(hcs:∀b∈bs,b.chs.length+b.sts.length≤100000)(hgl:∀b∈bs,∀c∈b.chs,c.gs.length≤1000)(hop:∀b∈bs,∀t∈b.sts,t.op<256)(hnx:∀b∈bs,b.e.op<256∧(b.e.op≠46→b.e.one.1<bs.length)∧(b.e.op=63→b.e.two.1<bs.length)):
  Calls prog 32 #[vl,vi,.int .i64 f] w fun x w'=>∃v,x=.returned (.tuple #[v,.int .i64 (playA (absP bs) V f).2])∧Hid (w'.ownsRow w.heap.size 3 1 v (playA (absP bs) V f).1.length (Xa (playA (absP bs) V f).1)∧Below w.heap.size w w'):=by
 obtain⟨pl,cl,rfl⟩:=h.slice;have hib:=hi;obtain⟨pi,ci,rfl,hci,_⟩:=hi;have HB:=Qc h;have HI:=Qc hib;have HF:=Qc hfine;have HG:=Qc hgl;have HCS:=Qc hcs;have HO:=Qc hop;have HX:=Qc hnx;clear h hib hfine hgl hop hnx hcs;go_enter func32,ntmps32;go_wp2_with fail;have B0:Hid ((w.alloc (.cells #[.slice none 0 0,.slice none 0 0,.slice none 0 0,.slice none 0 0] 125)).heap[w.heap.size]?=some (.cells #[.slice none 0 0,.slice none 0 0,.slice none 0 0,.slice none 0 0] 125 (0,0))∧Below w.heap.size w (w.alloc (.cells #[.slice none 0 0,.slice none 0 0,.slice none 0 0,.slice none 0 0] 125))):=⟨heap_alloc_last _ _,(Below.refl _ _).alloc (Qi _) _⟩
 go_loopw [9] (fun i wr=>∃(k:Nat)(L:List Int)(vI:Value),k≤V.length∧i=.int .i64 k∧Hid (L=V.take k)∧wr.ownsRow w.heap.size 3 1 vI L.length (Xa L)∧Hid (wr.heap[w.heap.size]?=some (.cells #[.slice none 0 0,.slice none 0 0,vI,.slice none 0 0] 125 (0,0))∧Below w.heap.size w wr)) (fun i _=>V.length-(intOf i).toNat)
 case atStart=>exact⟨0,[],_,by omega,rfl,rfl,Q3 _ _ _ _,B0⟩
 case round=>
  clear B0;obtain⟨k,L,vI,hk,rfl,HL,OV,HW⟩:=hrel;rename World=>wA;obtain⟨pI,cI,rfl⟩:=Qa OV;have hzA:=HW.o.2.size;have hgA:=lt_of_block HW.o.1;have hkl:L.length=k:=by rw[HL.o,List.length_take];omega
  by_cases hlt:k<V.length
  ·obtain⟨p,c,e,_,hin⟩:=HI.o;obtain⟨gI,oI,rfl,hcs,hcx⟩:=hin (by omega);cases e;have c0:wA.cell? ⟨gI,oI+k,none⟩=some (.int .i64 V[k]):=by
    rw[HW.o.2.cell (p:=⟨gI,oI+k,none⟩) hcs];exact hcx k hlt
   have m2:wA.cell? ⟨w.heap.size,2,none⟩=some (.slice pI L.length cI):=by
    have:=Qb HW.o.1 2;simpa using this
   have HOV:=Qc OV;have HN:Hid (L++[V[k]]=V.take (k+1)):=by show _=_;rw[Zb hlt,HL.o]
   have HKL:=Qc hkl;have hk20:L.length≤20:=by omega
   have OBd:Hid ((wA.alloc (.cells #[.int .i64 V[k]] 3)).drew.ownsRow w.heap.size 3 1 (.slice pI L.length cI) L.length (Xa L)):=OV.alloc _;have hzD:Hid ((wA.alloc (.cells #[.int .i64 V[k]] 3)).drew.heap[wA.heap.size]?=some (.cells #[.int .i64 V[k]] 3 (0,0))):=heap_alloc_last wA _;have hsD:w.heap.size≤(wA.alloc (.cells #[.int .i64 V[k]] 3)).drew.heap.size:=by show _≤(wA.alloc _).heap.size;rw[Qt];omega
   clear hkl hcx hcs OV hin;go_wp2_with fail
   go_region_law (first | (refine Rf underlying22 JF rfl (by decide) (by decide) rfl _ _ rfl rfl OBd.o hzD.out rfl rfl (List.all_eq_true.1 rfl) (by omega) hsD ?_;intro v7 w7 oS gS nS;obtain⟨v7p,v7c,rfl⟩:=Qa oS;have C7:=XF (Qa9 gS);have a7:w7.heap[w.heap.size]?=some (.cells #[.slice none 0 0,.slice none 0 0,.slice pI L.length cI,.slice none 0 0] 125 (0,0)):=(by rw[C7.block _ hgA (fun e2=>QG HOV.o HW.o.1 (by decide) e2.symm)];exact HW.o.1);have z2:=Qb a7 2;have z2f:=Qg a7 2;have H7:=Qc (And.intro oS (And.intro a7 C7));simp at z2;clear oS gS nS a7 C7))
   all_goals
    have R:Hid ((w7.setCell ⟨w.heap.size,2,none⟩ (.slice v7p (L.length+1) v7c)).ownsRow w.heap.size 3 1 (.slice v7p (L.length+1) v7c) (L++[V[k]]).length (Xa (L++[V[k]]))∧(w7.setCell ⟨w.heap.size,2,none⟩ (.slice v7p (L.length+1) v7c)).heap[w.heap.size]?=some (.cells #[.slice none 0 0,.slice none 0 0,.slice v7p (L.length+1) v7c,.slice none 0 0] 125 (0,0))∧Below w.heap.size w (w7.setCell ⟨w.heap.size,2,none⟩ (.slice v7p (L.length+1) v7c))):=by
     refine⟨?_,?_,?_⟩
     ·rw[YG,Qw];exact Xq H7.o.1 (fun j _ hj=>QM (fun e2=>QG H7.o.1 H7.o.2.1 (by decide) (by rw[←e2];exact hj)))
     ·rw[Qq H7.o.2.1];rfl
     ·exact Qp (HW.o.2.trans (H7.o.2.2.toBelow (by omega) (fun j hj=>(HOV.o.lt j hj.symm).1))) _ _ _ (Qi _)
    clear H7 HOV OBd hzD c0 m2 z2 z2f;go_wp2_with fail;go_roundw
    case rel=>exact⟨k+1,L++[V[k]],_,by omega,by go_num,HN,R.o.1,R.o.2⟩
    case measure=>simp[intOf];omega
  ·have hke:k=V.length:=by omega
   have M0:Hid (Xw w.heap.size w.heap.size 0 ⟨fun _=>0,V,[]⟩ wA∧Below w.heap.size w wA):=by
    obtain rfl:L=V:=by rw[HL.o,hke,List.take_length]
    refine⟨⟨[],[],.slice none 0 0,.slice none 0 0,_,.slice none 0 0,⟨⟨⟨HW.o.1,Qi _⟩,⟨Q3 _ _ _ _,Q3 _ _ _ _,Q3 _ _ _ _⟩,Qke OV,⟨(fun j hj=>by cases hj),(fun j hj=>by cases hj),(fun j hj=>by cases hj)⟩,fun j hj=>⟨(fun h=>by cases h),(fun h=>by cases h),(fun h=>by cases h)⟩⟩,rfl,?_⟩,Qi _⟩,HW.o.2⟩
    funext n
    exact(GL _ _).symm
   clear hke OV HW hkl HL;go_wp2_with fail;have HS:Hid (plA (absP bs) f 0 (-1) ⟨fun _=>0,V,[]⟩=playA (absP bs) V f):=rfl
   go_loopw [2,10,11] (fun fu at_ fr wr=>∃(k i:Nat)(fm:Int)(m:Mac)(q:Nat),fu=.int .i64 k∧at_=.int .i64 i∧fr=.int .i64 fm∧k≤f∧i<bs.length∧q+100000*k≤100000*f∧m.out.length+100000*k≤100000*f∧Hid ((fm=-1∨∃j:Nat,fm=j)∧plA (absP bs) k i fm m=playA (absP bs) V f)∧Hid (Xw w.heap.size w.heap.size q m wr∧Below w.heap.size w wr)) (fun fu _ _ _=>(intOf fu).toNat)
   case atStart=>exact⟨f,0,-1,_,0,rfl,rfl,rfl,by omega,hpos,by omega,by simp,⟨.inl rfl,HS.o⟩,M0⟩
   case round=>
    clear M0 HS;obtain⟨k,i,fm,m,q,rfl,rfl,rfl,hk,hi,hq,hol,HP,HM⟩:=hrel;rename World=>wB;by_cases hk0:k=0
    ·subst hk0;obtain⟨vO,o3,OO⟩:=HM.o.1.outRow;obtain⟨pO,cO,rfl⟩:=Qa OO;have HE:Hid (playA (absP bs) V f=(m.out,1)):=by show _=_;rw[←HP.o.2,plA]
     have HOO:=Qc OO;clear OO HP;go_wp2_with fail
     go_ret2
     refine⟨_,by rw[HE.o];rfl,?_⟩;rw[HE.o];exact⟨HOO.o,HM.o.2⟩
    ·have hkp:0<k:=by omega
     obtain⟨j,hj⟩:∃j,j=k-1:=⟨_,rfl⟩;have HJ:=Qc hj;have HPE:Hid (plA (absP bs) (j+1) i fm m=playA (absP bs) V f):=by show _=_;rw[hj,show k-1+1=k from by omega];exact HP.o.2
     have hjk:j+1≤k:=by omega
     have hkj:k≤j+1:=by omega
     clear hk0 hj;obtain⟨g,qc,cc,ps,cs,rfl,_,hg,OC,OS,hc⟩:=HB.o.at hi;have hcl:∀(o:Nat)(u:Value),(XS (.slice qc bs[i].chs.length cc) (.slice ps bs[i].sts.length cs) bs[i].e bs[i].at_)[o]?=some u→wB.cell? ⟨g,i*10+o,none⟩=some u:=fun o u h=>(HM.o.2.cell (p:=⟨g,i*10+o,none⟩) hg).trans (hc o u h);have d0:=hcl 0 _ rfl;have d1:=hcl 1 _ rfl;have d2:=hcl 2 _ rfl;have d3:=hcl 3 _ rfl;have d4:=hcl 4 _ rfl;have d5:=hcl 5 _ rfl;have d6:=hcl 6 _ rfl;have d7:=hcl 7 _ rfl;have d8:=hcl 8 _ rfl;have d9:=hcl 9 _ rfl;simp only[Nat.add_zero]at d0;have HOC:=Qc (And.intro OC OS);have hgM:=HM.o.1.lt;have hcsi:=HCS.o _ (Qx hi);have F1:=Qc ((Below.refl wB.heap.size wB).alloc (Qi _) (.cells #[.slice qc bs[i].chs.length cc,.slice ps bs[i].sts.length cs,.int .u8 bs[i].e.op,.int .i64 bs[i].e.a.1,.int .i64 bs[i].e.a.2,.int .i64 bs[i].e.one.1,.int .i64 bs[i].e.one.2,.int .i64 bs[i].e.two.1,.int .i64 bs[i].e.two.2,.int .i64 bs[i].at_] 53));have hzB:=HM.o.2.size;have g1:=heap_alloc_last wB (.cells #[.slice qc bs[i].chs.length cc,.slice ps bs[i].sts.length cs,.int .u8 bs[i].e.op,.int .i64 bs[i].e.a.1,.int .i64 bs[i].e.a.2,.int .i64 bs[i].e.one.1,.int .i64 bs[i].e.one.2,.int .i64 bs[i].e.two.1,.int .i64 bs[i].e.two.2,.int .i64 bs[i].at_] 53);have hfm:=HP.o.1;clear hc hcl OC OS HP;have HBF:=Qc (HF.o _ (Qx hi));have HGG:=Qc (HG.o _ (Qx hi));rcases hfm with rfl|⟨fj,rfl⟩
     ·have X:∃(m1:Mac)(q1:Nat),Hid (m1=entA (Xf bs[i]) (-1) m)∧q1≤q+bs[i].chs.length∧m1.out.length≤m.out.length∧Hid (Xw w.heap.size w.heap.size q1 m1 (wB.alloc (.cells #[.slice qc bs[i].chs.length cc,.slice ps bs[i].sts.length cs,.int .u8 bs[i].e.op,.int .i64 bs[i].e.a.1,.int .i64 bs[i].e.a.2,.int .i64 bs[i].e.one.1,.int .i64 bs[i].e.one.2,.int .i64 bs[i].e.two.1,.int .i64 bs[i].e.two.2,.int .i64 bs[i].at_] 53))∧Below w.heap.size w (wB.alloc (.cells #[.slice qc bs[i].chs.length cc,.slice ps bs[i].sts.length cs,.int .u8 bs[i].e.op,.int .i64 bs[i].e.a.1,.int .i64 bs[i].e.a.2,.int .i64 bs[i].e.one.1,.int .i64 bs[i].e.one.2,.int .i64 bs[i].e.two.1,.int .i64 bs[i].e.two.2,.int .i64 bs[i].at_] 53))∧(wB.alloc (.cells #[.slice qc bs[i].chs.length cc,.slice ps bs[i].sts.length cs,.int .u8 bs[i].e.op,.int .i64 bs[i].e.a.1,.int .i64 bs[i].e.a.2,.int .i64 bs[i].e.one.1,.int .i64 bs[i].e.one.2,.int .i64 bs[i].e.two.1,.int .i64 bs[i].e.two.2,.int .i64 bs[i].at_] 53)).heap[wB.heap.size]?=some (.cells #[.slice qc bs[i].chs.length cc,.slice ps bs[i].sts.length cs,.int .u8 bs[i].e.op,.int .i64 bs[i].e.a.1,.int .i64 bs[i].e.a.2,.int .i64 bs[i].e.one.1,.int .i64 bs[i].e.one.2,.int .i64 bs[i].e.two.1,.int .i64 bs[i].e.two.2,.int .i64 bs[i].at_] 53 (0,0))):=⟨m,q,rfl,by omega,Qi _,HM.o.1.keeps F1.o,HM.o.2.trans (F1.o.mono hzB),g1⟩;obtain⟨m1,q1,HE1,hq1,ho1,H1⟩:=X;clear g1 F1;go_wp2_with fail;clear d0 d1 d2 d3 d4 d5 d6 d7 d8 d9;generalize wB.alloc (.cells #[.slice qc bs[i].chs.length cc,.slice ps bs[i].sts.length cs,.int .u8 bs[i].e.op,.int .i64 bs[i].e.a.1,.int .i64 bs[i].e.a.2,.int .i64 bs[i].e.one.1,.int .i64 bs[i].e.one.2,.int .i64 bs[i].e.two.1,.int .i64 bs[i].e.two.2,.int .i64 bs[i].at_] 53)=W1 at *;have b1:=Qb H1.o.2.2 1;simp at b1;go_wp2_with fail;clear b1
      go_loopw [13] (fun ii wr=>∃(t q2:Nat)(m2:Mac),t≤bs[i].sts.length∧ii=.int .i64 t∧q2≤q1+t∧m2.out.length≤m1.out.length+t∧Hid (m2=Yi ((bs[i].sts.take t).map QK) m1)∧Hid (Xw w.heap.size w.heap.size q2 m2 wr∧Below w.heap.size w wr∧wr.heap[wB.heap.size]?=some (.cells #[.slice qc bs[i].chs.length cc,.slice ps bs[i].sts.length cs,.int .u8 bs[i].e.op,.int .i64 bs[i].e.a.1,.int .i64 bs[i].e.a.2,.int .i64 bs[i].e.one.1,.int .i64 bs[i].e.one.2,.int .i64 bs[i].e.two.1,.int .i64 bs[i].e.two.2,.int .i64 bs[i].at_] 53 (0,0)))) (fun ii _=>bs[i].sts.length-(intOf ii).toNat)
      case atStart=>exact⟨0,q1,m1,by omega,rfl,by omega,by omega,rfl,H1⟩
      case round=>
       clear H1;obtain⟨t,q2,m2,ht,rfl,hq2,ho2,HE2,H2⟩:=hrel;rename World=>wC;have hzC:=H2.o.2.1.size;have hbC:=lt_of_block H2.o.2.2;have b1:=Qb H2.o.2.2 1;simp at b1;by_cases htl:t<bs[i].sts.length
       ·have OS:=Qd HOC.o.2 (Qh H2.o.2.1) trivial;obtain⟨gs,rfl,_,hgs⟩:=Qk OS (by omega);have t0:wC.cell? ⟨gs,t*8,none⟩=some (.int .u8 bs[i].sts[t].op):=Qf OS (Qs htl (k:=0) (by omega));have t1:wC.cell? ⟨gs,t*8+1,none⟩=some (.int .i64 bs[i].sts[t].to.1):=Qf OS (Qs htl (k:=1) (by omega));have t2:wC.cell? ⟨gs,t*8+2,none⟩=some (.int .i64 bs[i].sts[t].to.2):=Qf OS (Qs htl (k:=2) (by omega));have t3:wC.cell? ⟨gs,t*8+3,none⟩=some (.int .i64 bs[i].sts[t].a.1):=Qf OS (Qs htl (k:=3) (by omega));have t4:wC.cell? ⟨gs,t*8+4,none⟩=some (.int .i64 bs[i].sts[t].a.2):=Qf OS (Qs htl (k:=4) (by omega));have t5:wC.cell? ⟨gs,t*8+5,none⟩=some (.int .i64 bs[i].sts[t].b.1):=Qf OS (Qs htl (k:=5) (by omega));have t6:wC.cell? ⟨gs,t*8+6,none⟩=some (.int .i64 bs[i].sts[t].b.2):=Qf OS (Qs htl (k:=6) (by omega));have t7:wC.cell? ⟨gs,t*8+7,none⟩=some (.int .i64 bs[i].sts[t].n):=Qf OS (Qs htl (k:=7) (by omega));have hop:=HO.o _ (Qx hi) _ (Qx htl);have HNX:=Qc (Gx htl m1);have hob:=Rj (QK bs[i].sts[t]) m2;clear OS;go_wp2_with fail;refine(Qiq w.heap.size w.heap.size q2 bs[i].sts[t] m2 wC H2.o.1 hop (by omega) (by omega) hzC).mono ?_;rintro x w5 ⟨rfl,H5⟩;have R5:Hid (Xw w.heap.size w.heap.size (q2+1) (stA (QK bs[i].sts[t]) m2) w5∧Below w.heap.size w w5∧w5.heap[wB.heap.size]?=some (.cells #[.slice qc bs[i].chs.length cc,.slice (some ⟨gs,0,none⟩) bs[i].sts.length cs,.int .u8 bs[i].e.op,.int .i64 bs[i].e.a.1,.int .i64 bs[i].e.a.2,.int .i64 bs[i].e.one.1,.int .i64 bs[i].e.one.2,.int .i64 bs[i].e.two.1,.int .i64 bs[i].e.two.2,.int .i64 bs[i].at_] 53 (0,0))):=⟨H5.o.1,H2.o.2.1.trans H5.o.2.2,H5.o.2.1 _ _ _ (by omega) (by decide) H2.o.2.2⟩;have HE5:Hid (stA (QK bs[i].sts[t]) m2=Yi ((bs[i].sts.take (t+1)).map QK) m1):=by show _=_;rw[HNX.o,HE2.o]
        clear H5 H2 HE2 HNX t0 t1 t2 t3 t4 t5 t6 t7 b1;go_wp2_with fail;go_roundw
        case rel=>exact⟨t+1,q2+1,_,by omega,by go_num,by omega,by omega,HE5,R5⟩
        case measure=>simp[intOf];omega
       ·have HE3:Hid (m2=blA (Xf bs[i]) (-1) m):=by
         show _=_;rw[HE2.o,Zg (by omega),HE1.o];rfl
        have b2:=Qb H2.o.2.2 2;have b3:=Qb H2.o.2.2 3;have b5:=Qb H2.o.2.2 5;have b7:=Qb H2.o.2.2 7;simp at b2 b3 b5 b7;have hxi:=HX.o _ (Qx hi);by_cases h46:bs[i].e.op=46
        ·have hd:((bs[i].e.op:Int)==46)=true:=by simp;omega
         obtain⟨vO,o3,OO⟩:=H2.o.1.outRow;obtain⟨pO,cO,rfl⟩:=Qa OO;have HE:Hid (playA (absP bs) V f=(m2.out,0)):=by show _=_;rw[←HPE.o,Jr hi,if_pos h46,HE3.o]
         have HOO:=Qc OO;clear OO h46 hxi;go_wp2_with fail
         go_ret2
         refine⟨_,by rw[HE.o];rfl,?_⟩;rw[HE.o];exact⟨HOO.o,H2.o.2.1⟩
        ·have hd:((bs[i].e.op:Int)==46)=false:=by simp;omega
         have h1n:=hxi.2.1 h46;by_cases h63:bs[i].e.op=63
         ·have hd2:((bs[i].e.op:Int)==63)=true:=by simp;omega
          have h2n:=hxi.2.2 h63;by_cases hr:m2.r bs[i].e.a.1=0
          ·have hd3:((m2.r bs[i].e.a.1:Int)==0)=true:=by simpa using hr
           have HN:Hid (plA (absP bs) j bs[i].e.two.1 (i:Int) m2=playA (absP bs) V f):=by
            show _=_;rw[←HPE.o,Jr hi,if_neg h46,←HE3.o]
            congr 1
            unfold nxA;rw[if_pos ⟨h63,hr⟩];rfl
           clear h46 h63 hr hxi;go_wp2_with fail;refine(RO w.heap.size w.heap.size bs[i].e.a.1 q2 m2 wC H2.o.1 (by omega)).mono ?_;rintro x w6 ⟨rfl,f6⟩;have H6:Hid (Xw w.heap.size w.heap.size q2 m2 w6∧Below w.heap.size w w6):=⟨H2.o.1.keeps f6,H2.o.2.1.trans (f6.mono hzC)⟩;replace b7:=(f6.cell (p:=⟨wB.heap.size,7,none⟩) hbC).trans b7;clear f6 b1 b2 b3 b5 H2;go_wp2_with fail;go_roundw
           case rel=>exact⟨j,bs[i].e.two.1,i,m2,q2,by rw[HJ.o];go_num,rfl,rfl,by omega,h2n,by omega,by omega,⟨.inr ⟨i,rfl⟩,HN.o⟩,H6⟩
           case measure=>simp[intOf];try omega
          ·have hd3:((m2.r bs[i].e.a.1:Int)==0)=false:=by simpa using hr
           have HN:Hid (plA (absP bs) j bs[i].e.one.1 (i:Int) m2=playA (absP bs) V f):=by
            show _=_;rw[←HPE.o,Jr hi,if_neg h46,←HE3.o]
            congr 1
            unfold nxA;rw[if_neg (fun h=>hr h.2)];rfl
           clear h46 h63 hr hxi;go_wp2_with fail;refine(RO w.heap.size w.heap.size bs[i].e.a.1 q2 m2 wC H2.o.1 (by omega)).mono ?_;rintro x w6 ⟨rfl,f6⟩;have H6:Hid (Xw w.heap.size w.heap.size q2 m2 w6∧Below w.heap.size w w6):=⟨H2.o.1.keeps f6,H2.o.2.1.trans (f6.mono hzC)⟩;clear f6 b1 b2 b3 b5 b7 H2;go_wp2_with fail;go_roundw
           case rel=>exact⟨j,bs[i].e.one.1,i,m2,q2,by rw[HJ.o];go_num,rfl,rfl,by omega,h1n,by omega,by omega,⟨.inr ⟨i,rfl⟩,HN.o⟩,H6⟩
           case measure=>simp[intOf];try omega
         ·have hd2:((bs[i].e.op:Int)==63)=false:=by simp;omega
          have HN:Hid (plA (absP bs) j bs[i].e.one.1 (i:Int) m2=playA (absP bs) V f):=by
           show _=_;rw[←HPE.o,Jr hi,if_neg h46,←HE3.o]
           congr 1
           unfold nxA;rw[if_neg (fun h=>h63 h.1)];rfl
          have H6:Hid (Xw w.heap.size w.heap.size q2 m2 wC∧Below w.heap.size w wC):=⟨H2.o.1,H2.o.2.1⟩;clear h46 h63 hxi H2;go_wp2_with fail;go_roundw
          case rel=>exact⟨j,bs[i].e.one.1,i,m2,q2,by rw[HJ.o];go_num,rfl,rfl,by omega,h1n,by omega,by omega,⟨.inr ⟨i,rfl⟩,HN.o⟩,H6⟩
          case measure=>simp[intOf];try omega
     ·go_wp2_with fail;refine(Qib base w.heap.size q fj bs[i] _ _ m w _ (HM.o.1.keeps F1.o) (HM.o.2.trans (F1.o.mono hzB)) HOC.o.1 ⟨_,_,_,rfl⟩ HBF.o HGG.o (by omega)).mono ?_;rintro x W1 ⟨rfl,HC1⟩;have X:∃(m1:Mac)(q1:Nat),Hid (m1=entA (Xf bs[i]) (fj:Int) m)∧q1≤q+bs[i].chs.length∧m1.out.length≤m.out.length∧Hid (Xw w.heap.size w.heap.size q1 m1 W1∧Below w.heap.size w W1∧W1.heap[wB.heap.size]?=some (.cells #[.slice qc bs[i].chs.length cc,.slice ps bs[i].sts.length cs,.int .u8 bs[i].e.op,.int .i64 bs[i].e.a.1,.int .i64 bs[i].e.a.2,.int .i64 bs[i].e.one.1,.int .i64 bs[i].e.one.2,.int .i64 bs[i].e.two.1,.int .i64 bs[i].e.two.2,.int .i64 bs[i].at_] 53 (0,0))):=⟨{ m with r:=chA (bs[i].chs.map Zn) fj m.r },q+bs[i].chs.length,(by show _=_;unfold entA;rw[if_pos (by omega),Int.toNat_natCast];rfl),Qi _,Qi _,HC1.o.1,(HM.o.2.trans (F1.o.mono hzB)).trans HC1.o.2.2,HC1.o.2.1 _ _ _ (by omega) (by decide) g1⟩;obtain⟨m1,q1,HE1,hq1,ho1,H1⟩:=X;clear g1 F1 HC1 d0 d1 d2 d3 d4 d5 d6 d7 d8 d9;go_wp2_with fail;have b1:=Qb H1.o.2.2 1;simp at b1;go_wp2_with fail;clear b1
      go_loopw [13] (fun ii wr=>∃(t q2:Nat)(m2:Mac),t≤bs[i].sts.length∧ii=.int .i64 t∧q2≤q1+t∧m2.out.length≤m1.out.length+t∧Hid (m2=Yi ((bs[i].sts.take t).map QK) m1)∧Hid (Xw w.heap.size w.heap.size q2 m2 wr∧Below w.heap.size w wr∧wr.heap[wB.heap.size]?=some (.cells #[.slice qc bs[i].chs.length cc,.slice ps bs[i].sts.length cs,.int .u8 bs[i].e.op,.int .i64 bs[i].e.a.1,.int .i64 bs[i].e.a.2,.int .i64 bs[i].e.one.1,.int .i64 bs[i].e.one.2,.int .i64 bs[i].e.two.1,.int .i64 bs[i].e.two.2,.int .i64 bs[i].at_] 53 (0,0)))) (fun ii _=>bs[i].sts.length-(intOf ii).toNat)
      case atStart=>exact⟨0,q1,m1,by omega,rfl,by omega,by omega,rfl,H1⟩
      case round=>
       clear H1;obtain⟨t,q2,m2,ht,rfl,hq2,ho2,HE2,H2⟩:=hrel;rename World=>wC;have hzC:=H2.o.2.1.size;have hbC:=lt_of_block H2.o.2.2;have b1:=Qb H2.o.2.2 1;simp at b1;by_cases htl:t<bs[i].sts.length
       ·have OS:=Qd HOC.o.2 (Qh H2.o.2.1) trivial;obtain⟨gs,rfl,_,hgs⟩:=Qk OS (by omega);have t0:wC.cell? ⟨gs,t*8,none⟩=some (.int .u8 bs[i].sts[t].op):=Qf OS (Qs htl (k:=0) (by omega));have t1:wC.cell? ⟨gs,t*8+1,none⟩=some (.int .i64 bs[i].sts[t].to.1):=Qf OS (Qs htl (k:=1) (by omega));have t2:wC.cell? ⟨gs,t*8+2,none⟩=some (.int .i64 bs[i].sts[t].to.2):=Qf OS (Qs htl (k:=2) (by omega));have t3:wC.cell? ⟨gs,t*8+3,none⟩=some (.int .i64 bs[i].sts[t].a.1):=Qf OS (Qs htl (k:=3) (by omega));have t4:wC.cell? ⟨gs,t*8+4,none⟩=some (.int .i64 bs[i].sts[t].a.2):=Qf OS (Qs htl (k:=4) (by omega));have t5:wC.cell? ⟨gs,t*8+5,none⟩=some (.int .i64 bs[i].sts[t].b.1):=Qf OS (Qs htl (k:=5) (by omega));have t6:wC.cell? ⟨gs,t*8+6,none⟩=some (.int .i64 bs[i].sts[t].b.2):=Qf OS (Qs htl (k:=6) (by omega));have t7:wC.cell? ⟨gs,t*8+7,none⟩=some (.int .i64 bs[i].sts[t].n):=Qf OS (Qs htl (k:=7) (by omega));have hop:=HO.o _ (Qx hi) _ (Qx htl);have HNX:=Qc (Gx htl m1);have hob:=Rj (QK bs[i].sts[t]) m2;clear OS;go_wp2_with fail;refine(Qiq w.heap.size w.heap.size q2 bs[i].sts[t] m2 wC H2.o.1 hop (by omega) (by omega) hzC).mono ?_;rintro x w5 ⟨rfl,H5⟩;have R5:Hid (Xw w.heap.size w.heap.size (q2+1) (stA (QK bs[i].sts[t]) m2) w5∧Below w.heap.size w w5∧w5.heap[wB.heap.size]?=some (.cells #[.slice qc bs[i].chs.length cc,.slice (some ⟨gs,0,none⟩) bs[i].sts.length cs,.int .u8 bs[i].e.op,.int .i64 bs[i].e.a.1,.int .i64 bs[i].e.a.2,.int .i64 bs[i].e.one.1,.int .i64 bs[i].e.one.2,.int .i64 bs[i].e.two.1,.int .i64 bs[i].e.two.2,.int .i64 bs[i].at_] 53 (0,0))):=⟨H5.o.1,H2.o.2.1.trans H5.o.2.2,H5.o.2.1 _ _ _ (by omega) (by decide) H2.o.2.2⟩;have HE5:Hid (stA (QK bs[i].sts[t]) m2=Yi ((bs[i].sts.take (t+1)).map QK) m1):=by show _=_;rw[HNX.o,HE2.o]
        clear H5 H2 HE2 HNX t0 t1 t2 t3 t4 t5 t6 t7 b1;go_wp2_with fail;go_roundw
        case rel=>exact⟨t+1,q2+1,_,by omega,by go_num,by omega,by omega,HE5,R5⟩
        case measure=>simp[intOf];omega
       ·have HE3:Hid (m2=blA (Xf bs[i]) ((fj:Int)) m):=by
         show _=_;rw[HE2.o,Zg (by omega),HE1.o];rfl
        have b2:=Qb H2.o.2.2 2;have b3:=Qb H2.o.2.2 3;have b5:=Qb H2.o.2.2 5;have b7:=Qb H2.o.2.2 7;simp at b2 b3 b5 b7;have hxi:=HX.o _ (Qx hi);by_cases h46:bs[i].e.op=46
        ·have hd:((bs[i].e.op:Int)==46)=true:=by simp;omega
         obtain⟨vO,o3,OO⟩:=H2.o.1.outRow;obtain⟨pO,cO,rfl⟩:=Qa OO;have HE:Hid (playA (absP bs) V f=(m2.out,0)):=by show _=_;rw[←HPE.o,Jr hi,if_pos h46,HE3.o]
         have HOO:=Qc OO;clear OO h46 hxi;go_wp2_with fail
         go_ret2
         refine⟨_,by rw[HE.o];rfl,?_⟩;rw[HE.o];exact⟨HOO.o,H2.o.2.1⟩
        ·have hd:((bs[i].e.op:Int)==46)=false:=by simp;omega
         have h1n:=hxi.2.1 h46;by_cases h63:bs[i].e.op=63
         ·have hd2:((bs[i].e.op:Int)==63)=true:=by simp;omega
          have h2n:=hxi.2.2 h63;by_cases hr:m2.r bs[i].e.a.1=0
          ·have hd3:((m2.r bs[i].e.a.1:Int)==0)=true:=by simpa using hr
           have HN:Hid (plA (absP bs) j bs[i].e.two.1 (i:Int) m2=playA (absP bs) V f):=by
            show _=_;rw[←HPE.o,Jr hi,if_neg h46,←HE3.o]
            congr 1
            unfold nxA;rw[if_pos ⟨h63,hr⟩];rfl
           clear h46 h63 hr hxi;go_wp2_with fail;refine(RO w.heap.size w.heap.size bs[i].e.a.1 q2 m2 wC H2.o.1 (by omega)).mono ?_;rintro x w6 ⟨rfl,f6⟩;have H6:Hid (Xw w.heap.size w.heap.size q2 m2 w6∧Below w.heap.size w w6):=⟨H2.o.1.keeps f6,H2.o.2.1.trans (f6.mono hzC)⟩;replace b7:=(f6.cell (p:=⟨wB.heap.size,7,none⟩) hbC).trans b7;clear f6 b1 b2 b3 b5 H2;go_wp2_with fail;go_roundw
           case rel=>exact⟨j,bs[i].e.two.1,i,m2,q2,by rw[HJ.o];go_num,rfl,rfl,by omega,h2n,by omega,by omega,⟨.inr ⟨i,rfl⟩,HN.o⟩,H6⟩
           case measure=>simp[intOf];try omega
          ·have hd3:((m2.r bs[i].e.a.1:Int)==0)=false:=by simpa using hr
           have HN:Hid (plA (absP bs) j bs[i].e.one.1 (i:Int) m2=playA (absP bs) V f):=by
            show _=_;rw[←HPE.o,Jr hi,if_neg h46,←HE3.o]
            congr 1
            unfold nxA;rw[if_neg (fun h=>hr h.2)];rfl
           clear h46 h63 hr hxi;go_wp2_with fail;refine(RO w.heap.size w.heap.size bs[i].e.a.1 q2 m2 wC H2.o.1 (by omega)).mono ?_;rintro x w6 ⟨rfl,f6⟩;have H6:Hid (Xw w.heap.size w.heap.size q2 m2 w6∧Below w.heap.size w w6):=⟨H2.o.1.keeps f6,H2.o.2.1.trans (f6.mono hzC)⟩;clear f6 b1 b2 b3 b5 b7 H2;go_wp2_with fail;go_roundw
           case rel=>exact⟨j,bs[i].e.one.1,i,m2,q2,by rw[HJ.o];go_num,rfl,rfl,by omega,h1n,by omega,by omega,⟨.inr ⟨i,rfl⟩,HN.o⟩,H6⟩
           case measure=>simp[intOf];try omega
         ·have hd2:((bs[i].e.op:Int)==63)=false:=by simp;omega
          have HN:Hid (plA (absP bs) j bs[i].e.one.1 (i:Int) m2=playA (absP bs) V f):=by
           show _=_;rw[←HPE.o,Jr hi,if_neg h46,←HE3.o]
           congr 1
           unfold nxA;rw[if_neg (fun h=>h63 h.1)];rfl
          have H6:Hid (Xw w.heap.size w.heap.size q2 m2 wC∧Below w.heap.size w wC):=⟨H2.o.1,H2.o.2.1⟩;clear h46 h63 hxi H2;go_wp2_with fail;go_roundw
          case rel=>exact⟨j,bs[i].e.one.1,i,m2,q2,by rw[HJ.o];go_num,rfl,rfl,by omega,h1n,by omega,by omega,⟨.inr ⟨i,rfl⟩,HN.o⟩,H6⟩
          case measure=>simp[intOf];try omega
theorem QdA{B:Nat}{u v:World}(F:Below B u v)(n:Nat):Below B u (v.drewN n):=⟨F.os,F.tape,F.output,F.size,F.block⟩
theorem Qjr(n:Int)(w:World):Calls prog 8 #[.int .i64 n] w fun e w'=>e=.returned (.int .i64 n)∧w'=w:=by
 go_enter func8,ntmps8;go_wp2_with fail;go_ret;exact⟨rfl,rfl⟩
theorem QkH(l:List Int)(B1 B2:Nat)(va vb:Value)(w:World)(ha:w.ownsRow B1 3 1 va l.length (Xa l))(hb:w.ownsRow B2 3 1 vb l.length (Xa l))(hl:l.length≤100000000000):
  Calls prog 33 #[va,vb] w fun e w'=>e=.returned (.bool true)∧Below w.heap.size w w':=by
 obtain⟨pa,ca,rfl⟩:=Qa ha;obtain⟨pb,cb,rfl⟩:=Qa hb;have HA:=Qc ha;have HB:=Qc hb;clear ha hb;go_enter func33,ntmps33;go_wp2_with fail
 go_loopw [5] (fun i wr=>∃k:Nat,k≤l.length∧i=.int .i64 k∧Hid (Below w.heap.size w wr)) (fun i _=>l.length-(intOf i).toNat)
 case atStart=>exact⟨0,by omega,rfl,Below.refl _ _⟩
 case round=>
  obtain⟨k,hk,rfl,F⟩:=hrel;rename World=>wA;by_cases hlt:k<l.length
  ·have O1:=Qd HA.o (Qh F.o) trivial;have O2:=Qd HB.o (Qh F.o) trivial;obtain⟨g1,rfl,_,_⟩:=Qk O1 (by omega);obtain⟨g2,rfl,_,_⟩:=Qk O2 (by omega);have c1:=Qf O1 (Kw hlt);have c2:=Qf O2 (Kw hlt);have hd:(l[k] != l[k])=false:=by simp
   clear O1 O2;go_wp2_with fail
   go_quiet (fail)
   have F2:=Qc (QdA F.o nq);go_wp2_with fail;go_roundw
   case rel=>exact⟨k+1,by omega,by go_num,F2⟩
   case measure=>simp[intOf];omega
  ·go_wp2_with fail;go_ret;exact⟨rfl,F.o⟩
theorem Qkg(bs cs:List Qm)(B1 B2:Nat)(v u:Value)(w:World)(h1:QR w B1 bs v)(h2:QR w B2 cs u)(hl:bs.length≤1000)(hn:bs.length=cs.length)
  (he:∀i (hi:i<bs.length)(hj:i<cs.length),bs[i].e.op=cs[i].e.op∧bs[i].e.one.1=cs[i].e.one.1∧bs[i].e.two.1=cs[i].e.two.1):
  Calls prog 12 #[v,u] w fun e w'=>e=.returned (.bool true)∧Below w.heap.size w w':=by
 obtain⟨pv,cv,rfl⟩:=h1.slice;obtain⟨pu,cu,rfl⟩:=h2.slice;have H1:=Qc h1;have H2:=Qc h2;have HN:=Qc hn;have HE:=Qc he;rw[←hn];clear h1 h2 hn he;go_enter func12,ntmps12;go_wp2_with fail
 go_loopw [5] (fun i wr=>∃k:Nat,k≤bs.length∧i=.int .i64 k∧Hid (Below w.heap.size w wr)) (fun i _=>bs.length-(intOf i).toNat)
 case atStart=>exact⟨0,by omega,rfl,Below.refl _ _⟩
 case round=>
  obtain⟨k,hk,rfl,F⟩:=hrel;rename World=>wA;by_cases hlt:k<bs.length
  ·have hlt2:k<cs.length:=by have:=HN.o;omega
   obtain⟨g,qc,cc,ps,c1,rfl,_,hg,_,_,hcl⟩:=H1.o.at hlt;obtain⟨e1,e2,e3⟩:=HE.o k hlt hlt2;have hb:∀(o:Nat)(x:Value),(XS (.slice qc bs[k].chs.length cc) (.slice ps bs[k].sts.length c1) bs[k].e bs[k].at_)[o]?=some x→wA.cell? ⟨g,k*10+o,none⟩=some x:=fun o x h=>(F.o.cell (p:=⟨g,k*10+o,none⟩) hg).trans (hcl o x h);have d2:=hb 2 _ rfl;have d3:=hb 3 _ rfl;have d4:=hb 4 _ rfl;have d5:=hb 5 _ rfl;have d6:=hb 6 _ rfl;have d7:=hb 7 _ rfl;have d8:=hb 8 _ rfl;obtain⟨g',qc',cc',ps',c1',rfl,_,hg',_,_,hcl'⟩:=H2.o.at hlt2;have hb':∀(o:Nat)(x:Value),(XS (.slice qc' cs[k].chs.length cc') (.slice ps' cs[k].sts.length c1') cs[k].e cs[k].at_)[o]?=some x→wA.cell? ⟨g',k*10+o,none⟩=some x:=fun o x h=>(F.o.cell (p:=⟨g',k*10+o,none⟩) hg').trans (hcl' o x h);have c2:=hb' 2 _ rfl;have c3:=hb' 3 _ rfl;have c4:=hb' 4 _ rfl;have c5:=hb' 5 _ rfl;have c6:=hb' 6 _ rfl;have c7:=hb' 7 _ rfl;have c8:=hb' 8 _ rfl;rw[←e1]at c2;rw[←e2]at c5;rw[←e3]at c7;clear hcl hcl' hb hb' e1 e2 e3;have hz:=F.o.size;have hgz:g<wA.heap.size:=QH hg hz;have hgz':g'<wA.heap.size:=QH hg' hz;have F2:=Qc ((F.o.alloc hz (.cells #[.int .u8 bs[k].e.op,.int .i64 bs[k].e.a.1,.int .i64 bs[k].e.a.2,.int .i64 bs[k].e.one.1,.int .i64 bs[k].e.one.2,.int .i64 bs[k].e.two.1,.int .i64 bs[k].e.two.2] 51)).alloc (by rw[Qt];omega) (.cells #[.int .u8 bs[k].e.op,.int .i64 cs[k].e.a.1,.int .i64 cs[k].e.a.2,.int .i64 bs[k].e.one.1,.int .i64 cs[k].e.one.2,.int .i64 bs[k].e.two.1,.int .i64 cs[k].e.two.2] 51));go_wp2_with fail;go_roundw
   case rel=>exact⟨k+1,by omega,by go_num,F2⟩
   case measure=>simp[intOf];omega
  ·go_wp2_with fail;go_ret;exact⟨rfl,F.o⟩
theorem Qka(l m:Value)(p:Option Addr)(n c:Nat)(fu:Int)(w:World)(hout:20<n∨fu<0∨300<fu):
  Calls prog 13 #[l,m,.slice p n c,.int .i64 fu] w fun e w'=>e=.returned (.bool true)∧Below w.heap.size w w':=by
 by_cases h1:20<n
 ·have hd:decide ((20:Int)<(n:Int))=true:=by simp;omega
  go_enter func13,ntmps13;go_wp2_with fail;go_ret;exact⟨rfl,Below.refl _ _⟩
 ·have hd:decide ((20:Int)<(n:Int))=false:=by simp;omega
  by_cases h2:fu<0
  ·have hd2:decide (fu<0)=true:=by simpa using h2
   go_enter func13,ntmps13;go_wp2_with fail;go_ret;exact⟨rfl,Below.refl _ _⟩
  ·have hd2:decide (fu<0)=false:=by simpa using h2
   have hd3:decide ((300:Int)<fu)=true:=by simp;omega
   go_enter func13,ntmps13;go_wp2_with fail;go_ret;exact⟨rfl,Below.refl _ _⟩
structure Qgj(bs:List Qm):Prop where
 pos:0<bs.length
 fine:∀b∈bs,QU 1000000 b
 cs:∀b∈bs,b.chs.length+b.sts.length≤100000
 gl:∀b∈bs,∀c∈b.chs,c.gs.length≤1000
 op:∀b∈bs,∀t∈b.sts,t.op<256
 nx:∀b∈bs,b.e.op<256∧(b.e.op≠46→b.e.one.1<bs.length)∧(b.e.op=63→b.e.two.1<bs.length)
theorem QcX(bs:List ABk)(V:List Int)(f:Nat)(N:Nat)(hN:∀b∈bs,b.sts.length≤N):(playA bs V f).1.length≤f*N:=by
 suffices h:∀k i fm m,(plA bs k i fm m).1.length≤m.out.length+k*N from by
  have:=h f 0 (-1) ⟨fun _=>0,V,[]⟩;simp at this;exact this
 have hst:∀(l:List ASt)(m:Mac),(Yi l m).out.length≤m.out.length+l.length:=by
  intro l
  induction l with
  | nil=>intro m;exact Qi _
  | cons t l ih=>intro m;rw[V6];have h1:=ih (stA t m);have h2:=Rj t m;rw[QO];omega
 have hb:∀i,(bkA bs i).sts.length≤N:=by
  intro i;unfold bkA;by_cases hi:i<bs.length
  ·rw[Zl hi];exact hN _ (Qx _)
  ·rw[ZI (by omega)];exact Nat.zero_le _
 intro k
 induction k with
 | zero=>intro i fm m;rw[plA];exact Nat.le_add_right _ _
 | succ k ih=>
  intro i fm m;have h1:(blA (bkA bs i) fm m).out.length≤m.out.length+N:=by
   unfold blA;have h2:=hst (bkA bs i).sts (entA (bkA bs i) fm m);rw[QfH]at h2;have:=hb i;omega
  rw[plA,Nat.succ_mul];split
  ·show (blA (bkA bs i) fm m).out.length≤_;omega
  ·have:=ih (nxA (bkA bs i) (blA (bkA bs i) fm m)) i (blA (bkA bs i) fm m);omega
theorem Qkb(bs cs:List Qm)(B1 B2:Nat)(vl vm vi:Value)(V:List Int)(f:Nat)(w:World)(h1:QR w B1 bs vl)(h2:QR w B2 cs vm)(hi:InA vi V w)(hV:V.length≤20)(hf:f≤300)(k1:Qgj bs)(k2:Qgj cs)(he:playA (absP bs) V f=playA (absP cs) V f):
  Calls prog 13 #[vl,vm,vi,.int .i64 f] w fun e w'=>e=.returned (.bool true)∧Below w.heap.size w w':=by
 have hol:(playA (absP bs) V f).1.length≤100000000:=by
  have:=QcX (absP bs) V f 100000 (fun b hb=>by
   obtain⟨c,hc,rfl⟩:=Qv.1 hb;have:=k1.cs c hc;show (c.sts.map QK).length≤_;rw[List.length_map];omega)
  omega
 have HR1:=Qc (Qix bs B1 vl vi V f w h1 hi hV hf k1.pos k1.fine k1.cs k1.gl k1.op k1.nx);have HR2:Hid (∀w',Below w.heap.size w w'→Calls prog 32 #[vm,vi,.int .i64 f] w' fun x w''=>∃v,x=.returned (.tuple #[v,.int .i64 (playA (absP bs) V f).2])∧Hid (w''.ownsRow w'.heap.size 3 1 v (playA (absP bs) V f).1.length (Xa (playA (absP bs) V f).1)∧Below w'.heap.size w' w'')):=fun w' F=>by
  rw[he];exact Qix cs B2 vm vi V f w' (h2.keeps (Qh F) trivial trivial trivial trivial trivial) (hi.keeps F) hV hf k2.pos k2.fine k2.cs k2.gl k2.op k2.nx
 obtain⟨pi,ci,rfl,hci,_⟩:=hi;clear he h1 h2 k1 k2;generalize playA (absP bs) V f=R at *;go_enter func13,ntmps13;go_wp2_with fail;refine HR1.o.mono ?_;rintro x w1 ⟨v1,rfl,H1⟩;obtain⟨p1,c1,rfl⟩:=Qa H1.o.1;go_wp2_with fail;refine(HR2.o w1 H1.o.2).mono ?_;rintro x w2 ⟨v2,rfl,H2⟩;obtain⟨p2,c2,rfl⟩:=Qa H2.o.1;go_wp2_with fail;refine(QkH R.1 w.heap.size w1.heap.size _ _ w2 (Qd H1.o.1 (Qh H2.o.2) trivial) H2.o.1 (by omega)).mono ?_;rintro x w3 ⟨rfl,f3⟩;have F3:=H1.o.2.trans ((H2.o.2.trans (f3.mono H2.o.2.size)).mono H1.o.2.size);clear f3 HR1 HR2;go_wp2_with fail;go_ret;exact⟨rfl,F3⟩
theorem Qku{t:Qz}(h:OkS (QK t)):t.op<256:=by
 unfold QK at h;by_cases h1:t.op=118
 ·omega
 rw[if_neg h1]at h;by_cases h2:t.op=99
 ·omega
 rw[if_neg h2]at h;by_cases h3:t.op=33
 ·omega
 rw[if_neg h3]at h;by_cases h4:t.op=63
 ·omega
 rw[if_neg h4]at h;obtain⟨ho,_⟩:=h;omega
theorem QdP{α:Type}(f:α→Nat):∀(l:List α),∀x∈l,f x≤(l.map f).sum
 | [],x,h=>absurd h (by simp)
 | y::l,x,h=>by
  rw[List.map_cons,List.sum_cons];rcases List.mem_cons.1 h with rfl|h
  ·omega
  ·have:=QdP f l x h;omega
structure Rdd(s:ByteArray):Prop where
 jp:JP (Qu s).bs s.size
 rd:J5 (Qu s).bs
theorem Qee{s:ByteArray}(h:(rdF s).e=0):Q9 s<0:=by
 unfold rdF at h;by_cases h1:200000<s.size
 ·rw[if_pos h1]at h;cases h
 rw[if_neg h1]at h;by_cases h2:0≤Q9 s
 ·rw[if_pos h2]at h;cases h
 omega
theorem Ve{s:ByteArray}(h:(rdF s).e=0):Rdd s:=by
 obtain⟨_,h1,h2,h3⟩:=rd0 h;refine⟨Qjl (Qee h),h1,h2,h3,fun b hb c hc=>(((WG h).1 b hb).ch c hc).2.1,(Qg9 h).2⟩
theorem Rdd.w{s:ByteArray}(h:Rdd s):∀b∈(Qu s).bs,4*b.sts.length+chW b.chs≤s.size:=fun b hb=>by
 have h1:=h.jp.w;have h2:=QdP blW _ b hb;unfold bsW at h1;unfold blW at h1 h2;omega
theorem Qj2(l:List Q0):3*l.length≤chW l:=by
 induction l with
 | nil=>exact Qi _
 | cons c l ih=>
  have e:chW (c::l)=3+5*c.gs.length+chW l:=by simp[chW]
  rw[e,QO];omega
theorem Rdd.play{s:ByteArray}(h:Rdd s)(h0:(rdF s).e=0):Qgj (Qu s).bs:=by
 have hs:=(Qg9 h0).1;refine⟨h.rd.pos,(WG h0).1,fun b hb=>?_,(WG h0).2.2,fun b hb t ht=>Qku (h.jp.st b hb t ht).1,fun b hb=>?_⟩
 ·have h1:=h.w b hb;have h2:=Qj2 b.chs;omega
 ·have he:=h.jp.e b hb;have hg:=h.rd.goals b hb;rcases he with he|he|he
  ·have e:b.e.op=46:=he.1;exact⟨by omega,fun h=>absurd e h,fun h=>by omega⟩
  ·have e:b.e.op=62:=he.1;refine⟨by omega,fun _=>hg b.e.one ?_,fun h=>by omega⟩;unfold goalsF;rw[if_pos e];simp
  ·have e:b.e.op=63:=he.1;refine⟨by omega,fun _=>hg b.e.one ?_,fun _=>hg b.e.two ?_⟩
   ·unfold goalsF;rw[if_neg (by omega),if_pos e];simp
   ·unfold goalsF;rw[if_neg (by omega),if_pos e];simp
end Go.Proofs.YtgfhfkgdmidhpaaGreatDoor
