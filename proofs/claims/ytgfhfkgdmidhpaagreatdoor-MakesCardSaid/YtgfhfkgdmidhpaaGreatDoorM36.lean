import Derived.Test.YtgfhfkgdmidhpaaGreatDoorM35
namespace Go.Proofs.YtgfhfkgdmidhpaaGreatDoor
open Go.RowKit Go.Maps
open Go.Proofs.Tryz
set_option maxRecDepth 100000
set_option maxHeartbeats 8000000
theorem QhH{bs:List Qm}(hr:J5 bs){b:Nat}(h:¬Cm (absP bs) b):WK (suF bs) bs.length b=none:=by
 cases hk:WK (suF bs) bs.length b with
 | none=>rfl
 | some k=>
  have h1:=List.find?_some hk;rw[QbX,Bool.and_eq_true,KC,Bool.and_eq_true]at h1;exact absurd ((Jt hr).1 h1.1.2).1 h
theorem QeW{bs:List Qm}{b r k:Nat}(hk:k<(bkF bs b).sts.length):((bkA (absP bs) b).sts[k]?.bind gvS=some r)↔(isG (bkF bs b).sts[k]=true∧(bkF bs b).sts[k].to.1=r):=by
 rw[QX];show (((bkF bs b).sts.map QK)[k]?.bind gvS=some r)↔_;rw[List.getElem?_map,Zl hk];show gvS (QK (bkF bs b).sts[k])=some r↔_;rw[K4];unfold isG;by_cases h33:(bkF bs b).sts[k].op=33
 ·simp[h33]
 ·simp[h33]
theorem Ka(bs:List Qm)(b:Nat):(bkA (absP bs) b).sts.length=(bkF bs b).sts.length:=by
 rw[QX];exact List.length_map _
def V0(bs:List Qm)(f:Nat→List Nat)(b k r:Nat)(w:World)(x:Ending)(w':World):Prop:=∃n:Nat,x=.returned (.int .i64 n)∧Hid (Nam (absP bs) (mkD bs f) b k r n∧Below w.heap.size w w')
theorem Qf9(bs:List Qm)(f:Nat→List Nat)(b r mb base B Bn Bc:Nat)(v va vu vah vnd vch vgi:Value)(w:World)(hM:MkF bs f mb base B Bn Bc v va vu vah vnd vch vgi w)(hb:b<bs.length)(hN:Hid (Calls prog 138 #[.pointer (some ⟨mb,0,none⟩),.int .i64 b,.int .i64 (bkF bs b).sts.length,.int .i64 r] w (V0 bs f b (bkF bs b).sts.length r w))):
  Calls prog 136 #[.pointer (some ⟨mb,0,none⟩),.int .i64 b,.int .i64 r] w (V0 bs f b (bkF bs b).sts.length r w):=by
 obtain⟨⟨pv,cv,rfl⟩,_,_⟩:=hM.m.g.form;obtain⟨gv,qc,cc,ps,cs1,rfl,_,_,_,_,_,d0,d1,d2,d3⟩:=hM.m.g.p.at hb;have m3:=Qb hM.m.b 3;simp at m3;have HBK:Hid (bkF bs b=bs[b]):=Zj hb;rw[HBK.o]at hN;have HN:=hN;clear hN hM;rw[HBK.o];obtain⟨T,x,hT⟩:=QQ bs[b].e;rw[hT]at d3;clear hT;go_enter func136,ntmps136;go_wp2_with fail;refine HN.o.mono ?_;rintro e w2 ⟨n,rfl,H2⟩;go_wp2_with fail;go_ret;exact⟨n,rfl,H2⟩
theorem QiC(bs:List Qm)(f:Nat→List Nat)(mb base B Bn Bc:Nat)(v va vu vah vnd vch vgi:Value)(hr:Hid (J5 bs))(hf:Hid (∀b∈bs,QU 1000000 b))(hn:bs.length≤12):∀(d b k r:Nat)(w:World),b<bs.length→(Cm (absP bs) b→∃d',d'≤d∧Wu (suA (absP bs)) d' b)→k≤(bkF bs b).sts.length→r<10000→MkF bs f mb base B Bn Bc v va vu vah vnd vch vgi w →
  Calls prog 138 #[.pointer (some ⟨mb,0,none⟩),.int .i64 b,.int .i64 k,.int .i64 r] w (V0 bs f b k r w):=by
 intro d
 induction d using Nat.strongRecOn with
 | _ d ih=>
  intro b k r w hb hR hk hr1 hM;have HIH:=Qc ih;have HR:=Qc hR;obtain⟨⟨pv,cv,rfl⟩,⟨pa,ca,rfl⟩,pu,cu,rfl⟩:=hM.m.g.form;obtain⟨pc,cc,rfl⟩:=hM.ch.slice;obtain⟨pg,cg,rfl⟩:=hM.gi.slice;have HM:=Qc hM;have HBK:Hid (bkF bs b=bs[b]):=Zj hb;have hsl:(bkF bs b).sts.length≤1000000:=by rw[HBK.o];exact(hf.out _ (Qx hb)).sl
  clear ih hR hM;go_enter func138,ntmps138;go_wp2_with fail;have H0:Hid (ZY (bkA (absP bs) b).sts r k=ZY (bkA (absP bs) b).sts r k∧Below w.heap.size w w):=⟨rfl,Below.refl _ _⟩
  go_loopw [9] (fun j wr=>∃t:Nat,t≤k∧j=.int .i64 ((t:Int)-1)∧Hid (ZY (bkA (absP bs) b).sts r k=ZY (bkA (absP bs) b).sts r t∧Below w.heap.size w wr)) (fun j _=>(intOf j+1).toNat)
  case atStart=>exact⟨k,by omega,rfl,H0⟩
  case round=>
   clear H0;obtain⟨t,ht,rfl,HI⟩:=hrel;rename World=>wA;have MA:=HM.o.keeps HI.o.2;have m3:=Qb MA.m.b 3;have m6:=Qb MA.m.b 6;have m7:=Qb MA.m.b 7;simp at m3 m6 m7;have HMA:=Qc MA;clear MA;rcases Nat.eq_zero_or_pos t with rfl|ht0
   ·have HLN:Hid (ZY (bkA (absP bs) b).sts r k=none):=HI.o.1;obtain⟨gc,bb,kk,rfl,cc0,cm⟩:=HMA.o.ch.at hb;have hlk:=cm.ok hr1;have HCM:Hid (chN bs f b r=if r∈f b then some (cntN bs f b+(f b).idxOf r+1) else none):=rfl;clear cm;obtain⟨hh,hhh⟩:∃hh,hh=QD (f b) r:=⟨_,rfl⟩;rw[←hhh]at hlk;have HHH:=Qc hhh;clear hhh
    cases hh with
    | true=>
     have hmem:r∈f b:=Ze.1 HHH.o.symm;rw[if_pos hmem]at hlk;have HE:Hid (Nam (absP bs) (mkD bs f) b k r (cntN bs f b+(f b).idxOf r+1)∧Below w.heap.size w wA):=⟨.ch HLN.o (by show chN bs f b r=_;rw[HCM.o,if_pos hmem]),HI.o.2⟩;clear hmem HI;go_wp2_with fail;go_ret;exact⟨_,rfl,HE⟩
    | false=>
     have hmem:r∉f b:=fun h=>by have:=Ze.2 h;rw[←HHH.o]at this;cases this
     rw[if_neg hmem]at hlk;have HCN:Hid (chN bs f b r=none):=by show chN bs f b r=none;rw[HCM.o,if_neg hmem]
     have m0:=Qb HMA.o.m.b 0;have m1:=Qb HMA.o.m.b 1;have m2:=Qb HMA.o.m.b 2;simp at m0 m1 m2;clear hmem;go_wp2_with fail;clear m0 m1 m2 m3 m6 m7 hlk cc0;refine(QhI bs B b pv cv _ _ wA ⟨_,_,_,rfl⟩ HMA.o.m.g.u hb (by omega)).mono ?_;rintro e w5 ⟨hx,f5⟩;have F5:=Qc (HI.o.2.trans (f5.mono HI.o.2.size));have HM5:=Qc (HMA.o.keeps f5);clear f5 HI HMA;rcases hx with ⟨a,ha,rfl⟩|⟨ha,rfl⟩
     ·have HA:Hid (a<bs.length∧∃d1,d1<d∧Wu (suA (absP bs)) d1 a):=by
       have hCm:Cm (absP bs) b:=Classical.byContradiction fun hc=>by rw[QhH hr.out hc]at ha;cases ha
       obtain⟨d0,hd0,hrn⟩:=HR.o hCm;obtain⟨h1,h2,_⟩:=(QeY hr.out).one hCm ha;obtain⟨d1,hd1,hr2⟩:=V8 hrn h2 h1;exact⟨((KT bs noB a).1 h2.up).lt hr.out.pos (XB hr.out.goals),d1,by omega,hr2⟩
      have HKA:Hid ((mkD bs f).kp b=some a):=ha;have han:=HA.o.1;have HC:Hid (Calls prog 136 #[.pointer (some ⟨mb,0,none⟩),.int .i64 a,.int .i64 r] w5 (V0 bs f a (bkF bs a).sts.length r w5)):=by
       obtain⟨_,d1,hd1,hrn⟩:=HA.o;exact Qf9 bs f a r mb base B Bn Bc _ _ _ vah vnd _ _ w5 HM5.o han (HIH.o d1 hd1 a _ r w5 han (fun _=>⟨d1,Qi _,hrn⟩) (Qi _) hr1 HM5.o)
      clear ha HM5;go_wp2_with fail;refine HC.o.mono ?_;rintro e w6 ⟨n,rfl,H6⟩;have HE:Hid (Nam (absP bs) (mkD bs f) b k r n∧Below w.heap.size w w6):=by
       refine⟨.up HLN.o HCN.o HKA.o ?_,F5.o.trans (H6.o.2.mono F5.o.size)⟩;rw[Ka];exact H6.o.1
      clear H6 HC;go_wp2_with fail;go_ret;exact⟨n,rfl,HE⟩
     ·have HE:Hid (Nam (absP bs) (mkD bs f) b k r 0∧Below w.heap.size w w5):=⟨.zr HLN.o HCN.o ha,F5.o⟩;clear ha HM5;go_wp2_with fail;go_ret;exact⟨0,rfl,HE⟩
   ·obtain⟨q,rfl⟩:∃q,t=q+1:=⟨t-1,by omega⟩;have ej:((q+1:Nat):Int)-1=(q:Int):=by omega
    rw[ej];clear ej ht0;have hq:q<(bkF bs b).sts.length:=by omega
    obtain⟨gv,qc,cc2,ps,cs1,rfl,_,_,_,_,OS,d0,d1,d2,d3⟩:=HMA.o.m.g.p.at hb;rw[←HBK.o]at OS d2;obtain⟨gs,rfl,_,_⟩:=Qk OS (by omega);obtain⟨T2,x2,fr,fg,hsv,_,_,_,hgm,hgt,hgc⟩:=Ns (bkF bs b).sts[q];have cS:=Qf OS (j:=q) (u:=.iface T2 x2) (by rw[←hsv];simp[hq]);have HG:=Qc (And.intro hgm (And.intro hgt hgc));have HLA:=Qc (QeW (bs:=bs) (b:=b) (r:=r) hq);obtain⟨gg,pgi,cgi,rfl,gc0,gio⟩:=HMA.o.gi.at hb;have hgl:=Qca bs f b;obtain⟨ggi,rfl,_,_⟩:=Qk gio (by omega);have gc1:=Qf gio (QY (show q<(giL bs f b).length by omega));rw[Qfz]at gc1;clear hsv hgm hgt hgc OS d0 d1 d3 gio;generalize (bkF bs b).sts[q]=tt at *;go_wp2_with fail;rw[HG.o.1,Result.andThen_ok];simp only[HG.o.2.1];unfold Oper.upon;refine(HG.o.2.2 _).mono ?_;rintro e w4 ⟨rfl,f4⟩;have F4:=Qc (HI.o.2.trans (f4.mono HI.o.2.size));have m7':=(f4.cell (p:=⟨mb,7,none⟩) (lt_of_block HMA.o.m.b)).trans m7;have gc0':=(f4.cell (p:=⟨gg,b,none⟩) (Zh _ _ gc0)).trans gc0;have gc1':=(f4.cell (p:=⟨ggi,q,none⟩) (Zh _ _ gc1)).trans gc1;have hmb4:=lt_of_block HMA.o.m.b;have hgg4:gg<wA.heap.size:=Zh _ _ gc0;have hgi4:ggi<wA.heap.size:=Zh _ _ gc1;have s4:=f4.size;have HLI:=Qc HI.o.1;clear f4 cS HG m3 m6 m7 gc0 gc1 d2 HI HMA;by_cases h33:tt.op=33
    ·rw[if_pos h33,show (tt.op != 33)=false by simp[h33]];have FB:=(Below.refl w4.heap.size w4).alloc (Qi _) (.cells #[.int .i64 0,.int .i64 0] 132);have HN:Hid (ZY (bkA (absP bs) b).sts r k=ZY (bkA (absP bs) b).sts r q∧Below w.heap.size w (w4.alloc (.cells #[.int .i64 0,.int .i64 0] 132))):=by
      refine⟨?_,F4.o.trans (FB.mono F4.o.size)⟩;rw[HLI.o,ZY,if_neg];intro e;have:=HLA.o.1 e;simp[isG,h33]at this
     clear FB h33;go_wp2_with fail;go_roundw
     case rel=>exact⟨q,by omega,by go_num,HN⟩
     case measure=>simp[intOf]<;>omega
    ·rw[if_neg h33,show (tt.op != 33)=true by simp[h33]];have FB:=(Below.refl w4.heap.size w4).alloc (Qi _) (.cells #[.int .i64 tt.to.1,.int .i64 tt.to.2] 132);by_cases hto:tt.to.1=r
     ·have hd:((tt.to.1:Int)==(r:Int))=true:=by simp;omega
      have HE:Hid (Nam (absP bs) (mkD bs f) b k r (giN bs f b q)∧Below w.heap.size w (w4.alloc (.cells #[.int .i64 tt.to.1,.int .i64 tt.to.2] 132))):=by
       refine⟨.st (j:=q) ?_,F4.o.trans (FB.mono F4.o.size)⟩;rw[HLI.o,ZY,if_pos (HLA.o.2 ⟨by simp[isG,h33],hto⟩)]
      have m8:=(FB.cell (p:=⟨mb,7,none⟩) (by show mb<_;omega)).trans m7';have g8:=(FB.cell (p:=⟨gg,b,none⟩) (by show gg<_;omega)).trans gc0';have g9:=(FB.cell (p:=⟨ggi,q,none⟩) (by show ggi<_;omega)).trans gc1';clear FB h33 hto m7' gc0' gc1';go_wp2_with fail;go_ret;exact⟨_,rfl,HE⟩
     ·have hd:((tt.to.1:Int)==(r:Int))=false:=by simp;omega
      have HN:Hid (ZY (bkA (absP bs) b).sts r k=ZY (bkA (absP bs) b).sts r q∧Below w.heap.size w (w4.alloc (.cells #[.int .i64 tt.to.1,.int .i64 tt.to.2] 132))):=by
       refine⟨?_,F4.o.trans (FB.mono F4.o.size)⟩;rw[HLI.o,ZY,if_neg];intro e;exact hto (HLA.o.1 e).2
      clear FB h33 hto m7' gc0' gc1';go_wp2_with fail;go_roundw
      case rel=>exact⟨q,by omega,by go_num,HN⟩
      case measure=>simp[intOf]<;>omega
def OfC(I:World→Prop)(C:Value)(g:Nat→Nat):Prop:=(∀w w':World,I w→Below w.heap.size w w'→I w')∧∀(r a:Nat)(w:World),r<10000→I w→Calls prog 289 #[C,.agg #[.int .i64 r,.int .i64 a]] w fun e w'=>e=.returned (.agg #[.int .i64 (g r),.int .i64 0])∧Below w.heap.size w w'
theorem QgO(I:World→Prop)(C1 C2:Value)(g1 g2:Nat→Nat)(t ta:Nat)(v:Int)(w:World)(h:I w)(_hc1:Hid (OfC I C1 g1))(hc2:Hid (OfC I C2 g2))(h1:t<10000):
  Calls prog 297 #[.agg #[.int .i64 t,.int .i64 ta,.int .i64 v],C1,C2] w fun e w'=>e=.returned (.iface 177 (.agg #[.int .i64 (g2 t),.int .i64 0,.int .i64 v]))∧Below w.heap.size w w':=by
 have H:=Qc h;clear h;go_enter func297,ntmps297;go_wp2_with fail;have F1:=Qc ((Below.refl w.heap.size w).alloc (Qi _) (.cells #[.int .i64 t,.int .i64 ta,.int .i64 v] 177));have gg1:=heap_alloc_last w (.cells #[.int .i64 t,.int .i64 ta,.int .i64 v] 177);have sW:w.heap.size<(w.alloc (.cells #[.int .i64 t,.int .i64 ta,.int .i64 v] 177)).heap.size:=by rw[Qt];omega
 generalize w.alloc (.cells #[.int .i64 t,.int .i64 ta,.int .i64 v] 177)=W at *;have k0:=Qb gg1 0;have k1:=Qb gg1 1;have k2:=Qb gg1 2;simp at k0 k1 k2;clear gg1
 go_region_held (fun w'=>w'.cell? ⟨w.heap.size,0,none⟩=some (.int .i64 t)∧w'.cell? ⟨w.heap.size,1,none⟩=some (.int .i64 ta)∧w'.cell? ⟨w.heap.size,2,none⟩=some (.int .i64 v)) (simp[*])
  (first | (go_at_call 289;refine(hc2.out.2 t ta W.drew h1 (hc2.out.1 _ _ H.o (VR F1.o))).mono ?_;rintro e v0 ⟨rfl,f⟩;have f':=Jy f;have y00:=(f'.cell (p:=⟨w.heap.size,0,none⟩) sW).trans k0;have y01:=(f'.cell (p:=⟨w.heap.size,1,none⟩) sW).trans k1;have y02:=(f'.cell (p:=⟨w.heap.size,2,none⟩) sW).trans k2;have O0:=Qc (F1.o.trans (f'.mono (Nat.le_of_lt sW)));have s0:=f'.size;clear f f'))
 all_goals
  go_wp2_with fail;go_ret;exact⟨rfl,O0.o⟩
theorem QgN(I:World→Prop)(C1 C2:Value)(g1 g2:Nat→Nat)(t ta:Nat)(w:World)(h:I w)(_hc1:Hid (OfC I C1 g1))(hc2:Hid (OfC I C2 g2))(h1:t<10000):
  Calls prog 305 #[.agg #[.int .i64 t,.int .i64 ta],C1,C2] w fun e w'=>e=.returned (.iface 272 (.agg #[.int .i64 (g2 t),.int .i64 0]))∧Below w.heap.size w w':=by
 have H:=Qc h;clear h;go_enter func305,ntmps305;go_wp2_with fail;have F1:=Qc ((Below.refl w.heap.size w).alloc (Qi _) (.cells #[.int .i64 t,.int .i64 ta] 272));refine(hc2.out.2 t ta (w.alloc (.cells #[.int .i64 t,.int .i64 ta] 272)) h1 (hc2.out.1 _ _ H.o F1.o)).mono ?_;rintro e v0 ⟨rfl,f⟩;have O0:=Qc (F1.o.trans (f.mono F1.o.size));clear f;go_wp2_with fail;go_ret;exact⟨rfl,O0.o⟩
theorem Qi8(I:World→Prop)(C1 C2:Value)(g1 g2:Nat→Nat)(t ta:Nat)(w:World)(h:I w)(hc1:Hid (OfC I C1 g1))(_hc2:Hid (OfC I C2 g2))(h1:t<10000):
  Calls prog 317 #[.agg #[.int .i64 t,.int .i64 ta],C1,C2] w fun e w'=>e=.returned (.iface 315 (.agg #[.int .i64 (g1 t),.int .i64 0]))∧Below w.heap.size w w':=by
 have H:=Qc h;clear h;go_enter func317,ntmps317;go_wp2_with fail;have F1:=Qc ((Below.refl w.heap.size w).alloc (Qi _) (.cells #[.int .i64 t,.int .i64 ta] 315));refine(hc1.out.2 t ta (w.alloc (.cells #[.int .i64 t,.int .i64 ta] 315)) h1 (hc1.out.1 _ _ H.o F1.o)).mono ?_;rintro e v0 ⟨rfl,f⟩;have O0:=Qc (F1.o.trans (f.mono F1.o.size));clear f;go_wp2_with fail;go_ret;exact⟨rfl,O0.o⟩
theorem QgR(I:World→Prop)(C1 C2:Value)(g1 g2:Nat→Nat)(t ta a aa o b ba:Nat)(w:World)(h:I w)(hc1:Hid (OfC I C1 g1))(hc2:Hid (OfC I C2 g2))(h1:t<10000)(h2:a<10000)(h3:b<10000):
  Calls prog 326 #[.agg #[.int .i64 t,.int .i64 ta,.int .i64 a,.int .i64 aa,.int .i64 o,.int .i64 b,.int .i64 ba],C1,C2] w fun e w'=>e=.returned (.iface 370 (.agg #[.int .i64 (g2 t),.int .i64 0,.int .i64 (g1 a),.int .i64 0,.int .i64 o,.int .i64 (g1 b),.int .i64 0]))∧Below w.heap.size w w':=by
 have H:=Qc h;clear h;go_enter func326,ntmps326;go_wp2_with fail;have F1:=Qc ((Below.refl w.heap.size w).alloc (Qi _) (.cells #[.int .i64 t,.int .i64 ta,.int .i64 a,.int .i64 aa,.int .i64 o,.int .i64 b,.int .i64 ba] 370));have gg1:=heap_alloc_last w (.cells #[.int .i64 t,.int .i64 ta,.int .i64 a,.int .i64 aa,.int .i64 o,.int .i64 b,.int .i64 ba] 370);have sW:w.heap.size<(w.alloc (.cells #[.int .i64 t,.int .i64 ta,.int .i64 a,.int .i64 aa,.int .i64 o,.int .i64 b,.int .i64 ba] 370)).heap.size:=by rw[Qt];omega
 generalize w.alloc (.cells #[.int .i64 t,.int .i64 ta,.int .i64 a,.int .i64 aa,.int .i64 o,.int .i64 b,.int .i64 ba] 370)=W at *;have k0:=Qb gg1 0;have k1:=Qb gg1 1;have k2:=Qb gg1 2;have k3:=Qb gg1 3;have k4:=Qb gg1 4;have k5:=Qb gg1 5;have k6:=Qb gg1 6;simp at k0 k1 k2 k3 k4 k5 k6;clear gg1
 go_region_held (fun w'=>w'.cell? ⟨w.heap.size,0,none⟩=some (.int .i64 t)∧w'.cell? ⟨w.heap.size,1,none⟩=some (.int .i64 ta)∧w'.cell? ⟨w.heap.size,2,none⟩=some (.int .i64 a)∧w'.cell? ⟨w.heap.size,3,none⟩=some (.int .i64 aa)∧w'.cell? ⟨w.heap.size,4,none⟩=some (.int .i64 o)∧w'.cell? ⟨w.heap.size,5,none⟩=some (.int .i64 b)∧w'.cell? ⟨w.heap.size,6,none⟩=some (.int .i64 ba)) (simp[*])
  (first | (go_at_call 289;refine(hc2.out.2 t ta W.drew h1 (hc2.out.1 _ _ H.o (VR F1.o))).mono ?_;rintro e v0 ⟨rfl,f⟩;have f':=Jy f;have y00:=(f'.cell (p:=⟨w.heap.size,0,none⟩) sW).trans k0;have y01:=(f'.cell (p:=⟨w.heap.size,1,none⟩) sW).trans k1;have y02:=(f'.cell (p:=⟨w.heap.size,2,none⟩) sW).trans k2;have y03:=(f'.cell (p:=⟨w.heap.size,3,none⟩) sW).trans k3;have y04:=(f'.cell (p:=⟨w.heap.size,4,none⟩) sW).trans k4;have y05:=(f'.cell (p:=⟨w.heap.size,5,none⟩) sW).trans k5;have y06:=(f'.cell (p:=⟨w.heap.size,6,none⟩) sW).trans k6;have O0:=Qc (F1.o.trans (f'.mono (Nat.le_of_lt sW)));have s0:=f'.size;clear f f') | (go_at_call 289;refine(hc1.out.2 a aa v0 h2 (hc1.out.1 _ _ H.o O0.o)).mono ?_;rintro e v1 ⟨rfl,f⟩;have y10:=(f.cell (p:=⟨w.heap.size,0,none⟩) (QH sW s0)).trans y00;have y11:=(f.cell (p:=⟨w.heap.size,1,none⟩) (QH sW s0)).trans y01;have y12:=(f.cell (p:=⟨w.heap.size,2,none⟩) (QH sW s0)).trans y02;have y13:=(f.cell (p:=⟨w.heap.size,3,none⟩) (QH sW s0)).trans y03;have y14:=(f.cell (p:=⟨w.heap.size,4,none⟩) (QH sW s0)).trans y04;have y15:=(f.cell (p:=⟨w.heap.size,5,none⟩) (QH sW s0)).trans y05;have y16:=(f.cell (p:=⟨w.heap.size,6,none⟩) (QH sW s0)).trans y06;have O1:=Qc (O0.o.trans (f.mono O0.o.size));have s1:=Qy s0 f.size;clear f) | (go_at_call 289;refine(hc1.out.2 b ba v1 h3 (hc1.out.1 _ _ H.o O1.o)).mono ?_;rintro e v2 ⟨rfl,f⟩;have y20:=(f.cell (p:=⟨w.heap.size,0,none⟩) (QH sW s1)).trans y10;have y21:=(f.cell (p:=⟨w.heap.size,1,none⟩) (QH sW s1)).trans y11;have y22:=(f.cell (p:=⟨w.heap.size,2,none⟩) (QH sW s1)).trans y12;have y23:=(f.cell (p:=⟨w.heap.size,3,none⟩) (QH sW s1)).trans y13;have y24:=(f.cell (p:=⟨w.heap.size,4,none⟩) (QH sW s1)).trans y14;have y25:=(f.cell (p:=⟨w.heap.size,5,none⟩) (QH sW s1)).trans y15;have y26:=(f.cell (p:=⟨w.heap.size,6,none⟩) (QH sW s1)).trans y16;have O2:=Qc (O1.o.trans (f.mono O1.o.size));have s2:=Qy s1 f.size;clear f))
 all_goals
  go_wp2_with fail;go_ret;exact⟨rfl,O2.o⟩
theorem QgP(I:World→Prop)(C1 C2:Value)(g1 g2:Nat→Nat)(t ta a aa b ba:Nat)(w:World)(h:I w)(hc1:Hid (OfC I C1 g1))(_hc2:Hid (OfC I C2 g2))(h1:t<10000):
  Calls prog 321 #[.agg #[.int .i64 t,.int .i64 ta,.int .i64 a,.int .i64 aa,.int .i64 b,.int .i64 ba],C1] w fun e w'=>e=.returned (.iface 353 (.agg #[.int .i64 (g1 t),.int .i64 0,.int .i64 a,.int .i64 aa,.int .i64 b,.int .i64 ba]))∧Below w.heap.size w w':=by
 have H:=Qc h;clear h;go_enter func321,ntmps321;go_wp2_with fail;have F1:=Qc ((Below.refl w.heap.size w).alloc (Qi _) (.cells #[.int .i64 t,.int .i64 ta,.int .i64 a,.int .i64 aa,.int .i64 b,.int .i64 ba] 353));have gg1:=heap_alloc_last w (.cells #[.int .i64 t,.int .i64 ta,.int .i64 a,.int .i64 aa,.int .i64 b,.int .i64 ba] 353);have sW:w.heap.size<(w.alloc (.cells #[.int .i64 t,.int .i64 ta,.int .i64 a,.int .i64 aa,.int .i64 b,.int .i64 ba] 353)).heap.size:=by rw[Qt];omega
 generalize w.alloc (.cells #[.int .i64 t,.int .i64 ta,.int .i64 a,.int .i64 aa,.int .i64 b,.int .i64 ba] 353)=W at *;have k0:=Qb gg1 0;have k1:=Qb gg1 1;have k2:=Qb gg1 2;have k3:=Qb gg1 3;have k4:=Qb gg1 4;have k5:=Qb gg1 5;simp at k0 k1 k2 k3 k4 k5;clear gg1
 go_region_held (fun w'=>w'.cell? ⟨w.heap.size,0,none⟩=some (.int .i64 t)∧w'.cell? ⟨w.heap.size,1,none⟩=some (.int .i64 ta)∧w'.cell? ⟨w.heap.size,2,none⟩=some (.int .i64 a)∧w'.cell? ⟨w.heap.size,3,none⟩=some (.int .i64 aa)∧w'.cell? ⟨w.heap.size,4,none⟩=some (.int .i64 b)∧w'.cell? ⟨w.heap.size,5,none⟩=some (.int .i64 ba)) (simp[*])
  (first | (go_at_call 289;refine(hc1.out.2 t ta W.drew h1 (hc1.out.1 _ _ H.o (VR F1.o))).mono ?_;rintro e v0 ⟨rfl,f⟩;have f':=Jy f;have y00:=(f'.cell (p:=⟨w.heap.size,0,none⟩) sW).trans k0;have y01:=(f'.cell (p:=⟨w.heap.size,1,none⟩) sW).trans k1;have y02:=(f'.cell (p:=⟨w.heap.size,2,none⟩) sW).trans k2;have y03:=(f'.cell (p:=⟨w.heap.size,3,none⟩) sW).trans k3;have y04:=(f'.cell (p:=⟨w.heap.size,4,none⟩) sW).trans k4;have y05:=(f'.cell (p:=⟨w.heap.size,5,none⟩) sW).trans k5;have O0:=Qc (F1.o.trans (f'.mono (Nat.le_of_lt sW)));have s0:=f'.size;clear f f'))
 all_goals
  go_wp2_with fail;go_ret;exact⟨rfl,O0.o⟩
theorem QgQ(I:World→Prop)(C1 C2:Value)(g1 g2:Nat→Nat)(t ta a aa:Nat)(w:World)(h:I w)(hc1:Hid (OfC I C1 g1))(hc2:Hid (OfC I C2 g2))(h1:t<10000)(h2:a<10000):
  Calls prog 287 #[.agg #[.int .i64 t,.int .i64 ta,.int .i64 a,.int .i64 aa],C1,C2] w fun e w'=>e=.returned (.iface 142 (.agg #[.int .i64 (g2 t),.int .i64 0,.int .i64 (g1 a),.int .i64 0]))∧Below w.heap.size w w':=by
 have H:=Qc h;clear h;go_enter func287,ntmps287;go_wp2_with fail;have F1:=Qc ((Below.refl w.heap.size w).alloc (Qi _) (.cells #[.int .i64 t,.int .i64 ta,.int .i64 a,.int .i64 aa] 142));have gg1:=heap_alloc_last w (.cells #[.int .i64 t,.int .i64 ta,.int .i64 a,.int .i64 aa] 142);have sW:w.heap.size<(w.alloc (.cells #[.int .i64 t,.int .i64 ta,.int .i64 a,.int .i64 aa] 142)).heap.size:=by rw[Qt];omega
 generalize w.alloc (.cells #[.int .i64 t,.int .i64 ta,.int .i64 a,.int .i64 aa] 142)=W at *;have k0:=Qb gg1 0;have k1:=Qb gg1 1;have k2:=Qb gg1 2;have k3:=Qb gg1 3;simp at k0 k1 k2 k3;clear gg1
 go_region_held (fun w'=>w'.cell? ⟨w.heap.size,0,none⟩=some (.int .i64 t)∧w'.cell? ⟨w.heap.size,1,none⟩=some (.int .i64 ta)∧w'.cell? ⟨w.heap.size,2,none⟩=some (.int .i64 a)∧w'.cell? ⟨w.heap.size,3,none⟩=some (.int .i64 aa)) (simp[*])
  (first | (go_at_call 289;refine(hc2.out.2 t ta W.drew h1 (hc2.out.1 _ _ H.o (VR F1.o))).mono ?_;rintro e v0 ⟨rfl,f⟩;have f':=Jy f;have y00:=(f'.cell (p:=⟨w.heap.size,0,none⟩) sW).trans k0;have y01:=(f'.cell (p:=⟨w.heap.size,1,none⟩) sW).trans k1;have y02:=(f'.cell (p:=⟨w.heap.size,2,none⟩) sW).trans k2;have y03:=(f'.cell (p:=⟨w.heap.size,3,none⟩) sW).trans k3;have O0:=Qc (F1.o.trans (f'.mono (Nat.le_of_lt sW)));have s0:=f'.size;clear f f') | (go_at_call 289;refine(hc1.out.2 a aa v0 h2 (hc1.out.1 _ _ H.o O0.o)).mono ?_;rintro e v1 ⟨rfl,f⟩;have y10:=(f.cell (p:=⟨w.heap.size,0,none⟩) (QH sW s0)).trans y00;have y11:=(f.cell (p:=⟨w.heap.size,1,none⟩) (QH sW s0)).trans y01;have y12:=(f.cell (p:=⟨w.heap.size,2,none⟩) (QH sW s0)).trans y02;have y13:=(f.cell (p:=⟨w.heap.size,3,none⟩) (QH sW s0)).trans y03;have O1:=Qc (O0.o.trans (f.mono O0.o.size));have s1:=Qy s0 f.size;clear f))
 all_goals
  go_wp2_with fail;go_ret;exact⟨rfl,O1.o⟩
structure V3(bs:List Qm)(f:Nat→List Nat)(mb base B Bn Bc:Nat)(v va vu vah vnd vch vgi:Value)(b k p0 p1 p2:Nat)(w:World):Prop where
 m:MkF bs f mb base B Bn Bc v va vu vah vnd vch vgi w
 c0:w.cell? ⟨p0,0,none⟩=some (.pointer (some ⟨mb,0,none⟩))
 c1:w.cell? ⟨p1,0,none⟩=some (.int .i64 b)
 c2:w.cell? ⟨p2,0,none⟩=some (.int .i64 k)
theorem V3.keeps{bs f mb base B Bn Bc v va vu vah vnd vch vgi b k p0 p1 p2 w w'}(h:V3 bs f mb base B Bn Bc v va vu vah vnd vch vgi b k p0 p1 p2 w)(F:Below w.heap.size w w'):V3 bs f mb base B Bn Bc v va vu vah vnd vch vgi b k p0 p1 p2 w':=
 ⟨h.m.keeps F,(F.cell (p:=⟨p0,0,none⟩) (Zh _ _ h.c0)).trans h.c0,(F.cell (p:=⟨p1,0,none⟩) (Zh _ _ h.c1)).trans h.c1,(F.cell (p:=⟨p2,0,none⟩) (Zh _ _ h.c2)).trans h.c2⟩
def Qf1(F p0 p1 p2:Nat):Value:=.func (.func F) #[] #[.pointer (some ⟨p0,0,none⟩),.pointer (some ⟨p1,0,none⟩),.pointer (some ⟨p2,0,none⟩)]
theorem ND(bs:List Qm)(b:Nat):∃d,Cm (absP bs) b→∃d',d'≤d∧Wu (suA (absP bs)) d' b:=by
 by_cases h:Cm (absP bs) b
 ·obtain⟨d,hd⟩:=Rq h;exact⟨d,fun _=>⟨d,Qi _,hd⟩⟩
 ·exact⟨0,fun h'=>absurd h' h⟩
theorem QeD(bs:List Qm)(f:Nat→List Nat)(mb base B Bn Bc:Nat)(v va vu vah vnd vch vgi:Value)(b k p0 p1 p2 r:Nat)(w:World)(h:V3 bs f mb base B Bn Bc v va vu vah vnd vch vgi b k p0 p1 p2 w)(hr:Hid (J5 bs))(hf:Hid (∀b∈bs,QU 1000000 b))(hn:bs.length≤12)(hb:b<bs.length)(hk:k≤(bkF bs b).sts.length)(hr1:r<10000):
  Calls prog 137 #[.int .i64 r,.pointer (some ⟨p0,0,none⟩),.pointer (some ⟨p1,0,none⟩),.pointer (some ⟨p2,0,none⟩)] w fun e w'=>e=.returned (.int .i64 (nmA (absP bs) (mkD bs f) b k r))∧Below w.heap.size w w':=by
 obtain⟨d,hd⟩:=ND bs b;have HC:=Qc (QiC bs f mb base B Bn Bc v va vu vah vnd vch vgi hr hf hn d b k r w hb hd hk hr1 h.m);obtain⟨_,c0,c1,c2⟩:=h;clear hd;go_enter func137,ntmps137;go_wp2_with fail;refine HC.o.mono ?_;rintro e w2 ⟨n,rfl,H2⟩;have HE:Hid (nmA (absP bs) (mkD bs f) b k r=n):=H2.o.1.eq;go_wp2_with fail;go_ret;refine⟨?_,H2.o.2⟩;rw[HE.o];rfl
theorem QhZ(bs:List Qm)(f:Nat→List Nat)(mb base B Bn Bc:Nat)(v va vu vah vnd vch vgi:Value)(b k p0 p1 p2 r:Nat)(w:World)(h:V3 bs f mb base B Bn Bc v va vu vah vnd vch vgi b k p0 p1 p2 w)(hb:b<bs.length)(hk:k<(bkF bs b).sts.length):
  Calls prog 82 #[.int .i64 r,.pointer (some ⟨p0,0,none⟩),.pointer (some ⟨p1,0,none⟩),.pointer (some ⟨p2,0,none⟩)] w fun e w'=>e=.returned (.int .i64 (giN bs f b k))∧Below w.heap.size w w':=by
 obtain⟨hM,c0,c1,c2⟩:=h;obtain⟨pg,cg,rfl⟩:=hM.gi.slice;have m7:=Qb hM.m.b 7;simp at m7;obtain⟨gg,pgi,cgi,rfl,gc0,gio⟩:=hM.gi.at hb;have hgl:=Qca bs f b;obtain⟨ggi,rfl,_,_⟩:=Qk gio (by omega);have gc1:=Qf gio (QY (show k<(giL bs f b).length by omega));rw[Qfz]at gc1;clear hM gio;go_enter func82,ntmps82;go_wp2_with fail
 go_region_held (fun w'=>w'.cell? ⟨p0,0,none⟩=some (.pointer (some ⟨mb,0,none⟩))∧w'.cell? ⟨p1,0,none⟩=some (.int .i64 b)∧w'.cell? ⟨p2,0,none⟩=some (.int .i64 k)∧w'.cell? ⟨mb,7,none⟩=some (.slice (some ⟨gg,0,none⟩) bs.length cg)∧w'.cell? ⟨gg,b,none⟩=some (.slice (some ⟨ggi,0,none⟩) (giL bs f b).length cgi)∧w'.cell? ⟨ggi,k,none⟩=some (.int .i64 (giN bs f b k))) (simp[*]) (fail)
 all_goals
  go_wp2_with fail;go_ret;exact⟨rfl,Jj w⟩
theorem Yu(bs:List Qm)(f:Nat→List Nat)(mb base B Bn Bc:Nat)(v va vu vah vnd vch vgi:Value)(b k p0 p1 p2:Nat)(hr:Hid (J5 bs))(hf:Hid (∀b∈bs,QU 1000000 b))(hn:bs.length≤12)(hb:b<bs.length)(hk:k≤(bkF bs b).sts.length):OfC (V3 bs f mb base B Bn Bc v va vu vah vnd vch vgi b k p0 p1 p2) (Qf1 137 p0 p1 p2) (nmA (absP bs) (mkD bs f) b k):=by
 refine⟨fun w w' h F=>h.keeps F,fun r a w hr1 h=>?_⟩;have H:=Qc h;clear h;unfold Qf1;go_enter func289,ntmps289;go_wp2_with fail;obtain⟨W,hW⟩:∃W,W=(w.alloc (.cells #[.int .i64 r,.int .i64 a] 132)).alloc (.cells #[.int .i64 0,.int .i64 0] 132):=⟨_,rfl⟩;rw[←hW];have FW:Below w.heap.size w W:=by rw[hW];exact((Below.refl _ _).alloc (Nat.le_refl _) _).alloc (by simp) _
 have bW:W.heap[w.heap.size+1]?=some (.cells #[.int .i64 0,.int .i64 0] 132 (0,0)):=by
  rw[hW];have:=heap_alloc_last (w.alloc (.cells #[.int .i64 r,.int .i64 a] 132)) (.cells #[.int .i64 0,.int .i64 0] 132);rw[Qt]at this;exact this
 have zW:=lt_of_block bW;refine(QeD bs f mb base B Bn Bc v va vu vah vnd vch vgi b k p0 p1 p2 r W (H.o.keeps FW) hr hf hn hb hk hr1).mono ?_;rintro e w3 ⟨rfl,f3⟩;obtain⟨nn,hnn⟩:∃nn,nn=nmA (absP bs) (mkD bs f) b k r:=⟨_,rfl⟩;rw[←hnn];have HNN:=Qc hnn;clear hnn;have b3:w3.heap[w.heap.size+1]?=some (.cells #[.int .i64 0,.int .i64 0] 132 (0,0)):=by rw[f3.block _ zW];exact bW
 have F3:=Qc (FW.trans (f3.mono FW.size));have k0:=Qb b3 0;have k1:=Qb b3 1;have kf:=Qg b3 0;have kf1:=Qg b3 1;simp at k0 k1;obtain⟨W4,hW4⟩:∃W4,W4=(w3.setCell ⟨w.heap.size+1,0,none⟩ (.int .i64 nn)).setCell ⟨w.heap.size+1,1,none⟩ (.int .i64 0):=⟨_,rfl⟩;have b4:W4.heap[w.heap.size+1]?=some (.cells #[.int .i64 nn,.int .i64 0] 132 (0,0)):=by
  rw[hW4];exact Qq (Qq b3 0 _) 1 _
 have F4:=Qc (show Below w.heap.size w W4 by rw[hW4];exact Qp (Qp F3.o _ _ _ (by omega)) _ _ _ (by omega));have q0:=Qb b4 0;have q1:=Qb b4 1;simp at q0 q1;clear f3 FW bW b3 hW b4;go_wp2_with fail;rw[←hW4];refine bodyPost_ret (v:=.agg #[.int .i64 nn,.int .i64 0]) (by simp[results,results289,go_sem,q0,q1]) rfl ⟨by rw[HNN.o],F4.o⟩
theorem Qht(bs:List Qm)(f:Nat→List Nat)(mb base B Bn Bc:Nat)(v va vu vah vnd vch vgi:Value)(b k p0 p1 p2:Nat)(hb:b<bs.length)(hk:k<(bkF bs b).sts.length):OfC (V3 bs f mb base B Bn Bc v va vu vah vnd vch vgi b k p0 p1 p2) (Qf1 82 p0 p1 p2) (fun _=>giN bs f b k):=by
 refine⟨fun w w' h F=>h.keeps F,fun r a w _ h=>?_⟩;have H:=Qc h;clear h;unfold Qf1;go_enter func289,ntmps289;go_wp2_with fail;obtain⟨W,hW⟩:∃W,W=(w.alloc (.cells #[.int .i64 r,.int .i64 a] 132)).alloc (.cells #[.int .i64 0,.int .i64 0] 132):=⟨_,rfl⟩;rw[←hW];have FW:Below w.heap.size w W:=by rw[hW];exact((Below.refl _ _).alloc (Nat.le_refl _) _).alloc (by simp) _
 have bW:W.heap[w.heap.size+1]?=some (.cells #[.int .i64 0,.int .i64 0] 132 (0,0)):=by
  rw[hW];have:=heap_alloc_last (w.alloc (.cells #[.int .i64 r,.int .i64 a] 132)) (.cells #[.int .i64 0,.int .i64 0] 132);rw[Qt]at this;exact this
 have zW:=lt_of_block bW;refine(QhZ bs f mb base B Bn Bc v va vu vah vnd vch vgi b k p0 p1 p2 r W (H.o.keeps FW) hb hk).mono ?_;rintro e w3 ⟨rfl,f3⟩;obtain⟨nn,hnn⟩:∃nn,nn=giN bs f b k:=⟨_,rfl⟩;rw[←hnn];have HNN:=Qc hnn;clear hnn;have b3:w3.heap[w.heap.size+1]?=some (.cells #[.int .i64 0,.int .i64 0] 132 (0,0)):=by rw[f3.block _ zW];exact bW
 have F3:=Qc (FW.trans (f3.mono FW.size));have k0:=Qb b3 0;have k1:=Qb b3 1;have kf:=Qg b3 0;have kf1:=Qg b3 1;simp at k0 k1;obtain⟨W4,hW4⟩:∃W4,W4=(w3.setCell ⟨w.heap.size+1,0,none⟩ (.int .i64 nn)).setCell ⟨w.heap.size+1,1,none⟩ (.int .i64 0):=⟨_,rfl⟩;have b4:W4.heap[w.heap.size+1]?=some (.cells #[.int .i64 nn,.int .i64 0] 132 (0,0)):=by
  rw[hW4];exact Qq (Qq b3 0 _) 1 _
 have F4:=Qc (show Below w.heap.size w W4 by rw[hW4];exact Qp (Qp F3.o _ _ _ (by omega)) _ _ _ (by omega));have q0:=Qb b4 0;have q1:=Qb b4 1;simp at q0 q1;clear f3 FW bW b3 hW b4;go_wp2_with fail;rw[←hW4];refine bodyPost_ret (v:=.agg #[.int .i64 nn,.int .i64 0]) (by simp[results,results289,go_sem,q0,q1]) rfl ⟨by rw[HNN.o],F4.o⟩
def rnQ(g1:Nat→Nat)(g:Nat)(t:Qz):Qz:={ t with to:=(g,0),a:=(g1 t.a.1,0),b:=(g1 t.b.1,0) }
theorem Qgf(g1:Nat→Nat)(g:Nat)(t:Qz):QK (rnQ g1 g t)=rn2 g1 g (QK t):=by
 unfold QK;show (if t.op=118 then _ else if t.op=99 then _ else if t.op=33 then _ else if t.op=63 then _ else _)=_;split
 ·rfl
 ·split
  ·rfl
  ·split
   ·rfl
   ·split<;>rfl
theorem Qgu(t:Qz)(hl:StFine t):∃T x fn,QS t=.iface T x∧(∀w:World,(method 500 T x "Renamed").run prog w=.ok (fn,x) w)∧(∀args (w:World),(callFunc fn args).run prog w=.ok (.enter fn args) w) ∧
  ∀(I:World→Prop)(C1 C2:Value)(g1 g2:Nat→Nat)(w:World),OfC I C1 g1→OfC I C2 g2→I w→Calls prog fn #[x,C1,C2] w fun r w'=>r=.returned (QS (rnQ g1 (g2 t.to.1) t))∧Below w.heap.size w w':=by
 by_cases h63:t.op=63
 ·refine⟨_,_,305,by rw[QS,if_pos h63],fun w=>by kernel_rfl,enters_of func305 (by kernel_rfl) rfl,fun I C1 C2 g1 g2 w c1 c2 h=>(QgN I C1 C2 g1 g2 _ _ w h c1 c2 hl.1).mono ?_⟩;rintro r w' ⟨rfl,f⟩;exact⟨by rw[QS,if_pos (show (rnQ g1 (g2 t.to.1) t).op=63 from h63)];rfl,f⟩
 by_cases h99:t.op=99
 ·refine⟨_,_,287,by rw[QS,if_neg h63,if_pos h99],fun w=>by kernel_rfl,enters_of func287 (by kernel_rfl) rfl,fun I C1 C2 g1 g2 w c1 c2 h=>(QgQ I C1 C2 g1 g2 _ _ _ _ w h c1 c2 hl.1 hl.2.1).mono ?_⟩;rintro r w' ⟨rfl,f⟩;exact⟨by rw[QS,if_neg (show ¬(rnQ g1 (g2 t.to.1) t).op=63 from h63),if_pos (show (rnQ g1 (g2 t.to.1) t).op=99 from h99)];rfl,f⟩
 by_cases h118:t.op=118
 ·refine⟨_,_,297,by rw[QS,if_neg h63,if_neg h99,if_pos h118],fun w=>by kernel_rfl,enters_of func297 (by kernel_rfl) rfl,fun I C1 C2 g1 g2 w c1 c2 h=>(QgO I C1 C2 g1 g2 _ _ _ w h c1 c2 hl.1).mono ?_⟩;rintro r w' ⟨rfl,f⟩;exact⟨by rw[QS,if_neg (show ¬(rnQ g1 (g2 t.to.1) t).op=63 from h63),if_neg (show ¬(rnQ g1 (g2 t.to.1) t).op=99 from h99),if_pos (show (rnQ g1 (g2 t.to.1) t).op=118 from h118)];rfl,f⟩
 by_cases h33:t.op=33
 ·refine⟨_,_,317,by rw[QS,if_neg h63,if_neg h99,if_neg h118,if_pos h33],fun w=>by kernel_rfl,enters_of func317 (by kernel_rfl) rfl,fun I C1 C2 g1 g2 w c1 c2 h=>(Qi8 I C1 C2 g1 g2 _ _ w h c1 c2 hl.2.1).mono ?_⟩;rintro r w' ⟨rfl,f⟩;exact⟨by rw[QS,if_neg (show ¬(rnQ g1 (g2 t.to.1) t).op=63 from h63),if_neg (show ¬(rnQ g1 (g2 t.to.1) t).op=99 from h99),if_neg (show ¬(rnQ g1 (g2 t.to.1) t).op=118 from h118),if_pos (show (rnQ g1 (g2 t.to.1) t).op=33 from h33)];rfl,f⟩
 refine⟨_,_,326,by rw[QS,if_neg h63,if_neg h99,if_neg h118,if_neg h33],fun w=>by kernel_rfl,enters_of func326 (by kernel_rfl) rfl,fun I C1 C2 g1 g2 w c1 c2 h=>(QgR I C1 C2 g1 g2 _ _ _ _ _ _ _ w h c1 c2 hl.1 hl.2.1 hl.2.2).mono ?_⟩;rintro r w' ⟨rfl,f⟩;exact⟨by rw[QS,if_neg (show ¬(rnQ g1 (g2 t.to.1) t).op=63 from h63),if_neg (show ¬(rnQ g1 (g2 t.to.1) t).op=99 from h99),if_neg (show ¬(rnQ g1 (g2 t.to.1) t).op=118 from h118),if_neg (show ¬(rnQ g1 (g2 t.to.1) t).op=33 from h33)];rfl,f⟩
theorem QjV(e:Z6)(hl:e.a.1<10000)(hop:e.op=46∨e.op=62∨e.op=63):∃T x fn,Zc e=.iface T x∧(∀w:World,(method 500 T x "Renamed").run prog w=.ok (fn,x) w)∧(∀args (w:World),(callFunc fn args).run prog w=.ok (.enter fn args) w) ∧
  ∀(I:World→Prop)(C1:Value)(g1:Nat→Nat)(w:World),OfC I C1 g1→I w→Calls prog fn #[x,C1] w fun r w'=>r=.returned (Zc (JT g1 e))∧Below w.heap.size w w':=by
 rcases hop with hop|hop|hop
 ·obtain⟨a1,_⟩:=K6 hop;refine⟨_,_,309,a1,fun w=>by kernel_rfl,enters_of func309 (by kernel_rfl) rfl,fun I C1 g1 w _ _=>(Qd4 _ w).mono ?_⟩;rintro r w' ⟨rfl,f⟩;rw[JT,if_neg (by omega),a1];exact⟨rfl,f⟩
 ·obtain⟨a1,_⟩:=K7 hop;refine⟨_,_,313,a1,fun w=>by kernel_rfl,enters_of func313 (by kernel_rfl) rfl,fun I C1 g1 w _ _=>(Qd5 _ _ _ w).mono ?_⟩;rintro r w' ⟨rfl,f⟩;rw[JT,if_neg (by omega),a1];exact⟨rfl,f⟩
 ·obtain⟨a1,_⟩:=JI hop;refine⟨_,_,321,a1,fun w=>by kernel_rfl,enters_of func321 (by kernel_rfl) rfl,fun I C1 g1 w c1 h=>(QgP I C1 C1 g1 g1 _ _ _ _ _ _ w h c1 c1 hl).mono ?_⟩;rintro r w' ⟨rfl,f⟩;rw[JT,if_pos hop];refine⟨?_,f⟩;rw[(JI (e:={ e with a:=(g1 e.a.1,0) }) hop).1];rfl
theorem WX(mb b k:Nat)(w:World):
  Calls prog 80 #[.pointer (some ⟨mb,0,none⟩),.int .i64 b,.int .i64 k] w fun e w'=>e=.returned (Qf1 137 w.heap.size (w.heap.size+1) (w.heap.size+1+1))∧Hid (w'.cell? ⟨w.heap.size,0,none⟩=some (.pointer (some ⟨mb,0,none⟩))∧w'.cell? ⟨w.heap.size+1,0,none⟩=some (.int .i64 b)∧w'.cell? ⟨w.heap.size+1+1,0,none⟩=some (.int .i64 k)∧Below w.heap.size w w'):=by
 obtain⟨g0,g1,g2,hz,f3⟩:=Yf w (.cells #[.pointer (some ⟨mb,0,none⟩)] 164) (.cells #[.int .i64 b] 143) (.cells #[.int .i64 k] 3);have HE:=Qc (And.intro (Qb g0 0) (And.intro (Qb g1 0) (And.intro (Qb g2 0) f3)));have hmf:∀(fn:Fn)(first cap:Array Value)(w:World),(Instr.makeFunc fn first cap).run prog w=.ok (.func fn first cap) w:=fun _ _ _ _=>rfl
 clear g0 g1 g2 hz f3;go_enter func80,ntmps80;go_wp2_with fail;go_ret;refine⟨rfl,?_⟩;have:=HE.o;exact⟨by simpa using this.1,by simpa using this.2.1,by simpa using this.2.2.1,this.2.2.2⟩
end Go.Proofs.YtgfhfkgdmidhpaaGreatDoor
