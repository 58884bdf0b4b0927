import Derived.Test.YtgfhfkgdmidhpaaGreatDoorM34
import Derived.Lib.SlKeysI
namespace Go.Proofs.YtgfhfkgdmidhpaaGreatDoor
open Go.RowKit Go.Maps
open Go.Proofs.Tryz
set_option maxRecDepth 100000
set_option maxHeartbeats 8000000
structure PlI(bs:List Qm)(X:Nat→List Nat)(w:World)(vp:Value)(b kk:Nat)(i t:Nat)(wr:World):Prop where
 x:∃LM f,PlF bs X LM f i t∧Z7 wr b kk w.heap.size LM∧JJ w.heap.size wr vp bs.length f
 f:Below w.heap.size w wr
 hb:w.heap.size≤b
theorem Qhj(bs:List Qm)(X:Nat→List Nat)(mb base B Bn:Nat)(v va vu vah vnd vch vgi:Value)(w:World)(hM:MkG bs mb base B v va vu vah vnd vch vgi w)(hX:ZC Bn w vnd bs.length X)(hXs:Hid (∀k,SM (X k)))(hgl:Hid (∀b∈bs,∀p∈goalsF b.e,p.1<bs.length))(hf:Hid (∀b∈bs,QU 1000000 b))(hn0:0<bs.length)(hn:bs.length≤1000):
  Calls prog 75 #[.pointer (some ⟨mb,0,none⟩)] w fun x w'=>∃v' LM f,x=.returned v'∧Hid (PlF bs X LM f bs.length 0∧JJ w.heap.size w' v' bs.length f∧Below w.heap.size w w'):=by
 have HM:=Qc hM;have HX:=Qc hX;obtain⟨pn,cn,rfl⟩:=hX.slice;have m3:=Qb hM.b 3;have m5:=Qb hM.b 5;simp at m3 m5;have hmb:=lt_of_block hM.b;obtain⟨⟨pv,cv,rfl⟩,_,_⟩:=hM.g.form;have f1:=(Below.refl w.heap.size w).alloc (Qi _) (.map #[] 0);have m3':=(f1.cell (p:=⟨mb,3,none⟩) hmb).trans m3;have m5':=(f1.cell (p:=⟨mb,5,none⟩) hmb).trans m5;have H1:Hid (Z7 (w.alloc (.map #[] 0)) w.heap.size 0 w.heap.size (fun _=>none)∧Below w.heap.size w (w.alloc (.map #[] 0))):=⟨Z7.new _ _,f1⟩;have hz1:(w.alloc (.map #[] 0)).heap.size=w.heap.size+1:=Qt _ _;obtain⟨I9,Hi9,Hz9,Hs9,Hb9⟩:=info_parts RI;have HI:=Qc (And.intro Hi9 (And.intro Hz9 (And.intro Hs9 Hb9)));clear hM hX m3 m5 f1 Hi9 Hz9 Hs9 Hb9;have hmm:=@run_makeMap prog;go_enter func75,ntmps75;go_wp2_with (at_make;refine QA ?_);refine Qc ?_;refine wpList_make_full _ rfl _ _ 90 rfl w.heap.size 161 I9 (.agg #[.slice none 0 0]) 1 underlying90 HI.o.1 HI.o.2.1 HI.o.2.2.1 .i64 .i64 _ _ bs.length rfl rfl rfl rfl (by rw[HI.o.2.2.2];omega) (by unfold maxLen;omega) (by omega) ?_;intro w3 o3 gr3;have f3:Below (w.alloc (.map #[] 0)).heap.size (w.alloc (.map #[] 0)) w3:=Below.grown (Below.refl _ _) gr3 (Qi _) (fun k hk=>by cases hk);have HB0:Hid (PlI bs X w (.slice (some ⟨(w.alloc (.map #[] 0)).heap.size,0,none⟩) bs.length bs.length) w.heap.size 0 0 0 w3):=by
  refine⟨⟨_,_,PlF.zero,H1.o.1.keeps f3,⟨_,o3,fun k u hu=>?_,fun j k u u' hu hu' _=>?_⟩⟩,H1.o.2.trans (f3.mono H1.o.2.size),Qi _⟩
  ·rw[J2]at hu;obtain⟨_,rfl⟩:=Kl hu;exact Q3 _ _ _ _
  ·rw[J2]at hu hu';obtain⟨_,rfl⟩:=Kl hu;obtain⟨_,rfl⟩:=Kl hu';exact .inl rfl
 have m5'':=(f3.cell (p:=⟨mb,5,none⟩) (by rw[hz1];show mb<_;omega)).trans m5';clear o3 gr3 f3 HI H1 m3' m5';generalize (w.alloc (.map #[] 0)).heap.size=gp at *;subst hz1;go_wp2_with fail;clear m5'' hmm
 go_loopw [24] (fun j wr=>∃(i kk:Nat),i≤bs.length∧kk≤i*10000∧j=.int .i64 i∧Hid (PlI bs X w (.slice (some ⟨w.heap.size+1,0,none⟩) bs.length bs.length) w.heap.size kk i 0 wr)) (fun j _=>bs.length-(intOf j).toNat)
 case atStart=>exact⟨0,0,by omega,by omega,rfl,HB0⟩
 case round=>
  clear HB0;obtain⟨i,kk,hi,hkk,rfl,HJ⟩:=hrel;rename World=>wA;by_cases hlt:i<bs.length
  ·obtain⟨gn,un,rfl,_,hgn,cn5,_,on5⟩:=(HX.o.keeps (w':=wA) HJ.o.f).at hlt;obtain⟨pu,cu,rfl⟩:=Qa on5;have hXl:=(hXs.out i).len;have O5:=Qc on5;clear on5;go_wp2_with fail;clear cn5;have FA:=(Below.refl wA.heap.size wA).alloc (Qi _) (.cells #[.slice pu (X i).length cu] 161);have H2:Hid (PlI bs X w (.slice (some ⟨w.heap.size+1,0,none⟩) bs.length bs.length) w.heap.size kk i 0 (wA.alloc (.cells #[.slice pu (X i).length cu] 161))∧(wA.alloc (.cells #[.slice pu (X i).length cu] 161)).ownsRow Bn 78 1 (.slice pu (X i).length cu) (X i).length (Qe (X i))):=by
    obtain⟨⟨LM,f,h1,h2,h3⟩,h4,h5⟩:=HJ.o;exact⟨⟨⟨LM,f,h1,h2.keeps FA,h3.below FA⟩,h4.trans (FA.mono h4.size),h5⟩,O5.o.alloc _⟩
   clear FA HJ O5;generalize wA.alloc (.cells #[.slice pu (X i).length cu] 161)=W2 at *;refine(Qe5 (X i) Bn _ W2 H2.o.2 (by omega)).mono ?_;rintro e w5 ⟨v5,rfl,o5,f5⟩;obtain⟨p5,c5,rfl⟩:=Qa o5;have H3:Hid (PlI bs X w (.slice (some ⟨w.heap.size+1,0,none⟩) bs.length bs.length) w.heap.size kk i 0 w5∧w5.ownsRow w.heap.size 78 1 (.slice p5 (X i).length c5) (X i).length (Qe (X i))∧∀k,(Value.slice p5 (X i).length c5).ownBlock=some k→W2.heap.size≤k):=by
    obtain⟨⟨LM,f,h1,h2,h3⟩,h4,h5⟩:=H2.o.1;exact⟨⟨⟨LM,f,h1,h2.keeps f5,h3.below f5⟩,h4.trans (f5.mono h4.size),h5⟩,Qj o5 h4.size,fun k hk=>(o5.lt k hk).1⟩
   have HAP:Hid (∀u,w5.cell? ⟨w.heap.size+1,i,none⟩=some u→Q4 (.slice p5 (X i).length c5) u):=by
    obtain⟨⟨LM,f,h1,h2,h3⟩,h4,h5⟩:=H2.o.1;intro u hu q hq hq2;obtain⟨us,a,b,d⟩:=h3;have hl:us.length=bs.length:=by have:=a.1;omega
    have e1:=Qf a (Zl (l:=us) (i:=i) (by omega));have hgp:w.heap.size+1<W2.heap.size:=Zh _ _ e1;have e2:=(f5.cell (p:=⟨w.heap.size+1,i,none⟩) hgp).trans e1;rw[hu]at e2;have e3:u=us[i]'(by omega):=by simpa using e2
    have o6:=b i _ (Zl (l:=us) (i:=i) (by omega));rw[←e3]at o6;have h7:=(o6.lt q hq).2;have h8:=(o5.lt q hq2).1;omega
   clear o5 f5 H2;go_wp2_with fail
   go_loopw [32] (fun j wr=>∃(t kk:Nat),t≤(X i).length∧kk≤i*10000+t∧j=.int .i64 t∧Hid (PlI bs X w (.slice (some ⟨w.heap.size+1,0,none⟩) bs.length bs.length) w.heap.size kk i t wr∧wr.ownsRow w.heap.size 78 1 (.slice p5 (X i).length c5) (X i).length (Qe (X i))∧∀u,wr.cell? ⟨w.heap.size+1,i,none⟩=some u→Q4 (.slice p5 (X i).length c5) u)) (fun j _=>(X i).length-(intOf j).toNat)
   case atStart=>exact⟨0,kk,by omega,by omega,rfl,H3.o.1,H3.o.2.1,HAP.o⟩
   case round=>
    clear H3 HAP;obtain⟨t,kt,ht,hkt,rfl,HQ⟩:=hrel;rename World=>wC;by_cases htl:t<(X i).length
    ·obtain⟨g5,rfl,_,_⟩:=Qk HQ.o.2.1 (by omega);have c0:=Qf HQ.o.2.1 (QY htl);have hxr:=(hXs.out i).2 _ (Qx htl);obtain⟨⟨LM,f,h1,h2,h3⟩,h4,h5⟩:=HQ.o.1;obtain⟨pl,nl,cl,hlk⟩:=h2.ok hxr;have HRX:Hid (∃r,r=(X i)[t]):=⟨_,rfl⟩;have FB:=(Below.refl wC.heap.size wC).alloc (Qi _) (.cells #[.slice pl nl cl] 82);have hgpc:w.heap.size+1<wC.heap.size:=by
      obtain⟨us,a,_⟩:=h3;have hl:us.length=bs.length:=by have:=a.1;omega
      exact Zh _ _ (Qf a (Zl (l:=us) (i:=i) (by omega)))
     cases hL:LM (X i)[t]
     case' some l=>
      rw[hL]at hlk;have h2':=h2.keeps FB;obtain⟨v8,hlk2,o8⟩:=h2'.look hxr hL;obtain⟨p8,c8,rfl⟩:=Qa o8;have H5:Hid (PlF bs X LM f i t∧Z7 (wC.alloc (.cells #[.slice pl nl cl] 82)) w.heap.size kt w.heap.size LM∧JJ w.heap.size (wC.alloc (.cells #[.slice pl nl cl] 82)) (.slice (some ⟨w.heap.size+1,0,none⟩) bs.length bs.length) bs.length f∧Below w.heap.size w (wC.alloc (.cells #[.slice pl nl cl] 82))∧LM (X i)[t]=some l∧(wC.alloc (.cells #[.slice pl nl cl] 82)).ownsRow w.heap.size 78 1 (.slice (some ⟨g5,0,none⟩) (X i).length c5) (X i).length (Qe (X i))∧(∀u,(wC.alloc (.cells #[.slice pl nl cl] 82)).cell? ⟨w.heap.size+1,i,none⟩=some u→Q4 (.slice (some ⟨g5,0,none⟩) (X i).length c5) u)∧(wC.alloc (.cells #[.slice pl nl cl] 82)).ownsRow w.heap.size 143 1 (.slice p8 l.length c8) l.length (Qe l)∧kt≤i*10000+t+1):=
       ⟨h1,h2',h3.below FB,h4.trans (FB.mono h4.size),hL,HQ.o.2.1.alloc _,fun u hu=>HQ.o.2.2 u (by rw[FB.cell (p:=⟨w.heap.size+1,i,none⟩) hgpc]at hu;exact hu),o8,by omega⟩
      have HL:=Qc hL;clear h1 h2 h3 h4 h5 HQ FB h2' o8 hL;go_wp2_with fail;generalize wC.alloc (.cells #[.slice pl nl cl] 82)=wD at *;obtain⟨LM2,k2,H8⟩:∃(LM2:Nat→Option (List Nat)) (k2:Nat),Hid (PlF bs X LM2 f i t∧Z7 wD w.heap.size k2 w.heap.size LM2∧JJ w.heap.size wD (.slice (some ⟨w.heap.size+1,0,none⟩) bs.length bs.length) bs.length f∧Below w.heap.size w wD∧LM2 (X i)[t]=some l∧wD.ownsRow w.heap.size 78 1 (.slice (some ⟨g5,0,none⟩) (X i).length c5) (X i).length (Qe (X i))∧(∀u,wD.cell? ⟨w.heap.size+1,i,none⟩=some u→Q4 (.slice (some ⟨g5,0,none⟩) (X i).length c5) u)∧wD.ownsRow w.heap.size 143 1 (.slice p8 l.length c8) l.length (Qe l)∧k2≤i*10000+t+1):=⟨_,_,H5⟩;clear H5 HL hlk hlk2
     case' none=>
      rw[hL]at hlk;have H4:Hid (PlF bs X LM f i t∧Z7 (wC.alloc (.cells #[.slice pl nl cl] 82)) w.heap.size kt w.heap.size LM∧JJ w.heap.size (wC.alloc (.cells #[.slice pl nl cl] 82)) (.slice (some ⟨w.heap.size+1,0,none⟩) bs.length bs.length) bs.length f∧Below w.heap.size w (wC.alloc (.cells #[.slice pl nl cl] 82))∧LM (X i)[t]=none∧(wC.alloc (.cells #[.slice pl nl cl] 82)).ownsRow w.heap.size 78 1 (.slice (some ⟨g5,0,none⟩) (X i).length c5) (X i).length (Qe (X i))∧(∀u,(wC.alloc (.cells #[.slice pl nl cl] 82)).cell? ⟨w.heap.size+1,i,none⟩=some u→Q4 (.slice (some ⟨g5,0,none⟩) (X i).length c5) u)∧w.heap.size+1<(wC.alloc (.cells #[.slice pl nl cl] 82)).heap.size):=
       ⟨h1,h2.keeps FB,h3.below FB,h4.trans (FB.mono h4.size),hL,HQ.o.2.1.alloc _,fun u hu=>HQ.o.2.2 u (by rw[FB.cell (p:=⟨w.heap.size+1,i,none⟩) hgpc]at hu;exact hu),by rw[Qt];omega⟩
      clear h1 h2 h3 h4 h5 HQ FB hL;go_wp2_with fail;clear hlk;generalize wC.alloc (.cells #[.slice pl nl cl] 82)=W5 at *;refine(QkD bs (X i)[t] mb base B _ va vu vah _ vch vgi W5 (HM.o.keeps H4.o.2.2.2.1) hgl hf hn).mono ?_;rintro e w6 ⟨v6,l,rfl,H6⟩;have hz5:=H4.o.2.2.2.1.size;have hz6:=H6.o.2.2.size;have hkm:kt<maxLen:=by unfold maxLen;omega
      obtain⟨w7,hup,m7,g7⟩:=(H4.o.2.1.keeps H6.o.2.2).upd hxr hkm (Qj H6.o.1 hz5);obtain⟨v8,hlk2,o8⟩:=m7.look hxr (KD _ _ _);obtain⟨p8,c8,rfl⟩:=Qa o8;obtain⟨p6,c6,rfl⟩:=Qa H6.o.1;have H5:Hid (PlF bs X (Rs LM (X i)[t] l) f i t∧Z7 w7 w.heap.size (kt+1) w.heap.size (Rs LM (X i)[t] l)∧JJ w.heap.size w7 (.slice (some ⟨w.heap.size+1,0,none⟩) bs.length bs.length) bs.length f∧Below w.heap.size w w7∧Rs LM (X i)[t] l (X i)[t]=some l∧w7.ownsRow w.heap.size 78 1 (.slice (some ⟨g5,0,none⟩) (X i).length c5) (X i).length (Qe (X i))∧(∀u,w7.cell? ⟨w.heap.size+1,i,none⟩=some u→Q4 (.slice (some ⟨g5,0,none⟩) (X i).length c5) u)∧w7.ownsRow w.heap.size 143 1 (.slice p8 l.length c8) l.length (Qe l)∧kt+1≤i*10000+t+1):=by
       obtain⟨a1,a2,a3,a4,a5,a6,a7,a8⟩:=H4.o;have hm:=(a2.keeps H6.o.2.2).map;have F6:=a4.trans (H6.o.2.2.mono hz5);have K:Qr w.heap.size (fun _=>True) w6 w7:=fun x c e _ _ hh=>by
        obtain⟨es,clock,hb⟩:=hm;rw[g7.block x (lt_of_block hh) (fun e2=>by cases e2;rw[hb]at hh;cases hh)];exact hh
       refine⟨a1.look a5 H6.o.2.1,m7,(a3.below H6.o.2.2).map hm g7,Below.grown F6 g7 (by omega) (fun k hk=>by cases hk;exact Qi _),KD _ _ _,Qd (Qd a6 (Qh H6.o.2.2) trivial) K trivial,fun u hu=>?_,o8,by omega⟩;refine a7 u ?_;have e1:w7.cell? ⟨w.heap.size+1,i,none⟩=w6.cell? ⟨w.heap.size+1,i,none⟩:=World.cell?_of_block (w:=w6) (g7.block (w.heap.size+1) (by omega) (fun e=>by injection e with e;omega));rw[e1,H6.o.2.2.cell (p:=⟨w.heap.size+1,i,none⟩) a8]at hu;exact hu
      clear m7 g7 o8 H6 H4;go_wp2_with fail;generalize w7=wD at *;obtain⟨LM2,k2,H8⟩:∃(LM2:Nat→Option (List Nat)) (k2:Nat),Hid (PlF bs X LM2 f i t∧Z7 wD w.heap.size k2 w.heap.size LM2∧JJ w.heap.size wD (.slice (some ⟨w.heap.size+1,0,none⟩) bs.length bs.length) bs.length f∧Below w.heap.size w wD∧LM2 (X i)[t]=some l∧wD.ownsRow w.heap.size 78 1 (.slice (some ⟨g5,0,none⟩) (X i).length c5) (X i).length (Qe (X i))∧(∀u,wD.cell? ⟨w.heap.size+1,i,none⟩=some u→Q4 (.slice (some ⟨g5,0,none⟩) (X i).length c5) u)∧wD.ownsRow w.heap.size 143 1 (.slice p8 l.length c8) l.length (Qe l)∧k2≤i*10000+t+1):=⟨_,_,H5⟩;clear H5 hup hlk2
     all_goals
      have HML:=Qc (H8.o.1.mt _ _ H8.o.2.2.2.2.1);have hll:l.length≤bs.length:=UU HML.o.1 HML.o.2.1;refine(N6 l i w.heap.size _ wD H8.o.2.2.2.2.2.2.2.1 HML.o.1 (by omega)).mono ?_;rintro e w9 ⟨rfl,f9⟩;have H9:Hid (PlF bs X LM2 f i t∧Z7 w9 w.heap.size k2 w.heap.size LM2∧JJ w.heap.size w9 (.slice (some ⟨w.heap.size+1,0,none⟩) bs.length bs.length) bs.length f∧Below w.heap.size w w9∧LM2 (X i)[t]=some l∧w9.ownsRow w.heap.size 78 1 (.slice (some ⟨g5,0,none⟩) (X i).length c5) (X i).length (Qe (X i))∧(∀u,w9.cell? ⟨w.heap.size+1,i,none⟩=some u→Q4 (.slice (some ⟨g5,0,none⟩) (X i).length c5) u)∧k2≤i*10000+t+1):=by
       obtain⟨a1,a2,a3,a4,a5,a6,a7,a8,a9⟩:=H8.o;obtain⟨_,_,hg,_⟩:=a3.blk hlt;refine⟨a1,a2.keeps f9,a3.below f9,a4.trans (f9.mono a4.size),a5,Qd a6 (Qh f9) trivial,fun u hu=>a7 u ?_,a9⟩;rw[f9.cell (p:=⟨w.heap.size+1,i,none⟩) (lt_of_block hg)]at hu;exact hu
      clear H8 f9;obtain⟨hb,hhb⟩:∃hb,hb=QD l i:=⟨_,rfl⟩;rw[←hhb];have HHB:=Qc hhb;clear hhb;cases hb
      case' true=>
       have HPB:Hid (plB bs LM2 i (X i)[t]=true):=by
        show _=_;unfold plB;rw[H9.o.2.2.2.2.1];show (QD l i||_)=true;rw[←HHB.o];rfl
       go_wp2_with fail
      case' false=>
       have dM:=Qb (HM.o.keeps H9.o.2.2.2.1).b 3;simp at dM;obtain⟨gv',qk,ck,pk,sk,hgv',_,_,_,OC,_,e0,e1,e2,e3⟩:=(HM.o.keeps H9.o.2.2.2.1).g.p.at hlt;subst hgv';obtain⟨T2,x2,hT2⟩:=QQ bs[i].e;rw[hT2]at e3;have HOC:=Qc OC;have hcl:=(hf.out _ (Qx hlt)).cl;have HBK:Hid (bkF bs i=bs[i]):=Zj hlt;clear OC hT2;go_wp2_with fail;clear e0 e1 e2 e3 dM;refine(Qak bs[i] (X i)[t] base qk ck pk bs[i].sts.length sk T2 x2 w9 HOC.o hcl).mono ?_;rintro e w10 ⟨rfl,f10⟩;have H10:Hid (PlF bs X LM2 f i t∧Z7 w10 w.heap.size k2 w.heap.size LM2∧JJ w.heap.size w10 (.slice (some ⟨w.heap.size+1,0,none⟩) bs.length bs.length) bs.length f∧Below w.heap.size w w10∧LM2 (X i)[t]=some l∧w10.ownsRow w.heap.size 78 1 (.slice (some ⟨g5,0,none⟩) (X i).length c5) (X i).length (Qe (X i))∧(∀u,w10.cell? ⟨w.heap.size+1,i,none⟩=some u→Q4 (.slice (some ⟨g5,0,none⟩) (X i).length c5) u)∧k2≤i*10000+t+1):=by
        obtain⟨a1,a2,a3,a4,a5,a6,a7,a9⟩:=H9.o;obtain⟨_,_,hg,_⟩:=a3.blk hlt;refine⟨a1,a2.keeps f10,a3.below f10,a4.trans (f10.mono a4.size),a5,Qd a6 (Qh f10) trivial,fun u hu=>a7 u ?_,a9⟩;rw[f10.cell (p:=⟨w.heap.size+1,i,none⟩) (lt_of_block hg)]at hu;exact hu
       clear H9 f10 HOC;obtain⟨hb2,hhb2⟩:∃hb,hb=chF bs[i].chs (X i)[t]:=⟨_,rfl⟩;rw[←hhb2];have HHB2:=Qc hhb2;clear hhb2;cases hb2
       case' false=>
        have HN:Hid (PlI bs X w (.slice (some ⟨w.heap.size+1,0,none⟩) bs.length bs.length) w.heap.size k2 i (t+1) w10∧w10.ownsRow w.heap.size 78 1 (.slice (some ⟨g5,0,none⟩) (X i).length c5) (X i).length (Qe (X i))∧∀u,w10.cell? ⟨w.heap.size+1,i,none⟩=some u→Q4 (.slice (some ⟨g5,0,none⟩) (X i).length c5) u):=by
         obtain⟨a1,a2,a3,a4,a5,a6,a7,a9⟩:=H10.o;refine⟨⟨⟨LM2,f,a1.no htl (by rw[a5];simp) ?_,a2,a3⟩,a4,Nat.le_refl _⟩,a6,a7⟩;unfold plB;rw[a5];show (QD l i||_)=false;rw[←HHB.o,HBK.o,←HHB2.o];rfl
        have hk2:=H10.o.2.2.2.2.2.2.2;clear H10;go_wp2_with fail;go_roundw
        case rel=>exact⟨t+1,k2,by omega,by omega,by go_num,HN⟩
        case measure=>simp[intOf];omega
       have HPB:Hid (plB bs LM2 i (X i)[t]=true):=by
        show _=_;unfold plB;rw[HBK.o,←HHB2.o,Bool.or_true]
       have H9:=H10;clear H10;go_wp2_with fail;generalize w10=w9 at *
      all_goals
       have hk2:=H9.o.2.2.2.2.2.2.2;obtain⟨cs,u,hgb,hcu,hcl2,hou,hbg⟩:=H9.o.2.2.1.blk hlt;have HSR:=Qc (H9.o.1.srt (hXs.out i).1 htl);have hfl:=HSR.o.2.2;have HU:=Qc (And.intro hgb (And.intro hcu (And.intro hcl2 hou)));have hz9:=H9.o.2.2.2.1.size;clear hgb hcu hcl2 hou;refine(Qim (f i) (X i)[t] HSR.o.2.1 (w.heap.size+1) i w.heap.size cs 161 u w9 HU.o.1 HU.o.2.1 HU.o.2.2.2 (by omega) (by omega) (QG HU.o.2.2.2 HU.o.1 (by decide))).mono ?_;rintro e wF ⟨bb,v7,rfl,H7⟩;have HN:Hid (PlI bs X w (.slice (some ⟨w.heap.size+1,0,none⟩) bs.length bs.length) w.heap.size k2 i (t+1) wF∧wF.ownsRow w.heap.size 78 1 (.slice (some ⟨g5,0,none⟩) (X i).length c5) (X i).length (Qe (X i))∧∀u,wF.cell? ⟨w.heap.size+1,i,none⟩=some u→Q4 (.slice (some ⟨g5,0,none⟩) (X i).length c5) u):=by
        obtain⟨a1,a2,a3,a4,a5,a6,a7,a9⟩:=H9.o;obtain⟨_,j1,j2,j3⟩:=H7.o;have P:=QcW j3 HU.o.1 j1;rw[HSR.o.1]at j2;obtain⟨us,aa,_⟩:=a3;have K:=Qr.putR (base:=w.heap.size) (T:=fun t=>t=143) aa HU.o.2.2.2 P (by decide) (by decide);refine⟨⟨⟨LM2,QfB f i (f i++[(X i)[t]]),a1.yes htl (by rw[a5];simp) HPB.o,a2.keepsT K rfl ?_,H9.o.2.2.1.put hlt HU.o.2.2.1 P j2 _ (if_pos rfl) (fun j hj=>if_neg hj)⟩,Put.belowR a4 hbg HU.o.2.2.2 P a4.size,Nat.le_refl _⟩,j3.owns a6 (QG a6 HU.o.1 (by decide)) (a7 u HU.o.2.2.1),fun u2 hu2=>?_⟩
        ·obtain⟨es,clock,hb⟩:=a2.map;refine P.block _ a2.lt (fun e=>?_) (fun e=>?_)
         ·rw[e,HU.o.1]at hb;cases hb
         ·rcases HU.o.2.2.2.2 with ⟨rfl,_⟩|⟨g',cap',cur',rfl,_,hc',_⟩
          ·cases e
          ·have e3:some w.heap.size=some g':=e;injection e3 with e3;rw[←e3]at hc';have e2:=hb.symm.trans hc';cases e2
        ·have e1:wF.cell? ⟨w.heap.size+1,i,none⟩=some v7:=by
          have:=Qb j1 i;rw[this];have hci:i<cs.size:=(Array.getElem?_eq_some_iff.1 HU.o.2.1).1;simp[hci]
         rw[e1]at hu2;cases hu2;exact j3.apart a6 (a7 u HU.o.2.2.1)
       clear H7 H9 HU;go_wp2_with fail;go_roundw
       case rel=>exact⟨t+1,k2,by omega,by omega,by go_num,HN⟩
       case measure=>simp[intOf];omega
    ·have HN:Hid (PlI bs X w (.slice (some ⟨w.heap.size+1,0,none⟩) bs.length bs.length) w.heap.size kt (i+1) 0 wC):=by
      obtain⟨⟨LM,f,h1,h2,h3⟩,h4,h5⟩:=HQ.o.1;exact⟨⟨LM,f,h1.next (by omega),h2,h3⟩,h4,h5⟩
     clear HQ;go_wp2_with fail;go_roundw
     case rel=>exact⟨i+1,kt,by omega,by omega,by go_num,HN⟩
     case measure=>simp[intOf];omega
  ·have hie:i=bs.length:=by omega
   subst hie;obtain⟨⟨LM,f,h1,h2,h3⟩,h4,h5⟩:=HJ.o;have HE:=Qc (And.intro h1 (And.intro h3 h4));clear h1 h2 h3 h4 h5 HJ;go_wp2_with fail;go_ret;exact⟨_,LM,f,rfl,HE.o.1,HE.o.2.1,HE.o.2.2⟩
theorem QeY{bs:List Qm}(hr:J5 bs):Kps (absP bs) (WK (suF bs) bs.length):=by
 have hs:=XB hr.goals;refine⟨fun {b} hb h a ho=>?_,fun {b k} hb h=>?_⟩
 ·have hb':Rch (suF bs) noB b:=(KT bs noB b).1 hb;have ho':=(Jt hr (a:=a) (b:=b)).2 ho;by_cases h0:b=0
  ·subst h0;apply Classical.byContradiction;intro hne;exact ho.2 (.zero (Xp fun e=>hne e.symm))
  ·exfalso;obtain⟨x,hx,_⟩:=QeZ hr.pos hs hb' h0;rw[QjF,(KB hr.pos hs).2 hb',if_pos rfl,h]at hx;have hx:(-1:Int)=x:=hx;omega
 ·have h1:=List.find?_some h;rw[QbX,Bool.and_eq_true,KC,Bool.and_eq_true,bne_iff_ne,Xi]at h1;refine⟨h1.1.1,(Jt hr).1 h1.1.2,fun a hne ho=>?_⟩;have ha:a<bs.length:=((KT bs noB a).1 ho.up).lt hr.pos hs;have h2:=h1.2 a (List.mem_range.2 ha);rw[KC,(Jt hr).2 ho,bne_iff_ne.2 hne]at h2;exact(Jt hr).1 (by simpa using h2)
theorem Qja{bs:List Qm}(hr:J5 bs){x y:Nat}(h:Rim (absP bs) x y):y∈JU (suF bs) bs.length x:=by
 obtain⟨p,h1,h2,h3⟩:=h;have h2':=(KO bs p y).1 h2;have hp:p<bs.length:=by
  have:=Qip h2;simpa[absP] using this
 rw[JU,Zk,QgU,Bool.and_eq_true,List.any_eq_true];refine⟨XB hr.goals p y h2',⟨p,List.mem_range.2 hp,?_⟩,?_⟩
 ·rw[Bool.and_eq_true];exact⟨List.contains_iff_mem.2 h2',(Jt hr).2 h1⟩
 ·by_cases e:x=y
  ·subst e;simp
  ·cases ho:ZG (suF bs) bs.length x y with
   | false=>simp
   | true=>exact absurd ⟨(Jt hr).1 ho,fun q=>e q.symm⟩ h3
theorem Qg8(e:Z6)(r:Nat):r∈rdE (ZT e)↔r∈Jb e:=by
 unfold rdE Jb;show r∈(if e.op=63 then [e.a.1] else [])↔_;split<;>simp
theorem QeT{out:Nat→Prop}{e:Z6}{r:Nat}:∀(l:List Qz),lvL (fun x=>x∈Jb e∨out x) (l.map QK) r↔r∈JW l e∨(out r∧r∉J3 l)
 | []=>by simp[lvL,JW,J3]
 | t::l=>by
  rw[List.map_cons,lvL,QeT l,VA,K4,JW,QB];by_cases h33:t.op=33
  ·rw[if_pos h33,if_pos h33];have hg:J3 (t::l)=J3 l:=by simp[J3,h33]
   rw[hg];simp[or_assoc]
  ·rw[if_neg h33,if_neg h33,G8];have hg:J3 (t::l)=t.to.1::J3 l:=by simp[J3,h33]
   rw[hg,List.mem_cons];by_cases e:r=t.to.1
   ·subst e;simp
   ·have e1:¬(some t.to.1=some r):=fun q=>e (by cases q;rfl);simp[e,e1,or_assoc]
theorem Qhm{bs:List Qm}{X:Nat→List Nat}{b r:Nat}:UC (absP bs) (fun i x=>x∈X i) b r↔r∈Jb (bkF bs b).e∨r∈neL bs X b:=by
 unfold UC;rw[QX,WV];refine or_congr (Qg8 _ _) ?_;constructor
 ·rintro⟨s,hs,x,hx,e⟩;refine⟨s,(KO bs b s).1 hs,x,hx,?_⟩;rw[VF];rw[QX]at e;exact e
 ·rintro⟨s,hs,x,hx,e⟩;refine⟨s,(KO bs b s).2 hs,x,hx,?_⟩;rw[VF]at e;rw[QX];exact e
theorem GH{bs:List Qm}{X:Nat→List Nat}{b r:Nat}:r∈Xr bs X b↔lvL (UC (absP bs) (fun i x=>x∈X i) b) (bkA (absP bs) b).sts r:=by
 rw[KF,QX];show _↔lvL _ ((bkF bs b).sts.map QK) r;rw[←QeT (out:=fun x=>x∈neL bs X b)];have e:UC (absP bs) (fun i x=>x∈X i) b=fun x=>x∈Jb (bkF bs b).e∨x∈neL bs X b:=by
  funext x;exact propext Qhm
 rw[e]
theorem Qju{bs:List Qm}(hf:∀b∈bs,QU 1000000 b):QdF (absP bs) (fun b r=>r∈ndL bs b):=fun b r hb=>by
 have hb:b<bs.length:=by simpa[absP] using hb
 rw[←GH,Qhz hf hb]
theorem Rx{bs:List Qm}(hr:J5 bs):∀(n b r:Nat),b<bs.length→r∈ndX bs n b→ndK (absP bs) n b r
 | 0,_,_,_,h=>by cases h
 | n+1,b,r,hb,h=>by
  have h:r∈Xr bs (ndX bs n) b:=h;rw[GH]at h;refine⟨by simpa[absP] using hb,UT (fun x hx=>?_) h⟩;rcases hx with hx|⟨s,hs,y,hy,e⟩
  ·exact .inl hx
  ·exact .inr ⟨s,hs,y,Rx hr n s y (XB hr.goals b s ((KO bs b s).1 hs)) hy,e⟩
theorem Qjh{bs:List Qm}(hr:J5 bs)(hop:∀b∈bs,b.e.op=46∨b.e.op=62∨b.e.op=63)(hsrc:∀i (hi:i<bs.length),∀c∈bs[i].chs,c.gs.map (·.1)=aheF bs i)(hrs:∀b∈bs,∀c∈b.chs,c.rs.length=c.gs.length)(hnd:∀b∈bs,(b.chs.map (·.to.1)).Nodup):QOk (absP bs):=by
 have hl:(absP bs).length=bs.length:=by simp[absP]
 refine⟨by rw[hl];exact hr.pos,fun i k hk=>by rw[hl];exact XB hr.goals i k ((KO bs i k).1 hk),fun i hi=>?_,fun {b c} hc=>?_,fun b=>?_⟩
 ·rw[QX,Zj (by omega)];exact hop _ (Qx (by omega))
 ·obtain⟨d,hd,rfl,hb⟩:=RV hc;rw[Zj hb]at hd;rw[Qaw (hrs _ (Qx hb) d hd),←Yc];exact hsrc b hb d hd
 ·rw[QX];show (((bkF bs b).chs.map Zn).map (·.to)).Nodup;rw[List.map_map];rcases Nat.lt_or_ge b bs.length with h|h
  ·rw[Zj h];exact hnd _ (Qx h)
  ·rw[bkF,ZI h];exact List.Pairwise.nil
def isG(t:Qz):Bool:=t.op != 33
def gvN(l:List Qz)(k:Nat):Nat:=((l.take k).filter isG).length
theorem Qfo(l):gvN l 0=0:=by simp[gvN]
theorem Qb7{l:List Qz}{k:Nat}(hk:k<l.length)(h:isG l[k]=true):gvN l (k+1)=gvN l k+1:=by
 unfold gvN;rw[List.take_succ_eq_append_getElem hk,List.filter_append];simp[h]
theorem QjM{l:List Qz}{k:Nat}(hk:k<l.length)(h:isG l[k]=false):gvN l (k+1)=gvN l k:=by
 unfold gvN;rw[List.take_succ_eq_append_getElem hk,List.filter_append];simp[h]
theorem Qfp{l:List Qz}{j k:Nat}(h:j≤k):gvN l j≤gvN l k:=by
 unfold gvN;have:(l.take j).Sublist (l.take k):=by
  rw[show l.take j=(l.take k).take j by rw[List.take_take,Nat.min_eq_left h]];exact List.take_sublist _ _
 exact(this.filter _).length_le
theorem Qa5{l:List Qz}{j k:Nat}(hj:j<l.length)(hg:isG l[j]=true)(h:j<k):gvN l j<gvN l k:=by
 have h1:=Qb7 hj hg;have h2:=Qfp (l:=l) (show j+1≤k by omega);omega
theorem Qa6(l:List Qz)(k:Nat):gvN l k≤k:=by
 unfold gvN;refine Qy (List.length_filter_le _ _) ?_;rw[List.length_take];omega
def cntN(bs:List Qm)(f:Nat→List Nat):Nat→Nat
 | 0=>0
 | i+1=>cntN bs f i+(f i).length+gvN (bkF bs i).sts (bkF bs i).sts.length
theorem KJ{bs f}:∀{i j:Nat},i≤j→cntN bs f i≤cntN bs f j
 | i,0,h=>by have:i=0:=(by omega);subst this;exact Qi _
 | i,j+1,h=>by
  by_cases e:i=j+1
  ·subst e;exact Qi _
  ·have:=KJ (bs:=bs) (f:=f) (show i≤j by omega);rw[cntN];omega
def chN(bs:List Qm)(f:Nat→List Nat)(i r:Nat):Option Nat:=if r∈f i then some (cntN bs f i+(f i).idxOf r+1) else none
def giN(bs:List Qm)(f:Nat→List Nat)(i j:Nat):Nat:=match (bkF bs i).sts[j]? with
 | some t=>if isG t then cntN bs f i+(f i).length+gvN (bkF bs i).sts j+1 else 0
 | none=>0
theorem RM{bs f}{i j:Nat}(hj:j<(bkF bs i).sts.length):giN bs f i j=if isG (bkF bs i).sts[j] then cntN bs f i+(f i).length+gvN (bkF bs i).sts j+1 else 0:=by
 unfold giN;rw[Zl hj]
theorem VL{bs:List Qm}{b j:Nat}(h:Gh (absP bs) b j):∃hj:j<(bkF bs b).sts.length,isG (bkF bs b).sts[j]=true:=by
 obtain⟨t,ht,hn⟩:=h;rw[QX]at ht;have ht:((bkF bs b).sts.map QK)[j]?=some t:=ht;rw[List.getElem?_map]at ht;obtain⟨u,hu,rfl⟩:=Option.map_eq_some_iff.1 ht;obtain⟨hj,e⟩:=List.getElem?_eq_some_iff.1 hu;refine⟨hj,?_⟩;rw[e];rw[K4]at hn;unfold isG;by_cases h33:u.op=33
 ·rw[if_pos h33]at hn;exact absurd rfl hn
 ·simp[h33]
theorem YB{bs f}{i r n:Nat}(h:chN bs f i r=some n):r∈f i∧n=cntN bs f i+(f i).idxOf r+1∧cntN bs f i<n∧n≤cntN bs f i+(f i).length∧n≤cntN bs f (i+1):=by
 unfold chN at h;split at h
 ·rename_i hm;cases h;have:=List.idxOf_lt_length_of_mem hm;refine⟨hm,rfl,by omega,by omega,?_⟩;rw[cntN];omega
 ·cases h
theorem U0{bs f}{i j:Nat}(hj:j<(bkF bs i).sts.length)(hg:isG (bkF bs i).sts[j]=true):giN bs f i j=cntN bs f i+(f i).length+gvN (bkF bs i).sts j+1∧cntN bs f i+(f i).length<giN bs f i j∧giN bs f i j≤cntN bs f (i+1):=by
 have e:giN bs f i j=cntN bs f i+(f i).length+gvN (bkF bs i).sts j+1:=by rw[RM hj,if_pos hg]
 have:=Qa5 hj hg hj;refine⟨e,by omega,?_⟩;rw[cntN];omega
theorem Us{bs f}{i i' n:Nat}(h1:cntN bs f i<n)(h2:n≤cntN bs f (i+1))(h3:cntN bs f i'<n)(h4:n≤cntN bs f (i'+1)):i=i':=by
 rcases Nat.lt_trichotomy i i' with h|h|h
 ·have:=KJ (bs:=bs) (f:=f) (show i+1≤i' by omega);omega
 ·exact h
 ·have:=KJ (bs:=bs) (f:=f) (show i'+1≤i by omega);omega
theorem QhO{l:List Nat}{a b:Nat}(ha:a∈l)(hb:b∈l)(h:l.idxOf a=l.idxOf b):a=b:=by
 have h1:=List.getElem_idxOf (List.idxOf_lt_length_of_mem ha);have h2:=List.getElem_idxOf (List.idxOf_lt_length_of_mem hb);rw[←h1,←h2];simp only[h]
theorem Qkj(bs:List Qm)(f:Nat→List Nat)(kp:Nat→Option Nat):Uq (absP bs) ⟨kp,chN bs f,giN bs f⟩:=by
 refine⟨fun {b j} hg=>?_,fun {b r n} h=>?_,fun {b j b' j'} h1 h2 e=>?_,fun {b r b' r' n} h1 h2=>?_,fun {b j b' r' n} h1 h2 e=>?_⟩
 ·obtain⟨hj,hg⟩:=VL hg;have:=(U0 (f:=f) hj hg).2.1;show 0<giN bs f b j;omega
 ·have:=(YB h).2.2.1;omega
 ·obtain⟨hj,hg⟩:=VL h1;obtain⟨hj',hg'⟩:=VL h2;have e:giN bs f b j=giN bs f b' j':=e;have q:=U0 (f:=f) hj hg;have q':=U0 (f:=f) hj' hg';have hb:b=b':=Us (bs:=bs) (f:=f) (n:=giN bs f b j) (by omega) (by omega) (by omega) (by omega);subst hb;refine⟨rfl,?_⟩;rcases Nat.lt_trichotomy j j' with h|h|h
  ·have:=Qa5 hj hg h;omega
  ·exact h
  ·have:=Qa5 hj' hg' h;omega
 ·have q:=YB h1;have q':=YB h2;have hb:b=b':=Us (bs:=bs) (f:=f) (n:=n) (by omega) (by omega) (by omega) (by omega);subst hb;exact⟨rfl,QhO q.1 q'.1 (by omega)⟩
 ·obtain⟨hj,hg⟩:=VL h1;have e:giN bs f b j=n:=e;have q:=U0 (f:=f) hj hg;have q':=YB h2;have hb:b=b':=Us (bs:=bs) (f:=f) (n:=n) (by omega) (by omega) (by omega) (by omega);subst hb;omega
theorem QhB{bs:List Qm}(hr:J5 bs){LM:Nat→Option (List Nat)}{f:Nat→List Nat}(h:PlF bs (ndL bs) LM f bs.length 0):Gq (absP bs) (fun b r=>r∈ndL bs b) (fun r b=>(∃l,LM r=some l∧b∈l)∨LM r=none) ⟨WK (suF bs) bs.length,chN bs f,giN bs f⟩:=by
 have hlt:∀{b},Cm (absP bs) b→b<bs.length:=fun {b} hb=>((KT bs noB b).1 hb).lt hr.pos (XB hr.goals);refine⟨QeY hr,fun {r b s} hb hg hrim=>?_,fun {b r} hb=>?_⟩
 ·cases hL:LM r with
  | none=>exact .inr rfl
  | some l=>
   refine .inl ⟨l,rfl,?_⟩;have hm:=h.mt r l hL;refine hm.2.2.1 b ?_ s (Qja hr hrim);rcases hg with hg|hg
   ·refine .inl (List.mem_filter.2 ⟨List.mem_range.2 (hlt hb),?_⟩);unfold gvF;rw[Bool.or_eq_true,Uf,List.any_eq_true];rcases hg with ⟨c,hc,e⟩|⟨t,ht,e⟩
    ·rw[QX]at hc;obtain⟨d,hd,rfl⟩:=Qv.1 hc;exact .inl ⟨d,hd,e⟩
    ·rw[QX]at ht;obtain⟨u,hu,rfl⟩:=Qv.1 ht;rw[K4]at e;refine .inr ⟨u,hu,?_⟩;by_cases h33:u.op=33
     ·rw[if_pos h33]at e;cases e
     ·rw[if_neg h33]at e;cases e;simp[h33]
   ·rcases hg with ⟨l',e,hb⟩|hg
    ·rw[hL]at e;cases e;exact .inr hb
    ·rw[hL]at hg;cases hg
 ·have hb':=hlt hb;have hd:=h.done b hb';show chN bs f b r≠none↔_;have e1:chN bs f b r≠none↔r∈f b:=by unfold chN;split<;>simp_all
  rw[e1,hd,List.mem_filter];refine and_congr_right fun hm=>?_;have hL:=h.old b hb' r hm;obtain⟨l,hl⟩:=Option.ne_none_iff_exists'.1 hL;unfold plB;rw[hl,Bool.or_eq_true];show QD l b=true∨_↔_;rw[Ze,Uf];constructor
  ·rintro (h1|⟨c,hc,e⟩)
   ·exact .inl (.inl ⟨l,rfl,h1⟩)
   ·exact .inr ⟨Zn c,by rw[QX];exact Qv.2 ⟨c,hc,rfl⟩,e⟩
  ·rintro ((⟨l',e,h1⟩|h1)|⟨c,hc,e⟩)
   ·cases e;exact .inl h1
   ·cases h1
   ·rw[QX]at hc;obtain⟨d,hd,rfl⟩:=Qv.1 hc;exact .inr ⟨d,hd,e⟩
theorem WE{H:Type}(x:Lit×DataW H):∀l:List (Lit×DataW H),(DataW.insert x l).Perm (x::l)
 | []=>by unfold DataW.insert;exact List.Perm.refl _
 | y::l=>by
  unfold DataW.insert;split
  ·exact List.Perm.refl _
  ·exact((WE x l).cons y).trans (List.Perm.swap x y l)
theorem Qeh{D:DataW Value}(hD:IsMap D){k:Lit}(h:Maps.has D k=false)(d:DataW Value):(intKeys (D.put k d)).Perm (Go.intOf k::intKeys D):=by
 obtain⟨es,rfl⟩:=hD;rw[DataW.put_eq];have e:es.filter (ChangeMaps.notKey k)=es:=by
  rw[List.filter_eq_self];intro p hp;have h:es.any (fun p=>p.1.sameKey k)=false:=h;rw[List.any_eq_false]at h;have:=h p hp;unfold ChangeMaps.notKey;simpa using this
 show ((DataW.insert (k,d) (es.filter (ChangeMaps.notKey k))).map fun p=>Go.intOf p.1).Perm _;rw[e];exact(WE (k,d) es).map fun p=>Go.intOf p.1
theorem Qbq(w:World):(zeroValue 78).run prog w=.ok (.int .i64 0) w:=by kernel_rfl
def ChM(w:World)(b kk:Nat)(l:List Nat)(n0:Nat):Prop:=
 ∃D:DataW Value,w.ownsMap prog 78 (plainElem prog 78) b kk D∧(∀r:Nat,Maps.has D (.int .i64 r)=QD l r)∧(∀r:Nat,D.atKey (.int .i64 r) (.lit (.int .i64 0))=.lit (.int .i64 (if r∈l then n0+l.idxOf r+1 else 0:Nat)))∧(intKeys D).Perm (l.map fun r:Nat=>(r:Int))
theorem Qa1{w w':World}{b n:Nat}{D:DataW Value}(h:w.ownsMap prog 78 (plainElem prog 78) b n D)(e:w'.heap[b]?=w.heap[b]?):w'.ownsMap prog 78 (plainElem prog 78) b n D:=by
 obtain⟨es,clock,hb,r⟩:=h;exact⟨es,clock,by rw[e];exact hb,r⟩
theorem ChM.lt{w b kk l n0}(h:ChM w b kk l n0):b<w.heap.size:=by obtain⟨D,m,_⟩:=h;exact m.lt
theorem ChM.map{w b kk l n0}(h:ChM w b kk l n0):∃es clock,w.heap[b]?=some (.map es clock):=by
 obtain⟨D,⟨es,clock,hb,_⟩,_⟩:=h;exact⟨es,clock,hb⟩
theorem ChM.at{w w' b kk l n0}(h:ChM w b kk l n0)(e:w'.heap[b]?=w.heap[b]?):ChM w' b kk l n0:=by
 obtain⟨D,m,r⟩:=h;exact⟨D,Qa1 m e,r⟩
theorem ChM.new(w:World)(n0:Nat):ChM (w.alloc (.map #[] 0)) w.heap.size 0 [] n0:=
 ⟨.map [],World.ownsMap_made w prog 78 (plainElem prog 78),fun _=>rfl,fun _=>by simp;rfl,List.Perm.refl _⟩
theorem wfN{n:Nat}(h:n<1000000):(Lit.int .i64 (n:Int)).wf=true:=by
 have h1:IntKind.i64.min=-9223372036854775808:=rfl;have h2:IntKind.i64.max=9223372036854775807:=rfl;simp[Lit.wf,h1,h2];omega
theorem ChM.ok{w b kk l n0}(h:ChM w b kk l n0){r:Nat}(hr:r<10000):(Instr.lookup 166 (.map (some b)) (.int .i64 r) true).run prog w=.ok (.tuple #[.int .i64 (if r∈l then n0+l.idxOf r+1 else 0:Nat),.bool (QD l r)]) w:=by
 obtain⟨D,m,s,a,_⟩:=h;obtain⟨v,ps,h1,h2⟩:=m.look_ok Qdg underlying166 (Qbq w) (zd:=.lit (.int .i64 0)) (zp:=[]) (plainElem_int underlying78 (by decide)) (keyOf_int_mk underlying78 (QcH hr));rw[a r]at h2;obtain⟨c,rfl,hc,_⟩:=plainElem_int_inv underlying78 h2;rw[s r]at h1;have:c=((if r∈l then n0+l.idxOf r+1 else 0:Nat):Int):=by
  have e:=congrArg Prod.fst hc;simp at e;exact e.symm
 rw[this]at h1;exact h1
theorem ChM.get{w b kk l n0}(h:ChM w b kk l n0){r:Nat}(hr:r<10000):(Instr.lookup 166 (.map (some b)) (.int .i64 r) false).run prog w=.ok (.int .i64 (if r∈l then n0+l.idxOf r+1 else 0:Nat)) w:=by
 obtain⟨D,m,s,a,_⟩:=h;obtain⟨v,ps,h1,h2⟩:=m.lookup Qdg underlying166 (Qbq w) (zd:=.lit (.int .i64 0)) (zp:=[]) (plainElem_int underlying78 (by decide)) (keyOf_int_mk underlying78 (QcH hr));rw[a r]at h2;obtain⟨c,rfl,hc,_⟩:=plainElem_int_inv underlying78 h2;have:c=((if r∈l then n0+l.idxOf r+1 else 0:Nat):Int):=by
  have e:=congrArg Prod.fst hc;simp at e;exact e.symm
 rw[this]at h1;exact h1
theorem ChM.put{w b kk l n0}(h:ChM w b kk l n0){r:Nat}(hr:r<10000)(hk:kk<maxLen)(hn:n0+l.length+1<1000000)(hnew:r∉l):
  ∃w',(Instr.mapUpdate 166 (.map (some b)) (.int .i64 r) (.int .i64 (n0+l.length+1:Nat))).run prog w=.ok () w'∧ChM w' b (kk+1) (l++[r]) n0∧w.grownBy w' (some b):=by
 obtain⟨D,m,s,a,q⟩:=h;obtain⟨w',h1,h2,h3⟩:=m.update Qdg underlying166 hk (keyOf_int_mk underlying78 (QcH hr)) (val:=.int .i64 (n0+l.length+1:Nat)) (d:=.lit (.int .i64 (n0+l.length+1:Nat))) (ps:=[]) (plainElem_int underlying78 (wfN hn));refine⟨w',h1,⟨_,h2,fun x=>?_,fun x=>?_,?_⟩,h3⟩
 ·by_cases e:x=r
  ·subst e;rw[has_put_same m.isMap (by simp[WideAt.IsKeyLit])];exact(Ze.2 (by simp)).symm
  ·rw[has_put_other (RF e),s x];rw[Bool.eq_iff_iff,Ze,Ze];simp[e]
 ·by_cases e:x=r
  ·subst e;rw[atKey_put_same m.isMap (by simp[WideAt.IsKeyLit]),if_pos (by simp),List.idxOf_append,if_neg hnew];simp
  ·rw[atKey_put_other (RF e),a x];by_cases hx:x∈l
   ·rw[if_pos hx,if_pos (by simp[hx]),List.idxOf_append,if_pos hx]
   ·rw[if_neg hx,if_neg (by simp[hx,e])]
 ·have hh:Maps.has D (.int .i64 r)=false:=by
   rw[s r]
   cases h5:QD l r with
   | false=>rfl
   | true=>exact absurd (Ze.1 h5) hnew
  refine(Qeh m.isMap hh _).trans ?_;rw[List.map_append];refine(List.Perm.cons _ q).trans ?_;exact(List.perm_append_comm (l₁:=[(r:Int)])).symm.symm
def ChQ(w:World)(base:Nat)(v:Value)(n:Nat)(bs:List Qm)(f:Nat→List Nat):Prop:=
 ∃us:List Value,w.ownsRow base 166 1 v n us∧∀(k:Nat)(u:Value),us[k]?=some u→∃b kk,u=.map (some b)∧ChM w b kk (f k) (cntN bs f k)
def giL(bs:List Qm)(f:Nat→List Nat)(k:Nat):List Nat:=(List.range (bkF bs k).sts.length).map (giN bs f k)
theorem Qca(bs f k):(giL bs f k).length=(bkF bs k).sts.length:=by simp[giL]
theorem Qfz{bs f k}{j:Nat}(hj:j<(giL bs f k).length):(giL bs f k)[j]=giN bs f k j:=by simp[giL]
def GiQ(w:World)(base:Nat)(v:Value)(n:Nat)(bs:List Qm)(f:Nat→List Nat):Prop:=
 ∃us:List Value,w.ownsRow base 159 1 v n us∧∀(k:Nat)(u:Value),us[k]?=some u→w.ownsRow base 78 1 u (giL bs f k).length (Qe (giL bs f k))
theorem ChQ.keeps{w w' base v n bs f}(h:ChQ w base v n bs f)(F:Below w.heap.size w w'):ChQ w' base v n bs f:=by
 obtain⟨us,a,b⟩:=h;refine⟨us,Qd a (Qh F) trivial,fun k u hu=>?_⟩;obtain⟨x,kk,e,m⟩:=b k u hu;exact⟨x,kk,e,m.at (F.block _ m.lt)⟩
theorem GiQ.keeps{w w' base v n bs f}(h:GiQ w base v n bs f)(F:Below w.heap.size w w'):GiQ w' base v n bs f:=by
 obtain⟨us,a,b⟩:=h;exact⟨us,Qd a (Qh F) trivial,fun k u hu=>Qd (b k u hu) (Qh F) trivial⟩
theorem ChQ.slice{w base v n bs f}(h:ChQ w base v n bs f):∃p c,v=.slice p n c:=by obtain⟨us,a,_⟩:=h;exact Qa a
theorem GiQ.slice{w base v n bs f}(h:GiQ w base v n bs f):∃p c,v=.slice p n c:=by obtain⟨us,a,_⟩:=h;exact Qa a
theorem ChQ.at{w:World}{base n:Nat}{p:Option Addr}{c:Nat} {bs f}(h:ChQ w base (.slice p n c) n bs f){k:Nat}(hk:k<n):∃g b kk,p=some ⟨g,0,none⟩∧w.cell? ⟨g,k,none⟩=some (.map (some b))∧ChM w b kk (f k) (cntN bs f k):=by
 obtain⟨us,a,b⟩:=h;obtain⟨g,rfl,_,_⟩:=Qk a (by omega);have hl:us.length=n:=by have:=a.1;omega
 have huk:us[k]?=some us[k]:=Zl (by omega);obtain⟨x,kk,e,m⟩:=b k _ huk;exact⟨g,x,kk,rfl,by rw[Qf a huk,e],m⟩
theorem GiQ.at{w:World}{base n:Nat}{p:Option Addr}{c:Nat} {bs f}(h:GiQ w base (.slice p n c) n bs f){k:Nat}(hk:k<n):∃g pu cu,p=some ⟨g,0,none⟩∧w.cell? ⟨g,k,none⟩=some (.slice pu (giL bs f k).length cu)∧w.ownsRow base 78 1 (.slice pu (giL bs f k).length cu) (giL bs f k).length (Qe (giL bs f k)):=by
 obtain⟨us,a,b⟩:=h;obtain⟨g,rfl,_,_⟩:=Qk a (by omega);have hl:us.length=n:=by have:=a.1;omega
 have huk:us[k]?=some us[k]:=Zl (by omega);have o:=b k _ huk;obtain⟨pu,cu,e⟩:=Qa o;exact⟨g,pu,cu,rfl,by rw[Qf a huk,e],by rw[←e];exact o⟩
structure MkF(bs:List Qm)(f:Nat→List Nat)(mb base B Bn Bc:Nat)(v va vu vah vnd vch vgi:Value)(w:World):Prop where
 m:MkG bs mb base B v va vu vah vnd vch vgi w
 ah:XK Bn w vah bs.length (aheF bs)
 nd:ZC Bn w vnd bs.length (ndL bs)
 ch:ChQ w Bc vch bs.length bs f
 gi:GiQ w Bc vgi bs.length bs f
theorem MkF.keeps{bs f mb base B Bn Bc v va vu vah vnd vch vgi w w'}(h:MkF bs f mb base B Bn Bc v va vu vah vnd vch vgi w)(F:Below w.heap.size w w'):MkF bs f mb base B Bn Bc v va vu vah vnd vch vgi w':=
 ⟨h.m.keeps F,h.ah.keeps F,h.nd.keeps F,h.ch.keeps F,h.gi.keeps F⟩
noncomputable def mkD(bs:List Qm)(f:Nat→List Nat):MkD:=⟨WK (suF bs) bs.length,chN bs f,giN bs f⟩
noncomputable def nzF(bs:List Qm)(f:Nat→List Nat):Bool:=(ndL bs 0).any fun r=>!QD (f 0) r
theorem QaP(bs:List Qm)(f:Nat→List Nat)(mb base B Bn Bc:Nat)(v va vu vah vnd vch vgi:Value)(w:World)(hM:MkF bs f mb base B Bn Bc v va vu vah vnd vch vgi w)(hf:Hid (∀b∈bs,QU 1000000 b))(hn0:0<bs.length):
  Calls prog 81 #[.pointer (some ⟨mb,0,none⟩)] w fun x w'=>x=.returned (.bool (nzF bs f))∧Below w.heap.size w w':=by
 obtain⟨pn,cn,rfl⟩:=hM.nd.slice;obtain⟨pc,cc,rfl⟩:=hM.ch.slice;obtain⟨gn,un,rfl,_,hgn,cn5,_,on5⟩:=hM.nd.at hn0;obtain⟨pu,cu,rfl⟩:=Qa on5;have m5:=Qb hM.m.b 5;simp at m5;have hXl:=(Jz hf.out (ndN bs) 0).len;have HSM:Hid (∀r∈ndL bs 0,r<10000):=(Jz hf.out (ndN bs) 0).2;have hXl:(ndL bs 0).length≤10000:=hXl;have HM:=Qc (And.intro hM on5);clear hM on5;have HNZ:Hid (nzF bs f=(ndL bs 0).any fun r=>!QD (f 0) r):=rfl;generalize nzF bs f=nz at *;go_enter func81,ntmps81;go_wp2_with fail;refine(Qe5 (ndL bs 0) Bn _ w HM.o.2 (by omega)).mono ?_;rintro e w2 ⟨v2,rfl,o2,f2⟩;obtain⟨p2,c2,rfl⟩:=Qa o2;have H2:Hid ((∀r∈(ndL bs 0).take 0,QD (f 0) r=true)∧w2.ownsRow w.heap.size 78 1 (.slice p2 (ndL bs 0).length c2) (ndL bs 0).length (Qe (ndL bs 0))∧Below w.heap.size w w2):=⟨fun r hr=>absurd hr (by simp),o2,f2⟩;clear o2 f2 cn5 m5;go_wp2_with fail
 go_loopw [15] (fun j wr=>∃t:Nat,t≤(ndL bs 0).length∧j=.int .i64 t∧Hid ((∀r∈(ndL bs 0).take t,QD (f 0) r=true)∧wr.ownsRow w.heap.size 78 1 (.slice p2 (ndL bs 0).length c2) (ndL bs 0).length (Qe (ndL bs 0))∧Below w.heap.size w wr)) (fun j _=>(ndL bs 0).length-(intOf j).toNat)
 case atStart=>exact⟨0,by omega,rfl,H2⟩
 case round=>
  clear H2;obtain⟨t,ht,rfl,HI⟩:=hrel;rename World=>wA;by_cases htl:t<(ndL bs 0).length
  ·obtain⟨g2,rfl,_,_⟩:=Qk HI.o.2.1 (by omega);have c0:=Qf HI.o.2.1 (QY htl);have MA:=HM.o.1.keeps HI.o.2.2;have m6:=Qb MA.m.b 6;simp at m6;obtain⟨gc,b,kk,rfl,cc0,cm⟩:=MA.ch.at hn0;have hlk:=cm.ok (HSM.o _ (Qx htl));have HTK:Hid ((ndL bs 0).take (t+1)=(ndL bs 0).take t++[(ndL bs 0)[t]]):=Zb htl;have HME:Hid ((ndL bs 0)[t]∈ndL bs 0):=Qx htl;clear MA cm;obtain⟨hb,hhb⟩:∃hb,hb=QD (f 0) (ndL bs 0)[t]:=⟨_,rfl⟩;rw[←hhb]at hlk;have HHB:=Qc hhb;clear hhb;obtain⟨cw,hcw⟩:∃cw:Nat,cw=(if (ndL bs 0)[t]∈f 0 then cntN bs f 0+(f 0).idxOf (ndL bs 0)[t]+1 else 0):=⟨_,rfl⟩;rw[←hcw]at hlk;clear hcw
   cases hb with
   | false=>
    have HE:Hid (nz=true):=by
     show nz=true;rw[HNZ.o,List.any_eq_true];exact⟨_,HME.o,by rw[←HHB.o];rfl⟩
    have F:=Qc HI.o.2.2;clear HI;go_wp2_with fail;go_ret;refine⟨?_,F.o⟩;rw[HE.o];rfl
   | true=>
    have HN:Hid ((∀r∈(ndL bs 0).take (t+1),QD (f 0) r=true)∧wA.ownsRow w.heap.size 78 1 (.slice (some ⟨g2,0,none⟩) (ndL bs 0).length c2) (ndL bs 0).length (Qe (ndL bs 0))∧Below w.heap.size w wA):=by
     refine⟨fun r hr=>?_,HI.o.2⟩;rw[HTK.o]at hr;rcases QB.1 hr with hr|hr
     ·exact HI.o.1 r hr
     ·rw[QF.1 hr];exact HHB.o.symm
    clear HI;go_wp2_with fail;go_roundw
    case rel=>exact⟨t+1,by omega,by go_num,HN⟩
    case measure=>simp[intOf];omega
  ·have HE:Hid (nz=false):=by
    show nz=false;rw[HNZ.o,List.any_eq_false];intro r hr;have:=HI.o.1 r (by rw[Zg (by omega)];exact hr);rw[this];decide
   have F:=Qc HI.o.2.2;clear HI;go_wp2_with fail;go_ret;refine⟨?_,F.o⟩;rw[HE.o];rfl
end Go.Proofs.YtgfhfkgdmidhpaaGreatDoor
