import Derived.Test.YtgfhfkgdmidhpaaGreatDoorC14
namespace Go.Proofs.YtgfhfkgdmidhpaaGreatDoor
open Go.RowKit
set_option maxRecDepth 100000
set_option maxHeartbeats 8000000
def suF(bs:List Ql)(i:Nat):List Nat:=match bs[i]? with|some b=>bhd b.e|none=>[]
theorem Wo{bs:List Ql}{i:Nat}(hi:i<bs.length):suF bs i=bhd bs[i].e:=by rw[suF,List.getElem?_eq_getElem hi]
theorem Kw{bs:List Ql}(h:∀b∈bs,∀p∈goalsF b.e,p.1<bs.length):∀i k,k∈suF bs i→k<bs.length:=by
 intro i k hk;unfold suF at hk
 cases hb:bs[i]? with
 | none=>rw[hb]at hk;cases hk
 | some b=>
  rw[hb]at hk;obtain⟨p,hp,rfl⟩:=QbE.1 hk;exact h b (List.mem_of_getElem? hb) p hp
theorem QaJ{l:List Nat}{n:Nat}(h:l.Pairwise (· < ·))(hl:∀x∈l,x<n):l.length≤n:=by
 have e:l=QC n (Qt l):=Y3 h fun x=>by
  rw[ZJ];exact⟨fun hx=>⟨hl x hx,hx⟩,fun hx=>hx.2⟩
 rw[e];exact Xy _ _
def bhs(bs:List Ql)(S:List Nat):List Nat:=ofL (S.flatMap (suF bs))
theorem QgG(bs S):(bhs bs S).Pairwise (· < ·):=XX _
theorem Vm{bs S x}:x∈bhs bs S↔∃i∈S,x∈suF bs i:=by rw[bhs,Z1,List.mem_flatMap]
theorem QeS{bs:List Ql}{S:List Nat}{k:Nat}(hk:k<S.length)(hb:S[k]<bs.length):ofL (bhs bs (S.take k)++bhd bs[S[k]].e)=bhs bs (S.take (k+1)):=
 ZX (XX _) (XX _) fun x=>by
  rw[Z1,List.mem_append,Vm,Vm,List.take_succ_eq_append_getElem hk,←Wo hb];constructor
  ·rintro (⟨i,hi,hx⟩|hx)
   ·exact⟨i,List.mem_append.2 (.inl hi),hx⟩
   ·exact⟨S[k],List.mem_append.2 (.inr (List.mem_singleton.2 rfl)),hx⟩
  ·rintro⟨i,hi,hx⟩;rcases List.mem_append.1 hi with hi|hi
   ·exact .inl ⟨i,hi,hx⟩
   ·rw[List.mem_singleton.1 hi]at hx;exact .inr hx
theorem QbD{bs:List Ql}{S:List Nat}(h:∀b∈bs,∀p∈goalsF b.e,p.1<bs.length):(bhs bs S).length≤bs.length:=
 QaJ (QgG _ _) fun x hx=>by
  obtain⟨i,_,hi⟩:=Vm.1 hx;exact Kw h i x hi
theorem QgH(bs:List Ql)(S:List Nat)(base Bs:Nat)(v vs:Value)(w:World)(h:PBs w base bs v)(ho:w.ownsRow Bs 143 1 vs S.length (Qg S))(hS:Hid (∀x∈S,x<bs.length))(hgl:Hid (∀b∈bs,∀p∈goalsF b.e,p.1<bs.length))(hn:bs.length≤1000)(hl:S.length≤1000):
  Calls Tryz.prog 166 #[v,.agg #[vs]] w fun x w'=>∃v',x=.returned (.agg #[v'])∧w'.ownsRow w.heap.size 143 1 v' (bhs bs S).length (Qg (bhs bs S))∧Below w.heap.size w w':=by
 obtain⟨pv,cv,rfl⟩:=h.slice;obtain⟨po,co,rfl⟩:=Qb ho;have HP:=Qc h;have HO:=Qc ho;clear h ho;go_enter Tryz.func166,Tryz.ntmps166;go_wp2_with fail;obtain⟨W3,hW3⟩:∃W3,W3=((w.alloc (.cells #[.slice po S.length co] 82)).alloc (.cells #[.slice none 0 0] 82)).alloc (.cells #[.slice none 0 0] 82):=⟨_,rfl⟩;rw[←hW3];obtain⟨_,g1,g2,hz,f3⟩:=Wm w (.cells #[.slice po S.length co] 82) (.cells #[.slice none 0 0] 82) (.cells #[.slice none 0 0] 82);rw[←hW3]at g1 g2 hz f3;clear hW3;refine(Qi3 S Bs _ W3 (Qd HO.o (Qi f3) trivial) (by omega)).mono ?_;rintro r w5 ⟨vi,rfl,OI,f5⟩;have hs5:=f5.size;have B0:Hid (w5.heap[w.heap.size+1]?=some (.cells #[.slice none 0 0] 82 (0,0))∧w5.heap[w.heap.size+1+1]?=some (.cells #[.slice none 0 0] 82 (0,0))∧w5.ownsRow (w.heap.size+3) 143 1 vi S.length (Qg S)∧Below w.heap.size w w5∧w.heap.size+3≤w5.heap.size):=
  ⟨by rw[f5.block _ (by omega)];exact g1,by rw[f5.block _ (by omega)];exact g2,Qm OI (by omega),f3.trans (f5.mono (by omega)),by omega⟩
 obtain⟨pi,ci,rfl⟩:=Qb OI;clear g1 g2 f3 f5 hs5 hz OI;go_wp2_with fail
 go_loopw [11] (fun i wr=>∃(k:Nat)(va:Value),k≤S.length∧i=.int .i64 k∧Hid (wr.heap[w.heap.size+1]?=some (.cells #[.slice none 0 0] 82 (0,0))∧wr.heap[w.heap.size+1+1]?=some (.cells #[va] 82 (0,0))∧wr.ownsRow (w.heap.size+3) 143 1 va (bhs bs (S.take k)).length (Qg (bhs bs (S.take k)))∧wr.ownsRow (w.heap.size+3) 143 1 (.slice pi S.length ci) S.length (Qg S)∧Below w.heap.size w wr∧w.heap.size+3≤wr.heap.size)) (fun i _=>S.length-(intOf i).toNat)
 case atStart=>exact⟨0,_,by omega,rfl,B0.o.1,B0.o.2.1,by simpa[bhs,ofL,Xe,XC,Lib.compact,Lib.compactUpTo,Qg] using World.ownsRow_nil _ _ _ _,B0.o.2.2.1,B0.o.2.2.2.1,B0.o.2.2.2.2⟩
 case round=>
  clear B0;obtain⟨k,va,hk,rfl,HR⟩:=hrel;obtain⟨r1,r2,rv,ri,rf,rz⟩:=HR.o;by_cases hlt:k<S.length
  ·obtain⟨gi,rfl,_,hgs⟩:=Qh ri (by omega);have c0:=Qe ri (ZI hlt);have hSk:=hS.out _ (List.getElem_mem hlt);have hPB:=HP.o.keeps (Qs.below rf);obtain⟨g,qc,cc,ps,cs1,rfl,_,hgz,hop,OC,OS,d0,d1,d2,d3⟩:=hPB.at hSk;obtain⟨pa,ca,rfl⟩:=Qb rv;have k2:=Qa r2 0;have k2f:=Qf r2 0;simp at k2;have L1:(bhs bs (S.take k)).length≤1000000:=Nat.le_trans (QbD hgl.out) (by omega);have L2:(bhd bs[S[k]].e).length≤1000000:=by
    have:=Zx bs[S[k]].e;have:=GI ((goalsF bs[S[k]].e).map (·.1));rw[List.length_map]at this;rw[bhd];omega
   have HX:=Qc (QeS hlt hSk);have HOP:=Qc hop;obtain⟨ev,hev⟩:∃ev,ev=QP bs[S[k]].e:=⟨_,rfl⟩;have HZ:=Qc (And.intro r1 (And.intro r2 (And.intro rv (And.intro ri (And.intro rf (And.intro rz hev))))));rw[←hev]at d3;obtain⟨T,x,hT⟩:=QU bs[S[k]].e;rw[←hev]at hT;rw[hT]at d3;have hTx:=Qc hT;have hmb:w.heap.size+1+1<wr.heap.size:=by omega
   have hgw:g<w.heap.size:=by
    obtain⟨g',_,_,_,_,e,_,hg',_⟩:=HP.o.at hSk;cases e;exact hg'
   have hgne:¬(w.heap.size+1+1=g):=by omega
   clear HR r1 r2 rv ri rf hPB hop OC OS hev hT;go_wp2_with fail;have HB:Hid (Calls Tryz.prog 127 #[.agg #[.int .i64 bs[S[k]].at_,.slice qc bs[S[k]].chs.length cc,.slice ps bs[S[k]].sts.length cs1,.iface T x]] wr.drew fun x w'=>∃v',x=.returned (.agg #[v'])∧w'.ownsRow wr.drew.heap.size 143 1 v' (bhd bs[S[k]].e).length (Qg (bhd bs[S[k]].e))∧Below wr.drew.heap.size wr.drew w'):=by
    rw[←hTx.out,HZ.o.2.2.2.2.2.2];exact QjJ bs[S[k]].e HOP.o bs[S[k]].at_ qc bs[S[k]].chs.length cc ps bs[S[k]].sts.length cs1 wr.drew
   go_region_law (first | (refine ZN rfl 127 #[.agg #[.int .i64 bs[S[k]].at_,.slice qc bs[S[k]].chs.length cc,.slice ps bs[S[k]].sts.length cs1,.iface T x]] (by go_simp) HB.o ?_;rintro e w6 ⟨v6,rfl,o6,f6⟩;obtain⟨p6,c6,rfl⟩:=Qb o6;have f6':Below wr.heap.size wr w6:=⟨f6.os,f6.tape,f6.output,f6.size,f6.block⟩;have y4:=f6'.cell (p:=⟨w.heap.size+1+1,0,none⟩) hmb;have y5:=f6'.frozen (p:=⟨w.heap.size+1+1,0,none⟩) hmb;have l6:w.heap.size+1+1<w6.heap.size:=Nat.lt_of_lt_of_le hmb f6'.size;have O6:=Qc (And.intro o6 f6');clear o6 f6 f6') | (refine ZN rfl 165 #[.agg #[.slice pa (bhs bs (S.take k)).length ca],.agg #[.slice p6 (bhd bs[S[k]].e).length c6]] (by go_simp) (QcE (bhs bs (S.take k)) (bhd bs[S[k]].e) (w.heap.size+3) wr.heap.size _ _ w6 (Qd HZ.o.2.2.1 (Qi O6.o.2) trivial) O6.o.1 L1 L2) ?_;rintro e w7 ⟨v7,rfl,o7,f7⟩;obtain⟨p7,c7,rfl⟩:=Qb o7;have z4:=f7.cell (p:=⟨w.heap.size+1+1,0,none⟩) l6;have z5:=f7.frozen (p:=⟨w.heap.size+1+1,0,none⟩) l6;have O7:=Qc (And.intro o7 f7);clear o7 f7) | fail)
   all_goals
    obtain⟨r1,r2,rv,ri,rf,rz,_⟩:=HZ.o;have hz6:=O6.o.2.size;have hz7:=O7.o.2.size;have f37:=O6.o.2.trans (O7.o.2.mono hz6);have H7:Hid ((w7.setCell ⟨w.heap.size+1+1,0,none⟩ (.slice p7 (ofL (bhs bs (S.take k)++bhd bs[S[k]].e)).length c7)).heap[w.heap.size+1]?=some (.cells #[.slice none 0 0] 82 (0,0))∧(w7.setCell ⟨w.heap.size+1+1,0,none⟩ (.slice p7 (ofL (bhs bs (S.take k)++bhd bs[S[k]].e)).length c7)).heap[w.heap.size+1+1]?=some (.cells #[.slice p7 (ofL (bhs bs (S.take k)++bhd bs[S[k]].e)).length c7] 82 (0,0))∧(w7.setCell ⟨w.heap.size+1+1,0,none⟩ (.slice p7 (ofL (bhs bs (S.take k)++bhd bs[S[k]].e)).length c7)).ownsRow (w.heap.size+3) 143 1 (.slice p7 (ofL (bhs bs (S.take k)++bhd bs[S[k]].e)).length c7) (bhs bs (S.take (k+1))).length (Qg (bhs bs (S.take (k+1))))∧(w7.setCell ⟨w.heap.size+1+1,0,none⟩ (.slice p7 (ofL (bhs bs (S.take k)++bhd bs[S[k]].e)).length c7)).ownsRow (w.heap.size+3) 143 1 (.slice (some ⟨gi,0,none⟩) S.length ci) S.length (Qg S)∧Below w.heap.size w (w7.setCell ⟨w.heap.size+1+1,0,none⟩ (.slice p7 (ofL (bhs bs (S.take k)++bhd bs[S[k]].e)).length c7))∧w.heap.size+3≤(w7.setCell ⟨w.heap.size+1+1,0,none⟩ (.slice p7 (ofL (bhs bs (S.take k)++bhd bs[S[k]].e)).length c7)).heap.size):=by
     have e1:w7.heap[w.heap.size+1]?=some (.cells #[.slice none 0 0] 82 (0,0)):=by rw[f37.block _ (by omega)];exact r1
     have e2:w7.heap[w.heap.size+1+1]?=some (.cells #[.slice pa (bhs bs (S.take k)).length ca] 82 (0,0)):=by rw[f37.block _ (by omega)];exact r2
     refine⟨Qo e1 (by omega) _ _,Qp e2 _ _,?_,?_,?_,by rw[Zo];omega⟩
     ·rw[←HX.o];exact Qm (QB O7.o.1 _ 0 _ (by omega)) (by omega)
     ·exact QB (Qd ri (Qi f37) trivial) _ 0 _ (by omega)
     ·exact Qr (rf.trans (f37.mono (by omega))) _ _ _ (by omega)
    clear r1 r2 rv ri rf rz hz6 hz7 f37 O6 O7 HZ HB;go_wp2_with fail;go_roundw
    case rel=>exact⟨k+1,_,by omega,by go_num,H7⟩
    case measure=>simp[intOf];omega
  ·have hke:k=S.length:=by omega
   subst hke;obtain⟨pv2,cv2,rfl⟩:=Qb rv;rw[List.take_length]at rv;have k1:=Qa r1 0;have k1f:=Qf r1 0;have k2:=Qa r2 0;simp at k1 k2;have F6:Hid ((wr.setCell ⟨w.heap.size+1,0,none⟩ (.slice pv2 (bhs bs S).length cv2)).ownsRow w.heap.size 143 1 (.slice pv2 (bhs bs S).length cv2) (bhs bs S).length (Qg (bhs bs S))∧Below w.heap.size w (wr.setCell ⟨w.heap.size+1,0,none⟩ (.slice pv2 (bhs bs S).length cv2))):=
    ⟨Qm (QB rv _ 0 _ (by omega)) (by omega),Qr rf _ _ _ (by omega)⟩
   clear HR r1 r2 rv ri rf;go_wp2_with fail;refine bodyPost_ret (v:=.agg #[.slice pv2 (bhs bs S).length cv2]) (by simp[results,Tryz.results166,go_sem,k1]) rfl ⟨_,rfl,?_,?_⟩
   ·exact F6.o.1
   ·exact F6.o.2
def Y1(bs:List Ql)(bar S:List Nat):List Nat:=dif (ofL (S++bhs bs S)) bar
theorem QbT{bs bar S x}:x∈Y1 bs bar S↔(x∈S∨x∈bhs bs S)∧x∉bar:=by rw[Y1,GX,Z1,List.mem_append]
theorem QbS(bs bar S):(Y1 bs bar S).Pairwise (· < ·):=GW (XX _)
theorem QgL{bs:List Ql}{S:List Nat}(hS:∀x∈S,x<bs.length)(h:∀b∈bs,∀p∈goalsF b.e,p.1<bs.length):(ofL (S++bhs bs S)).length≤bs.length:=
 QaJ (XX _) fun x hx=>by
  rw[Z1,List.mem_append]at hx;rcases hx with hx|hx
  ·exact hS x hx
  ·obtain⟨i,_,hi⟩:=Vm.1 hx;exact Kw h i x hi
theorem QiL(bs:List Ql)(S bar:List Nat)(base Bs Bb pb qb:Nat)(v vs vb:Value)(w:World)(h:PBs w base bs v)(ho:w.ownsRow Bs 143 1 vs S.length (Qg S))(hb:w.ownsRow Bb 143 1 vb bar.length (Qg bar))(hp:w.cell? ⟨pb,0,none⟩=some v)(hq:w.cell? ⟨qb,0,none⟩=some vb)
  (hS:Hid (∀x∈S,x<bs.length))(hsb:Hid (bar.Pairwise (· < ·)))(hgl:Hid (∀b∈bs,∀p∈goalsF b.e,p.1<bs.length))(hn:bs.length≤1000)(hl:S.length≤1000)(hlb:bar.length≤1000):
  Calls Tryz.prog 164 #[.agg #[vs],.pointer (some ⟨pb,0,none⟩),.pointer (some ⟨qb,0,none⟩)] w fun x w'=>∃v',x=.returned (.agg #[v'])∧w'.ownsRow w.heap.size 143 1 v' (Y1 bs bar S).length (Qg (Y1 bs bar S))∧Below w.heap.size w w':=by
 obtain⟨pv,cv,rfl⟩:=h.slice;obtain⟨po,co,rfl⟩:=Qb ho;obtain⟨pr,cr,rfl⟩:=Qb hb;have hpw:pb<w.heap.size:=World.block_lt_of_cell? _ _ hp;have hqw:qb<w.heap.size:=World.block_lt_of_cell? _ _ hq;have HP:=Qc (And.intro h (And.intro ho (And.intro hb (And.intro hp hq))));clear h ho hb hp hq;go_enter Tryz.func164,Tryz.ntmps164;go_wp2_with fail;obtain⟨W2,hW2⟩:∃W2,W2=(w.alloc (.cells #[.slice po S.length co] 82)).alloc (.cells #[.slice none 0 0] 82):=⟨_,rfl⟩;rw[←hW2];obtain⟨g0,g1,hz,f2⟩:=two w (.cells #[.slice po S.length co] 82) (.cells #[.slice none 0 0] 82);rw[←hW2]at g0 g1 hz f2;have k0:=Qa g0 0;have k1:=Qa g1 0;have k1f:=Qf g1 0;simp at k0 k1;have kp:W2.cell? ⟨pb,0,none⟩=some (.slice pv bs.length cv):=(f2.cell (p:=⟨pb,0,none⟩) hpw).trans HP.o.2.2.2.1;have kq:W2.cell? ⟨qb,0,none⟩=some (.slice pr bar.length cr):=(f2.cell (p:=⟨qb,0,none⟩) hqw).trans HP.o.2.2.2.2;have l0:w.heap.size<W2.heap.size:=by omega
 have l1:w.heap.size+1<W2.heap.size:=by omega
 have lp:pb<W2.heap.size:=by omega
 have lq:qb<W2.heap.size:=by omega
 have np:¬(w.heap.size+1=pb):=by omega
 have nq:¬(w.heap.size+1=qb):=by omega
 have L1:(bhs bs S).length≤1000000:=Nat.le_trans (QbD hgl.out) (by omega);have L2:(ofL (S++bhs bs S)).length≤1000000:=Nat.le_trans (QgL hS.out hgl.out) (by omega);have L3:S.length≤1000000:=by omega
 have L4:bar.length≤1000000:=by omega
 have O2:Hid (PBs W2.drew base bs (.slice pv bs.length cv)∧W2.ownsRow Bs 143 1 (.slice po S.length co) S.length (Qg S)∧W2.ownsRow Bb 143 1 (.slice pr bar.length cr) bar.length (Qg bar)):=
  ⟨HP.o.1.keeps (w':=W2.drew) (Qs.below (w':=W2) f2),Qd HP.o.2.1 (Qi f2) trivial,Qd HP.o.2.2.1 (Qi f2) trivial⟩
 have F2:=Qc f2;clear hW2 g0 g1 f2 HP
 go_region_held (fun w'=>w'.cell? ⟨w.heap.size,0,none⟩=some (.slice po S.length co)∧w'.cell? ⟨pb,0,none⟩=some (.slice pv bs.length cv)∧w'.cell? ⟨qb,0,none⟩=some (.slice pr bar.length cr)∧w'.frozen? ⟨w.heap.size+1,0,none⟩=false) (first | (simp[*];done) | (simp[*,World.cell?_setCell_far];done))
  (first | (go_at_call 166;refine(QgH bs S base Bs _ _ W2.drew O2.o.1 O2.o.2.1 hS hgl hn hl).mono ?_;rintro e w5 ⟨v5,rfl,o5,f5⟩;obtain⟨p5,c5,rfl⟩:=Qb o5;have f5':Below W2.heap.size W2 w5:=⟨f5.os,f5.tape,f5.output,f5.size,f5.block⟩;have s5:=f5'.size;have y0:=f5'.cell (p:=⟨w.heap.size,0,none⟩) l0;have y1:=f5'.cell (p:=⟨w.heap.size+1,0,none⟩) l1;have y1f:=f5'.frozen (p:=⟨w.heap.size+1,0,none⟩) l1;have yp:=f5'.cell (p:=⟨pb,0,none⟩) lp;have yq:=f5'.cell (p:=⟨qb,0,none⟩) lq;have O5:=Qc (And.intro o5 f5');clear o5 f5 f5') | (go_at_call 165;refine(QcE S (bhs bs S) Bs W2.heap.size _ _ w5 (Qd O2.o.2.1 (Qi O5.o.2) trivial) O5.o.1 L3 L1).mono ?_;rintro e w6 ⟨v6,rfl,o6,f6⟩;obtain⟨p6,c6,rfl⟩:=Qb o6;have s6:=f6.size;have z0:=f6.cell (p:=⟨w.heap.size,0,none⟩) (show w.heap.size<w5.heap.size by omega);have z1:=f6.cell (p:=⟨w.heap.size+1,0,none⟩) (show w.heap.size+1<w5.heap.size by omega);have z1f:=f6.frozen (p:=⟨w.heap.size+1,0,none⟩) (show w.heap.size+1<w5.heap.size by omega);have zp:=f6.cell (p:=⟨pb,0,none⟩) (show pb<w5.heap.size by omega);have zq:=f6.cell (p:=⟨qb,0,none⟩) (show qb<w5.heap.size by omega);have O6:=Qc (And.intro o6 (O5.o.2.trans (f6.mono s5)));clear o6 f6) | (go_at_call 118;refine(Qad (ofL (S++bhs bs S)) bar w5.heap.size Bb _ _ w6 O6.o.1 (Qd O2.o.2.2 (Qi O6.o.2) trivial) hsb L2 L4).mono ?_;rintro e w7 ⟨v7,rfl,o7,f7⟩;obtain⟨p7,c7,rfl⟩:=Qb o7;have s7:=f7.size;have x0:=f7.cell (p:=⟨w.heap.size,0,none⟩) (show w.heap.size<w6.heap.size by omega);have x1:=f7.cell (p:=⟨w.heap.size+1,0,none⟩) (show w.heap.size+1<w6.heap.size by omega);have x1f:=f7.frozen (p:=⟨w.heap.size+1,0,none⟩) (show w.heap.size+1<w6.heap.size by omega);have xp:=f7.cell (p:=⟨pb,0,none⟩) (show pb<w6.heap.size by omega);have xq:=f7.cell (p:=⟨qb,0,none⟩) (show qb<w6.heap.size by omega);have O7:=Qc (And.intro o7 (O6.o.2.trans (f7.mono (by omega))));clear o7 f7))
 all_goals
  have l7:w.heap.size+1<w6.heap.size:=by omega
  have F7:=Qc (And.intro (Qm (QB O7.o.1 (w.heap.size+1) 0 (.slice p7 (Y1 bs bar S).length c7) l7) (show w.heap.size≤w6.heap.size by omega)) (Qr (F2.o.trans (O7.o.2.mono (by omega))) (w.heap.size+1) 0 (.slice p7 (Y1 bs bar S).length c7) (by omega)));clear O2 O5 O6 O7 F2;go_wp2_with fail;refine bodyPost_ret (v:=.agg #[.slice p7 (Y1 bs bar S).length c7]) (by simp[results,Tryz.results164,go_sem,x1,z1,y1,k1];rfl) rfl ⟨_,rfl,?_,?_⟩
  ·exact F7.o.1
  ·exact F7.o.2
theorem Xq{w:World}{base e k n o:Nat}{v x:Value}{xs:List Value}{cs:Array Value}{t:TypeId}{fz:Nat×Nat}(h:w.ownsRow base e 1 v n xs)(hk:w.heap[k]?=some (.cells cs t fz))(ht:t≠e):(w.setCell ⟨k,o,none⟩ x).ownsRow base e 1 v n xs:=by
 obtain⟨h1,h2⟩:=h;refine⟨h1,h2.imp id ?_⟩;rintro⟨g,cap,cur,rfl,b,c,d⟩;refine⟨g,cap,cur,rfl,b,?_,d⟩;rw[Below.heap_setCell _ _ _ _ ?_]
 ·exact c
 ·rintro rfl;rw[hk]at c;cases c;exact ht rfl
def Ng(w:World)(k:Nat):Nat:=match w.cell? ⟨k,0,none⟩ with|some (.slice _ n _)=>n|_=>0
theorem Nf{w:World}{k:Nat}{p:Option Addr}{n c:Nat}(h:w.cell? ⟨k,0,none⟩=some (.slice p n c)):Ng w k=n:=by rw[Ng,h]
theorem QdW(bs:List Ql)(bar:List Nat)(f:Nat→Bool)(hgl:∀b∈bs,∀p∈goalsF b.e,p.1<bs.length):Y1 bs bar (QC bs.length f)=QC bs.length (jac (suF bs) (Qt bar) bs.length f):=by
 refine Y3 (QbS _ _ _) fun x=>?_;rw[QbT,Vm,Z4];simp only[jac,Bool.and_eq_true,Bool.or_eq_true,List.any_eq_true,List.mem_range,List.contains_iff_mem,Bool.not_eq_true'];have hb:x∉bar↔Qt bar x=false:=by
  rw[←ZJ];simp
 rw[hb];constructor
 ·rintro⟨⟨a,b⟩|⟨i,hi,hx⟩,c⟩
  ·exact⟨a,.inl b,c⟩
  ·rw[Z4]at hi;exact⟨Kw hgl i x hx,.inr ⟨i,hi.1,hi.2,hx⟩,c⟩
 ·rintro⟨a,b|⟨i,hi,hf,hx⟩,c⟩
  ·exact⟨.inl ⟨a,b⟩,c⟩
  ·exact⟨.inr ⟨i,Z4.2 ⟨hi,hf⟩,hx⟩,c⟩
theorem Qfr(bs:List Ql)(f0:Nat→Bool)(bar:List Nat)(base Bs Bb pb qb:Nat)(v vs vb:Value)(w:World)(h:PBs w base bs v)(ho:w.ownsRow Bs 143 1 vs (QC bs.length f0).length (Qg (QC bs.length f0)))(hb:w.ownsRow Bb 143 1 vb bar.length (Qg bar))(hp:w.cell? ⟨pb,0,none⟩=some v)(hq:w.cell? ⟨qb,0,none⟩=some vb)
  (hj:Hid (Jn (suF bs) (Qt bar) bs.length f0))(hsb:Hid (bar.Pairwise (· < ·)))(hgl:Hid (∀b∈bs,∀p∈goalsF b.e,p.1<bs.length))(hn0:0<bs.length)(hn:bs.length≤1000)(hlb:bar.length≤1000):
  Calls Tryz.prog 163 #[.agg #[vs],.func (.func 164) #[] #[.pointer (some ⟨pb,0,none⟩),.pointer (some ⟨qb,0,none⟩)]] w fun x w'=>∃v',x=.returned (.agg #[v'])∧w'.ownsRow w.heap.size 143 1 v' (QC bs.length (rchF (suF bs) bs.length (Qt bar))).length (Qg (QC bs.length (rchF (suF bs) bs.length (Qt bar))))∧Below w.heap.size w w':=by
 obtain⟨po,co,rfl⟩:=Qb ho;have hpw:pb<w.heap.size:=World.block_lt_of_cell? _ _ hp;have hqw:qb<w.heap.size:=World.block_lt_of_cell? _ _ hq;have HP:=Qc (And.intro h (And.intro hb (And.intro hp hq)));have HO:=Qc ho;clear h ho hb hp hq;have hmt:∀(x:Value)(w:World),(method 500 82 x "Same").run Tryz.prog w=.ok (284,x) w:=fun x w=>by kernel_rfl
 go_enter Tryz.func163,Tryz.ntmps163;go_wp2_with fail;obtain⟨W2,hW2⟩:∃W2,W2=(w.alloc (.cells #[.slice po (QC bs.length f0).length co] 82)).alloc (.cells #[.slice none 0 0] 82):=⟨_,rfl⟩;rw[←hW2];obtain⟨g0,g1,hz,f2⟩:=two w (.cells #[.slice po (QC bs.length f0).length co] 82) (.cells #[.slice none 0 0] 82);rw[←hW2]at g0 g1 hz f2;have B0:Hid (Jn (suF bs) (Qt bar) bs.length f0∧W2.heap[w.heap.size]?=some (.cells #[.slice po (QC bs.length f0).length co] 82 (0,0))∧W2.heap[w.heap.size+1]?=some (.cells #[.slice none 0 0] 82 (0,0))∧W2.ownsRow 0 143 1 (.slice po (QC bs.length f0).length co) (QC bs.length f0).length (Qg (QC bs.length f0))∧Below w.heap.size w W2∧w.heap.size+2≤W2.heap.size):=
  ⟨hj.out,g0,g1,Qm (Qd HO.o (Qi f2) trivial) (Nat.zero_le _),f2,by omega⟩
 clear g0 g1 hz f2 hW2 HO hj
 go_loopw [5] (fun _ wr=>∃(f:Nat→Bool)(p:Option Addr)(c:Nat),Hid (Jn (suF bs) (Qt bar) bs.length f∧wr.heap[w.heap.size]?=some (.cells #[.slice p (QC bs.length f).length c] 82 (0,0))∧wr.heap[w.heap.size+1]?=some (.cells #[.slice none 0 0] 82 (0,0))∧wr.ownsRow 0 143 1 (.slice p (QC bs.length f).length c) (QC bs.length f).length (Qg (QC bs.length f))∧Below w.heap.size w wr∧w.heap.size+2≤wr.heap.size)) (fun _ wr=>bs.length-Ng wr w.heap.size)
 case atStart=>exact⟨f0,po,co,B0⟩
 case round=>
  clear B0;obtain⟨f,p,c,HR⟩:=hrel;obtain⟨jf,r0,r1,rv,rf,rz⟩:=HR.o;have k0:=Qa r0 0;have k0f:=Qf r0 0;have k1f:=Qf r1 0;simp at k0;have L0:(QC bs.length f).length≤1000:=Nat.le_trans (Xy _ _) hn;have PB:=Qc (HP.o.1.keeps (Qs.below rf));have OB:=Qc (Qd HP.o.2.1 (Qi rf) trivial);have CP:Hid (wr.cell? ⟨pb,0,none⟩=some v∧wr.cell? ⟨qb,0,none⟩=some vb):=⟨(rf.cell (p:=⟨pb,0,none⟩) hpw).trans HP.o.2.2.1,(rf.cell (p:=⟨qb,0,none⟩) hqw).trans HP.o.2.2.2⟩;have HLA:Hid (Ng wr w.heap.size=(QC bs.length f).length):=Nf k0;have HJ:=Qc (QdW bs bar f hgl.out);have HSL:Hid (∀x∈QC bs.length f,x<bs.length):=fun x hx=>(Z4.1 hx).1;clear jf r0 r1 rv rf;go_wp2_with fail;refine(QiL bs (QC bs.length f) bar base 0 Bb pb qb v _ vb wr PB.o HR.o.2.2.2.1 OB.o CP.o.1 CP.o.2 HSL hsb hgl hn L0 hlb).mono ?_;rintro e w5 ⟨v5,rfl,o5,f5⟩;rw[HJ.o]at o5;obtain⟨p5,c5,rfl⟩:=Qb o5;have L5:(QC bs.length (jac (suF bs) (Qt bar) bs.length f)).length≤1000:=Nat.le_trans (Xy _ _) hn;have O5:=Qc (And.intro o5 f5);have s5:=f5.size;have q0:w5.heap[w.heap.size]?=some (.cells #[.slice p (QC bs.length f).length c] 82 (0,0)):=by rw[f5.block _ (by omega)];exact HR.o.2.1
  have y0:∀o,(w5.alloc o).cell? ⟨w.heap.size,0,none⟩=some (.slice p (QC bs.length f).length c):=fun o=>by have:=Qa (Qj q0 o) 0;simpa using this
  clear o5 f5 k0 k0f k1f PB OB CP HSL HJ q0;go_wp2_with fail;obtain⟨W6,hW6⟩:∃W6,W6=w5.alloc (.cells #[.slice p5 (QC bs.length (jac (suF bs) (Qt bar) bs.length f)).length c5] 82):=⟨_,rfl⟩;rw[←hW6];have f6:Below w5.heap.size w5 W6:=by rw[hW6];exact(Below.refl _ _).alloc (Nat.le_refl _) _
  have g6:W6.heap[w5.heap.size]?=some (.cells #[.slice p5 (QC bs.length (jac (suF bs) (Qt bar) bs.length f)).length c5] 82 (0,0)):=by rw[hW6];exact heap_alloc_last _ _
  have hz6:W6.heap.size=w5.heap.size+1:=by rw[hW6,World.size_alloc]
  have f36:=O5.o.2.trans (f6.mono s5);refine(QiO (QC bs.length (jac (suF bs) (Qt bar) bs.length f)) (QC bs.length f) wr.heap.size 0 _ _ W6 (Qd O5.o.1 (Qi f6) trivial) (Qd HR.o.2.2.2.1 (Qi f36) trivial) (by omega) (by omega)).mono ?_;rintro e w7 ⟨rfl,f7⟩;have f37:=f36.trans (f7.mono (by omega));have g7:w7.heap[w5.heap.size]?=some (.cells #[.slice p5 (QC bs.length (jac (suF bs) (Qt bar) bs.length f)).length c5] 82 (0,0)):=by rw[f7.block _ (by omega)];exact g6
  have r0:w7.heap[w.heap.size]?=some (.cells #[.slice p (QC bs.length f).length c] 82 (0,0)):=by rw[f37.block _ (by omega)];exact HR.o.2.1
  have r1:w7.heap[w.heap.size+1]?=some (.cells #[.slice none 0 0] 82 (0,0)):=by rw[f37.block _ (by omega)];exact HR.o.2.2.1
  have o7:=Qd O5.o.1 (Qi (f6.trans (f7.mono (by omega)))) trivial;have z5:=Qa g7 0;have z0:=Qa r0 0;have z0f:=Qf r0 0;have z1:=Qa r1 0;have z1f:=Qf r1 0;have s7:=f37.size;simp at z5 z0 z1;have ff:Below w.heap.size w w7:=HR.o.2.2.2.2.1.trans (f37.mono (by omega));by_cases heq:QC bs.length (jac (suF bs) (Qt bar) bs.length f)=QC bs.length f
  ·have he:eqF (QC bs.length (jac (suF bs) (Qt bar) bs.length f)) (QC bs.length f)=true:=by rw[eqF,heq];simp
   rw[he];have HD:Hid (QC bs.length (jac (suF bs) (Qt bar) bs.length f)=QC bs.length (rchF (suF bs) bs.length (Qt bar))):=by
    rw[heq];exact QdX HR.o.1 hn0 (Kw hgl.out) heq
   have F8:Hid ((w7.setCell ⟨w.heap.size+1,0,none⟩ (.slice p5 (QC bs.length (jac (suF bs) (Qt bar) bs.length f)).length c5)).ownsRow w.heap.size 143 1 (.slice p5 (QC bs.length (jac (suF bs) (Qt bar) bs.length f)).length c5) (QC bs.length (jac (suF bs) (Qt bar) bs.length f)).length (Qg (QC bs.length (jac (suF bs) (Qt bar) bs.length f)))∧Below w.heap.size w (w7.setCell ⟨w.heap.size+1,0,none⟩ (.slice p5 (QC bs.length (jac (suF bs) (Qt bar) bs.length f)).length c5))):=
    ⟨Qm (Xq o7 r1 (by decide)) (by omega),Qr ff _ _ _ (by omega)⟩
   clear heq he f6 g6 hW6 f36 f7 f37 g7 r0 r1 o7 ff O5 HR HLA hmt y0;go_wp2_with fail;refine bodyPost_ret (v:=.agg #[.slice p5 (QC bs.length (jac (suF bs) (Qt bar) bs.length f)).length c5]) (by simp[results,Tryz.results163,go_sem,z1]) rfl ⟨_,rfl,?_,?_⟩
   ·rw[←HD.o];exact F8.o.1
   ·exact F8.o.2
  ·have he:eqF (QC bs.length (jac (suF bs) (Qt bar) bs.length f)) (QC bs.length f)=false:=by simpa[eqF] using heq
   rw[he];have HL:Hid ((QC bs.length f).length<(QC bs.length (jac (suF bs) (Qt bar) bs.length f)).length):=HR.o.1.less heq;have hlt:(QC bs.length (jac (suF bs) (Qt bar) bs.length f)).length≤bs.length:=Xy _ _;have F8:Hid (Jn (suF bs) (Qt bar) bs.length (jac (suF bs) (Qt bar) bs.length f)∧(w7.setCell ⟨w.heap.size,0,none⟩ (.slice p5 (QC bs.length (jac (suF bs) (Qt bar) bs.length f)).length c5)).heap[w.heap.size]?=some (.cells #[.slice p5 (QC bs.length (jac (suF bs) (Qt bar) bs.length f)).length c5] 82 (0,0))∧(w7.setCell ⟨w.heap.size,0,none⟩ (.slice p5 (QC bs.length (jac (suF bs) (Qt bar) bs.length f)).length c5)).heap[w.heap.size+1]?=some (.cells #[.slice none 0 0] 82 (0,0))∧(w7.setCell ⟨w.heap.size,0,none⟩ (.slice p5 (QC bs.length (jac (suF bs) (Qt bar) bs.length f)).length c5)).ownsRow 0 143 1 (.slice p5 (QC bs.length (jac (suF bs) (Qt bar) bs.length f)).length c5) (QC bs.length (jac (suF bs) (Qt bar) bs.length f)).length (Qg (QC bs.length (jac (suF bs) (Qt bar) bs.length f)))∧Below w.heap.size w (w7.setCell ⟨w.heap.size,0,none⟩ (.slice p5 (QC bs.length (jac (suF bs) (Qt bar) bs.length f)).length c5))∧w.heap.size+2≤(w7.setCell ⟨w.heap.size,0,none⟩ (.slice p5 (QC bs.length (jac (suF bs) (Qt bar) bs.length f)).length c5)).heap.size):=
    ⟨HR.o.1.step,Qp r0 _ _,Qo r1 (by omega) _ _,Qm (Xq o7 r0 (by decide)) (Nat.zero_le _),Qr ff _ _ _ (Nat.le_refl _),by rw[Zo];omega⟩
   have HLB:Hid (Ng (w7.setCell ⟨w.heap.size,0,none⟩ (.slice p5 (QC bs.length (jac (suF bs) (Qt bar) bs.length f)).length c5)) w.heap.size=(QC bs.length (jac (suF bs) (Qt bar) bs.length f)).length):=Nf (World.cell?_setCell_same _ _ _ z0);clear heq he f6 g6 hW6 f36 f7 f37 g7 r0 r1 o7 ff O5 HR hmt y0;go_wp2_with fail;go_roundw
   case rel=>exact⟨_,_,_,F8⟩
   case measure=>rw[HLA.o,HLB.o];have:=HL.o;omega
theorem QaV(x:Nat):ofL [x]=[x]:=ZX (XX _) (List.pairwise_singleton _ _) fun _=>Z1
theorem Qev{n:Nat}(hn:0<n)(bar:List Nat):dif [0] bar=QC n (GO (Qt bar)):=by
 refine Y3 (GW (List.pairwise_singleton _ _)) fun x=>?_;rw[GX,List.mem_singleton];have hb:x∉bar↔Qt bar x=false:=by rw[←ZJ];simp
 rw[hb];simp only[GO,Zn,Bool.and_eq_true,beq_iff_eq,Bool.not_eq_true'];constructor
 ·rintro⟨rfl,h⟩;exact⟨hn,rfl,h⟩
 ·rintro⟨_,h⟩;exact h
theorem RH(bs:List Ql)(bar:List Nat)(base Bb:Nat)(v vb:Value)(w:World)(h:PBs w base bs v)(hb:w.ownsRow Bb 143 1 vb bar.length (Qg bar))
  (hsb:Hid (bar.Pairwise (· < ·)))(hgl:Hid (∀b∈bs,∀p∈goalsF b.e,p.1<bs.length))(hn0:0<bs.length)(hn:bs.length≤1000)(hlb:bar.length≤1000):
  Calls Tryz.prog 117 #[v,.agg #[vb]] w fun x w'=>∃v',x=.returned (.agg #[v'])∧w'.ownsRow w.heap.size 143 1 v' (QC bs.length (rchF (suF bs) bs.length (Qt bar))).length (Qg (QC bs.length (rchF (suF bs) bs.length (Qt bar))))∧Below w.heap.size w w':=by
 obtain⟨pv,cv,rfl⟩:=h.slice;obtain⟨pr,cr,rfl⟩:=Qb hb;have HP:=Qc (And.intro h hb);have hmf:∀(fn:Fn)(first cap:Array Value)(w:World),(Instr.makeFunc fn first cap).run Tryz.prog w=.ok (.func fn first cap) w:=fun _ _ _ _=>rfl
 clear h hb;go_enter Tryz.func117,Tryz.ntmps117;go_wp2_with fail;obtain⟨W3,hW3⟩:∃W3,W3=((w.alloc (.cells #[.slice pv bs.length cv] 38)).alloc (.cells #[.slice pr bar.length cr] 82)).alloc (.cells #[.slice none 0 0] 82):=⟨_,rfl⟩;rw[←hW3];obtain⟨g0,g1,g2,hz,f3⟩:=Wm w (.cells #[.slice pv bs.length cv] 38) (.cells #[.slice pr bar.length cr] 82) (.cells #[.slice none 0 0] 82);rw[←hW3]at g0 g1 g2 hz f3;clear hW3;have o4:=ZA W3 W3.heap.size 143 1 1 #[.int .i64 0] (Nat.le_refl _) rfl (by decide);rw[show w.heap.size+1+1+1=W3.heap.size by omega];have o4':(W3.alloc (.cells #[.int .i64 0] 143)).ownsRow W3.heap.size 143 1 (.slice (some ⟨W3.heap.size,0,none⟩) 1 1) ([0]:List Nat).length (Qg [0]):=o4;refine(ofB [0] W3.heap.size _ _ o4' (by simp)).mono ?_;rintro e w5 ⟨v5,rfl,o5,f5⟩;rw[QaV]at o5;obtain⟨p5,c5,rfl⟩:=Qb o5;have f35:Below W3.heap.size W3 w5:=((Below.refl _ _).alloc (Nat.le_refl _) _).trans (f5.mono (by rw[World.size_alloc];omega));have s5:=f35.size;have q0:w5.heap[w.heap.size]?=some (.cells #[.slice pv bs.length cv] 38 (0,0)):=by rw[f35.block _ (by omega)];exact g0
 have q1:w5.heap[w.heap.size+1]?=some (.cells #[.slice pr bar.length cr] 82 (0,0)):=by rw[f35.block _ (by omega)];exact g1
 have q2:w5.heap[w.heap.size+1+1]?=some (.cells #[.slice none 0 0] 82 (0,0)):=by rw[f35.block _ (by omega)];exact g2
 have y1:∀o,(w5.alloc o).cell? ⟨w.heap.size+1,0,none⟩=some (.slice pr bar.length cr):=fun o=>by have:=Qa (Qj q1 o) 0;simpa using this
 have O5:=Qc (And.intro o5 (And.intro f35 (And.intro q0 (And.intro q1 (And.intro q2 f3)))));clear g0 g1 g2 f3 o4 o4' o5 f5 f35 q0 q1 q2;go_wp2_with fail;obtain⟨W6,hW6⟩:∃W6,W6=w5.alloc (.cells #[.slice p5 1 c5] 82):=⟨_,rfl⟩;rw[←hW6];obtain⟨o5,f35,q0,q1,q2,f3⟩:=O5.o;have f6:Below w5.heap.size w5 W6:=by rw[hW6];exact(Below.refl _ _).alloc (Nat.le_refl _) _
 have f36:=f35.trans (f6.mono s5);have fw6:=f3.trans (f36.mono (by omega));have s6:=f36.size;refine(Qad [0] bar _ Bb _ _ W6 (Qd o5 (Qi f6) trivial) (Qd HP.o.2 (Qi fw6) trivial) hsb (by simp) (by omega)).mono ?_;rintro e w7 ⟨v7,rfl,o7,f7⟩;rw[Qev hn0]at o7;have s7:=f7.size;have f37:=f36.trans (f7.mono s6);have fw7:=f3.trans (f37.mono (by omega));obtain⟨p7,c7,rfl⟩:=Qb o7;have O7:Hid (w7.ownsRow W6.heap.size 143 1 (.slice p7 (QC bs.length (GO (Qt bar))).length c7) (QC bs.length (GO (Qt bar))).length (Qg (QC bs.length (GO (Qt bar))))∧PBs w7 base bs (.slice pv bs.length cv)∧w7.ownsRow Bb 143 1 (.slice pr bar.length cr) bar.length (Qg bar)∧w7.cell? ⟨w.heap.size,0,none⟩=some (.slice pv bs.length cv)∧w7.cell? ⟨w.heap.size+1,0,none⟩=some (.slice pr bar.length cr)∧w7.heap[w.heap.size+1+1]?=some (.cells #[.slice none 0 0] 82 (0,0))∧Below w.heap.size w w7):=by
  have e0:w7.heap[w.heap.size]?=some (.cells #[.slice pv bs.length cv] 38 (0,0)):=by rw[f7.block _ (by omega),f6.block _ (by omega)];exact q0
  have e1:w7.heap[w.heap.size+1]?=some (.cells #[.slice pr bar.length cr] 82 (0,0)):=by rw[f7.block _ (by omega),f6.block _ (by omega)];exact q1
  have e2:w7.heap[w.heap.size+1+1]?=some (.cells #[.slice none 0 0] 82 (0,0)):=by rw[f7.block _ (by omega),f6.block _ (by omega)];exact q2
  exact⟨o7,HP.o.1.keeps (Qs.below fw7),Qd HP.o.2 (Qi fw7) trivial,by have:=Qa e0 0;simpa using this,by have:=Qa e1 0;simpa using this,e2,fw7⟩
 clear O5 o5 f35 q0 q1 q2 f3 f6 f36 fw6 f7 f37 fw7 o7 hW6 y1;go_wp2_with fail;refine(Qfr bs (GO (Qt bar)) bar base _ Bb _ _ _ _ _ w7 O7.o.2.1 O7.o.1 O7.o.2.2.1 O7.o.2.2.2.1 O7.o.2.2.2.2.1 (Jn.start _ _ _) hsb hgl hn0 hn hlb).mono ?_;rintro e w8 ⟨v8,rfl,o8,f8⟩;obtain⟨p8,c8,rfl⟩:=Qb o8;have g8:w8.heap[w.heap.size+1+1]?=some (.cells #[.slice none 0 0] 82 (0,0)):=by rw[f8.block _ (by omega)];exact O7.o.2.2.2.2.2.1
 have k2:=Qa g8 0;have k2f:=Qf g8 0;simp at k2;have F8:=Qc (And.intro (Qm (QB o8 (w.heap.size+1+1) 0 (.slice p8 (QC bs.length (rchF (suF bs) bs.length (Qt bar))).length c8) (by omega)) (show w.heap.size≤w7.heap.size by omega)) (Qr (O7.o.2.2.2.2.2.2.trans (f8.mono (by omega))) (w.heap.size+1+1) 0 (.slice p8 (QC bs.length (rchF (suF bs) bs.length (Qt bar))).length c8) (by omega)));clear g8 f8 o8 O7;go_wp2_with fail;refine bodyPost_ret (v:=.agg #[.slice p8 (QC bs.length (rchF (suF bs) bs.length (Qt bar))).length c8]) (by simp[results,Tryz.results117,go_sem,k2]) rfl ⟨_,rfl,?_,?_⟩
 ·exact F8.o.1
 ·exact F8.o.2
def Jd(base:Nat)(w:World)(v:Value)(n:Nat)(f:Nat→List Nat):Prop:=
 ∃us:List Value,w.ownsRow base 82 1 v n us∧∀(k:Nat)(u:Value),us[k]?=some u→w.ownsRow base 143 1 u (f k).length (Qg (f k))
theorem Jd.slice{base w v n f}(h:Jd base w v n f):∃p c,v=.slice p n c:=by obtain⟨us,a,_⟩:=h;exact Qb a
theorem Jd.keeps{base:Nat}{w w':World}{v:Value}{n:Nat}{f:Nat→List Nat}(h:Jd base w v n f)(k:Below w.heap.size w w'):Jd base w' v n f:=by
 obtain⟨us,a,b⟩:=h;exact⟨us,Qd a (Qi k) trivial,fun j u hu=>Qd (b j u hu) (Qi k) trivial⟩
theorem Jd.base{base base':Nat}{w:World}{v:Value}{n:Nat}{f:Nat→List Nat}(h:Jd base w v n f)(hb:base'≤base):Jd base' w v n f:=by
 obtain⟨us,a,b⟩:=h;exact⟨us,Qm a hb,fun j u hu=>Qm (b j u hu) hb⟩
theorem Jd.congr{base:Nat}{w:World}{v:Value}{n:Nat}{f f':Nat→List Nat}(h:Jd base w v n f)(e:∀k,k<n→f' k=f k):Jd base w v n f':=by
 obtain⟨us,a,b⟩:=h;have hl:us.length=n:=by have:=a.1;omega
 refine⟨us,a,fun j u hu=>?_⟩;have hj:j<n:=by
  rcases Nat.lt_or_ge j us.length with h|h
  ·omega
  ·rw[List.getElem?_eq_none h]at hu;cases hu
 rw[e j hj];exact b j u hu
theorem Jd.at{base:Nat}{w:World}{p:Option Addr}{c n:Nat}{f:Nat→List Nat}(h:Jd base w (.slice p n c) n f){k:Nat}(hk:k<n):
  ∃g u,p=some ⟨g,0,none⟩∧base≤g∧g<w.heap.size∧w.cell? ⟨g,k,none⟩=some u∧w.frozen? ⟨g,k,none⟩=false∧w.ownsRow base 143 1 u (f k).length (Qg (f k)):=by
 obtain⟨us,a,b⟩:=h;obtain⟨g,rfl,hb,hg⟩:=Qh a (by omega);have hl:us.length=n:=by have:=a.1;omega
 have hu:us[k]?=some us[k]:=List.getElem?_eq_getElem (by omega);exact⟨g,us[k],rfl,hb,hg,Qe a hu,XE a k,b k _ hu⟩
theorem Jd.store{base:Nat}{w:World}{g c n:Nat}{f:Nat→List Nat}(h:Jd base w (.slice (some ⟨g,0,none⟩) n c) n f){k:Nat}{u:Value}{l:List Nat}(o:w.ownsRow base 143 1 u l.length (Qg l)):
  Jd base (w.setCell ⟨g,k,none⟩ u) (.slice (some ⟨g,0,none⟩) n c) n (fun j=>if j=k then l else f j):=by
 obtain⟨us,a,b⟩:=h;have hb:∃cs fz,w.heap[g]?=some (.cells cs 82 fz):=by
  rcases a.2 with ⟨h0,_⟩|⟨g',cap',cur',hv,_,hc',_⟩
  ·cases h0
  ·cases hv;exact⟨_,_,hc'⟩
 obtain⟨cs,fz,hg⟩:=hb;refine⟨us.set k u,Zz a k u,fun j x hx=>?_⟩;rw[List.getElem?_set]at hx;by_cases hj:k=j
 ·subst hj;rw[if_pos rfl]at hx;split at hx
  ·cases hx;show (w.setCell _ u).ownsRow base 143 1 u (if k=k then l else f k).length (Qg (if k=k then l else f k));rw[if_pos rfl];exact Xq o hg (by decide)
  ·cases hx
 ·rw[if_neg hj]at hx;show (w.setCell _ u).ownsRow base 143 1 x (if j=k then l else f j).length (Qg (if j=k then l else f j));rw[if_neg (fun e:j=k=>hj e.symm)];exact Xq (b j x hx) hg (by decide)
theorem Qd7:Qt []=noB:=by funext j;rfl
theorem Qd6(i:Nat):Qt [i]=isB i:=by funext j;rw[Bool.eq_iff_iff,ZJ,isB];simp
def JX(bs:List Ql)(i:Nat):List Nat:=QC bs.length (X6 (suF bs) bs.length i)
def Qx(bs:List Ql):List Nat:=QC bs.length (rchF (suF bs) bs.length noB)
theorem QcG(bs:List Ql)(i:Nat):dif (Qx bs) (QC bs.length (rchF (suF bs) bs.length (isB i)))=JX bs i:=by
 refine Y3 (GW (K8 _ _)) fun x=>?_;rw[GX,Qx,Z4,Z4,X6,Bool.and_eq_true];constructor
 ·rintro⟨⟨a,b⟩,c⟩;refine⟨a,b,?_⟩
  cases h:rchF (suF bs) bs.length (isB i) x with
  | false=>rfl
  | true=>exact absurd ⟨a,h⟩ c
 ·rintro⟨a,b,c⟩;exact⟨⟨a,b⟩,fun h=>by rw[h.2]at c;cases c⟩
theorem Qdp(bs:List Ql)(base:Nat)(v:Value)(w:World)(h:PBs w base bs v)(hgl:Hid (∀b∈bs,∀p∈goalsF b.e,p.1<bs.length))(hn0:0<bs.length)(hn:bs.length≤1000):
  Calls Tryz.prog 70 #[v] w fun x w'=>∃va vu,x=.returned (.agg #[v,va,vu])∧w'.ownsRow w.heap.size 143 1 va (Qx bs).length (Qg (Qx bs))∧Jd w.heap.size w' vu bs.length (JX bs)∧Below w.heap.size w w':=by
 obtain⟨pv,cv,rfl⟩:=h.slice;have HP:=Qc h;clear h;obtain⟨I9,Hi9,Hz9,Hs9,Hb9⟩:=info_parts Tryz.info82;have HI:=Qc (And.intro Hi9 (And.intro Hz9 (And.intro Hs9 Hb9)));clear Hi9 Hz9 Hs9 Hb9;go_enter Tryz.func70,Tryz.ntmps70;go_wp2_with fail;have f0:Below w.heap.size w (w.alloc (.cells #[.slice none 0 0,.slice none 0 0,.slice none 0 0] 85)):=(Below.refl _ _).alloc (Nat.le_refl _) _;refine(RH bs [] base 0 _ _ _ (HP.o.keeps (Qs.below f0)) (World.ownsRow_nil _ _ _ _) List.Pairwise.nil hgl hn0 hn (by simp)).mono ?_;rintro e w1 ⟨va,rfl,o1,f1⟩;rw[Qd7]at o1;replace o1:w1.ownsRow _ 143 1 va (Qx bs).length (Qg (Qx bs)):=o1;obtain⟨pa,ca,rfl⟩:=Qb o1;have s1:=f1.size;rw[World.size_alloc]at s1;have q0:w1.heap[w.heap.size]?=some (.cells #[.slice none 0 0,.slice none 0 0,.slice none 0 0] 85 (0,0)):=by rw[f1.block _ (by rw[World.size_alloc];omega)];exact heap_alloc_last _ _
 have O1:=Qc (And.intro o1 (And.intro f1 (And.intro f0 q0)));clear o1 f1 f0 q0;go_wp2_with (at_make;refine Qv ?_);refine Qc ?_;obtain⟨W2,hW2⟩:∃W2,W2=w1.alloc (.cells #[.slice pa (Qx bs).length ca] 82):=⟨_,rfl⟩;rw[←hW2];have g2:W2.heap[w1.heap.size]?=some (.cells #[.slice pa (Qx bs).length ca] 82 (0,0)):=by rw[hW2];exact heap_alloc_last _ _
 have f2:Below w1.heap.size w1 W2:=by rw[hW2];exact(Below.refl _ _).alloc (Nat.le_refl _) _
 have s2:W2.heap.size=w1.heap.size+1:=by rw[hW2,World.size_alloc]
 refine wpList_make_full _ rfl _ _ 83 rfl (w.heap.size+1) 82 I9 (.agg #[.slice none 0 0]) 1 Tryz.underlying83 HI.o.1 HI.o.2.1 HI.o.2.2.1 .i64 .i64 _ _ bs.length rfl rfl rfl rfl (by rw[HI.o.2.2.2];omega) (by unfold maxLen;omega) (by omega) ?_;intro w3 o3 gr3;rw[s2]at o3 ⊢;have f3:Below W2.heap.size W2 w3:=Below.grown (Below.refl _ _) gr3 (Nat.le_refl _) (fun k hk=>by cases hk);have S3:Jd (w.heap.size+1) w3 (.slice (some ⟨w1.heap.size+1,0,none⟩) bs.length bs.length) bs.length (fun k=>if k<0 then JX bs k else []):=by
  refine⟨_,o3,fun k u hu=>?_⟩;rw[WS]at hu;obtain⟨_,rfl⟩:=GS hu;exact World.ownsRow_nil _ _ _ _
 obtain⟨o1,f1,f0,q0⟩:=O1.o;have s3:=f3.size;have fw1:=f0.trans (f1.mono (by rw[World.size_alloc];omega));have B0:Hid (w3.heap[w.heap.size]?=some (.cells #[.slice none 0 0,.slice none 0 0,.slice none 0 0] 85 (0,0))∧w3.heap[w1.heap.size]?=some (.cells #[.slice pa (Qx bs).length ca] 82 (0,0))∧w3.ownsRow (w.heap.size+1) 143 1 (.slice pa (Qx bs).length ca) (Qx bs).length (Qg (Qx bs))∧Jd (w.heap.size+1) w3 (.slice (some ⟨w1.heap.size+1,0,none⟩) bs.length bs.length) bs.length (fun k=>if k<0 then JX bs k else [])∧Below w.heap.size w w3∧w1.heap.size+1<w3.heap.size):=by
  have f13:=f2.trans (f3.mono (by omega));refine⟨by rw[f13.block _ (by omega)];exact q0,by rw[f3.block _ (by omega)];exact g2,?_,S3,fw1.trans (f13.mono (by omega)),?_⟩
  ·exact Qm (Qd o1 (Qi f13) trivial) (by rw[World.size_alloc];omega)
  ·obtain⟨g9,_,e9,_,l9,_⟩:=S3.at hn0;cases e9;exact l9
 clear hW2 g2 f2 s2 o3 gr3 f3 S3 o1 f1 f0 q0 s3 fw1 O1 HI;go_wp2_with fail
 go_loopw [14] (fun i wr=>∃m:Nat,m≤bs.length∧i=.int .i64 m∧Hid (wr.heap[w.heap.size]?=some (.cells #[.slice none 0 0,.slice none 0 0,.slice none 0 0] 85 (0,0))∧wr.heap[w1.heap.size]?=some (.cells #[.slice pa (Qx bs).length ca] 82 (0,0))∧wr.ownsRow (w.heap.size+1) 143 1 (.slice pa (Qx bs).length ca) (Qx bs).length (Qg (Qx bs))∧Jd (w.heap.size+1) wr (.slice (some ⟨w1.heap.size+1,0,none⟩) bs.length bs.length) bs.length (fun k=>if k<m then JX bs k else [])∧Below w.heap.size w wr∧w1.heap.size+1<wr.heap.size)) (fun i _=>bs.length-(intOf i).toNat)
 case atStart=>exact⟨0,by omega,rfl,B0⟩
 case round=>
  clear B0;obtain⟨m,hm,rfl,HR⟩:=hrel;obtain⟨r0,r1,rv,rs,rf,rz⟩:=HR.o;by_cases hlt:m<bs.length
  ·have k1:=Qa r1 0;simp at k1;obtain⟨gu,uu,eu,hub,hul,hcu,hfu,_⟩:=rs.at hlt;cases eu;have LA:(Qx bs).length≤1000000:=Nat.le_trans (Xy _ _) (by omega);have l1:w1.heap.size<wr.heap.size:=by omega
   have ne1:¬(w1.heap.size+1=w1.heap.size):=by omega
   have PB:=Qc (HP.o.keeps (Qs.below rf));have lu:w1.heap.size+1<wr.heap.size:=rz;have hal:∀o,(wr.alloc o).cell? ⟨w1.heap.size,0,none⟩=some (.slice pa (Qx bs).length ca):=fun o=>by have:=Qa (Qj r1 o) 0;simpa using this
   have hbu:∃cs fz,wr.heap[w1.heap.size+1]?=some (.cells cs 82 fz):=by
    obtain⟨us,a,_⟩:=rs;rcases a.2 with ⟨h0,_⟩|⟨g',cap',cur',hv,_,hc',_⟩
    ·cases h0
    ·cases hv;exact⟨_,_,hc'⟩
   have hfal:∀o,(wr.alloc o).frozen? ⟨w1.heap.size+1,m,none⟩=false:=fun o=>by
    rw[World.frozen?_of_block (w:=wr) (by show (wr.alloc o).heap[w1.heap.size+1]?=_;exact Below.heap_alloc wr o _ lu)];exact hfu
   have hcal:∀o,(wr.alloc o).cell? ⟨w1.heap.size+1,m,none⟩=some uu:=fun o=>by
    rw[World.cell?_of_block (w:=wr) (by show (wr.alloc o).heap[w1.heap.size+1]?=_;exact Below.heap_alloc wr o _ lu)];exact hcu
   have H4:Hid ((wr.alloc (.cells #[.int .i64 m] 143)).drew.ownsRow wr.heap.size 143 1 (.slice (some ⟨wr.heap.size,0,none⟩) 1 1) ([m]:List Nat).length (Qg [m])):=ZA wr wr.heap.size 143 1 1 #[.int .i64 m] (Nat.le_refl _) rfl (by decide);have F4:Hid (∀w5,Below (wr.alloc (.cells #[.int .i64 m] 143)).drew.heap.size (wr.alloc (.cells #[.int .i64 m] 143)).drew w5→Below wr.heap.size wr w5):=fun w5 f=>by
    have f':=((Below.refl wr.heap.size wr).alloc (Nat.le_refl _) (.cells #[.int .i64 m] 143));have f'':Below wr.heap.size wr (wr.alloc (.cells #[.int .i64 m] 143)).drew:=⟨f'.os,f'.tape,f'.output,f'.size,f'.block⟩;exact f''.trans (f.mono (by show wr.heap.size≤(wr.alloc _).heap.size;rw[World.size_alloc];exact Nat.le_succ _))
   have LM:(QC bs.length (rchF (suF bs) bs.length (isB m))).length≤1000000:=Nat.le_trans (Xy _ _) (by omega);have HSM:=Qc (K8 bs.length (rchF (suF bs) bs.length (isB m)));have HBU:=Qc hbu;clear r0 r1 rv rs rf hbu;go_wp2_with fail
   go_region_held (fun w'=>w'.cell? ⟨w1.heap.size,0,none⟩=some (.slice pa (Qx bs).length ca)∧w'.frozen? ⟨w1.heap.size+1,m,none⟩=false) (simp[*,World.cell?_setCell_far])
    (first | (go_at_call 119;refine(ofB [m] wr.heap.size _ _ H4.o (by simp)).mono ?_;rintro e w5 ⟨v5,rfl,o5,f5⟩;rw[QaV]at o5;obtain⟨p5,c5,rfl⟩:=Qb o5;have f5':=F4.o _ f5;have s5:=f5'.size;have y1:=f5'.cell (p:=⟨w1.heap.size,0,none⟩) l1;have yf:=f5'.frozen (p:=⟨w1.heap.size+1,m,none⟩) lu;have yc:=f5'.cell (p:=⟨w1.heap.size+1,m,none⟩) lu;have O5:=Qc (And.intro o5 f5');clear o5 f5 f5') | (go_at_call 117;refine(RH bs [m] base _ _ _ w5 (PB.o.keeps (Qs.below O5.o.2)) O5.o.1 (List.pairwise_singleton _ _) hgl hn0 hn (by simp)).mono ?_;rintro e w6 ⟨v6,rfl,o6,f6⟩;rw[Qd6]at o6;obtain⟨p6,c6,rfl⟩:=Qb o6;have s6:=f6.size;have z1:=f6.cell (p:=⟨w1.heap.size,0,none⟩) (show w1.heap.size<w5.heap.size by omega);have zf:=f6.frozen (p:=⟨w1.heap.size+1,m,none⟩) (show w1.heap.size+1<w5.heap.size by omega);have zc:=f6.cell (p:=⟨w1.heap.size+1,m,none⟩) (show w1.heap.size+1<w5.heap.size by omega);have O6:=Qc (And.intro o6 (O5.o.2.trans (f6.mono s5)));clear o6 f6) | (go_at_call 118;refine(Qad (Qx bs) (QC bs.length (rchF (suF bs) bs.length (isB m))) (w.heap.size+1) w5.heap.size _ _ w6 (Qd HR.o.2.2.1 (Qi O6.o.2) trivial) O6.o.1 HSM LA LM).mono ?_;rintro e w7 ⟨v7,rfl,o7,f7⟩;rw[QcG]at o7;obtain⟨p7,c7,rfl⟩:=Qb o7;have s7:=f7.size;have x1:=f7.cell (p:=⟨w1.heap.size,0,none⟩) (show w1.heap.size<w6.heap.size by omega);have xf:=f7.frozen (p:=⟨w1.heap.size+1,m,none⟩) (show w1.heap.size+1<w6.heap.size by omega);have xc:=f7.cell (p:=⟨w1.heap.size+1,m,none⟩) (show w1.heap.size+1<w6.heap.size by omega);have O7:=Qc (And.intro o7 (O6.o.2.trans (f7.mono (by omega))));clear o7 f7))
   all_goals
    obtain⟨r0,r1,rv,rs,rf,_⟩:=HR.o;obtain⟨cs,fz,hbu⟩:=HBU.o;have ff:=O7.o.2;have h7:w7.heap[w1.heap.size+1]?=some (.cells cs 82 fz):=by rw[ff.block _ (by omega)];exact hbu
    have H7:Hid ((w7.setCell ⟨w1.heap.size+1,m,none⟩ (.slice p7 (JX bs m).length c7)).heap[w.heap.size]?=some (.cells #[.slice none 0 0,.slice none 0 0,.slice none 0 0] 85 (0,0))∧(w7.setCell ⟨w1.heap.size+1,m,none⟩ (.slice p7 (JX bs m).length c7)).heap[w1.heap.size]?=some (.cells #[.slice pa (Qx bs).length ca] 82 (0,0))∧(w7.setCell ⟨w1.heap.size+1,m,none⟩ (.slice p7 (JX bs m).length c7)).ownsRow (w.heap.size+1) 143 1 (.slice pa (Qx bs).length ca) (Qx bs).length (Qg (Qx bs))∧Jd (w.heap.size+1) (w7.setCell ⟨w1.heap.size+1,m,none⟩ (.slice p7 (JX bs m).length c7)) (.slice (some ⟨w1.heap.size+1,0,none⟩) bs.length bs.length) bs.length (fun k=>if k<m+1 then JX bs k else [])∧Below w.heap.size w (w7.setCell ⟨w1.heap.size+1,m,none⟩ (.slice p7 (JX bs m).length c7))∧w1.heap.size+1<(w7.setCell ⟨w1.heap.size+1,m,none⟩ (.slice p7 (JX bs m).length c7)).heap.size):=by
     refine⟨Qo (by rw[ff.block _ (by omega)];exact r0) (by omega) _ _,Qo (by rw[ff.block _ (by omega)];exact r1) (by omega) _ _,Xq (Qd rv (Qi ff) trivial) h7 (by decide),?_,Qr (rf.trans (ff.mono (by omega))) _ _ _ (by omega),by rw[Zo];omega⟩;refine((rs.keeps ff).store (k:=m) (Qm O7.o.1 (by omega))).congr fun k hk=>?_;by_cases e:k=m
     ·subst e;rw[if_pos (by omega),if_pos rfl]
     ·rw[if_neg e];by_cases e2:k<m
      ·rw[if_pos (by omega),if_pos e2]
      ·rw[if_neg (by omega),if_neg e2]
    clear r0 r1 rv rs rf hbu h7 ff HBU HR O5 O6 O7 PB H4 F4 HSM hal hfal hcal;go_wp2_with fail;go_roundw
    case rel=>exact⟨m+1,by omega,by go_num,H7⟩
    case measure=>simp[intOf];omega
  ·have hme:m=bs.length:=by omega
   subst hme;have S9:Jd (w.heap.size+1) wr (.slice (some ⟨w1.heap.size+1,0,none⟩) bs.length bs.length) bs.length (JX bs):=rs.congr fun k hk=>by rw[if_pos hk]
   have k1:=Qa r1 0;have k2:=Qa r0 0;have k3:=Qa r0 1;have k4:=Qa r0 2;have kf:=Qf r0;simp at k1 k2 k3 k4;have n1:w1.heap.size≠w.heap.size:=by omega
   have F9:Hid (∀x y z,(((wr.setCell ⟨w.heap.size,0,none⟩ x).setCell ⟨w.heap.size,1,none⟩ y).setCell ⟨w.heap.size,2,none⟩ z).ownsRow w.heap.size 143 1 (.slice pa (Qx bs).length ca) (Qx bs).length (Qg (Qx bs))∧Jd w.heap.size (((wr.setCell ⟨w.heap.size,0,none⟩ x).setCell ⟨w.heap.size,1,none⟩ y).setCell ⟨w.heap.size,2,none⟩ z) (.slice (some ⟨w1.heap.size+1,0,none⟩) bs.length bs.length) bs.length (JX bs)∧Below w.heap.size w (((wr.setCell ⟨w.heap.size,0,none⟩ x).setCell ⟨w.heap.size,1,none⟩ y).setCell ⟨w.heap.size,2,none⟩ z)):=by
    intro x y z;refine⟨Qm (QB (QB (QB rv _ 0 x (by omega)) _ 1 y (by omega)) _ 2 z (by omega)) (by omega),?_,Qr (Qr (Qr rf _ _ _ (Nat.le_refl _)) _ _ _ (Nat.le_refl _)) _ _ _ (Nat.le_refl _)⟩;obtain⟨us,a,b⟩:=S9;exact⟨us,Qm (QB (QB (QB a _ 0 x (by omega)) _ 1 y (by omega)) _ 2 z (by omega)) (by omega),fun j u hu=>Qm (QB (QB (QB (b j u hu) _ 0 x (by omega)) _ 1 y (by omega)) _ 2 z (by omega)) (by omega)⟩
   clear r0 r1 rv rs rf HR S9;go_wp2_with fail;refine bodyPost_ret (v:=.agg #[.slice pv bs.length cv,.slice pa (Qx bs).length ca,.slice (some ⟨w1.heap.size+1,0,none⟩) bs.length bs.length]) (by simp[results,Tryz.results70,go_sem,k2,k3,k4]) rfl ⟨_,_,rfl,?_,?_,?_⟩
   ·exact(F9.o _ _ _).1
   ·exact(F9.o _ _ _).2.1
   ·exact(F9.o _ _ _).2.2
theorem QeY{bs:List Ql}{b:Nat}(hb:b<bs.length):Qt (Qx bs) b=rchF (suF bs) bs.length noB b:=by
 rw[Bool.eq_iff_iff,ZJ,Qx,Z4];exact⟨fun h=>h.2,fun h=>⟨hb,h⟩⟩
theorem QcF{bs:List Ql}{a b:Nat}(hb:b<bs.length):Qt (JX bs a) b=X6 (suF bs) bs.length a b:=by
 rw[Bool.eq_iff_iff,ZJ,JX,Z4];exact⟨fun h=>h.2,fun h=>⟨hb,h⟩⟩
theorem Qdf(bs:List Ql)(B b:Nat)(v va vu:Value)(w:World)(hv:∃p n c,v=.slice p n c)(hu:∃p n c,vu=.slice p n c)(ha:w.ownsRow B 143 1 va (Qx bs).length (Qg (Qx bs)))(hb:b<bs.length)(hn:bs.length≤1000):
  Calls Tryz.prog 77 #[.agg #[v,va,vu],.int .i64 b] w fun e w'=>e=.returned (.bool (rchF (suF bs) bs.length noB b))∧Below w.heap.size w w':=by
 obtain⟨pv,nv,cv,rfl⟩:=hv;obtain⟨pu,nu,cu,rfl⟩:=hu;obtain⟨pa,ca,rfl⟩:=Qb ha;have HA:=Qc ha;clear ha;go_enter Tryz.func77,Tryz.ntmps77;go_wp2_with fail;refine(Qba (Qx bs) b B _ _ (HA.o.alloc _) (K8 _ _) (Nat.le_trans (Xy _ _) (by omega))).mono ?_;rintro e w1 ⟨rfl,f1⟩;rw[QeY hb];have F1:=Qc (((Below.refl w.heap.size w).alloc (Nat.le_refl _) _).trans (f1.mono (by rw[World.size_alloc];omega)));clear f1;go_wp2_with fail;go_ret;exact⟨rfl,F1.o⟩
theorem QiS(bs:List Ql)(B a b:Nat)(v va vu:Value)(w:World)(hv:∃p n c,v=.slice p n c)(ha:∃p n c,va=.slice p n c)(hu:Jd B w vu bs.length (JX bs))(hab:a<bs.length)(hb:b<bs.length)(hn:bs.length≤1000):
  Calls Tryz.prog 149 #[.agg #[v,va,vu],.int .i64 a,.int .i64 b] w fun e w'=>e=.returned (.bool (X6 (suF bs) bs.length a b))∧Below w.heap.size w w':=by
 obtain⟨pv,nv,cv,rfl⟩:=hv;obtain⟨pa,na,ca,rfl⟩:=ha;obtain⟨pu,cu,rfl⟩:=hu.slice;obtain⟨g,u,rfl,_,hg,hc,_,ho⟩:=hu.at hab;obtain⟨p1,c1,rfl⟩:=Qb ho;have HO:=Qc ho;have hcal:∀o,(w.alloc o).cell? ⟨g,a,none⟩=some (.slice p1 (JX bs a).length c1):=fun o=>by
  rw[World.cell?_of_block (w:=w) (Below.heap_alloc w o _ hg)];exact hc
 clear ho hu hc;go_enter Tryz.func149,Tryz.ntmps149;go_wp2_with fail;refine(Qba (JX bs a) b B _ _ (HO.o.alloc _) (K8 _ _) (Nat.le_trans (Xy _ _) (by omega))).mono ?_;rintro e w1 ⟨rfl,f1⟩;rw[QcF hb];have F1:=Qc (((Below.refl w.heap.size w).alloc (Nat.le_refl _) _).trans (f1.mono (by rw[World.size_alloc];omega)));clear f1;go_wp2_with fail;go_ret;exact⟨rfl,F1.o⟩
end Go.Proofs.YtgfhfkgdmidhpaaGreatDoor
