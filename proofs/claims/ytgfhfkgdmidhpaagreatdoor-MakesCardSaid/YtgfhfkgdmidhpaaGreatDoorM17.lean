import Derived.Test.YtgfhfkgdmidhpaaGreatDoorM16
namespace Go.Proofs.YtgfhfkgdmidhpaaGreatDoor
open Go.RowKit
open Go.Proofs.Tryz
set_option maxRecDepth 100000
set_option maxHeartbeats 8000000
def Vu(bs:List Qm)(bar S:List Nat):List Nat:=dif (ofL (S++bhs bs S)) bar
theorem QcK{bs bar S x}:x∈Vu bs bar S↔(x∈S∨x∈bhs bs S)∧x∉bar:=by rw[Vu,XX,QN,QB]
theorem QcJ(bs bar S):(Vu bs bar S).Pairwise (· < ·):=YQ (Zi _)
theorem Qik{bs:List Qm}{S:List Nat}(hS:∀x∈S,x<bs.length)(h:∀b∈bs,∀p∈goalsF b.e,p.1<bs.length):(ofL (S++bhs bs S)).length≤bs.length:=
 Qbw (Zi _) fun x hx=>by
  rw[QN,QB]at hx;rcases hx with hx|hx
  ·exact hS x hx
  ·obtain⟨i,_,hi⟩:=YR.1 hx;exact XB h i x hi
theorem Qkk(bs:List Qm)(S bar:List Nat)(base Bs Bb pb qb:Nat)(v vs vb:Value)(w:World)(h:PBs w base bs v)(ho:w.ownsRow Bs 143 1 vs S.length (Qe S))(hb:w.ownsRow Bb 143 1 vb bar.length (Qe bar))(hp:w.cell? ⟨pb,0,none⟩=some v)(hq:w.cell? ⟨qb,0,none⟩=some vb)
  (hS:Hid (∀x∈S,x<bs.length))(hsb:Hid (bar.Pairwise (· < ·)))(hgl:Hid (∀b∈bs,∀p∈goalsF b.e,p.1<bs.length))(hn:bs.length≤1000)(hl:S.length≤1000)(hlb:bar.length≤1000):
  Calls prog 164 #[.agg #[vs],.pointer (some ⟨pb,0,none⟩),.pointer (some ⟨qb,0,none⟩)] w fun x w'=>∃v',x=.returned (.agg #[v'])∧w'.ownsRow w.heap.size 143 1 v' (Vu bs bar S).length (Qe (Vu bs bar S))∧Below w.heap.size w w':=by
 obtain⟨pv,cv,rfl⟩:=h.slice;obtain⟨po,co,rfl⟩:=Qa ho;obtain⟨pr,cr,rfl⟩:=Qa hb;have hpw:pb<w.heap.size:=Zh _ _ hp;have hqw:qb<w.heap.size:=Zh _ _ hq;have HP:=Qc (And.intro h (And.intro ho (And.intro hb (And.intro hp hq))));clear h ho hb hp hq;go_enter func164,ntmps164;go_wp2_with fail;obtain⟨W2,hW2⟩:∃W2,W2=(w.alloc (.cells #[.slice po S.length co] 82)).alloc (.cells #[.slice none 0 0] 82):=⟨_,rfl⟩;rw[←hW2];obtain⟨g0,g1,hz,f2⟩:=two w (.cells #[.slice po S.length co] 82) (.cells #[.slice none 0 0] 82);rw[←hW2]at g0 g1 hz f2;have k0:=Qb g0 0;have k1:=Qb g1 0;have k1f:=Qg g1 0;simp at k0 k1;have kp:W2.cell? ⟨pb,0,none⟩=some (.slice pv bs.length cv):=(f2.cell (p:=⟨pb,0,none⟩) hpw).trans HP.o.2.2.2.1;have kq:W2.cell? ⟨qb,0,none⟩=some (.slice pr bar.length cr):=(f2.cell (p:=⟨qb,0,none⟩) hqw).trans HP.o.2.2.2.2;have l0:w.heap.size<W2.heap.size:=by omega
 have l1:w.heap.size+1<W2.heap.size:=by omega
 have lp:pb<W2.heap.size:=by omega
 have lq:qb<W2.heap.size:=by omega
 have np:¬(w.heap.size+1=pb):=by omega
 have nq:¬(w.heap.size+1=qb):=by omega
 have L1:(bhs bs S).length≤1000000:=Qy (Na hgl.out) (by omega);have L2:(ofL (S++bhs bs S)).length≤1000000:=Qy (Qik hS.out hgl.out) (by omega);have L3:S.length≤1000000:=by omega
 have L4:bar.length≤1000000:=by omega
 have O2:Hid (PBs W2.drew base bs (.slice pv bs.length cv)∧W2.ownsRow Bs 143 1 (.slice po S.length co) S.length (Qe S)∧W2.ownsRow Bb 143 1 (.slice pr bar.length cr) bar.length (Qe bar)):=
  ⟨HP.o.1.keeps (w':=W2.drew) (Qr.below (w':=W2) f2),Qd HP.o.2.1 (Qh f2) trivial,Qd HP.o.2.2.1 (Qh f2) trivial⟩
 have F2:=Qc f2;clear hW2 g0 g1 f2 HP
 go_region_held (fun w'=>w'.cell? ⟨w.heap.size,0,none⟩=some (.slice po S.length co)∧w'.cell? ⟨pb,0,none⟩=some (.slice pv bs.length cv)∧w'.cell? ⟨qb,0,none⟩=some (.slice pr bar.length cr)∧w'.frozen? ⟨w.heap.size+1,0,none⟩=false) (first | (simp[*];done) | (simp[*,World.cell?_setCell_far];done))
  (first | (go_at_call 166;refine(Qcv bs S base Bs _ _ W2.drew O2.o.1 O2.o.2.1 hS hgl hn hl).mono ?_;rintro e w5 ⟨v5,rfl,o5,f5⟩;obtain⟨p5,c5,rfl⟩:=Qa o5;have f5':Below W2.heap.size W2 w5:=⟨f5.os,f5.tape,f5.output,f5.size,f5.block⟩;have s5:=f5'.size;have y0:=f5'.cell (p:=⟨w.heap.size,0,none⟩) l0;have y1:=f5'.cell (p:=⟨w.heap.size+1,0,none⟩) l1;have y1f:=f5'.frozen (p:=⟨w.heap.size+1,0,none⟩) l1;have yp:=f5'.cell (p:=⟨pb,0,none⟩) lp;have yq:=f5'.cell (p:=⟨qb,0,none⟩) lq;have O5:=Qc (And.intro o5 f5');clear o5 f5 f5') | (go_at_call 165;refine(G9 S (bhs bs S) Bs W2.heap.size _ _ w5 (Qd O2.o.2.1 (Qh O5.o.2) trivial) O5.o.1 L3 L1).mono ?_;rintro e w6 ⟨v6,rfl,o6,f6⟩;obtain⟨p6,c6,rfl⟩:=Qa o6;have s6:=f6.size;have z0:=f6.cell (p:=⟨w.heap.size,0,none⟩) (show w.heap.size<w5.heap.size by omega);have z1:=f6.cell (p:=⟨w.heap.size+1,0,none⟩) (show w.heap.size+1<w5.heap.size by omega);have z1f:=f6.frozen (p:=⟨w.heap.size+1,0,none⟩) (show w.heap.size+1<w5.heap.size by omega);have zp:=f6.cell (p:=⟨pb,0,none⟩) (show pb<w5.heap.size by omega);have zq:=f6.cell (p:=⟨qb,0,none⟩) (show qb<w5.heap.size by omega);have O6:=Qc (And.intro o6 (O5.o.2.trans (f6.mono s5)));clear o6 f6) | (go_at_call 118;refine(Wc (ofL (S++bhs bs S)) bar w5.heap.size Bb _ _ w6 O6.o.1 (Qd O2.o.2.2 (Qh O6.o.2) trivial) hsb L2 L4).mono ?_;rintro e w7 ⟨v7,rfl,o7,f7⟩;obtain⟨p7,c7,rfl⟩:=Qa o7;have s7:=f7.size;have x0:=f7.cell (p:=⟨w.heap.size,0,none⟩) (show w.heap.size<w6.heap.size by omega);have x1:=f7.cell (p:=⟨w.heap.size+1,0,none⟩) (show w.heap.size+1<w6.heap.size by omega);have x1f:=f7.frozen (p:=⟨w.heap.size+1,0,none⟩) (show w.heap.size+1<w6.heap.size by omega);have xp:=f7.cell (p:=⟨pb,0,none⟩) (show pb<w6.heap.size by omega);have xq:=f7.cell (p:=⟨qb,0,none⟩) (show qb<w6.heap.size by omega);have O7:=Qc (And.intro o7 (O6.o.2.trans (f7.mono (by omega))));clear o7 f7))
 all_goals
  have l7:w.heap.size+1<w6.heap.size:=by omega
  have F7:=Qc (And.intro (Qj (QE O7.o.1 (w.heap.size+1) 0 (.slice p7 (Vu bs bar S).length c7) l7) (show w.heap.size≤w6.heap.size by omega)) (Qp (F2.o.trans (O7.o.2.mono (by omega))) (w.heap.size+1) 0 (.slice p7 (Vu bs bar S).length c7) (by omega)));clear O2 O5 O6 O7 F2;go_wp2_with fail;refine bodyPost_ret (v:=.agg #[.slice p7 (Vu bs bar S).length c7]) (by simp[results,results164,go_sem,x1,z1,y1,k1];rfl) rfl ⟨_,rfl,?_,?_⟩
  ·exact F7.o.1
  ·exact F7.o.2
theorem QL{w:World}{base e k n o:Nat}{v x:Value}{xs:List Value}{cs:Array Value}{t:TypeId}{fz:Nat×Nat}(h:w.ownsRow base e 1 v n xs)(hk:w.heap[k]?=some (.cells cs t fz))(ht:t≠e):(w.setCell ⟨k,o,none⟩ x).ownsRow base e 1 v n xs:=by
 obtain⟨h1,h2⟩:=h;refine⟨h1,h2.imp id ?_⟩;rintro⟨g,cap,cur,rfl,b,c,d⟩;refine⟨g,cap,cur,rfl,b,?_,d⟩;rw[Below.heap_setCell _ _ _ _ ?_]
 ·exact c
 ·rintro rfl;rw[hk]at c;cases c;exact ht rfl
def WC(w:World)(k:Nat):Nat:=match w.cell? ⟨k,0,none⟩ with|some (.slice _ n _)=>n|_=>0
theorem VK{w:World}{k:Nat}{p:Option Addr}{n c:Nat}(h:w.cell? ⟨k,0,none⟩=some (.slice p n c)):WC w k=n:=by rw[WC,h]
theorem Qe1(bs:List Qm)(bar:List Nat)(f:Nat→Bool)(hgl:∀b∈bs,∀p∈goalsF b.e,p.1<bs.length):Vu bs bar (QI bs.length f)=QI bs.length (jac (suF bs) (QD bar) bs.length f):=by
 refine YH (QcJ _ _ _) fun x=>?_;rw[QcK,YR,Zk];simp only[jac,Bool.and_eq_true,Bool.or_eq_true,List.any_eq_true,List.mem_range,List.contains_iff_mem,Bool.not_eq_true'];have hb:x∉bar↔QD bar x=false:=by
  rw[←Ze];simp
 rw[hb];constructor
 ·rintro⟨⟨a,b⟩|⟨i,hi,hx⟩,c⟩
  ·exact⟨a,.inl b,c⟩
  ·rw[Zk]at hi;exact⟨XB hgl i x hx,.inr ⟨i,hi.1,hi.2,hx⟩,c⟩
 ·rintro⟨a,b|⟨i,hi,hf,hx⟩,c⟩
  ·exact⟨.inl ⟨a,b⟩,c⟩
  ·exact⟨.inr ⟨i,Zk.2 ⟨hi,hf⟩,hx⟩,c⟩
theorem QgH(bs:List Qm)(f0:Nat→Bool)(bar:List Nat)(base Bs Bb pb qb:Nat)(v vs vb:Value)(w:World)(h:PBs w base bs v)(ho:w.ownsRow Bs 143 1 vs (QI bs.length f0).length (Qe (QI bs.length f0)))(hb:w.ownsRow Bb 143 1 vb bar.length (Qe bar))(hp:w.cell? ⟨pb,0,none⟩=some v)(hq:w.cell? ⟨qb,0,none⟩=some vb)
  (hj:Hid (Jw (suF bs) (QD bar) bs.length f0))(hsb:Hid (bar.Pairwise (· < ·)))(hgl:Hid (∀b∈bs,∀p∈goalsF b.e,p.1<bs.length))(hn0:0<bs.length)(hn:bs.length≤1000)(hlb:bar.length≤1000):
  Calls prog 163 #[.agg #[vs],.func (.func 164) #[] #[.pointer (some ⟨pb,0,none⟩),.pointer (some ⟨qb,0,none⟩)]] w fun x w'=>∃v',x=.returned (.agg #[v'])∧w'.ownsRow w.heap.size 143 1 v' (QI bs.length (rchF (suF bs) bs.length (QD bar))).length (Qe (QI bs.length (rchF (suF bs) bs.length (QD bar))))∧Below w.heap.size w w':=by
 obtain⟨po,co,rfl⟩:=Qa ho;have hpw:pb<w.heap.size:=Zh _ _ hp;have hqw:qb<w.heap.size:=Zh _ _ hq;have HP:=Qc (And.intro h (And.intro hb (And.intro hp hq)));have HO:=Qc ho;clear h ho hb hp hq;have hmt:∀(x:Value)(w:World),(method 500 82 x "Same").run prog w=.ok (284,x) w:=fun x w=>by kernel_rfl
 go_enter func163,ntmps163;go_wp2_with fail;obtain⟨W2,hW2⟩:∃W2,W2=(w.alloc (.cells #[.slice po (QI bs.length f0).length co] 82)).alloc (.cells #[.slice none 0 0] 82):=⟨_,rfl⟩;rw[←hW2];obtain⟨g0,g1,hz,f2⟩:=two w (.cells #[.slice po (QI bs.length f0).length co] 82) (.cells #[.slice none 0 0] 82);rw[←hW2]at g0 g1 hz f2;have B0:Hid (Jw (suF bs) (QD bar) bs.length f0∧W2.heap[w.heap.size]?=some (.cells #[.slice po (QI bs.length f0).length co] 82 (0,0))∧W2.heap[w.heap.size+1]?=some (.cells #[.slice none 0 0] 82 (0,0))∧W2.ownsRow 0 143 1 (.slice po (QI bs.length f0).length co) (QI bs.length f0).length (Qe (QI bs.length f0))∧Below w.heap.size w W2∧w.heap.size+2≤W2.heap.size):=
  ⟨hj.out,g0,g1,Qj (Qd HO.o (Qh f2) trivial) (Nat.zero_le _),f2,by omega⟩
 clear g0 g1 hz f2 hW2 HO hj
 go_loopw [5] (fun _ wr=>∃(f:Nat→Bool)(p:Option Addr)(c:Nat),Hid (Jw (suF bs) (QD bar) bs.length f∧wr.heap[w.heap.size]?=some (.cells #[.slice p (QI bs.length f).length c] 82 (0,0))∧wr.heap[w.heap.size+1]?=some (.cells #[.slice none 0 0] 82 (0,0))∧wr.ownsRow 0 143 1 (.slice p (QI bs.length f).length c) (QI bs.length f).length (Qe (QI bs.length f))∧Below w.heap.size w wr∧w.heap.size+2≤wr.heap.size)) (fun _ wr=>bs.length-WC wr w.heap.size)
 case atStart=>exact⟨f0,po,co,B0⟩
 case round=>
  clear B0;obtain⟨f,p,c,HR⟩:=hrel;obtain⟨jf,r0,r1,rv,rf,rz⟩:=HR.o;have k0:=Qb r0 0;have k0f:=Qg r0 0;have k1f:=Qg r1 0;simp at k0;have L0:(QI bs.length f).length≤1000:=Qy (Z2 _ _) hn;have PB:=Qc (HP.o.1.keeps (Qr.below rf));have OB:=Qc (Qd HP.o.2.1 (Qh rf) trivial);have CP:Hid (wr.cell? ⟨pb,0,none⟩=some v∧wr.cell? ⟨qb,0,none⟩=some vb):=⟨(rf.cell (p:=⟨pb,0,none⟩) hpw).trans HP.o.2.2.1,(rf.cell (p:=⟨qb,0,none⟩) hqw).trans HP.o.2.2.2⟩;have HLA:Hid (WC wr w.heap.size=(QI bs.length f).length):=VK k0;have HJ:=Qc (Qe1 bs bar f hgl.out);have HSL:Hid (∀x∈QI bs.length f,x<bs.length):=fun x hx=>(Zk.1 hx).1;clear jf r0 r1 rv rf;go_wp2_with fail;refine(Qkk bs (QI bs.length f) bar base 0 Bb pb qb v _ vb wr PB.o HR.o.2.2.2.1 OB.o CP.o.1 CP.o.2 HSL hsb hgl hn L0 hlb).mono ?_;rintro e w5 ⟨v5,rfl,o5,f5⟩;rw[HJ.o]at o5;obtain⟨p5,c5,rfl⟩:=Qa o5;have L5:(QI bs.length (jac (suF bs) (QD bar) bs.length f)).length≤1000:=Qy (Z2 _ _) hn;have O5:=Qc (And.intro o5 f5);have s5:=f5.size;have q0:w5.heap[w.heap.size]?=some (.cells #[.slice p (QI bs.length f).length c] 82 (0,0)):=by rw[f5.block _ (by omega)];exact HR.o.2.1
  have y0:∀o,(w5.alloc o).cell? ⟨w.heap.size,0,none⟩=some (.slice p (QI bs.length f).length c):=fun o=>by have:=Qb (Qo q0 o) 0;simpa using this
  clear o5 f5 k0 k0f k1f PB OB CP HSL HJ q0;go_wp2_with fail;obtain⟨W6,hW6⟩:∃W6,W6=w5.alloc (.cells #[.slice p5 (QI bs.length (jac (suF bs) (QD bar) bs.length f)).length c5] 82):=⟨_,rfl⟩;rw[←hW6];have f6:Below w5.heap.size w5 W6:=by rw[hW6];exact(Below.refl _ _).alloc (Qi _) _
  have g6:W6.heap[w5.heap.size]?=some (.cells #[.slice p5 (QI bs.length (jac (suF bs) (QD bar) bs.length f)).length c5] 82 (0,0)):=by rw[hW6];exact heap_alloc_last _ _
  have hz6:W6.heap.size=w5.heap.size+1:=by rw[hW6,Qt]
  have f36:=O5.o.2.trans (f6.mono s5);refine(Qiv (QI bs.length (jac (suF bs) (QD bar) bs.length f)) (QI bs.length f) wr.heap.size 0 _ _ W6 (Qd O5.o.1 (Qh f6) trivial) (Qd HR.o.2.2.2.1 (Qh f36) trivial) (by omega) (by omega)).mono ?_;rintro e w7 ⟨rfl,f7⟩;have f37:=f36.trans (f7.mono (by omega));have g7:w7.heap[w5.heap.size]?=some (.cells #[.slice p5 (QI bs.length (jac (suF bs) (QD bar) bs.length f)).length c5] 82 (0,0)):=by rw[f7.block _ (by omega)];exact g6
  have r0:w7.heap[w.heap.size]?=some (.cells #[.slice p (QI bs.length f).length c] 82 (0,0)):=by rw[f37.block _ (by omega)];exact HR.o.2.1
  have r1:w7.heap[w.heap.size+1]?=some (.cells #[.slice none 0 0] 82 (0,0)):=by rw[f37.block _ (by omega)];exact HR.o.2.2.1
  have o7:=Qd O5.o.1 (Qh (f6.trans (f7.mono (by omega)))) trivial;have z5:=Qb g7 0;have z0:=Qb r0 0;have z0f:=Qg r0 0;have z1:=Qb r1 0;have z1f:=Qg r1 0;have s7:=f37.size;simp at z5 z0 z1;have ff:Below w.heap.size w w7:=HR.o.2.2.2.2.1.trans (f37.mono (by omega));by_cases heq:QI bs.length (jac (suF bs) (QD bar) bs.length f)=QI bs.length f
  ·have he:eqF (QI bs.length (jac (suF bs) (QD bar) bs.length f)) (QI bs.length f)=true:=by rw[eqF,heq];simp
   rw[he];have HD:Hid (QI bs.length (jac (suF bs) (QD bar) bs.length f)=QI bs.length (rchF (suF bs) bs.length (QD bar))):=by
    rw[heq];exact Qe2 HR.o.1 hn0 (XB hgl.out) heq
   have F8:Hid ((w7.setCell ⟨w.heap.size+1,0,none⟩ (.slice p5 (QI bs.length (jac (suF bs) (QD bar) bs.length f)).length c5)).ownsRow w.heap.size 143 1 (.slice p5 (QI bs.length (jac (suF bs) (QD bar) bs.length f)).length c5) (QI bs.length (jac (suF bs) (QD bar) bs.length f)).length (Qe (QI bs.length (jac (suF bs) (QD bar) bs.length f)))∧Below w.heap.size w (w7.setCell ⟨w.heap.size+1,0,none⟩ (.slice p5 (QI bs.length (jac (suF bs) (QD bar) bs.length f)).length c5))):=
    ⟨Qj (QL o7 r1 (by decide)) (by omega),Qp ff _ _ _ (by omega)⟩
   clear heq he f6 g6 hW6 f36 f7 f37 g7 r0 r1 o7 ff O5 HR HLA hmt y0;go_wp2_with fail;refine bodyPost_ret (v:=.agg #[.slice p5 (QI bs.length (jac (suF bs) (QD bar) bs.length f)).length c5]) (by simp[results,results163,go_sem,z1]) rfl ⟨_,rfl,?_,?_⟩
   ·rw[←HD.o];exact F8.o.1
   ·exact F8.o.2
  ·have he:eqF (QI bs.length (jac (suF bs) (QD bar) bs.length f)) (QI bs.length f)=false:=by simpa[eqF] using heq
   rw[he];have HL:Hid ((QI bs.length f).length<(QI bs.length (jac (suF bs) (QD bar) bs.length f)).length):=HR.o.1.less heq;have hlt:(QI bs.length (jac (suF bs) (QD bar) bs.length f)).length≤bs.length:=Z2 _ _;have F8:Hid (Jw (suF bs) (QD bar) bs.length (jac (suF bs) (QD bar) bs.length f)∧(w7.setCell ⟨w.heap.size,0,none⟩ (.slice p5 (QI bs.length (jac (suF bs) (QD bar) bs.length f)).length c5)).heap[w.heap.size]?=some (.cells #[.slice p5 (QI bs.length (jac (suF bs) (QD bar) bs.length f)).length c5] 82 (0,0))∧(w7.setCell ⟨w.heap.size,0,none⟩ (.slice p5 (QI bs.length (jac (suF bs) (QD bar) bs.length f)).length c5)).heap[w.heap.size+1]?=some (.cells #[.slice none 0 0] 82 (0,0))∧(w7.setCell ⟨w.heap.size,0,none⟩ (.slice p5 (QI bs.length (jac (suF bs) (QD bar) bs.length f)).length c5)).ownsRow 0 143 1 (.slice p5 (QI bs.length (jac (suF bs) (QD bar) bs.length f)).length c5) (QI bs.length (jac (suF bs) (QD bar) bs.length f)).length (Qe (QI bs.length (jac (suF bs) (QD bar) bs.length f)))∧Below w.heap.size w (w7.setCell ⟨w.heap.size,0,none⟩ (.slice p5 (QI bs.length (jac (suF bs) (QD bar) bs.length f)).length c5))∧w.heap.size+2≤(w7.setCell ⟨w.heap.size,0,none⟩ (.slice p5 (QI bs.length (jac (suF bs) (QD bar) bs.length f)).length c5)).heap.size):=
    ⟨HR.o.1.step,Qq r0 _ _,Ql r1 (by omega) _ _,Qj (QL o7 r0 (by decide)) (Nat.zero_le _),Qp ff _ _ _ (Qi _),by rw[Zs];omega⟩
   have HLB:Hid (WC (w7.setCell ⟨w.heap.size,0,none⟩ (.slice p5 (QI bs.length (jac (suF bs) (QD bar) bs.length f)).length c5)) w.heap.size=(QI bs.length (jac (suF bs) (QD bar) bs.length f)).length):=VK (World.cell?_setCell_same _ _ _ z0);clear heq he f6 g6 hW6 f36 f7 f37 g7 r0 r1 o7 ff O5 HR hmt y0;go_wp2_with fail;go_roundw
   case rel=>exact⟨_,_,_,F8⟩
   case measure=>rw[HLA.o,HLB.o];have:=HL.o;omega
theorem VG(x:Nat):ofL [x]=[x]:=Zo (Zi _) (List.pairwise_singleton _ _) fun _=>QN
theorem QfJ{n:Nat}(hn:0<n)(bar:List Nat):dif [0] bar=QI n (RG (QD bar)):=by
 refine YH (YQ (List.pairwise_singleton _ _)) fun x=>?_;rw[XX,QF];have hb:x∉bar↔QD bar x=false:=by rw[←Ze];simp
 rw[hb];simp only[RG,ZJ,Bool.and_eq_true,beq_iff_eq,Bool.not_eq_true'];constructor
 ·rintro⟨rfl,h⟩;exact⟨hn,rfl,h⟩
 ·rintro⟨_,h⟩;exact h
theorem NB(bs:List Qm)(bar:List Nat)(base Bb:Nat)(v vb:Value)(w:World)(h:PBs w base bs v)(hb:w.ownsRow Bb 143 1 vb bar.length (Qe bar))
  (hsb:Hid (bar.Pairwise (· < ·)))(hgl:Hid (∀b∈bs,∀p∈goalsF b.e,p.1<bs.length))(hn0:0<bs.length)(hn:bs.length≤1000)(hlb:bar.length≤1000):
  Calls prog 117 #[v,.agg #[vb]] w fun x w'=>∃v',x=.returned (.agg #[v'])∧w'.ownsRow w.heap.size 143 1 v' (QI bs.length (rchF (suF bs) bs.length (QD bar))).length (Qe (QI bs.length (rchF (suF bs) bs.length (QD bar))))∧Below w.heap.size w w':=by
 obtain⟨pv,cv,rfl⟩:=h.slice;obtain⟨pr,cr,rfl⟩:=Qa hb;have HP:=Qc (And.intro h hb);have hmf:∀(fn:Fn)(first cap:Array Value)(w:World),(Instr.makeFunc fn first cap).run prog w=.ok (.func fn first cap) w:=fun _ _ _ _=>rfl
 clear h hb;go_enter func117,ntmps117;go_wp2_with fail;obtain⟨W3,hW3⟩:∃W3,W3=((w.alloc (.cells #[.slice pv bs.length cv] 38)).alloc (.cells #[.slice pr bar.length cr] 82)).alloc (.cells #[.slice none 0 0] 82):=⟨_,rfl⟩;rw[←hW3];obtain⟨g0,g1,g2,hz,f3⟩:=Yf w (.cells #[.slice pv bs.length cv] 38) (.cells #[.slice pr bar.length cr] 82) (.cells #[.slice none 0 0] 82);rw[←hW3]at g0 g1 g2 hz f3;clear hW3;have o4:=ZK W3 W3.heap.size 143 1 1 #[.int .i64 0] (Qi _) rfl (by decide);rw[show w.heap.size+1+1+1=W3.heap.size by omega];have o4':(W3.alloc (.cells #[.int .i64 0] 143)).ownsRow W3.heap.size 143 1 (.slice (some ⟨W3.heap.size,0,none⟩) 1 1) ([0]:List Nat).length (Qe [0]):=o4;refine(ofB [0] W3.heap.size _ _ o4' (by simp)).mono ?_;rintro e w5 ⟨v5,rfl,o5,f5⟩;rw[VG]at o5;obtain⟨p5,c5,rfl⟩:=Qa o5;have f35:Below W3.heap.size W3 w5:=((Below.refl _ _).alloc (Qi _) _).trans (f5.mono (by rw[Qt];omega));have s5:=f35.size;have q0:w5.heap[w.heap.size]?=some (.cells #[.slice pv bs.length cv] 38 (0,0)):=by rw[f35.block _ (by omega)];exact g0
 have q1:w5.heap[w.heap.size+1]?=some (.cells #[.slice pr bar.length cr] 82 (0,0)):=by rw[f35.block _ (by omega)];exact g1
 have q2:w5.heap[w.heap.size+1+1]?=some (.cells #[.slice none 0 0] 82 (0,0)):=by rw[f35.block _ (by omega)];exact g2
 have y1:∀o,(w5.alloc o).cell? ⟨w.heap.size+1,0,none⟩=some (.slice pr bar.length cr):=fun o=>by have:=Qb (Qo q1 o) 0;simpa using this
 have O5:=Qc (And.intro o5 (And.intro f35 (And.intro q0 (And.intro q1 (And.intro q2 f3)))));clear g0 g1 g2 f3 o4 o4' o5 f5 f35 q0 q1 q2;go_wp2_with fail;obtain⟨W6,hW6⟩:∃W6,W6=w5.alloc (.cells #[.slice p5 1 c5] 82):=⟨_,rfl⟩;rw[←hW6];obtain⟨o5,f35,q0,q1,q2,f3⟩:=O5.o;have f6:Below w5.heap.size w5 W6:=by rw[hW6];exact(Below.refl _ _).alloc (Qi _) _
 have f36:=f35.trans (f6.mono s5);have fw6:=f3.trans (f36.mono (by omega));have s6:=f36.size;refine(Wc [0] bar _ Bb _ _ W6 (Qd o5 (Qh f6) trivial) (Qd HP.o.2 (Qh fw6) trivial) hsb (by simp) (by omega)).mono ?_;rintro e w7 ⟨v7,rfl,o7,f7⟩;rw[QfJ hn0]at o7;have s7:=f7.size;have f37:=f36.trans (f7.mono s6);have fw7:=f3.trans (f37.mono (by omega));obtain⟨p7,c7,rfl⟩:=Qa o7;have O7:Hid (w7.ownsRow W6.heap.size 143 1 (.slice p7 (QI bs.length (RG (QD bar))).length c7) (QI bs.length (RG (QD bar))).length (Qe (QI bs.length (RG (QD bar))))∧PBs w7 base bs (.slice pv bs.length cv)∧w7.ownsRow Bb 143 1 (.slice pr bar.length cr) bar.length (Qe bar)∧w7.cell? ⟨w.heap.size,0,none⟩=some (.slice pv bs.length cv)∧w7.cell? ⟨w.heap.size+1,0,none⟩=some (.slice pr bar.length cr)∧w7.heap[w.heap.size+1+1]?=some (.cells #[.slice none 0 0] 82 (0,0))∧Below w.heap.size w w7):=by
  have e0:w7.heap[w.heap.size]?=some (.cells #[.slice pv bs.length cv] 38 (0,0)):=by rw[f7.block _ (by omega),f6.block _ (by omega)];exact q0
  have e1:w7.heap[w.heap.size+1]?=some (.cells #[.slice pr bar.length cr] 82 (0,0)):=by rw[f7.block _ (by omega),f6.block _ (by omega)];exact q1
  have e2:w7.heap[w.heap.size+1+1]?=some (.cells #[.slice none 0 0] 82 (0,0)):=by rw[f7.block _ (by omega),f6.block _ (by omega)];exact q2
  exact⟨o7,HP.o.1.keeps (Qr.below fw7),Qd HP.o.2 (Qh fw7) trivial,by have:=Qb e0 0;simpa using this,by have:=Qb e1 0;simpa using this,e2,fw7⟩
 clear O5 o5 f35 q0 q1 q2 f3 f6 f36 fw6 f7 f37 fw7 o7 hW6 y1;go_wp2_with fail;refine(QgH bs (RG (QD bar)) bar base _ Bb _ _ _ _ _ w7 O7.o.2.1 O7.o.1 O7.o.2.2.1 O7.o.2.2.2.1 O7.o.2.2.2.2.1 (Jw.start _ _ _) hsb hgl hn0 hn hlb).mono ?_;rintro e w8 ⟨v8,rfl,o8,f8⟩;obtain⟨p8,c8,rfl⟩:=Qa o8;have g8:w8.heap[w.heap.size+1+1]?=some (.cells #[.slice none 0 0] 82 (0,0)):=by rw[f8.block _ (by omega)];exact O7.o.2.2.2.2.2.1
 have k2:=Qb g8 0;have k2f:=Qg g8 0;simp at k2;have F8:=Qc (And.intro (Qj (QE o8 (w.heap.size+1+1) 0 (.slice p8 (QI bs.length (rchF (suF bs) bs.length (QD bar))).length c8) (by omega)) (show w.heap.size≤w7.heap.size by omega)) (Qp (O7.o.2.2.2.2.2.2.trans (f8.mono (by omega))) (w.heap.size+1+1) 0 (.slice p8 (QI bs.length (rchF (suF bs) bs.length (QD bar))).length c8) (by omega)));clear g8 f8 o8 O7;go_wp2_with fail;refine bodyPost_ret (v:=.agg #[.slice p8 (QI bs.length (rchF (suF bs) bs.length (QD bar))).length c8]) (by simp[results,results117,go_sem,k2]) rfl ⟨_,rfl,?_,?_⟩
 ·exact F8.o.1
 ·exact F8.o.2
def XK(base:Nat)(w:World)(v:Value)(n:Nat)(f:Nat→List Nat):Prop:=
 ∃us:List Value,w.ownsRow base 82 1 v n us∧∀(k:Nat)(u:Value),us[k]?=some u→w.ownsRow base 143 1 u (f k).length (Qe (f k))
theorem XK.slice{base w v n f}(h:XK base w v n f):∃p c,v=.slice p n c:=by obtain⟨us,a,_⟩:=h;exact Qa a
theorem XK.keeps{base:Nat}{w w':World}{v:Value}{n:Nat}{f:Nat→List Nat}(h:XK base w v n f)(k:Below w.heap.size w w'):XK base w' v n f:=by
 obtain⟨us,a,b⟩:=h;exact⟨us,Qd a (Qh k) trivial,fun j u hu=>Qd (b j u hu) (Qh k) trivial⟩
theorem XK.base{base base':Nat}{w:World}{v:Value}{n:Nat}{f:Nat→List Nat}(h:XK base w v n f)(hb:base'≤base):XK base' w v n f:=by
 obtain⟨us,a,b⟩:=h;exact⟨us,Qj a hb,fun j u hu=>Qj (b j u hu) hb⟩
theorem XK.congr{base:Nat}{w:World}{v:Value}{n:Nat}{f f':Nat→List Nat}(h:XK base w v n f)(e:∀k,k<n→f' k=f k):XK base w v n f':=by
 obtain⟨us,a,b⟩:=h;have hl:us.length=n:=by have:=a.1;omega
 refine⟨us,a,fun j u hu=>?_⟩;have hj:j<n:=by
  rcases Nat.lt_or_ge j us.length with h|h
  ·omega
  ·rw[ZI h]at hu;cases hu
 rw[e j hj];exact b j u hu
theorem XK.at{base:Nat}{w:World}{p:Option Addr}{c n:Nat}{f:Nat→List Nat}(h:XK base w (.slice p n c) n f){k:Nat}(hk:k<n):
  ∃g u,p=some ⟨g,0,none⟩∧base≤g∧g<w.heap.size∧w.cell? ⟨g,k,none⟩=some u∧w.frozen? ⟨g,k,none⟩=false∧w.ownsRow base 143 1 u (f k).length (Qe (f k)):=by
 obtain⟨us,a,b⟩:=h;obtain⟨g,rfl,hb,hg⟩:=Qk a (by omega);have hl:us.length=n:=by have:=a.1;omega
 have hu:us[k]?=some us[k]:=Zl (by omega);exact⟨g,us[k],rfl,hb,hg,Qf a hu,Xz a k,b k _ hu⟩
theorem XK.store{base:Nat}{w:World}{g c n:Nat}{f:Nat→List Nat}(h:XK base w (.slice (some ⟨g,0,none⟩) n c) n f){k:Nat}{u:Value}{l:List Nat}(o:w.ownsRow base 143 1 u l.length (Qe l)):
  XK base (w.setCell ⟨g,k,none⟩ u) (.slice (some ⟨g,0,none⟩) n c) n (fun j=>if j=k then l else f j):=by
 obtain⟨us,a,b⟩:=h;have hb:∃cs fz,w.heap[g]?=some (.cells cs 82 fz):=by
  rcases a.2 with ⟨h0,_⟩|⟨g',cap',cur',hv,_,hc',_⟩
  ·cases h0
  ·cases hv;exact⟨_,_,hc'⟩
 obtain⟨cs,fz,hg⟩:=hb;refine⟨us.set k u,ZA a k u,fun j x hx=>?_⟩;rw[List.getElem?_set]at hx;by_cases hj:k=j
 ·subst hj;rw[if_pos rfl]at hx;split at hx
  ·cases hx;show (w.setCell _ u).ownsRow base 143 1 u (if k=k then l else f k).length (Qe (if k=k then l else f k));rw[if_pos rfl];exact QL o hg (by decide)
  ·cases hx
 ·rw[if_neg hj]at hx;show (w.setCell _ u).ownsRow base 143 1 x (if j=k then l else f j).length (Qe (if j=k then l else f j));rw[if_neg (fun e:j=k=>hj e.symm)];exact QL (b j x hx) hg (by decide)
theorem Qfh:QD []=noB:=by funext j;rfl
theorem Qfg(i:Nat):QD [i]=isB i:=by funext j;rw[Bool.eq_iff_iff,Ze,isB];simp
def QW(bs:List Qm)(i:Nat):List Nat:=QI bs.length (ZG (suF bs) bs.length i)
def QT(bs:List Qm):List Nat:=QI bs.length (rchF (suF bs) bs.length noB)
theorem QdM(bs:List Qm)(i:Nat):dif (QT bs) (QI bs.length (rchF (suF bs) bs.length (isB i)))=QW bs i:=by
 refine YH (YQ (Kz _ _)) fun x=>?_;rw[XX,QT,Zk,Zk,ZG,Bool.and_eq_true];constructor
 ·rintro⟨⟨a,b⟩,c⟩;refine⟨a,b,?_⟩
  cases h:rchF (suF bs) bs.length (isB i) x with
  | false=>rfl
  | true=>exact absurd ⟨a,h⟩ c
 ·rintro⟨a,b,c⟩;exact⟨⟨a,b⟩,fun h=>by rw[h.2]at c;cases c⟩
theorem Qjk(bs:List Qm)(base:Nat)(v:Value)(w:World)(h:PBs w base bs v)(hgl:Hid (∀b∈bs,∀p∈goalsF b.e,p.1<bs.length))(hn0:0<bs.length)(hn:bs.length≤1000):
  Calls prog 70 #[v] w fun x w'=>∃va vu,x=.returned (.agg #[v,va,vu])∧w'.ownsRow w.heap.size 143 1 va (QT bs).length (Qe (QT bs))∧XK w.heap.size w' vu bs.length (QW bs)∧Below w.heap.size w w':=by
 obtain⟨pv,cv,rfl⟩:=h.slice;have HP:=Qc h;clear h;obtain⟨I9,Hi9,Hz9,Hs9,Hb9⟩:=info_parts Qfe;have HI:=Qc (And.intro Hi9 (And.intro Hz9 (And.intro Hs9 Hb9)));clear Hi9 Hz9 Hs9 Hb9;go_enter func70,ntmps70;go_wp2_with fail;have f0:Below w.heap.size w (w.alloc (.cells #[.slice none 0 0,.slice none 0 0,.slice none 0 0] 85)):=(Below.refl _ _).alloc (Qi _) _;refine(NB bs [] base 0 _ _ _ (HP.o.keeps (Qr.below f0)) (World.ownsRow_nil _ _ _ _) List.Pairwise.nil hgl hn0 hn (by simp)).mono ?_;rintro e w1 ⟨va,rfl,o1,f1⟩;rw[Qfh]at o1;replace o1:w1.ownsRow _ 143 1 va (QT bs).length (Qe (QT bs)):=o1;obtain⟨pa,ca,rfl⟩:=Qa o1;have s1:=f1.size;rw[Qt]at s1;have q0:w1.heap[w.heap.size]?=some (.cells #[.slice none 0 0,.slice none 0 0,.slice none 0 0] 85 (0,0)):=by rw[f1.block _ (by rw[Qt];omega)];exact heap_alloc_last _ _
 have O1:=Qc (And.intro o1 (And.intro f1 (And.intro f0 q0)));clear o1 f1 f0 q0;go_wp2_with (at_make;refine QA ?_);refine Qc ?_;obtain⟨W2,hW2⟩:∃W2,W2=w1.alloc (.cells #[.slice pa (QT bs).length ca] 82):=⟨_,rfl⟩;rw[←hW2];have g2:W2.heap[w1.heap.size]?=some (.cells #[.slice pa (QT bs).length ca] 82 (0,0)):=by rw[hW2];exact heap_alloc_last _ _
 have f2:Below w1.heap.size w1 W2:=by rw[hW2];exact(Below.refl _ _).alloc (Qi _) _
 have s2:W2.heap.size=w1.heap.size+1:=by rw[hW2,Qt]
 refine wpList_make_full _ rfl _ _ 83 rfl (w.heap.size+1) 82 I9 (.agg #[.slice none 0 0]) 1 underlying83 HI.o.1 HI.o.2.1 HI.o.2.2.1 .i64 .i64 _ _ bs.length rfl rfl rfl rfl (by rw[HI.o.2.2.2];omega) (by unfold maxLen;omega) (by omega) ?_;intro w3 o3 gr3;rw[s2]at o3 ⊢;have f3:Below W2.heap.size W2 w3:=Below.grown (Below.refl _ _) gr3 (Qi _) (fun k hk=>by cases hk);have S3:XK (w.heap.size+1) w3 (.slice (some ⟨w1.heap.size+1,0,none⟩) bs.length bs.length) bs.length (fun k=>if k<0 then QW bs k else []):=by
  refine⟨_,o3,fun k u hu=>?_⟩;rw[J2]at hu;obtain⟨_,rfl⟩:=Kl hu;exact Q3 _ _ _ _
 obtain⟨o1,f1,f0,q0⟩:=O1.o;have s3:=f3.size;have fw1:=f0.trans (f1.mono (by rw[Qt];omega));have B0:Hid (w3.heap[w.heap.size]?=some (.cells #[.slice none 0 0,.slice none 0 0,.slice none 0 0] 85 (0,0))∧w3.heap[w1.heap.size]?=some (.cells #[.slice pa (QT bs).length ca] 82 (0,0))∧w3.ownsRow (w.heap.size+1) 143 1 (.slice pa (QT bs).length ca) (QT bs).length (Qe (QT bs))∧XK (w.heap.size+1) w3 (.slice (some ⟨w1.heap.size+1,0,none⟩) bs.length bs.length) bs.length (fun k=>if k<0 then QW bs k else [])∧Below w.heap.size w w3∧w1.heap.size+1<w3.heap.size):=by
  have f13:=f2.trans (f3.mono (by omega));refine⟨by rw[f13.block _ (by omega)];exact q0,by rw[f3.block _ (by omega)];exact g2,?_,S3,fw1.trans (f13.mono (by omega)),?_⟩
  ·exact Qj (Qd o1 (Qh f13) trivial) (by rw[Qt];omega)
  ·obtain⟨g9,_,e9,_,l9,_⟩:=S3.at hn0;cases e9;exact l9
 clear hW2 g2 f2 s2 o3 gr3 f3 S3 o1 f1 f0 q0 s3 fw1 O1 HI;go_wp2_with fail
 go_loopw [14] (fun i wr=>∃m:Nat,m≤bs.length∧i=.int .i64 m∧Hid (wr.heap[w.heap.size]?=some (.cells #[.slice none 0 0,.slice none 0 0,.slice none 0 0] 85 (0,0))∧wr.heap[w1.heap.size]?=some (.cells #[.slice pa (QT bs).length ca] 82 (0,0))∧wr.ownsRow (w.heap.size+1) 143 1 (.slice pa (QT bs).length ca) (QT bs).length (Qe (QT bs))∧XK (w.heap.size+1) wr (.slice (some ⟨w1.heap.size+1,0,none⟩) bs.length bs.length) bs.length (fun k=>if k<m then QW bs k else [])∧Below w.heap.size w wr∧w1.heap.size+1<wr.heap.size)) (fun i _=>bs.length-(intOf i).toNat)
 case atStart=>exact⟨0,by omega,rfl,B0⟩
 case round=>
  clear B0;obtain⟨m,hm,rfl,HR⟩:=hrel;obtain⟨r0,r1,rv,rs,rf,rz⟩:=HR.o;by_cases hlt:m<bs.length
  ·have k1:=Qb r1 0;simp at k1;obtain⟨gu,uu,eu,hub,hul,hcu,hfu,_⟩:=rs.at hlt;cases eu;have LA:(QT bs).length≤1000000:=Qy (Z2 _ _) (by omega);have l1:w1.heap.size<wr.heap.size:=by omega
   have ne1:¬(w1.heap.size+1=w1.heap.size):=by omega
   have PB:=Qc (HP.o.keeps (Qr.below rf));have lu:w1.heap.size+1<wr.heap.size:=rz;have hal:∀o,(wr.alloc o).cell? ⟨w1.heap.size,0,none⟩=some (.slice pa (QT bs).length ca):=fun o=>by have:=Qb (Qo r1 o) 0;simpa using this
   have hbu:∃cs fz,wr.heap[w1.heap.size+1]?=some (.cells cs 82 fz):=by
    obtain⟨us,a,_⟩:=rs;rcases a.2 with ⟨h0,_⟩|⟨g',cap',cur',hv,_,hc',_⟩
    ·cases h0
    ·cases hv;exact⟨_,_,hc'⟩
   have hfal:∀o,(wr.alloc o).frozen? ⟨w1.heap.size+1,m,none⟩=false:=fun o=>by
    rw[World.frozen?_of_block (w:=wr) (by show (wr.alloc o).heap[w1.heap.size+1]?=_;exact Below.heap_alloc wr o _ lu)];exact hfu
   have hcal:∀o,(wr.alloc o).cell? ⟨w1.heap.size+1,m,none⟩=some uu:=fun o=>by
    rw[World.cell?_of_block (w:=wr) (by show (wr.alloc o).heap[w1.heap.size+1]?=_;exact Below.heap_alloc wr o _ lu)];exact hcu
   have H4:Hid ((wr.alloc (.cells #[.int .i64 m] 143)).drew.ownsRow wr.heap.size 143 1 (.slice (some ⟨wr.heap.size,0,none⟩) 1 1) ([m]:List Nat).length (Qe [m])):=ZK wr wr.heap.size 143 1 1 #[.int .i64 m] (Qi _) rfl (by decide);have F4:Hid (∀w5,Below (wr.alloc (.cells #[.int .i64 m] 143)).drew.heap.size (wr.alloc (.cells #[.int .i64 m] 143)).drew w5→Below wr.heap.size wr w5):=fun w5 f=>by
    have f':=((Below.refl wr.heap.size wr).alloc (Qi _) (.cells #[.int .i64 m] 143));have f'':Below wr.heap.size wr (wr.alloc (.cells #[.int .i64 m] 143)).drew:=⟨f'.os,f'.tape,f'.output,f'.size,f'.block⟩;exact f''.trans (f.mono (by show wr.heap.size≤(wr.alloc _).heap.size;rw[Qt];exact Nat.le_succ _))
   have LM:(QI bs.length (rchF (suF bs) bs.length (isB m))).length≤1000000:=Qy (Z2 _ _) (by omega);have HSM:=Qc (Kz bs.length (rchF (suF bs) bs.length (isB m)));have HBU:=Qc hbu;clear r0 r1 rv rs rf hbu;go_wp2_with fail
   go_region_held (fun w'=>w'.cell? ⟨w1.heap.size,0,none⟩=some (.slice pa (QT bs).length ca)∧w'.frozen? ⟨w1.heap.size+1,m,none⟩=false) (simp[*,World.cell?_setCell_far])
    (first | (go_at_call 119;refine(ofB [m] wr.heap.size _ _ H4.o (by simp)).mono ?_;rintro e w5 ⟨v5,rfl,o5,f5⟩;rw[VG]at o5;obtain⟨p5,c5,rfl⟩:=Qa o5;have f5':=F4.o _ f5;have s5:=f5'.size;have y1:=f5'.cell (p:=⟨w1.heap.size,0,none⟩) l1;have yf:=f5'.frozen (p:=⟨w1.heap.size+1,m,none⟩) lu;have yc:=f5'.cell (p:=⟨w1.heap.size+1,m,none⟩) lu;have O5:=Qc (And.intro o5 f5');clear o5 f5 f5') | (go_at_call 117;refine(NB bs [m] base _ _ _ w5 (PB.o.keeps (Qr.below O5.o.2)) O5.o.1 (List.pairwise_singleton _ _) hgl hn0 hn (by simp)).mono ?_;rintro e w6 ⟨v6,rfl,o6,f6⟩;rw[Qfg]at o6;obtain⟨p6,c6,rfl⟩:=Qa o6;have s6:=f6.size;have z1:=f6.cell (p:=⟨w1.heap.size,0,none⟩) (show w1.heap.size<w5.heap.size by omega);have zf:=f6.frozen (p:=⟨w1.heap.size+1,m,none⟩) (show w1.heap.size+1<w5.heap.size by omega);have zc:=f6.cell (p:=⟨w1.heap.size+1,m,none⟩) (show w1.heap.size+1<w5.heap.size by omega);have O6:=Qc (And.intro o6 (O5.o.2.trans (f6.mono s5)));clear o6 f6) | (go_at_call 118;refine(Wc (QT bs) (QI bs.length (rchF (suF bs) bs.length (isB m))) (w.heap.size+1) w5.heap.size _ _ w6 (Qd HR.o.2.2.1 (Qh O6.o.2) trivial) O6.o.1 HSM LA LM).mono ?_;rintro e w7 ⟨v7,rfl,o7,f7⟩;rw[QdM]at o7;obtain⟨p7,c7,rfl⟩:=Qa o7;have s7:=f7.size;have x1:=f7.cell (p:=⟨w1.heap.size,0,none⟩) (show w1.heap.size<w6.heap.size by omega);have xf:=f7.frozen (p:=⟨w1.heap.size+1,m,none⟩) (show w1.heap.size+1<w6.heap.size by omega);have xc:=f7.cell (p:=⟨w1.heap.size+1,m,none⟩) (show w1.heap.size+1<w6.heap.size by omega);have O7:=Qc (And.intro o7 (O6.o.2.trans (f7.mono (by omega))));clear o7 f7))
   all_goals
    obtain⟨r0,r1,rv,rs,rf,_⟩:=HR.o;obtain⟨cs,fz,hbu⟩:=HBU.o;have ff:=O7.o.2;have h7:w7.heap[w1.heap.size+1]?=some (.cells cs 82 fz):=by rw[ff.block _ (by omega)];exact hbu
    have H7:Hid ((w7.setCell ⟨w1.heap.size+1,m,none⟩ (.slice p7 (QW bs m).length c7)).heap[w.heap.size]?=some (.cells #[.slice none 0 0,.slice none 0 0,.slice none 0 0] 85 (0,0))∧(w7.setCell ⟨w1.heap.size+1,m,none⟩ (.slice p7 (QW bs m).length c7)).heap[w1.heap.size]?=some (.cells #[.slice pa (QT bs).length ca] 82 (0,0))∧(w7.setCell ⟨w1.heap.size+1,m,none⟩ (.slice p7 (QW bs m).length c7)).ownsRow (w.heap.size+1) 143 1 (.slice pa (QT bs).length ca) (QT bs).length (Qe (QT bs))∧XK (w.heap.size+1) (w7.setCell ⟨w1.heap.size+1,m,none⟩ (.slice p7 (QW bs m).length c7)) (.slice (some ⟨w1.heap.size+1,0,none⟩) bs.length bs.length) bs.length (fun k=>if k<m+1 then QW bs k else [])∧Below w.heap.size w (w7.setCell ⟨w1.heap.size+1,m,none⟩ (.slice p7 (QW bs m).length c7))∧w1.heap.size+1<(w7.setCell ⟨w1.heap.size+1,m,none⟩ (.slice p7 (QW bs m).length c7)).heap.size):=by
     refine⟨Ql (by rw[ff.block _ (by omega)];exact r0) (by omega) _ _,Ql (by rw[ff.block _ (by omega)];exact r1) (by omega) _ _,QL (Qd rv (Qh ff) trivial) h7 (by decide),?_,Qp (rf.trans (ff.mono (by omega))) _ _ _ (by omega),by rw[Zs];omega⟩;refine((rs.keeps ff).store (k:=m) (Qj O7.o.1 (by omega))).congr fun k hk=>?_;by_cases e:k=m
     ·subst e;rw[if_pos (by omega),if_pos rfl]
     ·rw[if_neg e];by_cases e2:k<m
      ·rw[if_pos (by omega),if_pos e2]
      ·rw[if_neg (by omega),if_neg e2]
    clear r0 r1 rv rs rf hbu h7 ff HBU HR O5 O6 O7 PB H4 F4 HSM hal hfal hcal;go_wp2_with fail;go_roundw
    case rel=>exact⟨m+1,by omega,by go_num,H7⟩
    case measure=>simp[intOf];omega
  ·have hme:m=bs.length:=by omega
   subst hme;have S9:XK (w.heap.size+1) wr (.slice (some ⟨w1.heap.size+1,0,none⟩) bs.length bs.length) bs.length (QW bs):=rs.congr fun k hk=>by rw[if_pos hk]
   have k1:=Qb r1 0;have k2:=Qb r0 0;have k3:=Qb r0 1;have k4:=Qb r0 2;have kf:=Qg r0;simp at k1 k2 k3 k4;have n1:w1.heap.size≠w.heap.size:=by omega
   have F9:Hid (∀x y z,(((wr.setCell ⟨w.heap.size,0,none⟩ x).setCell ⟨w.heap.size,1,none⟩ y).setCell ⟨w.heap.size,2,none⟩ z).ownsRow w.heap.size 143 1 (.slice pa (QT bs).length ca) (QT bs).length (Qe (QT bs))∧XK w.heap.size (((wr.setCell ⟨w.heap.size,0,none⟩ x).setCell ⟨w.heap.size,1,none⟩ y).setCell ⟨w.heap.size,2,none⟩ z) (.slice (some ⟨w1.heap.size+1,0,none⟩) bs.length bs.length) bs.length (QW bs)∧Below w.heap.size w (((wr.setCell ⟨w.heap.size,0,none⟩ x).setCell ⟨w.heap.size,1,none⟩ y).setCell ⟨w.heap.size,2,none⟩ z)):=by
    intro x y z;refine⟨Qj (QE (QE (QE rv _ 0 x (by omega)) _ 1 y (by omega)) _ 2 z (by omega)) (by omega),?_,Qp (Qp (Qp rf _ _ _ (Qi _)) _ _ _ (Qi _)) _ _ _ (Qi _)⟩;obtain⟨us,a,b⟩:=S9;exact⟨us,Qj (QE (QE (QE a _ 0 x (by omega)) _ 1 y (by omega)) _ 2 z (by omega)) (by omega),fun j u hu=>Qj (QE (QE (QE (b j u hu) _ 0 x (by omega)) _ 1 y (by omega)) _ 2 z (by omega)) (by omega)⟩
   clear r0 r1 rv rs rf HR S9;go_wp2_with fail;refine bodyPost_ret (v:=.agg #[.slice pv bs.length cv,.slice pa (QT bs).length ca,.slice (some ⟨w1.heap.size+1,0,none⟩) bs.length bs.length]) (by simp[results,results70,go_sem,k2,k3,k4]) rfl ⟨_,_,rfl,?_,?_,?_⟩
   ·exact(F9.o _ _ _).1
   ·exact(F9.o _ _ _).2.1
   ·exact(F9.o _ _ _).2.2
theorem Qgc{bs:List Qm}{b:Nat}(hb:b<bs.length):QD (QT bs) b=rchF (suF bs) bs.length noB b:=by
 rw[Bool.eq_iff_iff,Ze,QT,Zk];exact⟨fun h=>h.2,fun h=>⟨hb,h⟩⟩
theorem QdL{bs:List Qm}{a b:Nat}(hb:b<bs.length):QD (QW bs a) b=ZG (suF bs) bs.length a b:=by
 rw[Bool.eq_iff_iff,Ze,QW,Zk];exact⟨fun h=>h.2,fun h=>⟨hb,h⟩⟩
theorem Qjb(bs:List Qm)(B b:Nat)(v va vu:Value)(w:World)(hv:∃p n c,v=.slice p n c)(hu:∃p n c,vu=.slice p n c)(ha:w.ownsRow B 143 1 va (QT bs).length (Qe (QT bs)))(hb:b<bs.length)(hn:bs.length≤1000):
  Calls prog 77 #[.agg #[v,va,vu],.int .i64 b] w fun e w'=>e=.returned (.bool (rchF (suF bs) bs.length noB b))∧Below w.heap.size w w':=by
 obtain⟨pv,nv,cv,rfl⟩:=hv;obtain⟨pu,nu,cu,rfl⟩:=hu;obtain⟨pa,ca,rfl⟩:=Qa ha;have HA:=Qc ha;clear ha;go_enter func77,ntmps77;go_wp2_with fail;refine(N6 (QT bs) b B _ _ (HA.o.alloc _) (Kz _ _) (Qy (Z2 _ _) (by omega))).mono ?_;rintro e w1 ⟨rfl,f1⟩;rw[Qgc hb];have F1:=Qc (((Below.refl w.heap.size w).alloc (Qi _) _).trans (f1.mono (by rw[Qt];omega)));clear f1;go_wp2_with fail;go_ret;exact⟨rfl,F1.o⟩
theorem QiA(bs:List Qm)(B a b:Nat)(v va vu:Value)(w:World)(hv:∃p n c,v=.slice p n c)(ha:∃p n c,va=.slice p n c)(hu:XK B w vu bs.length (QW bs))(hab:a<bs.length)(hb:b<bs.length)(hn:bs.length≤1000):
  Calls prog 149 #[.agg #[v,va,vu],.int .i64 a,.int .i64 b] w fun e w'=>e=.returned (.bool (ZG (suF bs) bs.length a b))∧Below w.heap.size w w':=by
 obtain⟨pv,nv,cv,rfl⟩:=hv;obtain⟨pa,na,ca,rfl⟩:=ha;obtain⟨pu,cu,rfl⟩:=hu.slice;obtain⟨g,u,rfl,_,hg,hc,_,ho⟩:=hu.at hab;obtain⟨p1,c1,rfl⟩:=Qa ho;have HO:=Qc ho;have hcal:∀o,(w.alloc o).cell? ⟨g,a,none⟩=some (.slice p1 (QW bs a).length c1):=fun o=>by
  rw[World.cell?_of_block (w:=w) (Below.heap_alloc w o _ hg)];exact hc
 clear ho hu hc;go_enter func149,ntmps149;go_wp2_with fail;refine(N6 (QW bs a) b B _ _ (HO.o.alloc _) (Kz _ _) (Qy (Z2 _ _) (by omega))).mono ?_;rintro e w1 ⟨rfl,f1⟩;rw[QdL hb];have F1:=Qc (((Below.refl w.heap.size w).alloc (Qi _) _).trans (f1.mono (by rw[Qt];omega)));clear f1;go_wp2_with fail;go_ret;exact⟨rfl,F1.o⟩
section
variable {bs:List ABk} {co:Nat→Bool} {st:Nat→Nat}
theorem QiB{bs:List ABk}{i:Nat}{m:Mac}(h:(bkA bs i).e.op=62∨(bkA bs i).e.op=63):nxA (bkA bs i) m∈suA bs i:=by
 unfold nxA suA gsA;rcases h with h|h
 ·simp[h]
 ·by_cases e:m.r (bkA bs i).e.a=0<;>simp[h,e]
def Ent(bs:List ABk)(R:Nat→Int→Mac→Mac→Prop)(frm:Int)(i:Nat)(m m2:Mac):Prop:=
 (frm=-1∧i=0∧R 0 0 m m2)∨∃p:Nat,frm=p∧Cm bs p∧i∈suA bs p∧R p (bkA bs p).sts.length m m2
variable {W:Nat→Bool}
end
theorem Qjf(f:Nat→Nat)(e:AEn):rdE (rnE f e)=(rdE e).map f:=by
 unfold rdE;rw[KS];by_cases h:e.op=63
 ·rw[if_pos h,if_pos h,rnE,if_pos h];rfl
 ·rw[if_neg h,if_neg h];rfl
section
variable {A A':List ABk} {co:Nat→Bool} {f:Nat→Nat} {pc:ACh→Bool} {ps:ASt→Bool}
end
section
variable {bs:List ABk} {co:Nat→Bool} {st:Nat→Nat}
theorem QdD{A A':List ABk}(hl:A'.length=A.length)(hs:suA A'=suA A)(b:Nat):Jk A' b=Jk A b:=by unfold Jk;rw[hl,hs]
variable {W:Nat→Bool}
end
end Go.Proofs.YtgfhfkgdmidhpaaGreatDoor
