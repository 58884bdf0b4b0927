import Derived.Test.YtgfhfkgdmidhpaaGreatDoorC07
import Derived.Deep.RegionLaw
namespace Go.Proofs.YtgfhfkgdmidhpaaGreatDoor
open Go.RowKit
set_option maxRecDepth 100000
set_option maxHeartbeats 8000000
theorem QaH{t e:TypeId}{z:Value}{size bytes:Nat}(ht:Tryz.prog.underlying t=some (.slice e))(hi:(Tryz.prog.info? e).map (fun i=>(i.zero,i.size,i.bytes))=some (some z,size,bytes))(hzs:z.cells.size=size)(hsz:0<size)(hby:bytes≤1000)
  {ops:Array Oper}{o:Oper}{a:Act}{K:Act→World→Prop}{Q:Exit→Act→World→Prop}{E:Prop}{w:World}(hgd:o.guard=none)(s x:Operand)
  (ho:o.op=.call { callee:=.builtin .append,args:=#[s,x],argTypes:=#[t,t] })
  {base:Nat}{v:Value}{n:Nat}{xs:List Value}(hs:a.eval s=v)(hown:w.ownsRow base e size v n xs)
  {B:Nat}{cs:Array Value}{tt:TypeId}{fr:Nat×Nat}(hB:w.heap[B]?=some (.cells cs tt fr))(hx:a.eval x=.slice (some ⟨B,0,none⟩) 1 1)(hl:cs.size=size)(h1:∀u∈cs.toList,u.oneCell'=true)
  (hn:n≤1000000)(hbase:base≤w.heap.size)
  (h:∀v' w',w'.ownsRow base e size v' (n+1) (xs++cs.toList)→w.grownBy w' v.ownBlock→K (a.put o.dst v') w'):
  if Region.wanted o (yielded ops a.tmps)=true then Oper.wp Tryz.prog o a w K Q else E:=by
 obtain⟨I,Hi,Hz,Hs,Hb⟩:=info_parts hi;have hw:Region.wanted o (yielded ops a.tmps)=true:=by simp[Region.wanted,hgd]
 rw[if_pos hw];refine wp_append_own w s x t ho base e I z size bytes ht Hi Hz Hs Hb hzs hsz v n xs hs hown ⟨B,0,none⟩ 1 1 cs.toList hx (by simpa using hl) (World.news_of_block hB) h1 (by unfold maxLen;omega) ?_ hbase (fun v' w' h1 h2 _=>h v' w' h1 h2);have:(n+1)*bytes≤1000001*1000:=Nat.mul_le_mul (by omega) hby
 omega
theorem ZN{ops:Array Oper}{o:Oper}{a:Act}{K:Act→World→Prop}{Q:Exit→Act→World→Prop}{E:Prop}{w:World}(hgd:o.guard=none)(f:FuncId)(args:Array Value)
  (hr:(execOp a.eval o).run Tryz.prog w=.ok (.enter f args) w)
  {R:Ending→World→Prop}(h:Calls Tryz.prog f args w R)(hk:∀e w'',R e w''→match e,w'' with | .returned v,w''=>K (a.put o.dst v) w'' | .panicked c,w''=>Q (.panic c) a w'' | .outgrown,_=>LetsOut Q):
  if Region.wanted o (yielded ops a.tmps)=true then Oper.wp Tryz.prog o a w K Q else E:=by
 have hw:Region.wanted o (yielded ops a.tmps)=true:=by simp[Region.wanted,hgd]
 rw[if_pos hw];unfold Oper.wp;rw[hr];exact h.mono hk
theorem QdE{f:FuncId}{args:Array Value}{w:World}{R:Ending→World→Prop}(h:Calls Tryz.prog f args w R)(v:Value):Calls Tryz.prog f args w fun e w'=>R e w'∨(e=.returned v∧w'=w∧Hid False):=
 h.mono fun _ _ h=>.inl h
theorem Wq{ops:Array Oper}{o:Oper}{a:Act}{K:Act→World→Prop}{Q:Exit→Act→World→Prop}{E:Prop}{w:World}(hF:Hid False)(v:Value)(_h:K (a.put o.dst v) w):
  if Region.wanted o (yielded ops a.tmps)=true then Oper.wp Tryz.prog o a w K Q else E:=hF.out.elim
def rdI(w:World)(b:Nat):Nat:=match w.cell? ⟨b,2,none⟩,w.cell? ⟨b,1,none⟩ with
 | some (.int _ k),some (.slice (some a) _ _)=>(match w.cell? ⟨a.block,k.toNat*2,none⟩ with|some (.int _ i)=>i.toNat|_=>0)
 | _,_=>0
theorem RS.rdI{w b g s i}(h:RS w b g s i):rdI w b=i:=by
 obtain⟨ms,k,cap,hm,⟨hk,rfl⟩,hr⟩:=h;simp[YtgfhfkgdmidhpaaGreatDoor.rdI,hr.c1,hr.c2,hr.m0 hk]
def QQ(gs rs:List (Nat×Nat)):List Value:=(List.zipWith (fun g r=>pc g++pc r) gs rs).flatten
theorem YC{gs rs:List (Nat×Nat)}(h:gs.length=rs.length)(g r:Nat×Nat):QQ (gs++[g]) (rs++[r])=QQ gs rs++[.int .i64 g.1,.int .i64 g.2,.int .i64 r.1,.int .i64 r.2]:=by
 simp[QQ,List.zipWith_append h,pc]
theorem Tryz.info147:(Tryz.prog.info? 147).map (fun i=>(i.zero,i.size,i.bytes))=some (some (.agg #[.int .i64 0,.int .i64 0,.int .i64 0,.int .i64 0]),4,32):=by kernel_rfl
def choT(s:ByteArray)(i:Nat):Cho:=Zv s (s.size+1) ⟨[],[],i,-1⟩
theorem QeC{s i}(h:onF s i (-1) 64=true):choF s i (-1)=choT s (i+1):=by
 have g1:gotI s i (-1) 64=i+1:=by rw[gotI,if_pos h]
 have g2:mustB s i (-1) 64=-1:=by rw[mustB,if_pos h]
 simp only[choF,choT,g1,g2]
theorem G4{s k c R}(hk:0<k)(h:YH s true k c=R)(hb:0≤(choR s c).bad):R.bad=(choR s c).bad:=by
 rw[YV hk,Ws hb]at h;rw[←h];rfl
def QbM(b g:Nat)(s:ByteArray)(tn ta:Nat)(w:World)(r:Cho)(e:Ending)(w':World):Prop:=
 (∃vs,e=.returned (.agg #[.int .i64 tn,.int .i64 ta,vs])∧r.bad=-1∧r.gs.length=r.rs.length∧w'.ownsRow w.heap.size 147 4 vs r.gs.length (QQ r.gs r.rs)∧RS w' b g s r.i∧Fr b w w')∨(e=.panicked (brk r.bad)∧0≤r.bad∧Fr b w w')
theorem NC{b g:Nat}{s:ByteArray}{i tn ta:Nat}{w:World}(hp:RS w b g s i)(hs:s.size≤200000):
  Calls Tryz.prog 221 #[.pointer (some ⟨b,0,none⟩),.agg #[.int .i64 tn,.int .i64 ta]] w fun e w'=>QbM b g s tn ta w (choT s i) e w':=by
 have hl:=hp.lt;have hgl:=hp.glt;have hi:=hp.le;go_enter Tryz.func221,Tryz.ntmps221;go_wp2_with fail
 go_loopw [6] (fun _ wr=>∃(k:Nat)(c:Cho)(vs:Value),s.size<k+c.i∧c.i≤s.size∧c.gs.length≤c.i∧Hid (c.gs.length=c.rs.length)∧c.bad=-1∧Hid (YH s true k c=choT s i) ∧
   wr.heap[w.heap.size+1]?=some (.cells #[.int .i64 0,.int .i64 0,.slice none 0 0] 140 (0,0))∧wr.heap[w.heap.size+2]?=some (.cells #[.int .i64 tn,.int .i64 ta,vs] 140 (0,0)) ∧
   wr.ownsRow (w.heap.size+3) 147 4 vs c.gs.length (QQ c.gs c.rs)∧RS wr b g s c.i∧Hid (Fr b w wr)∧w.heap.size+3≤wr.heap.size) (fun _ wr=>s.size-rdI wr b)
 case atStart=>
  refine⟨s.size+1,⟨[],[],i,-1⟩,_,by show _<_;omega,hi,by simp,rfl,rfl,rfl,?_,?_,World.ownsRow_nil _ _ _ _,((hp.alloc _).alloc _).alloc _,(((Fr.refl _ _).alloc _).alloc _).alloc _,by simp⟩
  ·rw[Below.heap_alloc _ _ _ (by simp)];simpa using heap_alloc_last (w.alloc _) _
  ·simpa using heap_alloc_last ((w.alloc _).alloc _) _
 case round=>
  obtain⟨k,c,vs,hk,hci,hcl,HL,hcb,HR,G1,G2,O,P,F,hz⟩:=hrel;have HRI:Hid (rdI wr b=c.i):=P.rdI;have HK:Hid (0<k):=by show 0<k;omega
  have HCB:=Qc hcb;obtain⟨pv,cv,rfl⟩:=Qb O;clear hp hcb
  cases hd:Q9 s c.i (-1) with
  | false=>
   have HB:Hid ((choT s i).bad=c.i):=by
    have e1:(choR s c).bad=c.i:=by
     have g1:Zd s c.i c.bad=c.i:=by rw[HCB.o,J6,hd];rfl
     simp only[choR,g1];rw[Gi,ZD]
     ·omega
     ·rw[ZD (by omega)];omega
    show _=_;rw[G4 HK.o HR.o (by rw[e1];omega),e1]
   have HD:=Qc hd;clear hd;go_wp2_with fail;refine(V7 P HD.o).mono ?_;rintro e w1 ⟨rfl,f1⟩;go_wp2_with fail;exact⟨rfl,.inr ⟨by rw[HB.o],by rw[HB.o];omega,F.o.trans f1⟩⟩
  | true=>
   have HD:=Qc hd;clear hd;go_wp2_with fail;refine(Vb P hs HD.o).mono ?_;rintro e w1 ⟨rfl,P1,f1⟩;replace G1:=Qk f1 G1 (by omega);replace G2:=Qk f1 G2 (by omega);replace O:=Z0 O f1 (by omega);replace F:=Qc (F.o.trans f1);have hz1:w.heap.size+3≤w1.heap.size:=Nat.le_trans hz f1.size;have hi1:=Je (bad:=-1) hci;have hi1g:=XF (s:=s) (i:=c.i) (bad:=-1);generalize hI1:numI s c.i (-1)=i1 at *;have HI1:=Qc hI1;generalize hN1:numN s c.i (-1)=n1 at *;have HN1:=Qc hN1;clear f1 P hz hI1 hN1;go_wp2_with fail
   cases h58:onF s i1 (-1) 58 with
   | false=>
    have HB:Hid ((choT s i).bad=i1):=by
     have e1:(choR s c).bad=i1:=by
      have g1:Zd s c.i c.bad=-1:=by rw[HCB.o,J6,HD.o];rfl
      have g2:numI s c.i c.bad=i1:=by rw[HCB.o];exact HI1.o
      have g3:mustB s i1 (-1) 58=i1:=by rw[Jp,h58];rfl
      simp only[choR,g1,g2,g3];exact Gi (by omega)
     show _=_;rw[G4 HK.o HR.o (by rw[e1];omega),e1]
    refine(Kt (c:=58) (P1.alloc _) (by decide) h58).mono ?_;rintro e w2 ⟨rfl,f2⟩;clear h58;go_wp2_with fail;exact⟨rfl,.inr ⟨by rw[HB.o],by rw[HB.o];omega,(F.o.alloc _).trans f2⟩⟩
   | true=>
    have h58l:=(QV h58).2.1;refine(Jg (c:=58) (P1.alloc _) hs (by decide) h58).mono ?_;rintro e w2 ⟨rfl,P2,f2⟩;have l1:=P1.lt;have gg:=f2.own (by omega);replace G1:=Qk f2 (Qj G1 _) (by omega);replace G2:=Qk f2 (Qj G2 _) (by omega);replace O:=Z0 (O.alloc _) f2 (by omega);replace F:=Qc ((F.o.alloc _).trans f2);have hz2:w1.heap.size+1≤w2.heap.size:=by simpa using f2.size
    have HS58:Hid (gotI s i1 (-1) 58=i1+1∧mustB s i1 (-1) 58=-1):=⟨by rw[gotI,if_pos h58],by rw[mustB,if_pos h58]⟩;clear f2 h58 P1;have a0:=Qa gg 0;have a1:=Qa gg 1;have b2:=Qa G2 2;have b2z:=Qf G2 2;simp at a0 a1 b2;have k1:w1.heap.size<w2.heap.size:=by omega
    have k2:w.heap.size+1+1<w2.heap.size:=by omega
    have n1':w1.heap.size≠b:=by omega
    have n2:w.heap.size+1+1≠b:=by omega
    have HCR:choR s c=⟨c.gs++[(n1,c.i)],c.rs++[(regN s (i1+1) (-1),i1+1)],regI s (i1+1) (-1),regB s (i1+1) (-1)⟩:=by
     have g1:Zd s c.i c.bad=-1:=by rw[HCB.o,J6,HD.o];rfl
     have g2:numI s c.i c.bad=i1:=by rw[HCB.o];exact HI1.o
     have g3:numN s c.i c.bad=n1:=by rw[HCB.o];exact HN1.o
     simp only[choR,g1,g2,g3,HS58.o.1,HS58.o.2]
    have HCR':=Qc HCR;clear HCR HS58;go_wp2_with fail;rcases Int.lt_or_le (regB s (i1+1) (-1)) 0 with h3|h3
    ·have H3:=Qc h3;have HB3:=Qc (WD h3).2.2.1;clear h3;have FA:Hid (∀w5:World,Fr b w2.drew w5→w5.heap[w.heap.size+1]?=some (.cells #[.int .i64 0,.int .i64 0,.slice none 0 0] 140 (0,0))∧w5.heap[w.heap.size+2]?=some (.cells #[.int .i64 tn,.int .i64 ta,.slice pv c.gs.length cv] 140 (0,0))∧w5.ownsRow (w.heap.size+3) 147 4 (.slice pv c.gs.length cv) c.gs.length (QQ c.gs c.rs)∧w.heap.size+3≤w5.heap.size∧Fr b w w5):=fun w5 f5=>
      ⟨Qk (w:=w2.drew) f5 G1 (by omega),Qk (w:=w2.drew) f5 G2 (by omega),Z0 (w:=w2.drew) O f5 (by omega),Nat.le_trans (show w.heap.size+3≤w2.drew.heap.size from by show _≤w2.heap.size;omega) f5.size,F.o.drew.trans f5⟩
     go_region_law (first | (refine ZN rfl 199 #[.pointer (some ⟨b,0,none⟩)] (by go_simp) (J0 (RS.drew P2) hs H3.o) ?_;rintro e w5 ⟨rfl,P5,f5⟩;have y0:=f5.cells (k:=w1.heap.size) k1 n1';have y1:=f5.cells (k:=w.heap.size+1+1) k2 n2;obtain⟨q1,q2,q3,q4,q5⟩:=FA.o _ f5;have z5:=Qf q2 2;have l5:w.heap.size+1+1<w5.heap.size:=(by omega);have l5b:w1.heap.size<w5.heap.size:=Nat.lt_of_lt_of_le k1 f5.size;have Q1:=Qc q1;have Q2:=Qc q2;have Q5:=Qc q5;clear q1 q2 q5) | (refine QaH Tryz.underlying138 Tryz.info147 rfl (by decide) (by decide) rfl _ _ rfl rfl (q3.alloc _) (heap_alloc_last w5 _) rfl rfl (List.all_eq_true.1 rfl) (by omega) (by rw[World.size_alloc];omega) ?_;intro v6 w6 o6 gr6;obtain⟨p6,c6,rfl⟩:=Qb o6;have q6:=Qz gr6 (Qj Q2.o _) (fun j hj=>by have:=(q3.lt j hj).1;omega);have z6:=Qf q6 2;have x6:=Qa q6 2;have Q6:=Qc q6;clear q6) | fail)
     all_goals
      have r6:∀j,(Value.slice pv c.gs.length cv).ownBlock=some j→w.heap.size+3≤j:=fun j hj=>(q3.lt j hj).1;have G1a:=Qo (j:=w.heap.size+1+1) (Qz gr6 (Qj Q1.o _) (fun j hj=>by have:=r6 j hj;omega)) (by omega) 2 (.slice p6 (c.gs.length+1) c6);have G2a:(w6.setCell ⟨w.heap.size+1+1,2,none⟩ (.slice p6 (c.gs.length+1) c6)).heap[w.heap.size+2]?=some (.cells #[.int .i64 tn,.int .i64 ta,.slice p6 (c.gs.length+1) c6] 140 (0,0)):=Qp Q6.o 2 _;have Oa:=QB o6 (w.heap.size+1+1) 2 (.slice p6 (c.gs.length+1) c6) (by omega);have Pa:=(RS.grown (P5.alloc _) gr6 (fun j hj=>by have:=r6 j hj;constructor<;>omega)).setk (w.heap.size+1+1) 2 (.slice p6 (c.gs.length+1) c6) (by omega) (by omega);have Fa:=(Fr.grown (Q5.o.alloc _) gr6 (fun j hj=>by have:=r6 j hj;omega)).setk (w.heap.size+1+1) 2 (.slice p6 (c.gs.length+1) c6) (by omega);have Za:w.heap.size+3≤(w6.setCell ⟨w.heap.size+1+1,2,none⟩ (.slice p6 (c.gs.length+1) c6)).heap.size:=by
       rw[Zo];have:=gr6.size;rw[World.size_alloc]at this;omega
      replace Oa:(w6.setCell ⟨w.heap.size+1+1,2,none⟩ (.slice p6 (c.gs.length+1) c6)).ownsRow (w.heap.size+3) 147 4 (.slice p6 (c.gs.length+1) c6) (c.gs.length+1) (QQ (c.gs++[(n1,c.i)]) (c.rs++[(regN s (i1+1) (-1),i1+1)])):=by
       rw[YC HL.o];exact Oa
      clear gr6 r6 o6 x6 z6 Q6 Q1 Q2 Q5 P5 q3 q4 f5 y0 y1 z5 l5 l5b a0 a1 b2 b2z k1 k2 n1' n2 P2 G1 G2 O F FA gg;generalize w6.setCell ⟨w.heap.size+1+1,2,none⟩ (.slice p6 (c.gs.length+1) c6)=w7 at *;have hr1:=Zs (bad:=-1) (show i1+1≤s.size by omega);have hr2:=ZY (s:=s) (i:=i1+1) (bad:=-1);have HST:=Qc (HR.o.symm.trans (YV HK.o));have HCI:Hid ((choR s c).i=regI s (i1+1) (-1)):=by show _=_;rw[HCR'.o]
      have HCB2:Hid ((choR s c).bad=-1):=by show _=_;rw[HCR'.o];exact HB3.o
      have HCG:Hid ((choR s c).gs=c.gs++[(n1,c.i)]):=by show _=_;rw[HCR'.o]
      have HCS:Hid ((choR s c).rs=c.rs++[(regN s (i1+1) (-1),i1+1)]):=by show _=_;rw[HCR'.o]
      clear HR HCR';generalize regI s (i1+1) (-1)=i5 at *;have hl2:(c.gs++[(n1,c.i)]).length=c.gs.length+1:=by simp
      cases h44:onF s i5 (-1) 44 with
      | true=>
       have hlt:=(QV h44).2.1;have HST2:Hid (YH s true (k-1) ⟨c.gs++[(n1,c.i)],c.rs++[(regN s (i1+1) (-1),i1+1)],i5+1,-1⟩=choT s i):=by
        show _=_;rw[HST.o,HCI.o,HCB2.o,h44]
        congr 1
        rw[←HCG.o,←HCS.o,gotI,if_pos h44];exact congrArg (Cho.mk _ _ _) HCB2.o.symm
       have H44:=Qc h44;clear h44 HST;go_wp2_with fail;refine(Xf (c:=44) Pa hs (by decide) H44.o).mono ?_;rintro e w8 ⟨rfl,P8,f8⟩;go_wp2_with fail;go_roundw
       case rel=>exact⟨k-1,⟨c.gs++[(n1,c.i)],c.rs++[(regN s (i1+1) (-1),i1+1)],i5+1,-1⟩,_,by show s.size<k-1+(i5+1);omega,by show i5+1≤s.size;omega,by show (c.gs++[(n1,c.i)]).length≤i5+1;omega,by show (c.gs++_).length=(c.rs++_).length;simp[HL.o],rfl,HST2,Qk f8 G1a (by omega),Qk f8 G2a (by omega),by rw[hl2];exact Z0 Oa f8 (by omega),P8,Fa.trans f8,Nat.le_trans Za f8.size⟩
       case measure=>rw[P8.rdI,HRI.o];omega
      | false=>
       have HST2:Hid (choT s i=⟨c.gs++[(n1,c.i)],c.rs++[(regN s (i1+1) (-1),i1+1)],i5,-1⟩):=by
        show _=_;rw[HST.o,HCI.o,HCB2.o,h44,YH,if_neg (by simp)];rw[←HCG.o,←HCS.o,gotI,if_neg (by simp[h44])];exact congrArg (Cho.mk _ _ _) HCB2.o
       have H44:=Qc h44;clear h44 HST;go_wp2_with fail;refine(XP (c:=44) Pa (by decide) H44.o).mono ?_;rintro e w8 ⟨rfl,P8,f8⟩;replace G1a:=Qk f8 G1a (by omega);replace G2a:=Qk f8 G2a (by omega);replace Oa:=Z0 Oa f8 (by omega);have q1:=Qa G1a;have z1:=Qf G1a;have q2:=Qa G2a;go_wp2_with fail;refine bodyPost_ret (v:=.agg #[.int .i64 tn,.int .i64 ta,.slice p6 (c.gs.length+1) c6]) (by simp[results,Tryz.results221,go_sem,q1]) rfl (.inl ⟨_,rfl,?_,?_,?_,?_,?_⟩)
       ·rw[HST2.o]
       ·rw[HST2.o];simp[HL.o]
       ·rw[HST2.o,hl2];exact Qm (QB (QB (QB Oa (w.heap.size+1) 0 _ (by omega)) (w.heap.size+1) 1 _ (by omega)) (w.heap.size+1) 2 _ (by omega)) (by omega)
       ·rw[HST2.o];exact((P8.setk (w.heap.size+1) 0 _ (by omega) (by omega)).setk (w.heap.size+1) 1 _ (by omega) (by omega)).setk (w.heap.size+1) 2 _ (by omega) (by omega)
       ·exact(((Fa.trans f8).setk (w.heap.size+1) 0 _ (by omega)).setk (w.heap.size+1) 1 _ (by omega)).setk (w.heap.size+1) 2 _ (by omega)
    ·have H3:=Qc h3;have HB:Hid ((choT s i).bad=regB s (i1+1) (-1)):=by
      show _=_;rw[G4 HK.o HR.o (by rw[HCR'.o];exact h3),HCR'.o]
     clear h3;have FIN:Hid (∀w5,Fr b w2.drew w5→QbM b g s tn ta w (choT s i) (.panicked (brk (regB s (i1+1) (-1)))) w5):=fun w5 f5=>
      .inr ⟨by rw[HB.o],by rw[HB.o];exact H3.o,F.o.drew.trans f5⟩
     go_region_law (first | (refine ZN rfl 199 #[.pointer (some ⟨b,0,none⟩)] (by go_simp) (QdE (WC (RS.drew P2) hs H3.o) (.agg #[.int .i64 0,.int .i64 0])) ?_;rintro e w5 (⟨rfl,f5⟩ | ⟨rfl,rfl,hF⟩);exact⟨rfl,FIN.o _ f5⟩) | (refine Wq hF (.slice none 0 0) ?_) | fail)
     all_goals exact hF.out.elim
def Zh(w:World)(base:Nat):List QH→List Value→Prop
 | [],[]=>True
 | c::cs,v::vs=>(c.gs.length=c.rs.length∧w.ownsRow base 147 4 v c.gs.length (QQ c.gs c.rs))∧Zh w base cs vs
 | _,_=>False
def J4(c:QH)(v:Value):List Value:=[.int .i64 c.to.1,.int .i64 c.to.2,v]
def XT(cs:List QH)(vs:List Value):List Value:=(List.zipWith J4 cs vs).flatten
def X1(w:World)(base:Nat)(cs:List QH)(v:Value):Prop:=∃vs,w.ownsRow base 140 3 v cs.length (XT cs vs)∧Zh w base cs vs
theorem Zh.len{w base}:∀{cs vs},Zh w base cs vs→vs.length=cs.length
 | [],[],_=>rfl
 | _::_,_::_,h=>by simp[Zh.len h.2]
 | [],_::_,h=>h.elim
 | _::_,[],h=>h.elim
theorem Zh.keeps{w w' base}{T:TypeId→Prop}(k:Qs base T w w')(h1:T 147):∀{cs vs},Zh w base cs vs→Zh w' base cs vs
 | [],[],_=>trivial
 | _::_,_::_,h=>⟨⟨h.1.1,Qd h.1.2 k h1⟩,Zh.keeps k h1 h.2⟩
 | [],_::_,h=>h.elim
 | _::_,[],h=>h.elim
theorem Zh.snoc{w base}{c:QH} {v}(h1:c.gs.length=c.rs.length)(h2:w.ownsRow base 147 4 v c.gs.length (QQ c.gs c.rs)):∀{cs vs},Zh w base cs vs→Zh w base (cs++[c]) (vs++[v])
 | [],[],_=>⟨⟨h1,h2⟩,trivial⟩
 | _::_,_::_,h=>⟨h.1,Zh.snoc h1 h2 h.2⟩
 | [],_::_,h=>h.elim
 | _::_,[],h=>h.elim
theorem Zh.base{w base base'}(hb:base'≤base):∀{cs vs},Zh w base cs vs→Zh w base' cs vs
 | [],[],_=>trivial
 | _::_,_::_,h=>⟨⟨h.1.1,Qm h.1.2 hb⟩,Zh.base hb h.2⟩
 | [],_::_,h=>h.elim
 | _::_,[],h=>h.elim
theorem KC{cs vs} (c v)(h:vs.length=cs.length):XT (cs++[c]) (vs++[v])=XT cs vs++J4 c v:=by
 simp[XT,List.zipWith_append h.symm]
theorem X1.keeps{w w' base cs v}{T:TypeId→Prop}(h:X1 w base cs v)(k:Qs base T w w')(h1:T 147)(h3:T 140):X1 w' base cs v:=by
 obtain⟨vs,a,b⟩:=h;exact⟨vs,Qd a k h3,b.keeps k h1⟩
theorem X1.base{w base base' cs v}(h:X1 w base cs v)(hb:base'≤base):X1 w base' cs v:=by
 obtain⟨vs,a,b⟩:=h;exact⟨vs,Qm a hb,b.base hb⟩
theorem X1.slice{w base cs v}(h:X1 w base cs v):∃p c,v=.slice p cs.length c:=by
 obtain⟨vs,a,_⟩:=h;exact Qb a
def T4(e:TypeId):Prop:=e=147∨e=140
def T5(e:TypeId):Prop:=e=147∨e=150
structure BP(b g:Nat)(s:ByteArray)(w0:World)(i0:Nat)(chs:List QH)(sts:List Qy)(vc vs ev:Value)(i:Nat)(w:World):Prop where
 G1:w.heap[w0.heap.size]?=some (.cells #[.int .i64 0,.slice none 0 0,.slice none 0 0,.nilIface] 104 (0,0))
 G2:w.heap[w0.heap.size+1]?=some (.cells #[.int .i64 i0,vc,vs,ev] 104 (0,0))
 C:X1 w (w0.heap.size+2) chs vc
 S:w.ownsRow (w0.heap.size+2) 150 1 vs sts.length (sts.map QE)
 P:RS w b g s i
 F:Fr b w0 w
 Z:w0.heap.size+2≤w.heap.size
section
variable {b g:Nat} {s:ByteArray} {w0:World} {i0:Nat} {chs:List QH} {sts:List Qy} {vc vs ev:Value} {i:Nat} {w:World}
theorem BP.alloc(h:BP b g s w0 i0 chs sts vc vs ev i w)(o:Obj):BP b g s w0 i0 chs sts vc vs ev i (w.alloc o):=
 ⟨Qj h.G1 o,Qj h.G2 o,h.C.keeps (Qs.alloc _ T4 w o) (by simp[T4]) (by simp[T4]),h.S.alloc o,h.P.alloc o,h.F.alloc o,by have:=h.Z;simp;omega⟩
theorem BP.drew(h:BP b g s w0 i0 chs sts vc vs ev i w):BP b g s w0 i0 chs sts vc vs ev i w.drew:=
 ⟨h.G1,h.G2,h.C.keeps (T:=T4) (fun _ _ _ _ _ h=>h) (by simp[T4]) (by simp[T4]),h.S,h.P.drew,h.F.drew,h.Z⟩
theorem BP.call{i':Nat}{w':World}(h:BP b g s w0 i0 chs sts vc vs ev i w)(hb:b<w0.heap.size)(P:RS w' b g s i')(f:Fr b w w'):BP b g s w0 i0 chs sts vc vs ev i' w':=
 ⟨Qk f h.G1 (by omega),Qk f h.G2 (by omega),h.C.keeps (Qs.fr (T:=T4) f (by omega)) (by simp[T4]) (by simp[T4]),Z0 h.S f (by omega),P,h.F.trans f,Nat.le_trans h.Z f.size⟩
theorem BP.setE(h:BP b g s w0 i0 chs sts vc vs ev i w)(hb:b<w0.heap.size)(hg:g<w0.heap.size)(ev':Value):BP b g s w0 i0 chs sts vc vs ev' i (w.setCell ⟨w0.heap.size+1,3,none⟩ ev'):=
 ⟨Qo h.G1 (by omega) _ _,Qp h.G2 3 ev',h.C.keeps (Qs.setk T4 w _ 3 _ (by omega)) (by simp[T4]) (by simp[T4]),QB h.S _ 3 _ (by omega),h.P.setk _ 3 _ (by omega) (by omega),h.F.setk _ 3 _ (by omega),by rw[Zo];exact h.Z⟩
theorem BP.grownS{w':World}(h:BP b g s w0 i0 chs sts vc vs ev i w)(hb:b<w0.heap.size)(hg:g<w0.heap.size)(gr:w.grownBy w' vs.ownBlock):
  w'.heap[w0.heap.size]?=some (.cells #[.int .i64 0,.slice none 0 0,.slice none 0 0,.nilIface] 104 (0,0))∧w'.heap[w0.heap.size+1]?=some (.cells #[.int .i64 i0,vc,vs,ev] 104 (0,0))∧X1 w' (w0.heap.size+2) chs vc∧RS w' b g s i∧Fr b w0 w'∧w0.heap.size+2≤w'.heap.size:=by
 have r:∀j,vs.ownBlock=some j→w0.heap.size+2≤j:=fun j hj=>(h.S.lt j hj).1;exact⟨Qz gr h.G1 (fun j hj=>by have:=r j hj;omega),Qz gr h.G2 (fun j hj=>by have:=r j hj;omega),h.C.keeps (Qs.grown (T:=T4) h.S gr (by simp[T4])) (by simp[T4]) (by simp[T4]),
  h.P.grown gr (fun j hj=>by have:=r j hj;constructor<;>omega),h.F.grown gr (fun j hj=>by have:=r j hj;omega),Nat.le_trans h.Z gr.size⟩
theorem BP.grownC{w':World}(h:BP b g s w0 i0 chs sts vc vs ev i w)(hb:b<w0.heap.size)(hg:g<w0.heap.size) {us}(hu:w.ownsRow (w0.heap.size+2) 140 3 vc chs.length (XT chs us))(gr:w.grownBy w' vc.ownBlock):
  w'.heap[w0.heap.size]?=some (.cells #[.int .i64 0,.slice none 0 0,.slice none 0 0,.nilIface] 104 (0,0))∧w'.heap[w0.heap.size+1]?=some (.cells #[.int .i64 i0,vc,vs,ev] 104 (0,0))∧w'.ownsRow (w0.heap.size+2) 150 1 vs sts.length (sts.map QE)∧RS w' b g s i∧Fr b w0 w'∧w0.heap.size+2≤w'.heap.size:=by
 have r:∀j,vc.ownBlock=some j→w0.heap.size+2≤j:=fun j hj=>(hu.lt j hj).1;exact⟨Qz gr h.G1 (fun j hj=>by have:=r j hj;omega),Qz gr h.G2 (fun j hj=>by have:=r j hj;omega),Qd h.S (Qs.grown (T:=T5) hu gr (by simp[T5])) (by simp[T5]),
  h.P.grown gr (fun j hj=>by have:=r j hj;constructor<;>omega),h.F.grown gr (fun j hj=>by have:=r j hj;omega),Nat.le_trans h.Z gr.size⟩
end
theorem Tryz.info150:(Tryz.prog.info? 150).map (fun i=>(i.zero,i.size,i.bytes))=some (some .nilIface,1,16):=by kernel_rfl
theorem Tryz.info140:(Tryz.prog.info? 140).map (fun i=>(i.zero,i.size,i.bytes))=some (some (.agg #[.int .i64 0,.int .i64 0,.slice none 0 0]),3,40):=by kernel_rfl
def QaC(b g:Nat)(s:ByteArray)(w0:World)(i0 k i:Nat)(R:Blk)(e:Ending)(w':World):Prop:=
 (e=.returned (.tuple #[])∧∃chs sts vc vs ee i',R=⟨⟨chs,sts,ee,i0⟩,i',-1⟩∧ee.op=63∧BP b g s w0 i0 chs sts vc vs (QP ee) i' w') ∨
 (e=.returned (.tuple #[])∧∃chs sts vc vs i',R=QG s i0 k chs sts i' (-1)∧i<i'∧chs.length≤i'∧sts.length≤i'∧BP b g s w0 i0 chs sts vc vs .nilIface i' w') ∨
 (e=.panicked (brk R.bad)∧0≤R.bad∧Fr b w0 w')
theorem QgF{s i0 k chs sts i}(h46:onF s i (-1) 46=false)(h62:onF s i (-1) 62=false)(h33:onF s i (-1) 33=false):
  QG s i0 (k+1) chs sts i (-1)=if onF s (regI s i (-1)) (regB s i (-1)) 61 then QG s i0 k chs (sts++[(givF s (regN s i (-1),i) (regI s i (-1)+1) (regB s i (-1))).st]) (gotI s (givF s (regN s i (-1),i) (regI s i (-1)+1) (regB s i (-1))).i (givF s (regN s i (-1),i) (regI s i (-1)+1) (regB s i (-1))).bad 59) (mustB s (givF s (regN s i (-1),i) (regI s i (-1)+1) (regB s i (-1))).i (givF s (regN s i (-1),i) (regI s i (-1)+1) (regB s i (-1))).bad 59)
   else if onF s (regI s i (-1)) (regB s i (-1)) 64&&sts.isEmpty then QG s i0 k (chs++[⟨(regN s i (-1),i),(choF s (regI s i (-1)) (regB s i (-1))).gs,(choF s (regI s i (-1)) (regB s i (-1))).rs⟩]) sts (gotI s (choF s (regI s i (-1)) (regB s i (-1))).i (choF s (regI s i (-1)) (regB s i (-1))).bad 59) (mustB s (choF s (regI s i (-1)) (regB s i (-1))).i (choF s (regI s i (-1)) (regB s i (-1))).bad 59)
   else ⟨⟨chs,sts,(braF s (regN s i (-1),i) (regI s i (-1)) (regB s i (-1))).e,i0⟩,(braF s (regN s i (-1),i) (regI s i (-1)) (regB s i (-1))).i,(braF s (regN s i (-1),i) (regI s i (-1)) (regB s i (-1))).bad⟩:=by
 rw[QG,if_pos (by decide),if_neg (by simp[h46]),if_neg (by simp[h62]),if_neg (by simp[h33])]
section
variable {b g:Nat} {s:ByteArray} {w0:World} {i0:Nat} {chs:List QH} {sts:List Qy} {vc vs ev:Value} {i:Nat}
theorem BP.newS{w':World}(h:w'.heap[w0.heap.size]?=some (.cells #[.int .i64 0,.slice none 0 0,.slice none 0 0,.nilIface] 104 (0,0))∧w'.heap[w0.heap.size+1]?=some (.cells #[.int .i64 i0,vc,vs,ev] 104 (0,0))∧X1 w' (w0.heap.size+2) chs vc∧RS w' b g s i∧Fr b w0 w'∧w0.heap.size+2≤w'.heap.size)(hb:b<w0.heap.size)(hg:g<w0.heap.size)
  {sts':List Qy}{vs':Value}(o:w'.ownsRow (w0.heap.size+2) 150 1 vs' sts'.length (sts'.map QE)):BP b g s w0 i0 chs sts' vc vs' ev i (w'.setCell ⟨w0.heap.size+1,2,none⟩ vs'):=by
 obtain⟨h1,h2,h3,h4,h5,h6⟩:=h;exact⟨Qo h1 (by omega) _ _,Qp h2 2 vs',h3.keeps (Qs.setk T4 w' _ 2 _ (by omega)) (by simp[T4]) (by simp[T4]),QB o _ 2 _ (by omega),h4.setk _ 2 _ (by omega) (by omega),h5.setk _ 2 _ (by omega),by rw[Zo];exact h6⟩
theorem BP.newC{w':World}(h:w'.heap[w0.heap.size]?=some (.cells #[.int .i64 0,.slice none 0 0,.slice none 0 0,.nilIface] 104 (0,0))∧w'.heap[w0.heap.size+1]?=some (.cells #[.int .i64 i0,vc,vs,ev] 104 (0,0))∧w'.ownsRow (w0.heap.size+2) 150 1 vs sts.length (sts.map QE)∧RS w' b g s i∧Fr b w0 w'∧w0.heap.size+2≤w'.heap.size)(hb:b<w0.heap.size)(hg:g<w0.heap.size)
  {chs':List QH}{vc':Value}(o:X1 w' (w0.heap.size+2) chs' vc'):BP b g s w0 i0 chs' sts vc' vs ev i (w'.setCell ⟨w0.heap.size+1,1,none⟩ vc'):=by
 obtain⟨h1,h2,h3,h4,h5,h6⟩:=h;exact⟨Qo h1 (by omega) _ _,Qp h2 1 vc',o.keeps (Qs.setk T4 w' _ 1 _ (by omega)) (by simp[T4]) (by simp[T4]),QB h3 _ 1 _ (by omega),h4.setk _ 1 _ (by omega) (by omega),h5.setk _ 1 _ (by omega),by rw[Zo];exact h6⟩
end
theorem Nr{b g:Nat}{s:ByteArray}{w0:World}{i0 k i:Nat}{chs:List QH}{sts:List Qy}{vc vs:Value}{w:World}(R:Blk)
  (I:BP b g s w0 i0 chs sts vc vs .nilIface i w)(hb:b<w0.heap.size)(hg:g<w0.heap.size)(hs:s.size≤200000)(hcl:chs.length≤i)(hsl:sts.length≤i)
  (HR:Hid (R=QG s i0 (k+1) chs sts i (-1)))(H46:Hid (onF s i (-1) 46=false))(H62:Hid (onF s i (-1) 62=false))(H33:Hid (onF s i (-1) 33=false)):
  Calls Tryz.prog 200 #[.pointer (some ⟨b,0,none⟩),.pointer (some ⟨w0.heap.size+1,0,none⟩)] w fun e w'=>QaC b g s w0 i0 k i R e w':=by
 have HE:=Qc (HR.o.trans (QgF H46.o H62.o H33.o));have hi:=I.P.le;obtain⟨pc1,cc1,rfl⟩:=I.C.slice;obtain⟨ps1,cs1,rfl⟩:=Qb I.S;clear HR H46 H62 H33;go_enter Tryz.func200,Tryz.ntmps200;go_wp2_with fail;rcases Int.lt_or_le (regB s i (-1)) 0 with h1|h1
 ·have e1:=(WD h1).2.2.1;have H1:=Qc h1;have HE2:=HE.o;rw[e1]at HE2;have HE3:=Qc HE2;clear h1 HE e1 HE2;refine(J0 I.P hs H1.o).mono ?_;rintro e w1 ⟨rfl,P1,f1⟩;replace I:=I.call hb P1 f1;have hZ1:=I.Z;have hi1:=P1.le;have hi1g:=ZY (s:=s) (i:=i) (bad:=-1);have hi1s:i<regI s i (-1):=by
   have:=(WD H1.o);rw[this.2.2.2.2];exact Nat.lt_of_lt_of_le (Nat.lt_succ_self i) XF
  generalize regI s i (-1)=i1 at *;generalize regN s i (-1)=n1 at *;have kr:=heap_alloc_last w1 (.cells #[.int .i64 n1,.int .i64 i] 132);replace I:=I.alloc (.cells #[.int .i64 n1,.int .i64 i] 132);have kne:w1.heap.size≠b:=by have:=I.P.lt;omega
  have bne:w0.heap.size+1≠b:=by omega
  go_wp2_with fail
  cases h63:onF s i1 (-1) 63 with
  | true=>
   have HE4:=HE3.o;rw[if_neg (by simp[ZE h63 (show 63≠61 by decide)]),if_neg (by simp[ZE h63 (show 63≠64 by decide)]),QeN h63]at HE4;have HE5:=Qc HE4;have H63:=Qc h63;clear h63 HE4 HE3;refine(Xf (c:=63) I.P hs (by decide) H63.o).mono ?_;rintro e w2 ⟨rfl,P2,f2⟩;replace I:=I.call hb P2 f2;replace kr:=Qk f2 kr (by omega);have qr:=Qa kr;clear f2 P2;go_wp2_with fail;refine(Qen I.P hs).mono ?_;rintro e w3 (⟨rfl,hr,P3,f3⟩|⟨rfl,hr,f3⟩)
   ·replace I:=I.call hb P3 f3;have q2:=Qa I.G2;have z2:=Qf I.G2;have HRB:=Qc hr;have hev:∃T x,QP (VI s (n1,i) (i1+1)).e=.iface T x:=⟨_,_,rfl⟩;obtain⟨T,x,hev⟩:=hev;have HEV:=Qc hev;rw[hev];clear hr hev;go_wp2_with fail
    go_end0
    refine .inl ⟨rfl,chs,sts,.slice pc1 chs.length cc1,.slice ps1 sts.length cs1,(VI s (n1,i) (i1+1)).e,(VI s (n1,i) (i1+1)).i,?_,rfl,?_⟩
    ·rw[HE5.o,HRB.o]
    ·rw[HEV.o];exact I.setE hb hg _
   ·go_wp2_with fail;refine⟨rfl,.inr (.inr ⟨?_,?_,I.F.trans f3⟩)⟩
    ·rw[HE5.o]
    ·rw[HE5.o];exact hr
  | false=>
   have H63:=Qc h63;refine(XP (c:=63) I.P (by decide) H63.o).mono ?_;rintro e w2 ⟨rfl,P2,f2⟩;replace I:=I.call hb P2 f2;replace kr:=Qk f2 kr (by omega);clear f2 P2;go_wp2_with fail
   cases h61:onF s i1 (-1) 61 with
   | true=>
    have HE4:=HE3.o;rw[if_pos h61]at HE4;have HE5:=Qc HE4;have H61:=Qc h61;have hl61:=(QV h61).2.1;clear h61 h63 HE4 HE3 H63;refine(Xf (c:=61) I.P hs (by decide) H61.o).mono ?_;rintro e w3 ⟨rfl,P3,f3⟩;replace I:=I.call hb P3 f3;replace kr:=Qk f3 kr (by omega);clear f3 P3;have a0:=Qa kr 0;have a1:=Qa kr 1;have b2:=Qa I.G2 2;have b2z:=Qf I.G2 2;simp at a0 a1 b2;have kl:=lt_of_block kr;have bl:=lt_of_block I.G2;have FIN:Hid (∀w5,Fr b w3.drew w5→0≤mustB s (givF s (n1,i) (i1+1) (-1)).i (givF s (n1,i) (i1+1) (-1)).bad 59→QaC b g s w0 i0 k i R (.panicked (brk (mustB s (givF s (n1,i) (i1+1) (-1)).i (givF s (n1,i) (i1+1) (-1)).bad 59))) w5):=fun w5 f5 h0=>by
     have hB:R.bad=mustB s (givF s (n1,i) (i1+1) (-1)).i (givF s (n1,i) (i1+1) (-1)).bad 59:=by rw[HE5.o];exact Vt _ h0
     exact .inr (.inr ⟨by rw[hB],by rw[hB];exact h0,I.F.drew.trans f5⟩)
    obtain⟨T,x,hst⟩:=K4 (givF s (n1,i) (i1+1) (-1)).st;have HSV:=Qc hst;clear hst;go_wp2_with fail
    go_region_law (first | (refine ZN rfl 220 #[.pointer (some ⟨b,0,none⟩),.agg #[.int .i64 n1,.int .i64 i]] (by go_simp) (Qap (RS.drew I.P) hs) ?_;rintro e w5 (⟨rfl,hgb,P5,f5⟩ | ⟨rfl,hgb,f5⟩);rw[HSV.o];have HGB:=Qc hgb;clear hgb;have c0:=f5.cells (k:=w1.heap.size) kl kne 0;have c1:=f5.cells (k:=w1.heap.size) kl kne 1;have c2:=f5.cells (k:=w0.heap.size+1) bl bne 2;have IB:=BP.call (BP.drew I) hb P5 f5;have z5:=Qf IB.G2 2;have l5:w0.heap.size+1<w5.heap.size:=Nat.lt_of_lt_of_le bl f5.size;have l5b:w1.heap.size<w5.heap.size:=Nat.lt_of_lt_of_le kl f5.size;have HIB:=Qc IB;have o5:=IB.S;clear IB;rotate_left;exact⟨rfl,FIN.o _ f5 hgb⟩) | (refine QaH Tryz.underlying100 Tryz.info150 rfl (by decide) (by decide) rfl _ _ rfl rfl (o5.alloc _) (heap_alloc_last w5 _) rfl rfl (List.all_eq_true.1 rfl) (by omega) (by rw[World.size_alloc];omega) ?_;intro v6 w6 o6 gr6;obtain⟨p6,c6,rfl⟩:=Qb o6;have HI6:=Qc (BP.grownS (BP.alloc HIB.o _) hb hg gr6);have x6:=Qa HI6.o.2.1 2;have z6:=Qf HI6.o.2.1 2) | fail)
    all_goals
     replace o6:w6.ownsRow (w0.heap.size+2) 150 1 (.slice p6 (sts.length+1) c6) (sts++[(givF s (n1,i) (i1+1) (-1)).st]).length ((sts++[(givF s (n1,i) (i1+1) (-1)).st]).map QE):=by
      rw[List.length_append,List.map_append];have:=o6;rw[←HSV.o]at this;exact this
     have J:=BP.newS HI6.o hb hg o6;clear o6 HI6 gr6 x6 z6 c0 c1 c2 z5 l5 l5b HIB o5 f5 P5 a0 a1 b2 b2z kl bl I kr;generalize w6.setCell ⟨w0.heap.size+1,2,none⟩ (.slice p6 (sts.length+1) c6)=w7 at *;have hg1:=V8 (s:=s) (to:=(n1,i)) (i:=i1+1) (bad:=-1);have HE6:=HE5.o;rw[HGB.o]at HE6;generalize (givF s (n1,i) (i1+1) (-1)).st=st at *;generalize (givF s (n1,i) (i1+1) (-1)).i=i5 at *;go_wp2_with fail
     cases h59:onF s i5 (-1) 59 with
     | true=>
      have e1:gotI s i5 (-1) 59=i5+1:=by rw[gotI,if_pos h59]
      have e2:mustB s i5 (-1) 59=-1:=by rw[mustB,if_pos h59]
      rw[e1,e2]at HE6;have HE7:=Qc HE6;refine(Jg (c:=59) J.P hs (by decide) h59).mono ?_;rintro e w8 ⟨rfl,P8,f8⟩;clear h59 HE6 e1 e2;go_wp2_with fail
      go_end0
      exact .inr (.inl ⟨rfl,chs,sts++[st],_,_,i5+1,HE7.o,by omega,by omega,by simp;omega,J.call hb P8 f8⟩)
     | false=>
      have e2:mustB s i5 (-1) 59=i5:=by rw[Jp,h59];rfl
      rw[e2]at HE6;have HB:Hid (R.bad=i5):=by show _=_;rw[HE6];exact Vt _ (by omega)
      refine(Kt (c:=59) J.P (by decide) h59).mono ?_;rintro e w8 ⟨rfl,f8⟩;clear h59 HE6 e2;go_wp2_with fail;exact⟨rfl,.inr (.inr ⟨by rw[HB.o],by rw[HB.o];omega,J.F.trans f8⟩)⟩
   | false=>
    have H61:=Qc h61;refine(XP (c:=61) I.P (by decide) H61.o).mono ?_;rintro e w3 ⟨rfl,P3,f3⟩;replace I:=I.call hb P3 f3;replace kr:=Qk f3 kr (by omega);clear f3 P3;have a0:=Qa kr 0;have a1:=Qa kr 1;have d0:=Qa I.G2 2;have b2:=Qa I.G2 1;have b2z:=Qf I.G2 1;simp at a0 a1 b2 d0;have kl:=lt_of_block kr;have bl:=lt_of_block I.G2;have HE4:=HE3.o;rw[if_neg (by simp[h61])]at HE4
    cases sts with
    | cons t0 ts=>
     rw[if_neg (by simp)]at HE4;have HB:Hid (R.bad=i1):=by show _=_;rw[HE4];exact Qbx (a:=(n1,i)) h63
     have hne:(((t0::ts).length:Int)==0)=false:=by simp;omega
     generalize t0::ts=sts at *;clear HE4 HE3 h61 h63 H61 H63;go_wp2_with fail;refine(YW I.P).mono ?_;rintro e w5 ⟨rfl,f5⟩;go_wp2_with fail;exact⟨rfl,.inr (.inr ⟨by rw[HB.o],by rw[HB.o];omega,I.F.trans f5⟩)⟩
    | nil=>
     cases h64:onF s i1 (-1) 64 with
     | false=>
      rw[if_neg (by simp[h64])]at HE4;have HB:Hid (R.bad=i1):=by show _=_;rw[HE4];exact Qbx (a:=(n1,i)) h63
      have H64:=Qc h64;clear HE4 HE3 h61 h63 H61 H63 h64;go_wp2_with fail;refine(XP (c:=64) I.P (by decide) H64.o).mono ?_;rintro e w4 ⟨rfl,P4,f4⟩;go_wp2_with fail;refine(YW P4).mono ?_;rintro e w5 ⟨rfl,f5⟩;go_wp2_with fail;exact⟨rfl,.inr (.inr ⟨by rw[HB.o],by rw[HB.o];omega,(I.F.trans f4).trans f5⟩)⟩
     | true=>
      rw[if_pos (by simp[h64]),QeC h64]at HE4;have HE5:=Qc HE4;have H64:=Qc h64;have hl64:=(QV h64).2.1;clear HE4 HE3 h61 h63 H61 H63 h64;go_wp2_with fail;refine(Xf (c:=64) I.P hs (by decide) H64.o).mono ?_;rintro e w4 ⟨rfl,P4,f4⟩;replace I:=I.call hb P4 f4;replace kr:=Qk f4 kr (by omega);clear f4 P4;replace a0:=Qa kr 0;replace a1:=Qa kr 1;replace b2:=Qa I.G2 1;replace b2z:=Qf I.G2 1;simp at a0 a1 b2;replace kl:=lt_of_block kr;replace bl:=lt_of_block I.G2;clear d0;have FIN:Hid (∀w5,Fr b w4.drew w5→0≤(choT s (i1+1)).bad→QaC b g s w0 i0 k i R (.panicked (brk (choT s (i1+1)).bad)) w5):=fun w5 f5 h0=>by
       have hB:R.bad=(choT s (i1+1)).bad:=by rw[HE5.o,ZD h0];exact Vt _ h0
       exact .inr (.inr ⟨by rw[hB],by rw[hB];exact h0,I.F.drew.trans f5⟩)
      go_wp2_with fail
      go_region_law (first | (refine ZN rfl 221 #[.pointer (some ⟨b,0,none⟩),.agg #[.int .i64 n1,.int .i64 i]] (by go_simp) (NC (RS.drew I.P) hs) ?_;rintro e w5 (⟨us,rfl,hgb,hgl2,OS,P5,f5⟩ | ⟨rfl,hgb,f5⟩);obtain⟨pu,mu,cu,rfl⟩:=ZZ OS;have HGB:=Qc hgb;have HGL:=Qc hgl2;clear hgb hgl2;have c0:=f5.cells (k:=w1.heap.size) kl kne 0;have c1:=f5.cells (k:=w1.heap.size) kl kne 1;have c2:=f5.cells (k:=w0.heap.size+1) bl bne 1;have IB:=BP.call (BP.drew I) hb P5 f5;have z5:=Qf IB.G2 1;have l5:w0.heap.size+1<w5.heap.size:=Nat.lt_of_lt_of_le bl f5.size;have l5b:w1.heap.size<w5.heap.size:=Nat.lt_of_lt_of_le kl f5.size;have HIB:=Qc IB;have o5:=IB.C;clear IB;rotate_left;exact⟨rfl,FIN.o _ f5 hgb⟩) | (obtain⟨us,OC,hAll⟩:=o5;refine QaH Tryz.underlying99 Tryz.info140 rfl (by decide) (by decide) rfl _ _ rfl rfl (OC.alloc _) (heap_alloc_last w5 _) rfl rfl (List.all_eq_true.1 rfl) (by omega) (by rw[World.size_alloc];omega) ?_;intro v6 w6 o6 gr6;obtain⟨p6,c6,rfl⟩:=Qb o6;have HI6:=Qc (BP.grownC (BP.alloc HIB.o _) hb hg (OC.alloc _) gr6);have x6:=Qa HI6.o.2.1 1;have z6:=Qf HI6.o.2.1 1) | fail)
      all_goals
       have K:Qs (w0.heap.size+2) (fun e=>e=147) w5 w6:=(Qs.alloc _ _ _ _).trans (Qs.grown (OC.alloc _) gr6 (by decide));have OP:X1 w6 (w0.heap.size+2) (chs++[⟨(n1,i),(choT s (i1+1)).gs,(choT s (i1+1)).rs⟩]) (.slice p6 (chs.length+1) c6):=by
        refine⟨us++[.slice pu mu cu],?_,?_⟩
        ·rw[KC _ _ hAll.len,List.length_append];exact o6
        ·exact Zh.snoc HGL.o (Qd (Qm OS (show w0.heap.size+2≤w4.drew.heap.size from I.Z)) K rfl) (hAll.keeps K rfl)
       have J:=BP.newC HI6.o hb hg OP;clear o6 HI6 gr6 x6 z6 c0 c1 c2 z5 l5 l5b HIB OC hAll K OP OS f5 P5 a0 a1 b2 b2z kl bl I kr;generalize w6.setCell ⟨w0.heap.size+1,1,none⟩ (.slice p6 (chs.length+1) c6)=w7 at *;have hg1:i1+1≤(choT s (i1+1)).i:=ND (s.size+1) ⟨[],[],i1+1,-1⟩;have HE6:=HE5.o;rw[HGB.o]at HE6;generalize (choT s (i1+1)).gs=gs at *;generalize (choT s (i1+1)).rs=rs at *;generalize (choT s (i1+1)).i=i5 at *;go_wp2_with fail
       cases h59:onF s i5 (-1) 59 with
       | true=>
        have e1:gotI s i5 (-1) 59=i5+1:=by rw[gotI,if_pos h59]
        have e2:mustB s i5 (-1) 59=-1:=by rw[mustB,if_pos h59]
        rw[e1,e2]at HE6;have HE7:=Qc HE6;refine(Jg (c:=59) J.P hs (by decide) h59).mono ?_;rintro e w8 ⟨rfl,P8,f8⟩;clear h59 HE6 e1 e2;go_wp2_with fail
        go_end0
        exact .inr (.inl ⟨rfl,chs++[⟨(n1,i),gs,rs⟩],[],_,_,i5+1,HE7.o,by omega,by simp;omega,by simp,J.call hb P8 f8⟩)
       | false=>
        have e2:mustB s i5 (-1) 59=i5:=by rw[Jp,h59];rfl
        rw[e2]at HE6;have HB:Hid (R.bad=i5):=by show _=_;rw[HE6];exact Vt _ (by omega)
        refine(Kt (c:=59) J.P (by decide) h59).mono ?_;rintro e w8 ⟨rfl,f8⟩;clear h59 HE6 e2;go_wp2_with fail;exact⟨rfl,.inr (.inr ⟨by rw[HB.o],by rw[HB.o];omega,J.F.trans f8⟩)⟩
 ·have H1:=Qc h1;have HB:Hid (R.bad=regB s i (-1)):=by
   show _=_;rw[HE.o,if_neg (by simp[Ws h1]),if_neg (by simp[Ws h1])];exact Qfi (a:=(regN s i (-1),i)) h1
  clear h1 HE;refine(WC I.P hs H1.o).mono ?_;rintro e w1 ⟨rfl,f1⟩;go_wp2_with fail;exact⟨rfl,.inr (.inr ⟨by rw[HB.o],by rw[HB.o];exact H1.o,I.F.trans f1⟩)⟩
def Ks(w:World)(base:Nat)(r:Ql)(vc vs:Value):Prop:=X1 w base r.chs vc∧w.ownsRow base 150 1 vs r.sts.length (r.sts.map QE)
def QT(r:Ql)(vc vs:Value):List Value:=[.int .i64 r.at_,vc,vs,QP r.e]
def Qe6(b g:Nat)(s:ByteArray)(w:World)(R:Blk)(e:Ending)(w':World):Prop:=
 (∃vc vs,e=.returned (.agg (QT R.b vc vs).toArray)∧R.bad=-1∧(R.b.e.op=46∨R.b.e.op=62∨R.b.e.op=63)∧Ks w' w.heap.size R.b vc vs∧RS w' b g s R.i∧Fr b w w') ∨
 (e=.panicked (brk R.bad)∧0≤R.bad∧Fr b w w')
theorem QU(e:Z3):∃T x,QP e=.iface T x:=by
 unfold QP
 repeat' split
 all_goals exact⟨_,_,rfl⟩
theorem Qje{b g:Nat}{s:ByteArray}{i:Nat}{w:World}(hp:RS w b g s i):
  Calls Tryz.prog 196 #[.pointer (some ⟨b,0,none⟩)] w fun e w'=>∃n,e=.returned (.int .i64 i)∧w'=w.drewN n:=by
 obtain⟨ms,k,cap,hm,⟨hk,rfl⟩,hr⟩:=hp;exact Qaz b s ms k g cap w hr hk
def Uf:Value→Nat | .nilIface=>1|_=>0
theorem Qau{b g:Nat}{s:ByteArray}{i0:Nat}{w:World}(hp:RS w b g s i0)(hs:s.size≤200000):
  Calls Tryz.prog 157 #[.pointer (some ⟨b,0,none⟩)] w fun e w'=>Qe6 b g s w (blkF s i0 (-1)) e w':=by
 have hb:=hp.lt;have hg:=hp.glt;have hi0:=hp.le;go_enter Tryz.func157,Tryz.ntmps157;go_wp2_with fail;refine(Qje (hp.alloc _)).mono ?_;rintro e w1 ⟨n,rfl,rfl⟩;go_wp2_with fail
 go_loopw [12] (fun _ wr=>∃(k:Nat)(chs:List QH)(sts:List Qy)(vc vs ev:Value)(i:Nat),BP b g s w i0 chs sts vc vs ev i wr∧((ev=.nilIface∧s.size<k+i∧chs.length≤i∧sts.length≤i∧Hid (blkF s i0 (-1)=QG s i0 k chs sts i (-1)))∨(∃ee,ev=QP ee∧Hid (blkF s i0 (-1)=⟨⟨chs,sts,ee,i0⟩,i,-1⟩)∧Hid (ee.op=46∨ee.op=62∨ee.op=63))))
  (fun _ wr=>2*(s.size-rdI wr b)+Uf ((wr.cell? ⟨w.heap.size+1,3,none⟩).getD .nilIface))
 case atStart=>
  refine⟨s.size+1,[],[],.slice none 0 0,.slice none 0 0,.nilIface,i0,⟨?_,?_,⟨[],World.ownsRow_nil _ _ _ _,trivial⟩,World.ownsRow_nil _ _ _ _,((hp.alloc _).drewN n).alloc _,(((Fr.refl _ _).alloc _).drewN n).alloc _,by simp⟩,.inl ⟨rfl,by omega,by simp,by simp,rfl⟩⟩
  ·exact Qj (w:=(w.alloc _).drewN n) (heap_alloc_last w _) _
  ·have:=heap_alloc_last ((w.alloc (.cells #[.int .i64 0,.slice none 0 0,.slice none 0 0,.nilIface] 104)).drewN n) (.cells #[.int .i64 i0,.slice none 0 0,.slice none 0 0,.nilIface] 104)
   rwa [show ((w.alloc (.cells #[.int .i64 0,.slice none 0 0,.slice none 0 0,.nilIface] 104)).drewN n).heap.size=w.heap.size+1 from World.size_alloc _ _]at this
 case round=>
  clear hp;obtain⟨k,chs,sts,vc,vs,ev,i,I,hst⟩:=hrel;obtain⟨pc1,cc1,rfl⟩:=I.C.slice;obtain⟨ps1,cs1,rfl⟩:=Qb I.S;rcases hst with ⟨rfl,hk,hcl,hsl,HR⟩|⟨ee,rfl,HV,HOP⟩
  ·have HRI:Hid (rdI wr b=i):=I.P.rdI;have HFL:Hid (Uf ((wr.cell? ⟨w.heap.size+1,3,none⟩).getD .nilIface)=1):=by show _=_;rw[Qa I.G2 3];rfl
   have hi:=I.P.le;obtain⟨k,rfl⟩:∃j,k=j+1:=⟨k-1,by omega⟩;have q3:=Qa I.G2 3;simp at q3;go_wp2_with fail
   cases h46:onF s i (-1) 46 with
   | true=>
    have HV:=Qc (HR.o.trans (show QG s i0 (k+1) chs sts i (-1)=⟨⟨chs,sts,⟨46,(0,0),(0,0),(0,0)⟩,i0⟩,i+1,-1⟩ from by rw[QG,if_pos (by decide),if_pos h46]));have hlt:=(QV h46).2.1;refine(Xf (c:=46) I.P hs (by decide) h46).mono ?_;rintro e w2 ⟨rfl,P2,f2⟩;replace I:=I.call hb P2 f2;clear h46 HR f2 P2 q3;have q2:=Qa I.G2;have z2:=Qf I.G2;go_wp2_with fail;have J:=I.setE hb hg (.iface 309 (.agg #[]));go_roundw
    case rel=>exact⟨0,chs,sts,_,_,_,i+1,J,.inr ⟨⟨46,(0,0),(0,0),(0,0)⟩,rfl,HV,.inl rfl⟩⟩
    case measure=>rw[J.P.rdI,HRI.o,HFL.o,Qa J.G2 3];simp[Uf];omega
   | false=>
    refine(XP (c:=46) I.P (by decide) h46).mono ?_;rintro e w2 ⟨rfl,P2,f2⟩;replace I:=I.call hb P2 f2;clear f2 P2 q3;go_wp2_with fail
    cases h62:onF s i (-1) 62 with
    | true=>
     have HV:=Qc (HR.o.trans (show QG s i0 (k+1) chs sts i (-1)=⟨⟨chs,sts,⟨62,(0,0),(numN s (i+1) (-1),i+1),(0,0)⟩,i0⟩,numI s (i+1) (-1),Zd s (i+1) (-1)⟩ from by rw[QG,if_pos (by decide),if_neg (by simp[h46]),if_pos h62]));have hlt:=(QV h62).2.1;refine(Xf (c:=62) I.P hs (by decide) h62).mono ?_;rintro e w3 ⟨rfl,P3,f3⟩;replace I:=I.call hb P3 f3;clear h46 h62 HR f3 P3;go_wp2_with fail
     cases hd:Q9 s (i+1) (-1) with
     | true=>
      have HV2:Hid (blkF s i0 (-1)=⟨⟨chs,sts,⟨62,(0,0),(numN s (i+1) (-1),i+1),(0,0)⟩,i0⟩,numI s (i+1) (-1),-1⟩):=by
       show _=_;rw[HV.o,J6,hd];rfl
      have hge:=XF (s:=s) (i:=i+1) (bad:=-1);refine(Vb I.P hs hd).mono ?_;rintro e w4 ⟨rfl,P4,f4⟩;replace I:=I.call hb P4 f4;clear hd f4 P4 HV;have q2:=Qa I.G2;have z2:=Qf I.G2;go_wp2_with fail;have J:=I.setE hb hg (.iface 312 (.agg #[.int .i64 (numN s (i+1) (-1)),.int .i64 ((i:Int)+1)]));go_roundw
      case rel=>exact⟨0,chs,sts,_,_,_,numI s (i+1) (-1),J,.inr ⟨⟨62,(0,0),(numN s (i+1) (-1),i+1),(0,0)⟩,rfl,HV2,.inr (.inl rfl)⟩⟩
      case measure=>rw[J.P.rdI,HRI.o,HFL.o,Qa J.G2 3];simp[Uf];omega
     | false=>
      have HB:Hid ((blkF s i0 (-1)).bad=((i+1:Nat):Int)):=by show _=_;rw[HV.o,J6,hd];rfl
      refine(V7 I.P hd).mono ?_;rintro e w4 ⟨rfl,f4⟩;clear hd HV;go_wp2_with fail;exact⟨rfl,.inr ⟨by rw[HB.o];rfl,by rw[HB.o];omega,I.F.trans f4⟩⟩
    | false=>
     refine(XP (c:=62) I.P (by decide) h62).mono ?_;rintro e w3 ⟨rfl,P3,f3⟩;replace I:=I.call hb P3 f3;clear f3 P3;go_wp2_with fail
     cases h33:onF s i (-1) 33 with
     | true=>
      have hlt:=(QV h33).2.1;have HE:=Qc (HR.o.trans (show QG s i0 (k+1) chs sts i (-1)=QG s i0 k chs (sts++[⟨33,(0,0),(regN s (i+1) (-1),i+1),(0,0),0⟩]) (gotI s (regI s (i+1) (-1)) (regB s (i+1) (-1)) 59) (mustB s (regI s (i+1) (-1)) (regB s (i+1) (-1)) 59) from by rw[QG,if_pos (by decide),if_neg (by simp[h46]),if_neg (by simp[h62]),if_pos h33]));refine(Xf (c:=33) I.P hs (by decide) h33).mono ?_;rintro e w4 ⟨rfl,P4,f4⟩;replace I:=I.call hb P4 f4;clear h46 h62 h33 HR f4 P4;have b2:=Qa I.G2 2;have b2z:=Qf I.G2 2;simp at b2;have bl:=lt_of_block I.G2;have bne:w.heap.size+1≠b:=by omega
      go_wp2_with fail;rcases Int.lt_or_le (regB s (i+1) (-1)) 0 with h1|h1
      ·have H1:=Qc h1;have HB1:=Qc (WD h1).2.2.1;have hge:=ZY (s:=s) (i:=i+1) (bad:=-1);have hle:=Zs (bad:=-1) (show i+1≤s.size by omega);clear h1
       go_region_law (first | (refine ZN rfl 199 #[.pointer (some ⟨b,0,none⟩)] (by go_simp) (J0 (RS.drew I.P) hs H1.o) ?_;rintro e w5 ⟨rfl,P5,f5⟩;have c2:=f5.cells (k:=w.heap.size+1) bl bne 2;have IB:=BP.call (BP.drew I) hb P5 f5;have z5:=Qf IB.G2 2;have l5:w.heap.size+1<w5.heap.size:=Nat.lt_of_lt_of_le bl f5.size;have HIB:=Qc IB;have o5:=IB.S;clear IB) | (refine QaH Tryz.underlying100 Tryz.info150 rfl (by decide) (by decide) rfl _ _ rfl rfl (o5.alloc _) (heap_alloc_last w5 _) rfl rfl (List.all_eq_true.1 rfl) (by omega) (by rw[World.size_alloc];omega) ?_;intro v6 w6 o6 gr6;obtain⟨p6,c6,rfl⟩:=Qb o6;have HI6:=Qc (BP.grownS (BP.alloc HIB.o _) hb hg gr6);have x6:=Qa HI6.o.2.1 2;have z6:=Qf HI6.o.2.1 2) | fail)
       all_goals
        replace o6:w6.ownsRow (w.heap.size+2) 150 1 (.slice p6 (sts.length+1) c6) (sts++[(⟨33,(0,0),(regN s (i+1) (-1),i+1),(0,0),0⟩:Qy)]).length ((sts++[(⟨33,(0,0),(regN s (i+1) (-1),i+1),(0,0),0⟩:Qy)]).map QE):=by
         rw[List.length_append,List.map_append];exact o6
        have J:=BP.newS HI6.o hb hg o6;clear o6 HI6 gr6 x6 z6 c2 z5 l5 HIB o5 f5 P5 b2 b2z bl I;generalize w6.setCell ⟨w.heap.size+1,2,none⟩ (.slice p6 (sts.length+1) c6)=w7 at *;have HE6:=HE.o;rw[HB1.o]at HE6;generalize regI s (i+1) (-1)=i5 at *;go_wp2_with fail
        cases h59:onF s i5 (-1) 59 with
        | true=>
         have e1:gotI s i5 (-1) 59=i5+1:=by rw[gotI,if_pos h59]
         have e2:mustB s i5 (-1) 59=-1:=by rw[mustB,if_pos h59]
         have hl59:=(QV h59).2.1;rw[e1,e2]at HE6;have HE7:=Qc HE6;refine(Jg (c:=59) J.P hs (by decide) h59).mono ?_;rintro e w8 ⟨rfl,P8,f8⟩;clear h59 HE6 e1 e2;have J8:=J.call hb P8 f8;go_wp2_with fail;go_roundw
         case rel=>exact⟨k,chs,_,_,_,_,i5+1,J8,.inl ⟨rfl,by omega,by omega,by simp;omega,HE7⟩⟩
         case measure=>rw[J8.P.rdI,HRI.o,HFL.o,Qa J8.G2 3];simp[Uf];omega
        | false=>
         have e2:mustB s i5 (-1) 59=i5:=by rw[Jp,h59];rfl
         rw[e2]at HE6;have HB:Hid ((blkF s i0 (-1)).bad=i5):=by show _=_;rw[HE6];exact Vt _ (by omega)
         refine(Kt (c:=59) J.P (by decide) h59).mono ?_;rintro e w8 ⟨rfl,f8⟩;clear h59 HE6 e2;go_wp2_with fail;exact⟨rfl,.inr ⟨by rw[HB.o],by rw[HB.o];omega,J.F.trans f8⟩⟩
      ·have H1:=Qc h1;have HB:Hid ((blkF s i0 (-1)).bad=regB s (i+1) (-1)):=by show _=_;rw[HE.o,ZD h1];exact Vt _ h1
       have FIN:Hid (∀w5,Fr b w4.drew w5→Qe6 b g s w (blkF s i0 (-1)) (.panicked (brk (regB s (i+1) (-1)))) w5):=fun w5 f5=>.inr ⟨by rw[HB.o],by rw[HB.o];exact h1,I.F.drew.trans f5⟩;clear h1 HE
       go_region_law (first | (refine ZN rfl 199 #[.pointer (some ⟨b,0,none⟩)] (by go_simp) (QdE (WC (RS.drew I.P) hs H1.o) (.agg #[.int .i64 0,.int .i64 0])) ?_;rintro e w5 (⟨rfl,f5⟩ | ⟨rfl,rfl,hF⟩);exact⟨rfl,FIN.o _ f5⟩) | (refine Wq hF (.slice none 0 0) ?_) | fail)
       all_goals exact hF.out.elim
     | false=>
      refine(XP (c:=33) I.P (by decide) h33).mono ?_;rintro e w4 ⟨rfl,P4,f4⟩;replace I:=I.call hb P4 f4;have H46:=Qc h46;have H62:=Qc h62;have H33:=Qc h33;clear f4 P4 h46 h62 h33;go_wp2_with fail;refine(Nr (blkF s i0 (-1)) I hb hg hs hcl hsl HR H46 H62 H33).mono ?_;rintro e w5 (⟨rfl,chs2,sts2,vc2,vs2,ee,i2,HV,hop,J⟩|⟨rfl,chs2,sts2,vc2,vs2,i2,HE,hi2,h3,h4,J⟩|⟨rfl,hbad,f5⟩)
      ·replace HV:=Qc HV;replace hop:=Qc hop;have hle:=J.P.le;go_wp2_with fail;go_roundw
       case rel=>exact⟨0,chs2,sts2,_,_,_,i2,J,.inr ⟨ee,rfl,HV,.inr (.inr hop)⟩⟩
       case measure=>
        have hge:i≤i2:=by
         have h1:=NJ (s:=s) (i0:=i0) (k+1) chs sts i (-1);rw[←HR.o,HV.o]at h1;exact h1
        rw[J.P.rdI,HRI.o,HFL.o,Qa J.G2 3];have:Uf (QP ee)=0:=by obtain⟨T,x,h⟩:=QU ee;rw[h];rfl
        simp[this];omega
      ·replace HE:=Qc HE;have hle:=J.P.le;go_wp2_with fail;go_roundw
       case rel=>exact⟨k,chs2,sts2,_,_,_,i2,J,.inl ⟨rfl,by omega,h3,h4,HE⟩⟩
       case measure=>rw[J.P.rdI,HRI.o,HFL.o,Qa J.G2 3];simp[Uf];omega
      ·replace hbad:=Qc hbad;go_wp2_with fail;exact⟨rfl,.inr ⟨rfl,hbad.out,f5⟩⟩
  ·obtain⟨T,x,hev⟩:=QU ee;have HEV:=Qc hev;rw[hev]at I;clear hev;have q1:=Qa I.G1;have z1:=Qf I.G1;have q2:=Qa I.G2;go_wp2_with fail;refine bodyPost_ret (v:=.agg #[.int .i64 i0,(.slice pc1 chs.length cc1),(.slice ps1 sts.length cs1),.iface T x]) (by simp[results,Tryz.results157,go_sem,q1]) rfl (.inl ⟨.slice pc1 chs.length cc1,.slice ps1 sts.length cs1,?_,?_,?_,?_,?_,?_⟩)
   ·rw[HV.o];rw[QT,HEV.o]
   ·rw[HV.o]
   ·rw[HV.o];exact HOP.o
   ·rw[HV.o];exact⟨X1.base (((((I.C).keeps (Qs.setk T4 _ w.heap.size 0 _ (by omega)) (by simp[T4]) (by simp[T4])).keeps (Qs.setk T4 _ w.heap.size 1 _ (by omega)) (by simp[T4]) (by simp[T4])).keeps (Qs.setk T4 _ w.heap.size 2 _ (by omega)) (by simp[T4]) (by simp[T4])).keeps (Qs.setk T4 _ w.heap.size 3 _ (by omega)) (by simp[T4]) (by simp[T4])) (by omega),Qm (QB (QB (QB (QB (I.S) w.heap.size 0 _ (by omega)) w.heap.size 1 _ (by omega)) w.heap.size 2 _ (by omega)) w.heap.size 3 _ (by omega)) (by omega)⟩
   ·rw[HV.o];exact((((I.P).setk w.heap.size 0 _ (by omega) (by omega)).setk w.heap.size 1 _ (by omega) (by omega)).setk w.heap.size 2 _ (by omega) (by omega)).setk w.heap.size 3 _ (by omega) (by omega)
   ·exact((((I.F).setk w.heap.size 0 _ (by omega)).setk w.heap.size 1 _ (by omega)).setk w.heap.size 2 _ (by omega)).setk w.heap.size 3 _ (by omega)
end Go.Proofs.YtgfhfkgdmidhpaaGreatDoor
