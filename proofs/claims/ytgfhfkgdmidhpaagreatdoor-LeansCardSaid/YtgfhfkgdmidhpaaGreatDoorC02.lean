import Derived.Test.YtgfhfkgdmidhpaaGreatDoorC01
import Derived.Deep.AppendLies
namespace Go.Proofs.YtgfhfkgdmidhpaaGreatDoor
open Go.RowKit
set_option maxRecDepth 100000
set_option maxHeartbeats 8000000
structure Qy where
 op:Nat
 to:Nat×Nat
 a:Nat×Nat
 b:Nat×Nat
 n:Int
def Zw(t:Qy):List Value:=[.int .u8 t.op,.int .i64 t.to.1,.int .i64 t.to.2,.int .i64 t.a.1,.int .i64 t.a.2,.int .i64 t.b.1,.int .i64 t.b.2,.int .i64 t.n]
structure Giv where
 st:Qy
 i:Nat
 bad:Int
def givF(s:ByteArray)(to:Nat×Nat)(i:Nat)(bad:Int):Giv:=
 if onF s i bad 63 then ⟨⟨63,to,(0,0),(0,0),0⟩,i+1,bad⟩
 else if onF s i bad 114 then
  let i1:=regI s i bad
  let b1:=regB s i bad
  let i2:=opI s i1 b1
  let b2:=opB s i1 b1
  if opC s i1 b1=0 then ⟨⟨99,to,(regN s i bad,i),(0,0),0⟩,i2,b2⟩
  else ⟨⟨opC s i1 b1,to,(regN s i bad,i),(regN s i2 b2,i2),0⟩,regI s i2 b2,regB s i2 b2⟩
 else if onF s i bad 45 then
  let b1:=if onF s (i+1) bad 48 then X0 (i+1) bad else bad
  ⟨⟨118,to,(0,0),(0,0),-(numN s (i+1) b1:Int)⟩,numI s (i+1) b1,Zd s (i+1) b1⟩
 else ⟨⟨118,to,(0,0),(0,0),numN s i bad⟩,numI s i bad,Zd s i bad⟩
theorem Qf0{s bad fm}(k i n:Nat):(QY s bad fm k i n).1<(n+1)*10 ^ k:=by
 induction k generalizing i n with
 | zero=>simp[QY]
 | succ k ih=>
  rw[QY];split
  ·rename_i h;simp[Q9]at h;have h1:=ih (i+1) (10*n+(byt s i-48));have h2:(10*n+(byt s i-48)+1)*10 ^ k≤((n+1)*10)*10 ^ k:=Nat.mul_le_mul_right _ (by omega);rw[Nat.pow_succ,Nat.mul_comm (10 ^ k) 10,←Nat.mul_assoc];omega
  ·have:1≤10 ^ (k+1):=Nat.one_le_pow _ _ (by omega);have:=Nat.le_mul_of_pos_right (n+1) this;show n<_;omega
theorem Z2(s i bad):numN s i bad<10000:=by
 unfold numN;split
 ·have:=Qf0 (s:=s) (bad:=bad) (fm:=i) 4 i 0;simpa using this
 ·omega
theorem N8{s i bad}(h:i≤s.size):opI s i bad≤s.size:=by
 unfold opI
 repeat' split
 all_goals first
  | exact h
  | (rename_i h1;have:=(QV h1).2.1;omega)
  | (rename_i h1;have:=(QV h1).2.1;exact QS (by omega))
theorem U1(b:Nat)(s:ByteArray)(i tn ta:Nat)(bad:Int)(w:World)(hp:QD w b s i bad)(hs:s.size≤200000)(hi:i≤s.size):
  Calls Tryz.prog 91 #[.pointer (some ⟨b,0,none⟩),.agg #[.int .i64 tn,.int .i64 ta]] w fun e w'=>e=.returned (.agg (Zw (givF s (tn,ta) i bad).st).toArray) ∧
   QD w' b s (givF s (tn,ta) i bad).i (givF s (tn,ta) i bad).bad∧Fr b w w':=by
 have hl:=hp.lt
 cases h63:onF s i bad 63 with
 | true=>
  have HV:Hid ((givF s (tn,ta) i bad).st=⟨63,(tn,ta),(0,0),(0,0),0⟩):=by simp[Hid,givF,h63]
  have HI:Hid ((givF s (tn,ta) i bad).i=i+1):=by simp[Hid,givF,h63]
  have HB:Hid ((givF s (tn,ta) i bad).bad=bad):=by simp[Hid,givF,h63]
  have H63:=Qc h63;clear h63;go_enter Tryz.func91,Tryz.ntmps91;go_wp2_with fail;refine(XG (((hp.alloc _).alloc _).alloc _) hs hi H63.o).mono ?_;rintro e w1 ⟨rfl,P,f1⟩;have F:Fr b w w1:=((((Fr.refl _ _).alloc _).alloc _).alloc _).trans f1;have G1:w1.heap[w.heap.size+1]?=some (.cells #[.int .u8 0,.int .i64 0,.int .i64 0,.int .i64 0,.int .i64 0,.int .i64 0,.int .i64 0,.int .i64 0] 66 (0,0)):=by
   refine Qk f1 ?_ (by omega);rw[Below.heap_alloc _ _ _ (by simp)];simpa using heap_alloc_last (w.alloc _) _
  have G2:w1.heap[w.heap.size+2]?=some (.cells #[.int .u8 118,.int .i64 tn,.int .i64 ta,.int .i64 0,.int .i64 0,.int .i64 0,.int .i64 0,.int .i64 0] 66 (0,0)):=by
   refine Qk f1 ?_ (by omega);simpa using heap_alloc_last ((w.alloc _).alloc _) _
  clear hp f1;have q1:=Qa G1;have z1:=Qf G1;have q2:=Qa G2;have z2:=Qf G2;go_wp2_with fail;replace G1:=Qo (j:=w.heap.size+1+1) G1 (by omega) 0 (.int .u8 63);replace G2:(World.setCell _ ⟨w.heap.size+1+1,0,none⟩ (.int .u8 63)).heap[w.heap.size+2]?=some (.cells #[.int .u8 63,.int .i64 tn,.int .i64 ta,.int .i64 0,.int .i64 0,.int .i64 0,.int .i64 0,.int .i64 0] 66 (0,0)):=Qp G2 0 (.int .u8 63);replace F:=F.setk (w.heap.size+1+1) 0 (.int .u8 63) (by omega);replace P:=P.setk (w.heap.size+1+1) 0 (.int .u8 63) (by omega);refine bodyPost_ret (v:=.agg #[.int .u8 63,.int .i64 tn,.int .i64 ta,.int .i64 0,.int .i64 0,.int .i64 0,.int .i64 0,.int .i64 0]) (by simp[results,Tryz.results91,go_sem,q1]) rfl ⟨?_,?_,?_⟩
  ·rw[HV.o];rfl
  ·rw[HI.o,HB.o];exact(P.s8 (by omega))
  ·exact(F.s8 (by omega))
 | false=>
  have H63:=Qc h63;go_enter Tryz.func91,Tryz.ntmps91;go_wp2_with fail;refine(Xv (((hp.alloc _).alloc _).alloc _) hs hi H63.o).mono ?_;rintro e w1 ⟨rfl,P,f1⟩;have F:Fr b w w1:=((((Fr.refl _ _).alloc _).alloc _).alloc _).trans f1;have G1:w1.heap[w.heap.size+1]?=some (.cells #[.int .u8 0,.int .i64 0,.int .i64 0,.int .i64 0,.int .i64 0,.int .i64 0,.int .i64 0,.int .i64 0] 66 (0,0)):=by
   refine Qk f1 ?_ (by omega);rw[Below.heap_alloc _ _ _ (by simp)];simpa using heap_alloc_last (w.alloc _) _
  have G2:w1.heap[w.heap.size+2]?=some (.cells #[.int .u8 118,.int .i64 tn,.int .i64 ta,.int .i64 0,.int .i64 0,.int .i64 0,.int .i64 0,.int .i64 0] 66 (0,0)):=by
   refine Qk f1 ?_ (by omega);simpa using heap_alloc_last ((w.alloc _).alloc _) _
  clear hp f1
  cases h114:onF s i bad 114 with
  | true=>
   have H114:=Qc h114;have HF:givF s (tn,ta) i bad=if opC s (regI s i bad) (regB s i bad)=0 then ⟨⟨99,(tn,ta),(regN s i bad,i),(0,0),0⟩,opI s (regI s i bad) (regB s i bad),opB s (regI s i bad) (regB s i bad)⟩
    else ⟨⟨opC s (regI s i bad) (regB s i bad),(tn,ta),(regN s i bad,i),(regN s (opI s (regI s i bad) (regB s i bad)) (opB s (regI s i bad) (regB s i bad)),opI s (regI s i bad) (regB s i bad)),0⟩,regI s (opI s (regI s i bad) (regB s i bad)) (opB s (regI s i bad) (regB s i bad)),regB s (opI s (regI s i bad) (regB s i bad)) (opB s (regI s i bad) (regB s i bad))⟩:=by simp[givF,h63,h114]
   have HF':=Qc HF;clear h63 h114 H63 HF;go_wp2_with fail;refine(WO P H114.o).mono ?_;rintro e w2 ⟨rfl,P,f2⟩;replace G1:=Qk f2 G1 (by omega);replace G2:=Qk f2 G2 (by omega);replace F:=F.trans f2;have q1:=Qa G1;have z1:=Qf G1;have q2:=Qa G2;have z2:=Qf G2;go_wp2_with fail;replace G1:=Qo (j:=w.heap.size+1+1) G1 (by omega) 0 (.int .u8 99);replace G2:(World.setCell _ ⟨w.heap.size+1+1,0,none⟩ (.int .u8 99)).heap[w.heap.size+2]?=some (.cells #[.int .u8 99,.int .i64 tn,.int .i64 ta,.int .i64 0,.int .i64 0,.int .i64 0,.int .i64 0,.int .i64 0] 66 (0,0)):=Qp G2 0 (.int .u8 99);replace F:=F.setk (w.heap.size+1+1) 0 (.int .u8 99) (by omega);replace P:=P.setk (w.heap.size+1+1) 0 (.int .u8 99) (by omega);clear q1 z1 q2 z2;refine(Y5 b s _ _ _ P hs hi).mono ?_;rintro e w3 ⟨rfl,P,f3⟩;replace G1:=Qk f3 G1 (by omega);replace G2:=Qk f3 G2 (by omega);replace F:=F.trans f3;have q1:=Qa G1;have z1:=Qf G1;have q2:=Qa G2;have z2:=Qf G2;have hi1:=Zs (bad:=bad) hi;go_wp2_with fail;replace G1:=Qo (j:=w.heap.size+1+1) G1 (by omega) 3 (.int .i64 (regN s i bad));replace G2:(World.setCell _ ⟨w.heap.size+1+1,3,none⟩ (.int .i64 (regN s i bad))).heap[w.heap.size+2]?=some (.cells #[.int .u8 99,.int .i64 tn,.int .i64 ta,.int .i64 (regN s i bad),.int .i64 0,.int .i64 0,.int .i64 0,.int .i64 0] 66 (0,0)):=Qp G2 3 (.int .i64 (regN s i bad));replace F:=F.setk (w.heap.size+1+1) 3 (.int .i64 (regN s i bad)) (by omega);replace P:=P.setk (w.heap.size+1+1) 3 (.int .i64 (regN s i bad)) (by omega);replace G1:=Qo (j:=w.heap.size+1+1) G1 (by omega) 4 (.int .i64 i);replace G2:(World.setCell _ ⟨w.heap.size+1+1,4,none⟩ (.int .i64 i)).heap[w.heap.size+2]?=some (.cells #[.int .u8 99,.int .i64 tn,.int .i64 ta,.int .i64 (regN s i bad),.int .i64 i,.int .i64 0,.int .i64 0,.int .i64 0] 66 (0,0)):=Qp G2 4 (.int .i64 i);replace F:=F.setk (w.heap.size+1+1) 4 (.int .i64 i) (by omega);replace P:=P.setk (w.heap.size+1+1) 4 (.int .i64 i) (by omega);clear q1 z1 q2 z2;generalize regI s i bad=i1 at *;generalize regB s i bad=b1 at *;generalize regN s i bad=n1 at *;refine(QhO b s _ _ _ P hs hi1).mono ?_;rintro e w4 ⟨rfl,P,f4⟩;replace G1:=Qk f4 G1 (by omega);replace G2:=Qk f4 G2 (by omega);replace F:=F.trans f4;have q1:=Qa G1;have z1:=Qf G1;have q2:=Qa G2;have z2:=Qf G2;have hi2:=N8 (bad:=b1) hi1;by_cases hc:opC s i1 b1=0
   ·have HF2:=HF'.o;rw[if_pos hc]at HF2;have HV:Hid ((givF s (tn,ta) i bad).st=⟨99,(tn,ta),(n1,i),(0,0),0⟩):=by rw[HF2];exact rfl
    have HI:Hid ((givF s (tn,ta) i bad).i=opI s i1 b1):=by rw[HF2];exact rfl
    have HB:Hid ((givF s (tn,ta) i bad).bad=opB s i1 b1):=by rw[HF2];exact rfl
    rw[hc];clear hc HF2 HF';go_wp2_with fail;refine bodyPost_ret (v:=.agg #[.int .u8 99,.int .i64 tn,.int .i64 ta,.int .i64 n1,.int .i64 i,.int .i64 0,.int .i64 0,.int .i64 0]) (by simp[results,Tryz.results91,go_sem,q1]) rfl ⟨?_,?_,?_⟩
    ·rw[HV.o];rfl
    ·rw[HI.o,HB.o];exact(P.s8 (by omega))
    ·exact(F.s8 (by omega))
   ·have HF2:=HF'.o;rw[if_neg hc]at HF2;have HV:Hid ((givF s (tn,ta) i bad).st=⟨opC s i1 b1,(tn,ta),(n1,i),(regN s (opI s i1 b1) (opB s i1 b1),opI s i1 b1),0⟩):=by rw[HF2];exact rfl
    have HI:Hid ((givF s (tn,ta) i bad).i=regI s (opI s i1 b1) (opB s i1 b1)):=by rw[HF2];exact rfl
    have HB:Hid ((givF s (tn,ta) i bad).bad=regB s (opI s i1 b1) (opB s i1 b1)):=by rw[HF2];exact rfl
    have hc':((opC s i1 b1:Int) != 0)=true:=by simp;omega
    clear hc HF2 HF';generalize opI s i1 b1=i2 at *;generalize opB s i1 b1=b2 at *;generalize opC s i1 b1=o1 at *;go_wp2_with fail;replace G1:=Qo (j:=w.heap.size+1+1) G1 (by omega) 0 (.int .u8 o1);replace G2:(World.setCell _ ⟨w.heap.size+1+1,0,none⟩ (.int .u8 o1)).heap[w.heap.size+2]?=some (.cells #[.int .u8 o1,.int .i64 tn,.int .i64 ta,.int .i64 n1,.int .i64 i,.int .i64 0,.int .i64 0,.int .i64 0] 66 (0,0)):=Qp G2 0 (.int .u8 o1);replace F:=F.setk (w.heap.size+1+1) 0 (.int .u8 o1) (by omega);replace P:=P.setk (w.heap.size+1+1) 0 (.int .u8 o1) (by omega);clear q1 z1 q2 z2;refine(Y5 b s _ _ _ P hs hi2).mono ?_;rintro e w5 ⟨rfl,P,f5⟩;replace G1:=Qk f5 G1 (by omega);replace G2:=Qk f5 G2 (by omega);replace F:=F.trans f5;have q1:=Qa G1;have z1:=Qf G1;have q2:=Qa G2;have z2:=Qf G2;go_wp2_with fail;replace G1:=Qo (j:=w.heap.size+1+1) G1 (by omega) 5 (.int .i64 (regN s i2 b2));replace G2:(World.setCell _ ⟨w.heap.size+1+1,5,none⟩ (.int .i64 (regN s i2 b2))).heap[w.heap.size+2]?=some (.cells #[.int .u8 o1,.int .i64 tn,.int .i64 ta,.int .i64 n1,.int .i64 i,.int .i64 (regN s i2 b2),.int .i64 0,.int .i64 0] 66 (0,0)):=Qp G2 5 (.int .i64 (regN s i2 b2));replace F:=F.setk (w.heap.size+1+1) 5 (.int .i64 (regN s i2 b2)) (by omega);replace P:=P.setk (w.heap.size+1+1) 5 (.int .i64 (regN s i2 b2)) (by omega);replace G1:=Qo (j:=w.heap.size+1+1) G1 (by omega) 6 (.int .i64 i2);replace G2:(World.setCell _ ⟨w.heap.size+1+1,6,none⟩ (.int .i64 i2)).heap[w.heap.size+2]?=some (.cells #[.int .u8 o1,.int .i64 tn,.int .i64 ta,.int .i64 n1,.int .i64 i,.int .i64 (regN s i2 b2),.int .i64 i2,.int .i64 0] 66 (0,0)):=Qp G2 6 (.int .i64 i2);replace F:=F.setk (w.heap.size+1+1) 6 (.int .i64 i2) (by omega);replace P:=P.setk (w.heap.size+1+1) 6 (.int .i64 i2) (by omega);refine bodyPost_ret (v:=.agg #[.int .u8 o1,.int .i64 tn,.int .i64 ta,.int .i64 n1,.int .i64 i,.int .i64 (regN s i2 b2),.int .i64 i2,.int .i64 0]) (by simp[results,Tryz.results91,go_sem,q1]) rfl ⟨?_,?_,?_⟩
    ·rw[HV.o];rfl
    ·rw[HI.o,HB.o];exact(P.s8 (by omega))
    ·exact(F.s8 (by omega))
  | false=>
   have H114:=Qc h114
   cases h45:onF s i bad 45 with
   | false=>
    have HV:Hid ((givF s (tn,ta) i bad).st=⟨118,(tn,ta),(0,0),(0,0),numN s i bad⟩):=by simp[Hid,givF,h63,h114,h45]
    have HI:Hid ((givF s (tn,ta) i bad).i=numI s i bad):=by simp[Hid,givF,h63,h114,h45]
    have HB:Hid ((givF s (tn,ta) i bad).bad=Zd s i bad):=by simp[Hid,givF,h63,h114,h45]
    have H45:=Qc h45;clear h63 h114 h45 H63;go_wp2_with fail;refine(WO P H114.o).mono ?_;rintro e w2 ⟨rfl,P,f2⟩;replace G1:=Qk f2 G1 (by omega);replace G2:=Qk f2 G2 (by omega);replace F:=F.trans f2;go_wp2_with fail;refine(Xv P hs hi H45.o).mono ?_;rintro e w3 ⟨rfl,P,f3⟩;replace G1:=Qk f3 G1 (by omega);replace G2:=Qk f3 G2 (by omega);replace F:=F.trans f3;go_wp2_with fail;refine(JO b s _ _ _ P hs hi).mono ?_;rintro e w4 ⟨rfl,P,f4⟩;replace G1:=Qk f4 G1 (by omega);replace G2:=Qk f4 G2 (by omega);replace F:=F.trans f4;have q1:=Qa G1;have z1:=Qf G1;have q2:=Qa G2;have z2:=Qf G2;go_wp2_with fail;replace G1:=Qo (j:=w.heap.size+1+1) G1 (by omega) 7 (.int .i64 (numN s i bad));replace G2:(World.setCell _ ⟨w.heap.size+1+1,7,none⟩ (.int .i64 (numN s i bad))).heap[w.heap.size+2]?=some (.cells #[.int .u8 118,.int .i64 tn,.int .i64 ta,.int .i64 0,.int .i64 0,.int .i64 0,.int .i64 0,.int .i64 (numN s i bad)] 66 (0,0)):=Qp G2 7 (.int .i64 (numN s i bad));replace F:=F.setk (w.heap.size+1+1) 7 (.int .i64 (numN s i bad)) (by omega);replace P:=P.setk (w.heap.size+1+1) 7 (.int .i64 (numN s i bad)) (by omega);refine bodyPost_ret (v:=.agg #[.int .u8 118,.int .i64 tn,.int .i64 ta,.int .i64 0,.int .i64 0,.int .i64 0,.int .i64 0,.int .i64 (numN s i bad)]) (by simp[results,Tryz.results91,go_sem,q1]) rfl ⟨?_,?_,?_⟩
    ·rw[HV.o];rfl
    ·rw[HI.o,HB.o];exact(P.s8 (by omega))
    ·exact(F.s8 (by omega))
   | true=>
    have hlt:=(QV h45).2.1;obtain⟨b1,hb1⟩:∃b1,b1=if onF s (i+1) bad 48 then X0 (i+1) bad else bad:=⟨_,rfl⟩;have HV:Hid ((givF s (tn,ta) i bad).st=⟨118,(tn,ta),(0,0),(0,0),-(numN s (i+1) b1:Int)⟩):=by simp[Hid,givF,h63,h114,h45,hb1]
    have HI:Hid ((givF s (tn,ta) i bad).i=numI s (i+1) b1):=by simp[Hid,givF,h63,h114,h45,hb1]
    have HB:Hid ((givF s (tn,ta) i bad).bad=Zd s (i+1) b1):=by simp[Hid,givF,h63,h114,h45,hb1]
    have H45:=Qc h45;have hb1':=Qc hb1;clear h63 h114 h45 H63 hb1;go_wp2_with fail;refine(WO P H114.o).mono ?_;rintro e w2 ⟨rfl,P,f2⟩;replace G1:=Qk f2 G1 (by omega);replace G2:=Qk f2 G2 (by omega);replace F:=F.trans f2;go_wp2_with fail;refine(XG P hs hi H45.o).mono ?_;rintro e w3 ⟨rfl,P,f3⟩;replace G1:=Qk f3 G1 (by omega);replace G2:=Qk f3 G2 (by omega);replace F:=F.trans f3;have nl:=Z2 s (i+1) b1;have nl1:(0:Int)≤(numN s (i+1) b1:Int):=by omega
    have nl2:(numN s (i+1) b1:Int)<10000:=by omega
    cases h48:onF s (i+1) bad 48 with
    | true=>
     have H48:=Qc h48;have HB1:=hb1'.out;rw[if_pos h48]at HB1;have HB1':=Qc HB1;clear h48 HB1 hb1' nl;go_wp2_with fail;refine(WO P H48.o).mono ?_;rintro e w4 ⟨rfl,P,f4⟩;replace G1:=Qk f4 G1 (by omega);replace G2:=Qk f4 G2 (by omega);replace F:=F.trans f4;go_wp2_with fail;refine(Ve b s _ _ _ P).mono ?_;rintro e w5 ⟨rfl,P,f5⟩;rw[←HB1'.o]at P;replace G1:=Qk f5 G1 (by omega);replace G2:=Qk f5 G2 (by omega);replace F:=F.trans f5;go_wp2_with fail;refine(JO b s _ _ _ P hs (by omega)).mono ?_;rintro e w6 ⟨rfl,P,f6⟩;replace G1:=Qk f6 G1 (by omega);replace G2:=Qk f6 G2 (by omega);replace F:=F.trans f6;have q1:=Qa G1;have z1:=Qf G1;have q2:=Qa G2;have z2:=Qf G2;go_wp2_with fail;replace G1:=Qo (j:=w.heap.size+1+1) G1 (by omega) 7 (.int .i64 (numN s (i+1) b1));replace G2:(World.setCell _ ⟨w.heap.size+1+1,7,none⟩ (.int .i64 (numN s (i+1) b1))).heap[w.heap.size+2]?=some (.cells #[.int .u8 118,.int .i64 tn,.int .i64 ta,.int .i64 0,.int .i64 0,.int .i64 0,.int .i64 0,.int .i64 (numN s (i+1) b1)] 66 (0,0)):=Qp G2 7 (.int .i64 (numN s (i+1) b1));replace F:=F.setk (w.heap.size+1+1) 7 (.int .i64 (numN s (i+1) b1)) (by omega);replace P:=P.setk (w.heap.size+1+1) 7 (.int .i64 (numN s (i+1) b1)) (by omega);replace G1:=Qo (j:=w.heap.size+1+1) G1 (by omega) 7 (.int .i64 (-(numN s (i+1) b1:Int)));replace G2:(World.setCell _ ⟨w.heap.size+1+1,7,none⟩ (.int .i64 (-(numN s (i+1) b1:Int)))).heap[w.heap.size+2]?=some (.cells #[.int .u8 118,.int .i64 tn,.int .i64 ta,.int .i64 0,.int .i64 0,.int .i64 0,.int .i64 0,.int .i64 (-(numN s (i+1) b1:Int))] 66 (0,0)):=Qp G2 7 (.int .i64 (-(numN s (i+1) b1:Int)));replace F:=F.setk (w.heap.size+1+1) 7 (.int .i64 (-(numN s (i+1) b1:Int))) (by omega);replace P:=P.setk (w.heap.size+1+1) 7 (.int .i64 (-(numN s (i+1) b1:Int))) (by omega);refine bodyPost_ret (v:=.agg #[.int .u8 118,.int .i64 tn,.int .i64 ta,.int .i64 0,.int .i64 0,.int .i64 0,.int .i64 0,.int .i64 (-(numN s (i+1) b1:Int))]) (by simp[results,Tryz.results91,go_sem,q1]) rfl ⟨?_,?_,?_⟩
     ·rw[HV.o];rfl
     ·rw[HI.o,HB.o];exact(P.s8 (by omega))
     ·exact(F.s8 (by omega))
    | false=>
     have H48:=Qc h48;have HB1:=hb1'.out;rw[if_neg (by simp[h48])]at HB1;subst HB1;clear h48 hb1' nl;go_wp2_with fail;refine(WO P H48.o).mono ?_;rintro e w4 ⟨rfl,P,f4⟩;replace G1:=Qk f4 G1 (by omega);replace G2:=Qk f4 G2 (by omega);replace F:=F.trans f4;go_wp2_with fail;refine(JO b s _ _ _ P hs (by omega)).mono ?_;rintro e w6 ⟨rfl,P,f6⟩;replace G1:=Qk f6 G1 (by omega);replace G2:=Qk f6 G2 (by omega);replace F:=F.trans f6;have q1:=Qa G1;have z1:=Qf G1;have q2:=Qa G2;have z2:=Qf G2;go_wp2_with fail;replace G1:=Qo (j:=w.heap.size+1+1) G1 (by omega) 7 (.int .i64 (numN s (i+1) b1));replace G2:(World.setCell _ ⟨w.heap.size+1+1,7,none⟩ (.int .i64 (numN s (i+1) b1))).heap[w.heap.size+2]?=some (.cells #[.int .u8 118,.int .i64 tn,.int .i64 ta,.int .i64 0,.int .i64 0,.int .i64 0,.int .i64 0,.int .i64 (numN s (i+1) b1)] 66 (0,0)):=Qp G2 7 (.int .i64 (numN s (i+1) b1));replace F:=F.setk (w.heap.size+1+1) 7 (.int .i64 (numN s (i+1) b1)) (by omega);replace P:=P.setk (w.heap.size+1+1) 7 (.int .i64 (numN s (i+1) b1)) (by omega);replace G1:=Qo (j:=w.heap.size+1+1) G1 (by omega) 7 (.int .i64 (-(numN s (i+1) b1:Int)));replace G2:(World.setCell _ ⟨w.heap.size+1+1,7,none⟩ (.int .i64 (-(numN s (i+1) b1:Int)))).heap[w.heap.size+2]?=some (.cells #[.int .u8 118,.int .i64 tn,.int .i64 ta,.int .i64 0,.int .i64 0,.int .i64 0,.int .i64 0,.int .i64 (-(numN s (i+1) b1:Int))] 66 (0,0)):=Qp G2 7 (.int .i64 (-(numN s (i+1) b1:Int)));replace F:=F.setk (w.heap.size+1+1) 7 (.int .i64 (-(numN s (i+1) b1:Int))) (by omega);replace P:=P.setk (w.heap.size+1+1) 7 (.int .i64 (-(numN s (i+1) b1:Int))) (by omega);refine bodyPost_ret (v:=.agg #[.int .u8 118,.int .i64 tn,.int .i64 ta,.int .i64 0,.int .i64 0,.int .i64 0,.int .i64 0,.int .i64 (-(numN s (i+1) b1:Int))]) (by simp[results,Tryz.results91,go_sem,q1]) rfl ⟨?_,?_,?_⟩
     ·rw[HV.o];rfl
     ·rw[HI.o,HB.o];exact(P.s8 (by omega))
     ·exact(F.s8 (by omega))
structure Z3 where
 op:Nat
 a:Nat×Nat
 one:Nat×Nat
 two:Nat×Nat
def Vg(t:Z3):List Value:=[.int .u8 t.op,.int .i64 t.a.1,.int .i64 t.a.2,.int .i64 t.one.1,.int .i64 t.one.2,.int .i64 t.two.1,.int .i64 t.two.2]
structure Bra where
 e:Z3
 i:Nat
 bad:Int
def braF(s:ByteArray)(a:Nat×Nat)(i:Nat)(bad:Int):Bra:=
 let i1:=gotI s i bad 63
 let b1:=mustB s i bad 63
 let i2:=numI s i1 b1
 let b2:=Zd s i1 b1
 let i3:=gotI s i2 b2 58
 let b3:=mustB s i2 b2 58
 ⟨⟨63,a,(numN s i1 b1,i1),(numN s i3 b3,i3)⟩,numI s i3 b3,Zd s i3 b3⟩
theorem Ul(b:Nat)(s:ByteArray)(i an aa:Nat)(bad:Int)(w:World)(hp:QD w b s i bad)(hs:s.size≤200000)(hi:i≤s.size):
  Calls Tryz.prog 93 #[.pointer (some ⟨b,0,none⟩),.agg #[.int .i64 an,.int .i64 aa]] w fun e w'=>e=.returned (.agg (Vg (braF s (an,aa) i bad).e).toArray) ∧
   QD w' b s (braF s (an,aa) i bad).i (braF s (an,aa) i bad).bad∧Fr b w w':=by
 have hl:=hp.lt;obtain⟨i1,hi1⟩:∃x,x=gotI s i bad 63:=⟨_,rfl⟩;obtain⟨b1,hb1⟩:∃x,x=mustB s i bad 63:=⟨_,rfl⟩;obtain⟨i2,hi2⟩:∃x,x=numI s i1 b1:=⟨_,rfl⟩;obtain⟨b2,hb2⟩:∃x,x=Zd s i1 b1:=⟨_,rfl⟩;obtain⟨i3,hi3⟩:∃x,x=gotI s i2 b2 58:=⟨_,rfl⟩;obtain⟨b3,hb3⟩:∃x,x=mustB s i2 b2 58:=⟨_,rfl⟩;have l1:i1≤s.size:=by rw[hi1];exact QS hi
 have l2:i2≤s.size:=by rw[hi2];exact Je l1
 have l3:i3≤s.size:=by rw[hi3];exact QS l2
 have HV:Hid ((braF s (an,aa) i bad).e=⟨63,(an,aa),(numN s i1 b1,i1),(numN s i3 b3,i3)⟩):=by subst hi3 hb3 hi2 hb2 hi1 hb1;exact rfl
 have HI:Hid ((braF s (an,aa) i bad).i=numI s i3 b3):=by subst hi3 hb3 hi2 hb2 hi1 hb1;exact rfl
 have HB:Hid ((braF s (an,aa) i bad).bad=Zd s i3 b3):=by subst hi3 hb3 hi2 hb2 hi1 hb1;exact rfl
 replace hi1:=Qc hi1;replace hb1:=Qc hb1;replace hi2:=Qc hi2;replace hb2:=Qc hb2;replace hi3:=Qc hi3;replace hb3:=Qc hb3;go_enter Tryz.func93,Tryz.ntmps93;go_wp2_with fail;refine(Xz b s i 63 bad _ (((hp.alloc _).alloc _).alloc _) hs hi).mono ?_;rintro e w1 ⟨rfl,P,f1⟩;rw[←hi1.out,←hb1.out]at P;have F:Fr b w w1:=((((Fr.refl _ _).alloc _).alloc _).alloc _).trans f1;have G1:w1.heap[w.heap.size+1]?=some (.cells #[.int .u8 0,.int .i64 0,.int .i64 0,.int .i64 0,.int .i64 0,.int .i64 0,.int .i64 0] 51 (0,0)):=by
  refine Qk f1 ?_ (by omega);rw[Below.heap_alloc _ _ _ (by simp)];simpa using heap_alloc_last (w.alloc _) _
 have G2:w1.heap[w.heap.size+2]?=some (.cells #[.int .u8 63,.int .i64 an,.int .i64 aa,.int .i64 0,.int .i64 0,.int .i64 0,.int .i64 0] 51 (0,0)):=by
  refine Qk f1 ?_ (by omega);simpa using heap_alloc_last ((w.alloc _).alloc _) _
 clear hp f1;go_wp2_with fail;refine(Vc b s _ _ _ P hs l1).mono ?_;rintro e w2 ⟨rfl,P,f2⟩;rw[←hi2.out,←hb2.out]at P;replace G1:=Qk f2 G1 (by omega);replace G2:=Qk f2 G2 (by omega);replace F:=F.trans f2;have q1:=Qa G1;have z1:=Qf G1;have q2:=Qa G2;have z2:=Qf G2;go_wp2_with fail;replace G1:=Qo (j:=w.heap.size+1+1) G1 (by omega) 3 (.int .i64 (numN s i1 b1));replace G2:(World.setCell _ ⟨w.heap.size+1+1,3,none⟩ (.int .i64 (numN s i1 b1))).heap[w.heap.size+2]?=some (.cells #[.int .u8 63,.int .i64 an,.int .i64 aa,.int .i64 (numN s i1 b1),.int .i64 0,.int .i64 0,.int .i64 0] 51 (0,0)):=Qp G2 3 (.int .i64 (numN s i1 b1));replace F:=F.setk (w.heap.size+1+1) 3 (.int .i64 (numN s i1 b1)) (by omega);replace P:=P.setk (w.heap.size+1+1) 3 (.int .i64 (numN s i1 b1)) (by omega);replace G1:=Qo (j:=w.heap.size+1+1) G1 (by omega) 4 (.int .i64 i1);replace G2:(World.setCell _ ⟨w.heap.size+1+1,4,none⟩ (.int .i64 i1)).heap[w.heap.size+2]?=some (.cells #[.int .u8 63,.int .i64 an,.int .i64 aa,.int .i64 (numN s i1 b1),.int .i64 i1,.int .i64 0,.int .i64 0] 51 (0,0)):=Qp G2 4 (.int .i64 i1);replace F:=F.setk (w.heap.size+1+1) 4 (.int .i64 i1) (by omega);replace P:=P.setk (w.heap.size+1+1) 4 (.int .i64 i1) (by omega);clear q1 z1 q2 z2;refine(Xz b s _ 58 _ _ P hs l2).mono ?_;rintro e w3 ⟨rfl,P,f3⟩;rw[←hi3.out,←hb3.out]at P;replace G1:=Qk f3 G1 (by omega);replace G2:=Qk f3 G2 (by omega);replace F:=F.trans f3;go_wp2_with fail;refine(Vc b s _ _ _ P hs l3).mono ?_;rintro e w4 ⟨rfl,P,f4⟩;replace G1:=Qk f4 G1 (by omega);replace G2:=Qk f4 G2 (by omega);replace F:=F.trans f4;have q1:=Qa G1;have z1:=Qf G1;have q2:=Qa G2;have z2:=Qf G2;go_wp2_with fail;replace G1:=Qo (j:=w.heap.size+1+1) G1 (by omega) 5 (.int .i64 (numN s i3 b3));replace G2:(World.setCell _ ⟨w.heap.size+1+1,5,none⟩ (.int .i64 (numN s i3 b3))).heap[w.heap.size+2]?=some (.cells #[.int .u8 63,.int .i64 an,.int .i64 aa,.int .i64 (numN s i1 b1),.int .i64 i1,.int .i64 (numN s i3 b3),.int .i64 0] 51 (0,0)):=Qp G2 5 (.int .i64 (numN s i3 b3));replace F:=F.setk (w.heap.size+1+1) 5 (.int .i64 (numN s i3 b3)) (by omega);replace P:=P.setk (w.heap.size+1+1) 5 (.int .i64 (numN s i3 b3)) (by omega);replace G1:=Qo (j:=w.heap.size+1+1) G1 (by omega) 6 (.int .i64 i3);replace G2:(World.setCell _ ⟨w.heap.size+1+1,6,none⟩ (.int .i64 i3)).heap[w.heap.size+2]?=some (.cells #[.int .u8 63,.int .i64 an,.int .i64 aa,.int .i64 (numN s i1 b1),.int .i64 i1,.int .i64 (numN s i3 b3),.int .i64 i3] 51 (0,0)):=Qp G2 6 (.int .i64 i3);replace F:=F.setk (w.heap.size+1+1) 6 (.int .i64 i3) (by omega);replace P:=P.setk (w.heap.size+1+1) 6 (.int .i64 i3) (by omega);refine bodyPost_ret (v:=.agg #[.int .u8 63,.int .i64 an,.int .i64 aa,.int .i64 (numN s i1 b1),.int .i64 i1,.int .i64 (numN s i3 b3),.int .i64 i3]) (by simp[results,Tryz.results93,go_sem,q1]) rfl ⟨?_,?_,?_⟩
 ·rw[HV.o];rfl
 ·rw[HI.o,HB.o];exact(((((((P).setk (w.heap.size+1) 0 _ (by omega)).setk (w.heap.size+1) 1 _ (by omega)).setk (w.heap.size+1) 2 _ (by omega)).setk (w.heap.size+1) 3 _ (by omega)).setk (w.heap.size+1) 4 _ (by omega)).setk (w.heap.size+1) 5 _ (by omega)).setk (w.heap.size+1) 6 _ (by omega)
 ·exact(((((((F).setk (w.heap.size+1) 0 _ (by omega)).setk (w.heap.size+1) 1 _ (by omega)).setk (w.heap.size+1) 2 _ (by omega)).setk (w.heap.size+1) 3 _ (by omega)).setk (w.heap.size+1) 4 _ (by omega)).setk (w.heap.size+1) 5 _ (by omega)).setk (w.heap.size+1) 6 _ (by omega)
def Qs(base:Nat)(T:TypeId→Prop)(w w':World):Prop:=
 ∀g cur e,base≤g→T e→w.heap[g]?=some (.cells cur e (0,0))→w'.heap[g]?=some (.cells cur e (0,0))
theorem Qs.trans{base T u v w}(h:Qs base T u v)(k:Qs base T v w):Qs base T u w:=fun g c e a b x=>k g c e a b (h g c e a b x)
theorem Qs.fr{b base:Nat} {T w w'}(f:Fr b w w')(hb:b<base):Qs base T w w':=fun g c e hg _ h=>Qk f h (by omega)
theorem Qs.alloc(base T)(w:World)(o:Obj):Qs base T w (w.alloc o):=fun _ _ _ _ _ h=>Qj h o
theorem Qs.setk{base:Nat} (T)(w:World)(k o:Nat)(x:Value)(hk:k<base):Qs base T w (w.setCell ⟨k,o,none⟩ x):=fun g c e hg _ h=>Qo h (by omega) o x
theorem Qs.grown{base:Nat}{T:TypeId→Prop}{w w':World} {base' e' size' v' n' xs'}(h':w.ownsRow base' e' size' v' n' xs')(hg:w.grownBy w' v'.ownBlock)(he:¬T e'):Qs base T w w':=by
 intro g c e hb ht h;refine Qz hg h ?_;intro j hj e1;subst e1;rcases h'.2 with ⟨rfl,_⟩|⟨g',cap',cur',rfl,_,hc',_⟩
 ·simp[Value.ownBlock]at hj
 ·simp only[Value.ownBlock,Option.some.injEq]at hj;subst hj;rw[h]at hc';cases hc';exact he ht
theorem Qs.drewN{base:Nat}{T:TypeId→Prop}(w:World)(n:Nat):Qs base T w (w.drewN n):=fun _ _ _ _ _ h=>h
theorem Qd{w w':World} {base e size v n xs}{T:TypeId→Prop}(h:w.ownsRow base e size v n xs)(k:Qs base T w w')(ht:T e):w'.ownsRow base e size v n xs:=by
 obtain⟨h1,h2⟩:=h;refine⟨h1,h2.imp id ?_⟩;rintro⟨g,cap,cur,a,b,c,d⟩;exact⟨g,cap,cur,a,b,k g cur e b ht c,d⟩
theorem Qb{w:World} {base e size v n xs}(h:w.ownsRow base e size v n xs):∃p c,v=.slice p n c:=by
 rcases h.2 with ⟨rfl,rfl⟩|⟨g,cap,cur,rfl,_⟩
 ·exact⟨_,_,rfl⟩
 ·exact⟨_,_,rfl⟩
theorem Kd{t e:TypeId}{z:Value}{size bytes:Nat}(ht:Tryz.prog.underlying t=some (.slice e))(hi:(Tryz.prog.info? e).map (fun i=>(i.zero,i.size,i.bytes))=some (some z,size,bytes))(hzs:z.cells.size=size)(hsz:0<size)(hby:bytes≤1000)
  {ops:Array Oper}{rest:List Oper}{o:Oper}{a:Act}{Q:Exit→Act→World→Prop}{w:World}(hgd:o.guard=none)(s x:Operand)
  (ho:o.op=.call { callee:=.builtin .append,args:=#[s,x],argTypes:=#[t,t] })
  {base:Nat}{v:Value}{n:Nat}{xs:List Value}(hs:a.eval s=v)(hown:w.ownsRow base e size v n xs)
  {B:Nat}{cs:Array Value}{tt:TypeId}{fr:Nat×Nat}(hB:w.heap[B]?=some (.cells cs tt fr))(hx:a.eval x=.slice (some ⟨B,0,none⟩) 1 1)(hl:cs.size=size)(h1:∀u∈cs.toList,u.oneCell'=true)
  (hn:n≤1000000)(hbase:base≤w.heap.size)
  (h:∀v' w',w'.ownsRow base e size v' (n+1) (xs++cs.toList)→w.grownBy w' v.ownBlock→wpList Tryz.prog ops Q rest (a.put o.dst v') w'):wpList Tryz.prog ops Q (o::rest) a w:=by
 obtain⟨I,Hi,Hz,Hs,Hb⟩:=info_parts hi;refine wpList_append_own w hgd s x t ho base e I z size bytes ht Hi Hz Hs Hb hzs hsz v n xs hs hown ⟨B,0,none⟩ 1 1 cs.toList hx (by simpa using hl) (World.news_of_block hB) h1 (by unfold maxLen;omega) ?_ hbase (fun v' w' h1 h2 _=>h v' w' h1 h2);have:(n+1)*bytes≤1000001*1000:=Nat.mul_le_mul (by omega) hby
 omega
structure QH where
 to:Nat×Nat
 gs:List (Nat×Nat)
 rs:List (Nat×Nat)
def X8(w:World)(base:Nat):List QH→List (Value×Value)→Prop
 | [],[]=>True
 | c::cs,v::vs=>(w.ownsRow base 49 2 v.1 c.gs.length (pcs c.gs)∧w.ownsRow base 48 2 v.2 c.rs.length (pcs c.rs))∧X8 w base cs vs
 | _,_=>False
def VH(c:QH)(v:Value×Value):List Value:=[.int .i64 c.to.1,.int .i64 c.to.2,v.1,v.2]
def VG(cs:List QH)(vs:List (Value×Value)):List Value:=(List.zipWith VH cs vs).flatten
def Xn(w:World)(base:Nat)(cs:List QH)(v:Value):Prop:=∃vs,w.ownsRow base 64 4 v cs.length (VG cs vs)∧X8 w base cs vs
theorem X8.len{w base}:∀{cs vs},X8 w base cs vs→vs.length=cs.length
 | [],[],_=>rfl
 | _::_,_::_,h=>by simp[X8.len h.2]
 | [],_::_,h=>h.elim
 | _::_,[],h=>h.elim
theorem X8.keeps{w w' base}{T:TypeId→Prop}(k:Qs base T w w')(h1:T 49)(h2:T 48):∀{cs vs},X8 w base cs vs→X8 w' base cs vs
 | [],[],_=>trivial
 | _::_,_::_,h=>⟨⟨Qd h.1.1 k h1,Qd h.1.2 k h2⟩,X8.keeps k h1 h2 h.2⟩
 | [],_::_,h=>h.elim
 | _::_,[],h=>h.elim
theorem X8.snoc{w base c v}(h1:w.ownsRow base 49 2 v.1 c.gs.length (pcs c.gs))(h2:w.ownsRow base 48 2 v.2 c.rs.length (pcs c.rs)):∀{cs vs},X8 w base cs vs→X8 w base (cs++[c]) (vs++[v])
 | [],[],_=>⟨⟨h1,h2⟩,trivial⟩
 | _::_,_::_,h=>⟨h.1,X8.snoc h1 h2 h.2⟩
 | [],_::_,h=>h.elim
 | _::_,[],h=>h.elim
theorem NH{cs vs} (c v)(h:vs.length=cs.length):VG (cs++[c]) (vs++[v])=VG cs vs++VH c v:=by
 simp[VG,List.zipWith_append h.symm]
theorem Xn.keeps{w w' base cs v}{T:TypeId→Prop}(h:Xn w base cs v)(k:Qs base T w w')(h1:T 49)(h2:T 48)(h3:T 64):Xn w' base cs v:=by
 obtain⟨vs,a,b⟩:=h;exact⟨vs,Qd a k h3,b.keeps k h1 h2⟩
def T0(e:TypeId):Prop:=e=48∨e=49∨e=64
def T1(e:TypeId):Prop:=e=48∨e=49∨e=66
theorem Xn.base{w base base' cs v}(h:Xn w base cs v)(hb:base'≤base):Xn w base' cs v:=by
 obtain⟨vs,a,b⟩:=h;refine⟨vs,Qm a hb,?_⟩;clear a
 induction cs generalizing vs with
 | nil=>cases vs with
  | nil=>trivial
  | cons _ _=>exact b.elim
 | cons c cs ih=>cases vs with
  | nil=>exact b.elim
  | cons v vs=>exact⟨⟨Qm b.1.1 hb,Qm b.1.2 hb⟩,ih _ b.2⟩
structure BI(b:Nat)(s:ByteArray)(w0:World)(base:Nat)(chs:List QH)(sts:List Qy)(vc vs:Value)(i:Nat)(bad:Int)(w:World):Prop where
 C:Xn w base chs vc
 S:w.ownsRow base 66 8 vs sts.length (sts.flatMap Zw)
 P:QD w b s i bad
 F:Fr b w0 w
 Z:base≤w.heap.size
theorem BI.setk{b s w0 base chs sts vc vs i bad w}(h:BI b s w0 base chs sts vc vs i bad w)(k o:Nat)(x:Value)(h1:k<base)(h2:w0.heap.size≤k)(h3:b≠k):BI b s w0 base chs sts vc vs i bad (w.setCell ⟨k,o,none⟩ x):=
 ⟨h.C.keeps (Qs.setk T0 w k o x h1) (by simp[T0]) (by simp[T0]) (by simp[T0]),QB h.S k o x h1,h.P.setk k o x h3,h.F.setk k o x h2,by rw[Zo];exact h.Z⟩
theorem BI.alloc{b s w0 base chs sts vc vs i bad w}(h:BI b s w0 base chs sts vc vs i bad w)(o:Obj):BI b s w0 base chs sts vc vs i bad (w.alloc o):=
 ⟨h.C.keeps (Qs.alloc base T0 w o) (by simp[T0]) (by simp[T0]) (by simp[T0]),h.S.alloc o,h.P.alloc o,h.F.alloc o,by have:=h.Z;simp;omega⟩
theorem BI.call{b s w0 base chs sts vc vs i bad w i' bad' w'}(h:BI b s w0 base chs sts vc vs i bad w)(hb:b<base)(P:QD w' b s i' bad')(f:Fr b w w'):BI b s w0 base chs sts vc vs i' bad' w':=
 ⟨h.C.keeps (Qs.fr (T:=T0) f hb) (by simp[T0]) (by simp[T0]) (by simp[T0]),Z0 h.S f hb,P,h.F.trans f,Nat.le_trans h.Z f.size⟩
theorem BI.grownS{b s w0 base chs sts vc vs i bad w vs' w'}(h:BI b s w0 base chs sts vc vs i bad w)(hb:b<base)(hw:w0.heap.size≤base)(t:Qy)(o:w'.ownsRow base 66 8 vs' (sts.length+1) (sts.flatMap Zw++Zw t))(g:w.grownBy w' vs.ownBlock):BI b s w0 base chs (sts++[t]) vc vs' i bad w':=
 ⟨h.C.keeps (Qs.grown (T:=T0) h.S g (by simp[T0])) (by simp[T0]) (by simp[T0]) (by simp[T0]),by simpa using o,
  h.P.grown g (fun j hj=>by have:=(h.S.lt j hj).1;omega),h.F.grown g (fun j hj=>by have:=(h.S.lt j hj).1;omega),Nat.le_trans h.Z g.size⟩
theorem BI.grownC{b s w0 base chs sts vc vs i bad w vc' w'}(h:BI b s w0 base chs sts vc vs i bad w)(hb:b<base)(hw:w0.heap.size≤base)(c:QH)(v:Value×Value)
  (h1:w.ownsRow base 49 2 v.1 c.gs.length (pcs c.gs))(h2:w.ownsRow base 48 2 v.2 c.rs.length (pcs c.rs)) {us}(hu:w.ownsRow base 64 4 vc chs.length (VG chs us))(ha:X8 w base chs us)
  (o:w'.ownsRow base 64 4 vc' (chs.length+1) (VG chs us++VH c v))(g:w.grownBy w' vc.ownBlock):BI b s w0 base (chs++[c]) sts vc' vs i bad w':=by
 have K:Qs base T1 w w':=Qs.grown (T:=T1) hu g (by simp[T1]);refine⟨⟨us++[v],?_,?_⟩,Qd h.S K (by simp[T1]),h.P.grown g (fun j hj=>by have:=(hu.lt j hj).1;omega),h.F.grown g (fun j hj=>by have:=(hu.lt j hj).1;omega),Nat.le_trans h.Z g.size⟩
 ·rw[NH c v ha.len];simpa using o
 ·exact X8.snoc (Qd h1 K (by simp[T1])) (Qd h2 K (by simp[T1])) (ha.keeps K (by simp[T1]) (by simp[T1]))
end Go.Proofs.YtgfhfkgdmidhpaaGreatDoor
