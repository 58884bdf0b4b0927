import Derived.Test.YtgfhfkgdmidhpaaGreatDoorM01
import Derived.Deep.AppendLies
namespace Go.Proofs.YtgfhfkgdmidhpaaGreatDoor
open Go.RowKit
open Tryz
set_option maxRecDepth 100000
set_option maxHeartbeats 8000000
theorem XW{b:Nat}{s:ByteArray}{i c:Nat}{bad:Int}{w:World}(hp:QJ w b s i bad)(hs:s.size≤200000)(hi:i≤s.size)(ho:onF s i bad c=true):
  Calls prog 49 #[.pointer (some ⟨b,0,none⟩),.int .u8 c] w fun e w'=>e=.returned (.bool true)∧QJ w' b s (i+1) bad∧Fr b w w':=by
 refine(YO b s i c bad w hp hs hi).mono ?_;rintro e w' ⟨rfl,h,f⟩;exact⟨by rw[ho],by rw[gotI,if_pos ho]at h;exact h,f⟩
theorem XO{b:Nat}{s:ByteArray}{i c:Nat}{bad:Int}{w:World}(hp:QJ w b s i bad)(hs:s.size≤200000)(hi:i≤s.size)(ho:onF s i bad c=false):
  Calls prog 49 #[.pointer (some ⟨b,0,none⟩),.int .u8 c] w fun e w'=>e=.returned (.bool false)∧QJ w' b s i bad∧Fr b w w':=by
 refine(YO b s i c bad w hp hs hi).mono ?_;rintro e w' ⟨rfl,h,f⟩;exact⟨by rw[ho],by rw[gotI,if_neg (by simp[ho])]at h;exact h,f⟩
theorem UD{b:Nat}{s:ByteArray}{i c:Nat}{bad:Int}{w:World}(hp:QJ w b s i bad){v:Bool}(ho:onF s i bad c=v):
  Calls prog 90 #[.pointer (some ⟨b,0,none⟩),.int .u8 c] w fun e w'=>e=.returned (.bool v)∧QJ w' b s i bad∧Fr b w w':=by
 refine(QaN b s i c bad w hp).mono ?_;rintro e w' ⟨n,rfl,rfl⟩;exact⟨by rw[ho],hp.drewN _,(Fr.refl _ _).drewN _⟩
theorem Zf{s i bad c}(h:onF s i bad c=true):bad<0∧i<s.size∧byt s i=c:=by simpa[onF] using h
def opC(s:ByteArray)(i:Nat)(bad:Int):Nat:=
 if onF s i bad 43 then 43 else if onF s i bad 45 then 45 else if onF s i bad 42 then 42 else if onF s i bad 60 then 60 else if onF s i bad 195 then 42 else 0
def opI(s:ByteArray)(i:Nat)(bad:Int):Nat:=
 if onF s i bad 43 then i+1 else if onF s i bad 45 then i+1 else if onF s i bad 42 then i+1 else if onF s i bad 60 then i+1 else if onF s i bad 195 then gotI s (i+1) bad 151 else i
def opB(s:ByteArray)(i:Nat)(bad:Int):Int:=
 if onF s i bad 43 then bad else if onF s i bad 45 then bad else if onF s i bad 42 then bad else if onF s i bad 60 then bad else if onF s i bad 195 then mustB s (i+1) bad 151 else bad
def opL(k:Nat):Nat:=match k with|0=>43|1=>45|2=>42|_=>60
theorem Qlg{s i bad k}(hk:k<4)(h:∀j,j<k→onF s i bad (opL j)=false)(ho:onF s i bad (opL k)=true):opC s i bad=opL k∧opI s i bad=i+1∧opB s i bad=bad:=by
 unfold opC opI opB
 match k,hk with
 | 0,_=>simp_all[opL]
 | 1,_=>have:=h 0 (by omega);simp_all[opL]
 | 2,_=>have:=h 0 (by omega);have:=h 1 (by omega);simp_all[opL]
 | 3,_=>have:=h 0 (by omega);have:=h 1 (by omega);have:=h 2 (by omega);simp_all[opL]
theorem Qjo{s i bad}(h:∀j,j<4→onF s i bad (opL j)=false):opC s i bad=(if onF s i bad 195 then 42 else 0)∧opI s i bad=(if onF s i bad 195 then gotI s (i+1) bad 151 else i)∧opB s i bad=if onF s i bad 195 then mustB s (i+1) bad 151 else bad:=by
 unfold opC opI opB;have:=h 0 (by omega);have:=h 1 (by omega);have:=h 2 (by omega);have:=h 3 (by omega);simp_all[opL]
theorem Qjn(b:Nat)(s:ByteArray)(i:Nat)(bad:Int)(w:World)(hp:QJ w b s i bad)(hs:s.size≤200000)(hi:i≤s.size):
  Calls prog 144 #[.pointer (some ⟨b,0,none⟩)] w fun e w'=>e=.returned (.int .u8 (opC s i bad))∧QJ w' b s (opI s i bad) (opB s i bad)∧Fr b w w':=by
 go_enter func144,ntmps144;go_wp2_with fail
 go_loopw [4] (fun k wr=>∃j:Nat,j≤4∧k=.int .i64 j∧(∀l,l<j→Hid (onF s i bad (opL l)=false))∧QJ wr b s i bad∧Fr b w wr) (fun k _=>4-(intOf k).toNat)
 case atStart=>exact⟨0,by omega,rfl,fun l h=>by omega,hp,Fr.refl _ _⟩
 case round=>
  clear hp;obtain⟨j,hj,rfl,HL,hp,f⟩:=hrel;by_cases hj4:j<4
  ·cases ho:onF s i bad (opL j) with
   | true=>
    have H:=Qlg hj4 (fun l h=>(HL l h).out) ho;have HO:Hid (onF s i bad (opL j)=true):=ho;have H':=Qc H;clear ho H
    match j,hj4 with
    | 0,_=>
     go_wp2_with fail;refine(XW hp hs hi HO.o).mono ?_;rintro e w1 ⟨rfl,hp1,f1⟩;go_wp2_with fail;go_ret;exact⟨by rw[H'.o.1];rfl,by rw[H'.o.2.1,H'.o.2.2];exact hp1,f.trans f1⟩
    | 1,_=>
     go_wp2_with fail;refine(XW hp hs hi HO.o).mono ?_;rintro e w1 ⟨rfl,hp1,f1⟩;go_wp2_with fail;go_ret;exact⟨by rw[H'.o.1];rfl,by rw[H'.o.2.1,H'.o.2.2];exact hp1,f.trans f1⟩
    | 2,_=>
     go_wp2_with fail;refine(XW hp hs hi HO.o).mono ?_;rintro e w1 ⟨rfl,hp1,f1⟩;go_wp2_with fail;go_ret;exact⟨by rw[H'.o.1];rfl,by rw[H'.o.2.1,H'.o.2.2];exact hp1,f.trans f1⟩
    | 3,_=>
     go_wp2_with fail;refine(XW hp hs hi HO.o).mono ?_;rintro e w1 ⟨rfl,hp1,f1⟩;go_wp2_with fail;go_ret;exact⟨by rw[H'.o.1];rfl,by rw[H'.o.2.1,H'.o.2.2];exact hp1,f.trans f1⟩
   | false=>
    have HO:Hid (onF s i bad (opL j)=false):=ho;have HL2:∀l,l<j+1→Hid (onF s i bad (opL l)=false):=fun l h=>by
     rcases Nat.lt_succ_iff_lt_or_eq.1 h with h|rfl
     ·exact HL l h
     ·exact HO
    clear ho
    match j,hj4 with
    | 0,_=>
     go_wp2_with fail;refine(XO hp hs hi HO.o).mono ?_;rintro e w1 ⟨rfl,hp1,f1⟩;go_wp2_with fail;go_roundw
     case rel=>exact⟨1,by omega,rfl,HL2,hp1,f.trans f1⟩
     case measure=>simp[intOf]
    | 1,_=>
     go_wp2_with fail;refine(XO hp hs hi HO.o).mono ?_;rintro e w1 ⟨rfl,hp1,f1⟩;go_wp2_with fail;go_roundw
     case rel=>exact⟨2,by omega,rfl,HL2,hp1,f.trans f1⟩
     case measure=>simp[intOf]
    | 2,_=>
     go_wp2_with fail;refine(XO hp hs hi HO.o).mono ?_;rintro e w1 ⟨rfl,hp1,f1⟩;go_wp2_with fail;go_roundw
     case rel=>exact⟨3,by omega,rfl,HL2,hp1,f.trans f1⟩
     case measure=>simp[intOf]
    | 3,_=>
     go_wp2_with fail;refine(XO hp hs hi HO.o).mono ?_;rintro e w1 ⟨rfl,hp1,f1⟩;go_wp2_with fail;go_roundw
     case rel=>exact⟨4,by omega,rfl,HL2,hp1,f.trans f1⟩
     case measure=>simp[intOf]
  ·have hj':j=4:=by omega
   subst hj';have H:=Qjo (fun l h=>(HL l h).out)
   cases ho:onF s i bad 195 with
   | true=>
    rw[ho]at H;have H':=Qc H;have HO:=Qc ho;have hlt:=(Zf ho).2.1;clear H ho HL;go_wp2_with fail;refine(XW hp hs hi HO.o).mono ?_;rintro e w1 ⟨rfl,hp1,f1⟩;go_wp2_with fail;refine(XQ b s (i+1) 151 bad _ hp1 hs (by omega)).mono ?_;rintro e w2 ⟨rfl,hp2,f2⟩;go_wp2_with fail;go_ret;exact⟨by rw[H'.o.1];rfl,by rw[H'.o.2.1,H'.o.2.2];exact hp2,(f.trans f1).trans f2⟩
   | false=>
    rw[ho]at H;have H':=Qc H;have HO:=Qc ho;clear H ho HL;go_wp2_with fail;refine(XO hp hs hi HO.o).mono ?_;rintro e w1 ⟨rfl,hp1,f1⟩;go_wp2_with fail;go_ret;exact⟨by rw[H'.o.1];rfl,by rw[H'.o.2.1,H'.o.2.2];exact hp1,f.trans f1⟩
structure Qz where
 op:Nat
 to:Nat×Nat
 a:Nat×Nat
 b:Nat×Nat
 n:Int
def ZP(t:Qz):List Value:=[.int .u8 t.op,.int .i64 t.to.1,.int .i64 t.to.2,.int .i64 t.a.1,.int .i64 t.a.2,.int .i64 t.b.1,.int .i64 t.b.2,.int .i64 t.n]
structure Giv where
 st:Qz
 i:Nat
 bad:Int
def givF(s:ByteArray)(to:Nat×Nat)(i:Nat)(bad:Int):Giv:=
 if onF s i bad 63 then ⟨⟨63,to,(0,0),(0,0),0⟩,i+1,bad⟩
 else if onF s i bad 114 then
  let i1:=regI s i bad
  let b1:=regB s i bad
  let i2:=opI s i1 b1
  let b2:=opB s i1 b1
  if opC s i1 b1=0 then ⟨⟨99,to,(regN s i bad,i),(0,0),0⟩,i2,b2⟩
  else ⟨⟨opC s i1 b1,to,(regN s i bad,i),(regN s i2 b2,i2),0⟩,regI s i2 b2,regB s i2 b2⟩
 else if onF s i bad 45 then
  let b1:=if onF s (i+1) bad 48 then Ja (i+1) bad else bad
  ⟨⟨118,to,(0,0),(0,0),-(numN s (i+1) b1:Int)⟩,numI s (i+1) b1,Zx s (i+1) b1⟩
 else ⟨⟨118,to,(0,0),(0,0),numN s i bad⟩,numI s i bad,Zx s i bad⟩
theorem Qhx{s bad fm}(k i n:Nat):(Zm s bad fm k i n).1<(n+1)*10 ^ k:=by
 induction k generalizing i n with
 | zero=>simp[Zm]
 | succ k ih=>
  rw[Zm];split
  ·rename_i h;simp[Zr]at h;have h1:=ih (i+1) (10*n+(byt s i-48));have h2:(10*n+(byt s i-48)+1)*10 ^ k≤((n+1)*10)*10 ^ k:=Nat.mul_le_mul_right _ (by omega);rw[Nat.pow_succ,Nat.mul_comm (10 ^ k) 10,←Nat.mul_assoc];omega
  ·have:1≤10 ^ (k+1):=Nat.one_le_pow _ _ (by omega);have:=Nat.le_mul_of_pos_right (n+1) this;show n<_;omega
theorem Xo(s i bad):numN s i bad<10000:=by
 unfold numN;split
 ·have:=Qhx (s:=s) (bad:=bad) (fm:=i) 4 i 0;simpa using this
 ·omega
theorem QaL{s i bad}(h:i≤s.size):opI s i bad≤s.size:=by
 unfold opI
 repeat' split
 all_goals first
  | exact h
  | (rename_i h1;have:=(Zf h1).2.1;omega)
  | (rename_i h1;have:=(Zf h1).2.1;exact Zd (by omega))
theorem GQ(b:Nat)(s:ByteArray)(i tn ta:Nat)(bad:Int)(w:World)(hp:QJ w b s i bad)(hs:s.size≤200000)(hi:i≤s.size):
  Calls prog 91 #[.pointer (some ⟨b,0,none⟩),.agg #[.int .i64 tn,.int .i64 ta]] w fun e w'=>e=.returned (.agg (ZP (givF s (tn,ta) i bad).st).toArray) ∧
   QJ w' b s (givF s (tn,ta) i bad).i (givF s (tn,ta) i bad).bad∧Fr b w w':=by
 have hl:=hp.lt
 cases h63:onF s i bad 63 with
 | true=>
  have HV:Hid ((givF s (tn,ta) i bad).st=⟨63,(tn,ta),(0,0),(0,0),0⟩):=by simp[Hid,givF,h63]
  have HI:Hid ((givF s (tn,ta) i bad).i=i+1):=by simp[Hid,givF,h63]
  have HB:Hid ((givF s (tn,ta) i bad).bad=bad):=by simp[Hid,givF,h63]
  have H63:=Qc h63;clear h63;go_enter func91,ntmps91;go_wp2_with fail;refine(XW (((hp.alloc _).alloc _).alloc _) hs hi H63.o).mono ?_;rintro e w1 ⟨rfl,P,f1⟩;have F:Fr b w w1:=((((Fr.refl _ _).alloc _).alloc _).alloc _).trans f1;have G1:w1.heap[w.heap.size+1]?=some (.cells #[.int .u8 0,.int .i64 0,.int .i64 0,.int .i64 0,.int .i64 0,.int .i64 0,.int .i64 0,.int .i64 0] 66 (0,0)):=by
   refine Qn f1 ?_ (by omega);rw[Below.heap_alloc _ _ _ (by simp)];simpa using heap_alloc_last (w.alloc _) _
  have G2:w1.heap[w.heap.size+2]?=some (.cells #[.int .u8 118,.int .i64 tn,.int .i64 ta,.int .i64 0,.int .i64 0,.int .i64 0,.int .i64 0,.int .i64 0] 66 (0,0)):=by
   refine Qn f1 ?_ (by omega);simpa using heap_alloc_last ((w.alloc _).alloc _) _
  clear hp f1;have q1:=Qb G1;have z1:=Qg G1;have q2:=Qb G2;have z2:=Qg G2;go_wp2_with fail;replace G1:=Ql (j:=w.heap.size+1+1) G1 (by omega) 0 (.int .u8 63);replace G2:(World.setCell _ ⟨w.heap.size+1+1,0,none⟩ (.int .u8 63)).heap[w.heap.size+2]?=some (.cells #[.int .u8 63,.int .i64 tn,.int .i64 ta,.int .i64 0,.int .i64 0,.int .i64 0,.int .i64 0,.int .i64 0] 66 (0,0)):=Qq G2 0 (.int .u8 63);replace F:=F.setk (w.heap.size+1+1) 0 (.int .u8 63) (by omega);replace P:=P.setk (w.heap.size+1+1) 0 (.int .u8 63) (by omega);refine bodyPost_ret (v:=.agg #[.int .u8 63,.int .i64 tn,.int .i64 ta,.int .i64 0,.int .i64 0,.int .i64 0,.int .i64 0,.int .i64 0]) (by simp[results,results91,go_sem,q1]) rfl ⟨?_,?_,?_⟩
  ·rw[HV.o];rfl
  ·rw[HI.o,HB.o];exact(P.s8 (by omega))
  ·exact(F.s8 (by omega))
 | false=>
  have H63:=Qc h63;go_enter func91,ntmps91;go_wp2_with fail;refine(XO (((hp.alloc _).alloc _).alloc _) hs hi H63.o).mono ?_;rintro e w1 ⟨rfl,P,f1⟩;have F:Fr b w w1:=((((Fr.refl _ _).alloc _).alloc _).alloc _).trans f1;have G1:w1.heap[w.heap.size+1]?=some (.cells #[.int .u8 0,.int .i64 0,.int .i64 0,.int .i64 0,.int .i64 0,.int .i64 0,.int .i64 0,.int .i64 0] 66 (0,0)):=by
   refine Qn f1 ?_ (by omega);rw[Below.heap_alloc _ _ _ (by simp)];simpa using heap_alloc_last (w.alloc _) _
  have G2:w1.heap[w.heap.size+2]?=some (.cells #[.int .u8 118,.int .i64 tn,.int .i64 ta,.int .i64 0,.int .i64 0,.int .i64 0,.int .i64 0,.int .i64 0] 66 (0,0)):=by
   refine Qn f1 ?_ (by omega);simpa using heap_alloc_last ((w.alloc _).alloc _) _
  clear hp f1
  cases h114:onF s i bad 114 with
  | true=>
   have H114:=Qc h114;have HF:givF s (tn,ta) i bad=if opC s (regI s i bad) (regB s i bad)=0 then ⟨⟨99,(tn,ta),(regN s i bad,i),(0,0),0⟩,opI s (regI s i bad) (regB s i bad),opB s (regI s i bad) (regB s i bad)⟩
    else ⟨⟨opC s (regI s i bad) (regB s i bad),(tn,ta),(regN s i bad,i),(regN s (opI s (regI s i bad) (regB s i bad)) (opB s (regI s i bad) (regB s i bad)),opI s (regI s i bad) (regB s i bad)),0⟩,regI s (opI s (regI s i bad) (regB s i bad)) (opB s (regI s i bad) (regB s i bad)),regB s (opI s (regI s i bad) (regB s i bad)) (opB s (regI s i bad) (regB s i bad))⟩:=by simp[givF,h63,h114]
   have HF':=Qc HF;clear h63 h114 H63 HF;go_wp2_with fail;refine(UD P H114.o).mono ?_;rintro e w2 ⟨rfl,P,f2⟩;replace G1:=Qn f2 G1 (by omega);replace G2:=Qn f2 G2 (by omega);replace F:=F.trans f2;have q1:=Qb G1;have z1:=Qg G1;have q2:=Qb G2;have z2:=Qg G2;go_wp2_with fail;replace G1:=Ql (j:=w.heap.size+1+1) G1 (by omega) 0 (.int .u8 99);replace G2:(World.setCell _ ⟨w.heap.size+1+1,0,none⟩ (.int .u8 99)).heap[w.heap.size+2]?=some (.cells #[.int .u8 99,.int .i64 tn,.int .i64 ta,.int .i64 0,.int .i64 0,.int .i64 0,.int .i64 0,.int .i64 0] 66 (0,0)):=Qq G2 0 (.int .u8 99);replace F:=F.setk (w.heap.size+1+1) 0 (.int .u8 99) (by omega);replace P:=P.setk (w.heap.size+1+1) 0 (.int .u8 99) (by omega);clear q1 z1 q2 z2;refine(Vz b s _ _ _ P hs hi).mono ?_;rintro e w3 ⟨rfl,P,f3⟩;replace G1:=Qn f3 G1 (by omega);replace G2:=Qn f3 G2 (by omega);replace F:=F.trans f3;have q1:=Qb G1;have z1:=Qg G1;have q2:=Qb G2;have z2:=Qg G2;have hi1:=ZM (bad:=bad) hi;go_wp2_with fail;replace G1:=Ql (j:=w.heap.size+1+1) G1 (by omega) 3 (.int .i64 (regN s i bad));replace G2:(World.setCell _ ⟨w.heap.size+1+1,3,none⟩ (.int .i64 (regN s i bad))).heap[w.heap.size+2]?=some (.cells #[.int .u8 99,.int .i64 tn,.int .i64 ta,.int .i64 (regN s i bad),.int .i64 0,.int .i64 0,.int .i64 0,.int .i64 0] 66 (0,0)):=Qq G2 3 (.int .i64 (regN s i bad));replace F:=F.setk (w.heap.size+1+1) 3 (.int .i64 (regN s i bad)) (by omega);replace P:=P.setk (w.heap.size+1+1) 3 (.int .i64 (regN s i bad)) (by omega);replace G1:=Ql (j:=w.heap.size+1+1) G1 (by omega) 4 (.int .i64 i);replace G2:(World.setCell _ ⟨w.heap.size+1+1,4,none⟩ (.int .i64 i)).heap[w.heap.size+2]?=some (.cells #[.int .u8 99,.int .i64 tn,.int .i64 ta,.int .i64 (regN s i bad),.int .i64 i,.int .i64 0,.int .i64 0,.int .i64 0] 66 (0,0)):=Qq G2 4 (.int .i64 i);replace F:=F.setk (w.heap.size+1+1) 4 (.int .i64 i) (by omega);replace P:=P.setk (w.heap.size+1+1) 4 (.int .i64 i) (by omega);clear q1 z1 q2 z2;generalize regI s i bad=i1 at *;generalize regB s i bad=b1 at *;generalize regN s i bad=n1 at *;refine(Qjn b s _ _ _ P hs hi1).mono ?_;rintro e w4 ⟨rfl,P,f4⟩;replace G1:=Qn f4 G1 (by omega);replace G2:=Qn f4 G2 (by omega);replace F:=F.trans f4;have q1:=Qb G1;have z1:=Qg G1;have q2:=Qb G2;have z2:=Qg G2;have hi2:=QaL (bad:=b1) hi1;by_cases hc:opC s i1 b1=0
   ·have HF2:=HF'.o;rw[if_pos hc]at HF2;have HV:Hid ((givF s (tn,ta) i bad).st=⟨99,(tn,ta),(n1,i),(0,0),0⟩):=by rw[HF2];exact rfl
    have HI:Hid ((givF s (tn,ta) i bad).i=opI s i1 b1):=by rw[HF2];exact rfl
    have HB:Hid ((givF s (tn,ta) i bad).bad=opB s i1 b1):=by rw[HF2];exact rfl
    rw[hc];clear hc HF2 HF';go_wp2_with fail;refine bodyPost_ret (v:=.agg #[.int .u8 99,.int .i64 tn,.int .i64 ta,.int .i64 n1,.int .i64 i,.int .i64 0,.int .i64 0,.int .i64 0]) (by simp[results,results91,go_sem,q1]) rfl ⟨?_,?_,?_⟩
    ·rw[HV.o];rfl
    ·rw[HI.o,HB.o];exact(P.s8 (by omega))
    ·exact(F.s8 (by omega))
   ·have HF2:=HF'.o;rw[if_neg hc]at HF2;have HV:Hid ((givF s (tn,ta) i bad).st=⟨opC s i1 b1,(tn,ta),(n1,i),(regN s (opI s i1 b1) (opB s i1 b1),opI s i1 b1),0⟩):=by rw[HF2];exact rfl
    have HI:Hid ((givF s (tn,ta) i bad).i=regI s (opI s i1 b1) (opB s i1 b1)):=by rw[HF2];exact rfl
    have HB:Hid ((givF s (tn,ta) i bad).bad=regB s (opI s i1 b1) (opB s i1 b1)):=by rw[HF2];exact rfl
    have hc':((opC s i1 b1:Int) != 0)=true:=by simp;omega
    clear hc HF2 HF';generalize opI s i1 b1=i2 at *;generalize opB s i1 b1=b2 at *;generalize opC s i1 b1=o1 at *;go_wp2_with fail;replace G1:=Ql (j:=w.heap.size+1+1) G1 (by omega) 0 (.int .u8 o1);replace G2:(World.setCell _ ⟨w.heap.size+1+1,0,none⟩ (.int .u8 o1)).heap[w.heap.size+2]?=some (.cells #[.int .u8 o1,.int .i64 tn,.int .i64 ta,.int .i64 n1,.int .i64 i,.int .i64 0,.int .i64 0,.int .i64 0] 66 (0,0)):=Qq G2 0 (.int .u8 o1);replace F:=F.setk (w.heap.size+1+1) 0 (.int .u8 o1) (by omega);replace P:=P.setk (w.heap.size+1+1) 0 (.int .u8 o1) (by omega);clear q1 z1 q2 z2;refine(Vz b s _ _ _ P hs hi2).mono ?_;rintro e w5 ⟨rfl,P,f5⟩;replace G1:=Qn f5 G1 (by omega);replace G2:=Qn f5 G2 (by omega);replace F:=F.trans f5;have q1:=Qb G1;have z1:=Qg G1;have q2:=Qb G2;have z2:=Qg G2;go_wp2_with fail;replace G1:=Ql (j:=w.heap.size+1+1) G1 (by omega) 5 (.int .i64 (regN s i2 b2));replace G2:(World.setCell _ ⟨w.heap.size+1+1,5,none⟩ (.int .i64 (regN s i2 b2))).heap[w.heap.size+2]?=some (.cells #[.int .u8 o1,.int .i64 tn,.int .i64 ta,.int .i64 n1,.int .i64 i,.int .i64 (regN s i2 b2),.int .i64 0,.int .i64 0] 66 (0,0)):=Qq G2 5 (.int .i64 (regN s i2 b2));replace F:=F.setk (w.heap.size+1+1) 5 (.int .i64 (regN s i2 b2)) (by omega);replace P:=P.setk (w.heap.size+1+1) 5 (.int .i64 (regN s i2 b2)) (by omega);replace G1:=Ql (j:=w.heap.size+1+1) G1 (by omega) 6 (.int .i64 i2);replace G2:(World.setCell _ ⟨w.heap.size+1+1,6,none⟩ (.int .i64 i2)).heap[w.heap.size+2]?=some (.cells #[.int .u8 o1,.int .i64 tn,.int .i64 ta,.int .i64 n1,.int .i64 i,.int .i64 (regN s i2 b2),.int .i64 i2,.int .i64 0] 66 (0,0)):=Qq G2 6 (.int .i64 i2);replace F:=F.setk (w.heap.size+1+1) 6 (.int .i64 i2) (by omega);replace P:=P.setk (w.heap.size+1+1) 6 (.int .i64 i2) (by omega);refine bodyPost_ret (v:=.agg #[.int .u8 o1,.int .i64 tn,.int .i64 ta,.int .i64 n1,.int .i64 i,.int .i64 (regN s i2 b2),.int .i64 i2,.int .i64 0]) (by simp[results,results91,go_sem,q1]) rfl ⟨?_,?_,?_⟩
    ·rw[HV.o];rfl
    ·rw[HI.o,HB.o];exact(P.s8 (by omega))
    ·exact(F.s8 (by omega))
  | false=>
   have H114:=Qc h114
   cases h45:onF s i bad 45 with
   | false=>
    have HV:Hid ((givF s (tn,ta) i bad).st=⟨118,(tn,ta),(0,0),(0,0),numN s i bad⟩):=by simp[Hid,givF,h63,h114,h45]
    have HI:Hid ((givF s (tn,ta) i bad).i=numI s i bad):=by simp[Hid,givF,h63,h114,h45]
    have HB:Hid ((givF s (tn,ta) i bad).bad=Zx s i bad):=by simp[Hid,givF,h63,h114,h45]
    have H45:=Qc h45;clear h63 h114 h45 H63;go_wp2_with fail;refine(UD P H114.o).mono ?_;rintro e w2 ⟨rfl,P,f2⟩;replace G1:=Qn f2 G1 (by omega);replace G2:=Qn f2 G2 (by omega);replace F:=F.trans f2;go_wp2_with fail;refine(XO P hs hi H45.o).mono ?_;rintro e w3 ⟨rfl,P,f3⟩;replace G1:=Qn f3 G1 (by omega);replace G2:=Qn f3 G2 (by omega);replace F:=F.trans f3;go_wp2_with fail;refine(J1 b s _ _ _ P hs hi).mono ?_;rintro e w4 ⟨rfl,P,f4⟩;replace G1:=Qn f4 G1 (by omega);replace G2:=Qn f4 G2 (by omega);replace F:=F.trans f4;have q1:=Qb G1;have z1:=Qg G1;have q2:=Qb G2;have z2:=Qg G2;go_wp2_with fail;replace G1:=Ql (j:=w.heap.size+1+1) G1 (by omega) 7 (.int .i64 (numN s i bad));replace G2:(World.setCell _ ⟨w.heap.size+1+1,7,none⟩ (.int .i64 (numN s i bad))).heap[w.heap.size+2]?=some (.cells #[.int .u8 118,.int .i64 tn,.int .i64 ta,.int .i64 0,.int .i64 0,.int .i64 0,.int .i64 0,.int .i64 (numN s i bad)] 66 (0,0)):=Qq G2 7 (.int .i64 (numN s i bad));replace F:=F.setk (w.heap.size+1+1) 7 (.int .i64 (numN s i bad)) (by omega);replace P:=P.setk (w.heap.size+1+1) 7 (.int .i64 (numN s i bad)) (by omega);refine bodyPost_ret (v:=.agg #[.int .u8 118,.int .i64 tn,.int .i64 ta,.int .i64 0,.int .i64 0,.int .i64 0,.int .i64 0,.int .i64 (numN s i bad)]) (by simp[results,results91,go_sem,q1]) rfl ⟨?_,?_,?_⟩
    ·rw[HV.o];rfl
    ·rw[HI.o,HB.o];exact(P.s8 (by omega))
    ·exact(F.s8 (by omega))
   | true=>
    have hlt:=(Zf h45).2.1;obtain⟨b1,hb1⟩:∃b1,b1=if onF s (i+1) bad 48 then Ja (i+1) bad else bad:=⟨_,rfl⟩;have HV:Hid ((givF s (tn,ta) i bad).st=⟨118,(tn,ta),(0,0),(0,0),-(numN s (i+1) b1:Int)⟩):=by simp[Hid,givF,h63,h114,h45,hb1]
    have HI:Hid ((givF s (tn,ta) i bad).i=numI s (i+1) b1):=by simp[Hid,givF,h63,h114,h45,hb1]
    have HB:Hid ((givF s (tn,ta) i bad).bad=Zx s (i+1) b1):=by simp[Hid,givF,h63,h114,h45,hb1]
    have H45:=Qc h45;have hb1':=Qc hb1;clear h63 h114 h45 H63 hb1;go_wp2_with fail;refine(UD P H114.o).mono ?_;rintro e w2 ⟨rfl,P,f2⟩;replace G1:=Qn f2 G1 (by omega);replace G2:=Qn f2 G2 (by omega);replace F:=F.trans f2;go_wp2_with fail;refine(XW P hs hi H45.o).mono ?_;rintro e w3 ⟨rfl,P,f3⟩;replace G1:=Qn f3 G1 (by omega);replace G2:=Qn f3 G2 (by omega);replace F:=F.trans f3;have nl:=Xo s (i+1) b1;have nl1:(0:Int)≤(numN s (i+1) b1:Int):=by omega
    have nl2:(numN s (i+1) b1:Int)<10000:=by omega
    cases h48:onF s (i+1) bad 48 with
    | true=>
     have H48:=Qc h48;have HB1:=hb1'.out;rw[if_pos h48]at HB1;have HB1':=Qc HB1;clear h48 HB1 hb1' nl;go_wp2_with fail;refine(UD P H48.o).mono ?_;rintro e w4 ⟨rfl,P,f4⟩;replace G1:=Qn f4 G1 (by omega);replace G2:=Qn f4 G2 (by omega);replace F:=F.trans f4;go_wp2_with fail;refine(VP b s _ _ _ P).mono ?_;rintro e w5 ⟨rfl,P,f5⟩;rw[←HB1'.o]at P;replace G1:=Qn f5 G1 (by omega);replace G2:=Qn f5 G2 (by omega);replace F:=F.trans f5;go_wp2_with fail;refine(J1 b s _ _ _ P hs (by omega)).mono ?_;rintro e w6 ⟨rfl,P,f6⟩;replace G1:=Qn f6 G1 (by omega);replace G2:=Qn f6 G2 (by omega);replace F:=F.trans f6;have q1:=Qb G1;have z1:=Qg G1;have q2:=Qb G2;have z2:=Qg G2;go_wp2_with fail;replace G1:=Ql (j:=w.heap.size+1+1) G1 (by omega) 7 (.int .i64 (numN s (i+1) b1));replace G2:(World.setCell _ ⟨w.heap.size+1+1,7,none⟩ (.int .i64 (numN s (i+1) b1))).heap[w.heap.size+2]?=some (.cells #[.int .u8 118,.int .i64 tn,.int .i64 ta,.int .i64 0,.int .i64 0,.int .i64 0,.int .i64 0,.int .i64 (numN s (i+1) b1)] 66 (0,0)):=Qq G2 7 (.int .i64 (numN s (i+1) b1));replace F:=F.setk (w.heap.size+1+1) 7 (.int .i64 (numN s (i+1) b1)) (by omega);replace P:=P.setk (w.heap.size+1+1) 7 (.int .i64 (numN s (i+1) b1)) (by omega);replace G1:=Ql (j:=w.heap.size+1+1) G1 (by omega) 7 (.int .i64 (-(numN s (i+1) b1:Int)));replace G2:(World.setCell _ ⟨w.heap.size+1+1,7,none⟩ (.int .i64 (-(numN s (i+1) b1:Int)))).heap[w.heap.size+2]?=some (.cells #[.int .u8 118,.int .i64 tn,.int .i64 ta,.int .i64 0,.int .i64 0,.int .i64 0,.int .i64 0,.int .i64 (-(numN s (i+1) b1:Int))] 66 (0,0)):=Qq G2 7 (.int .i64 (-(numN s (i+1) b1:Int)));replace F:=F.setk (w.heap.size+1+1) 7 (.int .i64 (-(numN s (i+1) b1:Int))) (by omega);replace P:=P.setk (w.heap.size+1+1) 7 (.int .i64 (-(numN s (i+1) b1:Int))) (by omega);refine bodyPost_ret (v:=.agg #[.int .u8 118,.int .i64 tn,.int .i64 ta,.int .i64 0,.int .i64 0,.int .i64 0,.int .i64 0,.int .i64 (-(numN s (i+1) b1:Int))]) (by simp[results,results91,go_sem,q1]) rfl ⟨?_,?_,?_⟩
     ·rw[HV.o];rfl
     ·rw[HI.o,HB.o];exact(P.s8 (by omega))
     ·exact(F.s8 (by omega))
    | false=>
     have H48:=Qc h48;have HB1:=hb1'.out;rw[if_neg (by simp[h48])]at HB1;subst HB1;clear h48 hb1' nl;go_wp2_with fail;refine(UD P H48.o).mono ?_;rintro e w4 ⟨rfl,P,f4⟩;replace G1:=Qn f4 G1 (by omega);replace G2:=Qn f4 G2 (by omega);replace F:=F.trans f4;go_wp2_with fail;refine(J1 b s _ _ _ P hs (by omega)).mono ?_;rintro e w6 ⟨rfl,P,f6⟩;replace G1:=Qn f6 G1 (by omega);replace G2:=Qn f6 G2 (by omega);replace F:=F.trans f6;have q1:=Qb G1;have z1:=Qg G1;have q2:=Qb G2;have z2:=Qg G2;go_wp2_with fail;replace G1:=Ql (j:=w.heap.size+1+1) G1 (by omega) 7 (.int .i64 (numN s (i+1) b1));replace G2:(World.setCell _ ⟨w.heap.size+1+1,7,none⟩ (.int .i64 (numN s (i+1) b1))).heap[w.heap.size+2]?=some (.cells #[.int .u8 118,.int .i64 tn,.int .i64 ta,.int .i64 0,.int .i64 0,.int .i64 0,.int .i64 0,.int .i64 (numN s (i+1) b1)] 66 (0,0)):=Qq G2 7 (.int .i64 (numN s (i+1) b1));replace F:=F.setk (w.heap.size+1+1) 7 (.int .i64 (numN s (i+1) b1)) (by omega);replace P:=P.setk (w.heap.size+1+1) 7 (.int .i64 (numN s (i+1) b1)) (by omega);replace G1:=Ql (j:=w.heap.size+1+1) G1 (by omega) 7 (.int .i64 (-(numN s (i+1) b1:Int)));replace G2:(World.setCell _ ⟨w.heap.size+1+1,7,none⟩ (.int .i64 (-(numN s (i+1) b1:Int)))).heap[w.heap.size+2]?=some (.cells #[.int .u8 118,.int .i64 tn,.int .i64 ta,.int .i64 0,.int .i64 0,.int .i64 0,.int .i64 0,.int .i64 (-(numN s (i+1) b1:Int))] 66 (0,0)):=Qq G2 7 (.int .i64 (-(numN s (i+1) b1:Int)));replace F:=F.setk (w.heap.size+1+1) 7 (.int .i64 (-(numN s (i+1) b1:Int))) (by omega);replace P:=P.setk (w.heap.size+1+1) 7 (.int .i64 (-(numN s (i+1) b1:Int))) (by omega);refine bodyPost_ret (v:=.agg #[.int .u8 118,.int .i64 tn,.int .i64 ta,.int .i64 0,.int .i64 0,.int .i64 0,.int .i64 0,.int .i64 (-(numN s (i+1) b1:Int))]) (by simp[results,results91,go_sem,q1]) rfl ⟨?_,?_,?_⟩
     ·rw[HV.o];rfl
     ·rw[HI.o,HB.o];exact(P.s8 (by omega))
     ·exact(F.s8 (by omega))
structure Z6 where
 op:Nat
 a:Nat×Nat
 one:Nat×Nat
 two:Nat×Nat
def VQ(t:Z6):List Value:=[.int .u8 t.op,.int .i64 t.a.1,.int .i64 t.a.2,.int .i64 t.one.1,.int .i64 t.one.2,.int .i64 t.two.1,.int .i64 t.two.2]
structure Bra where
 e:Z6
 i:Nat
 bad:Int
def braF(s:ByteArray)(a:Nat×Nat)(i:Nat)(bad:Int):Bra:=
 let i1:=gotI s i bad 63
 let b1:=mustB s i bad 63
 let i2:=numI s i1 b1
 let b2:=Zx s i1 b1
 let i3:=gotI s i2 b2 58
 let b3:=mustB s i2 b2 58
 ⟨⟨63,a,(numN s i1 b1,i1),(numN s i3 b3,i3)⟩,numI s i3 b3,Zx s i3 b3⟩
theorem U9(b:Nat)(s:ByteArray)(i an aa:Nat)(bad:Int)(w:World)(hp:QJ w b s i bad)(hs:s.size≤200000)(hi:i≤s.size):
  Calls prog 93 #[.pointer (some ⟨b,0,none⟩),.agg #[.int .i64 an,.int .i64 aa]] w fun e w'=>e=.returned (.agg (VQ (braF s (an,aa) i bad).e).toArray) ∧
   QJ w' b s (braF s (an,aa) i bad).i (braF s (an,aa) i bad).bad∧Fr b w w':=by
 have hl:=hp.lt;obtain⟨i1,hi1⟩:∃x,x=gotI s i bad 63:=⟨_,rfl⟩;obtain⟨b1,hb1⟩:∃x,x=mustB s i bad 63:=⟨_,rfl⟩;obtain⟨i2,hi2⟩:∃x,x=numI s i1 b1:=⟨_,rfl⟩;obtain⟨b2,hb2⟩:∃x,x=Zx s i1 b1:=⟨_,rfl⟩;obtain⟨i3,hi3⟩:∃x,x=gotI s i2 b2 58:=⟨_,rfl⟩;obtain⟨b3,hb3⟩:∃x,x=mustB s i2 b2 58:=⟨_,rfl⟩;have l1:i1≤s.size:=by rw[hi1];exact Zd hi
 have l2:i2≤s.size:=by rw[hi2];exact Jl l1
 have l3:i3≤s.size:=by rw[hi3];exact Zd l2
 have HV:Hid ((braF s (an,aa) i bad).e=⟨63,(an,aa),(numN s i1 b1,i1),(numN s i3 b3,i3)⟩):=by subst hi3 hb3 hi2 hb2 hi1 hb1;exact rfl
 have HI:Hid ((braF s (an,aa) i bad).i=numI s i3 b3):=by subst hi3 hb3 hi2 hb2 hi1 hb1;exact rfl
 have HB:Hid ((braF s (an,aa) i bad).bad=Zx s i3 b3):=by subst hi3 hb3 hi2 hb2 hi1 hb1;exact rfl
 replace hi1:=Qc hi1;replace hb1:=Qc hb1;replace hi2:=Qc hi2;replace hb2:=Qc hb2;replace hi3:=Qc hi3;replace hb3:=Qc hb3;go_enter func93,ntmps93;go_wp2_with fail;refine(XQ b s i 63 bad _ (((hp.alloc _).alloc _).alloc _) hs hi).mono ?_;rintro e w1 ⟨rfl,P,f1⟩;rw[←hi1.out,←hb1.out]at P;have F:Fr b w w1:=((((Fr.refl _ _).alloc _).alloc _).alloc _).trans f1;have G1:w1.heap[w.heap.size+1]?=some (.cells #[.int .u8 0,.int .i64 0,.int .i64 0,.int .i64 0,.int .i64 0,.int .i64 0,.int .i64 0] 51 (0,0)):=by
  refine Qn f1 ?_ (by omega);rw[Below.heap_alloc _ _ _ (by simp)];simpa using heap_alloc_last (w.alloc _) _
 have G2:w1.heap[w.heap.size+2]?=some (.cells #[.int .u8 63,.int .i64 an,.int .i64 aa,.int .i64 0,.int .i64 0,.int .i64 0,.int .i64 0] 51 (0,0)):=by
  refine Qn f1 ?_ (by omega);simpa using heap_alloc_last ((w.alloc _).alloc _) _
 clear hp f1;go_wp2_with fail;refine(VN b s _ _ _ P hs l1).mono ?_;rintro e w2 ⟨rfl,P,f2⟩;rw[←hi2.out,←hb2.out]at P;replace G1:=Qn f2 G1 (by omega);replace G2:=Qn f2 G2 (by omega);replace F:=F.trans f2;have q1:=Qb G1;have z1:=Qg G1;have q2:=Qb G2;have z2:=Qg G2;go_wp2_with fail;replace G1:=Ql (j:=w.heap.size+1+1) G1 (by omega) 3 (.int .i64 (numN s i1 b1));replace G2:(World.setCell _ ⟨w.heap.size+1+1,3,none⟩ (.int .i64 (numN s i1 b1))).heap[w.heap.size+2]?=some (.cells #[.int .u8 63,.int .i64 an,.int .i64 aa,.int .i64 (numN s i1 b1),.int .i64 0,.int .i64 0,.int .i64 0] 51 (0,0)):=Qq G2 3 (.int .i64 (numN s i1 b1));replace F:=F.setk (w.heap.size+1+1) 3 (.int .i64 (numN s i1 b1)) (by omega);replace P:=P.setk (w.heap.size+1+1) 3 (.int .i64 (numN s i1 b1)) (by omega);replace G1:=Ql (j:=w.heap.size+1+1) G1 (by omega) 4 (.int .i64 i1);replace G2:(World.setCell _ ⟨w.heap.size+1+1,4,none⟩ (.int .i64 i1)).heap[w.heap.size+2]?=some (.cells #[.int .u8 63,.int .i64 an,.int .i64 aa,.int .i64 (numN s i1 b1),.int .i64 i1,.int .i64 0,.int .i64 0] 51 (0,0)):=Qq G2 4 (.int .i64 i1);replace F:=F.setk (w.heap.size+1+1) 4 (.int .i64 i1) (by omega);replace P:=P.setk (w.heap.size+1+1) 4 (.int .i64 i1) (by omega);clear q1 z1 q2 z2;refine(XQ b s _ 58 _ _ P hs l2).mono ?_;rintro e w3 ⟨rfl,P,f3⟩;rw[←hi3.out,←hb3.out]at P;replace G1:=Qn f3 G1 (by omega);replace G2:=Qn f3 G2 (by omega);replace F:=F.trans f3;go_wp2_with fail;refine(VN b s _ _ _ P hs l3).mono ?_;rintro e w4 ⟨rfl,P,f4⟩;replace G1:=Qn f4 G1 (by omega);replace G2:=Qn f4 G2 (by omega);replace F:=F.trans f4;have q1:=Qb G1;have z1:=Qg G1;have q2:=Qb G2;have z2:=Qg G2;go_wp2_with fail;replace G1:=Ql (j:=w.heap.size+1+1) G1 (by omega) 5 (.int .i64 (numN s i3 b3));replace G2:(World.setCell _ ⟨w.heap.size+1+1,5,none⟩ (.int .i64 (numN s i3 b3))).heap[w.heap.size+2]?=some (.cells #[.int .u8 63,.int .i64 an,.int .i64 aa,.int .i64 (numN s i1 b1),.int .i64 i1,.int .i64 (numN s i3 b3),.int .i64 0] 51 (0,0)):=Qq G2 5 (.int .i64 (numN s i3 b3));replace F:=F.setk (w.heap.size+1+1) 5 (.int .i64 (numN s i3 b3)) (by omega);replace P:=P.setk (w.heap.size+1+1) 5 (.int .i64 (numN s i3 b3)) (by omega);replace G1:=Ql (j:=w.heap.size+1+1) G1 (by omega) 6 (.int .i64 i3);replace G2:(World.setCell _ ⟨w.heap.size+1+1,6,none⟩ (.int .i64 i3)).heap[w.heap.size+2]?=some (.cells #[.int .u8 63,.int .i64 an,.int .i64 aa,.int .i64 (numN s i1 b1),.int .i64 i1,.int .i64 (numN s i3 b3),.int .i64 i3] 51 (0,0)):=Qq G2 6 (.int .i64 i3);replace F:=F.setk (w.heap.size+1+1) 6 (.int .i64 i3) (by omega);replace P:=P.setk (w.heap.size+1+1) 6 (.int .i64 i3) (by omega);refine bodyPost_ret (v:=.agg #[.int .u8 63,.int .i64 an,.int .i64 aa,.int .i64 (numN s i1 b1),.int .i64 i1,.int .i64 (numN s i3 b3),.int .i64 i3]) (by simp[results,results93,go_sem,q1]) rfl ⟨?_,?_,?_⟩
 ·rw[HV.o];rfl
 ·rw[HI.o,HB.o];exact(((((((P).setk (w.heap.size+1) 0 _ (by omega)).setk (w.heap.size+1) 1 _ (by omega)).setk (w.heap.size+1) 2 _ (by omega)).setk (w.heap.size+1) 3 _ (by omega)).setk (w.heap.size+1) 4 _ (by omega)).setk (w.heap.size+1) 5 _ (by omega)).setk (w.heap.size+1) 6 _ (by omega)
 ·exact(((((((F).setk (w.heap.size+1) 0 _ (by omega)).setk (w.heap.size+1) 1 _ (by omega)).setk (w.heap.size+1) 2 _ (by omega)).setk (w.heap.size+1) 3 _ (by omega)).setk (w.heap.size+1) 4 _ (by omega)).setk (w.heap.size+1) 5 _ (by omega)).setk (w.heap.size+1) 6 _ (by omega)
def Qr(base:Nat)(T:TypeId→Prop)(w w':World):Prop:=
 ∀g cur e,base≤g→T e→w.heap[g]?=some (.cells cur e (0,0))→w'.heap[g]?=some (.cells cur e (0,0))
theorem Qr.trans{base T u v w}(h:Qr base T u v)(k:Qr base T v w):Qr base T u w:=fun g c e a b x=>k g c e a b (h g c e a b x)
theorem Qr.fr{b base:Nat} {T w w'}(f:Fr b w w')(hb:b<base):Qr base T w w':=fun g c e hg _ h=>Qn f h (by omega)
theorem Qr.alloc(base T)(w:World)(o:Obj):Qr base T w (w.alloc o):=fun _ _ _ _ _ h=>Qo h o
theorem Qr.setk{base:Nat} (T)(w:World)(k o:Nat)(x:Value)(hk:k<base):Qr base T w (w.setCell ⟨k,o,none⟩ x):=fun g c e hg _ h=>Ql h (by omega) o x
theorem Qr.grown{base:Nat}{T:TypeId→Prop}{w w':World} {base' e' size' v' n' xs'}(h':w.ownsRow base' e' size' v' n' xs')(hg:w.grownBy w' v'.ownBlock)(he:¬T e'):Qr base T w w':=by
 intro g c e hb ht h;refine QC hg h ?_;intro j hj e1;subst e1;rcases h'.2 with ⟨rfl,_⟩|⟨g',cap',cur',rfl,_,hc',_⟩
 ·simp[Value.ownBlock]at hj
 ·simp only[Value.ownBlock,Option.some.injEq]at hj;subst hj;rw[h]at hc';cases hc';exact he ht
theorem Qr.drewN{base:Nat}{T:TypeId→Prop}(w:World)(n:Nat):Qr base T w (w.drewN n):=fun _ _ _ _ _ h=>h
theorem Qd{w w':World} {base e size v n xs}{T:TypeId→Prop}(h:w.ownsRow base e size v n xs)(k:Qr base T w w')(ht:T e):w'.ownsRow base e size v n xs:=by
 obtain⟨h1,h2⟩:=h;refine⟨h1,h2.imp id ?_⟩;rintro⟨g,cap,cur,a,b,c,d⟩;exact⟨g,cap,cur,a,b,k g cur e b ht c,d⟩
theorem Qa{w:World} {base e size v n xs}(h:w.ownsRow base e size v n xs):∃p c,v=.slice p n c:=by
 rcases h.2 with ⟨rfl,rfl⟩|⟨g,cap,cur,rfl,_⟩
 ·exact⟨_,_,rfl⟩
 ·exact⟨_,_,rfl⟩
theorem J7{t e:TypeId}{z:Value}{size bytes:Nat}(ht:prog.underlying t=some (.slice e))(hi:(prog.info? e).map (fun i=>(i.zero,i.size,i.bytes))=some (some z,size,bytes))(hzs:z.cells.size=size)(hsz:0<size)(hby:bytes≤1000)
  {ops:Array Oper}{rest:List Oper}{o:Oper}{a:Act}{Q:Exit→Act→World→Prop}{w:World}(hgd:o.guard=none)(s x:Operand)
  (ho:o.op=.call { callee:=.builtin .append,args:=#[s,x],argTypes:=#[t,t] })
  {base:Nat}{v:Value}{n:Nat}{xs:List Value}(hs:a.eval s=v)(hown:w.ownsRow base e size v n xs)
  {B:Nat}{cs:Array Value}{tt:TypeId}{fr:Nat×Nat}(hB:w.heap[B]?=some (.cells cs tt fr))(hx:a.eval x=.slice (some ⟨B,0,none⟩) 1 1)(hl:cs.size=size)(h1:∀u∈cs.toList,u.oneCell'=true)
  (hn:n≤1000000)(hbase:base≤w.heap.size)
  (h:∀v' w',w'.ownsRow base e size v' (n+1) (xs++cs.toList)→w.grownBy w' v.ownBlock→wpList prog ops Q rest (a.put o.dst v') w'):wpList prog ops Q (o::rest) a w:=by
 obtain⟨I,Hi,Hz,Hs,Hb⟩:=info_parts hi;refine wpList_append_own w hgd s x t ho base e I z size bytes ht Hi Hz Hs Hb hzs hsz v n xs hs hown ⟨B,0,none⟩ 1 1 cs.toList hx (by simpa using hl) (World.news_of_block hB) h1 (by unfold maxLen;omega) ?_ hbase (fun v' w' h1 h2 _=>h v' w' h1 h2);have:(n+1)*bytes≤1000001*1000:=Nat.mul_le_mul (by omega) hby
 omega
structure Q0 where
 to:Nat×Nat
 gs:List (Nat×Nat)
 rs:List (Nat×Nat)
def Jg(w:World)(base:Nat):List Q0→List (Value×Value)→Prop
 | [],[]=>True
 | c::cs,v::vs=>(w.ownsRow base 49 2 v.1 c.gs.length (pcs c.gs)∧w.ownsRow base 48 2 v.2 c.rs.length (pcs c.rs))∧Jg w base cs vs
 | _,_=>False
def Wl(c:Q0)(v:Value×Value):List Value:=[.int .i64 c.to.1,.int .i64 c.to.2,v.1,v.2]
def Wk(cs:List Q0)(vs:List (Value×Value)):List Value:=(List.zipWith Wl cs vs).flatten
def XH(w:World)(base:Nat)(cs:List Q0)(v:Value):Prop:=∃vs,w.ownsRow base 64 4 v cs.length (Wk cs vs)∧Jg w base cs vs
theorem Jg.len{w base}:∀{cs vs},Jg w base cs vs→vs.length=cs.length
 | [],[],_=>rfl
 | _::_,_::_,h=>by simp[Jg.len h.2]
 | [],_::_,h=>h.elim
 | _::_,[],h=>h.elim
theorem Jg.keeps{w w' base}{T:TypeId→Prop}(k:Qr base T w w')(h1:T 49)(h2:T 48):∀{cs vs},Jg w base cs vs→Jg w' base cs vs
 | [],[],_=>trivial
 | _::_,_::_,h=>⟨⟨Qd h.1.1 k h1,Qd h.1.2 k h2⟩,Jg.keeps k h1 h2 h.2⟩
 | [],_::_,h=>h.elim
 | _::_,[],h=>h.elim
theorem Jg.snoc{w base c v}(h1:w.ownsRow base 49 2 v.1 c.gs.length (pcs c.gs))(h2:w.ownsRow base 48 2 v.2 c.rs.length (pcs c.rs)):∀{cs vs},Jg w base cs vs→Jg w base (cs++[c]) (vs++[v])
 | [],[],_=>⟨⟨h1,h2⟩,trivial⟩
 | _::_,_::_,h=>⟨h.1,Jg.snoc h1 h2 h.2⟩
 | [],_::_,h=>h.elim
 | _::_,[],h=>h.elim
theorem Qaq{cs vs} (c v)(h:vs.length=cs.length):Wk (cs++[c]) (vs++[v])=Wk cs vs++Wl c v:=by
 simp[Wk,List.zipWith_append h.symm]
theorem XH.keeps{w w' base cs v}{T:TypeId→Prop}(h:XH w base cs v)(k:Qr base T w w')(h1:T 49)(h2:T 48)(h3:T 64):XH w' base cs v:=by
 obtain⟨vs,a,b⟩:=h;exact⟨vs,Qd a k h3,b.keeps k h1 h2⟩
def T0(e:TypeId):Prop:=e=48∨e=49∨e=64
def T1(e:TypeId):Prop:=e=48∨e=49∨e=66
theorem XH.base{w base base' cs v}(h:XH w base cs v)(hb:base'≤base):XH w base' cs v:=by
 obtain⟨vs,a,b⟩:=h;refine⟨vs,Qj a hb,?_⟩;clear a
 induction cs generalizing vs with
 | nil=>cases vs with
  | nil=>trivial
  | cons _ _=>exact b.elim
 | cons c cs ih=>cases vs with
  | nil=>exact b.elim
  | cons v vs=>exact⟨⟨Qj b.1.1 hb,Qj b.1.2 hb⟩,ih _ b.2⟩
structure BI(b:Nat)(s:ByteArray)(w0:World)(base:Nat)(chs:List Q0)(sts:List Qz)(vc vs:Value)(i:Nat)(bad:Int)(w:World):Prop where
 C:XH w base chs vc
 S:w.ownsRow base 66 8 vs sts.length (sts.flatMap ZP)
 P:QJ w b s i bad
 F:Fr b w0 w
 Z:base≤w.heap.size
theorem BI.setk{b s w0 base chs sts vc vs i bad w}(h:BI b s w0 base chs sts vc vs i bad w)(k o:Nat)(x:Value)(h1:k<base)(h2:w0.heap.size≤k)(h3:b≠k):BI b s w0 base chs sts vc vs i bad (w.setCell ⟨k,o,none⟩ x):=
 ⟨h.C.keeps (Qr.setk T0 w k o x h1) (by simp[T0]) (by simp[T0]) (by simp[T0]),QE h.S k o x h1,h.P.setk k o x h3,h.F.setk k o x h2,by rw[Zs];exact h.Z⟩
theorem BI.alloc{b s w0 base chs sts vc vs i bad w}(h:BI b s w0 base chs sts vc vs i bad w)(o:Obj):BI b s w0 base chs sts vc vs i bad (w.alloc o):=
 ⟨h.C.keeps (Qr.alloc base T0 w o) (by simp[T0]) (by simp[T0]) (by simp[T0]),h.S.alloc o,h.P.alloc o,h.F.alloc o,by have:=h.Z;simp;omega⟩
theorem BI.call{b s w0 base chs sts vc vs i bad w i' bad' w'}(h:BI b s w0 base chs sts vc vs i bad w)(hb:b<base)(P:QJ w' b s i' bad')(f:Fr b w w'):BI b s w0 base chs sts vc vs i' bad' w':=
 ⟨h.C.keeps (Qr.fr (T:=T0) f hb) (by simp[T0]) (by simp[T0]) (by simp[T0]),Xn h.S f hb,P,h.F.trans f,Nat.le_trans h.Z f.size⟩
theorem BI.grownS{b s w0 base chs sts vc vs i bad w vs' w'}(h:BI b s w0 base chs sts vc vs i bad w)(hb:b<base)(hw:w0.heap.size≤base)(t:Qz)(o:w'.ownsRow base 66 8 vs' (sts.length+1) (sts.flatMap ZP++ZP t))(g:w.grownBy w' vs.ownBlock):BI b s w0 base chs (sts++[t]) vc vs' i bad w':=
 ⟨h.C.keeps (Qr.grown (T:=T0) h.S g (by simp[T0])) (by simp[T0]) (by simp[T0]) (by simp[T0]),by simpa using o,
  h.P.grown g (fun j hj=>by have:=(h.S.lt j hj).1;omega),h.F.grown g (fun j hj=>by have:=(h.S.lt j hj).1;omega),Qy h.Z g.size⟩
theorem BI.grownC{b s w0 base chs sts vc vs i bad w vc' w'}(h:BI b s w0 base chs sts vc vs i bad w)(hb:b<base)(hw:w0.heap.size≤base)(c:Q0)(v:Value×Value)
  (h1:w.ownsRow base 49 2 v.1 c.gs.length (pcs c.gs))(h2:w.ownsRow base 48 2 v.2 c.rs.length (pcs c.rs)) {us}(hu:w.ownsRow base 64 4 vc chs.length (Wk chs us))(ha:Jg w base chs us)
  (o:w'.ownsRow base 64 4 vc' (chs.length+1) (Wk chs us++Wl c v))(g:w.grownBy w' vc.ownBlock):BI b s w0 base (chs++[c]) sts vc' vs i bad w':=by
 have K:Qr base T1 w w':=Qr.grown (T:=T1) hu g (by simp[T1]);refine⟨⟨us++[v],?_,?_⟩,Qd h.S K (by simp[T1]),h.P.grown g (fun j hj=>by have:=(hu.lt j hj).1;omega),h.F.grown g (fun j hj=>by have:=(hu.lt j hj).1;omega),Nat.le_trans h.Z g.size⟩
 ·rw[Qaq c v ha.len];simpa using o
 ·exact Jg.snoc (Qd h1 K (by simp[T1])) (Qd h2 K (by simp[T1])) (ha.keeps K (by simp[T1]) (by simp[T1]))
end Go.Proofs.YtgfhfkgdmidhpaaGreatDoor
