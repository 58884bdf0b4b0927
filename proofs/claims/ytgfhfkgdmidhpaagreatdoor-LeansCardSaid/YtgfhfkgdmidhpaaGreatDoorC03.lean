import Derived.Test.YtgfhfkgdmidhpaaGreatDoorC02
namespace Go.Proofs.YtgfhfkgdmidhpaaGreatDoor
open Go.RowKit
set_option maxRecDepth 100000
set_option maxHeartbeats 8000000
structure Ql where
 chs:List QH
 sts:List Qy
 e:Z3
 at_:Nat
structure Blk where
 b:Ql
 i:Nat
 bad:Int
def RT:Z3:=⟨0,(0,0),(0,0),(0,0)⟩
def XD(vc vs:Value)(e:Z3)(at_:Nat):List Value:=vc::vs::(Vg e++[.int .i64 at_])
def QG(s:ByteArray)(i0:Nat):Nat→List QH→List Qy→Nat→Int→Blk
 | 0,chs,sts,i,bad=>⟨⟨chs,sts,RT,i0⟩,i,bad⟩
 | k+1,chs,sts,i,bad=>
  if bad<0 then
   if onF s i bad 46 then ⟨⟨chs,sts,⟨46,(0,0),(0,0),(0,0)⟩,i0⟩,i+1,bad⟩
   else if onF s i bad 62 then ⟨⟨chs,sts,⟨62,(0,0),(numN s (i+1) bad,i+1),(0,0)⟩,i0⟩,numI s (i+1) bad,Zd s (i+1) bad⟩
   else if onF s i bad 33 then
    let i2:=regI s (i+1) bad
    let b2:=regB s (i+1) bad
    QG s i0 k chs (sts++[⟨33,(0,0),(regN s (i+1) bad,i+1),(0,0),0⟩]) (gotI s i2 b2 59) (mustB s i2 b2 59)
   else
    let i1:=regI s i bad
    let b1:=regB s i bad
    let r:=(regN s i bad,i)
    if onF s i1 b1 61 then
     let g:=givF s r (i1+1) b1
     QG s i0 k chs (sts++[g.st]) (gotI s g.i g.bad 59) (mustB s g.i g.bad 59)
    else if onF s i1 b1 64&&sts.isEmpty then
     let c:=choF s i1 b1
     QG s i0 k (chs++[⟨r,c.gs,c.rs⟩]) sts (gotI s c.i c.bad 59) (mustB s c.i c.bad 59)
    else
     let e:=braF s r i1 b1
     ⟨⟨chs,sts,e.e,i0⟩,e.i,e.bad⟩
  else ⟨⟨chs,sts,RT,i0⟩,i,bad⟩
def blkF(s:ByteArray)(i:Nat)(bad:Int):Blk:=QG s i (s.size+1) [] [] i bad
theorem Qdv{s i bad}:i≤opI s i bad:=by
 unfold opI
 repeat' split
 all_goals first
  | exact Nat.le_refl _
  | exact Nat.le_succ _
  | exact Nat.le_trans (Nat.le_succ _) ZK
theorem V8{s to i bad}:i≤(givF s to i bad).i:=by
 unfold givF;by_cases h1:onF s i bad 63=true
 ·rw[if_pos h1];exact Nat.le_succ _
 rw[if_neg h1];by_cases h2:onF s i bad 114=true
 ·rw[if_pos h2];by_cases h3:opC s (regI s i bad) (regB s i bad)=0
  ·dsimp only;rw[if_pos h3];exact Nat.le_trans ZY Qdv
  ·dsimp only;rw[if_neg h3];exact Nat.le_trans (Nat.le_trans ZY Qdv) ZY
 rw[if_neg h2];by_cases h4:onF s i bad 45=true
 ·rw[if_pos h4];exact Nat.le_trans (Nat.le_succ _) XF
 ·rw[if_neg h4];exact XF
theorem Vd{s to i bad}(h:i≤s.size):(givF s to i bad).i≤s.size:=by
 unfold givF;by_cases h1:onF s i bad 63=true
 ·rw[if_pos h1];exact(QV h1).2.1
 rw[if_neg h1];by_cases h2:onF s i bad 114=true
 ·rw[if_pos h2];by_cases h3:opC s (regI s i bad) (regB s i bad)=0
  ·dsimp only;rw[if_pos h3];exact N8 (Zs h)
  ·dsimp only;rw[if_neg h3];exact Zs (N8 (Zs h))
 rw[if_neg h2];by_cases h4:onF s i bad 45=true
 ·rw[if_pos h4];exact Je (QV h4).2.1
 ·rw[if_neg h4];exact Je h
theorem Qbt{s c}:c.i≤(choR s c).i:=Nat.le_trans XF (Nat.le_trans ZK ZY)
theorem Qbs{s c}(h:c.i≤s.size):(choR s c).i≤s.size:=Zs (QS (Je h))
theorem ND{s} (k c):c.i≤(Zv s k c).i:=by
 induction k generalizing c with
 | zero=>exact Nat.le_refl _
 | succ k ih=>
  rw[Zv]
  cases h:onF s (choR s c).i (choR s c).bad 44 with
  | true=>rw[if_pos rfl];exact Nat.le_trans (Nat.le_trans Qbt ZK) (ih { choR s c with i:=gotI s (choR s c).i (choR s c).bad 44 })
  | false=>rw[if_neg (by simp)];exact Nat.le_trans Qbt ZK
theorem QeB{s} (k c)(h:c.i≤s.size):(Zv s k c).i≤s.size:=by
 induction k generalizing c with
 | zero=>exact h
 | succ k ih=>
  rw[Zv]
  cases h2:onF s (choR s c).i (choR s c).bad 44 with
  | true=>rw[if_pos rfl];exact ih { choR s c with i:=gotI s (choR s c).i (choR s c).bad 44 } (QS (Qbs h))
  | false=>rw[if_neg (by simp)];exact QS (Qbs h)
theorem Qbv{s i bad}:gotI s i bad 64≤(choF s i bad).i:=ND (s.size+1) { gs:=[],rs:=[],i:=gotI s i bad 64,bad:=mustB s i bad 64 }
theorem Wa{s i bad}(h:i≤s.size):(choF s i bad).i≤s.size:=QeB _ _ (QS h)
theorem Tryz.info66:(Tryz.prog.info? 66).map (fun i=>(i.zero,i.size,i.bytes))=some (some (.agg #[.int .u8 0,.int .i64 0,.int .i64 0,.int .i64 0,.int .i64 0,.int .i64 0,.int .i64 0,.int .i64 0]),8,64):=by kernel_rfl
theorem Tryz.info64:(Tryz.prog.info? 64).map (fun i=>(i.zero,i.size,i.bytes))=some (some (.agg #[.int .i64 0,.int .i64 0,.slice none 0 0,.slice none 0 0]),4,64):=by kernel_rfl
theorem Xn.slice{w base cs v}(h:Xn w base cs v):∃p c,v=.slice p cs.length c:=by
 obtain⟨vs,a,_⟩:=h;exact Qb a
theorem Qcq(b:Nat)(s:ByteArray)(i0:Nat)(bad0:Int)(w:World)(hp:QD w b s i0 bad0)(hs:s.size≤200000)(hi0:i0≤s.size):
  Calls Tryz.prog 48 #[.pointer (some ⟨b,0,none⟩)] w fun e w'=>∃vc vs,e=.returned (.agg (XD vc vs (blkF s i0 bad0).b.e (blkF s i0 bad0).b.at_).toArray) ∧
   Xn w' w.heap.size (blkF s i0 bad0).b.chs vc∧w'.ownsRow w.heap.size 66 8 vs (blkF s i0 bad0).b.sts.length ((blkF s i0 bad0).b.sts.flatMap Zw) ∧
   QD w' b s (blkF s i0 bad0).i (blkF s i0 bad0).bad∧Fr b w w':=by
 have hl:=hp.lt;have h1:=hp.c1;go_enter Tryz.func48,Tryz.ntmps48;go_wp2_with fail
 go_loopw [4] (fun _ wr=>∃(k:Nat)(chs:List QH)(sts:List Qy)(vc vs:Value)(i:Nat)(bad:Int),s.size<k+i∧i≤s.size∧chs.length≤i∧sts.length≤i∧Hid (blkF s i0 bad0=QG s i0 k chs sts i bad) ∧
   wr.heap[w.heap.size]?=some (.cells #[.slice none 0 0,.slice none 0 0,.int .u8 0,.int .i64 0,.int .i64 0,.int .i64 0,.int .i64 0,.int .i64 0,.int .i64 0,.int .i64 0] 53 (0,0))∧wr.heap[w.heap.size+1]?=some (.cells #[vc,vs,.int .u8 0,.int .i64 0,.int .i64 0,.int .i64 0,.int .i64 0,.int .i64 0,.int .i64 0,.int .i64 i0] 53 (0,0)) ∧
   BI b s w (w.heap.size+2) chs sts vc vs i bad wr)
  (fun _ wr=>s.size-penI wr b)
 case atStart=>
  refine⟨s.size+1,[],[],_,_,i0,bad0,by omega,hi0,by simp,by simp,rfl,?_,?_,⟨⟨[],World.ownsRow_nil _ _ _ _,trivial⟩,World.ownsRow_nil _ _ _ _,(hp.alloc _).alloc _,((Fr.refl _ _).alloc _).alloc _,by simp⟩⟩
  ·exact Qj (heap_alloc_last w _) _
  ·simpa using heap_alloc_last (w.alloc _) _
 case round=>
  clear hp h1;obtain⟨k,chs,sts,vc,vs,i,bad,hk,hi,hcl,hsl,HR,G1,G2,I⟩:=hrel;have HPI:Hid (penI wr b=i):=I.P.penI;have hbb:b<w.heap.size+2:=by omega
  obtain⟨pc1,cc1,rfl⟩:=I.C.slice;obtain⟨ps1,cs1,rfl⟩:=Qb I.S;obtain⟨k,rfl⟩:∃j,k=j+1:=⟨k-1,by omega⟩;have h2:=I.P.c2;by_cases hb:bad<0
  ·cases h46:onF s i bad 46 with
   | true=>
    have HV:Hid (blkF s i0 bad0=⟨⟨chs,sts,⟨46,(0,0),(0,0),(0,0)⟩,i0⟩,i+1,bad⟩):=HR.o.trans (by rw[QG,if_pos hb,if_pos h46]);have H46:=Qc h46;clear h46 HR;go_wp2_with fail;refine(XG I.P hs hi H46.o).mono ?_;rintro e w1 ⟨rfl,P,f1⟩;replace G1:=Qk f1 G1 (by omega);replace G2:=Qk f1 G2 (by omega);replace I:=I.call hbb P f1;have q1:=Qa G1;have z1:=Qf G1;have q2:=Qa G2;have z2:=Qf G2;go_wp2_with fail;replace G1:=Qo (j:=w.heap.size+1) G1 (by omega) 2 (.int .u8 46);replace G2:(World.setCell _ ⟨w.heap.size+1,2,none⟩ (.int .u8 46)).heap[w.heap.size+1]?=some (.cells #[(.slice pc1 chs.length cc1),(.slice ps1 sts.length cs1),.int .u8 46,.int .i64 0,.int .i64 0,.int .i64 0,.int .i64 0,.int .i64 0,.int .i64 0,.int .i64 i0] 53 (0,0)):=Qp G2 2 (.int .u8 46);replace I:=I.setk (w.heap.size+1) 2 (.int .u8 46) (by omega) (by omega) (by omega);have I2:=((((((((((I).setk w.heap.size 0 ((.slice pc1 chs.length cc1)) (by omega) (by omega) (by omega)).setk w.heap.size 1 ((.slice ps1 sts.length cs1)) (by omega) (by omega) (by omega)).setk w.heap.size 2 (.int .u8 46) (by omega) (by omega) (by omega)).setk w.heap.size 3 (.int .i64 0) (by omega) (by omega) (by omega)).setk w.heap.size 4 (.int .i64 0) (by omega) (by omega) (by omega)).setk w.heap.size 5 (.int .i64 0) (by omega) (by omega) (by omega)).setk w.heap.size 6 (.int .i64 0) (by omega) (by omega) (by omega)).setk w.heap.size 7 (.int .i64 0) (by omega) (by omega) (by omega)).setk w.heap.size 8 (.int .i64 0) (by omega) (by omega) (by omega)).setk w.heap.size 9 (.int .i64 i0) (by omega) (by omega) (by omega);refine bodyPost_ret (v:=.agg #[(.slice pc1 chs.length cc1),(.slice ps1 sts.length cs1),.int .u8 46,.int .i64 0,.int .i64 0,.int .i64 0,.int .i64 0,.int .i64 0,.int .i64 0,.int .i64 i0]) (by simp[results,Tryz.results48,go_sem,q1]) rfl ?_;rw[HV.o];exact⟨_,_,rfl,I2.C.base (by omega),Qm I2.S (by omega),I2.P,I2.F⟩
   | false=>
    cases h62:onF s i bad 62 with
    | true=>
     have hlt:=(QV h62).2.1;have HV:Hid (blkF s i0 bad0=⟨⟨chs,sts,⟨62,(0,0),(numN s (i+1) bad,i+1),(0,0)⟩,i0⟩,numI s (i+1) bad,Zd s (i+1) bad⟩):=HR.o.trans (by rw[QG,if_pos hb,if_neg (by simp[h46]),if_pos h62]);have H46:=Qc h46;have H62:=Qc h62;clear h46 HR h62;go_wp2_with fail;refine(Xv I.P hs hi H46.o).mono ?_;rintro e w1 ⟨rfl,P,f1⟩;replace G1:=Qk f1 G1 (by omega);replace G2:=Qk f1 G2 (by omega);replace I:=I.call hbb P f1;go_wp2_with fail;refine(XG I.P hs hi H62.o).mono ?_;rintro e w2 ⟨rfl,P2,f2⟩;replace G1:=Qk f2 G1 (by omega);replace G2:=Qk f2 G2 (by omega);replace I:=I.call hbb P2 f2;have q1:=Qa G1;have z1:=Qf G1;have q2:=Qa G2;have z2:=Qf G2;go_wp2_with fail;replace G1:=Qo (j:=w.heap.size+1) G1 (by omega) 2 (.int .u8 62);replace G2:(World.setCell _ ⟨w.heap.size+1,2,none⟩ (.int .u8 62)).heap[w.heap.size+1]?=some (.cells #[(.slice pc1 chs.length cc1),(.slice ps1 sts.length cs1),.int .u8 62,.int .i64 0,.int .i64 0,.int .i64 0,.int .i64 0,.int .i64 0,.int .i64 0,.int .i64 i0] 53 (0,0)):=Qp G2 2 (.int .u8 62);replace I:=I.setk (w.heap.size+1) 2 (.int .u8 62) (by omega) (by omega) (by omega);clear q1 z1 q2 z2;refine(Vc b s _ _ _ I.P hs (by omega)).mono ?_;rintro e w3 ⟨rfl,P3,f3⟩;replace G1:=Qk f3 G1 (by omega);replace G2:=Qk f3 G2 (by omega);replace I:=I.call hbb P3 f3;have q1:=Qa G1;have z1:=Qf G1;have q2:=Qa G2;have z2:=Qf G2;go_wp2_with fail;replace G1:=Qo (j:=w.heap.size+1) G1 (by omega) 5 (.int .i64 (numN s (i+1) bad));replace G2:(World.setCell _ ⟨w.heap.size+1,5,none⟩ (.int .i64 (numN s (i+1) bad))).heap[w.heap.size+1]?=some (.cells #[(.slice pc1 chs.length cc1),(.slice ps1 sts.length cs1),.int .u8 62,.int .i64 0,.int .i64 0,.int .i64 (numN s (i+1) bad),.int .i64 0,.int .i64 0,.int .i64 0,.int .i64 i0] 53 (0,0)):=Qp G2 5 (.int .i64 (numN s (i+1) bad));replace I:=I.setk (w.heap.size+1) 5 (.int .i64 (numN s (i+1) bad)) (by omega) (by omega) (by omega);replace G1:=Qo (j:=w.heap.size+1) G1 (by omega) 6 (.int .i64 ((i:Int)+1));replace G2:(World.setCell _ ⟨w.heap.size+1,6,none⟩ (.int .i64 ((i:Int)+1))).heap[w.heap.size+1]?=some (.cells #[(.slice pc1 chs.length cc1),(.slice ps1 sts.length cs1),.int .u8 62,.int .i64 0,.int .i64 0,.int .i64 (numN s (i+1) bad),.int .i64 ((i:Int)+1),.int .i64 0,.int .i64 0,.int .i64 i0] 53 (0,0)):=Qp G2 6 (.int .i64 ((i:Int)+1));replace I:=I.setk (w.heap.size+1) 6 (.int .i64 ((i:Int)+1)) (by omega) (by omega) (by omega);have I2:=((((((((((I).setk w.heap.size 0 ((.slice pc1 chs.length cc1)) (by omega) (by omega) (by omega)).setk w.heap.size 1 ((.slice ps1 sts.length cs1)) (by omega) (by omega) (by omega)).setk w.heap.size 2 (.int .u8 62) (by omega) (by omega) (by omega)).setk w.heap.size 3 (.int .i64 0) (by omega) (by omega) (by omega)).setk w.heap.size 4 (.int .i64 0) (by omega) (by omega) (by omega)).setk w.heap.size 5 (.int .i64 (numN s (i+1) bad)) (by omega) (by omega) (by omega)).setk w.heap.size 6 (.int .i64 ((i:Int)+1)) (by omega) (by omega) (by omega)).setk w.heap.size 7 (.int .i64 0) (by omega) (by omega) (by omega)).setk w.heap.size 8 (.int .i64 0) (by omega) (by omega) (by omega)).setk w.heap.size 9 (.int .i64 i0) (by omega) (by omega) (by omega);refine bodyPost_ret (v:=.agg #[(.slice pc1 chs.length cc1),(.slice ps1 sts.length cs1),.int .u8 62,.int .i64 0,.int .i64 0,.int .i64 (numN s (i+1) bad),.int .i64 ((i:Int)+1),.int .i64 0,.int .i64 0,.int .i64 i0]) (by simp[results,Tryz.results48,go_sem,q1]) rfl ?_;rw[HV.o];exact⟨_,_,rfl,I2.C.base (by omega),Qm I2.S (by omega),I2.P,I2.F⟩
    | false=>
     cases h33:onF s i bad 33 with
     | true=>
      have hlt:=(QV h33).2.1;have HR2:Hid (blkF s i0 bad0=QG s i0 k chs (sts++[⟨33,(0,0),(regN s (i+1) bad,i+1),(0,0),0⟩]) (gotI s (regI s (i+1) bad) (regB s (i+1) bad) 59) (mustB s (regI s (i+1) bad) (regB s (i+1) bad) 59)):=HR.o.trans (by rw[QG,if_pos hb,if_neg (by simp[h46]),if_neg (by simp[h62]),if_pos h33]);have H46:=Qc h46;have H62:=Qc h62;have H33:=Qc h33;clear h46 HR h62 h33;go_wp2_with fail;refine(Xv I.P hs hi H46.o).mono ?_;rintro e w1 ⟨rfl,P,f1⟩;replace G1:=Qk f1 G1 (by omega);replace G2:=Qk f1 G2 (by omega);replace I:=I.call hbb P f1;go_wp2_with fail;refine(Xv I.P hs hi H62.o).mono ?_;rintro e w2 ⟨rfl,P2,f2⟩;replace G1:=Qk f2 G1 (by omega);replace G2:=Qk f2 G2 (by omega);replace I:=I.call hbb P2 f2;go_wp2_with fail;refine(XG I.P hs hi H33.o).mono ?_;rintro e w3 ⟨rfl,P3,f3⟩;replace G1:=Qk f3 G1 (by omega);replace G2:=Qk f3 G2 (by omega);replace I:=I.call hbb P3 f3;go_wp2_with fail;refine(Y5 b s _ _ _ I.P hs (by omega)).mono ?_;rintro e w4 ⟨rfl,P4,f4⟩;replace G1:=Qk f4 G1 (by omega);replace G2:=Qk f4 G2 (by omega);replace I:=I.call hbb P4 f4;have q1:=Qa G1;have z1:=Qf G1;have q2:=Qa G2;have z2:=Qf G2;have hr1:=Zs (bad:=bad) (show i+1≤s.size by omega);have hr2:=ZY (s:=s) (i:=i+1) (bad:=bad);generalize regI s (i+1) bad=i2 at *;generalize regB s (i+1) bad=b2 at *;generalize regN s (i+1) bad=n2 at *;have hZ:=I.Z;have n1:w.heap.size+1<w4.heap.size:=by omega
      go_wp2_with (at_builtin;refine Qv ?_);refine Qc ?_;have IA:=((I).alloc (.cells #[.int .i64 n2,.int .i64 ((i:Int)+1)] 48)).alloc (.cells #[.int .u8 33,.int .i64 0,.int .i64 0,.int .i64 n2,.int .i64 ((i:Int)+1),.int .i64 0,.int .i64 0,.int .i64 0] 66);have gB:((w4.alloc (.cells #[.int .i64 n2,.int .i64 ((i:Int)+1)] 48)).alloc (.cells #[.int .u8 33,.int .i64 0,.int .i64 0,.int .i64 n2,.int .i64 ((i:Int)+1),.int .i64 0,.int .i64 0,.int .i64 0] 66)).heap[w4.heap.size+1]?=some (.cells #[.int .u8 33,.int .i64 0,.int .i64 0,.int .i64 n2,.int .i64 ((i:Int)+1),.int .i64 0,.int .i64 0,.int .i64 0] 66 (0,0)):=by simpa using heap_alloc_last (w4.alloc (.cells #[.int .i64 n2,.int .i64 ((i:Int)+1)] 48)) (.cells #[.int .u8 33,.int .i64 0,.int .i64 0,.int .i64 n2,.int .i64 ((i:Int)+1),.int .i64 0,.int .i64 0,.int .i64 0] 66)
      have GA1:=Qj (Qj G1 (.cells #[.int .i64 n2,.int .i64 ((i:Int)+1)] 48)) (.cells #[.int .u8 33,.int .i64 0,.int .i64 0,.int .i64 n2,.int .i64 ((i:Int)+1),.int .i64 0,.int .i64 0,.int .i64 0] 66);have GA2:=Qj (Qj G2 (.cells #[.int .i64 n2,.int .i64 ((i:Int)+1)] 48)) (.cells #[.int .u8 33,.int .i64 0,.int .i64 0,.int .i64 n2,.int .i64 ((i:Int)+1),.int .i64 0,.int .i64 0,.int .i64 0] 66);refine Kd Tryz.underlying46 Tryz.info66 rfl (by decide) (by decide) rfl _ _ rfl rfl IA.S gB rfl rfl (List.all_eq_true.1 rfl) (by omega) IA.Z ?_;intro v1 wS oS gS;replace G1:=Qz gS GA1 (fun j hj=>by have:=(IA.S.lt j hj).1;omega);replace G2:=Qz gS GA2 (fun j hj=>by have:=(IA.S.lt j hj).1;omega);replace I:=IA.grownS hbb (by omega) ⟨33,(0,0),(n2,i+1),(0,0),0⟩ oS gS;clear IA gB GA1 GA2 gS q1 z1 q2 z2;obtain⟨p5,c5,rfl⟩:=Qb oS;clear oS;have q1:=Qa G1;have z1:=Qf G1;have q2:=Qa G2;have z2:=Qf G2;go_wp2_with fail;replace G1:=Qo (j:=w.heap.size+1) G1 (by omega) 1 (.slice p5 (sts.length+1) c5);replace G2:(World.setCell _ ⟨w.heap.size+1,1,none⟩ (.slice p5 (sts.length+1) c5)).heap[w.heap.size+1]?=some (.cells #[(.slice pc1 chs.length cc1),.slice p5 (sts.length+1) c5,.int .u8 0,.int .i64 0,.int .i64 0,.int .i64 0,.int .i64 0,.int .i64 0,.int .i64 0,.int .i64 i0] 53 (0,0)):=Qp G2 1 (.slice p5 (sts.length+1) c5);replace I:=I.setk (w.heap.size+1) 1 (.slice p5 (sts.length+1) c5) (by omega) (by omega) (by omega);clear q1 z1 q2 z2;refine(Xz b s _ 59 _ _ I.P hs hr1).mono ?_;rintro e w6 ⟨rfl,P6,f6⟩;replace G1:=Qk f6 G1 (by omega);replace G2:=Qk f6 G2 (by omega);replace I:=I.call hbb P6 f6;have hr3:=ZK (s:=s) (i:=i2) (bad:=b2) (c:=59);have hr4:=QS (bad:=b2) (c:=59) hr1;go_wp2_with fail;go_roundw
      case rel=>exact⟨k,chs,_,_,_,_,_,by omega,hr4,by omega,by simp;omega,HR2,G1,G2,I⟩
      case measure=>rw[I.P.penI,HPI.o];omega
     | false=>
      have HR1:Hid (blkF s i0 bad0=if onF s (regI s i bad) (regB s i bad) 61 then QG s i0 k chs (sts++[(givF s (regN s i bad,i) (regI s i bad+1) (regB s i bad)).st]) (gotI s (givF s (regN s i bad,i) (regI s i bad+1) (regB s i bad)).i (givF s (regN s i bad,i) (regI s i bad+1) (regB s i bad)).bad 59) (mustB s (givF s (regN s i bad,i) (regI s i bad+1) (regB s i bad)).i (givF s (regN s i bad,i) (regI s i bad+1) (regB s i bad)).bad 59)
        else if onF s (regI s i bad) (regB s i bad) 64&&sts.isEmpty then QG s i0 k (chs++[⟨(regN s i bad,i),(choF s (regI s i bad) (regB s i bad)).gs,(choF s (regI s i bad) (regB s i bad)).rs⟩]) sts (gotI s (choF s (regI s i bad) (regB s i bad)).i (choF s (regI s i bad) (regB s i bad)).bad 59) (mustB s (choF s (regI s i bad) (regB s i bad)).i (choF s (regI s i bad) (regB s i bad)).bad 59)
        else ⟨⟨chs,sts,(braF s (regN s i bad,i) (regI s i bad) (regB s i bad)).e,i0⟩,(braF s (regN s i bad,i) (regI s i bad) (regB s i bad)).i,(braF s (regN s i bad,i) (regI s i bad) (regB s i bad)).bad⟩):=HR.o.trans (by rw[QG,if_pos hb,if_neg (by simp[h46]),if_neg (by simp[h62]),if_neg (by simp[h33])])
      have H46:=Qc h46;have H62:=Qc h62;have H33:=Qc h33;clear h46 HR h62 h33;go_wp2_with fail;refine(Xv I.P hs hi H46.o).mono ?_;rintro e w1 ⟨rfl,P,f1⟩;replace G1:=Qk f1 G1 (by omega);replace G2:=Qk f1 G2 (by omega);replace I:=I.call hbb P f1;go_wp2_with fail;refine(Xv I.P hs hi H62.o).mono ?_;rintro e w2 ⟨rfl,P2,f2⟩;replace G1:=Qk f2 G1 (by omega);replace G2:=Qk f2 G2 (by omega);replace I:=I.call hbb P2 f2;go_wp2_with fail;refine(Xv I.P hs hi H33.o).mono ?_;rintro e w3 ⟨rfl,P3,f3⟩;replace G1:=Qk f3 G1 (by omega);replace G2:=Qk f3 G2 (by omega);replace I:=I.call hbb P3 f3;go_wp2_with fail;refine(Y5 b s _ _ _ I.P hs (by omega)).mono ?_;rintro e w4 ⟨rfl,P4,f4⟩;replace G1:=Qk f4 G1 (by omega);replace G2:=Qk f4 G2 (by omega);replace I:=I.call hbb P4 f4;have hr1:=Zs (bad:=bad) hi;have hr2:=ZY (s:=s) (i:=i) (bad:=bad);generalize regI s i bad=i1 at *;generalize regB s i bad=b1 at *;generalize regN s i bad=n1 at *;have hZ:=I.Z;have gr:=heap_alloc_last w4 (.cells #[.int .i64 n1,.int .i64 i] 48);replace G1:=Qj G1 (.cells #[.int .i64 n1,.int .i64 i] 48);replace G2:=Qj G2 (.cells #[.int .i64 n1,.int .i64 i] 48);replace I:=I.alloc (.cells #[.int .i64 n1,.int .i64 i] 48);have hkr:b≠w4.heap.size:=by omega
      go_wp2_with fail
      cases h64:onF s i1 b1 64 with
      | true=>
       refine(WO I.P h64).mono ?_;rintro e w5 ⟨rfl,P5,f5⟩;replace gr:=Qk f5 gr (fun e=>hkr e.symm);replace G1:=Qk f5 G1 (by omega);replace G2:=Qk f5 G2 (by omega);replace I:=I.call hbb P5 f5
       cases h61:onF s i1 b1 61 with
       | true=>
        have HR2:=Qc (HR1.o.trans (if_pos h61));have hl61:=(QV h61).2.1;have H61:=Qc h61;clear HR1 h61 h64;go_wp2_with fail;refine(XG I.P hs hr1 H61.o).mono ?_;rintro e w6 ⟨rfl,P6,f6⟩;replace gr:=Qk f6 gr (fun e=>hkr e.symm);replace G1:=Qk f6 G1 (by omega);replace G2:=Qk f6 G2 (by omega);replace I:=I.call hbb P6 f6;have qr:=Qa gr;go_wp2_with fail;refine(U1 b s _ n1 i _ _ I.P hs (by omega)).mono ?_;rintro e w7 ⟨rfl,P7,f7⟩;replace G1:=Qk f7 G1 (by omega);replace G2:=Qk f7 G2 (by omega);replace I:=I.call hbb P7 f7;have hg1:=V8 (s:=s) (to:=(n1,i)) (i:=i1+1) (bad:=b1);have hg2:=Vd (to:=(n1,i)) (bad:=b1) (show i1+1≤s.size by omega);generalize (givF s (n1,i) (i1+1) b1).st=st at *;generalize (givF s (n1,i) (i1+1) b1).i=i2 at *;generalize (givF s (n1,i) (i1+1) b1).bad=b2 at *;rw[show (Zw st).toArray=#[.int .u8 st.op,.int .i64 st.to.1,.int .i64 st.to.2,.int .i64 st.a.1,.int .i64 st.a.2,.int .i64 st.b.1,.int .i64 st.b.2,.int .i64 st.n] from rfl];have q1:=Qa G1;have z1:=Qf G1;have q2:=Qa G2;have z2:=Qf G2;clear gr qr;have hZ7:=I.Z;have n3:w.heap.size+1<w7.heap.size:=by omega
        go_wp2_with (at_builtin;refine Qv ?_);refine Qc ?_;have IA:=((I).alloc (.cells #[.int .u8 st.op,.int .i64 st.to.1,.int .i64 st.to.2,.int .i64 st.a.1,.int .i64 st.a.2,.int .i64 st.b.1,.int .i64 st.b.2,.int .i64 st.n] 66)).alloc (.cells #[.int .u8 st.op,.int .i64 st.to.1,.int .i64 st.to.2,.int .i64 st.a.1,.int .i64 st.a.2,.int .i64 st.b.1,.int .i64 st.b.2,.int .i64 st.n] 66);have gB:((w7.alloc (.cells #[.int .u8 st.op,.int .i64 st.to.1,.int .i64 st.to.2,.int .i64 st.a.1,.int .i64 st.a.2,.int .i64 st.b.1,.int .i64 st.b.2,.int .i64 st.n] 66)).alloc (.cells #[.int .u8 st.op,.int .i64 st.to.1,.int .i64 st.to.2,.int .i64 st.a.1,.int .i64 st.a.2,.int .i64 st.b.1,.int .i64 st.b.2,.int .i64 st.n] 66)).heap[w7.heap.size+1]?=some (.cells #[.int .u8 st.op,.int .i64 st.to.1,.int .i64 st.to.2,.int .i64 st.a.1,.int .i64 st.a.2,.int .i64 st.b.1,.int .i64 st.b.2,.int .i64 st.n] 66 (0,0)):=by simpa using heap_alloc_last (w7.alloc (.cells #[.int .u8 st.op,.int .i64 st.to.1,.int .i64 st.to.2,.int .i64 st.a.1,.int .i64 st.a.2,.int .i64 st.b.1,.int .i64 st.b.2,.int .i64 st.n] 66)) (.cells #[.int .u8 st.op,.int .i64 st.to.1,.int .i64 st.to.2,.int .i64 st.a.1,.int .i64 st.a.2,.int .i64 st.b.1,.int .i64 st.b.2,.int .i64 st.n] 66)
        have GA1:=Qj (Qj G1 (.cells #[.int .u8 st.op,.int .i64 st.to.1,.int .i64 st.to.2,.int .i64 st.a.1,.int .i64 st.a.2,.int .i64 st.b.1,.int .i64 st.b.2,.int .i64 st.n] 66)) (.cells #[.int .u8 st.op,.int .i64 st.to.1,.int .i64 st.to.2,.int .i64 st.a.1,.int .i64 st.a.2,.int .i64 st.b.1,.int .i64 st.b.2,.int .i64 st.n] 66);have GA2:=Qj (Qj G2 (.cells #[.int .u8 st.op,.int .i64 st.to.1,.int .i64 st.to.2,.int .i64 st.a.1,.int .i64 st.a.2,.int .i64 st.b.1,.int .i64 st.b.2,.int .i64 st.n] 66)) (.cells #[.int .u8 st.op,.int .i64 st.to.1,.int .i64 st.to.2,.int .i64 st.a.1,.int .i64 st.a.2,.int .i64 st.b.1,.int .i64 st.b.2,.int .i64 st.n] 66);refine Kd Tryz.underlying46 Tryz.info66 rfl (by decide) (by decide) rfl _ _ rfl rfl IA.S gB rfl rfl (List.all_eq_true.1 rfl) (by omega) IA.Z ?_;intro v1 wS oS gS;replace G1:=Qz gS GA1 (fun j hj=>by have:=(IA.S.lt j hj).1;omega);replace G2:=Qz gS GA2 (fun j hj=>by have:=(IA.S.lt j hj).1;omega);replace I:=IA.grownS hbb (by omega) st oS gS;clear IA gB GA1 GA2 gS q1 z1 q2 z2;obtain⟨p5,c5,rfl⟩:=Qb oS;clear oS;have q1:=Qa G1;have z1:=Qf G1;have q2:=Qa G2;have z2:=Qf G2;go_wp2_with fail;replace G1:=Qo (j:=w.heap.size+1) G1 (by omega) 1 (.slice p5 (sts.length+1) c5);replace G2:(World.setCell _ ⟨w.heap.size+1,1,none⟩ (.slice p5 (sts.length+1) c5)).heap[w.heap.size+1]?=some (.cells #[(.slice pc1 chs.length cc1),.slice p5 (sts.length+1) c5,.int .u8 0,.int .i64 0,.int .i64 0,.int .i64 0,.int .i64 0,.int .i64 0,.int .i64 0,.int .i64 i0] 53 (0,0)):=Qp G2 1 (.slice p5 (sts.length+1) c5);replace I:=I.setk (w.heap.size+1) 1 (.slice p5 (sts.length+1) c5) (by omega) (by omega) (by omega);clear q1 z1 q2 z2;refine(Xz b s _ 59 _ _ I.P hs hg2).mono ?_;rintro e w8 ⟨rfl,P8,f8⟩;replace G1:=Qk f8 G1 (by omega);replace G2:=Qk f8 G2 (by omega);replace I:=I.call hbb P8 f8;have hr3:=ZK (s:=s) (i:=i2) (bad:=b2) (c:=59);have hr4:=QS (bad:=b2) (c:=59) hg2;go_wp2_with fail;go_roundw
        case rel=>exact⟨k,chs,_,_,_,_,_,by omega,hr4,by omega,by simp;omega,HR2,G1,G2,I⟩
        case measure=>rw[I.P.penI,HPI.o];omega
       | false=>
        cases sts with
        | nil=>
         have HR2:=Qc (HR1.o.trans ((if_neg (by simp[h61])).trans (if_pos (by simp[h64]))));have hl64:=(QV h64).2.1;have hg64:gotI s i1 b1 64=i1+1:=by rw[gotI,if_pos h64]
         have hg1:=Qbv (s:=s) (i:=i1) (bad:=b1);rw[hg64]at hg1;have hg2:=Wa (bad:=b1) hr1;clear HR1 h64 hg64;have H61:=Qc h61;clear h61;go_wp2_with fail;refine(Xv I.P hs hr1 H61.o).mono ?_;rintro e w6 ⟨rfl,P6,f6⟩;replace gr:=Qk f6 gr (fun e=>hkr e.symm);replace G1:=Qk f6 G1 (by omega);replace G2:=Qk f6 G2 (by omega);replace I:=I.call hbb P6 f6;have qr:=Qa gr;have q1:=Qa G1;have z1:=Qf G1;have q2:=Qa G2;have z2:=Qf G2;go_wp2_with fail;clear q1 z1 q2 z2;refine(Qas b s _ n1 i _ _ I.P hs hr1).mono ?_;rintro e w7 ⟨vf,vr,rfl,O1,O2,P7,f7⟩;replace O1:=Qm O1 I.Z;replace O2:=Qm O2 I.Z;replace G1:=Qk f7 G1 (by omega);replace G2:=Qk f7 G2 (by omega);replace I:=I.call hbb P7 f7;generalize (choF s i1 b1).gs=gs at *;generalize (choF s i1 b1).rs=rs at *;generalize (choF s i1 b1).i=i2 at *;generalize (choF s i1 b1).bad=b2 at *;obtain⟨pf,mf,cf,rfl⟩:=ZZ O1;obtain⟨pr,mr,cr,rfl⟩:=ZZ O2;clear gr qr;have q1:=Qa G1;have z1:=Qf G1;have q2:=Qa G2;have z2:=Qf G2;have hZ7:=I.Z;have n3:w.heap.size+1<w7.heap.size:=by omega
         go_wp2_with (at_builtin;refine Qv ?_);refine Qc ?_;have IA:=(I.alloc (.cells #[.int .i64 n1,.int .i64 i,.slice pf mf cf,.slice pr mr cr] 64)).alloc (.cells #[.int .i64 n1,.int .i64 i,.slice pf mf cf,.slice pr mr cr] 64);have gB:((w7.alloc (.cells #[.int .i64 n1,.int .i64 i,.slice pf mf cf,.slice pr mr cr] 64)).alloc (.cells #[.int .i64 n1,.int .i64 i,.slice pf mf cf,.slice pr mr cr] 64)).heap[w7.heap.size+1]?=some (.cells #[.int .i64 n1,.int .i64 i,.slice pf mf cf,.slice pr mr cr] 64 (0,0)):=by simpa using heap_alloc_last (w7.alloc (.cells #[.int .i64 n1,.int .i64 i,.slice pf mf cf,.slice pr mr cr] 64)) (.cells #[.int .i64 n1,.int .i64 i,.slice pf mf cf,.slice pr mr cr] 64)
         have GA1:=Qj (Qj G1 (.cells #[.int .i64 n1,.int .i64 i,.slice pf mf cf,.slice pr mr cr] 64)) (.cells #[.int .i64 n1,.int .i64 i,.slice pf mf cf,.slice pr mr cr] 64);have GA2:=Qj (Qj G2 (.cells #[.int .i64 n1,.int .i64 i,.slice pf mf cf,.slice pr mr cr] 64)) (.cells #[.int .i64 n1,.int .i64 i,.slice pf mf cf,.slice pr mr cr] 64);replace O1:=(O1.alloc (.cells #[.int .i64 n1,.int .i64 i,.slice pf mf cf,.slice pr mr cr] 64)).alloc (.cells #[.int .i64 n1,.int .i64 i,.slice pf mf cf,.slice pr mr cr] 64);replace O2:=(O2.alloc (.cells #[.int .i64 n1,.int .i64 i,.slice pf mf cf,.slice pr mr cr] 64)).alloc (.cells #[.int .i64 n1,.int .i64 i,.slice pf mf cf,.slice pr mr cr] 64);obtain⟨us,OC,hAll⟩:=IA.C;refine Kd Tryz.underlying45 Tryz.info64 rfl (by decide) (by decide) rfl _ _ rfl rfl OC gB rfl rfl (List.all_eq_true.1 rfl) (by omega) IA.Z ?_;intro v1 wS oS gS;replace G1:=Qz gS GA1 (fun j hj=>by have:=(OC.lt j hj).1;omega);replace G2:=Qz gS GA2 (fun j hj=>by have:=(OC.lt j hj).1;omega);replace I:=IA.grownC hbb (by omega) ⟨(n1,i),gs,rs⟩ (.slice pf mf cf,.slice pr mr cr) O1 O2 OC hAll oS gS;clear IA gB GA1 GA2 gS q1 z1 q2 z2 OC hAll O1 O2;obtain⟨p5,c5,rfl⟩:=Qb oS;clear oS;have q1:=Qa G1;have z1:=Qf G1;have q2:=Qa G2;have z2:=Qf G2;go_wp2_with fail;replace G1:=Qo (j:=w.heap.size+1) G1 (by omega) 0 (.slice p5 (chs.length+1) c5);replace G2:(World.setCell _ ⟨w.heap.size+1,0,none⟩ (.slice p5 (chs.length+1) c5)).heap[w.heap.size+1]?=some (.cells #[.slice p5 (chs.length+1) c5,(.slice ps1 0 cs1),.int .u8 0,.int .i64 0,.int .i64 0,.int .i64 0,.int .i64 0,.int .i64 0,.int .i64 0,.int .i64 i0] 53 (0,0)):=Qp G2 0 (.slice p5 (chs.length+1) c5);replace I:=I.setk (w.heap.size+1) 0 (.slice p5 (chs.length+1) c5) (by omega) (by omega) (by omega);clear q1 z1 q2 z2;refine(Xz b s _ 59 _ _ I.P hs hg2).mono ?_;rintro e w8 ⟨rfl,P8,f8⟩;replace G1:=Qk f8 G1 (by omega);replace G2:=Qk f8 G2 (by omega);replace I:=I.call hbb P8 f8;have hr3:=ZK (s:=s) (i:=i2) (bad:=b2) (c:=59);have hr4:=QS (bad:=b2) (c:=59) hg2;go_wp2_with fail;go_roundw
         case rel=>exact⟨k,_,[],_,_,_,_,by omega,hr4,by simp;omega,by simp,HR2,G1,G2,I⟩
         case measure=>rw[I.P.penI,HPI.o];omega
        | cons t0 ts=>
         have hne:(((t0::ts).length:Int)==0)=false:=by simp;omega
         generalize hst:t0::ts=sts at *;have hse:sts.isEmpty=false:=by rw[←hst];rfl
         clear hst;have HV:=Qc (HR1.o.trans ((if_neg (by simp[h61])).trans (if_neg (by simp[h64,hse]))));clear HR1 h64;have H61:=Qc h61;clear h61;go_wp2_with fail;refine(Xv I.P hs hr1 H61.o).mono ?_;rintro e w6 ⟨rfl,P6,f6⟩;replace gr:=Qk f6 gr (fun e=>hkr e.symm);replace G1:=Qk f6 G1 (by omega);replace G2:=Qk f6 G2 (by omega);replace I:=I.call hbb P6 f6;have qr:=Qa gr;have q1:=Qa G1;have z1:=Qf G1;have q2:=Qa G2;have z2:=Qf G2;go_wp2_with fail;clear q1 z1 q2 z2;refine(Ul b s _ n1 i _ _ I.P hs hr1).mono ?_;rintro e w7 ⟨rfl,P7,f7⟩;replace G1:=Qk f7 G1 (by omega);replace G2:=Qk f7 G2 (by omega);replace I:=I.call hbb P7 f7;generalize (braF s (n1,i) i1 b1).e=ee at *;generalize (braF s (n1,i) i1 b1).i=i2 at *;generalize (braF s (n1,i) i1 b1).bad=b2 at *;rw[show (Vg ee).toArray=#[.int .u8 ee.op,.int .i64 ee.a.1,.int .i64 ee.a.2,.int .i64 ee.one.1,.int .i64 ee.one.2,.int .i64 ee.two.1,.int .i64 ee.two.2] from rfl];clear gr qr;have q1:=Qa G1;have z1:=Qf G1;have q2:=Qa G2;have z2:=Qf G2;go_wp2_with fail;replace G1:=Qo (j:=w.heap.size+1) G1 (by omega) 2 (.int .u8 ee.op);replace G2:(World.setCell _ ⟨w.heap.size+1,2,none⟩ (.int .u8 ee.op)).heap[w.heap.size+1]?=some (.cells #[(.slice pc1 chs.length cc1),(.slice ps1 sts.length cs1),.int .u8 ee.op,.int .i64 0,.int .i64 0,.int .i64 0,.int .i64 0,.int .i64 0,.int .i64 0,.int .i64 i0] 53 (0,0)):=Qp G2 2 (.int .u8 ee.op);replace I:=I.setk (w.heap.size+1) 2 (.int .u8 ee.op) (by omega) (by omega) (by omega);replace G1:=Qo (j:=w.heap.size+1) G1 (by omega) 3 (.int .i64 ee.a.1);replace G2:(World.setCell _ ⟨w.heap.size+1,3,none⟩ (.int .i64 ee.a.1)).heap[w.heap.size+1]?=some (.cells #[(.slice pc1 chs.length cc1),(.slice ps1 sts.length cs1),.int .u8 ee.op,.int .i64 ee.a.1,.int .i64 0,.int .i64 0,.int .i64 0,.int .i64 0,.int .i64 0,.int .i64 i0] 53 (0,0)):=Qp G2 3 (.int .i64 ee.a.1);replace I:=I.setk (w.heap.size+1) 3 (.int .i64 ee.a.1) (by omega) (by omega) (by omega);replace G1:=Qo (j:=w.heap.size+1) G1 (by omega) 4 (.int .i64 ee.a.2);replace G2:(World.setCell _ ⟨w.heap.size+1,4,none⟩ (.int .i64 ee.a.2)).heap[w.heap.size+1]?=some (.cells #[(.slice pc1 chs.length cc1),(.slice ps1 sts.length cs1),.int .u8 ee.op,.int .i64 ee.a.1,.int .i64 ee.a.2,.int .i64 0,.int .i64 0,.int .i64 0,.int .i64 0,.int .i64 i0] 53 (0,0)):=Qp G2 4 (.int .i64 ee.a.2);replace I:=I.setk (w.heap.size+1) 4 (.int .i64 ee.a.2) (by omega) (by omega) (by omega);replace G1:=Qo (j:=w.heap.size+1) G1 (by omega) 5 (.int .i64 ee.one.1);replace G2:(World.setCell _ ⟨w.heap.size+1,5,none⟩ (.int .i64 ee.one.1)).heap[w.heap.size+1]?=some (.cells #[(.slice pc1 chs.length cc1),(.slice ps1 sts.length cs1),.int .u8 ee.op,.int .i64 ee.a.1,.int .i64 ee.a.2,.int .i64 ee.one.1,.int .i64 0,.int .i64 0,.int .i64 0,.int .i64 i0] 53 (0,0)):=Qp G2 5 (.int .i64 ee.one.1);replace I:=I.setk (w.heap.size+1) 5 (.int .i64 ee.one.1) (by omega) (by omega) (by omega);replace G1:=Qo (j:=w.heap.size+1) G1 (by omega) 6 (.int .i64 ee.one.2);replace G2:(World.setCell _ ⟨w.heap.size+1,6,none⟩ (.int .i64 ee.one.2)).heap[w.heap.size+1]?=some (.cells #[(.slice pc1 chs.length cc1),(.slice ps1 sts.length cs1),.int .u8 ee.op,.int .i64 ee.a.1,.int .i64 ee.a.2,.int .i64 ee.one.1,.int .i64 ee.one.2,.int .i64 0,.int .i64 0,.int .i64 i0] 53 (0,0)):=Qp G2 6 (.int .i64 ee.one.2);replace I:=I.setk (w.heap.size+1) 6 (.int .i64 ee.one.2) (by omega) (by omega) (by omega);replace G1:=Qo (j:=w.heap.size+1) G1 (by omega) 7 (.int .i64 ee.two.1);replace G2:(World.setCell _ ⟨w.heap.size+1,7,none⟩ (.int .i64 ee.two.1)).heap[w.heap.size+1]?=some (.cells #[(.slice pc1 chs.length cc1),(.slice ps1 sts.length cs1),.int .u8 ee.op,.int .i64 ee.a.1,.int .i64 ee.a.2,.int .i64 ee.one.1,.int .i64 ee.one.2,.int .i64 ee.two.1,.int .i64 0,.int .i64 i0] 53 (0,0)):=Qp G2 7 (.int .i64 ee.two.1);replace I:=I.setk (w.heap.size+1) 7 (.int .i64 ee.two.1) (by omega) (by omega) (by omega);replace G1:=Qo (j:=w.heap.size+1) G1 (by omega) 8 (.int .i64 ee.two.2);replace G2:(World.setCell _ ⟨w.heap.size+1,8,none⟩ (.int .i64 ee.two.2)).heap[w.heap.size+1]?=some (.cells #[(.slice pc1 chs.length cc1),(.slice ps1 sts.length cs1),.int .u8 ee.op,.int .i64 ee.a.1,.int .i64 ee.a.2,.int .i64 ee.one.1,.int .i64 ee.one.2,.int .i64 ee.two.1,.int .i64 ee.two.2,.int .i64 i0] 53 (0,0)):=Qp G2 8 (.int .i64 ee.two.2);replace I:=I.setk (w.heap.size+1) 8 (.int .i64 ee.two.2) (by omega) (by omega) (by omega);have I2:=((((((((((I).setk w.heap.size 0 ((.slice pc1 chs.length cc1)) (by omega) (by omega) (by omega)).setk w.heap.size 1 ((.slice ps1 sts.length cs1)) (by omega) (by omega) (by omega)).setk w.heap.size 2 (.int .u8 ee.op) (by omega) (by omega) (by omega)).setk w.heap.size 3 (.int .i64 ee.a.1) (by omega) (by omega) (by omega)).setk w.heap.size 4 (.int .i64 ee.a.2) (by omega) (by omega) (by omega)).setk w.heap.size 5 (.int .i64 ee.one.1) (by omega) (by omega) (by omega)).setk w.heap.size 6 (.int .i64 ee.one.2) (by omega) (by omega) (by omega)).setk w.heap.size 7 (.int .i64 ee.two.1) (by omega) (by omega) (by omega)).setk w.heap.size 8 (.int .i64 ee.two.2) (by omega) (by omega) (by omega)).setk w.heap.size 9 (.int .i64 i0) (by omega) (by omega) (by omega);refine bodyPost_ret (v:=.agg #[(.slice pc1 chs.length cc1),(.slice ps1 sts.length cs1),.int .u8 ee.op,.int .i64 ee.a.1,.int .i64 ee.a.2,.int .i64 ee.one.1,.int .i64 ee.one.2,.int .i64 ee.two.1,.int .i64 ee.two.2,.int .i64 i0]) (by simp[results,Tryz.results48,go_sem,q1]) rfl ?_;rw[HV.o];exact⟨_,_,rfl,I2.C.base (by omega),Qm I2.S (by omega),I2.P,I2.F⟩
      | false=>
       refine(WO I.P h64).mono ?_;rintro e w5 ⟨rfl,P5,f5⟩;replace gr:=Qk f5 gr (fun e=>hkr e.symm);replace G1:=Qk f5 G1 (by omega);replace G2:=Qk f5 G2 (by omega);replace I:=I.call hbb P5 f5
       cases h61:onF s i1 b1 61 with
       | true=>
        have HR2:=Qc (HR1.o.trans (if_pos h61));have hl61:=(QV h61).2.1;have H61:=Qc h61;clear HR1 h61 h64;go_wp2_with fail;refine(XG I.P hs hr1 H61.o).mono ?_;rintro e w6 ⟨rfl,P6,f6⟩;replace gr:=Qk f6 gr (fun e=>hkr e.symm);replace G1:=Qk f6 G1 (by omega);replace G2:=Qk f6 G2 (by omega);replace I:=I.call hbb P6 f6;have qr:=Qa gr;go_wp2_with fail;refine(U1 b s _ n1 i _ _ I.P hs (by omega)).mono ?_;rintro e w7 ⟨rfl,P7,f7⟩;replace G1:=Qk f7 G1 (by omega);replace G2:=Qk f7 G2 (by omega);replace I:=I.call hbb P7 f7;have hg1:=V8 (s:=s) (to:=(n1,i)) (i:=i1+1) (bad:=b1);have hg2:=Vd (to:=(n1,i)) (bad:=b1) (show i1+1≤s.size by omega);generalize (givF s (n1,i) (i1+1) b1).st=st at *;generalize (givF s (n1,i) (i1+1) b1).i=i2 at *;generalize (givF s (n1,i) (i1+1) b1).bad=b2 at *;rw[show (Zw st).toArray=#[.int .u8 st.op,.int .i64 st.to.1,.int .i64 st.to.2,.int .i64 st.a.1,.int .i64 st.a.2,.int .i64 st.b.1,.int .i64 st.b.2,.int .i64 st.n] from rfl];have q1:=Qa G1;have z1:=Qf G1;have q2:=Qa G2;have z2:=Qf G2;clear gr qr;have hZ7:=I.Z;have n3:w.heap.size+1<w7.heap.size:=by omega
        go_wp2_with (at_builtin;refine Qv ?_);refine Qc ?_;have IA:=((I).alloc (.cells #[.int .u8 st.op,.int .i64 st.to.1,.int .i64 st.to.2,.int .i64 st.a.1,.int .i64 st.a.2,.int .i64 st.b.1,.int .i64 st.b.2,.int .i64 st.n] 66)).alloc (.cells #[.int .u8 st.op,.int .i64 st.to.1,.int .i64 st.to.2,.int .i64 st.a.1,.int .i64 st.a.2,.int .i64 st.b.1,.int .i64 st.b.2,.int .i64 st.n] 66);have gB:((w7.alloc (.cells #[.int .u8 st.op,.int .i64 st.to.1,.int .i64 st.to.2,.int .i64 st.a.1,.int .i64 st.a.2,.int .i64 st.b.1,.int .i64 st.b.2,.int .i64 st.n] 66)).alloc (.cells #[.int .u8 st.op,.int .i64 st.to.1,.int .i64 st.to.2,.int .i64 st.a.1,.int .i64 st.a.2,.int .i64 st.b.1,.int .i64 st.b.2,.int .i64 st.n] 66)).heap[w7.heap.size+1]?=some (.cells #[.int .u8 st.op,.int .i64 st.to.1,.int .i64 st.to.2,.int .i64 st.a.1,.int .i64 st.a.2,.int .i64 st.b.1,.int .i64 st.b.2,.int .i64 st.n] 66 (0,0)):=by simpa using heap_alloc_last (w7.alloc (.cells #[.int .u8 st.op,.int .i64 st.to.1,.int .i64 st.to.2,.int .i64 st.a.1,.int .i64 st.a.2,.int .i64 st.b.1,.int .i64 st.b.2,.int .i64 st.n] 66)) (.cells #[.int .u8 st.op,.int .i64 st.to.1,.int .i64 st.to.2,.int .i64 st.a.1,.int .i64 st.a.2,.int .i64 st.b.1,.int .i64 st.b.2,.int .i64 st.n] 66)
        have GA1:=Qj (Qj G1 (.cells #[.int .u8 st.op,.int .i64 st.to.1,.int .i64 st.to.2,.int .i64 st.a.1,.int .i64 st.a.2,.int .i64 st.b.1,.int .i64 st.b.2,.int .i64 st.n] 66)) (.cells #[.int .u8 st.op,.int .i64 st.to.1,.int .i64 st.to.2,.int .i64 st.a.1,.int .i64 st.a.2,.int .i64 st.b.1,.int .i64 st.b.2,.int .i64 st.n] 66);have GA2:=Qj (Qj G2 (.cells #[.int .u8 st.op,.int .i64 st.to.1,.int .i64 st.to.2,.int .i64 st.a.1,.int .i64 st.a.2,.int .i64 st.b.1,.int .i64 st.b.2,.int .i64 st.n] 66)) (.cells #[.int .u8 st.op,.int .i64 st.to.1,.int .i64 st.to.2,.int .i64 st.a.1,.int .i64 st.a.2,.int .i64 st.b.1,.int .i64 st.b.2,.int .i64 st.n] 66);refine Kd Tryz.underlying46 Tryz.info66 rfl (by decide) (by decide) rfl _ _ rfl rfl IA.S gB rfl rfl (List.all_eq_true.1 rfl) (by omega) IA.Z ?_;intro v1 wS oS gS;replace G1:=Qz gS GA1 (fun j hj=>by have:=(IA.S.lt j hj).1;omega);replace G2:=Qz gS GA2 (fun j hj=>by have:=(IA.S.lt j hj).1;omega);replace I:=IA.grownS hbb (by omega) st oS gS;clear IA gB GA1 GA2 gS q1 z1 q2 z2;obtain⟨p5,c5,rfl⟩:=Qb oS;clear oS;have q1:=Qa G1;have z1:=Qf G1;have q2:=Qa G2;have z2:=Qf G2;go_wp2_with fail;replace G1:=Qo (j:=w.heap.size+1) G1 (by omega) 1 (.slice p5 (sts.length+1) c5);replace G2:(World.setCell _ ⟨w.heap.size+1,1,none⟩ (.slice p5 (sts.length+1) c5)).heap[w.heap.size+1]?=some (.cells #[(.slice pc1 chs.length cc1),.slice p5 (sts.length+1) c5,.int .u8 0,.int .i64 0,.int .i64 0,.int .i64 0,.int .i64 0,.int .i64 0,.int .i64 0,.int .i64 i0] 53 (0,0)):=Qp G2 1 (.slice p5 (sts.length+1) c5);replace I:=I.setk (w.heap.size+1) 1 (.slice p5 (sts.length+1) c5) (by omega) (by omega) (by omega);clear q1 z1 q2 z2;refine(Xz b s _ 59 _ _ I.P hs hg2).mono ?_;rintro e w8 ⟨rfl,P8,f8⟩;replace G1:=Qk f8 G1 (by omega);replace G2:=Qk f8 G2 (by omega);replace I:=I.call hbb P8 f8;have hr3:=ZK (s:=s) (i:=i2) (bad:=b2) (c:=59);have hr4:=QS (bad:=b2) (c:=59) hg2;go_wp2_with fail;go_roundw
        case rel=>exact⟨k,chs,_,_,_,_,_,by omega,hr4,by omega,by simp;omega,HR2,G1,G2,I⟩
        case measure=>rw[I.P.penI,HPI.o];omega
       | false=>
        have HV:=Qc (HR1.o.trans ((if_neg (by simp[h61])).trans (if_neg (by simp[h64]))));clear HR1 h64;have H61:=Qc h61;clear h61;go_wp2_with fail;refine(Xv I.P hs hr1 H61.o).mono ?_;rintro e w6 ⟨rfl,P6,f6⟩;replace gr:=Qk f6 gr (fun e=>hkr e.symm);replace G1:=Qk f6 G1 (by omega);replace G2:=Qk f6 G2 (by omega);replace I:=I.call hbb P6 f6;have qr:=Qa gr;have q1:=Qa G1;have z1:=Qf G1;have q2:=Qa G2;have z2:=Qf G2;go_wp2_with fail;clear q1 z1 q2 z2;refine(Ul b s _ n1 i _ _ I.P hs hr1).mono ?_;rintro e w7 ⟨rfl,P7,f7⟩;replace G1:=Qk f7 G1 (by omega);replace G2:=Qk f7 G2 (by omega);replace I:=I.call hbb P7 f7;generalize (braF s (n1,i) i1 b1).e=ee at *;generalize (braF s (n1,i) i1 b1).i=i2 at *;generalize (braF s (n1,i) i1 b1).bad=b2 at *;rw[show (Vg ee).toArray=#[.int .u8 ee.op,.int .i64 ee.a.1,.int .i64 ee.a.2,.int .i64 ee.one.1,.int .i64 ee.one.2,.int .i64 ee.two.1,.int .i64 ee.two.2] from rfl];clear gr qr;have q1:=Qa G1;have z1:=Qf G1;have q2:=Qa G2;have z2:=Qf G2;go_wp2_with fail;replace G1:=Qo (j:=w.heap.size+1) G1 (by omega) 2 (.int .u8 ee.op);replace G2:(World.setCell _ ⟨w.heap.size+1,2,none⟩ (.int .u8 ee.op)).heap[w.heap.size+1]?=some (.cells #[(.slice pc1 chs.length cc1),(.slice ps1 sts.length cs1),.int .u8 ee.op,.int .i64 0,.int .i64 0,.int .i64 0,.int .i64 0,.int .i64 0,.int .i64 0,.int .i64 i0] 53 (0,0)):=Qp G2 2 (.int .u8 ee.op);replace I:=I.setk (w.heap.size+1) 2 (.int .u8 ee.op) (by omega) (by omega) (by omega);replace G1:=Qo (j:=w.heap.size+1) G1 (by omega) 3 (.int .i64 ee.a.1);replace G2:(World.setCell _ ⟨w.heap.size+1,3,none⟩ (.int .i64 ee.a.1)).heap[w.heap.size+1]?=some (.cells #[(.slice pc1 chs.length cc1),(.slice ps1 sts.length cs1),.int .u8 ee.op,.int .i64 ee.a.1,.int .i64 0,.int .i64 0,.int .i64 0,.int .i64 0,.int .i64 0,.int .i64 i0] 53 (0,0)):=Qp G2 3 (.int .i64 ee.a.1);replace I:=I.setk (w.heap.size+1) 3 (.int .i64 ee.a.1) (by omega) (by omega) (by omega);replace G1:=Qo (j:=w.heap.size+1) G1 (by omega) 4 (.int .i64 ee.a.2);replace G2:(World.setCell _ ⟨w.heap.size+1,4,none⟩ (.int .i64 ee.a.2)).heap[w.heap.size+1]?=some (.cells #[(.slice pc1 chs.length cc1),(.slice ps1 sts.length cs1),.int .u8 ee.op,.int .i64 ee.a.1,.int .i64 ee.a.2,.int .i64 0,.int .i64 0,.int .i64 0,.int .i64 0,.int .i64 i0] 53 (0,0)):=Qp G2 4 (.int .i64 ee.a.2);replace I:=I.setk (w.heap.size+1) 4 (.int .i64 ee.a.2) (by omega) (by omega) (by omega);replace G1:=Qo (j:=w.heap.size+1) G1 (by omega) 5 (.int .i64 ee.one.1);replace G2:(World.setCell _ ⟨w.heap.size+1,5,none⟩ (.int .i64 ee.one.1)).heap[w.heap.size+1]?=some (.cells #[(.slice pc1 chs.length cc1),(.slice ps1 sts.length cs1),.int .u8 ee.op,.int .i64 ee.a.1,.int .i64 ee.a.2,.int .i64 ee.one.1,.int .i64 0,.int .i64 0,.int .i64 0,.int .i64 i0] 53 (0,0)):=Qp G2 5 (.int .i64 ee.one.1);replace I:=I.setk (w.heap.size+1) 5 (.int .i64 ee.one.1) (by omega) (by omega) (by omega);replace G1:=Qo (j:=w.heap.size+1) G1 (by omega) 6 (.int .i64 ee.one.2);replace G2:(World.setCell _ ⟨w.heap.size+1,6,none⟩ (.int .i64 ee.one.2)).heap[w.heap.size+1]?=some (.cells #[(.slice pc1 chs.length cc1),(.slice ps1 sts.length cs1),.int .u8 ee.op,.int .i64 ee.a.1,.int .i64 ee.a.2,.int .i64 ee.one.1,.int .i64 ee.one.2,.int .i64 0,.int .i64 0,.int .i64 i0] 53 (0,0)):=Qp G2 6 (.int .i64 ee.one.2);replace I:=I.setk (w.heap.size+1) 6 (.int .i64 ee.one.2) (by omega) (by omega) (by omega);replace G1:=Qo (j:=w.heap.size+1) G1 (by omega) 7 (.int .i64 ee.two.1);replace G2:(World.setCell _ ⟨w.heap.size+1,7,none⟩ (.int .i64 ee.two.1)).heap[w.heap.size+1]?=some (.cells #[(.slice pc1 chs.length cc1),(.slice ps1 sts.length cs1),.int .u8 ee.op,.int .i64 ee.a.1,.int .i64 ee.a.2,.int .i64 ee.one.1,.int .i64 ee.one.2,.int .i64 ee.two.1,.int .i64 0,.int .i64 i0] 53 (0,0)):=Qp G2 7 (.int .i64 ee.two.1);replace I:=I.setk (w.heap.size+1) 7 (.int .i64 ee.two.1) (by omega) (by omega) (by omega);replace G1:=Qo (j:=w.heap.size+1) G1 (by omega) 8 (.int .i64 ee.two.2);replace G2:(World.setCell _ ⟨w.heap.size+1,8,none⟩ (.int .i64 ee.two.2)).heap[w.heap.size+1]?=some (.cells #[(.slice pc1 chs.length cc1),(.slice ps1 sts.length cs1),.int .u8 ee.op,.int .i64 ee.a.1,.int .i64 ee.a.2,.int .i64 ee.one.1,.int .i64 ee.one.2,.int .i64 ee.two.1,.int .i64 ee.two.2,.int .i64 i0] 53 (0,0)):=Qp G2 8 (.int .i64 ee.two.2);replace I:=I.setk (w.heap.size+1) 8 (.int .i64 ee.two.2) (by omega) (by omega) (by omega);have I2:=((((((((((I).setk w.heap.size 0 ((.slice pc1 chs.length cc1)) (by omega) (by omega) (by omega)).setk w.heap.size 1 ((.slice ps1 sts.length cs1)) (by omega) (by omega) (by omega)).setk w.heap.size 2 (.int .u8 ee.op) (by omega) (by omega) (by omega)).setk w.heap.size 3 (.int .i64 ee.a.1) (by omega) (by omega) (by omega)).setk w.heap.size 4 (.int .i64 ee.a.2) (by omega) (by omega) (by omega)).setk w.heap.size 5 (.int .i64 ee.one.1) (by omega) (by omega) (by omega)).setk w.heap.size 6 (.int .i64 ee.one.2) (by omega) (by omega) (by omega)).setk w.heap.size 7 (.int .i64 ee.two.1) (by omega) (by omega) (by omega)).setk w.heap.size 8 (.int .i64 ee.two.2) (by omega) (by omega) (by omega)).setk w.heap.size 9 (.int .i64 i0) (by omega) (by omega) (by omega);refine bodyPost_ret (v:=.agg #[(.slice pc1 chs.length cc1),(.slice ps1 sts.length cs1),.int .u8 ee.op,.int .i64 ee.a.1,.int .i64 ee.a.2,.int .i64 ee.one.1,.int .i64 ee.one.2,.int .i64 ee.two.1,.int .i64 ee.two.2,.int .i64 i0]) (by simp[results,Tryz.results48,go_sem,q1]) rfl ?_;rw[HV.o];exact⟨_,_,rfl,I2.C.base (by omega),Qm I2.S (by omega),I2.P,I2.F⟩
  ·have HV:Hid (blkF s i0 bad0=⟨⟨chs,sts,RT,i0⟩,i,bad⟩):=HR.o.trans (by rw[QG,if_neg hb]);clear HR;have q1:=Qa G1;have z1:=Qf G1;have q2:=Qa G2;have z2:=Qf G2;go_wp2_with fail;have I2:=((((((((((I).setk w.heap.size 0 ((.slice pc1 chs.length cc1)) (by omega) (by omega) (by omega)).setk w.heap.size 1 ((.slice ps1 sts.length cs1)) (by omega) (by omega) (by omega)).setk w.heap.size 2 (.int .u8 0) (by omega) (by omega) (by omega)).setk w.heap.size 3 (.int .i64 0) (by omega) (by omega) (by omega)).setk w.heap.size 4 (.int .i64 0) (by omega) (by omega) (by omega)).setk w.heap.size 5 (.int .i64 0) (by omega) (by omega) (by omega)).setk w.heap.size 6 (.int .i64 0) (by omega) (by omega) (by omega)).setk w.heap.size 7 (.int .i64 0) (by omega) (by omega) (by omega)).setk w.heap.size 8 (.int .i64 0) (by omega) (by omega) (by omega)).setk w.heap.size 9 (.int .i64 i0) (by omega) (by omega) (by omega);refine bodyPost_ret (v:=.agg #[(.slice pc1 chs.length cc1),(.slice ps1 sts.length cs1),.int .u8 0,.int .i64 0,.int .i64 0,.int .i64 0,.int .i64 0,.int .i64 0,.int .i64 0,.int .i64 i0]) (by simp[results,Tryz.results48,go_sem,q1]) rfl ?_;rw[HV.o];exact⟨_,_,rfl,I2.C.base (by omega),Qm I2.S (by omega),I2.P,I2.F⟩
inductive ASt where
 | val (to:Nat)(n:Int)
 | cp (to a:Nat)
 | op (o to a b:Nat)
 | inp (to:Nat)
 | out (a:Nat)
structure ACh where
 to:Nat
 src:List (Nat×Nat)
structure AEn where
 op:Nat
 a:Nat
 one:Nat
 two:Nat
structure ABk where
 chs:List ACh
 sts:List ASt
 e:AEn
def QA(t:Qy):ASt:=if t.op=118 then .val t.to.1 t.n else if t.op=99 then .cp t.to.1 t.a.1 else if t.op=33 then .out t.a.1 else if t.op=63 then .inp t.to.1 else .op t.op t.to.1 t.a.1 t.b.1
def QL(c:QH):ACh:=⟨c.to.1,(c.gs.map (·.1)).zip (c.rs.map (·.1))⟩
def Zc(e:Z3):AEn:=⟨e.op,e.a.1,e.one.1,e.two.1⟩
def Zy(b:Ql):ABk:=⟨b.chs.map QL,b.sts.map QA,Zc b.e⟩
def absP(bs:List Ql):List ABk:=bs.map Zy
structure Mac where
 r:Nat→Int
 inp:List Int
 out:List Int
def upd(r:Nat→Int)(n:Nat)(v:Int):Nat→Int:=fun m=>if m=n then v else r m
theorem Jh(r n v):upd r n v n=v:=if_pos rfl
theorem Z7{r:Nat→Int}{n m:Nat}(v:Int)(h:m≠n):upd r n v m=r m:=if_neg h
def wkF(o:Nat)(a b:Int):Int:=if o=43 then wrap64 (a+b) else if o=45 then wrap64 (a-b) else if o=42 then wrap64 (a*b) else if a<b then 1 else 0
def stA:ASt→Mac→Mac
 | .val t n,m=>{ m with r:=upd m.r t n }
 | .cp t a,m=>{ m with r:=upd m.r t (m.r a) }
 | .op o t a b,m=>{ m with r:=upd m.r t (wkF o (m.r a) (m.r b)) }
 | .inp t,m=>{ m with r:=upd m.r t (m.inp.head?.getD 0),inp:=m.inp.tail }
 | .out a,m=>{ m with out:=m.out++[m.r a] }
def KV(l:List ASt)(m:Mac):Mac:=l.foldl (fun m s=>stA s m) m
theorem Kl(s l m):KV (s::l) m=KV l (stA s m):=rfl
theorem QcM(l k m):KV (l++k) m=KV k (KV l m):=by rw[KV,List.foldl_append];rfl
def KX(src:List (Nat×Nat))(frm:Nat)(r:Nat→Int):Int:=src.foldl (fun n p=>if p.1=frm then r p.2 else n) 0
def K7(l:List (Nat×Int))(r:Nat→Int):Nat→Int:=l.foldl (fun r p=>upd r p.1 p.2) r
def chA(chs:List ACh)(frm:Nat)(r:Nat→Int):Nat→Int:=K7 (chs.map fun c=>(c.to,KX c.src frm r)) r
def Kb(b:ABk)(frm:Int)(m:Mac):Mac:=if 0≤frm then { m with r:=chA b.chs frm.toNat m.r } else m
def blA(b:ABk)(frm:Int)(m:Mac):Mac:=KV b.sts (Kb b frm m)
def WQ:ABk:=⟨[],[],⟨0,0,0,0⟩⟩
def bkA(bs:List ABk)(i:Nat):ABk:=bs[i]?.getD WQ
theorem Um{bs:List ABk}{i:Nat}(h:i<bs.length):bkA bs i=bs[i]:=by rw[bkA,List.getElem?_eq_getElem h];rfl
def nxA(b:ABk)(m:Mac):Nat:=if b.e.op=63∧m.r b.e.a=0 then b.e.two else b.e.one
def plA(bs:List ABk):Nat→Nat→Int→Mac→List Int×Nat
 | 0,_,_,m=>(m.out,1)
 | k+1,i,frm,m=>if (bkA bs i).e.op=46 then ((blA (bkA bs i) frm m).out,0) else plA bs k (nxA (bkA bs i) (blA (bkA bs i) frm m)) i (blA (bkA bs i) frm m)
def playA(bs:List ABk)(input:List Int)(fuel:Nat):List Int×Nat:=plA bs fuel 0 (-1) ⟨fun _=>0,input,[]⟩
def look:List Nat→List Int→Nat→Int
 | a::ns,h::hs,n=>if a=n then h else look ns hs n
 | _,_,_=>0
theorem Na:∀{ns:List Nat}{hs:List Int}{n i:Nat}(hi:i<ns.length)(hl:ns.length=hs.length),ns[i]=n→(∀j (hj:j<i),ns[j]'(by omega)≠n)→look ns hs n=hs[i]'(by omega)
 | [],_,_,_,hi,_,_,_=>by simp at hi
 | a::ns,[],_,_,_,hl,_,_=>by simp at hl
 | a::ns,h::hs,n,0,_,_,h1,_=>by rw[look,if_pos (by simpa using h1)];rfl
 | a::ns,h::hs,n,i+1,hi,hl,h1,h2=>by
  rw[look,if_neg (by simpa using h2 0 (by omega))];exact Na (by simpa using hi) (by simpa using hl) (by simpa using h1) (fun j hj=>by simpa using h2 (j+1) (by omega))
theorem UT(hs:List Int)(n:Nat):look [] hs n=0:=by unfold look;rfl
theorem Qcd(ns:List Nat)(n:Nat):look ns [] n=0:=by cases ns<;>(unfold look;rfl)
theorem US:∀{ns:List Nat}{hs:List Int}{n:Nat},(∀j (hj:j<ns.length),ns[j]≠n)→look ns hs n=0
 | [],_,_,_=>UT _ _
 | a::ns,[],_,_=>Qcd _ _
 | a::ns,h::hs,n,h2=>by
  rw[look,if_neg (show ¬a=n from h2 0 (Nat.zero_lt_succ _))];exact US (fun j hj=>h2 (j+1) (Nat.succ_lt_succ hj))
theorem R8:∀{ns:List Nat}{hs:List Int}{n i:Nat}{v:Int}(hi:i<ns.length)(hl:ns.length=hs.length),ns[i]=n→(∀j (hj:j<i),ns[j]'(by omega)≠n)→∀m,look ns (hs.set i v) m=upd (look ns hs) n v m
 | [],_,_,_,_,hi,_,_,_,_=>by simp at hi
 | a::ns,[],_,_,_,_,hl,_,_,_=>by simp at hl
 | a::ns,h::hs,n,0,v,_,_,h1,_,m=>by
  have h1:a=n:=by simpa using h1
  subst h1;rw[List.set_cons_zero,look,upd];by_cases e:a=m
  ·rw[if_pos e,if_pos e.symm]
  ·rw[if_neg e,if_neg (fun h=>e h.symm),look,if_neg e]
 | a::ns,h::hs,n,i+1,v,hi,hl,h1,h2,m=>by
  have h0:a≠n:=by simpa using h2 0 (by omega)
  have ih:=R8 (v:=v) (by simpa using hi) (by simpa using hl) (by simpa using h1) (fun j hj=>by simpa using h2 (j+1) (by omega)) (ns:=ns) (hs:=hs) (i:=i) m;rw[List.set_cons_succ,look,upd];by_cases e:a=m
  ·rw[if_pos e,if_neg (by omega),look,if_pos e]
  ·rw[if_neg e,ih,upd,look,if_neg e]
theorem Nb:∀{ns:List Nat}{hs:List Int}{n:Nat}{v:Int},ns.length=hs.length→(∀j (hj:j<ns.length),ns[j]≠n)→∀m,look (ns++[n]) (hs++[v]) m=upd (look ns hs) n v m
 | [],[],n,v,_,_,m=>by
  show (if n=m then v else look [] [] m)=_;rw[upd];by_cases e:n=m
  ·rw[if_pos e,if_pos e.symm]
  ·rw[if_neg e,if_neg (fun h=>e h.symm)]
 | [],h::hs,_,_,hl,_,_=>by simp at hl
 | a::ns,[],_,_,hl,_,_=>by simp at hl
 | a::ns,h::hs,n,v,hl,h2,m=>by
  have h0:a≠n:=h2 0 (Nat.zero_lt_succ _);have ih:=Nb (v:=v) (ns:=ns) (hs:=hs) (by simpa using hl) (fun j hj=>h2 (j+1) (Nat.succ_lt_succ hj)) m;rw[List.cons_append,List.cons_append,look,upd];by_cases e:a=m
  ·rw[if_pos e,if_neg (by omega),look,if_pos e]
  ·rw[if_neg e,ih,upd,look,if_neg e]
end Go.Proofs.YtgfhfkgdmidhpaaGreatDoor
