import Derived.Test.YtgfhfkgdmidhpaaGreatDoorC06
import Derived.Deep.RegionHeldLaw
namespace Go.Proofs.YtgfhfkgdmidhpaaGreatDoor
open Go.RowKit
set_option maxRecDepth 100000
set_option maxHeartbeats 8000000
section sticky
variable {s:ByteArray} {i:Nat} {bad:Int} (h:0≤bad)
include h
theorem Ws{c:Nat}:onF s i bad c=false:=by simp[onF];omega
theorem Qhq:Q9 s i bad=false:=by simp[Q9];omega
theorem Gj:X0 i bad=bad:=by rw[X0,if_neg (by omega)]
theorem ZD{c:Nat}:mustB s i bad c=bad:=by rw[mustB,Ws h];exact Gj h
theorem XO:Zd s i bad=bad:=by rw[Zd,Qhq h];exact Gj h
theorem Gi:regB s i bad=bad:=by rw[regB,ZD h,XO h]
theorem Qho:opB s i bad=bad:=by simp[opB,Ws h]
theorem Qhn:opC s i bad=0:=by simp[opC,Ws h]
theorem Qfi{a:Nat×Nat}:(braF s a i bad).bad=bad:=by simp[braF,ZD h,XO h]
end sticky
theorem Vt{s:ByteArray}{i0:Nat}(k:Nat) {chs sts i}{bad:Int}(h:0≤bad):(QG s i0 k chs sts i bad).bad=bad:=by
 cases k with
 | zero=>rfl
 | succ k=>rw[QG,if_neg (by omega)]
theorem GV{i}:X0 i (-1)=i:=by simp[X0]
theorem Jp{s i c}:mustB s i (-1) c=if onF s i (-1) c then -1 else (i:Int):=by
 rw[mustB,GV]
theorem J6{s i}:Zd s i (-1)=if Q9 s i (-1) then -1 else (i:Int):=by
 rw[Zd,GV]
theorem Qdc{s i}:regB s i (-1)=if onF s i (-1) 114 then (if Q9 s (i+1) (-1) then -1 else ((i+1:Nat):Int)) else (i:Int):=by
 rw[regB,Jp]
 cases h:onF s i (-1) 114 with
 | true=>rw[if_pos rfl,if_pos rfl,gotI,if_pos h,J6]
 | false=>rw[if_neg (by simp),if_neg (by simp),XO (by omega)]
theorem WD{s i}(h:regB s i (-1)<0):onF s i (-1) 114=true∧Q9 s (i+1) (-1)=true∧regB s i (-1)=-1∧regN s i (-1)=numN s (i+1) (-1)∧regI s i (-1)=numI s (i+1) (-1):=by
 rw[Qdc]at h
 cases h1:onF s i (-1) 114 with
 | false=>rw[h1,if_neg (by simp)]at h;omega
 | true=>
  rw[h1,if_pos rfl]at h
  cases h2:Q9 s (i+1) (-1) with
  | false=>rw[h2,if_neg (by simp)]at h;omega
  | true=>
   have g1:gotI s i (-1) 114=i+1:=by rw[gotI,if_pos h1]
   have g2:mustB s i (-1) 114=-1:=by rw[mustB,if_pos h1]
   exact⟨rfl,rfl,by rw[Qdc,h1,h2];rfl,by rw[regN,g1,g2],by rw[regI,g1,g2]⟩
theorem Vb{b g:Nat}{s:ByteArray}{i:Nat}{w:World}(hp:RS w b g s i)(hs:s.size≤200000)(hd:Q9 s i (-1)=true):
  Calls Tryz.prog 198 #[.pointer (some ⟨b,0,none⟩)] w fun e w'=>e=.returned (.agg #[.int .i64 (numN s i (-1)),.int .i64 i])∧RS w' b g s (numI s i (-1))∧Fr b w w':=by
 have hl:=hp.lt;have hgl:=hp.glt;have hne:b≠w.heap.size:=by omega
 have HD:=Qc hd;clear hd;go_enter Tryz.func198,Tryz.ntmps198;go_wp2_with fail;refine(VV (hp.alloc _)).mono ?_;rintro e w1 ⟨rfl,hp1,f1⟩;go_wp2_with fail;refine(V4 hp1 hs HD.o).mono ?_;rintro e w2 ⟨rfl,hp2,f2⟩;have f3:=f1.trans f2;have hk:=f3.own hne;have k0:=Qa hk 0;have k1:=Qa hk 1;have kf:=Qf hk;simp at k0 k1;clear hk;go_wp2_with fail;refine bodyPost_ret (v:=.agg #[.int .i64 (numN s i (-1)),.int .i64 i]) (by simp[results,Tryz.results198,go_sem,k0,k1]) rfl ⟨rfl,?_,?_⟩
 ·exact(hp2.setk _ 0 _ hne (by omega)).setk _ 1 _ hne (by omega)
 ·exact((((Fr.refl _ _).alloc _).trans f3).setk _ 0 _ (Nat.le_refl _)).setk _ 1 _ (Nat.le_refl _)
theorem V7{b g:Nat}{s:ByteArray}{i:Nat}{w:World}(hp:RS w b g s i)(hd:Q9 s i (-1)=false):
  Calls Tryz.prog 198 #[.pointer (some ⟨b,0,none⟩)] w fun e w'=>e=.panicked (brk i)∧Fr b w w':=by
 have HD:=Qc hd;clear hd;go_enter Tryz.func198,Tryz.ntmps198;go_wp2_with fail;refine(VV (hp.alloc _)).mono ?_;rintro e w1 ⟨rfl,hp1,f1⟩;go_wp2_with fail;refine(GJ hp1 HD.o).mono ?_;rintro e w2 ⟨rfl,f2⟩;go_wp2_with fail;exact⟨rfl,rfl,(((Fr.refl _ _).alloc _).trans f1).trans f2⟩
theorem J0{b g:Nat}{s:ByteArray}{i:Nat}{w:World}(hp:RS w b g s i)(hs:s.size≤200000)(hd:regB s i (-1)<0):
  Calls Tryz.prog 199 #[.pointer (some ⟨b,0,none⟩)] w fun e w'=>e=.returned (.agg #[.int .i64 (regN s i (-1)),.int .i64 i])∧RS w' b g s (regI s i (-1))∧Fr b w w':=by
 have hl:=hp.lt;have hgl:=hp.glt;have hne:b≠w.heap.size:=by omega
 obtain⟨h1,h2,_,h4,h5⟩:=WD hd;have H1:=Qc h1;have H2:=Qc h2;have H4:=Qc h4;have H5:=Qc h5;clear hd h1 h2 h4 h5;go_enter Tryz.func199,Tryz.ntmps199;go_wp2_with fail;refine(VV (hp.alloc _)).mono ?_;rintro e w1 ⟨rfl,hp1,f1⟩;go_wp2_with fail;refine(Jg (c:=114) hp1 hs (by decide) H1.o).mono ?_;rintro e w2 ⟨rfl,hp2,f2⟩;go_wp2_with fail;refine(V4 hp2 hs H2.o).mono ?_;rintro e w3 ⟨rfl,hp3,f3⟩;have f4:=(f1.trans f2).trans f3;have hk:=f4.own hne;have k0:=Qa hk 0;have k1:=Qa hk 1;have kf:=Qf hk;simp at k0 k1;clear hk;go_wp2_with fail;rw[H4.o,H5.o];refine bodyPost_ret (v:=.agg #[.int .i64 (numN s (i+1) (-1)),.int .i64 i]) (by simp[results,Tryz.results199,go_sem,k0,k1]) rfl ⟨rfl,?_,?_⟩
 ·exact(hp3.setk _ 0 _ hne (by omega)).setk _ 1 _ hne (by omega)
 ·exact((((Fr.refl _ _).alloc _).trans f4).setk _ 0 _ (Nat.le_refl _)).setk _ 1 _ (Nat.le_refl _)
theorem WC{b g:Nat}{s:ByteArray}{i:Nat}{w:World}(hp:RS w b g s i)(hs:s.size≤200000)(hd:0≤regB s i (-1)):
  Calls Tryz.prog 199 #[.pointer (some ⟨b,0,none⟩)] w fun e w'=>e=.panicked (brk (regB s i (-1)))∧Fr b w w':=by
 rw[Qdc]at hd ⊢
 cases h1:onF s i (-1) 114 with
 | true=>
  rw[h1,if_pos rfl]at hd
  cases h2:Q9 s (i+1) (-1) with
  | true=>rw[h2,if_pos rfl]at hd;omega
  | false=>
   rw[if_pos rfl,if_neg (by simp)];have H1:=Qc h1;have H2:=Qc h2;clear hd h1 h2;go_enter Tryz.func199,Tryz.ntmps199;go_wp2_with fail;refine(VV (hp.alloc _)).mono ?_;rintro e w1 ⟨rfl,hp1,f1⟩;go_wp2_with fail;refine(Jg (c:=114) hp1 hs (by decide) H1.o).mono ?_;rintro e w2 ⟨rfl,hp2,f2⟩;go_wp2_with fail;refine(GJ hp2 H2.o).mono ?_;rintro e w3 ⟨rfl,f3⟩;go_wp2_with fail;exact⟨rfl,rfl,((((Fr.refl _ _).alloc _).trans f1).trans f2).trans f3⟩
 | false=>
  rw[if_neg (by simp)];have H1:=Qc h1;clear hd h1;go_enter Tryz.func199,Tryz.ntmps199;go_wp2_with fail;refine(VV (hp.alloc _)).mono ?_;rintro e w1 ⟨rfl,hp1,f1⟩;go_wp2_with fail;refine(Kt (c:=114) hp1 (by decide) H1.o).mono ?_;rintro e w2 ⟨rfl,f2⟩;go_wp2_with fail;exact⟨rfl,rfl,(((Fr.refl _ _).alloc _).trans f1).trans f2⟩
theorem RS.drew{w b g s i}(h:RS w b g s i):RS w.drew b g s i:=by obtain⟨ms,k,cap,a,c,h⟩:=h;exact⟨ms,k,cap,a,c,⟨h.B,h.M,h.N⟩⟩
def X7(c:Nat):Nat:=if c=43 then 0 else if c=45 then 1 else if c=42 then 2 else 3
def opX(x:Int):Option Nat:=if x=43 then some 0 else if x=45 then some 1 else if x=42 then some 2 else if x=215 then some 2 else if x=60 then some 3 else none
def Yd(x:Int):Value:=.tuple #[.int .i64 ((opX x).getD 0:Nat),.bool (opX x).isSome]
theorem RQ(x:Int)(w:World):Calls Tryz.prog 265 #[.int .i32 x] w fun e w'=>e=.returned (Yd x)∧w'=w:=by
 by_cases h1:x=43
 ·have H:Hid (Yd x=.tuple #[.int .i64 0,.bool true]):=by simp[Hid,Yd,opX,h1]
  have t:(x==43)=true:=by simp[h1]
  clear h1;go_enter Tryz.func265,Tryz.ntmps265
  go_wp2
  go_ret2
  exact⟨by rw[H.o];rfl,rfl⟩
 by_cases h2:x=45
 ·have H:Hid (Yd x=.tuple #[.int .i64 1,.bool true]):=by simp[Hid,Yd,opX,h2]
  have t1:(x==43)=false:=by simp[h1]
  have t2:(x==45)=true:=by simp[h2]
  clear h1 h2;go_enter Tryz.func265,Tryz.ntmps265
  go_wp2
  go_ret2
  exact⟨by rw[H.o];rfl,rfl⟩
 by_cases h3:x=42
 ·have H:Hid (Yd x=.tuple #[.int .i64 2,.bool true]):=by simp[Hid,Yd,opX,h3]
  have t1:(x==43)=false:=by simp[h1]
  have t2:(x==45)=false:=by simp[h2]
  have t3:(x==42)=true:=by simp[h3]
  clear h1 h2 h3;go_enter Tryz.func265,Tryz.ntmps265
  go_wp2
  go_ret2
  exact⟨by rw[H.o];rfl,rfl⟩
 by_cases h4:x=215
 ·have H:Hid (Yd x=.tuple #[.int .i64 2,.bool true]):=by simp[Hid,Yd,opX,h4]
  have t1:(x==43)=false:=by simp[h1]
  have t2:(x==45)=false:=by simp[h2]
  have t3:(x==42)=false:=by simp[h3]
  have t4:(x==215)=true:=by simp[h4]
  clear h1 h2 h3 h4;go_enter Tryz.func265,Tryz.ntmps265
  go_wp2
  go_ret2
  exact⟨by rw[H.o];rfl,rfl⟩
 have t1:(x==43)=false:=by simp[h1]
 have t2:(x==45)=false:=by simp[h2]
 have t3:(x==42)=false:=by simp[h3]
 have t4:(x==215)=false:=by simp[h4]
 by_cases h5:x=60
 ·have H:Hid (Yd x=.tuple #[.int .i64 3,.bool true]):=by simp[Hid,Yd,opX,h5]
  have t5:(x==60)=true:=by simp[h5]
  clear h1 h2 h3 h4 h5;go_enter Tryz.func265,Tryz.ntmps265
  go_wp2
  go_ret2
  exact⟨by rw[H.o];rfl,rfl⟩
 ·have H:Hid (Yd x=.tuple #[.int .i64 0,.bool false]):=by simp[Hid,Yd,opX,h1,h2,h3,h4,h5]
  have t5:(x==60)=false:=by simp[h5]
  clear h1 h2 h3 h4 h5;go_enter Tryz.func265,Tryz.ntmps265
  go_wp2
  go_ret2
  exact⟨by rw[H.o];rfl,rfl⟩
theorem Qbn{s i}:(i+1<s.size∧byt s i=195∧byt s (i+1)=151)↔onF s i (-1) 195=true∧onF s (i+1) (-1) 151=true:=by
 rw[JN,JN];constructor
 ·rintro⟨a,b,c⟩;exact⟨⟨by omega,b⟩,a,c⟩
 ·rintro⟨⟨_,b⟩,a,c⟩;exact⟨a,b,c⟩
theorem ZE{s i c d}(h:onF s i (-1) c=true)(hd:c≠d):onF s i (-1) d=false:=by
 rw[←Bool.not_eq_true,JN];rintro⟨_,e⟩;exact hd ((JN.1 h).2.symm.trans e)
theorem Jr.op{s i x}(h:Jr s i x):opX x=if opC s i (-1)≠0∧opB s i (-1)<0 then some (X7 (opC s i (-1))) else none:=by
 have a43:x=43↔onF s i (-1) 43=true:=(h.ascii 43 (by decide)).trans (JN (c:=43)).symm;have a45:x=45↔onF s i (-1) 45=true:=(h.ascii 45 (by decide)).trans (JN (c:=45)).symm;have a42:x=42↔onF s i (-1) 42=true:=(h.ascii 42 (by decide)).trans (JN (c:=42)).symm;have a60:x=60↔onF s i (-1) 60=true:=(h.ascii 60 (by decide)).trans (JN (c:=60)).symm;have a215:=h.cross.trans Qbn;unfold opX opC opB
 cases h1:onF s i (-1) 43 with
 | true=>rw[if_pos (a43.2 h1)];simp[X7]
 | false=>
  rw[if_neg (fun e=>by rw[a43.1 e]at h1;cases h1)]
  cases h2:onF s i (-1) 45 with
  | true=>rw[if_pos (a45.2 h2)];simp[X7]
  | false=>
   rw[if_neg (fun e=>by rw[a45.1 e]at h2;cases h2)]
   cases h3:onF s i (-1) 42 with
   | true=>rw[if_pos (a42.2 h3)];simp[X7]
   | false=>
    rw[if_neg (fun e=>by rw[a42.1 e]at h3;cases h3)]
    cases h4:onF s i (-1) 60 with
    | true=>
     rw[if_neg (fun e=>by have:=(a215.1 e).1;rw[ZE h4 (by decide)]at this;cases this),if_pos (a60.2 h4)];simp[X7]
    | false=>
     cases h5:onF s i (-1) 195 with
     | true=>
      rw[Jp]
      cases h6:onF s (i+1) (-1) 151 with
      | true=>rw[if_pos (a215.2 ⟨h5,h6⟩)];simp[X7]
      | false=>
       rw[if_neg (fun e=>by have:=(a215.1 e).2;rw[h6]at this;cases this),if_neg (fun e=>by rw[a60.1 e]at h4;cases h4)];simp;omega
     | false=>
      rw[if_neg (fun e=>by have:=(a215.1 e).1;rw[h5]at this;cases this),if_neg (fun e=>by rw[a60.1 e]at h4;cases h4)];simp
theorem QfU{s ms}(hm:NQ s ms){k:Nat}(hk:k<ms.length)(h:(opX ms[k].2).isSome=true):∃h2:k+1<ms.length,ms[k+1].1=opI s ms[k].1 (-1):=by
 have hx:Jr s ms[k].1 ms[k].2:=⟨hm.ascii k hk,hm.cross k hk,hm.fin k hk,hm.wide k hk⟩;have asc:∀c:Nat,c<128→ms[k].2=(c:Int)→∃h2:k+1<ms.length,ms[k+1].1=ms[k].1+1:=fun c hc e=>hm.next k hk (by omega) (by omega);unfold opX at h;unfold opI;by_cases h1:ms[k].2=43
 ·rw[if_pos (JN.2 ((hx.ascii 43 (by decide)).1 h1))];exact asc 43 (by decide) h1
 rw[if_neg (fun e=>h1 ((hx.ascii 43 (by decide)).2 (JN.1 e)))];by_cases h2:ms[k].2=45
 ·rw[if_pos (JN.2 ((hx.ascii 45 (by decide)).1 h2))];exact asc 45 (by decide) h2
 rw[if_neg (fun e=>h2 ((hx.ascii 45 (by decide)).2 (JN.1 e)))];by_cases h3:ms[k].2=42
 ·rw[if_pos (JN.2 ((hx.ascii 42 (by decide)).1 h3))];exact asc 42 (by decide) h3
 rw[if_neg (fun e=>h3 ((hx.ascii 42 (by decide)).2 (JN.1 e)))];by_cases h5:ms[k].2=60
 ·rw[if_pos (JN.2 ((hx.ascii 60 (by decide)).1 h5))];exact asc 60 (by decide) h5
 rw[if_neg (fun e=>h5 ((hx.ascii 60 (by decide)).2 (JN.1 e)))];by_cases h4:ms[k].2=215
 ·have h6:=Qbn.1 (hx.cross.1 h4);rw[if_pos h6.1,gotI,if_pos h6.2];obtain⟨a,b⟩:=hm.nextCross k hk h4;exact⟨a,by rw[b]⟩
 ·simp[h1,h2,h3,h4,h5]at h
theorem Qdu{b g:Nat}{s:ByteArray}{i:Nat}{w:World}(hp:RS w b g s i)(hs:s.size≤200000)(h1:opC s i (-1)≠0)(h2:opB s i (-1)<0):
  Calls Tryz.prog 258 #[.pointer (some ⟨b,0,none⟩)] w fun e w'=>e=.returned (.int .i64 (X7 (opC s i (-1))))∧RS w' b g s (opI s i (-1))∧Fr b w w':=by
 obtain⟨ms,k,cap,hm,⟨hk,rfl⟩,hr⟩:=hp;have hx:Jr s ms[k].1 ms[k].2:=⟨hm.ascii k hk,hm.cross k hk,hm.fin k hk,hm.wide k hk⟩;have ho:=hx.op;rw[if_pos ⟨h1,h2⟩]at ho;obtain⟨hk2,e2⟩:=QfU hm hk (by rw[ho];rfl);have E2:=Qc e2;have HV:Hid (Yd ms[k].2=.tuple #[.int .i64 (X7 (opC s ms[k].1 (-1))),.bool true]):=by show _=_;rw[Yd,ho];rfl
 have hl:=hm.len;have c2:=hr.c2;have z2:=hr.fz 2;clear h1 h2 ho e2 hx;go_enter Tryz.func258,Tryz.ntmps258;go_wp2_with fail;refine(Y2 b s ms k g cap _ hr hk).mono ?_;rintro e w1 ⟨n,rfl,rfl⟩;go_wp2_with fail;refine(RQ _ _).mono ?_;rintro e w1 ⟨rfl,rfl⟩;rw[HV.o];go_wp2_with fail;go_ret;exact⟨rfl,⟨ms,k+1,cap,hm,⟨hk2,E2.o⟩,(hr.drewN n).set (by omega)⟩,((Fr.refl _ _).drewN _).setCell _ _⟩
def YI(s:ByteArray)(i:Nat):Int:=if onF s i (-1) 195 then ((i+1:Nat):Int) else (i:Int)
theorem Uk{b g:Nat}{s:ByteArray}{i:Nat}{w:World}(hp:RS w b g s i)(hs:s.size≤200000):
  Calls Tryz.prog 266 #[.pointer (some ⟨b,0,none⟩)] w fun e w'=>e=.panicked (brk (YI s i))∧Fr b w w':=by
 have hle:=hp.le;rw[YI]
 cases ho:onF s i (-1) 195 with
 | true=>
  rw[if_pos rfl];have h1:=JN.1 ho;have hlt:=h1.1;have h3:((s[i].toNat:Int)==195)=true:=by have:=h1.2;rw[KM hlt]at this;simp;omega
  clear ho h1;go_enter Tryz.func266,Tryz.ntmps266;go_wp2_with fail;refine(VV hp).mono ?_;rintro e w1 ⟨rfl,hp1,f1⟩;obtain⟨ms,k,cap,hm,hkk,hr⟩:=hp1;have c0:=hr.c0;clear hm hkk;go_wp2_with fail;exact⟨rfl,rfl,f1⟩
 | false=>
  rw[if_neg (by simp)];by_cases hlt:i<s.size
  ·have h3:((s[i].toNat:Int)==195)=false:=by
    have:byt s i≠195:=fun e=>by rw[JN.2 ⟨hlt,e⟩]at ho;cases ho
    rw[KM hlt]at this;simp;omega
   clear ho;go_enter Tryz.func266,Tryz.ntmps266;go_wp2_with fail;refine(VV hp).mono ?_;rintro e w1 ⟨rfl,hp1,f1⟩;have hp2:=Qc hp1;obtain⟨ms,k,cap,hm,hkk,hr⟩:=hp1;have c0:=hr.c0;clear hm hkk hr;go_wp2_with fail;refine(YW hp2.out).mono ?_;rintro e w2 ⟨rfl,f2⟩;go_wp2_with fail;exact⟨rfl,rfl,f1.trans f2⟩
  ·clear ho;go_enter Tryz.func266,Tryz.ntmps266;go_wp2_with fail;refine(VV hp).mono ?_;rintro e w1 ⟨rfl,hp1,f1⟩;have hp2:=Qc hp1;obtain⟨ms,k,cap,hm,hkk,hr⟩:=hp1;have c0:=hr.c0;clear hm hkk hr;go_wp2_with fail;refine(YW hp2.out).mono ?_;rintro e w2 ⟨rfl,f2⟩;go_wp2_with fail;exact⟨rfl,rfl,f1.trans f2⟩
theorem QiT{b g:Nat}{s:ByteArray}{i:Nat}{w:World}(hp:RS w b g s i)(hs:s.size≤200000)(h1:¬(opC s i (-1)≠0∧opB s i (-1)<0)):
  Calls Tryz.prog 258 #[.pointer (some ⟨b,0,none⟩)] w fun e w'=>e=.panicked (brk (YI s i))∧Fr b w w':=by
 have H1:=Qc h1;clear h1;go_enter Tryz.func258,Tryz.ntmps258;go_wp2_with fail;refine(Xp hp).mono ?_;rintro e w1 ⟨x,rfl,hx,hp1,f1⟩;have ho:=hx.op;rw[if_neg H1.o]at ho;have HV:Hid (Yd x=.tuple #[.int .i64 0,.bool false]):=by show _=_;rw[Yd,ho];rfl
 clear hx ho H1;go_wp2_with fail;refine(RQ _ _).mono ?_;rintro e w1 ⟨rfl,rfl⟩;rw[HV.o];go_wp2_with fail;refine(Uk hp1 hs).mono ?_;rintro e w2 ⟨rfl,f2⟩;go_wp2_with fail;exact⟨rfl,rfl,f1.trans f2⟩
theorem WR{f:FuncId}{args:Array Value}{w:World}{R:Ending→World→Prop}(h:Calls Tryz.prog f args w R)(v:Value):Calls Tryz.prog f args w fun e w'=>R e w'∨(e=.returned v∧Hid False):=
 h.mono fun _ _ h=>.inl h
theorem Fr.cells{b:Nat}{w w':World}(f:Fr b w w'){k:Nat}(hk:k<w.heap.size)(hb:k≠b)(o:Nat):w'.cell? ⟨k,o,none⟩=w.cell? ⟨k,o,none⟩:=f.cell hk hb
theorem Qgs{b g:Nat}{s:ByteArray}{i tn ta ln la:Nat}{w:World}(hp:RS w b g s i)(h59:onF s i (-1) 59=true):
  Calls Tryz.prog 245 #[.pointer (some ⟨b,0,none⟩),.agg #[.int .i64 tn,.int .i64 ta],.agg #[.int .i64 ln,.int .i64 la]] w
   fun e w'=>e=.returned (.iface 142 (.agg #[.int .i64 tn,.int .i64 ta,.int .i64 ln,.int .i64 la]))∧RS w' b g s i∧Fr b w w':=by
 have hl:=hp.lt;have hgl:=hp.glt;have H59:=Qc h59;clear h59;go_enter Tryz.func245,Tryz.ntmps245;go_wp2_with fail;refine(Xp ((hp.alloc _).alloc _)).mono ?_;rintro e w1 ⟨x,rfl,hx,hp1,f1⟩;have hx':(x==59)=true:=by have:=hx.on (c:=59) (by decide);rw[H59.o]at this;exact this
 have g0:w1.heap[w.heap.size]?=some (.cells #[.int .i64 tn,.int .i64 ta] 132 (0,0)):=Qk f1 (Qj (heap_alloc_last w _) _) (by omega);have g1:w1.heap[w.heap.size+1]?=some (.cells #[.int .i64 ln,.int .i64 la] 132 (0,0)):=Qk f1 (by simpa using heap_alloc_last (w.alloc _) _) (by omega);have q0:=Qa g0;have q1:=Qa g1;clear hx g0 g1;go_wp2_with fail;go_ret;exact⟨rfl,hp1,(((Fr.refl _ _).alloc _).alloc _).trans f1⟩
theorem Qi7{b g:Nat}{s:ByteArray}{i tn ta ln la:Nat}{w:World}(hp:RS w b g s i)(hs:s.size≤200000)(h59:onF s i (-1) 59=false)(h1:¬(opC s i (-1)≠0∧opB s i (-1)<0)):
  Calls Tryz.prog 245 #[.pointer (some ⟨b,0,none⟩),.agg #[.int .i64 tn,.int .i64 ta],.agg #[.int .i64 ln,.int .i64 la]] w
   fun e w'=>e=.panicked (brk (YI s i))∧Fr b w w':=by
 have H59:=Qc h59;have H1:=Qc h1;clear h59 h1;go_enter Tryz.func245,Tryz.ntmps245;go_wp2_with fail;refine(Xp ((hp.alloc _).alloc _)).mono ?_;rintro e w1 ⟨x,rfl,hx,hp1,f1⟩;have hx':(x==59)=false:=by have:=hx.on (c:=59) (by decide);rw[H59.o]at this;exact this
 clear hx;go_wp2_with fail;refine(QiT hp1 hs H1.o).mono ?_;rintro e w2 ⟨rfl,f2⟩;go_wp2_with fail;exact⟨rfl,rfl,((((Fr.refl _ _).alloc _).alloc _).trans f1).trans f2⟩
theorem Qi6{b g:Nat}{s:ByteArray}{i tn ta ln la:Nat}{w:World}(hp:RS w b g s i)(hs:s.size≤200000)(h59:onF s i (-1) 59=false)(h1:opC s i (-1)≠0)(h2:opB s i (-1)<0)(h3:regB s (opI s i (-1)) (-1)<0):
  Calls Tryz.prog 245 #[.pointer (some ⟨b,0,none⟩),.agg #[.int .i64 tn,.int .i64 ta],.agg #[.int .i64 ln,.int .i64 la]] w
   fun e w'=>e=.returned (.iface 370 (.agg #[.int .i64 tn,.int .i64 ta,.int .i64 ln,.int .i64 la,.int .i64 (X7 (opC s i (-1))),.int .i64 (regN s (opI s i (-1)) (-1)),.int .i64 (opI s i (-1))]))∧RS w' b g s (regI s (opI s i (-1)) (-1))∧Fr b w w':=by
 have hl:=hp.lt;have hgl:=hp.glt;have H59:=Qc h59;have H1:=Qc h1;have H2:=Qc h2;have H3:=Qc h3;clear h59 h1 h2 h3;go_enter Tryz.func245,Tryz.ntmps245;go_wp2_with fail;refine(Xp ((hp.alloc _).alloc _)).mono ?_;rintro e w1 ⟨x,rfl,hx,hp1,f1⟩;have hx':(x==59)=false:=by have:=hx.on (c:=59) (by decide);rw[H59.o]at this;exact this
 clear hx;go_wp2_with fail;refine(Qdu hp1 hs H1.o H2.o).mono ?_;rintro e w2 ⟨rfl,hp2,f2⟩;have f3:=f1.trans f2;have g0:w2.heap[w.heap.size]?=some (.cells #[.int .i64 tn,.int .i64 ta] 132 (0,0)):=Qk f3 (Qj (heap_alloc_last w _) _) (by omega);have g1:w2.heap[w.heap.size+1]?=some (.cells #[.int .i64 ln,.int .i64 la] 132 (0,0)):=Qk f3 (by simpa using heap_alloc_last (w.alloc _) _) (by omega);have a0:=Qa g0 0;have a1:=Qa g0 1;have b0:=Qa g1 0;have b1:=Qa g1 1;simp at a0 a1 b0 b1;have F:=(((Fr.refl b w).alloc _).alloc _).trans f3;have l0:=lt_of_block g0;have l1:=lt_of_block g1;have n0:w.heap.size≠b:=by omega
 have n1:w.heap.size+1≠b:=by omega
 clear f1 f2 f3 g0 g1 hx';go_wp2_with fail
 go_region_held3 (fun w'=>w'.cell? ⟨w.heap.size,0,none⟩=some (.int .i64 tn)∧w'.cell? ⟨w.heap.size,1,none⟩=some (.int .i64 ta)∧w'.cell? ⟨w.heap.size+1,0,none⟩=some (.int .i64 ln)∧w'.cell? ⟨w.heap.size+1,1,none⟩=some (.int .i64 la)) (simp[*])
  (first | (go_at_call 199;refine(J0 (RS.drew hp2) hs H3.o).mono ?_;rintro e w5 ⟨rfl,hp5,f5⟩;have y0:=f5.cells (k:=w.heap.size) l0 n0;have y1:=f5.cells (k:=w.heap.size+1) l1 n1))
 go_wp2_with fail;go_ret;exact⟨rfl,hp5,F.drew.trans f5⟩
theorem Qem{b g:Nat}{s:ByteArray}{i tn ta ln la:Nat}{w:World}(hp:RS w b g s i)(hs:s.size≤200000)(h59:onF s i (-1) 59=false)(h1:opC s i (-1)≠0)(h2:opB s i (-1)<0)(h3:0≤regB s (opI s i (-1)) (-1)):
  Calls Tryz.prog 245 #[.pointer (some ⟨b,0,none⟩),.agg #[.int .i64 tn,.int .i64 ta],.agg #[.int .i64 ln,.int .i64 la]] w
   fun e w'=>e=.panicked (brk (regB s (opI s i (-1)) (-1)))∧Fr b w w':=by
 have hl:=hp.lt;have hgl:=hp.glt;have H59:=Qc h59;have H1:=Qc h1;have H2:=Qc h2;have H3:=Qc h3;clear h59 h1 h2 h3;go_enter Tryz.func245,Tryz.ntmps245;go_wp2_with fail;refine(Xp ((hp.alloc _).alloc _)).mono ?_;rintro e w1 ⟨x,rfl,hx,hp1,f1⟩;have hx':(x==59)=false:=by have:=hx.on (c:=59) (by decide);rw[H59.o]at this;exact this
 clear hx;go_wp2_with fail;refine(Qdu hp1 hs H1.o H2.o).mono ?_;rintro e w2 ⟨rfl,hp2,f2⟩;have f3:=f1.trans f2;have g0:w2.heap[w.heap.size]?=some (.cells #[.int .i64 tn,.int .i64 ta] 132 (0,0)):=Qk f3 (Qj (heap_alloc_last w _) _) (by omega);have g1:w2.heap[w.heap.size+1]?=some (.cells #[.int .i64 ln,.int .i64 la] 132 (0,0)):=Qk f3 (by simpa using heap_alloc_last (w.alloc _) _) (by omega);have a0:=Qa g0 0;have a1:=Qa g0 1;have b0:=Qa g1 0;have b1:=Qa g1 1;simp at a0 a1 b0 b1;have F:=(((Fr.refl b w).alloc _).alloc _).trans f3;have l0:=lt_of_block g0;have l1:=lt_of_block g1;have n0:w.heap.size≠b:=by omega
 have n1:w.heap.size+1≠b:=by omega
 clear f1 f2 f3 g0 g1 hx';go_wp2_with fail
 go_region_held (fun w'=>w'.cell? ⟨w.heap.size,0,none⟩=some (.int .i64 tn)∧w'.cell? ⟨w.heap.size,1,none⟩=some (.int .i64 ta)∧w'.cell? ⟨w.heap.size+1,0,none⟩=some (.int .i64 ln)∧w'.cell? ⟨w.heap.size+1,1,none⟩=some (.int .i64 la)) (first | exact(Hid.out ‹Hid False›).elim | simp[*])
  (first | (go_at_call 199;refine(WR (WC (RS.drew hp2) hs H3.o) (.agg #[.int .i64 0,.int .i64 0])).mono ?_;rintro e w5 (⟨rfl,f5⟩ | ⟨rfl,hF⟩);exact⟨rfl,rfl,F.drew.trans f5⟩))
 all_goals exact(Hid.out ‹Hid False›).elim
def QE(t:Qy):Value:=
 if t.op=63 then .iface 272 (.agg #[.int .i64 t.to.1,.int .i64 t.to.2])
 else if t.op=99 then .iface 142 (.agg #[.int .i64 t.to.1,.int .i64 t.to.2,.int .i64 t.a.1,.int .i64 t.a.2])
 else if t.op=118 then .iface 177 (.agg #[.int .i64 t.to.1,.int .i64 t.to.2,.int .i64 t.n])
 else if t.op=33 then .iface 315 (.agg #[.int .i64 t.a.1,.int .i64 t.a.2])
 else .iface 370 (.agg #[.int .i64 t.to.1,.int .i64 t.to.2,.int .i64 t.a.1,.int .i64 t.a.2,.int .i64 (X7 t.op),.int .i64 t.b.1,.int .i64 t.b.2])
theorem K4(t:Qy):∃T x,QE t=.iface T x:=by
 unfold QE
 repeat' split
 all_goals exact⟨_,_,rfl⟩
theorem Qb8(s i bad):opC s i bad=0∨opC s i bad=43∨opC s i bad=45∨opC s i bad=42∨opC s i bad=60:=by
 unfold opC
 repeat' split
 all_goals simp
theorem QcP{t:Qy} {s i bad}(h:t.op=opC s i bad):QE t=.iface 370 (.agg #[.int .i64 t.to.1,.int .i64 t.to.2,.int .i64 t.a.1,.int .i64 t.a.2,.int .i64 (X7 t.op),.int .i64 t.b.1,.int .i64 t.b.2]):=by
 have:=Qb8 s i bad;unfold QE;rw[if_neg (by omega),if_neg (by omega),if_neg (by omega),if_neg (by omega)]
theorem QiV{s i}(h:¬(opC s i (-1)≠0∧opB s i (-1)<0)):
  (opC s i (-1)=0∧opB s i (-1)=-1∧opI s i (-1)=i∧YI s i=i)∨(opC s i (-1)≠0∧opB s i (-1)=YI s i∧0≤YI s i):=by
 by_cases h0:opC s i (-1)=0
 ·left;refine⟨h0,?_⟩;unfold opC at h0;have e1:onF s i (-1) 43=false:=by cases e:onF s i (-1) 43 with|false=>rfl|true=>simp[e]at h0
  have e2:onF s i (-1) 45=false:=by cases e:onF s i (-1) 45 with|false=>rfl|true=>simp[e1,e]at h0
  have e3:onF s i (-1) 42=false:=by cases e:onF s i (-1) 42 with|false=>rfl|true=>simp[e1,e2,e]at h0
  have e4:onF s i (-1) 60=false:=by cases e:onF s i (-1) 60 with|false=>rfl|true=>simp[e1,e2,e3,e]at h0
  have e5:onF s i (-1) 195=false:=by cases e:onF s i (-1) 195 with|false=>rfl|true=>simp[e1,e2,e3,e4,e]at h0
  simp[opB,opI,YI,e1,e2,e3,e4,e5]
 ·right;have hB:0≤opB s i (-1):=by
   rcases Int.lt_or_le (opB s i (-1)) 0 with h1|h1
   ·exact absurd ⟨h0,h1⟩ h
   ·exact h1
  refine⟨h0,?_⟩;unfold opB at hB ⊢
  cases e1:onF s i (-1) 43 with
  | true=>simp[e1]at hB
  | false=>
   cases e2:onF s i (-1) 45 with
   | true=>simp[e1,e2]at hB
   | false=>
    cases e3:onF s i (-1) 42 with
    | true=>simp[e1,e2,e3]at hB
    | false=>
     cases e4:onF s i (-1) 60 with
     | true=>simp[e1,e2,e3,e4]at hB
     | false=>
      cases e5:onF s i (-1) 195 with
      | false=>simp[e1,e2,e3,e4,e5]at hB
      | true=>
       simp only[e1,e2,e3,e4,e5,Jp,YI]at hB ⊢
       cases e6:onF s (i+1) (-1) 151 with
       | true=>simp[e6]at hB
       | false=>simp;omega
def Vr(b g:Nat)(s:ByteArray)(w:World)(r:Giv)(e:Ending)(w':World):Prop:=
 (e=.returned (QE r.st)∧r.bad=-1∧RS w' b g s r.i∧Fr b w w')∨(e=.panicked (brk (mustB s r.i r.bad 59))∧0≤mustB s r.i r.bad 59∧Fr b w w')
theorem Qap{b g:Nat}{s:ByteArray}{i tn ta:Nat}{w:World}(hp:RS w b g s i)(hs:s.size≤200000):
  Calls Tryz.prog 220 #[.pointer (some ⟨b,0,none⟩),.agg #[.int .i64 tn,.int .i64 ta]] w fun e w'=>Vr b g s w (givF s (tn,ta) i (-1)) e w':=by
 have hl:=hp.lt;have hgl:=hp.glt
 cases h63:onF s i (-1) 63 with
 | true=>
  have HG:Hid (givF s (tn,ta) i (-1)=⟨⟨63,(tn,ta),(0,0),(0,0),0⟩,i+1,-1⟩):=by simp[Hid,givF,h63]
  have H63:=Qc h63;clear h63;go_enter Tryz.func220,Tryz.ntmps220;go_wp2_with fail;refine(Xf (c:=63) (hp.alloc _) hs (by decide) H63.o).mono ?_;rintro e w1 ⟨rfl,hp1,f1⟩;have g0:w1.heap[w.heap.size]?=some (.cells #[.int .i64 tn,.int .i64 ta] 132 (0,0)):=Qk f1 (heap_alloc_last w _) (by omega);have q0:=Qa g0;clear g0;go_wp2_with fail;go_ret;rw[HG.o];exact .inl ⟨rfl,rfl,hp1,((Fr.refl _ _).alloc _).trans f1⟩
 | false=>
  have H63:=Qc h63;go_enter Tryz.func220,Tryz.ntmps220;go_wp2_with fail;refine(XP (c:=63) (hp.alloc _) (by decide) H63.o).mono ?_;rintro e w1 ⟨rfl,hp1,f1⟩;have g0:w1.heap[w.heap.size]?=some (.cells #[.int .i64 tn,.int .i64 ta] 132 (0,0)):=Qk f1 (heap_alloc_last w _) (by omega);have F:Fr b w w1:=((Fr.refl _ _).alloc _).trans f1;clear f1 hp H63;go_wp2_with fail;refine(Xp hp1).mono ?_;rintro e w2 ⟨x,rfl,hx,hp2,f2⟩;replace g0:=Qk f2 g0 (by omega);replace F:=F.trans f2;have n0:w.heap.size≠b:=by omega
  have l0:=lt_of_block g0;have a0:=Qa g0 0;have a1:=Qa g0 1;simp at a0 a1;have hx114:=hx.on (c:=114) (by decide)
  cases h114:onF s i (-1) 114 with
  | true=>
   rw[h114]at hx114;have hx':(x==114)=true:=hx114;clear hx hx114 f2 hp1 g0;go_wp2_with fail;have FIN:∀(p:Int)(w5:World),(givF s (tn,ta) i (-1)).bad=p→0≤p→Fr b w2.drew w5→Vr b g s w (givF s (tn,ta) i (-1)) (.panicked (brk p)) w5:=fun p w5 hb h0 f5=>
    .inr ⟨by rw[hb,ZD h0],by rw[hb,ZD h0];exact h0,F.drew.trans f5⟩
   have FIN':=Qc FIN;clear FIN;have HGV:givF s (tn,ta) i (-1)=if opC s (regI s i (-1)) (regB s i (-1))=0 then ⟨⟨99,(tn,ta),(regN s i (-1),i),(0,0),0⟩,opI s (regI s i (-1)) (regB s i (-1)),opB s (regI s i (-1)) (regB s i (-1))⟩
    else ⟨⟨opC s (regI s i (-1)) (regB s i (-1)),(tn,ta),(regN s i (-1),i),(regN s (opI s (regI s i (-1)) (regB s i (-1))) (opB s (regI s i (-1)) (regB s i (-1))),opI s (regI s i (-1)) (regB s i (-1))),0⟩,regI s (opI s (regI s i (-1)) (regB s i (-1))) (opB s (regI s i (-1)) (regB s i (-1))),regB s (opI s (regI s i (-1)) (regB s i (-1))) (opB s (regI s i (-1)) (regB s i (-1)))⟩:=by simp[givF,h63,h114]
   have HG:=Qc HGV;clear HGV h63 h114;rcases Int.lt_or_le (regB s i (-1)) 0 with h1|h1
   ·have e1:=(WD h1).2.2.1;have H1:=Qc h1;have HG2:=HG.o;rw[e1]at HG2;clear h1 HG e1;generalize hi1:regI s i (-1)=i1 at *;have HI1:=Qc hi1;generalize hn1:regN s i (-1)=n1 at *;have HN1:=Qc hn1;clear hi1 hn1
    cases h59:onF s i1 (-1) 59 with
    | true=>
     have hoc:opC s i1 (-1)=0:=by
      simp[opC,ZE h59 (show 59≠43 by decide),ZE h59 (show 59≠45 by decide),ZE h59 (show 59≠42 by decide),ZE h59 (show 59≠60 by decide),ZE h59 (show 59≠195 by decide)]
     have hoi:opI s i1 (-1)=i1:=by
      simp[opI,ZE h59 (show 59≠43 by decide),ZE h59 (show 59≠45 by decide),ZE h59 (show 59≠42 by decide),ZE h59 (show 59≠60 by decide),ZE h59 (show 59≠195 by decide)]
     have hob:opB s i1 (-1)=-1:=by
      simp[opB,ZE h59 (show 59≠43 by decide),ZE h59 (show 59≠45 by decide),ZE h59 (show 59≠42 by decide),ZE h59 (show 59≠60 by decide),ZE h59 (show 59≠195 by decide)]
     rw[if_pos hoc,hoi,hob]at HG2;have HG3:=Qc HG2;have H59:=Qc h59;clear HG2 h59 hoc hoi hob
     go_region_held (fun w'=>w'.cell? ⟨w.heap.size,0,none⟩=some (.int .i64 tn)∧w'.cell? ⟨w.heap.size,1,none⟩=some (.int .i64 ta)) (simp[*])
      (first | (go_at_call 199;refine(J0 (RS.drew hp2) hs H1.o).mono ?_;rintro e w5 ⟨rfl,hp5,f5⟩;have y0:=f5.cells (k:=w.heap.size) l0 n0;have l5:w.heap.size<w5.heap.size:=Nat.lt_of_lt_of_le l0 f5.size) | (go_at_call 245;rw[HI1.o]at hp5;refine(Qgs hp5 H59.o).mono ?_;rintro e w6 ⟨rfl,hp6,f6⟩;have y6:=f6.cells (k:=w.heap.size) l5 n0))
     go_wp2_with fail;go_ret;rw[HG3.o];exact .inl ⟨by rw[←HN1.o];rfl,rfl,hp6,(F.drew.trans f5).trans f6⟩
    | false=>
     by_cases hop:opC s i1 (-1)≠0∧opB s i1 (-1)<0
     ·have hob:opB s i1 (-1)=-1:=by
       have h2:=hop.2;unfold opB at h2 ⊢
       cases e1:onF s i1 (-1) 43 with
       | true=>rfl
       | false=>
        cases e2:onF s i1 (-1) 45 with
        | true=>rfl
        | false=>
         cases e3:onF s i1 (-1) 42 with
         | true=>rfl
         | false=>
          cases e4:onF s i1 (-1) 60 with
          | true=>rfl
          | false=>
           cases e5:onF s i1 (-1) 195 with
           | false=>rfl
           | true=>
            simp only[e1,e2,e3,e4,e5,Jp]at h2 ⊢
            cases e6:onF s (i1+1) (-1) 151 with
            | true=>rfl
            | false=>simp[e6]at h2;omega
      rw[if_neg hop.1,hob]at HG2;have HG3:=Qc HG2;have H59:=Qc h59;have HOP:=Qc hop;clear HG2 h59 hop hob;rcases Int.lt_or_le (regB s (opI s i1 (-1)) (-1)) 0 with h3|h3
      ·have H3:=Qc h3;have HB3:=Qc (WD h3).2.2.1;clear h3
       go_region_held (fun w'=>w'.cell? ⟨w.heap.size,0,none⟩=some (.int .i64 tn)∧w'.cell? ⟨w.heap.size,1,none⟩=some (.int .i64 ta)) (simp[*])
        (first | (go_at_call 199;refine(J0 (RS.drew hp2) hs H1.o).mono ?_;rintro e w5 ⟨rfl,hp5,f5⟩;have y0:=f5.cells (k:=w.heap.size) l0 n0;have l5:w.heap.size<w5.heap.size:=Nat.lt_of_lt_of_le l0 f5.size) | (go_at_call 245;rw[HI1.o]at hp5;refine(Qi6 hp5 hs H59.o HOP.o.1 HOP.o.2 H3.o).mono ?_;rintro e w6 ⟨rfl,hp6,f6⟩;have y6:=f6.cells (k:=w.heap.size) l5 n0))
       go_wp2_with fail;go_ret;rw[HG3.o];exact .inl ⟨by rw[QcP (s:=s) (i:=i1) (bad:=-1) rfl,←HN1.o];rfl,HB3.o,hp6,(F.drew.trans f5).trans f6⟩
      ·have H3:=Qc h3;have HB:Hid ((givF s (tn,ta) i (-1)).bad=regB s (opI s i1 (-1)) (-1)):=by show _=_;rw[HG3.o]
       clear h3
       go_region_held (fun w'=>w'.cell? ⟨w.heap.size,0,none⟩=some (.int .i64 tn)∧w'.cell? ⟨w.heap.size,1,none⟩=some (.int .i64 ta)) (first | exact(Hid.out ‹Hid False›).elim | simp[*])
        (first | (go_at_call 199;refine(J0 (RS.drew hp2) hs H1.o).mono ?_;rintro e w5 ⟨rfl,hp5,f5⟩;have y0:=f5.cells (k:=w.heap.size) l0 n0;have l5:w.heap.size<w5.heap.size:=Nat.lt_of_lt_of_le l0 f5.size) | (go_at_call 245;rw[HI1.o]at hp5;refine(WR (Qem hp5 hs H59.o HOP.o.1 HOP.o.2 H3.o) .nilIface).mono ?_;rintro e w6 (⟨rfl,f6⟩ | ⟨rfl,hF⟩);exact⟨rfl,FIN'.o _ _ HB.o H3.o (f5.trans f6)⟩))
       all_goals exact(Hid.out ‹Hid False›).elim
     ·have H59:=Qc h59;have HOP:=Qc hop;have HPST:Hid (∀w6,Fr b w2.drew w6→Vr b g s w (givF s (tn,ta) i (-1)) (.panicked (brk (YI s i1))) w6):=by
       intro w6 f6;rcases QiV hop with ⟨q1,q2,q3,q4⟩|⟨q1,q2,q3⟩
       ·rw[if_pos q1,q2,q3]at HG2;refine .inr ⟨?_,?_,F.drew.trans f6⟩
        ·rw[HG2,q4];simp only[Jp,h59];rfl
        ·rw[HG2];simp only[Jp,h59];simp
       ·rw[if_neg q1,q2]at HG2;exact FIN'.o _ _ (by rw[HG2];exact Gi q3) q3 f6
      clear HG2 h59 hop
      go_region_held (fun w'=>w'.cell? ⟨w.heap.size,0,none⟩=some (.int .i64 tn)∧w'.cell? ⟨w.heap.size,1,none⟩=some (.int .i64 ta)) (first | exact(Hid.out ‹Hid False›).elim | simp[*])
       (first | (go_at_call 199;refine(J0 (RS.drew hp2) hs H1.o).mono ?_;rintro e w5 ⟨rfl,hp5,f5⟩;have y0:=f5.cells (k:=w.heap.size) l0 n0;have l5:w.heap.size<w5.heap.size:=Nat.lt_of_lt_of_le l0 f5.size) | (go_at_call 245;rw[HI1.o]at hp5;refine(WR (Qi7 hp5 hs H59.o HOP.o) .nilIface).mono ?_;rintro e w6 (⟨rfl,f6⟩ | ⟨rfl,hF⟩);exact⟨rfl,HPST.o _ (f5.trans f6)⟩))
      all_goals exact(Hid.out ‹Hid False›).elim
   ·have H1:=Qc h1;have HB:Hid ((givF s (tn,ta) i (-1)).bad=regB s i (-1)):=by show _=_;rw[HG.o,if_pos (Qhn h1)];exact Qho h1
    clear h1 HG
    go_region_held (fun w'=>w'.cell? ⟨w.heap.size,0,none⟩=some (.int .i64 tn)∧w'.cell? ⟨w.heap.size,1,none⟩=some (.int .i64 ta)) (first | exact(Hid.out ‹Hid False›).elim | simp[*])
     (first | (go_at_call 199;refine(WR (WC (RS.drew hp2) hs H1.o) (.agg #[.int .i64 0,.int .i64 0])).mono ?_;rintro e w5 (⟨rfl,f5⟩ | ⟨rfl,hF⟩);exact⟨rfl,FIN'.o _ _ HB.o H1.o f5⟩) | (go_at_call 245;refine(Calls.mono (R:=fun e _=>e=.returned .nilIface) (Hid.out ‹Hid False›).elim ?_);rintro e w6 rfl))
    all_goals exact(Hid.out ‹Hid False›).elim
  | false=>
   rw[h114]at hx114;have hx':(x==114)=false:=hx114;clear hx hx114 f2 hp1;go_wp2_with fail
   cases h45:onF s i (-1) 45 with
   | true=>
    refine(Xf (c:=45) hp2 hs (by decide) h45).mono ?_;rintro e w3 ⟨rfl,hp3,f3⟩;replace g0:=Qk f3 g0 (by omega);replace F:=F.trans f3;replace l0:=lt_of_block g0;replace a0:=Qa g0 0;replace a1:=Qa g0 1;simp at a0 a1;clear f3 hp2 hx';go_wp2_with fail;refine(Xp hp3).mono ?_;rintro e w4 ⟨y,rfl,hy,hp4,f4⟩;replace g0:=Qk f4 g0 (by omega);replace F:=F.trans f4;replace l0:=lt_of_block g0;replace a0:=Qa g0 0;replace a1:=Qa g0 1;simp at a0 a1;have hy48:=hy.on (c:=48) (by decide);clear f4 hp3 hy g0
    cases h48:onF s (i+1) (-1) 48 with
    | true=>
     have HG:Hid ((givF s (tn,ta) i (-1)).bad=((i+1:Nat):Int)):=by
      show _=_;rw[givF,if_neg (by simp[h63]),if_neg (by simp[h114]),if_pos h45];simp only[h48,if_true,GV];exact XO (by omega)
     rw[h48]at hy48;have hy':(y==48)=true:=hy48;clear h63 h114 h45 h48 hy48;go_wp2_with fail;refine(YW hp4).mono ?_;rintro e w5 ⟨rfl,f5⟩;go_wp2_with fail;refine⟨rfl,.inr ⟨?_,?_,F.trans f5⟩⟩
     ·rw[HG.o,ZD (by omega)];rfl
     ·rw[HG.o,ZD (by omega)];omega
    | false=>
     rw[h48]at hy48;have hy':(y==48)=false:=hy48;have HG:Hid (givF s (tn,ta) i (-1)=⟨⟨118,(tn,ta),(0,0),(0,0),-(numN s (i+1) (-1):Int)⟩,numI s (i+1) (-1),Zd s (i+1) (-1)⟩):=by simp[Hid,givF,h63,h114,h45,h48]
     clear h63 h114 h45 h48 hy48;go_wp2_with fail
     cases hd:Q9 s (i+1) (-1) with
     | true=>
      have HD:=Qc hd;have nl:=Z2 s (i+1) (-1);have nl1:(0:Int)≤(numN s (i+1) (-1):Int):=by omega
      have nl2:(numN s (i+1) (-1):Int)<10000:=by omega
      clear hd
      go_region_held (fun w'=>w'.cell? ⟨w.heap.size,0,none⟩=some (.int .i64 tn)∧w'.cell? ⟨w.heap.size,1,none⟩=some (.int .i64 ta)) (simp[*])
       (first | (go_at_call 218;refine(V4 (RS.drew hp4) hs HD.o).mono ?_;rintro e w5 ⟨rfl,hp5,f5⟩;have y0:=f5.cells (k:=w.heap.size) l0 n0))
      go_wp2_with fail;go_ret;rw[HG.o];refine .inl ⟨by rw[show Value.int .i64 (IntKind.i64.wrap (-(numN s (i+1) (-1):Int)))=.int .i64 (-(numN s (i+1) (-1):Int)) from by rw[IntKind.wrap_i64];congr 1;omega];simp[QE],?_,hp5,F.drew.trans f5⟩;rw[J6,HD.o];rfl
     | false=>
      have HD:=Qc hd;have HB:Hid ((givF s (tn,ta) i (-1)).bad=((i+1:Nat):Int)):=by
       show _=_;rw[HG.o,J6,hd];rfl
      clear hd;have FIN:∀w5,Fr b w4.drew w5→Vr b g s w (givF s (tn,ta) i (-1)) (.panicked (brk ((i+1:Nat):Int))) w5:=fun w5 f5=>
       .inr ⟨by rw[HB.o,ZD (by omega)],by rw[HB.o,ZD (by omega)];omega,F.drew.trans f5⟩
      have FIN':=Qc FIN;clear FIN
      go_region_held (fun w'=>w'.cell? ⟨w.heap.size,0,none⟩=some (.int .i64 tn)∧w'.cell? ⟨w.heap.size,1,none⟩=some (.int .i64 ta)) (first | exact(Hid.out ‹Hid False›).elim | simp[*])
       (first | (go_at_call 218;refine(WR (GJ (RS.drew hp4) HD.o) (.int .i64 0)).mono ?_;rintro e w5 (⟨rfl,f5⟩ | ⟨rfl,hF⟩);exact⟨rfl,FIN'.o _ f5⟩))
      all_goals exact(Hid.out ‹Hid False›).elim
   | false=>
    refine(XP (c:=45) hp2 (by decide) h45).mono ?_;rintro e w3 ⟨rfl,hp3,f3⟩;replace g0:=Qk f3 g0 (by omega);replace F:=F.trans f3;replace l0:=lt_of_block g0;replace a0:=Qa g0 0;replace a1:=Qa g0 1;simp at a0 a1;have HG:Hid (givF s (tn,ta) i (-1)=⟨⟨118,(tn,ta),(0,0),(0,0),numN s i (-1)⟩,numI s i (-1),Zd s i (-1)⟩):=by simp[Hid,givF,h63,h114,h45]
    clear f3 hp2 hx' h63 h114 h45 g0;go_wp2_with fail
    cases hd:Q9 s i (-1) with
    | true=>
     have HD:=Qc hd;clear hd
     go_region_held (fun w'=>w'.cell? ⟨w.heap.size,0,none⟩=some (.int .i64 tn)∧w'.cell? ⟨w.heap.size,1,none⟩=some (.int .i64 ta)) (simp[*])
      (first | (go_at_call 218;refine(V4 (RS.drew hp3) hs HD.o).mono ?_;rintro e w5 ⟨rfl,hp5,f5⟩;have y0:=f5.cells (k:=w.heap.size) l0 n0))
     go_wp2_with fail;go_ret;rw[HG.o];refine .inl ⟨rfl,?_,hp5,F.drew.trans f5⟩;rw[J6,HD.o];rfl
    | false=>
     have HD:=Qc hd;have HB:Hid ((givF s (tn,ta) i (-1)).bad=(i:Int)):=by
      show _=_;rw[HG.o,J6,hd];rfl
     clear hd;have FIN:∀w5,Fr b w3.drew w5→Vr b g s w (givF s (tn,ta) i (-1)) (.panicked (brk (i:Int))) w5:=fun w5 f5=>
      .inr ⟨by rw[HB.o,ZD (by omega)],by rw[HB.o,ZD (by omega)];omega,F.drew.trans f5⟩
     have FIN':=Qc FIN;clear FIN
     go_region_held (fun w'=>w'.cell? ⟨w.heap.size,0,none⟩=some (.int .i64 tn)∧w'.cell? ⟨w.heap.size,1,none⟩=some (.int .i64 ta)) (first | exact(Hid.out ‹Hid False›).elim | simp[*])
      (first | (go_at_call 218;refine(WR (GJ (RS.drew hp3) HD.o) (.int .i64 0)).mono ?_;rintro e w5 (⟨rfl,f5⟩ | ⟨rfl,hF⟩);exact⟨rfl,FIN'.o _ f5⟩))
     all_goals exact(Hid.out ‹Hid False›).elim
def QP(e:Z3):Value:=
 if e.op=46 then .iface 309 (.agg #[])
 else if e.op=62 then .iface 312 (.agg #[.int .i64 e.one.1,.int .i64 e.one.2])
 else .iface 353 (.agg #[.int .i64 e.a.1,.int .i64 e.a.2,.int .i64 e.one.1,.int .i64 e.one.2,.int .i64 e.two.1,.int .i64 e.two.2])
def VI(s:ByteArray)(a:Nat×Nat)(i:Nat):Bra:=
 let i2:=numI s i (-1)
 let b2:=Zd s i (-1)
 let i3:=gotI s i2 b2 58
 let b3:=mustB s i2 b2 58
 ⟨⟨63,a,(numN s i (-1),i),(numN s i3 b3,i3)⟩,numI s i3 b3,Zd s i3 b3⟩
theorem QeN{s a i}(h:onF s i (-1) 63=true):braF s a i (-1)=VI s a (i+1):=by
 have g1:gotI s i (-1) 63=i+1:=by rw[gotI,if_pos h]
 have g2:mustB s i (-1) 63=-1:=by rw[mustB,if_pos h]
 simp only[braF,VI,g1,g2]
theorem Qbx{s a i}(h:onF s i (-1) 63=false):(braF s a i (-1)).bad=i:=by
 have g2:mustB s i (-1) 63=i:=by rw[Jp,h];rfl
 simp only[braF,g2];rw[XO,ZD,XO]
 all_goals first | omega | (rw[XO (by omega)];omega) | (rw[ZD,XO]<;>first | omega | (rw[XO (by omega)];omega))
def QbN(b g:Nat)(s:ByteArray)(w:World)(r:Bra)(e:Ending)(w':World):Prop:=
 (e=.returned (QP r.e)∧r.bad=-1∧RS w' b g s r.i∧Fr b w w')∨(e=.panicked (brk r.bad)∧0≤r.bad∧Fr b w w')
theorem Qen{b g:Nat}{s:ByteArray}{i an aa:Nat}{w:World}(hp:RS w b g s i)(hs:s.size≤200000):
  Calls Tryz.prog 219 #[.pointer (some ⟨b,0,none⟩),.agg #[.int .i64 an,.int .i64 aa]] w fun e w'=>QbN b g s w (VI s (an,aa) i) e w':=by
 have hl:=hp.lt;have hgl:=hp.glt
 cases hd:Q9 s i (-1) with
 | false=>
  have HB:Hid ((VI s (an,aa) i).bad=i):=by
   have g1:Zd s i (-1)=i:=by rw[J6,hd];rfl
   show _=_;simp only[VI,g1];rw[XO,ZD]
   ·omega
   ·rw[ZD (by omega)];omega
  have HD:=Qc hd;clear hd;go_enter Tryz.func219,Tryz.ntmps219;go_wp2_with fail;refine(V7 (hp.alloc _) HD.o).mono ?_;rintro e w1 ⟨rfl,f1⟩;go_wp2_with fail;exact⟨rfl,.inr ⟨by rw[HB.o],by rw[HB.o];omega,((Fr.refl _ _).alloc _).trans f1⟩⟩
 | true=>
  have HD:=Qc hd;have g1:Zd s i (-1)=-1:=by rw[J6,hd];rfl
  have HT:VI s (an,aa) i=⟨⟨63,(an,aa),(numN s i (-1),i),(numN s (gotI s (numI s i (-1)) (-1) 58) (mustB s (numI s i (-1)) (-1) 58),gotI s (numI s i (-1)) (-1) 58)⟩,numI s (gotI s (numI s i (-1)) (-1) 58) (mustB s (numI s i (-1)) (-1) 58),Zd s (gotI s (numI s i (-1)) (-1) 58) (mustB s (numI s i (-1)) (-1) 58)⟩:=by simp only[VI,g1]
  clear hd g1;go_enter Tryz.func219,Tryz.ntmps219;go_wp2_with fail;refine(Vb (hp.alloc _) hs HD.o).mono ?_;rintro e w1 ⟨rfl,hp1,f1⟩;have l1:=hp1.lt;have lg1:=hp1.glt;have g0:w1.heap[w.heap.size]?=some (.cells #[.int .i64 an,.int .i64 aa] 132 (0,0)):=Qk f1 (heap_alloc_last w _) (by omega);have lw:=f1.size;rw[World.size_alloc]at lw;have F:Fr b w w1:=((Fr.refl _ _).alloc _).trans f1;have HT':=Qc HT;clear HT f1;generalize numI s i (-1)=i2 at *;generalize numN s i (-1)=n1 at *;go_wp2_with fail
  cases h58:onF s i2 (-1) 58 with
  | false=>
   have HB:Hid ((VI s (an,aa) i).bad=i2):=by
    show _=_;have g3:mustB s i2 (-1) 58=i2:=by rw[Jp,h58];rfl
    rw[HT'.o,g3];show Zd s (gotI s i2 (-1) 58) (i2:Int)=i2;exact XO (by omega)
   refine(Kt (c:=58) (hp1.alloc _) (by decide) h58).mono ?_;rintro e w2 ⟨rfl,f2⟩;clear h58;go_wp2_with fail;exact⟨rfl,.inr ⟨by rw[HB.o],by rw[HB.o];omega,(F.alloc _).trans f2⟩⟩
  | true=>
   have e3:gotI s i2 (-1) 58=i2+1:=by rw[gotI,if_pos h58]
   have e4:mustB s i2 (-1) 58=-1:=by rw[mustB,if_pos h58]
   have HT2:=HT'.o;rw[e3,e4]at HT2;have HT3:=Qc HT2;refine(Jg (c:=58) (hp1.alloc _) hs (by decide) h58).mono ?_;rintro e w2 ⟨rfl,hp2,f2⟩;have gg:=f2.own (by omega);replace g0:=Qk f2 (Qj g0 _) (by omega);replace F:=(F.alloc _).trans f2;have lw2:=f2.size;rw[World.size_alloc]at lw2;clear h58 HT' HT2 e3 e4 f2;have a0:=Qa g0 0;have a1:=Qa g0 1;have c0:=Qa gg 0;have c1:=Qa gg 1;simp at a0 a1 c0 c1;have k0:w.heap.size<w2.heap.size:=by omega
   have k1:w1.heap.size<w2.heap.size:=by omega
   have n0:w.heap.size≠b:=by omega
   have n1':w1.heap.size≠b:=by omega
   clear g0 gg;go_wp2_with fail
   cases hd2:Q9 s (i2+1) (-1) with
   | true=>
    have HD2:=Qc hd2;clear hd2
    go_region_held (fun w'=>w'.cell? ⟨w.heap.size,0,none⟩=some (.int .i64 an)∧w'.cell? ⟨w.heap.size,1,none⟩=some (.int .i64 aa)∧w'.cell? ⟨w1.heap.size,0,none⟩=some (.int .i64 n1)∧w'.cell? ⟨w1.heap.size,1,none⟩=some (.int .i64 i)) (simp[*])
     (first | (go_at_call 198;refine(Vb (RS.drew hp2) hs HD2.o).mono ?_;rintro e w5 ⟨rfl,hp5,f5⟩;have y0:=f5.cells (k:=w.heap.size) k0 n0;have y1:=f5.cells (k:=w1.heap.size) k1 n1'))
    go_wp2_with fail;go_ret;rw[HT3.o];refine .inl ⟨rfl,?_,hp5,F.drew.trans f5⟩;rw[J6,HD2.o];rfl
   | false=>
    have HD2:=Qc hd2;have HB:Hid ((VI s (an,aa) i).bad=((i2+1:Nat):Int)):=by
     show _=_;rw[HT3.o,J6,hd2];rfl
    clear hd2;have FIN:Hid (∀w5,Fr b w2.drew w5→QbN b g s w (VI s (an,aa) i) (.panicked (brk ((i2+1:Nat):Int))) w5):=fun w5 f5=>
     .inr ⟨by rw[HB.o],by rw[HB.o];omega,F.drew.trans f5⟩
    go_region_held (fun w'=>w'.cell? ⟨w.heap.size,0,none⟩=some (.int .i64 an)∧w'.cell? ⟨w.heap.size,1,none⟩=some (.int .i64 aa)∧w'.cell? ⟨w1.heap.size,0,none⟩=some (.int .i64 n1)∧w'.cell? ⟨w1.heap.size,1,none⟩=some (.int .i64 i)) (first | exact(Hid.out ‹Hid False›).elim | simp[*])
     (first | (go_at_call 198;refine(WR (V7 (RS.drew hp2) HD2.o) (.agg #[.int .i64 0,.int .i64 0])).mono ?_;rintro e w5 (⟨rfl,f5⟩ | ⟨rfl,hF⟩);exact⟨rfl,FIN.o _ f5⟩))
    all_goals exact(Hid.out ‹Hid False›).elim
end Go.Proofs.YtgfhfkgdmidhpaaGreatDoor
