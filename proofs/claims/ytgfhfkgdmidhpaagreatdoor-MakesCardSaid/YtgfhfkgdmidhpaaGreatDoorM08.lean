import Derived.Test.YtgfhfkgdmidhpaaGreatDoorM07
import Derived.Deep.RegionHeldLaw
import Derived.Deep.RegionLaw
namespace Go.Proofs.YtgfhfkgdmidhpaaGreatDoor
open Go.RowKit
open Tryz
set_option maxRecDepth 100000
set_option maxHeartbeats 8000000
def QS(t:Qz):Value:=
 if t.op=63 then .iface 272 (.agg #[.int .i64 t.to.1,.int .i64 t.to.2])
 else if t.op=99 then .iface 142 (.agg #[.int .i64 t.to.1,.int .i64 t.to.2,.int .i64 t.a.1,.int .i64 t.a.2])
 else if t.op=118 then .iface 177 (.agg #[.int .i64 t.to.1,.int .i64 t.to.2,.int .i64 t.n])
 else if t.op=33 then .iface 315 (.agg #[.int .i64 t.a.1,.int .i64 t.a.2])
 else .iface 370 (.agg #[.int .i64 t.to.1,.int .i64 t.to.2,.int .i64 t.a.1,.int .i64 t.a.2,.int .i64 (Je t.op),.int .i64 t.b.1,.int .i64 t.b.2])
theorem Nt(t:Qz):∃T x,QS t=.iface T x:=by
 unfold QS
 repeat' split
 all_goals exact⟨_,_,rfl⟩
theorem Qc4(s i bad):opC s i bad=0∨opC s i bad=43∨opC s i bad=45∨opC s i bad=42∨opC s i bad=60:=by
 unfold opC
 repeat' split
 all_goals simp
theorem QdR{t:Qz} {s i bad}(h:t.op=opC s i bad):QS t=.iface 370 (.agg #[.int .i64 t.to.1,.int .i64 t.to.2,.int .i64 t.a.1,.int .i64 t.a.2,.int .i64 (Je t.op),.int .i64 t.b.1,.int .i64 t.b.2]):=by
 have:=Qc4 s i bad;unfold QS;rw[if_neg (by omega),if_neg (by omega),if_neg (by omega),if_neg (by omega)]
theorem Qkv{s i}(h:¬(opC s i (-1)≠0∧opB s i (-1)<0)):
  (opC s i (-1)=0∧opB s i (-1)=-1∧opI s i (-1)=i∧Vd s i=i)∨(opC s i (-1)≠0∧opB s i (-1)=Vd s i∧0≤Vd s i):=by
 by_cases h0:opC s i (-1)=0
 ·left;refine⟨h0,?_⟩;unfold opC at h0;have e1:onF s i (-1) 43=false:=by cases e:onF s i (-1) 43 with|false=>rfl|true=>simp[e]at h0
  have e2:onF s i (-1) 45=false:=by cases e:onF s i (-1) 45 with|false=>rfl|true=>simp[e1,e]at h0
  have e3:onF s i (-1) 42=false:=by cases e:onF s i (-1) 42 with|false=>rfl|true=>simp[e1,e2,e]at h0
  have e4:onF s i (-1) 60=false:=by cases e:onF s i (-1) 60 with|false=>rfl|true=>simp[e1,e2,e3,e]at h0
  have e5:onF s i (-1) 195=false:=by cases e:onF s i (-1) 195 with|false=>rfl|true=>simp[e1,e2,e3,e4,e]at h0
  simp[opB,opI,Vd,e1,e2,e3,e4,e5]
 ·right;have hB:0≤opB s i (-1):=by
   rcases Int.lt_or_le (opB s i (-1)) 0 with h1|h1
   ·exact absurd ⟨h0,h1⟩ h
   ·exact h1
  refine⟨h0,?_⟩;unfold opB at hB ⊢
  cases e1:onF s i (-1) 43 with
  | true=>simp[e1]at hB
  | false=>
   cases e2:onF s i (-1) 45 with
   | true=>simp[e1,e2]at hB
   | false=>
    cases e3:onF s i (-1) 42 with
    | true=>simp[e1,e2,e3]at hB
    | false=>
     cases e4:onF s i (-1) 60 with
     | true=>simp[e1,e2,e3,e4]at hB
     | false=>
      cases e5:onF s i (-1) 195 with
      | false=>simp[e1,e2,e3,e4,e5]at hB
      | true=>
       simp only[e1,e2,e3,e4,e5,JA,Vd]at hB ⊢
       cases e6:onF s (i+1) (-1) 151 with
       | true=>simp[e6]at hB
       | false=>simp;omega
def V2(b g:Nat)(s:ByteArray)(w:World)(r:Giv)(e:Ending)(w':World):Prop:=
 (e=.returned (QS r.st)∧r.bad=-1∧RS w' b g s r.i∧Fr b w w')∨(e=.panicked (brk (mustB s r.i r.bad 59))∧0≤mustB s r.i r.bad 59∧Fr b w w')
theorem Qbb{b g:Nat}{s:ByteArray}{i tn ta:Nat}{w:World}(hp:RS w b g s i)(hs:s.size≤200000):
  Calls prog 220 #[.pointer (some ⟨b,0,none⟩),.agg #[.int .i64 tn,.int .i64 ta]] w fun e w'=>V2 b g s w (givF s (tn,ta) i (-1)) e w':=by
 have hl:=hp.lt;have hgl:=hp.glt
 cases h63:onF s i (-1) 63 with
 | true=>
  have HG:Hid (givF s (tn,ta) i (-1)=⟨⟨63,(tn,ta),(0,0),(0,0),0⟩,i+1,-1⟩):=by simp[Hid,givF,h63]
  have H63:=Qc h63;clear h63;go_enter func220,ntmps220;go_wp2_with fail;refine(XD (c:=63) (hp.alloc _) hs (by decide) H63.o).mono ?_;rintro e w1 ⟨rfl,hp1,f1⟩;have g0:w1.heap[w.heap.size]?=some (.cells #[.int .i64 tn,.int .i64 ta] 132 (0,0)):=Qn f1 (heap_alloc_last w _) (by omega);have q0:=Qb g0;clear g0;go_wp2_with fail;go_ret;rw[HG.o];exact .inl ⟨rfl,rfl,hp1,((Fr.refl _ _).alloc _).trans f1⟩
 | false=>
  have H63:=Qc h63;go_enter func220,ntmps220;go_wp2_with fail;refine(X2 (c:=63) (hp.alloc _) (by decide) H63.o).mono ?_;rintro e w1 ⟨rfl,hp1,f1⟩;have g0:w1.heap[w.heap.size]?=some (.cells #[.int .i64 tn,.int .i64 ta] 132 (0,0)):=Qn f1 (heap_alloc_last w _) (by omega);have F:Fr b w w1:=((Fr.refl _ _).alloc _).trans f1;clear f1 hp H63;go_wp2_with fail;refine(XI hp1).mono ?_;rintro e w2 ⟨x,rfl,hx,hp2,f2⟩;replace g0:=Qn f2 g0 (by omega);replace F:=F.trans f2;have n0:w.heap.size≠b:=by omega
  have l0:=lt_of_block g0;have a0:=Qb g0 0;have a1:=Qb g0 1;simp at a0 a1;have hx114:=hx.on (c:=114) (by decide)
  cases h114:onF s i (-1) 114 with
  | true=>
   rw[h114]at hx114;have hx':(x==114)=true:=hx114;clear hx hx114 f2 hp1 g0;go_wp2_with fail;have FIN:∀(p:Int)(w5:World),(givF s (tn,ta) i (-1)).bad=p→0≤p→Fr b w2.drew w5→V2 b g s w (givF s (tn,ta) i (-1)) (.panicked (brk p)) w5:=fun p w5 hb h0 f5=>
    .inr ⟨by rw[hb,ZV h0],by rw[hb,ZV h0];exact h0,F.drew.trans f5⟩
   have FIN':=Qc FIN;clear FIN;have HGV:givF s (tn,ta) i (-1)=if opC s (regI s i (-1)) (regB s i (-1))=0 then ⟨⟨99,(tn,ta),(regN s i (-1),i),(0,0),0⟩,opI s (regI s i (-1)) (regB s i (-1)),opB s (regI s i (-1)) (regB s i (-1))⟩
    else ⟨⟨opC s (regI s i (-1)) (regB s i (-1)),(tn,ta),(regN s i (-1),i),(regN s (opI s (regI s i (-1)) (regB s i (-1))) (opB s (regI s i (-1)) (regB s i (-1))),opI s (regI s i (-1)) (regB s i (-1))),0⟩,regI s (opI s (regI s i (-1)) (regB s i (-1))) (opB s (regI s i (-1)) (regB s i (-1))),regB s (opI s (regI s i (-1)) (regB s i (-1))) (opB s (regI s i (-1)) (regB s i (-1)))⟩:=by simp[givF,h63,h114]
   have HG:=Qc HGV;clear HGV h63 h114;rcases Int.lt_or_le (regB s i (-1)) 0 with h1|h1
   ·have e1:=(Ux h1).2.2.1;have H1:=Qc h1;have HG2:=HG.o;rw[e1]at HG2;clear h1 HG e1;generalize hi1:regI s i (-1)=i1 at *;have HI1:=Qc hi1;generalize hn1:regN s i (-1)=n1 at *;have HN1:=Qc hn1;clear hi1 hn1
    cases h59:onF s i1 (-1) 59 with
    | true=>
     have hoc:opC s i1 (-1)=0:=by
      simp[opC,ZX h59 (show 59≠43 by decide),ZX h59 (show 59≠45 by decide),ZX h59 (show 59≠42 by decide),ZX h59 (show 59≠60 by decide),ZX h59 (show 59≠195 by decide)]
     have hoi:opI s i1 (-1)=i1:=by
      simp[opI,ZX h59 (show 59≠43 by decide),ZX h59 (show 59≠45 by decide),ZX h59 (show 59≠42 by decide),ZX h59 (show 59≠60 by decide),ZX h59 (show 59≠195 by decide)]
     have hob:opB s i1 (-1)=-1:=by
      simp[opB,ZX h59 (show 59≠43 by decide),ZX h59 (show 59≠45 by decide),ZX h59 (show 59≠42 by decide),ZX h59 (show 59≠60 by decide),ZX h59 (show 59≠195 by decide)]
     rw[if_pos hoc,hoi,hob]at HG2;have HG3:=Qc HG2;have H59:=Qc h59;clear HG2 h59 hoc hoi hob
     go_region_held (fun w'=>w'.cell? ⟨w.heap.size,0,none⟩=some (.int .i64 tn)∧w'.cell? ⟨w.heap.size,1,none⟩=some (.int .i64 ta)) (simp[*])
      (first | (go_at_call 199;refine(Kd (RS.drew hp2) hs H1.o).mono ?_;rintro e w5 ⟨rfl,hp5,f5⟩;have y0:=f5.cells (k:=w.heap.size) l0 n0;have l5:w.heap.size<w5.heap.size:=QH l0 f5.size) | (go_at_call 245;rw[HI1.o]at hp5;refine(Qh2 hp5 H59.o).mono ?_;rintro e w6 ⟨rfl,hp6,f6⟩;have y6:=f6.cells (k:=w.heap.size) l5 n0))
     go_wp2_with fail;go_ret;rw[HG3.o];exact .inl ⟨by rw[←HN1.o];rfl,rfl,hp6,(F.drew.trans f5).trans f6⟩
    | false=>
     by_cases hop:opC s i1 (-1)≠0∧opB s i1 (-1)<0
     ·have hob:opB s i1 (-1)=-1:=by
       have h2:=hop.2;unfold opB at h2 ⊢
       cases e1:onF s i1 (-1) 43 with
       | true=>rfl
       | false=>
        cases e2:onF s i1 (-1) 45 with
        | true=>rfl
        | false=>
         cases e3:onF s i1 (-1) 42 with
         | true=>rfl
         | false=>
          cases e4:onF s i1 (-1) 60 with
          | true=>rfl
          | false=>
           cases e5:onF s i1 (-1) 195 with
           | false=>rfl
           | true=>
            simp only[e1,e2,e3,e4,e5,JA]at h2 ⊢
            cases e6:onF s (i1+1) (-1) 151 with
            | true=>rfl
            | false=>simp[e6]at h2;omega
      rw[if_neg hop.1,hob]at HG2;have HG3:=Qc HG2;have H59:=Qc h59;have HOP:=Qc hop;clear HG2 h59 hop hob;rcases Int.lt_or_le (regB s (opI s i1 (-1)) (-1)) 0 with h3|h3
      ·have H3:=Qc h3;have HB3:=Qc (Ux h3).2.2.1;clear h3
       go_region_held (fun w'=>w'.cell? ⟨w.heap.size,0,none⟩=some (.int .i64 tn)∧w'.cell? ⟨w.heap.size,1,none⟩=some (.int .i64 ta)) (simp[*])
        (first | (go_at_call 199;refine(Kd (RS.drew hp2) hs H1.o).mono ?_;rintro e w5 ⟨rfl,hp5,f5⟩;have y0:=f5.cells (k:=w.heap.size) l0 n0;have l5:w.heap.size<w5.heap.size:=QH l0 f5.size) | (go_at_call 245;rw[HI1.o]at hp5;refine(QkM hp5 hs H59.o HOP.o.1 HOP.o.2 H3.o).mono ?_;rintro e w6 ⟨rfl,hp6,f6⟩;have y6:=f6.cells (k:=w.heap.size) l5 n0))
       go_wp2_with fail;go_ret;rw[HG3.o];exact .inl ⟨by rw[QdR (s:=s) (i:=i1) (bad:=-1) rfl,←HN1.o];rfl,HB3.o,hp6,(F.drew.trans f5).trans f6⟩
      ·have H3:=Qc h3;have HB:Hid ((givF s (tn,ta) i (-1)).bad=regB s (opI s i1 (-1)) (-1)):=by show _=_;rw[HG3.o]
       clear h3
       go_region_held (fun w'=>w'.cell? ⟨w.heap.size,0,none⟩=some (.int .i64 tn)∧w'.cell? ⟨w.heap.size,1,none⟩=some (.int .i64 ta)) (first | exact(Hid.out ‹Hid False›).elim | simp[*])
        (first | (go_at_call 199;refine(Kd (RS.drew hp2) hs H1.o).mono ?_;rintro e w5 ⟨rfl,hp5,f5⟩;have y0:=f5.cells (k:=w.heap.size) l0 n0;have l5:w.heap.size<w5.heap.size:=QH l0 f5.size) | (go_at_call 245;rw[HI1.o]at hp5;refine(UI (QfD hp5 hs H59.o HOP.o.1 HOP.o.2 H3.o) .nilIface).mono ?_;rintro e w6 (⟨rfl,f6⟩ | ⟨rfl,hF⟩);exact⟨rfl,FIN'.o _ _ HB.o H3.o (f5.trans f6)⟩))
       all_goals exact(Hid.out ‹Hid False›).elim
     ·have H59:=Qc h59;have HOP:=Qc hop;have HPST:Hid (∀w6,Fr b w2.drew w6→V2 b g s w (givF s (tn,ta) i (-1)) (.panicked (brk (Vd s i1))) w6):=by
       intro w6 f6;rcases Qkv hop with ⟨q1,q2,q3,q4⟩|⟨q1,q2,q3⟩
       ·rw[if_pos q1,q2,q3]at HG2;refine .inr ⟨?_,?_,F.drew.trans f6⟩
        ·rw[HG2,q4];simp only[JA,h59];rfl
        ·rw[HG2];simp only[JA,h59];simp
       ·rw[if_neg q1,q2]at HG2;exact FIN'.o _ _ (by rw[HG2];exact Rg q3) q3 f6
      clear HG2 h59 hop
      go_region_held (fun w'=>w'.cell? ⟨w.heap.size,0,none⟩=some (.int .i64 tn)∧w'.cell? ⟨w.heap.size,1,none⟩=some (.int .i64 ta)) (first | exact(Hid.out ‹Hid False›).elim | simp[*])
       (first | (go_at_call 199;refine(Kd (RS.drew hp2) hs H1.o).mono ?_;rintro e w5 ⟨rfl,hp5,f5⟩;have y0:=f5.cells (k:=w.heap.size) l0 n0;have l5:w.heap.size<w5.heap.size:=QH l0 f5.size) | (go_at_call 245;rw[HI1.o]at hp5;refine(UI (QkN hp5 hs H59.o HOP.o) .nilIface).mono ?_;rintro e w6 (⟨rfl,f6⟩ | ⟨rfl,hF⟩);exact⟨rfl,HPST.o _ (f5.trans f6)⟩))
      all_goals exact(Hid.out ‹Hid False›).elim
   ·have H1:=Qc h1;have HB:Hid ((givF s (tn,ta) i (-1)).bad=regB s i (-1)):=by show _=_;rw[HG.o,if_pos (Qi1 h1)];exact Qi2 h1
    clear h1 HG
    go_region_held (fun w'=>w'.cell? ⟨w.heap.size,0,none⟩=some (.int .i64 tn)∧w'.cell? ⟨w.heap.size,1,none⟩=some (.int .i64 ta)) (first | exact(Hid.out ‹Hid False›).elim | simp[*])
     (first | (go_at_call 199;refine(UI (Uw (RS.drew hp2) hs H1.o) (.agg #[.int .i64 0,.int .i64 0])).mono ?_;rintro e w5 (⟨rfl,f5⟩ | ⟨rfl,hF⟩);exact⟨rfl,FIN'.o _ _ HB.o H1.o f5⟩) | (go_at_call 245;refine(Calls.mono (R:=fun e _=>e=.returned .nilIface) (Hid.out ‹Hid False›).elim ?_);rintro e w6 rfl))
    all_goals exact(Hid.out ‹Hid False›).elim
  | false=>
   rw[h114]at hx114;have hx':(x==114)=false:=hx114;clear hx hx114 f2 hp1;go_wp2_with fail
   cases h45:onF s i (-1) 45 with
   | true=>
    refine(XD (c:=45) hp2 hs (by decide) h45).mono ?_;rintro e w3 ⟨rfl,hp3,f3⟩;replace g0:=Qn f3 g0 (by omega);replace F:=F.trans f3;replace l0:=lt_of_block g0;replace a0:=Qb g0 0;replace a1:=Qb g0 1;simp at a0 a1;clear f3 hp2 hx';go_wp2_with fail;refine(XI hp3).mono ?_;rintro e w4 ⟨y,rfl,hy,hp4,f4⟩;replace g0:=Qn f4 g0 (by omega);replace F:=F.trans f4;replace l0:=lt_of_block g0;replace a0:=Qb g0 0;replace a1:=Qb g0 1;simp at a0 a1;have hy48:=hy.on (c:=48) (by decide);clear f4 hp3 hy g0
    cases h48:onF s (i+1) (-1) 48 with
    | true=>
     have HG:Hid ((givF s (tn,ta) i (-1)).bad=((i+1:Nat):Int)):=by
      show _=_;rw[givF,if_neg (by simp[h63]),if_neg (by simp[h114]),if_pos h45];simp only[h48,if_true,RP];exact X1 (by omega)
     rw[h48]at hy48;have hy':(y==48)=true:=hy48;clear h63 h114 h45 h48 hy48;go_wp2_with fail;refine(Vq hp4).mono ?_;rintro e w5 ⟨rfl,f5⟩;go_wp2_with fail;refine⟨rfl,.inr ⟨?_,?_,F.trans f5⟩⟩
     ·rw[HG.o,ZV (by omega)];rfl
     ·rw[HG.o,ZV (by omega)];omega
    | false=>
     rw[h48]at hy48;have hy':(y==48)=false:=hy48;have HG:Hid (givF s (tn,ta) i (-1)=⟨⟨118,(tn,ta),(0,0),(0,0),-(numN s (i+1) (-1):Int)⟩,numI s (i+1) (-1),Zx s (i+1) (-1)⟩):=by simp[Hid,givF,h63,h114,h45,h48]
     clear h63 h114 h45 h48 hy48;go_wp2_with fail
     cases hd:Zr s (i+1) (-1) with
     | true=>
      have HD:=Qc hd;have nl:=Xo s (i+1) (-1);have nl1:(0:Int)≤(numN s (i+1) (-1):Int):=by omega
      have nl2:(numN s (i+1) (-1):Int)<10000:=by omega
      clear hd
      go_region_held (fun w'=>w'.cell? ⟨w.heap.size,0,none⟩=some (.int .i64 tn)∧w'.cell? ⟨w.heap.size,1,none⟩=some (.int .i64 ta)) (simp[*])
       (first | (go_at_call 218;refine(WU (RS.drew hp4) hs HD.o).mono ?_;rintro e w5 ⟨rfl,hp5,f5⟩;have y0:=f5.cells (k:=w.heap.size) l0 n0))
      go_wp2_with fail;go_ret;rw[HG.o];refine .inl ⟨by rw[show Value.int .i64 (IntKind.i64.wrap (-(numN s (i+1) (-1):Int)))=.int .i64 (-(numN s (i+1) (-1):Int)) from by rw[IntKind.wrap_i64];congr 1;omega];simp[QS],?_,hp5,F.drew.trans f5⟩;rw[Kj,HD.o];rfl
     | false=>
      have HD:=Qc hd;have HB:Hid ((givF s (tn,ta) i (-1)).bad=((i+1:Nat):Int)):=by
       show _=_;rw[HG.o,Kj,hd];rfl
      clear hd;have FIN:∀w5,Fr b w4.drew w5→V2 b g s w (givF s (tn,ta) i (-1)) (.panicked (brk ((i+1:Nat):Int))) w5:=fun w5 f5=>
       .inr ⟨by rw[HB.o,ZV (by omega)],by rw[HB.o,ZV (by omega)];omega,F.drew.trans f5⟩
      have FIN':=Qc FIN;clear FIN
      go_region_held (fun w'=>w'.cell? ⟨w.heap.size,0,none⟩=some (.int .i64 tn)∧w'.cell? ⟨w.heap.size,1,none⟩=some (.int .i64 ta)) (first | exact(Hid.out ‹Hid False›).elim | simp[*])
       (first | (go_at_call 218;refine(UI (Rv (RS.drew hp4) HD.o) (.int .i64 0)).mono ?_;rintro e w5 (⟨rfl,f5⟩ | ⟨rfl,hF⟩);exact⟨rfl,FIN'.o _ f5⟩))
      all_goals exact(Hid.out ‹Hid False›).elim
   | false=>
    refine(X2 (c:=45) hp2 (by decide) h45).mono ?_;rintro e w3 ⟨rfl,hp3,f3⟩;replace g0:=Qn f3 g0 (by omega);replace F:=F.trans f3;replace l0:=lt_of_block g0;replace a0:=Qb g0 0;replace a1:=Qb g0 1;simp at a0 a1;have HG:Hid (givF s (tn,ta) i (-1)=⟨⟨118,(tn,ta),(0,0),(0,0),numN s i (-1)⟩,numI s i (-1),Zx s i (-1)⟩):=by simp[Hid,givF,h63,h114,h45]
    clear f3 hp2 hx' h63 h114 h45 g0;go_wp2_with fail
    cases hd:Zr s i (-1) with
    | true=>
     have HD:=Qc hd;clear hd
     go_region_held (fun w'=>w'.cell? ⟨w.heap.size,0,none⟩=some (.int .i64 tn)∧w'.cell? ⟨w.heap.size,1,none⟩=some (.int .i64 ta)) (simp[*])
      (first | (go_at_call 218;refine(WU (RS.drew hp3) hs HD.o).mono ?_;rintro e w5 ⟨rfl,hp5,f5⟩;have y0:=f5.cells (k:=w.heap.size) l0 n0))
     go_wp2_with fail;go_ret;rw[HG.o];refine .inl ⟨rfl,?_,hp5,F.drew.trans f5⟩;rw[Kj,HD.o];rfl
    | false=>
     have HD:=Qc hd;have HB:Hid ((givF s (tn,ta) i (-1)).bad=(i:Int)):=by
      show _=_;rw[HG.o,Kj,hd];rfl
     clear hd;have FIN:∀w5,Fr b w3.drew w5→V2 b g s w (givF s (tn,ta) i (-1)) (.panicked (brk (i:Int))) w5:=fun w5 f5=>
      .inr ⟨by rw[HB.o,ZV (by omega)],by rw[HB.o,ZV (by omega)];omega,F.drew.trans f5⟩
     have FIN':=Qc FIN;clear FIN
     go_region_held (fun w'=>w'.cell? ⟨w.heap.size,0,none⟩=some (.int .i64 tn)∧w'.cell? ⟨w.heap.size,1,none⟩=some (.int .i64 ta)) (first | exact(Hid.out ‹Hid False›).elim | simp[*])
      (first | (go_at_call 218;refine(UI (Rv (RS.drew hp3) HD.o) (.int .i64 0)).mono ?_;rintro e w5 (⟨rfl,f5⟩ | ⟨rfl,hF⟩);exact⟨rfl,FIN'.o _ f5⟩))
     all_goals exact(Hid.out ‹Hid False›).elim
def Zc(e:Z6):Value:=
 if e.op=46 then .iface 309 (.agg #[])
 else if e.op=62 then .iface 312 (.agg #[.int .i64 e.one.1,.int .i64 e.one.2])
 else .iface 353 (.agg #[.int .i64 e.a.1,.int .i64 e.a.2,.int .i64 e.one.1,.int .i64 e.one.2,.int .i64 e.two.1,.int .i64 e.two.2])
def Wn(s:ByteArray)(a:Nat×Nat)(i:Nat):Bra:=
 let i2:=numI s i (-1)
 let b2:=Zx s i (-1)
 let i3:=gotI s i2 b2 58
 let b3:=mustB s i2 b2 58
 ⟨⟨63,a,(numN s i (-1),i),(numN s i3 b3,i3)⟩,numI s i3 b3,Zx s i3 b3⟩
theorem Qf3{s a i}(h:onF s i (-1) 63=true):braF s a i (-1)=Wn s a (i+1):=by
 have g1:gotI s i (-1) 63=i+1:=by rw[gotI,if_pos h]
 have g2:mustB s i (-1) 63=-1:=by rw[mustB,if_pos h]
 simp only[braF,Wn,g1,g2]
theorem Qco{s a i}(h:onF s i (-1) 63=false):(braF s a i (-1)).bad=i:=by
 have g2:mustB s i (-1) 63=i:=by rw[JA,h];rfl
 simp only[braF,g2];rw[X1,ZV,X1]
 all_goals first | omega | (rw[X1 (by omega)];omega) | (rw[ZV,X1]<;>first | omega | (rw[X1 (by omega)];omega))
def QcD(b g:Nat)(s:ByteArray)(w:World)(r:Bra)(e:Ending)(w':World):Prop:=
 (e=.returned (Zc r.e)∧r.bad=-1∧RS w' b g s r.i∧Fr b w w')∨(e=.panicked (brk r.bad)∧0≤r.bad∧Fr b w w')
theorem QfE{b g:Nat}{s:ByteArray}{i an aa:Nat}{w:World}(hp:RS w b g s i)(hs:s.size≤200000):
  Calls prog 219 #[.pointer (some ⟨b,0,none⟩),.agg #[.int .i64 an,.int .i64 aa]] w fun e w'=>QcD b g s w (Wn s (an,aa) i) e w':=by
 have hl:=hp.lt;have hgl:=hp.glt
 cases hd:Zr s i (-1) with
 | false=>
  have HB:Hid ((Wn s (an,aa) i).bad=i):=by
   have g1:Zx s i (-1)=i:=by rw[Kj,hd];rfl
   show _=_;simp only[Wn,g1];rw[X1,ZV]
   ·omega
   ·rw[ZV (by omega)];omega
  have HD:=Qc hd;clear hd;go_enter func219,ntmps219;go_wp2_with fail;refine(Uc (hp.alloc _) HD.o).mono ?_;rintro e w1 ⟨rfl,f1⟩;go_wp2_with fail;exact⟨rfl,.inr ⟨by rw[HB.o],by rw[HB.o];omega,((Fr.refl _ _).alloc _).trans f1⟩⟩
 | true=>
  have HD:=Qc hd;have g1:Zx s i (-1)=-1:=by rw[Kj,hd];rfl
  have HT:Wn s (an,aa) i=⟨⟨63,(an,aa),(numN s i (-1),i),(numN s (gotI s (numI s i (-1)) (-1) 58) (mustB s (numI s i (-1)) (-1) 58),gotI s (numI s i (-1)) (-1) 58)⟩,numI s (gotI s (numI s i (-1)) (-1) 58) (mustB s (numI s i (-1)) (-1) 58),Zx s (gotI s (numI s i (-1)) (-1) 58) (mustB s (numI s i (-1)) (-1) 58)⟩:=by simp only[Wn,g1]
  clear hd g1;go_enter func219,ntmps219;go_wp2_with fail;refine(VM (hp.alloc _) hs HD.o).mono ?_;rintro e w1 ⟨rfl,hp1,f1⟩;have l1:=hp1.lt;have lg1:=hp1.glt;have g0:w1.heap[w.heap.size]?=some (.cells #[.int .i64 an,.int .i64 aa] 132 (0,0)):=Qn f1 (heap_alloc_last w _) (by omega);have lw:=f1.size;rw[Qt]at lw;have F:Fr b w w1:=((Fr.refl _ _).alloc _).trans f1;have HT':=Qc HT;clear HT f1;generalize numI s i (-1)=i2 at *;generalize numN s i (-1)=n1 at *;go_wp2_with fail
  cases h58:onF s i2 (-1) 58 with
  | false=>
   have HB:Hid ((Wn s (an,aa) i).bad=i2):=by
    show _=_;have g3:mustB s i2 (-1) 58=i2:=by rw[JA,h58];rfl
    rw[HT'.o,g3];show Zx s (gotI s i2 (-1) 58) (i2:Int)=i2;exact X1 (by omega)
   refine(KM (c:=58) (hp1.alloc _) (by decide) h58).mono ?_;rintro e w2 ⟨rfl,f2⟩;clear h58;go_wp2_with fail;exact⟨rfl,.inr ⟨by rw[HB.o],by rw[HB.o];omega,(F.alloc _).trans f2⟩⟩
  | true=>
   have e3:gotI s i2 (-1) 58=i2+1:=by rw[gotI,if_pos h58]
   have e4:mustB s i2 (-1) 58=-1:=by rw[mustB,if_pos h58]
   have HT2:=HT'.o;rw[e3,e4]at HT2;have HT3:=Qc HT2;refine(Jo (c:=58) (hp1.alloc _) hs (by decide) h58).mono ?_;rintro e w2 ⟨rfl,hp2,f2⟩;have gg:=f2.own (by omega);replace g0:=Qn f2 (Qo g0 _) (by omega);replace F:=(F.alloc _).trans f2;have lw2:=f2.size;rw[Qt]at lw2;clear h58 HT' HT2 e3 e4 f2;have a0:=Qb g0 0;have a1:=Qb g0 1;have c0:=Qb gg 0;have c1:=Qb gg 1;simp at a0 a1 c0 c1;have k0:w.heap.size<w2.heap.size:=by omega
   have k1:w1.heap.size<w2.heap.size:=by omega
   have n0:w.heap.size≠b:=by omega
   have n1':w1.heap.size≠b:=by omega
   clear g0 gg;go_wp2_with fail
   cases hd2:Zr s (i2+1) (-1) with
   | true=>
    have HD2:=Qc hd2;clear hd2
    go_region_held (fun w'=>w'.cell? ⟨w.heap.size,0,none⟩=some (.int .i64 an)∧w'.cell? ⟨w.heap.size,1,none⟩=some (.int .i64 aa)∧w'.cell? ⟨w1.heap.size,0,none⟩=some (.int .i64 n1)∧w'.cell? ⟨w1.heap.size,1,none⟩=some (.int .i64 i)) (simp[*])
     (first | (go_at_call 198;refine(VM (RS.drew hp2) hs HD2.o).mono ?_;rintro e w5 ⟨rfl,hp5,f5⟩;have y0:=f5.cells (k:=w.heap.size) k0 n0;have y1:=f5.cells (k:=w1.heap.size) k1 n1'))
    go_wp2_with fail;go_ret;rw[HT3.o];refine .inl ⟨rfl,?_,hp5,F.drew.trans f5⟩;rw[Kj,HD2.o];rfl
   | false=>
    have HD2:=Qc hd2;have HB:Hid ((Wn s (an,aa) i).bad=((i2+1:Nat):Int)):=by
     show _=_;rw[HT3.o,Kj,hd2];rfl
    clear hd2;have FIN:Hid (∀w5,Fr b w2.drew w5→QcD b g s w (Wn s (an,aa) i) (.panicked (brk ((i2+1:Nat):Int))) w5):=fun w5 f5=>
     .inr ⟨by rw[HB.o],by rw[HB.o];omega,F.drew.trans f5⟩
    go_region_held (fun w'=>w'.cell? ⟨w.heap.size,0,none⟩=some (.int .i64 an)∧w'.cell? ⟨w.heap.size,1,none⟩=some (.int .i64 aa)∧w'.cell? ⟨w1.heap.size,0,none⟩=some (.int .i64 n1)∧w'.cell? ⟨w1.heap.size,1,none⟩=some (.int .i64 i)) (first | exact(Hid.out ‹Hid False›).elim | simp[*])
     (first | (go_at_call 198;refine(UI (Uc (RS.drew hp2) HD2.o) (.agg #[.int .i64 0,.int .i64 0])).mono ?_;rintro e w5 (⟨rfl,f5⟩ | ⟨rfl,hF⟩);exact⟨rfl,FIN.o _ f5⟩))
    all_goals exact(Hid.out ‹Hid False›).elim
theorem step1{t e:TypeId}{z:Value}{size bytes:Nat}(ht:prog.underlying t=some (.slice e))(hi:(prog.info? e).map (fun i=>(i.zero,i.size,i.bytes))=some (some z,size,bytes))(hzs:z.cells.size=size)(hsz:0<size)(hby:bytes≤1000)
  {ops:Array Oper}{o:Oper}{a:Act}{K:Act→World→Prop}{Q:Exit→Act→World→Prop}{E:Prop}{w:World}(hgd:o.guard=none)(s x:Operand)
  (ho:o.op=.call { callee:=.builtin .append,args:=#[s,x],argTypes:=#[t,t] })
  {base:Nat}{v:Value}{n:Nat}{xs:List Value}(hs:a.eval s=v)(hown:w.ownsRow base e size v n xs)
  {B:Nat}{cs:Array Value}{tt:TypeId}{fr:Nat×Nat}(hB:w.heap[B]?=some (.cells cs tt fr))(hx:a.eval x=.slice (some ⟨B,0,none⟩) 1 1)(hl:cs.size=size)(h1:∀u∈cs.toList,u.oneCell'=true)
  (hn:n≤1000000)(hbase:base≤w.heap.size)
  (h:∀v' w',w'.ownsRow base e size v' (n+1) (xs++cs.toList)→w.grownBy w' v.ownBlock→K (a.put o.dst v') w'):
  if Region.wanted o (yielded ops a.tmps)=true then Oper.wp prog o a w K Q else E:=by
 obtain⟨I,Hi,Hz,Hs,Hb⟩:=info_parts hi;have hw:Region.wanted o (yielded ops a.tmps)=true:=by simp[Region.wanted,hgd]
 rw[if_pos hw];refine wp_append_own w s x t ho base e I z size bytes ht Hi Hz Hs Hb hzs hsz v n xs hs hown ⟨B,0,none⟩ 1 1 cs.toList hx (by simpa using hl) (World.news_of_block hB) h1 (by unfold maxLen;omega) ?_ hbase (fun v' w' h1 h2 _=>h v' w' h1 h2);have:(n+1)*bytes≤1000001*1000:=Nat.mul_le_mul (by omega) hby
 omega
theorem Z1{ops:Array Oper}{o:Oper}{a:Act}{K:Act→World→Prop}{Q:Exit→Act→World→Prop}{E:Prop}{w:World}(hgd:o.guard=none)(f:FuncId)(args:Array Value)
  (hr:(execOp a.eval o).run prog w=.ok (.enter f args) w)
  {R:Ending→World→Prop}(h:Calls prog f args w R)(hk:∀e w'',R e w''→match e,w'' with | .returned v,w''=>K (a.put o.dst v) w'' | .panicked c,w''=>Q (.panic c) a w'' | .outgrown,_=>LetsOut Q):
  if Region.wanted o (yielded ops a.tmps)=true then Oper.wp prog o a w K Q else E:=by
 have hw:Region.wanted o (yielded ops a.tmps)=true:=by simp[Region.wanted,hgd]
 rw[if_pos hw];unfold Oper.wp;rw[hr];exact h.mono hk
theorem Qew{f:FuncId}{args:Array Value}{w:World}{R:Ending→World→Prop}(h:Calls prog f args w R)(v:Value):Calls prog f args w fun e w'=>R e w'∨(e=.returned v∧w'=w∧Hid False):=
 h.mono fun _ _ h=>.inl h
theorem Un{ops:Array Oper}{o:Oper}{a:Act}{K:Act→World→Prop}{Q:Exit→Act→World→Prop}{E:Prop}{w:World}(hF:Hid False)(v:Value)(_h:K (a.put o.dst v) w):
  if Region.wanted o (yielded ops a.tmps)=true then Oper.wp prog o a w K Q else E:=hF.out.elim
def rdI(w:World)(b:Nat):Nat:=match w.cell? ⟨b,2,none⟩,w.cell? ⟨b,1,none⟩ with
 | some (.int _ k),some (.slice (some a) _ _)=>(match w.cell? ⟨a.block,k.toNat*2,none⟩ with|some (.int _ i)=>i.toNat|_=>0)
 | _,_=>0
theorem RS.rdI{w b g s i}(h:RS w b g s i):rdI w b=i:=by
 obtain⟨ms,k,cap,hm,⟨hk,rfl⟩,hr⟩:=h;simp[YtgfhfkgdmidhpaaGreatDoor.rdI,hr.c1,hr.c2,hr.m0 hk]
def Q8(gs rs:List (Nat×Nat)):List Value:=(List.zipWith (fun g r=>pc g++pc r) gs rs).flatten
theorem YZ{gs rs:List (Nat×Nat)}(h:gs.length=rs.length)(g r:Nat×Nat):Q8 (gs++[g]) (rs++[r])=Q8 gs rs++[.int .i64 g.1,.int .i64 g.2,.int .i64 r.1,.int .i64 r.2]:=by
 simp[Q8,List.zipWith_append h,pc]
theorem Qb4:(prog.info? 147).map (fun i=>(i.zero,i.size,i.bytes))=some (some (.agg #[.int .i64 0,.int .i64 0,.int .i64 0,.int .i64 0]),4,32):=by kernel_rfl
def choT(s:ByteArray)(i:Nat):Cho:=ZO s (s.size+1) ⟨[],[],i,-1⟩
theorem QfS{s i}(h:onF s i (-1) 64=true):choF s i (-1)=choT s (i+1):=by
 have g1:gotI s i (-1) 64=i+1:=by rw[gotI,if_pos h]
 have g2:mustB s i (-1) 64=-1:=by rw[mustB,if_pos h]
 simp only[choF,choT,g1,g2]
theorem RW{s k c R}(hk:0<k)(h:Vc s true k c=R)(hb:0≤(choR s c).bad):R.bad=(choR s c).bad:=by
 rw[Vp hk,Uo hb]at h;rw[←h];rfl
def QcC(b g:Nat)(s:ByteArray)(tn ta:Nat)(w:World)(r:Cho)(e:Ending)(w':World):Prop:=
 (∃vs,e=.returned (.agg #[.int .i64 tn,.int .i64 ta,vs])∧r.bad=-1∧r.gs.length=r.rs.length∧w'.ownsRow w.heap.size 147 4 vs r.gs.length (Q8 r.gs r.rs)∧RS w' b g s r.i∧Fr b w w')∨(e=.panicked (brk r.bad)∧0≤r.bad∧Fr b w w')
theorem Qam{b g:Nat}{s:ByteArray}{i tn ta:Nat}{w:World}(hp:RS w b g s i)(hs:s.size≤200000):
  Calls prog 221 #[.pointer (some ⟨b,0,none⟩),.agg #[.int .i64 tn,.int .i64 ta]] w fun e w'=>QcC b g s tn ta w (choT s i) e w':=by
 have hl:=hp.lt;have hgl:=hp.glt;have hi:=hp.le;go_enter func221,ntmps221;go_wp2_with fail
 go_loopw [6] (fun _ wr=>∃(k:Nat)(c:Cho)(vs:Value),s.size<k+c.i∧c.i≤s.size∧c.gs.length≤c.i∧Hid (c.gs.length=c.rs.length)∧c.bad=-1∧Hid (Vc s true k c=choT s i) ∧
   wr.heap[w.heap.size+1]?=some (.cells #[.int .i64 0,.int .i64 0,.slice none 0 0] 140 (0,0))∧wr.heap[w.heap.size+2]?=some (.cells #[.int .i64 tn,.int .i64 ta,vs] 140 (0,0)) ∧
   wr.ownsRow (w.heap.size+3) 147 4 vs c.gs.length (Q8 c.gs c.rs)∧RS wr b g s c.i∧Hid (Fr b w wr)∧w.heap.size+3≤wr.heap.size) (fun _ wr=>s.size-rdI wr b)
 case atStart=>
  refine⟨s.size+1,⟨[],[],i,-1⟩,_,by show _<_;omega,hi,by simp,rfl,rfl,rfl,?_,?_,World.ownsRow_nil _ _ _ _,((hp.alloc _).alloc _).alloc _,(((Fr.refl _ _).alloc _).alloc _).alloc _,by simp⟩
  ·rw[Below.heap_alloc _ _ _ (by simp)];simpa using heap_alloc_last (w.alloc _) _
  ·simpa using heap_alloc_last ((w.alloc _).alloc _) _
 case round=>
  obtain⟨k,c,vs,hk,hci,hcl,HL,hcb,HR,G1,G2,O,P,F,hz⟩:=hrel;have HRI:Hid (rdI wr b=c.i):=P.rdI;have HK:Hid (0<k):=by show 0<k;omega
  have HCB:=Qc hcb;obtain⟨pv,cv,rfl⟩:=Qa O;clear hp hcb
  cases hd:Zr s c.i (-1) with
  | false=>
   have HB:Hid ((choT s i).bad=c.i):=by
    have e1:(choR s c).bad=c.i:=by
     have g1:Zx s c.i c.bad=c.i:=by rw[HCB.o,Kj,hd];rfl
     simp only[choR,g1];rw[Rg,ZV]
     ·omega
     ·rw[ZV (by omega)];omega
    show _=_;rw[RW HK.o HR.o (by rw[e1];omega),e1]
   have HD:=Qc hd;clear hd;go_wp2_with fail;refine(Uc P HD.o).mono ?_;rintro e w1 ⟨rfl,f1⟩;go_wp2_with fail;exact⟨rfl,.inr ⟨by rw[HB.o],by rw[HB.o];omega,F.o.trans f1⟩⟩
  | true=>
   have HD:=Qc hd;clear hd;go_wp2_with fail;refine(VM P hs HD.o).mono ?_;rintro e w1 ⟨rfl,P1,f1⟩;replace G1:=Qn f1 G1 (by omega);replace G2:=Qn f1 G2 (by omega);replace O:=Xn O f1 (by omega);replace F:=Qc (F.o.trans f1);have hz1:w.heap.size+3≤w1.heap.size:=Qy hz f1.size;have hi1:=Jl (bad:=-1) hci;have hi1g:=XT (s:=s) (i:=c.i) (bad:=-1);generalize hI1:numI s c.i (-1)=i1 at *;have HI1:=Qc hI1;generalize hN1:numN s c.i (-1)=n1 at *;have HN1:=Qc hN1;clear f1 P hz hI1 hN1;go_wp2_with fail
   cases h58:onF s i1 (-1) 58 with
   | false=>
    have HB:Hid ((choT s i).bad=i1):=by
     have e1:(choR s c).bad=i1:=by
      have g1:Zx s c.i c.bad=-1:=by rw[HCB.o,Kj,HD.o];rfl
      have g2:numI s c.i c.bad=i1:=by rw[HCB.o];exact HI1.o
      have g3:mustB s i1 (-1) 58=i1:=by rw[JA,h58];rfl
      simp only[choR,g1,g2,g3];exact Rg (by omega)
     show _=_;rw[RW HK.o HR.o (by rw[e1];omega),e1]
    refine(KM (c:=58) (P1.alloc _) (by decide) h58).mono ?_;rintro e w2 ⟨rfl,f2⟩;clear h58;go_wp2_with fail;exact⟨rfl,.inr ⟨by rw[HB.o],by rw[HB.o];omega,(F.o.alloc _).trans f2⟩⟩
   | true=>
    have h58l:=(Zf h58).2.1;refine(Jo (c:=58) (P1.alloc _) hs (by decide) h58).mono ?_;rintro e w2 ⟨rfl,P2,f2⟩;have l1:=P1.lt;have gg:=f2.own (by omega);replace G1:=Qn f2 (Qo G1 _) (by omega);replace G2:=Qn f2 (Qo G2 _) (by omega);replace O:=Xn (O.alloc _) f2 (by omega);replace F:=Qc ((F.o.alloc _).trans f2);have hz2:w1.heap.size+1≤w2.heap.size:=by simpa using f2.size
    have HS58:Hid (gotI s i1 (-1) 58=i1+1∧mustB s i1 (-1) 58=-1):=⟨by rw[gotI,if_pos h58],by rw[mustB,if_pos h58]⟩;clear f2 h58 P1;have a0:=Qb gg 0;have a1:=Qb gg 1;have b2:=Qb G2 2;have b2z:=Qg G2 2;simp at a0 a1 b2;have k1:w1.heap.size<w2.heap.size:=by omega
    have k2:w.heap.size+1+1<w2.heap.size:=by omega
    have n1':w1.heap.size≠b:=by omega
    have n2:w.heap.size+1+1≠b:=by omega
    have HCR:choR s c=⟨c.gs++[(n1,c.i)],c.rs++[(regN s (i1+1) (-1),i1+1)],regI s (i1+1) (-1),regB s (i1+1) (-1)⟩:=by
     have g1:Zx s c.i c.bad=-1:=by rw[HCB.o,Kj,HD.o];rfl
     have g2:numI s c.i c.bad=i1:=by rw[HCB.o];exact HI1.o
     have g3:numN s c.i c.bad=n1:=by rw[HCB.o];exact HN1.o
     simp only[choR,g1,g2,g3,HS58.o.1,HS58.o.2]
    have HCR':=Qc HCR;clear HCR HS58;go_wp2_with fail;rcases Int.lt_or_le (regB s (i1+1) (-1)) 0 with h3|h3
    ·have H3:=Qc h3;have HB3:=Qc (Ux h3).2.2.1;clear h3;have FA:Hid (∀w5:World,Fr b w2.drew w5→w5.heap[w.heap.size+1]?=some (.cells #[.int .i64 0,.int .i64 0,.slice none 0 0] 140 (0,0))∧w5.heap[w.heap.size+2]?=some (.cells #[.int .i64 tn,.int .i64 ta,.slice pv c.gs.length cv] 140 (0,0))∧w5.ownsRow (w.heap.size+3) 147 4 (.slice pv c.gs.length cv) c.gs.length (Q8 c.gs c.rs)∧w.heap.size+3≤w5.heap.size∧Fr b w w5):=fun w5 f5=>
      ⟨Qn (w:=w2.drew) f5 G1 (by omega),Qn (w:=w2.drew) f5 G2 (by omega),Xn (w:=w2.drew) O f5 (by omega),Qy (show w.heap.size+3≤w2.drew.heap.size from by show _≤w2.heap.size;omega) f5.size,F.o.drew.trans f5⟩
     go_region_law (first | (refine Z1 rfl 199 #[.pointer (some ⟨b,0,none⟩)] (by go_simp) (Kd (RS.drew P2) hs H3.o) ?_;rintro e w5 ⟨rfl,P5,f5⟩;have y0:=f5.cells (k:=w1.heap.size) k1 n1';have y1:=f5.cells (k:=w.heap.size+1+1) k2 n2;obtain⟨q1,q2,q3,q4,q5⟩:=FA.o _ f5;have z5:=Qg q2 2;have l5:w.heap.size+1+1<w5.heap.size:=(by omega);have l5b:w1.heap.size<w5.heap.size:=Nat.lt_of_lt_of_le k1 f5.size;have Q1:=Qc q1;have Q2:=Qc q2;have Q5:=Qc q5;clear q1 q2 q5) | (refine step1 underlying138 Qb4 rfl (by decide) (by decide) rfl _ _ rfl rfl (q3.alloc _) (heap_alloc_last w5 _) rfl rfl (List.all_eq_true.1 rfl) (by omega) (by rw[World.size_alloc];omega) ?_;intro v6 w6 o6 gr6;obtain⟨p6,c6,rfl⟩:=Qa o6;have q6:=QC gr6 (Qo Q2.o _) (fun j hj=>by have:=(q3.lt j hj).1;omega);have z6:=Qg q6 2;have x6:=Qb q6 2;have Q6:=Qc q6;clear q6) | fail)
     all_goals
      have r6:∀j,(Value.slice pv c.gs.length cv).ownBlock=some j→w.heap.size+3≤j:=fun j hj=>(q3.lt j hj).1;have G1a:=Ql (j:=w.heap.size+1+1) (QC gr6 (Qo Q1.o _) (fun j hj=>by have:=r6 j hj;omega)) (by omega) 2 (.slice p6 (c.gs.length+1) c6);have G2a:(w6.setCell ⟨w.heap.size+1+1,2,none⟩ (.slice p6 (c.gs.length+1) c6)).heap[w.heap.size+2]?=some (.cells #[.int .i64 tn,.int .i64 ta,.slice p6 (c.gs.length+1) c6] 140 (0,0)):=Qq Q6.o 2 _;have Oa:=QE o6 (w.heap.size+1+1) 2 (.slice p6 (c.gs.length+1) c6) (by omega);have Pa:=(RS.grown (P5.alloc _) gr6 (fun j hj=>by have:=r6 j hj;constructor<;>omega)).setk (w.heap.size+1+1) 2 (.slice p6 (c.gs.length+1) c6) (by omega) (by omega);have Fa:=(Fr.grown (Q5.o.alloc _) gr6 (fun j hj=>by have:=r6 j hj;omega)).setk (w.heap.size+1+1) 2 (.slice p6 (c.gs.length+1) c6) (by omega);have Za:w.heap.size+3≤(w6.setCell ⟨w.heap.size+1+1,2,none⟩ (.slice p6 (c.gs.length+1) c6)).heap.size:=by
       rw[Zs];have:=gr6.size;rw[Qt]at this;omega
      replace Oa:(w6.setCell ⟨w.heap.size+1+1,2,none⟩ (.slice p6 (c.gs.length+1) c6)).ownsRow (w.heap.size+3) 147 4 (.slice p6 (c.gs.length+1) c6) (c.gs.length+1) (Q8 (c.gs++[(n1,c.i)]) (c.rs++[(regN s (i1+1) (-1),i1+1)])):=by
       rw[YZ HL.o];exact Oa
      clear gr6 r6 o6 x6 z6 Q6 Q1 Q2 Q5 P5 q3 q4 f5 y0 y1 z5 l5 l5b a0 a1 b2 b2z k1 k2 n1' n2 P2 G1 G2 O F FA gg;generalize w6.setCell ⟨w.heap.size+1+1,2,none⟩ (.slice p6 (c.gs.length+1) c6)=w7 at *;have hr1:=ZM (bad:=-1) (show i1+1≤s.size by omega);have hr2:=Xl (s:=s) (i:=i1+1) (bad:=-1);have HST:=Qc (HR.o.symm.trans (Vp HK.o));have HCI:Hid ((choR s c).i=regI s (i1+1) (-1)):=by show _=_;rw[HCR'.o]
      have HCB2:Hid ((choR s c).bad=-1):=by show _=_;rw[HCR'.o];exact HB3.o
      have HCG:Hid ((choR s c).gs=c.gs++[(n1,c.i)]):=by show _=_;rw[HCR'.o]
      have HCS:Hid ((choR s c).rs=c.rs++[(regN s (i1+1) (-1),i1+1)]):=by show _=_;rw[HCR'.o]
      clear HR HCR';generalize regI s (i1+1) (-1)=i5 at *;have hl2:(c.gs++[(n1,c.i)]).length=c.gs.length+1:=by simp
      cases h44:onF s i5 (-1) 44 with
      | true=>
       have hlt:=(Zf h44).2.1;have HST2:Hid (Vc s true (k-1) ⟨c.gs++[(n1,c.i)],c.rs++[(regN s (i1+1) (-1),i1+1)],i5+1,-1⟩=choT s i):=by
        show _=_;rw[HST.o,HCI.o,HCB2.o,h44]
        congr 1
        rw[←HCG.o,←HCS.o,gotI,if_pos h44];exact congrArg (Cho.mk _ _ _) HCB2.o.symm
       have H44:=Qc h44;clear h44 HST;go_wp2_with fail;refine(XD (c:=44) Pa hs (by decide) H44.o).mono ?_;rintro e w8 ⟨rfl,P8,f8⟩;go_wp2_with fail;go_roundw
       case rel=>exact⟨k-1,⟨c.gs++[(n1,c.i)],c.rs++[(regN s (i1+1) (-1),i1+1)],i5+1,-1⟩,_,by show s.size<k-1+(i5+1);omega,by show i5+1≤s.size;omega,by show (c.gs++[(n1,c.i)]).length≤i5+1;omega,by show (c.gs++_).length=(c.rs++_).length;simp[HL.o],rfl,HST2,Qn f8 G1a (by omega),Qn f8 G2a (by omega),by rw[hl2];exact Xn Oa f8 (by omega),P8,Fa.trans f8,Nat.le_trans Za f8.size⟩
       case measure=>rw[P8.rdI,HRI.o];omega
      | false=>
       have HST2:Hid (choT s i=⟨c.gs++[(n1,c.i)],c.rs++[(regN s (i1+1) (-1),i1+1)],i5,-1⟩):=by
        show _=_;rw[HST.o,HCI.o,HCB2.o,h44,Vc,if_neg (by simp)];rw[←HCG.o,←HCS.o,gotI,if_neg (by simp[h44])];exact congrArg (Cho.mk _ _ _) HCB2.o
       have H44:=Qc h44;clear h44 HST;go_wp2_with fail;refine(X2 (c:=44) Pa (by decide) H44.o).mono ?_;rintro e w8 ⟨rfl,P8,f8⟩;replace G1a:=Qn f8 G1a (by omega);replace G2a:=Qn f8 G2a (by omega);replace Oa:=Xn Oa f8 (by omega);have q1:=Qb G1a;have z1:=Qg G1a;have q2:=Qb G2a;go_wp2_with fail;refine bodyPost_ret (v:=.agg #[.int .i64 tn,.int .i64 ta,.slice p6 (c.gs.length+1) c6]) (by simp[results,results221,go_sem,q1]) rfl (.inl ⟨_,rfl,?_,?_,?_,?_,?_⟩)
       ·rw[HST2.o]
       ·rw[HST2.o];simp[HL.o]
       ·rw[HST2.o,hl2];exact Qj (QE (QE (QE Oa (w.heap.size+1) 0 _ (by omega)) (w.heap.size+1) 1 _ (by omega)) (w.heap.size+1) 2 _ (by omega)) (by omega)
       ·rw[HST2.o];exact((P8.setk (w.heap.size+1) 0 _ (by omega) (by omega)).setk (w.heap.size+1) 1 _ (by omega) (by omega)).setk (w.heap.size+1) 2 _ (by omega) (by omega)
       ·exact(((Fa.trans f8).setk (w.heap.size+1) 0 _ (by omega)).setk (w.heap.size+1) 1 _ (by omega)).setk (w.heap.size+1) 2 _ (by omega)
    ·have H3:=Qc h3;have HB:Hid ((choT s i).bad=regB s (i1+1) (-1)):=by
      show _=_;rw[RW HK.o HR.o (by rw[HCR'.o];exact h3),HCR'.o]
     clear h3;have FIN:Hid (∀w5,Fr b w2.drew w5→QcC b g s tn ta w (choT s i) (.panicked (brk (regB s (i1+1) (-1)))) w5):=fun w5 f5=>
      .inr ⟨by rw[HB.o],by rw[HB.o];exact H3.o,F.o.drew.trans f5⟩
     go_region_law (first | (refine Z1 rfl 199 #[.pointer (some ⟨b,0,none⟩)] (by go_simp) (Qew (Uw (RS.drew P2) hs H3.o) (.agg #[.int .i64 0,.int .i64 0])) ?_;rintro e w5 (⟨rfl,f5⟩ | ⟨rfl,rfl,hF⟩);exact⟨rfl,FIN.o _ f5⟩) | (refine Un hF (.slice none 0 0) ?_) | fail)
     all_goals exact hF.out.elim
end Go.Proofs.YtgfhfkgdmidhpaaGreatDoor
