import Derived.Lib.SlicesCompact
import Derived.Test.YtgfhfkgdmidhpaaGreatDoorM13
import Derived.Shelf.SlGeneric
import Derived.Shelf.SortM.Plain
import Derived.Shelf.SortM.SortNone
import Derived.Shelf.SlicesG.CompactI
import Derived.Ground.SlgmProg
import Derived.Ground.SlgnProg
namespace Go.Proofs.YtgfhfkgdmidhpaaGreatDoor
open Go.RowKit
open Go.Proofs.Tryz
set_option maxRecDepth 100000
set_option maxHeartbeats 8000000
theorem Qfa{l:List Nat}{i x y:Nat}:y∈Xh l i x↔y∈l∨y=x:=by
 unfold Xh
 conv=>rhs;rw[←List.take_append_drop i l]
 simp only[List.mem_append,List.mem_cons];constructor
 ·rintro (h|h|h)
  ·exact .inl (.inl h)
  ·exact .inr h
  ·exact .inl (.inr h)
 ·rintro ((h|h)|h)
  ·exact .inl h
  ·exact .inr (.inr h)
  ·exact .inr (.inl h)
theorem Qe9{l:List Nat}{i x:Nat}(h:l.Pairwise (· < ·))(hs:Kt l x i)(hx:x∉l):(Xh l i x).Pairwise (· < ·):=by
 have h1:∀y∈l.take i,y<x:=fun y hy=>by
  obtain⟨k,hk,rfl⟩:=List.getElem_of_mem hy;rw[List.length_take]at hk;rw[List.getElem_take];exact hs.1 k (by omega) (by omega)
 have h2:∀y∈l.drop i,x<y:=fun y hy=>by
  have hm:=List.mem_of_mem_drop hy;obtain⟨k,hk,rfl⟩:=List.getElem_of_mem hy;rw[List.length_drop]at hk;rw[List.getElem_drop]at hm ⊢;have h3:=hs.2 (i+k) (by omega) (by omega);have h4:l[i+k]≠x:=fun e=>hx (e ▸ hm);omega
 unfold Xh;refine List.pairwise_append.2 ⟨h.sublist (List.take_sublist _ _),List.pairwise_cons.2 ⟨h2,h.sublist (List.drop_sublist _ _)⟩,fun a ha b hb=>?_⟩;rcases List.mem_cons.1 hb with rfl|hb
 ·exact h1 a ha
 ·have:=h1 a ha;have:=h2 b hb;omega
def Gi(B:Nat)(w:World)(gv:List Nat):Prop:=∃(l:List Nat)(u:Value),w.heap[B]?=some (.cells #[u] 161 (0,0))∧w.ownsRow (B+1) 78 1 u l.length (Qe l)∧l.Pairwise (· < ·)∧l.length≤gv.length∧∀y,y∈l↔y∈gv
theorem Gi.below{B:Nat}{w w':World}{gv:List Nat}(h:Gi B w gv)(f:Below w.heap.size w w'):Gi B w' gv:=by
 obtain⟨l,u,a,b,c⟩:=h;exact⟨l,u,by rw[f.block B (lt_of_block a)];exact a,Qd b (Qh f) trivial,c⟩
theorem Below.drewN2{B:Nat}{a w:World}(h:Below B a w)(n:Nat):Below B a (w.drewN n):=⟨h.os,h.tape,h.output,h.size,h.block⟩
theorem Wv(r:Qm)(ahead:List Nat)(base base2:Nat)(qc:Option Addr)(cc:Nat)(vs x va:Value)(w:World)(h:ZU w base r.chs (.slice qc r.chs.length cc))(hvs:∃p m c,vs=.slice p m c)(hx:∃T y,x=.iface T y)(ho:w.ownsRow base2 143 1 va ahead.length (Qe ahead))(hc1:r.chs.length≤400000)
  (hc2:Hid (∀c∈r.chs,c.gs.length≤400000))(hl:ahead.length≤1000):
  Calls prog 115 #[.agg #[.int .i64 r.at_,.slice qc r.chs.length cc,vs,x],va] w fun e w'=>Qbm (Vh (Jp ahead [] r.chs)) w e w':=by
 obtain⟨p0,m0,c0,rfl⟩:=hvs;obtain⟨T,y,rfl⟩:=hx;obtain⟨pa,ca,rfl⟩:=Qa ho;go_enter func115,ntmps115;go_wp2_with fail
 go_loopw [12] (fun i wr=>∃q:Nat,q≤r.chs.length∧i=.int .i64 q∧Hid (Gi (w.heap.size+1) wr (tos (r.chs.take q)))∧Hid (Jp ahead [] r.chs=Jp ahead (tos (r.chs.take q)) (r.chs.drop q))∧Hid (Below w.heap.size w wr)) (fun i _=>r.chs.length-(intOf i).toNat)
 case atStart=>
  refine⟨0,by omega,rfl,?_,rfl,((Below.refl _ _).alloc (Qi _) _).alloc (by rw[Qt];omega) _⟩;refine⟨[],.slice none 0 0,?_,World.ownsRow_nil _ _ _ _,List.Pairwise.nil,by simp,by simp[tos]⟩;simpa using heap_alloc_last (w.alloc (.cells #[.int .i64 r.at_,.slice qc r.chs.length cc,.slice p0 m0 c0,.iface T y] 104)) (.cells #[.slice none 0 0] 161)
 case round=>
  obtain⟨q,hq,rfl,HG,HU,F⟩:=hrel;have hz:=F.o.size;have hC:=h.keeps (Qr.below (T:=T4) F.o) (by simp[T4]) (by simp[T4]);have hA:=Qd ho (Qh F.o) trivial;by_cases hql:q<r.chs.length
  ·obtain⟨gc,pu,cu,rfl,_,hgc,hgl,OF,e0,e1,e2⟩:=hC.at hql;have HST:=Qc (Nk (ahead:=ahead) hql);have hgs:r.chs[q].gs.length≤400000:=hc2.out _ (Qx hql);have HTS:Hid (tos (r.chs.take (q+1))=tos (r.chs.take q)++[r.chs[q].to.1]):=by
    show _=_;rw[Zb hql,tos,tos,List.map_append];rfl
   have HTL:Hid ((tos (r.chs.take q)).length≤400000):=by
    show _≤_;rw[tos,List.length_map,List.length_take];omega
   have HGL:=Qc hgl;generalize hcq:r.chs[q]=c at *;clear hgl hcq hC;go_wp2_with fail;have L1:=heap_alloc_last wr (.cells #[.int .i64 c.to.1,.int .i64 c.to.2,.slice pu c.gs.length cu] 140);refine(RY c base (.slice pu c.gs.length cu) _ (OF.alloc _) HGL.o hgs).mono ?_;rintro e w5 ⟨v5,rfl,O5,f5⟩;have A5:=Qd (hA.alloc (.cells #[.int .i64 c.to.1,.int .i64 c.to.2,.slice pu c.gs.length cu] 140)) (Qh f5) trivial;have G5:=Qc ((HG.o.below ((Below.refl _ _).alloc (Qi _) (.cells #[.int .i64 c.to.1,.int .i64 c.to.2,.slice pu c.gs.length cu] 140))).below f5);have F5:=Qc ((F.o.alloc hz (.cells #[.int .i64 c.to.1,.int .i64 c.to.2,.slice pu c.gs.length cu] 140)).trans (f5.mono (by rw[Qt];omega)));have hw5:wr.heap.size<w5.heap.size:=by have:=f5.size;rw[Qt]at this;omega
   have gb:w5.heap[wr.heap.size]?=some (.cells #[.int .i64 c.to.1,.int .i64 c.to.2,.slice pu c.gs.length cu] 140 (0,0)):=by rw[f5.block _ (by rw[Qt];omega)];exact L1
   have LN:(Zw c.gs).length≤1000000:=by rw[Zw,List.length_map];omega
   clear e0 e1 e2 OF hA f5 L1 HG F;go_wp2_with fail;refine(GT (Zw c.gs) ahead _ base2 v5 (.slice pa ahead.length ca) w5 O5 A5 LN (by omega)).mono ?_;rintro e w6 ⟨rfl,n6,hw6⟩;have F6:Hid (Below w.heap.size w w6):=by show Below _ _ _;rw[hw6];exact Below.drewN2 F5.o n6
   have G6:Hid (Gi (w.heap.size+1) w6 (tos (r.chs.take q))):=by show Gi _ _ _;rw[hw6];exact G5.o
   have gb6:w6.heap[wr.heap.size]?=some (.cells #[.int .i64 c.to.1,.int .i64 c.to.2,.slice pu c.gs.length cu] 140 (0,0)):=by rw[hw6];exact gb
   have hz6:wr.heap.size<w6.heap.size:=by rw[hw6];exact hw5
   clear hw6 O5 A5 G5 F5 gb hw5;have q0:=Qb gb6 0;have q1:=Qb gb6 1;simp at q0 q1;have HGB:=Qc gb6;clear gb6;by_cases hq1:Zw c.gs=ahead
   ·have hE:eqF (Zw c.gs) ahead=true:=by simp[eqF,hq1]
    rw[hE];obtain⟨l,u,Gb,Gr,Gs,Gl,Gm⟩:=G6.o;have gc0:=Qb Gb 0;have gf0:=Qg Gb 0;simp at gc0;have GR:=Qc (And.intro Gb (And.intro Gr (And.intro Gs (And.intro Gl Gm))));clear Gb Gr Gs Gl Gm G6 hE;by_cases hm:c.to.1∈l
    ·have HP:Hid (Vh (Jp ahead [] r.chs)=c.to.2):=by
      show _=_;have hk:Kr ahead (tos (r.chs.take q)) c=false:=by
       have:QD (tos (r.chs.take q)) c.to.1=true:=List.contains_iff_mem.2 ((GR.o.2.2.2.2 _).1 hm);simp[Kr,this]
      rw[HU.o,HST.o,hk];rfl
     have HM:=Qc hm;clear hm;go_wp2_with fail;refine(Qcx l c.to.1 HM.o GR.o.2.2.1 (w.heap.size+1) 0 (w.heap.size+1+1) u w6 gc0 GR.o.2.1 (by have:=GR.o.2.2.2.1;have:=HTL.o;omega)).mono ?_;rintro e w7 ⟨rfl,hw7⟩;have F7:Hid (Below w.heap.size w w7):=by show Below _ _ _;rw[hw7.out];exact F6.o
     have gb7:w7.heap[wr.heap.size]?=some (.cells #[.int .i64 c.to.1,.int .i64 c.to.2,.slice pu c.gs.length cu] 140 (0,0)):=by rw[hw7.out];exact HGB.o
     have q71:=Qb gb7 1;simp at q71;clear gb7 hw7;go_wp2_with fail
     go_ret2
     exact .inl ⟨by rw[HP.o];omega,by rw[HP.o];rfl,F7.o⟩
    ·have HP:Hid (Jp ahead [] r.chs=Jp ahead (tos (r.chs.take (q+1))) (r.chs.drop (q+1))):=by
      show _=_;have hk:Kr ahead (tos (r.chs.take q)) c=true:=by
       have:QD (tos (r.chs.take q)) c.to.1=false:=by
        rw[Bool.eq_false_iff];intro e;exact hm ((GR.o.2.2.2.2 _).2 (List.contains_iff_mem.1 e))
       simp[Kr,this,hq1]
      rw[HU.o,HST.o,hk];rfl
     have HM:=Qc hm;have hb:w.heap.size+1+1≤w6.heap.size:=by have:=lt_of_block GR.o.1;omega
     clear hm;go_wp2_with fail;refine(Qcy l c.to.1 HM.o GR.o.2.2.1 (w.heap.size+1) 0 (w.heap.size+1+1) u w6 gc0 gf0 GR.o.2.1 (by have:=GR.o.2.2.2.1;have:=HTL.o;omega) hb (fun e=>by have:=(GR.o.2.1.lt _ e).1;omega)).mono ?_;rintro e w7 ⟨rfl,i7,u7,h7⟩;have G7:Hid (Gi (w.heap.size+1) w7 (tos (r.chs.take (q+1)))):=by
      obtain⟨a1,a2,a3,a4⟩:=h7.out;refine⟨Xh l i7 c.to.1,u7,?_,a3,Qe9 GR.o.2.2.1 a2 HM.o,?_,fun y=>?_⟩
      ·rw[a4.at_];have:=Qq GR.o.1 0 u7;simpa using this
      ·have:=GR.o.2.2.2.1;rw[HTS.o];simp[Xh];omega
      ·rw[HTS.o,Qfa,GR.o.2.2.2.2 y,QB,QF]
     have F7:Hid (Below w.heap.size w w7):=by
      obtain⟨a1,a2,a3,a4⟩:=h7.out;refine F6.o.trans ⟨a4.os,a4.tape,a4.output,a4.size,fun j hj=>a4.block j (by omega) (by omega) (fun e=>?_)⟩;have:=(GR.o.2.1.lt j e.symm).1;omega
     clear h7 GR;go_wp2_with fail;go_roundw
     case rel=>exact⟨q+1,by omega,by go_num,G7,HP,F7⟩
     case measure=>simp[intOf];omega
   ·have hE:eqF (Zw c.gs) ahead=false:=by simp[eqF,hq1]
    rw[hE];have HP:Hid (Vh (Jp ahead [] r.chs)=c.to.2):=by
     show _=_;have hk:Kr ahead (tos (r.chs.take q)) c=false:=by simp[Kr,hq1]
     rw[HU.o,HST.o,hk];rfl
    clear hE hq1;go_wp2_with fail
    go_ret2
    exact .inl ⟨by rw[HP.o];omega,by rw[HP.o];rfl,F6.o⟩
  ·have hqe:q=r.chs.length:=by omega
   have HP:Hid (Vh (Jp ahead [] r.chs)=-1):=by
    show _=_;rw[HU.o,hqe,List.drop_of_length_le (Qi _)];rfl
   clear hqe;go_wp2_with fail
   go_ret2
   exact .inr ⟨by rw[HP.o];decide,rfl,F.o⟩
theorem Nh(r:Qm)(ahead:List Nat)(base base2:Nat)(qc:Option Addr)(cc:Nat)(vs x va:Value)(w:World)(h:ZU w base r.chs (.slice qc r.chs.length cc))(hvs:∃p m c,vs=.slice p m c)(hx:∃T y,x=.iface T y)(ho:w.ownsRow base2 143 1 va ahead.length (Qe ahead))(hc1:r.chs.length≤400000)
  (hc2:Hid (∀c∈r.chs,c.gs.length≤400000))(hl:ahead.length≤1000){p:Nat}(hp:Jp ahead [] r.chs=some p):
  Calls prog 115 #[.agg #[.int .i64 r.at_,.slice qc r.chs.length cc,vs,x],va] w fun e w'=>e=.returned (.tuple #[.int .i64 p,.bool true])∧Below w.heap.size w w':=by
 refine(Wv r ahead base base2 qc cc vs x va w h hvs hx ho hc1 hc2 hl).mono ?_;rw[hp];rintro e w' (⟨_,rfl,f⟩|⟨h0,_⟩)
 ·exact⟨rfl,f⟩
 ·exact absurd h0 (by simp only[Vh];omega)
theorem G0(r:Qm)(ahead:List Nat)(base base2:Nat)(qc:Option Addr)(cc:Nat)(vs x va:Value)(w:World)(h:ZU w base r.chs (.slice qc r.chs.length cc))(hvs:∃p m c,vs=.slice p m c)(hx:∃T y,x=.iface T y)(ho:w.ownsRow base2 143 1 va ahead.length (Qe ahead))(hc1:r.chs.length≤400000)
  (hc2:Hid (∀c∈r.chs,c.gs.length≤400000))(hl:ahead.length≤1000)(hp:Jp ahead [] r.chs=none):
  Calls prog 115 #[.agg #[.int .i64 r.at_,.slice qc r.chs.length cc,vs,x],va] w fun e w'=>e=.returned (.tuple #[.int .i64 0,.bool false])∧Below w.heap.size w w':=by
 refine(Wv r ahead base base2 qc cc vs x va w h hvs hx ho hc1 hc2 hl).mono ?_;rw[hp];rintro e w' (⟨h0,_⟩|⟨_,rfl,f⟩)
 ·exact absurd h0 (by simp only[Vh];omega)
 ·exact⟨rfl,f⟩
theorem QcF(bs:List Qm)(base:Nat)(v:Value)(w:World)(h:PBs w base bs v)(hn:bs.length≤1000)(hgl:Hid (∀b∈bs,∀p∈goalsF b.e,p.1<bs.length))(hc1:Hid (∀b∈bs,b.chs.length≤400000))(hc2:Hid (∀b∈bs,∀c∈b.chs,c.gs.length≤400000)):
  Calls prog 69 #[v] w fun x w'=>Qbm (JR bs) w x w':=by
 obtain⟨pv,cv,rfl⟩:=h.slice;go_enter func69,ntmps69;go_wp2_with fail;refine(Gd bs base _ w h hn hgl).mono ?_;rintro e w1 ⟨v1,rfl,S1,f1⟩;obtain⟨p1,c1,rfl⟩:∃p c,v1=.slice p bs.length c:=by obtain⟨us,a,_⟩:=S1;exact Qa a
 have F1:=Qc f1;clear f1;go_wp2_with fail
 go_loopw [13] (fun i wr=>∃m:Nat,m≤bs.length∧i=.int .i64 m∧Hid (∀k,k<m→Xy bs k=none)∧Ku w.heap.size wr (.slice p1 bs.length c1) bs.length (aheF bs)∧Hid (Below w.heap.size w wr)) (fun i _=>bs.length-(intOf i).toNat)
 case atStart=>exact⟨0,by omega,rfl,fun k hk=>by omega,S1,F1⟩
 case round=>
  clear S1 F1;obtain⟨m,hm,rfl,HN,S,F⟩:=hrel;by_cases hlt:m<bs.length
  ·have hB:=h.keeps (Qr.below F.o);obtain⟨g,qc,cc,ps,cs1,rfl,_,hgz,hop,OC,OS,d0,d1,d2,d3⟩:=hB.at hlt;obtain⟨T,x,hev⟩:=QQ bs[m].e;rw[hev]at d3;have hz0:=F.o.size;clear hB hev hop OS;go_wp2_with fail;obtain⟨W2,hW2⟩:∃W2,W2=wr.alloc (.cells #[.int .i64 bs[m].at_,.slice qc bs[m].chs.length cc,.slice ps bs[m].sts.length cs1,.iface T x] 104):=⟨_,rfl⟩;rw[←hW2];have gb:W2.heap[wr.heap.size]?=some (.cells #[.int .i64 bs[m].at_,.slice qc bs[m].chs.length cc,.slice ps bs[m].sts.length cs1,.iface T x] 104 (0,0)):=by rw[hW2];exact heap_alloc_last _ _
   have hwz:wr.heap.size<W2.heap.size:=by rw[hW2,Qt];omega
   have fW:Below wr.heap.size wr W2:=by rw[hW2];exact(Below.refl _ _).alloc (Qi _) _
   have OC2:=OC.keeps (Qr.below (T:=T4) fW) (by simp[T4]) (by simp[T4]);have S2:=S.keeps fW;have F2:=Qc (F.o.trans (fW.mono hz0));have b0:=Qb gb 0;have b1:=Qb gb 1;have b2:=Qb gb 2;have b3:=Qb gb 3;simp at b0 b1 b2 b3;obtain⟨g9,u,e9,hb9,hc9,hf9,o9,n9⟩:=S2.at hlt;subst e9;obtain⟨pu,cu,rfl⟩:=Qa o9;have hg9:g9<W2.heap.size:=Zh _ _ hc9;have HU:=Qc o9;have L1:=hc1.out _ (Qx hlt);have L2:=Qc (hc2.out _ (Qx hlt));have L4:(aheF bs m).length≤1000:=Qy (YT _ _ _) hn;have L3:(aheF bs m).length≤1000000:=by omega
   have HAT:Hid (Xy bs m=Jp (aheF bs m) [] bs[m].chs):=by show _=_;rw[Xy,Zl hlt]
   clear hW2 gb fW OC S F hf9 o9 n9 d0 d1 d2 d3
   cases hun:Jp (aheF bs m) [] bs[m].chs with
   | some p=>
    have HP:Hid (JR bs=p):=WM hlt HN.o (by rw[HAT.o];exact hun);have HUN:=Qc hun;clear hun
    go_region_held (fun w'=>w'.cell? ⟨wr.heap.size,0,none⟩=some (.int .i64 bs[m].at_)∧w'.cell? ⟨wr.heap.size,1,none⟩=some (.slice qc bs[m].chs.length cc)∧w'.cell? ⟨wr.heap.size,2,none⟩=some (.slice ps bs[m].sts.length cs1)∧w'.cell? ⟨wr.heap.size,3,none⟩=some (.iface T x)∧w'.cell? ⟨g9,m,none⟩=some (.slice pu (aheF bs m).length cu)) (simp[*])
     (first | (go_at_call 116;refine(Qe7 (aheF bs m) w.heap.size _ W2.drew HU.o L3).mono ?_;rintro e w5 ⟨v5,rfl,o5,f5⟩;have f5':Below W2.heap.size W2 w5:=⟨f5.os,f5.tape,f5.output,f5.size,f5.block⟩;have y0:=f5'.cell (p:=⟨wr.heap.size,0,none⟩) hwz;have y1:=f5'.cell (p:=⟨wr.heap.size,1,none⟩) hwz;have y2:=f5'.cell (p:=⟨wr.heap.size,2,none⟩) hwz;have y3:=f5'.cell (p:=⟨wr.heap.size,3,none⟩) hwz;have y4:=f5'.cell (p:=⟨g9,m,none⟩) hg9;have l6:g9<w5.heap.size:=Nat.lt_of_lt_of_le hg9 f5'.size;have l5:wr.heap.size<w5.heap.size:=Nat.lt_of_lt_of_le hwz f5'.size) | (go_at_call 115;refine(Nh bs[m] (aheF bs m) base W2.heap.size qc cc (.slice ps bs[m].sts.length cs1) (.iface T x) v5 w5 (OC2.keeps (Qr.below (T:=T4) f5') (by simp[T4]) (by simp[T4])) ⟨_,_,_,rfl⟩ ⟨_,_,rfl⟩ o5 L1 L2 L4 HUN.o).mono ?_;rintro e w6 ⟨rfl,f6⟩;have z0:=f6.cell (p:=⟨wr.heap.size,0,none⟩) l5;have z1:=f6.cell (p:=⟨wr.heap.size,1,none⟩) l5;have z2:=f6.cell (p:=⟨wr.heap.size,2,none⟩) l5;have z3:=f6.cell (p:=⟨wr.heap.size,3,none⟩) l5;have z4:=f6.cell (p:=⟨g9,m,none⟩) l6))
    have F6:=Qc ((F2.o.trans (f5'.mono (by omega))).trans (f6.mono (by have:=f5'.size;omega)));clear o5 f5 f5' f6 y0 y1 y2 y3 y4 z0 z1 z2 z3 z4;go_wp2_with fail
    go_ret2
    exact .inl ⟨by rw[HP.o];omega,by rw[HP.o];rfl,F6.o⟩
   | none=>
    have HN2:Hid (∀k,k<m+1→Xy bs k=none):=by
     intro k hk;by_cases e:k=m
     ·subst e;rw[HAT.o];exact hun
     ·exact HN.o k (by omega)
    have HUN:=Qc hun;clear hun
    go_region_held (fun w'=>w'.cell? ⟨wr.heap.size,0,none⟩=some (.int .i64 bs[m].at_)∧w'.cell? ⟨wr.heap.size,1,none⟩=some (.slice qc bs[m].chs.length cc)∧w'.cell? ⟨wr.heap.size,2,none⟩=some (.slice ps bs[m].sts.length cs1)∧w'.cell? ⟨wr.heap.size,3,none⟩=some (.iface T x)∧w'.cell? ⟨g9,m,none⟩=some (.slice pu (aheF bs m).length cu)) (simp[*])
     (first | (go_at_call 116;refine(Qe7 (aheF bs m) w.heap.size _ W2.drew HU.o L3).mono ?_;rintro e w5 ⟨v5,rfl,o5,f5⟩;have f5':Below W2.heap.size W2 w5:=⟨f5.os,f5.tape,f5.output,f5.size,f5.block⟩;have y0:=f5'.cell (p:=⟨wr.heap.size,0,none⟩) hwz;have y1:=f5'.cell (p:=⟨wr.heap.size,1,none⟩) hwz;have y2:=f5'.cell (p:=⟨wr.heap.size,2,none⟩) hwz;have y3:=f5'.cell (p:=⟨wr.heap.size,3,none⟩) hwz;have y4:=f5'.cell (p:=⟨g9,m,none⟩) hg9;have l6:g9<w5.heap.size:=Nat.lt_of_lt_of_le hg9 f5'.size;have l5:wr.heap.size<w5.heap.size:=Nat.lt_of_lt_of_le hwz f5'.size) | (go_at_call 115;refine(G0 bs[m] (aheF bs m) base W2.heap.size qc cc (.slice ps bs[m].sts.length cs1) (.iface T x) v5 w5 (OC2.keeps (Qr.below (T:=T4) f5') (by simp[T4]) (by simp[T4])) ⟨_,_,_,rfl⟩ ⟨_,_,rfl⟩ o5 L1 L2 L4 HUN.o).mono ?_;rintro e w6 ⟨rfl,f6⟩;have z0:=f6.cell (p:=⟨wr.heap.size,0,none⟩) l5;have z1:=f6.cell (p:=⟨wr.heap.size,1,none⟩) l5;have z2:=f6.cell (p:=⟨wr.heap.size,2,none⟩) l5;have z3:=f6.cell (p:=⟨wr.heap.size,3,none⟩) l5;have z4:=f6.cell (p:=⟨g9,m,none⟩) l6))
    have F6:=Qc ((F2.o.trans (f5'.mono (by omega))).trans (f6.mono (by have:=f5'.size;omega)));have S6:=(S2.keeps f5').keeps f6;clear o5 f5 f5' f6 y0 y1 y2 y3 y4 z0 z1 z2 z3 z4 S2;go_wp2_with fail;go_roundw
    case rel=>exact⟨m+1,by omega,by go_num,HN2,S6,F6⟩
    case measure=>simp[intOf];omega
  ·have HP:Hid (JR bs=-1):=Ul (fun i hi=>HN.o i (by omega));go_wp2_with fail
   go_ret2
   exact .inr ⟨by rw[HP.o];decide,rfl,F.o⟩
theorem Qcb{n:Nat}:∀{l:List Q0},(∀c∈l,c.gs.length≤n)→(l.flatMap (·.gs)).length≤l.length*n
 | [],_=>by simp
 | c::l,h=>by
  have h1:=h c (List.mem_cons_self ..);have h2:=Qcb (l:=l) (fun d hd=>h d (ZD _ hd));rw[List.flatMap_cons,Qw,QO,Nat.add_mul];omega
theorem UV{bs:List Qm}(h:¬0≤Xb bs):∀b∈bs,∀p∈goalsF b.e,p.1<bs.length:=by
 intro b hb p hp
 cases hf:(bs.flatMap Ks).find? (XC bs.length) with
 | some g=>exact absurd (by rw[GJ hf];omega) h
 | none=>
  have:=List.find?_eq_none.1 hf p (List.mem_flatMap.2 ⟨b,hb,QB.2 (.inr hp)⟩);simpa[XC] using this
def PRd(w:World)(base:Nat)(s:ByteArray)(v:Value):Prop:=(rdF s).e=0→PBs w base (Qu s).bs v
theorem Uz{w base s v e a}(h:rdF s=⟨e,a⟩)(he:e≠0):PRd w base s v:=fun g=>by rw[h]at g;exact absurd g he
theorem Qhh{w base s v}(h:PBs w base (Qu s).bs v):PRd w base s v:=fun _=>h
theorem QcR(s:ByteArray)(w:World):
  Calls prog 39 #[.string s] w fun x w'=>∃v,x=.returned (.tuple #[v,.int .i64 (rdF s).e,.int .i64 (rdF s).at_])∧PRd w' w.heap.size s v∧Below w.heap.size w w':=by
 by_cases h1:200000<s.size
 ·have HR:Hid (rdF s=⟨1,0⟩):=by show _=_;rw[rdF,if_pos h1]
  go_enter func39,ntmps39;go_wp2_with fail
  go_ret3
  exact⟨_,by rw[HR.o];rfl,Uz HR.o (by decide),Below.refl _ _⟩
 ·go_enter func39,ntmps39;go_wp2_with fail;refine(RT s _ (by omega)).mono ?_;rintro x w1 (⟨v1,rfl,hbad,O,f1⟩|⟨rfl,hbad,f1⟩)
  ·obtain⟨pv,cv,rfl⟩:=O.slice;have hfine:=GF s;have F1:=Qc f1;have h2:¬0≤Q9 s:=by omega
   by_cases h3:12<(Qu s).bs.length
   ·have HR:Hid (rdF s=⟨3,(Qu s).bs[12].at_⟩):=by show _=_;rw[rdF,if_neg h1,if_neg h2,dif_pos h3]
    obtain⟨g,qc,cc,ps,cs1,rfl,_,hgz,hop,OC,OS,d0,d1,d2,d3⟩:=O.at h3;have hbl:(Qu s).bs.length≤1000000:=by omega
    clear hfine hop OC OS O f1;have d48:w1.cell? ⟨g,48,none⟩=some (.int .i64 (Qu s).bs[12].at_):=d0;clear d0;go_wp2_with fail
    go_quiet (fail)
    go_wp2
    go_ret3
    exact⟨_,by rw[HR.o];rfl,Uz HR.o (by decide),below_drewN F1.o _⟩
   ·have hf1:(Qu s).bs.length≤1000:=by omega
    have hf2:∀b∈(Qu s).bs,b.chs.length≤400000:=fun b hb=>by have:=(hfine.2 b hb).1;omega
    have hf3:∀b∈(Qu s).bs,∀c∈b.chs,c.gs.length≤400000:=fun b hb c hc=>by have:=(hfine.2 b hb).2 c hc;omega
    have hf4:∀b∈(Qu s).bs,(chG b).length≤50000000000:=fun b hb=>by
     have q1:=Qcb (hfine.2 b hb).2;have q2:=(hfine.2 b hb).1;have q3:b.chs.length*(s.size+1)≤200001*200001:=Nat.mul_le_mul (by omega) (by omega);rw[chG];omega
    have H2:=Qc hf2;have H3:=Qc hf3;have H4:=Qc hf4;clear hfine hf2 hf3 hf4 f1;go_wp2_with fail;refine(Gj _ _ _ _ O (by omega) H2.o H4.o).mono ?_;rintro x w2 (⟨h4,rfl,f2⟩|⟨h4,rfl,f2⟩)
    ·have HR:Hid (rdF s=⟨4,Xb (Qu s).bs⟩):=by show _=_;rw[rdF,if_neg h1,if_neg (by omega),dif_neg h3,if_pos h4]
     have F2:=Qc (F1.o.trans (f2.mono F1.o.size));clear f2 O;go_wp2_with fail
     go_ret3
     exact⟨_,by rw[HR.o];rfl,Uz HR.o (by decide),F2.o⟩
    ·have F2:=Qc (F1.o.trans (f2.mono F1.o.size));have O2:=O.keeps (Qr.below f2);have HL:Hid (∀b∈(Qu s).bs,∀p∈goalsF b.e,p.1<(Qu s).bs.length):=UV (by omega);clear f2 O;go_wp2_with fail;refine(QcF _ _ _ _ O2 (by omega) HL.o H2.o H3.o).mono ?_;rintro x w3 (⟨h5,rfl,f3⟩|⟨h5,rfl,f3⟩)
     ·have HR:Hid (rdF s=⟨6,JR (Qu s).bs⟩):=by show _=_;rw[rdF,if_neg h1,if_neg (by omega),dif_neg h3,if_neg (by omega),if_pos h5]
      have F3:=Qc (F2.o.trans (f3.mono F2.o.size));clear f3 O2;go_wp2_with fail
      go_ret3
      exact⟨_,by rw[HR.o];rfl,Uz HR.o (by decide),F3.o⟩
     ·have HR:Hid (rdF s=⟨0,0⟩):=by show _=_;rw[rdF,if_neg h1,if_neg (by omega),dif_neg h3,if_neg (by omega),if_neg (by omega)]
      have F3:=Qc (F2.o.trans (f3.mono F2.o.size));have O3:=Qc (O2.keeps (Qr.below f3));clear f3 O2;go_wp2_with fail
      go_ret3
      exact⟨_,by rw[HR.o];rfl,Qhh O3.o,F3.o⟩
  ·have HR:Hid (rdF s=⟨2,Q9 s⟩):=by show _=_;rw[rdF,if_neg h1,if_pos hbad]
   have F1:=Qc f1;clear f1;go_wp2_with fail
   go_ret3
   exact⟨_,by rw[HR.o];rfl,Uz HR.o (by decide),F1.o⟩
end Go.Proofs.YtgfhfkgdmidhpaaGreatDoor
namespace Go.Proofs.YtgfhfkgdmidhpaaGreatDoor
open Go.Lib
open Go.Proofs.Tryz
set_option maxRecDepth 100000
set_option maxHeartbeats 8000000
section
variable {d:Array Int}
theorem Qia(hd:∀i j,i<j→j<d.size→d[i]!≤d[j]!):∀m,m≤d.size→(compactUpTo d m).Pairwise (· < ·)∧(∀x,x∈compactUpTo d m↔∃j,j<m∧d[j]! = x):=by
 intro m
 induction m with
 | zero=>intro _;simp[compactUpTo]
 | succ m ih=>
  intro hm;obtain⟨h1,h2⟩:=ih (by omega);rw[compactUpTo_succ];by_cases hk:keeps d m=true
  ·rw[if_pos hk];constructor
   ·rw[List.pairwise_append];refine⟨h1,List.pairwise_singleton _ _,fun a ha b hb=>?_⟩;rw[QF]at hb;subst hb;obtain⟨j,hj,rfl⟩:=(h2 a).1 ha;have hk':d[m]!≠d[m-1]!:=by
     have:m≠0:=by omega
     simpa[keeps,this] using hk
    have l1:d[j]!≤d[m-1]!:=by
     rcases Nat.lt_or_ge j (m-1) with h|h
     ·exact hd _ _ h (by omega)
     ·rw[show j=m-1 by omega];exact Int.le_refl _
    have l2:=hd (m-1) m (by omega) (by omega);omega
   ·intro x;rw[QB,h2,QF];constructor
    ·rintro (⟨j,hj,e⟩|e)
     ·exact⟨j,by omega,e⟩
     ·exact⟨m,by omega,e.symm⟩
    ·rintro⟨j,hj,e⟩;rcases Nat.lt_or_ge j m with h|h
     ·exact .inl ⟨j,h,e⟩
     ·rw[show j=m by omega]at e;exact .inr e.symm
  ·rw[if_neg hk,List.append_nil];refine⟨h1,fun x=>?_⟩;rw[h2];constructor
   ·rintro⟨j,hj,e⟩;exact⟨j,by omega,e⟩
   ·rintro⟨j,hj,e⟩;rcases Nat.lt_or_ge j m with h|h
    ·exact⟨j,h,e⟩
    ·have hj':j=m:=by omega
     subst hj';simp only[keeps,decide_eq_true_eq,not_or,Decidable.not_not]at hk;exact⟨j-1,by omega,hk.2.symm.trans e⟩
end
def Xk(l:List Nat):List Int:=l.map Int.ofNat
def ZL(l:List Nat):List Int:=(Xk l).mergeSort fun x y=>decide (x≤y)
def ofL(l:List Nat):List Nat:=(compact (ZL l)).map Int.toNat
theorem Gy(l):(ZL l).Perm (Xk l):=List.mergeSort_perm ..
theorem Xd(l):(ZL l).length=l.length:=by rw[(Gy l).length_eq];simp[Xk]
theorem QdU(l):(ZL l).Pairwise (·≤·):=by
 have:=List.pairwise_mergeSort (le:=fun x y:Int=>decide (x≤y)) (fun a b c h1 h2=>by simp only[decide_eq_true_eq]at *;omega) (fun a b=>by simp only[Bool.or_eq_true,decide_eq_true_eq];omega) (Xk l);exact this.imp (fun h=>by simpa using h)
theorem VU(l):(compact (ZL l)).Pairwise (· < ·)∧∀x,x∈compact (ZL l)↔x∈Xk l:=by
 have hd:∀i j,i<j→j<(ZL l).toArray.size→(ZL l).toArray[i]!≤(ZL l).toArray[j]!:=by
  intro i j hij hj;have hj':j<(ZL l).length:=by simpa using hj
  have:=List.pairwise_iff_getElem.1 (QdU l) i j (by omega) hj' hij;rw[getElem!_pos (ZL l).toArray i (by simpa using (by omega:i<(ZL l).length)),getElem!_pos (ZL l).toArray j hj];simpa using this
 have h:=Qia hd (ZL l).length (by simp);refine⟨h.1,fun x=>?_⟩;rw[compact,h.2,←(Gy l).mem_iff];constructor
 ·rintro⟨j,hj,e⟩;rw[getElem!_pos (ZL l).toArray j (by simpa using hj)]at e;rw[←e];simp
 ·intro hx;obtain⟨j,hj,e⟩:=List.getElem_of_mem hx;exact⟨j,hj,by rw[getElem!_pos (ZL l).toArray j (by simpa using hj)];simpa using e⟩
theorem VH(l):Xk (ofL l)=compact (ZL l):=by
 rw[Xk,ofL,List.map_map]
 conv=>rhs;rw[←List.map_id (compact (ZL l))]
 refine List.map_congr_left fun x hx=>?_;rw[(VU l).2,Xk,Qv]at hx;obtain⟨z,_,rfl⟩:=hx;rfl
theorem QN{l x}:x∈ofL l↔x∈l:=by
 rw[ofL,Qv];constructor
 ·rintro⟨y,hy,rfl⟩;rw[(VU l).2,Xk,Qv]at hy;obtain⟨z,hz,rfl⟩:=hy;exact hz
 ·intro hx;exact⟨x,((VU l).2 _).2 (Qv.2 ⟨x,hx,rfl⟩),rfl⟩
theorem Zi(l):(ofL l).Pairwise (· < ·):=by
 rw[ofL,List.pairwise_map];refine(VU l).1.imp_of_mem ?_;intro a b ha hb hab;rw[(VU l).2,Xk,Qv]at ha hb;obtain⟨x,_,rfl⟩:=ha;obtain⟨y,_,rfl⟩:=hb;simp only[Int.ofNat_eq_natCast,Int.toNat_natCast]at hab ⊢;omega
end Go.Proofs.YtgfhfkgdmidhpaaGreatDoor
namespace Go.Proofs.YtgfhfkgdmidhpaaGreatDoor
open Go.RowKit
open Go.Proofs.Tryz
set_option maxRecDepth 100000
set_option maxHeartbeats 8000000
theorem YN(l:List Nat):∀y∈Qe l,y.oneCell'=true:=fun y hy=>by
 obtain⟨n,_,rfl⟩:=Qv.1 hy;rfl
theorem QkK(n:Nat)(w:World)(hn:n≤3000000):
  Calls prog 222 #[.slice none 0 0,.int .i64 n] w fun e w'=>∃v',e=.returned v'∧w'.ownsRow w.heap.size 143 1 v' 0 []∧Below w.heap.size w w':=by
 by_cases h0:n=0
 ·subst h0;go_enter func222,ntmps222;go_wp2_with fail;go_ret;exact⟨_,rfl,Q3 _ _ _ _,Below.refl _ _⟩
 ·obtain⟨i0,hi0,hz0,hzs,hzb⟩:=info_parts XV;obtain⟨G,hG⟩:∃G,G=grownCap w n 0 143:=⟨_,rfl⟩;have hGn:n≤G:=by rw[hG];exact grownCap_ge w _ _ _
  have hGm:G≤maxLen:=by rw[hG];exact grownCap_le_maxLen w n 0 143 (by unfold maxLen;omega)
  obtain⟨ROW,hROW⟩:∃ROW:Array Value,ROW=#[]++Builtin.zeroCells (Value.int .i64 0).cells n++Builtin.zeroCells (Value.int .i64 0).cells (G-n):=⟨_,rfl⟩;have hRs:ROW.size=G:=by
   rw[hROW];simp[Builtin.zeroCells,Value.cells];omega
  have hold:(Builtin.firstCells i0.size 0 (.slice none 0 0)).run prog w.drew=.ok #[] w.drew:=by rw[hzs];kernel_rfl
  have hrz:∀ty,(Builtin.append_ #[80,3] ty #[.slice none 0 0,.int .i64 n]).run prog w=.ok (.slice (some ⟨w.heap.size,0,none⟩) n G) (w.drew.alloc (.cells ROW 143)):=fun ty=>by
   have h:=Lib.run_append_grow_zeros w 80 3 ty 143 i0 _ .i64 .i64 underlying80 underlying3 hi0 hz0 none 0 0 [] hold n (by omega) (by omega) (by omega) (by omega) (by rw[hzb];omega) (by rw[hzb,Nat.zero_add];exact growslice_fits (by omega) (by omega));rw[Nat.zero_add,←hG,←hROW]at h;exact h
  have HG:=Qc (And.intro hG hROW);have HO:=Qc (And.intro hold hi0);clear hG hROW hold hi0 hz0 hzs hzb;go_enter func222,ntmps222;go_wp2_with (at_builtin;refine Lib.wpList_append_run _ rfl _ _ _ _ rfl _ _ rfl rfl _ _ (hrz _) ?_);go_ret;refine⟨_,rfl,?_,?_⟩
  ·exact⟨rfl,.inr ⟨w.heap.size,G,ROW,rfl,Qi _,heap_alloc_last w.drew _,Nat.zero_le _,hGm,by rw[hRs];omega,rfl⟩⟩
  ·have f:=(Below.refl w.heap.size w).alloc (Qi _) (.cells ROW 143);exact⟨f.os,f.tape,f.output,f.size,f.block⟩
theorem Rk{w:World}{base e size n g c:Nat}{xs:List Value}(h:w.ownsRow base e size (.slice (some ⟨g,0,none⟩) n c) n xs):∃cur,w.heap[g]?=some (.cells cur e (0,0)):=by
 rcases h.2 with ⟨h1,_⟩|⟨g',cap,cur,hv,_,hg,_⟩
 ·cases h1
 ·cases hv;exact⟨cur,hg⟩
theorem Nc{t e:TypeId}{z:Value}{bytes:Nat}(ht:prog.underlying t=some (.slice e))(hi:(prog.info? e).map (fun i=>(i.zero,i.size,i.bytes))=some (some z,1,bytes))(hzs:z.cells.size=1)
  {ops:Array Oper}{rest:List Oper}{o:Oper}{a:Act}{Q:Exit→Act→World→Prop}{w:World}(hgd:o.guard=none)(s x:Operand)
  (ho:o.op=.call { callee:=.builtin .append,args:=#[s,x],argTypes:=#[t,t] })
  {base B2:Nat}{v u:Value}{n m:Nat}{xs ys:List Value}(hs:a.eval s=v)(hown:w.ownsRow base e 1 v n xs)(hx:a.eval x=u)(hsrc:w.ownsRow B2 e 1 u m ys)(h1:∀y∈ys,y.oneCell'=true)
  (h63:n+m≤maxLen)(hbytes:(n+m)*bytes≤140737488355328)(hbase:base≤w.heap.size)
  (h:∀v' w',w'.ownsRow base e 1 v' (n+m) (xs++ys)→w.grownBy w' v.ownBlock→wpList prog ops Q rest (a.put o.dst v') w'):wpList prog ops Q (o::rest) a w:=by
 rcases hsrc.2 with ⟨rfl,h0⟩|⟨g,c,cur,rfl,_,hg,_⟩
 ·refine Qga ht hi hgd s x ho hs hown hx (h v w ?_ ⟨rfl,rfl,rfl,Qi _,fun _ _ _=>rfl⟩);have hy:ys=[]:=List.eq_nil_of_length_eq_zero (by rw[hsrc.1,h0]);rw[hy,h0,List.append_nil,Nat.add_zero];exact hown
 ·obtain⟨I,Hi,Hz,Hs,Hb⟩:=info_parts hi;exact wpList_append_own w hgd s x t ho base e I z 1 bytes ht Hi Hz Hs Hb hzs (by decide) v n xs hs hown ⟨g,0,none⟩ m c ys hx hsrc.1 (fun j y hj=>hsrc.cells rfl j y hj) h1 h63 hbytes hbase (fun v' w' a b _=>h v' w' a b)
theorem Qh9(a b:List Nat)(B1 B2:Nat)(va vb:Value)(w:World)(ha:w.ownsRow B1 143 1 va a.length (Qe a))(hb:w.ownsRow B2 143 1 vb b.length (Qe b))(hla:a.length≤1000000)(hlb:b.length≤1000000)
  (g:Nat)(c:Nat)(hg:w.heap[g]?=some (.cells #[va,vb] 80 (0,0))):
  Calls prog 202 #[.slice (some ⟨g,0,none⟩) 2 c] w fun e w'=>∃v',e=.returned v'∧w'.ownsRow w.heap.size 143 1 v' (a++b).length (Qe (a++b))∧Below w.heap.size w w':=by
 obtain⟨pa,ca,rfl⟩:=Qa ha;obtain⟨pb,cb,rfl⟩:=Qa hb;have c0:=Qb hg 0;have c1:=Qb hg 1;simp at c0 c1;have hgl:g<w.heap.size:=lt_of_block hg;have HA:=Qc ha;have HB:=Qc hb;clear ha hb hg;go_enter func202,ntmps202;go_wp2_with fail
 go_loop [3,11] (fun s i=>(i=.int .i64 0∧s=.int .i64 0)∨(i=.int .i64 1∧s=.int .i64 a.length)∨(i=.int .i64 2∧s=.int .i64 ((a.length+b.length:Nat):Int))) (fun _ i=>2-(intOf i).toNat)
 case atStart=>exact .inl ⟨rfl,rfl⟩
 case round=>
  rcases hrel with ⟨rfl,rfl⟩|⟨rfl,rfl⟩|⟨rfl,rfl⟩
  ·have hd:decide ((a.length:Int)<0)=false:=by simp
   go_wp2_with fail
   go_round
   case rel=>exact .inr (.inl ⟨rfl,by simp⟩)
   case measure=>simp[intOf]
  ·have hd:decide ((a.length:Int)+(b.length:Int)<0)=false:=by simp;omega
   go_wp2_with fail
   go_round
   case rel=>exact .inr (.inr ⟨rfl,by go_num⟩)
   case measure=>simp[intOf]
  ·go_wp2_with fail;refine(QkK (a.length+b.length) _ (by omega)).mono ?_;rintro e w1 ⟨v1,rfl,o1,f1⟩;have F1:=Qc f1;have hz:=f1.size;obtain⟨p1,q1,rfl⟩:=Qa o1;clear f1;go_wp2_with fail
   go_loopw [6,27] (fun l i wr=>Hid (Below w.heap.size w wr)∧w.heap.size≤wr.heap.size∧((i=.int .i64 0∧wr.ownsRow w.heap.size 143 1 l 0 [])∨(i=.int .i64 1∧wr.ownsRow w.heap.size 143 1 l a.length (Qe a))∨(i=.int .i64 2∧wr.ownsRow w.heap.size 143 1 l (a.length+b.length) (Qe a++Qe b)))) (fun _ i _=>2-(intOf i).toNat)
   case atStart=>exact⟨F1,hz,.inl ⟨rfl,o1⟩⟩
   case round=>
    clear o1 F1 hz;obtain⟨F,hz,hrel⟩:=hrel;have d0:wr.cell? ⟨g,0,none⟩=_:=(F.o.cell (p:=⟨g,0,none⟩) hgl).trans c0;have d1:wr.cell? ⟨g,1,none⟩=_:=(F.o.cell (p:=⟨g,1,none⟩) hgl).trans c1;rcases hrel with ⟨rfl,o⟩|⟨rfl,o⟩|⟨rfl,o⟩
    ·obtain⟨p2,q2,rfl⟩:=Qa o;go_wp2_with (at_builtin;refine QA ?_);refine Qc ?_;refine Nc underlying80 XV rfl rfl _ _ rfl rfl o rfl (Qd HA.o (Qh F.o) trivial) (YN a) (by unfold maxLen;omega) (by omega) hz ?_;intro v3 w3 o3 g3;rw[Nat.zero_add,List.nil_append]at o3;replace F:=Qc (Below.grown F.o g3 hz (fun j hj=>(o.lt j hj).1));have hz3:w.heap.size≤w3.heap.size:=Qy hz g3.size;clear g3 o;obtain⟨p5,c5,rfl⟩:=Qa o3;go_wp2_with fail;go_roundw
     case rel=>exact⟨F,hz3,.inr (.inl ⟨rfl,o3⟩)⟩
     case measure=>simp[intOf]
    ·obtain⟨p2,q2,rfl⟩:=Qa o;go_wp2_with (at_builtin;refine QA ?_);refine Qc ?_;refine Nc underlying80 XV rfl rfl _ _ rfl rfl o rfl (Qd HB.o (Qh F.o) trivial) (YN b) (by unfold maxLen;omega) (by omega) hz ?_;intro v3 w3 o3 g3;replace F:=Qc (Below.grown F.o g3 hz (fun j hj=>(o.lt j hj).1));have hz3:w.heap.size≤w3.heap.size:=Qy hz g3.size;clear g3 o;obtain⟨p5,c5,rfl⟩:=Qa o3;go_wp2_with fail;go_roundw
     case rel=>exact⟨F,hz3,.inr (.inr ⟨rfl,o3⟩)⟩
     case measure=>simp[intOf]
    ·obtain⟨p2,q2,rfl⟩:=Qa o;have O:=Qc o;clear o;go_wp2_with fail;go_ret;exact⟨_,rfl,by rw[KI,Qw];exact O.o,F.o⟩
end Go.Proofs.YtgfhfkgdmidhpaaGreatDoor
namespace Go.Proofs.YtgfhfkgdmidhpaaGreatDoor
open Go.Shelf
open Go.Proofs.Tryz
set_option maxRecDepth 100000
set_option maxHeartbeats 8000000
def Tryz.sortB_ren:Go.Shelf.Ren:=⟨fun|5=>168|8=>205|7=>204|19=>231|20=>232|10=>223|11=>224|12=>225|13=>226|14=>227|15=>228|16=>170|17=>229|18=>230|30=>246|31=>247|32=>248|33=>249|34=>250|35=>206|40=>259|n=>n,fun|23=>80|25=>143|3=>3|32=>286|22=>80|0=>0|44=>343|46=>345|4=>4|36=>337|35=>336|41=>129|5=>5|9=>9|53=>355|57=>359|63=>371|64=>30|n=>n,fun|n=>n⟩
theorem Tryz.sortB:Go.Proofs.SlLaysM.n5 prog Tryz.sortB_ren:={
 mixed:=by kernel_rfl
 f5:=⟨Tryz.f168.name,by decide,func168.trans (congrArg some (by kernel_rfl))⟩
 f7:=⟨Tryz.f204.name,by decide,func204.trans (congrArg some (by kernel_rfl))⟩
 f8:=func205.trans (congrArg some (by kernel_rfl))
 f10:=⟨Tryz.f223.name,by decide,func223.trans (congrArg some (by kernel_rfl))⟩
 f11:=⟨Tryz.f224.name,by decide,func224.trans (congrArg some (by kernel_rfl))⟩
 f12:=⟨Tryz.f225.name,by decide,func225.trans (congrArg some (by kernel_rfl))⟩
 f13:=⟨Tryz.f226.name,by decide,func226.trans (congrArg some (by kernel_rfl))⟩
 f14:=⟨Tryz.f227.name,by decide,func227.trans (congrArg some (by kernel_rfl))⟩
 f15:=⟨Tryz.f228.name,by decide,func228.trans (congrArg some (by kernel_rfl))⟩
 f16:=⟨Tryz.f170.name,by decide,func170.trans (congrArg some (by kernel_rfl))⟩
 f17:=⟨Tryz.f229.name,by decide,func229.trans (congrArg some (by kernel_rfl))⟩
 f18:=⟨Tryz.f230.name,by decide,func230.trans (congrArg some (by kernel_rfl))⟩
 f19:=func231.trans (congrArg some (by kernel_rfl))
 f20:=func232.trans (congrArg some (by kernel_rfl))
 f30:=⟨Tryz.f246.name,by decide,func246.trans (congrArg some (by kernel_rfl))⟩
 f31:=func247.trans (congrArg some (by kernel_rfl))
 f32:=func248.trans (congrArg some (by kernel_rfl))
 f33:=⟨Tryz.f249.name,by decide,func249.trans (congrArg some (by kernel_rfl))⟩
 f34:=⟨Tryz.f250.name,by decide,func250.trans (congrArg some (by kernel_rfl))⟩
 f35:=⟨Tryz.f206.name,by decide,func206.trans (congrArg some (by kernel_rfl))⟩
 f40:=⟨Tryz.f259.name,by decide,func259.trans (congrArg some (by kernel_rfl))⟩
 t0:=underlying0
 a0:=isAgg0
 z0:=sizeOf0
 v0:=zeroValue0
 t3:=underlying3
 a3:=isAgg3
 z3:=sizeOf3
 v3:=zeroValue3
 t4:=underlying4
 a4:=isAgg4
 z4:=sizeOf4
 v4:=zeroValue4
 t5:=underlying5
 a5:=isAgg5
 z5:=sizeOf5
 v5:=zeroValue5
 t9:=underlying9
 a9:=isAgg9
 z9:=sizeOf9
 v9:=zeroValue9
 t22:=underlying80
 a22:=isAgg80
 z22:=sizeOf80
 v22:=zeroValue80
 t23:=underlying80
 a23:=isAgg80
 z23:=sizeOf80
 v23:=zeroValue80
 t25:=underlying143
 a25:=isAgg143
 z25:=sizeOf143
 v25:=zeroValue143
 t32:=underlying286
 a32:=isAgg286
 z32:=sizeOf286
 v32:=zeroValue286
 t35:=underlying336
 a35:=isAgg336
 z35:=sizeOf336
 v35:=zeroValue336
 t36:=underlying337
 a36:=isAgg337
 z36:=sizeOf337
 v36:=zeroValue337
 t41:=underlying129
 a41:=isAgg129
 z41:=sizeOf129
 v41:=zeroValue129
 t44:=underlying343
 a44:=isAgg343
 z44:=sizeOf343
 v44:=zeroValue343
 t46:=underlying345
 a46:=isAgg345
 z46:=sizeOf345
 v46:=zeroValue345
 t53:=underlying355
 a53:=isAgg355
 z53:=sizeOf355
 v53:=zeroValue355
 t57:=underlying359
 a57:=isAgg359
 z57:=sizeOf359
 v57:=zeroValue359
 t63:=underlying371
 a63:=isAgg371
 z63:=sizeOf371
 v63:=zeroValue371
 t64:=underlying30
 a64:=isAgg30
 z64:=sizeOf30
 v64:=zeroValue30 }
def Tryz.compactB_ren:Go.Shelf.Ren:=⟨fun|43=>169|n=>n,fun|22=>80|23=>143|3=>3|4=>4|0=>0|n=>n,fun|n=>n⟩
theorem Tryz.compactB:Go.Proofs.SlLaysN.n43 prog Tryz.compactB_ren:={
 mixed:=by kernel_rfl
 f43:=⟨Tryz.f169.name,by decide,func169.trans (congrArg some (by kernel_rfl))⟩
 t0:=underlying0
 a0:=isAgg0
 z0:=sizeOf0
 v0:=zeroValue0
 t3:=underlying3
 a3:=isAgg3
 z3:=sizeOf3
 v3:=zeroValue3
 t4:=underlying4
 a4:=isAgg4
 z4:=sizeOf4
 v4:=zeroValue4
 t22:=underlying80
 a22:=isAgg80
 z22:=sizeOf80
 v22:=zeroValue80
 t23:=underlying143
 a23:=isAgg143
 z23:=sizeOf143
 v23:=zeroValue143
 i23:=by kernel_rfl }
def Tryz.sortR_ren:Go.Shelf.Ren:=⟨fun|5=>185|8=>205|7=>213|19=>231|20=>232|10=>234|11=>235|12=>236|13=>237|14=>238|15=>239|16=>192|17=>240|18=>241|30=>251|31=>247|32=>248|33=>252|34=>253|35=>216|40=>260|n=>n,fun|23=>159|25=>78|3=>3|32=>286|22=>159|0=>0|44=>343|46=>345|4=>4|36=>337|35=>336|41=>129|5=>5|9=>9|53=>355|57=>359|63=>371|64=>30|n=>n,fun|n=>n⟩
theorem Tryz.sortR:Go.Proofs.SlLaysM.n5 prog Tryz.sortR_ren:={
 mixed:=by kernel_rfl
 f5:=⟨Tryz.f185.name,by decide,func185.trans (congrArg some (by kernel_rfl))⟩
 f7:=⟨Tryz.f213.name,by decide,func213.trans (congrArg some (by kernel_rfl))⟩
 f8:=func205.trans (congrArg some (by kernel_rfl))
 f10:=⟨Tryz.f234.name,by decide,func234.trans (congrArg some (by kernel_rfl))⟩
 f11:=⟨Tryz.f235.name,by decide,func235.trans (congrArg some (by kernel_rfl))⟩
 f12:=⟨Tryz.f236.name,by decide,func236.trans (congrArg some (by kernel_rfl))⟩
 f13:=⟨Tryz.f237.name,by decide,func237.trans (congrArg some (by kernel_rfl))⟩
 f14:=⟨Tryz.f238.name,by decide,func238.trans (congrArg some (by kernel_rfl))⟩
 f15:=⟨Tryz.f239.name,by decide,func239.trans (congrArg some (by kernel_rfl))⟩
 f16:=⟨Tryz.f192.name,by decide,func192.trans (congrArg some (by kernel_rfl))⟩
 f17:=⟨Tryz.f240.name,by decide,func240.trans (congrArg some (by kernel_rfl))⟩
 f18:=⟨Tryz.f241.name,by decide,func241.trans (congrArg some (by kernel_rfl))⟩
 f19:=func231.trans (congrArg some (by kernel_rfl))
 f20:=func232.trans (congrArg some (by kernel_rfl))
 f30:=⟨Tryz.f251.name,by decide,func251.trans (congrArg some (by kernel_rfl))⟩
 f31:=func247.trans (congrArg some (by kernel_rfl))
 f32:=func248.trans (congrArg some (by kernel_rfl))
 f33:=⟨Tryz.f252.name,by decide,func252.trans (congrArg some (by kernel_rfl))⟩
 f34:=⟨Tryz.f253.name,by decide,func253.trans (congrArg some (by kernel_rfl))⟩
 f35:=⟨Tryz.f216.name,by decide,func216.trans (congrArg some (by kernel_rfl))⟩
 f40:=⟨Tryz.f260.name,by decide,func260.trans (congrArg some (by kernel_rfl))⟩
 t0:=underlying0
 a0:=isAgg0
 z0:=sizeOf0
 v0:=zeroValue0
 t3:=underlying3
 a3:=isAgg3
 z3:=sizeOf3
 v3:=zeroValue3
 t4:=underlying4
 a4:=isAgg4
 z4:=sizeOf4
 v4:=zeroValue4
 t5:=underlying5
 a5:=isAgg5
 z5:=sizeOf5
 v5:=zeroValue5
 t9:=underlying9
 a9:=isAgg9
 z9:=sizeOf9
 v9:=zeroValue9
 t22:=underlying159
 a22:=isAgg159
 z22:=sizeOf159
 v22:=zeroValue159
 t23:=underlying159
 a23:=isAgg159
 z23:=sizeOf159
 v23:=zeroValue159
 t25:=underlying78
 a25:=isAgg78
 z25:=sizeOf78
 v25:=zeroValue78
 t32:=underlying286
 a32:=isAgg286
 z32:=sizeOf286
 v32:=zeroValue286
 t35:=underlying336
 a35:=isAgg336
 z35:=sizeOf336
 v35:=zeroValue336
 t36:=underlying337
 a36:=isAgg337
 z36:=sizeOf337
 v36:=zeroValue337
 t41:=underlying129
 a41:=isAgg129
 z41:=sizeOf129
 v41:=zeroValue129
 t44:=underlying343
 a44:=isAgg343
 z44:=sizeOf343
 v44:=zeroValue343
 t46:=underlying345
 a46:=isAgg345
 z46:=sizeOf345
 v46:=zeroValue345
 t53:=underlying355
 a53:=isAgg355
 z53:=sizeOf355
 v53:=zeroValue355
 t57:=underlying359
 a57:=isAgg359
 z57:=sizeOf359
 v57:=zeroValue359
 t63:=underlying371
 a63:=isAgg371
 z63:=sizeOf371
 v63:=zeroValue371
 t64:=underlying30
 a64:=isAgg30
 z64:=sizeOf30
 v64:=zeroValue30 }
def Tryz.compactR_ren:Go.Shelf.Ren:=⟨fun|43=>208|n=>n,fun|22=>159|23=>78|3=>3|4=>4|0=>0|n=>n,fun|n=>n⟩
theorem Tryz.compactR:Go.Proofs.SlLaysN.n43 prog Tryz.compactR_ren:={
 mixed:=by kernel_rfl
 f43:=⟨Tryz.f208.name,by decide,func208.trans (congrArg some (by kernel_rfl))⟩
 t0:=underlying0
 a0:=isAgg0
 z0:=sizeOf0
 v0:=zeroValue0
 t3:=underlying3
 a3:=isAgg3
 z3:=sizeOf3
 v3:=zeroValue3
 t4:=underlying4
 a4:=isAgg4
 z4:=sizeOf4
 v4:=zeroValue4
 t22:=underlying159
 a22:=isAgg159
 z22:=sizeOf159
 v22:=zeroValue159
 t23:=underlying78
 a23:=isAgg78
 z23:=sizeOf78
 v23:=zeroValue78
 i23:=by kernel_rfl }
end Go.Proofs.YtgfhfkgdmidhpaaGreatDoor
