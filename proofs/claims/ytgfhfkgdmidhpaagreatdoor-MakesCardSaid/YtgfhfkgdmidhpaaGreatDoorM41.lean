import Derived.Test.YtgfhfkgdmidhpaaGreatDoorM40
namespace Go.Proofs.YtgfhfkgdmidhpaaGreatDoor
open Go.RowKit Go.Maps
open Go.Proofs.Tryz
set_option maxRecDepth 100000
set_option maxHeartbeats 8000000
def PT(_W0 cur:List Nat)(t:Qz):Prop:=∀y∈rdsF t,y.1∈cur
structure QdG(co:Nat→Bool)(W0 cur:List Nat)(b:Qm):Prop where
 s:∀t∈b.sts,PT W0 cur t
 e:PE cur b.e
 c:∀c∈b.chs,PC co W0 cur c
theorem PT.up{W0 cur cur' t}(h:PT W0 cur t)(hs:∀x∈cur,x∈cur'):PT W0 cur' t:=fun y hy=>hs _ (h y hy)
theorem QdG.up{co W0 cur cur' b}(h:QdG co W0 cur b)(hs:∀x∈cur,x∈cur'):QdG co W0 cur' b:=⟨fun t ht=>(h.s t ht).up hs,h.e.up hs,fun c hc=>(h.c c hc).up hs⟩
theorem QgM{bs:List Qm}(hr:J5 bs){W0 cur:List Nat}(h0:W0.Pairwise (· < ·))(h:RnI W0 cur)(hd:∀j,j<bs.length→coF bs j=true→QdG (coF bs) W0 cur (bkF bs j))(hl:cur.length≤W0.length)(hp:POk (absP bs)):∀r,Wm (absP bs) r→r∈cur:=by
 have hb:=Vv rfl h0 h.srt h.sub hl;have hcm:∀{b},Cm (absP bs) b→QdG (coF bs) W0 cur (bkF bs b)∧coF bs b=true:=fun {b} hc=>by
  have h1:=(VT hr b).2 hc;have h2:=hc.lt hp;exact⟨hd b (by simpa[absP] using h2) h1,h1⟩
 intro r hw
 induction hw with
 | @fin b r hc hr2=>
  obtain⟨D,_⟩:=hcm hc;rw[QX]at hr2;have hr2:r∈rdE (ZT (bkF bs b).e):=hr2;unfold rdE at hr2;split at hr2
  ·rename_i h63;have h63:(bkF bs b).e.op=63:=h63;rw[QF]at hr2;subst hr2;exact D.e (bkF bs b).e.a (by unfold XA;rw[if_pos h63];exact QF.2 rfl)
  ·simp at hr2
 | @st b r t hc ht hr2=>
  obtain⟨D,_⟩:=hcm hc;rw[QX]at ht;obtain⟨t0,h0,rfl⟩:=Qv.1 ht;rw[VA]at hr2;obtain⟨y,hy,rfl⟩:=Qv.1 hr2;exact D.s t0 h0 y hy
 | @ch b c p hc hc2 _ hp2 hcp ih=>
  obtain⟨D,_⟩:=hcm hc;rw[QX]at hc2;obtain⟨c0,h0,rfl⟩:=Qv.1 hc2;obtain⟨q,hq,rfl⟩:=Gg.1 hp2;exact D.c c0 h0 (hb _ ih) q hq ((VT hr _).2 hcp)
structure RoJ(w0:World)(bs:List Qm)(vc:Value)(W0:List Nat)(i:Nat)(vw:Value)(cur:List Nat)(wr:World):Prop where
 r:RnI W0 cur
 d:∀j,j<i→coF bs j=true→QdG (coF bs) W0 cur (bkF bs j)
 k:WkI w0 bs.length (coF bs) vc vw cur wr
theorem RoJ.keeps{w0 bs vc W0 i vw cur wr wr'}(h:RoJ w0 bs vc W0 i vw cur wr)(F:Below wr.heap.size wr wr'):RoJ w0 bs vc W0 i vw cur wr':=⟨h.r,h.d,h.k.keeps F⟩
theorem RoJ.put{w0 bs vc W0 i vw cur wr wr' v' x}(h:RoJ w0 bs vc W0 i vw cur wr)(hx:x<10000)(F:Below wr.heap.size wr wr')(o:wr'.ownsRow wr.heap.size 3 1 v' (ptF cur x).length (Qe (ptF cur x))):RoJ w0 bs vc W0 i v' (ptF cur x) wr':=
 ⟨h.r.put hx,fun j hj hc=>(h.d j hj hc).up fun _ hy=>ZW.2 (.inl hy),h.k.put F o⟩
theorem Qgn(bs:List Qm)(base:Nat)(v:Value)(w:World)(h:QR w base bs v)(hr:Hid (J5 bs))(hp:Hid (POk (absP bs)))(hf:Hid (∀b∈bs,QU 1000000 b))(hg2:Hid (∀b∈bs,∀c∈b.chs,c.gs.length≤1000))(hcg:Hid (∀b∈bs,∀c∈b.chs,∀p∈c.gs,p.1<bs.length))(hn:bs.length≤12):
  Calls prog 30 #[v,.bool false] w fun x w'=>∃v' L,x=.returned v'∧Hid (w'.ownsRow w.heap.size 3 1 v' L.length (Qe L)∧L.length≤10000∧(∀r,Wm (absP bs) r→r∈L)∧Below w.heap.size w w'):=by
 obtain⟨pv,cv,rfl⟩:=h.slice;have HB:=Qc h;clear h;go_enter func30,ntmps30;go_wp2_with fail;refine(Rp bs (-1) base _ w HB.o hr.out.goals hr.out.pos (by omega)).mono ?_;rintro x w1 ⟨v1,rfl,o1,f1⟩;rw[Nb]at o1;obtain⟨p1,c1,rfl⟩:=Qa o1;have H1:Hid (WkI w bs.length (coF bs) (.slice p1 bs.length c1) (.slice none 0 0) [] w1):=⟨o1,Q3 _ _ _ _,f1⟩;clear o1 f1;go_wp2_with fail
 go_loopw [6,7] (fun vw tt wr=>∃(W0:List Nat)(tb:Bool),tt=.bool tb∧Hid (RnI W0 W0∧(tb=false→∀r,Wm (absP bs) r→r∈W0)∧WkI w bs.length (coF bs) (.slice p1 bs.length c1) vw W0 wr)) (fun vw tt _=>rnM vw tt)
 case atStart=>exact⟨[],true,rfl,⟨fun _ h=>h,List.Pairwise.nil,fun _ h=>absurd h (by simp)⟩,fun h=>by simp at h,H1.o⟩
 case round=>
  clear H1;obtain⟨W0,tb,rfl,HI⟩:=hrel;rename World=>wA;obtain⟨pw,cw,rfl⟩:=Qa HI.o.2.2.l
  cases tb with
  | false=>
   go_wp2_with fail;go_ret;exact⟨_,rfl,W0,HI.o.2.2.l,HI.o.1.len,(by first | exact HI.o.2.1 rfl | exact HI.o.2.1 trivial),HI.o.2.2.f⟩
  | true=>
   go_wp2_with fail;have hW0:=HI.o.1.len;have B0:Hid (RoJ w bs (.slice p1 bs.length c1) W0 0 (.slice pw W0.length cw) W0 wA):=⟨HI.o.1,fun j hj=>absurd hj (by omega),HI.o.2.2⟩;have HS0:=Qc HI.o.1.srt;clear HI
   go_loopw [6,9] (fun vw ii wr=>∃(i:Nat)(cur:List Nat),i≤bs.length∧ii=.int .i64 i∧Hid (RoJ w bs (.slice p1 bs.length c1) W0 i vw cur wr)) (fun _ ii _=>bs.length-(intOf ii).toNat)
   case atStart=>exact⟨0,W0,by omega,rfl,B0⟩
   case round=>
    clear B0;obtain⟨i,cur,hi,rfl,HC⟩:=hrel;rename World=>wB;obtain⟨pc,cc,rfl⟩:=Qa HC.o.k.l;by_cases hlt:i<bs.length
    ·obtain⟨g,qc,cq,ps,cs,rfl,_,hg,OC,OS,bc⟩:=HB.o.at hlt;obtain⟨g1,rfl,_,_⟩:=Qk HC.o.k.c (by omega);have D1:Hid (∀wr,Below w.heap.size w wr→wr.cell? ⟨g,i*10+1,none⟩=some (.slice ps bs[i].sts.length cs)):=fun wr F=>(F.cell (p:=⟨g,i*10+1,none⟩) hg).trans (bc 1 _ rfl);have D0:Hid (∀wr,Below w.heap.size w wr→wr.cell? ⟨g,i*10,none⟩=some (.slice qc bs[i].chs.length cq)):=fun wr F=>(F.cell (p:=⟨g,i*10,none⟩) hg).trans (bc 0 _ rfl);have D2:Hid (∀wr,Below w.heap.size w wr→wr.cell? ⟨g,i*10+2,none⟩=some (.int .u8 bs[i].e.op)):=fun wr F=>(F.cell (p:=⟨g,i*10+2,none⟩) hg).trans (bc 2 _ rfl);have D3:Hid (∀wr,Below w.heap.size w wr→wr.cell? ⟨g,i*10+3,none⟩=some (.int .i64 bs[i].e.a.1)):=fun wr F=>(F.cell (p:=⟨g,i*10+3,none⟩) hg).trans (bc 3 _ rfl);have HOC:=Qc (And.intro OC OS);have HBK:Hid (bkF bs i=bs[i]):=Zj hlt;have HFI:=Qc (hf.out _ (Qx hlt));have HG2:=Qc (hg2.out _ (Qx hlt));have HCG:=Qc (hcg.out _ (Qx hlt));have hcl:=HFI.o.cl;have hsl:=HFI.o.sl;generalize hbb:bs[i]=bb at *;clear OC OS bc hbb;go_wp2_with fail;have B1:Hid (RoJ w bs (.slice (some ⟨g1,0,none⟩) bs.length c1) W0 i (.slice pc cur.length cc) cur wB∧∀t∈bb.sts.take 0,PT W0 cur t):=⟨HC.o,fun t ht=>absurd ht (by simp)⟩;clear HC
     go_loopw [6,10] (fun vw kk wr=>∃(k:Nat)(cur:List Nat),k≤bb.sts.length∧kk=.int .i64 k∧Hid (RoJ w bs (.slice (some ⟨g1,0,none⟩) bs.length c1) W0 i vw cur wr∧∀t∈bb.sts.take k,PT W0 cur t)) (fun _ kk _=>bb.sts.length-(intOf kk).toNat)
     case atStart=>exact⟨0,cur,by omega,rfl,B1⟩
     case round=>
      clear B1;obtain⟨k,cur,hk,rfl,HK⟩:=hrel;rename World=>wC;obtain⟨pk,ck,rfl⟩:=Qa HK.o.1.k.l;have d1:=D1.o wC HK.o.1.k.f;have e1:=Qf HK.o.1.k.c (ZS (f:=coF bs) hlt);obtain⟨kb,hkb⟩:∃kb,kb=coF bs i:=⟨_,rfl⟩;rw[←hkb]at e1;have HKB:=Qc hkb;clear hkb
      cases kb with
      | false=>
       by_cases hkl:k<bb.sts.length
       all_goals
        have d0:=D0.o wC HK.o.1.k.f;have d2:=D2.o wC HK.o.1.k.f;go_wp2_with fail;have B3:Hid (RoJ w bs (.slice (some ⟨g1,0,none⟩) bs.length c1) W0 i (.slice pk cur.length ck) cur wC):=HK.o.1;clear d0 d1 d2 e1 HK
        go_loopw [6,14] (fun vw kk wr=>vw=.slice pk cur.length ck∧kk=.int .i64 0∧Hid (RoJ w bs (.slice (some ⟨g1,0,none⟩) bs.length c1) W0 i (.slice pk cur.length ck) cur wr)) (fun _ _ _=>0)
        case atStart=>exact⟨rfl,rfl,B3⟩
        case round=>
         clear B3;obtain⟨rfl,rfl,HQ⟩:=hrel;rename World=>wE;have d0:=D0.o wE HQ.o.k.f;have e1:=Qf HQ.o.k.c (ZS (f:=coF bs) hlt);rw[←HKB.o]at e1;have HN9:Hid (RoJ w bs (.slice (some ⟨g1,0,none⟩) bs.length c1) W0 (i+1) (.slice pk cur.length ck) cur wE):=by
          refine⟨HQ.o.r,fun j hj hc=>?_,HQ.o.k⟩;by_cases h:j<i
          ·exact HQ.o.d j h hc
          ·have:j=i:=by omega
           rw[this,←HKB.o]at hc;cases hc
         clear HQ;by_cases hql:0<bb.chs.length
         all_goals
          go_wp2_with fail;go_roundw
          case rel=>exact⟨i+1,cur,by omega,by go_num,HN9⟩
          case measure=>simp[intOf];omega
      | true=>
       by_cases hkl:k<bb.sts.length
       ·have OS:=Qd HOC.o.2 (Qh HK.o.1.k.f) trivial;obtain⟨gs,rfl,_,_⟩:=Qk OS (by omega);have t0:wC.cell? ⟨gs,k*8,none⟩=some (.int .u8 bb.sts[k].op):=Qf OS (Qs hkl (k:=0) (by omega));have t1:wC.cell? ⟨gs,k*8+1,none⟩=some (.int .i64 bb.sts[k].to.1):=Qf OS (Qs hkl (k:=1) (by omega));have t2:wC.cell? ⟨gs,k*8+2,none⟩=some (.int .i64 bb.sts[k].to.2):=Qf OS (Qs hkl (k:=2) (by omega));have t3:wC.cell? ⟨gs,k*8+3,none⟩=some (.int .i64 bb.sts[k].a.1):=Qf OS (Qs hkl (k:=3) (by omega));have t4:wC.cell? ⟨gs,k*8+4,none⟩=some (.int .i64 bb.sts[k].a.2):=Qf OS (Qs hkl (k:=4) (by omega));have t5:wC.cell? ⟨gs,k*8+5,none⟩=some (.int .i64 bb.sts[k].b.1):=Qf OS (Qs hkl (k:=5) (by omega));have t6:wC.cell? ⟨gs,k*8+6,none⟩=some (.int .i64 bb.sts[k].b.2):=Qf OS (Qs hkl (k:=6) (by omega));have t7:wC.cell? ⟨gs,k*8+7,none⟩=some (.int .i64 bb.sts[k].n):=Qf OS (Qs hkl (k:=7) (by omega));have HTS:Hid (bb.sts.take (k+1)=bb.sts.take k++[bb.sts[k]]):=Zb hkl;have HST:=Qc (HFI.o.st _ (Qx hkl));clear OS;generalize bb.sts[k]=tt at *;have FA:=(Below.refl wC.heap.size wC).alloc (Qi _) (.cells #[.int .u8 tt.op,.int .i64 tt.to.1,.int .i64 tt.to.2,.int .i64 tt.a.1,.int .i64 tt.a.2,.int .i64 tt.b.1,.int .i64 tt.b.2,.int .i64 tt.n] 66);have HW:Hid (RoJ w bs (.slice (some ⟨g1,0,none⟩) bs.length c1) W0 i (.slice pk cur.length ck) cur (wC.alloc (.cells #[.int .u8 tt.op,.int .i64 tt.to.1,.int .i64 tt.to.2,.int .i64 tt.a.1,.int .i64 tt.a.2,.int .i64 tt.b.1,.int .i64 tt.b.2,.int .i64 tt.n] 66))∧∀t∈bb.sts.take k,PT W0 cur t):=⟨HK.o.1.keeps FA,HK.o.2⟩;have gW:=Qc (heap_alloc_last wC (.cells #[.int .u8 tt.op,.int .i64 tt.to.1,.int .i64 tt.to.2,.int .i64 tt.a.1,.int .i64 tt.a.2,.int .i64 tt.b.1,.int .i64 tt.b.2,.int .i64 tt.n] 66));have hcl2:=HK.o.1.r.len;clear FA HK;go_wp2_with fail;clear t0 t1 t2 t3 t4 t5 t6 t7;generalize wC.alloc (.cells #[.int .u8 tt.op,.int .i64 tt.to.1,.int .i64 tt.to.2,.int .i64 tt.a.1,.int .i64 tt.a.2,.int .i64 tt.b.1,.int .i64 tt.b.2,.int .i64 tt.n] 66)=w3 at *
        all_goals
         refine(Qeb tt w3).mono ?_;rintro x w4 ⟨v4,rfl,o4,f4⟩;obtain⟨p4,c4,rfl⟩:=Qa o4;have H4:Hid (RoJ w bs (.slice (some ⟨g1,0,none⟩) bs.length c1) W0 i (.slice pk cur.length ck) cur w4∧(∀t∈bb.sts.take k,PT W0 cur t)):=⟨HW.o.1.keeps f4,HW.o.2⟩;have HO4:Hid (w4.ownsRow w3.heap.size 48 2 (.slice p4 (rdsF tt).length c4) (rdsF tt).length (pcs (rdsF tt))):=o4;clear o4 f4 HW;go_wp2_with fail;have hrl:=Qjc tt;have B2:Hid (RoJ w bs (.slice (some ⟨g1,0,none⟩) bs.length c1) W0 i (.slice pk cur.length ck) cur w4∧(∀t∈bb.sts.take k,PT W0 cur t)∧(∀y∈(rdsF tt).take 0,y.1∈cur)∧w4.ownsRow w3.heap.size 48 2 (.slice p4 (rdsF tt).length c4) (rdsF tt).length (pcs (rdsF tt))):=⟨H4.o.1,H4.o.2,fun y hy=>absurd hy (by simp),HO4.o⟩;clear H4 HO4
         go_loopw [6,13] (fun vw jj wr=>∃(j:Nat)(cu2:List Nat),j≤(rdsF tt).length∧jj=.int .i64 j∧Hid (RoJ w bs (.slice (some ⟨g1,0,none⟩) bs.length c1) W0 i vw cu2 wr∧(∀t∈bb.sts.take k,PT W0 cu2 t)∧(∀y∈(rdsF tt).take j,y.1∈cu2)∧wr.ownsRow w3.heap.size 48 2 (.slice p4 (rdsF tt).length c4) (rdsF tt).length (pcs (rdsF tt)))) (fun _ jj _=>(rdsF tt).length-(intOf jj).toNat)
         case atStart=>exact⟨0,cur,by omega,rfl,B2⟩
         case round=>
          clear B2;obtain⟨j,cu2,hj,rfl,HJ⟩:=hrel;rename World=>wD;obtain⟨pj,cj,rfl⟩:=Qa HJ.o.1.k.l;by_cases hjl:j<(rdsF tt).length
          ·obtain⟨gr,rfl,_,_⟩:=Qk HJ.o.2.2.2 (by omega);have c0:=Qf HJ.o.2.2.2 (Zt hjl).1;have hx:=QbD HST.o _ (Qx hjl);have HTK:Hid ((rdsF tt).take (j+1)=(rdsF tt).take j++[(rdsF tt)[j]]):=Zb hjl;generalize (rdsF tt)[j]=yy at *;have hl5:=HJ.o.1.r.len;go_wp2_with fail;refine(putR cu2 yy.1 w.heap.size _ wD HJ.o.1.k.l HJ.o.1.r.srt (by omega)).mono ?_;rintro x w5 ⟨v5,rfl,o5,f5⟩;have HN5:Hid (RoJ w bs (.slice (some ⟨g1,0,none⟩) bs.length c1) W0 i v5 (ptF cu2 yy.1) w5∧(∀t∈bb.sts.take k,PT W0 (ptF cu2 yy.1) t)∧(∀y∈(rdsF tt).take (j+1),y.1∈ptF cu2 yy.1)∧w5.ownsRow w3.heap.size 48 2 (.slice (some ⟨gr,0,none⟩) (rdsF tt).length c4) (rdsF tt).length (pcs (rdsF tt))):=by
            refine⟨HJ.o.1.put hx f5 o5,fun t ht=>(HJ.o.2.1 t ht).up Vg,fun y hy=>?_,Qd HJ.o.2.2.2 (Qh f5) trivial⟩;rw[HTK.o]at hy;rcases QB.1 hy with hy|hy
            ·exact Vg _ (HJ.o.2.2.1 y hy)
            ·rw[QF.1 hy];exact ZW.2 (.inr rfl)
           obtain⟨p5,c5,rfl⟩:=Qa o5;clear o5 f5 HJ c0;go_wp2_with fail;go_roundw
           case rel=>exact⟨j+1,ptF cu2 yy.1,by omega,by go_num,HN5⟩
           case measure=>simp[intOf];omega
          ·have HN6:Hid (RoJ w bs (.slice (some ⟨g1,0,none⟩) bs.length c1) W0 i (.slice pj cu2.length cj) cu2 wD∧∀t∈bb.sts.take (k+1),PT W0 cu2 t):=by
            refine⟨HJ.o.1,fun t ht=>?_⟩;rw[HTS.o]at ht;rcases QB.1 ht with ht|ht
            ·exact HJ.o.2.1 t ht
            ·rw[QF.1 ht];intro y hy;exact HJ.o.2.2.1 y (by rw[Zg (by omega)];exact hy)
           clear HJ;go_wp2_with fail;go_roundw
           case rel=>exact⟨k+1,cu2,by omega,by go_num,HN6⟩
           case measure=>simp[intOf];omega
       ·have d0:=D0.o wC HK.o.1.k.f;have d2:=D2.o wC HK.o.1.k.f;have d3:=D3.o wC HK.o.1.k.f;have HPS:Hid (∀t∈bb.sts,PT W0 cur t):=by
         have:=HK.o.2;rw[Zg (by omega)]at this;exact this
        have hcl2:=HK.o.1.r.len;by_cases h63:bb.e.op=63
        case' pos=>
         have hd:((bb.e.op:Int)==63)=true:=by simp;omega
         have H63:=Qc h63;clear h63;go_wp2_with fail;refine(putR cur bb.e.a.1 w.heap.size _ wC HK.o.1.k.l HK.o.1.r.srt (by omega)).mono ?_;rintro x w5 ⟨v5,rfl,o5,f5⟩;have B3:Hid (RoJ w bs (.slice (some ⟨g1,0,none⟩) bs.length c1) W0 i v5 (ptF cur bb.e.a.1) w5∧(∀t∈bb.sts,PT W0 (ptF cur bb.e.a.1) t)∧PE (ptF cur bb.e.a.1) bb.e∧∀c∈bb.chs.take 0,PC (coF bs) W0 (ptF cur bb.e.a.1) c):=by
          refine⟨HK.o.1.put HFI.o.e f5 o5,fun t ht=>(HPS.o t ht).up Vg,fun y hy=>?_,fun c hc=>absurd hc (by simp)⟩;unfold XA at hy;rw[if_pos H63.o]at hy;rw[QF.1 hy];exact ZW.2 (.inr rfl)
         obtain⟨p5,c5,rfl⟩:=Qa o5;have d0':=D0.o w5 B3.o.1.k.f;clear o5 f5 HK d0 d1 d2 d3 e1;go_wp2_with fail;clear d0'
        case' neg=>
         have hd:((bb.e.op:Int)==63)=false:=by simp;omega
         have B3:Hid (RoJ w bs (.slice (some ⟨g1,0,none⟩) bs.length c1) W0 i (.slice pk cur.length ck) cur wC∧(∀t∈bb.sts,PT W0 cur t)∧PE cur bb.e∧∀c∈bb.chs.take 0,PC (coF bs) W0 cur c):=⟨HK.o.1,HPS.o,PE.zero h63,fun c hc=>absurd hc (by simp)⟩;clear h63;go_wp2_with fail;clear d0 d1 d2 d3 e1 HK
        all_goals
         go_loopw [6,14] (fun vw kk wr=>∃(q:Nat)(cur:List Nat),q≤bb.chs.length∧kk=.int .i64 q∧Hid (RoJ w bs (.slice (some ⟨g1,0,none⟩) bs.length c1) W0 i vw cur wr∧(∀t∈bb.sts,PT W0 cur t)∧PE cur bb.e∧∀c∈bb.chs.take q,PC (coF bs) W0 cur c)) (fun _ kk _=>bb.chs.length-(intOf kk).toNat)
         case atStart=>exact⟨0,_,by omega,rfl,B3⟩
         case round=>
          clear B3;obtain⟨q,cur,hq,rfl,HQ⟩:=hrel;rename World=>wE;obtain⟨pq,cq2,rfl⟩:=Qa HQ.o.1.k.l;have d0:=D0.o wE HQ.o.1.k.f;have e1:=Qf HQ.o.1.k.c (ZS (f:=coF bs) hlt);rw[←HKB.o]at e1;by_cases hql:q<bb.chs.length
          ·obtain⟨gc,pf,cf,pr,cr,rfl,_,_,OF,OR,c0,c1',c2,c3⟩:=(HOC.o.1.keeps (T:=fun _=>True) (Qr.below HQ.o.1.k.f) trivial trivial trivial).at hql;have HOF:=Qc (And.intro OF OR);have HTC:Hid (bb.chs.take (q+1)=bb.chs.take q++[bb.chs[q]]):=Zb hql;have hgr:=(HFI.o.ch _ (Qx hql)).2.1;have hgl:=HG2.o _ (Qx hql);have HRR:=Qc (And.intro hgr (And.intro (HFI.o.ch _ (Qx hql)) (HCG.o _ (Qx hql))));clear OF OR hgr;generalize bb.chs[q]=ch at *;have FA:=(Below.refl wE.heap.size wE).alloc (Qi _) (.cells #[.int .i64 ch.to.1,.int .i64 ch.to.2,.slice pf ch.gs.length cf,.slice pr ch.rs.length cr] 64);have H7:Hid (RoJ w bs (.slice (some ⟨g1,0,none⟩) bs.length c1) W0 i (.slice pq cur.length cq2) cur (wE.alloc (.cells #[.int .i64 ch.to.1,.int .i64 ch.to.2,.slice pf ch.gs.length cf,.slice pr ch.rs.length cr] 64))∧(∀t∈bb.sts,PT W0 cur t)∧PE cur bb.e∧(∀c∈bb.chs.take q,PC (coF bs) W0 cur c)∧(∀p∈(ch.gs.zip ch.rs).take 0,coF bs p.1.1=true→p.2.1∈cur)∧(wE.alloc (.cells #[.int .i64 ch.to.1,.int .i64 ch.to.2,.slice pf ch.gs.length cf,.slice pr ch.rs.length cr] 64)).heap[wE.heap.size]?=some (.cells #[.int .i64 ch.to.1,.int .i64 ch.to.2,.slice pf ch.gs.length cf,.slice pr ch.rs.length cr] 64 (0,0))∧(wE.alloc (.cells #[.int .i64 ch.to.1,.int .i64 ch.to.2,.slice pf ch.gs.length cf,.slice pr ch.rs.length cr] 64)).ownsRow base 49 2 (.slice pf ch.gs.length cf) ch.gs.length (pcs ch.gs)∧(wE.alloc (.cells #[.int .i64 ch.to.1,.int .i64 ch.to.2,.slice pf ch.gs.length cf,.slice pr ch.rs.length cr] 64)).ownsRow base 48 2 (.slice pr ch.rs.length cr) ch.rs.length (pcs ch.rs)):=⟨HQ.o.1.keeps FA,HQ.o.2.1,HQ.o.2.2.1,HQ.o.2.2.2,fun p hp=>absurd hp (by simp),heap_alloc_last _ _,HOF.o.1.alloc _,HOF.o.2.alloc _⟩;clear FA HQ HOF;go_wp2_with fail;clear c0 c1' c2 c3 d0 e1;generalize wE.alloc (.cells #[.int .i64 ch.to.1,.int .i64 ch.to.2,.slice pf ch.gs.length cf,.slice pr ch.rs.length cr] 64)=W7 at *
           go_loopw [6,16] (fun vw jj wr=>∃(j:Nat)(cu:List Nat),j≤ch.rs.length∧jj=.int .i64 j∧Hid (RoJ w bs (.slice (some ⟨g1,0,none⟩) bs.length c1) W0 i vw cu wr∧(∀t∈bb.sts,PT W0 cu t)∧PE cu bb.e∧(∀c∈bb.chs.take q,PC (coF bs) W0 cu c)∧(∀p∈(ch.gs.zip ch.rs).take j,coF bs p.1.1=true→p.2.1∈cu)∧wr.heap[wE.heap.size]?=some (.cells #[.int .i64 ch.to.1,.int .i64 ch.to.2,.slice pf ch.gs.length cf,.slice pr ch.rs.length cr] 64 (0,0))∧wr.ownsRow base 49 2 (.slice pf ch.gs.length cf) ch.gs.length (pcs ch.gs)∧wr.ownsRow base 48 2 (.slice pr ch.rs.length cr) ch.rs.length (pcs ch.rs))) (fun _ jj _=>ch.rs.length-(intOf jj).toNat)
           case atStart=>exact⟨0,cur,by omega,rfl,H7⟩
           case round=>
            clear H7;obtain⟨j,cu,hj,rfl,HJ⟩:=hrel;rename World=>wG;obtain⟨pj,cj,rfl⟩:=Qa HJ.o.1.k.l;have m0:=Qb HJ.o.2.2.2.2.2.1 0;have m2:=Qb HJ.o.2.2.2.2.2.1 2;have m3:=Qb HJ.o.2.2.2.2.2.1 3;simp at m0 m2 m3;have hl7:=HJ.o.1.r.len;by_cases hjl:j<ch.rs.length
            ·have hjg:Hid (j<ch.gs.length):=by have:=HRR.o.1;exact(by omega:j<ch.gs.length)
             go_wp2_with fail;refine(Ub cu ch.to.1 w.heap.size _ wG HJ.o.1.k.l (by omega)).mono ?_;rintro x w3 ⟨rfl,rfl⟩;obtain⟨hb,hhb⟩:∃hb,hb=QD cu ch.to.1:=⟨_,rfl⟩;rw[←hhb];have HHB:=Qc hhb;clear hhb
             cases hb with
             | false=>
              have HN:Hid (RoJ w bs (.slice (some ⟨g1,0,none⟩) bs.length c1) W0 i (.slice pj cu.length cj) cu w3∧(∀t∈bb.sts,PT W0 cu t)∧PE cu bb.e∧∀c∈bb.chs.take (q+1),PC (coF bs) W0 cu c):=by
               refine⟨HJ.o.1,HJ.o.2.1,HJ.o.2.2.1,fun c hc=>?_⟩;rw[HTC.o]at hc;rcases QB.1 hc with hc|hc
               ·exact HJ.o.2.2.2.1 c hc
               ·rw[QF.1 hc];intro h;have h2:=HHB.o;rw[QD,List.contains_iff_mem.2 (HJ.o.1.r.sub _ h)]at h2;cases h2
              clear HJ m0 m2 m3;go_wp2_with fail;go_roundw
              case rel=>exact⟨q+1,cu,by omega,by go_num,HN⟩
              case measure=>simp[intOf];omega
             | true=>
              obtain⟨gf,rfl,_,_⟩:=Qk HJ.o.2.2.2.2.2.2.1 (by have:=hjg.out;omega);obtain⟨gr,rfl,_,_⟩:=Qk HJ.o.2.2.2.2.2.2.2 (by omega);have n0:=Qf HJ.o.2.2.2.2.2.2.1 (Zt hjg.out).1;have n1:=Qf HJ.o.2.2.2.2.2.2.2 (Zt hjl).1;have hxf:=HRR.o.2.2 _ (Qx hjg.out);have hxr:=HRR.o.2.1.2.2.2 _ (Qx hjl);have HZ:Hid ((ch.gs.zip ch.rs).take (j+1)=(ch.gs.zip ch.rs).take j++[(ch.gs[j]'hjg.out,ch.rs[j]'hjl)]):=by
               show _=_;rw[Zb (by rw[List.length_zip];have:=hjg.out;omega),List.getElem_zip]
              generalize ch.gs[j]'hjg.out=yf at *;generalize ch.rs[j]'hjl=yr at *;have e1:=Qf HJ.o.1.k.c (ZS (f:=coF bs) hxf);obtain⟨kf,hkf⟩:∃kf,kf=coF bs yf.1:=⟨_,rfl⟩;rw[←hkf]at e1;have HKF:=Qc hkf;clear hkf
              cases kf with
              | false=>
               have HN:Hid (RoJ w bs (.slice (some ⟨g1,0,none⟩) bs.length c1) W0 i (.slice pj cu.length cj) cu w3∧(∀t∈bb.sts,PT W0 cu t)∧PE cu bb.e∧(∀c∈bb.chs.take q,PC (coF bs) W0 cu c)∧(∀p∈(ch.gs.zip ch.rs).take (j+1),coF bs p.1.1=true→p.2.1∈cu)∧w3.heap[wE.heap.size]?=some (.cells #[.int .i64 ch.to.1,.int .i64 ch.to.2,.slice (some ⟨gf,0,none⟩) ch.gs.length cf,.slice (some ⟨gr,0,none⟩) ch.rs.length cr] 64 (0,0))∧w3.ownsRow base 49 2 (.slice (some ⟨gf,0,none⟩) ch.gs.length cf) ch.gs.length (pcs ch.gs)∧w3.ownsRow base 48 2 (.slice (some ⟨gr,0,none⟩) ch.rs.length cr) ch.rs.length (pcs ch.rs)):=by
                refine⟨HJ.o.1,HJ.o.2.1,HJ.o.2.2.1,HJ.o.2.2.2.1,fun p hp hc=>?_,HJ.o.2.2.2.2.2.1,HJ.o.2.2.2.2.2.2.1,HJ.o.2.2.2.2.2.2.2⟩;rw[HZ.o]at hp;rcases QB.1 hp with hp|hp
                ·exact HJ.o.2.2.2.2.1 p hp hc
                ·rw[QF.1 hp]at hc;exact absurd (HKF.o.trans hc) (by simp)
               clear HJ;go_wp2_with fail;go_roundw
               case rel=>exact⟨j+1,cu,by omega,by go_num,HN⟩
               case measure=>simp[intOf];omega
              | true=>
               go_wp2_with fail;refine(putR cu yr.1 w.heap.size _ w3 HJ.o.1.k.l HJ.o.1.r.srt (by omega)).mono ?_;rintro x w5 ⟨v5,rfl,o5,f5⟩;have HN:Hid (RoJ w bs (.slice (some ⟨g1,0,none⟩) bs.length c1) W0 i v5 (ptF cu yr.1) w5∧(∀t∈bb.sts,PT W0 (ptF cu yr.1) t)∧PE (ptF cu yr.1) bb.e∧(∀c∈bb.chs.take q,PC (coF bs) W0 (ptF cu yr.1) c)∧(∀p∈(ch.gs.zip ch.rs).take (j+1),coF bs p.1.1=true→p.2.1∈(ptF cu yr.1))∧w5.heap[wE.heap.size]?=some (.cells #[.int .i64 ch.to.1,.int .i64 ch.to.2,.slice (some ⟨gf,0,none⟩) ch.gs.length cf,.slice (some ⟨gr,0,none⟩) ch.rs.length cr] 64 (0,0))∧w5.ownsRow base 49 2 (.slice (some ⟨gf,0,none⟩) ch.gs.length cf) ch.gs.length (pcs ch.gs)∧w5.ownsRow base 48 2 (.slice (some ⟨gr,0,none⟩) ch.rs.length cr) ch.rs.length (pcs ch.rs)):=by
                refine⟨HJ.o.1.put hxr f5 o5,fun t ht=>(HJ.o.2.1 t ht).up Vg,HJ.o.2.2.1.up Vg,fun c hc=>(HJ.o.2.2.2.1 c hc).up Vg,fun p hp hc=>?_,?_,Qd HJ.o.2.2.2.2.2.2.1 (Qh f5) trivial,Qd HJ.o.2.2.2.2.2.2.2 (Qh f5) trivial⟩
                ·rw[HZ.o]at hp;rcases QB.1 hp with hp|hp
                 ·exact Vg _ (HJ.o.2.2.2.2.1 p hp hc)
                 ·rw[QF.1 hp];exact ZW.2 (.inr rfl)
                ·exact(f5.block _ (Array.getElem?_eq_some_iff.1 HJ.o.2.2.2.2.2.1).1).trans HJ.o.2.2.2.2.2.1
               obtain⟨p5,c5,rfl⟩:=Qa o5;clear o5 f5 HJ m0 m2 m3 n0 n1 e1;go_wp2_with fail;go_roundw
               case rel=>exact⟨j+1,ptF cu yr.1,by omega,by go_num,HN⟩
               case measure=>simp[intOf];omega
            ·have HN:Hid (RoJ w bs (.slice (some ⟨g1,0,none⟩) bs.length c1) W0 i (.slice pj cu.length cj) cu wG∧(∀t∈bb.sts,PT W0 cu t)∧PE cu bb.e∧∀c∈bb.chs.take (q+1),PC (coF bs) W0 cu c):=by
              refine⟨HJ.o.1,HJ.o.2.1,HJ.o.2.2.1,fun c hc=>?_⟩;rw[HTC.o]at hc;rcases QB.1 hc with hc|hc
              ·exact HJ.o.2.2.2.1 c hc
              ·rw[QF.1 hc];intro _ p hp hcc;exact HJ.o.2.2.2.2.1 p (by rw[Zg (by rw[List.length_zip];omega)];exact hp) hcc
             clear HJ;go_wp2_with fail;go_roundw
             case rel=>exact⟨q+1,cu,by omega,by go_num,HN⟩
             case measure=>simp[intOf];omega
          ·have HN9:Hid (RoJ w bs (.slice (some ⟨g1,0,none⟩) bs.length c1) W0 (i+1) (.slice pq cur.length cq2) cur wE):=by
            refine⟨HQ.o.1.r,fun j hj hc=>?_,HQ.o.1.k⟩;by_cases h:j<i
            ·exact HQ.o.1.d j h hc
            ·have:j=i:=by omega
             rw[this,HBK.o];refine⟨HQ.o.2.1,HQ.o.2.2.1,?_⟩;have h5:=HQ.o.2.2.2;rw[Zg (by omega)]at h5;exact h5
           clear HQ;go_wp2_with fail;go_roundw
           case rel=>exact⟨i+1,cur,by omega,by go_num,HN9⟩
           case measure=>simp[intOf];omega
    ·have hie:i=bs.length:=by omega
     have hcl:=HC.o.r.len;have HFN:Hid (RnI cur cur∧(cur.length≤W0.length→∀r,Wm (absP bs) r→r∈cur)∧WkI w bs.length (coF bs) (.slice p1 bs.length c1) (.slice pc cur.length cc) cur wB):=
      ⟨RnI.refl HC.o.r.srt HC.o.r.low,fun hl=>QgM hr.out HS0.o HC.o.r (by have:=HC.o.d;rw[hie]at this;exact this) hl hp.out,HC.o.k⟩
     clear HC hie;by_cases hgt:W0.length<cur.length
     ·have hd:decide ((W0.length:Int)<(cur.length:Int))=true:=by simp;omega
      go_wp2_with fail;go_roundw
      case rel=>exact⟨cur,true,rfl,HFN.o.1,fun h=>by simp at h,HFN.o.2.2⟩
      case measure=>show 10001-cur.length<10001-W0.length;omega
     ·have hd:decide ((W0.length:Int)<(cur.length:Int))=false:=by simp;omega
      go_wp2_with fail;go_roundw
      case rel=>exact⟨cur,false,rfl,HFN.o.1,fun _=>HFN.o.2.1 (by omega),HFN.o.2.2⟩
      case measure=>show 0<10001-W0.length;omega
theorem Qhg(bs:List Qm)(base:Nat)(v:Value)(w:World)(h:QR w base bs v)(hr:Hid (J5 bs))(hp:Hid (POk (absP bs)))(hf:Hid (∀b∈bs,QU 1000000 b))(hg2:Hid (∀b∈bs,∀c∈b.chs,c.gs.length≤1000))(hcg:Hid (∀b∈bs,∀c∈b.chs,∀p∈c.gs,p.1<bs.length))(hn:bs.length≤12)(hpr:Hid (∀b,Cm (absP bs) b→∀c∈(bkA (absP bs) b).chs,Wm (absP bs) c.to)):
  Calls prog 11 #[v] w fun x w'=>x=.returned (.bool true)∧Below w.heap.size w w':=by
 obtain⟨pv,cv,rfl⟩:=h.slice;have HB:=Qc h;clear h;go_enter func11,ntmps11;go_wp2_with fail;refine(Rp bs (-1) base _ w HB.o hr.out.goals hr.out.pos (by omega)).mono ?_;rintro x w1 ⟨v1,rfl,o1,f1⟩;rw[Nb]at o1;obtain⟨p1,c1,rfl⟩:=Qa o1;have H1:Hid (w1.ownsRow w.heap.size 4 1 (.slice p1 bs.length c1) bs.length (Zu bs.length (coF bs))∧Below w.heap.size w w1):=⟨o1,f1⟩;have HB1:=Qc (HB.o.keeps (Qh f1) trivial trivial trivial trivial trivial);clear o1 f1;go_wp2_with fail;refine(Qgn bs base _ w1 HB1.o hr hp hf hg2 hcg hn).mono ?_;rintro x w2 ⟨v2,L,rfl,H2⟩;obtain⟨p2,c2,rfl⟩:=Qa H2.o.1;have HLL:=Qc H2.o.2.2.1;have hLl:=H2.o.2.1;have H3:Hid (WkI w bs.length (coF bs) (.slice p1 bs.length c1) (.slice p2 L.length c2) L w2):=⟨Qd H1.o.1 (Qh H2.o.2.2.2) trivial,Qj H2.o.1 H1.o.2.size,H1.o.2.trans (H2.o.2.2.2.mono H1.o.2.size)⟩;clear H1 H2 HB1;go_wp2_with fail
 go_loopw [5] (fun ii wr=>∃i:Nat,i≤bs.length∧ii=.int .i64 i∧Hid (WkI w bs.length (coF bs) (.slice p1 bs.length c1) (.slice p2 L.length c2) L wr)) (fun ii _=>bs.length-(intOf ii).toNat)
 case atStart=>exact⟨0,by omega,rfl,H3⟩
 case round=>
  clear H3;obtain⟨i,hi,rfl,HC⟩:=hrel;rename World=>wB;by_cases hlt:i<bs.length
  ·obtain⟨g,qc,cq,ps,cs,rfl,_,hg,OC,OS,bc⟩:=HB.o.at hlt;obtain⟨g1,rfl,_,_⟩:=Qk HC.o.c (by omega);have D0:Hid (∀wr,Below w.heap.size w wr→wr.cell? ⟨g,i*10,none⟩=some (.slice qc bs[i].chs.length cq)):=fun wr F=>(F.cell (p:=⟨g,i*10,none⟩) hg).trans (bc 0 _ rfl);have HOC:=Qc OC;have HFI:=Qc (hf.out _ (Qx hlt));have hcl:=HFI.o.cl;have HLB:Hid (coF bs i=true→∀c∈bs[i].chs,c.to.1∈L):=fun hc c hcc=>by
    refine HLL.o _ (hpr.out i ((VT hr.out i).1 hc) (Zn c) ?_);rw[QX,Zj hlt];exact Qv.2 ⟨c,hcc,rfl⟩
   generalize hbb:bs[i]=bb at *;clear OC OS bc hbb;go_wp2_with fail
   go_loopw [6] (fun kk wr=>∃q:Nat,q≤bb.chs.length∧kk=.int .i64 q∧Hid (WkI w bs.length (coF bs) (.slice (some ⟨g1,0,none⟩) bs.length c1) (.slice p2 L.length c2) L wr)) (fun kk _=>bb.chs.length-(intOf kk).toNat)
   case atStart=>exact⟨0,by omega,rfl,HC⟩
   case round=>
    clear HC;obtain⟨q,hq,rfl,HQ⟩:=hrel;rename World=>wE;have d0:=D0.o wE HQ.o.f;have e1:=Qf HQ.o.c (ZS (f:=coF bs) hlt);by_cases hql:q<bb.chs.length
    ·obtain⟨kb,hkb⟩:∃kb,kb=coF bs i:=⟨_,rfl⟩;rw[←hkb]at e1;have HKB:=Qc hkb;clear hkb
     cases kb with
     | false=>
      go_wp2_with fail;go_roundw
      case rel=>exact⟨i+1,by omega,by go_num,HQ⟩
      case measure=>simp[intOf];omega
     | true=>
      obtain⟨gc,pf,cf,pr,cr,rfl,_,_,OF,OR,c0,c1',c2',c3⟩:=(HOC.o.keeps (T:=fun _=>True) (Qr.below HQ.o.f) trivial trivial trivial).at hql;have HCM:=Qc (HLB.o HKB.o.symm _ (Qx hql));clear OF OR c1' c2' c3;generalize bb.chs[q]=ch at *;go_wp2_with fail;clear c0 d0 e1;refine(Ub L ch.to.1 w.heap.size _ wE HQ.o.l (by omega)).mono ?_;rintro x w3 ⟨rfl,rfl⟩;rw[Ze.2 HCM.o];go_wp2_with fail;go_roundw
      case rel=>exact⟨q+1,by omega,by go_num,HQ⟩
      case measure=>simp[intOf];omega
    ·go_wp2_with fail;go_roundw
     case rel=>exact⟨i+1,by omega,by go_num,HQ⟩
     case measure=>simp[intOf];omega
  ·go_wp2_with fail;go_ret;exact⟨rfl,HC.o.f⟩
theorem QeR(s:ByteArray)(vi:Value)(V:List Int)(fu:Int)(w:World)(hs:s.size≤maxLen)(hi:InA vi V w)(ht:Tab w):
  Calls prog 3 #[.string s,vi,.int .i64 fu] w fun x w'=>x=.returned (.bool true)∧Below w.heap.size w w':=by
 have HI:=Qc hi;obtain⟨pi,ci,rfl,hci,_⟩:=hi;go_enter func3,ntmps3;go_wp2_with fail;refine(Qgh s w hs ht).mono ?_;rintro x w1 ⟨⟨T,rfl,HT⟩,f1⟩;have F1:=Qc f1;clear f1;go_wp2_with fail;refine(NA s w1 hs).mono ?_;rintro x w2 ⟨v2,rfl,R2,f2⟩;have F2:=Qc (F1.o.trans (f2.mono F1.o.size));by_cases hz:(rdF s).e=0
 ·have HBk:=Qc (R2 hz);obtain⟨p2,c2,rfl⟩:=HBk.o.slice;have hat:=(rd0 hz).1;by_cases h3:300<s.size
  ·have eE:upE 300 s=1:=by rw[upE,if_pos hz,if_pos h3]
   have eT:T=⟨#[]⟩:=HT.o.1 (by rw[eE];decide);have hd:decide ((300:Int)<(s.size:Int))=true:=by simp;omega
   rw[eT,eE,hat,hz];clear eT eE hat hz h3 HT R2 f2;go_wp2_with fail;refine(Qjr 1 w2).mono ?_;rintro x w3 ⟨rfl,rfl⟩;go_wp2_with fail;go_ret;exact⟨rfl,F2.o⟩
  ·have eE:upE 300 s=0:=by rw[upE,if_pos hz,if_neg h3]
   have hd:decide ((300:Int)<(s.size:Int))=false:=by simp;omega
   have hR:=Ve hz;have h12:=hR.rd.le;have hpos:=hR.rd.pos;have hF:MF s T:=QkC eE HT.o;have HLF:=Qc hF;have h12':=hF.rdd.rd.le;have hpos':=hF.rdd.rd.pos;have hsz:=hF.sz;have hmx:T.size≤maxLen:=by unfold maxLen;omega
   have HG':Hid (Qfw (Qu T).bs=-1):=by
    have h9:=QhV hF.rdd.jp;rw[hF.nw]at h9;exact h9
   have he':(rdF T).e=0:=by rw[hF.rd]
   have HGL':=Qc hF.rdd.rd.goals;have HFI':=Qc (WG he').1;have HFG':=Qc (WG he').2.2;have HCG':=Qc (Qba he');have HRK':=Qc hF.rdd.rd;have hd2:decide ((40000:Int)<(T.size:Int))=false:=by simp;omega
   rw[eE,hat,hz];clear eE hat hz hR hF HT he' h3 R2 f2;go_wp2_with fail;refine(NA T w2 hmx).mono ?_;rintro x w4 ⟨v4,rfl,R4,f4⟩;have F4:=Qc (F2.o.trans (f4.mono F2.o.size));have B4:=Qc (HBk.o.keeps (Qh f4) trivial trivial trivial trivial trivial);have C4:=Qc (R4 (by rw[HLF.o.rd]));obtain⟨p4,c4,rfl⟩:=C4.o.slice;rw[HLF.o.rd];clear f4 R4;go_wp2_with fail;refine(Qjr 0 w4).mono ?_;rintro x w5 ⟨rfl,rfl⟩;go_wp2_with fail;refine(Qdi (Qu T).bs w2.heap.size _ w5 C4.o HGL' HFI' HFG' HCG' hpos' (by omega)).mono ?_;rintro x w6 ⟨rfl,f6⟩;have F6:=Qc (F4.o.trans (f6.mono F4.o.size));have B6:=Qc (B4.o.keeps (Qh f6) trivial trivial trivial trivial trivial);have C6:=Qc (C4.o.keeps (Qh f6) trivial trivial trivial trivial trivial);clear f6;rw[HLF.o.sg];go_wp2_with fail;refine(Qkf (Qu T).bs w2.heap.size _ w6 C6.o (by omega) HFI'.o).mono ?_;rintro x w7 ⟨rfl,f7⟩;have F7:=Qc (F6.o.trans (f7.mono F6.o.size));have B7:=Qc (B6.o.keeps (Qh f7) trivial trivial trivial trivial trivial);have C7:=Qc (C6.o.keeps (Qh f7) trivial trivial trivial trivial trivial);clear f7;rw[HG'.o];go_wp2_with fail;refine(Qhg (Qu T).bs w2.heap.size _ w7 C7.o HRK' (Qc HLF.o.pk) HFI' HFG' HCG' h12' (Qc HLF.o.pr)).mono ?_;rintro x w8 ⟨rfl,f8⟩;have F8:=Qc (F7.o.trans (f8.mono F7.o.size));have B8:=Qc (B7.o.keeps (Qh f8) trivial trivial trivial trivial trivial);have C8:=Qc (C7.o.keeps (Qh f8) trivial trivial trivial trivial trivial);clear f8;go_wp2_with fail;refine(Qkg (Qu s).bs (Qu T).bs w1.heap.size w2.heap.size _ _ w8 B8.o C8.o (by omega) HLF.o.eq HLF.o.ends).mono ?_;rintro x w9 ⟨rfl,f9⟩;have F9:=Qc (F8.o.trans (f9.mono F8.o.size));have B9:=Qc (B8.o.keeps (Qh f9) trivial trivial trivial trivial trivial);have C9:=Qc (C8.o.keeps (Qh f9) trivial trivial trivial trivial trivial);clear f9;have HAL:Hid (Calls prog 13 #[.slice p2 (Qu s).bs.length c2,.slice p4 (Qu T).bs.length c4,.slice pi V.length ci,.int .i64 fu] w9 fun e w'=>e=.returned (.bool true)∧Below w9.heap.size w9 w'):=by
    by_cases hout:20<V.length∨fu<0∨300<fu
    ·exact Qka _ _ _ _ _ _ w9 hout
    ·obtain⟨f,rfl⟩:∃f:Nat,fu=f:=⟨fu.toNat,by omega⟩;exact Qkb (Qu s).bs (Qu T).bs w1.heap.size w2.heap.size _ _ _ V f w9 B9.o C9.o (HI.o.keeps F9.o) (by omega) (by omega) HLF.o.p1 HLF.o.p2 (HLF.o.play V f)
   go_wp2_with fail;refine HAL.o.mono ?_;rintro x w10 ⟨rfl,f10⟩;have F10:=Qc (F9.o.trans (f10.mono F9.o.size));clear f10 HAL;go_wp2_with fail;go_ret;exact⟨rfl,F10.o⟩
 ·have eE:upE 300 s=(rdF s).e:=by rw[upE,if_neg hz]
  have eT:T=⟨#[]⟩:=HT.o.1 (by rw[eE];exact hz);rw[eT,eE];have hd:(((rdF s).e:Int) != 0)=true:=by simp;omega
  clear eT eE hz HT R2 f2;go_wp2_with fail;refine(Qjr (rdF s).e w2).mono ?_;rintro x w3 ⟨rfl,rfl⟩;go_wp2_with fail;go_ret;exact⟨rfl,F2.o⟩
end Go.Proofs.YtgfhfkgdmidhpaaGreatDoor
