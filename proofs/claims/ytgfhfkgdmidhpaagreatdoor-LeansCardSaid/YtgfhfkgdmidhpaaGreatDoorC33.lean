import Derived.Test.YtgfhfkgdmidhpaaGreatDoorC32
namespace Go.Proofs.YtgfhfkgdmidhpaaGreatDoor
open Go.RowKit Go.Maps
set_option maxRecDepth 100000
set_option maxHeartbeats 8000000
def PS(W0 cur:List Nat)(t:Qy):Prop:=t.op=33∨t.to.1∈W0→∀y∈rdsF t,y.1∈cur
def PE(cur:List Nat)(e:Z3):Prop:=∀y∈QZ e,y.1∈cur
def PC(co:Nat→Bool)(W0 cur:List Nat)(c:QH):Prop:=c.to.1∈W0→∀p∈c.gs.zip c.rs,co p.1.1=true→p.2.1∈cur
structure Qcy(co:Nat→Bool)(W0 cur:List Nat)(b:Ql):Prop where
 s:∀t∈b.sts,PS W0 cur t
 e:PE cur b.e
 c:∀c∈b.chs,PC co W0 cur c
theorem PS.up{W0 cur cur' t}(h:PS W0 cur t)(hs:∀x∈cur,x∈cur'):PS W0 cur' t:=fun k y hy=>hs _ (h k y hy)
theorem PE.up{cur cur' e}(h:PE cur e)(hs:∀x∈cur,x∈cur'):PE cur' e:=fun y hy=>hs _ (h y hy)
theorem PC.up{co W0 cur cur' c}(h:PC co W0 cur c)(hs:∀x∈cur,x∈cur'):PC co W0 cur' c:=fun k p hp hc=>hs _ (h k p hp hc)
theorem Qcy.up{co W0 cur cur' b}(h:Qcy co W0 cur b)(hs:∀x∈cur,x∈cur'):Qcy co W0 cur' b:=⟨fun t ht=>(h.s t ht).up hs,h.e.up hs,fun c hc=>(h.c c hc).up hs⟩
theorem PE.zero{cur:List Nat}{e:Z3}(h:e.op≠63):PE cur e:=fun y hy=>by unfold QZ at hy;rw[if_neg h]at hy;simp at hy
structure RnI(W0 cur:List Nat):Prop where
 sub:∀x∈W0,x∈cur
 srt:cur.Pairwise (· < ·)
 low:∀x∈cur,x<10000
theorem RnI.refl{W0:List Nat}(h1:W0.Pairwise (· < ·))(h2:∀x∈W0,x<10000):RnI W0 W0:=⟨fun _ h=>h,h1,h2⟩
theorem RnI.put{W0 cur}(h:RnI W0 cur){x:Nat}(hx:x<10000):RnI W0 (ptF cur x):=
 ⟨fun y hy=>Zf.2 (.inl (h.sub y hy)),XS _ _,fun y hy=>by rcases Zf.1 hy with h1|h1;exact h.low y h1;omega⟩
theorem RnI.len{W0 cur}(h:RnI W0 cur):cur.length≤10000:=Gu (a:=0) h.srt fun x hx=>⟨Nat.zero_le _,h.low x hx⟩
theorem QcQ:∀{n:Nat}{a b:List Nat},a.length=n→a.Pairwise (· < ·)→b.Pairwise (· < ·)→(∀x∈a,x∈b)→b.length≤a.length→∀x∈b,x∈a
 | n,a,b,hn,ha,hb,hs,hl,x,hx=>by
  apply Classical.byContradiction;intro hxa;obtain⟨k,k1,k2,k3⟩:=Gw ha hxa;have h1:∀y∈k,y∈b:=fun y hy=>by
   rcases (k2 y).1 hy with h|h
   ·exact hs y h
   ·rw[h];exact hx
  have h2:∀{k b:List Nat},k.Pairwise (· < ·)→b.Pairwise (· < ·)→(∀y∈k,y∈b)→k.length≤b.length:=by
   intro k
   induction k with
   | nil=>intros;exact Nat.zero_le _
   | cons y k ih=>
    intro b hk hb hsub;have hy:=hsub y (List.mem_cons_self ..);obtain⟨s,t,rfl⟩:=List.append_of_mem hy;obtain⟨b1,b2,b3⟩:=List.pairwise_append.1 hb;obtain⟨b4,b5⟩:=List.pairwise_cons.1 b2;obtain⟨k4,k5⟩:=List.pairwise_cons.1 hk;have:=ih k5 b5 fun z hz=>by
     have hz1:=hsub z (List.mem_cons_of_mem _ hz);have hz2:=k4 z hz;rcases List.mem_append.1 hz1 with h|h
     ·have:=b3 z h y (List.mem_cons_self ..);omega
     ·rcases List.mem_cons.1 h with h|h
      ·omega
      ·exact h
    rw[List.length_cons,List.length_append,List.length_cons];omega
  have:=h2 k1 hb h1;omega
theorem Qhu{bs:List Ql}(hr:Kr bs){W0 cur:List Nat}(h0:W0.Pairwise (· < ·))(h:RnI W0 cur)(hd:∀j,j<bs.length→coF bs j=true→Qcy (coF bs) W0 cur (bkF bs j))(hl:cur.length≤W0.length)(hp:POk (absP bs)):∀r,Wn (absP bs) r→r∈cur:=by
 have hb:=QcQ rfl h0 h.srt h.sub hl;have hcm:∀{b},Cm (absP bs) b→Qcy (coF bs) W0 cur (bkF bs b)∧coF bs b=true:=fun {b} hc=>by
  have h1:=(QW hr b).2 hc;have h2:=hc.lt hp;exact⟨hd b (by simpa[absP] using h2) h1,h1⟩
 intro r hw
 induction hw with
 | @out b a hc ha=>
  obtain⟨D,_⟩:=hcm hc;rw[QO]at ha;obtain⟨t,ht,e⟩:=List.mem_map.1 ha;have h33:t.op=33:=by
   have:=Jv t;rw[e]at this;by_cases h33:t.op=33
   ·exact h33
   ·rw[if_neg h33]at this;cases this
  have e1:QA t=.out t.a.1:=by unfold QA;rw[if_neg (by omega),if_neg (by omega),if_pos h33]
  rw[e1]at e;cases e;exact D.s t ht (.inl h33) t.a (by unfold rdsF;rw[if_neg (by omega),if_pos h33];exact List.mem_singleton.2 rfl)
 | @fin b r hc hr2=>
  obtain⟨D,_⟩:=hcm hc;rw[QO]at hr2;have hr2:r∈rdE (Zc (bkF bs b).e):=hr2;unfold rdE at hr2;split at hr2
  ·rename_i h63;have h63:(bkF bs b).e.op=63:=h63;rw[List.mem_singleton]at hr2;subst hr2;exact D.e (bkF bs b).e.a (by unfold QZ;rw[if_pos h63];exact List.mem_singleton.2 rfl)
  ·simp at hr2
 | @st b x r t hc ht hg _ hr2 ih=>
  obtain⟨D,_⟩:=hcm hc;rw[QO]at ht;obtain⟨t0,h0,rfl⟩:=List.mem_map.1 ht;rw[Jv]at hg;rw[Yp]at hr2;obtain⟨y,hy,rfl⟩:=List.mem_map.1 hr2;have h33:t0.op≠33:=fun e=>by rw[if_pos e]at hg;cases hg
  rw[if_neg h33]at hg;cases hg;exact D.s t0 h0 (.inr (hb _ ih)) y hy
 | @ch b c p hc hc2 _ hp2 hcp ih=>
  obtain⟨D,_⟩:=hcm hc;rw[QO]at hc2;obtain⟨c0,h0,rfl⟩:=List.mem_map.1 hc2;obtain⟨q,hq,rfl⟩:=JV.1 hp2;exact D.c c0 h0 (hb _ ih) q hq ((QW hr _).2 hcp)
structure WkI(w0:World)(n:Nat)(co:Nat→Bool)(vc vw:Value)(cur:List Nat)(wr:World):Prop where
 c:wr.ownsRow w0.heap.size 4 1 vc n (Q0 n co)
 l:wr.ownsRow w0.heap.size 3 1 vw cur.length (Qg cur)
 f:Below w0.heap.size w0 wr
theorem WkI.keeps{w0 n co vc vw cur wr wr'}(h:WkI w0 n co vc vw cur wr)(F:Below wr.heap.size wr wr'):WkI w0 n co vc vw cur wr':=
 ⟨Qd h.c (Qi F) trivial,Qd h.l (Qi F) trivial,h.f.trans (F.mono h.f.size)⟩
theorem WkI.put{w0 n co vc vw cur wr wr' v' cur'}(h:WkI w0 n co vc vw cur wr)(F:Below wr.heap.size wr wr')(o:wr'.ownsRow wr.heap.size 3 1 v' cur'.length (Qg cur')):WkI w0 n co vc v' cur' wr':=
 ⟨Qd h.c (Qi F) trivial,Qm o h.f.size,h.f.trans (F.mono h.f.size)⟩
structure RoI(w0:World)(bs:List Ql)(vc:Value)(W0:List Nat)(i:Nat)(vw:Value)(cur:List Nat)(wr:World):Prop where
 r:RnI W0 cur
 d:∀j,j<i→coF bs j=true→Qcy (coF bs) W0 cur (bkF bs j)
 k:WkI w0 bs.length (coF bs) vc vw cur wr
theorem RoI.keeps{w0 bs vc W0 i vw cur wr wr'}(h:RoI w0 bs vc W0 i vw cur wr)(F:Below wr.heap.size wr wr'):RoI w0 bs vc W0 i vw cur wr':=⟨h.r,h.d,h.k.keeps F⟩
theorem RoI.put{w0 bs vc W0 i vw cur wr wr' v' x}(h:RoI w0 bs vc W0 i vw cur wr)(hx:x<10000)(F:Below wr.heap.size wr wr')(o:wr'.ownsRow wr.heap.size 3 1 v' (ptF cur x).length (Qg (ptF cur x))):RoI w0 bs vc W0 i v' (ptF cur x) wr':=
 ⟨h.r.put hx,fun j hj hc=>(h.d j hj hc).up fun _ hy=>Zf.2 (.inl hy),h.k.put F o⟩
theorem YL{cur:List Nat}{x:Nat}:∀_y∈cur,_y∈ptF cur x:=fun _ hy=>Zf.2 (.inl hy)
def Qi0:Value→Nat
 | .slice _ n _=>n
 | _=>0
def rnM(v t:Value):Nat:=match t with | .bool true=>10001-Qi0 v|_=>0
theorem Qfa(bs:List Ql)(base:Nat)(v:Value)(w:World)(h:QK w base bs v)(hr:Hid (Kr bs))(hp:Hid (POk (absP bs)))(hf:Hid (∀b∈bs,ZG 1000000 b))(hg2:Hid (∀b∈bs,∀c∈b.chs,c.gs.length≤1000))(hcg:Hid (∀b∈bs,∀c∈b.chs,∀p∈c.gs,p.1<bs.length))(hn:bs.length≤12):
  Calls Tryz.prog 30 #[v,.bool true] w fun x w'=>∃v' L,x=.returned v'∧Hid (w'.ownsRow w.heap.size 3 1 v' L.length (Qg L)∧L.length≤10000∧(∀r,Wn (absP bs) r→r∈L)∧Below w.heap.size w w'):=by
 obtain⟨pv,cv,rfl⟩:=h.slice;have HB:=Qc h;clear h;go_enter Tryz.func30,Tryz.ntmps30;go_wp2_with fail;refine(GE bs (-1) base _ w HB.o hr.out.goals hr.out.pos (by omega)).mono ?_;rintro x w1 ⟨v1,rfl,o1,f1⟩;rw[Rf]at o1;obtain⟨p1,c1,rfl⟩:=Qb o1;have H1:Hid (WkI w bs.length (coF bs) (.slice p1 bs.length c1) (.slice none 0 0) [] w1):=⟨o1,World.ownsRow_nil _ _ _ _,f1⟩;clear o1 f1;go_wp2_with fail
 go_loopw [6,7] (fun vw tt wr=>∃(W0:List Nat)(tb:Bool),tt=.bool tb∧Hid (RnI W0 W0∧(tb=false→∀r,Wn (absP bs) r→r∈W0)∧WkI w bs.length (coF bs) (.slice p1 bs.length c1) vw W0 wr)) (fun vw tt _=>rnM vw tt)
 case atStart=>exact⟨[],true,rfl,⟨fun _ h=>h,List.Pairwise.nil,fun _ h=>absurd h (by simp)⟩,fun h=>by simp at h,H1.o⟩
 case round=>
  clear H1;obtain⟨W0,tb,rfl,HI⟩:=hrel;rename World=>wA;obtain⟨pw,cw,rfl⟩:=Qb HI.o.2.2.l
  cases tb with
  | false=>
   go_wp2_with fail;go_ret;exact⟨_,rfl,W0,HI.o.2.2.l,HI.o.1.len,(by first | exact HI.o.2.1 rfl | exact HI.o.2.1 trivial),HI.o.2.2.f⟩
  | true=>
   go_wp2_with fail;have hW0:=HI.o.1.len;have B0:Hid (RoI w bs (.slice p1 bs.length c1) W0 0 (.slice pw W0.length cw) W0 wA):=⟨HI.o.1,fun j hj=>absurd hj (by omega),HI.o.2.2⟩;have HS0:=Qc HI.o.1.srt;clear HI
   go_loopw [6,9] (fun vw ii wr=>∃(i:Nat)(cur:List Nat),i≤bs.length∧ii=.int .i64 i∧Hid (RoI w bs (.slice p1 bs.length c1) W0 i vw cur wr)) (fun _ ii _=>bs.length-(intOf ii).toNat)
   case atStart=>exact⟨0,W0,by omega,rfl,B0⟩
   case round=>
    clear B0;obtain⟨i,cur,hi,rfl,HC⟩:=hrel;rename World=>wB;obtain⟨pc,cc,rfl⟩:=Qb HC.o.k.l;by_cases hlt:i<bs.length
    ·obtain⟨g,qc,cq,ps,cs,rfl,_,hg,OC,OS,bc⟩:=HB.o.at hlt;obtain⟨g1,rfl,_,_⟩:=Qh HC.o.k.c (by omega);have D1:Hid (∀wr,Below w.heap.size w wr→wr.cell? ⟨g,i*10+1,none⟩=some (.slice ps bs[i].sts.length cs)):=fun wr F=>(F.cell (p:=⟨g,i*10+1,none⟩) hg).trans (bc 1 _ rfl);have D0:Hid (∀wr,Below w.heap.size w wr→wr.cell? ⟨g,i*10,none⟩=some (.slice qc bs[i].chs.length cq)):=fun wr F=>(F.cell (p:=⟨g,i*10,none⟩) hg).trans (bc 0 _ rfl);have D2:Hid (∀wr,Below w.heap.size w wr→wr.cell? ⟨g,i*10+2,none⟩=some (.int .u8 bs[i].e.op)):=fun wr F=>(F.cell (p:=⟨g,i*10+2,none⟩) hg).trans (bc 2 _ rfl);have D3:Hid (∀wr,Below w.heap.size w wr→wr.cell? ⟨g,i*10+3,none⟩=some (.int .i64 bs[i].e.a.1)):=fun wr F=>(F.cell (p:=⟨g,i*10+3,none⟩) hg).trans (bc 3 _ rfl);have HOC:=Qc (And.intro OC OS);have HBK:Hid (bkF bs i=bs[i]):=Zt hlt;have HFI:=Qc (hf.out _ (List.getElem_mem hlt));have HG2:=Qc (hg2.out _ (List.getElem_mem hlt));have HCG:=Qc (hcg.out _ (List.getElem_mem hlt));have hcl:=HFI.o.cl;have hsl:=HFI.o.sl;generalize hbb:bs[i]=bb at *;clear OC OS bc hbb;go_wp2_with fail;have B1:Hid (RoI w bs (.slice (some ⟨g1,0,none⟩) bs.length c1) W0 i (.slice pc cur.length cc) cur wB∧∀t∈bb.sts.take 0,PS W0 cur t):=⟨HC.o,fun t ht=>absurd ht (by simp)⟩;clear HC
     go_loopw [6,10] (fun vw kk wr=>∃(k:Nat)(cur:List Nat),k≤bb.sts.length∧kk=.int .i64 k∧Hid (RoI w bs (.slice (some ⟨g1,0,none⟩) bs.length c1) W0 i vw cur wr∧∀t∈bb.sts.take k,PS W0 cur t)) (fun _ kk _=>bb.sts.length-(intOf kk).toNat)
     case atStart=>exact⟨0,cur,by omega,rfl,B1⟩
     case round=>
      clear B1;obtain⟨k,cur,hk,rfl,HK⟩:=hrel;rename World=>wC;obtain⟨pk,ck,rfl⟩:=Qb HK.o.1.k.l;have d1:=D1.o wC HK.o.1.k.f;have e1:=Qe HK.o.1.k.c (Zp (f:=coF bs) hlt);obtain⟨kb,hkb⟩:∃kb,kb=coF bs i:=⟨_,rfl⟩;rw[←hkb]at e1;have HKB:=Qc hkb;clear hkb
      cases kb with
      | false=>
       by_cases hkl:k<bb.sts.length
       all_goals
        have d0:=D0.o wC HK.o.1.k.f;have d2:=D2.o wC HK.o.1.k.f;go_wp2_with fail;have B3:Hid (RoI w bs (.slice (some ⟨g1,0,none⟩) bs.length c1) W0 i (.slice pk cur.length ck) cur wC):=HK.o.1;clear d0 d1 d2 e1 HK
        go_loopw [6,14] (fun vw kk wr=>vw=.slice pk cur.length ck∧kk=.int .i64 0∧Hid (RoI w bs (.slice (some ⟨g1,0,none⟩) bs.length c1) W0 i (.slice pk cur.length ck) cur wr)) (fun _ _ _=>0)
        case atStart=>exact⟨rfl,rfl,B3⟩
        case round=>
         clear B3;obtain⟨rfl,rfl,HQ⟩:=hrel;rename World=>wE;have d0:=D0.o wE HQ.o.k.f;have e1:=Qe HQ.o.k.c (Zp (f:=coF bs) hlt);rw[←HKB.o]at e1;have HN9:Hid (RoI w bs (.slice (some ⟨g1,0,none⟩) bs.length c1) W0 (i+1) (.slice pk cur.length ck) cur wE):=by
          refine⟨HQ.o.r,fun j hj hc=>?_,HQ.o.k⟩;by_cases h:j<i
          ·exact HQ.o.d j h hc
          ·have:j=i:=by omega
           rw[this,←HKB.o]at hc;cases hc
         clear HQ;by_cases hql:0<bb.chs.length
         all_goals
          go_wp2_with fail;go_roundw
          case rel=>exact⟨i+1,cur,by omega,by go_num,HN9⟩
          case measure=>simp[intOf];omega
      | true=>
       by_cases hkl:k<bb.sts.length
       ·have OS:=Qd HOC.o.2 (Qi HK.o.1.k.f) trivial;obtain⟨gs,rfl,_,_⟩:=Qh OS (by omega);have t0:wC.cell? ⟨gs,k*8,none⟩=some (.int .u8 bb.sts[k].op):=Qe OS (Qn hkl (k:=0) (by omega));have t1:wC.cell? ⟨gs,k*8+1,none⟩=some (.int .i64 bb.sts[k].to.1):=Qe OS (Qn hkl (k:=1) (by omega));have t2:wC.cell? ⟨gs,k*8+2,none⟩=some (.int .i64 bb.sts[k].to.2):=Qe OS (Qn hkl (k:=2) (by omega));have t3:wC.cell? ⟨gs,k*8+3,none⟩=some (.int .i64 bb.sts[k].a.1):=Qe OS (Qn hkl (k:=3) (by omega));have t4:wC.cell? ⟨gs,k*8+4,none⟩=some (.int .i64 bb.sts[k].a.2):=Qe OS (Qn hkl (k:=4) (by omega));have t5:wC.cell? ⟨gs,k*8+5,none⟩=some (.int .i64 bb.sts[k].b.1):=Qe OS (Qn hkl (k:=5) (by omega));have t6:wC.cell? ⟨gs,k*8+6,none⟩=some (.int .i64 bb.sts[k].b.2):=Qe OS (Qn hkl (k:=6) (by omega));have t7:wC.cell? ⟨gs,k*8+7,none⟩=some (.int .i64 bb.sts[k].n):=Qe OS (Qn hkl (k:=7) (by omega));have HTS:Hid (bb.sts.take (k+1)=bb.sts.take k++[bb.sts[k]]):=List.take_succ_eq_append_getElem hkl;have HST:=Qc (HFI.o.st _ (List.getElem_mem hkl));clear OS;generalize bb.sts[k]=tt at *;have FA:=(Below.refl wC.heap.size wC).alloc (Nat.le_refl _) (.cells #[.int .u8 tt.op,.int .i64 tt.to.1,.int .i64 tt.to.2,.int .i64 tt.a.1,.int .i64 tt.a.2,.int .i64 tt.b.1,.int .i64 tt.b.2,.int .i64 tt.n] 66);have HW:Hid (RoI w bs (.slice (some ⟨g1,0,none⟩) bs.length c1) W0 i (.slice pk cur.length ck) cur (wC.alloc (.cells #[.int .u8 tt.op,.int .i64 tt.to.1,.int .i64 tt.to.2,.int .i64 tt.a.1,.int .i64 tt.a.2,.int .i64 tt.b.1,.int .i64 tt.b.2,.int .i64 tt.n] 66))∧∀t∈bb.sts.take k,PS W0 cur t):=⟨HK.o.1.keeps FA,HK.o.2⟩;have gW:=Qc (heap_alloc_last wC (.cells #[.int .u8 tt.op,.int .i64 tt.to.1,.int .i64 tt.to.2,.int .i64 tt.a.1,.int .i64 tt.a.2,.int .i64 tt.b.1,.int .i64 tt.b.2,.int .i64 tt.n] 66));have hcl2:=HK.o.1.r.len;clear FA HK;by_cases h33:tt.op=33
        case' pos=>
         have hd:((tt.op:Int) != 33)=false:=by simp;omega
         have H33:=Qc h33;clear h33;go_wp2_with fail;clear t0 t1 t2 t3 t4 t5 t6 t7;generalize wC.alloc (.cells #[.int .u8 tt.op,.int .i64 tt.to.1,.int .i64 tt.to.2,.int .i64 tt.a.1,.int .i64 tt.a.2,.int .i64 tt.b.1,.int .i64 tt.b.2,.int .i64 tt.n] 66)=w3 at *
        case' neg=>
         have hd:((tt.op:Int) != 33)=true:=by simp;omega
         have H33:=Qc h33;clear h33;go_wp2_with fail;clear t0 t1 t2 t3 t4 t5 t6 t7;generalize wC.alloc (.cells #[.int .u8 tt.op,.int .i64 tt.to.1,.int .i64 tt.to.2,.int .i64 tt.a.1,.int .i64 tt.a.2,.int .i64 tt.b.1,.int .i64 tt.b.2,.int .i64 tt.n] 66)=W1 at *;refine(Yt cur tt.to.1 w.heap.size _ W1 HW.o.1.k.l (by omega)).mono ?_;rintro x w3 ⟨rfl,rfl⟩;obtain⟨hb,hhb⟩:∃hb,hb=Qt cur tt.to.1:=⟨_,rfl⟩;rw[←hhb];have HHB:=Qc hhb;clear hhb;cases hb
         case' false=>
          have HN6:Hid (RoI w bs (.slice (some ⟨g1,0,none⟩) bs.length c1) W0 i (.slice pk cur.length ck) cur w3∧∀t∈bb.sts.take (k+1),PS W0 cur t):=by
           refine⟨HW.o.1,fun t ht=>?_⟩;rw[HTS.o]at ht;rcases List.mem_append.1 ht with ht|ht
           ·exact HW.o.2 t ht
           ·rw[List.mem_singleton.1 ht];rintro (h|h)
            ·exact absurd h H33.o
            ·have h2:=HHB.o;rw[Qt,List.contains_iff_mem.2 (HW.o.1.r.sub _ h)]at h2;cases h2
          clear HW;go_wp2_with fail;go_roundw
          case rel=>exact⟨k+1,cur,by omega,by go_num,HN6⟩
          case measure=>simp[intOf];omega
         have q0:=Qa gW.out 0;have q1:=Qa gW.out 1;have q2:=Qa gW.out 2;have q3:=Qa gW.out 3;have q4:=Qa gW.out 4;have q5:=Qa gW.out 5;have q6:=Qa gW.out 6;have q7:=Qa gW.out 7;simp at q0 q1 q2 q3 q4 q5 q6 q7;go_wp2_with fail;clear q0 q1 q2 q3 q4 q5 q6 q7
        all_goals
         refine(Qdd tt w3).mono ?_;rintro x w4 ⟨v4,rfl,o4,f4⟩;obtain⟨p4,c4,rfl⟩:=Qb o4;have H4:Hid (RoI w bs (.slice (some ⟨g1,0,none⟩) bs.length c1) W0 i (.slice pk cur.length ck) cur w4∧(∀t∈bb.sts.take k,PS W0 cur t)):=⟨HW.o.1.keeps f4,HW.o.2⟩;have HO4:Hid (w4.ownsRow w3.heap.size 48 2 (.slice p4 (rdsF tt).length c4) (rdsF tt).length (pcs (rdsF tt))):=o4;clear o4 f4 HW;go_wp2_with fail;have hrl:=GF tt;have B2:Hid (RoI w bs (.slice (some ⟨g1,0,none⟩) bs.length c1) W0 i (.slice pk cur.length ck) cur w4∧(∀t∈bb.sts.take k,PS W0 cur t)∧(∀y∈(rdsF tt).take 0,y.1∈cur)∧w4.ownsRow w3.heap.size 48 2 (.slice p4 (rdsF tt).length c4) (rdsF tt).length (pcs (rdsF tt))):=⟨H4.o.1,H4.o.2,fun y hy=>absurd hy (by simp),HO4.o⟩;clear H4 HO4
         go_loopw [6,13] (fun vw jj wr=>∃(j:Nat)(cu2:List Nat),j≤(rdsF tt).length∧jj=.int .i64 j∧Hid (RoI w bs (.slice (some ⟨g1,0,none⟩) bs.length c1) W0 i vw cu2 wr∧(∀t∈bb.sts.take k,PS W0 cu2 t)∧(∀y∈(rdsF tt).take j,y.1∈cu2)∧wr.ownsRow w3.heap.size 48 2 (.slice p4 (rdsF tt).length c4) (rdsF tt).length (pcs (rdsF tt)))) (fun _ jj _=>(rdsF tt).length-(intOf jj).toNat)
         case atStart=>exact⟨0,cur,by omega,rfl,B2⟩
         case round=>
          clear B2;obtain⟨j,cu2,hj,rfl,HJ⟩:=hrel;rename World=>wD;obtain⟨pj,cj,rfl⟩:=Qb HJ.o.1.k.l;by_cases hjl:j<(rdsF tt).length
          ·obtain⟨gr,rfl,_,_⟩:=Qh HJ.o.2.2.2 (by omega);have c0:=Qe HJ.o.2.2.2 (QX hjl).1;have hx:=QaN HST.o _ (List.getElem_mem hjl);have HTK:Hid ((rdsF tt).take (j+1)=(rdsF tt).take j++[(rdsF tt)[j]]):=List.take_succ_eq_append_getElem hjl;generalize (rdsF tt)[j]=yy at *;have hl5:=HJ.o.1.r.len;go_wp2_with fail;refine(QhG cu2 yy.1 w.heap.size _ wD HJ.o.1.k.l HJ.o.1.r.srt (by omega)).mono ?_;rintro x w5 ⟨v5,rfl,o5,f5⟩;have HN5:Hid (RoI w bs (.slice (some ⟨g1,0,none⟩) bs.length c1) W0 i v5 (ptF cu2 yy.1) w5∧(∀t∈bb.sts.take k,PS W0 (ptF cu2 yy.1) t)∧(∀y∈(rdsF tt).take (j+1),y.1∈ptF cu2 yy.1)∧w5.ownsRow w3.heap.size 48 2 (.slice (some ⟨gr,0,none⟩) (rdsF tt).length c4) (rdsF tt).length (pcs (rdsF tt))):=by
            refine⟨HJ.o.1.put hx f5 o5,fun t ht=>(HJ.o.2.1 t ht).up YL,fun y hy=>?_,Qd HJ.o.2.2.2 (Qi f5) trivial⟩;rw[HTK.o]at hy;rcases List.mem_append.1 hy with hy|hy
            ·exact YL _ (HJ.o.2.2.1 y hy)
            ·rw[List.mem_singleton.1 hy];exact Zf.2 (.inr rfl)
           obtain⟨p5,c5,rfl⟩:=Qb o5;clear o5 f5 HJ c0;go_wp2_with fail;go_roundw
           case rel=>exact⟨j+1,ptF cu2 yy.1,by omega,by go_num,HN5⟩
           case measure=>simp[intOf];omega
          ·have HN6:Hid (RoI w bs (.slice (some ⟨g1,0,none⟩) bs.length c1) W0 i (.slice pj cu2.length cj) cu2 wD∧∀t∈bb.sts.take (k+1),PS W0 cu2 t):=by
            refine⟨HJ.o.1,fun t ht=>?_⟩;rw[HTS.o]at ht;rcases List.mem_append.1 ht with ht|ht
            ·exact HJ.o.2.1 t ht
            ·rw[List.mem_singleton.1 ht];intro _ y hy;exact HJ.o.2.2.1 y (by rw[List.take_of_length_le (by omega)];exact hy)
           clear HJ;go_wp2_with fail;go_roundw
           case rel=>exact⟨k+1,cu2,by omega,by go_num,HN6⟩
           case measure=>simp[intOf];omega
       ·have d0:=D0.o wC HK.o.1.k.f;have d2:=D2.o wC HK.o.1.k.f;have d3:=D3.o wC HK.o.1.k.f;have HPS:Hid (∀t∈bb.sts,PS W0 cur t):=by
         have:=HK.o.2;rw[List.take_of_length_le (by omega)]at this;exact this
        have hcl2:=HK.o.1.r.len;by_cases h63:bb.e.op=63
        case' pos=>
         have hd:((bb.e.op:Int)==63)=true:=by simp;omega
         have H63:=Qc h63;clear h63;go_wp2_with fail;refine(QhG cur bb.e.a.1 w.heap.size _ wC HK.o.1.k.l HK.o.1.r.srt (by omega)).mono ?_;rintro x w5 ⟨v5,rfl,o5,f5⟩;have B3:Hid (RoI w bs (.slice (some ⟨g1,0,none⟩) bs.length c1) W0 i v5 (ptF cur bb.e.a.1) w5∧(∀t∈bb.sts,PS W0 (ptF cur bb.e.a.1) t)∧PE (ptF cur bb.e.a.1) bb.e∧∀c∈bb.chs.take 0,PC (coF bs) W0 (ptF cur bb.e.a.1) c):=by
          refine⟨HK.o.1.put HFI.o.e f5 o5,fun t ht=>(HPS.o t ht).up YL,fun y hy=>?_,fun c hc=>absurd hc (by simp)⟩;unfold QZ at hy;rw[if_pos H63.o]at hy;rw[List.mem_singleton.1 hy];exact Zf.2 (.inr rfl)
         obtain⟨p5,c5,rfl⟩:=Qb o5;have d0':=D0.o w5 B3.o.1.k.f;clear o5 f5 HK d0 d1 d2 d3 e1;go_wp2_with fail;clear d0'
        case' neg=>
         have hd:((bb.e.op:Int)==63)=false:=by simp;omega
         have B3:Hid (RoI w bs (.slice (some ⟨g1,0,none⟩) bs.length c1) W0 i (.slice pk cur.length ck) cur wC∧(∀t∈bb.sts,PS W0 cur t)∧PE cur bb.e∧∀c∈bb.chs.take 0,PC (coF bs) W0 cur c):=⟨HK.o.1,HPS.o,PE.zero h63,fun c hc=>absurd hc (by simp)⟩;clear h63;go_wp2_with fail;clear d0 d1 d2 d3 e1 HK
        all_goals
         go_loopw [6,14] (fun vw kk wr=>∃(q:Nat)(cur:List Nat),q≤bb.chs.length∧kk=.int .i64 q∧Hid (RoI w bs (.slice (some ⟨g1,0,none⟩) bs.length c1) W0 i vw cur wr∧(∀t∈bb.sts,PS W0 cur t)∧PE cur bb.e∧∀c∈bb.chs.take q,PC (coF bs) W0 cur c)) (fun _ kk _=>bb.chs.length-(intOf kk).toNat)
         case atStart=>exact⟨0,_,by omega,rfl,B3⟩
         case round=>
          clear B3;obtain⟨q,cur,hq,rfl,HQ⟩:=hrel;rename World=>wE;obtain⟨pq,cq2,rfl⟩:=Qb HQ.o.1.k.l;have d0:=D0.o wE HQ.o.1.k.f;have e1:=Qe HQ.o.1.k.c (Zp (f:=coF bs) hlt);rw[←HKB.o]at e1;by_cases hql:q<bb.chs.length
          ·obtain⟨gc,pf,cf,pr,cr,rfl,_,_,OF,OR,c0,c1',c2,c3⟩:=(HOC.o.1.keeps (T:=fun _=>True) (Qs.below HQ.o.1.k.f) trivial trivial trivial).at hql;have HOF:=Qc (And.intro OF OR);have HTC:Hid (bb.chs.take (q+1)=bb.chs.take q++[bb.chs[q]]):=List.take_succ_eq_append_getElem hql;have hgr:=(HFI.o.ch _ (List.getElem_mem hql)).2.1;have hgl:=HG2.o _ (List.getElem_mem hql);have HRR:=Qc (And.intro hgr (And.intro (HFI.o.ch _ (List.getElem_mem hql)) (HCG.o _ (List.getElem_mem hql))));clear OF OR hgr;generalize bb.chs[q]=ch at *;have FA:=(Below.refl wE.heap.size wE).alloc (Nat.le_refl _) (.cells #[.int .i64 ch.to.1,.int .i64 ch.to.2,.slice pf ch.gs.length cf,.slice pr ch.rs.length cr] 64);have H7:Hid (RoI w bs (.slice (some ⟨g1,0,none⟩) bs.length c1) W0 i (.slice pq cur.length cq2) cur (wE.alloc (.cells #[.int .i64 ch.to.1,.int .i64 ch.to.2,.slice pf ch.gs.length cf,.slice pr ch.rs.length cr] 64))∧(∀t∈bb.sts,PS W0 cur t)∧PE cur bb.e∧(∀c∈bb.chs.take q,PC (coF bs) W0 cur c)∧(∀p∈(ch.gs.zip ch.rs).take 0,coF bs p.1.1=true→p.2.1∈cur)∧(wE.alloc (.cells #[.int .i64 ch.to.1,.int .i64 ch.to.2,.slice pf ch.gs.length cf,.slice pr ch.rs.length cr] 64)).heap[wE.heap.size]?=some (.cells #[.int .i64 ch.to.1,.int .i64 ch.to.2,.slice pf ch.gs.length cf,.slice pr ch.rs.length cr] 64 (0,0))∧(wE.alloc (.cells #[.int .i64 ch.to.1,.int .i64 ch.to.2,.slice pf ch.gs.length cf,.slice pr ch.rs.length cr] 64)).ownsRow base 49 2 (.slice pf ch.gs.length cf) ch.gs.length (pcs ch.gs)∧(wE.alloc (.cells #[.int .i64 ch.to.1,.int .i64 ch.to.2,.slice pf ch.gs.length cf,.slice pr ch.rs.length cr] 64)).ownsRow base 48 2 (.slice pr ch.rs.length cr) ch.rs.length (pcs ch.rs)):=⟨HQ.o.1.keeps FA,HQ.o.2.1,HQ.o.2.2.1,HQ.o.2.2.2,fun p hp=>absurd hp (by simp),heap_alloc_last _ _,HOF.o.1.alloc _,HOF.o.2.alloc _⟩;clear FA HQ HOF;go_wp2_with fail;clear c0 c1' c2 c3 d0 e1;generalize wE.alloc (.cells #[.int .i64 ch.to.1,.int .i64 ch.to.2,.slice pf ch.gs.length cf,.slice pr ch.rs.length cr] 64)=W7 at *
           go_loopw [6,16] (fun vw jj wr=>∃(j:Nat)(cu:List Nat),j≤ch.rs.length∧jj=.int .i64 j∧Hid (RoI w bs (.slice (some ⟨g1,0,none⟩) bs.length c1) W0 i vw cu wr∧(∀t∈bb.sts,PS W0 cu t)∧PE cu bb.e∧(∀c∈bb.chs.take q,PC (coF bs) W0 cu c)∧(∀p∈(ch.gs.zip ch.rs).take j,coF bs p.1.1=true→p.2.1∈cu)∧wr.heap[wE.heap.size]?=some (.cells #[.int .i64 ch.to.1,.int .i64 ch.to.2,.slice pf ch.gs.length cf,.slice pr ch.rs.length cr] 64 (0,0))∧wr.ownsRow base 49 2 (.slice pf ch.gs.length cf) ch.gs.length (pcs ch.gs)∧wr.ownsRow base 48 2 (.slice pr ch.rs.length cr) ch.rs.length (pcs ch.rs))) (fun _ jj _=>ch.rs.length-(intOf jj).toNat)
           case atStart=>exact⟨0,cur,by omega,rfl,H7⟩
           case round=>
            clear H7;obtain⟨j,cu,hj,rfl,HJ⟩:=hrel;rename World=>wG;obtain⟨pj,cj,rfl⟩:=Qb HJ.o.1.k.l;have m0:=Qa HJ.o.2.2.2.2.2.1 0;have m2:=Qa HJ.o.2.2.2.2.2.1 2;have m3:=Qa HJ.o.2.2.2.2.2.1 3;simp at m0 m2 m3;have hl7:=HJ.o.1.r.len;by_cases hjl:j<ch.rs.length
            ·have hjg:Hid (j<ch.gs.length):=by have:=HRR.o.1;exact(by omega:j<ch.gs.length)
             go_wp2_with fail;refine(Yt cu ch.to.1 w.heap.size _ wG HJ.o.1.k.l (by omega)).mono ?_;rintro x w3 ⟨rfl,rfl⟩;obtain⟨hb,hhb⟩:∃hb,hb=Qt cu ch.to.1:=⟨_,rfl⟩;rw[←hhb];have HHB:=Qc hhb;clear hhb
             cases hb with
             | false=>
              have HN:Hid (RoI w bs (.slice (some ⟨g1,0,none⟩) bs.length c1) W0 i (.slice pj cu.length cj) cu w3∧(∀t∈bb.sts,PS W0 cu t)∧PE cu bb.e∧∀c∈bb.chs.take (q+1),PC (coF bs) W0 cu c):=by
               refine⟨HJ.o.1,HJ.o.2.1,HJ.o.2.2.1,fun c hc=>?_⟩;rw[HTC.o]at hc;rcases List.mem_append.1 hc with hc|hc
               ·exact HJ.o.2.2.2.1 c hc
               ·rw[List.mem_singleton.1 hc];intro h;have h2:=HHB.o;rw[Qt,List.contains_iff_mem.2 (HJ.o.1.r.sub _ h)]at h2;cases h2
              clear HJ m0 m2 m3;go_wp2_with fail;go_roundw
              case rel=>exact⟨q+1,cu,by omega,by go_num,HN⟩
              case measure=>simp[intOf];omega
             | true=>
              obtain⟨gf,rfl,_,_⟩:=Qh HJ.o.2.2.2.2.2.2.1 (by have:=hjg.out;omega);obtain⟨gr,rfl,_,_⟩:=Qh HJ.o.2.2.2.2.2.2.2 (by omega);have n0:=Qe HJ.o.2.2.2.2.2.2.1 (QX hjg.out).1;have n1:=Qe HJ.o.2.2.2.2.2.2.2 (QX hjl).1;have hxf:=HRR.o.2.2 _ (List.getElem_mem hjg.out);have hxr:=HRR.o.2.1.2.2.2 _ (List.getElem_mem hjl);have HZ:Hid ((ch.gs.zip ch.rs).take (j+1)=(ch.gs.zip ch.rs).take j++[(ch.gs[j]'hjg.out,ch.rs[j]'hjl)]):=by
               show _=_;rw[List.take_succ_eq_append_getElem (by rw[List.length_zip];have:=hjg.out;omega),List.getElem_zip]
              generalize ch.gs[j]'hjg.out=yf at *;generalize ch.rs[j]'hjl=yr at *;have e1:=Qe HJ.o.1.k.c (Zp (f:=coF bs) hxf);obtain⟨kf,hkf⟩:∃kf,kf=coF bs yf.1:=⟨_,rfl⟩;rw[←hkf]at e1;have HKF:=Qc hkf;clear hkf
              cases kf with
              | false=>
               have HN:Hid (RoI w bs (.slice (some ⟨g1,0,none⟩) bs.length c1) W0 i (.slice pj cu.length cj) cu w3∧(∀t∈bb.sts,PS W0 cu t)∧PE cu bb.e∧(∀c∈bb.chs.take q,PC (coF bs) W0 cu c)∧(∀p∈(ch.gs.zip ch.rs).take (j+1),coF bs p.1.1=true→p.2.1∈cu)∧w3.heap[wE.heap.size]?=some (.cells #[.int .i64 ch.to.1,.int .i64 ch.to.2,.slice (some ⟨gf,0,none⟩) ch.gs.length cf,.slice (some ⟨gr,0,none⟩) ch.rs.length cr] 64 (0,0))∧w3.ownsRow base 49 2 (.slice (some ⟨gf,0,none⟩) ch.gs.length cf) ch.gs.length (pcs ch.gs)∧w3.ownsRow base 48 2 (.slice (some ⟨gr,0,none⟩) ch.rs.length cr) ch.rs.length (pcs ch.rs)):=by
                refine⟨HJ.o.1,HJ.o.2.1,HJ.o.2.2.1,HJ.o.2.2.2.1,fun p hp hc=>?_,HJ.o.2.2.2.2.2.1,HJ.o.2.2.2.2.2.2.1,HJ.o.2.2.2.2.2.2.2⟩;rw[HZ.o]at hp;rcases List.mem_append.1 hp with hp|hp
                ·exact HJ.o.2.2.2.2.1 p hp hc
                ·rw[List.mem_singleton.1 hp]at hc;exact absurd (HKF.o.trans hc) (by simp)
               clear HJ;go_wp2_with fail;go_roundw
               case rel=>exact⟨j+1,cu,by omega,by go_num,HN⟩
               case measure=>simp[intOf];omega
              | true=>
               go_wp2_with fail;refine(QhG cu yr.1 w.heap.size _ w3 HJ.o.1.k.l HJ.o.1.r.srt (by omega)).mono ?_;rintro x w5 ⟨v5,rfl,o5,f5⟩;have HN:Hid (RoI w bs (.slice (some ⟨g1,0,none⟩) bs.length c1) W0 i v5 (ptF cu yr.1) w5∧(∀t∈bb.sts,PS W0 (ptF cu yr.1) t)∧PE (ptF cu yr.1) bb.e∧(∀c∈bb.chs.take q,PC (coF bs) W0 (ptF cu yr.1) c)∧(∀p∈(ch.gs.zip ch.rs).take (j+1),coF bs p.1.1=true→p.2.1∈(ptF cu yr.1))∧w5.heap[wE.heap.size]?=some (.cells #[.int .i64 ch.to.1,.int .i64 ch.to.2,.slice (some ⟨gf,0,none⟩) ch.gs.length cf,.slice (some ⟨gr,0,none⟩) ch.rs.length cr] 64 (0,0))∧w5.ownsRow base 49 2 (.slice (some ⟨gf,0,none⟩) ch.gs.length cf) ch.gs.length (pcs ch.gs)∧w5.ownsRow base 48 2 (.slice (some ⟨gr,0,none⟩) ch.rs.length cr) ch.rs.length (pcs ch.rs)):=by
                refine⟨HJ.o.1.put hxr f5 o5,fun t ht=>(HJ.o.2.1 t ht).up YL,HJ.o.2.2.1.up YL,fun c hc=>(HJ.o.2.2.2.1 c hc).up YL,fun p hp hc=>?_,?_,Qd HJ.o.2.2.2.2.2.2.1 (Qi f5) trivial,Qd HJ.o.2.2.2.2.2.2.2 (Qi f5) trivial⟩
                ·rw[HZ.o]at hp;rcases List.mem_append.1 hp with hp|hp
                 ·exact YL _ (HJ.o.2.2.2.2.1 p hp hc)
                 ·rw[List.mem_singleton.1 hp];exact Zf.2 (.inr rfl)
                ·exact(f5.block _ (Array.getElem?_eq_some_iff.1 HJ.o.2.2.2.2.2.1).1).trans HJ.o.2.2.2.2.2.1
               obtain⟨p5,c5,rfl⟩:=Qb o5;clear o5 f5 HJ m0 m2 m3 n0 n1 e1;go_wp2_with fail;go_roundw
               case rel=>exact⟨j+1,ptF cu yr.1,by omega,by go_num,HN⟩
               case measure=>simp[intOf];omega
            ·have HN:Hid (RoI w bs (.slice (some ⟨g1,0,none⟩) bs.length c1) W0 i (.slice pj cu.length cj) cu wG∧(∀t∈bb.sts,PS W0 cu t)∧PE cu bb.e∧∀c∈bb.chs.take (q+1),PC (coF bs) W0 cu c):=by
              refine⟨HJ.o.1,HJ.o.2.1,HJ.o.2.2.1,fun c hc=>?_⟩;rw[HTC.o]at hc;rcases List.mem_append.1 hc with hc|hc
              ·exact HJ.o.2.2.2.1 c hc
              ·rw[List.mem_singleton.1 hc];intro _ p hp hcc;exact HJ.o.2.2.2.2.1 p (by rw[List.take_of_length_le (by rw[List.length_zip];omega)];exact hp) hcc
             clear HJ;go_wp2_with fail;go_roundw
             case rel=>exact⟨q+1,cu,by omega,by go_num,HN⟩
             case measure=>simp[intOf];omega
          ·have HN9:Hid (RoI w bs (.slice (some ⟨g1,0,none⟩) bs.length c1) W0 (i+1) (.slice pq cur.length cq2) cur wE):=by
            refine⟨HQ.o.1.r,fun j hj hc=>?_,HQ.o.1.k⟩;by_cases h:j<i
            ·exact HQ.o.1.d j h hc
            ·have:j=i:=by omega
             rw[this,HBK.o];refine⟨HQ.o.2.1,HQ.o.2.2.1,?_⟩;have h5:=HQ.o.2.2.2;rw[List.take_of_length_le (by omega)]at h5;exact h5
           clear HQ;go_wp2_with fail;go_roundw
           case rel=>exact⟨i+1,cur,by omega,by go_num,HN9⟩
           case measure=>simp[intOf];omega
    ·have hie:i=bs.length:=by omega
     have hcl:=HC.o.r.len;have HFN:Hid (RnI cur cur∧(cur.length≤W0.length→∀r,Wn (absP bs) r→r∈cur)∧WkI w bs.length (coF bs) (.slice p1 bs.length c1) (.slice pc cur.length cc) cur wB):=
      ⟨RnI.refl HC.o.r.srt HC.o.r.low,fun hl=>Qhu hr.out HS0.o HC.o.r (by have:=HC.o.d;rw[hie]at this;exact this) hl hp.out,HC.o.k⟩
     clear HC hie;by_cases hgt:W0.length<cur.length
     ·have hd:decide ((W0.length:Int)<(cur.length:Int))=true:=by simp;omega
      go_wp2_with fail;go_roundw
      case rel=>exact⟨cur,true,rfl,HFN.o.1,fun h=>by simp at h,HFN.o.2.2⟩
      case measure=>show 10001-cur.length<10001-W0.length;omega
     ·have hd:decide ((W0.length:Int)<(cur.length:Int))=false:=by simp;omega
      go_wp2_with fail;go_roundw
      case rel=>exact⟨cur,false,rfl,HFN.o.1,fun _=>HFN.o.2.1 (by omega),HFN.o.2.2⟩
      case measure=>show 0<10001-W0.length;omega
def PlC(co:Nat→Bool)(c:QH):Prop:=∃m,∀p∈c.gs.zip c.rs,co p.1.1=true→p.2.1≠c.to.1→p.2.1=m
structure LnB(co:Nat→Bool)(L:List Nat)(i:Nat)(b:Ql):Prop where
 c:∀c∈b.chs,c.to.1∈L
 c2:∀c∈b.chs,0<i→¬PlC co c
 s:∀t∈b.sts,t.op≠99
 s2:∀t∈b.sts,t.op≠33→t.op≠63→t.to.1∈L
theorem Qh9{bs:List Ql}(hr:Kr bs)(hl:Ln (absP bs)){L:List Nat}(hL:∀r,Wn (absP bs) r→r∈L){i:Nat}(hc:coF bs i=true):LnB (coF bs) L i (bkF bs i):=by
 have hC:=(QW hr i).1 hc;refine⟨fun c h=>?_,fun c h h0 hp=>?_,fun t h e=>?_,fun t h h33 h63=>?_⟩
 ·exact hL _ (hl.ch (c:=QL c) hC (by rw[QO];exact List.mem_map.2 ⟨c,h,rfl⟩))
 ·obtain⟨p,hp1,q,hq1,cp,cq,np,nq,ne⟩:=hl.ch2 (c:=QL c) hC (by rw[QO];exact List.mem_map.2 ⟨c,h,rfl⟩) (by omega);obtain⟨x,hx,rfl⟩:=JV.1 hp1;obtain⟨y,hy,rfl⟩:=JV.1 hq1;obtain⟨m,hm⟩:=hp;exact ne ((hm x hx ((QW hr _).2 cp) np).trans (hm y hy ((QW hr _).2 cq) nq).symm)
 ·have:=hl.st (t:=QA t) hC (by rw[QO];exact List.mem_map.2 ⟨t,h,rfl⟩);unfold QA at this;rw[if_neg (by omega),if_pos e]at this;cases this
 ·rcases hl.st2 (t:=QA t) (x:=t.to.1) hC (by rw[QO];exact List.mem_map.2 ⟨t,h,rfl⟩) (by rw[Jv,if_neg h33]) with ⟨y,e⟩|hw
  ·unfold QA at e;split at e
   ·cases e
   ·split at e
    ·cases e
    ·cases e
  ·exact hL _ hw
def PlI(co:Nat→Bool)(c:QH)(x:Int)(j:Nat):Prop:=x=-1∧(∀p∈(c.gs.zip c.rs).take j,co p.1.1=true→p.2.1≠c.to.1→False)∨∃m:Nat,x=m∧∀p∈(c.gs.zip c.rs).take j,co p.1.1=true→p.2.1≠c.to.1→p.2.1=m
theorem PlI.skip{co c x j}{y z:Nat×Nat}(h:PlI co c x j)(hz:(c.gs.zip c.rs).take (j+1)=(c.gs.zip c.rs).take j++[(y,z)])(hn:co y.1=true→z.1≠c.to.1→False):PlI co c x (j+1):=by
 unfold PlI;rw[hz];rcases h with ⟨h1,h⟩|⟨m,h1,h⟩
 ·refine .inl ⟨h1,fun p hp a b=>?_⟩;rcases List.mem_append.1 hp with hp|hp
  ·exact h p hp a b
  ·rw[List.mem_singleton.1 hp]at a b;exact hn a b
 ·refine .inr ⟨m,h1,fun p hp a b=>?_⟩;rcases List.mem_append.1 hp with hp|hp
  ·exact h p hp a b
  ·rw[List.mem_singleton.1 hp]at a b;exact(hn a b).elim
theorem PlI.step{co c x j}{y z:Nat×Nat}(h:PlI co c x j)(hz:(c.gs.zip c.rs).take (j+1)=(c.gs.zip c.rs).take j++[(y,z)])(hn:x<0∨x=z.1):PlI co c z.1 (j+1):=by
 unfold PlI;rw[hz];refine .inr ⟨z.1,rfl,fun p hp a b=>?_⟩;rcases List.mem_append.1 hp with hp|hp
 ·rcases h with ⟨h1,h⟩|⟨m,h1,h⟩
  ·exact(h p hp a b).elim
  ·have:=h p hp a b;omega
 ·rw[List.mem_singleton.1 hp]
theorem PlI.all{co c x j}(h:PlI co c x j)(hj:(c.gs.zip c.rs).length≤j):PlC co c:=by
 unfold PlI at h;rw[List.take_of_length_le hj]at h;rcases h with ⟨_,h⟩|⟨m,_,h⟩
 ·exact⟨0,fun p hp h1 h2=>(h p hp h1 h2).elim⟩
 ·exact⟨m,h⟩
theorem PlI.low{co c x j}(h:PlI co c x j):-1≤x:=by rcases h with ⟨h,_⟩|⟨m,h,_⟩<;>omega
theorem QhK(c:QH)(co:Nat→Bool)(n base bc:Nat)(pf pr:Option Addr)(cf cr:Nat)(vc:Value)(w:World)(OF:w.ownsRow base 49 2 (.slice pf c.gs.length cf) c.gs.length (pcs c.gs))(OR:w.ownsRow base 48 2 (.slice pr c.rs.length cr) c.rs.length (pcs c.rs))(OC:w.ownsRow bc 4 1 vc n (Q0 n co))(hgr:Hid (c.rs.length=c.gs.length))(hcg:Hid (∀p∈c.gs,p.1<n))(hl:c.rs.length≤1000000):
  Calls Tryz.prog 37 #[.agg #[.int .i64 c.to.1,.int .i64 c.to.2,.slice pf c.gs.length cf,.slice pr c.rs.length cr],vc] w fun x w'=>∃b,x=.returned (.bool b)∧Hid ((b=true→PlC co c)∧Below w.heap.size w w'):=by
 obtain⟨p1,c1,rfl⟩:=Qb OC;have FA:=(Below.refl w.heap.size w).alloc (Nat.le_refl _) (.cells #[.int .i64 c.to.1,.int .i64 c.to.2,.slice pf c.gs.length cf,.slice pr c.rs.length cr] 64);have H7:Hid (PlI co c (-1) 0∧(w.alloc (.cells #[.int .i64 c.to.1,.int .i64 c.to.2,.slice pf c.gs.length cf,.slice pr c.rs.length cr] 64)).heap[w.heap.size]?=some (.cells #[.int .i64 c.to.1,.int .i64 c.to.2,.slice pf c.gs.length cf,.slice pr c.rs.length cr] 64 (0,0))∧(w.alloc (.cells #[.int .i64 c.to.1,.int .i64 c.to.2,.slice pf c.gs.length cf,.slice pr c.rs.length cr] 64)).ownsRow base 49 2 (.slice pf c.gs.length cf) c.gs.length (pcs c.gs)∧(w.alloc (.cells #[.int .i64 c.to.1,.int .i64 c.to.2,.slice pf c.gs.length cf,.slice pr c.rs.length cr] 64)).ownsRow base 48 2 (.slice pr c.rs.length cr) c.rs.length (pcs c.rs)∧(w.alloc (.cells #[.int .i64 c.to.1,.int .i64 c.to.2,.slice pf c.gs.length cf,.slice pr c.rs.length cr] 64)).ownsRow bc 4 1 (.slice p1 n c1) n (Q0 n co)∧Below w.heap.size w (w.alloc (.cells #[.int .i64 c.to.1,.int .i64 c.to.2,.slice pf c.gs.length cf,.slice pr c.rs.length cr] 64))):=⟨.inl ⟨rfl,fun p hp=>absurd hp (by simp)⟩,heap_alloc_last _ _,OF.alloc _,OR.alloc _,OC.alloc _,FA⟩;clear FA OF OR OC;go_enter Tryz.func37,Tryz.ntmps37;go_wp2_with fail;generalize w.alloc (.cells #[.int .i64 c.to.1,.int .i64 c.to.2,.slice pf c.gs.length cf,.slice pr c.rs.length cr] 64)=W7 at *
 go_loopw [5,6] (fun xx jj wr=>∃(x:Int)(j:Nat),xx=.int .i64 x∧j≤c.rs.length∧jj=.int .i64 j∧Hid (PlI co c x j∧wr.heap[w.heap.size]?=some (.cells #[.int .i64 c.to.1,.int .i64 c.to.2,.slice pf c.gs.length cf,.slice pr c.rs.length cr] 64 (0,0))∧wr.ownsRow base 49 2 (.slice pf c.gs.length cf) c.gs.length (pcs c.gs)∧wr.ownsRow base 48 2 (.slice pr c.rs.length cr) c.rs.length (pcs c.rs)∧wr.ownsRow bc 4 1 (.slice p1 n c1) n (Q0 n co)∧Below w.heap.size w wr)) (fun _ jj _=>c.rs.length-(intOf jj).toNat)
 case atStart=>exact⟨-1,0,rfl,by omega,rfl,H7⟩
 case round=>
  clear H7;obtain⟨x,j,rfl,hj,rfl,HJ⟩:=hrel;rename World=>wG;have m0:=Qa HJ.o.2.1 0;have m2:=Qa HJ.o.2.1 2;have m3:=Qa HJ.o.2.1 3;simp at m0 m2 m3;have hx1:=HJ.o.1.low;by_cases hjl:j<c.rs.length
  ·have hjg:Hid (j<c.gs.length):=by have:=hgr.out;exact(by omega:j<c.gs.length)
   obtain⟨gf,rfl,_,_⟩:=Qh HJ.o.2.2.1 (by have:=hjg.out;omega);obtain⟨gr,rfl,_,_⟩:=Qh HJ.o.2.2.2.1 (by omega);have n0:=Qe HJ.o.2.2.1 (QX hjg.out).1;have n1:=Qe HJ.o.2.2.2.1 (QX hjl).1;have hxf:=hcg.out _ (List.getElem_mem hjg.out);have HZ:Hid ((c.gs.zip c.rs).take (j+1)=(c.gs.zip c.rs).take j++[(c.gs[j]'hjg.out,c.rs[j]'hjl)]):=by
    show _=_;rw[List.take_succ_eq_append_getElem (by rw[List.length_zip];have:=hjg.out;omega),List.getElem_zip]
   generalize c.gs[j]'hjg.out=yf at *;generalize c.rs[j]'hjl=yr at *;obtain⟨g1,rfl,_,_⟩:=Qh HJ.o.2.2.2.2.1 (by omega);have e1:=Qe HJ.o.2.2.2.2.1 (Zp (f:=co) hxf);obtain⟨kf,hkf⟩:∃kf,kf=co yf.1:=⟨_,rfl⟩;rw[←hkf]at e1;have HKF:=Qc hkf;clear hkf
   cases kf with
   | false=>
    have HN:Hid (PlI co c x (j+1)):=HJ.o.1.skip HZ.o fun h=>by rw[←HKF.o]at h;cases h
    have HJ2:=Qc HJ.o.2;clear HJ;go_wp2_with fail;go_roundw
    case rel=>exact⟨x,j+1,rfl,by omega,by go_num,HN.o,HJ2.o⟩
    case measure=>simp[intOf];omega
   | true=>
    by_cases hto:yr.1=c.to.1
    ·have HN:Hid (PlI co c x (j+1)):=HJ.o.1.skip HZ.o fun _ h=>h hto;have hd:((yr.1:Int)==(c.to.1:Int))=true:=by simp;omega
     have HJ2:=Qc HJ.o.2;clear HJ hto;go_wp2_with fail;go_roundw
     case rel=>exact⟨x,j+1,rfl,by omega,by go_num,HN.o,HJ2.o⟩
     case measure=>simp[intOf];omega
    ·have hd:((yr.1:Int)==(c.to.1:Int))=false:=by simp;omega
     have HTO:=Qc hto;clear hto;by_cases hx0:0≤x
     ·by_cases hxe:(yr.1:Int)=x
      ·have hd2:((yr.1:Int) != x)=false:=by simp;omega
       have HN:Hid (PlI co c yr.1 (j+1)):=HJ.o.1.step HZ.o (.inr hxe.symm);have HJ2:=Qc HJ.o.2;clear HJ hxe;go_wp2_with fail;go_roundw
       case rel=>exact⟨yr.1,j+1,rfl,by omega,by go_num,HN.o,HJ2.o⟩
       case measure=>simp[intOf];omega
      ·have hd2:((yr.1:Int) != x)=true:=by simp;omega
       clear hxe;go_wp2_with fail;go_ret;exact⟨_,rfl,fun h=>by simp at h,HJ.o.2.2.2.2.2⟩
     ·have HN:Hid (PlI co c yr.1 (j+1)):=HJ.o.1.step HZ.o (.inl (by omega));have HJ2:=Qc HJ.o.2;clear HJ;go_wp2_with fail;go_roundw
      case rel=>exact⟨yr.1,j+1,rfl,by omega,by go_num,HN.o,HJ2.o⟩
      case measure=>simp[intOf];omega
  ·have HN:=HJ.o.1.all (by rw[List.length_zip];omega);go_wp2_with fail;go_ret;exact⟨_,rfl,fun _=>HN,HJ.o.2.2.2.2.2⟩
theorem Qgf(bs:List Ql)(base:Nat)(v:Value)(w:World)(h:QK w base bs v)(hr:Hid (Kr bs))(hp:Hid (POk (absP bs)))(hf:Hid (∀b∈bs,ZG 1000000 b))(hg2:Hid (∀b∈bs,∀c∈b.chs,c.gs.length≤1000))(hcg:Hid (∀b∈bs,∀c∈b.chs,∀p∈c.gs,p.1<bs.length))(hn:bs.length≤12)(hln:Hid (Ln (absP bs))):
  Calls Tryz.prog 16 #[v] w fun x w'=>x=.returned (.bool true)∧Below w.heap.size w w':=by
 obtain⟨pv,cv,rfl⟩:=h.slice;have HB:=Qc h;clear h;go_enter Tryz.func16,Tryz.ntmps16;go_wp2_with fail;refine(GE bs (-1) base _ w HB.o hr.out.goals hr.out.pos (by omega)).mono ?_;rintro x w1 ⟨v1,rfl,o1,f1⟩;rw[Rf]at o1;obtain⟨p1,c1,rfl⟩:=Qb o1;have H1:Hid (w1.ownsRow w.heap.size 4 1 (.slice p1 bs.length c1) bs.length (Q0 bs.length (coF bs))∧Below w.heap.size w w1):=⟨o1,f1⟩;have HB1:=Qc (HB.o.keeps (Qi f1) trivial trivial trivial trivial trivial);clear o1 f1;go_wp2_with fail;refine(Qfa bs base _ w1 HB1.o hr hp hf hg2 hcg hn).mono ?_;rintro x w2 ⟨v2,L,rfl,H2⟩;obtain⟨p2,c2,rfl⟩:=Qb H2.o.1;have HLL:=Qc H2.o.2.2.1;have hLl:=H2.o.2.1;have H3:Hid (WkI w bs.length (coF bs) (.slice p1 bs.length c1) (.slice p2 L.length c2) L w2):=⟨Qd H1.o.1 (Qi H2.o.2.2.2) trivial,Qm H2.o.1 H1.o.2.size,H1.o.2.trans (H2.o.2.2.2.mono H1.o.2.size)⟩;clear H1 H2 HB1;go_wp2_with fail
 go_loopw [5] (fun ii wr=>∃i:Nat,i≤bs.length∧ii=.int .i64 i∧Hid (WkI w bs.length (coF bs) (.slice p1 bs.length c1) (.slice p2 L.length c2) L wr)) (fun ii _=>bs.length-(intOf ii).toNat)
 case atStart=>exact⟨0,by omega,rfl,H3⟩
 case round=>
  clear H3;obtain⟨i,hi,rfl,HC⟩:=hrel;rename World=>wB;by_cases hlt:i<bs.length
  ·obtain⟨g,qc,cq,ps,cs,rfl,_,hg,OC,OS,bc⟩:=HB.o.at hlt;obtain⟨g1,rfl,_,_⟩:=Qh HC.o.c (by omega);have D1:Hid (∀wr,Below w.heap.size w wr→wr.cell? ⟨g,i*10+1,none⟩=some (.slice ps bs[i].sts.length cs)):=fun wr F=>(F.cell (p:=⟨g,i*10+1,none⟩) hg).trans (bc 1 _ rfl);have D0:Hid (∀wr,Below w.heap.size w wr→wr.cell? ⟨g,i*10,none⟩=some (.slice qc bs[i].chs.length cq)):=fun wr F=>(F.cell (p:=⟨g,i*10,none⟩) hg).trans (bc 0 _ rfl);have HOC:=Qc (And.intro OC OS);have HFI:=Qc (hf.out _ (List.getElem_mem hlt));have HG2:=Qc (hg2.out _ (List.getElem_mem hlt));have HCG:=Qc (hcg.out _ (List.getElem_mem hlt));have hcl:=HFI.o.cl;have hsl:=HFI.o.sl;have HLB:Hid (coF bs i=true→LnB (coF bs) L i bs[i]):=fun hc=>by
    have:=Qh9 hr.out hln.out HLL.o hc;rw[Zt hlt]at this;exact this
   generalize hbb:bs[i]=bb at *;clear OC OS bc hbb;have e1:=Qe HC.o.c (Zp (f:=coF bs) hlt);obtain⟨kb,hkb⟩:∃kb,kb=coF bs i:=⟨_,rfl⟩;rw[←hkb]at e1
   cases kb with
   | false=>
    clear hkb;go_wp2_with fail;go_roundw
    case rel=>exact⟨i+1,by omega,by go_num,HC⟩
    case measure=>simp[intOf];omega
   | true=>
    have HLC:=Qc (HLB.o hkb.symm);clear hkb HLB;have d0:=D0.o wB HC.o.f;go_wp2_with fail;clear d0 e1
    go_loopw [6] (fun kk wr=>∃q:Nat,q≤bb.chs.length∧kk=.int .i64 q∧Hid (WkI w bs.length (coF bs) (.slice (some ⟨g1,0,none⟩) bs.length c1) (.slice p2 L.length c2) L wr)) (fun kk _=>bb.chs.length-(intOf kk).toNat)
    case atStart=>exact⟨0,by omega,rfl,HC⟩
    case round=>
     clear HC;obtain⟨q,hq,rfl,HQ⟩:=hrel;rename World=>wE;have d0:=D0.o wE HQ.o.f;by_cases hql:q<bb.chs.length
     ·obtain⟨gc,pf,cf,pr,cr,rfl,_,_,OF,OR,c0,c1',c2',c3⟩:=(HOC.o.1.keeps (T:=fun _=>True) (Qs.below HQ.o.f) trivial trivial trivial).at hql;have HOF:=Qc (And.intro OF OR);have hgr:=(HFI.o.ch _ (List.getElem_mem hql)).2.1;have hgl:=HG2.o _ (List.getElem_mem hql);have hrl:bb.chs[q].rs.length≤1000000:=by omega
      have HRR:=Qc (And.intro hgr (HCG.o _ (List.getElem_mem hql)));have HCM:=Qc (And.intro (HLC.o.c _ (List.getElem_mem hql)) (HLC.o.c2 _ (List.getElem_mem hql)));clear OF OR hgr;generalize bb.chs[q]=ch at *;have FA:=(Below.refl wE.heap.size wE).alloc (Nat.le_refl _) (.cells #[.int .i64 ch.to.1,.int .i64 ch.to.2,.slice pf ch.gs.length cf,.slice pr ch.rs.length cr] 64);have H7:Hid (WkI w bs.length (coF bs) (.slice (some ⟨g1,0,none⟩) bs.length c1) (.slice p2 L.length c2) L (wE.alloc (.cells #[.int .i64 ch.to.1,.int .i64 ch.to.2,.slice pf ch.gs.length cf,.slice pr ch.rs.length cr] 64))∧(wE.alloc (.cells #[.int .i64 ch.to.1,.int .i64 ch.to.2,.slice pf ch.gs.length cf,.slice pr ch.rs.length cr] 64)).ownsRow base 49 2 (.slice pf ch.gs.length cf) ch.gs.length (pcs ch.gs)∧(wE.alloc (.cells #[.int .i64 ch.to.1,.int .i64 ch.to.2,.slice pf ch.gs.length cf,.slice pr ch.rs.length cr] 64)).ownsRow base 48 2 (.slice pr ch.rs.length cr) ch.rs.length (pcs ch.rs)):=⟨HQ.o.keeps FA,HOF.o.1.alloc _,HOF.o.2.alloc _⟩;have gW:=Qc (heap_alloc_last wE (.cells #[.int .i64 ch.to.1,.int .i64 ch.to.2,.slice pf ch.gs.length cf,.slice pr ch.rs.length cr] 64));clear FA HQ HOF;go_wp2_with fail;clear c0 c1' c2' c3 d0;generalize wE.alloc (.cells #[.int .i64 ch.to.1,.int .i64 ch.to.2,.slice pf ch.gs.length cf,.slice pr ch.rs.length cr] 64)=W7 at *;refine(Yt L ch.to.1 w.heap.size _ W7 H7.o.1.l (by omega)).mono ?_;rintro x w3 ⟨rfl,rfl⟩;rw[ZJ.2 HCM.o.1];by_cases hi0:0<i
      ·have q0:=Qa gW.out 0;have q1:=Qa gW.out 1;have q2:=Qa gW.out 2;have q3:=Qa gW.out 3;simp at q0 q1 q2 q3;have HCM2:=Qc (HCM.o.2 hi0);go_wp2_with fail;clear q0 q1 q2 q3;refine(QhK ch (coF bs) bs.length base w.heap.size pf pr cf cr _ w3 H7.o.2.1 H7.o.2.2 H7.o.1.c HRR.o.1 HRR.o.2 hrl).mono ?_;rintro x w4 ⟨b,rfl,H4⟩
       cases b with
       | true=>exact absurd (H4.o.1 rfl) HCM2.o
       | false=>
        have HN:=Qc (H7.o.1.keeps H4.o.2);clear H4 H7 gW;go_wp2_with fail;go_roundw
        case rel=>exact⟨q+1,by omega,by go_num,HN⟩
        case measure=>simp[intOf];omega
      ·have HN:=Qc H7.o.1;clear H7 gW;go_wp2_with fail;go_roundw
       case rel=>exact⟨q+1,by omega,by go_num,HN⟩
       case measure=>simp[intOf];omega
     ·have d1:=D1.o wE HQ.o.f;go_wp2_with fail;clear d0 d1
      go_loopw [8] (fun kk wr=>∃k:Nat,k≤bb.sts.length∧kk=.int .i64 k∧Hid (WkI w bs.length (coF bs) (.slice (some ⟨g1,0,none⟩) bs.length c1) (.slice p2 L.length c2) L wr)) (fun kk _=>bb.sts.length-(intOf kk).toNat)
      case atStart=>exact⟨0,by omega,rfl,HQ⟩
      case round=>
       clear HQ;obtain⟨k,hk,rfl,HK⟩:=hrel;rename World=>wC;have d1:=D1.o wC HK.o.f;by_cases hkl:k<bb.sts.length
       ·have OS:=Qd HOC.o.2 (Qi HK.o.f) trivial;obtain⟨gs,rfl,_,_⟩:=Qh OS (by omega);have t0:wC.cell? ⟨gs,k*8,none⟩=some (.int .u8 bb.sts[k].op):=Qe OS (Qn hkl (k:=0) (by omega));have t1:wC.cell? ⟨gs,k*8+1,none⟩=some (.int .i64 bb.sts[k].to.1):=Qe OS (Qn hkl (k:=1) (by omega));have t2:wC.cell? ⟨gs,k*8+2,none⟩=some (.int .i64 bb.sts[k].to.2):=Qe OS (Qn hkl (k:=2) (by omega));have t3:wC.cell? ⟨gs,k*8+3,none⟩=some (.int .i64 bb.sts[k].a.1):=Qe OS (Qn hkl (k:=3) (by omega));have t4:wC.cell? ⟨gs,k*8+4,none⟩=some (.int .i64 bb.sts[k].a.2):=Qe OS (Qn hkl (k:=4) (by omega));have t5:wC.cell? ⟨gs,k*8+5,none⟩=some (.int .i64 bb.sts[k].b.1):=Qe OS (Qn hkl (k:=5) (by omega));have t6:wC.cell? ⟨gs,k*8+6,none⟩=some (.int .i64 bb.sts[k].b.2):=Qe OS (Qn hkl (k:=6) (by omega));have t7:wC.cell? ⟨gs,k*8+7,none⟩=some (.int .i64 bb.sts[k].n):=Qe OS (Qn hkl (k:=7) (by omega));have h99:=HLC.o.s _ (List.getElem_mem hkl);have HS2:=Qc (HLC.o.s2 _ (List.getElem_mem hkl));clear OS;generalize bb.sts[k]=tt at *;have FA:=(Below.refl wC.heap.size wC).alloc (Nat.le_refl _) (.cells #[.int .u8 tt.op,.int .i64 tt.to.1,.int .i64 tt.to.2,.int .i64 tt.a.1,.int .i64 tt.a.2,.int .i64 tt.b.1,.int .i64 tt.b.2,.int .i64 tt.n] 66);have HW:=Qc (HK.o.keeps FA);clear FA HK;have hd9:((tt.op:Int)==99)=false:=by simp;omega
        clear h99;by_cases h33:tt.op=33
        ·have hd:((tt.op:Int) != 33)=false:=by simp;omega
         clear h33;go_wp2_with fail;go_roundw
         case rel=>exact⟨k+1,by omega,by go_num,HW⟩
         case measure=>simp[intOf];omega
        ·have hd:((tt.op:Int) != 33)=true:=by simp;omega
         by_cases h63:tt.op=63
         ·have hd6:((tt.op:Int) != 63)=false:=by simp;omega
          clear h33 h63;go_wp2_with fail;go_roundw
          case rel=>exact⟨k+1,by omega,by go_num,HW⟩
          case measure=>simp[intOf];omega
         ·have hd6:((tt.op:Int) != 63)=true:=by simp;omega
          have HTO:=Qc (HS2.o h33 h63);clear h33 h63;go_wp2_with fail;clear t0 t1 t2 t3 t4 t5 t6 t7;generalize wC.alloc (.cells #[.int .u8 tt.op,.int .i64 tt.to.1,.int .i64 tt.to.2,.int .i64 tt.a.1,.int .i64 tt.a.2,.int .i64 tt.b.1,.int .i64 tt.b.2,.int .i64 tt.n] 66)=W1 at *;refine(Yt L tt.to.1 w.heap.size _ W1 HW.o.l (by omega)).mono ?_;rintro x w3 ⟨rfl,rfl⟩;rw[ZJ.2 HTO.o];go_wp2_with fail;go_roundw
          case rel=>exact⟨k+1,by omega,by go_num,HW⟩
          case measure=>simp[intOf];omega
       ·go_wp2_with fail;go_roundw
        case rel=>exact⟨i+1,by omega,by go_num,HK⟩
        case measure=>simp[intOf];omega
  ·have HF:=Qc HC.o.f;clear HC;go_wp2_with fail;go_ret;exact⟨rfl,HF.o⟩
end Go.Proofs.YtgfhfkgdmidhpaaGreatDoor
