import Derived.Test.YtgfhfkgdmidhpaaGreatDoorM30
import Derived.Test.YtgfhfkgdmidhpaaGreatDoorM29
namespace Go.Proofs.YtgfhfkgdmidhpaaGreatDoor
open Go.RowKit
open Go.Proofs.Tryz
set_option maxRecDepth 100000
set_option maxHeartbeats 8000000
def spL(g r:Nat×Nat):List UInt8:=spT (g.1,r.1)
def KQ(gs rs:List (Nat×Nat))(k:Nat):List (List UInt8):=(List.zipWith spL (gs.take k) (rs.take k))++List.replicate (gs.length-k) []
theorem Uu{gs rs:List (Nat×Nat)}(h:gs.length=rs.length){k:Nat}(hk:k≤gs.length):(KQ gs rs k).length=gs.length:=by
 simp[KQ];omega
theorem Qd1{gs rs:List (Nat×Nat)}(h:gs.length=rs.length){k:Nat}(hk:k<gs.length):(KQ gs rs k).set k (spL gs[k] (rs[k]'(by omega)))=KQ gs rs (k+1):=by
 unfold KQ;have hl:(List.zipWith spL (gs.take k) (rs.take k)).length=k:=by simp;omega
 rw[List.set_append_right (h:=by omega),hl,Nat.sub_self];rw[show gs.length-k=(gs.length-(k+1))+1 from by omega,List.replicate_succ,List.set_cons_zero,List.take_succ_eq_append_getElem hk,List.take_succ_eq_append_getElem (by omega),List.zipWith_append (by simp;omega),List.append_assoc];rfl
theorem QbY:∀(ps:List (Nat×Nat)),Lib.join (ps.map spT) [44]=srT ps
 | []=>rfl
 | [p]=>by rw[List.map_cons,List.map_nil,Lib.join_one,Kb]
 | p::q::ps=>by
  have ih:=QbY (q::ps);rw[XP,←ih,List.map_cons,Lib.join_cons,List.map_cons,Lib.join_cons];simp[Lib.joinTail]
theorem QdH:∀(gs rs:List (Nat×Nat)),List.zipWith spL gs rs=((gs.map (·.1)).zip (rs.map (·.1))).map spT
 | [],_=>by simp
 | _::_,[]=>by simp
 | g::gs,r::rs=>by
  rw[List.zipWith_cons_cons,QdH gs rs,List.map_cons,List.map_cons,List.zip_cons_cons,List.map_cons];rfl
theorem Qd2{gs rs:List (Nat×Nat)}(h:gs.length=rs.length):Lib.join (KQ gs rs gs.length) [44]=srT ((gs.map (·.1)).zip (rs.map (·.1))):=by
 unfold KQ;rw[Zg (Qi _),Zg (by omega),Nat.sub_self,List.replicate_zero,List.append_nil,QdH,QbY]
theorem QdV:∀(ps:List (Nat×Nat)),(∀p∈ps,OkP p)→(srT ps).length≤11*ps.length
 | [],_=>Qi _
 | [p],h=>by
  have hp:=h p (List.mem_cons_self ..);have h1:=XJ hp.1;have h2:=X3 hp.2;rw[Kb];unfold spT;rw[Qw,QO,List.length_singleton];omega
 | p::q::ps,h=>by
  have hp:=h p (List.mem_cons_self ..);have h1:=XJ hp.1;have h2:=X3 hp.2;have h3:=QdV (q::ps) (fun x hx=>h x (ZD _ hx));have e:(spT p).length=(Lib.decDigits p.1).length+((rgT p.2).length+1):=by unfold spT;rw[Qw,QO]
  simp only[XP,List.length_append,List.length_cons]at h3 ⊢;omega
theorem set1{x:World}{g k o b:Nat}{v:Value}(h:b≠g):(x.setCell ⟨g,k,none⟩ v).cell? ⟨b,o,none⟩=x.cell? ⟨b,o,none⟩:=by
 simp only[World.cell?,QM h]
theorem QfO(c:Q0)(base:Nat)(pu:Option Addr)(cu:Nat)(w:World)(hO:w.ownsRow base 147 4 (.slice pu c.gs.length cu) c.gs.length (Q8 c.gs c.rs))(hl:c.gs.length=c.rs.length)(hg:∀p∈c.gs,p.1<10000)(hr:∀p∈c.rs,p.1<10000)(ht:c.to.1<10000)(hn:c.gs.length≤100000)(hb:Tab w):
  Calls prog 83 #[.agg #[.int .i64 c.to.1,.int .i64 c.to.2,.slice pu c.gs.length cu]] w fun x w'=>x=.returned (.string ⟨(chT (Zn c)).toArray⟩)∧Below w.heap.size w w':=by
 obtain⟨I9,Hi9,Hz9,Hs9,Hb9⟩:=info_parts N5;have HO:=Qc hO;have HL:=Qc hl;have HG:=Qc hg;have HR:=Qc hr;have HT:=Qc hb;clear hO hl hg hr hb;go_enter func83,ntmps83;go_wp2_with (at_make;refine QA ?_);refine Qc ?_;have g0:=Qc (heap_alloc_last w (.cells #[.int .i64 c.to.1,.int .i64 c.to.2,.slice pu c.gs.length cu] 140));have F0:=Qc ((Below.refl w.heap.size w).alloc (Qi _) (.cells #[.int .i64 c.to.1,.int .i64 c.to.2,.slice pu c.gs.length cu] 140));generalize w.alloc (.cells #[.int .i64 c.to.1,.int .i64 c.to.2,.slice pu c.gs.length cu] 140)=W0 at *;refine wpList_make_full _ rfl _ _ 98 rfl W0.heap.size 9 I9 (.string ⟨#[]⟩) 1 underlying98 Hi9 Hz9 Hs9 .i64 .i64 _ _ c.gs.length rfl rfl rfl rfl (by rw[Hb9];omega) (by unfold maxLen;omega) (by simp) ?_;intro w1 o1 g1;rw[NT]at o1;have f1:Below W0.heap.size W0 w1:=Below.grown (Below.refl _ _) g1 (Qi _) (fun k hk=>by cases hk);have S1:Hid (w1.ownsRow W0.heap.size 9 1 (.slice (some ⟨W0.heap.size,0,none⟩) c.gs.length c.gs.length) c.gs.length (X0 (KQ c.gs c.rs 0))∧Below W0.heap.size W0 w1):=⟨by rw[show KQ c.gs c.rs 0=List.replicate c.gs.length [] from by simp[KQ]];exact o1,f1⟩;clear o1 g1 f1 Hi9 Hz9 Hs9 Hb9;have hzW:=F0.o.size;have hgW:=lt_of_block g0.out;have y2:w1.cell? ⟨w.heap.size,2,none⟩=some (.slice pu c.gs.length cu):=by
  rw[S1.o.2.cell (p:=⟨w.heap.size,2,none⟩) hgW];have:=Qb g0.out 2;simpa using this
 go_wp2_with fail;clear y2
 go_loopw [13] (fun ii wr=>∃k:Nat,k≤c.gs.length∧ii=.int .i64 k∧Hid (wr.ownsRow W0.heap.size 9 1 (.slice (some ⟨W0.heap.size,0,none⟩) c.gs.length c.gs.length) c.gs.length (X0 (KQ c.gs c.rs k))∧Below W0.heap.size W0 wr)) (fun ii _=>c.gs.length-(intOf ii).toNat)
 case atStart=>exact⟨0,by omega,rfl,S1⟩
 case round=>
  clear S1;obtain⟨k,hk,rfl,H1⟩:=hrel;rename World=>wA;have hzA:=H1.o.2.size;by_cases hlt:k<c.gs.length
  ·have hkr:k<c.rs.length:=by have:=HL.o;omega
   have OU:=Qd HO.o (Qh (F0.o.trans (H1.o.2.mono hzW))) trivial;obtain⟨gu,rfl,_,_⟩:=Qk OU (by omega);have f0:=Qf OU (Zp HL.o hlt).1;have f1:=Qf OU (Zp HL.o hlt).2.1;have f2:=Qf OU (Zp HL.o hlt).2.2.1;have f3:=Qf OU (Zp HL.o hlt).2.2.2;have hgg:=HG.o _ (Qx hlt);have hrr:=HR.o _ (Qx hkr);have HST:Hid ((KQ c.gs c.rs k).set k (spL c.gs[k] c.rs[k])=KQ c.gs c.rs (k+1)):=Qd1 HL.o hlt;have HLEN:=Qc (Uu HL.o (Nat.le_of_lt hlt));generalize c.rs[k]=rr at *;generalize c.gs[k]=gg at *;have HB1:Hid (Below W0.heap.size W0 (wA.alloc (.cells #[.int .i64 gg.1,.int .i64 gg.2,.int .i64 rr.1,.int .i64 rr.2] 147))):=H1.o.2.alloc hzA _;have g2:=Qc (heap_alloc_last wA (.cells #[.int .i64 gg.1,.int .i64 gg.2,.int .i64 rr.1,.int .i64 rr.2] 147));have R1:=Qc (H1.o.1.alloc (.cells #[.int .i64 gg.1,.int .i64 gg.2,.int .i64 rr.1,.int .i64 rr.2] 147));clear OU;go_wp2_with fail;clear f0 f1 f2 f3;generalize wA.alloc (.cells #[.int .i64 gg.1,.int .i64 gg.2,.int .i64 rr.1,.int .i64 rr.2] 147)=W1 at *;have k0:=Qb g2.out 0;have k1:=Qb g2.out 1;have k2:=Qb g2.out 2;have k3:=Qb g2.out 3;simp at k0 k1 k2 k3;have hy:=lt_of_block g2.out;have hz1:=HB1.o.size;have hl1:=XJ hgg;have hl2:=X3 hrr;have hq0:¬9223372036854775807<(Lib.decDigits gg.1).length+1:=by omega
   have hq1:¬9223372036854775807<(Lib.decDigits gg.1).length+1+(rgT rr.1).length:=by omega
   obtain⟨cur,hcur⟩:=Rk R1.o;have hgl:=lt_of_block hcur;have hne:wA.heap.size≠W0.heap.size:=fun e=>by
    have h1:=g2.out;rw[e,hcur]at h1;simp at h1
   have HCU:=Qc hcur;have HZ:Hid (∀v1,Below W1.heap.size W1 v1→∃u,v1.cell? ⟨W0.heap.size,k,none⟩=some u):=fun v1 F=>⟨_,Qf (Qd R1.o (Qh F) trivial) (Re (j:=k) (by rw[HLEN.o];exact hlt))⟩;clear hcur
   go_region_held (fun w'=>w'.cell? ⟨wA.heap.size,0,none⟩=some (.int .i64 gg.1)∧w'.cell? ⟨wA.heap.size,1,none⟩=some (.int .i64 gg.2)∧w'.cell? ⟨wA.heap.size,2,none⟩=some (.int .i64 rr.1)∧w'.cell? ⟨wA.heap.size,3,none⟩=some (.int .i64 rr.2)) (first | simp[*] | exact⟨(set1 hne).trans (by assumption),(set1 hne).trans (by assumption),(set1 hne).trans (by assumption),(set1 hne).trans (by assumption)⟩)
    (first | (go_at_call 139;refine(RL gg.1 gg.2 W1.drew hgg (HT.o.keep (VR (F0.o.trans (HB1.o.mono hzW))))).mono ?_;rintro e v0 ⟨rfl,f⟩;have f':=Jy f;have ya0:=(f'.cell (p:=⟨wA.heap.size,0,none⟩) hy).trans k0;have ya1:=(f'.cell (p:=⟨wA.heap.size,1,none⟩) hy).trans k1;have ya2:=(f'.cell (p:=⟨wA.heap.size,2,none⟩) hy).trans k2;have ya3:=(f'.cell (p:=⟨wA.heap.size,3,none⟩) hy).trans k3;have O0:=Qc f';have s0:=f'.size;clear f f') | (go_at_call 140;refine(Yp rr.1 rr.2 v0 hrr (HT.o.keep ((F0.o.trans (HB1.o.mono hzW)).trans (O0.o.mono (Qy hzW hz1))))).mono ?_;rintro e v1 ⟨rfl,f⟩;have yb0:=(f.cell (p:=⟨wA.heap.size,0,none⟩) (QH hy s0)).trans ya0;have yb1:=(f.cell (p:=⟨wA.heap.size,1,none⟩) (QH hy s0)).trans ya1;have yb2:=(f.cell (p:=⟨wA.heap.size,2,none⟩) (QH hy s0)).trans ya2;have yb3:=(f.cell (p:=⟨wA.heap.size,3,none⟩) (QH hy s0)).trans ya3;have O1:=Qc (O0.o.trans (f.mono s0));have a1:v1.heap[W0.heap.size]?=some (.cells cur 9 (0,0)):=(by rw[O1.o.block _ hgl];exact HCU.o);obtain⟨u0,z0⟩:=HZ.o v1 O1.o;have z0f:=Qg a1 k;clear f a1))
   all_goals
    have R2:Hid ((v1.setCell ⟨W0.heap.size,k,none⟩ (.string ((⟨(Lib.decDigits gg.1).toArray⟩:ByteArray)++⟨#[58]⟩++⟨(rgT rr.1).toArray⟩))).ownsRow W0.heap.size 9 1 (.slice (some ⟨W0.heap.size,0,none⟩) c.gs.length c.gs.length) c.gs.length (X0 (KQ c.gs c.rs (k+1)))∧Below W0.heap.size W0 (v1.setCell ⟨W0.heap.size,k,none⟩ (.string ((⟨(Lib.decDigits gg.1).toArray⟩:ByteArray)++⟨#[58]⟩++⟨(rgT rr.1).toArray⟩)))):=by
     have e1:((⟨(Lib.decDigits gg.1).toArray⟩:ByteArray)++⟨#[58]⟩++⟨(rgT rr.1).toArray⟩)=⟨(spL gg rr).toArray⟩:=by
      rw[show (⟨#[58]⟩:ByteArray)=⟨[58].toArray⟩ from rfl,ZF,ZF];simp[spL,spT]
     rw[e1];refine⟨?_,Qp (HB1.o.trans (O1.o.mono hz1)) _ _ _ (Qi _)⟩;rw[←HST.o,←Nr];exact ZA (Qd R1.o (Qh O1.o) trivial) k _
    clear ya0 ya1 ya2 ya3 yb0 yb1 yb2 yb3 k0 k1 k2 k3 z0 z0f O0 O1;go_wp2_with fail;go_roundw
    case rel=>exact⟨k+1,by omega,by go_num,R2⟩
    case measure=>simp[intOf];omega
  ·have hke:k=c.gs.length:=by omega
   have HJ:Hid (Lib.join (KQ c.gs c.rs k) [44]=srT (Zn c).src):=by show _=_;rw[hke];exact Qd2 HL.o
   have O1:Hid (wA.ownsRow W0.heap.size 9 1 (.slice (some ⟨W0.heap.size,0,none⟩) c.gs.length c.gs.length) (KQ c.gs c.rs k).length (X0 (KQ c.gs c.rs k))):=by
    show World.ownsRow _ _ _ _ _ _ _;rw[Uu HL.o hk];exact H1.o.1
   have hrl:(KQ c.gs c.rs k).length≤100000:=by rw[Uu HL.o hk];exact hn
   have hsl:(srT (Zn c).src).length≤1100000:=by
    have h1:=QdV (Zn c).src (fun p hp=>by
     have:=List.of_mem_zip hp;obtain⟨x,hx,e1⟩:=Qv.1 this.1;obtain⟨y,hy,e2⟩:=Qv.1 this.2;exact⟨by rw[←e1];exact HG.o x hx,by rw[←e2];exact HR.o y hy⟩)
    have h2:(Zn c).src.length≤c.gs.length:=by
     show ((c.gs.map (·.1)).zip (c.rs.map (·.1))).length≤_;simp;omega
    omega
   have hl1:=X3 ht;have hq0:¬9223372036854775807<(rgT c.to.1).length+1:=by omega
   have hq1:¬9223372036854775807<(rgT c.to.1).length+1+(srT (Zn c).src).length:=by omega
   have FA:=Qc (F0.o.trans (H1.o.2.mono hzW));have k0:wA.cell? ⟨w.heap.size,0,none⟩=some (.int .i64 c.to.1):=by
    rw[H1.o.2.cell (p:=⟨w.heap.size,0,none⟩) hgW];have:=Qb g0.out 0;simpa using this
   have k1:wA.cell? ⟨w.heap.size,1,none⟩=some (.int .i64 c.to.2):=by
    rw[H1.o.2.cell (p:=⟨w.heap.size,1,none⟩) hgW];have:=Qb g0.out 1;simpa using this
   have hy:w.heap.size<wA.heap.size:=QH hgW hzA;clear hke;go_wp2_with fail;refine(Yp c.to.1 c.to.2 wA ht (HT.o.keep FA.o)).mono ?_;rintro e v0 ⟨rfl,f⟩;have P0:=Qc f;clear f k0 k1;go_wp2_with fail;refine(Qe0 (KQ c.gs c.rs k) 44 W0.heap.size _ v0 (Qd O1.o (Qh P0.o) trivial) (by omega) (by rw[HJ.o];omega)).mono ?_;rintro e v1 ⟨rfl,f⟩;have P1:=Qc (P0.o.trans (f.mono P0.o.size));rw[HJ.o];clear f
   all_goals
    go_wp2_with fail;go_ret;refine⟨?_,FA.o.trans (P1.o.mono FA.o.size)⟩;rw[show chT (Zn c)=(rgT c.to.1++[64])++srT (Zn c).src from by unfold chT;simp[Zn],←ZF,←ZF];rfl
def Gn(l:List Q0):List (List UInt8):=l.map fun c=>chT (Zn c)
theorem Qdu{l:List Q0}{k:Nat}(hk:k<l.length):Gn (l.take (k+1))=Gn (l.take k)++[chT (Zn l[k])]:=by
 rw[Gn,Zb hk,List.map_append];rfl
theorem N1:∀(chs:List ACh)(sts:List ASt)(e:List UInt8),Lib.join (chs.map chT++(sts.map stT++[e])) [59]=KK chs++(XZ sts++e)
 | [],sts,e=>Va sts e
 | c::chs,sts,e=>by
  have ih:=N1 chs sts e;rw[JO,List.append_assoc,List.cons_append,←ih,List.map_cons,List.cons_append];obtain⟨x,r,hx⟩:∃x r,chs.map chT++(sts.map stT++[e])=x::r:=by
   cases chs with
   | cons d chs=>exact⟨_,_,rfl⟩
   | nil=>
    cases sts with
    | cons t sts=>exact⟨_,_,rfl⟩
    | nil=>exact⟨_,_,rfl⟩
  rw[hx,Lib.join_cons,Lib.join_cons];simp[Lib.joinTail]
structure ChW(c:Q0):Prop where
 gs:∀p∈c.gs,p.1<10000
 rs:∀p∈c.rs,p.1<10000
 to:c.to.1<10000
 len:c.gs.length≤1000
theorem Qif(b:Qm)(at_:Nat)(qc:Option Addr)(cc:Nat)(ps:Option Addr)(cs base:Nat)(w:World)(hC:ZU w base b.chs (.slice qc b.chs.length cc))(hW:∀c∈b.chs,ChW c)(hcl:b.chs.length≤200000)(hbl:(bcT (Xf b)).length≤10000000)(hS:w.ownsRow base 150 1 (.slice ps b.sts.length cs) b.sts.length (b.sts.map QS))(hk:∀t∈b.sts,OkS (QK t))(he:OkE (ZT b.e))(hl:b.sts.length≤200000)(ht:Tab w):
  Calls prog 46 #[.agg #[.int .i64 at_,.slice qc b.chs.length cc,.slice ps b.sts.length cs,Zc b.e]] w fun r w'=>r=.returned (.string ⟨(bcT (Xf b)).toArray⟩)∧Below w.heap.size w w':=by
 obtain⟨TE,xe,fe,hev,hem,het,hec⟩:=QiL b.e he;rw[hev];have HES:=Qc (And.intro hem (And.intro het hec));have HS:=Qc hS;have HK:=Qc hk;have HT:=Qc ht;have hen:=QjW he;have HJ:Hid (Lib.join (Gn b.chs++(Ri b.sts++[enT (ZT b.e)])) [59]=bcT (Xf b)):=by
  show _=_;have e:Ri b.sts=(b.sts.map QK).map stT:=by rw[Ri,List.map_map];rfl
  have e2:Gn b.chs=(b.chs.map Zn).map chT:=by rw[Gn,List.map_map];rfl
  rw[e,e2,N1];rfl
 have HC:=Qc hC;have HWC:=Qc hW;clear hev hem het hec hS hk ht he hC hW;go_enter func46,ntmps46;go_wp2_with fail;have F1:=Qc ((Below.refl w.heap.size w).alloc (Qi _) (.cells #[.int .i64 at_,.slice qc b.chs.length cc,.slice ps b.sts.length cs,.iface TE xe] 104));have g1:=Qc (heap_alloc_last w (.cells #[.int .i64 at_,.slice qc b.chs.length cc,.slice ps b.sts.length cs,.iface TE xe] 104))
 go_loopw [3,11] (fun v ii wr=>∃(t:Nat)(L:List (List UInt8)),t≤b.chs.length∧ii=.int .i64 t∧L.length=t∧Hid (L=Gn (b.chs.take t))∧wr.ownsRow w.heap.size 9 1 v L.length (X0 L)∧Hid (Below w.heap.size w wr∧wr.heap[w.heap.size]?=some (.cells #[.int .i64 at_,.slice qc b.chs.length cc,.slice ps b.sts.length cs,.iface TE xe] 104 (0,0)))) (fun _ ii _=>b.chs.length-(intOf ii).toNat)
 case atStart=>exact⟨0,[],by omega,rfl,rfl,rfl,Q3 _ _ _ _,F1.o,g1.out⟩
 case round=>
  clear F1 g1;obtain⟨t,L0,ht0,rfl,hL0k,HL0,OV0,H1⟩:=hrel;rename World=>wA;obtain⟨pW,cW,rfl⟩:=Qa OV0;have HOV0:=Qc OV0;have HLK0:=Qc hL0k;have hL01:L0.length≤200000:=by omega
  have hzA:=H1.o.1.size;have hgA:=lt_of_block H1.o.2;clear OV0 hL0k;by_cases htl:t<b.chs.length
  ·obtain⟨gc,pu,cu,rfl,_,hgc,hgr,OU,c0,c1,c2⟩:=HC.o.at htl;replace c0:=(H1.o.1.cell (p:=⟨gc,t*3,none⟩) hgc).trans c0;replace c1:=(H1.o.1.cell (p:=⟨gc,t*3+1,none⟩) hgc).trans c1;replace c2:=(H1.o.1.cell (p:=⟨gc,t*3+2,none⟩) hgc).trans c2;have hw:=HWC.o _ (Qx htl);have HNX:=Qc (Qdu htl);have F3:=(Below.refl wA.heap.size wA).alloc (Qi _) (.cells #[.int .i64 b.chs[t].to.1,.int .i64 b.chs[t].to.2,.slice pu b.chs[t].gs.length cu] 140);have FF:=Qc (H1.o.1.trans (F3.mono hzA));have HCALL:=Qc (QfO b.chs[t] base pu cu (wA.alloc (.cells #[.int .i64 b.chs[t].to.1,.int .i64 b.chs[t].to.2,.slice pu b.chs[t].gs.length cu] 140)) (Qd OU (Qh FF.o) trivial) hgr hw.gs hw.rs hw.to (Qy hw.len (by omega)) (HT.o.keep FF.o));have H3:Hid ((wA.alloc (.cells #[.int .i64 b.chs[t].to.1,.int .i64 b.chs[t].to.2,.slice pu b.chs[t].gs.length cu] 140)).ownsRow w.heap.size 9 1 (.slice pW L0.length cW) L0.length (X0 L0)∧(wA.alloc (.cells #[.int .i64 b.chs[t].to.1,.int .i64 b.chs[t].to.2,.slice pu b.chs[t].gs.length cu] 140)).heap[w.heap.size]?=some (.cells #[.int .i64 at_,.slice (some ⟨gc,0,none⟩) b.chs.length cc,.slice ps b.sts.length cs,.iface TE xe] 104 (0,0))):=⟨HOV0.o.alloc _,by rw[F3.block _ hgA];exact H1.o.2⟩;clear OU hgr F3 H1 HOV0 hw;go_wp2_with fail;refine HCALL.o.mono ?_;rintro r w1 ⟨rfl,f1⟩;clear c0 c1 c2 HCALL;have H4:Hid (w1.ownsRow w.heap.size 9 1 (.slice pW L0.length cW) L0.length (X0 L0)∧Below w.heap.size w w1∧w1.heap[w.heap.size]?=some (.cells #[.int .i64 at_,.slice (some ⟨gc,0,none⟩) b.chs.length cc,.slice ps b.sts.length cs,.iface TE xe] 104 (0,0))):=⟨Qd H3.o.1 (Qh f1) trivial,FF.o.trans (f1.mono FF.o.size),by rw[f1.block _ (lt_of_block H3.o.2)];exact H3.o.2⟩;have hz1:w.heap.size≤w1.heap.size:=H4.o.2.1.size;clear f1 H3 FF;go_wp2_with (at_builtin;refine QA ?_);refine Qc ?_;have gB:=heap_alloc_last w1 (.cells #[.string ⟨(chT (Zn b.chs[t])).toArray⟩] 9);have OB:=H4.o.1.alloc (.cells #[.string ⟨(chT (Zn b.chs[t])).toArray⟩] 9);refine GY underlying98 N5 rfl (by decide) (by decide) rfl _ _ rfl rfl OB gB rfl rfl (List.all_eq_true.1 rfl) (by omega) (by simp;omega) ?_;intro v6 w6 oS gS nS;obtain⟨v6p,v6c,rfl⟩:=Qa oS;have C6:=XF gS;have R6:Hid (w6.ownsRow w.heap.size 9 1 (.slice v6p (L0.length+1) v6c) (L0++[chT (Zn b.chs[t])]).length (X0 (L0++[chT (Zn b.chs[t])]))∧Below w.heap.size w w6∧w6.heap[w.heap.size]?=some (.cells #[.int .i64 at_,.slice (some ⟨gc,0,none⟩) b.chs.length cc,.slice ps b.sts.length cs,.iface TE xe] 104 (0,0))):=by
    refine⟨by rw[Um,Qw];exact oS,?_,?_⟩
    ·exact H4.o.2.1.trans (C6.toBelow hz1 (fun j hj=>(H4.o.1.lt j hj.symm).1))
    ·rw[C6.block _ (lt_of_block H4.o.2.2) (fun e2=>QG H4.o.1 H4.o.2.2 (by decide) e2.symm)];exact H4.o.2.2
   clear oS gS nS gB OB C6 H4;go_wp2_with fail;go_roundw
   case rel=>exact⟨t+1,L0++[chT (Zn b.chs[t])],by omega,by go_num,by rw[Qw,List.length_singleton,HLK0.o],by show _=_;rw[HNX.o,HL0.o],R6.o.1,R6.o.2⟩
   case measure=>simp[intOf];omega
  have HLC:Hid (L0=Gn b.chs):=by show _=_;rw[HL0.o,Zg (by omega)]
  have k2:=Qb H1.o.2 2;simp at k2;go_wp2_with fail;clear k2
  go_loopw [3,24] (fun v i wr=>∃(k:Nat)(L:List (List UInt8)),k≤b.sts.length∧i=.int .i64 k∧L.length=b.chs.length+k∧Hid (L=Gn b.chs++Ri (b.sts.take k))∧wr.ownsRow w.heap.size 9 1 v L.length (X0 L)∧Hid (Below w.heap.size w wr∧wr.heap[w.heap.size]?=some (.cells #[.int .i64 at_,.slice qc b.chs.length cc,.slice ps b.sts.length cs,.iface TE xe] 104 (0,0)))) (fun _ i _=>b.sts.length-(intOf i).toNat)
  case atStart=>exact⟨0,L0,by omega,rfl,by rw[HLK0.o];omega,by show _=_;rw[HLC.o];simp[Ri],HOV0.o,H1⟩
  case round=>
   clear H1 HOV0 hL01 hzA hgA;obtain⟨k,L,hk,rfl,hLk,HL,OV,H2⟩:=hrel;rename World=>wB;obtain⟨pV,cV,rfl⟩:=Qa OV;have HOV:=Qc OV;have HLK:=Qc hLk;have hL1:L.length≤400000:=by omega
   have hzB:=H2.o.1.size;have hgB:=lt_of_block H2.o.2;clear OV hLk;by_cases hlt:k<b.sts.length
   ·have OS:=Qd HS.o (Qh H2.o.1) trivial;obtain⟨gs,rfl,_,_⟩:=Qk OS (by omega);obtain⟨T,x,fr,hsv,hrm,hrt,hrc⟩:=QiY b.sts[k] (HK.o _ (Qx hlt));have cS:=Qf OS (j:=k) (u:=.iface T x) (by rw[←hsv];simp[hlt]);have HR:=Qc (And.intro hrm (And.intro hrt hrc));clear hsv hrm hrt hrc OS;go_wp2_with fail;rw[HR.o.1,Result.andThen_ok];simp only[HR.o.2.1];unfold Oper.upon;refine(HR.o.2.2 _ (HT.o.keep H2.o.1)).mono ?_;rintro r w1 ⟨rfl,f1⟩;have H3:Hid (w1.ownsRow w.heap.size 9 1 (.slice pV L.length cV) L.length (X0 L)∧Below w.heap.size w w1∧w1.heap[w.heap.size]?=some (.cells #[.int .i64 at_,.slice qc b.chs.length cc,.slice (some ⟨gs,0,none⟩) b.sts.length cs,.iface TE xe] 104 (0,0))):=⟨Qd HOV.o (Qh f1) trivial,H2.o.1.trans (f1.mono hzB),by rw[f1.block _ hgB];exact H2.o.2⟩;have hz1:w.heap.size≤w1.heap.size:=Qy hzB f1.size;have HNX:=Qc (QcL hlt);clear f1 HR H2 HOV cS;go_wp2_with (at_builtin;refine QA ?_);refine Qc ?_;have gB:=heap_alloc_last w1 (.cells #[.string ⟨(stT (QK b.sts[k])).toArray⟩] 9);have OB:=H3.o.1.alloc (.cells #[.string ⟨(stT (QK b.sts[k])).toArray⟩] 9);refine GY underlying98 N5 rfl (by decide) (by decide) rfl _ _ rfl rfl OB gB rfl rfl (List.all_eq_true.1 rfl) (by omega) (by simp;omega) ?_;intro v6 w6 oS gS nS;obtain⟨v6p,v6c,rfl⟩:=Qa oS;have C6:=XF gS;have R6:Hid (w6.ownsRow w.heap.size 9 1 (.slice v6p (L.length+1) v6c) (L++[stT (QK b.sts[k])]).length (X0 (L++[stT (QK b.sts[k])]))∧Below w.heap.size w w6∧w6.heap[w.heap.size]?=some (.cells #[.int .i64 at_,.slice qc b.chs.length cc,.slice (some ⟨gs,0,none⟩) b.sts.length cs,.iface TE xe] 104 (0,0))):=by
     refine⟨by rw[Um,Qw];exact oS,?_,?_⟩
     ·exact H3.o.2.1.trans (C6.toBelow hz1 (fun j hj=>(H3.o.1.lt j hj.symm).1))
     ·rw[C6.block _ (lt_of_block H3.o.2.2) (fun e2=>QG H3.o.1 H3.o.2.2 (by decide) e2.symm)];exact H3.o.2.2
    clear oS gS nS gB OB C6 H3;go_wp2_with fail;go_roundw
    case rel=>exact⟨k+1,L++[stT (QK b.sts[k])],by omega,by go_num,by rw[Qw,List.length_singleton,HLK.o];omega,by show _=_;rw[HNX.o,HL.o,List.append_assoc],R6.o.1,R6.o.2⟩
    case measure=>simp[intOf];omega
   ·have HLE:Hid (L=Gn b.chs++Ri b.sts):=by show _=_;rw[HL.o,Zg (by omega)]
    have k3:=Qb H2.o.2 3;simp at k3;clear HL HLK;go_wp2_with fail;rw[HES.o.1,Result.andThen_ok];simp only[HES.o.2.1];unfold Oper.upon;refine(HES.o.2.2 _ (HT.o.keep H2.o.1)).mono ?_;rintro r w1 ⟨rfl,f1⟩;have H3:Hid (w1.ownsRow w.heap.size 9 1 (.slice pV L.length cV) L.length (X0 L)∧Below w.heap.size w w1):=⟨Qd HOV.o (Qh f1) trivial,H2.o.1.trans (f1.mono hzB)⟩;have hz1:w.heap.size≤w1.heap.size:=Qy hzB f1.size;clear f1 HES H2 HOV k3;go_wp2_with (at_builtin;refine QA ?_);refine Qc ?_;have gB:=heap_alloc_last w1 (.cells #[.string ⟨(enT (ZT b.e)).toArray⟩] 9);have OB:=H3.o.1.alloc (.cells #[.string ⟨(enT (ZT b.e)).toArray⟩] 9);refine GY underlying98 N5 rfl (by decide) (by decide) rfl _ _ rfl rfl OB gB rfl rfl (List.all_eq_true.1 rfl) (by omega) (by simp;omega) ?_;intro v6 w6 oS gS nS;obtain⟨v6p,v6c,rfl⟩:=Qa oS;have C6:=XF gS;have R6:Hid (w6.ownsRow w.heap.size 9 1 (.slice v6p (L.length+1) v6c) (L++[enT (ZT b.e)]).length (X0 (L++[enT (ZT b.e)]))∧Below w.heap.size w w6):=by
     refine⟨by rw[Um,Qw];exact oS,?_⟩;exact H3.o.2.trans (C6.toBelow hz1 (fun j hj=>(H3.o.1.lt j hj.symm).1))
    have HJ2:Hid (Lib.join (L++[enT (ZT b.e)]) [59]=bcT (Xf b)):=by show _=_;rw[HLE.o,List.append_assoc];exact HJ.o
    clear oS gS nS gB OB C6 H3;go_wp2_with fail;refine(Qe0 (L++[enT (ZT b.e)]) 59 w.heap.size _ w6 R6.o.1 (by rw[Qw,List.length_singleton];omega) (by rw[HJ2.o];omega)).mono ?_;rintro r w7 ⟨rfl,f7⟩;have F7:=R6.o.2.trans (f7.mono R6.o.2.size);clear f7 R6;go_wp2_with fail;go_ret;exact⟨by rw[←HJ2.o];rfl,F7⟩
def bcL(b:Qm):List UInt8:=bcT (Xf b)
def YV(bs:List Qm)(k:Nat):List (List UInt8):=(bs.take k).map bcL++List.replicate (bs.length-k) []
theorem Ut{bs:List Qm}{k:Nat}(hk:k≤bs.length):(YV bs k).length=bs.length:=by
 simp[YV];omega
theorem QdZ{bs:List Qm}{k:Nat}(hk:k<bs.length):(YV bs k).set k (bcL bs[k])=YV bs (k+1):=by
 unfold YV;have hl:((bs.take k).map bcL).length=k:=by simp;omega
 rw[List.set_append_right (h:=by omega),hl,Nat.sub_self];rw[show bs.length-k=(bs.length-(k+1))+1 from by omega,List.replicate_succ,List.set_cons_zero,Zb hk,List.map_append,List.append_assoc];rfl
theorem Qd0(bs:List Qm):YV bs bs.length=(absP bs).map bcT:=by
 unfold YV absP;rw[Zg (Qi _),Nat.sub_self,List.replicate_zero,List.append_nil,List.map_map];rfl
theorem QbZ:∀(bs:List ABk),Lib.join (bs.map bcT) [124]=pcT bs
 | []=>rfl
 | [b]=>by rw[List.map_cons,List.map_nil,Lib.join_one,Ki]
 | b::c::bs=>by
  have ih:=QbZ (c::bs);rw[X7,←ih,List.map_cons,Lib.join_cons,List.map_cons,Lib.join_cons];simp[Lib.joinTail]
theorem Qk2(bs:List Qm)(base:Nat)(v:Value)(w:World)(h:PBs w base bs v)(hn:bs.length≤1000)(hc:∀b∈bs,∀c∈b.chs,ChW c)(hcl:∀b∈bs,b.chs.length≤200000)(hbl:∀b∈bs,(bcT (Xf b)).length≤10000000)(hk:∀b∈bs,∀t∈b.sts,OkS (QK t))(he:∀b∈bs,OkE (ZT b.e))(hs:∀b∈bs,b.sts.length≤200000)(hl:(pcT (absP bs)).length≤200000)(ht:Tab w):
  Calls prog 21 #[v] w fun e w'=>e=.returned (.string ⟨(pcT (absP bs)).toArray⟩)∧Below w.heap.size w w':=by
 obtain⟨pv,cv,rfl⟩:=h.slice;obtain⟨I9,Hi9,Hz9,Hs9,Hb9⟩:=info_parts N5;have HB:=Qc h;have HC:=Qc hc;have HCL:=Qc hcl;have HBL:=Qc hbl;have HK:=Qc hk;have HE:=Qc he;have HSS:=Qc hs;have HT:=Qc ht;clear h hc hk he hs ht hcl hbl;go_enter func21,ntmps21;go_wp2_with (at_make;refine QA ?_);refine Qc ?_;refine wpList_make_full _ rfl _ _ 98 rfl w.heap.size 9 I9 (.string ⟨#[]⟩) 1 underlying98 Hi9 Hz9 Hs9 .i64 .i64 _ _ bs.length rfl rfl rfl rfl (by rw[Hb9];omega) (by unfold maxLen;omega) (by simp) ?_;intro w1 o1 g1;rw[NT]at o1;have S1:Hid (w1.ownsRow w.heap.size 9 1 (.slice (some ⟨w.heap.size,0,none⟩) bs.length bs.length) bs.length (X0 (YV bs 0))∧Below w.heap.size w w1):=⟨by rw[show YV bs 0=List.replicate bs.length [] from by simp[YV]];exact o1,Below.grown (Below.refl _ _) g1 (Nat.le_refl _) (fun k hk=>by cases hk)⟩;clear o1 g1 Hi9 Hz9 Hs9 Hb9;go_wp2_with fail
 go_loopw [11] (fun i wr=>∃k:Nat,k≤bs.length∧i=.int .i64 k∧Hid (wr.ownsRow w.heap.size 9 1 (.slice (some ⟨w.heap.size,0,none⟩) bs.length bs.length) bs.length (X0 (YV bs k))∧Below w.heap.size w wr)) (fun i _=>bs.length-(intOf i).toNat)
 case atStart=>exact⟨0,by omega,rfl,S1⟩
 case round=>
  clear S1;obtain⟨k,hk,rfl,H1⟩:=hrel;rename World=>wA;have hzA:=H1.o.2.size;by_cases hlt:k<bs.length
  ·obtain⟨g,qc,cc,ps,cs1,rfl,_,hg,_,OC,OS,d0,d1,d2,d3⟩:=HB.o.at hlt;have HOC:=Qc OC;replace d0:=(H1.o.2.cell (p:=⟨g,k*4,none⟩) hg).trans d0;replace d1:=(H1.o.2.cell (p:=⟨g,k*4+1,none⟩) hg).trans d1;replace d2:=(H1.o.2.cell (p:=⟨g,k*4+2,none⟩) hg).trans d2;replace d3:=(H1.o.2.cell (p:=⟨g,k*4+3,none⟩) hg).trans d3;obtain⟨TE,xe,eV⟩:∃TE xe,Zc bs[k].e=.iface TE xe:=by
    obtain⟨T,x,_,h,_⟩:=QiL bs[k].e (HE.o _ (Qx hlt));exact⟨T,x,h⟩
   have HOS:=Qc OS;have HEV:=Qc eV;have F1:=Qc ((Below.refl wA.heap.size wA).alloc (Qi _) (.cells #[.int .i64 bs[k].at_,.slice qc bs[k].chs.length cc,.slice ps bs[k].sts.length cs1,.iface TE xe] 104));have HCALL:Hid (Calls prog 46 #[.agg #[.int .i64 bs[k].at_,.slice qc bs[k].chs.length cc,.slice ps bs[k].sts.length cs1,.iface TE xe]] (wA.alloc (.cells #[.int .i64 bs[k].at_,.slice qc bs[k].chs.length cc,.slice ps bs[k].sts.length cs1,.iface TE xe] 104)) fun r w'=>r=.returned (.string ⟨(bcL bs[k]).toArray⟩)∧Below (wA.alloc (.cells #[.int .i64 bs[k].at_,.slice qc bs[k].chs.length cc,.slice ps bs[k].sts.length cs1,.iface TE xe] 104)).heap.size (wA.alloc (.cells #[.int .i64 bs[k].at_,.slice qc bs[k].chs.length cc,.slice ps bs[k].sts.length cs1,.iface TE xe] 104)) w'):=by
    have FF:=H1.o.2.trans (F1.o.mono hzA);have:=Qif bs[k] bs[k].at_ qc cc ps cs1 base (wA.alloc (.cells #[.int .i64 bs[k].at_,.slice qc bs[k].chs.length cc,.slice ps bs[k].sts.length cs1,.iface TE xe] 104)) (HOC.o.keeps (Qh FF) trivial trivial) (HC.o _ (Qx hlt)) (HCL.o _ (Qx hlt)) (HBL.o _ (Qx hlt)) (Qd HOS.o (Qh FF) trivial) (HK.o _ (Qx hlt)) (HE.o _ (Qx hlt)) (HSS.o _ (Qx hlt)) (HT.o.keep FF);rw[HEV.o]at this;exact this
   rw[eV]at d3;clear OC OS eV;go_wp2_with fail;refine HCALL.o.mono ?_;rintro r w2 ⟨rfl,f2⟩;have F2:=Qc (F1.o.trans (f2.mono F1.o.size));have O2:=Qd H1.o.1 (Qh F2.o) trivial;have hg2:w.heap.size<w2.heap.size:=by
    obtain⟨cur,hcur⟩:=Rk O2;exact lt_of_block hcur
   have z0:∃u,w2.cell? ⟨w.heap.size,k,none⟩=some u:=by
    refine⟨_,Qf O2 (Re (j:=k) (by rw[Ut (by omega)];exact hlt))⟩
   obtain⟨u0,z0⟩:=z0;have z0f:=Xz O2 k;have R:Hid ((w2.setCell ⟨w.heap.size,k,none⟩ (.string ⟨(bcL bs[k]).toArray⟩)).ownsRow w.heap.size 9 1 (.slice (some ⟨w.heap.size,0,none⟩) bs.length bs.length) bs.length (X0 (YV bs (k+1)))∧Below w.heap.size w (w2.setCell ⟨w.heap.size,k,none⟩ (.string ⟨(bcL bs[k]).toArray⟩))):=by
    refine⟨?_,Qp (H1.o.2.trans (F2.o.mono hzA)) _ _ _ (Qi _)⟩;rw[←QdZ hlt,←Nr];exact ZA O2 k _
   clear O2 f2 HCALL F1 F2 d0 d1 d2 d3;go_wp2_with fail;go_roundw
   case rel=>exact⟨k+1,by omega,by go_num,R⟩
   case measure=>simp[intOf];omega
  ·have hke:k=bs.length:=by omega
   have HJ:Hid (Lib.join (YV bs k) [124]=pcT (absP bs)):=by show _=_;rw[hke,Qd0,QbZ]
   have O1:Hid (wA.ownsRow w.heap.size 9 1 (.slice (some ⟨w.heap.size,0,none⟩) bs.length bs.length) (YV bs k).length (X0 (YV bs k))):=by
    show World.ownsRow _ _ _ _ _ _ _;rw[Ut hk];exact H1.o.1
   clear hke;go_wp2_with fail;refine(Qe0 (YV bs k) 124 w.heap.size _ wA O1.o (by rw[Ut hk];omega) (by rw[HJ.o];omega)).mono ?_;rintro r w7 ⟨rfl,f7⟩;have F7:=H1.o.2.trans (f7.mono hzA);clear f7;go_wp2_with fail;go_ret;exact⟨by rw[←HJ.o];rfl,F7⟩
end Go.Proofs.YtgfhfkgdmidhpaaGreatDoor
namespace Go.Proofs.YtgfhfkgdmidhpaaGreatDoor
open Go.RowKit Go.Maps
open Go.Proofs.Tryz
set_option maxRecDepth 100000
set_option maxHeartbeats 8000000
theorem Qjp{s:ByteArray}(h:(rdF s).e=0):∀b∈absP (Qu s).bs,OkX b:=fun b hb=>by
 obtain⟨c,hc,rfl⟩:=Qv.1 hb;have r:=Ve h;have hf:=(WG h).1 c hc;have h12:=r.rd.le;refine⟨fun x hx=>?_,fun t ht=>?_,r.jp.e c hc⟩
 ·obtain⟨d,hd,rfl⟩:=Qv.1 hx;have f1:=hf.ch d hd;refine⟨f1.1,?_,fun p hp=>?_⟩
  ·have:=r.jp.ch c hc d hd;show 0<((d.gs.map (·.1)).zip (d.rs.map (·.1))).length;rw[List.length_zip,List.length_map,List.length_map,f1.2.1];omega
  ·obtain⟨q,hq,rfl⟩:=Gg.1 hp;have h1:=List.of_mem_zip hq;have h2:=Qba h c hc d hd _ h1.1;exact⟨by show q.1.1<10000;omega,f1.2.2.2 _ h1.2⟩
 ·obtain⟨x,hx,rfl⟩:=Qv.1 ht;exact(r.jp.st c hc x hx).1
theorem QiM:∀(l:List ABk),∀b∈l,(bcT b).length≤(pcT l).length
 | [],b,h=>absurd h (by simp)
 | [a],b,h=>by
  rw[QF.1 h,Ki];exact Qi _
 | a::c::l,b,h=>by
  rw[X7,Qw,QO];rcases List.mem_cons.1 h with rfl|h
  ·omega
  ·have:=QiM (c::l) b h;omega
theorem Gu{ah:List Nat}:∀{l:List Q0}{gv:List Nat},(∀c∈l,Zw c.gs=ah)→(l.map (·.to.1)).Nodup→(∀c∈l,c.to.1∉gv)→Jp ah gv l=none
 | [],_,_,_,_=>rfl
 | c::l,gv,h1,h2,h3=>by
  rw[List.map_cons,List.nodup_cons]at h2;have hc:Kr ah gv c=true:=by
   unfold Kr;rw[h1 c (List.mem_cons_self ..),decide_eq_true rfl,QD];have:=h3 c (List.mem_cons_self ..);simp[this]
  rw[Jp,if_pos hc];refine Gu (fun d hd=>h1 d (ZD _ hd)) h2.2 fun d hd hm=>?_;rcases QB.1 hm with hm|hm
  ·exact h3 d (ZD _ hd) hm
  ·exact h2.1 (Qv.2 ⟨d,hd,QF.1 hm⟩)
theorem QgV{T:ByteArray}{A:List ABk}(hp:POk A)(hs:Sgl A)(h12:A.length≤12)(hz:T.size≤40000)(hb:Q9 T=-1)(hA:absP (Qu T).bs=A):rdF T=⟨0,0⟩∧Qev (Qu T).bs=none:=by
 have hl:(Qu T).bs.length=A.length:=by rw[←hA];simp[absP]
 have hbk:∀i,bkA A i=Xf (bkF (Qu T).bs i):=fun i=>by rw[←hA,QX]
 have hgo:∀b∈(Qu T).bs,∀p∈goalsF b.e,p.1<(Qu T).bs.length:=fun b hb p hp2=>by
  obtain⟨i,hi,rfl⟩:=List.mem_iff_getElem.1 hb;rw[hl];refine hp.goal i p.1 ?_;rw[suA,hbk,Zj hi];show p.1∈gsA (ZT _);rw[Qb8];exact Qv.2 ⟨p,hp2,rfl⟩
 have hrs:∀b∈(Qu T).bs,∀c∈b.chs,c.rs.length=c.gs.length:=fun b hb c hc=>((Vj T b hb).ch c hc).2.1;have hah:∀i (hi:i<(Qu T).bs.length),∀c∈(Qu T).bs[i].chs,Zw c.gs=aheF (Qu T).bs i:=fun i hi c hc=>by
  have:=hp.src (b:=i) (c:=Zn c) (by rw[hbk,Zj hi];exact Qv.2 ⟨c,hc,rfl⟩);rw[Qaw (hrs _ (Qx hi) c hc)]at this;rw[this,Yc,hA]
 have hcg:∀b∈(Qu T).bs,∀c∈b.chs,∀p∈c.gs,p.1<(Qu T).bs.length:=fun b hb c hc p hp2=>by
  obtain⟨i,hi,rfl⟩:=List.mem_iff_getElem.1 hb;have h1:p.1∈Zw c.gs:=Qv.2 ⟨p,hp2,rfl⟩;rw[hah i hi c hc]at h1;unfold aheF Xc at h1;exact List.mem_range.1 (List.mem_filter.1 h1).1
 have hlost:Xb (Qu T).bs=-1:=by
  unfold Xb;have:((Qu T).bs.flatMap Ks).find? (XC (Qu T).bs.length)=none:=by
   rw[List.find?_eq_none];intro g hg;obtain⟨b,hb,hg⟩:=List.mem_flatMap.1 hg;unfold Ks chG at hg;unfold XC;rcases QB.1 hg with hg|hg
   ·obtain⟨c,hc,hg⟩:=List.mem_flatMap.1 hg;have:=hcg b hb c hc g hg;simp;omega
   ·have:=hgo b hb g hg;simp;omega
  rw[this];rfl
 have hunf:JR (Qu T).bs=-1:=Ul fun i hi=>by
  unfold Xy;rw[Zl hi];show Jp _ [] (Qu T).bs[i].chs=none;refine Gu (fun c hc=>hah i hi c hc) ?_ (fun _ _=>by simp);have:=hs.chs i;rw[hbk,Zj hi]at this;have this:(((Qu T).bs[i].chs.map Zn).map (·.to)).Nodup:=this;rw[List.map_map]at this;exact this
 refine⟨?_,?_⟩
 ·unfold rdF;rw[if_neg (by omega),hb,if_neg (by omega),dif_neg (by omega),hlost,if_neg (by omega),hunf,if_neg (by omega)]
 ·unfold Qev;have:((Qu T).bs.flatMap Yn).find? (fun r=>decide (4999<r.1))=none:=by
   rw[List.find?_eq_none];intro x hx;obtain⟨b,hb,hx⟩:=List.mem_flatMap.1 hx;obtain⟨i,hi,rfl⟩:=List.mem_iff_getElem.1 hb;have key:x.1<5000:=by
    unfold Yn JV at hx;rcases QB.1 hx with hx|hx
    ·rcases QB.1 hx with hx|hx
     ·obtain⟨c,hc,hx⟩:=List.mem_flatMap.1 hx;have hm:Zn c∈(bkA A i).chs:=by rw[hbk,Zj hi];exact Qv.2 ⟨c,hc,rfl⟩
      rcases List.mem_cons.1 hx with rfl|hx
      ·exact hp.old (r:=c.to.1) (b:=i) (s:=-1) (.inl ⟨rfl,Zn c,hm,rfl⟩)
      ·obtain⟨k,hk,rfl⟩:=List.mem_iff_getElem.1 hx;have hr:=hrs _ (Qx hi) c hc;have hz:(c.gs[k]'(by omega),c.rs[k])∈c.gs.zip c.rs:=by
        rw[List.mem_iff_getElem];exact⟨k,by rw[List.length_zip];omega,by rw[List.getElem_zip]⟩
       exact hp.oldR (r:=c.rs[k].1) (b:=(c.gs[k]'(by omega)).1) (k:=_) (.inr ⟨rfl,.inr ⟨i,Zn c,hm,Gg.2 ⟨_,hz,rfl⟩⟩⟩)
     ·obtain⟨t,ht,hx⟩:=List.mem_flatMap.1 hx;obtain⟨j,hj,rfl⟩:=List.mem_iff_getElem.1 ht;have hm:(bkA A i).sts[j]?=some (QK (Qu T).bs[i].sts[j]):=by
       rw[hbk,Zj hi];show ((Qu T).bs[i].sts.map QK)[j]?=_;simp[hj]
      unfold Y4 at hx;rcases QB.1 hx with hx|hx
      ·split at hx
       ·simp at hx
       ·rename_i h33;rw[QF]at hx;rw[hx];exact hp.old (b:=i) (s:=j) (.inr ⟨j,rfl,_,hm,by rw[K4,if_neg h33]⟩)
      ·rw[←Qg0]at hx;exact hp.oldR (b:=i) (k:=j) (.inl ⟨_,hm,by rw[VA];exact Qv.2 ⟨x,hx,rfl⟩⟩)
    ·unfold Nz at hx;split at hx
     ·rename_i h63;rw[QF]at hx;rw[hx];refine hp.oldR (b:=i) (k:=_) (.inr ⟨rfl,.inl ?_⟩);rw[hbk,Zj hi];show _∈rdE (ZT _);unfold rdE;rw[if_pos (show (ZT (Qu T).bs[i].e).op=63 from h63)];exact QF.2 rfl
     ·simp at hx
   simp;omega
  rw[this];rfl
def PE(cur:List Nat)(e:Z6):Prop:=∀y∈XA e,y.1∈cur
def PC(co:Nat→Bool)(W0 cur:List Nat)(c:Q0):Prop:=c.to.1∈W0→∀p∈c.gs.zip c.rs,co p.1.1=true→p.2.1∈cur
theorem PE.up{cur cur' e}(h:PE cur e)(hs:∀x∈cur,x∈cur'):PE cur' e:=fun y hy=>hs _ (h y hy)
theorem PC.up{co W0 cur cur' c}(h:PC co W0 cur c)(hs:∀x∈cur,x∈cur'):PC co W0 cur' c:=fun k p hp hc=>hs _ (h k p hp hc)
theorem PE.zero{cur:List Nat}{e:Z6}(h:e.op≠63):PE cur e:=fun y hy=>by unfold XA at hy;rw[if_neg h]at hy;simp at hy
structure RnI(W0 cur:List Nat):Prop where
 sub:∀x∈W0,x∈cur
 srt:cur.Pairwise (· < ·)
 low:∀x∈cur,x<10000
theorem RnI.refl{W0:List Nat}(h1:W0.Pairwise (· < ·))(h2:∀x∈W0,x<10000):RnI W0 W0:=⟨fun _ h=>h,h1,h2⟩
theorem RnI.put{W0 cur}(h:RnI W0 cur){x:Nat}(hx:x<10000):RnI W0 (ptF cur x):=
 ⟨fun y hy=>ZW.2 (.inl (h.sub y hy)),X6 _ _,fun y hy=>by rcases ZW.1 hy with h1|h1;exact h.low y h1;omega⟩
theorem RnI.len{W0 cur}(h:RnI W0 cur):cur.length≤10000:=Qaz (a:=0) h.srt fun x hx=>⟨Nat.zero_le _,h.low x hx⟩
theorem Vv:∀{n:Nat}{a b:List Nat},a.length=n→a.Pairwise (· < ·)→b.Pairwise (· < ·)→(∀x∈a,x∈b)→b.length≤a.length→∀x∈b,x∈a
 | n,a,b,hn,ha,hb,hs,hl,x,hx=>by
  apply Classical.byContradiction;intro hxa;obtain⟨k,k1,k2,k3⟩:=Qbx ha hxa;have h1:∀y∈k,y∈b:=fun y hy=>by
   rcases (k2 y).1 hy with h|h
   ·exact hs y h
   ·rw[h];exact hx
  have h2:∀{k b:List Nat},k.Pairwise (· < ·)→b.Pairwise (· < ·)→(∀y∈k,y∈b)→k.length≤b.length:=by
   intro k
   induction k with
   | nil=>intros;exact Nat.zero_le _
   | cons y k ih=>
    intro b hk hb hsub;have hy:=hsub y (List.mem_cons_self ..);obtain⟨s,t,rfl⟩:=List.append_of_mem hy;obtain⟨b1,b2,b3⟩:=List.pairwise_append.1 hb;obtain⟨b4,b5⟩:=List.pairwise_cons.1 b2;obtain⟨k4,k5⟩:=List.pairwise_cons.1 hk;have:=ih k5 b5 fun z hz=>by
     have hz1:=hsub z (ZD _ hz);have hz2:=k4 z hz;rcases QB.1 hz1 with h|h
     ·have:=b3 z h y (List.mem_cons_self ..);omega
     ·rcases List.mem_cons.1 h with h|h
      ·omega
      ·exact h
    rw[QO,Qw,QO];omega
  have:=h2 k1 hb h1;omega
end Go.Proofs.YtgfhfkgdmidhpaaGreatDoor
