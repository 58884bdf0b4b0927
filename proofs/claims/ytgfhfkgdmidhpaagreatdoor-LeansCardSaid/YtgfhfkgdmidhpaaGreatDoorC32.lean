import Derived.Test.YtgfhfkgdmidhpaaGreatDoorC31
import Derived.Test.YtgfhfkgdmidhpaaGreatDoorC29
namespace Go.Proofs.YtgfhfkgdmidhpaaGreatDoor
open Go.RowKit
set_option maxRecDepth 100000
set_option maxHeartbeats 8000000
def spL(g r:Nat×Nat):List UInt8:=spT (g.1,r.1)
def Kz(gs rs:List (Nat×Nat))(k:Nat):List (List UInt8):=(List.zipWith spL (gs.take k) (rs.take k))++List.replicate (gs.length-k) []
theorem Wz{gs rs:List (Nat×Nat)}(h:gs.length=rs.length){k:Nat}(hk:k≤gs.length):(Kz gs rs k).length=gs.length:=by
 simp[Kz];omega
theorem Qc3{gs rs:List (Nat×Nat)}(h:gs.length=rs.length){k:Nat}(hk:k<gs.length):(Kz gs rs k).set k (spL gs[k] (rs[k]'(by omega)))=Kz gs rs (k+1):=by
 unfold Kz;have hl:(List.zipWith spL (gs.take k) (rs.take k)).length=k:=by simp;omega
 rw[List.set_append_right (h:=by omega),hl,Nat.sub_self];rw[show gs.length-k=(gs.length-(k+1))+1 from by omega,List.replicate_succ,List.set_cons_zero,List.take_succ_eq_append_getElem hk,List.take_succ_eq_append_getElem (by omega),List.zipWith_append (by simp;omega),List.append_assoc];rfl
theorem Qa4:∀(ps:List (Nat×Nat)),Lib.join (ps.map spT) [44]=srT ps
 | []=>rfl
 | [p]=>by rw[List.map_cons,List.map_nil,Lib.join_one,JZ]
 | p::q::ps=>by
  have ih:=Qa4 (q::ps);rw[Xx,←ih,List.map_cons,Lib.join_cons,List.map_cons,Lib.join_cons];simp[Lib.joinTail]
theorem QcA:∀(gs rs:List (Nat×Nat)),List.zipWith spL gs rs=((gs.map (·.1)).zip (rs.map (·.1))).map spT
 | [],_=>by simp
 | _::_,[]=>by simp
 | g::gs,r::rs=>by
  rw[List.zipWith_cons_cons,QcA gs rs,List.map_cons,List.map_cons,List.zip_cons_cons,List.map_cons];rfl
theorem Qc4{gs rs:List (Nat×Nat)}(h:gs.length=rs.length):Lib.join (Kz gs rs gs.length) [44]=srT ((gs.map (·.1)).zip (rs.map (·.1))):=by
 unfold Kz;rw[List.take_of_length_le (Nat.le_refl _),List.take_of_length_le (by omega),Nat.sub_self,List.replicate_zero,List.append_nil,QcA,Qa4]
theorem QcU:∀(ps:List (Nat×Nat)),(∀p∈ps,OkP p)→(srT ps).length≤11*ps.length
 | [],_=>Nat.le_refl _
 | [p],h=>by
  have hp:=h p (List.mem_cons_self ..);have h1:=Xr hp.1;have h2:=XQ hp.2;rw[JZ];unfold spT;rw[List.length_append,List.length_cons,List.length_singleton];omega
 | p::q::ps,h=>by
  have hp:=h p (List.mem_cons_self ..);have h1:=Xr hp.1;have h2:=XQ hp.2;have h3:=QcU (q::ps) (fun x hx=>h x (List.mem_cons_of_mem _ hx));have e:(spT p).length=(Lib.decDigits p.1).length+((rgT p.2).length+1):=by unfold spT;rw[List.length_append,List.length_cons]
  simp only[Xx,List.length_append,List.length_cons]at h3 ⊢;omega
theorem set1{x:World}{g k o b:Nat}{v:Value}(h:b≠g):(x.setCell ⟨g,k,none⟩ v).cell? ⟨b,o,none⟩=x.cell? ⟨b,o,none⟩:=by
 simp only[World.cell?,Qu h]
theorem Qey(c:QH)(base:Nat)(pu:Option Addr)(cu:Nat)(w:World)(hO:w.ownsRow base 147 4 (.slice pu c.gs.length cu) c.gs.length (QQ c.gs c.rs))(hl:c.gs.length=c.rs.length)(hg:∀p∈c.gs,p.1<10000)(hr:∀p∈c.rs,p.1<10000)(ht:c.to.1<10000)(hn:c.gs.length≤100000)(hb:Tab w):
  Calls Tryz.prog 83 #[.agg #[.int .i64 c.to.1,.int .i64 c.to.2,.slice pu c.gs.length cu]] w fun x w'=>x=.returned (.string ⟨(chT (QL c)).toArray⟩)∧Below w.heap.size w w':=by
 obtain⟨I9,Hi9,Hz9,Hs9,Hb9⟩:=info_parts Tryz.info9;have HO:=Qc hO;have HL:=Qc hl;have HG:=Qc hg;have HR:=Qc hr;have HT:=Qc hb;clear hO hl hg hr hb;go_enter Tryz.func83,Tryz.ntmps83;go_wp2_with (at_make;refine Qv ?_);refine Qc ?_;have g0:=Qc (heap_alloc_last w (.cells #[.int .i64 c.to.1,.int .i64 c.to.2,.slice pu c.gs.length cu] 140));have F0:=Qc ((Below.refl w.heap.size w).alloc (Nat.le_refl _) (.cells #[.int .i64 c.to.1,.int .i64 c.to.2,.slice pu c.gs.length cu] 140));generalize w.alloc (.cells #[.int .i64 c.to.1,.int .i64 c.to.2,.slice pu c.gs.length cu] 140)=W0 at *;refine wpList_make_full _ rfl _ _ 98 rfl W0.heap.size 9 I9 (.string ⟨#[]⟩) 1 Tryz.underlying98 Hi9 Hz9 Hs9 .i64 .i64 _ _ c.gs.length rfl rfl rfl rfl (by rw[Hb9];omega) (by unfold maxLen;omega) (by simp) ?_;intro w1 o1 g1;rw[R0]at o1;have f1:Below W0.heap.size W0 w1:=Below.grown (Below.refl _ _) g1 (Nat.le_refl _) (fun k hk=>by cases hk);have S1:Hid (w1.ownsRow W0.heap.size 9 1 (.slice (some ⟨W0.heap.size,0,none⟩) c.gs.length c.gs.length) c.gs.length (XN (Kz c.gs c.rs 0))∧Below W0.heap.size W0 w1):=⟨by rw[show Kz c.gs c.rs 0=List.replicate c.gs.length [] from by simp[Kz]];exact o1,f1⟩;clear o1 g1 f1 Hi9 Hz9 Hs9 Hb9;have hzW:=F0.o.size;have hgW:=lt_of_block g0.out;have y2:w1.cell? ⟨w.heap.size,2,none⟩=some (.slice pu c.gs.length cu):=by
  rw[S1.o.2.cell (p:=⟨w.heap.size,2,none⟩) hgW];have:=Qa g0.out 2;simpa using this
 go_wp2_with fail;clear y2
 go_loopw [13] (fun ii wr=>∃k:Nat,k≤c.gs.length∧ii=.int .i64 k∧Hid (wr.ownsRow W0.heap.size 9 1 (.slice (some ⟨W0.heap.size,0,none⟩) c.gs.length c.gs.length) c.gs.length (XN (Kz c.gs c.rs k))∧Below W0.heap.size W0 wr)) (fun ii _=>c.gs.length-(intOf ii).toNat)
 case atStart=>exact⟨0,by omega,rfl,S1⟩
 case round=>
  clear S1;obtain⟨k,hk,rfl,H1⟩:=hrel;rename World=>wA;have hzA:=H1.o.2.size;by_cases hlt:k<c.gs.length
  ·have hkr:k<c.rs.length:=by have:=HL.o;omega
   have OU:=Qd HO.o (Qi (F0.o.trans (H1.o.2.mono hzW))) trivial;obtain⟨gu,rfl,_,_⟩:=Qh OU (by omega);have f0:=Qe OU (QF HL.o hlt).1;have f1:=Qe OU (QF HL.o hlt).2.1;have f2:=Qe OU (QF HL.o hlt).2.2.1;have f3:=Qe OU (QF HL.o hlt).2.2.2;have hgg:=HG.o _ (List.getElem_mem hlt);have hrr:=HR.o _ (List.getElem_mem hkr);have HST:Hid ((Kz c.gs c.rs k).set k (spL c.gs[k] c.rs[k])=Kz c.gs c.rs (k+1)):=Qc3 HL.o hlt;have HLEN:=Qc (Wz HL.o (Nat.le_of_lt hlt));generalize c.rs[k]=rr at *;generalize c.gs[k]=gg at *;have HB1:Hid (Below W0.heap.size W0 (wA.alloc (.cells #[.int .i64 gg.1,.int .i64 gg.2,.int .i64 rr.1,.int .i64 rr.2] 147))):=H1.o.2.alloc hzA _;have g2:=Qc (heap_alloc_last wA (.cells #[.int .i64 gg.1,.int .i64 gg.2,.int .i64 rr.1,.int .i64 rr.2] 147));have R1:=Qc (H1.o.1.alloc (.cells #[.int .i64 gg.1,.int .i64 gg.2,.int .i64 rr.1,.int .i64 rr.2] 147));clear OU;go_wp2_with fail;clear f0 f1 f2 f3;generalize wA.alloc (.cells #[.int .i64 gg.1,.int .i64 gg.2,.int .i64 rr.1,.int .i64 rr.2] 147)=W1 at *;have k0:=Qa g2.out 0;have k1:=Qa g2.out 1;have k2:=Qa g2.out 2;have k3:=Qa g2.out 3;simp at k0 k1 k2 k3;have hy:=lt_of_block g2.out;have hz1:=HB1.o.size;have hl1:=Xr hgg;have hl2:=XQ hrr;have hq0:¬9223372036854775807<(Lib.decDigits gg.1).length+1:=by omega
   have hq1:¬9223372036854775807<(Lib.decDigits gg.1).length+1+(rgT rr.1).length:=by omega
   obtain⟨cur,hcur⟩:=GA R1.o;have hgl:=lt_of_block hcur;have hne:wA.heap.size≠W0.heap.size:=fun e=>by
    have h1:=g2.out;rw[e,hcur]at h1;simp at h1
   have HCU:=Qc hcur;have HZ:Hid (∀v1,Below W1.heap.size W1 v1→∃u,v1.cell? ⟨W0.heap.size,k,none⟩=some u):=fun v1 F=>⟨_,Qe (Qd R1.o (Qi F) trivial) (Gh (j:=k) (by rw[HLEN.o];exact hlt))⟩;clear hcur
   go_region_held (fun w'=>w'.cell? ⟨wA.heap.size,0,none⟩=some (.int .i64 gg.1)∧w'.cell? ⟨wA.heap.size,1,none⟩=some (.int .i64 gg.2)∧w'.cell? ⟨wA.heap.size,2,none⟩=some (.int .i64 rr.1)∧w'.cell? ⟨wA.heap.size,3,none⟩=some (.int .i64 rr.2)) (first | simp[*] | exact⟨(set1 hne).trans (by assumption),(set1 hne).trans (by assumption),(set1 hne).trans (by assumption),(set1 hne).trans (by assumption)⟩)
    (first | (go_at_call 139;refine(GQ gg.1 gg.2 W1.drew hgg (HT.o.keep (VU (F0.o.trans (HB1.o.mono hzW))))).mono ?_;rintro e v0 ⟨rfl,f⟩;have f':=Ja f;have ya0:=(f'.cell (p:=⟨wA.heap.size,0,none⟩) hy).trans k0;have ya1:=(f'.cell (p:=⟨wA.heap.size,1,none⟩) hy).trans k1;have ya2:=(f'.cell (p:=⟨wA.heap.size,2,none⟩) hy).trans k2;have ya3:=(f'.cell (p:=⟨wA.heap.size,3,none⟩) hy).trans k3;have O0:=Qc f';have s0:=f'.size;clear f f') | (go_at_call 140;refine(K9 rr.1 rr.2 v0 hrr (HT.o.keep ((F0.o.trans (HB1.o.mono hzW)).trans (O0.o.mono (Nat.le_trans hzW hz1))))).mono ?_;rintro e v1 ⟨rfl,f⟩;have yb0:=(f.cell (p:=⟨wA.heap.size,0,none⟩) (Nat.lt_of_lt_of_le hy s0)).trans ya0;have yb1:=(f.cell (p:=⟨wA.heap.size,1,none⟩) (Nat.lt_of_lt_of_le hy s0)).trans ya1;have yb2:=(f.cell (p:=⟨wA.heap.size,2,none⟩) (Nat.lt_of_lt_of_le hy s0)).trans ya2;have yb3:=(f.cell (p:=⟨wA.heap.size,3,none⟩) (Nat.lt_of_lt_of_le hy s0)).trans ya3;have O1:=Qc (O0.o.trans (f.mono s0));have a1:v1.heap[W0.heap.size]?=some (.cells cur 9 (0,0)):=(by rw[O1.o.block _ hgl];exact HCU.o);obtain⟨u0,z0⟩:=HZ.o v1 O1.o;have z0f:=Qf a1 k;clear f a1))
   all_goals
    have R2:Hid ((v1.setCell ⟨W0.heap.size,k,none⟩ (.string ((⟨(Lib.decDigits gg.1).toArray⟩:ByteArray)++⟨#[58]⟩++⟨(rgT rr.1).toArray⟩))).ownsRow W0.heap.size 9 1 (.slice (some ⟨W0.heap.size,0,none⟩) c.gs.length c.gs.length) c.gs.length (XN (Kz c.gs c.rs (k+1)))∧Below W0.heap.size W0 (v1.setCell ⟨W0.heap.size,k,none⟩ (.string ((⟨(Lib.decDigits gg.1).toArray⟩:ByteArray)++⟨#[58]⟩++⟨(rgT rr.1).toArray⟩)))):=by
     have e1:((⟨(Lib.decDigits gg.1).toArray⟩:ByteArray)++⟨#[58]⟩++⟨(rgT rr.1).toArray⟩)=⟨(spL gg rr).toArray⟩:=by
      rw[show (⟨#[58]⟩:ByteArray)=⟨[58].toArray⟩ from rfl,Zl,Zl];simp[spL,spT]
     rw[e1];refine⟨?_,Qr (HB1.o.trans (O1.o.mono hz1)) _ _ _ (Nat.le_refl _)⟩;rw[←HST.o,←Rv];exact Zz (Qd R1.o (Qi O1.o) trivial) k _
    clear ya0 ya1 ya2 ya3 yb0 yb1 yb2 yb3 k0 k1 k2 k3 z0 z0f O0 O1;go_wp2_with fail;go_roundw
    case rel=>exact⟨k+1,by omega,by go_num,R2⟩
    case measure=>simp[intOf];omega
  ·have hke:k=c.gs.length:=by omega
   have HJ:Hid (Lib.join (Kz c.gs c.rs k) [44]=srT (QL c).src):=by show _=_;rw[hke];exact Qc4 HL.o
   have O1:Hid (wA.ownsRow W0.heap.size 9 1 (.slice (some ⟨W0.heap.size,0,none⟩) c.gs.length c.gs.length) (Kz c.gs c.rs k).length (XN (Kz c.gs c.rs k))):=by
    show World.ownsRow _ _ _ _ _ _ _;rw[Wz HL.o hk];exact H1.o.1
   have hrl:(Kz c.gs c.rs k).length≤100000:=by rw[Wz HL.o hk];exact hn
   have hsl:(srT (QL c).src).length≤1100000:=by
    have h1:=QcU (QL c).src (fun p hp=>by
     have:=List.of_mem_zip hp;obtain⟨x,hx,e1⟩:=List.mem_map.1 this.1;obtain⟨y,hy,e2⟩:=List.mem_map.1 this.2;exact⟨by rw[←e1];exact HG.o x hx,by rw[←e2];exact HR.o y hy⟩)
    have h2:(QL c).src.length≤c.gs.length:=by
     show ((c.gs.map (·.1)).zip (c.rs.map (·.1))).length≤_;simp;omega
    omega
   have hl1:=XQ ht;have hq0:¬9223372036854775807<(rgT c.to.1).length+1:=by omega
   have hq1:¬9223372036854775807<(rgT c.to.1).length+1+(srT (QL c).src).length:=by omega
   have FA:=Qc (F0.o.trans (H1.o.2.mono hzW));have k0:wA.cell? ⟨w.heap.size,0,none⟩=some (.int .i64 c.to.1):=by
    rw[H1.o.2.cell (p:=⟨w.heap.size,0,none⟩) hgW];have:=Qa g0.out 0;simpa using this
   have k1:wA.cell? ⟨w.heap.size,1,none⟩=some (.int .i64 c.to.2):=by
    rw[H1.o.2.cell (p:=⟨w.heap.size,1,none⟩) hgW];have:=Qa g0.out 1;simpa using this
   have hy:w.heap.size<wA.heap.size:=Nat.lt_of_lt_of_le hgW hzA;clear hke;go_wp2_with fail;refine(K9 c.to.1 c.to.2 wA ht (HT.o.keep FA.o)).mono ?_;rintro e v0 ⟨rfl,f⟩;have P0:=Qc f;clear f k0 k1;go_wp2_with fail;refine(QdV (Kz c.gs c.rs k) 44 W0.heap.size _ v0 (Qd O1.o (Qi P0.o) trivial) (by omega) (by rw[HJ.o];omega)).mono ?_;rintro e v1 ⟨rfl,f⟩;have P1:=Qc (P0.o.trans (f.mono P0.o.size));rw[HJ.o];clear f
   all_goals
    go_wp2_with fail;go_ret;refine⟨?_,FA.o.trans (P1.o.mono FA.o.size)⟩;rw[show chT (QL c)=(rgT c.to.1++[64])++srT (QL c).src from by unfold chT;simp[QL],←Zl,←Zl];rfl
def Ux(l:List QH):List (List UInt8):=l.map fun c=>chT (QL c)
theorem Qcn{l:List QH}{k:Nat}(hk:k<l.length):Ux (l.take (k+1))=Ux (l.take k)++[chT (QL l[k])]:=by
 rw[Ux,List.take_succ_eq_append_getElem hk,List.map_append];rfl
theorem Nj:∀(chs:List ACh)(sts:List ASt)(e:List UInt8),Lib.join (chs.map chT++(sts.map stT++[e])) [59]=JU chs++(ZW sts++e)
 | [],sts,e=>YF sts e
 | c::chs,sts,e=>by
  have ih:=Nj chs sts e;rw[Z8,List.append_assoc,List.cons_append,←ih,List.map_cons,List.cons_append];obtain⟨x,r,hx⟩:∃x r,chs.map chT++(sts.map stT++[e])=x::r:=by
   cases chs with
   | cons d chs=>exact⟨_,_,rfl⟩
   | nil=>
    cases sts with
    | cons t sts=>exact⟨_,_,rfl⟩
    | nil=>exact⟨_,_,rfl⟩
  rw[hx,Lib.join_cons,Lib.join_cons];simp[Lib.joinTail]
structure ChW(c:QH):Prop where
 gs:∀p∈c.gs,p.1<10000
 rs:∀p∈c.rs,p.1<10000
 to:c.to.1<10000
 len:c.gs.length≤1000
theorem QgE(b:Ql)(at_:Nat)(qc:Option Addr)(cc:Nat)(ps:Option Addr)(cs base:Nat)(w:World)(hC:X1 w base b.chs (.slice qc b.chs.length cc))(hW:∀c∈b.chs,ChW c)(hcl:b.chs.length≤200000)(hbl:(bcT (Zy b)).length≤10000000)(hS:w.ownsRow base 150 1 (.slice ps b.sts.length cs) b.sts.length (b.sts.map QE))(hk:∀t∈b.sts,OkS (QA t))(he:OkE (Zc b.e))(hl:b.sts.length≤200000)(ht:Tab w):
  Calls Tryz.prog 46 #[.agg #[.int .i64 at_,.slice qc b.chs.length cc,.slice ps b.sts.length cs,QP b.e]] w fun r w'=>r=.returned (.string ⟨(bcT (Zy b)).toArray⟩)∧Below w.heap.size w w':=by
 obtain⟨TE,xe,fe,hev,hem,het,hec⟩:=Qg4 b.e he;rw[hev];have HES:=Qc (And.intro hem (And.intro het hec));have HS:=Qc hS;have HK:=Qc hk;have HT:=Qc ht;have hen:=Qik he;have HJ:Hid (Lib.join (Ux b.chs++(Gn b.sts++[enT (Zc b.e)])) [59]=bcT (Zy b)):=by
  show _=_;have e:Gn b.sts=(b.sts.map QA).map stT:=by rw[Gn,List.map_map];rfl
  have e2:Ux b.chs=(b.chs.map QL).map chT:=by rw[Ux,List.map_map];rfl
  rw[e,e2,Nj];rfl
 have HC:=Qc hC;have HWC:=Qc hW;clear hev hem het hec hS hk ht he hC hW;go_enter Tryz.func46,Tryz.ntmps46;go_wp2_with fail;have F1:=Qc ((Below.refl w.heap.size w).alloc (Nat.le_refl _) (.cells #[.int .i64 at_,.slice qc b.chs.length cc,.slice ps b.sts.length cs,.iface TE xe] 104));have g1:=Qc (heap_alloc_last w (.cells #[.int .i64 at_,.slice qc b.chs.length cc,.slice ps b.sts.length cs,.iface TE xe] 104))
 go_loopw [3,11] (fun v ii wr=>∃(t:Nat)(L:List (List UInt8)),t≤b.chs.length∧ii=.int .i64 t∧L.length=t∧Hid (L=Ux (b.chs.take t))∧wr.ownsRow w.heap.size 9 1 v L.length (XN L)∧Hid (Below w.heap.size w wr∧wr.heap[w.heap.size]?=some (.cells #[.int .i64 at_,.slice qc b.chs.length cc,.slice ps b.sts.length cs,.iface TE xe] 104 (0,0)))) (fun _ ii _=>b.chs.length-(intOf ii).toNat)
 case atStart=>exact⟨0,[],by omega,rfl,rfl,rfl,World.ownsRow_nil _ _ _ _,F1.o,g1.out⟩
 case round=>
  clear F1 g1;obtain⟨t,L0,ht0,rfl,hL0k,HL0,OV0,H1⟩:=hrel;rename World=>wA;obtain⟨pW,cW,rfl⟩:=Qb OV0;have HOV0:=Qc OV0;have HLK0:=Qc hL0k;have hL01:L0.length≤200000:=by omega
  have hzA:=H1.o.1.size;have hgA:=lt_of_block H1.o.2;clear OV0 hL0k;by_cases htl:t<b.chs.length
  ·obtain⟨gc,pu,cu,rfl,_,hgc,hgr,OU,c0,c1,c2⟩:=HC.o.at htl;replace c0:=(H1.o.1.cell (p:=⟨gc,t*3,none⟩) hgc).trans c0;replace c1:=(H1.o.1.cell (p:=⟨gc,t*3+1,none⟩) hgc).trans c1;replace c2:=(H1.o.1.cell (p:=⟨gc,t*3+2,none⟩) hgc).trans c2;have hw:=HWC.o _ (List.getElem_mem htl);have HNX:=Qc (Qcn htl);have F3:=(Below.refl wA.heap.size wA).alloc (Nat.le_refl _) (.cells #[.int .i64 b.chs[t].to.1,.int .i64 b.chs[t].to.2,.slice pu b.chs[t].gs.length cu] 140);have FF:=Qc (H1.o.1.trans (F3.mono hzA));have HCALL:=Qc (Qey b.chs[t] base pu cu (wA.alloc (.cells #[.int .i64 b.chs[t].to.1,.int .i64 b.chs[t].to.2,.slice pu b.chs[t].gs.length cu] 140)) (Qd OU (Qi FF.o) trivial) hgr hw.gs hw.rs hw.to (Nat.le_trans hw.len (by omega)) (HT.o.keep FF.o));have H3:Hid ((wA.alloc (.cells #[.int .i64 b.chs[t].to.1,.int .i64 b.chs[t].to.2,.slice pu b.chs[t].gs.length cu] 140)).ownsRow w.heap.size 9 1 (.slice pW L0.length cW) L0.length (XN L0)∧(wA.alloc (.cells #[.int .i64 b.chs[t].to.1,.int .i64 b.chs[t].to.2,.slice pu b.chs[t].gs.length cu] 140)).heap[w.heap.size]?=some (.cells #[.int .i64 at_,.slice (some ⟨gc,0,none⟩) b.chs.length cc,.slice ps b.sts.length cs,.iface TE xe] 104 (0,0))):=⟨HOV0.o.alloc _,by rw[F3.block _ hgA];exact H1.o.2⟩;clear OU hgr F3 H1 HOV0 hw;go_wp2_with fail;refine HCALL.o.mono ?_;rintro r w1 ⟨rfl,f1⟩;clear c0 c1 c2 HCALL;have H4:Hid (w1.ownsRow w.heap.size 9 1 (.slice pW L0.length cW) L0.length (XN L0)∧Below w.heap.size w w1∧w1.heap[w.heap.size]?=some (.cells #[.int .i64 at_,.slice (some ⟨gc,0,none⟩) b.chs.length cc,.slice ps b.sts.length cs,.iface TE xe] 104 (0,0))):=⟨Qd H3.o.1 (Qi f1) trivial,FF.o.trans (f1.mono FF.o.size),by rw[f1.block _ (lt_of_block H3.o.2)];exact H3.o.2⟩;have hz1:w.heap.size≤w1.heap.size:=H4.o.2.1.size;clear f1 H3 FF;go_wp2_with (at_builtin;refine Qv ?_);refine Qc ?_;have gB:=heap_alloc_last w1 (.cells #[.string ⟨(chT (QL b.chs[t])).toArray⟩] 9);have OB:=H4.o.1.alloc (.cells #[.string ⟨(chT (QL b.chs[t])).toArray⟩] 9);refine KU Tryz.underlying98 Tryz.info9 rfl (by decide) (by decide) rfl _ _ rfl rfl OB gB rfl rfl (List.all_eq_true.1 rfl) (by omega) (by simp;omega) ?_;intro v6 w6 oS gS nS;obtain⟨v6p,v6c,rfl⟩:=Qb oS;have C6:=ZB gS;have R6:Hid (w6.ownsRow w.heap.size 9 1 (.slice v6p (L0.length+1) v6c) (L0++[chT (QL b.chs[t])]).length (XN (L0++[chT (QL b.chs[t])]))∧Below w.heap.size w w6∧w6.heap[w.heap.size]?=some (.cells #[.int .i64 at_,.slice (some ⟨gc,0,none⟩) b.chs.length cc,.slice ps b.sts.length cs,.iface TE xe] 104 (0,0))):=by
    refine⟨by rw[Wp,List.length_append];exact oS,?_,?_⟩
    ·exact H4.o.2.1.trans (C6.toBelow hz1 (fun j hj=>(H4.o.1.lt j hj.symm).1))
    ·rw[C6.block _ (lt_of_block H4.o.2.2) (fun e2=>Qw H4.o.1 H4.o.2.2 (by decide) e2.symm)];exact H4.o.2.2
   clear oS gS nS gB OB C6 H4;go_wp2_with fail;go_roundw
   case rel=>exact⟨t+1,L0++[chT (QL b.chs[t])],by omega,by go_num,by rw[List.length_append,List.length_singleton,HLK0.o],by show _=_;rw[HNX.o,HL0.o],R6.o.1,R6.o.2⟩
   case measure=>simp[intOf];omega
  have HLC:Hid (L0=Ux b.chs):=by show _=_;rw[HL0.o,List.take_of_length_le (by omega)]
  have k2:=Qa H1.o.2 2;simp at k2;go_wp2_with fail;clear k2
  go_loopw [3,24] (fun v i wr=>∃(k:Nat)(L:List (List UInt8)),k≤b.sts.length∧i=.int .i64 k∧L.length=b.chs.length+k∧Hid (L=Ux b.chs++Gn (b.sts.take k))∧wr.ownsRow w.heap.size 9 1 v L.length (XN L)∧Hid (Below w.heap.size w wr∧wr.heap[w.heap.size]?=some (.cells #[.int .i64 at_,.slice qc b.chs.length cc,.slice ps b.sts.length cs,.iface TE xe] 104 (0,0)))) (fun _ i _=>b.sts.length-(intOf i).toNat)
  case atStart=>exact⟨0,L0,by omega,rfl,by rw[HLK0.o];omega,by show _=_;rw[HLC.o];simp[Gn],HOV0.o,H1⟩
  case round=>
   clear H1 HOV0 hL01 hzA hgA;obtain⟨k,L,hk,rfl,hLk,HL,OV,H2⟩:=hrel;rename World=>wB;obtain⟨pV,cV,rfl⟩:=Qb OV;have HOV:=Qc OV;have HLK:=Qc hLk;have hL1:L.length≤400000:=by omega
   have hzB:=H2.o.1.size;have hgB:=lt_of_block H2.o.2;clear OV hLk;by_cases hlt:k<b.sts.length
   ·have OS:=Qd HS.o (Qi H2.o.1) trivial;obtain⟨gs,rfl,_,_⟩:=Qh OS (by omega);obtain⟨T,x,fr,hsv,hrm,hrt,hrc⟩:=Qhl b.sts[k] (HK.o _ (List.getElem_mem hlt));have cS:=Qe OS (j:=k) (u:=.iface T x) (by rw[←hsv];simp[hlt]);have HR:=Qc (And.intro hrm (And.intro hrt hrc));clear hsv hrm hrt hrc OS;go_wp2_with fail;rw[HR.o.1,Result.andThen_ok];simp only[HR.o.2.1];unfold Oper.upon;refine(HR.o.2.2 _ (HT.o.keep H2.o.1)).mono ?_;rintro r w1 ⟨rfl,f1⟩;have H3:Hid (w1.ownsRow w.heap.size 9 1 (.slice pV L.length cV) L.length (XN L)∧Below w.heap.size w w1∧w1.heap[w.heap.size]?=some (.cells #[.int .i64 at_,.slice qc b.chs.length cc,.slice (some ⟨gs,0,none⟩) b.sts.length cs,.iface TE xe] 104 (0,0))):=⟨Qd HOV.o (Qi f1) trivial,H2.o.1.trans (f1.mono hzB),by rw[f1.block _ hgB];exact H2.o.2⟩;have hz1:w.heap.size≤w1.heap.size:=Nat.le_trans hzB f1.size;have HNX:=Qc (QbU hlt);clear f1 HR H2 HOV cS;go_wp2_with (at_builtin;refine Qv ?_);refine Qc ?_;have gB:=heap_alloc_last w1 (.cells #[.string ⟨(stT (QA b.sts[k])).toArray⟩] 9);have OB:=H3.o.1.alloc (.cells #[.string ⟨(stT (QA b.sts[k])).toArray⟩] 9);refine KU Tryz.underlying98 Tryz.info9 rfl (by decide) (by decide) rfl _ _ rfl rfl OB gB rfl rfl (List.all_eq_true.1 rfl) (by omega) (by simp;omega) ?_;intro v6 w6 oS gS nS;obtain⟨v6p,v6c,rfl⟩:=Qb oS;have C6:=ZB gS;have R6:Hid (w6.ownsRow w.heap.size 9 1 (.slice v6p (L.length+1) v6c) (L++[stT (QA b.sts[k])]).length (XN (L++[stT (QA b.sts[k])]))∧Below w.heap.size w w6∧w6.heap[w.heap.size]?=some (.cells #[.int .i64 at_,.slice qc b.chs.length cc,.slice (some ⟨gs,0,none⟩) b.sts.length cs,.iface TE xe] 104 (0,0))):=by
     refine⟨by rw[Wp,List.length_append];exact oS,?_,?_⟩
     ·exact H3.o.2.1.trans (C6.toBelow hz1 (fun j hj=>(H3.o.1.lt j hj.symm).1))
     ·rw[C6.block _ (lt_of_block H3.o.2.2) (fun e2=>Qw H3.o.1 H3.o.2.2 (by decide) e2.symm)];exact H3.o.2.2
    clear oS gS nS gB OB C6 H3;go_wp2_with fail;go_roundw
    case rel=>exact⟨k+1,L++[stT (QA b.sts[k])],by omega,by go_num,by rw[List.length_append,List.length_singleton,HLK.o];omega,by show _=_;rw[HNX.o,HL.o,List.append_assoc],R6.o.1,R6.o.2⟩
    case measure=>simp[intOf];omega
   ·have HLE:Hid (L=Ux b.chs++Gn b.sts):=by show _=_;rw[HL.o,List.take_of_length_le (by omega)]
    have k3:=Qa H2.o.2 3;simp at k3;clear HL HLK;go_wp2_with fail;rw[HES.o.1,Result.andThen_ok];simp only[HES.o.2.1];unfold Oper.upon;refine(HES.o.2.2 _ (HT.o.keep H2.o.1)).mono ?_;rintro r w1 ⟨rfl,f1⟩;have H3:Hid (w1.ownsRow w.heap.size 9 1 (.slice pV L.length cV) L.length (XN L)∧Below w.heap.size w w1):=⟨Qd HOV.o (Qi f1) trivial,H2.o.1.trans (f1.mono hzB)⟩;have hz1:w.heap.size≤w1.heap.size:=Nat.le_trans hzB f1.size;clear f1 HES H2 HOV k3;go_wp2_with (at_builtin;refine Qv ?_);refine Qc ?_;have gB:=heap_alloc_last w1 (.cells #[.string ⟨(enT (Zc b.e)).toArray⟩] 9);have OB:=H3.o.1.alloc (.cells #[.string ⟨(enT (Zc b.e)).toArray⟩] 9);refine KU Tryz.underlying98 Tryz.info9 rfl (by decide) (by decide) rfl _ _ rfl rfl OB gB rfl rfl (List.all_eq_true.1 rfl) (by omega) (by simp;omega) ?_;intro v6 w6 oS gS nS;obtain⟨v6p,v6c,rfl⟩:=Qb oS;have C6:=ZB gS;have R6:Hid (w6.ownsRow w.heap.size 9 1 (.slice v6p (L.length+1) v6c) (L++[enT (Zc b.e)]).length (XN (L++[enT (Zc b.e)]))∧Below w.heap.size w w6):=by
     refine⟨by rw[Wp,List.length_append];exact oS,?_⟩;exact H3.o.2.trans (C6.toBelow hz1 (fun j hj=>(H3.o.1.lt j hj.symm).1))
    have HJ2:Hid (Lib.join (L++[enT (Zc b.e)]) [59]=bcT (Zy b)):=by show _=_;rw[HLE.o,List.append_assoc];exact HJ.o
    clear oS gS nS gB OB C6 H3;go_wp2_with fail;refine(QdV (L++[enT (Zc b.e)]) 59 w.heap.size _ w6 R6.o.1 (by rw[List.length_append,List.length_singleton];omega) (by rw[HJ2.o];omega)).mono ?_;rintro r w7 ⟨rfl,f7⟩;have F7:=R6.o.2.trans (f7.mono R6.o.2.size);clear f7 R6;go_wp2_with fail;go_ret;exact⟨by rw[←HJ2.o];rfl,F7⟩
def bcL(b:Ql):List UInt8:=bcT (Zy b)
def Yy(bs:List Ql)(k:Nat):List (List UInt8):=(bs.take k).map bcL++List.replicate (bs.length-k) []
theorem Wy{bs:List Ql}{k:Nat}(hk:k≤bs.length):(Yy bs k).length=bs.length:=by
 simp[Yy];omega
theorem Qc1{bs:List Ql}{k:Nat}(hk:k<bs.length):(Yy bs k).set k (bcL bs[k])=Yy bs (k+1):=by
 unfold Yy;have hl:((bs.take k).map bcL).length=k:=by simp;omega
 rw[List.set_append_right (h:=by omega),hl,Nat.sub_self];rw[show bs.length-k=(bs.length-(k+1))+1 from by omega,List.replicate_succ,List.set_cons_zero,List.take_succ_eq_append_getElem hk,List.map_append,List.append_assoc];rfl
theorem Qc2(bs:List Ql):Yy bs bs.length=(absP bs).map bcT:=by
 unfold Yy absP;rw[List.take_of_length_le (Nat.le_refl _),Nat.sub_self,List.replicate_zero,List.append_nil,List.map_map];rfl
theorem Qa5:∀(bs:List ABk),Lib.join (bs.map bcT) [124]=pcT bs
 | []=>rfl
 | [b]=>by rw[List.map_cons,List.map_nil,Lib.join_one,J5]
 | b::c::bs=>by
  have ih:=Qa5 (c::bs);rw[XU,←ih,List.map_cons,Lib.join_cons,List.map_cons,Lib.join_cons];simp[Lib.joinTail]
theorem Qjg(bs:List Ql)(base:Nat)(v:Value)(w:World)(h:PBs w base bs v)(hn:bs.length≤1000)(hc:∀b∈bs,∀c∈b.chs,ChW c)(hcl:∀b∈bs,b.chs.length≤200000)(hbl:∀b∈bs,(bcT (Zy b)).length≤10000000)(hk:∀b∈bs,∀t∈b.sts,OkS (QA t))(he:∀b∈bs,OkE (Zc b.e))(hs:∀b∈bs,b.sts.length≤200000)(hl:(pcT (absP bs)).length≤200000)(ht:Tab w):
  Calls Tryz.prog 21 #[v] w fun e w'=>e=.returned (.string ⟨(pcT (absP bs)).toArray⟩)∧Below w.heap.size w w':=by
 obtain⟨pv,cv,rfl⟩:=h.slice;obtain⟨I9,Hi9,Hz9,Hs9,Hb9⟩:=info_parts Tryz.info9;have HB:=Qc h;have HC:=Qc hc;have HCL:=Qc hcl;have HBL:=Qc hbl;have HK:=Qc hk;have HE:=Qc he;have HSS:=Qc hs;have HT:=Qc ht;clear h hc hk he hs ht hcl hbl;go_enter Tryz.func21,Tryz.ntmps21;go_wp2_with (at_make;refine Qv ?_);refine Qc ?_;refine wpList_make_full _ rfl _ _ 98 rfl w.heap.size 9 I9 (.string ⟨#[]⟩) 1 Tryz.underlying98 Hi9 Hz9 Hs9 .i64 .i64 _ _ bs.length rfl rfl rfl rfl (by rw[Hb9];omega) (by unfold maxLen;omega) (by simp) ?_;intro w1 o1 g1;rw[R0]at o1;have S1:Hid (w1.ownsRow w.heap.size 9 1 (.slice (some ⟨w.heap.size,0,none⟩) bs.length bs.length) bs.length (XN (Yy bs 0))∧Below w.heap.size w w1):=⟨by rw[show Yy bs 0=List.replicate bs.length [] from by simp[Yy]];exact o1,Below.grown (Below.refl _ _) g1 (Nat.le_refl _) (fun k hk=>by cases hk)⟩;clear o1 g1 Hi9 Hz9 Hs9 Hb9;go_wp2_with fail
 go_loopw [11] (fun i wr=>∃k:Nat,k≤bs.length∧i=.int .i64 k∧Hid (wr.ownsRow w.heap.size 9 1 (.slice (some ⟨w.heap.size,0,none⟩) bs.length bs.length) bs.length (XN (Yy bs k))∧Below w.heap.size w wr)) (fun i _=>bs.length-(intOf i).toNat)
 case atStart=>exact⟨0,by omega,rfl,S1⟩
 case round=>
  clear S1;obtain⟨k,hk,rfl,H1⟩:=hrel;rename World=>wA;have hzA:=H1.o.2.size;by_cases hlt:k<bs.length
  ·obtain⟨g,qc,cc,ps,cs1,rfl,_,hg,_,OC,OS,d0,d1,d2,d3⟩:=HB.o.at hlt;have HOC:=Qc OC;replace d0:=(H1.o.2.cell (p:=⟨g,k*4,none⟩) hg).trans d0;replace d1:=(H1.o.2.cell (p:=⟨g,k*4+1,none⟩) hg).trans d1;replace d2:=(H1.o.2.cell (p:=⟨g,k*4+2,none⟩) hg).trans d2;replace d3:=(H1.o.2.cell (p:=⟨g,k*4+3,none⟩) hg).trans d3;obtain⟨TE,xe,eV⟩:∃TE xe,QP bs[k].e=.iface TE xe:=by
    obtain⟨T,x,_,h,_⟩:=Qg4 bs[k].e (HE.o _ (List.getElem_mem hlt));exact⟨T,x,h⟩
   have HOS:=Qc OS;have HEV:=Qc eV;have F1:=Qc ((Below.refl wA.heap.size wA).alloc (Nat.le_refl _) (.cells #[.int .i64 bs[k].at_,.slice qc bs[k].chs.length cc,.slice ps bs[k].sts.length cs1,.iface TE xe] 104));have HCALL:Hid (Calls Tryz.prog 46 #[.agg #[.int .i64 bs[k].at_,.slice qc bs[k].chs.length cc,.slice ps bs[k].sts.length cs1,.iface TE xe]] (wA.alloc (.cells #[.int .i64 bs[k].at_,.slice qc bs[k].chs.length cc,.slice ps bs[k].sts.length cs1,.iface TE xe] 104)) fun r w'=>r=.returned (.string ⟨(bcL bs[k]).toArray⟩)∧Below (wA.alloc (.cells #[.int .i64 bs[k].at_,.slice qc bs[k].chs.length cc,.slice ps bs[k].sts.length cs1,.iface TE xe] 104)).heap.size (wA.alloc (.cells #[.int .i64 bs[k].at_,.slice qc bs[k].chs.length cc,.slice ps bs[k].sts.length cs1,.iface TE xe] 104)) w'):=by
    have FF:=H1.o.2.trans (F1.o.mono hzA);have:=QgE bs[k] bs[k].at_ qc cc ps cs1 base (wA.alloc (.cells #[.int .i64 bs[k].at_,.slice qc bs[k].chs.length cc,.slice ps bs[k].sts.length cs1,.iface TE xe] 104)) (HOC.o.keeps (Qi FF) trivial trivial) (HC.o _ (List.getElem_mem hlt)) (HCL.o _ (List.getElem_mem hlt)) (HBL.o _ (List.getElem_mem hlt)) (Qd HOS.o (Qi FF) trivial) (HK.o _ (List.getElem_mem hlt)) (HE.o _ (List.getElem_mem hlt)) (HSS.o _ (List.getElem_mem hlt)) (HT.o.keep FF);rw[HEV.o]at this;exact this
   rw[eV]at d3;clear OC OS eV;go_wp2_with fail;refine HCALL.o.mono ?_;rintro r w2 ⟨rfl,f2⟩;have F2:=Qc (F1.o.trans (f2.mono F1.o.size));have O2:=Qd H1.o.1 (Qi F2.o) trivial;have hg2:w.heap.size<w2.heap.size:=by
    obtain⟨cur,hcur⟩:=GA O2;exact lt_of_block hcur
   have z0:∃u,w2.cell? ⟨w.heap.size,k,none⟩=some u:=by
    refine⟨_,Qe O2 (Gh (j:=k) (by rw[Wy (by omega)];exact hlt))⟩
   obtain⟨u0,z0⟩:=z0;have z0f:=XE O2 k;have R:Hid ((w2.setCell ⟨w.heap.size,k,none⟩ (.string ⟨(bcL bs[k]).toArray⟩)).ownsRow w.heap.size 9 1 (.slice (some ⟨w.heap.size,0,none⟩) bs.length bs.length) bs.length (XN (Yy bs (k+1)))∧Below w.heap.size w (w2.setCell ⟨w.heap.size,k,none⟩ (.string ⟨(bcL bs[k]).toArray⟩))):=by
    refine⟨?_,Qr (H1.o.2.trans (F2.o.mono hzA)) _ _ _ (Nat.le_refl _)⟩;rw[←Qc1 hlt,←Rv];exact Zz O2 k _
   clear O2 f2 HCALL F1 F2 d0 d1 d2 d3;go_wp2_with fail;go_roundw
   case rel=>exact⟨k+1,by omega,by go_num,R⟩
   case measure=>simp[intOf];omega
  ·have hke:k=bs.length:=by omega
   have HJ:Hid (Lib.join (Yy bs k) [124]=pcT (absP bs)):=by show _=_;rw[hke,Qc2,Qa5]
   have O1:Hid (wA.ownsRow w.heap.size 9 1 (.slice (some ⟨w.heap.size,0,none⟩) bs.length bs.length) (Yy bs k).length (XN (Yy bs k))):=by
    show World.ownsRow _ _ _ _ _ _ _;rw[Wy hk];exact H1.o.1
   clear hke;go_wp2_with fail;refine(QdV (Yy bs k) 124 w.heap.size _ wA O1.o (by rw[Wy hk];omega) (by rw[HJ.o];omega)).mono ?_;rintro r w7 ⟨rfl,f7⟩;have F7:=H1.o.2.trans (f7.mono hzA);clear f7;go_wp2_with fail;go_ret;exact⟨by rw[←HJ.o];rfl,F7⟩
end Go.Proofs.YtgfhfkgdmidhpaaGreatDoor
namespace Go.Proofs.YtgfhfkgdmidhpaaGreatDoor
open Go.RowKit Go.Maps
set_option maxRecDepth 100000
set_option maxHeartbeats 8000000
theorem QcY{bs:List Ql}(h:sgE bs=(0,0)):twF (gvU bs)=none∧amF bs=none:=by
 rw[sgE]at h
 cases h1:twF (gvU bs) with
 | some u=>rw[h1]at h;cases h
 | none=>
  rw[h1]at h
  cases h2:amF bs with
  | some u=>rw[h2]at h;cases h
  | none=>exact⟨rfl,rfl⟩
theorem QhR{s:ByteArray}(h:(rdF s).e=0):∀b∈absP (Qq s).bs,OkX b:=fun b hb=>by
 obtain⟨c,hc,rfl⟩:=List.mem_map.1 hb;have r:=Ya h;have hf:=(KS h).1 c hc;have h12:=r.rd.le;refine⟨fun x hx=>?_,fun t ht=>?_,r.jp.e c hc⟩
 ·obtain⟨d,hd,rfl⟩:=List.mem_map.1 hx;have f1:=hf.ch d hd;refine⟨f1.1,?_,fun p hp=>?_⟩
  ·have:=r.jp.ch c hc d hd;show 0<((d.gs.map (·.1)).zip (d.rs.map (·.1))).length;rw[List.length_zip,List.length_map,List.length_map,f1.2.1];omega
  ·obtain⟨q,hq,rfl⟩:=JV.1 hp;have h1:=List.of_mem_zip hq;have h2:=VB h c hc d hd _ h1.1;exact⟨by show q.1.1<10000;omega,f1.2.2.2 _ h1.2⟩
 ·obtain⟨x,hx,rfl⟩:=List.mem_map.1 ht;exact(r.jp.st c hc x hx).1
theorem QdQ{s:ByteArray}(h:oldE s=0)(hg:sgE (Qq s).bs=(0,0)):LnK (Qq s).bs∧∀b∈(Qq s).bs,b.sts.length≤20000:=by
 obtain⟨h1,h2⟩:=Vv h;obtain⟨h3,h4⟩:=K1 h1;have r:=Ya h3;have hO:=(QhJ r.jp r.rd h2).old;obtain⟨g1,g2⟩:=QcY hg;have hw:=r.w;have hreg:=fun b hb=>RV h2 b hb;refine⟨⟨r.rd,QhI r.rd hO r.jp.e,Qht r.rd g1 g2,fun b hb c hc=>?_,fun b hb t ht=>?_,fun b hb=>?_,fun b hb=>?_,fun b hb=>?_⟩,fun b hb=>?_⟩
 ·have hC:∀x∈ZO c,x.1<5000:=fun x hx=>hreg b hb x (by unfold regsB Xg;exact List.mem_append_left _ (List.mem_append_left _ (List.mem_flatMap.2 ⟨c,hc,hx⟩)));refine⟨hC c.to (List.mem_cons_self ..),VB h3 b hb c hc,fun p hp=>hC p (List.mem_cons_of_mem _ hp),(KS h3).2.2 b hb c hc⟩
 ·have hS:∀x∈Zj t,x.1<5000:=fun x hx=>hreg b hb x (by unfold regsB Xg;exact List.mem_append_left _ (List.mem_append_right _ (List.mem_flatMap.2 ⟨t,ht,hx⟩)));obtain⟨d1,d2,d3,d4⟩:=(r.jp.st b hb t ht).2;unfold Zj JL at hS;by_cases e1:t.op=118
  ·rw[if_neg (by omega),if_pos e1]at hS;obtain⟨z1,z2⟩:=d1 e1;exact⟨hS t.to (by simp),by omega,by omega⟩
  by_cases e2:t.op=99
  ·rw[if_neg (by omega),if_neg e1,if_pos e2]at hS;have:=d3 e2;exact⟨hS t.to (by simp),hS t.a (by simp),by omega⟩
  by_cases e3:t.op=33
  ·rw[if_pos e3,if_neg e1,if_neg e2,if_pos e3]at hS;obtain⟨z1,z2⟩:=d4 e3;exact⟨by omega,hS t.a (by simp),by omega⟩
  by_cases e4:t.op=63
  ·rw[if_neg e3,if_neg e1,if_neg e2,if_neg e3,if_pos e4]at hS;obtain⟨z1,z2⟩:=d2 e4;exact⟨hS t.to (by simp),by omega,by omega⟩
  ·rw[if_neg e3,if_neg e1,if_neg e2,if_neg e3,if_neg e4]at hS;exact⟨hS t.to (by simp),hS t.a (by simp),hS t.b (by simp)⟩
 ·exact(hO (Zy b) (List.mem_map.2 ⟨b,hb,rfl⟩)).e
 ·exact((KS h3).1 b hb).cl
 ·exact((KS h3).1 b hb).sl
 ·have:=hw b hb;omega
theorem Qh5(co:Nat→Bool)(st:Nat→Nat)(bs:List ABk):suA (mgA co st bs)=suA bs:=NT fun b=>by
 show gsA (rnE (nm st) b.e)=gsA b.e;unfold rnE;split<;>rfl
theorem Qgw{bs:List Ql}(h:LnK bs){st:Nat→Nat}(hs:SOk (absP bs) st)(he:mgF (absP bs) (coF bs) st=st):coF (trR (coF bs) (mgR (coF bs) st) bs)=coF bs:=by
 have ea:absP (trR (coF bs) (mgR (coF bs) st) bs)=mgA (coF bs) st (absP bs):=Vn (fun b=>Wd _ _ b) bs
 funext b
 have h1:=QW (h.mg hs he).rd b;have h2:=QW h.rd b;rw[ea,Cm,Qh5]at h1;have h3:coF (trR (coF bs) (mgR (coF bs) st) bs) b=true↔coF bs b=true:=h1.trans h2.symm;cases e1:coF (trR (coF bs) (mgR (coF bs) st) bs) b<;>cases e2:coF bs b<;>simp_all
theorem Qai{bs:List Ql}(h:LnK bs){st:Nat→Nat}{S:List Nat}(hl:LnS bs st S):absP (lnR bs st S)=drA (coF bs) (Qt S) (mgA (coF bs) st (absP bs)):=by
 unfold lnR;rw[Vn (g:=drB (Qt S)) (fun b=>QgQ _ b),Vn (g:=mgB (coF bs) st) (fun b=>Wd _ _ b),Qgw h hl.ok hl.fix];rfl
theorem QdR{s:ByteArray}(h3:(rdF s).e=0)(h:LnK (Qq s).bs){st:Nat→Nat}{S:List Nat}(hl:LnS (Qq s).bs st S):∀b∈absP (lnR (Qq s).bs st S),OkX b:=by
 rw[Qai h hl];exact Qio (Qh2 (QhR h3))
theorem QdS{s:ByteArray}(h3:(rdF s).e=0)(h:LnK (Qq s).bs){st:Nat→Nat}{S:List Nat}(hl:LnS (Qq s).bs st S):(pcT (absP (lnR (Qq s).bs st S))).length≤s.size:=by
 rw[Qai h hl];exact Nat.le_trans (Qip _ _ _) (Nat.le_trans (Qh3 _ _ _) (QfQ (Qdh h3)))
theorem Qg7:∀(l:List ABk),∀b∈l,(bcT b).length≤(pcT l).length
 | [],b,h=>absurd h (by simp)
 | [a],b,h=>by
  rw[List.mem_singleton.1 h,J5];exact Nat.le_refl _
 | a::c::l,b,h=>by
  rw[XU,List.length_append,List.length_cons];rcases List.mem_cons.1 h with rfl|h
  ·omega
  ·have:=Qg7 (c::l) b h;omega
theorem Qgc{s:ByteArray}(h3:(rdF s).e=0)(h4:s.size≤40000)(h:LnK (Qq s).bs){st:Nat→Nat}{S:List Nat}(hl:LnS (Qq s).bs st S):
  (lnR (Qq s).bs st S).length≤1000∧(∀b∈lnR (Qq s).bs st S,∀c∈b.chs,ChW c)∧(∀b∈lnR (Qq s).bs st S,b.chs.length≤200000)∧(∀b∈lnR (Qq s).bs st S,(bcT (Zy b)).length≤10000000)∧(∀b∈lnR (Qq s).bs st S,∀t∈b.sts,OkS (QA t))∧(∀b∈lnR (Qq s).bs st S,OkE (Zc b.e))∧(∀b∈lnR (Qq s).bs st S,b.sts.length≤200000)∧(pcT (absP (lnR (Qq s).bs st S))).length≤200000:=by
 have hX:=QdR h3 h hl;have hL:=QdS h3 h hl;have hm:∀b∈lnR (Qq s).bs st S,Zy b∈absP (lnR (Qq s).bs st S):=fun b hb=>List.mem_map.2 ⟨b,hb,rfl⟩;have hlen:(lnR (Qq s).bs st S).length=(Qq s).bs.length:=by unfold lnR;rw[Zq,Zq]
 have h12:=h.rd.le;have hbc:∀b∈lnR (Qq s).bs st S,(bcT (Zy b)).length≤40000:=fun b hb=>by
  have:=Qg7 _ _ (hm b hb);omega
 have hK:=h.mg hl.ok hl.fix;refine⟨by omega,fun b hb c hc=>?_,fun b hb=>?_,fun b hb=>by have:=hbc b hb;omega,fun b hb t ht=>(hX _ (hm b hb)).sts _ (List.mem_map.2 ⟨t,ht,rfl⟩),fun b hb=>(hX _ (hm b hb)).e,fun b hb=>?_,by omega⟩
 ·have hb':b∈trR (coF (trR (coF (Qq s).bs) (mgR (coF (Qq s).bs) st) (Qq s).bs)) (drR (Qt S)) (trR (coF (Qq s).bs) (mgR (coF (Qq s).bs) st) (Qq s).bs):=hb;obtain⟨a,ha,rfl|rfl⟩:=XM hb'
  ·have l:=hK.ch a ha c (List.mem_filter.1 hc).1;rw[Zq]at l;exact⟨fun p hp=>by have:=l.gs p hp;omega,fun p hp=>by have:=l.rs p hp;omega,by have:=l.to;omega,l.few⟩
  ·simp[KD]at hc
 ·have h1:=Qbq (Zy b).chs;have h2:=hbc b hb;have h3:(Zy b).chs.length=b.chs.length:=List.length_map _;unfold bcT at h2;rw[List.length_append]at h2;omega
 ·have hb':b∈trR (coF (trR (coF (Qq s).bs) (mgR (coF (Qq s).bs) st) (Qq s).bs)) (drR (Qt S)) (trR (coF (Qq s).bs) (mgR (coF (Qq s).bs) st) (Qq s).bs):=hb;obtain⟨a,ha,rfl|rfl⟩:=XM hb'
  ·have:=QdI (co:=coF (Qq s).bs) (st:=st) (n:=200000) (fun b hb=>by have:=(Ya h3).w b hb;omega) a ha;exact Nat.le_trans (List.length_filter_le _ _) this
  ·exact Nat.zero_le _
end Go.Proofs.YtgfhfkgdmidhpaaGreatDoor
namespace Go.Proofs.YtgfhfkgdmidhpaaGreatDoor
open Go.RowKit
set_option maxRecDepth 100000
set_option maxHeartbeats 8000000
theorem Qac(bs:List Ql)(base:Nat)(v:Value)(w:World)(hP:PBs w base bs v)(hf:Hid (∀b∈bs,ZG 1000000 b))(hg2:Hid (∀b∈bs,∀c∈b.chs,c.gs.length≤1000))(hcg:Hid (∀b∈bs,∀c∈b.chs,∀p∈c.gs,p.1<bs.length))(hgl:Hid (∀b∈bs,∀p∈goalsF b.e,p.1<bs.length))(hn0:0<bs.length)(hn:bs.length≤12):
  Calls Tryz.prog 35 #[v] w fun x w'=>x=.returned (.tuple #[.int .i64 (sgE bs).1,.int .i64 (sgE bs).2])∧Below w.heap.size w w':=by
 obtain⟨pv,cv,rfl⟩:=hP.slice;have HP:=Qc hP;clear hP;go_enter Tryz.func35,Tryz.ntmps35;go_wp2_with fail;refine(Nq bs base _ _ HP.o hf (by omega)).mono ?_;rintro x w1 ⟨hx,f1⟩;have F1:=Qc f1;have s1:=f1.size;clear f1;rcases hx with ⟨u,hu,rfl⟩|⟨ht,rfl⟩
 ·have HE:Hid (sgE bs=(8,(u.p:Int))):=by show _=_;rw[sgE,hu]
  clear hu;go_wp2_with fail
  go_region
  go_wp2_with fail
  go_ret2
  have F:=F1.o.alloc s1 (.cells #[.int .i64 u.n,.int .i64 u.p] 132);exact⟨by rw[HE.o];rfl,⟨F.os,F.tape,F.output,F.size,F.block⟩⟩
 ·have HT:=Qc ht;clear ht;go_wp2_with fail;have F2:=Qc (F1.o.alloc s1 (.cells #[.int .i64 0,.int .i64 0] 132));generalize w1.alloc (.cells #[.int .i64 0,.int .i64 0] 132)=W2 at *;refine(N1 bs base _ _ (HP.o.keeps (Qs.below F2.o)) hf hg2 hcg hgl HT hn0 hn).mono ?_;rintro x w3 ⟨hx,f3⟩;have F3:=Qc (F2.o.trans (f3.mono F2.o.size));have s3:=F3.o.size;clear f3;rcases hx with ⟨u,hu,rfl⟩|⟨hu,rfl⟩
  ·have HE:Hid (sgE bs=(9,(u.p:Int))):=by show _=_;rw[sgE,HT.o];simp only;rw[hu]
   clear hu;go_wp2_with fail
   go_region
   go_wp2_with fail
   go_ret2
   have F:=F3.o.alloc s3 (.cells #[.int .i64 u.n,.int .i64 u.p] 132);exact⟨by rw[HE.o];rfl,⟨F.os,F.tape,F.output,F.size,F.block⟩⟩
  ·have HE:Hid (sgE bs=(0,0)):=by show _=_;rw[sgE,HT.o];simp only;rw[hu]
   clear hu;go_wp2_with fail
   go_ret2
   exact⟨by rw[HE.o];rfl,F3.o.alloc s3 _⟩
end Go.Proofs.YtgfhfkgdmidhpaaGreatDoor
namespace Go.Proofs.YtgfhfkgdmidhpaaGreatDoor
open Go.RowKit Go.Maps
set_option maxRecDepth 100000
set_option maxHeartbeats 8000000
def lnE(s:ByteArray):Nat:=if oldE s=0 then (sgE (Qq s).bs).1 else oldE s
def lnA(s:ByteArray):Int:=if oldE s=0 then (sgE (Qq s).bs).2 else Vw s
theorem Wu{bs:List Ql}(h:(sgE bs).1=0):sgE bs=(0,0):=by
 unfold sgE at h ⊢
 cases h1:twF (gvU bs) with
 | some u=>rw[h1]at h;cases h
 | none=>
  rw[h1]at h
  cases h2:amF bs with
  | some u=>rw[h2]at h;cases h
  | none=>rfl
def LnT(s:ByteArray)(T:ByteArray):Prop:=(lnE s≠0→T=⟨#[]⟩)∧(lnE s=0→∃st S,LnS (Qq s).bs st S∧T=⟨(pcT (absP (lnR (Qq s).bs st S))).toArray⟩)
theorem Qe2(s:ByteArray)(w:World)(hs:s.size≤maxLen)(ht:Tab w):
  Calls Tryz.prog 14 #[.string s] w fun x w'=>(∃T,x=.returned (.tuple #[.string T,.int .i64 (lnE s),.int .i64 (lnA s)])∧Hid (LnT s T))∧Below w.heap.size w w':=by
 go_enter Tryz.func14,Tryz.ntmps14;go_wp2_with fail;refine(Qde s w hs).mono ?_;rintro x w1 ⟨v1,rfl,H1⟩;by_cases h0:oldE s=0
 ·have HP:=Qc (H1.o.1 h0);obtain⟨h1,h2⟩:=K1 (Vv h0).1;have HF:=KS h1;have HR:=Ya h1;have HC:Hid (Calls Tryz.prog 35 #[v1] w1 fun x w'=>x=.returned (.tuple #[.int .i64 (sgE (Qq s).bs).1,.int .i64 (sgE (Qq s).bs).2])∧Below w1.heap.size w1 w'):=Qac (Qq s).bs w.heap.size v1 w1 HP.o HF.1 HF.2.2 (VB h1) HR.rd.goals HR.rd.pos HR.rd.le;obtain⟨p1,c1,rfl⟩:=HP.o.slice;have HE:Hid (lnE s=(sgE (Qq s).bs).1∧lnA s=(sgE (Qq s).bs).2):=by
   refine⟨?_,?_⟩
   ·rw[lnE,if_pos h0]
   ·rw[lnA,if_pos h0]
  have HLK:Hid ((sgE (Qq s).bs)=(0,0)→LnK (Qq s).bs∧∀b∈(Qq s).bs,b.sts.length≤20000):=fun e=>QdQ h0 e;have HTX:=Qc (fun (h:LnK (Qq s).bs) (st:Nat→Nat) (S:List Nat) (hl:LnS (Qq s).bs st S)=>Qgc h1 h2 h hl);rw[h0];clear h0 h1 h2 HF HR;go_wp2_with fail;refine HC.o.mono ?_;rintro x w2 ⟨rfl,f2⟩;have F2:=Qc (H1.o.2.trans (f2.mono H1.o.2.size));have HP2:=Qc (HP.o.keeps (Qs.below f2));clear f2 HP HC;by_cases hg:(sgE (Qq s).bs).1=0
  ·have hz:=Wu hg;have HK:=HLK.o hz;have HK1:=Qc HK.1;have HK2:=Qc HK.2;have HZ:=Qc hz;rw[hz];clear hg hz HK HLK;go_wp2_with fail;refine(Qi1 (Qq s).bs w.heap.size _ w2 HP2.o HK1 HK2).mono ?_;rintro x w3 ⟨v3,st,S,B3,rfl,H3⟩;obtain⟨p3,c3,rfl⟩:=H3.o.1.slice;have F3:=Qc (F2.o.trans (H3.o.2.2.mono F2.o.size));have HX:=HTX.o HK1.o st S H3.o.2.1;go_wp2_with fail;refine(Qjg (lnR (Qq s).bs st S) B3 _ w3 H3.o.1 HX.1 HX.2.1 HX.2.2.1 HX.2.2.2.1 HX.2.2.2.2.1 HX.2.2.2.2.2.1 HX.2.2.2.2.2.2.1 HX.2.2.2.2.2.2.2 (ht.keep F3.o)).mono ?_;rintro x w4 ⟨rfl,f4⟩;have F4:=Qc (F3.o.trans (f4.mono F3.o.size));have HLT:Hid (LnT s ⟨(pcT (absP (lnR (Qq s).bs st S))).toArray⟩):=by
    refine⟨fun hne=>absurd ?_ hne,fun _=>⟨st,S,H3.o.2.1,rfl⟩⟩;rw[HE.o.1,HZ.o]
   clear f4 HX H3;go_wp2_with fail
   go_ret3
   exact⟨⟨_,by rw[HE.o.1,HE.o.2,HZ.o];rfl,HLT⟩,F4.o⟩
  ·have hd:(((sgE (Qq s).bs).1:Int) != 0)=true:=by simp;omega
   have HLT:Hid (LnT s ⟨#[]⟩):=⟨fun _=>rfl,fun he=>absurd (HE.o.1.symm.trans he) hg⟩;clear hg;go_wp2_with fail
   go_ret3
   exact⟨⟨_,by rw[HE.o.1,HE.o.2];rfl,HLT⟩,F2.o⟩
 ·have hd:((oldE s:Int) != 0)=true:=by simp;omega
  have hd2:((oldE s:Int)==0)=false:=by simp;omega
  have HE:Hid (lnE s=oldE s∧lnA s=Vw s∧LnT s ⟨#[]⟩):=by
   have e1:lnE s=oldE s:=by rw[lnE,if_neg h0]
   refine⟨e1,by rw[lnA,if_neg h0],fun _=>rfl,fun he=>absurd (e1.symm.trans he) h0⟩
  clear h0;go_wp2_with fail
  go_ret3
  exact⟨⟨_,by rw[HE.o.1,HE.o.2.1];rfl,HE.o.2.2⟩,H1.o.2⟩
theorem Uz{ah:List Nat}:∀{l:List QH}{gv:List Nat},(∀c∈l,Q3 c.gs=ah)→(l.map (·.to.1)).Nodup→(∀c∈l,c.to.1∉gv)→Js ah gv l=none
 | [],_,_,_,_=>rfl
 | c::l,gv,h1,h2,h3=>by
  rw[List.map_cons,List.nodup_cons]at h2;have hc:Kp ah gv c=true:=by
   unfold Kp;rw[h1 c (List.mem_cons_self ..),decide_eq_true rfl,Qt];have:=h3 c (List.mem_cons_self ..);simp[this]
  rw[Js,if_pos hc];refine Uz (fun d hd=>h1 d (List.mem_cons_of_mem _ hd)) h2.2 fun d hd hm=>?_;rcases List.mem_append.1 hm with hm|hm
  ·exact h3 d (List.mem_cons_of_mem _ hd) hm
  ·exact h2.1 (List.mem_map.2 ⟨d,hd,List.mem_singleton.1 hm⟩)
theorem Qfx{T:ByteArray}{A:List ABk}(hp:POk A)(hs:Sgl A)(h12:A.length≤12)(hz:T.size≤40000)(hb:QR T=-1)(hA:absP (Qq T).bs=A):rdF T=⟨0,0⟩∧JQ (Qq T).bs=none:=by
 have hl:(Qq T).bs.length=A.length:=by rw[←hA];simp[absP]
 have hbk:∀i,bkA A i=Zy (bkF (Qq T).bs i):=fun i=>by rw[←hA,QO]
 have hgo:∀b∈(Qq T).bs,∀p∈goalsF b.e,p.1<(Qq T).bs.length:=fun b hb p hp2=>by
  obtain⟨i,hi,rfl⟩:=List.mem_iff_getElem.1 hb;rw[hl];refine hp.goal i p.1 ?_;rw[suA,hbk,Zt hi];show p.1∈gsA (Zc _);rw[Qbb];exact List.mem_map.2 ⟨p,hp2,rfl⟩
 have hrs:∀b∈(Qq T).bs,∀c∈b.chs,c.rs.length=c.gs.length:=fun b hb c hc=>((WI T b hb).ch c hc).2.1;have hah:∀i (hi:i<(Qq T).bs.length),∀c∈(Qq T).bs[i].chs,Q3 c.gs=aheF (Qq T).bs i:=fun i hi c hc=>by
  have:=hp.src (b:=i) (c:=QL c) (by rw[hbk,Zt hi];exact List.mem_map.2 ⟨c,hc,rfl⟩);rw[NP (hrs _ (List.getElem_mem hi) c hc)]at this;rw[this,QbH,hA]
 have hcg:∀b∈(Qq T).bs,∀c∈b.chs,∀p∈c.gs,p.1<(Qq T).bs.length:=fun b hb c hc p hp2=>by
  obtain⟨i,hi,rfl⟩:=List.mem_iff_getElem.1 hb;have h1:p.1∈Q3 c.gs:=List.mem_map.2 ⟨p,hp2,rfl⟩;rw[hah i hi c hc]at h1;unfold aheF ZP at h1;exact List.mem_range.1 (List.mem_filter.1 h1).1
 have hlost:ZR (Qq T).bs=-1:=by
  unfold ZR;have:((Qq T).bs.flatMap Kf).find? (Xd (Qq T).bs.length)=none:=by
   rw[List.find?_eq_none];intro g hg;obtain⟨b,hb,hg⟩:=List.mem_flatMap.1 hg;unfold Kf chG at hg;unfold Xd;rcases List.mem_append.1 hg with hg|hg
   ·obtain⟨c,hc,hg⟩:=List.mem_flatMap.1 hg;have:=hcg b hb c hc g hg;simp;omega
   ·have:=hgo b hb g hg;simp;omega
  rw[this];rfl
 have hunf:Ka (Qq T).bs=-1:=Wj fun i hi=>by
  unfold Xw;rw[List.getElem?_eq_getElem hi];show Js _ [] (Qq T).bs[i].chs=none;refine Uz (fun c hc=>hah i hi c hc) ?_ (fun _ _=>by simp);have:=hs.chs i;rw[hbk,Zt hi]at this;have this:(((Qq T).bs[i].chs.map QL).map (·.to)).Nodup:=this;rw[List.map_map]at this;exact this
 refine⟨?_,?_⟩
 ·unfold rdF;rw[if_neg (by omega),hb,if_neg (by omega),dif_neg (by omega),hlost,if_neg (by omega),hunf,if_neg (by omega)]
 ·unfold JQ;have:((Qq T).bs.flatMap regsB).find? (fun r=>decide (4999<r.1))=none:=by
   rw[List.find?_eq_none];intro x hx;obtain⟨b,hb,hx⟩:=List.mem_flatMap.1 hx;obtain⟨i,hi,rfl⟩:=List.mem_iff_getElem.1 hb;have key:x.1<5000:=by
    unfold regsB Xg at hx;rcases List.mem_append.1 hx with hx|hx
    ·rcases List.mem_append.1 hx with hx|hx
     ·obtain⟨c,hc,hx⟩:=List.mem_flatMap.1 hx;have hm:QL c∈(bkA A i).chs:=by rw[hbk,Zt hi];exact List.mem_map.2 ⟨c,hc,rfl⟩
      rcases List.mem_cons.1 hx with rfl|hx
      ·exact hp.old (r:=c.to.1) (b:=i) (s:=-1) (.inl ⟨rfl,QL c,hm,rfl⟩)
      ·obtain⟨k,hk,rfl⟩:=List.mem_iff_getElem.1 hx;have hr:=hrs _ (List.getElem_mem hi) c hc;have hz:(c.gs[k]'(by omega),c.rs[k])∈c.gs.zip c.rs:=by
        rw[List.mem_iff_getElem];exact⟨k,by rw[List.length_zip];omega,by rw[List.getElem_zip]⟩
       exact hp.oldR (r:=c.rs[k].1) (b:=(c.gs[k]'(by omega)).1) (k:=_) (.inr ⟨rfl,.inr ⟨i,QL c,hm,JV.2 ⟨_,hz,rfl⟩⟩⟩)
     ·obtain⟨t,ht,hx⟩:=List.mem_flatMap.1 hx;obtain⟨j,hj,rfl⟩:=List.mem_iff_getElem.1 ht;have hm:(bkA A i).sts[j]?=some (QA (Qq T).bs[i].sts[j]):=by
       rw[hbk,Zt hi];show ((Qq T).bs[i].sts.map QA)[j]?=_;simp[hj]
      unfold Zj at hx;rcases List.mem_append.1 hx with hx|hx
      ·split at hx
       ·simp at hx
       ·rename_i h33;rw[List.mem_singleton]at hx;rw[hx];exact hp.old (b:=i) (s:=j) (.inr ⟨j,rfl,_,hm,by rw[Jv,if_neg h33]⟩)
      ·rw[←QaO]at hx;exact hp.oldR (b:=i) (k:=j) (.inl ⟨_,hm,by rw[Yp];exact List.mem_map.2 ⟨x,hx,rfl⟩⟩)
    ·unfold UI at hx;split at hx
     ·rename_i h63;rw[List.mem_singleton]at hx;rw[hx];refine hp.oldR (b:=i) (k:=_) (.inr ⟨rfl,.inl ?_⟩);rw[hbk,Zt hi];show _∈rdE (Zc _);unfold rdE;rw[if_pos (show (Zc (Qq T).bs[i].e).op=63 from h63)];exact List.mem_singleton.2 rfl
     ·simp at hx
   simp;omega
  rw[this];rfl
structure LF(s T:ByteArray):Prop where
 rd:rdF T=⟨0,0⟩
 sz:T.size≤40000
 rdd:Rdd T
 nw:JQ (Qq T).bs=none
 sg:sgE (Qq T).bs=(0,0)
 ln:Ln (absP (Qq T).bs)
 pk:POk (absP (Qq T).bs)
 eq:(Qq s).bs.length=(Qq T).bs.length
 ends:∀i (hi:i<(Qq s).bs.length) (hj:i<(Qq T).bs.length),(Qq s).bs[i].e.op=(Qq T).bs[i].e.op∧(Qq s).bs[i].e.one.1=(Qq T).bs[i].e.one.1∧(Qq s).bs[i].e.two.1=(Qq T).bs[i].e.two.1
 p1:Qe4 (Qq s).bs
 p2:Qe4 (Qq T).bs
 play:∀V f,playA (absP (Qq s).bs) V f=playA (absP (Qq T).bs) V f
theorem QiZ{s T:ByteArray}(h:lnE s=0)(hT:LnT s T):LF s T:=by
 have h0:oldE s=0:=by
  unfold lnE at h;by_cases h0:oldE s=0
  ·exact h0
  ·rw[if_neg h0]at h;exact h
 have hg:sgE (Qq s).bs=(0,0):=by
  rw[lnE,if_pos h0]at h;exact Wu h
 obtain⟨st,S,hl,rfl⟩:=hT.2 h;obtain⟨h1,h2⟩:=K1 (Vv h0).1;obtain⟨hk,_⟩:=QdQ h0 hg;have hco:=QW hk.rd;have eA:=Qai hk hl;have S1:=Qa1 hk.pk hk.sg hco hl.ok hl.fix;have em:absP (trR (coF (Qq s).bs) (mgR (coF (Qq s).bs) st) (Qq s).bs)=mgA (coF (Qq s).bs) st (absP (Qq s).bs):=Vn (fun b=>Wd _ _ b) _;have hW:∀r,Qt S r=true↔Wn (mgA (coF (Qq s).bs) st (absP (Qq s).bs)) r:=fun r=>by rw[←em];exact hl.wn r
 have hcm:∀b,coF (Qq s).bs b=true↔Cm (mgA (coF (Qq s).bs) st (absP (Qq s).bs)) b:=fun b=>by
  rw[Cm,NU];exact hco b
 have hPm:=GK (st:=st) hk.pk hco;have hSm:=QdJ hk.pk hk.sg hco S1;have hZ:=QiY (st:=st) hk.pk hco;have hPd:=Qin (W:=Qt S) hPm hcm hZ;have hSd:=Qim hPm hSm hcm hZ hW;have hX:=QdR h1 hk hl;have hL:=QdS h1 hk hl;have hlen:(absP (lnR (Qq s).bs st S)).length=(Qq s).bs.length:=by rw[eA,drA,JY,mgA,JY];simp[absP]
 have h12:=hk.rd.le;have hpos:=hk.rd.pos;obtain⟨r1,r2⟩:=QfP hX (by omega) _ rfl;generalize hTT:(⟨(pcT (absP (lnR (Qq s).bs st S))).toArray⟩:ByteArray)=T at *;have hz:T.size≤40000:=by
  rw[←hTT];show (pcT (absP (lnR (Qq s).bs st S))).toArray.size≤_;rw[List.size_toArray];omega
 rw[eA]at r1 hlen;obtain⟨q1,q2⟩:=Qfx hPd hSd (by omega) hz r2 r1;have he:(rdF T).e=0:=by rw[q1]
 have hR:=Ya he;have hlt:(Qq s).bs.length=(Qq T).bs.length:=by
  have:=congrArg List.length r1;rw[hlen]at this;simpa[absP] using this.symm
 refine⟨q1,hz,hR,q2,QcX hR.rd (VB he) (by rw[r1];exact hSd),by rw[r1];exact Qgd hk.pk hk.sg hco S1 hW,by rw[r1];exact hPd,hlt,fun i hi hj=>?_,(Ya h1).play h1,hR.play he,fun V f=>by rw[r1];exact Qce hk.pk hk.sg hco S1 hW V f⟩;have e1:Zy (Qq T).bs[i]=bkA (drA (coF (Qq s).bs) (Qt S) (mgA (coF (Qq s).bs) st (absP (Qq s).bs))) i:=by
  rw[←r1,QO,Zt hj]
 have hi2:i<(absP (Qq s).bs).length:=by simpa[absP] using hi
 have hi3:i<(mgA (coF (Qq s).bs) st (absP (Qq s).bs)).length:=by rw[mgA,JY];exact hi2
 rw[drA,Xc hi3,mgA,Xc hi2,QO,Zt hi]at e1;have e2:Zc (Qq T).bs[i].e=(Zy (Qq T).bs[i]).e:=rfl;have key:(Zc (Qq T).bs[i].e).op=(Qq s).bs[i].e.op∧(Zc (Qq T).bs[i].e).one=(Qq s).bs[i].e.one.1∧(Zc (Qq T).bs[i].e).two=(Qq s).bs[i].e.two.1:=by
  rw[e2,e1];have rn3:∀(f:Nat→Nat)(e:AEn),(rnE f e).op=e.op∧(rnE f e).one=e.one∧(rnE f e).two=e.two:=fun f e=>by
   unfold rnE;split<;>exact⟨rfl,rfl,rfl⟩
  cases coF (Qq s).bs i
  ·rw[if_neg (by decide),if_neg (by decide)];show (rnE (fun _=>0) (rnE (fun _=>0) (Zc (Qq s).bs[i].e))).op=_∧(rnE (fun _=>0) (rnE (fun _=>0) (Zc (Qq s).bs[i].e))).one=_∧(rnE (fun _=>0) (rnE (fun _=>0) (Zc (Qq s).bs[i].e))).two=_;obtain⟨a1,a2,a3⟩:=rn3 (fun _=>0) (rnE (fun _=>0) (Zc (Qq s).bs[i].e));obtain⟨b1,b2,b3⟩:=rn3 (fun _=>0) (Zc (Qq s).bs[i].e);rw[a1,a2,a3,b1,b2,b3];exact⟨rfl,rfl,rfl⟩
  ·rw[if_pos rfl,if_pos rfl];show (rnE (nm st) (Zc (Qq s).bs[i].e)).op=_∧(rnE (nm st) (Zc (Qq s).bs[i].e)).one=_∧(rnE (nm st) (Zc (Qq s).bs[i].e)).two=_;obtain⟨b1,b2,b3⟩:=rn3 (nm st) (Zc (Qq s).bs[i].e);rw[b1,b2,b3];exact⟨rfl,rfl,rfl⟩
 exact⟨key.1.symm,key.2.1.symm,key.2.2.symm⟩
end Go.Proofs.YtgfhfkgdmidhpaaGreatDoor
