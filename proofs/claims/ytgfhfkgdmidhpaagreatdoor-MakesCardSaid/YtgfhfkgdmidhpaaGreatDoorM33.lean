import Derived.Test.YtgfhfkgdmidhpaaGreatDoorM32
namespace Go.Proofs.YtgfhfkgdmidhpaaGreatDoor
open Go.RowKit
open Go.Proofs.Tryz
set_option maxRecDepth 100000
set_option maxHeartbeats 8000000
def gvF(b:Qm)(r:Nat):Bool:=chF b.chs r||b.sts.any fun t=>t.op != 33&&t.to.1==r
def gvrs(bs:List Qm)(r k:Nat):List Nat:=(List.range k).filter fun i=>gvF (bkF bs i) r
theorem N7{bs:List Qm}{r k:Nat}(h:gvF (bkF bs k) r=true):gvrs bs r (k+1)=gvrs bs r k++[k]:=by
 unfold gvrs;rw[List.range_succ,List.filter_append];simp[h]
theorem QhP{bs:List Qm}{r k:Nat}(h:gvF (bkF bs k) r=false):gvrs bs r (k+1)=gvrs bs r k:=by
 unfold gvrs;rw[List.range_succ,List.filter_append];simp[h]
theorem N8(bs r k):(gvrs bs r k).Pairwise (· < ·):=List.Pairwise.filter _ List.pairwise_lt_range
theorem RJ{bs r k x}(h:x∈gvrs bs r k):x<k:=List.mem_range.1 (List.mem_filter.1 h).1
theorem N9(bs r k):(gvrs bs r k).length≤k:=by
 have:=List.length_filter_le (fun i=>gvF (bkF bs i) r) (List.range k);rw[List.length_range]at this;exact this
structure GvI(w:World)(cur:List Nat)(v:Value)(wr:World):Prop where
 a:wr.heap[w.heap.size]?=some (.cells #[.slice none 0 0] 82 (0,0))
 b:wr.heap[w.heap.size+1]?=some (.cells #[v] 82 (0,0))
 o:wr.ownsRow w.heap.size 143 1 v cur.length (Qe cur)
 n:v.ownBlock≠some (w.heap.size+1)
 z:v.ownBlock≠some w.heap.size
 f:Below w.heap.size w wr
theorem GvI.keeps{w cur v wr wr'}(h:GvI w cur v wr)(F:Below wr.heap.size wr wr'):GvI w cur v wr':=
 ⟨by rw[F.block _ (lt_of_block h.a)];exact h.a,by rw[F.block _ (lt_of_block h.b)];exact h.b,Qd h.o (Qh F) trivial,h.n,h.z,h.f.trans (F.mono h.f.size)⟩
theorem GvI.put{w cur cur' v v' wr wr'}(h:GvI w cur v wr)(o:wr'.ownsRow w.heap.size 143 1 v' cur'.length (Qe cur'))(hp:Put (w.heap.size+1) 0 v v' wr wr'):GvI w cur' v' wr':=by
 refine⟨?_,NE h.b hp,o,QbF hp (lt_of_block h.b) h.n,?_,Put.below h.f (by omega) h.o hp h.f.size⟩
 ·rw[hp.block _ (lt_of_block h.a) (by omega) (fun e=>h.z e.symm)];exact h.a
 ·rcases hp.new with e|⟨g,e,hg⟩
  ·rw[e];exact h.z
  ·rw[e];intro q;cases q;have:=lt_of_block h.a;omega
theorem QhY(bs:List Qm)(r mb base:Nat)(v:Value)(w:World)(hP:PBs w base bs v)(hm:w.cell? ⟨mb,3,none⟩=some v)(hf:Hid (∀b∈bs,QU 1000000 b))(hn:bs.length≤1000):
  Calls prog 179 #[.pointer (some ⟨mb,0,none⟩),.int .i64 r] w fun x w'=>∃v',x=.returned (.agg #[v'])∧Hid (w'.ownsRow w.heap.size 143 1 v' (gvrs bs r bs.length).length (Qe (gvrs bs r bs.length))∧Below w.heap.size w w'):=by
 have HP:=Qc hP;obtain⟨pv,cv,rfl⟩:=hP.slice;have hmb:mb<w.heap.size:=Zh _ _ hm;obtain⟨W,hW⟩:∃W,W=(w.alloc (.cells #[.slice none 0 0] 82)).alloc (.cells #[.slice none 0 0] 82):=⟨_,rfl⟩;obtain⟨g0,g1,hz,f2⟩:=two w (.cells #[.slice none 0 0] 82) (.cells #[.slice none 0 0] 82);rw[←hW]at g0 g1 hz f2;have hm2:=(f2.cell (p:=⟨mb,3,none⟩) hmb).trans hm;have H0:Hid (GvI w (gvrs bs r 0) (.slice none 0 0) W):=⟨g0,g1,World.ownsRow_nil _ _ _ _,(by simp[Value.ownBlock]),(by simp[Value.ownBlock]),f2⟩;clear hP hm g0 g1 f2;rw[hW]at hm2;go_enter func179,ntmps179;go_wp2_with fail
 go_step3
 go_wp2_with fail
 go_step3
 go_wp2_with fail;clear hm2;rw[←hW];clear hW hz
 go_loopw [19] (fun j wr=>∃(k:Nat)(v:Value),k≤bs.length∧j=.int .i64 k∧Hid (GvI w (gvrs bs r k) v wr)) (fun j _=>bs.length-(intOf j).toNat)
 case atStart=>exact⟨0,_,by omega,rfl,H0⟩
 case round=>
  clear H0;obtain⟨k,v,hk,rfl,HI⟩:=hrel;rename World=>wA;have hza:=lt_of_block HI.o.b;by_cases hlt:k<bs.length
  ·obtain⟨gv,qc,cc,ps,cs1,rfl,_,_,_,OC,OS,d0,d1,d2,d3⟩:=(HP.o.keeps (Qr.below HI.o.f)).at hlt;obtain⟨T,x,hT⟩:=QQ bs[k].e;rw[hT]at d3;have HBK:Hid (bkF bs k=bs[k]):=Zj hlt;have HFI:=Qc (hf.out _ (Qx hlt));have hcl:=HFI.o.cl;have hsl:=HFI.o.sl;generalize bs[k]=bb at *;have FA:=(Below.refl wA.heap.size wA).alloc (Qi _) (.cells #[.int .i64 bb.at_,.slice qc bb.chs.length cc,.slice ps bb.sts.length cs1,.iface T x] 104);have H1:Hid (GvI w (gvrs bs r k) v (wA.alloc (.cells #[.int .i64 bb.at_,.slice qc bb.chs.length cc,.slice ps bb.sts.length cs1,.iface T x] 104))∧ZU (wA.alloc (.cells #[.int .i64 bb.at_,.slice qc bb.chs.length cc,.slice ps bb.sts.length cs1,.iface T x] 104)) base bb.chs (.slice qc bb.chs.length cc)∧(wA.alloc (.cells #[.int .i64 bb.at_,.slice qc bb.chs.length cc,.slice ps bb.sts.length cs1,.iface T x] 104)).ownsRow base 150 1 (.slice ps bb.sts.length cs1) bb.sts.length (bb.sts.map QS)):=⟨HI.o.keeps FA,OC.keeps (Qh FA) trivial trivial,OS.alloc _⟩;have gW:=Qc (heap_alloc_last wA (.cells #[.int .i64 bb.at_,.slice qc bb.chs.length cc,.slice ps bb.sts.length cs1,.iface T x] 104));clear FA HI OC OS hT;go_wp2_with fail;clear d0 d1 d2 d3;generalize wA.alloc (.cells #[.int .i64 bb.at_,.slice qc bb.chs.length cc,.slice ps bb.sts.length cs1,.iface T x] 104)=W1 at *;refine(Qak bb r base qc cc ps bb.sts.length cs1 T x W1 H1.o.2.1 hcl).mono ?_;rintro e w2 ⟨rfl,f2⟩;have H2:Hid (GvI w (gvrs bs r k) v w2∧w2.ownsRow base 150 1 (.slice ps bb.sts.length cs1) bb.sts.length (bb.sts.map QS)∧w2.heap[wA.heap.size]?=some (.cells #[.int .i64 bb.at_,.slice qc bb.chs.length cc,.slice ps bb.sts.length cs1,.iface T x] 104 (0,0))):=⟨H1.o.1.keeps f2,Qd H1.o.2.2 (Qh f2) trivial,by rw[f2.block _ (lt_of_block gW.out)];exact gW.out⟩;have hz2:=H2.o.1.f.size;have hz3:=lt_of_block H2.o.1.b;have hgl:=N9 bs r k;clear f2 H1 gW;obtain⟨hb,hhb⟩:∃hb,hb=chF bb.chs r:=⟨_,rfl⟩;rw[←hhb];have HHB:=Qc hhb;clear hhb
   cases hb with
   | true=>
    have HGV:Hid (gvF (bkF bs k) r=true):=by
     show _=_;rw[HBK.o,gvF,←HHB.o];rfl
    have b0:=Qb H2.o.1.b 0;have z0:=Qg H2.o.1.b 0;simp at b0;go_wp2_with fail;refine(VY (gvrs bs r k) k (fun y hy=>RJ hy) (N8 _ _ _) (w.heap.size+1) 0 w.heap.size v w2 b0 z0 H2.o.1.o (by omega) (by omega) H2.o.1.n).mono ?_;rintro e w3 ⟨rfl,v3,H3⟩;have HN:Hid (GvI w (gvrs bs r (k+1)) v3 w3):=by
     refine H2.o.1.put ?_ H3.o.2;rw[N7 HGV.o,Qw];exact H3.o.1
    clear H3 H2 b0 z0;go_wp2_with fail;go_roundw
    case rel=>exact⟨k+1,v3,by omega,by go_num,HN⟩
    case measure=>simp[intOf];omega
   | false=>
    have b2:=Qb H2.o.2.2 2;simp at b2;go_wp2_with fail;clear b2;have B2:Hid ((∀s∈bb.sts.take 0,(s.op != 33&&s.to.1==r)=false)∧GvI w (gvrs bs r k) v w2∧w2.ownsRow base 150 1 (.slice ps bb.sts.length cs1) bb.sts.length (bb.sts.map QS)∧w2.heap[wA.heap.size]?=some (.cells #[.int .i64 bb.at_,.slice qc bb.chs.length cc,.slice ps bb.sts.length cs1,.iface T x] 104 (0,0))):=⟨fun s hs=>absurd hs (by simp),H2.o⟩;clear H2
    go_loopw [33] (fun j wr=>∃t:Nat,t≤bb.sts.length∧j=.int .i64 t∧Hid ((∀s∈bb.sts.take t,(s.op != 33&&s.to.1==r)=false)∧GvI w (gvrs bs r k) v wr∧wr.ownsRow base 150 1 (.slice ps bb.sts.length cs1) bb.sts.length (bb.sts.map QS)∧wr.heap[wA.heap.size]?=some (.cells #[.int .i64 bb.at_,.slice qc bb.chs.length cc,.slice ps bb.sts.length cs1,.iface T x] 104 (0,0)))) (fun j _=>bb.sts.length-(intOf j).toNat)
    case atStart=>exact⟨0,by omega,rfl,B2⟩
    case round=>
     clear B2;obtain⟨t,ht,rfl,HJ⟩:=hrel;rename World=>wC;by_cases htl:t<bb.sts.length
     ·obtain⟨gs,rfl,_,_⟩:=Qk HJ.o.2.2.1 (by omega);obtain⟨T2,x2,fr,fg,hsv,_,_,_,hgm,hgt,hgc⟩:=Ns bb.sts[t];have cS:=Qf HJ.o.2.2.1 (j:=t) (u:=.iface T2 x2) (by rw[←hsv];simp[htl]);have HG:=Qc (And.intro hgm (And.intro hgt hgc));have HTK:Hid (bb.sts.take (t+1)=bb.sts.take t++[bb.sts[t]]):=Zb htl;have HM:Hid (bb.sts[t]∈bb.sts):=Qx htl;clear hsv hgm hgt hgc;generalize bb.sts[t]=tt at *;go_wp2_with fail;rw[HG.o.1,Result.andThen_ok];simp only[HG.o.2.1];unfold Oper.upon;refine(HG.o.2.2 _).mono ?_;rintro e w4 ⟨rfl,f4⟩;have H4:Hid ((∀s∈bb.sts.take t,(s.op != 33&&s.to.1==r)=false)∧GvI w (gvrs bs r k) v w4∧w4.ownsRow base 150 1 (.slice (some ⟨gs,0,none⟩) bb.sts.length cs1) bb.sts.length (bb.sts.map QS)∧w4.heap[wA.heap.size]?=some (.cells #[.int .i64 bb.at_,.slice qc bb.chs.length cc,.slice (some ⟨gs,0,none⟩) bb.sts.length cs1,.iface T x] 104 (0,0))):=⟨HJ.o.1,HJ.o.2.1.keeps f4,Qd HJ.o.2.2.1 (Qh f4) trivial,by rw[f4.block _ (lt_of_block HJ.o.2.2.2)];exact HJ.o.2.2.2⟩;clear f4 HJ cS HG;by_cases h33:tt.op=33
      ·rw[if_pos h33,show (tt.op != 33)=false by simp[h33]];have FB:=(Below.refl w4.heap.size w4).alloc (Qi _) (.cells #[.int .i64 0,.int .i64 0] 132);have HN:Hid ((∀s∈bb.sts.take (t+1),(s.op != 33&&s.to.1==r)=false)∧GvI w (gvrs bs r k) v (w4.alloc (.cells #[.int .i64 0,.int .i64 0] 132))∧(w4.alloc (.cells #[.int .i64 0,.int .i64 0] 132)).ownsRow base 150 1 (.slice (some ⟨gs,0,none⟩) bb.sts.length cs1) bb.sts.length (bb.sts.map QS)∧(w4.alloc (.cells #[.int .i64 0,.int .i64 0] 132)).heap[wA.heap.size]?=some (.cells #[.int .i64 bb.at_,.slice qc bb.chs.length cc,.slice (some ⟨gs,0,none⟩) bb.sts.length cs1,.iface T x] 104 (0,0))):=by
        refine⟨fun s hs=>?_,H4.o.2.1.keeps FB,H4.o.2.2.1.alloc _,Qo H4.o.2.2.2 _⟩;rw[HTK.o]at hs;rcases QB.1 hs with hs|hs
        ·exact H4.o.1 s hs
        ·rw[List.mem_singleton.1 hs];simp[h33]
       clear FB H4 h33;go_wp2_with fail;go_roundw
       case rel=>exact⟨t+1,by omega,by go_num,HN⟩
       case measure=>simp[intOf];omega
      ·rw[if_neg h33,show (tt.op != 33)=true by simp[h33]];have FB:=(Below.refl w4.heap.size w4).alloc (Qi _) (.cells #[.int .i64 tt.to.1,.int .i64 tt.to.2] 132);by_cases hto:tt.to.1=r
       ·have hd:((tt.to.1:Int)==(r:Int))=true:=by simp;omega
        have HGV:Hid (gvF (bkF bs k) r=true):=by
         show _=_;rw[HBK.o,gvF,←HHB.o,Bool.false_or,List.any_eq_true];exact⟨tt,HM.o,by simp[h33,hto]⟩
        have H5:Hid (GvI w (gvrs bs r k) v (w4.alloc (.cells #[.int .i64 tt.to.1,.int .i64 tt.to.2] 132))):=H4.o.2.1.keeps FB;clear FB H4 h33 hto;go_wp2_with fail;generalize w4.alloc (.cells #[.int .i64 tt.to.1,.int .i64 tt.to.2] 132)=W5 at *;have b0:=Qb H5.o.b 0;have z0:=Qg H5.o.b 0;simp at b0;have hz5:=H5.o.f.size;refine(VY (gvrs bs r k) k (fun y hy=>RJ hy) (N8 _ _ _) (w.heap.size+1) 0 w.heap.size v W5 b0 z0 H5.o.o (by omega) (by omega) H5.o.n).mono ?_;rintro e w6 ⟨rfl,v6,H6⟩;have HN:Hid (GvI w (gvrs bs r (k+1)) v6 w6):=by
         refine H5.o.put ?_ H6.o.2;rw[N7 HGV.o,Qw];exact H6.o.1
        clear H6 H5 b0 z0;go_wp2_with fail;go_roundw
        case rel=>exact⟨k+1,v6,by omega,by go_num,HN⟩
        case measure=>simp[intOf];omega
       ·have hd:((tt.to.1:Int)==(r:Int))=false:=by simp;omega
        have HN:Hid ((∀s∈bb.sts.take (t+1),(s.op != 33&&s.to.1==r)=false)∧GvI w (gvrs bs r k) v (w4.alloc (.cells #[.int .i64 tt.to.1,.int .i64 tt.to.2] 132))∧(w4.alloc (.cells #[.int .i64 tt.to.1,.int .i64 tt.to.2] 132)).ownsRow base 150 1 (.slice (some ⟨gs,0,none⟩) bb.sts.length cs1) bb.sts.length (bb.sts.map QS)∧(w4.alloc (.cells #[.int .i64 tt.to.1,.int .i64 tt.to.2] 132)).heap[wA.heap.size]?=some (.cells #[.int .i64 bb.at_,.slice qc bb.chs.length cc,.slice (some ⟨gs,0,none⟩) bb.sts.length cs1,.iface T x] 104 (0,0))):=by
         refine⟨fun s hs=>?_,H4.o.2.1.keeps FB,H4.o.2.2.1.alloc _,Qo H4.o.2.2.2 _⟩;rw[HTK.o]at hs;rcases QB.1 hs with hs|hs
         ·exact H4.o.1 s hs
         ·rw[List.mem_singleton.1 hs];simp[hto]
        clear FB H4 h33 hto;go_wp2_with fail;go_roundw
        case rel=>exact⟨t+1,by omega,by go_num,HN⟩
        case measure=>simp[intOf];omega
     ·have HGV:Hid (gvF (bkF bs k) r=false):=by
       show _=_;rw[HBK.o,gvF,←HHB.o,Bool.false_or];rw[List.any_eq_false];intro s hs;have:=HJ.o.1 s (by rw[Zg (by omega)];exact hs);rw[this];decide
      have HN:Hid (GvI w (gvrs bs r (k+1)) v wC):=by rw[QhP HGV.o];exact HJ.o.2.1
      clear HJ;go_wp2_with fail;go_roundw
      case rel=>exact⟨k+1,v,by omega,by go_num,HN⟩
      case measure=>simp[intOf];omega
  ·have hke:k=bs.length:=by omega
   subst hke;obtain⟨pr,cr,rfl⟩:=Qa HI.o.o;have e0:=Qb HI.o.a 0;have e1:=Qb HI.o.b 0;have z0:=Qg HI.o.a 0;simp at e0 e1;have H3:=Qc HI.o;clear HI;go_wp2_with fail;have q1:=Qq H3.o.a 0 (.slice pr (gvrs bs r bs.length).length cr);have k0:=Qb q1 0;simp at k0;simp only[Exit.noGoto_ret];refine bodyPost_ret (v:=.agg #[.slice pr (gvrs bs r bs.length).length cr]) (by simp[results,results179,go_sem,k0]) rfl ⟨_,rfl,?_⟩;exact⟨QL H3.o.o H3.o.a (by decide),Qp H3.o.f _ _ _ (Qi _)⟩
theorem QgS(bs:List Qm)(x:Nat)(hgl:∀b∈bs,∀p∈goalsF b.e,p.1<bs.length):dif (bhs bs (QW bs x)) (dif (QW bs x) [x])=JU (suF bs) bs.length x:=by
 refine YH (YQ (Qct _ _)) fun y=>?_;rw[XX,XX,YR];simp only[QgU,Bool.and_eq_true,List.any_eq_true,List.mem_range,List.contains_iff_mem,Bool.or_eq_true,beq_iff_eq,Bool.not_eq_true'];constructor
 ·rintro⟨⟨i,hi,hy⟩,hn⟩;rw[QW,Zk]at hi;refine⟨XB hgl i y hy,⟨i,hi.1,hy,hi.2⟩,?_⟩;by_cases e:x=y
  ·exact .inl e
  ·right
   cases h:ZG (suF bs) bs.length x y with
   | false=>rfl
   | true=>exact absurd ⟨by rw[QW,Zk];exact⟨XB hgl i y hy,h⟩,by rw[QF];exact fun e'=>e e'.symm⟩ hn
 ·rintro⟨hyn,⟨k,hk,hy,ho⟩,h2⟩;refine⟨⟨k,by rw[QW,Zk];exact⟨hk,ho⟩,hy⟩,fun h=>?_⟩;rw[QW,Zk,QF]at h;rcases h2 with e|h2
  ·exact h.2 e.symm
  ·rw[h.1.2]at h2;cases h2
theorem Qk8(bs:List Qm)(B base x:Nat)(v va vu:Value)(w:World)(hP:PBs w base bs v)(ha:∃p n c,va=.slice p n c)(hu:XK B w vu bs.length (QW bs))(hgl:Hid (∀b∈bs,∀p∈goalsF b.e,p.1<bs.length))(hx:x<bs.length)(hn:bs.length≤1000):
  Calls prog 181 #[.agg #[v,va,vu],.int .i64 x] w fun e w'=>∃v',e=.returned (.agg #[v'])∧w'.ownsRow w.heap.size 143 1 v' (JU (suF bs) bs.length x).length (Qe (JU (suF bs) bs.length x))∧Below w.heap.size w w':=by
 have HP:=Qc hP;obtain⟨pv,cv,rfl⟩:=hP.slice;obtain⟨pa,na,ca,rfl⟩:=ha;obtain⟨pu,cu,rfl⟩:=hu.slice;obtain⟨g,u,rfl,_,hg,hc,_,ho⟩:=hu.at hx;obtain⟨p1,c1,rfl⟩:=Qa ho;have HO:=Qc ho;have hcal:∀o1 o2,((w.alloc o1).alloc o2).cell? ⟨g,x,none⟩=some (.slice p1 (QW bs x).length c1):=fun o1 o2=>by
  rw[World.cell?_of_block (w:=w.alloc o1) (Below.heap_alloc (w.alloc o1) o2 _ (by rw[Qt];exact Nat.lt_succ_of_lt hg)),World.cell?_of_block (w:=w) (Below.heap_alloc w o1 _ hg)];exact hc
 clear ho hu hc hP;go_enter func181,ntmps181;go_wp2_with fail;obtain⟨W3,hW3⟩:∃W3,W3=((w.alloc (.cells #[.slice pv bs.length cv,.slice pa na ca,.slice (some ⟨g,0,none⟩) bs.length cu] 85)).alloc (.cells #[.slice none 0 0] 82)).alloc (.cells #[.slice p1 (QW bs x).length c1] 82):=⟨_,rfl⟩;rw[←hW3];obtain⟨g0,g1,g2,hz,f3⟩:=Yf w (.cells #[.slice pv bs.length cv,.slice pa na ca,.slice (some ⟨g,0,none⟩) bs.length cu] 85) (.cells #[.slice none 0 0] 82) (.cells #[.slice p1 (QW bs x).length c1] 82);rw[←hW3]at g0 g1 g2 hz f3;have HZ:=Qc (And.intro g0 (And.intro g1 (And.intro g2 (And.intro f3 (Qd HO.o (Qh f3) trivial)))));have k2:=Qb g2 0;simp at k2;have LU:(QW bs x).length≤1000000:=Qy (Z2 _ _) (by omega);have hal1:∀o,(W3.alloc o).cell? ⟨w.heap.size+1+1,0,none⟩=some (.slice p1 (QW bs x).length c1):=fun o=>by have:=Qb (Qo g2 o) 0;simpa using this
 have hal2:∀o o',((W3.alloc o).alloc o').cell? ⟨w.heap.size+1+1,0,none⟩=some (.slice p1 (QW bs x).length c1):=fun o o'=>by have:=Qb (Qo (Qo g2 o) o') 0;simpa using this
 clear hcal hW3 g0 g1 f3;rename_i Q' K hK;have TAIL:∀(zb:Nat)(w7:World)(p6:Option Addr)(c6:Nat)(t12 t13 t14 t15 t16:Value),Hid (w7.heap[w.heap.size]?=some (.cells #[.slice pv bs.length cv,.slice pa na ca,.slice (some ⟨g,0,none⟩) bs.length cu] 85 (0,0))∧w7.heap[w.heap.size+1]?=some (.cells #[.slice none 0 0] 82 (0,0))∧w7.heap[w.heap.size+1+1]?=some (.cells #[.slice p1 (QW bs x).length c1] 82 (0,0))∧w7.heap[zb]?=some (.cells #[.slice p6 (dif (QW bs x) [x]).length c6] 82 (0,0))∧w7.ownsRow 0 143 1 (.slice p6 (dif (QW bs x) [x]).length c6) (dif (QW bs x) [x]).length (Qe (dif (QW bs x) [x]))∧Below w.heap.size w w7∧w.heap.size+3≤zb) →
   Exit.then K Q' Exit.normal { tmps:=#[.agg #[.slice pv bs.length cv,.slice pa na ca,.slice (some ⟨g,0,none⟩) bs.length cu],.int .i64 x,.pointer (some ⟨w.heap.size,0,none⟩),undef,.pointer (some ⟨w.heap.size+1,0,none⟩),.pointer (some ⟨w.heap.size+1+1,0,none⟩),.pointer (some ⟨zb,0,none⟩),.pointer (some ⟨w.heap.size,2,none⟩),.slice (some ⟨g,0,none⟩) bs.length cu,.int .i64 x,.pointer (some ⟨g,x,none⟩),.agg #[.slice p1 (QW bs x).length c1],t12,t13,t14,t15,t16,undef,undef,undef,undef,undef,undef],defers:=[] } w7:=by
  intro zb w7 p6 c6 t12 t13 t14 t15 t16 HF;obtain⟨r0,r1,r2,rz,ro,rf,rb⟩:=HF.o;have s7:=rf.size;have lz:zb<w7.heap.size:=lt_of_block rz;have l0:w.heap.size<w7.heap.size:=by omega
  have l1:w.heap.size+1<w7.heap.size:=by omega
  have l2:w.heap.size+1+1<w7.heap.size:=by omega
  have j0:=Qb r0 0;have j2:=Qb r2 0;have jz:=Qb rz 0;have j1:=Qb r1 0;have j1f:=Qg r1 0;simp at j0 j2 jz j1;have n0:¬(w.heap.size+1=zb):=by omega
  have HP7:=Qc (HP.o.keeps (w':=w7.drew) (Qr.below (w':=w7) rf));have HO7:=Qc (Qd HO.o (Qh rf) trivial);have HSU:Hid (∀y∈QW bs x,y<bs.length):=fun y hy=>(Zk.1 hy).1;have LS:(QW bs x).length≤1000:=Qy (Z2 _ _) hn;have LB:(bhs bs (QW bs x)).length≤1000000:=Qy (Na hgl.out) (by omega);have LD:(dif (QW bs x) [x]).length≤1000000:=Qy (Qh7 _ _) (by omega);have HSD:Hid ((dif (QW bs x) [x]).Pairwise (· < ·)):=YQ (Kz _ _);have HRD:=Qc (QgS bs x hgl.out);clear r0 r1 r2 rz ro rf k2;go_wp2_with fail
  go_region_held (fun w'=>w'.cell? ⟨w.heap.size,0,none⟩=some (.slice pv bs.length cv)∧w'.cell? ⟨w.heap.size+1+1,0,none⟩=some (.slice p1 (QW bs x).length c1)∧w'.cell? ⟨zb,0,none⟩=some (.slice p6 (dif (QW bs x) [x]).length c6)∧w'.frozen? ⟨w.heap.size+1,0,none⟩=false) (first | (simp[*];done) | (simp[*,World.cell?_setCell_far];done))
   (first | (go_at_call 166;refine(Qcv bs (QW bs x) base B _ _ w7.drew HP7.o HO7.o HSU hgl hn LS).mono ?_;rintro e w8 ⟨v8,rfl,o8,f8⟩;obtain⟨p8,c8,rfl⟩:=Qa o8;have f8':Below w7.heap.size w7 w8:=⟨f8.os,f8.tape,f8.output,f8.size,f8.block⟩;have s8:=f8'.size;have y0:=f8'.cell (p:=⟨w.heap.size,0,none⟩) l0;have y1:=f8'.cell (p:=⟨w.heap.size+1,0,none⟩) l1;have y1f:=f8'.frozen (p:=⟨w.heap.size+1,0,none⟩) l1;have y2:=f8'.cell (p:=⟨w.heap.size+1+1,0,none⟩) l2;have yz:=f8'.cell (p:=⟨zb,0,none⟩) lz;have O8:=Qc (And.intro o8 f8');clear o8 f8 f8') | (go_at_call 118;refine(Wc (bhs bs (QW bs x)) (dif (QW bs x) [x]) _ 0 _ _ w8 O8.o.1 (Qd HF.o.2.2.2.2.1 (Qh O8.o.2) trivial) HSD LB LD).mono ?_;rintro e w9 ⟨v9,rfl,o9,f9⟩;rw[HRD.o]at o9;obtain⟨p9,c9,rfl⟩:=Qa o9;have s9:=f9.size;have x0:=f9.cell (p:=⟨w.heap.size,0,none⟩) (show w.heap.size<w8.heap.size by omega);have x1:=f9.cell (p:=⟨w.heap.size+1,0,none⟩) (show w.heap.size+1<w8.heap.size by omega);have x1f:=f9.frozen (p:=⟨w.heap.size+1,0,none⟩) (show w.heap.size+1<w8.heap.size by omega);have x2:=f9.cell (p:=⟨w.heap.size+1+1,0,none⟩) (show w.heap.size+1+1<w8.heap.size by omega);have xz:=f9.cell (p:=⟨zb,0,none⟩) (show zb<w8.heap.size by omega);have O9:=Qc (And.intro o9 (O8.o.2.trans (f9.mono s8)));clear o9 f9))
  all_goals
   have F9:=Qc (And.intro (Qj (QE O9.o.1 (w.heap.size+1) 0 (.slice p9 (JU (suF bs) bs.length x).length c9) (show w.heap.size+1<w8.heap.size by omega)) (show w.heap.size≤w8.heap.size by omega)) (Qp (HF.o.2.2.2.2.2.1.trans (O9.o.2.mono (by omega))) (w.heap.size+1) 0 (.slice p9 (JU (suF bs) bs.length x).length c9) (by omega)));clear O8 O9 HF HP7 HO7;go_wp2_with fail;refine bodyPost_ret (v:=.agg #[.slice p9 (JU (suF bs) bs.length x).length c9]) (by simp[results,results181,go_sem,x1,y1,j1]) rfl ⟨_,rfl,?_,?_⟩
   ·exact F9.o.1
   ·exact F9.o.2
 have HA4:Hid ((W3.alloc (.cells #[.int .i64 x] 143)).drew.ownsRow 0 143 1 (.slice (some ⟨W3.heap.size,0,none⟩) 1 1) ([x]:List Nat).length (Qe [x])):=Qj (ZK W3 W3.heap.size 143 1 1 #[.int .i64 x] (Qi _) rfl (by decide)) (Nat.zero_le _);have HB4:Hid (((W3.alloc (.cells #[.slice none 0 0] 82)).alloc (.cells #[.int .i64 x] 143)).drew.ownsRow 0 143 1 (.slice (some ⟨W3.heap.size+1,0,none⟩) 1 1) ([x]:List Nat).length (Qe [x])):=by
  have:=Qj (ZK (W3.alloc (.cells #[.slice none 0 0] 82)) (W3.alloc (.cells #[.slice none 0 0] 82)).heap.size 143 1 1 #[.int .i64 x] (Qi _) rfl (by decide)) (Nat.zero_le _);rw[Qt]at this;exact this
 have HC4:Hid (((W3.alloc (.cells #[.int .i64 x] 143)).alloc (.cells #[.slice none 0 0] 82)).drew.ownsRow 0 143 1 (.slice (some ⟨W3.heap.size,0,none⟩) 1 1) ([x]:List Nat).length (Qe [x])):=Qj ((ZK W3 W3.heap.size 143 1 1 #[.int .i64 x] (Qi _) rfl (by decide)).alloc _) (Nat.zero_le _);have FW:Hid (∀w5,Below W3.heap.size W3 w5→Below w.heap.size w w5∧w5.ownsRow B 143 1 (.slice p1 (QW bs x).length c1) (QW bs x).length (Qe (QW bs x))):=fun w5 f=>⟨HZ.o.2.2.2.1.trans (f.mono (by omega)),Qd HZ.o.2.2.2.2 (Qh f) trivial⟩;have FA:Hid (∀o w5,Below (W3.alloc o).drew.heap.size (W3.alloc o).drew w5→Below W3.heap.size W3 w5):=fun o w5 f=>by
  have f':=(Below.refl W3.heap.size W3).alloc (Qi _) o;have f'':Below W3.heap.size W3 (W3.alloc o).drew:=⟨f'.os,f'.tape,f'.output,f'.size,f'.block⟩;exact f''.trans (f.mono (by show W3.heap.size≤(W3.alloc _).heap.size;rw[Qt];exact Nat.le_succ _))
 have FB:Hid (∀o o' w5,Below ((W3.alloc o).alloc o').drew.heap.size ((W3.alloc o).alloc o').drew w5→Below W3.heap.size W3 w5∧w5.heap[W3.heap.size]?=some o∧w5.heap[W3.heap.size+1]?=some o'):=fun o o' w5 f=>by
  have f':=((Below.refl W3.heap.size W3).alloc (Qi _) o).alloc (by rw[Qt];exact Nat.le_succ _) o';have f'':Below W3.heap.size W3 ((W3.alloc o).alloc o').drew:=⟨f'.os,f'.tape,f'.output,f'.size,f'.block⟩;have hsz:((W3.alloc o).alloc o').drew.heap.size=W3.heap.size+2:=by show ((W3.alloc o).alloc o').heap.size=_;rw[Qt,Qt]
  obtain⟨t0,t1,_,_⟩:=two W3 o o';exact⟨f''.trans (f.mono (by omega)),by rw[f.block _ (by omega)];exact t0,by rw[f.block _ (by omega)];exact t1⟩
 have FA2:Hid (∀(w6:World)(p6:Option Addr)(c6:Nat),(w6.ownsRow 0 143 1 (.slice p6 (dif (QW bs x) [x]).length c6) (dif (QW bs x) [x]).length (Qe (dif (QW bs x) [x]))∧Below W3.heap.size W3 w6)→(w6.alloc (.cells #[.slice p6 (dif (QW bs x) [x]).length c6] 82)).heap[w.heap.size]?=some (.cells #[.slice pv bs.length cv,.slice pa na ca,.slice (some ⟨g,0,none⟩) bs.length cu] 85 (0,0))∧(w6.alloc (.cells #[.slice p6 (dif (QW bs x) [x]).length c6] 82)).heap[w.heap.size+1]?=some (.cells #[.slice none 0 0] 82 (0,0))∧(w6.alloc (.cells #[.slice p6 (dif (QW bs x) [x]).length c6] 82)).heap[w.heap.size+1+1]?=some (.cells #[.slice p1 (QW bs x).length c1] 82 (0,0))∧(w6.alloc (.cells #[.slice p6 (dif (QW bs x) [x]).length c6] 82)).heap[w6.heap.size]?=some (.cells #[.slice p6 (dif (QW bs x) [x]).length c6] 82 (0,0))∧(w6.alloc (.cells #[.slice p6 (dif (QW bs x) [x]).length c6] 82)).ownsRow 0 143 1 (.slice p6 (dif (QW bs x) [x]).length c6) (dif (QW bs x) [x]).length (Qe (dif (QW bs x) [x]))∧Below w.heap.size w (w6.alloc (.cells #[.slice p6 (dif (QW bs x) [x]).length c6] 82))∧w.heap.size+3≤w6.heap.size):=by
  rintro w6 p6 c6 ⟨o,f⟩;obtain⟨g0,g1,g2',f3,_⟩:=HZ.o;have sz:=f.size;exact⟨Qo (by rw[f.block _ (by omega)];exact g0) _,Qo (by rw[f.block _ (by omega)];exact g1) _,Qo (by rw[f.block _ (by omega)];exact g2') _,heap_alloc_last _ _,o.alloc _,(f3.trans (f.mono (by omega))).alloc (by omega) _,by omega⟩
 have FS2:Hid (∀(zb:Nat)(w6:World)(p6:Option Addr)(c6:Nat),(w6.ownsRow 0 143 1 (.slice p6 (dif (QW bs x) [x]).length c6) (dif (QW bs x) [x]).length (Qe (dif (QW bs x) [x]))∧Below W3.heap.size W3 w6)→w6.heap[zb]?=some (.cells #[.slice none 0 0] 82 (0,0))→W3.heap.size≤zb→(w6.setCell ⟨zb,0,none⟩ (.slice p6 (dif (QW bs x) [x]).length c6)).heap[w.heap.size]?=some (.cells #[.slice pv bs.length cv,.slice pa na ca,.slice (some ⟨g,0,none⟩) bs.length cu] 85 (0,0))∧(w6.setCell ⟨zb,0,none⟩ (.slice p6 (dif (QW bs x) [x]).length c6)).heap[w.heap.size+1]?=some (.cells #[.slice none 0 0] 82 (0,0))∧(w6.setCell ⟨zb,0,none⟩ (.slice p6 (dif (QW bs x) [x]).length c6)).heap[w.heap.size+1+1]?=some (.cells #[.slice p1 (QW bs x).length c1] 82 (0,0))∧(w6.setCell ⟨zb,0,none⟩ (.slice p6 (dif (QW bs x) [x]).length c6)).heap[zb]?=some (.cells #[.slice p6 (dif (QW bs x) [x]).length c6] 82 (0,0))∧(w6.setCell ⟨zb,0,none⟩ (.slice p6 (dif (QW bs x) [x]).length c6)).ownsRow 0 143 1 (.slice p6 (dif (QW bs x) [x]).length c6) (dif (QW bs x) [x]).length (Qe (dif (QW bs x) [x]))∧Below w.heap.size w (w6.setCell ⟨zb,0,none⟩ (.slice p6 (dif (QW bs x) [x]).length c6))∧w.heap.size+3≤zb):=by
  rintro zb w6 p6 c6 ⟨o,f⟩ hq hle;obtain⟨g0,g1,g2',f3,_⟩:=HZ.o;have sz:=f.size;exact⟨Ql (by rw[f.block _ (by omega)];exact g0) (by omega) _ _,Ql (by rw[f.block _ (by omega)];exact g1) (by omega) _ _,Ql (by rw[f.block _ (by omega)];exact g2') (by omega) _ _,Qq hq _ _,QL o hq (by decide),Qp (f3.trans (f.mono (by omega))) _ _ _ (by omega),by omega⟩
 have l2W:w.heap.size+1+1<W3.heap.size:=by omega
 have HHZ:=Qc hz;clear HP HO HZ g2 hgl hz
 go_region_law (first | (refine Z1 rfl 119 #[.slice (some ⟨W3.heap.size,0,none⟩) 1 1] (by go_simp) (ofB [x] 0 _ _ HA4.o (by simp)) ?_;rintro e w5 ⟨v5,rfl,o5,f5⟩;rw[VG]at o5;obtain⟨p5,c5,rfl⟩:=Qa o5;have f5':=FA.o _ _ f5;have s5:=f5'.size;have y2:=(f5'.cell (p:=⟨w.heap.size+1+1,0,none⟩) l2W).trans k2;have y2a:∀o,(w5.alloc o).cell? ⟨w.heap.size+1+1,0,none⟩=some (.slice p1 (QW bs x).length c1):=fun o=>(World.cell?_alloc_some w5 _ o (by rw[y2];rfl)).trans y2;have O5:=Qc (And.intro (Qj o5 (base':=0) (Nat.zero_le _)) f5');clear o5 f5 f5') | (refine Z1 rfl 119 #[.slice (some ⟨W3.heap.size+1,0,none⟩) 1 1] (by go_simp) (ofB [x] 0 _ _ HB4.o (by simp)) ?_;rintro e w5 ⟨v5,rfl,o5,f5⟩;rw[VG]at o5;obtain⟨p5,c5,rfl⟩:=Qa o5;obtain⟨f5',qz,_⟩:=FB.o _ _ _ f5;have s5:=f5'.size;have y2:=(f5'.cell (p:=⟨w.heap.size+1+1,0,none⟩) l2W).trans k2;have y2a:∀o,(w5.alloc o).cell? ⟨w.heap.size+1+1,0,none⟩=some (.slice p1 (QW bs x).length c1):=fun o=>(World.cell?_alloc_some w5 _ o (by rw[y2];rfl)).trans y2;have O5:=Qc (And.intro (Qj o5 (base':=0) (Nat.zero_le _)) f5');have QZ:=Qc qz;clear o5 f5 f5' qz) | (refine Z1 rfl 119 #[.slice (some ⟨W3.heap.size,0,none⟩) 1 1] (by go_simp) (ofB [x] 0 _ _ HC4.o (by simp)) ?_;rintro e w5 ⟨v5,rfl,o5,f5⟩;rw[VG]at o5;obtain⟨p5,c5,rfl⟩:=Qa o5;obtain⟨f5',_,qz⟩:=FB.o _ _ _ f5;have s5:=f5'.size;have y2:=(f5'.cell (p:=⟨w.heap.size+1+1,0,none⟩) l2W).trans k2;have y2a:∀o,(w5.alloc o).cell? ⟨w.heap.size+1+1,0,none⟩=some (.slice p1 (QW bs x).length c1):=fun o=>(World.cell?_alloc_some w5 _ o (by rw[y2];rfl)).trans y2;have O5:=Qc (And.intro (Qj o5 (base':=0) (Nat.zero_le _)) f5');have QZ:=Qc qz;clear o5 f5 f5' qz) | (refine Z1 rfl 118 #[.agg #[.slice p1 (QW bs x).length c1],.agg #[.slice p5 1 c5]] (by go_simp) (Wc (QW bs x) [x] B 0 _ _ w5 (FW.o _ O5.o.2).2 O5.o.1 (List.pairwise_singleton _ _) LU (by simp)) ?_;rintro e w6 ⟨v6,rfl,o6,f6⟩;obtain⟨p6,c6,rfl⟩:=Qa o6;have s6:=f6.size;(first | (have qz6:=(f6.block _ (lt_of_block QZ.o)).trans QZ.o;have z6:=Qb qz6 0;have z6f:=Qg qz6 0;have QZ6:=Qc qz6;simp at z6;clear qz6) | skip);have O6:=Qc (And.intro (Qj o6 (base':=0) (Nat.zero_le _)) (O5.o.2.trans (f6.mono s5)));clear o6 f6) | (refine Z1 rfl 118 #[.agg #[.slice p1 (QW bs x).length c1],.agg #[.slice p5 1 c5]] (by go_simp) (Wc (QW bs x) [x] B 0 _ _ (w5.alloc (.cells #[.slice none 0 0] 82)) ((FW.o _ O5.o.2).2.alloc _) (O5.o.1.alloc _) (List.pairwise_singleton _ _) LU (by simp)) ?_;rintro e w6 ⟨v6,rfl,o6,f6⟩;obtain⟨p6,c6,rfl⟩:=Qa o6;have s6:=f6.size;rw[World.size_alloc]at s6;have qz6:=(f6.block w5.heap.size (by rw[World.size_alloc];exact Nat.lt_succ_self _)).trans (heap_alloc_last w5 (.cells #[.slice none 0 0] 82));have z6:=Qb qz6 0;have z6f:=Qg qz6 0;have QZ6:=Qc qz6;simp at z6;clear qz6;have O6:=Qc (And.intro (Qj o6 (base':=0) (Nat.zero_le _)) ((O5.o.2.alloc s5 _).trans (f6.mono (by rw[World.size_alloc];omega))));clear o6 f6) | fail)
 all_goals
  first
   | exact TAIL w6.heap.size _ p6 c6 _ _ _ _ _ (FA2.o w6 p6 c6 O6.o)
   | exact TAIL w5.heap.size _ p6 c6 _ _ _ _ _ (FS2.o w5.heap.size w6 p6 c6 O6.o QZ6.o s5)
   | exact TAIL W3.heap.size _ p6 c6 _ _ _ _ _ (FS2.o W3.heap.size w6 p6 c6 O6.o QZ6.o (Qi _))
   | exact TAIL (W3.heap.size+1) _ p6 c6 _ _ _ _ _ (FS2.o (W3.heap.size+1) w6 p6 c6 O6.o QZ6.o (Nat.le_succ _))
def Jq(bs:List Qm)(L:List Nat)(k:Nat):List Nat:=ofL ((L.take k).flatMap fun x=>JU (suF bs) bs.length x)
theorem QcP(bs L):Jq bs L 0=[]:=by simp[Jq,UE]
theorem QcQ{bs:List Qm}{L:List Nat}{k:Nat}(hk:k<L.length):ofL (Jq bs L k++JU (suF bs) bs.length L[k])=Jq bs L (k+1):=by
 refine Zo (Zi _) (Zi _) fun x=>?_;rw[Jq,Jq,QN,QN,QB,QN,Zb hk,List.flatMap_append,QB];simp
theorem QgT{bs:List Qm}{x y:Nat}(h:y∈JU (suF bs) bs.length x):y<bs.length:=by
 unfold JU at h;exact(Zk.1 h).1
theorem QbC{bs:List Qm}{L:List Nat}{k y:Nat}(h:y∈Jq bs L k):y<bs.length:=by
 rw[Jq,QN]at h;obtain⟨x,_,h⟩:=List.mem_flatMap.1 h;exact QgT h
theorem UU{l:List Nat}{n:Nat}(hs:l.Pairwise (· < ·))(h:∀x∈l,x<n):l.length≤n:=by
 have:=Qaz (a:=0) (n:=n) hs fun x hx=>⟨Nat.zero_le _,h x hx⟩;omega
theorem Qd7(bs:List Qm)(L:List Nat)(k:Nat):(Jq bs L k).length≤bs.length:=UU (Zi _) fun _ h=>QbC h
theorem Qd8(bs:List Qm)(x:Nat):(JU (suF bs) bs.length x).length≤bs.length:=Z2 _ _
def Q7(bs:List Qm)(G S:List Nat):List Nat:=Jq bs (ofL (G++S)) (ofL (G++S)).length
theorem Vl{bs:List Qm}{G S:List Nat}{y:Nat}:y∈Q7 bs G S↔∃x,(x∈G∨x∈S)∧y∈JU (suF bs) bs.length x:=by
 rw[Q7,Jq,QN,List.take_length,List.mem_flatMap];constructor
 ·rintro⟨x,h1,h2⟩;exact⟨x,QB.1 (QN.1 h1),h2⟩
 ·rintro⟨x,h1,h2⟩;exact⟨x,QN.2 (QB.2 h1),h2⟩
theorem KY(bs G S):(Q7 bs G S).Pairwise (· < ·):=Zi _
theorem GI{bs G S y}(h:y∈Q7 bs G S):y<bs.length:=QbC h
def mtK(bs:List Qm)(G:List Nat):Nat→List Nat
 | 0=>[]
 | n+1=>Q7 bs G (mtK bs G n)
theorem WY(bs G):∀n,(mtK bs G n).Pairwise (· < ·)
 | 0=>List.Pairwise.nil
 | _+1=>KY _ _ _
theorem QeF{bs G}:∀{n y},y∈mtK bs G n→y<bs.length
 | 0,_,h=>by cases h
 | _+1,_,h=>GI h
theorem QaT(bs G):∀(n y:Nat),y∈mtK bs G n→y∈mtK bs G (n+1)
 | 0,_,h=>by cases h
 | n+1,y,h=>by
  have h:y∈Q7 bs G (mtK bs G n):=h;show y∈Q7 bs G (mtK bs G (n+1));rw[Vl]at h ⊢;obtain⟨x,h1,h2⟩:=h;refine⟨x,?_,h2⟩;rcases h1 with h1|h1
  ·exact .inl h1
  ·exact .inr (QaT bs G n x h1)
theorem QeG{bs G}{n:Nat}(h:Q7 bs G (mtK bs G n)≠mtK bs G n):(mtK bs G n).length<(Q7 bs G (mtK bs G n)).length:=by
 apply Classical.byContradiction;intro hn;have:=Vv rfl (WY bs G n) (KY bs G (mtK bs G n)) (QaT bs G n) (by omega);exact h (Zo (KY _ _ _) (WY _ _ _) fun x=>⟨this x,QaT bs G n x⟩)
structure MkG(bs:List Qm)(mb base B:Nat)(v va vu vah vnd vch vgi:Value)(w:World):Prop where
 b:w.heap[mb]?=some (.cells #[v,va,vu,v,vah,vnd,vch,vgi] 95 (0,0))
 g:Grd w bs base B v va vu
theorem MkG.keeps{bs mb base B v va vu vah vnd vch vgi w w'}(h:MkG bs mb base B v va vu vah vnd vch vgi w)(F:Below w.heap.size w w'):MkG bs mb base B v va vu vah vnd vch vgi w':=
 ⟨by rw[F.block _ (lt_of_block h.b)];exact h.b,h.g.keeps F⟩
structure RmI(w:World)(L cur:List Nat)(vI v:Value)(wr:World):Prop where
 a:wr.heap[w.heap.size+1]?=some (.cells #[.slice none 0 0] 82 (0,0))
 b:wr.heap[w.heap.size+1+1]?=some (.cells #[v] 82 (0,0))
 o:wr.ownsRow w.heap.size 143 1 v cur.length (Qe cur)
 i:wr.ownsRow w.heap.size 143 1 vI L.length (Qe L)
 f:Below w.heap.size w wr
theorem QjB(bs:List Qm)(G S:List Nat)(mb base B Bg Bs gb pm:Nat)(v va vu vah vnd vch vgi vg vs:Value)(w:World)(hM:MkG bs mb base B v va vu vah vnd vch vgi w)(hg:w.ownsRow Bg 143 1 vg G.length (Qe G))(hs:w.ownsRow Bs 143 1 vs S.length (Qe S))(hgb:w.cell? ⟨gb,0,none⟩=some vg)(hpm:w.cell? ⟨pm,0,none⟩=some (.pointer (some ⟨mb,0,none⟩)))
  (hG:Hid (∀x∈G,x<bs.length))(hS:Hid (∀x∈S,x<bs.length))(hgl:Hid (∀b∈bs,∀p∈goalsF b.e,p.1<bs.length))(hn:bs.length≤1000)(hlg:G.length≤1000)(hls:S.length≤1000):
  Calls prog 180 #[.agg #[vs],.pointer (some ⟨gb,0,none⟩),.pointer (some ⟨pm,0,none⟩)] w fun x w'=>∃v',x=.returned (.agg #[v'])∧Hid (w'.ownsRow w.heap.size 143 1 v' (Q7 bs G S).length (Qe (Q7 bs G S))∧Below w.heap.size w w'):=by
 obtain⟨pg,cg,rfl⟩:=Qa hg;obtain⟨ps,cs,rfl⟩:=Qa hs;have hgw:gb<w.heap.size:=Zh _ _ hgb;have hpw:pm<w.heap.size:=Zh _ _ hpm;have HM:=Qc hM;have H0:=Qc (And.intro hg (And.intro hs (And.intro hgb hpm)));clear hM hg hs hgb hpm;obtain⟨W,hW⟩:∃W,W=((w.alloc (.cells #[.slice ps S.length cs] 82)).alloc (.cells #[.slice none 0 0] 82)).alloc (.cells #[.slice none 0 0] 82):=⟨_,rfl⟩;obtain⟨g0,g1,g2,hz,f3⟩:=Yf w (.cells #[.slice ps S.length cs] 82) (.cells #[.slice none 0 0] 82) (.cells #[.slice none 0 0] 82);have kg:=(f3.cell (p:=⟨gb,0,none⟩) hgw).trans H0.o.2.2.1;rw[←hW]at g0 g1 g2 hz f3;have H1:Hid (W.heap[w.heap.size+1]?=some (.cells #[.slice none 0 0] 82 (0,0))∧W.heap[w.heap.size+1+1]?=some (.cells #[.slice none 0 0] 82 (0,0))∧Below w.heap.size w W∧W.ownsRow Bg 143 1 (.slice pg G.length cg) G.length (Qe G)∧W.ownsRow Bs 143 1 (.slice ps S.length cs) S.length (Qe S)):=⟨g1,g2,f3,Qd H0.o.1 (Qh f3) trivial,Qd H0.o.2.1 (Qh f3) trivial⟩;have HPM:=Qc H0.o.2.2.2;clear g0 g1 g2 f3 H0;go_enter func180,ntmps180;go_wp2_with fail;rw[←hW];clear kg hW;refine(G9 G S Bg Bs _ _ W H1.o.2.2.2.1 H1.o.2.2.2.2 (by omega) (by omega)).mono ?_;rintro e w3 ⟨v3,rfl,o3,f3⟩;obtain⟨p3,c3,rfl⟩:=Qa o3;have HLT:Hid (∀x∈ofL (G++S),x<bs.length):=fun x hx=>by
  rcases QB.1 (QN.1 hx) with h|h
  ·exact hG.out x h
  ·exact hS.out x h
 have hll:(ofL (G++S)).length≤bs.length:=UU (Zi _) HLT.o;have HEQ:Hid (Q7 bs G S=Jq bs (ofL (G++S)) (ofL (G++S)).length):=rfl;generalize ofL (G++S)=L at *;have O3:=Qc (And.intro o3 f3);clear o3 f3;go_wp2_with fail;refine(Qe6 L W.heap.size _ w3 O3.o.1 (by omega)).mono ?_;rintro e w4 ⟨vi,rfl,o4,f4⟩;obtain⟨pi,ci,rfl⟩:=Qa o4;have B0:Hid (RmI w L (Jq bs L 0) (.slice pi L.length ci) (.slice none 0 0) w4):=by
  have s3:=O3.o.2.size;have f34:=O3.o.2.trans (f4.mono s3);have hzw:=H1.o.2.2.1.size;exact⟨by rw[f34.block _ (lt_of_block H1.o.1)];exact H1.o.1,by rw[f34.block _ (lt_of_block H1.o.2.1)];exact H1.o.2.1,by rw[QcP];exact Q3 _ _ _ _,Qj o4 (by omega),H1.o.2.2.1.trans (f34.mono hzw)⟩
 clear O3 o4 f4 H1;go_wp2_with fail
 go_loopw [13] (fun j wr=>∃(k:Nat)(v:Value),k≤L.length∧j=.int .i64 k∧Hid (RmI w L (Jq bs L k) (.slice pi L.length ci) v wr)) (fun j _=>L.length-(intOf j).toNat)
 case atStart=>exact⟨0,_,by omega,rfl,B0⟩
 case round=>
  clear B0;obtain⟨k,vr,hk,rfl,HI⟩:=hrel;rename World=>wA;have hzl:=lt_of_block HI.o.b;by_cases hlt:k<L.length
  ·obtain⟨gi,rfl,_,_⟩:=Qk HI.o.i (by omega);have c0:=Qf HI.o.i (QY hlt);have hkn:=HLT.o _ (Qx hlt);have HSC:=Qc (QcQ (bs:=bs) hlt);have MA:=HM.o.keeps HI.o.f;obtain⟨⟨pv,cv,rfl⟩,⟨pa,ca,rfl⟩,pu,cu,rfl⟩:=MA.g.form;have m0:=Qb MA.b 0;have m1:=Qb MA.b 1;have m2:=Qb MA.b 2;simp at m0 m1 m2;have kp:=(HI.o.f.cell (p:=⟨pm,0,none⟩) hpw).trans HPM.o;obtain⟨pr,cr,rfl⟩:=Qa HI.o.o;have b0:=Qb HI.o.b 0;have z0:=Qg HI.o.b 0;simp at b0;have HMA:=Qc MA;have hrl:=Qd7 bs L k;have hrl2:=Qd8 bs L[k];have HR:Hid (Calls prog 181 #[.agg #[.slice pv bs.length cv,.slice pa (QT bs).length ca,.slice pu bs.length cu],.int .i64 L[k]] wA.drew fun e w'=>∃v',e=.returned (.agg #[v'])∧w'.ownsRow wA.drew.heap.size 143 1 v' (JU (suF bs) bs.length L[k]).length (Qe (JU (suF bs) bs.length L[k]))∧Below wA.drew.heap.size wA.drew w'):=
    Qk8 bs B base L[k] _ _ _ wA.drew (HMA.o.g.drew.p) ⟨_,_,_,rfl⟩ HMA.o.g.drew.u hgl hkn hn
   clear MA;have HZ:=Qc HI.o;clear HI;go_wp2_with fail
   go_region_law (first | (refine Z1 rfl 181 #[.agg #[.slice pv bs.length cv,.slice pa (QT bs).length ca,.slice pu bs.length cu],.int .i64 L[k]] (by go_simp) HR.o ?_;rintro e w6 ⟨v6,rfl,o6,f6⟩;obtain⟨p6,c6,rfl⟩:=Qa o6;have f6':Below wA.heap.size wA w6:=⟨f6.os,f6.tape,f6.output,f6.size,f6.block⟩;have y4:=f6'.cell (p:=⟨w.heap.size+1+1,0,none⟩) hzl;have y5:=f6'.frozen (p:=⟨w.heap.size+1+1,0,none⟩) hzl;have l6:w.heap.size+1+1<w6.heap.size:=Nat.lt_of_lt_of_le hzl f6'.size;have O6:=Qc (And.intro o6 f6');clear o6 f6 f6') | (refine Z1 rfl 165 #[.agg #[.slice pr (Jq bs L k).length cr],.agg #[.slice p6 (JU (suF bs) bs.length L[k]).length c6]] (by go_simp) (G9 (Jq bs L k) (JU (suF bs) bs.length L[k]) w.heap.size wA.heap.size _ _ w6 (Qd HZ.o.o (Qh O6.o.2) trivial) O6.o.1 (by omega) (by omega)) ?_;rintro e w7 ⟨v7,rfl,o7,f7⟩;obtain⟨p7,c7,rfl⟩:=Qa o7;have z4:=f7.cell (p:=⟨w.heap.size+1+1,0,none⟩) l6;have z5:=f7.frozen (p:=⟨w.heap.size+1+1,0,none⟩) l6;have O7:=Qc (And.intro o7 f7);clear o7 f7) | fail)
   all_goals
    have hz6:=O6.o.2.size;have f37:=O6.o.2.trans (O7.o.2.mono hz6);have H7:Hid (RmI w L (Jq bs L (k+1)) (.slice (some ⟨gi,0,none⟩) L.length ci) (.slice p7 (ofL (Jq bs L k++JU (suF bs) bs.length L[k])).length c7) (w7.setCell ⟨w.heap.size+1+1,0,none⟩ (.slice p7 (ofL (Jq bs L k++JU (suF bs) bs.length L[k])).length c7))):=by
     have hzw:=HZ.o.f.size;have e1:w7.heap[w.heap.size+1]?=some (.cells #[.slice none 0 0] 82 (0,0)):=by rw[f37.block _ (by omega)];exact HZ.o.a
     have e2:w7.heap[w.heap.size+1+1]?=some (.cells #[.slice pr (Jq bs L k).length cr] 82 (0,0)):=by rw[f37.block _ (by omega)];exact HZ.o.b
     refine⟨Ql e1 (by omega) _ _,Qq e2 _ _,?_,?_,?_⟩
     ·rw[←HSC.o];exact QL (Qj O7.o.1 (by omega)) e2 (by decide)
     ·exact QL (Qd HZ.o.i (Qh f37) trivial) e2 (by decide)
     ·exact Qp (HZ.o.f.trans (f37.mono (by omega))) _ _ _ (by omega)
    clear hz6 f37 O6 O7 HZ HR;go_wp2_with fail;go_roundw
    case rel=>exact⟨k+1,_,by omega,by go_num,H7⟩
    case measure=>simp[intOf];omega
  ·have hke:k=L.length:=by omega
   subst hke;obtain⟨pv2,cv2,rfl⟩:=Qa HI.o.o;have k1:=Qb HI.o.a 0;have k1f:=Qg HI.o.a 0;have k2:=Qb HI.o.b 0;simp at k1 k2;have F6:Hid ((wA.setCell ⟨w.heap.size+1,0,none⟩ (.slice pv2 (Jq bs L L.length).length cv2)).ownsRow w.heap.size 143 1 (.slice pv2 (Jq bs L L.length).length cv2) (Jq bs L L.length).length (Qe (Jq bs L L.length))∧Below w.heap.size w (wA.setCell ⟨w.heap.size+1,0,none⟩ (.slice pv2 (Jq bs L L.length).length cv2))):=
    ⟨QL HI.o.o HI.o.a (by decide),Qp HI.o.f _ _ _ (by omega)⟩
   clear HI;go_wp2_with fail;refine bodyPost_ret (v:=.agg #[.slice pv2 (Jq bs L L.length).length cv2]) (by simp[results,results180,go_sem,k1]) rfl ⟨_,rfl,?_,?_⟩
   ·rw[HEQ.o];exact F6.o.1
   ·exact F6.o.2
end Go.Proofs.YtgfhfkgdmidhpaaGreatDoor
