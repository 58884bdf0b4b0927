import Derived.Test.YtgfhfkgdmidhpaaGreatDoorM25
import Derived.Test.YtgfhfkgdmidhpaaGreatDoorM26
namespace Go.Proofs.YtgfhfkgdmidhpaaGreatDoor
open Go.RowKit
open Go.Proofs.Tryz
set_option maxRecDepth 100000
set_option maxHeartbeats 8000000
def orgR:List Q0→Nat→Nat→Nat
 | [],r,_=>r
 | c::l,r,i=>if c.to.1=r then (match YX c i with|some x=>x|none=>orgR l r i) else orgR l r i
theorem Qhp{c:Q0}{l:List Q0}{r i:Nat}(h:c.to.1≠r):orgR (c::l) r i=orgR l r i:=by rw[orgR,if_neg h]
theorem Qc3{c:Q0}{l:List Q0}{r i:Nat}(h:YX c i=none):orgR (c::l) r i=orgR l r i:=by
 rw[orgR];split
 ·rw[h]
 ·rfl
theorem Qc2{c:Q0}{l:List Q0}{r i x:Nat}(h:c.to.1=r)(hf:YX c i=some x):orgR (c::l) r i=x:=by rw[orgR,if_pos h,hf]
theorem QfC(c:Q0)(i:Nat):QaA (Zn c) i=YX c i:=by
 unfold QaA YX Zn;show (((c.gs.map (·.1)).zip (c.rs.map (·.1))).find? (fun q=>q.1==i)).map (·.2)=_;rw[List.zip_map,List.find?_map]
 cases h:(c.gs.zip c.rs).find? fun p=>p.1.1==i with
 | none=>
  have:List.find? ((fun q:Nat×Nat=>q.1==i) ∘ Prod.map (fun x:Nat×Nat=>x.1) (fun x:Nat×Nat=>x.1)) (c.gs.zip c.rs)=none:=h;rw[this];rfl
 | some q=>
  have:List.find? ((fun q:Nat×Nat=>q.1==i) ∘ Prod.map (fun x:Nat×Nat=>x.1) (fun x:Nat×Nat=>x.1)) (c.gs.zip c.rs)=some q:=h;rw[this];rfl
theorem VF(r i:Nat):∀(l:List Q0),orgR l r i=J6 (l.map Zn) r i
 | []=>rfl
 | c::l=>by
  rw[orgR,List.map_cons,J6,QfC];show (if c.to.1=r then _ else _)=if c.to.1=r then _ else _;rw[VF r i l];split
  ·cases YX c i<;>rfl
  ·rfl
theorem QbH(b:Qm)(r i base:Nat)(p:Option Addr)(cp:Nat)(ps:Option Addr)(ns cs:Nat)(T:TypeId)(x:Value)(w:World)(h:ZU w base b.chs (.slice p b.chs.length cp))(hg2:Hid (∀c∈b.chs,c.gs.length≤1000))(hl:b.chs.length≤1000000):
  Calls prog 128 #[.agg #[.int .i64 b.at_,.slice p b.chs.length cp,.slice ps ns cs,.iface T x],.int .i64 r,.int .i64 i] w fun e w'=>e=.returned (.int .i64 (orgR b.chs r i))∧Below w.heap.size w w':=by
 have HP:=Qc h;clear h;have HF:=Qc ((Below.refl w.heap.size w).alloc (Qi _) (.cells #[.int .i64 b.at_,.slice p b.chs.length cp,.slice ps ns cs,.iface T x] 104));go_enter func128,ntmps128;go_wp2_with fail;generalize w.alloc (.cells #[.int .i64 b.at_,.slice p b.chs.length cp,.slice ps ns cs,.iface T x] 104)=W at *;have H0:Hid (orgR b.chs r i=orgR (b.chs.drop 0) r i∧Below w.heap.size w W):=⟨rfl,HF.o⟩;clear HF
 go_loopw [14] (fun j wr=>∃k:Nat,k≤b.chs.length∧j=.int .i64 k∧Hid (orgR b.chs r i=orgR (b.chs.drop k) r i∧Below w.heap.size w wr)) (fun j _=>b.chs.length-(intOf j).toNat)
 case atStart=>exact⟨0,by omega,rfl,H0⟩
 case round=>
  clear H0;obtain⟨k,hk,rfl,HI⟩:=hrel;rename World=>wr;by_cases hlt:k<b.chs.length
  ·have PC:=HP.o.keeps (Qh HI.o.2) trivial trivial;obtain⟨g,pu,cu,rfl,_,_,hgr,OS,c0,c1,c2⟩:=PC.at hlt;have HGR:=Qc hgr;have hgl:=hg2.out _ (Qx hlt);have HDR:Hid (b.chs.drop k=b.chs[k]::b.chs.drop (k+1)):=List.drop_eq_getElem_cons hlt;have HOS:=Qc (OS.alloc (.cells #[.int .i64 b.chs[k].to.1,.int .i64 b.chs[k].to.2,.slice pu b.chs[k].gs.length cu] 140));have FA:=Qc (HI.o.2.trans (((Below.refl wr.heap.size wr).alloc (Qi _) (.cells #[.int .i64 b.chs[k].to.1,.int .i64 b.chs[k].to.2,.slice pu b.chs[k].gs.length cu] 140)).mono HI.o.2.size));have HO:=Qc HI.o.1;clear PC OS hgr HI;by_cases hto:b.chs[k].to.1=r
   ·have hd:((b.chs[k].to.1:Int) != (r:Int))=false:=by simp;omega
    have HTO:=Qc hto;clear hto;go_wp2_with fail;clear c0 c1 c2;generalize wr.alloc (.cells #[.int .i64 b.chs[k].to.1,.int .i64 b.chs[k].to.2,.slice pu b.chs[k].gs.length cu] 140)=W1 at *;refine(Qd9 b.chs[k] i base pu cu W1 HGR HOS.o (by omega)).mono ?_;rintro x w2 ⟨hx,f2⟩;have F2:=Qc (FA.o.trans (f2.mono FA.o.size));clear f2;rcases hx with ⟨y,hy,rfl⟩|⟨hy,rfl⟩
    ·have HE:Hid (orgR b.chs r i=y):=by
      show _=_;rw[HO.o,HDR.o,Qc2 HTO.o hy]
     clear hy;go_wp2_with fail;go_ret;refine⟨?_,F2.o⟩;rw[HE.o];rfl
    ·have HN:Hid (orgR b.chs r i=orgR (b.chs.drop (k+1)) r i∧Below w.heap.size w w2):=⟨by rw[HO.o,HDR.o,Qc3 hy],F2.o⟩;clear hy;go_wp2_with fail;go_roundw
     case rel=>exact⟨k+1,by omega,by go_num,HN⟩
     case measure=>simp[intOf];omega
   ·have hd:((b.chs[k].to.1:Int) != (r:Int))=true:=by simp;omega
    have HN:Hid (orgR b.chs r i=orgR (b.chs.drop (k+1)) r i∧Below w.heap.size w (wr.alloc (.cells #[.int .i64 b.chs[k].to.1,.int .i64 b.chs[k].to.2,.slice pu b.chs[k].gs.length cu] 140))):=⟨by rw[HO.o,HDR.o,Qhp hto],FA.o⟩;clear hto;go_wp2_with fail;go_roundw
    case rel=>exact⟨k+1,by omega,by go_num,HN⟩
    case measure=>simp[intOf];omega
  ·have HE:Hid (orgR b.chs r i=r):=by
    show _=_;rw[HI.o.1,List.drop_of_length_le (by omega)];rfl
   have F:=Qc HI.o.2;clear HI;go_wp2_with fail;go_ret;refine⟨?_,F.o⟩;rw[HE.o];rfl
theorem QbE{b:Qm}{n:Nat}(h:QU n b)(k:Nat):SM (Yq b.sts k):=SM.of fun _ hx=>WR (e:=KG) (by show 0<10000;omega) (fun t ht=>h.st t (List.mem_of_mem_take ht)) hx
theorem RK{b:Qm}{n:Nat}(h:QU n b)(k:Nat):SM (Ju b.sts k):=SM.of fun x hx=>by
 rw[J3,Qv]at hx;obtain⟨t,ht,rfl⟩:=hx;exact(h.st t (List.mem_of_mem_take (List.mem_filter.1 ht).1)).1
theorem Qly(b:Qm)(n:Nat)(hf:Hid (QU n b))(hop:Hid (b.e.op=46∨b.e.op=62∨b.e.op=63))(at_ base:Nat)(qc:Option Addr)(mc cc:Nat)(ps:Option Addr)(cs:Nat)(w:World)(hS:w.ownsRow base 150 1 (.slice ps b.sts.length cs) b.sts.length (b.sts.map QS))(hl:b.sts.length≤1000000):
  Calls prog 122 #[.agg #[.int .i64 at_,.slice qc mc cc,.slice ps b.sts.length cs,Zc b.e]] w fun x w'=>∃vr vg,x=.returned (.agg #[vr,vg])∧Hid (w'.ownsRow w.heap.size 78 1 vr (rdB b).length (Qe (rdB b))∧w'.ownsRow w.heap.size 78 1 vg (gvB b).length (Qe (gvB b))∧Below w.heap.size w w'):=by
 obtain⟨TE,xe,fe,hev,hem,het,hec⟩:=Qlx b.e hop.out;rw[hev];have HES:=Qc (And.intro hem (And.intro het hec));have HS:=Qc hS;clear hev hem het hec hS;go_enter func122,ntmps122;go_wp2_with fail;obtain⟨W,hW⟩:∃W,W=((w.alloc (.cells #[.int .i64 at_,.slice qc mc cc,.slice ps b.sts.length cs,.iface TE xe] 104)).alloc (.cells #[.slice none 0 0,.slice none 0 0] 234)).alloc (.cells #[.slice none 0 0,.slice none 0 0] 234):=⟨_,rfl⟩;rw[←hW];obtain⟨g0,g1,g2,hz,f3⟩:=Yf w (.cells #[.int .i64 at_,.slice qc mc cc,.slice ps b.sts.length cs,.iface TE xe] 104) (.cells #[.slice none 0 0,.slice none 0 0] 234) (.cells #[.slice none 0 0,.slice none 0 0] 234);rw[←hW]at g0 g1 g2 hz f3;have H0:Hid (EfI b w #[.int .i64 at_,.slice qc mc cc,.slice ps b.sts.length cs,.iface TE xe] 0 (.slice none 0 0) (.slice none 0 0) W):=⟨g0,g1,g2,by rw[QcT];exact Q3 _ _ _ _,by rw[Qdm];exact Q3 _ _ _ _,(fun k hk=>by cases hk),f3⟩;clear hW g0 g1 g2 f3
 go_loopw [11] (fun i wr=>∃(k:Nat)(vr vg:Value),k≤b.sts.length∧i=.int .i64 k∧Hid (EfI b w #[.int .i64 at_,.slice qc mc cc,.slice ps b.sts.length cs,.iface TE xe] k vr vg wr)) (fun i _=>b.sts.length-(intOf i).toNat)
 case atStart=>exact⟨0,_,_,by omega,rfl,H0⟩
 case round=>
  clear H0;obtain⟨k,vr,vg,hk,rfl,HI⟩:=hrel;have hz:=HI.o.2.2.2.2.2.2.size;by_cases hlt:k<b.sts.length
  ·have OS:=Qd HS.o (Qh HI.o.2.2.2.2.2.2) trivial;obtain⟨gs,rfl,_,_⟩:=Qk OS (by omega);obtain⟨T,x,fr,fg,hsv,hrm,hrt,hrc,hgm,hgt,hgc⟩:=Ns b.sts[k];have cS:=Qf OS (j:=k) (u:=.iface T x) (by rw[←hsv];simp[hlt]);have HR:=Qc (And.intro hrm (And.intro hrt hrc));have HG:=Qc (And.intro hgm (And.intro hgt hgc));clear hsv hrm hrt hrc hgm hgt hgc OS;go_wp2_with fail;rw[HR.o.1,Result.andThen_ok];simp only[HR.o.2.1];unfold Oper.upon;refine(HR.o.2.2 _).mono ?_;rintro r w1 ⟨vq,rfl,o1,f1⟩;have HI1:=Qc (HI.o.keeps f1);have HQ:=Qc (Qj o1 (Nat.zero_le _));obtain⟨pq,cq,rfl⟩:=Qa o1;have hrl:=QgZ b.sts[k];have HT:=hf.out.st _ (Qx hlt);have HRL:=Qc (QbD HT);have HRS:=Qc (QbE hf.out k);have HGS:=Qc (RK hf.out k);have HNX:=Qc (QcU hlt);clear HR HI cS o1 f1 HT;go_wp2_with fail;refine(Qiw (Yq b.sts k) (Ju b.sts k) (rdsF b.sts[k]) HGS HRS HRL (w.heap.size+1+1) w.heap.size vr vg _ w1 HI1.o.2.2.1 HI1.o.2.2.2.1 HI1.o.2.2.2.2.1 HI1.o.2.2.2.2.2.1 HQ.o (by omega) (by omega)).mono ?_;rintro r w2 ⟨rfl,vr2,H2⟩;have HI2:Hid (w2.heap[w.heap.size]?=some (.cells #[.int .i64 at_,.slice qc mc cc,.slice (some ⟨gs,0,none⟩) b.sts.length cs,.iface TE xe] 104 (0,0))∧w2.heap[w.heap.size+1]?=some (.cells #[.slice none 0 0,.slice none 0 0] 234 (0,0))∧w2.heap[w.heap.size+1+1]?=some (.cells #[vr2,vg] 234 (0,0))∧w2.ownsRow w.heap.size 78 1 vr2 (Yq b.sts (k+1)).length (Qe (Yq b.sts (k+1)))∧w2.ownsRow w.heap.size 78 1 vg (Ju b.sts k).length (Qe (Ju b.sts k))∧Q4 vg vr2∧Below w.heap.size w w2):=by
    obtain⟨a1,a2,a3,a4,a5,a6,a7⟩:=HI1.o;obtain⟨j1,j2,j3,j4,j5,j6⟩:=H2.o;rw[rrF,HNX.o]at j2;exact⟨j5 _ _ _ (by omega) (by decide) a1,j5 _ _ _ (by omega) (by decide) a2,j1,j2,j3,j4,a7.trans j6⟩
   have hz2:=HI2.o.2.2.2.2.2.2.size;clear HI1 HQ H2 HNX HRS HRL;by_cases h33:b.sts[k].op=33
   ·have hg2:∀w:World,Calls prog fg #[x] w fun r w'=>r=.returned (.tuple #[.agg #[.int .i64 0,.int .i64 0],.bool false])∧Below w.heap.size w w':=fun w=>(HG.o.2.2 w).mono (by
     rintro r w' ⟨rfl,f⟩;exact⟨by simp[h33],f⟩)
    have HG2:=Qc hg2;have HNG:=Qc (Qfn hlt h33);clear hg2 h33;go_wp2_with fail;rw[HG.o.1,Result.andThen_ok];simp only[HG.o.2.1];unfold Oper.upon;refine(HG2.o _).mono ?_;rintro r w3 ⟨rfl,f3⟩;have HI3:Hid (EfI b w #[.int .i64 at_,.slice qc mc cc,.slice (some ⟨gs,0,none⟩) b.sts.length cs,.iface TE xe] (k+1) vr2 vg (w3.alloc (.cells #[.int .i64 0,.int .i64 0] 132))):=by
     obtain⟨a1,a2,a3,a4,a5,a6,a7⟩:=HI2.o;rw[HNG.o]at a5;exact(EfI.keeps (wr:=w2) ⟨a1,a2,a3,a4,a5,a6,a7⟩ f3).keeps ((Below.refl w3.heap.size w3).alloc (Qi _) _)
    clear HI2 HG HG2 f3;go_wp2_with fail;go_roundw
    case rel=>exact⟨k+1,vr2,vg,by omega,by go_num,HI3⟩
    case measure=>simp[intOf];omega
   ·have hg2:∀w:World,Calls prog fg #[x] w fun r w'=>r=.returned (.tuple #[.agg #[.int .i64 b.sts[k].to.1,.int .i64 b.sts[k].to.2],.bool true])∧Below w.heap.size w w':=fun w=>(HG.o.2.2 w).mono (by
     rintro r w' ⟨rfl,f⟩;exact⟨by simp[h33],f⟩)
    have HG2:=Qc hg2;have HNG:=Qc (Qdn hlt h33);clear hg2 h33;go_wp2_with fail;rw[HG.o.1,Result.andThen_ok];simp only[HG.o.2.1];unfold Oper.upon;refine(HG2.o _).mono ?_;rintro r w3 ⟨rfl,f3⟩;obtain⟨W4,hW4⟩:∃W4,W4=w3.alloc (.cells #[.int .i64 b.sts[k].to.1,.int .i64 b.sts[k].to.2] 132):=⟨_,rfl⟩;have HI3:Hid (W4.heap[w.heap.size]?=some (.cells #[.int .i64 at_,.slice qc mc cc,.slice (some ⟨gs,0,none⟩) b.sts.length cs,.iface TE xe] 104 (0,0))∧W4.heap[w.heap.size+1]?=some (.cells #[.slice none 0 0,.slice none 0 0] 234 (0,0))∧W4.heap[w.heap.size+1+1]?=some (.cells #[vr2,vg] 234 (0,0))∧W4.ownsRow w.heap.size 78 1 vr2 (Yq b.sts (k+1)).length (Qe (Yq b.sts (k+1)))∧W4.ownsRow w.heap.size 78 1 vg (Ju b.sts k).length (Qe (Ju b.sts k))∧Q4 vg vr2∧Below w.heap.size w W4):=by
     obtain⟨a1,a2,a3,a4,a5,a6,a7⟩:=HI2.o;have F:=f3.trans (((Below.refl w3.heap.size w3).alloc (Qi _) (.cells #[.int .i64 b.sts[k].to.1,.int .i64 b.sts[k].to.2] 132)).mono f3.size);rw[←hW4]at F;have K:=Qr.below (base:=w.heap.size) (T:=fun _=>True) F;exact⟨by rw[F.block _ (lt_of_block a1)];exact a1,by rw[F.block _ (lt_of_block a2)];exact a2,by rw[F.block _ (lt_of_block a3)];exact a3,Qd a4 K trivial,Qd a5 K trivial,a6,a7.trans (F.mono a7.size)⟩
    have hz4:=HI3.o.2.2.2.2.2.2.size;have hgl:=HGS.o.len;have HGP:=Qc HGS.o.1;clear HI2 HG HG2 f3;go_wp2_with fail;rw[←hW4];clear hW4;refine(Qim (Ju b.sts k) b.sts[k].to.1 HGP (w.heap.size+1+1) 1 w.heap.size #[vr2,vg] 234 vg W4 HI3.o.2.2.1 rfl HI3.o.2.2.2.2.1 (by omega) (by omega) (QG HI3.o.2.2.2.2.1 HI3.o.2.2.1 (by decide))).mono ?_;rintro r w5 ⟨bb,vg5,rfl,H5⟩;have HI5:Hid (EfI b w #[.int .i64 at_,.slice qc mc cc,.slice (some ⟨gs,0,none⟩) b.sts.length cs,.iface TE xe] (k+1) vr2 vg5 w5):=by
     obtain⟨a1,a2,a3,a4,a5,a6,a7⟩:=HI3.o;obtain⟨_,j1,j2,j3⟩:=H5.o;have KA:=Ke.ad j3 a5;rw[ptF,HNG.o]at j2;exact⟨KA _ _ _ (by omega) (by decide) a1,KA _ _ _ (by omega) (by decide) a2,j1,j3.owns a4 (QG a4 a3 (by decide)) a6.symm,j2,(j3.apart a4 a6.symm).symm,j3.below a7 (by omega) (fun k hk=>(a5.lt k hk).1) (by omega)⟩
    clear HI3 H5;go_wp2_with fail;go_roundw
    case rel=>exact⟨k+1,vr2,vg5,by omega,by go_num,HI5⟩
    case measure=>simp[intOf];omega
  ·have hke:k=b.sts.length:=by omega
   subst hke;have b3:=Qb HI.o.1 3;simp at b3;have HRE:=Qc (Qeg b);have HGE:=Qc (Qab b);have HRS:=Qc (QbE hf.out b.sts.length);have HGS:=Qc (RK hf.out b.sts.length);have HEL:Hid (∀p∈XA b.e,p.1<10000):=fun p hp=>by
    have h1:=hf.out.e;unfold XA at hp;split at hp
    ·rw[QF]at hp;rw[hp];exact h1
    ·simp at hp
   have hel:(XA b.e).length≤1:=by
    unfold XA;split<;>simp
   have HEM:=Qc (Qdq b.e);go_wp2_with fail;rw[HES.o.1,Result.andThen_ok];simp only[HES.o.2.1];unfold Oper.upon;refine(HES.o.2.2 _).mono ?_;rintro r w1 ⟨vq,rfl,o1,f1⟩;have HI1:=Qc (HI.o.keeps f1);have HQ:=Qc (Qj o1 (Nat.zero_le _));obtain⟨pq,cq,rfl⟩:=Qa o1;clear HI o1 f1 b3;go_wp2_with fail;refine(Qiw (Yq b.sts b.sts.length) (Ju b.sts b.sts.length) (XA b.e) HGS HRS HEL (w.heap.size+1+1) w.heap.size vr vg _ w1 HI1.o.2.2.1 HI1.o.2.2.2.1 HI1.o.2.2.2.2.1 HI1.o.2.2.2.2.2.1 HQ.o (by omega) (by omega)).mono ?_;rintro r w2 ⟨rfl,vr2,H2⟩;have H3:Hid (w2.heap[w.heap.size+1]?=some (.cells #[.slice none 0 0,.slice none 0 0] 234 (0,0))∧w2.heap[w.heap.size+1+1]?=some (.cells #[vr2,vg] 234 (0,0))∧w2.ownsRow w.heap.size 78 1 vr2 (rdB b).length (Qe (rdB b))∧w2.ownsRow w.heap.size 78 1 vg (gvB b).length (Qe (gvB b))∧Below w.heap.size w w2):=by
    obtain⟨a1,a2,a3,a4,a5,a6,a7⟩:=HI1.o;obtain⟨j1,j2,j3,j4,j5,j6⟩:=H2.o;rw[rrF,HEM.o,HRE.o]at j2;rw[HGE.o]at j3;exact⟨j5 _ _ _ (by omega) (by decide) a2,j1,j2,j3,a7.trans j6⟩
   have e0:=Qb H3.o.2.1 0;have e1:=Qb H3.o.2.1 1;have r0:=Qb H3.o.1 0;have r1:=Qb H3.o.1 1;have z0:=Qg H3.o.1 0;have z1:=Qg H3.o.1 1;simp at e0 e1 r0 r1;obtain⟨pr2,cr2,rfl⟩:=Qa H3.o.2.2.1;obtain⟨pg2,cg2,rfl⟩:=Qa H3.o.2.2.2.1;clear HI1 HQ H2;go_wp2_with fail;have q1:=Qq H3.o.1 0 (.slice pr2 (rdB b).length cr2);have q2:=Qq q1 1 (.slice pg2 (gvB b).length cg2);have k0:=Qb q2 0;have k1:=Qb q2 1;simp at k0 k1;refine bodyPost_ret (v:=.agg #[.slice pr2 (rdB b).length cr2,.slice pg2 (gvB b).length cg2]) (by simp[results,results122,go_sem,k0,k1]) rfl ⟨_,_,rfl,?_⟩;obtain⟨a1,a2,a3,a4,a5⟩:=H3.o;exact⟨QL (QL a3 a1 (by decide)) q1 (by decide),QL (QL a4 a1 (by decide)) q1 (by decide),Qp (Qp a5 _ _ _ (by omega)) _ _ _ (by omega)⟩
def ZC(base:Nat)(w:World)(v:Value)(n:Nat)(f:Nat→List Nat):Prop:=
 ∃us:List Value,w.ownsRow base 161 1 v n us∧∀(k:Nat)(u:Value),us[k]?=some u→w.ownsRow base 78 1 u (f k).length (Qe (f k))
theorem ZC.slice{base w v n f}(h:ZC base w v n f):∃p c,v=.slice p n c:=by obtain⟨us,a,_⟩:=h;exact Qa a
theorem ZC.keeps{base:Nat}{w w':World}{v:Value}{n:Nat}{f:Nat→List Nat}(h:ZC base w v n f)(k:Below w.heap.size w w'):ZC base w' v n f:=by
 obtain⟨us,a,b⟩:=h;exact⟨us,Qd a (Qh k) trivial,fun j u hu=>Qd (b j u hu) (Qh k) trivial⟩
theorem ZC.base{base base':Nat}{w:World}{v:Value}{n:Nat}{f:Nat→List Nat}(h:ZC base w v n f)(hb:base'≤base):ZC base' w v n f:=by
 obtain⟨us,a,b⟩:=h;exact⟨us,Qj a hb,fun j u hu=>Qj (b j u hu) hb⟩
theorem ZC.congr{base:Nat}{w:World}{v:Value}{n:Nat}{f f':Nat→List Nat}(h:ZC base w v n f)(e:∀k,k<n→f' k=f k):ZC base w v n f':=by
 obtain⟨us,a,b⟩:=h;have hl:us.length=n:=by have:=a.1;omega
 refine⟨us,a,fun j u hu=>?_⟩;have hj:j<n:=by
  rcases Nat.lt_or_ge j us.length with h|h
  ·omega
  ·rw[ZI h]at hu;cases hu
 rw[e j hj];exact b j u hu
theorem ZC.at{base:Nat}{w:World}{p:Option Addr}{c n:Nat}{f:Nat→List Nat}(h:ZC base w (.slice p n c) n f){k:Nat}(hk:k<n):
  ∃g u,p=some ⟨g,0,none⟩∧base≤g∧g<w.heap.size∧w.cell? ⟨g,k,none⟩=some u∧w.frozen? ⟨g,k,none⟩=false∧w.ownsRow base 78 1 u (f k).length (Qe (f k)):=by
 obtain⟨us,a,b⟩:=h;obtain⟨g,rfl,hb,hg⟩:=Qk a (by omega);have hl:us.length=n:=by have:=a.1;omega
 have hu:us[k]?=some us[k]:=Zl (by omega);exact⟨g,us[k],rfl,hb,hg,Qf a hu,Xz a k,b k _ hu⟩
theorem ZC.store{base:Nat}{w:World}{g c n:Nat}{f:Nat→List Nat}(h:ZC base w (.slice (some ⟨g,0,none⟩) n c) n f){k:Nat}{u:Value}{l:List Nat}(o:w.ownsRow base 78 1 u l.length (Qe l)):
  ZC base (w.setCell ⟨g,k,none⟩ u) (.slice (some ⟨g,0,none⟩) n c) n (fun j=>if j=k then l else f j):=by
 obtain⟨us,a,b⟩:=h;have hb:∃cs fz,w.heap[g]?=some (.cells cs 161 fz):=by
  rcases a.2 with ⟨h0,_⟩|⟨g',cap',cur',hv,_,hc',_⟩
  ·cases h0
  ·cases hv;exact⟨_,_,hc'⟩
 obtain⟨cs,fz,hg⟩:=hb;refine⟨us.set k u,ZA a k u,fun j x hx=>?_⟩;rw[List.getElem?_set]at hx;by_cases hj:k=j
 ·subst hj;rw[if_pos rfl]at hx;split at hx
  ·cases hx;show (w.setCell _ u).ownsRow base 78 1 u (if k=k then l else f k).length (Qe (if k=k then l else f k));rw[if_pos rfl];exact QL o hg (by decide)
  ·cases hx
 ·rw[if_neg hj]at hx;show (w.setCell _ u).ownsRow base 78 1 x (if j=k then l else f j).length (Qe (if j=k then l else f j));rw[if_neg (fun e:j=k=>hj e.symm)];exact QL (b j x hx) hg (by decide)
theorem QjX{a:List Nat}(h:SM a)(b:List Nat):SM (dif a b):=⟨YQ h.1,fun x hx=>h.2 x (XX.1 hx).1⟩
def neS(bs:List Qm)(X:Nat→List Nat)(i n:Nat):List Nat:=(X n).map fun r=>orgR (bkF bs n).chs r i
def neL(bs:List Qm)(X:Nat→List Nat)(i:Nat):List Nat:=ofL ((suF bs i).flatMap (neS bs X i))
def WJ(bs:List Qm)(X:Nat→List Nat)(i:Nat)(L:List Nat)(k:Nat):List Nat:=ofL ((L.take k).flatMap (neS bs X i))
def Jf(bs:List Qm)(X:Nat→List Nat)(i:Nat)(L:List Nat)(k n t:Nat):List Nat:=ofL ((L.take k).flatMap (neS bs X i)++(neS bs X i n).take t)
theorem Qc7(bs X i L):WJ bs X i L 0=[]:=by simp[WJ,UE]
theorem QaQ(bs X i L k n):Jf bs X i L k n 0=WJ bs X i L k:=by simp[Jf,WJ]
theorem QbN(bs X i n):(neS bs X i n).length=(X n).length:=by simp[neS]
theorem Qc8{bs X i}{L:List Nat}{k n:Nat}(hk:k<L.length)(hn:L[k]=n){t:Nat}(ht:(X n).length≤t):Jf bs X i L k n t=WJ bs X i L (k+1):=by
 rw[Jf,WJ,Zb hk,List.flatMap_append,Zg (l:=neS bs X i n) (by rw[QbN];exact ht),hn];simp
theorem QaR{bs X i}{L:List Nat}{k n t:Nat}(ht:t<(X n).length):ptF (Jf bs X i L k n t) (orgR (bkF bs n).chs (X n)[t] i)=Jf bs X i L k n (t+1):=by
 refine Zo (X6 _ _) (Zi _) fun x=>?_;have hl:t<(neS bs X i n).length:=by rw[QbN];exact ht
 have e:(neS bs X i n)[t]=orgR (bkF bs n).chs (X n)[t] i:=by simp[neS]
 rw[ZW,Jf,Jf,QN,QN,Zb hl,e,←List.append_assoc,QB (t:=[_]),QF]
theorem Rt{r i m:Nat}(hr:r<m):∀{l:List Q0},(∀c∈l,∀q∈c.rs,q.1<m)→orgR l r i<m
 | [],_=>hr
 | c::l,h=>by
  have ih:=Rt (r:=r) (i:=i) hr (l:=l) fun c hc=>h c (ZD _ hc);rw[orgR];split
  ·cases hf:YX c i with
   | none=>exact ih
   | some x=>
    unfold YX at hf;obtain⟨q,hq,rfl⟩:=Option.map_eq_some_iff.1 hf;exact h c (List.mem_cons_self ..) q.2 (List.of_mem_zip (List.mem_of_find?_eq_some hq)).2
  ·exact ih
theorem QaS{bs:List Qm}(hf:∀b∈bs,QU 1000000 b){X:Nat→List Nat}(hX:∀k,SM (X k))(i n:Nat):∀x∈neS bs X i n,x<10000:=by
 intro x hx;obtain⟨r,hr,rfl⟩:=Qv.1 hx;refine Rt ((hX n).2 r hr) fun c hc q hq=>?_;rcases Nat.lt_or_ge n bs.length with h|h
 ·rw[Zj h]at hc;exact((hf _ (Qx h)).ch c hc).2.2.2 q hq
 ·rw[bkF,ZI h]at hc;cases hc
theorem Qex{bs:List Qm}(hf:∀b∈bs,QU 1000000 b){X:Nat→List Nat}(hX:∀k,SM (X k))(i:Nat)(L:List Nat)(k n t:Nat):SM (Jf bs X i L k n t):=SM.of fun x hx=>by
 rcases QB.1 hx with hx|hx
 ·obtain⟨m,_,hx⟩:=List.mem_flatMap.1 hx;exact QaS hf hX i m x hx
 ·exact QaS hf hX i n x (List.mem_of_mem_take hx)
structure NeI(w:World)(L cur:List Nat)(vI v:Value)(wr:World):Prop where
 a:wr.heap[w.heap.size]?=some (.cells #[.slice none 0 0] 161 (0,0))
 b:wr.heap[w.heap.size+1]?=some (.cells #[v] 161 (0,0))
 o:wr.ownsRow w.heap.size 78 1 v cur.length (Qe cur)
 i:wr.ownsRow w.heap.size 143 1 vI L.length (Qe L)
 f:Below w.heap.size w wr
theorem NeI.keeps{w L cur vI v wr wr'}(h:NeI w L cur vI v wr)(F:Below wr.heap.size wr wr'):NeI w L cur vI v wr':=
 ⟨by rw[F.block _ (lt_of_block h.a)];exact h.a,by rw[F.block _ (lt_of_block h.b)];exact h.b,Qd h.o (Qh F) trivial,Qd h.i (Qh F) trivial,h.f.trans (F.mono h.f.size)⟩
theorem NeI.add{w L cur cur' vI v v' wr wr'}(h:NeI w L cur vI v wr)(j1:wr'.heap[w.heap.size+1]?=some (.cells #[v'] 161 (0,0)))(j2:wr'.ownsRow w.heap.size 78 1 v' cur'.length (Qe cur'))(A:Ad (w.heap.size+1) v v' wr wr'):NeI w L cur' vI v' wr':=
 ⟨Ke.ad A h.o _ _ _ (by omega) (by decide) h.a,j1,j2,(Ke.ad A h.o).owns h.i (by decide) (QG h.i h.b (by decide)),A.below h.f (by omega) (fun k hk=>(h.o.lt k hk).1) h.f.size⟩
theorem Qhy(bs:List Qm)(X:Nat→List Nat)(i base B:Nat)(v vf:Value)(w:World)(hP:PBs w base bs v)(hX:ZC B w vf bs.length X)(hgl:Hid (∀b∈bs,∀p∈goalsF b.e,p.1<bs.length))(hf:Hid (∀b∈bs,QU 1000000 b))(hg2:Hid (∀b∈bs,∀c∈b.chs,c.gs.length≤1000))(hXs:Hid (∀k,SM (X k)))(hi:i<bs.length):
  Calls prog 74 #[v,.int .i64 i,vf] w fun x w'=>∃v',x=.returned (.agg #[v'])∧Hid (w'.ownsRow w.heap.size 78 1 v' (neL bs X i).length (Qe (neL bs X i))∧Below w.heap.size w w'):=by
 have HP:=Qc hP;have HX:=Qc hX;obtain⟨pv,cv,rfl⟩:=hP.slice;obtain⟨pf,cf,rfl⟩:=hX.slice;obtain⟨gv,qc,cc,ps,cs1,rfl,_,hgv,hop,_,_,d0,d1,d2,d3⟩:=hP.at hi;obtain⟨T,x,hT⟩:=QQ bs[i].e;rw[hT]at d3;have HT:=Qc hT;have HOP:=Qc hop;have al:∀(j:Nat)(u:Value),w.cell? ⟨gv,j,none⟩=some u→∀o o',((w.alloc o).alloc o').cell? ⟨gv,j,none⟩=some u:=fun j u hu o o'=>by
  rw[World.cell?_of_block (w:=w.alloc o) (Below.heap_alloc (w.alloc o) o' _ (by rw[Qt];show gv<_;omega)),World.cell?_of_block (w:=w) (Below.heap_alloc w o _ hgv)];exact hu
 have d0:=al _ _ d0;have d1:=al _ _ d1;have d2:=al _ _ d2;have d3:=al _ _ d3;clear al hP hX hT hop;go_enter func74,ntmps74;go_wp2_with fail;obtain⟨W,hW⟩:∃W,W=(w.alloc (.cells #[.slice none 0 0] 161)).alloc (.cells #[.slice none 0 0] 161):=⟨_,rfl⟩;rw[←hW];obtain⟨g0,g1,hz,f2⟩:=two w (.cells #[.slice none 0 0] 161) (.cells #[.slice none 0 0] 161);rw[←hW]at g0 g1 hz f2;clear hW d0 d1 d2 d3;have HB:Hid (Calls prog 127 #[.agg #[.int .i64 bs[i].at_,.slice qc bs[i].chs.length cc,.slice ps bs[i].sts.length cs1,.iface T x]] W fun x w'=>∃v',x=.returned (.agg #[v'])∧w'.ownsRow W.heap.size 143 1 v' (bhd bs[i].e).length (Qe (bhd bs[i].e))∧Below W.heap.size W w'):=by
  rw[←HT.o];exact Qk0 bs[i].e HOP.o bs[i].at_ qc bs[i].chs.length cc ps bs[i].sts.length cs1 W
 refine HB.o.mono ?_;rintro r w3 ⟨vb,rfl,o3,f3⟩;have s3:=f3.size;obtain⟨pb,cb,rfl⟩:=Qa o3;have hbl:(bhd bs[i].e).length≤2:=by
  have:=ZH bs[i].e;have:=WT ((goalsF bs[i].e).map (·.1));rw[List.length_map]at this;rw[bhd];omega
 have HSU:Hid (suF bs i=bhd bs[i].e):=V5 hi;have HLT:Hid (∀k∈bhd bs[i].e,k<bs.length):=fun k hk=>XB hgl.out i k (by rw[HSU.o];exact hk);generalize bhd bs[i].e=L at *;have O3:=Qc (And.intro o3 f3);clear o3 f3 HB;go_wp2_with fail;refine(Qe6 L W.heap.size _ w3 O3.o.1 (by omega)).mono ?_;rintro r w4 ⟨vi,rfl,o4,f4⟩;have s4:=f4.size;obtain⟨pi,ci,rfl⟩:=Qa o4;have H0:Hid (NeI w L (WJ bs X i L 0) (.slice pi L.length ci) (.slice none 0 0) w4):=by
  have f34:=O3.o.2.trans (f4.mono s3);exact⟨by rw[f34.block _ (by omega)];exact g0,by rw[f34.block _ (by omega)];exact g1,by rw[Qc7];exact Q3 _ _ _ _,Qj o4 (by omega),f2.trans (f34.mono (by omega))⟩
 clear O3 o4 f4 g0 g1 f2;go_wp2_with fail
 go_loopw [19] (fun j wr=>∃(k:Nat)(v:Value),k≤L.length∧j=.int .i64 k∧Hid (NeI w L (WJ bs X i L k) (.slice pi L.length ci) v wr)) (fun j _=>L.length-(intOf j).toNat)
 case atStart=>exact⟨0,_,by omega,rfl,H0⟩
 case round=>
  clear H0;obtain⟨k,v,hk,rfl,HI⟩:=hrel;rename World=>wr;have hzl:=lt_of_block HI.o.b;by_cases hlt:k<L.length
  ·obtain⟨gi,rfl,_,_⟩:=Qk HI.o.i (by omega);have c0:=Qf HI.o.i (QY hlt);have hkn:=HLT.o _ (Qx hlt);have HAL:Hid (∀t,(X L[k]).length≤t→Jf bs X i L k L[k] t=WJ bs X i L (k+1)):=fun t ht=>Qc8 hlt rfl ht;have HB0:Hid (NeI w L (Jf bs X i L k L[k] 0) (.slice (some ⟨gi,0,none⟩) L.length ci) v wr):=by rw[QaQ];exact HI.o
   obtain⟨gf,uf,rfl,_,hgf,cf5,_,of5⟩:=(HX.o.keeps (w':=wr) HI.o.f).at hkn;obtain⟨pu,cu,rfl⟩:=Qa of5;have hXl:=(hXs.out L[k]).len;generalize hnx:L[k]=nx at *;clear HI hnx;have O5:=Qc of5;clear of5;go_wp2_with fail;refine(Qe5 (X nx) B _ wr O5.o (by omega)).mono ?_;rintro r w5 ⟨v5,rfl,o5,f5⟩;obtain⟨p5,c5,rfl⟩:=Qa o5;have H1:Hid (NeI w L (Jf bs X i L k nx 0) (.slice (some ⟨gi,0,none⟩) L.length ci) v w5∧w5.ownsRow w.heap.size 78 1 (.slice p5 (X nx).length c5) (X nx).length (Qe (X nx))∧Q4 (.slice p5 (X nx).length c5) v):=by
    refine⟨HB0.o.keeps f5,Qj o5 HB0.o.f.size,fun q hq hq2=>?_⟩;have h1:=(o5.lt q hq2).1;have h2:=(HB0.o.o.lt q hq).2;omega
   clear o5 f5 HB0 O5;go_wp2_with fail
   go_loopw [29] (fun j wr=>∃(t:Nat)(v:Value),t≤(X nx).length∧j=.int .i64 t∧Hid (NeI w L (Jf bs X i L k nx t) (.slice (some ⟨gi,0,none⟩) L.length ci) v wr∧wr.ownsRow w.heap.size 78 1 (.slice p5 (X nx).length c5) (X nx).length (Qe (X nx))∧Q4 (.slice p5 (X nx).length c5) v)) (fun j _=>(X nx).length-(intOf j).toNat)
   case atStart=>exact⟨0,_,by omega,rfl,H1⟩
   case round=>
    clear H1;obtain⟨t,v,ht,rfl,HJ⟩:=hrel;rename World=>wq;by_cases htl:t<(X nx).length
    ·obtain⟨g5,rfl,_,_⟩:=Qk HJ.o.2.1 (by omega);have c5':=Qf HJ.o.2.1 (QY htl);obtain⟨gv',qk,ck,pk,sk,hgv',_,_,_,OC,_,e0,e1,e2,e3⟩:=(HP.o.keeps (Qr.below HJ.o.1.f)).at hkn;cases hgv';obtain⟨T2,x2,hT2⟩:=QQ bs[nx].e;rw[hT2]at e3;have HOC:=Qc OC;have hcl:=(hf.out _ (Qx hkn)).cl;have HG2:=Qc (hg2.out _ (Qx hkn));have HSC:Hid (ptF (Jf bs X i L k nx t) (orgR bs[nx].chs (X nx)[t] i)=Jf bs X i L k nx (t+1)):=by
      have:=QaR (bs:=bs) (X:=X) (i:=i) (L:=L) (k:=k) htl;rw[Zj hkn]at this;exact this
     have HSM:=Qc (Qex hf.out hXs.out i L k nx t);clear OC hT2;go_wp2_with fail;refine(QbH bs[nx] (X nx)[t] i base qk ck pk bs[nx].sts.length sk T2 x2 wq HOC.o HG2 hcl).mono ?_;rintro r w6 ⟨rfl,f6⟩;have H6:Hid (NeI w L (Jf bs X i L k nx t) (.slice (some ⟨gi,0,none⟩) L.length ci) v w6∧w6.ownsRow w.heap.size 78 1 (.slice (some ⟨g5,0,none⟩) (X nx).length c5) (X nx).length (Qe (X nx))∧Q4 (.slice (some ⟨g5,0,none⟩) (X nx).length c5) v):=⟨HJ.o.1.keeps f6,Qd HJ.o.2.1 (Qh f6) trivial,HJ.o.2.2⟩;have hz6:=H6.o.1.f.size;have hsm:=HSM.o.len;clear f6 HJ e0 e1 e2 e3 c5';go_wp2_with fail;refine(Qim (Jf bs X i L k nx t) (orgR bs[nx].chs (X nx)[t] i) HSM.o.1 (w.heap.size+1) 0 w.heap.size #[v] 161 v w6 H6.o.1.b rfl H6.o.1.o (by omega) (by omega) (QG H6.o.1.o H6.o.1.b (by decide))).mono ?_;rintro r w7 ⟨bb,v7,rfl,H7⟩;have HN:Hid (NeI w L (Jf bs X i L k nx (t+1)) (.slice (some ⟨gi,0,none⟩) L.length ci) v7 w7∧w7.ownsRow w.heap.size 78 1 (.slice (some ⟨g5,0,none⟩) (X nx).length c5) (X nx).length (Qe (X nx))∧Q4 (.slice (some ⟨g5,0,none⟩) (X nx).length c5) v7):=by
      obtain⟨_,j1,j2,j3⟩:=H7.o;rw[HSC.o]at j2;exact⟨H6.o.1.add j1 j2 j3,j3.owns H6.o.2.1 (QG H6.o.2.1 H6.o.1.b (by decide)) H6.o.2.2,j3.apart H6.o.2.1 H6.o.2.2⟩
     clear H7 H6;go_wp2_with fail;go_roundw
     case rel=>exact⟨t+1,v7,by omega,by go_num,HN⟩
     case measure=>simp[intOf];omega
    ·have HN:Hid (NeI w L (WJ bs X i L (k+1)) (.slice (some ⟨gi,0,none⟩) L.length ci) v wq):=by
      rw[←HAL.o t (by omega)];exact HJ.o.1
     clear HJ;go_wp2_with fail;go_roundw
     case rel=>exact⟨k+1,v,by omega,by go_num,HN⟩
     case measure=>simp[intOf];omega
  ·have H3:Hid (wr.heap[w.heap.size]?=some (.cells #[.slice none 0 0] 161 (0,0))∧wr.heap[w.heap.size+1]?=some (.cells #[v] 161 (0,0))∧wr.ownsRow w.heap.size 78 1 v (neL bs X i).length (Qe (neL bs X i))∧Below w.heap.size w wr):=by
    have e:WJ bs X i L k=neL bs X i:=by rw[WJ,neL,HSU.o,Zg (by omega)]
    refine⟨HI.o.a,HI.o.b,?_,HI.o.f⟩;rw[←e];exact HI.o.o
   obtain⟨pr,cr,rfl⟩:=Qa H3.o.2.2.1;have e0:=Qb H3.o.1 0;have e1:=Qb H3.o.2.1 0;have z0:=Qg H3.o.1 0;simp at e0 e1;clear HI;go_wp2_with fail;have q1:=Qq H3.o.1 0 (.slice pr (neL bs X i).length cr);have k0:=Qb q1 0;simp at k0;refine bodyPost_ret (v:=.agg #[.slice pr (neL bs X i).length cr]) (by simp[results,results74,go_sem,k0]) rfl ⟨_,rfl,?_⟩;obtain⟨a1,a2,a3,a4⟩:=H3.o;exact⟨QL a3 a1 (by decide),Qp a4 _ _ _ (Qi _)⟩
def Qh5(X Y:Nat→List Nat)(m:Nat):Prop:=∀k,k<m→X k=Y k
theorem Qcd{a b:List Nat}:eqF a b=true↔a=b:=by simp[eqF]
theorem Qlw(n:Nat)(X Y:Nat→List Nat)(B1 B2:Nat)(v1 v2:Value)(w:World)(h1:ZC B1 w v1 n X)(h2:ZC B2 w v2 n Y)(hX:Hid (∀k,SM (X k)))(hY:Hid (∀k,SM (Y k)))(hn:n≤1000):
  Calls prog 291 #[v1,v2,.func (.func 292) #[] #[]] w fun x w'=>∃bb:Bool,x=.returned (.bool bb)∧Hid ((bb=true→Qh5 X Y n)∧(bb=false→∃k,k<n∧X k≠Y k))∧Below w.heap.size w w':=by
 obtain⟨p1,c1,rfl⟩:=h1.slice;obtain⟨p2,c2,rfl⟩:=h2.slice;have H0:=Qc (And.intro h1 h2);clear h1 h2;go_enter func291,ntmps291;go_wp2_with fail
 go_loopw [17] (fun j wr=>∃k:Nat,k≤n∧j=.int .i64 k∧Hid (Qh5 X Y k)∧Hid (Below w.heap.size w wr)) (fun j _=>n-(intOf j).toNat)
 case atStart=>exact⟨0,by omega,rfl,(fun k hk=>by omega),Below.refl _ _⟩
 case round=>
  obtain⟨k,hk,rfl,HE,F⟩:=hrel;have hz:=F.o.size;by_cases hlt:k<n
  ·obtain⟨g1,u1,rfl,_,hg1,cu1,_,o1⟩:=(H0.o.1.keeps F.o).at hlt;obtain⟨g2,u2,rfl,_,hg2,cu2,_,o2⟩:=(H0.o.2.keeps F.o).at hlt;obtain⟨q1,d1,rfl⟩:=Qa o1;obtain⟨q2,d2,rfl⟩:=Qa o2;have al:∀o,(wr.alloc o).cell? ⟨g2,k,none⟩=some (.slice q2 (Y k).length d2):=fun o=>by
    rw[World.cell?_of_block (w:=wr) (Below.heap_alloc wr o _ hg2)];exact cu2
   have O1:=Qc (And.intro o1 o2);have L1:=(hX.out k).len;have L2:=(hY.out k).len;clear o1 o2 cu2;go_wp2_with fail;obtain⟨W,hW⟩:∃W,W=(wr.alloc (.cells #[.slice q1 (X k).length d1] 161)).alloc (.cells #[.slice q2 (Y k).length d2] 161):=⟨_,rfl⟩;rw[←hW];obtain⟨_,_,hzW,f2⟩:=two wr (.cells #[.slice q1 (X k).length d1] 161) (.cells #[.slice q2 (Y k).length d2] 161);rw[←hW]at hzW f2;refine(Qko (X k) (Y k) B1 B2 _ _ W (Qd O1.o.1 (Qh f2) trivial) (Qd O1.o.2 (Qh f2) trivial) (by omega) (by omega)).mono ?_;rintro e w5 ⟨rfl,f5⟩;have F5:=Qc (F.o.trans ((f2.trans (f5.mono (by omega))).mono hz));clear hW f2 f5 O1 al cu1
   cases he:eqF (X k) (Y k) with
   | true=>
    have HE2:Hid (Qh5 X Y (k+1)):=fun j hj=>by
     rcases Nat.lt_succ_iff_lt_or_eq.1 hj with h|rfl
     ·exact HE.o j h
     ·exact Qcd.1 he
    clear he;go_wp2_with fail;go_roundw
    case rel=>exact⟨k+1,by omega,by go_num,HE2,F5⟩
    case measure=>simp[intOf];omega
   | false=>
    have HN:Hid (∃k,k<n∧X k≠Y k):=⟨k,hlt,fun e=>by rw[Qcd.2 e]at he;cases he⟩;clear he;go_wp2_with fail;go_ret;exact⟨false,rfl,⟨(fun h=>by cases h),fun _=>HN.o⟩,F5.o⟩
  ·have hke:k=n:=by omega
   go_wp2_with fail;go_ret;exact⟨true,rfl,⟨fun _=>hke ▸ HE.o,fun h=>by cases h⟩,F.o⟩
theorem Qkp(n:Nat)(X Y:Nat→List Nat)(B1 B2:Nat)(v1 v2:Value)(w:World)(h1:ZC B1 w v1 n X)(h2:ZC B2 w v2 n Y)(hX:Hid (∀k,SM (X k)))(hY:Hid (∀k,SM (Y k)))(hn:n≤1000):
  Calls prog 290 #[v1,v2] w fun x w'=>∃bb:Bool,x=.returned (.bool bb)∧Hid ((bb=true→Qh5 X Y n)∧(bb=false→∃k,k<n∧X k≠Y k))∧Below w.heap.size w w':=by
 obtain⟨p1,c1,rfl⟩:=h1.slice;obtain⟨p2,c2,rfl⟩:=h2.slice;have H0:=Qc (And.intro h1 h2);clear h1 h2;go_enter func290,ntmps290;go_wp2_with fail;refine(Qlw n X Y B1 B2 _ _ w H0.o.1 H0.o.2 hX hY hn).mono ?_;rintro e w5 ⟨bb,rfl,HB,f5⟩;have F5:=Qc f5;clear f5;go_wp2_with fail;go_ret;exact⟨bb,rfl,HB,F5.o⟩
theorem RI:(prog.info? 161).map (fun i=>(i.zero,i.size,i.bytes))=some (some (.agg #[.slice none 0 0]),1,24):=by kernel_rfl
theorem QhN:(prog.info? 234).map (fun i=>(i.zero,i.size,i.bytes))=some (some (.agg #[.slice none 0 0,.slice none 0 0]),2,48):=by kernel_rfl
theorem WA{w:World}{base e size g n cap:Nat}{xs:List Value}(h:w.ownsRow base e size (.slice (some ⟨g,0,none⟩) n cap) n xs)(j:Nat)(x:Value):(w.setCell ⟨g,j,none⟩ x).ownsRow base e size (.slice (some ⟨g,0,none⟩) n cap) n (xs.set j x):=by
 obtain⟨h1,h2⟩:=h;refine⟨by simpa using h1,?_⟩;rcases h2 with ⟨h0,_⟩|⟨g',cap',cur,hv,a,c,d,e1,e2,e3⟩
 ·cases h0
 ·cases hv;refine .inr ⟨g,cap,cur.setIfInBounds j x,rfl,a,Qq c j x,d,e1,by simpa using e2,?_⟩;rw[Array.toList_setIfInBounds,←e3,List.take_set]
def J9(base:Nat)(w:World)(v:Value)(bs:List Qm)(m:Nat):Prop:=
 ∃us:List (Value×Value),w.ownsRow base 234 2 v bs.length (us.flatMap fun p=>[p.1,p.2])∧us.length=bs.length∧∀(k:Nat)(p:Value×Value),us[k]?=some p→k<m→w.ownsRow base 78 1 p.1 (rdB (bkF bs k)).length (Qe (rdB (bkF bs k)))∧w.ownsRow base 78 1 p.2 (gvB (bkF bs k)).length (Qe (gvB (bkF bs k)))
theorem J9.slice{base w v bs m}(h:J9 base w v bs m):∃p c,v=.slice p bs.length c:=by obtain⟨us,a,_⟩:=h;exact Qa a
theorem J9.keeps{base:Nat}{w w':World}{v:Value}{bs:List Qm}{m:Nat}(h:J9 base w v bs m)(k:Below w.heap.size w w'):J9 base w' v bs m:=by
 obtain⟨us,a,l,b⟩:=h;exact⟨us,Qd a (Qh k) trivial,l,fun j u hu hj=>⟨Qd (b j u hu hj).1 (Qh k) trivial,Qd (b j u hu hj).2 (Qh k) trivial⟩⟩
theorem J9.at{base:Nat}{w:World}{p:Option Addr}{c m:Nat}{bs:List Qm}(h:J9 base w (.slice p bs.length c) bs m){k:Nat}(hk:k<bs.length)(hkm:k<m):
  ∃g u1 u2,p=some ⟨g,0,none⟩∧base≤g∧g<w.heap.size∧w.cell? ⟨g,k*2,none⟩=some u1∧w.cell? ⟨g,k*2+1,none⟩=some u2∧w.ownsRow base 78 1 u1 (rdB (bkF bs k)).length (Qe (rdB (bkF bs k)))∧w.ownsRow base 78 1 u2 (gvB (bkF bs k)).length (Qe (gvB (bkF bs k))):=by
 obtain⟨us,a,l,b⟩:=h;obtain⟨g,rfl,hb,hg⟩:=Qk a (by omega);have hu:us[k]?=some us[k]:=Zl (by omega);have F:=fun j hj=>Z4 2 (us.map fun p=>[p.1,p.2]) k j [us[k].1,us[k].2] (fun x hx=>by obtain⟨y,_,rfl⟩:=Qv.1 hx;rfl) (by rw[List.getElem?_map,hu];rfl) hj;rw[List.flatMap_def]at a;exact⟨g,us[k].1,us[k].2,rfl,hb,hg,Qf a (F 0 (by omega)),Qf a (F 1 (by omega)),(b k _ hu hkm).1,(b k _ hu hkm).2⟩
theorem QfF{us:List (Value×Value)}:∀{m:Nat}(p:Value×Value),((us.set m p).flatMap fun p=>[p.1,p.2])=((us.flatMap fun p=>[p.1,p.2]).set (m*2) p.1).set (m*2+1) p.2:=by
 induction us with
 | nil=>intro m p;simp
 | cons u us ih=>
  intro m p
  cases m with
  | zero=>simp
  | succ m=>
   rw[List.set_cons_succ,List.flatMap_cons,List.flatMap_cons,ih];rw[show (m+1)*2=m*2+1+1 by omega];simp
theorem J9.store{base:Nat}{w:World}{g c m:Nat}{bs:List Qm}(h:J9 base w (.slice (some ⟨g,0,none⟩) bs.length c) bs m){vr vg:Value}(o1:w.ownsRow base 78 1 vr (rdB (bkF bs m)).length (Qe (rdB (bkF bs m))))(o2:w.ownsRow base 78 1 vg (gvB (bkF bs m)).length (Qe (gvB (bkF bs m)))):
  J9 base ((w.setCell ⟨g,m*2,none⟩ vr).setCell ⟨g,m*2+1,none⟩ vg) (.slice (some ⟨g,0,none⟩) bs.length c) bs (m+1):=by
 obtain⟨us,a,l,b⟩:=h;have hb:∃cs fz,w.heap[g]?=some (.cells cs 234 fz):=by
  rcases a.2 with ⟨h0,_⟩|⟨g',cap',cur',hv,_,hc',_⟩
  ·cases h0
  ·cases hv;exact⟨_,_,hc'⟩
 obtain⟨cs,fz,hg⟩:=hb;have hg2:=Qq hg (m*2) vr;have K:∀{u:Value} {n:Nat} {xs:List Value},w.ownsRow base 78 1 u n xs→((w.setCell ⟨g,m*2,none⟩ vr).setCell ⟨g,m*2+1,none⟩ vg).ownsRow base 78 1 u n xs:=fun o=>QL (QL o hg (by decide)) hg2 (by decide);refine⟨us.set m (vr,vg),?_,by rw[List.length_set,l],fun k p hp hk=>?_⟩
 ·rw[QfF];exact WA (WA a _ _) _ _
 ·rw[List.getElem?_set]at hp;by_cases e:m=k
  ·subst e;rw[if_pos rfl]at hp;split at hp
   ·cases hp;exact⟨K o1,K o2⟩
   ·cases hp
  ·rw[if_neg e]at hp;exact⟨K (b k p hp (by omega)).1,K (b k p hp (by omega)).2⟩
theorem J9.cells{base:Nat}{w:World}{g c m:Nat}{bs:List Qm}(h:J9 base w (.slice (some ⟨g,0,none⟩) bs.length c) bs m){k:Nat}(hk:k<bs.length):∃u1 u2,w.cell? ⟨g,k*2,none⟩=some u1∧w.cell? ⟨g,k*2+1,none⟩=some u2∧w.frozen? ⟨g,k*2,none⟩=false∧w.frozen? ⟨g,k*2+1,none⟩=false:=by
 obtain⟨us,a,l,_⟩:=h;have hu:us[k]?=some us[k]:=Zl (by omega);have F:=fun j hj=>Z4 2 (us.map fun p=>[p.1,p.2]) k j [us[k].1,us[k].2] (fun x hx=>by obtain⟨y,_,rfl⟩:=Qv.1 hx;rfl) (by rw[List.getElem?_map,hu];rfl) hj;rw[List.flatMap_def]at a;exact⟨_,_,Qf a (F 0 (by omega)),Qf a (F 1 (by omega)),Xz a _,Xz a _⟩
theorem QeS(n:Nat):(madeCells (Value.agg #[.slice none 0 0,.slice none 0 0]).cells (n*2)).toList=(List.replicate n ((Value.slice none 0 0,Value.slice none 0 0):Value×Value)).flatMap fun p=>[p.1,p.2]:=by
 rw[show (Value.agg #[.slice none 0 0,.slice none 0 0]).cells=#[.slice none 0 0,.slice none 0 0] from rfl];have h1:(List.replicate n ((Value.slice none 0 0,Value.slice none 0 0):Value×Value)).flatMap (fun p=>[p.1,p.2])=List.replicate (n*2) (Value.slice none 0 0):=by
  induction n with
  | zero=>rfl
  | succ n ih=>rw[List.replicate_succ,List.flatMap_cons,ih,show (n+1)*2=n*2+1+1 by omega,List.replicate_succ,List.replicate_succ];rfl
 rw[h1];apply List.ext_getElem
 ·simp[madeCells]
 ·intro i h1 h2;rcases Nat.mod_two_eq_zero_or_one i with h|h<;>simp[madeCells,h]
theorem Grd.set{w bs base B v va vu}(h:Grd w bs base B v va vu){R o:Nat}{cur:Array Value}(hR:w.heap[R]?=some (.cells cur 87 (0,0)))(x:Value):Grd (w.setCell ⟨R,o,none⟩ x) bs base B v va vu:=by
 obtain⟨a,b,us,c,d⟩:=h;exact⟨a.keeps (ZQ hR (by simp[T7]) x),Qd b (ZQ (T:=fun e=>e=143∨e=82) hR (by decide) x) (.inl rfl),us,Qd c (ZQ (T:=fun e=>e=143∨e=82) hR (by decide) x) (.inr rfl),fun k u hu=>Qd (d k u hu) (ZQ (T:=fun e=>e=143∨e=82) hR (by decide) x) (.inl rfl)⟩
theorem QhU(bs:List Qm)(base:Nat)(v:Value)(w:World)(h:PBs w base bs v)(hr:J5 bs):
  Calls prog 40 #[v] w fun x w'=>∃va vu,x=.returned (.agg #[v,va,vu,v])∧Hid (Grd w' bs base w.heap.size v va vu∧Below w.heap.size w w'):=by
 obtain⟨p,c,rfl⟩:=h.slice;have H:=Qc h;clear h;go_enter func40,ntmps40;go_wp2_with fail;have FA:=(Below.refl w.heap.size w).alloc (Qi _) (.cells #[.slice none 0 0,.slice none 0 0,.slice none 0 0,.slice none 0 0] 87);have gA:=heap_alloc_last w (.cells #[.slice none 0 0,.slice none 0 0,.slice none 0 0,.slice none 0 0] 87);have hz:w.heap.size<(w.alloc (.cells #[.slice none 0 0,.slice none 0 0,.slice none 0 0,.slice none 0 0] 87)).heap.size:=by rw[Qt];omega
 refine(Qjk bs base _ _ (H.o.keeps (Qr.below FA)) hr.goals hr.pos (by have:=hr.le;omega)).mono ?_;rintro e w1 ⟨va,vu,rfl,oa,ou,f1⟩;have g1:w1.heap[w.heap.size]?=some (.cells #[.slice none 0 0,.slice none 0 0,.slice none 0 0,.slice none 0 0] 87 (0,0)):=by rw[f1.block _ hz];exact gA
 have F1:=FA.trans (f1.mono FA.size);obtain⟨pa,ca,rfl⟩:=Qa oa;obtain⟨q,d,rfl⟩:=ou.slice;have HG:Hid (Grd w1 bs base w.heap.size (.slice p bs.length c) (.slice pa (QT bs).length ca) (.slice q bs.length d)∧Below w.heap.size w w1):=⟨⟨H.o.keeps (Qr.below F1),Qj oa (Nat.le_of_lt hz),ou.base (Nat.le_of_lt hz)⟩,F1⟩;have n0:=Qb g1 0;have n1:=Qb g1 1;have n2:=Qb g1 2;have n3:=Qb g1 3;have nf0:=Qg g1 0;have nf1:=Qg g1 1;have nf2:=Qg g1 2;have nf3:=Qg g1 3;simp at n0 n1 n2 n3;have HF:Hid (∀W,W=(((w1.setCell ⟨w.heap.size,0,none⟩ (.slice p bs.length c)).setCell ⟨w.heap.size,1,none⟩ (.slice pa (QT bs).length ca)).setCell ⟨w.heap.size,2,none⟩ (.slice q bs.length d)).setCell ⟨w.heap.size,3,none⟩ (.slice p bs.length c)→(W.cell? ⟨w.heap.size,0,none⟩=some (.slice p bs.length c)∧W.cell? ⟨w.heap.size,1,none⟩=some (.slice pa (QT bs).length ca)∧W.cell? ⟨w.heap.size,2,none⟩=some (.slice q bs.length d)∧W.cell? ⟨w.heap.size,3,none⟩=some (.slice p bs.length c))∧Grd W bs base w.heap.size (.slice p bs.length c) (.slice pa (QT bs).length ca) (.slice q bs.length d)∧Below w.heap.size w W):=by
  rintro W rfl;have b0:=Qq g1 0 (.slice p bs.length c);have b1:=Qq b0 1 (.slice pa (QT bs).length ca);have b2:=Qq b1 2 (.slice q bs.length d);have b3:=Qq b2 3 (.slice p bs.length c);have q0:=Qb b3 0;have q1:=Qb b3 1;have q2:=Qb b3 2;have q3:=Qb b3 3;simp at q0 q1 q2 q3;exact⟨⟨q0,q1,q2,q3⟩,(((HG.o.1.set g1 _).set b0 _).set b1 _).set b2 _,Qp (Qp (Qp (Qp HG.o.2 _ _ _ (Qi _)) _ _ _ (Qi _)) _ _ _ (Qi _)) _ _ _ (Qi _)⟩
 clear FA gA oa ou f1 F1 hz H g1 HG;go_wp2_with fail;obtain⟨W9,hW9⟩:∃W9,W9=(((w1.setCell ⟨w.heap.size,0,none⟩ (.slice p bs.length c)).setCell ⟨w.heap.size,1,none⟩ (.slice pa (QT bs).length ca)).setCell ⟨w.heap.size,2,none⟩ (.slice q bs.length d)).setCell ⟨w.heap.size,3,none⟩ (.slice p bs.length c):=⟨_,rfl⟩;obtain⟨⟨q0,q1,q2,q3⟩,HW⟩:=HF.o _ hW9;rw[←hW9];refine bodyPost_ret (v:=.agg #[.slice p bs.length c,.slice pa (QT bs).length ca,.slice q bs.length d,.slice p bs.length c]) (by simp[results,results40,go_sem,q0,q1,q2,q3]) rfl ⟨_,_,rfl,HW⟩
end Go.Proofs.YtgfhfkgdmidhpaaGreatDoor
