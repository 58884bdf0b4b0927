import Derived.Test.YtgfhfkgdmidhpaaGreatDoorM36
import Derived.Shelf.SlIterI.Nil
import Derived.Shelf.SlIterI.Sorted
import Derived.Ground.GgzProg
namespace Go.Proofs.YtgfhfkgdmidhpaaGreatDoor
open Go.RowKit Go.Maps
open Go.Proofs.Tryz
set_option maxRecDepth 100000
set_option maxHeartbeats 8000000
structure Fm(mb:Nat)(w w':World):Prop where
 os:w'.os=w.os
 tape:w'.tape=w.tape
 output:w'.output=w.output
 size:w.heap.size≤w'.heap.size
 block:∀k,k<w.heap.size→k≠mb→w'.heap[k]?=w.heap[k]?
theorem Fm.of{mb w w'}(F:Below w.heap.size w w'):Fm mb w w':=⟨F.os,F.tape,F.output,F.size,fun k hk _=>F.block k hk⟩
theorem Fm.trans{mb u v w}(h:Fm mb u v)(k:Fm mb v w):Fm mb u w:=⟨k.os.trans h.os,k.tape.trans h.tape,k.output.trans h.output,Qy h.size k.size,fun j hj hn=>(k.block j (QH hj h.size) hn).trans (h.block j hj hn)⟩
theorem Fm.keeps{mb:Nat}{w w':World}(F:Fm mb w w'){cs:Array Value}{fz:Nat×Nat}(hb:w.heap[mb]?=some (.cells cs 95 fz)){base:Nat}{T:TypeId→Prop}(hT:¬T 95):Qr base T w w':=fun g c e _ ht hh=>by
 rw[F.block g (lt_of_block hh) (fun e2=>by subst e2;rw[hb]at hh;cases hh;exact hT ht)];exact hh
theorem Fm.below{mb:Nat}{w0 w w':World}(F0:Below w0.heap.size w0 w)(F:Fm mb w w')(hb:w0.heap.size≤mb):Below w0.heap.size w0 w':=
 F0.trans ⟨F.os,F.tape,F.output,F.size,fun k hk=>F.block k (QH hk F0.size) (by omega)⟩
theorem Grd.fm{mb w w' bs base B v va vu}(h:Grd w bs base B v va vu)(F:Fm mb w w'){cs:Array Value}{fz:Nat×Nat}(hb:w.heap[mb]?=some (.cells cs 95 fz)):Grd w' bs base B v va vu:=by
 refine⟨h.p.keeps (F.keeps hb (by simp[T7])),Qd h.a (F.keeps hb (T:=fun e=>e=143) (by decide)) rfl,?_⟩;obtain⟨us,a,b⟩:=h.u;exact⟨us,Qd a (F.keeps hb (T:=fun e=>e=82) (by decide)) rfl,fun k u hu=>Qd (b k u hu) (F.keeps hb (T:=fun e=>e=143) (by decide)) rfl⟩
theorem XK.fm{mb w w' base v n f}(h:XK base w v n f)(F:Fm mb w w'){cs:Array Value}{fz:Nat×Nat}(hb:w.heap[mb]?=some (.cells cs 95 fz)):XK base w' v n f:=by
 obtain⟨us,a,b⟩:=h;exact⟨us,Qd a (F.keeps hb (T:=fun e=>e=82) (by decide)) rfl,fun k u hu=>Qd (b k u hu) (F.keeps hb (T:=fun e=>e=143) (by decide)) rfl⟩
theorem ZC.fm{mb w w' base v n f}(h:ZC base w v n f)(F:Fm mb w w'){cs:Array Value}{fz:Nat×Nat}(hb:w.heap[mb]?=some (.cells cs 95 fz)):ZC base w' v n f:=by
 obtain⟨us,a,b⟩:=h;exact⟨us,Qd a (F.keeps hb (T:=fun e=>e=161) (by decide)) rfl,fun k u hu=>Qd (b k u hu) (F.keeps hb (T:=fun e=>e=78) (by decide)) rfl⟩
structure NuI(bs:List Qm)(f:Nat→List Nat)(mb:Nat)(v va vu vah vnd vp:Value)(w:World)(i:Nat)(vch vgi:Value)(wr:World):Prop where
 b:wr.heap[mb]?=some (.cells #[v,va,vu,v,vah,vnd,vch,vgi] 95 (0,0))
 c:ChQ wr w.heap.size vch i bs f
 g:GiQ wr w.heap.size vgi i bs f
 p:ZC w.heap.size wr vp bs.length f
 f:Fm mb w wr
theorem NuI.keeps{bs f mb v va vu vah vnd vp w i vch vgi wr wr'}(h:NuI bs f mb v va vu vah vnd vp w i vch vgi wr)(F:Below wr.heap.size wr wr'):NuI bs f mb v va vu vah vnd vp w i vch vgi wr':=
 ⟨by rw[F.block _ (lt_of_block h.b)];exact h.b,h.c.keeps F,h.g.keeps F,h.p.keeps F,h.f.trans (.of F)⟩
theorem Qej{bs X LM f n}(h:PlF bs X LM f n 0)(hX:∀k,SM (X k))(k:Nat):SM (f k):=by
 have hf:∀p:Nat→Bool,SM ((X k).filter p):=fun p=>⟨(hX k).1.filter _,fun x hx=>(hX k).2 x (List.mem_filter.1 hx).1⟩;rcases Nat.lt_trichotomy k n with e|e|e
 ·rw[h.done k e];exact hf _
 ·subst e;rw[h.here];exact SM.nil
 ·rw[h.rest k e];exact SM.nil
theorem QfK{bs f}(hf:∀b∈bs,QU 1000 b)(hS:∀k,SM (f k)):∀i,i≤bs.length→cntN bs f i≤i*11000
 | 0,_=>Qi _
 | i+1,h=>by
  have h1:=QfK hf hS i (by omega);have h2:=(hS i).len;have h3:=Qa6 (bkF bs i).sts (bkF bs i).sts.length;have h4:=(hf _ (Qx (show i<bs.length by omega))).sl;rw[←Zj (show i<bs.length by omega)]at h4;rw[cntN];omega
def gP(bs:List Qm)(f:Nat→List Nat)(i n k:Nat):List Nat:=(List.range n).map fun j=>if j<k then giN bs f i j else 0
theorem Qbc(bs f i n k):(gP bs f i n k).length=n:=by simp[gP]
theorem Qh1(bs f i n):Qe (gP bs f i n 0)=List.replicate n (.int .i64 0):=by
 unfold gP Qe;rw[List.map_map];apply List.ext_getElem<;>simp
theorem QkL{bs f i n k}(h:giN bs f i k=0):gP bs f i n (k+1)=gP bs f i n k:=by
 unfold gP;refine List.map_congr_left fun j _=>?_;by_cases e:j=k
 ·subst e;simp[h]
 ·by_cases h2:j<k
  ·rw[if_pos (by omega),if_pos h2]
  ·rw[if_neg (by omega),if_neg h2]
theorem QjQ{bs f i n k}:gP bs f i n (k+1)=(gP bs f i n k).set k (giN bs f i k):=by
 refine List.ext_getElem (by simp[gP]) fun j h1 h2=>?_;have hj:j<n:=by rw[Qbc]at h1;exact h1
 rw[List.getElem_set];by_cases e:k=j
 ·subst e;rw[if_pos rfl];simp[gP]
 ·rw[if_neg e];simp only[gP,List.getElem_map,List.getElem_range];by_cases h3:j<k
  ·rw[if_pos (by omega),if_pos h3]
  ·rw[if_neg (by omega),if_neg h3]
theorem QjR{bs f i}{sts:List Qz}(h:(bkF bs i).sts=sts):gP bs f i sts.length sts.length=giL bs f i:=by
 unfold gP giL;rw[h];exact List.map_congr_left fun j hj=>if_pos (List.mem_range.1 hj)
theorem Qfc:(prog.info? 166).map (fun i=>(i.zero,i.size,i.bytes))=some (some (.map none),1,8):=by kernel_rfl
theorem Qfd:(prog.info? 159).map (fun i=>(i.zero,i.size,i.bytes))=some (some (.slice none 0 0),1,24):=by kernel_rfl
structure Ap(e mb base:Nat)(w w':World):Prop where
 os:w'.os=w.os
 tape:w'.tape=w.tape
 output:w'.output=w.output
 size:w.heap.size≤w'.heap.size
 keep:∀(k:Nat)(ob:Obj),w.heap[k]?=some ob→(∀cs fz,ob≠Obj.cells cs 95 fz)→(∀cs fz,ob≠Obj.cells cs e fz)→w'.heap[k]?=some ob
 low:∀k:Nat,k<base→k<w.heap.size→k≠mb→w'.heap[k]?=w.heap[k]?
theorem QiP{w1 w2:World}{base e n mb o:Nat}{v v':Value}{xs:List Value}{ob:Obj}{cs0:Array Value}{fz0:Nat×Nat}(hm:w1.heap[mb]?=some (.cells cs0 95 fz0))(h:w1.ownsRow base e 1 v n xs)(g:(w1.alloc ob).grownBy w2 v.ownBlock):Ap e mb base w1 (w2.setCell ⟨mb,o,none⟩ v'):=by
 refine⟨g.os,g.tape,g.output,?_,fun k x hx h95 he=>?_,fun k hk hs hne=>?_⟩
 ·rw[Zs];have:=g.size;rw[Qt]at this;omega
 ·have h2:w2.heap[k]?=some x:=by
   refine QC g (Qo hx _) fun j hj e2=>?_;subst e2;rcases h.2 with ⟨rfl,_⟩|⟨g,cap,cur,rfl,_,c1,_⟩
   ·cases hj
   ·cases hj;rw[c1]at hx;cases hx;exact he _ _ rfl
  exact Ql h2 (fun e2=>by subst e2;rw[hm]at hx;cases hx;exact h95 _ _ rfl) _ _
 ·rw[Below.heap_setCell _ _ _ _ hne,g.block k (by rw[Qt];omega) (fun e2=>by have:=(h.lt k e2.symm).1;omega),Below.heap_alloc _ _ _ hs]
theorem Ap.keeps{e mb base:Nat}{w w':World}(h:Ap e mb base w w'){b:Nat}{T:TypeId→Prop}(h1:¬T 95)(h2:¬T e):Qr b T w w':=fun g c t _ ht hh=>
 h.keep g _ hh (fun cs fz e2=>by cases e2;exact h1 ht) (fun cs fz e2=>by cases e2;exact h2 ht)
theorem Ap.ch{e mb base:Nat}{w w':World}(h:Ap e mb base w w') {b kk l n0}(hc:ChM w b kk l n0):ChM w' b kk l n0:=by
 obtain⟨es,clock,hb⟩:=hc.map;exact hc.at (by rw[h.keep b _ hb (fun _ _ e2=>by cases e2) (fun _ _ e2=>by cases e2),hb])
theorem Ap.fm{e mb base:Nat}{w0 w w':World}(h:Ap e mb base w w')(F:Fm mb w0 w)(hb:base=w0.heap.size):Fm mb w0 w':=
 ⟨h.os.trans F.os,h.tape.trans F.tape,h.output.trans F.output,Qy F.size h.size,fun k hk hn=>(h.low k (by omega) (QH hk F.size) hn).trans (F.block k hk hn)⟩
theorem Ap.chq{e mb base:Nat}{w w':World}(h:Ap e mb base w w')(he:e≠166) {v n bs f b}(hc:ChQ w b v n bs f):ChQ w' b v n bs f:=by
 obtain⟨us,a,c⟩:=hc;refine⟨us,Qd a (h.keeps (T:=fun t=>t=166) (by decide) (by omega)) rfl,fun k u hu=>?_⟩;obtain⟨x,kk,e,m⟩:=c k u hu;exact⟨x,kk,e,h.ch m⟩
theorem Ap.giq{e mb base:Nat}{w w':World}(h:Ap e mb base w w')(he:e≠159)(he2:e≠78) {v n bs f b}(hc:GiQ w b v n bs f):GiQ w' b v n bs f:=by
 obtain⟨us,a,c⟩:=hc;exact⟨us,Qd a (h.keeps (T:=fun t=>t=159) (by decide) (by omega)) rfl,fun k u hu=>Qd (c k u hu) (h.keeps (T:=fun t=>t=78) (by decide) (by omega)) rfl⟩
theorem Ap.setq{e mb base:Nat}{w w':World}(h:Ap e mb base w w')(he:e≠161)(he2:e≠78) {v n f b}(hc:ZC b w v n f):ZC b w' v n f:=by
 obtain⟨us,a,c⟩:=hc;exact⟨us,Qd a (h.keeps (T:=fun t=>t=161) (by decide) (by omega)) rfl,fun k u hu=>Qd (c k u hu) (h.keeps (T:=fun t=>t=78) (by decide) (by omega)) rfl⟩
theorem Qaf{us:List Value}{k:Nat}{x u:Value}(h:(us++[x])[k]?=some u):us[k]?=some u∨(k=us.length∧u=x):=by
 rcases Nat.lt_or_ge k us.length with h1|h1
 ·rw[List.getElem?_append_left h1]at h;exact .inl h
 ·rw[List.getElem?_append_right h1]at h;obtain⟨a,b⟩:=List.getElem?_eq_some_iff.1 h;have ha:k-us.length<1:=a;exact .inr ⟨by omega,by simpa using b.symm⟩
structure NuH(bs:List Qm)(f:Nat→List Nat)(mb:Nat)(v va vu vah vnd vp:Value)(w:World)(i:Nat)(vch vgi:Value)(vn:Value)(wr:World):Prop where
 b:wr.heap[mb]?=some (.cells #[v,va,vu,v,vah,vnd,vch,vgi] 95 (0,0))
 c:ChQ wr w.heap.size vch (i+1) bs f
 g:GiQ wr w.heap.size vgi i bs f
 p:ZC w.heap.size wr vp bs.length f
 n:wr.ownsRow w.heap.size 78 1 vn (giL bs f i).length (Qe (giL bs f i))
 f:Fm mb w wr
theorem NuI.step1{bs f mb v va vu vah vnd vp w i vch vch' vgi vn wr w2 us b kk ob}(h:NuI bs f mb v va vu vah vnd vp w i vch vgi wr)(hu:wr.ownsRow w.heap.size 166 1 vch i us)(hus:∀(k:Nat)(u:Value),us[k]?=some u→∃b kk,u=.map (some b)∧ChM wr b kk (f k) (cntN bs f k))(hc:ChM wr b kk (f i) (cntN bs f i))(hn:wr.ownsRow w.heap.size 78 1 vn (giL bs f i).length (Qe (giL bs f i)))
  (g:(wr.alloc ob).grownBy w2 vch.ownBlock)(o:w2.ownsRow w.heap.size 166 1 vch' (i+1) (us++[.map (some b)])):NuH bs f mb v va vu vah vnd vp w i vch' vgi vn (w2.setCell ⟨mb,6,none⟩ vch'):=by
 have A:Ap 166 mb w.heap.size wr (w2.setCell ⟨mb,6,none⟩ vch'):=QiP h.b hu g;have hb2:w2.heap[mb]?=some (.cells #[v,va,vu,v,vah,vnd,vch,vgi] 95 (0,0)):=QC g (Qo h.b _) fun j hj e=>QG hu h.b (by decide) (by rw[e];exact hj);have hl:us.length=i:=by have:=hu.1;omega
 refine⟨Qq hb2 6 vch',⟨_,QL o hb2 (by decide),fun k u hk=>?_⟩,A.giq (by decide) (by decide) h.g,A.setq (by decide) (by decide) h.p,Qd hn (A.keeps (T:=fun t=>t=78) (by decide) (by decide)) rfl,A.fm h.f rfl⟩;rcases Qaf hk with hk|⟨e,rfl⟩
 ·obtain⟨x,kx,e,m⟩:=hus k u hk;exact⟨x,kx,e,A.ch m⟩
 ·rw[hl]at e;subst e;exact⟨b,kk,rfl,A.ch hc⟩
theorem NuH.step2{bs f mb v va vu vah vnd vp w i vch vgi vgi' vn wr w2 us ob}(h:NuH bs f mb v va vu vah vnd vp w i vch vgi vn wr)(hu:wr.ownsRow w.heap.size 159 1 vgi i us)(hus:∀(k:Nat)(u:Value),us[k]?=some u→wr.ownsRow w.heap.size 78 1 u (giL bs f k).length (Qe (giL bs f k)))
  (g:(wr.alloc ob).grownBy w2 vgi.ownBlock)(o:w2.ownsRow w.heap.size 159 1 vgi' (i+1) (us++[vn])):NuI bs f mb v va vu vah vnd vp w (i+1) vch vgi' (w2.setCell ⟨mb,7,none⟩ vgi'):=by
 have A:Ap 159 mb w.heap.size wr (w2.setCell ⟨mb,7,none⟩ vgi'):=QiP h.b hu g;have hb2:w2.heap[mb]?=some (.cells #[v,va,vu,v,vah,vnd,vch,vgi] 95 (0,0)):=QC g (Qo h.b _) fun j hj e=>QG hu h.b (by decide) (by rw[e];exact hj);have hl:us.length=i:=by have:=hu.1;omega
 refine⟨Qq hb2 7 vgi',A.chq (by decide) h.c,⟨_,QL o hb2 (by decide),fun k u hk=>?_⟩,A.setq (by decide) (by decide) h.p,A.fm h.f rfl⟩;rcases Qaf hk with hk|⟨e,rfl⟩
 ·exact Qd (hus k u hk) (A.keeps (T:=fun t=>t=78) (by decide) (by decide)) rfl
 ·rw[hl]at e;subst e;exact Qd h.n (A.keeps (T:=fun t=>t=78) (by decide) (by decide)) rfl
theorem Qhw(bs:List Qm)(mb base B Bn:Nat)(v va vu vah vnd:Value)(w:World)(hM:MkG bs mb base B v va vu vah vnd (.slice none 0 0) (.slice none 0 0) w)(hA:XK Bn w vah bs.length (aheF bs))(hX:ZC Bn w vnd bs.length (ndL bs))(hgl:Hid (∀b∈bs,∀p∈goalsF b.e,p.1<bs.length))(hf:Hid (∀b∈bs,QU 1000 b))(hn0:0<bs.length)(hn:bs.length≤12):
  Calls prog 43 #[.pointer (some ⟨mb,0,none⟩)] w fun x w'=>x=.returned (.tuple #[])∧∃LM f vch vgi,Hid (PlF bs (ndL bs) LM f bs.length 0∧MkF bs f mb base B Bn w.heap.size v va vu vah vnd vch vgi w'∧Fm mb w w'):=by
 have HM:=Qc hM;have HX:=Qc (And.intro hA hX);have HF6:Hid (∀b∈bs,QU 1000000 b):=fun b hb=>(hf.out b hb).mono (by omega);have HXS:Hid (∀k,SM (ndL bs k)):=fun k=>Jz HF6.o _ k;have m3:=Qb hM.b 3;simp at m3;have hmb:=lt_of_block hM.b;obtain⟨⟨pv,cv,rfl⟩,_,_⟩:=hM.g.form;clear hM hA hX;go_enter func43,ntmps43;go_wp2_with fail;refine(Qhj bs (ndL bs) mb base B Bn _ va vu vah vnd _ _ w HM.o HX.o.2 HXS hgl HF6 hn0 (by omega)).mono ?_;rintro e w1 ⟨vp,LM,f,rfl,H1⟩;have hz1:=H1.o.2.2.size;have HB0:Hid (NuI bs f mb (.slice pv bs.length cv) va vu vah vnd vp w 0 (.slice none 0 0) (.slice none 0 0) w1):=by
  have M1:=HM.o.keeps H1.o.2.2;exact⟨M1.b,⟨[],Q3 _ _ _ _,fun k u hu=>by cases hu⟩,⟨[],Q3 _ _ _ _,fun k u hu=>by cases hu⟩,H1.o.2.1.toQ,.of H1.o.2.2⟩
 have m3':=(H1.o.2.2.cell (p:=⟨mb,3,none⟩) hmb).trans m3;have HPL:=Qc H1.o.1;obtain⟨pp,cp,rfl⟩:=H1.o.2.1.slice;clear H1 m3;have HSM:Hid (∀k,SM (f k)):=Qej HPL.o HXS.o;have HCN:Hid (∀i,i≤bs.length→cntN bs f i≤i*11000):=QfK hf.out HSM.o;have hmm:=@run_makeMap prog;go_wp2_with fail;clear m3'
 go_loopw [2,22] (fun la j wr=>∃(i:Nat)(vch vgi:Value),i≤bs.length∧la=.int .i64 (cntN bs f i)∧j=.int .i64 i∧Hid (NuI bs f mb (.slice pv bs.length cv) va vu vah vnd (.slice pp bs.length cp) w i vch vgi wr)) (fun _ j _=>bs.length-(intOf j).toNat)
 case atStart=>exact⟨0,_,_,by omega,rfl,rfl,HB0⟩
 case round=>
  clear HB0;obtain⟨i,vch,vgi,hi,rfl,rfl,HJ⟩:=hrel;rename World=>wA;by_cases hlt:i<bs.length
  ·have hPA:PBs wA base bs (.slice pv bs.length cv):=(HM.o.g.fm HJ.o.f HM.o.b).p;obtain⟨gv,qc,cc,ps,cs1,rfl,_,_,_,OC,OS,d0,d1,d2,d3⟩:=hPA.at hlt;obtain⟨T,x,hT⟩:=QQ bs[i].e;rw[hT]at d3;have HBK:Hid (bkF bs i=bs[i]):=Zj hlt;have HFI:=Qc (hf.out _ (Qx hlt));have hcl:=HFI.o.cl;have hsl:=HFI.o.sl;have hcn:=HCN.o i hi;have hfl:=(HSM.o i).len;generalize bs[i]=bb at *;obtain⟨gp,up,hpp,_,hgp,cp5,_,op5⟩:=HJ.o.p.at hlt;cases hpp;obtain⟨pu,cu,rfl⟩:=Qa op5;have FA:=(Below.refl wA.heap.size wA).alloc (Qi _) (.cells #[.int .i64 bb.at_,.slice qc bb.chs.length cc,.slice ps bb.sts.length cs1,.iface T x] 104);have gW:=heap_alloc_last wA (.cells #[.int .i64 bb.at_,.slice qc bb.chs.length cc,.slice ps bb.sts.length cs1,.iface T x] 104);have hza:(wA.alloc (.cells #[.int .i64 bb.at_,.slice qc bb.chs.length cc,.slice ps bb.sts.length cs1,.iface T x] 104)).heap.size=wA.heap.size+1:=Qt _ _;have HN:=ChM.new (wA.alloc (.cells #[.int .i64 bb.at_,.slice qc bb.chs.length cc,.slice ps bb.sts.length cs1,.iface T x] 104)) (cntN bs f i);rw[hza]at HN;have cp6:=((FA.alloc (by omega) (.map #[] 0)).cell (p:=⟨gp,i,none⟩) hgp).trans cp5;have H1:Hid (Below wA.heap.size wA ((wA.alloc (.cells #[.int .i64 bb.at_,.slice qc bb.chs.length cc,.slice ps bb.sts.length cs1,.iface T x] 104)).alloc (.map #[] 0))∧((wA.alloc (.cells #[.int .i64 bb.at_,.slice qc bb.chs.length cc,.slice ps bb.sts.length cs1,.iface T x] 104)).alloc (.map #[] 0)).heap[wA.heap.size]?=some (.cells #[.int .i64 bb.at_,.slice qc bb.chs.length cc,.slice ps bb.sts.length cs1,.iface T x] 104 (0,0))∧ChM ((wA.alloc (.cells #[.int .i64 bb.at_,.slice qc bb.chs.length cc,.slice ps bb.sts.length cs1,.iface T x] 104)).alloc (.map #[] 0)) (wA.heap.size+1) 0 [] (cntN bs f i)):=⟨FA.alloc (by omega) _,Qo gW _,HN⟩;have O5:=Qc (And.intro op5 OS);clear op5 OS OC hPA FA gW hT HN cp5;go_wp2_with fail;generalize (wA.alloc (.cells #[.int .i64 bb.at_,.slice qc bb.chs.length cc,.slice ps bb.sts.length cs1,.iface T x] 104)).alloc (.map #[] 0)=W2 at *;refine(Qe5 (f i) w.heap.size _ W2 (Qd O5.o.1 (Qh H1.o.1) trivial) (by omega)).mono ?_;rintro e w3 ⟨v3,rfl,o3,f3⟩;obtain⟨p3,c3,rfl⟩:=Qa o3;have H2:Hid (Below wA.heap.size wA w3∧w3.heap[wA.heap.size]?=some (.cells #[.int .i64 bb.at_,.slice qc bb.chs.length cc,.slice ps bb.sts.length cs1,.iface T x] 104 (0,0))∧ChM w3 (wA.heap.size+1) 0 ((f i).take 0) (cntN bs f i)∧w3.ownsRow 0 78 1 (.slice p3 (f i).length c3) (f i).length (Qe (f i))):=
    ⟨H1.o.1.trans (f3.mono H1.o.1.size),by rw[f3.block _ (lt_of_block H1.o.2.1)];exact H1.o.2.1,by rw[List.take_zero];exact H1.o.2.2.at (f3.block _ H1.o.2.2.lt),Qj o3 (Nat.zero_le _)⟩
   clear H1 o3 f3 hza cp6 d0 d1 d2 d3 hmm;go_wp2_with fail
   go_loopw [2,34] (fun la j wr=>∃(t kk:Nat),t≤(f i).length∧kk≤t∧la=.int .i64 ((cntN bs f i+t:Nat):Int)∧j=.int .i64 t∧Hid (Below wA.heap.size wA wr∧wr.heap[wA.heap.size]?=some (.cells #[.int .i64 bb.at_,.slice qc bb.chs.length cc,.slice ps bb.sts.length cs1,.iface T x] 104 (0,0))∧ChM wr (wA.heap.size+1) kk ((f i).take t) (cntN bs f i)∧wr.ownsRow 0 78 1 (.slice p3 (f i).length c3) (f i).length (Qe (f i)))) (fun _ j _=>(f i).length-(intOf j).toNat)
   case atStart=>exact⟨0,0,by omega,by omega,rfl,rfl,H2⟩
   case round=>
    clear H2;obtain⟨t,kk,ht,hkk,rfl,rfl,HQ⟩:=hrel;rename World=>wC;by_cases htl:t<(f i).length
    ·obtain⟨g3,rfl,_,_⟩:=Qk HQ.o.2.2.2 (by omega);have c0:=Qf HQ.o.2.2.2 (QY htl);have hxr:=(HSM.o i).2 _ (Qx htl);have hkm:kk<maxLen:=by unfold maxLen;omega
     have htk:((f i).take t).length=t:=by rw[List.length_take];omega
     have hni:(f i)[t]∉(f i).take t:=by
      intro hm;have hp:=(HSM.o i).1;rw[←List.take_append_drop t (f i),List.pairwise_append]at hp;have:=hp.2.2 _ hm (f i)[t] (by rw[List.drop_eq_getElem_cons htl];exact List.mem_cons_self);omega
     obtain⟨w4,hup,m4,g4⟩:=HQ.o.2.2.1.put hxr hkm (by rw[htk];omega) hni;rw[htk]at hup;simp only[Int.natCast_add,Int.natCast_one]at hup;rw[←Zb htl]at m4;have H4:Hid (Below wA.heap.size wA w4∧w4.heap[wA.heap.size]?=some (.cells #[.int .i64 bb.at_,.slice qc bb.chs.length cc,.slice ps bb.sts.length cs1,.iface T x] 104 (0,0))∧ChM w4 (wA.heap.size+1) (kk+1) ((f i).take (t+1)) (cntN bs f i)∧w4.ownsRow 0 78 1 (.slice (some ⟨g3,0,none⟩) (f i).length c3) (f i).length (Qe (f i))):=by
      obtain⟨a1,a2,a3,a4⟩:=HQ.o;have hm:=a3.map;have hz:=a1.size;have K:Qr 0 (fun _=>True) wC w4:=fun x c e _ _ hh=>by
       obtain⟨es,clock,hb⟩:=hm;rw[g4.block x (lt_of_block hh) (fun e2=>by cases e2;rw[hb]at hh;cases hh)];exact hh
      refine⟨Below.grown a1 g4 (by omega) (fun k hk=>by cases hk;omega),?_,m4,Qd a4 K trivial⟩;rw[g4.block _ (lt_of_block a2) (fun e=>by injection e with e;omega)];exact a2
     clear m4 g4 HQ hni htk;go_wp2_with fail;go_roundw
     case rel=>exact⟨t+1,kk+1,by omega,by omega,by rw[Value.int.injEq];exact⟨rfl,by omega⟩,by go_num,H4⟩
     case measure=>simp[intOf];omega
    ·have hte:t=(f i).length:=by omega
     subst hte;have b2:=Qb HQ.o.2.1 2;simp at b2;rw[List.take_length]at HQ;obtain⟨I9,Hi9,Hz9,Hs9,Hb9⟩:=info_parts Kq;have HI:=Qc (And.intro Hi9 (And.intro Hz9 (And.intro Hs9 Hb9)));clear Hi9 Hz9 Hs9 Hb9;go_wp2_with (at_make;refine QA ?_);refine Qc ?_;have hzC:=HQ.o.1.size;have hzw:=HJ.o.f.size;refine wpList_make_full _ rfl _ _ 159 rfl w.heap.size 78 I9 (.int .i64 0) 1 underlying159 HI.o.1 HI.o.2.1 HI.o.2.2.1 .i64 .i64 _ _ bb.sts.length rfl rfl rfl rfl (by rw[HI.o.2.2.2];omega) (by unfold maxLen;omega) (by omega) ?_;intro w6 o6 gr6;rw[UR _ rfl,←Qh1 bs f i]at o6;have f6:Below wC.heap.size wC w6:=Below.grown (Below.refl _ _) gr6 (Qi _) (fun k hk=>by cases hk);have b6:=(by rw[f6.block _ (lt_of_block HQ.o.2.1)];exact HQ.o.2.1:w6.heap[wA.heap.size]?=some (.cells #[.int .i64 bb.at_,.slice qc bb.chs.length cc,.slice ps bb.sts.length cs1,.iface T x] 104 (0,0)));have hgN:wC.heap.size<w6.heap.size:=(o6.lt _ rfl).2;have hb6:=lt_of_block HQ.o.2.1;have H6:Hid (Below wA.heap.size wA w6∧w6.heap[wA.heap.size]?=some (.cells #[.int .i64 bb.at_,.slice qc bb.chs.length cc,.slice ps bb.sts.length cs1,.iface T x] 104 (0,0))∧ChM w6 (wA.heap.size+1) kk (f i) (cntN bs f i)∧w6.ownsRow w.heap.size 78 1 (.slice (some ⟨wC.heap.size,0,none⟩) bb.sts.length bb.sts.length) bb.sts.length (Qe (gP bs f i bb.sts.length 0))):=
      ⟨HQ.o.1.trans (f6.mono hzC),b6,HQ.o.2.2.1.at (f6.block _ HQ.o.2.2.1.lt),o6⟩
     have b2:=Qb b6 2;simp at b2;have hgv0:=Qfo bb.sts;have hmC:=HQ.o.2.2.1.lt;clear o6 gr6 f6 b6 HQ HI;go_wp2_with fail;clear b2
     go_loopw [2,51] (fun la j wr=>∃(k:Nat),k≤bb.sts.length∧la=.int .i64 ((cntN bs f i+(f i).length+gvN bb.sts k:Nat):Int)∧j=.int .i64 k∧Hid (Below wA.heap.size wA wr∧wr.heap[wA.heap.size]?=some (.cells #[.int .i64 bb.at_,.slice qc bb.chs.length cc,.slice ps bb.sts.length cs1,.iface T x] 104 (0,0))∧ChM wr (wA.heap.size+1) kk (f i) (cntN bs f i)∧wr.ownsRow w.heap.size 78 1 (.slice (some ⟨wC.heap.size,0,none⟩) bb.sts.length bb.sts.length) bb.sts.length (Qe (gP bs f i bb.sts.length k)))) (fun _ j _=>bb.sts.length-(intOf j).toNat)
     case atStart=>exact⟨0,by omega,by rw[hgv0];rfl,rfl,H6⟩
     case round=>
      clear H6 hgv0;obtain⟨k,hk,rfl,rfl,HK⟩:=hrel;rename World=>wD;have hgk:=Qa6 bb.sts k;by_cases hkl:k<bb.sts.length
      ·have OSD:=Qd O5.o.2 (Qh HK.o.1) trivial;obtain⟨gs,rfl,_,_⟩:=Qk OSD (by omega);obtain⟨T2,x2,fr,fg,hsv,_,_,_,hgm,hgt,hgc⟩:=Ns bb.sts[k];have cS:=Qf OSD (j:=k) (u:=.iface T2 x2) (by rw[←hsv];simp[hkl]);have HG:=Qc (And.intro hgm (And.intro hgt hgc));have HY:Hid (bb.sts[k].op≠33→gvN bb.sts (k+1)=gvN bb.sts k+1∧giN bs f i k=cntN bs f i+(f i).length+gvN bb.sts k+1):=by
        intro h33;have hg:isG bb.sts[k]=true:=by simp[isG,h33]
        refine⟨Qb7 hkl hg,?_⟩;have hb:=HBK.o;have e:=RM (bs:=bs) (f:=f) (i:=i) (j:=k) (by rw[hb];exact hkl);simp only[hb]at e;rw[e,if_pos hg]
       have HO:Hid (bb.sts[k].op=33→gvN bb.sts (k+1)=gvN bb.sts k∧giN bs f i k=0):=by
        intro h33;have hg:isG bb.sts[k]=false:=by simp[isG,h33]
        refine⟨QjM hkl hg,?_⟩;have hb:=HBK.o;have e:=RM (bs:=bs) (f:=f) (i:=i) (j:=k) (by rw[hb];exact hkl);simp only[hb]at e;rw[e,if_neg (by simp[hg])]
       clear hsv hgm hgt hgc OSD;generalize bb.sts[k]=tt at *;go_wp2_with fail;rw[HG.o.1,Result.andThen_ok];simp only[HG.o.2.1];unfold Oper.upon;refine(HG.o.2.2 _).mono ?_;rintro e w8 ⟨rfl,f8⟩;have hz8:=f8.size;have H8:Hid (Below wA.heap.size wA w8∧w8.heap[wA.heap.size]?=some (.cells #[.int .i64 bb.at_,.slice qc bb.chs.length cc,.slice (some ⟨gs,0,none⟩) bb.sts.length cs1,.iface T x] 104 (0,0))∧ChM w8 (wA.heap.size+1) kk (f i) (cntN bs f i)∧w8.ownsRow w.heap.size 78 1 (.slice (some ⟨wC.heap.size,0,none⟩) bb.sts.length bb.sts.length) bb.sts.length (Qe (gP bs f i bb.sts.length k))):=
        ⟨HK.o.1.trans (f8.mono HK.o.1.size),by rw[f8.block _ (lt_of_block HK.o.2.1)];exact HK.o.2.1,HK.o.2.2.1.at (f8.block _ HK.o.2.2.1.lt),Qd HK.o.2.2.2 (Qh f8) trivial⟩
       clear f8 HK cS HG;by_cases h33:tt.op=33
       ·rw[if_pos h33,show (tt.op != 33)=false by simp[h33]];have FB:=(Below.refl w8.heap.size w8).alloc (Qi _) (.cells #[.int .i64 0,.int .i64 0] 132);obtain⟨hge,hgi⟩:=HO.o h33;have HN:Hid (Below wA.heap.size wA (w8.alloc (.cells #[.int .i64 0,.int .i64 0] 132))∧(w8.alloc (.cells #[.int .i64 0,.int .i64 0] 132)).heap[wA.heap.size]?=some (.cells #[.int .i64 bb.at_,.slice qc bb.chs.length cc,.slice (some ⟨gs,0,none⟩) bb.sts.length cs1,.iface T x] 104 (0,0))∧ChM (w8.alloc (.cells #[.int .i64 0,.int .i64 0] 132)) (wA.heap.size+1) kk (f i) (cntN bs f i)∧(w8.alloc (.cells #[.int .i64 0,.int .i64 0] 132)).ownsRow w.heap.size 78 1 (.slice (some ⟨wC.heap.size,0,none⟩) bb.sts.length bb.sts.length) bb.sts.length (Qe (gP bs f i bb.sts.length (k+1)))):=by
         rw[QkL hgi];exact⟨H8.o.1.trans (FB.mono H8.o.1.size),Qo H8.o.2.1 _,H8.o.2.2.1.at (FB.block _ H8.o.2.2.1.lt),H8.o.2.2.2.alloc _⟩
        clear FB H8 h33 hgi;go_wp2_with fail;go_roundw
        case rel=>exact⟨k+1,by omega,by rw[hge,Value.int.injEq];exact⟨rfl,by omega⟩,by go_num,HN⟩
        case measure=>simp[intOf];omega
       ·rw[if_neg h33,show (tt.op != 33)=true by simp[h33]];have FB:=(Below.refl w8.heap.size w8).alloc (Qi _) (.cells #[.int .i64 tt.to.1,.int .i64 tt.to.2] 132);obtain⟨hge,hgi⟩:=HY.o h33;have HN:Hid (Below wA.heap.size wA (w8.alloc (.cells #[.int .i64 tt.to.1,.int .i64 tt.to.2] 132))∧(w8.alloc (.cells #[.int .i64 tt.to.1,.int .i64 tt.to.2] 132)).heap[wA.heap.size]?=some (.cells #[.int .i64 bb.at_,.slice qc bb.chs.length cc,.slice (some ⟨gs,0,none⟩) bb.sts.length cs1,.iface T x] 104 (0,0))∧ChM (w8.alloc (.cells #[.int .i64 tt.to.1,.int .i64 tt.to.2] 132)) (wA.heap.size+1) kk (f i) (cntN bs f i)∧(w8.alloc (.cells #[.int .i64 tt.to.1,.int .i64 tt.to.2] 132)).ownsRow w.heap.size 78 1 (.slice (some ⟨wC.heap.size,0,none⟩) bb.sts.length bb.sts.length) bb.sts.length (Qe (gP bs f i bb.sts.length k))):=
         ⟨H8.o.1.trans (FB.mono H8.o.1.size),Qo H8.o.2.1 _,H8.o.2.2.1.at (FB.block _ H8.o.2.2.1.lt),H8.o.2.2.2.alloc _⟩
        have cg:=Qf HN.o.2.2.2 (QY (show k<(gP bs f i bb.sts.length k).length by rw[Qbc];exact hkl));have zg:=Xz HN.o.2.2.2 k;clear FB H8 h33;have hve:(Value.int .i64 ((cntN bs f i:Int)+((f i).length:Int)+(gvN bb.sts k:Int)+1))=.int .i64 (giN bs f i k:Nat):=by rw[hgi,Value.int.injEq];exact⟨rfl,by omega⟩
        have HN2:Hid (Below wA.heap.size wA ((w8.alloc (.cells #[.int .i64 tt.to.1,.int .i64 tt.to.2] 132)).setCell ⟨wC.heap.size,k,none⟩ (.int .i64 (giN bs f i k:Nat)))∧((w8.alloc (.cells #[.int .i64 tt.to.1,.int .i64 tt.to.2] 132)).setCell ⟨wC.heap.size,k,none⟩ (.int .i64 (giN bs f i k:Nat))).heap[wA.heap.size]?=some (.cells #[.int .i64 bb.at_,.slice qc bb.chs.length cc,.slice (some ⟨gs,0,none⟩) bb.sts.length cs1,.iface T x] 104 (0,0))∧ChM ((w8.alloc (.cells #[.int .i64 tt.to.1,.int .i64 tt.to.2] 132)).setCell ⟨wC.heap.size,k,none⟩ (.int .i64 (giN bs f i k:Nat))) (wA.heap.size+1) kk (f i) (cntN bs f i)∧((w8.alloc (.cells #[.int .i64 tt.to.1,.int .i64 tt.to.2] 132)).setCell ⟨wC.heap.size,k,none⟩ (.int .i64 (giN bs f i k:Nat))).ownsRow w.heap.size 78 1 (.slice (some ⟨wC.heap.size,0,none⟩) bb.sts.length bb.sts.length) bb.sts.length (Qe (gP bs f i bb.sts.length (k+1)))):=by
         refine⟨Qp HN.o.1 _ _ _ (by omega),Ql HN.o.2.1 (by omega) _ _,HN.o.2.2.1.at (Below.heap_setCell _ _ _ _ (by show wA.heap.size+1≠wC.heap.size;omega)),?_⟩;rw[QjQ,←We];exact ZA HN.o.2.2.2 _ _
        go_wp2_with fail;rw[hve];exact⟨⟨k+1,by omega,by rw[hge,hgi,Value.int.injEq];exact⟨rfl,by omega⟩,by go_num,HN2⟩,by simp[intOf];omega⟩
      ·have hke:k=bb.sts.length:=by omega
       subst hke;have HB9:Hid (NuI bs f mb (.slice (some ⟨gv,0,none⟩) bs.length cv) va vu vah vnd (.slice (some ⟨gp,0,none⟩) bs.length cp) w i vch vgi wD):=HJ.o.keeps HK.o.1;obtain⟨us,hu,hus⟩:=HB9.o.c;obtain⟨pc,cc2,rfl⟩:=Qa hu;have HU:=Qc (And.intro hu hus);have m6:=Qb HB9.o.b 6;simp at m6;clear hu hus;go_wp2_with (at_builtin;refine QA ?_);refine Qc ?_;have hzD:=HK.o.1.size;have gB:=heap_alloc_last wD (.cells #[.map (some (wA.heap.size+1))] 166);have OB:=HU.o.1.alloc (.cells #[.map (some (wA.heap.size+1))] 166);have HGL:Hid (giL bs f i=gP bs f i bb.sts.length bb.sts.length):=(QjR (by rw[HBK.o])).symm;have HNR:Hid (wD.ownsRow w.heap.size 78 1 (.slice (some ⟨wC.heap.size,0,none⟩) bb.sts.length bb.sts.length) (giL bs f i).length (Qe (giL bs f i))):=by
        have:=HK.o.2.2.2;rw[←HGL.o]at this;rw[HGL.o,Qbc,←HGL.o];exact this
       refine KL underlying92 Qfc rfl (by decide) (by decide) rfl _ _ rfl rfl OB gB rfl rfl (Xi.1 rfl) (by omega) (by rw[Qt];omega) ?_;intro v10 w10 o10 g10;obtain⟨p10,c10,rfl⟩:=Qa o10;have H10:Hid (NuH bs f mb (.slice (some ⟨gv,0,none⟩) bs.length cv) va vu vah vnd (.slice (some ⟨gp,0,none⟩) bs.length cp) w i (.slice p10 (i+1) c10) vgi (.slice (some ⟨wC.heap.size,0,none⟩) bb.sts.length bb.sts.length) (w10.setCell ⟨mb,6,none⟩ (.slice p10 (i+1) c10))):=HB9.o.step1 HU.o.1 HU.o.2 HK.o.2.2.1 HNR.o g10 o10;have hb10:w10.heap[mb]?=some (.cells #[.slice (some ⟨gv,0,none⟩) bs.length cv,va,vu,.slice (some ⟨gv,0,none⟩) bs.length cv,vah,vnd,.slice pc i cc2,vgi] 95 (0,0)):=QC g10 (Qo HB9.o.b _) fun j hj e=>QG HU.o.1 HB9.o.b (by decide) (by rw[e];exact hj);have n6:=Qb hb10 6;have z6:=Qg hb10 6;simp at n6;have m7:=Qb H10.o.b 7;simp at m7;clear hb10 o10 g10 OB gB HU m6;obtain⟨us,hu,hus⟩:=H10.o.g;obtain⟨pg,cg2,rfl⟩:=Qa hu;have HU:=Qc (And.intro hu hus);clear hu hus;go_wp2_with (at_builtin;refine QA ?_);refine Qc ?_;have hz10:=H10.o.f.size;have gB:=heap_alloc_last (w10.setCell ⟨mb,6,none⟩ (.slice p10 (i+1) c10)) (.cells #[.slice (some ⟨wC.heap.size,0,none⟩) bb.sts.length bb.sts.length] 159);rw[Zs]at gB;have OB:=HU.o.1.alloc (.cells #[.slice (some ⟨wC.heap.size,0,none⟩) bb.sts.length bb.sts.length] 159);refine KL underlying93 Qfd rfl (by decide) (by decide) rfl _ _ rfl rfl OB gB rfl rfl (Xi.1 rfl) (by omega) (by rw[Qt];omega) ?_;intro v11 w11 o11 g11;obtain⟨p11,c11,rfl⟩:=Qa o11;have H11:Hid (NuI bs f mb (.slice (some ⟨gv,0,none⟩) bs.length cv) va vu vah vnd (.slice (some ⟨gp,0,none⟩) bs.length cp) w (i+1) (.slice p10 (i+1) c10) (.slice p11 (i+1) c11) (w11.setCell ⟨mb,7,none⟩ (.slice p11 (i+1) c11))):=H10.o.step2 HU.o.1 HU.o.2 g11 o11;have hb11:w11.heap[mb]?=some (.cells #[.slice (some ⟨gv,0,none⟩) bs.length cv,va,vu,.slice (some ⟨gv,0,none⟩) bs.length cv,vah,vnd,.slice p10 (i+1) c10,.slice pg i cg2] 95 (0,0)):=QC g11 (Qo H10.o.b _) fun j hj e=>QG HU.o.1 H10.o.b (by decide) (by rw[e];exact hj);have n7:=Qb hb11 7;have z7:=Qg hb11 7;simp at n7;have HCE:Hid (cntN bs f (i+1)=cntN bs f i+(f i).length+gvN bb.sts bb.sts.length):=by show _=_;rw[cntN,HBK.o]
       clear hb11 o11 g11 OB gB HU m7 n6 z6;go_wp2_with fail;go_roundw
       case rel=>exact⟨i+1,_,_,by omega,by rw[HCE.o,Value.int.injEq];exact⟨rfl,by omega⟩,by go_num,H11⟩
       case measure=>simp[intOf];omega
  ·have hie:i=bs.length:=by omega
   subst hie;go_wp2_with fail;refine bodyPost_end (v:=.tuple #[]) (by simp[results,results43,go_sem]) rfl ⟨rfl,LM,f,vch,vgi,?_⟩;have hF:=HJ.o.f;have hmB:=HM.o.b;exact⟨HPL.o,⟨⟨HJ.o.b,HM.o.g.fm hF hmB⟩,HX.o.1.fm hF hmB,HX.o.2.fm hF hmB,HJ.o.c,HJ.o.g⟩,hF⟩
end Go.Proofs.YtgfhfkgdmidhpaaGreatDoor
namespace Go.Proofs.YtgfhfkgdmidhpaaGreatDoor
open Go.Shelf
open Go.Proofs.Tryz
set_option maxRecDepth 100000
set_option maxHeartbeats 8000000
def Tryz.keysR_ren:Go.Shelf.Ren:=⟨fun|7=>134|10=>186|n=>n,fun|23=>166|26=>78|3=>78|28=>247|0=>0|27=>246|33=>204|4=>4|n=>n,fun|n=>n⟩
theorem Tryz.keysR:Go.Proofs.SlLaysZI.n7 prog Tryz.keysR_ren:={
 mixed:=by kernel_rfl
 f7:=⟨Tryz.f134.name,by decide,func134.trans (congrArg some (by kernel_rfl))⟩
 f10:=⟨Tryz.f186.name,by decide,func186.trans (congrArg some (by kernel_rfl))⟩
 t0:=underlying0
 a0:=isAgg0
 z0:=sizeOf0
 v0:=zeroValue0
 t4:=underlying4
 a4:=isAgg4
 z4:=sizeOf4
 v4:=zeroValue4
 t23:=underlying166
 a23:=isAgg166
 z23:=sizeOf166
 v23:=zeroValue166
 t26:=underlying78
 a26:=isAgg78
 z26:=sizeOf78
 v26:=zeroValue78
 t27:=underlying246
 a27:=isAgg246
 z27:=sizeOf246
 v27:=zeroValue246
 t28:=underlying247
 a28:=isAgg247
 z28:=sizeOf247
 v28:=zeroValue247
 t33:=underlying204
 a33:=isAgg204
 z33:=sizeOf204
 v33:=zeroValue204 }
def Tryz.sortedR_ren:Go.Shelf.Ren:=⟨fun|6=>133|8=>184|9=>185|11=>212|13=>205|12=>213|23=>231|24=>232|14=>234|15=>235|16=>236|17=>237|18=>238|19=>239|20=>192|21=>240|22=>241|25=>251|26=>247|27=>248|28=>252|29=>253|30=>216|31=>260|n=>n,fun|26=>78|28=>247|24=>159|0=>0|3=>3|37=>286|48=>343|50=>345|4=>4|40=>337|39=>336|45=>129|5=>5|9=>9|51=>355|55=>359|57=>371|58=>30|33=>204|n=>n,fun|n=>n⟩
theorem Tryz.sortedR:Go.Proofs.SlLaysZI.n6 prog Tryz.sortedR_ren:={
 mixed:=by kernel_rfl
 f6:=⟨Tryz.f133.name,by decide,func133.trans (congrArg some (by kernel_rfl))⟩
 f8:=⟨Tryz.f184.name,by decide,func184.trans (congrArg some (by kernel_rfl))⟩
 f11:=⟨Tryz.f212.name,by decide,func212.trans (congrArg some (by kernel_rfl))⟩
 t0:=underlying0
 a0:=isAgg0
 z0:=sizeOf0
 v0:=zeroValue0
 t24:=underlying159
 a24:=isAgg159
 z24:=sizeOf159
 v24:=zeroValue159
 t26:=underlying78
 a26:=isAgg78
 z26:=sizeOf78
 v26:=zeroValue78
 t28:=underlying247
 a28:=isAgg247
 z28:=sizeOf247
 v28:=zeroValue247
 i26:=by kernel_rfl }
end Go.Proofs.YtgfhfkgdmidhpaaGreatDoor
namespace Go.Proofs.YtgfhfkgdmidhpaaGreatDoor
open Go.RowKit Go.Maps Go.Sort Go.Shelf
open Go.Proofs.Tryz
set_option maxRecDepth 100000
set_option maxHeartbeats 8000000
theorem Tryz.sortsR(m:Nat):AnyZI.SortsIn prog Tryz.sortedR_ren Go.Fence.wide m:=
 ⟨fun blk off cap ss W hH hblk hsz=>callsIn_wide.2 (AnyM.slices_Sort_int Tryz.sortR blk off cap ss W hH hblk hsz),
  fun p cap W=>callsIn_wide.2 (AnyM.slices_Sort_int_none Tryz.sortR p cap W)⟩
theorem QkG(mb:Option Nat)(w:World):Calls prog 134 #[.map mb] w fun e w'=>e=.returned (.func (.func 186) #[] #[.pointer (some ⟨w.heap.size,0,none⟩)])∧w'=w.alloc (.cells #[.map mb] 166):=
 (callsIn_wide (n:=5)).1 (AnyZI.keys_in Tryz.keysR Fence.wide 5 trivial rfl mb w)
theorem QcO{l:List Nat}{ss:List Int}(hs:l.Pairwise (· < ·))(hp:ss.Perm (l.map fun r:Nat=>(r:Int))):ss.mergeSort (fun x y=>decide (x≤y))=l.map fun r:Nat=>(r:Int):=by
 have h1:(ss.mergeSort (fun x y=>decide (x≤y))).Perm (l.map fun r:Nat=>(r:Int)):=(List.mergeSort_perm _ _).trans hp;have h2:=List.pairwise_mergeSort (le:=fun x y:Int=>decide (x≤y)) (by intro a b c h h';simp at *;omega) (by intro a b;simp;omega) ss;have h3:(l.map fun r:Nat=>(r:Int)).Pairwise (fun x y=>decide (x≤y)=true):=by
  rw[List.pairwise_map];exact hs.imp (by intro a b h;simp;omega)
 exact h1.eq_of_pairwise (fun a b _ _ h h'=>by simp at h h';omega) h2 h3
theorem QgF(b kk n0:Nat)(l:List Nat)(w:World)(h:ChM w b kk l n0)(hs:l.Pairwise (· < ·))(hl:l.length≤10000):
  Calls prog 133 #[.func (.func 186) #[] #[.pointer (some ⟨w.heap.size,0,none⟩)]] (w.alloc (.cells #[.map (some b)] 166)) fun e w'=>∃v,e=.returned v∧w'.ownsRow w.heap.size 78 1 v l.length (Qe l)∧Below w.heap.size w w':=by
 obtain⟨D,m,_,_,q⟩:=h;have hbl:=m.lt;have hsz:Maps.size D=l.length:=by
  obtain⟨es,rfl⟩:=m.isMap;have:=q.length_eq;rw[List.length_map]at this;rw[←this];show es.length=(es.map _).length;rw[List.length_map]
 have hseq:SeqGives Fence.wide 2 prog 186 #[.pointer (some ⟨w.heap.size,0,none⟩)] encZ (fun ss=>ss.Perm (intKeys D)) (Maps.size D) (w.alloc (.cells #[.map (some b)] 166)):=
  AnyZI.keys_gives (ρ:=Tryz.keysR_ren) { Tryz.keysR with } Fence.wide _ trivial rfl (by omega) w.heap.size b kk D _ (by simp) (by simp) (by
   obtain⟨es,clock,hb,Ft,hs,hD⟩:=m;exact⟨es,clock,(Below.heap_alloc _ _ b hbl).trans hb,Ft,hs,hD⟩)
 have cS:=AnyZI.sorted_in Tryz.sortedR Fence.wide 5 trivial trivial trivial trivial rfl (by omega) (Tryz.sortsR _) (enters_of func185 (by kernel_rfl) rfl) 186 #[.pointer (some ⟨w.heap.size,0,none⟩)] trivial (enters_of func186 (by kernel_rfl) rfl) _ _ (by rw[hsz];unfold maxLen;omega) (by rw[hsz];omega) _ hseq;change CallsIn _ _ prog 133 _ _ _ at cS;refine((callsIn_wide (n:=5)).1 cS).mono ?_;rintro e w' ⟨v,ss,rfl,hS,hrow,_,hb⟩;have hp:=hS.trans q;rw[QcO hs hp]at hrow;have hlen:ss.length=l.length:=by rw[hp.length_eq,List.length_map]
 rw[hlen]at hrow;refine⟨v,rfl,?_,((Below.refl _ w).alloc (Nat.le_refl _) _).trans (hb.mono (by simp))⟩;have:(l.map fun r:Nat=>(r:Int)).map encZ=Qe l:=by rw[List.map_map];rfl
 rw[this]at hrow;exact Qj hrow (by simp)
end Go.Proofs.YtgfhfkgdmidhpaaGreatDoor
