import Derived.Test.YtgfhfkgdmidhpaaGreatDoorM39
namespace Go.Proofs.YtgfhfkgdmidhpaaGreatDoor
open Go.RowKit Go.Maps
open Go.Proofs.Tryz
set_option maxRecDepth 100000
set_option maxHeartbeats 8000000
theorem Qgp{bs:List Qm}{f:Nat→List Nat}{mb base B Bn Bc:Nat}{v va vu vah vnd vch vgi:Value}{w:World}(hM:MkF bs f mb base B Bn Bc v va vu vah vnd vch vgi w)(hr:Hid (J5 bs))(hf:Hid (∀b∈bs,QU 1000 b))(hn:bs.length≤12)(hS:Hid (∀k,SM (f k))):QiQ bs w w.heap.size 45 ⟨mb,0,none⟩ (Wb bs f):=by
 refine⟨fun args w=>by kernel_rfl,fun _ _=>rfl,fun i b h=>?_,fun wr m hm F=>?_⟩
 ·have e:(Wb bs f i b).e.op=b.e.op:=by
   show (JT _ b.e).op=_;unfold JT;split<;>rfl
  rw[e];exact h
 ·refine(Qj6 bs f mb base B Bn Bc m v va vu vah vnd vch vgi wr (hM.keeps F) hr hf hn hm hS).mono ?_;rintro x w' ⟨vc,vt,rfl,H⟩;refine⟨vc,vt,rfl,?_,H.o.2⟩;exact H.o.1.base F.size
theorem QkE(bs:List Qm)(base:Nat)(v:Value)(w:World)(h:PBs w base bs v)(hr:Hid (J5 bs))(hf:Hid (∀b∈bs,QU 1000 b))(hg2:Hid (∀b∈bs,∀c∈b.chs,c.gs.length≤1000)):
  Calls prog 20 #[v] w fun x w'=>∃v' LM f B',x=.returned v'∧Hid (PBs w' B' (mkP bs f) v'∧PlF bs (ndL bs) LM f bs.length 0∧(∀k,SM (f k))∧Below w.heap.size w w'):=by
 obtain⟨p,c,rfl⟩:=h.slice;have H:=Qc h;have hn:=hr.out.le;have hn0:=hr.out.pos;have HF6:Hid (∀b∈bs,QU 1000000 b):=fun b hb=>(hf.out b hb).mono (by omega);have HGL:=Qc hr.out.goals;clear h;go_enter func20,ntmps20;go_wp2_with fail;refine(QhU bs base _ w H.o hr.out).mono ?_;rintro e w1 ⟨va,vu,rfl,H1⟩;obtain⟨_,⟨pa,ca,rfl⟩,pu,cu,rfl⟩:=H1.o.1.form;have F1:=Qc H1.o.2;have G1:=Qc H1.o.1;clear H1;go_wp2_with fail;refine(Gd bs base _ w1 G1.o.p (by omega) HGL).mono ?_;rintro e w2 ⟨vah,rfl,H2,f2⟩;have F2:=Qc (F1.o.trans (f2.mono F1.o.size));have G2:=Qc (G1.o.keeps f2);have A2:Hid (XK w1.heap.size w2 vah bs.length (aheF bs)):=H2.imp fun _ h=>⟨h.1,h.2.1⟩;have hz12:=f2.size;obtain⟨pah,cah,rfl⟩:=A2.o.slice;clear f2 H2 G1;go_wp2_with fail;refine(Qjs bs base _ w2 G2.o.p HGL HF6 hg2 hn0 (by omega)).mono ?_;rintro e w3 ⟨vnd,rfl,H3⟩;obtain⟨pnd,cnd,rfl⟩:=H3.o.1.slice;have F3:=Qc (F2.o.trans (H3.o.2.mono F2.o.size));have G3:=Qc (G2.o.keeps H3.o.2);have A3:=Qc (A2.o.keeps H3.o.2);have N3:=Qc H3.o.1;have hz23:=H3.o.2.size;clear H3 G2 A2;go_wp2_with fail;obtain⟨W4,hW4⟩:∃W4,W4=w3.alloc (.cells #[.slice p bs.length c,.slice pa (QT bs).length ca,.slice pu bs.length cu,.slice p bs.length c,.slice pah bs.length cah,.slice pnd bs.length cnd,.slice none 0 0,.slice none 0 0] 95):=⟨_,rfl⟩;have f4:=(Below.refl w3.heap.size w3).alloc (Qi _) (.cells #[.slice p bs.length c,.slice pa (QT bs).length ca,.slice pu bs.length cu,.slice p bs.length c,.slice pah bs.length cah,.slice pnd bs.length cnd,.slice none 0 0,.slice none 0 0] 95);have g4:=heap_alloc_last w3 (.cells #[.slice p bs.length c,.slice pa (QT bs).length ca,.slice pu bs.length cu,.slice p bs.length c,.slice pah bs.length cah,.slice pnd bs.length cnd,.slice none 0 0,.slice none 0 0] 95);rw[←hW4]at f4 g4 ⊢;have F4:=Qc (F3.o.trans (f4.mono F3.o.size));have M4:Hid (MkG bs w3.heap.size base w.heap.size (.slice p bs.length c) (.slice pa (QT bs).length ca) (.slice pu bs.length cu) (.slice pah bs.length cah) (.slice pnd bs.length cnd) (.slice none 0 0) (.slice none 0 0) W4):=⟨g4,G3.o.keeps f4⟩;have A4:=Qc (A3.o.keeps f4);have N4:=Qc ((N3.o.base hz12).keeps f4);have hz3:=F3.o.size;clear f4 g4 hW4 G3 A3 N3 F3 F2 F1;refine(Qhw bs w3.heap.size base w.heap.size w1.heap.size _ _ _ _ _ W4 M4.o A4.o N4.o HGL hf hn0 hn).mono ?_;rintro x w5 ⟨rfl,LM,f,vch,vgi,H5⟩;have F5:=Qc (Fm.below F4.o H5.o.2.2 hz3);have HSM:Hid (∀k,SM (f k)):=Qej H5.o.1 fun k=>Jz HF6.o _ k;have HT:=Qc (Qgp H5.o.2.1 hr hf hn HSM);have HPL:=Qc H5.o.1;have G5:=Qc H5.o.2.1.m.g;have k0:=Qb H5.o.2.1.m.b 0;have k1:=Qb H5.o.2.1.m.b 1;have k2:=Qb H5.o.2.1.m.b 2;have k3:=Qb H5.o.2.1.m.b 3;simp at k0 k1 k2 k3;clear H5 M4 A4 N4 F4;go_wp2_with fail;clear k0 k1 k2 k3;refine(Qgo bs w5.heap.size 45 ⟨w3.heap.size,0,none⟩ (Wb bs f) base w.heap.size _ _ _ w5 G5.o HT (Qi _) (by omega)).mono ?_;rintro x w6 ⟨v6,rfl,H6⟩;have F6:=Qc (F5.o.trans (H6.o.2.mono F5.o.size));go_wp2_with fail;go_ret;exact⟨_,LM,f,_,rfl,H6.o.1,HPL.o,HSM.o,F6.o⟩
theorem Y0(n:Nat):2≤(rgT n).length:=by
 rw[rgT,QO,Lib.decDigits_length];have:=Lib.nDigits_pos n;omega
theorem Qbd(n:Nat):1≤(Lib.decDigits n).length:=by
 rw[Lib.decDigits_length];exact Lib.nDigits_pos n
theorem Vo{n:Nat}(h:n<10000):(Lib.decDigits n).length≤4:=by
 rw[Lib.decDigits_length];exact Ry 3 n (by omega)
theorem X4{n:Nat}(h:n<10000):(rgT n).length≤5:=by
 have:=Vo h;rw[rgT,QO];omega
theorem Qkm(t:ASt):4*(rdS t).length≤(stT t).length+1∧4≤(stT t).length+1:=by
 cases t with
 | val t n=>
  have:=Y0 t;simp only[rdS,stT,gvT,List.length_append,List.length_cons,List.length_nil];omega
 | cp t a=>
  have:=Y0 t;have:=Y0 a;simp only[rdS,stT,gvT,List.length_append,List.length_cons,List.length_nil];omega
 | op o t a b=>
  have:=Y0 t;have:=Y0 a;have:=Y0 b;simp only[rdS,stT,gvT,List.length_append,List.length_cons,List.length_nil];omega
 | inp t=>
  have:=Y0 t;simp only[rdS,stT,gvT,List.length_append,List.length_cons,List.length_nil];omega
 | out a=>
  have:=Y0 a;simp only[rdS,stT,List.length_cons,List.length_nil];omega
theorem QhJ{n:Int}(h:n.natAbs<10000):(Lib.itoa n).length≤5:=by
 unfold Lib.itoa;split
 ·rw[QO];have:=Vo h;omega
 ·have:=Vo (n:=n.toNat) (by omega);omega
theorem Qkl{t:ASt}(h:OkS t):(stT t).length+1≤20:=by
 cases t with
 | val t n=>
  have:=X4 h.1;have:=QhJ h.2;simp only[stT,gvT,List.length_append,List.length_cons];omega
 | cp t a=>
  have:=X4 h.1;have:=X4 h.2;simp only[stT,gvT,List.length_append,List.length_cons];omega
 | op o t a b=>
  have:=X4 h.2.1;have:=X4 h.2.2.1;have:=X4 h.2.2.2;simp only[stT,gvT,List.length_append,List.length_cons];omega
 | inp t=>
  have:=X4 (show t<10000 from h);simp only[stT,gvT,List.length_append,List.length_cons,List.length_nil];omega
 | out a=>
  have:=X4 (show a<10000 from h);simp only[stT,List.length_cons];omega
theorem QkT(e:AEn):4*(rdE e).length≤(enT e).length:=by
 unfold rdE enT;by_cases h:e.op=63
 ·rw[if_pos h,if_neg (by omega),if_neg (by omega)];have:=Y0 e.a;have:=Qbd e.one;have:=Qbd e.two;simp only[List.length_append,List.length_cons,List.length_nil];omega
 ·rw[if_neg h];simp
theorem QkS{e:AEn}(h:OkE e):(enT e).length≤15:=by
 unfold enT;rcases h with ⟨h,_⟩|⟨h,_,h2,_⟩|⟨h,h2,h3,h4⟩
 ·rw[if_pos h];simp
 ·rw[if_neg (by omega),if_pos h,QO];have:=Vo h2;omega
 ·rw[if_neg (by omega),if_neg (by omega)];have:=X4 h2;have:=Vo h3;have:=Vo h4;simp only[List.length_append,List.length_cons];omega
theorem Qiu(p:Nat×Nat):4≤(spT p).length:=by
 have:=Y0 p.2;have:=Qbd p.1;simp only[spT,List.length_append,List.length_cons];omega
theorem Qit{p:Nat×Nat}(h:OkP p):(spT p).length≤10:=by
 have:=X4 h.2;have:=Vo h.1;simp only[spT,List.length_append,List.length_cons];omega
theorem Qis:∀l:List (Nat×Nat),4*l.length≤(srT l).length
 | []=>Qi _
 | [p]=>by rw[Kb];exact Qiu p
 | p::q::l=>by
  have:=Qis (q::l);have:=Qiu p;rw[XP,Qw,QO (a:=44),QO (a:=p)];omega
theorem Qir:∀l:List (Nat×Nat),(∀p∈l,OkP p)→(srT l).length≤11*l.length
 | [],_=>Qi _
 | [p],h=>by rw[Kb];have:=Qit (h p (List.mem_cons_self ..));simp;omega
 | p::q::l,h=>by
  have:=Qir (q::l) (fun x hx=>h x (ZD _ hx));have:=Qit (h p (List.mem_cons_self ..));rw[XP,Qw,QO,QO (a:=p)];omega
theorem QkZ(c:ACh):4*c.src.length≤(chT c).length:=by
 have:=Qis c.src;simp only[chT,List.length_append,List.length_cons];omega
theorem QkX{c:ACh}(h:OkC c):(chT c).length+1≤7+11*c.src.length:=by
 have:=Qir c.src h.2.2;have:=X4 h.1;simp only[chT,List.length_append,List.length_cons];omega
def QaF(b:ABk):List Nat:=b.chs.flatMap (fun c=>c.src.map (·.2))++(b.sts.flatMap rdS++rdE b.e)
def QcS(bs:List ABk):List Nat:=bs.flatMap QaF
theorem QfM:∀l:List ACh,4*(l.flatMap (fun c=>c.src.map (·.2))).length≤(KK l).length
 | []=>Qi _
 | c::l=>by
  have:=QfM l;have:=QkZ c;rw[List.flatMap_cons,JO,Qw,Qw,List.length_map,QO];omega
theorem Qay:∀l:List ASt,4*(l.flatMap rdS).length≤(XZ l).length∧4*l.length≤(XZ l).length
 | []=>⟨Qi _,Qi _⟩
 | t::l=>by
  have:=Qay l;have:=Qkm t;rw[List.flatMap_cons,JK,Qw,Qw,QO,QO];omega
theorem QiN(b:ABk):4*(QaF b).length≤(bcT b).length∧4*b.sts.length≤(bcT b).length:=by
 have:=QfM b.chs;have:=Qay b.sts;have:=QkT b.e;simp only[QaF,bcT,List.length_append];omega
theorem QfL:∀l:List ACh,(∀c∈l,OkC c)→(KK l).length≤(l.map fun c=>7+11*c.src.length).sum
 | [],_=>Qi _
 | c::l,h=>by
  have:=QfL l (fun x hx=>h x (ZD _ hx));have:=QkX (h c (List.mem_cons_self ..));rw[JO,Qw,QO,List.map_cons,List.sum_cons];omega
theorem QdQ:∀l:List ASt,(∀t∈l,OkS t)→(XZ l).length≤20*l.length
 | [],_=>Qi _
 | t::l,h=>by
  have:=QdQ l (fun x hx=>h x (ZD _ hx));have:=Qkl (h t (List.mem_cons_self ..));rw[JK,Qw,QO,QO];omega
def bcW(b:ABk):Nat:=(b.chs.map fun c=>7+11*c.src.length).sum+20*b.sts.length+16
theorem Qj7{b:ABk}(h:OkX b):(bcT b).length+1≤bcW b:=by
 have:=QfL b.chs h.chs;have:=QdQ b.sts h.sts;have:=QkS h.e;simp only[bcW,bcT,List.length_append];omega
theorem Qiz:∀l:List ABk,(l.map fun b=>(bcT b).length).sum≤(pcT l).length
 | []=>Qi _
 | [b]=>by rw[Ki];simp
 | b::c::l=>by
  have:=Qiz (c::l);rw[X7,Qw,QO,List.map_cons,List.sum_cons];omega
theorem Qiy:∀l:List ABk,(pcT l).length≤(l.map fun b=>(bcT b).length+1).sum
 | []=>Qi _
 | [b]=>by rw[Ki];simp
 | b::c::l=>by
  have:=Qiy (c::l);rw[X7,Qw,QO,List.map_cons,List.sum_cons];omega
theorem Rb{α:Type}(f g:α→Nat):∀l:List α,(∀x∈l,f x≤g x)→(l.map f).sum≤(l.map g).sum
 | [],_=>Qi _
 | x::l,h=>by
  have:=Rb f g l (fun y hy=>h y (ZD _ hy));have:=h x (List.mem_cons_self ..);rw[List.map_cons,List.map_cons,List.sum_cons,List.sum_cons];omega
theorem WP{α:Type}(k:Nat)(f:α→Nat):∀l:List α,(l.map fun x=>k*f x).sum=k*(l.map f).sum
 | []=>rfl
 | x::l=>by rw[List.map_cons,List.map_cons,List.sum_cons,List.sum_cons,WP k f l,Nat.mul_add]
theorem WQ{α:Type}(f g:α→Nat):∀l:List α,(l.map fun x=>f x+g x).sum=(l.map f).sum+(l.map g).sum
 | []=>rfl
 | x::l=>by rw[List.map_cons,List.map_cons,List.map_cons,List.sum_cons,List.sum_cons,List.sum_cons,WQ f g l];omega
theorem Qbu{α:Type}(k:Nat):∀l:List α,(l.map fun _=>k).sum=k*l.length
 | []=>rfl
 | x::l=>by rw[List.map_cons,List.sum_cons,Qbu k l,QO,Nat.mul_add];omega
theorem QdO{α:Type}(p:α→Bool):∀l:List α,(l.map fun x=>if p x then 1 else 0).sum=(l.filter p).length
 | []=>rfl
 | x::l=>by
  rw[List.map_cons,List.sum_cons,QdO p l]
  cases h:p x with
  | true=>rw[List.filter_cons_of_pos h,QO,if_pos rfl];omega
  | false=>rw[List.filter_cons_of_neg (by rw[h];decide),if_neg (by decide)];omega
theorem QgY{l:List ABk}{n:Nat}(h:(pcT l).length≤n):4*(QcS l).length≤n∧4*(l.map fun b=>b.sts.length).sum≤n:=by
 have h0:=Qiz l;have h1:(l.map fun b=>4*(QaF b).length).sum≤(l.map fun b=>(bcT b).length).sum:=Rb _ _ l fun b _=>(QiN b).1;have h2:(l.map fun b=>4*b.sts.length).sum≤(l.map fun b=>(bcT b).length).sum:=Rb _ _ l fun b _=>(QiN b).2;rw[WP]at h1 h2;have h3:(QcS l).length=(l.map fun b=>(QaF b).length).sum:=by unfold QcS;rw[List.length_flatMap]
 omega
theorem UG:∀{l m:List Nat},l.Nodup→(∀x∈l,x∈m)→l.length≤m.length
 | [],_,_,_=>Nat.zero_le _
 | x::l,m,hn,h=>by
  rw[List.nodup_cons]at hn;have hx:=h x (List.mem_cons_self ..);have h2:=UG (l:=l) (m:=m.erase x) hn.2 (fun y hy=>(List.mem_erase_of_ne (fun e=>hn.1 (by rw[←e];exact hy))).2 (h y (ZD _ hy)));rw[List.length_erase_of_mem hx]at h2;have:=List.length_pos_of_mem hx;rw[QO];omega
theorem Qcw{su:Nat→List Nat}(hs:∀i,(su i).length≤2)(m:Nat):∀n,((List.range m).map fun b=>((List.range n).filter fun i=>(su i).contains b).length).sum≤2*n
 | 0=>by
  rw[show (fun b:Nat=>((List.range 0).filter fun i=>(su i).contains b).length)=fun _=>0 from rfl,Qbu];omega
 | n+1=>by
  have ih:=Qcw hs m n;have e:(fun b=>((List.range (n+1)).filter fun i=>(su i).contains b).length)=fun b=>((List.range n).filter fun i=>(su i).contains b).length+(if (su n).contains b then 1 else 0):=by
   funext b
   rw[List.range_succ,List.filter_append,Qw]
   congr 1
   cases h:(su n).contains b with
   | true=>rw[List.filter_cons_of_pos (p:=fun i=>(su i).contains b) h];rfl
   | false=>rw[List.filter_cons_of_neg (p:=fun i=>(su i).contains b) (by rw[h];decide)];rfl
  rw[e,WQ,QdO (fun b=>(su n).contains b)];have h1:((List.range m).filter fun b=>(su n).contains b).length≤(su n).length:=UG (List.nodup_range.filter _) fun x hx=>by
   have:=(List.mem_filter.1 hx).2;exact List.contains_iff_mem.1 this
  have:=hs n;omega
theorem QhT(e:AEn):(gsA e).length≤2:=by unfold gsA;(repeat' split)<;>simp
theorem Qgd(bs:List ABk):((List.range bs.length).map fun b=>(Jk bs b).length).sum≤2*bs.length:=Qcw (su:=suA bs) (fun _=>QhT _) bs.length bs.length
theorem QbV{β:Type}(g:ABk→β)(l:List ABk):l.map g=(List.range l.length).map fun i=>g (bkA l i):=by
 refine List.ext_getElem (by simp) fun i h1 h2=>?_;have hi:i<l.length:=by simpa using h1
 simp only[List.getElem_map,List.getElem_range];rw[Ya hi]
theorem UP{bs:List ABk}{b r:Nat}(h:r∈QaF (bkA bs b)):r∈QcS bs:=by
 rcases Nat.lt_or_ge b bs.length with hb|hb
 ·rw[Ya hb]at h;exact List.mem_flatMap.2 ⟨_,Qx hb,h⟩
 ·rw[bkA,ZI hb]at h;simp[UH,QaF,rdE]at h
theorem QeU{out:Nat→Prop}{r:Nat}:∀{l:List ASt},lvL out l r→(∃t∈l,r∈rdS t)∨out r
 | [],h=>.inr h
 | t::l,h=>by
  rcases h with h|⟨_,h⟩
  ·exact .inl ⟨t,List.mem_cons_self ..,h⟩
  ·rcases QeU h with ⟨u,hu,h⟩|h
   ·exact .inl ⟨u,ZD _ hu,h⟩
   ·exact .inr h
theorem QbI{x p:Nat}:∀{l:List ACh},J6 l x p=x∨∃c∈l,∃q∈c.src,q.2=J6 l x p
 | []=>.inl rfl
 | c::l=>by
  have ih:=QbI (x:=x) (p:=p) (l:=l);have up:(J6 l x p=x∨∃c∈l,∃q∈c.src,q.2=J6 l x p)→(J6 l x p=x∨∃d∈c::l,∃q∈d.src,q.2=J6 l x p):=fun h=>by
   rcases h with h|⟨d,hd,h⟩
   ·exact .inl h
   ·exact .inr ⟨d,ZD _ hd,h⟩
  rw[J6];by_cases e:c.to=x
  ·rw[if_pos e]
   cases hs:QaA c p with
   | none=>exact up ih
   | some y=>
    unfold QaA at hs
    cases hf:c.src.find? (fun q=>q.1==p) with
    | none=>rw[hf]at hs;cases hs
    | some q=>
     rw[hf]at hs;have e2:q.2=y:=by simpa using hs
     exact .inr ⟨c,List.mem_cons_self ..,q,List.mem_of_find?_eq_some hf,e2⟩
  ·rw[if_neg e];exact up ih
theorem QeB{bs:List ABk}:∀{n b r:Nat},ndK bs n b r→r∈QcS bs
 | 0,_,_,h=>False.elim h
 | n+1,b,r,h=>by
  rcases QeU h.2 with ⟨t,ht,hr⟩|hr
  ·exact UP (b:=b) (List.mem_append_right _ (List.mem_append_left _ (List.mem_flatMap.2 ⟨t,ht,hr⟩)))
  ·rcases hr with hr|⟨s,_,x,hx,e⟩
   ·exact UP (b:=b) (List.mem_append_right _ (List.mem_append_right _ hr))
   ·rcases QbI (x:=x) (p:=b) (l:=(bkA bs s).chs) with h2|⟨c,hc,q,hq,h2⟩
    ·rw[←e,h2];exact QeB hx
    ·rw[←e,←h2];exact UP (b:=s) (List.mem_append_left _ (List.mem_flatMap.2 ⟨c,hc,Qv.2 ⟨q,hq,rfl⟩⟩))
structure MkS(bs:List Qm)(f:Nat→List Nat):Prop where
 few:∀b,(f b).length≤75
 sts:((absP bs).map fun b=>b.sts.length).sum≤75
 le:bs.length≤12
 out:∀b,bs.length≤b→f b=[]
 ahe:∀b r,r∈f b→0<(aheF bs b).length
 ok:∀b∈absP bs,OkX b
section
variable {bs:List Qm} {f:Nat→List Nat}
theorem Qcg(h:MkS bs f):∀i,cntN bs f i≤75*i+((List.range i).map fun k=>(bkF bs k).sts.length).sum
 | 0=>Nat.zero_le _
 | i+1=>by
  have ih:=Qcg h i;have h1:=h.few i;have h2:=Qa6 (bkF bs i).sts (bkF bs i).sts.length;rw[cntN,List.range_succ,List.map_append,List.sum_append];simp only[List.map_cons,List.map_nil,List.sum_cons,List.sum_nil];omega
theorem Z5(bs:List Qm):(absP bs).length=bs.length:=by simp[absP]
theorem Qbv(h:MkS bs f):((List.range bs.length).map fun k=>(bkA (absP bs) k).sts.length).sum≤75:=by
 have h2:=h.sts;rw[QbV,Z5]at h2;exact h2
theorem Qch(h:MkS bs f):cntN bs f bs.length≤975:=by
 have h1:=Qcg h bs.length;have h2:=Qbv h;rw[show (fun k=>(bkA (absP bs) k).sts.length)=fun k=>(bkF bs k).sts.length from funext fun k=>Ka bs k]at h2;have:=h.le;omega
theorem U6(h:MkS bs f){b r n:Nat}(hc:chN bs f b r=some n):n≤975:=by
 obtain⟨hm,_,_,_,hn⟩:=YB hc;rcases Nat.lt_or_ge b bs.length with hb|hb
 ·have:=KJ (bs:=bs) (f:=f) (show b+1≤bs.length by omega);have:=Qch h;omega
 ·rw[h.out b hb]at hm;cases hm
theorem Qae(h:MkS bs f)(b j:Nat):giN bs f b j≤975:=by
 rcases Nat.lt_or_ge j (bkF bs b).sts.length with hj|hj
 ·cases hg:isG (bkF bs b).sts[j] with
  | false=>rw[RM hj,hg,if_neg (by decide)];exact Nat.zero_le _
  | true=>
   have:=(U0 (f:=f) hj hg).2.2;rcases Nat.lt_or_ge b bs.length with hb|hb
   ·have:=KJ (bs:=bs) (f:=f) (show b+1≤bs.length by omega);have:=Qch h;omega
   ·exfalso;rw[bkF,ZI hb]at hj;exact absurd hj (Nat.not_lt_zero _)
 ·unfold giN;rw[ZI hj];exact Nat.zero_le _
theorem Qc9(h:MkS bs f){b k r n:Nat}(hn:Nam (absP bs) (mkD bs f) b k r n):n≤975:=by
 induction hn with
 | st _=>exact Qae h _ _
 | ch _ c=>exact U6 h c
 | up _ _ _ _ ih=>exact ih
 | zr _ _ _=>exact Nat.zero_le _
theorem VI(h:MkS bs f)(b k r:Nat):nmA (absP bs) (mkD bs f) b k r≤975:=by
 unfold nmA;split
 ·rename_i e;exact Qc9 h e.choose_spec
 ·exact Nat.zero_le _
theorem Qi9{g1:Nat→Nat}{g:Nat}{t:ASt}(h:OkS t)(h1:∀x,g1 x≤975)(h2:g≤975):OkS (rn2 g1 g t)∧(∀x,gvS (rn2 g1 g t)=some x→x<5000)∧∀x∈rdS (rn2 g1 g t),x<5000:=by
 have hg:g<10000:=by omega
 have h5:∀x,g1 x<10000:=fun x=>by have:=h1 x;omega
 have h6:∀x,g1 x<5000:=fun x=>by have:=h1 x;omega
 have hG:∀x,some g=some x→x<5000:=fun x e=>by cases e;omega
 cases t with
 | val t n=>exact⟨⟨hg,h.2⟩,hG,fun x hx=>by cases hx⟩
 | cp t a=>exact⟨⟨hg,h5 a⟩,hG,fun x hx=>by rw[QF.1 hx];exact h6 a⟩
 | op o t a b=>
  refine⟨⟨h.1,hg,h5 a,h5 b⟩,hG,fun x hx=>?_⟩;rcases List.mem_cons.1 hx with rfl|hx
  ·exact h6 a
  ·rw[QF.1 hx];exact h6 b
 | inp t=>exact⟨hg,hG,fun x hx=>by cases hx⟩
 | out a=>exact⟨h5 a,fun x e=>(by cases e),fun x hx=>by rw[QF.1 hx];exact h6 a⟩
theorem Qd6{g:Nat→Nat}{e:AEn}(h:OkE e)(h1:∀x,g x≤975):OkE (rnE g e)∧∀x∈rdE (rnE g e),x<5000:=by
 have h6:∀x,g x<10000:=fun x=>by have:=h1 x;omega
 refine⟨?_,fun x hx=>?_⟩
 ·unfold rnE;by_cases e63:e.op=63
  ·rw[if_pos e63];rcases h with ⟨h,_⟩|⟨h,_⟩|⟨_,_,h3,h4⟩
   ·omega
   ·omega
   ·exact .inr (.inr ⟨e63,h6 _,h3,h4⟩)
  ·rw[if_neg e63];exact h
 ·rw[Qjf]at hx;obtain⟨y,_,rfl⟩:=Qv.1 hx;have:=h1 y;omega
structure Sm(b:ABk):Prop where
 x:OkX b
 c:∀c∈b.chs,c.to<5000∧∀p∈c.src,p.2<5000
 g:∀t∈b.sts,∀x,gvS t=some x→x<5000
 r:∀t∈b.sts,∀x∈rdS t,x<5000
 e:∀x∈rdE b.e,x<5000
theorem Qjq{b:ABk}(h:OkX b):Sm (Qc5 b):=by
 have he:=Qd6 (g:=fun _=>0) h.e (fun _=>Nat.zero_le _);exact⟨⟨fun _ hc=>(by cases hc),fun _ ht=>(by cases ht),he.1⟩,fun _ hc=>(by cases hc),fun _ ht=>(by cases ht),fun _ ht=>(by cases ht),he.2⟩
theorem QbS{A:List ABk}{D:MkD}{b:Nat}:∀{l:List ASt}{j:Nat}{t:ASt},t∈Yl A D b j l→∃t0∈l,∃k,t=rn2 (nmA A D b k) (D.gi b k) t0
 | [],_,_,h=>by cases h
 | u::l,j,t,h=>by
  rw[Yl]at h;rcases List.mem_cons.1 h with rfl|h
  ·exact⟨u,List.mem_cons_self ..,j,rfl⟩
  ·obtain⟨t0,h0,k,e⟩:=QbS h;exact⟨t0,ZD _ h0,k,e⟩
theorem Qjz(h:MkS bs f){b:Nat}(hb:b<bs.length):Sm (mkB (absP bs) (mkD bs f) (coF bs) f (nzF bs f) b):=by
 have hO:OkX (bkA (absP bs) b):=by
  rw[Ya (by rw[Z5];exact hb)];exact h.ok _ (Qx _)
 have hle:=h.le;have hch:∀c∈(mkB (absP bs) (mkD bs f) (coF bs) f (nzF bs f) b).chs,OkC c∧c.to<5000∧∀p∈c.src,p.2<5000:=fun c hc=>by
  obtain⟨r,hr,rfl⟩:=Qv.1 hc;have h1:(chN bs f b r).getD 0≤975:=by
   cases e:chN bs f b r with
   | none=>exact Nat.zero_le _
   | some n=>exact U6 h e
  have h2:∀p∈(UO (absP bs) (mkD bs f) (coF bs) b r).src,p.1<10000∧p.2≤975:=fun p hp=>by
   obtain⟨q,hq,rfl⟩:=Qv.1 hp;have hq:=List.mem_range.1 (List.mem_filter.1 hq).1;rw[Z5]at hq;refine⟨by show q<10000;omega,?_⟩;show (if _ then _ else _)≤975;split
   ·exact VI h _ _ _
   ·exact Nat.zero_le _
  refine⟨⟨by show (chN bs f b r).getD 0<10000;omega,?_,fun p hp=>⟨(h2 p hp).1,by have:=(h2 p hp).2;omega⟩⟩,by show (chN bs f b r).getD 0<5000;omega,fun p hp=>by have:=(h2 p hp).2;omega⟩;have:=h.ahe b r hr;rw[Yc]at this;show 0<(List.map _ (Jk (absP bs) b)).length;rw[List.length_map];exact this
 have hst:∀t∈(mkB (absP bs) (mkD bs f) (coF bs) f (nzF bs f) b).sts,OkS t∧(∀x,gvS t=some x→x<5000)∧∀x∈rdS t,x<5000:=fun t ht=>by
  rcases QB.1 ht with ht|ht
  ·split at ht
   ·rw[QF.1 ht];exact⟨⟨by omega,by decide⟩,fun x e=>by cases e;omega,fun x hx=>by cases hx⟩
   ·cases ht
  ·obtain⟨t0,h0,k,rfl⟩:=QbS ht;exact Qi9 (hO.sts t0 h0) (fun x=>VI h _ _ _) (Qae h _ _)
 have he:=Qd6 (g:=nmE (absP bs) (mkD bs f) b) hO.e (fun x=>VI h _ _ _);exact⟨⟨fun c hc=>(hch c hc).1,fun t ht=>(hst t ht).1,he.1⟩,fun c hc=>(hch c hc).2,fun t ht=>(hst t ht).2.1,fun t ht=>(hst t ht).2.2,he.2⟩
theorem QeL(h:MkS bs f){b:Nat}(hb:b<bs.length):Sm (bkA (mkA (absP bs) (mkD bs f) (coF bs) f (nzF bs f)) b):=by
 rw[KZ (by rw[Z5];exact hb)];split
 ·exact Qjz h hb
 ·refine Qjq ?_;rw[Ya (by rw[Z5];exact hb)];exact h.ok _ (Qx _)
theorem QeM(h:MkS bs f):∀b∈mkA (absP bs) (mkD bs f) (coF bs) f (nzF bs f),OkX b:=fun b hb=>by
 obtain⟨i,hi,rfl⟩:=List.mem_iff_getElem.1 hb;have h1:i<bs.length:=by rw[XU,Z5]at hi;exact hi
 have:=(QeL h h1).x;rw[Ya hi]at this;exact this
theorem QbR{i:Nat}(hi:bs.length≤i):bkA (mkA (absP bs) (mkD bs f) (coF bs) f (nzF bs f)) i=UH:=by
 rw[bkA,ZI (by rw[XU,Z5];exact hi)];rfl
theorem Qjy(h:MkS bs f)(hq:QOk (absP bs)):POk (mkA (absP bs) (mkD bs f) (coF bs) f (nzF bs f)):=by
 have hl:(mkA (absP bs) (mkD bs f) (coF bs) f (nzF bs f)).length=bs.length:=by rw[XU,Z5]
 have hsm:∀i,Sm (bkA (mkA (absP bs) (mkD bs f) (coF bs) f (nzF bs f)) i)∨bkA (mkA (absP bs) (mkD bs f) (coF bs) f (nzF bs f)) i=UH:=fun i=>by
  rcases Nat.lt_or_ge i bs.length with h1|h1
  ·exact .inl (QeL h h1)
  ·exact .inr (QbR h1)
 refine⟨by rw[XU];exact hq.pos,fun i k hk=>by rw[Rc]at hk;rw[XU];exact hq.goal i k hk,fun i hi=>?_,fun {b c} hc=>?_,fun {r b s} g=>?_,fun {r b k} hr=>?_⟩
 ·rw[XU]at hi;have:=hq.op i hi;rw[KZ hi];split
  ·rw[show (mkB (absP bs) (mkD bs f) (coF bs) f (nzF bs f) i).e.op=(bkA (absP bs) i).e.op from KS _ _];exact this
  ·rw[show (Qc5 (bkA (absP bs) i)).e.op=(bkA (absP bs) i).e.op from KS _ _];exact this
 ·rcases Nat.lt_or_ge b bs.length with hb|hb
  ·rw[KZ (by rw[Z5];exact hb)]at hc;split at hc
   ·obtain⟨r,_,rfl⟩:=Qv.1 hc;rw[QdD (XU _ _ _ _ _) (Rc _ _ _ _ _)];show (List.map _ (List.map _ (Jk (absP bs) b)))=_;rw[List.map_map];exact List.map_id _
   ·cases hc
  ·rw[QbR hb]at hc;cases hc
 ·rcases hsm b with hS|e
  ·rcases g with ⟨_,c,hc,rfl⟩|⟨j,_,t,ht,e⟩
   ·exact(hS.c c hc).1
   ·exact hS.g t (List.mem_of_getElem? ht) r e
  ·rcases g with ⟨_,c,hc,_⟩|⟨j,_,t,ht,_⟩
   ·rw[e]at hc;cases hc
   ·rw[e]at ht;simp[UH]at ht
 ·rcases hr with ⟨t,ht,hr⟩|⟨_,hr|⟨b2,c,hc,hr⟩⟩
  ·rcases hsm b with hS|e
   ·exact hS.r t (List.mem_of_getElem? ht) r hr
   ·rw[e]at ht;simp[UH]at ht
  ·rcases hsm b with hS|e
   ·exact hS.e r hr
   ·rw[e]at hr;simp[UH,rdE]at hr
  ·rcases hsm b2 with hS|e
   ·exact(hS.c c hc).2 _ hr
   ·rw[e]at hc;cases hc
theorem Qlk(h:MkS bs f){b:Nat}(hb:b<bs.length):bcW (bkA (mkA (absP bs) (mkD bs f) (coF bs) f (nzF bs f)) b)≤825*(Jk (absP bs) b).length+(20*(bkA (absP bs) b).sts.length+561):=by
 rw[KZ (by rw[Z5];exact hb)];split
 ·have h1:((mkB (absP bs) (mkD bs f) (coF bs) f (nzF bs f) b).chs.map fun c=>7+11*c.src.length).sum=(7+11*(Jk (absP bs) b).length)*(f b).length:=by
   show ((List.map (UO (absP bs) (mkD bs f) (coF bs) b) (f b)).map fun c=>7+11*c.src.length).sum=_;rw[List.map_map,←Qbu]
   congr 1
   refine List.map_congr_left fun r _=>?_;show 7+11*(List.map _ (Jk (absP bs) b)).length=_;rw[List.length_map]
  have h2:(mkB (absP bs) (mkD bs f) (coF bs) f (nzF bs f) b).sts.length≤1+(bkA (absP bs) b).sts.length:=by
   show (_++Yl _ _ b 0 _).length≤_;rw[Qw,UL,J0];have:Yt (nzF bs f) b≤1:=by unfold Yt;split<;>omega
   omega
  have h3:(7+11*(Jk (absP bs) b).length)*(f b).length≤(7+11*(Jk (absP bs) b).length)*75:=Nat.mul_le_mul_left _ (h.few b);unfold bcW;rw[h1];omega
 ·show (List.map _ []).sum+20*([]:List ASt).length+16≤_;simp;omega
theorem NO(h:MkS bs f):(pcT (mkA (absP bs) (mkD bs f) (coF bs) f (nzF bs f))).length≤40000:=by
 have h1:=Qiy (mkA (absP bs) (mkD bs f) (coF bs) f (nzF bs f));rw[QbV,XU,Z5]at h1;have h2:=Rb (fun i=>(bcT (bkA (mkA (absP bs) (mkD bs f) (coF bs) f (nzF bs f)) i)).length+1) (fun i=>825*(Jk (absP bs) i).length+(20*(bkA (absP bs) i).sts.length+561)) (List.range bs.length) (fun i hi=>by
  have hi:=List.mem_range.1 hi;exact Qy (Qj7 (QeL h hi).x) (Qlk h hi))
 have e2:((List.range bs.length).map fun i=>825*(Jk (absP bs) i).length+(20*(bkA (absP bs) i).sts.length+561)).sum=825*((List.range bs.length).map fun i=>(Jk (absP bs) i).length).sum+(20*((List.range bs.length).map fun i=>(bkA (absP bs) i).sts.length).sum+561*bs.length):=by
  rw[WQ,WP,WQ,WP,Qbu,List.length_range]
 rw[e2]at h2;have h3:=Qgd (absP bs);rw[Z5]at h3;have h4:=Qbv h;have:=h.le;omega
end
theorem QeI{s:ByteArray}(h0:(rdF s).e=0)(hs:s.size≤300){LM:Nat→Option (List Nat)}{f:Nat→List Nat}(h:PlF (Qu s).bs (ndL (Qu s).bs) LM f (Qu s).bs.length 0)(hS:∀k,SM (f k)):MkS (Qu s).bs f:=by
 have hR:=Ve h0;have hp:=Qhl (Qee h0);obtain⟨h1,h2⟩:=QgY (Qy hp hs);have hout:∀b,(Qu s).bs.length≤b→f b=[]:=fun b hb=>by
  rcases Nat.lt_or_ge (Qu s).bs.length b with e|e
  ·exact h.rest b e
  ·have e:b=(Qu s).bs.length:=by omega
   rw[e,h.here];rfl
 refine⟨fun b=>?_,by omega,hR.rd.le,hout,fun b r hr=>?_,Qjp h0⟩
 ·rcases Nat.lt_or_ge b (Qu s).bs.length with hb|hb
  ·have hn:(f b).length≤(QcS (absP (Qu s).bs)).length:=UG ((hS b).1.imp (fun h=>Nat.ne_of_lt h)) fun x hx=>by
    rw[h.done b hb]at hx;exact QeB (Rx hR.rd _ b x hb (List.mem_filter.1 hx).1)
   omega
  ·rw[hout b hb];exact Nat.zero_le _
 ·rcases Nat.lt_or_ge b (Qu s).bs.length with hb|hb
  ·rw[h.done b hb]at hr;have hpl:=(List.mem_filter.1 hr).2;unfold plB at hpl;rw[Bool.or_eq_true]at hpl;rcases hpl with hpl|hpl
   ·have hm:=Ze.1 hpl
    cases hL:LM r with
    | none=>rw[hL]at hm;cases hm
    | some l=>
     rw[hL]at hm;obtain⟨x,hx⟩:=(h.mt r l hL).2.2.2 b hm;unfold JU at hx;have hx:=(Zk.1 hx).2;unfold QgU at hx;rw[Bool.and_eq_true,List.any_eq_true]at hx;obtain⟨⟨p,hp,h3⟩,_⟩:=hx;rw[Bool.and_eq_true]at h3;have h4:=(KO _ p b).2 (List.contains_iff_mem.1 h3.1);rw[Yc];exact List.length_pos_of_mem (List.mem_filter.2 ⟨List.mem_range.2 (Qip h4),List.contains_iff_mem.2 h4⟩)
   ·rw[Uf]at hpl;obtain⟨c,hc,_⟩:=hpl;rw[Zj hb]at hc;have h4:=hR.jp.ch _ (Qx hb) c hc;have h5:=hR.rd.ahead b hb c hc;rw[←h5];show 0<(List.map _ c.gs).length;rw[List.length_map];exact h4
  ·rw[hout b hb]at hr;cases hr
theorem Qbs{ah:List Nat}:∀{cs:List Q0}{gv:List Nat},Jp ah gv cs=none→(cs.map (·.to.1)).Nodup∧∀c∈cs,c.to.1∉gv
 | [],_,_=>⟨List.nodup_nil,fun c hc=>by cases hc⟩
 | d::cs,gv,h=>by
  rw[Jp]at h;split at h
  ·rename_i ho;obtain⟨h1,h2⟩:=Qbs h;rw[Kr,Bool.and_eq_true,Bool.not_eq_true']at ho;have hd:d.to.1∉gv:=fun hm=>by rw[Ze.2 hm]at ho;cases ho.2
   refine⟨?_,fun c hc=>?_⟩
   ·rw[List.map_cons,List.nodup_cons];refine⟨fun hm=>?_,h1⟩;obtain⟨c,hc,e⟩:=Qv.1 hm;exact h2 c hc (List.mem_append_right _ (QF.2 e))
   ·rcases List.mem_cons.1 hc with rfl|hc
    ·exact hd
    ·exact fun hm=>h2 c hc (List.mem_append_left _ hm)
  ·cases h
theorem Qkq{s:ByteArray}(h:(rdF s).e=0):∀b∈(Qu s).bs,(b.chs.map (·.to.1)).Nodup:=by
 unfold rdF at h;by_cases h1:200000<s.size
 ·rw[if_pos h1]at h;cases h
 rw[if_neg h1]at h;by_cases h2:0≤Q9 s
 ·rw[if_pos h2]at h;cases h
 rw[if_neg h2]at h;by_cases h3:12<(Qu s).bs.length
 ·rw[dif_pos h3]at h;cases h
 rw[dif_neg h3]at h;by_cases h4:0≤Xb (Qu s).bs
 ·rw[if_pos h4]at h;cases h
 rw[if_neg h4]at h;by_cases h5:0≤JR (Qu s).bs
 ·rw[if_pos h5]at h;cases h
 intro b hb;obtain⟨i,hi,rfl⟩:=List.mem_iff_getElem.1 hb;have hn:(List.range (Qu s).bs.length).findSome? (Xy (Qu s).bs)=none:=by
  cases e:(List.range (Qu s).bs.length).findSome? (Xy (Qu s).bs) with
  | none=>rfl
  | some x=>rw[JR,e]at h5;exact absurd (by show (0:Int)≤(x:Int);omega) h5
 rw[List.findSome?_eq_none_iff]at hn;have:=hn i (List.mem_range.2 hi);rw[Xy,Zl hi]at this;exact(Qbs this).1
theorem Qk9{s:ByteArray}(h:(rdF s).e=0):QOk (absP (Qu s).bs):=by
 have hR:=Ve h;refine Qjh hR.rd (fun b hb=>?_) (fun i hi c hc=>hR.rd.ahead i hi c hc) hR.rd.rs (Qkq h);rcases hR.jp.e b hb with ⟨h,_⟩|⟨h,_⟩|⟨h,_⟩
 ·exact .inl h
 ·exact .inr (.inl h)
 ·exact .inr (.inr h)
theorem Qg1{s:ByteArray}(hs:s.size≤300):∀b∈(Qu s).bs,QU 1000 b:=fun b hb=>(Vj s b hb).mono (by omega)
structure MkW(bs:List Qm)(LM:Nat→Option (List Nat))(f:Nat→List Nat):Prop where
 p:PlF bs (ndL bs) LM f bs.length 0
 s:∀k,SM (f k)
theorem Qky{bs:List Qm}{f:Nat→List Nat}{b:Qm}(hb:b∈mkP bs f):∃i,∃hi:i<bs.length,b=Wb bs f i bs[i]∨b=YW bs[i]:=by
 obtain⟨i,hi,rfl⟩:=List.mem_iff_getElem.1 hb;have h1:i<bs.length:=by rw[RB]at hi;exact hi
 refine⟨i,h1,?_⟩;rw[show (mkP bs f)[i]=if coF bs i then Wb bs f i bs[i] else YW bs[i] from Ra h1];split
 ·exact .inl rfl
 ·exact .inr rfl
theorem QhD{bs:List Qm}{f:Nat→List Nat}(h:MkS bs f):
  (mkP bs f).length≤1000∧(∀b∈mkP bs f,∀c∈b.chs,ChW c)∧(∀b∈mkP bs f,b.chs.length≤200000)∧(∀b∈mkP bs f,(bcT (Xf b)).length≤10000000)∧(∀b∈mkP bs f,∀t∈b.sts,OkS (QK t))∧(∀b∈mkP bs f,OkE (ZT b.e))∧(∀b∈mkP bs f,b.sts.length≤200000)∧(pcT (absP (mkP bs f))).length≤200000:=by
 have hX:=QeM h;have hL:=NO h;rw[←QcA]at hX hL;have hm:∀b∈mkP bs f,Xf b∈absP (mkP bs f):=fun b hb=>Qv.2 ⟨b,hb,rfl⟩;have h12:=h.le;have hlen:=RB bs f;have hbc:∀b∈mkP bs f,(bcT (Xf b)).length≤40000:=fun b hb=>by
  have:=QiM _ _ (hm b hb);omega
 refine⟨by omega,fun b hb c hc=>?_,fun b hb=>?_,fun b hb=>by have:=hbc b hb;omega,fun b hb t ht=>(hX _ (hm b hb)).sts _ (Qv.2 ⟨t,ht,rfl⟩),fun b hb=>(hX _ (hm b hb)).e,fun b hb=>?_,by omega⟩
 ·obtain⟨i,hi,rfl|rfl⟩:=Qky hb
  ·obtain⟨r,hr,rfl⟩:=Qv.1 hc;have hA:∀q∈aheF bs i,q<bs.length:=fun q hq=>by
    rw[Yc]at hq;have:=List.mem_range.1 (List.mem_filter.1 hq).1;rw[Z5]at this;exact this
   refine⟨fun p hp=>?_,fun p hp=>?_,?_,?_⟩
   ·obtain⟨q,hq,rfl⟩:=Qv.1 hp;have:=hA q hq;show q<10000;omega
   ·obtain⟨q,hq,rfl⟩:=Qv.1 hp;show (if _ then _ else _)<10000;split
    ·have:=VI h q (bkA (absP bs) q).sts.length (orgR (bkF bs i).chs r q);show nmA _ _ q (bkA (absP bs) q).sts.length _<10000;omega
    ·omega
   ·show (chN bs f i r).getD 0<10000
    cases e:chN bs f i r with
    | none=>exact Nat.zero_lt_succ _
    | some n=>have:=U6 h e;show n<10000;omega
   ·show (List.map _ (aheF bs i)).length≤1000;rw[List.length_map,Yc];have:(Jk (absP bs) i).length≤(List.range (absP bs).length).length:=List.length_filter_le _ _;rw[List.length_range,Z5]at this;omega
  ·cases hc
 ·have h1:=Qci (Xf b).chs;have h2:=hbc b hb;have h3:(Xf b).chs.length=b.chs.length:=List.length_map _;unfold bcT at h2;rw[Qw]at h2;omega
 ·have h1:=(Qay (Xf b).sts).2;have h2:=hbc b hb;have h3:(Xf b).sts.length=b.sts.length:=List.length_map _;unfold bcT at h2;rw[Qw,Qw]at h2;omega
def MkT(s T:ByteArray):Prop:=(upE 300 s≠0→T=⟨#[]⟩)∧(upE 300 s=0→∃LM f,MkW (Qu s).bs LM f∧T=⟨(pcT (absP (mkP (Qu s).bs f))).toArray⟩)
structure MF(s T:ByteArray):Prop where
 rd:rdF T=⟨0,0⟩
 sz:T.size≤40000
 rdd:Rdd T
 nw:Qev (Qu T).bs=none
 sg:sgE (Qu T).bs=(0,0)
 pr:∀b,Cm (absP (Qu T).bs) b→∀c∈(bkA (absP (Qu T).bs) b).chs,Wm (absP (Qu T).bs) c.to
 pk:POk (absP (Qu T).bs)
 eq:(Qu s).bs.length=(Qu T).bs.length
 ends:∀i (hi:i<(Qu s).bs.length) (hj:i<(Qu T).bs.length),(Qu s).bs[i].e.op=(Qu T).bs[i].e.op∧(Qu s).bs[i].e.one.1=(Qu T).bs[i].e.one.1∧(Qu s).bs[i].e.two.1=(Qu T).bs[i].e.two.1
 p1:Qgj (Qu s).bs
 p2:Qgj (Qu T).bs
 play:∀V f,playA (absP (Qu s).bs) V f=playA (absP (Qu T).bs) V f
theorem QbB(f:Nat→Nat)(e:AEn):(rnE f e).op=e.op∧(rnE f e).one=e.one∧(rnE f e).two=e.two:=⟨KS _ _,Rn _ _,Rm _ _⟩
theorem QkC{s T:ByteArray}(h:upE 300 s=0)(hT:MkT s T):MF s T:=by
 obtain⟨h1,h2⟩:=Nj h;obtain⟨LM,f,hw,rfl⟩:=hT.2 h;have hR:=Ve h1;have hS:=QeI h1 h2 hw.p hw.s;have hQ:=Qk9 h1;have hA:=QeJ hR.rd hQ (WG h1).1 hw.p hw.s;have hP:=Qjy hS hQ;have hG:=Qjx hA;have hX:=QeM hS;have hL:=NO hS;have hlen:(mkA (absP (Qu s).bs) (mkD (Qu s).bs f) (coF (Qu s).bs) f (nzF (Qu s).bs f)).length=(Qu s).bs.length:=by rw[XU,Z5]
 have h12:=hR.rd.le;have hpos:=hR.rd.pos;rw[QcA];obtain⟨r1,r2⟩:=Qhk hX (by omega) _ rfl;generalize hTT:(⟨(pcT (mkA (absP (Qu s).bs) (mkD (Qu s).bs f) (coF (Qu s).bs) f (nzF (Qu s).bs f))).toArray⟩:ByteArray)=T at *;have hz:T.size≤40000:=by
  rw[←hTT];show (pcT _).toArray.size≤_;rw[List.size_toArray];exact hL
 obtain⟨q1,q2⟩:=QgV hP hG (by omega) hz r2 r1;have he:(rdF T).e=0:=by rw[q1]
 have hRT:=Ve he;have hlt:(Qu s).bs.length=(Qu T).bs.length:=by
  have:=congrArg List.length r1;rw[hlen]at this;simpa[absP] using this.symm
 refine⟨q1,hz,hRT,q2,Qi5 hRT.rd (Qba he) (by rw[r1];exact hG),fun b hb c hc=>?_,by rw[r1];exact hP,hlt,fun i hi hj=>?_,hR.play h1,hRT.play he,fun V f=>?_⟩
 ·rw[r1]at hb hc ⊢;exact Qdb hA (n:=ndN (Qu s).bs) (fun b r hb2 hr2=>Rx hR.rd _ b r (by rw[Z5]at hb2;exact hb2) hr2) hb hc
 ·have e1:Xf (Qu T).bs[i]=bkA (mkA (absP (Qu s).bs) (mkD (Qu s).bs f) (coF (Qu s).bs) f (nzF (Qu s).bs f)) i:=by
   rw[←r1,QX,Zj hj]
  rw[KZ (by rw[Z5];exact hi)]at e1;have key:(ZT (Qu T).bs[i].e).op=(Qu s).bs[i].e.op∧(ZT (Qu T).bs[i].e).one=(Qu s).bs[i].e.one.1∧(ZT (Qu T).bs[i].e).two=(Qu s).bs[i].e.two.1:=by
   rw[show ZT (Qu T).bs[i].e=(Xf (Qu T).bs[i]).e from rfl,e1];have hb:bkA (absP (Qu s).bs) i=Xf (Qu s).bs[i]:=by rw[QX,Zj hi]
   split
   ·show (rnE _ (bkA (absP (Qu s).bs) i).e).op=_∧(rnE _ (bkA (absP (Qu s).bs) i).e).one=_∧(rnE _ (bkA (absP (Qu s).bs) i).e).two=_;obtain⟨b1,b2,b3⟩:=QbB (nmE (absP (Qu s).bs) (mkD (Qu s).bs f) i) (bkA (absP (Qu s).bs) i).e;rw[b1,b2,b3,hb];exact⟨rfl,rfl,rfl⟩
   ·show (rnE _ (bkA (absP (Qu s).bs) i).e).op=_∧(rnE _ (bkA (absP (Qu s).bs) i).e).one=_∧(rnE _ (bkA (absP (Qu s).bs) i).e).two=_;obtain⟨b1,b2,b3⟩:=QbB (fun _=>0) (bkA (absP (Qu s).bs) i).e;rw[b1,b2,b3,hb];exact⟨rfl,rfl,rfl⟩
  exact⟨key.1.symm,key.2.1.symm,key.2.2.symm⟩
 ·rw[r1];exact QhF hQ hA.ok hA.n hA.u hA.co hA.pl hA.pn V f
theorem Qgh(s:ByteArray)(w:World)(hs:s.size≤maxLen)(ht:Tab w):
  Calls prog 6 #[.string s] w fun x w'=>(∃T,x=.returned (.tuple #[.string T,.int .i64 (upE 300 s),.int .i64 (rdF s).at_])∧Hid (MkT s T))∧Below w.heap.size w w':=by
 go_enter func6,ntmps6;go_wp2_with fail;refine(QgW 300 (by omega) s w hs).mono ?_;rintro x w1 ⟨v1,rfl,H1⟩;by_cases h0:upE 300 s=0
 ·have HP:=Qc (H1.o.1 h0);have F1:=Qc H1.o.2;obtain⟨h1,h2⟩:=Nj h0;obtain⟨p1,c1,rfl⟩:=HP.o.slice;have HE:Hid (upE 300 s=0∧(rdF s).at_=0):=⟨h0,(rd0 h1).1⟩;have HR:=Qc (Ve h1).rd;have HF:=Qc (Qg1 h2);have HG:=Qc (WG h1).2.2;have HTX:=Qc (fun (LM:Nat→Option (List Nat)) (f:Nat→List Nat) (hw:MkW (Qu s).bs LM f)=>QhD (QeI h1 h2 hw.p hw.s));rw[h0];clear h0 h1 h2 H1;go_wp2_with fail;refine(QkE (Qu s).bs w.heap.size _ w1 HP.o HR HF HG).mono ?_;rintro x w3 ⟨v3,LM,f,B3,rfl,H3⟩;obtain⟨p3,c3,rfl⟩:=H3.o.1.slice;have F3:=Qc (F1.o.trans (H3.o.2.2.2.mono F1.o.size));have HW:Hid (MkW (Qu s).bs LM f):=⟨H3.o.2.1,H3.o.2.2.1⟩;have HX:=HTX.o LM f HW.o;go_wp2_with fail;refine(Qk2 (mkP (Qu s).bs f) B3 _ w3 H3.o.1 HX.1 HX.2.1 HX.2.2.1 HX.2.2.2.1 HX.2.2.2.2.1 HX.2.2.2.2.2.1 HX.2.2.2.2.2.2.1 HX.2.2.2.2.2.2.2 (ht.keep F3.o)).mono ?_;rintro x w4 ⟨rfl,f4⟩;have F4:=Qc (F3.o.trans (f4.mono F3.o.size));have HLT:Hid (MkT s ⟨(pcT (absP (mkP (Qu s).bs f))).toArray⟩):=⟨fun hne=>absurd HE.o.1 hne,fun _=>⟨LM,f,HW.o,rfl⟩⟩;clear f4 HX H3;go_wp2_with fail
  go_ret3
  exact⟨⟨_,by rw[HE.o.1,HE.o.2];rfl,HLT⟩,F4.o⟩
 ·have hd:((upE 300 s:Int) != 0)=true:=by simp;omega
  have HLT:Hid (MkT s ⟨#[]⟩):=⟨fun _=>rfl,fun he=>absurd he h0⟩;have F1:=Qc H1.o.2;clear h0 H1;go_wp2_with fail
  go_ret3
  exact⟨⟨_,rfl,HLT⟩,F1.o⟩
structure WkI(w0:World)(n:Nat)(co:Nat→Bool)(vc vw:Value)(cur:List Nat)(wr:World):Prop where
 c:wr.ownsRow w0.heap.size 4 1 vc n (Zu n co)
 l:wr.ownsRow w0.heap.size 3 1 vw cur.length (Qe cur)
 f:Below w0.heap.size w0 wr
theorem WkI.keeps{w0 n co vc vw cur wr wr'}(h:WkI w0 n co vc vw cur wr)(F:Below wr.heap.size wr wr'):WkI w0 n co vc vw cur wr':=
 ⟨Qd h.c (Qh F) trivial,Qd h.l (Qh F) trivial,h.f.trans (F.mono h.f.size)⟩
theorem WkI.put{w0 n co vc vw cur wr wr' v' cur'}(h:WkI w0 n co vc vw cur wr)(F:Below wr.heap.size wr wr')(o:wr'.ownsRow wr.heap.size 3 1 v' cur'.length (Qe cur')):WkI w0 n co vc v' cur' wr':=
 ⟨Qd h.c (Qh F) trivial,Qj o h.f.size,h.f.trans (F.mono h.f.size)⟩
theorem Vg{cur:List Nat}{x:Nat}:∀_y∈cur,_y∈ptF cur x:=fun _ hy=>ZW.2 (.inl hy)
def QkF:Value→Nat
 | .slice _ n _=>n
 | _=>0
def rnM(v t:Value):Nat:=match t with | .bool true=>10001-QkF v|_=>0
end Go.Proofs.YtgfhfkgdmidhpaaGreatDoor
