import Derived.Test.YtgfhfkgdmidhpaaGreatDoorM17
namespace Go.Proofs.YtgfhfkgdmidhpaaGreatDoor
open Go.RowKit
open Go.Proofs.Tryz
set_option maxRecDepth 100000
set_option maxHeartbeats 8000000
structure QOk(bs:List ABk):Prop where
 pos:0<bs.length
 goal:∀i k,k∈suA bs i→k<bs.length
 op:∀i,i<bs.length→(bkA bs i).e.op=46∨(bkA bs i).e.op=62∨(bkA bs i).e.op=63
 src:∀{b c},c∈(bkA bs b).chs→c.src.map (·.1)=Jk bs b
 nod:∀b,((bkA bs b).chs.map (·.to)).Nodup
theorem Cm.ltQ{bs b}(hP:QOk bs)(h:Cm bs b):b<bs.length:=Rch.lt hP.pos hP.goal h
inductive Wu(su:Nat→List Nat):Nat→Nat→Prop
 | zero:Wu su 0 0
 | step {d i k:Nat}:Wu su d i→k∈su i→Wu su (d+1) k
theorem Rq{su:Nat→List Nat}{b:Nat}(h:Rch su noB b):∃d,Wu su d b:=by
 induction h with
 | zero _=>exact⟨0,.zero⟩
 | step _ hk _ ih=>obtain⟨d,ih⟩:=ih;exact⟨d+1,.step ih hk⟩
theorem Qha{su:Nat→List Nat}{a d b:Nat}(h:Wu su d b):Rch su (isB a) b∨∃d',d'≤d∧Wu su d' a:=by
 induction h with
 | zero=>
  by_cases e:0=a
  ·subst e;exact .inr ⟨0,Qi _,.zero⟩
  ·exact .inl (.zero (Xp e))
 | @step d i k h hk ih=>
  rcases ih with ih|⟨d',h1,h2⟩
  ·by_cases e:k=a
   ·subst e;exact .inr ⟨d+1,Qi _,.step h hk⟩
   ·exact .inl (.step ih hk (Xp e))
  ·exact .inr ⟨d',by omega,h2⟩
theorem V8{su:Nat→List Nat}{a d b:Nat}(h:Wu su d b)(ho:Ovr su a b)(hne:a≠b):∃d',d'<d∧Wu su d' a:=by
 cases h with
 | zero=>exact absurd (Rch.zero (Xp fun e=>hne e.symm)) ho.2
 | @step d i _ h hk=>
  rcases Qha (a:=a) h with h1|⟨d',h1,h2⟩
  ·exact absurd (Rch.step h1 hk (Xp fun e=>hne e.symm)) ho.2
  ·exact⟨d',by omega,h2⟩
def ZY(l:List ASt)(r:Nat):Nat→Option Nat
 | 0=>none
 | k+1=>if l[k]?.bind gvS=some r then some k else ZY l r k
theorem UW{l:List ASt}{r j:Nat}:∀{k},ZY l r k=some j→j<k∧l[j]?.bind gvS=some r
 | 0,h=>by cases h
 | k+1,h=>by
  unfold ZY at h;split at h
  ·rename_i e;cases h;exact⟨Nat.lt_succ_self _,e⟩
  ·have:=UW h;exact⟨by omega,this.2⟩
theorem Vm{l:List ASt}{r:Nat}:∀{k},ZY l r k=none→∀j,j<k→l[j]?.bind gvS≠some r
 | 0,_,j,hj=>absurd hj (by omega)
 | k+1,h,j,hj=>by
  unfold ZY at h;split at h
  ·cases h
  ·rename_i e;rcases Nat.lt_succ_iff_lt_or_eq.1 hj with h1|rfl
   ·exact Vm h j h1
   ·exact e
theorem N0{l:List ASt}{r:Nat}(h:∀t∈l,gvS t≠some r):∀k,ZY l r k=none
 | 0=>rfl
 | k+1=>by
  unfold ZY;rw[if_neg,N0 h k];intro e
  cases hk:l[k]? with
  | none=>rw[hk]at e;cases e
  | some t=>rw[hk]at e;exact h t (List.mem_of_getElem? hk) e
structure MkD where
 kp:Nat→Option Nat
 ch:Nat→Nat→Option Nat
 gi:Nat→Nat→Nat
inductive Nam(bs:List ABk)(D:MkD):Nat→Nat→Nat→Nat→Prop
 | st {b k r j:Nat}:ZY (bkA bs b).sts r k=some j→Nam bs D b k r (D.gi b j)
 | ch {b k r n:Nat}:ZY (bkA bs b).sts r k=none→D.ch b r=some n→Nam bs D b k r n
 | up {b k r a n:Nat}:ZY (bkA bs b).sts r k=none→D.ch b r=none→D.kp b=some a→Nam bs D a (bkA bs a).sts.length r n→Nam bs D b k r n
 | zr {b k r:Nat}:ZY (bkA bs b).sts r k=none→D.ch b r=none→D.kp b=none→Nam bs D b k r 0
theorem Nam.one{bs D b k r n m}(h:Nam bs D b k r n)(h':Nam bs D b k r m):n=m:=by
 induction h generalizing m with
 | st e=>cases h' with
  | st e'=>rw[e]at e';cases e';rfl
  | ch e' _=>rw[e]at e';cases e'
  | up e' _ _ _=>rw[e]at e';cases e'
  | zr e' _ _=>rw[e]at e';cases e'
 | ch e c=>cases h' with
  | st e'=>rw[e]at e';cases e'
  | ch _ c'=>rw[c]at c';cases c';rfl
  | up _ c' _ _=>rw[c]at c';cases c'
  | zr _ c' _=>rw[c]at c';cases c'
 | up e c q _ ih=>cases h' with
  | st e'=>rw[e]at e';cases e'
  | ch _ c'=>rw[c]at c';cases c'
  | up _ _ q' h'=>rw[q]at q';cases q';exact ih h'
  | zr _ _ q'=>rw[q]at q';cases q'
 | zr e c q=>cases h' with
  | st e'=>rw[e]at e';cases e'
  | ch _ c'=>rw[c]at c';cases c'
  | up _ _ q' _=>rw[q]at q';cases q'
  | zr _ _ _=>rfl
structure Kps(bs:List ABk)(kp:Nat→Option Nat):Prop where
 no:∀{b},Cm bs b→kp b=none→∀a,Ovr (suA bs) a b→a=b
 one:∀{b k},Cm bs b→kp b=some k→k≠b∧Ovr (suA bs) k b∧∀a,a≠b→Ovr (suA bs) a b→Ovr (suA bs) a k
theorem Nam.ex{bs:List ABk}{D:MkD}(hK:Kps bs D.kp):∀(d:Nat){b:Nat}(k r:Nat),Wu (suA bs) d b→Cm bs b→∃n,Nam bs D b k r n:=by
 intro d
 induction d using Nat.strongRecOn with
 | _ d ih=>
  intro b k r hd hb
  cases hl:ZY (bkA bs b).sts r k with
  | some j=>exact⟨_,.st hl⟩
  | none=>
   cases hc:D.ch b r with
   | some n=>exact⟨n,.ch hl hc⟩
   | none=>
    cases hk:D.kp b with
    | none=>exact⟨0,.zr hl hc hk⟩
    | some a=>
     obtain⟨h1,h2,_⟩:=hK.one hb hk;obtain⟨d',hd',ha⟩:=V8 hd h2 h1;obtain⟨n,hn⟩:=ih d' hd' (bkA bs a).sts.length r ha h2.up;exact⟨n,.up hl hc hk hn⟩
open Classical in
noncomputable def nmA(bs:List ABk)(D:MkD)(b k r:Nat):Nat:=if h:∃n,Nam bs D b k r n then h.choose else 0
theorem Nam.eq{bs D b k r n}(h:Nam bs D b k r n):nmA bs D b k r=n:=by
 have e:∃n,Nam bs D b k r n:=⟨n,h⟩;unfold nmA;rw[dif_pos e];exact e.choose_spec.one h
theorem Yv{bs:List ABk}{D:MkD}(hK:Kps bs D.kp){b:Nat}(hb:Cm bs b)(k r:Nat):Nam bs D b k r (nmA bs D b k r):=by
 obtain⟨d,hd⟩:=Rq hb;obtain⟨n,hn⟩:=Nam.ex hK d k r hd hb;rw[hn.eq];exact hn
noncomputable def nmE(bs:List ABk)(D:MkD)(b r:Nat):Nat:=nmA bs D b (bkA bs b).sts.length r
def Rim(bs:List ABk)(b s:Nat):Prop:=∃p,Ovr (suA bs) b p∧s∈suA bs p∧¬(Ovr (suA bs) b s∧s≠b)
def Chs(bs:List ABk)(b r:Nat):Prop:=∃c∈(bkA bs b).chs,c.to=r
def GvB(bs:List ABk)(b r:Nat):Prop:=Chs bs b r∨∃t∈(bkA bs b).sts,gvS t=some r
structure Gq(bs:List ABk)(nd mt:Nat→Nat→Prop)(D:MkD):Prop where
 kp:Kps bs D.kp
 met:∀{r b s},Cm bs b→GvB bs b r∨mt r b→Rim bs b s→mt r s
 pl:∀{b r},Cm bs b→(D.ch b r≠none↔nd b r∧(mt r b∨Chs bs b r))
theorem Gq.off{bs nd mt D}(h:Gq bs nd mt D){a r:Nat}(ha:Cm bs a)(hn:¬(GvB bs a r∨mt r a))(k:Nat):ZY (bkA bs a).sts r k=none∧D.ch a r=none:=by
 refine⟨N0 (fun t ht e=>hn (.inl (.inr ⟨t,ht,e⟩))) k,?_⟩
 cases hc:D.ch a r with
 | none=>rfl
 | some n=>
  exfalso;obtain⟨_,h1⟩:=(h.pl ha).1 (by rw[hc];simp);rcases h1 with h1|h1
  ·exact hn (.inr h1)
  ·exact hn (.inl (.inl h1))
theorem UK{bs nd mt D}(h:Gq bs nd mt D){p s r:Nat}(hp:Cm bs p)(he:s∈suA bs p)(hm:¬mt r s)(hc:D.ch s r=none){n:Nat}(hn:Nam bs D s 0 r n):Nam bs D p (bkA bs p).sts.length r n:=by
 have hs:Cm bs s:=.step hp he rfl;have key:∀(d:Nat) {a:Nat},Wu (suA bs) d a→Ovr (suA bs) a p→(∀c,Ovr (suA bs) c p→Ovr (suA bs) c a→¬(Ovr (suA bs) c s∧s≠c)∨∃k,D.kp s=some k∧Ovr (suA bs) c k)→(∀k,D.kp s=some k→Ovr (suA bs) k a)→Nam bs D a (bkA bs a).sts.length r n:=by
  intro d
  induction d using Nat.strongRecOn with
  | _ d ih=>
   intro a hd ha hall hka;have hca:Cm bs a:=ha.up;by_cases hak:D.kp s=some a
   ·cases hn with
    | st e=>cases e
    | ch _ c=>rw[hc]at c;cases c
    | up _ _ q h'=>rw[hak]at q;cases q;exact h'
    | zr _ _ q=>rw[hak]at q;cases q
   ·have hnot:¬(GvB bs a r∨mt r a):=fun hg=>by
     refine hm (h.met hca hg ⟨p,ha,he,?_⟩);rcases hall a ha (Ovr.refl hca) with h1|⟨k,hk,h1⟩
     ·exact h1
     ·have:=(hka k hk).antisymm h1;subst this;exact absurd hk hak
    obtain⟨hl,hch⟩:=h.off hca hnot (bkA bs a).sts.length
    cases hk:D.kp a with
    | none=>
     have hno:=h.kp.no hca hk
     cases hn with
     | st e=>cases e
     | ch _ c=>rw[hc]at c;cases c
     | up _ _ q _=>
      have:=hno _ (hka _ q);subst this;exact absurd q hak
     | zr _ _ _=>exact .zr hl hch hk
    | some a'=>
     obtain⟨h1,h2,h3⟩:=h.kp.one hca hk;obtain⟨d',hd',ha'⟩:=V8 hd h2 h1;refine .up hl hch hk (ih d' hd' ha' (h2.trans ha) (fun c hcp hca'=>hall c hcp (hca'.trans h2)) fun k hks=>h3 k ?_ (hka k hks));rintro rfl;exact hak hks
 obtain⟨d,hd⟩:=Rq hp;refine key d hd (Ovr.refl hp) (fun c hcp _=>?_) (fun k hk=>?_)
 ·by_cases hcs:Ovr (suA bs) c s∧s≠c
  ·refine .inr ?_
   cases hk:D.kp s with
   | none=>exact absurd (h.kp.no hs hk c hcs.1) (fun e=>hcs.2 e.symm)
   | some k=>exact⟨k,rfl,(h.kp.one hs hk).2.2 c (fun e=>hcs.2 e.symm) hcs.1⟩
  ·exact .inl hcs
 ·obtain⟨h1,h2,_⟩:=h.kp.one hs hk;exact h2.ahead hp he h1
def lvL(out:Nat→Prop):List ASt→Nat→Prop
 | [],r=>out r
 | t::l,r=>r∈rdS t∨(gvS t≠some r∧lvL out l r)
def QaA(c:ACh)(p:Nat):Option Nat:=(c.src.find? (fun q=>q.1==p)).map (·.2)
def J6:List ACh→Nat→Nat→Nat
 | [],r,_=>r
 | c::l,r,p=>if c.to=r then (match QaA c p with|some x=>x|none=>J6 l r p) else J6 l r p
theorem WS{r p:Nat}:∀{l:List ACh},(∀c∈l,c.to≠r)→J6 l r p=r
 | [],_=>rfl
 | c::l,h=>by rw[J6,if_neg (h c (List.mem_cons_self ..))];exact WS fun d hd=>h d (ZD _ hd)
theorem QgC{c:ACh}{p:Nat}(h:p∈c.src.map (·.1)):∃x,QaA c p=some x∧(p,x)∈c.src:=by
 unfold QaA
 cases hf:c.src.find? (fun q=>q.1==p) with
 | none=>
  obtain⟨q,hq,e⟩:=Qv.1 h;have:=List.find?_eq_none.1 hf q hq;simp[e]at this
 | some q=>
  have h1:=List.mem_of_find?_eq_some hf;have h2:=List.find?_some hf;have h2:q.1=p:=by simpa using h2
  exact⟨q.2,rfl,by rw[←h2];exact h1⟩
theorem QbJ{r p:Nat}:∀{l:List ACh}{c:ACh},(l.map (·.to)).Nodup→(∀d∈l,p∈d.src.map (·.1))→c∈l→c.to=r→(p,J6 l r p)∈c.src
 | [],_,_,_,h,_=>by simp at h
 | d::l,c,hn,hs,h,e=>by
  rw[List.map_cons,List.nodup_cons]at hn;rw[J6];by_cases hd:d.to=r
  ·rw[if_pos hd];have hcd:c=d:=by
    rcases List.mem_cons.1 h with h|h
    ·exact h
    ·exact absurd (Qv.2 ⟨c,h,e.trans hd.symm⟩) hn.1
   obtain⟨x,h1,h2⟩:=QgC (hs d (List.mem_cons_self ..));rw[h1,hcd];exact h2
  ·rw[if_neg hd];rcases List.mem_cons.1 h with rfl|h
   ·exact absurd e hd
   ·exact QbJ hn.2 (fun d hd=>hs d (ZD _ hd)) h e
def UC(bs:List ABk)(nd:Nat→Nat→Prop)(b r:Nat):Prop:=r∈rdE (bkA bs b).e∨∃s∈suA bs b,∃x,nd s x∧J6 (bkA bs s).chs x b=r
def QdF(bs:List ABk)(nd:Nat→Nat→Prop):Prop:=∀b r,b<bs.length→(nd b r↔lvL (UC bs nd b) (bkA bs b).sts r)
def Lv(bs:List ABk)(nd:Nat→Nat→Prop)(b k r:Nat):Prop:=lvL (UC bs nd b) ((bkA bs b).sts.drop k) r
def rn2(f:Nat→Nat)(g:Nat):ASt→ASt
 | .val _ n=>.val g n
 | .cp _ a=>.cp g (f a)
 | .op o _ a b=>.op o g (f a) (f b)
 | .inp _=>.inp g
 | .out a=>.out (f a)
theorem Qi0{t:ASt}{f:Nat→Nat}{g:Nat}{m m2:Mac}(hr:∀a∈rdS t,m2.r (f a)=m.r a)(hi:m2.inp=m.inp)(ho:m2.out=m.out):
  (stA (rn2 f g t) m2).inp=(stA t m).inp∧(stA (rn2 f g t) m2).out=(stA t m).out∧((gvS t=none∧(stA (rn2 f g t) m2).r=m2.r∧(stA t m).r=m.r)∨∃x v,gvS t=some x∧(stA (rn2 f g t) m2).r=upd m2.r g v∧(stA t m).r=upd m.r x v):=by
 cases t with
 | val t n=>exact⟨hi,ho,.inr ⟨t,n,rfl,rfl,rfl⟩⟩
 | cp t a=>
  have h:=hr a (by simp[rdS]);exact⟨hi,ho,.inr ⟨t,m.r a,rfl,by show upd m2.r g (m2.r (f a))=_;rw[h],rfl⟩⟩
 | op o t a b=>
  have h:=hr a (by simp[rdS]);have h':=hr b (by simp[rdS]);exact⟨hi,ho,.inr ⟨t,wkF o (m.r a) (m.r b),rfl,by show upd m2.r g (wkF o (m2.r (f a)) (m2.r (f b)))=_;rw[h,h'],rfl⟩⟩
 | inp t=>exact⟨by show m2.inp.tail=m.inp.tail;rw[hi],ho,.inr ⟨t,m.inp.head?.getD 0,rfl,by show upd m2.r g (m2.inp.head?.getD 0)=_;rw[hi],rfl⟩⟩
 | out a=>
  have h:=hr a (by simp[rdS]);exact⟨hi,by show m2.out++[m2.r (f a)]=m.out++[m.r a];rw[ho,h],.inl ⟨rfl,rfl,rfl⟩⟩
section
variable (bs:List ABk) (D:MkD) (co:Nat→Bool) (pls:Nat→List Nat) (nz:Bool)
noncomputable def Yl(b:Nat):Nat→List ASt→List ASt
 | _,[]=>[]
 | j,t::l=>rn2 (nmA bs D b j) (D.gi b j) t::Yl b (j+1) l
noncomputable def UO(b r:Nat):ACh:=⟨(D.ch b r).getD 0,(Jk bs b).map fun p=>(p,if co p then nmE bs D p (J6 (bkA bs b).chs r p) else 0)⟩
noncomputable def mkB(b:Nat):ABk:=⟨(pls b).map (UO bs D co b),(if b=0∧nz=true then [.val 0 0] else [])++Yl bs D b 0 (bkA bs b).sts,rnE (nmE bs D b) (bkA bs b).e⟩
noncomputable def mkA:List ABk:=bs.mapIdx fun i b=>if co i then mkB bs D co pls nz i else Qc5 b
end
theorem XU(bs D co pls nz):(mkA bs D co pls nz).length=bs.length:=by rw[mkA,List.length_mapIdx]
theorem KZ{bs:List ABk} {D co pls nz}{i:Nat}(h:i<bs.length):bkA (mkA bs D co pls nz) i=if co i then mkB bs D co pls nz i else Qc5 (bkA bs i):=by
 rw[Ya (by rw[XU];exact h),Ya h];simp[mkA]
theorem Rc(bs D co pls nz):suA (mkA bs D co pls nz)=suA bs:=by
 funext i
 unfold suA;rcases Nat.lt_or_ge i bs.length with h|h
 ·rw[KZ h];split
  ·exact Qfv _ _
  ·exact Qfv _ _
 ·rw[bkA,ZI (by rw[XU];exact h),bkA,ZI h]
theorem WH{bs D co pls nz b}:Cm (mkA bs D co pls nz) b↔Cm bs b:=by unfold Cm;rw[Rc]
def Gh(bs:List ABk)(b j:Nat):Prop:=∃t,(bkA bs b).sts[j]?=some t∧gvS t≠none
structure Uq(bs:List ABk)(D:MkD):Prop where
 g0:∀{b j},Gh bs b j→0<D.gi b j
 c0:∀{b r n},D.ch b r=some n→0<n
 gg:∀{b j b' j'},Gh bs b j→Gh bs b' j'→D.gi b j=D.gi b' j'→b=b'∧j=j'
 cc:∀{b r b' r' n},D.ch b r=some n→D.ch b' r'=some n→b=b'∧r=r'
 gc:∀{b j b' r' n},Gh bs b j→D.ch b' r'=some n→D.gi b j≠n
def NW(bs:List ABk)(D:MkD)(b:Nat)(k:Int)(n:Nat):Prop:=n=0∨(∃(b' j:Nat),Gh bs b' j∧n=D.gi b' j∧Pre bs b' j b k)∨(∃b' r',D.ch b' r'=some n∧Cm bs b'∧Pre bs b' (-1) b k)
theorem GM{bs:List ABk}{b r k j:Nat}(h:ZY (bkA bs b).sts r k=some j):j<k∧Gh bs b j∧(bkA bs b).sts[j]?.bind gvS=some r:=by
 obtain⟨h1,h2⟩:=UW h;refine⟨h1,?_,h2⟩
 cases e:(bkA bs b).sts[j]? with
 | none=>rw[e]at h2;cases h2
 | some t=>
  rw[e]at h2;exact⟨t,e,by rw[show gvS t=some r from h2];simp⟩
theorem YM{bs:List ABk}{D:MkD}(hK:Kps bs D.kp){b k r n:Nat}(h:Nam bs D b k r n)(hb:Cm bs b):NW bs D b k n:=by
 induction h with
 | @st b k r j e=>
  obtain⟨h1,h2,_⟩:=GM e;exact .inr (.inl ⟨b,j,h2,rfl,.inl ⟨rfl,by omega⟩⟩)
 | @ch b k r n _ c=>exact .inr (.inr ⟨b,r,c,hb,.inl ⟨rfl,by omega⟩⟩)
 | @up b k r a n _ _ q _ ih=>
  obtain⟨h1,h2,_⟩:=hK.one hb q;have hp:Pre bs a (bkA bs a).sts.length b k:=.inr ⟨h1,h2⟩;rcases ih h2.up with h|⟨b',j,g,e,p⟩|⟨b',r',e,g,p⟩
  ·exact .inl h
  ·exact .inr (.inl ⟨b',j,g,e,p.trans hp⟩)
  ·exact .inr (.inr ⟨b',r',e,g,p.trans hp⟩)
 | zr _ _ _=>exact .inl rfl
theorem NW.ne_gi{bs D b k n}(hU:Uq bs D)(h:NW bs D b k n){j:Nat}(hj:Gh bs b j)(hk:k≤j):n≠D.gi b j:=by
 intro e;rcases h with h|⟨b',i,g,e',p⟩|⟨b',r',e',_,_⟩
 ·have:=hU.g0 hj;omega
 ·obtain⟨rfl,rfl⟩:=hU.gg g hj (e'.symm.trans e);exact(p.le hk).irr
 ·exact hU.gc hj e' e.symm
theorem NW.ne_ch{bs D b n m r}(hU:Uq bs D)(h:NW bs D b (-1) n)(hc:D.ch b r=some m):n≠m:=by
 rintro rfl;rcases h with h|⟨b',i,g,e',p⟩|⟨b',r',e',_,p⟩
 ·have:=hU.c0 hc;omega
 ·exact hU.gc g hc e'.symm
 ·obtain⟨rfl,rfl⟩:=hU.cc e' hc;exact p.irr
section
variable {bs:List ABk} {nd mt:Nat→Nat→Prop} {D:MkD} {co:Nat→Bool} {pls:Nat→List Nat} {nz:Bool}
structure Gt(bs:List ABk)(nd:Nat→Nat→Prop)(D:MkD)(b k:Nat)(m m2:Mac):Prop where
 r:∀r,Lv bs nd b k r→m2.r (nmA bs D b k r)=m.r r
 z:m2.r 0=0
 inp:m2.inp=m.inp
 out:m2.out=m.out
theorem Yx(hK:Kps bs D.kp){b k r:Nat}(hb:Cm bs b)(h:(bkA bs b).sts[k]?.bind gvS≠some r):nmA bs D b (k+1) r=nmA bs D b k r:=by
 have e:ZY (bkA bs b).sts r (k+1)=ZY (bkA bs b).sts r k:=by rw[ZY,if_neg h]
 have h1:=Yv hK hb k r;refine Nam.eq ?_;generalize nmA bs D b k r=n at h1 ⊢
 cases h1 with
 | st q=>exact .st (e.trans q)
 | ch q c=>exact .ch (e.trans q) c
 | up q c p h=>exact .up (e.trans q) c p h
 | zr q c p=>exact .zr (e.trans q) c p
theorem QeE{b k r:Nat}(h:(bkA bs b).sts[k]?.bind gvS=some r):nmA bs D b (k+1) r=D.gi b k:=
 Nam.eq (.st (by rw[ZY,if_pos h]))
theorem NU{b k:Nat}{t:ASt}(ht:(bkA bs b).sts[k]?=some t)(r:Nat):Lv bs nd b k r↔r∈rdS t∨(gvS t≠some r∧Lv bs nd b (k+1) r):=by
 have hk:k<(bkA bs b).sts.length:=by
  rcases Nat.lt_or_ge k (bkA bs b).sts.length with h|h
  ·exact h
  ·rw[ZI h]at ht;cases ht
 have e:(bkA bs b).sts[k]=t:=by rw[Zl hk]at ht;exact Option.some.inj ht
 unfold Lv;rw[List.drop_eq_getElem_cons hk,e,lvL]
theorem US{b r:Nat}:Lv bs nd b (bkA bs b).sts.length r↔UC bs nd b r:=by
 unfold Lv;rw[List.drop_length,lvL]
theorem QhA(h:Gq bs nd mt D)(hU:Uq bs D){b k:Nat}{t:ASt}(hb:Cm bs b)(ht:(bkA bs b).sts[k]?=some t){m m2:Mac}(hm:Gt bs nd D b k m m2):Gt bs nd D b (k+1) (stA t m) (stA (rn2 (nmA bs D b k) (D.gi b k) t) m2):=by
 obtain⟨h1,h2,h3⟩:=Qi0 (t:=t) (f:=nmA bs D b k) (g:=D.gi b k) (m:=m) (m2:=m2) (fun a ha=>hm.r a ((NU ht a).2 (.inl ha))) hm.inp hm.out;have hbd:(bkA bs b).sts[k]?.bind gvS=gvS t:=by rw[ht];rfl
 rcases h3 with ⟨g0,e2,e1⟩|⟨x,v,g0,e2,e1⟩
 ·refine⟨fun r hr=>?_,by rw[e2];exact hm.z,h1,h2⟩;rw[Yx h.kp hb (by rw[hbd,g0];simp),e2,e1];exact hm.r r ((NU ht r).2 (.inr ⟨by rw[g0];simp,hr⟩))
 ·have hg:Gh bs b k:=⟨t,ht,by rw[g0];simp⟩;refine⟨fun r hr=>?_,?_,h1,h2⟩
  ·by_cases e:x=r
   ·subst e;rw[QeE (by rw[hbd,g0]),e2,e1,Vs,Vs]
   ·have hne:gvS t≠some r:=by rw[g0];intro q;cases q;exact e rfl
    rw[Yx h.kp hb (by rw[hbd];exact hne),e2,e1,Kx _ (fun q=>e q.symm)];rw[Kx _ ((YM h.kp (Yv h.kp hb k r) hb).ne_gi hU hg (by omega))];exact hm.r r ((NU ht r).2 (.inr ⟨hne,hr⟩))
  ·rw[e2,Kx _ (by have:=hU.g0 hg;omega)];exact hm.z
theorem NN(h:Gq bs nd mt D)(hU:Uq bs D){b:Nat}(hb:Cm bs b):∀(l:List ASt)(k:Nat)(m m2:Mac),(bkA bs b).sts.drop k=l→Gt bs nd D b k m m2→Gt bs nd D b (bkA bs b).sts.length (Yi l m) (Yi (Yl bs D b k l) m2)
 | [],k,m,m2,hl,hm=>by
  have hk:(bkA bs b).sts.length≤k:=List.drop_eq_nil_iff.1 hl;have e:Lv bs nd b (bkA bs b).sts.length=Lv bs nd b k:=by
   funext r;unfold Lv;rw[hl,List.drop_length]
  refine⟨fun r hr=>?_,hm.z,hm.inp,hm.out⟩;rw[e]at hr;have hn:nmA bs D b k r=nmA bs D b (bkA bs b).sts.length r:=by
   obtain⟨d,rfl⟩:=Nat.exists_eq_add_of_le hk;clear hr hm hl e hk
   induction d with
   | zero=>rfl
   | succ d ih=>
    rw[←ih,←Nat.add_assoc];exact Yx h.kp hb (by rw[List.getElem?_eq_none (by omega)];simp)
  rw[←hn];exact hm.r r hr
 | t::l,k,m,m2,hl,hm=>by
  have ht:(bkA bs b).sts[k]?=some t:=by
   have:=congrArg List.head? hl
   rwa [List.head?_drop]at this
  have hl2:(bkA bs b).sts.drop (k+1)=l:=by
   have:=congrArg List.tail hl
   rwa [List.tail_drop]at this
  rw[V6,Yl,V6];exact NN h hU hb l (k+1) _ _ hl2 (QhA h hU hb ht hm)
theorem QeH(hQ:QOk bs)(h:Gq bs nd mt D)(hN:QdF bs nd)(hU:Uq bs D)(hco:∀b,co b=true↔Cm bs b)(hpl:∀b r,r∈pls b↔D.ch b r≠none)(hpn:∀b,(pls b).Nodup){p s:Nat}(hp:Cm bs p)(he:s∈suA bs p){m m2:Mac}(hm:Gt bs nd D p (bkA bs p).sts.length m m2):
  Gt bs nd D s 0 (entA (bkA bs s) p m) (entA (mkB bs D co pls nz s) p m2):=by
 have hs:Cm bs s:=.step hp he rfl;have hsl:=hs.ltQ hQ;have hpa:p∈Jk bs s:=by
  unfold Jk;exact List.mem_filter.2 ⟨List.mem_range.2 (hp.ltQ hQ),List.contains_iff_mem.2 he⟩
 rw[entA,entA,if_pos (by omega),if_pos (by omega),Int.toNat_natCast];have hkeys:((mkB bs D co pls nz s).chs.map fun c=>(c.to,YU c.src p m2.r)).map (·.1)=(pls s).map fun r=>(D.ch s r).getD 0:=by
  show ((((pls s).map (UO bs D co s)).map fun c=>(c.to,YU c.src p m2.r)).map (·.1))=_;rw[List.map_map,List.map_map];rfl
 have hnd:(((mkB bs D co pls nz s).chs.map fun c=>(c.to,YU c.src p m2.r)).map (·.1)).Nodup:=by
  rw[hkeys];refine List.Pairwise.map _ (fun a b hab=>?_) (List.Pairwise.and_mem.1 (hpn s));obtain⟨ha,hb,hne⟩:=hab;obtain⟨x,hx⟩:=Option.ne_none_iff_exists'.1 ((hpl s a).1 ha);obtain⟨y,hy⟩:=Option.ne_none_iff_exists'.1 ((hpl s b).1 hb);rw[hx,hy];show x≠y;rintro rfl;exact hne (hU.cc hx hy).2
 have hold:∀r,nd s r→chA (bkA bs s).chs p m.r r=m.r (J6 (bkA bs s).chs r p):=fun r hr=>by
  by_cases hc:Chs bs s r
  ·obtain⟨c,hc,e⟩:=hc;have hin:=QbJ (r:=r) (p:=p) (hQ.nod s) (fun d hd=>by rw[hQ.src hd];exact hpa) hc e;have hsd:(c.src.map (·.1)).Nodup:=by rw[hQ.src hc];exact GZ _ _
   unfold chA;rw[Up (x:=r) (v:=YU c.src p m.r) (by rw[List.map_map];exact hQ.nod s) (by rw[←e];exact Qv.2 ⟨c,hc,rfl⟩),Qby hsd hin]
  ·rw[WS (fun c hcc e=>hc ⟨c,hcc,e⟩)];unfold chA;exact Ky (by
    rw[List.map_map];intro hx;obtain⟨c,hcc,e⟩:=Qv.1 hx;exact hc ⟨c,hcc,e⟩)
 have hlv:∀r,nd s r→m2.r (nmE bs D p (J6 (bkA bs s).chs r p))=m.r (J6 (bkA bs s).chs r p):=fun r hr=>hm.r _ (US.2 (.inr ⟨s,he,r,hr,rfl⟩));refine⟨fun r hr=>?_,?_,hm.inp,hm.out⟩
 ·have hr2:nd s r:=(hN s r hsl).2 (by unfold Lv at hr;rw[List.drop_zero]at hr;exact hr);show chA (mkB bs D co pls nz s).chs p m2.r (nmA bs D s 0 r)=chA (bkA bs s).chs p m.r r;rw[hold r hr2,←hlv r hr2]
  cases hc:D.ch s r with
  | some n=>
   rw[Nam.eq (.ch rfl hc)];unfold chA;have hmem:r∈pls s:=(hpl s r).2 (by rw[hc];simp);have hsr:YU (UO bs D co s r).src p m2.r=m2.r (nmE bs D p (J6 (bkA bs s).chs r p)):=by
    refine Qby ?_ ?_
    ·show (((Jk bs s).map fun q=>(q,_)).map (·.1)).Nodup;rw[List.map_map];show ((Jk bs s).map fun q=>q).Nodup;rw[List.map_id'];exact GZ _ _
    ·refine Qv.2 ⟨p,hpa,?_⟩;rw[if_pos ((hco p).2 hp)]
   rw[←hsr];exact Up hnd (Qv.2 ⟨UO bs D co s r,Qv.2 ⟨r,hmem,rfl⟩,by show ((D.ch s r).getD 0,_)=_;rw[hc];rfl⟩)
  | none=>
   have hnc:¬(mt r s∨Chs bs s r):=fun hx=>absurd hc ((h.pl hs).2 ⟨hr2,hx⟩);rw[WS (fun c hcc e=>hnc (.inr ⟨c,hcc,e⟩))];have hnm:=UK h hp he (fun hx=>hnc (.inl hx)) hc (Yv h.kp hs 0 r);rw[nmE,hnm.eq];unfold chA;refine Ky ?_;rw[hkeys];intro hx;obtain⟨x,hx1,hx2⟩:=Qv.1 hx;obtain⟨y,hy⟩:=Option.ne_none_iff_exists'.1 ((hpl s x).1 hx1);rw[hy]at hx2;have hx2:y=nmA bs D s 0 r:=hx2;have hw:=YM h.kp (Yv h.kp hs 0 r) hs;have hw2:NW bs D s (-1) (nmA bs D s 0 r):=by
    have hnam:=Yv h.kp hs 0 r;generalize nmA bs D s 0 r=n at hnam
    cases hnam with
    | st e=>cases e
    | ch _ c=>rw[hc]at c;cases c
    | @up _ _ _ a _ _ _ q hq=>
     obtain⟨h1,h2,_⟩:=h.kp.one hs q;have hp2:Pre bs a (bkA bs a).sts.length s (-1):=.inr ⟨h1,h2⟩;rcases YM h.kp hq h2.up with h|⟨b',j,g,e,p⟩|⟨b',r',e,g,p⟩
     ·exact .inl h
     ·exact .inr (.inl ⟨b',j,g,e,p.trans hp2⟩)
     ·exact .inr (.inr ⟨b',r',e,g,p.trans hp2⟩)
    | zr _ _ _=>exact .inl rfl
   exact hw2.ne_ch hU hy hx2.symm
 ·show chA (mkB bs D co pls nz s).chs p m2.r 0=0;unfold chA;rw[Ky,hm.z];rw[hkeys];intro hx;obtain⟨x,hx1,hx2⟩:=Qv.1 hx;obtain⟨y,hy⟩:=Option.ne_none_iff_exists'.1 ((hpl s x).1 hx1);rw[hy]at hx2;have:=hU.c0 hy;have hx2:y=0:=hx2;omega
theorem QiD(hQ:QOk bs)(h:Gq bs nd mt D)(hN:QdF bs nd)(hU:Uq bs D)(hco:∀b,co b=true↔Cm bs b)(hpl:∀b r,r∈pls b↔D.ch b r≠none)(hpn:∀b,(pls b).Nodup):∀(k i:Nat)(frm:Int)(m m2:Mac),Cm bs i→Ent bs (Gt bs nd D · ·.toNat) frm i m m2→plA bs k i frm m=plA (mkA bs D co pls nz) k i frm m2
 | 0,i,frm,m,m2,_,he=>by
  have:m2.out=m.out:=by
   rcases he with ⟨_,_,he⟩|⟨p,_,_,_,he⟩<;>exact he.out
  rw[plA,plA,this]
 | k+1,i,frm,m,m2,hi,he=>by
  have hin:=hi.ltQ hQ;have hb:bkA (mkA bs D co pls nz) i=mkB bs D co pls nz i:=by rw[KZ hin,if_pos ((hco i).2 hi)]
  have h1:Gt bs nd D i 0 (entA (bkA bs i) frm m) (entA (mkB bs D co pls nz i) frm m2):=by
   rcases he with ⟨rfl,rfl,he⟩|⟨p,rfl,hp,hs,he⟩
   ·rw[entA,entA,if_neg (by omega),if_neg (by omega)];exact he
   ·exact QeH hQ h hN hU hco hpl hpn hp hs he
  have h2:Gt bs nd D i 0 (entA (bkA bs i) frm m) (Yi (if i=0∧nz=true then [.val 0 0] else []) (entA (mkB bs D co pls nz i) frm m2)):=by
   split
   ·have hz:=h1.z;have e:Yi [.val 0 0] (entA (mkB bs D co pls nz i) frm m2)=entA (mkB bs D co pls nz i) frm m2:=by
     show stA (.val 0 0) _=_;unfold stA;generalize entA (mkB bs D co pls nz i) frm m2=x at hz ⊢;obtain⟨xr,xi,xo⟩:=x;have hz:xr 0=0:=hz;have:upd xr 0 0=xr:=by
      funext y
      by_cases e:y=0
      ·subst e;rw[Vs,hz]
      ·rw[Kx _ e]
     show (⟨upd xr 0 0,xi,xo⟩:Mac)=_;rw[this]
    rw[e];exact h1
   ·exact h1
  have h3:Gt bs nd D i (bkA bs i).sts.length (blA (bkA bs i) frm m) (blA (mkB bs D co pls nz i) frm m2):=by
   have:=NN h hU hi (bkA bs i).sts 0 _ _ (List.drop_zero) h2;rw[←Nq]at this;exact this
  have eop:(mkB bs D co pls nz i).e.op=(bkA bs i).e.op:=KS _ _;rw[plA,plA,hb,eop];by_cases ho:(bkA bs i).e.op=46
  ·rw[if_pos ho,if_pos ho,h3.out]
  ·rw[if_neg ho,if_neg ho];have hop:(bkA bs i).e.op=62∨(bkA bs i).e.op=63:=by
    rcases hQ.op i hin with h|h
    ·exact absurd h ho
    ·exact h
   have hnx:nxA (mkB bs D co pls nz i) (blA (mkB bs D co pls nz i) frm m2)=nxA (bkA bs i) (blA (bkA bs i) frm m):=by
    unfold nxA;rw[eop,show (mkB bs D co pls nz i).e.one=(bkA bs i).e.one from Rn _ _,show (mkB bs D co pls nz i).e.two=(bkA bs i).e.two from Rm _ _];by_cases h63:(bkA bs i).e.op=63
    ·have ha:(mkB bs D co pls nz i).e.a=nmE bs D i (bkA bs i).e.a:=by show (rnE (nmE bs D i) (bkA bs i).e).a=_;rw[rnE,if_pos h63]
     rw[ha,nmE,h3.r _ (US.2 (.inl (by rw[rdE,if_pos h63];simp)))]
    ·rw[if_neg (fun h=>h63 h.1),if_neg (fun h=>h63 h.1)]
   rw[hnx];exact QiD hQ h hN hU hco hpl hpn k _ _ _ _ (.step hi (QiB hop) rfl) (.inr ⟨i,rfl,hi,QiB hop,h3⟩)
theorem QhF(hQ:QOk bs)(h:Gq bs nd mt D)(hN:QdF bs nd)(hU:Uq bs D)(hco:∀b,co b=true↔Cm bs b)(hpl:∀b r,r∈pls b↔D.ch b r≠none)(hpn:∀b,(pls b).Nodup)(V:List Int)(f:Nat):playA bs V f=playA (mkA bs D co pls nz) V f:=
 QiD hQ h hN hU hco hpl hpn f 0 (-1) _ _ (.zero rfl) (.inl ⟨rfl,rfl,fun _ _=>rfl,rfl,rfl,rfl⟩)
end
section
variable {bs:List ABk} {nd mt:Nat→Nat→Prop} {D:MkD} {co:Nat→Bool} {pls:Nat→List Nat} {nz:Bool}
structure Kn(bs:List ABk)(nd mt:Nat→Nat→Prop)(D:MkD)(co:Nat→Bool)(pls:Nat→List Nat)(nz:Bool):Prop where
 q:QOk bs
 ok:Gq bs nd mt D
 n:QdF bs nd
 u:Uq bs D
 co:∀b,co b=true↔Cm bs b
 pl:∀b r,r∈pls b↔D.ch b r≠none
 pn:∀b,(pls b).Nodup
 nz:nz=true↔∃r,nd 0 r∧D.ch 0 r=none
def Yt(nz:Bool)(b:Nat):Nat:=if b=0∧nz=true then 1 else 0
theorem J0(nz b):(if b=0∧nz=true then [ASt.val 0 0] else []).length=Yt nz b:=by unfold Yt;split<;>rfl
theorem UL(bs D b):∀(l:List ASt)(j:Nat),(Yl bs D b j l).length=l.length
 | [],_=>rfl
 | _::l,j=>by rw[Yl,QO,QO,UL bs D b l]
theorem RA(bs D b):∀(l:List ASt)(j k:Nat),(Yl bs D b j l)[k]?=l[k]?.map fun t=>rn2 (nmA bs D b (j+k)) (D.gi b (j+k)) t
 | [],_,_=>by simp[Yl]
 | t::l,j,0=>by simp[Yl]
 | t::l,j,k+1=>by
  rw[Yl,List.getElem?_cons_succ,List.getElem?_cons_succ,RA bs D b l (j+1) k];rw[show j+1+k=j+(k+1) by omega]
theorem QeK{b k:Nat}{t:ASt}(h:(mkB bs D co pls nz b).sts[k]?=some t):(k<Yt nz b∧t=.val 0 0)∨∃j t0,k=j+Yt nz b∧(bkA bs b).sts[j]?=some t0∧t=rn2 (nmA bs D b j) (D.gi b j) t0:=by
 have h:((if b=0∧nz=true then [ASt.val 0 0] else [])++Yl bs D b 0 (bkA bs b).sts)[k]?=some t:=h;rcases Nat.lt_or_ge k (Yt nz b) with hk|hk
 ·rw[List.getElem?_append_left (by rw[J0];exact hk)]at h;refine .inl ⟨hk,?_⟩;unfold Yt at hk;split at hk
  ·rename_i e;rw[if_pos e]at h;have:k=0:=by omega
   subst this;simpa using h.symm
  ·omega
 ·rw[List.getElem?_append_right (by rw[J0];exact hk),J0,RA]at h;obtain⟨t0,h1,h2⟩:=Option.map_eq_some_iff.1 h;refine .inr ⟨k-Yt nz b,t0,by omega,h1,?_⟩;rw[←h2,Nat.zero_add]
theorem Rz{b j:Nat}{t0:ASt}(h:(bkA bs b).sts[j]?=some t0):(mkB bs D co pls nz b).sts[j+Yt nz b]?=some (rn2 (nmA bs D b j) (D.gi b j) t0):=by
 show ((if b=0∧nz=true then [ASt.val 0 0] else [])++Yl bs D b 0 (bkA bs b).sts)[j+Yt nz b]?=_;rw[List.getElem?_append_right (by rw[J0];omega),J0,RA,Nat.add_sub_cancel,h,Nat.zero_add];rfl
theorem QhE(b:Nat):(mkB bs D co pls nz b).sts.length=(bkA bs b).sts.length+Yt nz b:=by
 show ((if b=0∧nz=true then [ASt.val 0 0] else [])++Yl bs D b 0 (bkA bs b).sts).length=_;rw[Qw,J0,UL];omega
theorem Qfl(f:Nat→Nat)(g:Nat)(t:ASt):gvS (rn2 f g t)=(gvS t).map fun _=>g:=by cases t<;>rfl
theorem QaG(f:Nat→Nat)(g:Nat)(t:ASt):rdS (rn2 f g t)=(rdS t).map f:=by cases t<;>rfl
theorem JE(h:Kn bs nd mt D co pls nz){b:Nat}(hb:Cm bs b):bkA (mkA bs D co pls nz) b=mkB bs D co pls nz b:=by
 rw[KZ (hb.ltQ h.q),if_pos ((h.co b).2 hb)]
theorem QaV(h:Kn bs nd mt D co pls nz){b:Nat}(hb:¬Cm bs b):(bkA (mkA bs D co pls nz) b).chs=[]∧(bkA (mkA bs D co pls nz) b).sts=[]:=by
 rcases Nat.lt_or_ge b bs.length with h1|h1
 ·rw[KZ h1,if_neg (fun e=>hb ((h.co b).1 e))];exact⟨rfl,rfl⟩
 ·rw[bkA,ZI (by rw[XU];exact h1)];exact⟨rfl,rfl⟩
theorem QiE(h:Kn bs nd mt D co pls nz){x b:Nat}{s:Int}(hg:Gv (mkA bs D co pls nz) x b s):Cm bs b∧((s=-1∧∃r,D.ch b r=some x)∨(x=0∧b=0∧s=0∧nz=true)∨∃j,Gh bs b j∧x=D.gi b j∧s=(j+Yt nz b:Nat)):=by
 by_cases hb:Cm bs b
 ·refine⟨hb,?_⟩;rcases hg with ⟨rfl,c,hc,e⟩|⟨k,rfl,t,ht,e⟩
  ·rw[JE h hb]at hc;obtain⟨r,hr,rfl⟩:=Qv.1 hc;obtain⟨y,hy⟩:=Option.ne_none_iff_exists'.1 ((h.pl b r).1 hr);refine .inl ⟨rfl,r,?_⟩;rw[←e,hy];show some y=some ((D.ch b r).getD 0);rw[hy];rfl
  ·rw[JE h hb]at ht;rcases QeK ht with ⟨h1,rfl⟩|⟨j,t0,h1,h2,rfl⟩
   ·unfold Yt at h1;split at h1
    ·rename_i e2;refine .inr (.inl ⟨?_,e2.1,by omega,e2.2⟩);exact(Option.some.inj e).symm
    ·omega
   ·rw[Qfl]at e;refine .inr (.inr ⟨j,⟨t0,h2,?_⟩,?_,by rw[h1]⟩)
    ·intro e2;rw[e2]at e;cases e
    ·cases hx:gvS t0 with
     | none=>rw[hx]at e;cases e
     | some y=>rw[hx]at e;exact(Option.some.inj e).symm
 ·obtain⟨h1,h2⟩:=QaV h hb;rcases hg with ⟨_,c,hc,_⟩|⟨k,_,t,ht,_⟩
  ·rw[h1]at hc;cases hc
  ·rw[h2]at ht;cases ht
theorem QkA(h:Kn bs nd mt D co pls nz){b r x:Nat}(hb:Cm bs b)(hc:D.ch b r=some x):Gv (mkA bs D co pls nz) x b (-1):=by
 refine .inl ⟨rfl,UO bs D co b r,?_,?_⟩
 ·rw[JE h hb];exact List.mem_map.2 ⟨r,(h.pl b r).2 (by rw[hc];simp),rfl⟩
 ·show (D.ch b r).getD 0=x;rw[hc];rfl
theorem Qkz(h:Kn bs nd mt D co pls nz){b j:Nat}(hb:Cm bs b)(hg:Gh bs b j):Gv (mkA bs D co pls nz) (D.gi b j) b (j+Yt nz b:Nat):=by
 obtain⟨t,ht,hn⟩:=hg;refine .inr ⟨_,rfl,_,by rw[JE h hb];exact Rz ht,?_⟩;rw[Qfl]
 cases hx:gvS t with
 | none=>exact absurd hx hn
 | some y=>rfl
theorem QkB(h:Kn bs nd mt D co pls nz)(hn:nz=true):Gv (mkA bs D co pls nz) 0 0 0:=by
 refine .inr ⟨0,rfl,.val 0 0,?_,rfl⟩;rw[JE h (.zero rfl)];show ((if 0=0∧nz=true then [ASt.val 0 0] else [])++_)[0]?=_;rw[if_pos ⟨rfl,hn⟩];rfl
theorem RD{b r:Nat}:∀(k:Nat),k≤(bkA bs b).sts.length→Lv bs nd b k r→(∀j,j<k→(bkA bs b).sts[j]?.bind gvS≠some r)→Lv bs nd b 0 r
 | 0,_,h,_=>h
 | k+1,hk,h,hn=>by
  have ht:(bkA bs b).sts[k]?=some (bkA bs b).sts[k]:=Zl (by omega);refine RD k (by omega) ((NU ht r).2 (.inr ⟨?_,h⟩)) fun j hj=>hn j (by omega);have:=hn k (by omega);rw[ht]at this;exact this
theorem QiF(h:Kn bs nd mt D co pls nz){b r:Nat}(hb:Cm bs b)(hl:Lv bs nd b 0 r):nd b r:=(h.n b r (hb.ltQ h.q)).2 (by unfold Lv at hl;rw[List.drop_zero]at hl;exact hl)
theorem QbQ(h:Kn bs nd mt D co pls nz){s r:Nat}(hs:Cm bs s)(hr:nd s r)(hc:D.ch s r=none):¬mt r s∧∀p,J6 (bkA bs s).chs r p=r:=by
 have hnc:¬(mt r s∨Chs bs s r):=fun hx=>absurd hc ((h.ok.pl hs).2 ⟨hr,hx⟩);exact⟨fun hx=>hnc (.inl hx),fun p=>WS (fun c hcc e=>hnc (.inr ⟨c,hcc,e⟩))⟩
theorem QhC(h:Kn bs nd mt D co pls nz){b:Nat}(hb:Cm bs b):∀{k r},k≤(bkA bs b).sts.length→Lv bs nd b k r→nmA bs D b k r=0→nz=true:=by
 have core:∀{b:Nat},Cm bs b→∀{k r},k≤(bkA bs b).sts.length→Lv bs nd b k r→nmA bs D b k r=0→nd b r∧D.ch b r=none∧Nam bs D b 0 r 0:=by
  intro b hb k r hk hl e;have hn:=Yv h.ok.kp hb k r;rw[e]at hn;generalize hz:(0:Nat)=z at hn
  cases hn with
  | st q=>
   have:=h.u.g0 (GM q).2.1;omega
  | ch q c=>have:=h.u.c0 c;omega
  | up q c p hq=>
   subst hz;exact⟨QiF h hb (RD k hk hl (Vm q)),c,.up rfl c p hq⟩
  | zr q c p=>exact⟨QiF h hb (RD k hk hl (Vm q)),c,.zr rfl c p⟩
 have hb':=hb;unfold Cm at hb
 induction hb with
 | zero _=>
  intro k r hk hl e;obtain⟨h1,h2,_⟩:=core hb' hk hl e;exact h.nz.2 ⟨r,h1,h2⟩
 | @step p s hp he _ ih=>
  intro k r hk hl e;obtain⟨h1,h2,h3⟩:=core hb' hk hl e;obtain⟨h4,h5⟩:=QbQ h hb' h1 h2;exact ih hp (Qi _) (US.2 (.inr ⟨s,he,r,h1,h5 p⟩)) (UK h.ok hp he h4 h2 h3).eq
theorem QaU(h:Kn bs nd mt D co pls nz){b k r:Nat}(hb:Cm bs b)(hk:k≤(bkA bs b).sts.length)(hl:Lv bs nd b k r):∃b' s',Gv (mkA bs D co pls nz) (nmA bs D b k r) b' s'∧Pre (mkA bs D co pls nz) b' s' b (k+Yt nz b:Nat):=by
 unfold Pre;rw[Rc];have hw:=YM h.ok.kp (Yv h.ok.kp hb k r) hb;by_cases hz:nmA bs D b k r=0
 ·have hn:=QhC h hb hk hl hz;refine⟨0,0,by rw[hz];exact QkB h hn,?_⟩;by_cases e:0=b
  ·refine .inl ⟨e,?_⟩;unfold Yt;rw[if_pos ⟨e.symm,hn⟩];omega
  ·exact .inr ⟨e,Ovr.zero hb⟩
 ·have hup:∀{b':Nat} {s:Int},Pre bs b' s b k→Cm bs b':=fun {b' s} hp=>by
   rcases hp with ⟨rfl,_⟩|⟨_,hp⟩
   ·exact hb
   ·exact hp.up
  rcases hw with hw|⟨b',j,g,e,p⟩|⟨b',r',e,g,p⟩
  ·exact absurd hw hz
  ·refine⟨b',_,by rw[e];exact Qkz h (hup p) g,?_⟩;rcases p with ⟨rfl,p⟩|p
   ·exact .inl ⟨rfl,by omega⟩
   ·exact .inr p
  ·refine⟨b',_,QkA h g e,?_⟩;rcases p with ⟨rfl,p⟩|p
   ·exact .inl ⟨rfl,by omega⟩
   ·exact .inr p
theorem Qjx(h:Kn bs nd mt D co pls nz):Sgl (mkA bs D co pls nz):=by
 refine⟨fun {r b b' s s'} h1 h2=>?_,fun b=>?_,fun {r b k} hr hb=>?_⟩
 ·obtain⟨c1,q1⟩:=QiE h h1;obtain⟨c2,q2⟩:=QiE h h2;rcases q1 with ⟨rfl,x,e1⟩|⟨e1,rfl,rfl,_⟩|⟨j,g1,e1,rfl⟩
  ·rcases q2 with ⟨rfl,y,e2⟩|⟨e2,_⟩|⟨j,g2,e2,_⟩
   ·exact⟨(h.u.cc e1 e2).1,rfl⟩
   ·have:=h.u.c0 e1;omega
   ·exact absurd e2.symm (h.u.gc g2 e1)
  ·rcases q2 with ⟨rfl,y,e2⟩|⟨e2,rfl,rfl,_⟩|⟨j,g2,e2,_⟩
   ·have:=h.u.c0 e2;omega
   ·exact⟨rfl,rfl⟩
   ·have:=h.u.g0 g2;omega
  ·rcases q2 with ⟨rfl,y,e2⟩|⟨e2,_⟩|⟨j2,g2,e2,rfl⟩
   ·exact absurd e1.symm (h.u.gc g1 e2)
   ·have:=h.u.g0 g1;omega
   ·obtain⟨rfl,rfl⟩:=h.u.gg g1 g2 (e1.symm.trans e2);exact⟨rfl,rfl⟩
 ·by_cases hb:Cm bs b
  ·rw[JE h hb];show (((pls b).map (UO bs D co b)).map (·.to)).Nodup;rw[List.map_map];refine List.Pairwise.map _ (fun x y hxy=>?_) (List.Pairwise.and_mem.1 (h.pn b));obtain⟨hx,hy,hne⟩:=hxy;obtain⟨x',hx'⟩:=Option.ne_none_iff_exists'.1 ((h.pl b x).1 hx);obtain⟨y',hy'⟩:=Option.ne_none_iff_exists'.1 ((h.pl b y).1 hy);show (D.ch b x).getD 0≠(D.ch b y).getD 0;rw[hx',hy'];show x'≠y';rintro rfl;exact hne (h.u.cc hx' hy').2
  ·rw[(QaV h hb).1];exact List.Pairwise.nil
 ·have hb:=WH.1 hb;rcases hr with ⟨t,ht,hr⟩|⟨rfl,hr⟩
  ·rw[JE h hb]at ht;rcases QeK ht with ⟨_,rfl⟩|⟨j,t0,rfl,h2,rfl⟩
   ·cases hr
   ·rw[QaG]at hr;obtain⟨a,ha,rfl⟩:=Qv.1 hr;have hj:j<(bkA bs b).sts.length:=by
     rcases Nat.lt_or_ge j (bkA bs b).sts.length with q|q
     ·exact q
     ·rw[ZI q]at h2;cases h2
    exact QaU h hb (by omega) ((NU h2 a).2 (.inl ha))
  ·rw[JE h hb,QhE];rcases hr with hr|⟨b2,c,hc,hr⟩
   ·rw[JE h hb]at hr;have hr:r∈rdE (rnE (nmE bs D b) (bkA bs b).e):=hr;unfold rdE at hr;rw[KS]at hr;split at hr
    ·rename_i h63;rw[QF]at hr;rw[hr,rnE,if_pos h63];exact QaU h hb (Nat.le_refl _) (US.2 (.inl (by rw[rdE,if_pos h63];simp)))
    ·cases hr
   ·by_cases hb2:Cm bs b2
    ·rw[JE h hb2]at hc;obtain⟨x,hx,rfl⟩:=Qv.1 hc;obtain⟨p,hp,e⟩:=Qv.1 hr;obtain⟨rfl,e'⟩:=Prod.mk.inj e;rw[if_pos ((h.co p).2 hb)]at e';rw[←e'];have hsu:b2∈suA bs p:=by
      unfold Jk at hp;exact List.contains_iff_mem.1 (List.mem_filter.1 hp).2
     have hnd:=((h.ok.pl hb2).1 ((h.pl b2 x).1 hx)).1;exact QaU h hb (Qi _) (US.2 (.inr ⟨b2,hsu,x,hnd,rfl⟩))
    ·rw[(QaV h hb2).1]at hc;cases hc
inductive Wm(bs:List ABk):Nat→Prop
 | st {b r:Nat} {t:ASt}:Cm bs b→t∈(bkA bs b).sts→r∈rdS t→Wm bs r
 | fin {b r:Nat}:Cm bs b→r∈rdE (bkA bs b).e→Wm bs r
 | ch {b:Nat} {c:ACh} {p:Nat×Nat}:Cm bs b→c∈(bkA bs b).chs→Wm bs c.to→p∈c.src→Cm bs p.1→Wm bs p.2
def ndK(bs:List ABk):Nat→Nat→Nat→Prop
 | 0,_,_=>False
 | n+1,b,r=>b<bs.length∧lvL (UC bs (ndK bs n) b) (bkA bs b).sts r
theorem UT{P Q:Nat→Prop}(h:∀r,P r→Q r):∀{l r},lvL P l r→lvL Q l r
 | [],_,k=>h _ k
 | _::_,_,k=>by
  rcases k with k|⟨k1,k2⟩
  ·exact .inl k
  ·exact .inr ⟨k1,UT h k2⟩
theorem Qc0{P Q:Nat→Nat→Prop}(h:∀b r,P b r→Q b r){b r:Nat}(k:UC bs P b r):UC bs Q b r:=by
 rcases k with k|⟨s,hs,x,hx,e⟩
 ·exact .inl k
 ·exact .inr ⟨s,hs,x,h _ _ hx,e⟩
theorem QbP(hN:QdF bs nd):∀(n b r:Nat),ndK bs n b r→nd b r
 | 0,_,_,h=>h.elim
 | n+1,b,r,h=>(hN b r h.1).2 (UT (fun _ k=>Qc0 (QbP hN n) k) h.2)
theorem Qki(h:Kn bs nd mt D co pls nz):∀(n:Nat){b r:Nat}(l:List ASt)(k:Nat),Cm bs b→(bkA bs b).sts.drop k=l→k≤(bkA bs b).sts.length→lvL (UC bs (ndK bs n) b) l r→Wm (mkA bs D co pls nz) (nmA bs D b k r):=by
 intro n
 induction n with
 | zero=>
  intro b r l
  induction l with
  | nil=>
   intro k hb hl hk hv;have hk2:k=(bkA bs b).sts.length:=Nat.le_antisymm hk (List.drop_eq_nil_iff.1 hl);subst hk2;rcases hv with hv|⟨s,_,x,hx,_⟩
   ·refine .fin (WH.2 hb) ?_;rw[JE h hb];show _∈rdE (rnE (nmE bs D b) (bkA bs b).e);unfold rdE at hv ⊢;rw[KS];split at hv
    ·rename_i h63;rw[if_pos h63,QF.1 hv,rnE,if_pos h63];exact QF.2 rfl
    ·cases hv
   ·exact hx.elim
  | cons t l ih=>
   intro k hb hl hk hv;have ht:(bkA bs b).sts[k]?=some t:=by
    have:=congrArg List.head? hl
    rwa [List.head?_drop]at this
   have hl2:(bkA bs b).sts.drop (k+1)=l:=by
    have:=congrArg List.tail hl
    rwa [List.tail_drop]at this
   have hkl:k<(bkA bs b).sts.length:=by
    rcases Nat.lt_or_ge k (bkA bs b).sts.length with q|q
    ·exact q
    ·rw[ZI q]at ht;cases ht
   rcases hv with hv|⟨h1,h2⟩
   ·refine .st (WH.2 hb) (t:=rn2 (nmA bs D b k) (D.gi b k) t) ?_ ?_
    ·rw[JE h hb];exact List.mem_of_getElem? (Rz ht)
    ·rw[QaG];exact Qv.2 ⟨r,hv,rfl⟩
   ·rw[←Yx h.ok.kp hb (by rw[ht];exact h1)];exact ih (k+1) hb hl2 hkl h2
 | succ n ihn=>
  intro b r l
  induction l with
  | nil=>
   intro k hb hl hk hv;have hk2:k=(bkA bs b).sts.length:=Nat.le_antisymm hk (List.drop_eq_nil_iff.1 hl);subst hk2;rcases hv with hv|⟨s,hs,x,hx,e⟩
   ·refine .fin (WH.2 hb) ?_;rw[JE h hb];show _∈rdE (rnE (nmE bs D b) (bkA bs b).e);unfold rdE at hv ⊢;rw[KS];split at hv
    ·rename_i h63;rw[if_pos h63,QF.1 hv,rnE,if_pos h63];exact QF.2 rfl
    ·cases hv
   ·have hcs:Cm bs s:=.step hb hs rfl;have hnd:=QbP h.n _ _ _ hx;have hw:=ihn (bkA bs s).sts 0 hcs List.drop_zero (Nat.zero_le _) hx.2
    cases hc:D.ch s x with
    | some m=>
     rw[Nam.eq (.ch rfl hc)]at hw;have hbn:=hb.ltQ h.q;refine Wm.ch (b:=s) (c:=UO bs D co s x) (p:=(b,nmA bs D b (bkA bs b).sts.length r)) (WH.2 hcs) ?_ ?_ ?_ (WH.2 hb)
     ·rw[JE h hcs];exact List.mem_map.2 ⟨x,(h.pl s x).2 (by rw[hc];simp),rfl⟩
     ·show Wm _ ((D.ch s x).getD 0);rw[hc];exact hw
     ·refine Qv.2 ⟨b,?_,?_⟩
      ·unfold Jk;exact List.mem_filter.2 ⟨List.mem_range.2 hbn,List.contains_iff_mem.2 hs⟩
      ·rw[if_pos ((h.co b).2 hb),e];rfl
    | none=>
     obtain⟨h4,h5⟩:=QbQ h hcs hnd hc;rw[h5]at e;subst e;rw[(UK h.ok hb hs h4 hc (Yv h.ok.kp hcs 0 x)).eq];exact hw
  | cons t l ih=>
   intro k hb hl hk hv;have ht:(bkA bs b).sts[k]?=some t:=by
    have:=congrArg List.head? hl
    rwa [List.head?_drop]at this
   have hl2:(bkA bs b).sts.drop (k+1)=l:=by
    have:=congrArg List.tail hl
    rwa [List.tail_drop]at this
   have hkl:k<(bkA bs b).sts.length:=by
    rcases Nat.lt_or_ge k (bkA bs b).sts.length with q|q
    ·exact q
    ·rw[ZI q]at ht;cases ht
   rcases hv with hv|⟨h1,h2⟩
   ·refine .st (WH.2 hb) (t:=rn2 (nmA bs D b k) (D.gi b k) t) ?_ ?_
    ·rw[JE h hb];exact List.mem_of_getElem? (Rz ht)
    ·rw[QaG];exact Qv.2 ⟨r,hv,rfl⟩
   ·rw[←Yx h.ok.kp hb (by rw[ht];exact h1)];exact ih (k+1) hb hl2 hkl h2
theorem Qdb(h:Kn bs nd mt D co pls nz){n:Nat}(hn:∀b r,b<bs.length→nd b r→ndK bs n b r){b:Nat}{c:ACh}(hb:Cm (mkA bs D co pls nz) b)(hc:c∈(bkA (mkA bs D co pls nz) b).chs):Wm (mkA bs D co pls nz) c.to:=by
 have hb:=WH.1 hb;rw[JE h hb]at hc;obtain⟨x,hx,rfl⟩:=Qv.1 hc;obtain⟨m,hm⟩:=Option.ne_none_iff_exists'.1 ((h.pl b x).1 hx);have hnd:=((h.ok.pl hb).1 ((h.pl b x).1 hx)).1;have hk:=hn b x (hb.ltQ h.q) hnd
 cases n with
 | zero=>exact hk.elim
 | succ n=>
  have:=Qki h n (bkA bs b).sts 0 hb List.drop_zero (Nat.zero_le _) hk.2;rw[Nam.eq (.ch rfl hm)]at this;show Wm _ ((D.ch b x).getD 0);rw[hm];exact this
end
end Go.Proofs.YtgfhfkgdmidhpaaGreatDoor
