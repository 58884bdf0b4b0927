import Derived.Test.YtgfhfkgdmidhpaaGreatDoorC26
namespace Go.Proofs.YtgfhfkgdmidhpaaGreatDoor
open Go.RowKit Go.Maps
set_option maxRecDepth 100000
set_option maxHeartbeats 8000000
def Ky(v:Value):Option (DataW Value×List MemPlace):=match v with
 | .slice p n c=>some (.held (.slice p n c),[])
 | _=>none
theorem RC{v:Value}{z:DataW Value×List MemPlace}(h:Ky v=some z):(∃p n c,v=.slice p n c)∧z=(.held v,[]):=by
 unfold Ky at h;split at h
 ·cases h;exact⟨⟨_,_,_,rfl⟩,rfl⟩
 ·cases h
theorem Qe8(w:World):(zeroValue 196).run Tryz.prog w=.ok (.slice none 0 0) w:=by kernel_rfl
def J9(w:World)(b k base:Nat)(L:Nat→List (Nat×Nat)):Prop:=
 ∃(D:DataW Value)(F:Nat→Value),w.ownsMap Tryz.prog 78 Ky b k D∧(∀r:Nat,D.atKey (.int .i64 r) (.held (.slice none 0 0))=.held (F r))∧∀r,w.ownsRow base 132 2 (F r) (L r).length (pcs (L r))
theorem YQ{w w':World}{b n:Nat}{D:DataW Value}(h:w.ownsMap Tryz.prog 78 Ky b n D)(e:w'.heap[b]?=w.heap[b]?):w'.ownsMap Tryz.prog 78 Ky b n D:=by
 obtain⟨es,clock,hb,r⟩:=h;exact⟨es,clock,by rw[e];exact hb,r⟩
theorem J9.lt{w b k base L}(h:J9 w b k base L):b<w.heap.size:=by
 obtain⟨D,F,m,_⟩:=h;exact m.lt
theorem J9.map{w b k base L}(h:J9 w b k base L):∃es clock,w.heap[b]?=some (.map es clock):=by
 obtain⟨D,F,⟨es,clock,hb,_⟩,_⟩:=h;exact⟨es,clock,hb⟩
theorem J9.keepsT{w w' b k base L}{T:TypeId→Prop}(h:J9 w b k base L)(K:Qs base T w w')(hT:T 132)(e:w'.heap[b]?=w.heap[b]?):J9 w' b k base L:=by
 obtain⟨D,F,m,a,r⟩:=h;exact⟨D,F,YQ m e,a,fun x=>Qd (r x) K hT⟩
theorem J9.keeps{w w' b k base L}(h:J9 w b k base L)(F:Below w.heap.size w w'):J9 w' b k base L:=
 h.keepsT (Qi F) trivial (F.block _ h.lt)
theorem J9.look{w b k base L}(h:J9 w b k base L){r:Nat}(hr:r<10000):∃v,(Instr.lookup 266 (.map (some b)) (.int .i64 r) false).run Tryz.prog w=.ok v w∧w.ownsRow base 132 2 v (L r).length (pcs (L r)):=by
 obtain⟨D,F,m,a,o⟩:=h;obtain⟨v,ps,h1,h2⟩:=m.lookup Qge Tryz.underlying266 (Qe8 w) (zd:=.held (.slice none 0 0)) (zp:=[]) rfl (keyOf_int_mk Tryz.underlying78 (Qe9 hr));refine⟨v,h1,?_⟩;obtain⟨_,e⟩:=RC h2;rw[a r]at e;have:F r=v:=by
  have e1:=congrArg Prod.fst e;simpa using e1
 rw[←this];exact o r
def Qcb(L:Nat→List (Nat×Nat))(r:Nat)(l:List (Nat×Nat)):Nat→List (Nat×Nat):=fun x=>if x=r then l else L x
def Jy(co:Nat→Bool)(c:QH)(k:Nat):List (Nat×Nat):=(((c.gs.zip c.rs).take k).filter fun p=>co p.1.1).map (·.2)
theorem Qck{co:Nat→Bool}{c:QH}{k:Nat}(h1:k<c.gs.length)(h2:k<c.rs.length):Jy co c (k+1)=Jy co c k++(if co c.gs[k].1 then [c.rs[k]] else []):=by
 unfold Jy;have h:k<(c.gs.zip c.rs).length:=by rw[List.length_zip];omega
 rw[List.take_succ_eq_append_getElem h,List.filter_append,List.map_append,List.getElem_zip];cases hc:co c.gs[k].1<;>simp[hc]
theorem NA(co:Nat→Bool)(c:QH)(k:Nat):(Jy co c k).length≤k:=by
 unfold Jy;rw[List.length_map];refine Nat.le_trans (List.length_filter_le _ _) ?_;rw[List.length_take];omega
theorem Qgy(bs:List Ql)(base B B2:Nat)(v va vu vr:Value)(c:QH)(w:World)(h:Grd w bs base B v va vu)(hc:ChR w B2 c vr)(hl:Hid (Ga 5000 bs.length c))(hn:bs.length≤1000):
  Calls Tryz.prog 155 #[.agg #[v,va,vu,v],.agg #[.int .i64 c.to.1,.int .i64 c.to.2,vr]] w fun x w'=>∃v',x=.returned v'∧Hid (w'.ownsRow w.heap.size 132 2 v' (Jy (coF bs) c c.gs.length).length (pcs (Jy (coF bs) c c.gs.length))∧Below w.heap.size w w'):=by
 obtain⟨⟨p,cp,rfl⟩,⟨pa,ca,rfl⟩,q,d,rfl⟩:=h.form;obtain⟨pr,cr,rfl⟩:=Qb hc.row;have H:=Qc (And.intro h hc);clear h hc;go_enter Tryz.func155,Tryz.ntmps155;go_wp2_with fail;obtain⟨W,hW⟩:∃W,W=(w.alloc (.cells #[.slice p bs.length cp,.slice pa (Qx bs).length ca,.slice q bs.length d,.slice p bs.length cp] 87)).alloc (.cells #[.int .i64 c.to.1,.int .i64 c.to.2,.slice pr c.gs.length cr] 140):=⟨_,rfl⟩;rw[←hW];obtain⟨g0,_,hz,f2⟩:=two w (.cells #[.slice p bs.length cp,.slice pa (Qx bs).length ca,.slice q bs.length d,.slice p bs.length cp] 87) (.cells #[.int .i64 c.to.1,.int .i64 c.to.2,.slice pr c.gs.length cr] 140);rw[←hW]at g0 f2;have HLEN:=Qc H.o.2.len;have hfew:=hl.out.few;have B0:Hid (W.heap[w.heap.size]?=some (.cells #[.slice p bs.length cp,.slice pa (Qx bs).length ca,.slice q bs.length d,.slice p bs.length cp] 87 (0,0))∧Below w.heap.size w W):=⟨g0,f2⟩;clear hW g0 hz f2
 go_loopw [5,11] (fun vv ii wr=>∃k:Nat,k≤c.gs.length∧ii=.int .i64 k∧wr.ownsRow w.heap.size 132 2 vv (Jy (coF bs) c k).length (pcs (Jy (coF bs) c k))∧Hid (wr.heap[w.heap.size]?=some (.cells #[.slice p bs.length cp,.slice pa (Qx bs).length ca,.slice q bs.length d,.slice p bs.length cp] 87 (0,0))∧Below w.heap.size w wr)) (fun _ ii _=>c.gs.length-(intOf ii).toNat)
 case atStart=>exact⟨0,by omega,rfl,World.ownsRow_nil _ _ _ _,B0⟩
 case round=>
  clear B0;obtain⟨k,hk,rfl,OV,HF⟩:=hrel;rename World=>wB;obtain⟨X,hX⟩:∃X,X=Jy (coF bs) c k:=⟨_,rfl⟩;have hXl:X.length≤k:=by rw[hX];exact NA _ _ _
  rw[←hX]at OV;have HX:=Qc hX;obtain⟨pX,cX,rfl⟩:=Qb OV;have HOV:=Qc OV;have hzB:=HF.o.2.size;have hgB:=lt_of_block HF.o.1;clear OV hX;by_cases hlt:k<c.gs.length
  ·have hqr:k<c.rs.length:=by have:=HLEN.o;omega
   have OU:=Qd H.o.2.row (Qi HF.o.2) trivial;obtain⟨gu,rfl,_,_⟩:=Qh OU (by omega);have f0:=Qe OU (QF HLEN.o hlt).1;have f1:=Qe OU (QF HLEN.o hlt).2.1;have f2:=Qe OU (QF HLEN.o hlt).2.2.1;have f3:=Qe OU (QF HLEN.o hlt).2.2.2;have HNX:Hid (Jy (coF bs) c (k+1)=X++(if coF bs c.gs[k].1 then [c.rs[k]] else [])):=by show _=_;rw[Qck hlt hqr,HX.o]
   have hgg:=hl.out.gs _ (List.getElem_mem hlt);generalize c.rs[k]=rr at *;generalize c.gs[k]=gg at *;have e0:=Qa HF.o.1 0;have e1:=Qa HF.o.1 1;have e2:=Qa HF.o.1 2;simp at e0 e1 e2;have F5:=(Below.refl wB.heap.size wB).alloc (Nat.le_refl _) (.cells #[.int .i64 gg.1,.int .i64 gg.2,.int .i64 rr.1,.int .i64 rr.2] 147);have H5:Hid ((wB.alloc (.cells #[.int .i64 gg.1,.int .i64 gg.2,.int .i64 rr.1,.int .i64 rr.2] 147)).ownsRow w.heap.size 132 2 (.slice pX X.length cX) X.length (pcs X)∧(wB.alloc (.cells #[.int .i64 gg.1,.int .i64 gg.2,.int .i64 rr.1,.int .i64 rr.2] 147)).heap[w.heap.size]?=some (.cells #[.slice p bs.length cp,.slice pa (Qx bs).length ca,.slice q bs.length d,.slice p bs.length cp] 87 (0,0))∧Below w.heap.size w (wB.alloc (.cells #[.int .i64 gg.1,.int .i64 gg.2,.int .i64 rr.1,.int .i64 rr.2] 147))∧(wB.alloc (.cells #[.int .i64 gg.1,.int .i64 gg.2,.int .i64 rr.1,.int .i64 rr.2] 147)).heap[wB.heap.size]?=some (.cells #[.int .i64 gg.1,.int .i64 gg.2,.int .i64 rr.1,.int .i64 rr.2] 147 (0,0))):=⟨HOV.o.alloc _,by rw[F5.block _ hgB];exact HF.o.1,HF.o.2.trans (F5.mono hzB),heap_alloc_last _ _⟩;clear OU F5 HF HOV;go_wp2_with fail;clear f0 f1 f2 f3 e0 e1 e2;generalize wB.alloc (.cells #[.int .i64 gg.1,.int .i64 gg.2,.int .i64 rr.1,.int .i64 rr.2] 147)=W2 at *;refine((H.o.1.keeps H5.o.2.2.1).reach hgg hn).mono ?_;rintro e w3 ⟨rfl,f3⟩;have H3:Hid (w3.ownsRow w.heap.size 132 2 (.slice pX X.length cX) X.length (pcs X)∧w3.heap[w.heap.size]?=some (.cells #[.slice p bs.length cp,.slice pa (Qx bs).length ca,.slice q bs.length d,.slice p bs.length cp] 87 (0,0))∧Below w.heap.size w w3∧w3.heap[wB.heap.size]?=some (.cells #[.int .i64 gg.1,.int .i64 gg.2,.int .i64 rr.1,.int .i64 rr.2] 147 (0,0))):=⟨Qd H5.o.1 (Qi f3) trivial,by rw[f3.block _ (lt_of_block H5.o.2.1)];exact H5.o.2.1,H5.o.2.2.1.trans (f3.mono H5.o.2.2.1.size),by rw[f3.block _ (lt_of_block H5.o.2.2.2)];exact H5.o.2.2.2⟩;clear H5 f3;obtain⟨kk,hkk⟩:∃kk,kk=coF bs gg.1:=⟨_,rfl⟩;rw[←hkk]at HNX ⊢;clear hkk
   cases kk with
   | true=>
    have HNY:Hid (Jy (coF bs) c (k+1)=X++[rr]):=HNX.o;have k2:=Qa H3.o.2.2.2 2;have k3:=Qa H3.o.2.2.2 3;simp at k2 k3;have hz2:=H3.o.2.2.1.size;go_wp2_with (at_builtin;refine Qv ?_);refine Qc ?_;clear k2 k3 HNX;have gB:=heap_alloc_last w3 (.cells #[.int .i64 rr.1,.int .i64 rr.2] 132);have OB:=H3.o.1.alloc (.cells #[.int .i64 rr.1,.int .i64 rr.2] 132);refine KU Tryz.underlying196 Tryz.info132 rfl (by decide) (by decide) rfl _ _ rfl rfl OB gB rfl rfl (List.all_eq_true.1 rfl) (by omega) (by simp;omega) ?_;intro v8 w8 oS gS nS;obtain⟨v8p,v8c,rfl⟩:=Qb oS;have C8:=ZB gS;have H8:Hid (w8.ownsRow w.heap.size 132 2 (.slice v8p (X.length+1) v8c) (Jy (coF bs) c (k+1)).length (pcs (Jy (coF bs) c (k+1)))∧w8.heap[w.heap.size]?=some (.cells #[.slice p bs.length cp,.slice pa (Qx bs).length ca,.slice q bs.length d,.slice p bs.length cp] 87 (0,0))∧Below w.heap.size w w8):=by
     refine⟨by rw[HNY.o,J3,List.length_append];exact oS,?_,H3.o.2.2.1.trans (C8.toBelow hz2 (fun j hj=>(H3.o.1.lt j hj.symm).1))⟩;rw[C8.block _ (lt_of_block H3.o.2.1) (fun e2=>Qw H3.o.1 H3.o.2.1 (by decide) e2.symm)];exact H3.o.2.1
    clear oS gS nS gB OB C8 H3;go_wp2_with fail;go_roundw
    case rel=>exact⟨k+1,by omega,by go_num,H8.o.1,H8.o.2⟩
    case measure=>simp[intOf];omega
   | false=>
    have HNY:Hid (Jy (coF bs) c (k+1)=X):=by show _=_;have:=HNX.o;simpa using this
    clear HNX;go_wp2_with fail;go_roundw
    case rel=>exact⟨k+1,by omega,by go_num,by rw[HNY.o];exact H3.o.1,H3.o.2.1,H3.o.2.2.1⟩
    case measure=>simp[intOf];omega
  ·have hke:k=c.gs.length:=by omega
   have HE:Hid (X=Jy (coF bs) c c.gs.length):=by rw[←hke];exact HX
   clear hke;go_wp2_with fail;go_ret;exact⟨_,rfl,by rw[←HE.o];exact HOV.o,HF.o.2⟩
structure Wf(pw base:Nat)(w w':World):Prop where
 os:w'.os=w.os
 tape:w'.tape=w.tape
 output:w'.output=w.output
 size:w.heap.size≤w'.heap.size
 block:∀k,k<w.heap.size→k≠pw→(k<base∨¬∃cur,w.heap[k]?=some (.cells cur 78 (0,0)))→w'.heap[k]?=w.heap[k]?
theorem Wf.refl(pw base:Nat)(w:World):Wf pw base w w:=⟨rfl,rfl,rfl,Nat.le_refl _,fun _ _ _ _=>rfl⟩
theorem Wf.trans{pw base w w' w''}(h:Wf pw base w w')(k:Wf pw base w' w''):Wf pw base w w'':=
 ⟨k.os.trans h.os,k.tape.trans h.tape,k.output.trans h.output,Nat.le_trans h.size k.size,fun i hi hp hc=>by
  have e:=h.block i hi hp hc;rw[k.block i (Nat.lt_of_lt_of_le hi h.size) hp (hc.imp id fun n=>by rw[e];exact n),e]⟩
theorem Wf.below{pw base w w'}(F:Below w.heap.size w w'):Wf pw base w w':=⟨F.os,F.tape,F.output,F.size,fun k hk _ _=>F.block k hk⟩
theorem Wf.keeps{pw base b':Nat}{w w':World}{T:TypeId→Prop}{cs:Array Value}(h:Wf pw base w w')(hp:w.heap[pw]?=some (.cells cs 268 (0,0)))(h1:¬T 78)(h2:¬T 268):Qs b' T w w':=fun k c e _ ht hh=>by
 rw[h.block k (lt_of_block hh) (fun e2=>by subst e2;rw[hp]at hh;injection hh with hh;injection hh with _ h3;subst h3;exact h2 ht) (.inr fun⟨cur,hc⟩=>by rw[hc]at hh;injection hh with hh;injection hh with _ h3;subst h3;exact h1 ht)];exact hh
theorem Wf.to{pw base c:Nat}{w w':World}(h:Wf pw base w w')(h1:c≤pw)(h2:c≤base)(h3:c≤w.heap.size):Below c w w':=⟨h.os,h.tape,h.output,h.size,fun k hk=>h.block k (by omega) (by omega) (.inl (by omega))⟩
theorem Wf.of{pw base:Nat}{v v':Value}{w w':World}{n:Nat}{xs:List Value}(h:Ad pw v v' w w')(o:w.ownsRow base 78 1 v n xs):Wf pw base w w':=
 ⟨h.os,h.tape,h.output,h.size,fun k hk hp hc=>h.block k hk hp fun e=>by
  rcases hc with hc|hc
  ·have:=(o.lt k e.symm).1;omega
  ·rcases o.2 with ⟨rfl,_⟩|⟨g,c,cur,rfl,_,hg,_⟩
   ·cases e
   ·exact hc ⟨cur,by cases e;exact hg⟩⟩
structure WtI(pw b k base:Nat)(L:Nat→List (Nat×Nat))(S:List Nat)(vs:Value)(w:World):Prop where
 p:w.heap[pw]?=some (.cells #[vs,.map (some b)] 268 (0,0))
 s:w.ownsRow base 78 1 vs S.length (Qg S)
 o:S.Pairwise (· < ·)
 l:∀x∈S,x<5000
 f:J9 w b k base L
 z:base≤w.heap.size
theorem WtI.keeps{pw b k base L S vs w w'}(h:WtI pw b k base L S vs w)(F:Below w.heap.size w w'):WtI pw b k base L S vs w':=
 ⟨by rw[F.block _ (lt_of_block h.p)];exact h.p,Qd h.s (Qi F) trivial,h.o,h.l,h.f.keeps F,Nat.le_trans h.z F.size⟩
theorem Gu{n:Nat}:∀{S:List Nat}{a:Nat},S.Pairwise (· < ·)→(∀x∈S,a≤x∧x<n)→S.length≤n-a
 | [],_,_,_=>Nat.zero_le _
 | x::S,a,h,hl=>by
  have h1:=hl x (List.mem_cons_self ..);have h2:=Gu (S:=S) (a:=x+1) (List.pairwise_cons.1 h).2 (fun y hy=>⟨(List.pairwise_cons.1 h).1 y hy,(hl y (List.mem_cons_of_mem _ hy)).2⟩);rw[List.length_cons];omega
theorem WtI.len{pw b k base L S vs w}(h:WtI pw b k base L S vs w):S.length≤5000:=Gu (a:=0) h.o fun x hx=>⟨Nat.zero_le _,h.l x hx⟩
theorem WtI.add{pw b k base L S vs w w'}(h:WtI pw b k base L S vs w){x:Nat}(hx:x<5000){v':Value}(hb:w'.heap[pw]?=some (.cells (#[vs,.map (some b)].setIfInBounds 0 v') 268 (0,0)))(o:w'.ownsRow base 78 1 v' (ptF S x).length (Qg (ptF S x)))(a:Ad pw vs v' w w'):
  WtI pw b k base L (ptF S x) v' w':=by
 have W:=Wf.of a h.s;refine⟨hb,o,XS _ _,fun y hy=>?_,h.f.keepsT (T:=fun e=>e=132) (W.keeps h.p (by decide) (by decide)) rfl ?_,Nat.le_trans h.z a.size⟩
 ·rcases Zf.1 hy with h1|h1
  ·exact h.l y h1
  ·omega
 ·obtain⟨es,clock,hm⟩:=h.f.map;refine W.block b h.f.lt (fun e=>?_) (.inr fun⟨cur,hc⟩=>by rw[hm]at hc;cases hc);have:=h.p;rw[←e,hm]at this;cases this
structure Dfs(L:Nat→List (Nat×Nat))(R:List (Nat×Nat))(S S':List Nat):Prop where
 sub:∀x∈S,x∈S'
 has:∀r∈R,r.1∈S'
 cl:∀x∈S',x∉S→∀y∈L x,y.1∈S'
 low:∀W:Nat→Prop,(∀r∈R,W r.1)→(∀x,W x→∀y∈L x,W y.1)→∀x∈S',x∈S∨W x
theorem Dfs.nil(L S):Dfs L [] S S:=⟨fun _ h=>h,fun _ h=>absurd h (by simp),fun _ h1 h2=>absurd h1 h2,fun _ _ _ x h=>.inl h⟩
theorem Dfs.old{L R S S' r}(h:Dfs L R S S')(hr:r.1∈S'):Dfs L (R++[r]) S S':=
 ⟨h.sub,fun x hx=>by rcases List.mem_append.1 hx with h1|h1;exact h.has x h1;rw[List.mem_singleton.1 h1];exact hr,h.cl,fun W h1 h2=>h.low W (fun x hx=>h1 x (List.mem_append_left _ hx)) h2⟩
theorem Dfs.new{L:Nat→List (Nat×Nat)}{R S S1 S2:List _}{r:Nat×Nat}(h:Dfs L R S S1)(k:Dfs L (L r.1) (ptF S1 r.1) S2):Dfs L (R++[r]) S S2:=by
 have s12:∀x∈S1,x∈S2:=fun x hx=>k.sub x (Zf.2 (.inl hx));have r2:r.1∈S2:=k.sub _ (Zf.2 (.inr rfl));refine⟨fun x hx=>s12 x (h.sub x hx),fun x hx=>?_,fun x h1 h2 y hy=>?_,fun W h1 h2 x hx=>?_⟩
 ·rcases List.mem_append.1 hx with h1|h1
  ·exact s12 _ (h.has x h1)
  ·rw[List.mem_singleton.1 h1];exact r2
 ·by_cases e:x∈ptF S1 r.1
  ·rcases Zf.1 e with h3|h3
   ·exact s12 _ (h.cl x h3 h2 y hy)
   ·subst h3;exact k.has y hy
  ·exact k.cl x h1 e y hy
 ·have hr:=h1 r (List.mem_append_right _ (List.mem_singleton.2 rfl));rcases k.low W (h2 _ hr) h2 x hx with h3|h3
  ·rcases Zf.1 h3 with h4|h4
   ·exact h.low W (fun y hy=>h1 y (List.mem_append_left _ hy)) h2 x h4
   ·subst h4;exact .inr hr
  ·exact .inr h3
theorem Gw:∀{l:List Nat}{x:Nat},l.Pairwise (· < ·)→x∉l→∃k:List Nat,k.Pairwise (· < ·)∧(∀y,y∈k↔y∈l∨y=x)∧k.length=l.length+1
 | [],x,_,_=>⟨[x],by simp,by simp,rfl⟩
 | a::l,x,h,hx=>by
  obtain⟨h1,h2⟩:=List.pairwise_cons.1 h;have hxa:x≠a:=fun e=>hx (by rw[e];exact List.mem_cons_self ..);by_cases hlt:x<a
  ·refine⟨x::a::l,List.pairwise_cons.2 ⟨fun y hy=>?_,h⟩,fun y=>?_,rfl⟩
   ·rcases List.mem_cons.1 hy with rfl|hy
    ·exact hlt
    ·have:=h1 y hy;omega
   ·rw[List.mem_cons,or_comm]
  ·obtain⟨k,k1,k2,k3⟩:=Gw (x:=x) h2 (fun e=>hx (List.mem_cons_of_mem _ e));refine⟨a::k,List.pairwise_cons.2 ⟨fun y hy=>?_,k1⟩,fun y=>?_,by rw[List.length_cons,k3,List.length_cons]⟩
   ·rcases (k2 y).1 hy with hy|hy
    ·exact h1 y hy
    ·omega
   ·rw[List.mem_cons,List.mem_cons,k2];constructor
    ·rintro (h|h|h)
     ·exact .inl (.inl h)
     ·exact .inl (.inr h)
     ·exact .inr h
    ·rintro ((h|h)|h)
     ·exact .inl h
     ·exact .inr (.inl h)
     ·exact .inr (.inr h)
theorem Qdl{l:List Nat}{x:Nat}(hs:l.Pairwise (· < ·))(hx:x∉l):(ptF l x).length=l.length+1:=by
 obtain⟨k,k1,k2,k3⟩:=Gw hs hx;rw[ZX (XS l x) k1 fun y=>by rw[Zf,k2],k3]
theorem QiG(pw b k base:Nat)(L:Nat→List (Nat×Nat))(hL:Hid (∀x,(∀y∈L x,y.1<5000)∧(L x).length≤1000000)):∀(m:Nat)(S:List Nat)(R:List (Nat×Nat))(vs v:Value)(w:World)(B:Nat),5000-S.length<m→Hid (WtI pw b k base L S vs w)→Hid (w.ownsRow B 132 2 v R.length (pcs R))→Hid (∀y∈R,y.1<5000)→R.length≤1000000 →
  Calls Tryz.prog 156 #[.pointer (some ⟨pw,0,none⟩),v] w fun e w'=>e=.returned (.tuple #[])∧∃S' vs',Hid (WtI pw b k base L S' vs' w'∧Wf pw base w w'∧Dfs L R S S'∧S.length≤S'.length):=by
 intro m
 induction m with
 | zero=>intro S R vs v w B h;omega
 | succ m ih=>
  intro S R vs v w B hm HW HR HRL hRl;have IH:=Qc ih;clear ih;obtain⟨p,c,rfl⟩:=Qb HR.o;go_enter Tryz.func156,Tryz.ntmps156;go_wp2_with fail;have B0:Hid (WtI pw b k base L S vs w∧Wf pw base w w∧Dfs L (R.take 0) S S∧S.length≤S.length):=⟨HW.o,Wf.refl _ _ _,Dfs.nil _ _,Nat.le_refl _⟩
  go_loopw [8] (fun ii wr=>∃(i:Nat)(T:List Nat)(vt:Value),i≤R.length∧ii=.int .i64 i∧Hid (WtI pw b k base L T vt wr∧Wf pw base w wr∧Dfs L (R.take i) S T∧S.length≤T.length)) (fun ii _=>R.length-(intOf ii).toNat)
  case atStart=>exact⟨0,S,vs,by omega,rfl,B0⟩
  case round=>
   clear B0;obtain⟨i,T,vt,hi,rfl,HI⟩:=hrel;rename World=>wA;by_cases hlt:i<R.length
   ·have OR:=Qd HR.o (HI.o.2.1.keeps (b':=B) (T:=fun e=>e=132) HW.o.p (by decide) (by decide)) rfl;obtain⟨g,rfl,_,_⟩:=Qh OR (by omega);have c0:=Qe OR (QX hlt).1;have c1:=Qe OR (QX hlt).2;have hr5:=HRL.o _ (List.getElem_mem hlt);have HTK:Hid (R.take (i+1)=R.take i++[R[i]]):=List.take_succ_eq_append_getElem hlt;generalize hrr:R[i]=rr at *;clear hrr;have FA:=(Below.refl wA.heap.size wA).alloc (Nat.le_refl _) (.cells #[.int .i64 rr.1,.int .i64 rr.2] 132);have HA:Hid ((WtI pw b k base L T vt (wA.alloc (.cells #[.int .i64 rr.1,.int .i64 rr.2] 132))∧Wf pw base w (wA.alloc (.cells #[.int .i64 rr.1,.int .i64 rr.2] 132))∧Dfs L (R.take i) S T∧S.length≤T.length)∧(wA.alloc (.cells #[.int .i64 rr.1,.int .i64 rr.2] 132)).heap[wA.heap.size]?=some (.cells #[.int .i64 rr.1,.int .i64 rr.2] 132 (0,0))):=⟨⟨HI.o.1.keeps FA,HI.o.2.1.trans (Wf.below FA),HI.o.2.2⟩,heap_alloc_last _ _⟩;clear OR HI FA;go_wp2_with fail;clear c0 c1;generalize wA.alloc (.cells #[.int .i64 rr.1,.int .i64 rr.2] 132)=W1 at *;have k0:=Qa HA.o.2 0;simp at k0;have hTl:=HA.o.1.1.len;have HC:Hid (Calls Tryz.prog 98 #[.pointer (some ⟨pw,0,none⟩),.int .i64 rr.1] W1.drew fun e w'=>∃(bb:Bool)(v':Value),e=.returned (.bool bb)∧Hid (bb=!(Qt T rr.1)∧w'.heap[pw]?=some (.cells (#[vt,.map (some b)].setIfInBounds 0 v') 268 (0,0))∧w'.ownsRow base 78 1 v' (ptF T rr.1).length (Qg (ptF T rr.1))∧Ad pw vt v' W1.drew w')):=by
     have HD:=HA.o.1.1.keeps (QM W1);refine Qjf T rr.1 HD.o pw 0 base _ 268 vt W1.drew HD.p rfl HD.s (by omega) HD.z (fun e=>?_);exact Qw HD.s HD.p (by decide) e
    go_region_law (first | (refine ZN rfl 98 #[.pointer (some ⟨pw,0,none⟩),.int .i64 rr.1] (by go_simp) HC.o ?_;rintro e w2 ⟨bb,v2,rfl,H2⟩) | fail)
    all_goals
     have HN:Hid (WtI pw b k base L (ptF T rr.1) v2 w2∧Wf pw base w w2∧w2.heap[wA.heap.size]?=some (.cells #[.int .i64 rr.1,.int .i64 rr.2] 132 (0,0))):=by
      have HD:=HA.o.1.1.keeps (QM W1);have WF:=Wf.of H2.o.2.2.2 HD.s;refine⟨HD.add hr5 H2.o.2.1 H2.o.2.2.1 H2.o.2.2.2,(HA.o.1.2.1.trans (Wf.below (QM W1))).trans WF,?_⟩;exact WF.keeps (b':=0) (T:=fun e=>e=132) HD.p (by decide) (by decide) _ _ _ (Nat.zero_le _) rfl (by have:=HA.o.2;rwa [←(QM W1).block _ (lt_of_block this)]at this)
     have HBB:Hid (bb=!(Qt T rr.1)):=H2.o.1;clear H2 HC
     cases bb with
     | false=>
      have HX:Hid (WtI pw b k base L T v2 w2∧Wf pw base w w2∧Dfs L (R.take (i+1)) S T∧S.length≤T.length):=by
       have hx:rr.1∈T:=by
        have:=HBB.o;rw[Qt]at this;simpa using this
       rw[QaQ HA.o.1.1.o hx]at HN;refine⟨HN.o.1,HN.o.2.1,?_,HA.o.1.2.2.2⟩;rw[HTK.o];exact HA.o.1.2.2.1.old hx
      clear HA HN HBB;go_wp2_with fail;go_roundw
      case rel=>exact⟨i+1,T,v2,by omega,by go_num,HX⟩
      case measure=>simp[intOf];omega
     | true=>
      have hx:rr.1∉T:=by
       have:=HBB.o;rw[Qt]at this;intro h;rw[List.contains_iff_mem.2 h]at this;cases this
      have HIN:=Qc (And.intro HA.o.1.2.2 (And.intro (Qdl HA.o.1.1.o hx) HN.o.1.len));clear HA HBB hx;have k0:=Qa HN.o.2.2 0;have j1:=Qa HN.o.1.p 1;simp at k0 j1;obtain⟨vl,hrun,ol⟩:=(HN.o.1.f.keeps (QM w2)).look (r:=rr.1) (by omega);obtain⟨pl,cl,rfl⟩:=Qb ol;have HCC:Hid (Calls Tryz.prog 156 #[.pointer (some ⟨pw,0,none⟩),.slice pl (L rr.1).length cl] w2.drew fun e w'=>e=.returned (.tuple #[])∧∃S' vs',Hid (WtI pw b k base L S' vs' w'∧Wf pw base w2.drew w'∧Dfs L (L rr.1) (ptF T rr.1) S'∧(ptF T rr.1).length≤S'.length)):=
       IH.o (ptF T rr.1) (L rr.1) v2 _ w2.drew base (by have:=HIN.o;omega) (HN.o.1.keeps (QM w2)) ol (hL.out _).1 (hL.out _).2
      clear ol;go_wp2_with fail
      go_region_law (first | (refine ZN rfl 156 #[.pointer (some ⟨pw,0,none⟩),.slice pl (L rr.1).length cl] (by go_simp) HCC.o ?_;rintro e w3 ⟨rfl,S3,v3,H3⟩) | fail)
      all_goals
       have HX:Hid (WtI pw b k base L S3 v3 w3∧Wf pw base w w3∧Dfs L (R.take (i+1)) S S3∧S.length≤S3.length):=by
        refine⟨H3.o.1,(HN.o.2.1.trans (Wf.below (QM w2))).trans H3.o.2.1,?_,by have:=HIN.o;have:=H3.o.2.2.2;omega⟩;rw[HTK.o];exact HIN.o.1.1.new H3.o.2.2.1
       clear H3 HN HIN HCC hrun;go_wp2_with fail;go_roundw
       case rel=>exact⟨i+1,S3,v3,by omega,by go_num,HX⟩
       case measure=>simp[intOf];omega
   ·have HE:Hid (WtI pw b k base L T vt wA∧Wf pw base w wA∧Dfs L R S T∧S.length≤T.length):=by
     have:=HI.o;rw[List.take_of_length_le (by omega)]at this;exact this
    go_wp2_with fail;exact bodyPost_end (v:=.tuple #[]) (by simp[results,Tryz.results156,go_sem]) rfl ⟨rfl,T,vt,HE⟩
theorem QbG{t e:TypeId}{z:Value}{size bytes:Nat}(ht:Tryz.prog.underlying t=some (.slice e))(hi:(Tryz.prog.info? e).map (fun i=>(i.zero,i.size,i.bytes))=some (some z,size,bytes))(hzs:z.cells.size=size)(hsz:0<size)
  {ops:Array Oper}{rest:List Oper}{o:Oper}{a:Act}{Q:Exit→Act→World→Prop}{w:World}(hgd:o.guard=none)(s x:Operand)
  (ho:o.op=.call { callee:=.builtin .append,args:=#[s,x],argTypes:=#[t,t] })
  {base B2:Nat}{v u:Value}{n m:Nat}{xs ys:List Value}(hs:a.eval s=v)(hown:w.ownsRow base e size v n xs)(hx:a.eval x=u)(hsrc:w.ownsRow B2 e size u m ys)(h1:∀y∈ys,y.oneCell'=true)
  (h63:n+m≤maxLen)(hbytes:(n+m)*bytes≤140737488355328)(hbase:base≤w.heap.size)
  (h:∀v' w',w'.ownsRow base e size v' (n+m) (xs++ys)→w.grownBy w' v.ownBlock→(v'.ownBlock=v.ownBlock∨v'.ownBlock=some w.heap.size)→wpList Tryz.prog ops Q rest (a.put o.dst v') w'):wpList Tryz.prog ops Q (o::rest) a w:=by
 rcases hsrc.2 with ⟨rfl,h0⟩|⟨g,c,cur,rfl,_,hg,_⟩
 ·refine Ri ht hi hgd s x ho hs hown hx (h v w ?_ ⟨rfl,rfl,rfl,Nat.le_refl _,fun _ _ _=>rfl⟩ (.inl rfl));have hy:ys=[]:=List.eq_nil_of_length_eq_zero (by rw[hsrc.1,h0,Nat.zero_mul]);rw[hy,h0,List.append_nil,Nat.add_zero];exact hown
 ·obtain⟨I,Hi,Hz,Hs,Hb⟩:=info_parts hi;exact wpList_append_own_at w hgd s x t ho base e I z size bytes ht Hi Hz Hs Hb hzs hsz v n xs hs hown ⟨g,0,none⟩ m c ys hx hsrc.1 (fun j y hj=>hsrc.cells rfl j y hj) h1 h63 hbytes hbase (fun v' w' a b _ d=>h v' w' a b d)
def JW(w:World)(b k base:Nat)(L:Nat→List (Nat×Nat))(vx:Value):Prop:=
 ∃(D:DataW Value)(F:Nat→Value),w.ownsMap Tryz.prog 78 Ky b k D∧(∀r:Nat,D.atKey (.int .i64 r) (.held (.slice none 0 0))=.held (F r))∧(∀r,w.ownsRow base 132 2 (F r) (L r).length (pcs (L r)))∧∀r g,(F r).ownBlock=some g→vx.ownBlock≠some g
theorem JW.r{w b k base L vx}(h:JW w b k base L vx):J9 w b k base L:=by
 obtain⟨D,F,a,b,c,_⟩:=h;exact⟨D,F,a,b,c⟩
theorem JW.keeps{w w' b k base L vx}(h:JW w b k base L vx)(F:Below w.heap.size w w'):JW w' b k base L vx:=by
 have hl:=h.r.lt;obtain⟨D,G,a,b,c,d⟩:=h;exact⟨D,G,YQ a (F.block _ hl),b,fun x=>Qd (c x) (Qi F) trivial,d⟩
theorem JW.new(w:World)(base:Nat)(vx:Value):JW (w.alloc (.map #[] 0)) w.heap.size 0 base (fun _=>[]) vx:=
 ⟨.map [],fun _=>.slice none 0 0,World.ownsMap_made w Tryz.prog 78 Ky,fun _=>rfl,fun _=>World.ownsRow_nil _ _ _ _,fun _ _ h=>by cases h⟩
theorem JW.upd{w b k base L vx}(h:JW w b k base L vx){r:Nat}(hr:r<10000)(hk:k<maxLen){v:Value}{l:List (Nat×Nat)}{B:Nat}(hB:base≤B)(hx:∀g,vx.ownBlock=some g→g<B)(o:w.ownsRow B 132 2 v l.length (pcs l)):
  ∃w',(Instr.mapUpdate 266 (.map (some b)) (.int .i64 r) v).run Tryz.prog w=.ok () w'∧JW w' b (k+1) base (Qcb L r l) vx∧w.grownBy w' (some b):=by
 obtain⟨D,F,m,a,rw1,dj⟩:=h;obtain⟨p,c,rfl⟩:=Qb o;obtain⟨w',h1,h2,h3⟩:=m.update Qge Tryz.underlying266 hk (keyOf_int_mk Tryz.underlying78 (Qe9 hr)) (val:=.slice p l.length c) (d:=.held (.slice p l.length c)) (ps:=[]) rfl;have K:∀B,Qs B (fun _=>True) w w':=fun B x c e _ _ hh=>by
  obtain⟨es,clock,hb,_⟩:=m;rw[h3.block x (lt_of_block hh) (fun e2=>by cases e2;rw[hb]at hh;cases hh)];exact hh
 refine⟨w',h1,⟨_,fun x=>if x=r then .slice p l.length c else F x,h2,fun x=>?_,fun x=>?_,fun x g hg=>?_⟩,h3⟩
 ·by_cases e:x=r
  ·subst e;rw[atKey_put_same m.isMap (by simp[WideAt.IsKeyLit])];show _=DataW.held (if x=x then _ else _);rw[if_pos rfl]
  ·rw[atKey_put_other (Qak e)];show _=DataW.held (if x=r then _ else _);rw[if_neg e];exact a x
 ·unfold Qcb;show w'.ownsRow base 132 2 (if x=r then _ else _) _ _;by_cases e:x=r
  ·rw[if_pos e,if_pos e];exact Qd (Qm o hB) (K _) trivial
  ·rw[if_neg e,if_neg e];exact Qd (rw1 x) (K _) trivial
 ·have hg:(if x=r then Value.slice p l.length c else F x).ownBlock=some g:=hg;by_cases e:x=r
  ·rw[if_pos e]at hg;intro h;have:=hx g h;have:=(o.lt g hg).1;omega
  ·rw[if_neg e]at hg;exact dj x g hg
theorem JW.app{w w' b k base L vx vx'}{n:Nat}{xs:List Value}(h:JW w b k base L vx)(o:w.ownsRow base 132 2 vx n xs)(g:w.grownBy w' vx.ownBlock)(hv:vx'.ownBlock=vx.ownBlock∨vx'.ownBlock=some w.heap.size):JW w' b k base L vx':=by
 obtain⟨es,clock,hm⟩:=h.r.map;have hlt:=h.r.lt;obtain⟨D,F,m,a,rw1,dj⟩:=h;refine⟨D,F,YQ m (g.block _ hlt (fun e=>?_)),a,fun x=>?_,fun x j hj=>?_⟩
 ·rcases o.2 with ⟨rfl,_⟩|⟨g2,c,cur,rfl,_,hg,_⟩
  ·cases e
  ·cases e;rw[hm]at hg;cases hg
 ·rcases (rw1 x).2 with ⟨e,h0⟩|⟨g2,c,cur,e,hb,hg,hr⟩
  ·exact⟨(rw1 x).1,.inl ⟨e,h0⟩⟩
  ·refine⟨(rw1 x).1,.inr ⟨g2,c,cur,e,hb,?_,hr⟩⟩;rw[g.block _ (lt_of_block hg) (fun e2=>dj x g2 (by rw[e];rfl) e2.symm)];exact hg
 ·rcases hv with hv|hv
  ·rw[hv];exact dj x j hj
  ·rw[hv];intro e;have:=((rw1 x).lt j hj).2;cases e;omega
def XI(t:Qy):Option (Nat×List (Nat×Nat)):=if t.op=33 then none else some (t.to.1,rdsF t)
def KJ(t:Qy):List (Nat×Nat):=if t.op=33 then rdsF t else []
def entC(co:Nat→Bool)(c:QH):Nat×List (Nat×Nat):=(c.to.1,Jy co c c.gs.length)
def ZV(co:Nat→Bool)(bs:List Ql)(i:Nat):List (Nat×List (Nat×Nat)):=(List.range i).flatMap fun j=>if co j then (bkF bs j).chs.map (entC co)++(bkF bs j).sts.filterMap XI else []
def Z6(co:Nat→Bool)(bs:List Ql)(i:Nat):List (Nat×Nat):=(List.range i).flatMap fun j=>if co j then (bkF bs j).sts.flatMap KJ++QZ (bkF bs j).e else []
theorem Ug(co bs i):ZV co bs (i+1)=ZV co bs i++(if co i then (bkF bs i).chs.map (entC co)++(bkF bs i).sts.filterMap XI else []):=by rw[ZV,ZV,List.range_succ,List.flatMap_append];simp
theorem YS(co bs i):Z6 co bs (i+1)=Z6 co bs i++(if co i then (bkF bs i).sts.flatMap KJ++QZ (bkF bs i).e else []):=by rw[Z6,Z6,List.range_succ,List.flatMap_append];simp
def lkF(E:List (Nat×List (Nat×Nat))):Nat→List (Nat×Nat):=E.foldl (fun L e=>Qcb L e.1 e.2) (fun _=>[])
theorem WU(E e):lkF (E++[e])=Qcb (lkF E) e.1 e.2:=by rw[lkF,List.foldl_append];rfl
theorem V5{y:Nat×Nat}{x:Nat}:∀(n:Nat)(E:List (Nat×List (Nat×Nat))),E.length=n→y∈lkF E x→∃l,(x,l)∈E∧y∈l
 | 0,E,hn,h=>by
  obtain rfl:=List.length_eq_zero_iff.1 hn;simp[lkF]at h
 | n+1,E,hn,h=>by
  rcases List.eq_nil_or_concat E with rfl|⟨F,e,rfl⟩
  ·cases hn
  ·rw[List.concat_eq_append]at h hn ⊢;rw[WU,Qcb]at h;by_cases hx:x=e.1
   ·rw[if_pos hx]at h;exact⟨e.2,by rw[hx];exact List.mem_append_right _ (List.mem_singleton.2 rfl),h⟩
   ·rw[if_neg hx]at h;obtain⟨l,h1,h2⟩:=V5 n F (by simpa using hn) h;exact⟨l,List.mem_append_left _ h1,h2⟩
theorem Ys{x:Nat}{l:List (Nat×Nat)}:∀(n:Nat)(E:List (Nat×List (Nat×Nat))),E.length=n→(E.map (·.1)).Nodup→(x,l)∈E→lkF E x=l
 | 0,E,hn,_,h=>by
  obtain rfl:=List.length_eq_zero_iff.1 hn;simp at h
 | n+1,E,hn,hd,h=>by
  rcases List.eq_nil_or_concat E with rfl|⟨F,e,rfl⟩
  ·cases hn
  ·rw[List.concat_eq_append]at h hn hd ⊢;rw[List.map_append,List.nodup_append]at hd;obtain⟨d1,_,d3⟩:=hd;rw[WU,Qcb];rcases List.mem_append.1 h with h|h
   ·have hx:x≠e.1:=d3 x (List.mem_map.2 ⟨_,h,rfl⟩) e.1 (by simp);rw[if_neg hx];exact Ys n F (by simpa using hn) d1 h
   ·rw[List.mem_singleton]at h;subst h;rw[if_pos rfl]
end Go.Proofs.YtgfhfkgdmidhpaaGreatDoor
