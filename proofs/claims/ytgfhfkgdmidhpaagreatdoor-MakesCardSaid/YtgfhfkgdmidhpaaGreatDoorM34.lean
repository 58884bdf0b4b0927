import Derived.Test.YtgfhfkgdmidhpaaGreatDoorM33
namespace Go.Proofs.YtgfhfkgdmidhpaaGreatDoor
open Go.RowKit
open Go.Proofs.Tryz
set_option maxRecDepth 100000
set_option maxHeartbeats 8000000
theorem QgG(bs:List Qm)(G:List Nat)(mb base B Bg gb pm:Nat)(v va vu vah vnd vch vgi vg:Value)(w:World)(hM:MkG bs mb base B v va vu vah vnd vch vgi w)(hg:w.ownsRow Bg 143 1 vg G.length (Qe G))(hgb:w.cell? ⟨gb,0,none⟩=some vg)(hpm:w.cell? ⟨pm,0,none⟩=some (.pointer (some ⟨mb,0,none⟩)))
  (hG:Hid (∀x∈G,x<bs.length))(hgl:Hid (∀b∈bs,∀p∈goalsF b.e,p.1<bs.length))(hn:bs.length≤1000)(hlg:G.length≤1000):
  Calls prog 163 #[.agg #[.slice none 0 0],.func (.func 180) #[] #[.pointer (some ⟨gb,0,none⟩),.pointer (some ⟨pm,0,none⟩)]] w fun x w'=>∃v' n,x=.returned (.agg #[v'])∧Hid (w'.ownsRow w.heap.size 143 1 v' (mtK bs G n).length (Qe (mtK bs G n))∧Q7 bs G (mtK bs G n)=mtK bs G n∧Below w.heap.size w w'):=by
 have hgw:gb<w.heap.size:=Zh _ _ hgb;have hpw:pm<w.heap.size:=Zh _ _ hpm;have HP:=Qc (And.intro hM (And.intro hg (And.intro hgb hpm)));clear hM hg hgb hpm;have hmt:∀(x:Value)(w:World),(method 500 82 x "Same").run prog w=.ok (284,x) w:=fun x w=>by kernel_rfl
 go_enter func163,ntmps163;go_wp2_with fail;obtain⟨W2,hW2⟩:∃W2,W2=(w.alloc (.cells #[.slice none 0 0] 82)).alloc (.cells #[.slice none 0 0] 82):=⟨_,rfl⟩;rw[←hW2];obtain⟨g0,g1,hz,f2⟩:=two w (.cells #[.slice none 0 0] 82) (.cells #[.slice none 0 0] 82);rw[←hW2]at g0 g1 hz f2;have B0:Hid (W2.heap[w.heap.size]?=some (.cells #[.slice none (mtK bs G 0).length 0] 82 (0,0))∧W2.heap[w.heap.size+1]?=some (.cells #[.slice none 0 0] 82 (0,0))∧W2.ownsRow 0 143 1 (.slice none (mtK bs G 0).length 0) (mtK bs G 0).length (Qe (mtK bs G 0))∧Below w.heap.size w W2∧w.heap.size+2≤W2.heap.size):=
  ⟨g0,g1,Q3 _ _ _ _,f2,by omega⟩
 clear g0 g1 hz f2 hW2
 go_loopw [5] (fun _ wr=>∃(n:Nat)(p:Option Addr)(c:Nat),Hid (wr.heap[w.heap.size]?=some (.cells #[.slice p (mtK bs G n).length c] 82 (0,0))∧wr.heap[w.heap.size+1]?=some (.cells #[.slice none 0 0] 82 (0,0))∧wr.ownsRow 0 143 1 (.slice p (mtK bs G n).length c) (mtK bs G n).length (Qe (mtK bs G n))∧Below w.heap.size w wr∧w.heap.size+2≤wr.heap.size)) (fun _ wr=>bs.length-WC wr w.heap.size)
 case atStart=>exact⟨0,none,0,B0⟩
 case round=>
  clear B0;obtain⟨n,p,c,HR⟩:=hrel;rename World=>wr;obtain⟨r0,r1,rv,rf,rz⟩:=HR.o;have k0:=Qb r0 0;have k0f:=Qg r0 0;have k1f:=Qg r1 0;simp at k0;have HSL:Hid (∀x∈mtK bs G n,x<bs.length):=fun x hx=>QeF hx;have L0:(mtK bs G n).length≤1000:=Qy (UU (WY bs G n) HSL.o) hn;have CP:Hid (MkG bs mb base B v va vu vah vnd vch vgi wr∧wr.ownsRow Bg 143 1 vg G.length (Qe G)∧wr.cell? ⟨gb,0,none⟩=some vg∧wr.cell? ⟨pm,0,none⟩=some (.pointer (some ⟨mb,0,none⟩))):=⟨HP.o.1.keeps rf,Qd HP.o.2.1 (Qh rf) trivial,(rf.cell (p:=⟨gb,0,none⟩) hgw).trans HP.o.2.2.1,(rf.cell (p:=⟨pm,0,none⟩) hpw).trans HP.o.2.2.2⟩;have HLA:Hid (WC wr w.heap.size=(mtK bs G n).length):=VK k0;clear r0 r1 rv rf;go_wp2_with fail;refine(QjB bs G (mtK bs G n) mb base B Bg 0 gb pm v va vu vah vnd vch vgi vg _ wr CP.o.1 CP.o.2.1 HR.o.2.2.1 CP.o.2.2.1 CP.o.2.2.2 hG HSL hgl hn hlg L0).mono ?_;rintro e w5 ⟨v5,rfl,H5⟩;obtain⟨p5,c5,rfl⟩:=Qa H5.o.1;have L5:(Q7 bs G (mtK bs G n)).length≤bs.length:=UU (KY _ _ _) fun x hx=>GI hx;have O5:=Qc H5.o;have s5:=H5.o.2.size;have q0:w5.heap[w.heap.size]?=some (.cells #[.slice p (mtK bs G n).length c] 82 (0,0)):=by rw[H5.o.2.block _ (by omega)];exact HR.o.1
  have y0:∀o,(w5.alloc o).cell? ⟨w.heap.size,0,none⟩=some (.slice p (mtK bs G n).length c):=fun o=>by have:=Qb (Qo q0 o) 0;simpa using this
  clear H5 k0 k0f k1f CP HSL q0;go_wp2_with fail;obtain⟨W6,hW6⟩:∃W6,W6=w5.alloc (.cells #[.slice p5 (Q7 bs G (mtK bs G n)).length c5] 82):=⟨_,rfl⟩;rw[←hW6];have f6:Below w5.heap.size w5 W6:=by rw[hW6];exact(Below.refl _ _).alloc (Qi _) _
  have g6:W6.heap[w5.heap.size]?=some (.cells #[.slice p5 (Q7 bs G (mtK bs G n)).length c5] 82 (0,0)):=by rw[hW6];exact heap_alloc_last _ _
  have hz6:W6.heap.size=w5.heap.size+1:=by rw[hW6,Qt]
  have f36:=O5.o.2.trans (f6.mono s5);refine(Qiv (Q7 bs G (mtK bs G n)) (mtK bs G n) wr.heap.size 0 _ _ W6 (Qd O5.o.1 (Qh f6) trivial) (Qd HR.o.2.2.1 (Qh f36) trivial) (by omega) (by omega)).mono ?_;rintro e w7 ⟨rfl,f7⟩;have f37:=f36.trans (f7.mono (by omega));have g7:w7.heap[w5.heap.size]?=some (.cells #[.slice p5 (Q7 bs G (mtK bs G n)).length c5] 82 (0,0)):=by rw[f7.block _ (by omega)];exact g6
  have r0:w7.heap[w.heap.size]?=some (.cells #[.slice p (mtK bs G n).length c] 82 (0,0)):=by rw[f37.block _ (by omega)];exact HR.o.1
  have r1:w7.heap[w.heap.size+1]?=some (.cells #[.slice none 0 0] 82 (0,0)):=by rw[f37.block _ (by omega)];exact HR.o.2.1
  have o7:=Qd O5.o.1 (Qh (f6.trans (f7.mono (by omega)))) trivial;have z5:=Qb g7 0;have z0:=Qb r0 0;have z0f:=Qg r0 0;have z1:=Qb r1 0;have z1f:=Qg r1 0;have s7:=f37.size;simp at z5 z0 z1;have ff:Below w.heap.size w w7:=HR.o.2.2.2.1.trans (f37.mono (by omega));by_cases heq:Q7 bs G (mtK bs G n)=mtK bs G n
  ·have he:eqF (Q7 bs G (mtK bs G n)) (mtK bs G n)=true:=by rw[eqF,heq];simp
   rw[he];have HD:Hid (Q7 bs G (mtK bs G (n+1))=mtK bs G (n+1)):=by
    show Q7 bs G (Q7 bs G (mtK bs G n))=Q7 bs G (mtK bs G n);rw[heq];exact heq
   have F8:Hid ((w7.setCell ⟨w.heap.size+1,0,none⟩ (.slice p5 (Q7 bs G (mtK bs G n)).length c5)).ownsRow w.heap.size 143 1 (.slice p5 (Q7 bs G (mtK bs G n)).length c5) (Q7 bs G (mtK bs G n)).length (Qe (Q7 bs G (mtK bs G n)))∧Below w.heap.size w (w7.setCell ⟨w.heap.size+1,0,none⟩ (.slice p5 (Q7 bs G (mtK bs G n)).length c5))):=
    ⟨Qj (QL o7 r1 (by decide)) (by omega),Qp ff _ _ _ (by omega)⟩
   clear heq he f6 g6 hW6 f36 f7 f37 g7 r0 r1 o7 ff O5 HR HLA hmt y0;go_wp2_with fail;refine bodyPost_ret (v:=.agg #[.slice p5 (Q7 bs G (mtK bs G n)).length c5]) (by simp[results,results163,go_sem,z1]) rfl ⟨_,n+1,rfl,?_⟩;exact⟨F8.o.1,HD.o,F8.o.2⟩
  ·have he:eqF (Q7 bs G (mtK bs G n)) (mtK bs G n)=false:=by simpa[eqF] using heq
   rw[he];have HL:Hid ((mtK bs G n).length<(Q7 bs G (mtK bs G n)).length):=QeG heq;have F8:Hid ((w7.setCell ⟨w.heap.size,0,none⟩ (.slice p5 (Q7 bs G (mtK bs G n)).length c5)).heap[w.heap.size]?=some (.cells #[.slice p5 (mtK bs G (n+1)).length c5] 82 (0,0))∧(w7.setCell ⟨w.heap.size,0,none⟩ (.slice p5 (Q7 bs G (mtK bs G n)).length c5)).heap[w.heap.size+1]?=some (.cells #[.slice none 0 0] 82 (0,0))∧(w7.setCell ⟨w.heap.size,0,none⟩ (.slice p5 (Q7 bs G (mtK bs G n)).length c5)).ownsRow 0 143 1 (.slice p5 (mtK bs G (n+1)).length c5) (mtK bs G (n+1)).length (Qe (mtK bs G (n+1)))∧Below w.heap.size w (w7.setCell ⟨w.heap.size,0,none⟩ (.slice p5 (Q7 bs G (mtK bs G n)).length c5))∧w.heap.size+2≤(w7.setCell ⟨w.heap.size,0,none⟩ (.slice p5 (Q7 bs G (mtK bs G n)).length c5)).heap.size):=
    ⟨Qq r0 _ _,Ql r1 (by omega) _ _,Qj (QL o7 r0 (by decide)) (Nat.zero_le _),Qp ff _ _ _ (Qi _),by rw[Zs];omega⟩
   have HLB:Hid (WC (w7.setCell ⟨w.heap.size,0,none⟩ (.slice p5 (Q7 bs G (mtK bs G n)).length c5)) w.heap.size=(Q7 bs G (mtK bs G n)).length):=VK (World.cell?_setCell_same _ _ _ z0);clear heq he f6 g6 hW6 f36 f7 f37 g7 r0 r1 o7 ff O5 HR hmt y0;go_wp2_with fail;go_roundw
   case rel=>exact⟨n+1,_,_,F8⟩
   case measure=>rw[HLA.o,HLB.o];have:=HL.o;omega
def MtL(bs:List Qm)(r:Nat)(L:List Nat):Prop:=L.Pairwise (· < ·)∧(∀x∈L,x<bs.length)∧(∀x,(x∈gvrs bs r bs.length∨x∈L)→∀y∈JU (suF bs) bs.length x,y∈L)∧∀y∈L,∃x,y∈JU (suF bs) bs.length x
theorem Qjw{bs:List Qm}{r n:Nat}(h:Q7 bs (gvrs bs r bs.length) (mtK bs (gvrs bs r bs.length) n)=mtK bs (gvrs bs r bs.length) n):MtL bs r (mtK bs (gvrs bs r bs.length) n):=
 ⟨WY _ _ _,fun _ hx=>QeF hx,fun x hx y hy=>by rw[←h,Vl];exact⟨x,hx,hy⟩,fun y hy=>by rw[←h,Vl]at hy;obtain⟨x,_,hx⟩:=hy;exact⟨x,hx⟩⟩
theorem QkD(bs:List Qm)(r mb base B:Nat)(v va vu vah vnd vch vgi:Value)(w:World)(hM:MkG bs mb base B v va vu vah vnd vch vgi w)(hgl:Hid (∀b∈bs,∀p∈goalsF b.e,p.1<bs.length))(hf:Hid (∀b∈bs,QU 1000000 b))(hn:bs.length≤1000):
  Calls prog 129 #[.pointer (some ⟨mb,0,none⟩),.int .i64 r] w fun x w'=>∃v' L,x=.returned (.agg #[v'])∧Hid (w'.ownsRow w.heap.size 143 1 v' L.length (Qe L)∧MtL bs r L∧Below w.heap.size w w'):=by
 obtain⟨W,hW⟩:∃W,W=(w.alloc (.cells #[.pointer (some ⟨mb,0,none⟩)] 164)).alloc (.cells #[.slice none 0 0] 82):=⟨_,rfl⟩;obtain⟨g0,g1,hz,f2⟩:=two w (.cells #[.pointer (some ⟨mb,0,none⟩)] 164) (.cells #[.slice none 0 0] 82);rw[←hW]at g0 g1 hz f2;have HM:Hid (MkG bs mb base B v va vu vah vnd vch vgi W∧W.heap[w.heap.size]?=some (.cells #[.pointer (some ⟨mb,0,none⟩)] 164 (0,0))∧W.heap[w.heap.size+1]?=some (.cells #[.slice none 0 0] 82 (0,0))∧Below w.heap.size w W):=⟨hM.keeps f2,g0,g1,f2⟩;clear hM g0 g1 f2;go_enter func129,ntmps129;go_wp2_with fail;rw[←hW];clear hW;refine(QhY bs r mb base v W HM.o.1.g.p (Qb HM.o.1.b 3) hf hn).mono ?_;rintro e w3 ⟨v3,rfl,H3⟩;obtain⟨p3,c3,rfl⟩:=Qa H3.o.1;have s3:=H3.o.2.size;have hgl3:=N9 bs r bs.length;have HGL:Hid (∀x∈gvrs bs r bs.length,x<bs.length):=fun x hx=>RJ hx;have FB:=(Below.refl w3.heap.size w3).alloc (Qi _) (.cells #[.slice p3 (gvrs bs r bs.length).length c3] 82);have H4:Hid (MkG bs mb base B v va vu vah vnd vch vgi (w3.alloc (.cells #[.slice p3 (gvrs bs r bs.length).length c3] 82))∧(w3.alloc (.cells #[.slice p3 (gvrs bs r bs.length).length c3] 82)).ownsRow W.heap.size 143 1 (.slice p3 (gvrs bs r bs.length).length c3) (gvrs bs r bs.length).length (Qe (gvrs bs r bs.length))∧(w3.alloc (.cells #[.slice p3 (gvrs bs r bs.length).length c3] 82)).cell? ⟨w3.heap.size,0,none⟩=some (.slice p3 (gvrs bs r bs.length).length c3)∧(w3.alloc (.cells #[.slice p3 (gvrs bs r bs.length).length c3] 82)).heap[w.heap.size]?=some (.cells #[.pointer (some ⟨mb,0,none⟩)] 164 (0,0))∧(w3.alloc (.cells #[.slice p3 (gvrs bs r bs.length).length c3] 82)).heap[w.heap.size+1]?=some (.cells #[.slice none 0 0] 82 (0,0))∧Below w.heap.size w (w3.alloc (.cells #[.slice p3 (gvrs bs r bs.length).length c3] 82))):=by
  have F:=H3.o.2.trans (FB.mono s3);exact⟨HM.o.1.keeps F,H3.o.1.alloc _,Qb (heap_alloc_last _ _) 0,by rw[F.block _ (by omega)];exact HM.o.2.1,by rw[F.block _ (by omega)];exact HM.o.2.2.1,HM.o.2.2.2.trans (F.mono (by omega))⟩
 have hmf:∀(fn:Fn)(first cap:Array Value)(w:World),(Instr.makeFunc fn first cap).run prog w=.ok (.func fn first cap) w:=fun _ _ _ _=>rfl
 clear FB H3 HM;go_wp2_with fail;generalize w3.alloc (.cells #[.slice p3 (gvrs bs r bs.length).length c3] 82)=W4 at *;refine(QgG bs (gvrs bs r bs.length) mb base B W.heap.size w3.heap.size w.heap.size v va vu vah vnd vch vgi _ W4 H4.o.1 H4.o.2.1 H4.o.2.2.1 (Qb H4.o.2.2.2.1 0) HGL hgl hn (by omega)).mono ?_;rintro e w5 ⟨v5,n,rfl,H5⟩;obtain⟨p5,c5,rfl⟩:=Qa H5.o.1;have hz4:=H4.o.2.2.2.2.2.size;have r1:w5.heap[w.heap.size+1]?=some (.cells #[.slice none 0 0] 82 (0,0)):=by rw[H5.o.2.2.block _ (lt_of_block H4.o.2.2.2.2.1)];exact H4.o.2.2.2.2.1
 have z1:=Qb r1 0;have z1f:=Qg r1 0;simp at z1;have F8:Hid ((w5.setCell ⟨w.heap.size+1,0,none⟩ (.slice p5 (mtK bs (gvrs bs r bs.length) n).length c5)).ownsRow w.heap.size 143 1 (.slice p5 (mtK bs (gvrs bs r bs.length) n).length c5) (mtK bs (gvrs bs r bs.length) n).length (Qe (mtK bs (gvrs bs r bs.length) n))∧MtL bs r (mtK bs (gvrs bs r bs.length) n)∧Below w.heap.size w (w5.setCell ⟨w.heap.size+1,0,none⟩ (.slice p5 (mtK bs (gvrs bs r bs.length) n).length c5))):=
  ⟨QL (Qj H5.o.1 hz4) r1 (by decide),Qjw H5.o.2.1,Qp (H4.o.2.2.2.2.2.trans (H5.o.2.2.mono hz4)) _ _ _ (by omega)⟩
 clear H4 H5 r1 hmf;go_wp2_with fail;refine bodyPost_ret (v:=.agg #[.slice p5 (mtK bs (gvrs bs r bs.length) n).length c5]) (by simp[results,results129,go_sem,z1]) rfl ⟨_,_,rfl,F8⟩
end Go.Proofs.YtgfhfkgdmidhpaaGreatDoor
namespace Go.Proofs.YtgfhfkgdmidhpaaGreatDoor
open Go.RowKit Go.Maps
open Go.Proofs.Tryz
set_option maxRecDepth 100000
set_option maxHeartbeats 8000000
def YI(v:Value):Option (DataW Value×List MemPlace):=match v with
 | .agg cs=>some (.held (.agg cs),[])
 | _=>none
theorem Ww{v:Value}{z:DataW Value×List MemPlace}(h:YI v=some z):z=(.held v,[]):=by
 unfold YI at h;split at h
 ·cases h;rfl
 ·cases h
theorem Qbp(w:World):(zeroValue 82).run prog w=.ok (.agg #[.slice none 0 0]) w:=by kernel_rfl
def Z7(w:World)(b k base:Nat)(L:Nat→Option (List Nat)):Prop:=
 ∃(D:DataW Value)(F:Nat→Value),w.ownsMap prog 78 YI b k D∧(∀r:Nat,D.atKey (.int .i64 r) (.held (.agg #[.slice none 0 0]))=.held (.agg #[F r]))∧(∀r:Nat,Maps.has D (.int .i64 r)=(L r).isSome∧∃p n c,F r=.slice p n c)∧∀r l,L r=some l→w.ownsRow base 143 1 (F r) l.length (Qe l)
theorem Qa0{w w':World}{b n:Nat}{D:DataW Value}(h:w.ownsMap prog 78 YI b n D)(e:w'.heap[b]?=w.heap[b]?):w'.ownsMap prog 78 YI b n D:=by
 obtain⟨es,clock,hb,r⟩:=h;exact⟨es,clock,by rw[e];exact hb,r⟩
theorem Z7.lt{w b k base L}(h:Z7 w b k base L):b<w.heap.size:=by obtain⟨D,F,m,_⟩:=h;exact m.lt
theorem Z7.map{w b k base L}(h:Z7 w b k base L):∃es clock,w.heap[b]?=some (.map es clock):=by
 obtain⟨D,F,⟨es,clock,hb,_⟩,_⟩:=h;exact⟨es,clock,hb⟩
theorem Z7.keepsT{w w' b k base L}{T:TypeId→Prop}(h:Z7 w b k base L)(K:Qr base T w w')(hT:T 143)(e:w'.heap[b]?=w.heap[b]?):Z7 w' b k base L:=by
 obtain⟨D,F,m,a,s,r⟩:=h;exact⟨D,F,Qa0 m e,a,s,fun x l hx=>Qd (r x l hx) K hT⟩
theorem Z7.keeps{w w' b k base L}(h:Z7 w b k base L)(F:Below w.heap.size w w'):Z7 w' b k base L:=
 h.keepsT (Qh F) trivial (F.block _ h.lt)
theorem Z7.new(w:World)(base:Nat):Z7 (w.alloc (.map #[] 0)) w.heap.size 0 base (fun _=>none):=
 ⟨.map [],fun _=>.slice none 0 0,World.ownsMap_made w prog 78 YI,fun _=>rfl,fun _=>⟨rfl,_,_,_,rfl⟩,fun _ _ h=>by cases h⟩
theorem Z7.ok{w b k base L}(h:Z7 w b k base L){r:Nat}(hr:r<10000):∃p n c,(Instr.lookup 241 (.map (some b)) (.int .i64 r) true).run prog w=.ok (.tuple #[.agg #[.slice p n c],.bool (L r).isSome]) w:=by
 obtain⟨D,F,m,a,s,o⟩:=h;obtain⟨v,ps,h1,h2⟩:=m.look_ok Qdg underlying241 (Qbp w) (zd:=.held (.agg #[.slice none 0 0])) (zp:=[]) rfl (keyOf_int_mk underlying78 (QcH hr));have e:=Ww h2;rw[a r]at e;have:v=.agg #[F r]:=by
  have e1:=congrArg Prod.fst e;simpa using e1.symm
 obtain⟨p,n,c,e2⟩:=(s r).2;rw[(s r).1,this,e2]at h1;exact⟨p,n,c,h1⟩
theorem Z7.look{w b k base L}(h:Z7 w b k base L){r:Nat}(hr:r<10000){l:List Nat}(hl:L r=some l):∃v,(Instr.lookup 241 (.map (some b)) (.int .i64 r) false).run prog w=.ok (.agg #[v]) w∧w.ownsRow base 143 1 v l.length (Qe l):=by
 obtain⟨D,F,m,a,s,o⟩:=h;obtain⟨v,ps,h1,h2⟩:=m.lookup Qdg underlying241 (Qbp w) (zd:=.held (.agg #[.slice none 0 0])) (zp:=[]) rfl (keyOf_int_mk underlying78 (QcH hr));have e:=Ww h2;rw[a r]at e;have:v=.agg #[F r]:=by
  have e1:=congrArg Prod.fst e;simpa using e1.symm
 rw[this]at h1;exact⟨F r,h1,o r l hl⟩
def Rs(L:Nat→Option (List Nat))(r:Nat)(l:List Nat):Nat→Option (List Nat):=fun x=>if x=r then some l else L x
theorem KD(L r l):Rs L r l r=some l:=if_pos rfl
theorem JX{L:Nat→Option (List Nat)}{r x:Nat}(l:List Nat)(h:x≠r):Rs L r l x=L x:=if_neg h
theorem Z7.upd{w b k base L}(h:Z7 w b k base L){r:Nat}(hr:r<10000)(hk:k<maxLen){v:Value}{l:List Nat}(o:w.ownsRow base 143 1 v l.length (Qe l)):
  ∃w',(Instr.mapUpdate 241 (.map (some b)) (.int .i64 r) (.agg #[v])).run prog w=.ok () w'∧Z7 w' b (k+1) base (Rs L r l)∧w.grownBy w' (some b):=by
 obtain⟨D,F,m,a,s,rw1⟩:=h;obtain⟨p,c,rfl⟩:=Qa o;obtain⟨w',h1,h2,h3⟩:=m.update Qdg underlying241 hk (keyOf_int_mk underlying78 (QcH hr)) (val:=.agg #[.slice p l.length c]) (d:=.held (.agg #[.slice p l.length c])) (ps:=[]) rfl;have K:Qr base (fun _=>True) w w':=fun x c e _ _ hh=>by
  obtain⟨es,clock,hb,_⟩:=m;rw[h3.block x (lt_of_block hh) (fun e2=>by cases e2;rw[hb]at hh;cases hh)];exact hh
 refine⟨w',h1,⟨_,fun x=>if x=r then .slice p l.length c else F x,h2,fun x=>?_,fun x=>?_,fun x l2 hx=>?_⟩,h3⟩
 ·by_cases e:x=r
  ·subst e;rw[atKey_put_same m.isMap (by simp[WideAt.IsKeyLit])];show _=DataW.held (Value.agg #[if x=x then _ else _]);rw[if_pos rfl]
  ·rw[atKey_put_other (RF e)];show _=DataW.held (Value.agg #[if x=r then _ else _]);rw[if_neg e];exact a x
 ·by_cases e:x=r
  ·subst e;rw[KD,has_put_same m.isMap (by simp[WideAt.IsKeyLit])];exact⟨rfl,_,_,_,if_pos rfl⟩
  ·rw[JX _ e,has_put_other (RF e)];obtain⟨h5,p5,n5,c5,h6⟩:=s x;exact⟨h5,p5,n5,c5,by show (if x=r then _ else _)=_;rw[if_neg e];exact h6⟩
 ·show w'.ownsRow base 143 1 (if x=r then _ else _) _ _;by_cases e:x=r
  ·subst e;rw[KD]at hx;cases hx;rw[if_pos rfl];exact Qd o K trivial
  ·rw[JX _ e]at hx;rw[if_neg e];exact Qd (rw1 x l2 hx) K trivial
theorem QcW{pb po:Nat}{v v':Value}{cs:Array Value}{t:TypeId}{w w':World}(A:Ad pb v v' w w')(hB:w.heap[pb]?=some (.cells cs t (0,0)))(h':w'.heap[pb]?=some (.cells (cs.setIfInBounds po v') t (0,0))):Put pb po v v' w w':=
 ⟨A.os,A.tape,A.output,A.size,by rw[h'];exact(Qq hB po v').symm,A.block,A.new⟩
def JJ(base:Nat)(w:World)(v:Value)(n:Nat)(f:Nat→List Nat):Prop:=
 ∃us:List Value,w.ownsRow base 161 1 v n us∧(∀(k:Nat)(u:Value),us[k]?=some u→w.ownsRow base 78 1 u (f k).length (Qe (f k)))∧(∀(j k:Nat)(u u':Value),us[j]?=some u→us[k]?=some u'→j≠k→u.ownBlock=none∨u.ownBlock≠u'.ownBlock)
theorem Qr.putR{base base1 base2:Nat}{T:TypeId→Prop}{w w':World}{g k n c m:Nat}{us ys:List Value}{u u':Value}(a:w.ownsRow base1 161 1 (.slice (some ⟨g,0,none⟩) n c) n us)(b:w.ownsRow base2 78 1 u m ys)(hp:Put g k u u' w w')(h1:¬T 161)(h2:¬T 78):Qr base T w w':=by
 intro j cur e _ ht hh;rw[hp.block j (lt_of_block hh) ?_ ?_]
 ·exact hh
 ·rintro rfl;rcases a.2 with ⟨h0,_⟩|⟨g',cap',cur',hv,_,hc',_⟩
  ·cases h0
  ·cases hv;rw[hc']at hh;cases hh;exact h1 ht
 ·intro e1;rcases b.2 with ⟨rfl,_⟩|⟨g2,cap2,cur2,rfl,_,hc2,_⟩
  ·cases e1
  ·cases e1;rw[hc2]at hh;cases hh;exact h2 ht
theorem JJ.put{base:Nat}{w w':World}{g c n:Nat}{f:Nat→List Nat}(h:JJ base w (.slice (some ⟨g,0,none⟩) n c) n f){k:Nat}(hk:k<n){u u':Value}(hu:w.cell? ⟨g,k,none⟩=some u)
  (hp:Put g k u u' w w'){l:List Nat}(o':w'.ownsRow base 78 1 u' l.length (Qe l))(f':Nat→List Nat)(hf:f' k=l)(hf2:∀j,j≠k→f' j=f j):JJ base w' (.slice (some ⟨g,0,none⟩) n c) n f':=by
 obtain⟨us,a,b,d⟩:=h;have hl:us.length=n:=by have:=a.1;omega
 have huk:us[k]?=some us[k]:=Zl (by omega);have e0:us[k]=u:=by have:=Qf a huk;rw[hu]at this;cases this;rfl
 rw[e0]at huk;have ob:=b k u huk;refine⟨us.set k u',?_,?_,?_⟩
 ·have s:=ZA a k u';obtain⟨s1,s2⟩:=s;refine⟨s1,s2.imp id ?_⟩;rintro⟨g',cap',cur',hv,b1,c1,d1⟩;cases hv;exact⟨g,c,cur',rfl,b1,by rw[hp.at_];exact c1,d1⟩
 ·intro j x hx;rw[List.getElem?_set]at hx;by_cases hj:k=j
  ·subst hj;rw[if_pos rfl,if_pos (by omega)]at hx;cases hx;rw[hf];exact o'
  ·rw[if_neg hj]at hx;rw[hf2 j (fun e=>hj e.symm)];have oj:=b j x hx;obtain⟨o1,o2⟩:=oj;refine⟨o1,o2.imp id ?_⟩;rintro⟨g2,cap2,cur2,rfl,b2,c2,d2⟩;refine⟨g2,cap2,cur2,rfl,b2,?_,d2⟩;rw[hp.block g2 (lt_of_block c2) ?_ ?_]
   ·exact c2
   ·rintro rfl;rcases a.2 with ⟨h0,_⟩|⟨g',cap',cur',hv,_,hc',_⟩
    ·cases h0
    ·cases hv;rw[hc']at c2;cases c2
   ·rcases d j k _ _ hx huk (fun e=>hj e.symm) with h0|h0
    ·cases h0
    ·exact h0
 ·have lt:∀(j:Nat)(x:Value),us[j]?=some x→∀b,x.ownBlock=some b→b<w.heap.size:=fun j x hx bb hb=>((b j x hx).lt bb hb).2;intro i j x y hx hy hij;rw[List.getElem?_set]at hx hy;by_cases hi:k=i
  ·subst hi;rw[if_pos rfl,if_pos (by omega)]at hx;rw[if_neg hij]at hy;cases hx;rcases hp.new with h0|⟨g',h0,hle⟩
   ·rw[h0];exact d k j u y huk hy hij
   ·right;rw[h0];intro e1;have:=lt j y hy g' e1.symm;omega
  ·rw[if_neg hi]at hx;by_cases hj:k=j
   ·subst hj;rw[if_pos rfl,if_pos (by omega)]at hy;cases hy;rcases hp.new with h0|⟨g',h0,hle⟩
    ·rw[h0];exact d i k x u hx huk hij
    ·right;rw[h0];intro e1;have:=lt i x hx g' e1;omega
   ·rw[if_neg hj]at hy;exact d i j x y hx hy hij
theorem Put.belowR{base:Nat}{w0 w w':World}{g k m:Nat}{u u':Value}{ys:List Value}(F:Below base w0 w)(hb:base≤g)(o:w.ownsRow base 78 1 u m ys)(hp:Put g k u u' w w')(hs:base≤w.heap.size):Below base w0 w':=by
 refine F.trans ⟨hp.os,hp.tape,hp.output,hp.size,fun j hj=>hp.block j (by omega) (by omega) (fun e=>?_)⟩;have:=(o.lt j e.symm).1;omega
theorem JJ.slice{base w v n f}(h:JJ base w v n f):∃p c,v=.slice p n c:=by obtain⟨us,a,_⟩:=h;exact Qa a
theorem JJ.below{base:Nat}{w w':World}{v:Value}{n:Nat}{f:Nat→List Nat}(h:JJ base w v n f)(F:Below w.heap.size w w'):JJ base w' v n f:=by
 obtain⟨us,a,b,d⟩:=h;exact⟨us,Qd a (Qh F) trivial,fun k u hu=>Qd (b k u hu) (Qh F) trivial,d⟩
theorem JJ.map{base:Nat}{w w':World}{b:Nat}{v:Value}{n:Nat}{f:Nat→List Nat}(h:JJ base w v n f)(hm:∃es clock,w.heap[b]?=some (.map es clock))(g:w.grownBy w' (some b)):JJ base w' v n f:=by
 obtain⟨us,a,b',d⟩:=h;have K:Qr base (fun _=>True) w w':=fun x c e _ _ hh=>by
  obtain⟨es,clock,hb⟩:=hm;rw[g.block x (lt_of_block hh) (fun e2=>by cases e2;rw[hb]at hh;cases hh)];exact hh
 exact⟨us,Qd a K trivial,fun k u hu=>Qd (b' k u hu) K trivial,d⟩
theorem JJ.toQ{base w v n f}(h:JJ base w v n f):ZC base w v n f:=by obtain⟨us,a,b,_⟩:=h;exact⟨us,a,b⟩
def plB(bs:List Qm)(LM:Nat→Option (List Nat))(j r:Nat):Bool:=QD ((LM r).getD []) j||chF (bkF bs j).chs r
structure PlF(bs:List Qm)(X:Nat→List Nat)(LM:Nat→Option (List Nat))(f:Nat→List Nat)(i t:Nat):Prop where
 mt:∀r l,LM r=some l→MtL bs r l
 old:∀j,j<i→∀r∈X j,LM r≠none
 now:∀r∈(X i).take t,LM r≠none
 done:∀j,j<i→f j=(X j).filter (plB bs LM j)
 here:f i=((X i).take t).filter (plB bs LM i)
 rest:∀j,i<j→f j=[]
theorem PlF.zero{bs X}:PlF bs X (fun _=>none) (fun _=>[]) 0 0:=
 ⟨fun _ _ h=>(by cases h),fun _ h=>absurd h (by omega),fun _ h=>absurd h (by simp),fun _ h=>absurd h (by omega),by simp,fun _ _=>rfl⟩
theorem PlF.next{bs X LM f i t}(h:PlF bs X LM f i t)(ht:(X i).length≤t):PlF bs X LM f (i+1) 0:=by
 have h1:=h.now;have h2:=h.here;rw[Zg ht]at h1 h2;refine⟨h.mt,fun j hj r hr=>?_,fun _ h=>absurd h (by simp),fun j hj=>?_,by rw[h.rest (i+1) (by omega)];simp,fun j hj=>h.rest j (by omega)⟩
 ·by_cases e:j=i
  ·subst e;exact h1 r hr
  ·exact h.old j (by omega) r hr
 ·by_cases e:j=i
  ·subst e;exact h2
  ·exact h.done j (by omega)
theorem QbG{bs:List Qm}{LM:Nat→Option (List Nat)}{r x j:Nat}{l:List Nat}(h:LM r=none)(hx:LM x≠none):plB bs (Rs LM r l) j x=plB bs LM j x:=by
 unfold plB;rw[JX l (fun e=>hx (by rw[e];exact h))]
theorem PlF.look{bs X LM f i t r l}(h:PlF bs X LM f i t)(hr:LM r=none)(hl:MtL bs r l):PlF bs X (Rs LM r l) f i t:=by
 have hne:∀x,LM x≠none→Rs LM r l x≠none:=fun x hx=>by rw[JX l (fun e=>hx (by rw[e];exact hr))];exact hx
 refine⟨fun x m hx=>?_,fun j hj x hx=>hne x (h.old j hj x hx),fun x hx=>hne x (h.now x hx),fun j hj=>?_,?_,h.rest⟩
 ·by_cases e:x=r
  ·subst e;rw[KD]at hx;cases hx;exact hl
  ·rw[JX l e]at hx;exact h.mt x m hx
 ·rw[h.done j hj];exact List.filter_congr fun x hx=>(QbG hr (h.old j hj x hx)).symm
 ·rw[h.here];exact List.filter_congr fun x hx=>(QbG hr (h.now x hx)).symm
def QfB(f:Nat→List Nat)(i:Nat)(l:List Nat):Nat→List Nat:=fun j=>if j=i then l else f j
theorem PlF.yes{bs X LM f i t}(h:PlF bs X LM f i t)(ht:t<(X i).length)(hn:LM (X i)[t]≠none)(hp:plB bs LM i (X i)[t]=true):PlF bs X LM (QfB f i (f i++[(X i)[t]])) i (t+1):=by
 have e:(X i).take (t+1)=(X i).take t++[(X i)[t]]:=Zb ht;refine⟨h.mt,h.old,fun r hr=>?_,fun j hj=>?_,?_,fun j hj=>?_⟩
 ·rw[e]at hr;rcases QB.1 hr with hr|hr
  ·exact h.now r hr
  ·rw[QF.1 hr];exact hn
 ·unfold QfB;rw[if_neg (by omega)];exact h.done j hj
 ·unfold QfB;rw[if_pos rfl,e,List.filter_append,h.here];simp[hp]
 ·unfold QfB;rw[if_neg (by omega)];exact h.rest j hj
theorem PlF.no{bs X LM f i t}(h:PlF bs X LM f i t)(ht:t<(X i).length)(hn:LM (X i)[t]≠none)(hp:plB bs LM i (X i)[t]=false):PlF bs X LM f i (t+1):=by
 have e:(X i).take (t+1)=(X i).take t++[(X i)[t]]:=Zb ht;refine⟨h.mt,h.old,fun r hr=>?_,h.done,?_,h.rest⟩
 ·rw[e]at hr;rcases QB.1 hr with hr|hr
  ·exact h.now r hr
  ·rw[QF.1 hr];exact hn
 ·rw[e,List.filter_append,h.here];simp[hp]
theorem Qhb{l:List Nat}{x:Nat}(hs:(l++[x]).Pairwise (· < ·)):ptF l x=l++[x]:=
 Zo (X6 _ _) hs fun y=>by rw[ZW,QB,QF]
theorem PlF.srt{bs X LM f i t}(h:PlF bs X LM f i t)(hX:(X i).Pairwise (· < ·))(ht:t<(X i).length):ptF (f i) (X i)[t]=f i++[(X i)[t]]∧(f i).Pairwise (· < ·)∧(f i).length≤t:=by
 have e:(X i).take (t+1)=(X i).take t++[(X i)[t]]:=Zb ht;have h1:((X i).take (t+1)).Pairwise (· < ·):=hX.sublist (List.take_sublist _ _);rw[e]at h1;have h2:(f i).Sublist ((X i).take t):=by rw[h.here];exact List.filter_sublist
 have h3:(f i++[(X i)[t]]).Pairwise (· < ·):=h1.sublist (h2.append (List.Sublist.refl _));refine⟨Qhb h3,(List.pairwise_append.1 h3).1,?_⟩;have:=h2.length_le;rw[List.length_take]at this;omega
theorem JJ.blk{base:Nat}{w:World}{g c n:Nat}{f:Nat→List Nat}(h:JJ base w (.slice (some ⟨g,0,none⟩) n c) n f){k:Nat}(hk:k<n):
  ∃cs u,w.heap[g]?=some (.cells cs 161 (0,0))∧cs[k]?=some u∧w.cell? ⟨g,k,none⟩=some u∧w.ownsRow base 78 1 u (f k).length (Qe (f k))∧base≤g:=by
 obtain⟨us,a,b,d⟩:=h;have hl:us.length=n:=by have:=a.1;omega
 have huk:us[k]?=some us[k]:=Zl (by omega);have hc:=Qf a huk;have hb:=(Qk a (by omega));rcases a.2 with ⟨h0,_⟩|⟨g',cap',cur',hv,b1,c1,d1⟩
 ·cases h0
 ·cases hv;refine⟨cur',us[k],c1,?_,hc,b k _ huk,b1⟩;have:=Qb c1 k;rw[hc]at this;exact this.symm
end Go.Proofs.YtgfhfkgdmidhpaaGreatDoor
