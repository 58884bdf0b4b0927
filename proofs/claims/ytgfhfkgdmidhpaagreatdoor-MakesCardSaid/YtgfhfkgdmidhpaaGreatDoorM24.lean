import Derived.Test.YtgfhfkgdmidhpaaGreatDoorM23
import Derived.Deep.RegionHeld
import Derived.Maps.OwnSet
namespace Go.Proofs.YtgfhfkgdmidhpaaGreatDoor
open Go.RowKit
open Go.Proofs.Tryz
set_option maxRecDepth 100000
set_option maxHeartbeats 8000000
theorem QiS(t ta a aa b ba:Nat)(w:World) :
  Calls prog 321 #[.agg #[.int .i64 t,.int .i64 ta,.int .i64 a,.int .i64 aa,.int .i64 b,.int .i64 ba],unV] w fun e w'=>e=.returned (.iface 353 (.agg #[.int .i64 0,.int .i64 0,.int .i64 a,.int .i64 aa,.int .i64 b,.int .i64 ba]))∧Below w.heap.size w w':=by
 unfold unV;go_enter func321,ntmps321;go_wp2_with fail;have F1:=Qc ((Below.refl w.heap.size w).alloc (Qi _) (.cells #[.int .i64 t,.int .i64 ta,.int .i64 a,.int .i64 aa,.int .i64 b,.int .i64 ba] 353));have g1:=heap_alloc_last w (.cells #[.int .i64 t,.int .i64 ta,.int .i64 a,.int .i64 aa,.int .i64 b,.int .i64 ba] 353);have sW:w.heap.size<(w.alloc (.cells #[.int .i64 t,.int .i64 ta,.int .i64 a,.int .i64 aa,.int .i64 b,.int .i64 ba] 353)).heap.size:=by rw[Qt];omega
 generalize w.alloc (.cells #[.int .i64 t,.int .i64 ta,.int .i64 a,.int .i64 aa,.int .i64 b,.int .i64 ba] 353)=W at *;have k0:=Qb g1 0;have k1:=Qb g1 1;have k2:=Qb g1 2;have k3:=Qb g1 3;have k4:=Qb g1 4;have k5:=Qb g1 5;simp at k0 k1 k2 k3 k4 k5;clear g1
 go_region_held (fun w'=>w'.cell? ⟨w.heap.size,0,none⟩=some (.int .i64 t)∧w'.cell? ⟨w.heap.size,1,none⟩=some (.int .i64 ta)∧w'.cell? ⟨w.heap.size,2,none⟩=some (.int .i64 a)∧w'.cell? ⟨w.heap.size,3,none⟩=some (.int .i64 aa)∧w'.cell? ⟨w.heap.size,4,none⟩=some (.int .i64 b)∧w'.cell? ⟨w.heap.size,5,none⟩=some (.int .i64 ba)) (simp[*])
  (first | (go_at_call 289;refine(Qlh t ta W.drew).mono ?_;rintro e v0 ⟨rfl,f⟩;have f':=Jy f;have y00:=(f'.cell (p:=⟨w.heap.size,0,none⟩) sW).trans k0;have y01:=(f'.cell (p:=⟨w.heap.size,1,none⟩) sW).trans k1;have y02:=(f'.cell (p:=⟨w.heap.size,2,none⟩) sW).trans k2;have y03:=(f'.cell (p:=⟨w.heap.size,3,none⟩) sW).trans k3;have y04:=(f'.cell (p:=⟨w.heap.size,4,none⟩) sW).trans k4;have y05:=(f'.cell (p:=⟨w.heap.size,5,none⟩) sW).trans k5;have O0:=Qc (F1.o.trans (f'.mono (Nat.le_of_lt sW)));have s0:=f'.size;clear f f'))
 all_goals
  go_wp2_with fail;go_ret;exact⟨rfl,O0.o⟩
theorem Qd4(v:Value)(w:World):Calls prog 309 #[.agg #[],v] w fun x w'=>x=.returned (.iface 309 (.agg #[]))∧Below w.heap.size w w':=by
 go_enter func309,ntmps309
 go_wp2
 go_ret;exact⟨rfl,(Below.refl _ _).alloc (Qi _) _⟩
theorem Qd5(a b:Nat)(v:Value)(w:World):Calls prog 313 #[.agg #[.int .i64 a,.int .i64 b],v] w fun x w'=>x=.returned (.iface 312 (.agg #[.int .i64 a,.int .i64 b]))∧Below w.heap.size w w':=by
 go_enter func313,ntmps313
 go_wp2
 go_ret;exact⟨rfl,(Below.refl _ _).alloc (Qi _) _⟩
theorem QkR(e:Z6)(hop:e.op=46∨e.op=62∨e.op=63):∃T x fn,Zc e=.iface T x∧(∀w:World,(method 500 T x "Renamed").run prog w=.ok (fn,x) w)∧(∀args (w:World),(callFunc fn args).run prog w=.ok (.enter fn args) w) ∧
  ∀w:World,Calls prog fn #[x,unV] w fun r w'=>r=.returned (Zc (JT (fun _=>0) e))∧Below w.heap.size w w':=by
 rcases hop with hop|hop|hop
 ·obtain⟨a1,_⟩:=K6 hop;refine⟨_,_,309,a1,fun w=>by kernel_rfl,enters_of func309 (by kernel_rfl) rfl,fun w=>(Qd4 _ w).mono ?_⟩;rintro r w' ⟨rfl,f⟩;rw[JT,if_neg (by omega),a1];exact⟨rfl,f⟩
 ·obtain⟨a1,_⟩:=K7 hop;refine⟨_,_,313,a1,fun w=>by kernel_rfl,enters_of func313 (by kernel_rfl) rfl,fun w=>(Qd5 _ _ _ w).mono ?_⟩;rintro r w' ⟨rfl,f⟩;rw[JT,if_neg (by omega),a1];exact⟨rfl,f⟩
 ·obtain⟨a1,_⟩:=JI hop;refine⟨_,_,321,a1,fun w=>by kernel_rfl,enters_of func321 (by kernel_rfl) rfl,fun w=>(QiS _ _ _ _ _ _ w).mono ?_⟩;rintro r w' ⟨rfl,f⟩;rw[JT,if_pos hop];refine⟨?_,f⟩;rw[(JI (e:={ e with a:=(0,0) }) hop).1];rfl
section
variable {P:Program} {ops:Array Oper} {Q:Exit→Act→World→Prop} {md:Region.Mode} {S:World→Prop} {L:Nat}
def Xt(P:Program)(md:Region.Mode)(ops:Array Oper)(Q:Exit→Act→World→Prop)(S:World→Prop)(L:Nat):Nat→Array Bool→Act→World→Prop
 | 0,listed,a,w=>Region.ready md ops listed=[]∧Q .normal a w
 | fuel+1,listed,a,w=>
  (Region.ready md ops listed=[]→Q .normal a w) ∧
  ∀i∈Region.ready md ops listed,wpOp P ops Q i (fun a' w'=>(i=L∨S w')∧Xt P md ops Q S L fuel (listed.setIfInBounds i true) a' w') a w
theorem Uj:∀(fuel:Nat)(listed:Array Bool)(a:Act)(w:World),Xt P md ops Q S L fuel listed a w→wpAny P md ops Q fuel listed a w
 | 0,_,_,_,h=>h
 | fuel+1,_,_,_,h=>⟨h.1,fun i hi=>wpOp_mono (fun a' w' h'=>Uj fuel _ a' w' h'.2) (h.2 i hi)⟩
theorem G4{i:Nat}{oi:Oper}{v:Value}(hi:ops[i]?=some oi)(hsel:∀(j:Nat)(o:Oper) cs b,ops[j]?=some o→o.op≠.select cs b)
  (hQ:∀c a w,Q (.panic c) (a.put oi.dst v) w→Q (.panic c) a w)(hL:∀oL,ops[L]?=some oL→∃e∈oL.after,Region.binds md e=true∧e.on=i):
  ∀(fuel:Nat)(listed:Array Bool)(a:Act)(w:World),
   (∀j oj,ops[j]?=some oj→j≠i→listed.getD j true=false→(∀e∈oj.after,Region.binds md e=true→e.on≠i)→oi.apart ops oj=true) →
   i∈Region.ready md ops listed→YieldsIf P ops S oi v a→S w →
   Xt P md ops Q S L fuel (listed.setIfInBounds i true) (a.put oi.dst v) w→Xt P md ops Q S L (fuel+1) listed a w:=by
 intro fuel
 induction fuel with
 | zero=>
  intro listed a w _ hr hy hS H;refine⟨fun h=>(by rw[h]at hr;cases hr),fun j hj=>?_⟩;by_cases hji:j=i
  ·subst hji;exact hy.wpOp hi hS ⟨.inr hS,H⟩
  ·have:=ready_mono hj hji;rw[H.1]at this;cases this
 | succ fuel ih=>
  intro listed a w hfree hr hy hS H;refine⟨fun h=>(by rw[h]at hr;cases hr),fun j hj=>?_⟩;by_cases hji:j=i
  ·subst hji;exact hy.wpOp hi hS ⟨.inr hS,H⟩
  ·have h1:=H.2 j (ready_mono hj hji);obtain⟨hjun,oj,hoj,hall⟩:=mem_ready.1 hj;have hnot:∀e∈oj.after,Region.binds md e=true→e.on≠i:=fun e he hb heq=>by
    have h1:=hall e he hb;have h0:=(mem_ready.1 hr).1;rw[heq]at h1;rcases Nat.lt_or_ge i listed.size with h'|h'
    ·simp[h']at h0 h1;rw[h0]at h1;cases h1
    ·simp[Array.getElem?_eq_none h']at h1
   have hjL:j≠L:=by
    rintro rfl;obtain⟨e,he,hb,heq⟩:=hL oj hoj;exact hnot e he hb heq
   have h2:=wpOp_putIf hoj (hfree j oj hoj hji hjun hnot) (fun cs b=>hsel i oi cs b hi) (fun cs b=>hsel j oj cs b hoj) hQ hy h1;have hfree':∀k ok,ops[k]?=some ok→k≠i→(listed.setIfInBounds j true).getD k true=false →
     (∀e∈ok.after,Region.binds md e=true→e.on≠i)→oi.apart ops ok=true:=fun k ok hk hki hun hno=>by
    refine hfree k ok hk hki ?_ hno;by_cases hjk:j=k
    ·subst hjk;exact hjun
    ·rw[getD_set_ne true hjk]at hun;exact hun
   refine wpOp_mono (fun a' w' h3=>?_) h2;have hS':=h3.2.1.resolve_left hjL;refine⟨.inr hS',ih (listed.setIfInBounds j true) a' w' hfree' (ready_mono hr (Ne.symm hji)) h3.1 hS' ?_⟩;rw[Array.setIfInBounds_comm _ _ hji];exact h3.2.2
def QiI(md:Region.Mode)(ops:Array Oper)(L i:Nat):Bool:=match ops[L]? with|some o=>o.after.any fun e=>Region.binds md e&&e.on==i|none=>true
theorem Zy{i:Nat}{oi:Oper}{v:Value}{fuel:Nat}{listed:Array Bool}{a:Act}{w:World}(d:Option Tmp)(hi:ops[i]?=some oi)(hd:oi.dst=d)
  (hs:Region.noSelect ops=true)(hf:Region.free md ops listed i=true)(hr:(Region.ready md ops listed).contains i=true)(hl:QiI md ops L i=true)
  (hQ:∀c a w,Q (.panic c) (a.put oi.dst v) w→Q (.panic c) a w)(hy:YieldsIf P ops S oi v a)(hS:S w)
  (h:Xt P md ops Q S L fuel (listed.setIfInBounds i true) (a.put d v) w):Xt P md ops Q S L (fuel+1) listed a w:=
 G4 hi (Region.noSelect_spec hs) hQ (fun oL ho=>by
  rw[QiI,ho]at hl;obtain⟨e,he,h⟩:=Array.any_eq_true'.1 hl;rw[Bool.and_eq_true]at h;exact⟨e,he,h.1,by simpa using h.2⟩) fuel listed a w (Region.free_spec hi hf) (by simpa using hr) hy hS (by rw[hd];exact h)
theorem Kp{i:Nat}{oi:Oper}{fuel:Nat}{listed:Array Bool}{a:Act}{w:World}(hi:ops[i]?=some oi)(hr:Region.ready md ops listed=[i])(hg:oi.guard=none)
  (h:∀K':Act→World→Prop,Hid (∀a w,(i=L∨S w)→Xt P md ops Q S L fuel (listed.setIfInBounds i true) a w→K' a w)→if Region.wanted oi (yielded ops a.tmps)=true then Oper.wp P oi a w K' Q else True):Xt P md ops Q S L (fuel+1) listed a w:=by
 refine⟨fun h0=>(by rw[hr]at h0;cases h0),fun j hj=>?_⟩;rw[hr,QF]at hj;subst hj;unfold wpOp;simp only[hi];have hw:Region.wanted oi (yielded ops a.tmps)=true:=by rw[Region.wanted,hg]
 have h:=h (fun a' w'=>(j=L∨S w')∧Xt P md ops Q S L fuel (listed.setIfInBounds j true) a' w') fun a w h1 h2=>⟨h1,h2⟩;rw[if_pos hw]at h ⊢;exact .inl h
theorem GU{listed:Array Bool}{a:Act}{w:World}(hr:Region.ready md ops listed=[])(h:Q .normal a w):∀fuel,Xt P md ops Q S L fuel listed a w
 | 0=>⟨hr,h⟩
 | _+1=>⟨fun _=>h,by rw[hr];simp⟩
theorem Ro{id:Nat}{a:Act}{w:World}(hm:P.follows .mixedOrders=true)
  (h:Xt P .any ops Q S L ops.size (Array.replicate ops.size false) a w.drew):(Code.region id ops true).wp P Q a w:=
 wp_region_any hm (Uj _ _ _ _ h)
end
theorem ZQ{base:Nat}{T:TypeId→Prop}{w:World}{R o:Nat}{cur:Array Value}{t:TypeId}(hR:w.heap[R]?=some (.cells cur t (0,0)))(hT:¬T t)(x:Value):Qr base T w (w.setCell ⟨R,o,none⟩ x):=fun g c e _ hTe hh=>by
 rw[QM (fun e2=>?_)]
 ·exact hh
 ·subst e2;rw[hR]at hh;injection hh with hh;injection hh with _ h2;subst h2;exact hT hTe
def zB4:List Value:=[.int .i64 0,.slice none 0 0,.slice none 0 0,.nilIface]
def zBr(m:Nat):List Value:=(List.replicate m zB4).flatten
theorem QdJ(n:Nat):zBr (n+1)=zBr n++zB4:=by
 unfold zBr;rw[List.replicate_succ',List.flatten_append];simp
theorem Ui(m:Nat):zBr (m+1)=zB4++zBr m:=by
 unfold zBr;rw[List.replicate_succ,List.flatten_cons]
theorem QhG(n:Nat):(madeCells (Value.agg #[.int .i64 0,.slice none 0 0,.slice none 0 0,.nilIface]).cells (n*4)).toList=zBr n:=by
 rw[show (Value.agg #[.int .i64 0,.slice none 0 0,.slice none 0 0,.nilIface]).cells=#[.int .i64 0,.slice none 0 0,.slice none 0 0,.nilIface] from rfl];have e:∀m,(madeCells #[.int .i64 0,.slice none 0 0,.slice none 0 0,.nilIface] m).toList=(List.range m).map (fun i=>(#[Value.int .i64 0,.slice none 0 0,.slice none 0 0,.nilIface]:Array Value)[i % 4]!):=fun m=>by
  unfold madeCells;rw[Array.toList_map,Array.toList_range];rfl
 rw[e];clear e
 induction n with
 | zero=>rfl
 | succ n ih=>
  rw[QdJ,←ih,show (n+1)*4=n*4+1+1+1+1 from by omega,List.range_succ,List.range_succ,List.range_succ,List.range_succ,List.map_append,List.map_append,List.map_append,List.map_append];rw[List.append_assoc,List.append_assoc,List.append_assoc]
  congr 1
  simp only[List.map_cons,List.map_nil,List.cons_append,List.nil_append];rw[show n*4 % 4=0 from by omega,show (n*4+1) % 4=1 from by omega,show (n*4+1+1) % 4=2 from by omega,show (n*4+1+1+1) % 4=3 from by omega];rfl
theorem YK:∀(cs:List Qm)(vs:List (Value×Value)),vs.length=cs.length→(XL cs vs).length=4*cs.length
 | [],[],_=>rfl
 | [],_::_,h=>by simp at h
 | _::_,[],h=>by simp at h
 | c::cs,v::vs,h=>by
  have e:XL (c::cs) (v::vs)=Zv c v.1 v.2++XL cs vs:=rfl;have:=YK cs vs (by simpa using h);rw[e,Qw,this,QO];show 4+_=_;omega
def QcM(x:World)(g k:Nat)(v0 v1 v2 v3:Value):World:=(((x.setCell ⟨g,k*4,none⟩ v0).setCell ⟨g,k*4+1,none⟩ v1).setCell ⟨g,k*4+2,none⟩ v2).setCell ⟨g,k*4+3,none⟩ v3
theorem Qgw(L Z:List Value)(z0 z1 z2 z3 a0 a1 a2 a3:Value){k:Nat}(hl:L.length=4*k):((((L++(z0::z1::z2::z3::Z)).set (k*4) a0).set (k*4+1) a1).set (k*4+2) a2).set (k*4+3) a3=L++(a0::a1::a2::a3::Z):=by
 rw[List.set_append_right (h:=by omega),hl,show k*4-4*k=0 from by omega,List.set_cons_zero];rw[List.set_append_right (h:=by omega),hl,show k*4+1-4*k=1 from by omega,List.set_cons_succ,List.set_cons_zero];rw[List.set_append_right (h:=by omega),hl,show k*4+2-4*k=2 from by omega,List.set_cons_succ,List.set_cons_succ,List.set_cons_zero];rw[List.set_append_right (h:=by omega),hl,show k*4+3-4*k=3 from by omega,List.set_cons_succ,List.set_cons_succ,List.set_cons_succ,List.set_cons_zero]
theorem Qi3(L Z:List Value)(z0 z1 z2 z3 a3:Value){k:Nat}(hl:L.length=4*k):(L++(z0::z1::z2::z3::Z)).set (k*4+3) a3=L++(z0::z1::z2::a3::Z):=by
 rw[List.set_append_right (h:=by omega),hl,show k*4+3-4*k=3 from by omega,List.set_cons_succ,List.set_cons_succ,List.set_cons_succ,List.set_cons_zero]
structure MdR(w0:World)(bx:Nat)(cs:List Qm)(g k:Nat)(wr:World):Prop where
 r:∃vs:List (Value×Value),vs.length=k∧wr.ownsRow bx 104 4 (.slice (some ⟨g,0,none⟩) cs.length cs.length) cs.length (XL (cs.take k) vs++zBr (cs.length-k))∧Zq wr bx (cs.take k) vs
 f:Below w0.heap.size w0 wr
 l:w0.heap.size≤g
theorem MdR.blk{w0 bx cs g k wr}(h:MdR w0 bx cs g k wr):∃cur,wr.heap[g]?=some (.cells cur 104 (0,0)):=by
 obtain⟨⟨vs,_,o,_⟩,_,_⟩:=h;exact Rk o
theorem MdR.cell{w0 bx cs g k wr}(h:MdR w0 bx cs g k wr)(hk:k<cs.length):∀j,j<4→∃u,wr.cell? ⟨g,k*4+j,none⟩=some u:=by
 obtain⟨⟨vs,hv,o,_⟩,_,_⟩:=h;intro j hj;have ht:(cs.take k).length=k:=by rw[List.length_take];omega
 have hl:(XL (cs.take k) vs).length=4*k:=by rw[YK _ _ (by rw[hv,ht]),ht]
 have hx:(XL (cs.take k) vs++zBr (cs.length-k))[k*4+j]?=zB4[j]?:=by
  rw[List.getElem?_append_right (by omega),hl,show k*4+j-4*k=j from by omega,show cs.length-k=(cs.length-k-1)+1 from by omega,Ui,List.getElem?_append_left (by show j<4;exact hj)]
 have hz:j<zB4.length:=hj;rw[Zl hz]at hx;exact⟨_,Qf o hx⟩
theorem MdR.keeps{w0 bx cs g k wr wr'}(h:MdR w0 bx cs g k wr)(F:Below wr.heap.size wr wr'):MdR w0 bx cs g k wr':=by
 obtain⟨⟨vs,hv,o,a⟩,f,l⟩:=h;exact⟨⟨vs,hv,Qd o (Qh F) trivial,a.keeps (Qh F) trivial trivial trivial⟩,f.trans (F.mono f.size),l⟩
theorem Qdh{base g:Nat}{cur:Array Value}{wr:World}(hcur:wr.heap[g]?=some (.cells cur 104 (0,0)))(T:TypeId→Prop)(hT:¬T 104)(v0 v1 v2 v3:Value)(k:Nat):Qr base T wr (QcM wr g k v0 v1 v2 v3):=
 (((ZQ hcur hT v0).trans (ZQ (Qq hcur _ v0) hT v1)).trans (ZQ (Qq (Qq hcur _ v0) _ v1) hT v2)).trans (ZQ (Qq (Qq (Qq hcur _ v0) _ v1) _ v2) hT v3)
theorem MdR.put{w0 bx cs g k wr}(h:MdR w0 bx cs g k wr)(hk:k<cs.length){c:Qm}(hc:cs[k]=c){vc vt:Value}{B:Nat}(hB:bx≤B)(o:YY wr B c vc vt)(hop:c.e.op=46∨c.e.op=62∨c.e.op=63):
  MdR w0 bx cs g (k+1) (QcM wr g k (.int .i64 c.at_) vc vt (Zc c.e)):=by
 obtain⟨cur,hcur⟩:=h.blk;obtain⟨⟨vs,hv,row,all⟩,f,l⟩:=h;have ht:(cs.take k).length=k:=by rw[List.length_take];omega
 have hl:(XL (cs.take k) vs).length=4*k:=by rw[YK _ _ (by rw[hv,ht]),ht]
 have e1:cs.take (k+1)=cs.take k++[c]:=by rw[Zb hk,hc]
 have KP:=Qdh (base:=bx) hcur (fun e=>e=147∨e=140∨e=150) (by decide) (.int .i64 c.at_) vc vt (Zc c.e) k;refine⟨⟨vs++[(vc,vt)],by rw[Qw,hv];rfl,?_,?_⟩,Qp (Qp (Qp (Qp f _ _ _ l) _ _ _ l) _ _ _ l) _ _ _ l,l⟩
 ·have s:=(((row.stored (k*4) (.int .i64 c.at_)).1.stored (k*4+1) vc).1.stored (k*4+2) vt).1.stored (k*4+3) (Zc c.e);have s:=s.1;rw[show cs.length-k=(cs.length-(k+1))+1 from by omega,Ui]at s;have es:XL (cs.take k) vs++(zB4++zBr (cs.length-(k+1)))=XL (cs.take k) vs++(Value.int .i64 0::.slice none 0 0::.slice none 0 0::.nilIface::zBr (cs.length-(k+1))):=rfl;rw[es,Qgw _ _ _ _ _ _ _ _ _ _ hl]at s;rw[e1,Yr _ _ (by rw[hv,ht]),List.append_assoc];exact s
 ·rw[e1];refine Zq.snoc (c:=c) (v:=(vc,vt)) hop ?_ (all.keeps KP (.inl rfl) (.inr (.inl rfl)) (.inr (.inr rfl)));exact⟨(ZU.base o.1 hB).keeps KP (.inl rfl) (.inr (.inl rfl)),Qd (Qj o.2 hB) KP (.inr (.inr rfl))⟩
theorem MdR.off{w0 bx cs g k wr}(h:MdR w0 bx cs g k wr)(hk:k<cs.length){b:Qm}(hc:cs[k]=YW b)(hop:b.e.op=46∨b.e.op=62∨b.e.op=63):
  MdR w0 bx cs g (k+1) (wr.setCell ⟨g,k*4+3,none⟩ (Zc (YW b).e)):=by
 obtain⟨cur,hcur⟩:=h.blk;obtain⟨⟨vs,hv,row,all⟩,f,l⟩:=h;have ht:(cs.take k).length=k:=by rw[List.length_take];omega
 have hl:(XL (cs.take k) vs).length=4*k:=by rw[YK _ _ (by rw[hv,ht]),ht]
 have e1:cs.take (k+1)=cs.take k++[YW b]:=by rw[Zb hk,hc]
 have KP:=ZQ (base:=bx) (T:=fun e=>e=147∨e=140∨e=150) (o:=k*4+3) hcur (by decide) (Zc (YW b).e);have hop2:(YW b).e.op=46∨(YW b).e.op=62∨(YW b).e.op=63:=by
  show (JT (fun _=>0) b.e).op=46∨(JT (fun _=>0) b.e).op=62∨(JT (fun _=>0) b.e).op=63;unfold JT;split<;>exact hop
 refine⟨⟨vs++[(.slice none 0 0,.slice none 0 0)],by rw[Qw,hv];rfl,?_,?_⟩,Qp f _ _ _ l,l⟩
 ·have s:=(row.stored (k*4+3) (Zc (YW b).e)).1;rw[show cs.length-k=(cs.length-(k+1))+1 from by omega,Ui]at s;have es:XL (cs.take k) vs++(zB4++zBr (cs.length-(k+1)))=XL (cs.take k) vs++(Value.int .i64 0::.slice none 0 0::.slice none 0 0::.nilIface::zBr (cs.length-(k+1))):=rfl;rw[es,Qi3 _ _ _ _ _ _ _ hl]at s;rw[e1,Yr _ _ (by rw[hv,ht]),List.append_assoc];exact s
 ·rw[e1];refine Zq.snoc (c:=YW b) (v:=(.slice none 0 0,.slice none 0 0)) hop2 ?_ (all.keeps KP (.inl rfl) (.inr (.inl rfl)) (.inr (.inr rfl)));exact⟨⟨[],Q3 _ _ _ _,trivial⟩,Q3 _ _ _ _⟩
theorem MdR.all{w0 bx cs g k wr}(h:MdR w0 bx cs g k wr)(hk:cs.length≤k):PBs wr bx cs (.slice (some ⟨g,0,none⟩) cs.length cs.length)∧Below w0.heap.size w0 wr:=by
 obtain⟨⟨vs,hv,row,all⟩,f,l⟩:=h;rw[Zg hk]at row all;rw[show cs.length-k=0 by omega,show zBr 0=[] from rfl,List.append_nil]at row;exact⟨⟨vs,row,all⟩,f⟩
end Go.Proofs.YtgfhfkgdmidhpaaGreatDoor
namespace Go.Proofs.YtgfhfkgdmidhpaaGreatDoor
open Go.RowKit Go.Maps
open Go.Proofs.Tryz
set_option maxRecDepth 100000
set_option maxHeartbeats 8000000
def trI(co:Nat→Bool)(f:Nat→Qm→Qm)(bs:List Qm):List Qm:=bs.mapIdx fun i b=>if co i then f i b else YW b
theorem KN(co:Nat→Bool)(f:Nat→Qm→Qm)(bs:List Qm):(trI co f bs).length=bs.length:=by simp[trI]
theorem Ra{co:Nat→Bool}{f:Nat→Qm→Qm}{bs:List Qm}{k:Nat}(hk:k<bs.length):(trI co f bs)[k]'(by rw[KN];exact hk)=if co k then f k bs[k] else YW bs[k]:=by simp[trI]
structure QiQ(bs:List Qm)(w:World)(bx F:Nat)(a:Addr)(f:Nat→Qm→Qm):Prop where
 en:∀args (w:World),(callFunc F args).run prog w=.ok (.enter F args) w
 at_:∀i b,(f i b).at_=0
 op:∀i b,b.e.op=46∨b.e.op=62∨b.e.op=63→(f i b).e.op=46∨(f i b).e.op=62∨(f i b).e.op=63
 run:∀wr (m:Nat) (hm:m<bs.length),Below w.heap.size w wr→Calls prog F (#[.pointer (some a)]++#[.int .i64 m]) wr fun e w'=>∃vc vt,e=.returned (.agg (Zv (f m bs[m]) vc vt).toArray)∧Hid (YY w' bx (f m bs[m]) vc vt∧Below wr.heap.size wr w')
theorem Qgo(bs:List Qm)(bx F:Nat)(a:Addr)(f:Nat→Qm→Qm)(base B:Nat)(v va vu:Value)(w:World)(h:Grd w bs base B v va vu)(hT:Hid (QiQ bs w bx F a f))(hbx:bx≤w.heap.size)(hn:bs.length≤1000):
  Calls prog 44 #[.agg #[v,va,vu,v],.func (.func F) #[.pointer (some a)] #[]] w fun e w'=>∃v',e=.returned v'∧Hid (PBs w' bx (trI (coF bs) f bs) v'∧Below w.heap.size w w'):=by
 obtain⟨⟨p,cp,rfl⟩,⟨pa,ca,rfl⟩,q,d,rfl⟩:=h.form;have H:=Qc h;clear h;obtain⟨I4,Hi4,Hz4,Hs4,Hb4⟩:=info_parts Qb6;go_enter func44,ntmps44;go_wp2_with (at_make;refine QA ?_);refine Qc ?_;refine wpList_make_full _ rfl _ _ 38 rfl (w.heap.size+1) 104 I4 (.agg #[.int .i64 0,.slice none 0 0,.slice none 0 0,.nilIface]) 4 underlying38 Hi4 Hz4 Hs4 .i64 .i64 _ _ bs.length rfl rfl rfl rfl (by rw[Hb4];omega) (by unfold maxLen;omega) (by simp) ?_;intro w3 o3 g3;rw[QhG,Qt]at o3;have hG1:w.heap.size≤(w.alloc (.cells #[.slice p bs.length cp,.slice pa (QT bs).length ca,.slice q bs.length d,.slice p bs.length cp] 87)).heap.size:=by rw[Qt];omega
 have gA:=heap_alloc_last w (.cells #[.slice p bs.length cp,.slice pa (QT bs).length ca,.slice q bs.length d,.slice p bs.length cp] 87);have FA:=(Below.refl w.heap.size w).alloc (Qi _) (.cells #[.slice p bs.length cp,.slice pa (QT bs).length ca,.slice q bs.length d,.slice p bs.length cp] 87);have F3:=FA.trans ((Below.grown (Below.refl _ _) g3 (Qi _) (fun k hk=>by cases hk):Below (w.alloc (.cells #[.slice p bs.length cp,.slice pa (QT bs).length ca,.slice q bs.length d,.slice p bs.length cp] 87)).heap.size (w.alloc (.cells #[.slice p bs.length cp,.slice pa (QT bs).length ca,.slice q bs.length d,.slice p bs.length cp] 87)) w3).mono hG1);have g4:w3.heap[w.heap.size]?=some (.cells #[.slice p bs.length cp,.slice pa (QT bs).length ca,.slice q bs.length d,.slice p bs.length cp] 87 (0,0)):=QC g3 gA (fun j hj=>by cases hj);have M0:Hid (w3.heap[w.heap.size]?=some (.cells #[.slice p bs.length cp,.slice pa (QT bs).length ca,.slice q bs.length d,.slice p bs.length cp] 87 (0,0))∧MdR w bx (trI (coF bs) f bs) (w.heap.size+1) 0 w3):=⟨g4,⟨[],rfl,by rw[KN,show (trI (coF bs) f bs).take 0=[] from rfl,Nat.sub_zero];exact Qj o3 (Nat.le_succ_of_le hbx),trivial⟩,F3,Nat.le_succ _⟩;clear g3 o3 Hi4 Hz4 Hs4 Hb4 F3 g4 gA FA hG1;have k1:=Qb M0.o.1 3;simp at k1;have hwz:=lt_of_block M0.o.1;go_wp2_with fail;clear k1
 go_loopw [16] (fun ii wr=>∃i:Nat,i≤bs.length∧ii=.int .i64 i∧Hid (wr.heap[w.heap.size]?=some (.cells #[.slice p bs.length cp,.slice pa (QT bs).length ca,.slice q bs.length d,.slice p bs.length cp] 87 (0,0))∧MdR w bx (trI (coF bs) f bs) (w.heap.size+1) i wr)) (fun ii _=>bs.length-(intOf ii).toNat)
 case atStart=>exact⟨0,by omega,rfl,M0⟩
 case round=>
  clear M0 hwz;obtain⟨i,hi,rfl,HS⟩:=hrel;rename World=>wA;by_cases hlt:i<bs.length
  ·obtain⟨g,qc,cc,pt,ct,rfl,_,hg,hop,OC,OS,d0,d1,d2,d3⟩:=H.o.p.at hlt;have FA:=HS.o.2.f;obtain⟨T,x,fe,hTx,hem,het,hec⟩:=QkR bs[i].e hop;have HE:=Qc (And.intro hem (And.intro het hec));rw[hTx]at d3;replace d0:=(FA.cell (p:=⟨g,i*4,none⟩) hg).trans d0;replace d1:=(FA.cell (p:=⟨g,i*4+1,none⟩) hg).trans d1;replace d2:=(FA.cell (p:=⟨g,i*4+2,none⟩) hg).trans d2;replace d3:=(FA.cell (p:=⟨g,i*4+3,none⟩) hg).trans d3;have FB:=(Below.refl wA.heap.size wA).alloc (Qi _) (.cells #[.int .i64 bs[i].at_,.slice qc bs[i].chs.length cc,.slice pt bs[i].sts.length ct,.iface T x] 104);have HB:Hid (((wA.alloc (.cells #[.int .i64 bs[i].at_,.slice qc bs[i].chs.length cc,.slice pt bs[i].sts.length ct,.iface T x] 104)).heap[w.heap.size]?=some (.cells #[.slice (some ⟨g,0,none⟩) bs.length cp,.slice pa (QT bs).length ca,.slice q bs.length d,.slice (some ⟨g,0,none⟩) bs.length cp] 87 (0,0))∧MdR w bx (trI (coF bs) f bs) (w.heap.size+1) i (wA.alloc (.cells #[.int .i64 bs[i].at_,.slice qc bs[i].chs.length cc,.slice pt bs[i].sts.length ct,.iface T x] 104)))
    ∧(wA.alloc (.cells #[.int .i64 bs[i].at_,.slice qc bs[i].chs.length cc,.slice pt bs[i].sts.length ct,.iface T x] 104)).heap[wA.heap.size]?=some (.cells #[.int .i64 bs[i].at_,.slice qc bs[i].chs.length cc,.slice pt bs[i].sts.length ct,.iface T x] 104 (0,0))):=⟨⟨by rw[FB.block _ (lt_of_block HS.o.1)];exact HS.o.1,HS.o.2.keeps FB⟩,heap_alloc_last _ _⟩
   have hzA:=lt_of_block HS.o.1;clear OC OS FA FB HS hem het hec hTx;have e0:=Qb HB.o.1.1 0;have e1:=Qb HB.o.1.1 1;have e2:=Qb HB.o.1.1 2;simp at e0 e1 e2;go_wp2_with fail;clear d0 d1 d2 d3 e0 e1 e2;generalize wA.alloc (.cells #[.int .i64 bs[i].at_,.slice qc bs[i].chs.length cc,.slice pt bs[i].sts.length ct,.iface T x] 104)=W1 at *;refine((H.o.keeps HB.o.1.2.f).reach hlt hn).mono ?_;rintro e w3 ⟨rfl,f3⟩;have H3:Hid ((w3.heap[w.heap.size]?=some (.cells #[.slice (some ⟨g,0,none⟩) bs.length cp,.slice pa (QT bs).length ca,.slice q bs.length d,.slice (some ⟨g,0,none⟩) bs.length cp] 87 (0,0))∧MdR w bx (trI (coF bs) f bs) (w.heap.size+1) i w3)∧w3.heap[wA.heap.size]?=some (.cells #[.int .i64 bs[i].at_,.slice qc bs[i].chs.length cc,.slice pt bs[i].sts.length ct,.iface T x] 104 (0,0))):=⟨⟨by rw[f3.block _ (lt_of_block HB.o.1.1)];exact HB.o.1.1,HB.o.1.2.keeps f3⟩,by rw[f3.block _ (lt_of_block HB.o.2)];exact HB.o.2⟩;clear f3 HB;obtain⟨k,hk⟩:∃k,k=coF bs i:=⟨_,rfl⟩;rw[←hk];have HK:=Qc hk;clear hk
   cases k with
   | true=>
    go_wp2_with fail;rw[hT.out.en];unfold Oper.upon;refine(hT.out.run w3 i hlt H3.o.1.2.f).mono ?_;rintro e w4 ⟨vc,vt,rfl,HP⟩;have H4:Hid (w4.heap[w.heap.size]?=some (.cells #[.slice (some ⟨g,0,none⟩) bs.length cp,.slice pa (QT bs).length ca,.slice q bs.length d,.slice (some ⟨g,0,none⟩) bs.length cp] 87 (0,0))∧MdR w bx (trI (coF bs) f bs) (w.heap.size+1) i w4):=⟨by rw[HP.o.2.block _ (lt_of_block H3.o.1.1)];exact H3.o.1.1,H3.o.1.2.keeps HP.o.2⟩;have hlt2:i<(trI (coF bs) f bs).length:=by rw[KN];exact hlt
    obtain⟨u0,m0⟩:=H4.o.2.cell hlt2 0 (by omega);obtain⟨u1,m1⟩:=H4.o.2.cell hlt2 1 (by omega);obtain⟨u2,m2⟩:=H4.o.2.cell hlt2 2 (by omega);obtain⟨u3,m3⟩:=H4.o.2.cell hlt2 3 (by omega);obtain⟨cur,hcur⟩:=H4.o.2.blk;have n0:=Qg hcur (i*4);have n1:=Qg hcur (i*4+1);have n2:=Qg hcur (i*4+2);have n3:=Qg hcur (i*4+3);have R5:Hid ((QcM w4 (w.heap.size+1) i (.int .i64 0) vc vt (Zc (f i bs[i]).e)).heap[w.heap.size]?=some (.cells #[.slice (some ⟨g,0,none⟩) bs.length cp,.slice pa (QT bs).length ca,.slice q bs.length d,.slice (some ⟨g,0,none⟩) bs.length cp] 87 (0,0))∧MdR w bx (trI (coF bs) f bs) (w.heap.size+1) (i+1) (QcM w4 (w.heap.size+1) i (.int .i64 0) vc vt (Zc (f i bs[i]).e))):=by
     have P:=H4.o.2.put hlt2 (c:=f i bs[i]) (by rw[Ra hlt,if_pos HK.o.symm]) (Qi _) HP.o.1 (hT.out.op _ _ hop);rw[hT.out.at_]at P;refine⟨?_,P⟩;unfold QcM;rw[QM (by omega),QM (by omega),QM (by omega),QM (by omega)];exact H4.o.1
    obtain⟨pc2,cc2,rfl⟩:=HP.o.1.1.slice;obtain⟨pt2,ct2,rfl⟩:=Qa HP.o.1.2;obtain⟨TE,xE,hE⟩:=QQ (f i bs[i]).e;rw[hE]at R5;rw[show Zv (f i bs[i]) (.slice pc2 (f i bs[i]).chs.length cc2) (.slice pt2 (f i bs[i]).sts.length ct2)=[.int .i64 0,.slice pc2 (f i bs[i]).chs.length cc2,.slice pt2 (f i bs[i]).sts.length ct2,.iface TE xE] by rw[Zv,hE,hT.out.at_];rfl];unfold QcM at R5;clear hE hcur HP H3 H4 HK hlt2;simp only[Nat.add_zero]at m0;go_wp2_with fail;go_roundw
    case rel=>exact⟨i+1,by omega,by go_num,R5⟩
    case measure=>simp[intOf];omega
   | false=>
    have m3:=Qb H3.o.2 3;simp at m3;go_wp2_with fail;rw[HE.o.1,Result.andThen_ok];simp only[HE.o.2.1];unfold Oper.upon;refine(HE.o.2.2 w3).mono ?_;rintro e w4 ⟨rfl,f4⟩;have H4:Hid (w4.heap[w.heap.size]?=some (.cells #[.slice (some ⟨g,0,none⟩) bs.length cp,.slice pa (QT bs).length ca,.slice q bs.length d,.slice (some ⟨g,0,none⟩) bs.length cp] 87 (0,0))∧MdR w bx (trI (coF bs) f bs) (w.heap.size+1) i w4):=⟨by rw[f4.block _ (lt_of_block H3.o.1.1)];exact H3.o.1.1,H3.o.1.2.keeps f4⟩;have hlt2:i<(trI (coF bs) f bs).length:=by rw[KN];exact hlt
    obtain⟨u3,x3⟩:=H4.o.2.cell hlt2 3 (by omega);obtain⟨cur,hcur⟩:=H4.o.2.blk;have n3:=Qg hcur (i*4+3);have R5:Hid ((w4.setCell ⟨w.heap.size+1,i*4+3,none⟩ (Zc (JT (fun _=>0) bs[i].e))).heap[w.heap.size]?=some (.cells #[.slice (some ⟨g,0,none⟩) bs.length cp,.slice pa (QT bs).length ca,.slice q bs.length d,.slice (some ⟨g,0,none⟩) bs.length cp] 87 (0,0))∧MdR w bx (trI (coF bs) f bs) (w.heap.size+1) (i+1) (w4.setCell ⟨w.heap.size+1,i*4+3,none⟩ (Zc (JT (fun _=>0) bs[i].e)))):=by
     refine⟨?_,H4.o.2.off hlt2 (b:=bs[i]) (by rw[Ra hlt,←HK.o];rfl) hop⟩;rw[QM (by omega)];exact H4.o.1
    obtain⟨TE,xE,hE⟩:=QQ (JT (fun _=>0) bs[i].e);rw[hE]at R5 ⊢;clear hE hcur f4 H3 H4 HK hlt2 m3;go_wp2_with fail;go_roundw
    case rel=>exact⟨i+1,by omega,by go_num,R5⟩
    case measure=>simp[intOf];omega
  ·have HF:=Qc (HS.o.2.all (by rw[KN];omega));clear HS;go_wp2_with fail;go_ret;have:=HF.o;rw[KN]at this;exact⟨_,rfl,this⟩
end Go.Proofs.YtgfhfkgdmidhpaaGreatDoor
namespace Go.Proofs.YtgfhfkgdmidhpaaGreatDoor
open Go.RowKit
open Go.Proofs.Tryz
set_option maxRecDepth 100000
set_option maxHeartbeats 8000000
theorem Qh7(l lo:List Nat):(dif l lo).length≤l.length:=List.length_filter_le _ _
end Go.Proofs.YtgfhfkgdmidhpaaGreatDoor
namespace Go.Proofs.YtgfhfkgdmidhpaaGreatDoor
open Go.RowKit Go.Maps
open Go.Proofs.Tryz
set_option maxRecDepth 100000
set_option maxHeartbeats 8000000
theorem Qdg:Keyed prog 78:=int_keyed underlying78
theorem RF{a b:Nat}(h:a≠b):(Lit.int .i64 (a:Int))≠Lit.int .i64 (b:Int):=fun e=>h (by injection e with _ e2;omega)
theorem QcH{n:Nat}(h:n<10000):(Lit.int .i64 (n:Int)).wf=true:=by
 have h1:IntKind.i64.min=-9223372036854775808:=rfl;have h2:IntKind.i64.max=9223372036854775807:=rfl;simp[Lit.wf,h1,h2];omega
end Go.Proofs.YtgfhfkgdmidhpaaGreatDoor
namespace Go.Proofs.YtgfhfkgdmidhpaaGreatDoor
open Go.RowKit
open Go.Proofs.Tryz
set_option maxRecDepth 100000
set_option maxHeartbeats 8000000
def VE(bs:List Qm)(b m:Nat):List Nat:=(List.range m).filter (KC (suF bs) bs.length b)
theorem QaK(bs b m):VE bs b (m+1)=if KC (suF bs) bs.length b m then VE bs b m++[m] else VE bs b m:=by
 rw[VE,List.range_succ,List.filter_append];cases h:KC (suF bs) bs.length b m<;>simp[h,VE]
theorem Qc1(bs b m):(VE bs b m).length≤m:=by
 have:=List.length_filter_le (KC (suF bs) bs.length b) (List.range m);simpa[VE] using this
theorem Qhn(bs:List Qm)(B b:Nat)(pv:Option Addr)(cv:Nat)(va vu:Value)(w:World)(ha:∃p n c,va=.slice p n c)(hu:XK B w vu bs.length (QW bs))(hb:b<bs.length)(hn:bs.length≤1000):
  Calls prog 214 #[.agg #[.slice pv bs.length cv,va,vu],.int .i64 b] w fun e w'=>∃v',e=.returned v'∧w'.ownsRow w.heap.size 143 1 v' (Vk (suF bs) bs.length b).length (Qe (Vk (suF bs) bs.length b))∧Below w.heap.size w w':=by
 obtain⟨pa,na,ca,rfl⟩:=ha;obtain⟨pu,cu,rfl⟩:=hu.slice;have HU:=Qc hu;clear hu;go_enter func214,ntmps214;go_wp2_with fail;obtain⟨W1,hW1⟩:∃W1,W1=w.alloc (.cells #[.slice pv bs.length cv,.slice pa na ca,.slice pu bs.length cu] 85):=⟨_,rfl⟩;rw[←hW1];have g1:W1.heap[w.heap.size]?=some (.cells #[.slice pv bs.length cv,.slice pa na ca,.slice pu bs.length cu] 85 (0,0)):=by rw[hW1];exact heap_alloc_last _ _
 have f1:Below w.heap.size w W1:=by rw[hW1];exact(Below.refl _ _).alloc (Qi _) _
 have s1:W1.heap.size=w.heap.size+1:=by rw[hW1,Qt]
 have B0:Hid (W1.heap[w.heap.size]?=some (.cells #[.slice pv bs.length cv,.slice pa na ca,.slice pu bs.length cu] 85 (0,0))∧Below w.heap.size w W1∧w.heap.size+1≤W1.heap.size):=⟨g1,f1,by omega⟩;clear hW1 g1 f1 s1
 go_loopw [5,11] (fun l i wr=>∃m:Nat,m≤bs.length∧i=.int .i64 m∧wr.ownsRow (w.heap.size+1) 143 1 l (VE bs b m).length (Qe (VE bs b m))∧Hid (wr.heap[w.heap.size]?=some (.cells #[.slice pv bs.length cv,.slice pa na ca,.slice pu bs.length cu] 85 (0,0))∧Below w.heap.size w wr∧w.heap.size+1≤wr.heap.size)) (fun _ i _=>bs.length-(intOf i).toNat)
 case atStart=>exact⟨0,by omega,rfl,Q3 _ _ _ _,B0⟩
 case round=>
  clear B0;obtain⟨m,hm,rfl,OL,HR⟩:=hrel;obtain⟨pl,cl,rfl⟩:=Qa OL;obtain⟨r0,rf,rz⟩:=HR.o;by_cases hlt:m<bs.length
  ·have k0:=Qb r0 0;have k1:=Qb r0 1;have k2:=Qb r0 2;simp at k0 k1 k2;have HA:=QaK bs b m;have hal:=Qc1 bs b m;have HU2:=Qc (HU.o.keeps rf);have OLH:=Qc OL;clear r0 rf OL;by_cases hmb:m=b
   ·have ho:KC (suF bs) bs.length b m=false:=by simp[KC,hmb]
    rw[ho,if_neg (by simp)]at HA;have HA':=Qc HA;have hd:((m:Int) != (b:Int))=false:=by simp[hmb]
    clear HA ho;go_wp2_with fail;go_roundw
    case rel=>exact⟨m+1,by omega,by go_num,by rw[HA'.o];exact OLH.o,HR⟩
    case measure=>simp[intOf];omega
   ·have hd:((m:Int) != (b:Int))=true:=by simp;omega
    have ho:KC (suF bs) bs.length b m=ZG (suF bs) bs.length m b:=by simp[KC,hmb]
    rw[ho]at HA;clear ho;go_wp2_with fail;refine(QiA bs B m b _ _ _ wr ⟨_,_,_,rfl⟩ ⟨_,_,_,rfl⟩ HU2.o hlt hb hn).mono ?_;rintro e w2 ⟨rfl,f2⟩;have s2:=f2.size;have HR2:Hid (w2.heap[w.heap.size]?=some (.cells #[.slice pv bs.length cv,.slice pa na ca,.slice pu bs.length cu] 85 (0,0))∧Below w.heap.size w w2∧w.heap.size+1≤w2.heap.size):=⟨by rw[f2.block _ (by omega)];exact HR.o.1,HR.o.2.1.trans (f2.mono (by omega)),by omega⟩;have OL2:=Qd OLH.o (Qh f2) trivial;clear f2 k0 k1 k2 HR OLH HU2
    cases hh:ZG (suF bs) bs.length m b with
    | true=>
     rw[hh,if_pos rfl]at HA;have HA':=Qc HA;clear HA hh;go_wp2_with (at_builtin;refine QA ?_);refine Qc ?_;have gB:=heap_alloc_last w2 (.cells #[.int .i64 m] 143);replace OL2:=OL2.alloc (.cells #[.int .i64 m] 143);refine J7 underlying80 XV rfl (by decide) (by decide) rfl _ _ rfl rfl OL2 gB rfl rfl (List.all_eq_true.1 rfl) (by omega) (by simp;omega) ?_;intro v3 wS oS gS;have HR3:Hid (wS.heap[w.heap.size]?=some (.cells #[.slice pv bs.length cv,.slice pa na ca,.slice pu bs.length cu] 85 (0,0))∧Below w.heap.size w wS∧w.heap.size+1≤wS.heap.size):=by
      refine⟨QC gS (Qo HR2.o.1 _) (fun j hj=>by have:=(OL2.lt j hj).1;omega),Below.grown (HR2.o.2.1.alloc (by omega) _) gS (by simp;omega) (fun j hj=>by have:=(OL2.lt j hj).1;omega),?_⟩;have:=gS.size;rw[Qt]at this;omega
     clear gS gB OL2 HR2;obtain⟨p5,c5,rfl⟩:=Qa oS;go_wp2_with fail;go_roundw
     case rel=>exact⟨m+1,by omega,by go_num,by rw[HA'.o,List.length_append];simpa[Qe] using oS,HR3⟩
     case measure=>simp[intOf];omega
    | false=>
     rw[hh,if_neg (by simp)]at HA;have HA':=Qc HA;have OL3:=Qc OL2;clear HA hh OL2;go_wp2_with fail;go_roundw
     case rel=>exact⟨m+1,by omega,by go_num,by rw[HA'.o];exact OL3.o,HR2⟩
     case measure=>simp[intOf];omega
  ·have hme:m=bs.length:=by omega
   subst hme;have O9:=Qc OL;clear OL r0 rf;go_wp2_with fail;go_ret;exact⟨_,rfl,Qj O9.o (by omega),HR.o.2.1⟩
def Qk3(bs:List Qm)(b:Nat)(w:World)(e:Ending)(w':World):Prop:=
 ((∃a:Nat,WK (suF bs) bs.length b=some a∧e=.returned (.tuple #[.int .i64 a,.bool true]))∨(WK (suF bs) bs.length b=none∧e=.returned (.tuple #[.int .i64 0,.bool false])))∧Below w.heap.size w w'
theorem Qho{bs:List Qm}{b x:Nat}(h:x∈Vk (suF bs) bs.length b):x<bs.length:=(Zk.1 h).1
theorem Qem(bs:List Qm)(b:Nat):(Vk (suF bs) bs.length b).length≤bs.length:=Z2 _ _
theorem Qh4{α:Type}{P:α→Bool}{L:List α}{k:Nat}(hk:k<L.length)(hn:∀j,j<k→(hj:j<L.length)→P L[j]=false)(h:P L[k]=true):L.find? P=some L[k]:=by
 have h1:(L.take k).find? P=none:=List.find?_eq_none.2 fun x hx=>by
  obtain⟨j,hj,rfl⟩:=List.getElem_of_mem hx;rw[List.length_take]at hj;rw[List.getElem_take,hn j (by omega) (by omega)];simp
 exact Z8 hk h1 h
theorem Qh3{α:Type}{P:α→Bool}{L:List α}(hn:∀j,(hj:j<L.length)→P L[j]=false):L.find? P=none:=List.find?_eq_none.2 fun x hx=>by
 obtain⟨j,hj,rfl⟩:=List.getElem_of_mem hx;rw[hn j hj];simp
theorem QhI(bs:List Qm)(B b:Nat)(pv:Option Addr)(cv:Nat)(va vu:Value)(w:World)(ha:∃p n c,va=.slice p n c)(hu:XK B w vu bs.length (QW bs))(hb:b<bs.length)(hn:bs.length≤1000):
  Calls prog 187 #[.agg #[.slice pv bs.length cv,va,vu],.int .i64 b] w fun e w'=>Qk3 bs b w e w':=by
 obtain⟨pa,na,ca,rfl⟩:=ha;obtain⟨pu,cu,rfl⟩:=hu.slice;have HU:=Qc hu;have HK:=Qc (UX (suF bs) bs.length b);have HLT:Hid (∀x∈Vk (suF bs) bs.length b,x<bs.length):=fun x hx=>Qho hx;have HLL:=Qem bs b;clear hu;go_enter func187,ntmps187;go_wp2_with fail
 go_step3
 go_wp2_with fail;obtain⟨W1,hW1⟩:∃W1,W1=w.alloc (.cells #[.slice pv bs.length cv,.slice pa na ca,.slice pu bs.length cu] 85):=⟨_,rfl⟩;rw[←hW1];have g1:W1.heap[w.heap.size]?=some (.cells #[.slice pv bs.length cv,.slice pa na ca,.slice pu bs.length cu] 85 (0,0)):=by rw[hW1];exact heap_alloc_last _ _
 have f1:Below w.heap.size w W1:=by rw[hW1];exact(Below.refl _ _).alloc (Qi _) _
 have s1:W1.heap.size=w.heap.size+1:=by rw[hW1,Qt]
 clear hW1;refine(Qhn bs B b pv cv _ _ W1 ⟨_,_,_,rfl⟩ (HU.o.keeps f1) hb hn).mono ?_;rintro e w2 ⟨vo,rfl,o2,f2⟩;have s2:=f2.size;obtain⟨L,hL⟩:∃L,L=Vk (suF bs) bs.length b:=⟨_,rfl⟩;rw[←hL]at HK HLT HLL o2;clear hL;obtain⟨po,co,rfl⟩:=Qa o2;have B0:Hid (w2.heap[w.heap.size]?=some (.cells #[.slice pv bs.length cv,.slice pa na ca,.slice pu bs.length cu] 85 (0,0))∧w2.ownsRow w.heap.size 143 1 (.slice po L.length co) L.length (Qe L)∧Below w.heap.size w w2∧w.heap.size+1≤w2.heap.size):=⟨by rw[f2.block _ (by omega)];exact g1,Qj o2 (by omega),f1.trans (f2.mono (by omega)),by omega⟩;clear g1 f1 s1 o2 f2 s2;go_wp2_with fail
 go_step3
 go_wp2_with fail
 go_loopw [16] (fun i wr=>∃k:Nat,k≤L.length∧i=.int .i64 k∧Hid (∀j,j<k→(hj:j<L.length)→(L.all fun c=>ZG (suF bs) bs.length c L[j])=false)∧Hid (wr.heap[w.heap.size]?=some (.cells #[.slice pv bs.length cv,.slice pa na ca,.slice pu bs.length cu] 85 (0,0))∧wr.ownsRow w.heap.size 143 1 (.slice po L.length co) L.length (Qe L)∧Below w.heap.size w wr∧w.heap.size+1≤wr.heap.size)) (fun i _=>L.length-(intOf i).toNat)
 case atStart=>exact⟨0,by omega,rfl,fun j hj=>by omega,B0⟩
 case round=>
  clear B0;obtain⟨k,hk,rfl,HN,HR⟩:=hrel;by_cases hlt:k<L.length
  ·obtain⟨go,rfl,_,hgs⟩:=Qk HR.o.2.1 (by omega);have c0:=Qf HR.o.2.1 (QY hlt);have hLk:=HLT.o _ (Qx hlt);go_wp2_with fail
   go_loopw [22] (fun i wr2=>∃q:Nat,q≤L.length∧i=.int .i64 q∧Hid (∀j,j<q→(hj:j<L.length)→ZG (suF bs) bs.length L[j] L[k]=true)∧Hid (wr2.heap[w.heap.size]?=some (.cells #[.slice pv bs.length cv,.slice pa na ca,.slice pu bs.length cu] 85 (0,0))∧wr2.ownsRow w.heap.size 143 1 (.slice (some ⟨go,0,none⟩) L.length co) L.length (Qe L)∧Below w.heap.size w wr2∧w.heap.size+1≤wr2.heap.size)) (fun i _=>L.length-(intOf i).toNat)
   case atStart=>exact⟨0,by omega,rfl,fun j hj=>by omega,HR⟩
   case round=>
    clear HR c0;obtain⟨q,hq,rfl,HQ,HR2⟩:=hrel;by_cases hql:q<L.length
    ·have c1:=Qf HR2.o.2.1 (QY hql);have hLq:=HLT.o _ (Qx hql);have k0:=Qb HR2.o.1 0;have k1:=Qb HR2.o.1 1;have k2:=Qb HR2.o.1 2;simp at k0 k1 k2;have HU2:=Qc (HU.o.keeps HR2.o.2.2.1);go_wp2_with fail;refine(QiA bs B L[q] L[k] _ _ _ wr ⟨_,_,_,rfl⟩ ⟨_,_,_,rfl⟩ HU2.o hLq hLk hn).mono ?_;rintro e w5 ⟨rfl,f5⟩;have s5:=f5.size;have HR5:Hid (w5.heap[w.heap.size]?=some (.cells #[.slice pv bs.length cv,.slice pa na ca,.slice pu bs.length cu] 85 (0,0))∧w5.ownsRow w.heap.size 143 1 (.slice (some ⟨go,0,none⟩) L.length co) L.length (Qe L)∧Below w.heap.size w w5∧w.heap.size+1≤w5.heap.size):=⟨by rw[f5.block _ (by have:=HR2.o.2.2.2;omega)];exact HR2.o.1,Qd HR2.o.2.1 (Qh f5) trivial,HR2.o.2.2.1.trans (f5.mono (by have:=HR2.o.2.2.2;omega)),by have:=HR2.o.2.2.2;omega⟩;clear f5 c1 k0 k1 k2 HU2
     cases hh:ZG (suF bs) bs.length L[q] L[k] with
     | true=>
      have HQ2:Hid (∀j,j<q+1→(hj:j<L.length)→ZG (suF bs) bs.length L[j] L[k]=true):=fun j hj hjl=>by
       by_cases e:j=q
       ·subst e;exact hh
       ·exact HQ.o j (by omega) hjl
      clear hh;go_wp2_with fail;go_roundw
      case rel=>exact⟨q+1,by omega,by go_num,HQ2,HR5⟩
      case measure=>simp[intOf];omega
     | false=>
      have HN2:Hid (∀j,j<k+1→(hj:j<L.length)→(L.all fun c=>ZG (suF bs) bs.length c L[j])=false):=fun j hj hjl=>by
       by_cases e:j=k
       ·subst e;rw[List.all_eq_false];exact⟨L[q],List.getElem_mem hql,by rw[hh];simp⟩
       ·exact HN.o j (by omega) hjl
      clear hh;go_wp2_with fail;go_roundw
      case rel=>exact⟨k+1,by omega,by go_num,HN2,HR5⟩
      case measure=>simp[intOf];omega
    ·have HALL:Hid (WK (suF bs) bs.length b=some L[k]):=by
      rw[HK.o];refine Qh4 hlt HN.o ?_;rw[Xi];intro c hc;obtain⟨j,hj,rfl⟩:=List.getElem_of_mem hc;exact HQ.o j (by omega) hj
     go_wp2_with fail
     go_ret2
     exact⟨.inl ⟨_,HALL.o,rfl⟩,HR2.o.2.2.1⟩
  ·have HNO:Hid (WK (suF bs) bs.length b=none):=by
    rw[HK.o];exact Qh3 fun j hj=>HN.o j (by omega) hj
   go_wp2_with fail
   go_ret2
   exact⟨.inr ⟨HNO.o,rfl⟩,HR.o.2.2.1⟩
end Go.Proofs.YtgfhfkgdmidhpaaGreatDoor
