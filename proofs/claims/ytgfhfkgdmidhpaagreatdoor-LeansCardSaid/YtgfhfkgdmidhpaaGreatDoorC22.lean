import Derived.Test.YtgfhfkgdmidhpaaGreatDoorC21
import Derived.Deep.RegionHeld
namespace Go.Proofs.YtgfhfkgdmidhpaaGreatDoor
open Go.RowKit
set_option maxRecDepth 100000
set_option maxHeartbeats 8000000
def Ko(f:Nat→Nat)(t:Qy):Qy:={ t with to:=(f t.to.1,0),a:=(f t.a.1,0),b:=(f t.b.1,0) }
def Yz(co:Nat→Bool)(f:Nat→Nat)(c:QH):QH:=⟨(f c.to.1,0),c.gs.map fun g=>(g.1,0),List.zipWith (fun g r=>((if co g.1 then f r.1 else 0),0)) c.gs c.rs⟩
def XH(f:Nat→Nat)(e:Z3):Z3:=if e.op=63 then { e with a:=(f e.a.1,0) } else e
def KD(b:Ql):Ql:=⟨[],[],XH (fun _=>0) b.e,0⟩
noncomputable def mgR(co:Nat→Bool)(st:Nat→Nat)(b:Ql):Ql:=⟨(b.chs.filter fun c=>rt st c.to.1==c.to.1).map (Yz co (nm st)),(b.sts.filter fun t=>t.op != 99).map (Ko (nm st)),XH (nm st) b.e,0⟩
def JF(W:Nat→Bool)(t:Qy):Bool:=t.op==63||(t.op==33||W t.to.1)
def drR(W:Nat→Bool)(b:Ql):Ql:=⟨b.chs.filter fun c=>W c.to.1,b.sts.filter (JF W),b.e,0⟩
def trR(co:Nat→Bool)(f:Ql→Ql)(bs:List Ql):List Ql:=bs.mapIdx fun i b=>if co i then f b else KD b
theorem QgO(f:Nat→Nat)(t:Qy):QA (Ko f t)=rnS f (QA t):=by
 unfold QA Ko;dsimp only;by_cases h1:t.op=118
 ·rw[if_pos h1,if_pos h1];rfl
 rw[if_neg h1,if_neg h1];by_cases h2:t.op=99
 ·rw[if_pos h2,if_pos h2];rfl
 rw[if_neg h2,if_neg h2];by_cases h3:t.op=33
 ·rw[if_pos h3,if_pos h3];rfl
 rw[if_neg h3,if_neg h3];by_cases h4:t.op=63
 ·rw[if_pos h4,if_pos h4];rfl
 rw[if_neg h4,if_neg h4];rfl
theorem Nl(t:Qy):WX (QA t)=(t.op==99):=by
 unfold QA;by_cases h1:t.op=118
 ·rw[if_pos h1,h1];rfl
 rw[if_neg h1];by_cases h2:t.op=99
 ·rw[if_pos h2,h2];rfl
 rw[if_neg h2];have e:(t.op==99)=false:=by simpa using h2
 rw[e];by_cases h3:t.op=33
 ·rw[if_pos h3];rfl
 rw[if_neg h3];by_cases h4:t.op=63
 ·rw[if_pos h4];rfl
 rw[if_neg h4];rfl
theorem QcO(W:Nat→Bool)(t:Qy):JG W (QA t)=JF W t:=by
 unfold QA JF;by_cases h1:t.op=118
 ·rw[if_pos h1,h1];rfl
 rw[if_neg h1];by_cases h2:t.op=99
 ·rw[if_pos h2,h2];rfl
 rw[if_neg h2];by_cases h3:t.op=33
 ·rw[if_pos h3,h3];rfl
 rw[if_neg h3];by_cases h4:t.op=63
 ·rw[if_pos h4,h4];rfl
 rw[if_neg h4,show (t.op==63)=false by simpa using h4,show (t.op==33)=false by simpa using h3];rfl
theorem QgP(co:Nat→Bool)(f:Nat→Nat)(c:QH):QL (Yz co f c)=rnC co f (QL c):=by
 unfold QL Yz rnC;dsimp only
 congr 1
 rw[List.map_map];generalize c.gs=gs;generalize c.rs=rs
 induction gs generalizing rs with
 | nil=>rfl
 | cons g gs ih=>
  cases rs with
  | nil=>rfl
  | cons r rs=>
   rw[List.zipWith_cons_cons,List.map_cons,List.map_cons,List.zip_cons_cons,ih,List.map_cons,List.map_cons,List.zip_cons_cons,List.map_cons];rfl
theorem QbL(f:Nat→Nat)(e:Z3):Zc (XH f e)=rnE f (Zc e):=by
 unfold XH rnE;by_cases h:e.op=63
 ·rw[if_pos h,if_pos (show (Zc e).op=63 from h)];rfl
 ·rw[if_neg h,if_neg (show ¬(Zc e).op=63 from h)]
theorem Jm{α β:Type}(g:α→β)(p:β→Bool)(q:α→Bool)(h:∀x,p (g x)=q x):∀l:List α,(l.map g).filter p=(l.filter q).map g
 | []=>rfl
 | x::l=>by
  have ih:=Jm g p q h l
  cases hx:q x with
  | true=>rw[List.map_cons,List.filter_cons_of_pos (by rw[h,hx]),List.filter_cons_of_pos hx,List.map_cons,ih]
  | false=>rw[List.map_cons,List.filter_cons_of_neg (by rw[h,hx];decide),List.filter_cons_of_neg (by rw[hx];decide),ih]
theorem Qe0(b:Ql):Zy (KD b)=Y8 (Zy b):=by
 unfold Zy KD Y8;dsimp only;rw[QbL];rfl
theorem Wd(co:Nat→Bool)(st:Nat→Nat)(b:Ql):Zy (mgR co st b)=mgB co st (Zy b):=by
 unfold Zy mgR mgB;dsimp only;rw[QbL,List.map_map,List.map_map]
 congr 1
 ·rw[Jm QL _ (fun c=>rt st c.to.1==c.to.1) (fun _=>rfl),List.map_map];exact List.map_congr_left fun c _=>QgP _ _ _
 ·rw[Jm QA _ (fun t=>t.op != 99) (fun t=>by rw[Nl];rfl),List.map_map];exact List.map_congr_left fun c _=>QgO _ _
theorem QgQ(W:Nat→Bool)(b:Ql):Zy (drR W b)=drB W (Zy b):=by
 unfold Zy drR drB;dsimp only
 congr 1
 ·rw[Jm QL _ (fun c=>W c.to.1) (fun _=>rfl)]
 ·rw[Jm QA _ (JF W) (fun t=>QcO W t)]
theorem Vn{co:Nat→Bool}{f:Ql→Ql}{g:ABk→ABk}(h:∀b,Zy (f b)=g (Zy b))(bs:List Ql):absP (trR co f bs)=trA co g (absP bs):=by
 unfold absP trR trA;refine List.ext_getElem (by simp) fun i h1 h2=>?_;simp only[List.getElem_map,List.getElem_mapIdx];split
 ·exact h _
 ·exact Qe0 _
theorem Zq(co f)(bs:List Ql):(trR co f bs).length=bs.length:=by simp[trR]
def nmV(pn ps:Nat):Value:=.func (.func 153) #[] #[.pointer (some ⟨pn,0,none⟩),.pointer (some ⟨ps,0,none⟩)]
theorem Qab(st:Nat→Nat)(n r a pn ps:Nat)(w:World)(h:NmI w n pn ps st)(hk:Hid (StK n st))(hr:r<n)(hn:n≤100000):
  Calls Tryz.prog 289 #[nmV pn ps,.agg #[.int .i64 r,.int .i64 a]] w fun e w'=>e=.returned (.agg #[.int .i64 (nm st r),.int .i64 0])∧Below w.heap.size w w':=by
 have H:=Qc h;clear h;unfold nmV;go_enter Tryz.func289,Tryz.ntmps289;go_wp2_with fail;obtain⟨W,hW⟩:∃W,W=(w.alloc (.cells #[.int .i64 r,.int .i64 a] 132)).alloc (.cells #[.int .i64 0,.int .i64 0] 132):=⟨_,rfl⟩;rw[←hW];have FW:Below w.heap.size w W:=by rw[hW];exact((Below.refl _ _).alloc (Nat.le_refl _) _).alloc (by simp) _
 have bW:W.heap[w.heap.size+1]?=some (.cells #[.int .i64 0,.int .i64 0] 132 (0,0)):=by
  rw[hW];have:=heap_alloc_last (w.alloc (.cells #[.int .i64 r,.int .i64 a] 132)) (.cells #[.int .i64 0,.int .i64 0] 132);rw[World.size_alloc]at this;exact this
 have zW:=lt_of_block bW;refine(QdF st n r pn ps W (H.o.keeps FW) hk hr hn).mono ?_;rintro e w3 ⟨rfl,f3⟩;have b3:w3.heap[w.heap.size+1]?=some (.cells #[.int .i64 0,.int .i64 0] 132 (0,0)):=by rw[f3.block _ zW];exact bW
 have F3:=Qc (FW.trans (f3.mono FW.size));have k0:=Qa b3 0;have k1:=Qa b3 1;have kf:=Qf b3 0;have kf1:=Qf b3 1;simp at k0 k1;obtain⟨W4,hW4⟩:∃W4,W4=(w3.setCell ⟨w.heap.size+1,0,none⟩ (.int .i64 (nm st r))).setCell ⟨w.heap.size+1,1,none⟩ (.int .i64 0):=⟨_,rfl⟩;have b4:W4.heap[w.heap.size+1]?=some (.cells #[.int .i64 (nm st r),.int .i64 0] 132 (0,0)):=by
  rw[hW4];exact Qp (Qp b3 0 _) 1 _
 have F4:=Qc (show Below w.heap.size w W4 by rw[hW4];exact Qr (Qr F3.o _ _ _ (by omega)) _ _ _ (by omega));have q0:=Qa b4 0;have q1:=Qa b4 1;simp at q0 q1;clear f3 FW bW b3 hW b4;go_wp2_with fail;rw[←hW4];refine bodyPost_ret (v:=.agg #[.int .i64 (nm st r),.int .i64 0]) (by simp[results,Tryz.results289,go_sem,q0,q1]) rfl ⟨rfl,F4.o⟩
theorem unP(r:Nat)(w:World):Calls Tryz.prog 78 #[.int .i64 r] w fun e w'=>e=.returned (.int .i64 0)∧w'=w:=by
 go_enter Tryz.func78,Tryz.ntmps78;go_wp2_with fail;go_ret;exact⟨rfl,rfl⟩
def unV:Value:=.func (.func 78) #[] #[]
theorem Qjs(r a:Nat)(w:World):Calls Tryz.prog 289 #[unV,.agg #[.int .i64 r,.int .i64 a]] w fun e w'=>e=.returned (.agg #[.int .i64 0,.int .i64 0])∧Below w.heap.size w w':=by
 unfold unV;go_enter Tryz.func289,Tryz.ntmps289;go_wp2_with fail;refine(unP r _).mono ?_;rintro e w3 ⟨rfl,rfl⟩;go_wp2_with fail;refine bodyPost_ret (v:=.agg #[.int .i64 0,.int .i64 0]) (by simp[results,Tryz.results289,go_sem]) rfl ⟨rfl,((Below.refl _ _).alloc (Nat.le_refl _) _).alloc (by simp) _⟩
theorem Qhw(st:Nat→Nat)(n pn ps:Nat)(t ta:Nat)(v:Int)(w:World)(h:NmI w n pn ps st)(hk:Hid (StK n st))(hn:n≤100000)(h1:t<n):
  Calls Tryz.prog 297 #[.agg #[.int .i64 t,.int .i64 ta,.int .i64 v],nmV pn ps,nmV pn ps] w fun e w'=>e=.returned (.iface 177 (.agg #[.int .i64 (nm st t),.int .i64 0,.int .i64 v]))∧Below w.heap.size w w':=by
 have H:=Qc h;clear h;unfold nmV;go_enter Tryz.func297,Tryz.ntmps297;go_wp2_with fail;have F1:=Qc ((Below.refl w.heap.size w).alloc (Nat.le_refl _) (.cells #[.int .i64 t,.int .i64 ta,.int .i64 v] 177));have g1:=heap_alloc_last w (.cells #[.int .i64 t,.int .i64 ta,.int .i64 v] 177);have sW:w.heap.size<(w.alloc (.cells #[.int .i64 t,.int .i64 ta,.int .i64 v] 177)).heap.size:=by rw[World.size_alloc];omega
 generalize w.alloc (.cells #[.int .i64 t,.int .i64 ta,.int .i64 v] 177)=W at *;have k0:=Qa g1 0;have k1:=Qa g1 1;have k2:=Qa g1 2;simp at k0 k1 k2;clear g1
 go_region_held (fun w'=>w'.cell? ⟨w.heap.size,0,none⟩=some (.int .i64 t)∧w'.cell? ⟨w.heap.size,1,none⟩=some (.int .i64 ta)∧w'.cell? ⟨w.heap.size,2,none⟩=some (.int .i64 v)) (simp[*])
  (first | (go_at_call 289;refine(Qab st n t ta pn ps W.drew (H.o.keeps (VU F1.o)) hk h1 hn).mono ?_;rintro e v0 ⟨rfl,f⟩;have f':=Ja f;have y00:=(f'.cell (p:=⟨w.heap.size,0,none⟩) sW).trans k0;have y01:=(f'.cell (p:=⟨w.heap.size,1,none⟩) sW).trans k1;have y02:=(f'.cell (p:=⟨w.heap.size,2,none⟩) sW).trans k2;have O0:=Qc (F1.o.trans (f'.mono (Nat.le_of_lt sW)));have s0:=f'.size;clear f f'))
 all_goals
  go_wp2_with fail;go_ret;exact⟨rfl,O0.o⟩
theorem Qhv(st:Nat→Nat)(n pn ps:Nat)(t ta:Nat)(w:World)(h:NmI w n pn ps st)(hk:Hid (StK n st))(hn:n≤100000)(h1:t<n):
  Calls Tryz.prog 305 #[.agg #[.int .i64 t,.int .i64 ta],nmV pn ps,nmV pn ps] w fun e w'=>e=.returned (.iface 272 (.agg #[.int .i64 (nm st t),.int .i64 0]))∧Below w.heap.size w w':=by
 have H:=Qc h;clear h;unfold nmV;go_enter Tryz.func305,Tryz.ntmps305;go_wp2_with fail;have F1:=Qc ((Below.refl w.heap.size w).alloc (Nat.le_refl _) (.cells #[.int .i64 t,.int .i64 ta] 272));refine(Qab st n t ta pn ps (w.alloc (.cells #[.int .i64 t,.int .i64 ta] 272)) (H.o.keeps F1.o) hk h1 hn).mono ?_;rintro e v0 ⟨rfl,f⟩;have O0:=Qc (F1.o.trans (f.mono F1.o.size));clear f;go_wp2_with fail;go_ret;exact⟨rfl,O0.o⟩
theorem QiP(st:Nat→Nat)(n pn ps:Nat)(t ta:Nat)(w:World)(h:NmI w n pn ps st)(hk:Hid (StK n st))(hn:n≤100000)(h1:t<n):
  Calls Tryz.prog 317 #[.agg #[.int .i64 t,.int .i64 ta],nmV pn ps,nmV pn ps] w fun e w'=>e=.returned (.iface 315 (.agg #[.int .i64 (nm st t),.int .i64 0]))∧Below w.heap.size w w':=by
 have H:=Qc h;clear h;unfold nmV;go_enter Tryz.func317,Tryz.ntmps317;go_wp2_with fail;have F1:=Qc ((Below.refl w.heap.size w).alloc (Nat.le_refl _) (.cells #[.int .i64 t,.int .i64 ta] 315));refine(Qab st n t ta pn ps (w.alloc (.cells #[.int .i64 t,.int .i64 ta] 315)) (H.o.keeps F1.o) hk h1 hn).mono ?_;rintro e v0 ⟨rfl,f⟩;have O0:=Qc (F1.o.trans (f.mono F1.o.size));clear f;go_wp2_with fail;go_ret;exact⟨rfl,O0.o⟩
theorem Qhz(st:Nat→Nat)(n pn ps:Nat)(t ta a aa o b ba:Nat)(w:World)(h:NmI w n pn ps st)(hk:Hid (StK n st))(hn:n≤100000)(h1:t<n)(h2:a<n)(h3:b<n):
  Calls Tryz.prog 326 #[.agg #[.int .i64 t,.int .i64 ta,.int .i64 a,.int .i64 aa,.int .i64 o,.int .i64 b,.int .i64 ba],nmV pn ps,nmV pn ps] w fun e w'=>e=.returned (.iface 370 (.agg #[.int .i64 (nm st t),.int .i64 0,.int .i64 (nm st a),.int .i64 0,.int .i64 o,.int .i64 (nm st b),.int .i64 0]))∧Below w.heap.size w w':=by
 have H:=Qc h;clear h;unfold nmV;go_enter Tryz.func326,Tryz.ntmps326;go_wp2_with fail;have F1:=Qc ((Below.refl w.heap.size w).alloc (Nat.le_refl _) (.cells #[.int .i64 t,.int .i64 ta,.int .i64 a,.int .i64 aa,.int .i64 o,.int .i64 b,.int .i64 ba] 370));have g1:=heap_alloc_last w (.cells #[.int .i64 t,.int .i64 ta,.int .i64 a,.int .i64 aa,.int .i64 o,.int .i64 b,.int .i64 ba] 370);have sW:w.heap.size<(w.alloc (.cells #[.int .i64 t,.int .i64 ta,.int .i64 a,.int .i64 aa,.int .i64 o,.int .i64 b,.int .i64 ba] 370)).heap.size:=by rw[World.size_alloc];omega
 generalize w.alloc (.cells #[.int .i64 t,.int .i64 ta,.int .i64 a,.int .i64 aa,.int .i64 o,.int .i64 b,.int .i64 ba] 370)=W at *;have k0:=Qa g1 0;have k1:=Qa g1 1;have k2:=Qa g1 2;have k3:=Qa g1 3;have k4:=Qa g1 4;have k5:=Qa g1 5;have k6:=Qa g1 6;simp at k0 k1 k2 k3 k4 k5 k6;clear g1
 go_region_held (fun w'=>w'.cell? ⟨w.heap.size,0,none⟩=some (.int .i64 t)∧w'.cell? ⟨w.heap.size,1,none⟩=some (.int .i64 ta)∧w'.cell? ⟨w.heap.size,2,none⟩=some (.int .i64 a)∧w'.cell? ⟨w.heap.size,3,none⟩=some (.int .i64 aa)∧w'.cell? ⟨w.heap.size,4,none⟩=some (.int .i64 o)∧w'.cell? ⟨w.heap.size,5,none⟩=some (.int .i64 b)∧w'.cell? ⟨w.heap.size,6,none⟩=some (.int .i64 ba)) (simp[*])
  (first | (go_at_call 289;refine(Qab st n t ta pn ps W.drew (H.o.keeps (VU F1.o)) hk h1 hn).mono ?_;rintro e v0 ⟨rfl,f⟩;have f':=Ja f;have y00:=(f'.cell (p:=⟨w.heap.size,0,none⟩) sW).trans k0;have y01:=(f'.cell (p:=⟨w.heap.size,1,none⟩) sW).trans k1;have y02:=(f'.cell (p:=⟨w.heap.size,2,none⟩) sW).trans k2;have y03:=(f'.cell (p:=⟨w.heap.size,3,none⟩) sW).trans k3;have y04:=(f'.cell (p:=⟨w.heap.size,4,none⟩) sW).trans k4;have y05:=(f'.cell (p:=⟨w.heap.size,5,none⟩) sW).trans k5;have y06:=(f'.cell (p:=⟨w.heap.size,6,none⟩) sW).trans k6;have O0:=Qc (F1.o.trans (f'.mono (Nat.le_of_lt sW)));have s0:=f'.size;clear f f') | (go_at_call 289;refine(Qab st n a aa pn ps v0 (H.o.keeps O0.o) hk h2 hn).mono ?_;rintro e v1 ⟨rfl,f⟩;have y10:=(f.cell (p:=⟨w.heap.size,0,none⟩) (Nat.lt_of_lt_of_le sW s0)).trans y00;have y11:=(f.cell (p:=⟨w.heap.size,1,none⟩) (Nat.lt_of_lt_of_le sW s0)).trans y01;have y12:=(f.cell (p:=⟨w.heap.size,2,none⟩) (Nat.lt_of_lt_of_le sW s0)).trans y02;have y13:=(f.cell (p:=⟨w.heap.size,3,none⟩) (Nat.lt_of_lt_of_le sW s0)).trans y03;have y14:=(f.cell (p:=⟨w.heap.size,4,none⟩) (Nat.lt_of_lt_of_le sW s0)).trans y04;have y15:=(f.cell (p:=⟨w.heap.size,5,none⟩) (Nat.lt_of_lt_of_le sW s0)).trans y05;have y16:=(f.cell (p:=⟨w.heap.size,6,none⟩) (Nat.lt_of_lt_of_le sW s0)).trans y06;have O1:=Qc (O0.o.trans (f.mono O0.o.size));have s1:=Nat.le_trans s0 f.size;clear f) | (go_at_call 289;refine(Qab st n b ba pn ps v1 (H.o.keeps O1.o) hk h3 hn).mono ?_;rintro e v2 ⟨rfl,f⟩;have y20:=(f.cell (p:=⟨w.heap.size,0,none⟩) (Nat.lt_of_lt_of_le sW s1)).trans y10;have y21:=(f.cell (p:=⟨w.heap.size,1,none⟩) (Nat.lt_of_lt_of_le sW s1)).trans y11;have y22:=(f.cell (p:=⟨w.heap.size,2,none⟩) (Nat.lt_of_lt_of_le sW s1)).trans y12;have y23:=(f.cell (p:=⟨w.heap.size,3,none⟩) (Nat.lt_of_lt_of_le sW s1)).trans y13;have y24:=(f.cell (p:=⟨w.heap.size,4,none⟩) (Nat.lt_of_lt_of_le sW s1)).trans y14;have y25:=(f.cell (p:=⟨w.heap.size,5,none⟩) (Nat.lt_of_lt_of_le sW s1)).trans y15;have y26:=(f.cell (p:=⟨w.heap.size,6,none⟩) (Nat.lt_of_lt_of_le sW s1)).trans y16;have O2:=Qc (O1.o.trans (f.mono O1.o.size));have s2:=Nat.le_trans s1 f.size;clear f))
 all_goals
  go_wp2_with fail;go_ret;exact⟨rfl,O2.o⟩
theorem Qhx(st:Nat→Nat)(n pn ps:Nat)(t ta a aa b ba:Nat)(w:World)(h:NmI w n pn ps st)(hk:Hid (StK n st))(hn:n≤100000)(h1:t<n):
  Calls Tryz.prog 321 #[.agg #[.int .i64 t,.int .i64 ta,.int .i64 a,.int .i64 aa,.int .i64 b,.int .i64 ba],nmV pn ps] w fun e w'=>e=.returned (.iface 353 (.agg #[.int .i64 (nm st t),.int .i64 0,.int .i64 a,.int .i64 aa,.int .i64 b,.int .i64 ba]))∧Below w.heap.size w w':=by
 have H:=Qc h;clear h;unfold nmV;go_enter Tryz.func321,Tryz.ntmps321;go_wp2_with fail;have F1:=Qc ((Below.refl w.heap.size w).alloc (Nat.le_refl _) (.cells #[.int .i64 t,.int .i64 ta,.int .i64 a,.int .i64 aa,.int .i64 b,.int .i64 ba] 353));have g1:=heap_alloc_last w (.cells #[.int .i64 t,.int .i64 ta,.int .i64 a,.int .i64 aa,.int .i64 b,.int .i64 ba] 353);have sW:w.heap.size<(w.alloc (.cells #[.int .i64 t,.int .i64 ta,.int .i64 a,.int .i64 aa,.int .i64 b,.int .i64 ba] 353)).heap.size:=by rw[World.size_alloc];omega
 generalize w.alloc (.cells #[.int .i64 t,.int .i64 ta,.int .i64 a,.int .i64 aa,.int .i64 b,.int .i64 ba] 353)=W at *;have k0:=Qa g1 0;have k1:=Qa g1 1;have k2:=Qa g1 2;have k3:=Qa g1 3;have k4:=Qa g1 4;have k5:=Qa g1 5;simp at k0 k1 k2 k3 k4 k5;clear g1
 go_region_held (fun w'=>w'.cell? ⟨w.heap.size,0,none⟩=some (.int .i64 t)∧w'.cell? ⟨w.heap.size,1,none⟩=some (.int .i64 ta)∧w'.cell? ⟨w.heap.size,2,none⟩=some (.int .i64 a)∧w'.cell? ⟨w.heap.size,3,none⟩=some (.int .i64 aa)∧w'.cell? ⟨w.heap.size,4,none⟩=some (.int .i64 b)∧w'.cell? ⟨w.heap.size,5,none⟩=some (.int .i64 ba)) (simp[*])
  (first | (go_at_call 289;refine(Qab st n t ta pn ps W.drew (H.o.keeps (VU F1.o)) hk h1 hn).mono ?_;rintro e v0 ⟨rfl,f⟩;have f':=Ja f;have y00:=(f'.cell (p:=⟨w.heap.size,0,none⟩) sW).trans k0;have y01:=(f'.cell (p:=⟨w.heap.size,1,none⟩) sW).trans k1;have y02:=(f'.cell (p:=⟨w.heap.size,2,none⟩) sW).trans k2;have y03:=(f'.cell (p:=⟨w.heap.size,3,none⟩) sW).trans k3;have y04:=(f'.cell (p:=⟨w.heap.size,4,none⟩) sW).trans k4;have y05:=(f'.cell (p:=⟨w.heap.size,5,none⟩) sW).trans k5;have O0:=Qc (F1.o.trans (f'.mono (Nat.le_of_lt sW)));have s0:=f'.size;clear f f'))
 all_goals
  go_wp2_with fail;go_ret;exact⟨rfl,O0.o⟩
theorem Qhb(t ta a aa b ba:Nat)(w:World) :
  Calls Tryz.prog 321 #[.agg #[.int .i64 t,.int .i64 ta,.int .i64 a,.int .i64 aa,.int .i64 b,.int .i64 ba],unV] w fun e w'=>e=.returned (.iface 353 (.agg #[.int .i64 0,.int .i64 0,.int .i64 a,.int .i64 aa,.int .i64 b,.int .i64 ba]))∧Below w.heap.size w w':=by
 unfold unV;go_enter Tryz.func321,Tryz.ntmps321;go_wp2_with fail;have F1:=Qc ((Below.refl w.heap.size w).alloc (Nat.le_refl _) (.cells #[.int .i64 t,.int .i64 ta,.int .i64 a,.int .i64 aa,.int .i64 b,.int .i64 ba] 353));have g1:=heap_alloc_last w (.cells #[.int .i64 t,.int .i64 ta,.int .i64 a,.int .i64 aa,.int .i64 b,.int .i64 ba] 353);have sW:w.heap.size<(w.alloc (.cells #[.int .i64 t,.int .i64 ta,.int .i64 a,.int .i64 aa,.int .i64 b,.int .i64 ba] 353)).heap.size:=by rw[World.size_alloc];omega
 generalize w.alloc (.cells #[.int .i64 t,.int .i64 ta,.int .i64 a,.int .i64 aa,.int .i64 b,.int .i64 ba] 353)=W at *;have k0:=Qa g1 0;have k1:=Qa g1 1;have k2:=Qa g1 2;have k3:=Qa g1 3;have k4:=Qa g1 4;have k5:=Qa g1 5;simp at k0 k1 k2 k3 k4 k5;clear g1
 go_region_held (fun w'=>w'.cell? ⟨w.heap.size,0,none⟩=some (.int .i64 t)∧w'.cell? ⟨w.heap.size,1,none⟩=some (.int .i64 ta)∧w'.cell? ⟨w.heap.size,2,none⟩=some (.int .i64 a)∧w'.cell? ⟨w.heap.size,3,none⟩=some (.int .i64 aa)∧w'.cell? ⟨w.heap.size,4,none⟩=some (.int .i64 b)∧w'.cell? ⟨w.heap.size,5,none⟩=some (.int .i64 ba)) (simp[*])
  (first | (go_at_call 289;refine(Qjs t ta W.drew).mono ?_;rintro e v0 ⟨rfl,f⟩;have f':=Ja f;have y00:=(f'.cell (p:=⟨w.heap.size,0,none⟩) sW).trans k0;have y01:=(f'.cell (p:=⟨w.heap.size,1,none⟩) sW).trans k1;have y02:=(f'.cell (p:=⟨w.heap.size,2,none⟩) sW).trans k2;have y03:=(f'.cell (p:=⟨w.heap.size,3,none⟩) sW).trans k3;have y04:=(f'.cell (p:=⟨w.heap.size,4,none⟩) sW).trans k4;have y05:=(f'.cell (p:=⟨w.heap.size,5,none⟩) sW).trans k5;have O0:=Qc (F1.o.trans (f'.mono (Nat.le_of_lt sW)));have s0:=f'.size;clear f f'))
 all_goals
  go_wp2_with fail;go_ret;exact⟨rfl,O0.o⟩
theorem Qc7(v:Value)(w:World):Calls Tryz.prog 309 #[.agg #[],v] w fun x w'=>x=.returned (.iface 309 (.agg #[]))∧Below w.heap.size w w':=by
 go_enter Tryz.func309,Tryz.ntmps309
 go_wp2
 go_ret;exact⟨rfl,(Below.refl _ _).alloc (Nat.le_refl _) _⟩
theorem Qc9(a b:Nat)(v:Value)(w:World):Calls Tryz.prog 313 #[.agg #[.int .i64 a,.int .i64 b],v] w fun x w'=>x=.returned (.iface 312 (.agg #[.int .i64 a,.int .i64 b]))∧Below w.heap.size w w':=by
 go_enter Tryz.func313,Tryz.ntmps313
 go_wp2
 go_ret;exact⟨rfl,(Below.refl _ _).alloc (Nat.le_refl _) _⟩
def StLow(n:Nat)(t:Qy):Prop:=t.to.1<n∧t.a.1<n∧t.b.1<n
theorem Qhm(st:Nat→Nat)(n pn ps:Nat)(t:Qy)(hk:Hid (StK n st))(hn:n≤100000)(hl:StLow n t)(h99:t.op≠99):∃T x fn,QE t=.iface T x∧(∀w:World,(method 500 T x "Renamed").run Tryz.prog w=.ok (fn,x) w)∧(∀args (w:World),(callFunc fn args).run Tryz.prog w=.ok (.enter fn args) w) ∧
  ∀w:World,NmI w n pn ps st→Calls Tryz.prog fn #[x,nmV pn ps,nmV pn ps] w fun r w'=>r=.returned (QE (Ko (nm st) t))∧Below w.heap.size w w':=by
 by_cases h63:t.op=63
 ·refine⟨_,_,305,by rw[QE,if_pos h63],fun w=>by kernel_rfl,enters_of Tryz.func305 (by kernel_rfl) rfl,fun w h=>(Qhv st n pn ps _ _ w h hk hn hl.1).mono ?_⟩;rintro r w' ⟨rfl,f⟩;exact⟨by rw[QE,if_pos (show (Ko (nm st) t).op=63 from h63)];rfl,f⟩
 by_cases h118:t.op=118
 ·refine⟨_,_,297,by rw[QE,if_neg h63,if_neg h99,if_pos h118],fun w=>by kernel_rfl,enters_of Tryz.func297 (by kernel_rfl) rfl,fun w h=>(Qhw st n pn ps _ _ _ w h hk hn hl.1).mono ?_⟩;rintro r w' ⟨rfl,f⟩;exact⟨by rw[QE,if_neg (show ¬(Ko (nm st) t).op=63 from h63),if_neg (show ¬(Ko (nm st) t).op=99 from h99),if_pos (show (Ko (nm st) t).op=118 from h118)];rfl,f⟩
 by_cases h33:t.op=33
 ·refine⟨_,_,317,by rw[QE,if_neg h63,if_neg h99,if_neg h118,if_pos h33],fun w=>by kernel_rfl,enters_of Tryz.func317 (by kernel_rfl) rfl,fun w h=>(QiP st n pn ps _ _ w h hk hn hl.2.1).mono ?_⟩;rintro r w' ⟨rfl,f⟩;exact⟨by rw[QE,if_neg (show ¬(Ko (nm st) t).op=63 from h63),if_neg (show ¬(Ko (nm st) t).op=99 from h99),if_neg (show ¬(Ko (nm st) t).op=118 from h118),if_pos (show (Ko (nm st) t).op=33 from h33)];rfl,f⟩
 refine⟨_,_,326,by rw[QE,if_neg h63,if_neg h99,if_neg h118,if_neg h33],fun w=>by kernel_rfl,enters_of Tryz.func326 (by kernel_rfl) rfl,fun w h=>(Qhz st n pn ps _ _ _ _ _ _ _ w h hk hn hl.1 hl.2.1 hl.2.2).mono ?_⟩;rintro r w' ⟨rfl,f⟩;exact⟨by rw[QE,if_neg (show ¬(Ko (nm st) t).op=63 from h63),if_neg (show ¬(Ko (nm st) t).op=99 from h99),if_neg (show ¬(Ko (nm st) t).op=118 from h118),if_neg (show ¬(Ko (nm st) t).op=33 from h33)];rfl,f⟩
theorem Qja(st:Nat→Nat)(n pn ps:Nat)(e:Z3)(hk:Hid (StK n st))(hn:n≤100000)(hl:e.a.1<n)(hop:e.op=46∨e.op=62∨e.op=63):∃T x fn,QP e=.iface T x∧(∀w:World,(method 500 T x "Renamed").run Tryz.prog w=.ok (fn,x) w)∧(∀args (w:World),(callFunc fn args).run Tryz.prog w=.ok (.enter fn args) w) ∧
  ∀w:World,NmI w n pn ps st→Calls Tryz.prog fn #[x,nmV pn ps] w fun r w'=>r=.returned (QP (XH (nm st) e))∧Below w.heap.size w w':=by
 rcases hop with hop|hop|hop
 ·obtain⟨a1,_⟩:=KK hop;refine⟨_,_,309,a1,fun w=>by kernel_rfl,enters_of Tryz.func309 (by kernel_rfl) rfl,fun w h=>(Qc7 _ w).mono ?_⟩;rintro r w' ⟨rfl,f⟩;rw[XH,if_neg (by omega),a1];exact⟨rfl,f⟩
 ·obtain⟨a1,_⟩:=KL hop;refine⟨_,_,313,a1,fun w=>by kernel_rfl,enters_of Tryz.func313 (by kernel_rfl) rfl,fun w h=>(Qc9 _ _ _ w).mono ?_⟩;rintro r w' ⟨rfl,f⟩;rw[XH,if_neg (by omega),a1];exact⟨rfl,f⟩
 ·obtain⟨a1,_⟩:=Jx hop;refine⟨_,_,321,a1,fun w=>by kernel_rfl,enters_of Tryz.func321 (by kernel_rfl) rfl,fun w h=>(Qhx st n pn ps _ _ _ _ _ _ w h hk hn hl).mono ?_⟩;rintro r w' ⟨rfl,f⟩;rw[XH,if_pos hop];refine⟨?_,f⟩;rw[(Jx (e:={ e with a:=(nm st e.a.1,0) }) hop).1];rfl
theorem Qi9(e:Z3)(hop:e.op=46∨e.op=62∨e.op=63):∃T x fn,QP e=.iface T x∧(∀w:World,(method 500 T x "Renamed").run Tryz.prog w=.ok (fn,x) w)∧(∀args (w:World),(callFunc fn args).run Tryz.prog w=.ok (.enter fn args) w) ∧
  ∀w:World,Calls Tryz.prog fn #[x,unV] w fun r w'=>r=.returned (QP (XH (fun _=>0) e))∧Below w.heap.size w w':=by
 rcases hop with hop|hop|hop
 ·obtain⟨a1,_⟩:=KK hop;refine⟨_,_,309,a1,fun w=>by kernel_rfl,enters_of Tryz.func309 (by kernel_rfl) rfl,fun w=>(Qc7 _ w).mono ?_⟩;rintro r w' ⟨rfl,f⟩;rw[XH,if_neg (by omega),a1];exact⟨rfl,f⟩
 ·obtain⟨a1,_⟩:=KL hop;refine⟨_,_,313,a1,fun w=>by kernel_rfl,enters_of Tryz.func313 (by kernel_rfl) rfl,fun w=>(Qc9 _ _ _ w).mono ?_⟩;rintro r w' ⟨rfl,f⟩;rw[XH,if_neg (by omega),a1];exact⟨rfl,f⟩
 ·obtain⟨a1,_⟩:=Jx hop;refine⟨_,_,321,a1,fun w=>by kernel_rfl,enters_of Tryz.func321 (by kernel_rfl) rfl,fun w=>(Qhb _ _ _ _ _ _ w).mono ?_⟩;rintro r w' ⟨rfl,f⟩;rw[XH,if_pos hop];refine⟨?_,f⟩;rw[(Jx (e:={ e with a:=(0,0) }) hop).1];rfl
def mpC(bs:List Ql)(i q:Nat):List MOp:=XK (absP bs) (coF bs) i++(((bkF bs i).chs.take q).map QL).map (MOp.ch i)
def mpS(bs:List Ql)(i j:Nat):List MOp:=XK (absP bs) (coF bs) i++(((bkF bs i).chs.map QL).map (MOp.ch i)++(((bkF bs i).sts.take j).map QA).filterMap cpO)
theorem QdG(bs i):mpC bs i 0=XK (absP bs) (coF bs) i:=by simp[mpC]
theorem QdH{bs:List Ql}{i q:Nat}(hq:q<(bkF bs i).chs.length):mpC bs i (q+1)=mpC bs i q++[MOp.ch i (QL (bkF bs i).chs[q])]:=by
 rw[mpC,mpC,List.take_succ_eq_append_getElem hq,List.map_append,List.map_append,←List.append_assoc];rfl
theorem Qf2{bs:List Ql}{i q:Nat}(hq:(bkF bs i).chs.length≤q):mpC bs i q=mpS bs i 0:=by
 rw[mpC,mpS,List.take_of_length_le hq];simp
theorem Qh0{bs:List Ql}{i j:Nat}(hj:j<(bkF bs i).sts.length)(h:(bkF bs i).sts[j].op=99):mpS bs i (j+1)=mpS bs i j++[MOp.cp (bkF bs i).sts[j].to.1 (bkF bs i).sts[j].a.1]:=by
 have e:cpO (QA (bkF bs i).sts[j])=some (MOp.cp (bkF bs i).sts[j].to.1 (bkF bs i).sts[j].a.1):=by
  rw[QA,if_neg (by omega),if_pos h];rfl
 rw[mpS,mpS,List.take_succ_eq_append_getElem hj,List.map_append,List.filterMap_append];simp[e]
theorem QhZ{bs:List Ql}{i j:Nat}(hj:j<(bkF bs i).sts.length)(h:(bkF bs i).sts[j].op≠99):mpS bs i (j+1)=mpS bs i j:=by
 have e:cpO (QA (bkF bs i).sts[j])=none:=by
  have:=Nl (bkF bs i).sts[j];rw[show ((bkF bs i).sts[j].op==99)=false by simpa using h]at this;cases hc:QA (bkF bs i).sts[j]<;>rw[hc]at this<;>first | rfl | cases this
 rw[mpS,mpS,List.take_succ_eq_append_getElem hj,List.map_append,List.filterMap_append];simp[e]
theorem QaZ{bs:List Ql}{i j:Nat}(hj:(bkF bs i).sts.length≤j)(hc:coF bs i=true):mpS bs i j=XK (absP bs) (coF bs) (i+1):=by
 rw[mpS,List.take_of_length_le hj,WK,if_pos hc,QfT,QO];rfl
theorem QfR{bs:List Ql}{i:Nat}(hc:coF bs i=false):XK (absP bs) (coF bs) (i+1)=XK (absP bs) (coF bs) i:=by
 rw[WK,hc];simp
theorem Qh1{bs:List Ql}(hr:Kr bs){i:Nat}(hi:coF bs i=true)(q:Nat):∀o∈mpC bs i q,Vo (absP bs) o:=fun o ho=>by
 rcases List.mem_append.1 ho with h|h
 ·exact Yc (QW hr) _ o h
 ·obtain⟨c,hc,rfl⟩:=List.mem_map.1 h;obtain⟨d,hd,rfl⟩:=List.mem_map.1 hc;exact⟨(QW hr i).1 hi,by rw[QO];exact List.mem_map.2 ⟨d,List.mem_of_mem_take hd,rfl⟩⟩
theorem QhY{bs:List Ql}(hr:Kr bs){i:Nat}(hi:coF bs i=true)(j:Nat):∀o∈mpS bs i j,Vo (absP bs) o:=fun o ho=>by
 have h1:o∈XK (absP bs) (coF bs) (i+1):=by
  rw[←QaZ (j:=(bkF bs i).sts.length) (Nat.le_refl _) hi];rcases List.mem_append.1 ho with h|h
  ·exact List.mem_append_left _ h
  ·refine List.mem_append_right _ ?_;rcases List.mem_append.1 h with h|h
   ·exact List.mem_append_left _ h
   ·refine List.mem_append_right _ ?_;obtain⟨t,ht,e⟩:=List.mem_filterMap.1 h;obtain⟨u,hu,rfl⟩:=List.mem_map.1 ht;exact List.mem_filterMap.2 ⟨_,List.mem_map.2 ⟨u,by rw[List.take_length];exact List.mem_of_mem_take hu,rfl⟩,e⟩
 exact Yc (QW hr) _ o h1
structure MgK(bs:List Ql)(n:Nat)(st:Nat→Nat):Prop where
 rd:Kr bs
 k:∀l,(∀o∈l,Vo (absP bs) o)→StK n (Zm (coF bs) st l)
 ch:∀b∈bs,∀c∈b.chs,Ga n bs.length c
 st:∀b∈bs,∀t∈b.sts,StLow n t
 cl:∀b∈bs,b.chs.length≤1000000
 sl:∀b∈bs,b.sts.length≤1000000
theorem QcK(a b c d:Nat)(w:World):(Instr.typeAssert (.iface 142 (.agg #[.int .i64 a,.int .i64 b,.int .i64 c,.int .i64 d])) 150 142 true).run Tryz.prog w=.ok (.tuple #[.agg #[.int .i64 a,.int .i64 b,.int .i64 c,.int .i64 d],.bool true]) w:=by kernel_rfl
theorem QiJ(t:Qy)(h99:t.op≠99):∃T x,QE t=.iface T x∧∀w:World,(Instr.typeAssert (.iface T x) 150 142 true).run Tryz.prog w=.ok (.tuple #[.agg #[.int .i64 0,.int .i64 0,.int .i64 0,.int .i64 0],.bool false]) w:=by
 by_cases h63:t.op=63
 ·exact⟨_,_,by rw[QE,if_pos h63],fun w=>by kernel_rfl⟩
 by_cases h118:t.op=118
 ·exact⟨_,_,by rw[QE,if_neg h63,if_neg h99,if_pos h118],fun w=>by kernel_rfl⟩
 by_cases h33:t.op=33
 ·exact⟨_,_,by rw[QE,if_neg h63,if_neg h99,if_neg h118,if_pos h33],fun w=>by kernel_rfl⟩
 exact⟨_,_,by rw[QE,if_neg h63,if_neg h99,if_neg h118,if_neg h33],fun w=>by kernel_rfl⟩
def MgI(w:World)(n g c:Nat)(S:Nat→Nat)(gr:Obj)(wr:World):Prop:=wr.heap[w.heap.size]?=some gr∧StR wr (w.heap.size+1) n (.slice (some ⟨g,0,none⟩) n c) S∧Below w.heap.size w wr
theorem MgI.keeps{w n g c S gr wr wr'}(h:MgI w n g c S gr wr)(F:Below wr.heap.size wr wr'):MgI w n g c S gr wr':=by
 obtain⟨a,b,d⟩:=h;exact⟨by rw[F.block _ (lt_of_block a)];exact a,b.keeps F,d.trans (F.mono d.size)⟩
theorem MgI.lt{w n g c S gr wr}(h:MgI w n g c S gr wr)(h0:0<n):w.heap.size<g∧g<wr.heap.size:=by
 obtain⟨g',e,h1,h2⟩:=Qh h.2.1 h0;cases e;exact⟨h1,h2⟩
theorem MgI.set{w n g c S gr wr}(h:MgI w n g c S gr wr){o:Nat}(ho:o<n)(x:Nat):MgI w n g c (Xo S o x) gr (wr.setCell ⟨g,o,none⟩ (.int .i64 x)):=by
 obtain⟨h1,h2⟩:=h.lt (by omega);obtain⟨a,b,d⟩:=h;refine⟨by rw[Qu (by omega)];exact a,?_,Qr d _ _ _ (by omega)⟩;have:=Zz b o (.int .i64 x);rw[Gq ho]at this;exact this
theorem Qf8(bs:List Ql)(st:Nat→Nat)(n base B B3:Nat)(v va vu vs:Value)(w:World)(h:Grd w bs base B v va vu)(hs:StR w B3 n vs st)(hm:Hid (MgK bs n st))(h0:0<n)(hn:n≤100000):
  Calls Tryz.prog 102 #[.agg #[v,va,vu,v],vs] w fun e w'=>∃v',e=.returned v'∧StR w' w.heap.size n v' (mgF (absP bs) (coF bs) st)∧Below w.heap.size w w':=by
 obtain⟨⟨p,cp,rfl⟩,⟨pa,ca,rfl⟩,q,d,rfl⟩:=h.form;obtain⟨p2,c2,rfl⟩:=hs.slice;have H:=Qc (And.intro h hs);have hlen:=hm.out.rd.le;clear h hs;go_enter Tryz.func102,Tryz.ntmps102;go_wp2_with fail;have F0:=(Below.refl w.heap.size w).alloc (Nat.le_refl _) (.cells #[.slice p bs.length cp,.slice pa (Qx bs).length ca,.slice q bs.length d,.slice p bs.length cp] 87);have b0:=heap_alloc_last w (.cells #[.slice p bs.length cp,.slice pa (Qx bs).length ca,.slice q bs.length d,.slice p bs.length cp] 87);generalize w.alloc (.cells #[.slice p bs.length cp,.slice pa (Qx bs).length ca,.slice q bs.length d,.slice p bs.length cp] 87)=W at *;have hcl:=QjI (stL n st) B3 (.slice p2 n c2) W (by rw[Kx];exact H.o.2.keeps F0) (by rw[Kx];omega);refine hcl.mono ?_;rintro e w1 ⟨v1,rfl,o1,f1⟩;rw[Kx]at o1;obtain⟨p1,c1,rfl⟩:=Qb o1;obtain⟨g1,rfl,hg1,_⟩:=Qh o1 h0;have zW:=lt_of_block b0;have B0:Hid (MgI w n g1 c1 (Zm (coF bs) st (XK (absP bs) (coF bs) 0)) (.cells #[.slice p bs.length cp,.slice pa (Qx bs).length ca,.slice q bs.length d,.slice p bs.length cp] 87 (0,0)) w1):=
  ⟨by rw[f1.block _ zW];exact b0,Qm o1 (by omega),F0.trans (f1.mono F0.size)⟩
 have k0:=Qa B0.o.1 3;simp at k0;clear b0 F0 f1 o1 hcl;go_wp2_with fail;clear k0
 go_loopw [22] (fun i wr=>∃m:Nat,m≤bs.length∧i=.int .i64 m∧Hid (MgI w n g1 c1 (Zm (coF bs) st (XK (absP bs) (coF bs) m)) (.cells #[.slice p bs.length cp,.slice pa (Qx bs).length ca,.slice q bs.length d,.slice p bs.length cp] 87 (0,0)) wr)) (fun i _=>bs.length-(intOf i).toNat)
 case atStart=>exact⟨0,by omega,rfl,B0⟩
 case round=>
  clear B0;obtain⟨m,hml,rfl,HI⟩:=hrel;rename World=>wA;have rr:∀o j,(wA.alloc o).cell? ⟨w.heap.size,j,none⟩=(#[.slice p bs.length cp,.slice pa (Qx bs).length ca,.slice q bs.length d,.slice p bs.length cp]:Array Value)[j]?:=fun o j=>Qa (Qj HI.o.1 o) j;have r0:=fun o=>rr o 0;have r1:=fun o=>rr o 1;have r2:=fun o=>rr o 2;simp at r0 r1 r2;clear rr;by_cases hlt:m<bs.length
  ·have hgA:g1≠wA.heap.size:=by have:=(HI.o.lt h0).2;omega
   have HBK:=Qc (Zt hlt);have hcl:=hm.out.cl _ (List.getElem_mem hlt);have hsl:=hm.out.sl _ (List.getElem_mem hlt);obtain⟨gv,qc,cc,ps,cs1,rfl,_,hgv,hop,OC,OS,d0,d1,d2,d3⟩:=H.o.1.p.at hlt;have HOC:=Qc (And.intro OC OS);obtain⟨T,x,hT⟩:=QU bs[m].e;rw[hT]at d3;have F:=Qc HI.o.2.2;replace d0:=(F.o.cell (p:=⟨gv,m*4,none⟩) hgv).trans d0;replace d1:=(F.o.cell (p:=⟨gv,m*4+1,none⟩) hgv).trans d1;replace d2:=(F.o.cell (p:=⟨gv,m*4+2,none⟩) hgv).trans d2;replace d3:=(F.o.cell (p:=⟨gv,m*4+3,none⟩) hgv).trans d3;clear hop OC OS hT;go_wp2_with fail;clear d0 d1 d2 d3 r0 r1 r2;have gW:=heap_alloc_last wA (.cells #[.int .i64 bs[m].at_,.slice qc bs[m].chs.length cc,.slice ps bs[m].sts.length cs1,.iface T x] 104);have HW:=Qc (And.intro (HI.o.keeps ((Below.refl wA.heap.size wA).alloc (Nat.le_refl _) (.cells #[.int .i64 bs[m].at_,.slice qc bs[m].chs.length cc,.slice ps bs[m].sts.length cs1,.iface T x] 104))) gW);clear gW HI F;generalize wA.alloc (.cells #[.int .i64 bs[m].at_,.slice qc bs[m].chs.length cc,.slice ps bs[m].sts.length cs1,.iface T x] 104)=W at *;refine((H.o.1.keeps HW.o.1.2.2).reach hlt (by omega)).mono ?_;rintro e w2 ⟨rfl,f2⟩;have H2:Hid (MgI w n g1 c1 (Zm (coF bs) st (XK (absP bs) (coF bs) m)) (.cells #[.slice (some ⟨gv,0,none⟩) bs.length cp,.slice pa (Qx bs).length ca,.slice q bs.length d,.slice (some ⟨gv,0,none⟩) bs.length cp] 87 (0,0)) w2∧w2.heap[wA.heap.size]?=some (.cells #[.int .i64 bs[m].at_,.slice qc bs[m].chs.length cc,.slice ps bs[m].sts.length cs1,.iface T x] 104 (0,0))):=⟨HW.o.1.keeps f2,by rw[f2.block _ (lt_of_block HW.o.2)];exact HW.o.2⟩;clear HW f2;obtain⟨kk,hkk⟩:∃kk,kk=coF bs m:=⟨_,rfl⟩;rw[←hkk]
   cases kk with
   | false=>
    have HO:=Qc (QfR hkk.symm);clear hkk;go_wp2_with fail;go_roundw
    case rel=>exact⟨m+1,by omega,by go_num,by rw[HO.o];exact H2.o.1⟩
    case measure=>simp[intOf];omega
   | true=>
    have HK:=Qc hkk.symm;have b1:=Qa H2.o.2 1;simp at b1;clear hkk;go_wp2_with fail;clear b1
    go_loopw [36] (fun i wr=>∃k:Nat,k≤bs[m].chs.length∧i=.int .i64 k∧Hid (MgI w n g1 c1 (Zm (coF bs) st (mpC bs m k)) (.cells #[.slice (some ⟨gv,0,none⟩) bs.length cp,.slice pa (Qx bs).length ca,.slice q bs.length d,.slice (some ⟨gv,0,none⟩) bs.length cp] 87 (0,0)) wr∧wr.heap[wA.heap.size]?=some (.cells #[.int .i64 bs[m].at_,.slice qc bs[m].chs.length cc,.slice ps bs[m].sts.length cs1,.iface T x] 104 (0,0)))) (fun i _=>bs[m].chs.length-(intOf i).toNat)
    case atStart=>exact⟨0,by omega,rfl,by rw[QdG];exact H2⟩
    case round=>
     clear H2;obtain⟨k,hkl,rfl,HC⟩:=hrel;rename World=>wB;by_cases hql:k<bs[m].chs.length
     ·obtain⟨gc,pu,cu,rfl,_,_,hlr,hrow,e0,e1,e2⟩:=(HOC.o.1.keeps (Qi HC.o.1.2.2) trivial trivial).at hql;have hqlF:k<(bkF bs m).chs.length:=by rw[HBK.o];exact hql
      have HLR:=Qc (And.intro hlr hrow);clear hlr hrow;have HN:Hid (Zm (coF bs) st (mpC bs m (k+1))=opF (coF bs) (Zm (coF bs) st (mpC bs m k)) (.ch m (QL bs[m].chs[k]))):=by
       show _=_;rw[QdH hqlF,U2];have:(bkF bs m).chs[k]=bs[m].chs[k]:=by simp only[HBK.o]
       rw[this];rfl
      have hck:=hm.out.k (mpC bs m k) (Qh1 hm.out.rd HK.o k);have HST:=Qc hck;have HLOW:=Qc (hm.out.ch _ (List.getElem_mem hlt) _ (List.getElem_mem hql));have rr:∀o j,(wB.alloc o).cell? ⟨w.heap.size,j,none⟩=(#[.slice (some ⟨gv,0,none⟩) bs.length cp,.slice pa (Qx bs).length ca,.slice q bs.length d,.slice (some ⟨gv,0,none⟩) bs.length cp]:Array Value)[j]?:=fun o j=>Qa (Qj HC.o.1.1 o) j;have r0:=fun o=>rr o 0;have r1:=fun o=>rr o 1;have r2:=fun o=>rr o 2;have r3:=fun o=>rr o 3;simp at r0 r1 r2 r3;clear rr hck;go_wp2_with fail;clear r0 r1 r2 r3 e0 e1 e2 hqlF;obtain⟨S,hS⟩:∃S,S=Zm (coF bs) st (mpC bs m k):=⟨_,rfl⟩;rw[←hS]at HN HST HC;have gW:=heap_alloc_last wB (.cells #[.int .i64 bs[m].chs[k].to.1,.int .i64 bs[m].chs[k].to.2,.slice pu bs[m].chs[k].gs.length cu] 140);have FW:=(Below.refl wB.heap.size wB).alloc (Nat.le_refl _) (.cells #[.int .i64 bs[m].chs[k].to.1,.int .i64 bs[m].chs[k].to.2,.slice pu bs[m].chs[k].gs.length cu] 140);have HW:=Qc (And.intro (HC.o.1.keeps FW) (And.intro (Qj HC.o.2 (.cells #[.int .i64 bs[m].chs[k].to.1,.int .i64 bs[m].chs[k].to.2,.slice pu bs[m].chs[k].gs.length cu] 140)) (And.intro gW (show ChR _ base bs[m].chs[k] (.slice pu bs[m].chs[k].gs.length cu) from ⟨HLR.o.1,Qd HLR.o.2 (Qi FW) trivial⟩))));clear gW FW hS HC;generalize wB.alloc (.cells #[.int .i64 bs[m].chs[k].to.1,.int .i64 bs[m].chs[k].to.2,.slice pu bs[m].chs[k].gs.length cu] 140)=W at *;refine(Qdx bs S n base B base (w.heap.size+1) bs[m].chs[k] _ _ _ _ _ W (H.o.1.keeps HW.o.1.2.2) HW.o.2.2.2 HW.o.1.2.1 HST HLOW (by omega) hn).mono ?_;rintro e w3 ⟨y,rfl,hy,f3⟩;have H3:=Qc (And.intro (HW.o.1.keeps f3) (And.intro ((f3.block _ (lt_of_block HW.o.2.1)).trans HW.o.2.1) ((f3.block _ (lt_of_block HW.o.2.2.1)).trans HW.o.2.2.1)));clear f3 HW
      cases ho:XW (coF bs) S (QL bs[m].chs[k]) with
      | none=>
       have HS2:Hid (Zm (coF bs) st (mpC bs m (k+1))=S):=by show _=_;rw[HN.o];show (match XW (coF bs) S (QL bs[m].chs[k]) with|some v=>_|none=>S)=S;rw[ho]
       have e1:(none:Option Nat).isSome=false:=rfl;rw[e1];clear hy ho HN e1;go_wp2_with fail;go_roundw
       case rel=>exact⟨k+1,by omega,by go_num,by rw[HS2.o];exact H3.o.1,H3.o.2.1⟩
       case measure=>simp[intOf];omega
      | some z=>
       have hyz:=hy z ho;subst hyz;have e1:(some y).isSome=true:=rfl;rw[e1];by_cases hm0:m=0
       ·have HS2:Hid (Zm (coF bs) st (mpC bs m (k+1))=S):=by show _=_;rw[HN.o];show (match XW (coF bs) S (QL bs[m].chs[k]) with|some v=>if m=0 then S else _|none=>S)=S;rw[ho];exact if_pos hm0
        have e2:((m:Int) != 0)=false:=by simp;omega
        clear hy ho HN e1 hm0;go_wp2_with fail;go_roundw
        case rel=>exact⟨k+1,by omega,by go_num,by rw[HS2.o];exact H3.o.1,H3.o.2.1⟩
        case measure=>simp[intOf];omega
       ·have HS2:Hid (Zm (coF bs) st (mpC bs m (k+1))=Xo S bs[m].chs[k].to.1 y):=by show _=_;rw[HN.o];show (match XW (coF bs) S (QL bs[m].chs[k]) with|some v=>if m=0 then S else Xo S bs[m].chs[k].to.1 v|none=>S)=_;rw[ho];exact if_neg hm0
        have e2:((m:Int) != 0)=true:=by simp;omega
        have z0:=Qa H3.o.2.2 0;simp at z0;have hto:=HLOW.o.to;have hc:=Qe H3.o.1.2.1 (JH (st:=S) hto);have cf:=XE H3.o.1.2.1 bs[m].chs[k].to.1;have HS:=Qc (H3.o.1.set hto y);have hlt3:=H3.o.1.lt h0;clear hy ho HN e1 hm0;have hA:=(lt_of_block H3.o.2.1);have HA2:Hid (g1≠wA.heap.size):=hgA;go_wp2_with fail;go_roundw
        case rel=>exact⟨k+1,by omega,by go_num,by rw[HS2.o];exact HS.o,by rw[Qu (Ne.symm HA2.o)];exact H3.o.2.1⟩
        case measure=>simp[intOf];omega
     ·have HE:Hid (mpC bs m k=mpS bs m 0):=Qf2 (by rw[HBK.o];omega);rw[HE.o]at HC;have b2:=Qa HC.o.2 2;simp at b2;clear HE;go_wp2_with fail;clear b2
      go_loopw [62] (fun i wr=>∃j:Nat,j≤bs[m].sts.length∧i=.int .i64 j∧Hid (MgI w n g1 c1 (Zm (coF bs) st (mpS bs m j)) (.cells #[.slice (some ⟨gv,0,none⟩) bs.length cp,.slice pa (Qx bs).length ca,.slice q bs.length d,.slice (some ⟨gv,0,none⟩) bs.length cp] 87 (0,0)) wr)) (fun i _=>bs[m].sts.length-(intOf i).toNat)
      case atStart=>exact⟨0,by omega,rfl,HC.o.1⟩
      case round=>
       clear HC;obtain⟨j,hjl,rfl,HJ⟩:=hrel;rename World=>wC;by_cases hjt:j<bs[m].sts.length
       ·have OSC:=Qd HOC.o.2 (Qi HJ.o.2.2) trivial;obtain⟨gs,rfl,_,_⟩:=Qh OSC (by omega);have hjF:j<(bkF bs m).sts.length:=by rw[HBK.o];exact hjt
        have hjE:(bkF bs m).sts[j]=bs[m].sts[j]:=by simp only[HBK.o]
        have HST:=Qc (hm.out.k (mpS bs m j) (QhY hm.out.rd HK.o j));have HLOW:=Qc (hm.out.st _ (List.getElem_mem hlt) _ (List.getElem_mem hjt));by_cases h99:bs[m].sts[j].op=99
        ·have hsv:QE bs[m].sts[j]=.iface 142 (.agg #[.int .i64 bs[m].sts[j].to.1,.int .i64 bs[m].sts[j].to.2,.int .i64 bs[m].sts[j].a.1,.int .i64 bs[m].sts[j].a.2]):=by rw[QE,if_neg (by omega),if_pos h99]
         have cS:=Qe OSC (j:=j) (u:=.iface 142 (.agg #[.int .i64 bs[m].sts[j].to.1,.int .i64 bs[m].sts[j].to.2,.int .i64 bs[m].sts[j].a.1,.int .i64 bs[m].sts[j].a.2])) (by rw[←hsv];simp[hjt]);have HN:Hid (Zm (coF bs) st (mpS bs m (j+1))=Xo (Zm (coF bs) st (mpS bs m j)) bs[m].sts[j].to.1 (rt (Zm (coF bs) st (mpS bs m j)) bs[m].sts[j].a.1)):=by
          show _=_;rw[Qh0 hjF (by rw[hjE];exact h99),U2,hjE];rfl
         clear h99 hsv hjF hjE OSC;have hta:=QcK bs[m].sts[j].to.1 bs[m].sts[j].to.2 bs[m].sts[j].a.1 bs[m].sts[j].a.2;go_wp2_with fail;obtain⟨S,hS⟩:∃S,S=Zm (coF bs) st (mpS bs m j):=⟨_,rfl⟩;rw[←hS]at HN HST HJ;have gW:=heap_alloc_last wC (.cells #[.int .i64 bs[m].sts[j].to.1,.int .i64 bs[m].sts[j].to.2,.int .i64 bs[m].sts[j].a.1,.int .i64 bs[m].sts[j].a.2] 142);have HW:=Qc (HJ.o.keeps ((Below.refl wC.heap.size wC).alloc (Nat.le_refl _) (.cells #[.int .i64 bs[m].sts[j].to.1,.int .i64 bs[m].sts[j].to.2,.int .i64 bs[m].sts[j].a.1,.int .i64 bs[m].sts[j].a.2] 142)));generalize wC.alloc (.cells #[.int .i64 bs[m].sts[j].to.1,.int .i64 bs[m].sts[j].to.2,.int .i64 bs[m].sts[j].a.1,.int .i64 bs[m].sts[j].a.2] 142)=W at *;have y0:=Qa gW 0;have y2:=Qa gW 2;simp at y0 y2;have hto:=HLOW.o.1;have hfr:=HLOW.o.2.1;obtain⟨dd,hu⟩:=HST.o.up _ hfr;have HU:=Qc hu;have hc:=Qe HW.o.2.1 (JH (st:=S) hto);have cf:=XE HW.o.2.1 bs[m].sts[j].to.1;have HLT:=Qc HST.o.lt;have HS:=Qc ((HW.o.keeps (QM W)).set hto (rt S bs[m].sts[j].a.1));clear gW hS HJ hu hta cS
         go_region_law (first | (refine ZN rfl 152 #[.slice (some ⟨g1,0,none⟩) n c1,.int .i64 bs[m].sts[j].a.1] (by go_simp) (ofP S n bs[m].sts[j].a.1 (rt S bs[m].sts[j].a.1) dd (w.heap.size+1) _ W.drew HW.o.2.1 HU HLT hfr hn) ?_;rintro e w1 ⟨rfl,rfl⟩) | fail)
         all_goals
          go_wp2_with fail;go_roundw
          case rel=>exact⟨j+1,by omega,by go_num,by rw[HN.o];exact HS.o⟩
          case measure=>simp[intOf];omega
        ·obtain⟨T2,x2,hsv,hta⟩:=QiJ bs[m].sts[j] h99;have cS:=Qe OSC (j:=j) (u:=.iface T2 x2) (by rw[←hsv];simp[hjt]);have HN:Hid (Zm (coF bs) st (mpS bs m (j+1))=Zm (coF bs) st (mpS bs m j)):=by
          show _=_;rw[QhZ hjF (by rw[hjE];exact h99)]
         have HW:=Qc (HJ.o.keeps ((Below.refl wC.heap.size wC).alloc (Nat.le_refl _) (.cells #[.int .i64 0,.int .i64 0,.int .i64 0,.int .i64 0] 142)));clear h99 hsv hjF hjE OSC;go_wp2_with fail;go_roundw
         case rel=>exact⟨j+1,by omega,by go_num,by rw[HN.o];exact HW.o⟩
         case measure=>simp[intOf];omega
       ·have HE:Hid (mpS bs m j=XK (absP bs) (coF bs) (m+1)):=QaZ (by rw[HBK.o];omega) HK.o;go_wp2_with fail;go_roundw
        case rel=>exact⟨m+1,by omega,by go_num,by rw[←HE.o];exact HJ⟩
        case measure=>simp[intOf];omega
  ·have hme:m=bs.length:=by omega
   have HM:Hid (mgF (absP bs) (coF bs) st=Zm (coF bs) st (XK (absP bs) (coF bs) m)):=by rw[hme];show mgF _ _ _=_;rw[mgF];simp[absP]
   clear r0 r1 r2 hme;go_wp2_with fail;go_ret;exact⟨_,rfl,by rw[HM.o];exact Qm HI.o.2.1 (by omega),HI.o.2.2⟩
def QhC(n:Nat)(v:Value)(w:World):Nat→Nat:=fun r=>if r<n then (match v with | .slice (some a) _ _=>(match w.cell? ⟨a.block,r,none⟩ with|some (.int _ x)=>x.toNat|_=>r)|_=>r) else r
theorem QaP{w:World}{base n g c:Nat}{st:Nat→Nat}(h:StR w base n (.slice (some ⟨g,0,none⟩) n c) st)(hh:∀r,n≤r→st r=r):QhC n (.slice (some ⟨g,0,none⟩) n c) w=st:=by
 funext r
 unfold QhC;by_cases hr:r<n
 ·rw[if_pos hr];dsimp only;rw[Qe h (JH (st:=st) hr)];simp
 ·rw[if_neg hr,hh r (by omega)]
structure Qg9(bs:List Ql)(n:Nat):Prop where
 k:∀st,SOk (absP bs) st→MgK bs n st
 high:∀st,SOk (absP bs) st→∀r,n≤r→st r=r
 next:∀st,SOk (absP bs) st→SOk (absP bs) (mgF (absP bs) (coF bs) st)
 less:∀st,SOk (absP bs) st→mgF (absP bs) (coF bs) st≠st→mgM (mgF (absP bs) (coF bs) st)<mgM st
theorem Qeq{n:Nat}{st st':Nat→Nat}(h:∀r,n≤r→st r=r)(h':∀r,n≤r→st' r=r):eqF (stL n st) (stL n st')=true↔st=st':=by
 rw[eqF,decide_eq_true_iff];constructor
 ·intro e
  funext r
  rcases Nat.lt_or_ge r n with h1|h1
  ·exact Qfk e r h1
  ·rw[h r h1,h' r h1]
 ·intro e;rw[e]
theorem Qfq(bs:List Ql)(st0:Nat→Nat)(n base B B3:Nat)(v va vu vs:Value)(w:World)(h:Grd w bs base B v va vu)(hs:StR w B3 n vs st0)(hA:Hid (Qg9 bs n))(hk:Hid (SOk (absP bs) st0))(h0:0<n)(hn:n≤100000):
  Calls Tryz.prog 101 #[vs,.func (.func 102) #[.agg #[v,va,vu,v]] #[]] w fun e w'=>∃v' st,e=.returned v'∧Hid (StR w' w.heap.size n v' st∧SOk (absP bs) st∧mgF (absP bs) (coF bs) st=st∧Below w.heap.size w w'):=by
 obtain⟨⟨p,cp,rfl⟩,⟨pa,ca,rfl⟩,q,d,rfl⟩:=h.form;obtain⟨p2,c2,rfl⟩:=hs.slice;obtain⟨g2,rfl,_,_⟩:=Qh hs h0;have H:=Qc (And.intro h hs);clear h hs;have hmt:∀(x:Value)(w:World),(method 500 208 x "Same").run Tryz.prog w=.ok (301,x) w:=fun x w=>by kernel_rfl
 go_enter Tryz.func101,Tryz.ntmps101;go_wp2_with fail;have B0:Hid (SOk (absP bs) st0∧StR w 0 n (.slice (some ⟨g2,0,none⟩) n c2) st0∧Below w.heap.size w w):=⟨hk.out,Qm H.o.2 (Nat.zero_le _),Below.refl _ _⟩
 go_loopw [0] (fun i wr=>∃(st:Nat→Nat)(g c:Nat),i=.slice (some ⟨g,0,none⟩) n c∧Hid (SOk (absP bs) st∧StR wr 0 n (.slice (some ⟨g,0,none⟩) n c) st∧Below w.heap.size w wr)) (fun i wr=>mgM (QhC n i wr))
 case atStart=>exact⟨st0,g2,c2,rfl,B0⟩
 case round=>
  clear B0;obtain⟨st,g,c,rfl,HI⟩:=hrel;have HM:=Qc (hA.out.k st HI.o.1);go_wp2_with fail;refine(Qf8 bs st n base B 0 _ _ _ _ wr (H.o.1.keeps HI.o.2.2) HI.o.2.1 HM h0 hn).mono ?_;rintro e w1 ⟨v1,rfl,o1,f1⟩;obtain⟨p1,c1,rfl⟩:=o1.slice;obtain⟨g1,rfl,_,_⟩:=Qh o1 h0;have H1:=Qc (And.intro o1 f1);clear o1 f1 HM;go_wp2_with fail;have hsame:=QiN (stL n (mgF (absP bs) (coF bs) st)) (stL n st) wr.heap.size 0 (.slice (some ⟨g1,0,none⟩) n c1) (.slice (some ⟨g,0,none⟩) n c) w1 (by rw[Kx];exact H1.o.1) (by rw[Kx];exact HI.o.2.1.keeps H1.o.2) (by rw[Kx];omega) (by rw[Kx];omega);refine hsame.mono ?_;rintro e w3 ⟨rfl,f3⟩;have H3:Hid (StR w3 wr.heap.size n (.slice (some ⟨g1,0,none⟩) n c1) (mgF (absP bs) (coF bs) st)∧Below w.heap.size w w3):=⟨H1.o.1.keeps f3,(HI.o.2.2.trans (H1.o.2.mono HI.o.2.2.size)).trans (f3.mono (Nat.le_trans HI.o.2.2.size H1.o.2.size))⟩;have HN:=Qc (hA.out.next st HI.o.1);clear f3 hsame;by_cases e:mgF (absP bs) (coF bs) st=st
  ·have e1:=(Qeq (hA.out.high _ HN.o) (hA.out.high st HI.o.1)).2 e;rw[e1];have HE:=Qc e;clear e e1;go_wp2_with fail;go_ret;exact⟨_,st,rfl,by rw[←HE.o];exact Qm H3.o.1 HI.o.2.2.size,HI.o.1,HE.o,H3.o.2⟩
  ·have e1:eqF (stL n (mgF (absP bs) (coF bs) st)) (stL n st)=false:=by
    cases h:eqF (stL n (mgF (absP bs) (coF bs) st)) (stL n st) with
    | false=>rfl
    | true=>exact absurd ((Qeq (hA.out.high _ HN.o) (hA.out.high st HI.o.1)).1 h) e
   rw[e1];have HL:=Qc (hA.out.less st HI.o.1 e);clear e e1;go_wp2_with fail;go_roundw
   case rel=>exact⟨_,g1,c1,rfl,HN.o,Qm H3.o.1 (Nat.zero_le _),H3.o.2⟩
   case measure=>
    rw[QaP H3.o.1 (hA.out.high _ HN.o),QaP HI.o.2.1 (hA.out.high _ HI.o.1)];exact HL.o
section
variable {P:Program} {ops:Array Oper} {Q:Exit→Act→World→Prop} {md:Region.Mode} {S:World→Prop} {L:Nat}
def XL(P:Program)(md:Region.Mode)(ops:Array Oper)(Q:Exit→Act→World→Prop)(S:World→Prop)(L:Nat):Nat→Array Bool→Act→World→Prop
 | 0,listed,a,w=>Region.ready md ops listed=[]∧Q .normal a w
 | fuel+1,listed,a,w=>
  (Region.ready md ops listed=[]→Q .normal a w) ∧
  ∀i∈Region.ready md ops listed,wpOp P ops Q i (fun a' w'=>(i=L∨S w')∧XL P md ops Q S L fuel (listed.setIfInBounds i true) a' w') a w
theorem Wg:∀(fuel:Nat)(listed:Array Bool)(a:Act)(w:World),XL P md ops Q S L fuel listed a w→wpAny P md ops Q fuel listed a w
 | 0,_,_,_,h=>h
 | fuel+1,_,_,_,h=>⟨h.1,fun i hi=>wpOp_mono (fun a' w' h'=>Wg fuel _ a' w' h'.2) (h.2 i hi)⟩
theorem Gd{i:Nat}{oi:Oper}{v:Value}(hi:ops[i]?=some oi)(hsel:∀(j:Nat)(o:Oper) cs b,ops[j]?=some o→o.op≠.select cs b)
  (hQ:∀c a w,Q (.panic c) (a.put oi.dst v) w→Q (.panic c) a w)(hL:∀oL,ops[L]?=some oL→∃e∈oL.after,Region.binds md e=true∧e.on=i):
  ∀(fuel:Nat)(listed:Array Bool)(a:Act)(w:World),
   (∀j oj,ops[j]?=some oj→j≠i→listed.getD j true=false→(∀e∈oj.after,Region.binds md e=true→e.on≠i)→oi.apart ops oj=true) →
   i∈Region.ready md ops listed→YieldsIf P ops S oi v a→S w →
   XL P md ops Q S L fuel (listed.setIfInBounds i true) (a.put oi.dst v) w→XL P md ops Q S L (fuel+1) listed a w:=by
 intro fuel
 induction fuel with
 | zero=>
  intro listed a w _ hr hy hS H;refine⟨fun h=>(by rw[h]at hr;cases hr),fun j hj=>?_⟩;by_cases hji:j=i
  ·subst hji;exact hy.wpOp hi hS ⟨.inr hS,H⟩
  ·have:=ready_mono hj hji;rw[H.1]at this;cases this
 | succ fuel ih=>
  intro listed a w hfree hr hy hS H;refine⟨fun h=>(by rw[h]at hr;cases hr),fun j hj=>?_⟩;by_cases hji:j=i
  ·subst hji;exact hy.wpOp hi hS ⟨.inr hS,H⟩
  ·have h1:=H.2 j (ready_mono hj hji);obtain⟨hjun,oj,hoj,hall⟩:=mem_ready.1 hj;have hnot:∀e∈oj.after,Region.binds md e=true→e.on≠i:=fun e he hb heq=>by
    have h1:=hall e he hb;have h0:=(mem_ready.1 hr).1;rw[heq]at h1;rcases Nat.lt_or_ge i listed.size with h'|h'
    ·simp[h']at h0 h1;rw[h0]at h1;cases h1
    ·simp[Array.getElem?_eq_none h']at h1
   have hjL:j≠L:=by
    rintro rfl;obtain⟨e,he,hb,heq⟩:=hL oj hoj;exact hnot e he hb heq
   have h2:=wpOp_putIf hoj (hfree j oj hoj hji hjun hnot) (fun cs b=>hsel i oi cs b hi) (fun cs b=>hsel j oj cs b hoj) hQ hy h1;have hfree':∀k ok,ops[k]?=some ok→k≠i→(listed.setIfInBounds j true).getD k true=false →
     (∀e∈ok.after,Region.binds md e=true→e.on≠i)→oi.apart ops ok=true:=fun k ok hk hki hun hno=>by
    refine hfree k ok hk hki ?_ hno;by_cases hjk:j=k
    ·subst hjk;exact hjun
    ·rw[getD_set_ne true hjk]at hun;exact hun
   refine wpOp_mono (fun a' w' h3=>?_) h2;have hS':=h3.2.1.resolve_left hjL;refine⟨.inr hS',ih (listed.setIfInBounds j true) a' w' hfree' (ready_mono hr (Ne.symm hji)) h3.1 hS' ?_⟩;rw[Array.setIfInBounds_comm _ _ hji];exact h3.2.2
def QgZ(md:Region.Mode)(ops:Array Oper)(L i:Nat):Bool:=match ops[L]? with|some o=>o.after.any fun e=>Region.binds md e&&e.on==i|none=>true
theorem ZF{i:Nat}{oi:Oper}{v:Value}{fuel:Nat}{listed:Array Bool}{a:Act}{w:World}(d:Option Tmp)(hi:ops[i]?=some oi)(hd:oi.dst=d)
  (hs:Region.noSelect ops=true)(hf:Region.free md ops listed i=true)(hr:(Region.ready md ops listed).contains i=true)(hl:QgZ md ops L i=true)
  (hQ:∀c a w,Q (.panic c) (a.put oi.dst v) w→Q (.panic c) a w)(hy:YieldsIf P ops S oi v a)(hS:S w)
  (h:XL P md ops Q S L fuel (listed.setIfInBounds i true) (a.put d v) w):XL P md ops Q S L (fuel+1) listed a w:=
 Gd hi (Region.noSelect_spec hs) hQ (fun oL ho=>by
  rw[QgZ,ho]at hl;obtain⟨e,he,h⟩:=Array.any_eq_true'.1 hl;rw[Bool.and_eq_true]at h;exact⟨e,he,h.1,by simpa using h.2⟩) fuel listed a w (Region.free_spec hi hf) (by simpa using hr) hy hS (by rw[hd];exact h)
theorem YO{i:Nat}{oi:Oper}{fuel:Nat}{listed:Array Bool}{a:Act}{w:World}(hi:ops[i]?=some oi)(hr:Region.ready md ops listed=[i])(hg:oi.guard=none)
  (h:∀K':Act→World→Prop,Hid (∀a w,(i=L∨S w)→XL P md ops Q S L fuel (listed.setIfInBounds i true) a w→K' a w)→if Region.wanted oi (yielded ops a.tmps)=true then Oper.wp P oi a w K' Q else True):XL P md ops Q S L (fuel+1) listed a w:=by
 refine⟨fun h0=>(by rw[hr]at h0;cases h0),fun j hj=>?_⟩;rw[hr,List.mem_singleton]at hj;subst hj;unfold wpOp;simp only[hi];have hw:Region.wanted oi (yielded ops a.tmps)=true:=by rw[Region.wanted,hg]
 have h:=h (fun a' w'=>(j=L∨S w')∧XL P md ops Q S L fuel (listed.setIfInBounds j true) a' w') fun a w h1 h2=>⟨h1,h2⟩;rw[if_pos hw]at h ⊢;exact .inl h
theorem Qbl{listed:Array Bool}{a:Act}{w:World}(hr:Region.ready md ops listed=[])(h:Q .normal a w):∀fuel,XL P md ops Q S L fuel listed a w
 | 0=>⟨hr,h⟩
 | _+1=>⟨fun _=>h,by rw[hr];simp⟩
theorem V1{id:Nat}{a:Act}{w:World}(hm:P.follows .mixedOrders=true)
  (h:XL P .any ops Q S L ops.size (Array.replicate ops.size false) a w.drew):(Code.region id ops true).wp P Q a w:=
 wp_region_any hm (Wg _ _ _ _ h)
end
end Go.Proofs.YtgfhfkgdmidhpaaGreatDoor
