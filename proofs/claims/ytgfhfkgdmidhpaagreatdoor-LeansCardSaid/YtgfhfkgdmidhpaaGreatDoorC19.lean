import Derived.Test.YtgfhfkgdmidhpaaGreatDoorC18
import Derived.Deep.Cut
namespace Go.Proofs.YtgfhfkgdmidhpaaGreatDoor
open Go.RowKit
set_option maxRecDepth 100000
set_option maxHeartbeats 8000000
def rdsF(t:Qy):List (Nat×Nat):=if t.op=99 then [t.a] else if t.op=33 then [t.a] else if t.op=118 then [] else if t.op=63 then [] else [t.a,t.b]
theorem QaO(t:Qy):rdsF t=JL t:=by
 unfold rdsF JL;by_cases h1:t.op=118
 ·rw[if_neg (by omega),if_neg (by omega),if_pos h1,if_pos h1]
 by_cases h2:t.op=99
 ·rw[if_pos h2,if_neg h1,if_pos h2]
 rw[if_neg h2,if_neg h1,if_neg h1,if_neg h2]
theorem QfB(t:Qy)(w:World):Calls Tryz.prog 304 #[.agg #[.int .i64 t.to.1,.int .i64 t.to.2]] w fun x w'=>∃v,x=.returned v∧w'.ownsRow w.heap.size 132 2 v 0 (pcs [])∧Below w.heap.size w w':=by
 go_enter Tryz.func304,Tryz.ntmps304
 go_wp2
 go_ret;exact⟨_,rfl,World.ownsRow_nil _ _ _ _,(Below.refl _ _).alloc (Nat.le_refl _) _⟩
theorem Qgl(t:Qy)(w:World):Calls Tryz.prog 303 #[.agg #[.int .i64 t.to.1,.int .i64 t.to.2]] w fun x w'=>x=.returned (.tuple #[.agg #[.int .i64 t.to.1,.int .i64 t.to.2],.bool true])∧Below w.heap.size w w':=by
 go_enter Tryz.func303,Tryz.ntmps303
 go_wp2
 refine bodyPost_ret (v:=.tuple #[.agg #[.int .i64 t.to.1,.int .i64 t.to.2],.bool true]) (by simp[results,Tryz.results303,go_sem]) rfl ⟨rfl,((Below.refl _ _).alloc (Nat.le_refl _) _).alloc (by simp) _⟩
theorem QfG(t:Qy)(w:World):Calls Tryz.prog 286 #[.agg #[.int .i64 t.to.1,.int .i64 t.to.2,.int .i64 t.a.1,.int .i64 t.a.2]] w fun x w'=>∃v,x=.returned v∧w'.ownsRow w.heap.size 132 2 v 1 (pcs [t.a])∧Below w.heap.size w w':=by
 go_enter Tryz.func286,Tryz.ntmps286
 go_wp2
 go_ret;refine⟨_,rfl,?_,((Below.refl _ _).alloc (Nat.le_refl _) _).alloc (by simp) _⟩;have ON:=ZA (w.alloc (.cells #[.int .i64 t.to.1,.int .i64 t.to.2,.int .i64 t.a.1,.int .i64 t.a.2] 142)) w.heap.size 132 2 1 #[.int .i64 t.a.1,.int .i64 t.a.2] (by simp) rfl (by decide);rw[World.size_alloc]at ON;exact ON
theorem Qgn(t:Qy)(w:World):Calls Tryz.prog 285 #[.agg #[.int .i64 t.to.1,.int .i64 t.to.2,.int .i64 t.a.1,.int .i64 t.a.2]] w fun x w'=>x=.returned (.tuple #[.agg #[.int .i64 t.to.1,.int .i64 t.to.2],.bool true])∧Below w.heap.size w w':=by
 go_enter Tryz.func285,Tryz.ntmps285
 go_wp2
 refine bodyPost_ret (v:=.tuple #[.agg #[.int .i64 t.to.1,.int .i64 t.to.2],.bool true]) (by simp[results,Tryz.results285,go_sem]) rfl ⟨rfl,((Below.refl _ _).alloc (Nat.le_refl _) _).alloc (by simp) _⟩
theorem QfD(t:Qy)(w:World):Calls Tryz.prog 296 #[.agg #[.int .i64 t.to.1,.int .i64 t.to.2,.int .i64 t.n]] w fun x w'=>∃v,x=.returned v∧w'.ownsRow w.heap.size 132 2 v 0 (pcs [])∧Below w.heap.size w w':=by
 go_enter Tryz.func296,Tryz.ntmps296
 go_wp2
 go_ret;exact⟨_,rfl,World.ownsRow_nil _ _ _ _,(Below.refl _ _).alloc (Nat.le_refl _) _⟩
theorem Qgm(t:Qy)(w:World):Calls Tryz.prog 295 #[.agg #[.int .i64 t.to.1,.int .i64 t.to.2,.int .i64 t.n]] w fun x w'=>x=.returned (.tuple #[.agg #[.int .i64 t.to.1,.int .i64 t.to.2],.bool true])∧Below w.heap.size w w':=by
 go_enter Tryz.func295,Tryz.ntmps295
 go_wp2
 refine bodyPost_ret (v:=.tuple #[.agg #[.int .i64 t.to.1,.int .i64 t.to.2],.bool true]) (by simp[results,Tryz.results295,go_sem]) rfl ⟨rfl,((Below.refl _ _).alloc (Nat.le_refl _) _).alloc (by simp) _⟩
theorem QhE(t:Qy)(w:World):Calls Tryz.prog 316 #[.agg #[.int .i64 t.a.1,.int .i64 t.a.2]] w fun x w'=>∃v,x=.returned v∧w'.ownsRow w.heap.size 132 2 v 1 (pcs [t.a])∧Below w.heap.size w w':=by
 go_enter Tryz.func316,Tryz.ntmps316
 go_wp2
 go_ret;refine⟨_,rfl,?_,((Below.refl _ _).alloc (Nat.le_refl _) _).alloc (by simp) _⟩;have ON:=ZA (w.alloc (.cells #[.int .i64 t.a.1,.int .i64 t.a.2] 315)) w.heap.size 132 2 1 #[.int .i64 t.a.1,.int .i64 t.a.2] (by simp) rfl (by decide);rw[World.size_alloc]at ON;exact ON
theorem Qic(t:Qy)(w:World):Calls Tryz.prog 315 #[.agg #[.int .i64 t.a.1,.int .i64 t.a.2]] w fun x w'=>x=.returned (.tuple #[.agg #[.int .i64 0,.int .i64 0],.bool false])∧Below w.heap.size w w':=by
 go_enter Tryz.func315,Tryz.ntmps315
 go_wp2
 refine bodyPost_ret (v:=.tuple #[.agg #[.int .i64 0,.int .i64 0],.bool false]) (by simp[results,Tryz.results315,go_sem]) rfl ⟨rfl,((Below.refl _ _).alloc (Nat.le_refl _) _).alloc (by simp) _⟩
theorem N2(t:Qy)(w:World):Calls Tryz.prog 325 #[.agg #[.int .i64 t.to.1,.int .i64 t.to.2,.int .i64 t.a.1,.int .i64 t.a.2,.int .i64 (X7 t.op),.int .i64 t.b.1,.int .i64 t.b.2]] w fun x w'=>∃v,x=.returned v∧w'.ownsRow w.heap.size 132 2 v 2 (pcs [t.a,t.b])∧Below w.heap.size w w':=by
 go_enter Tryz.func325,Tryz.ntmps325
 go_wp2
 go_ret;refine⟨_,rfl,?_,((Below.refl _ _).alloc (Nat.le_refl _) _).alloc (by simp) _⟩;have ON:=ZA (w.alloc (.cells #[.int .i64 t.to.1,.int .i64 t.to.2,.int .i64 t.a.1,.int .i64 t.a.2,.int .i64 (X7 t.op),.int .i64 t.b.1,.int .i64 t.b.2] 370)) w.heap.size 132 2 2 #[.int .i64 t.a.1,.int .i64 t.a.2,.int .i64 t.b.1,.int .i64 t.b.2] (by simp) rfl (by decide);rw[World.size_alloc]at ON;exact ON
theorem Qam(t:Qy)(w:World):Calls Tryz.prog 324 #[.agg #[.int .i64 t.to.1,.int .i64 t.to.2,.int .i64 t.a.1,.int .i64 t.a.2,.int .i64 (X7 t.op),.int .i64 t.b.1,.int .i64 t.b.2]] w fun x w'=>x=.returned (.tuple #[.agg #[.int .i64 t.to.1,.int .i64 t.to.2],.bool true])∧Below w.heap.size w w':=by
 go_enter Tryz.func324,Tryz.ntmps324
 go_wp2
 refine bodyPost_ret (v:=.tuple #[.agg #[.int .i64 t.to.1,.int .i64 t.to.2],.bool true]) (by simp[results,Tryz.results324,go_sem]) rfl ⟨rfl,((Below.refl _ _).alloc (Nat.le_refl _) _).alloc (by simp) _⟩
theorem Rx(t:Qy):∃T x fr fg,QE t=.iface T x∧(∀w:World,(method 500 T x "Reads").run Tryz.prog w=.ok (fr,x) w)∧(∀args (w:World),(callFunc fr args).run Tryz.prog w=.ok (.enter fr args) w) ∧
  (∀w:World,Calls Tryz.prog fr #[x] w fun r w'=>∃v,r=.returned v∧w'.ownsRow w.heap.size 132 2 v (rdsF t).length (pcs (rdsF t))∧Below w.heap.size w w') ∧
  (∀w:World,(method 500 T x "Gives").run Tryz.prog w=.ok (fg,x) w)∧(∀args (w:World),(callFunc fg args).run Tryz.prog w=.ok (.enter fg args) w) ∧
  (∀w:World,Calls Tryz.prog fg #[x] w fun r w'=>r=.returned (.tuple #[if t.op=33 then .agg #[.int .i64 0,.int .i64 0] else .agg #[.int .i64 t.to.1,.int .i64 t.to.2],.bool (t.op != 33)])∧Below w.heap.size w w'):=by
 by_cases h63:t.op=63
 ·refine⟨_,_,304,303,by rw[QE,if_pos h63],fun w=>by kernel_rfl,enters_of Tryz.func304 (by kernel_rfl) rfl,fun w=>(QfB t w).mono ?_,fun w=>by kernel_rfl,enters_of Tryz.func303 (by kernel_rfl) rfl,fun w=>(Qgl t w).mono ?_⟩
  ·rintro r w' ⟨v,rfl,o,f⟩;refine⟨v,rfl,?_,f⟩;have:rdsF t=[]:=by simp[rdsF,h63]
   rw[this];exact o
  ·rintro r w' ⟨rfl,f⟩;refine⟨?_,f⟩;simp[h63]
 by_cases h99:t.op=99
 ·refine⟨_,_,286,285,by rw[QE,if_neg h63,if_pos h99],fun w=>by kernel_rfl,enters_of Tryz.func286 (by kernel_rfl) rfl,fun w=>(QfG t w).mono ?_,fun w=>by kernel_rfl,enters_of Tryz.func285 (by kernel_rfl) rfl,fun w=>(Qgn t w).mono ?_⟩
  ·rintro r w' ⟨v,rfl,o,f⟩;refine⟨v,rfl,?_,f⟩;have:rdsF t=[t.a]:=by simp[rdsF,h99]
   rw[this];exact o
  ·rintro r w' ⟨rfl,f⟩;refine⟨?_,f⟩;simp[h99]
 by_cases h118:t.op=118
 ·refine⟨_,_,296,295,by rw[QE,if_neg h63,if_neg h99,if_pos h118],fun w=>by kernel_rfl,enters_of Tryz.func296 (by kernel_rfl) rfl,fun w=>(QfD t w).mono ?_,fun w=>by kernel_rfl,enters_of Tryz.func295 (by kernel_rfl) rfl,fun w=>(Qgm t w).mono ?_⟩
  ·rintro r w' ⟨v,rfl,o,f⟩;refine⟨v,rfl,?_,f⟩;have:rdsF t=[]:=by simp[rdsF,h118]
   rw[this];exact o
  ·rintro r w' ⟨rfl,f⟩;refine⟨?_,f⟩;simp[h118]
 by_cases h33:t.op=33
 ·refine⟨_,_,316,315,by rw[QE,if_neg h63,if_neg h99,if_neg h118,if_pos h33],fun w=>by kernel_rfl,enters_of Tryz.func316 (by kernel_rfl) rfl,fun w=>(QhE t w).mono ?_,fun w=>by kernel_rfl,enters_of Tryz.func315 (by kernel_rfl) rfl,fun w=>(Qic t w).mono ?_⟩
  ·rintro r w' ⟨v,rfl,o,f⟩;refine⟨v,rfl,?_,f⟩;have:rdsF t=[t.a]:=by simp[rdsF,h33]
   rw[this];exact o
  ·rintro r w' ⟨rfl,f⟩;refine⟨?_,f⟩;simp[h33]
 refine⟨_,_,325,324,by rw[QE,if_neg h63,if_neg h99,if_neg h118,if_neg h33],fun w=>by kernel_rfl,enters_of Tryz.func325 (by kernel_rfl) rfl,fun w=>(N2 t w).mono ?_,fun w=>by kernel_rfl,enters_of Tryz.func324 (by kernel_rfl) rfl,fun w=>(Qam t w).mono ?_⟩
 ·rintro r w' ⟨v,rfl,o,f⟩;refine⟨v,rfl,?_,f⟩;have:rdsF t=[t.a,t.b]:=by simp[rdsF,h63,h99,h118,h33]
  rw[this];exact o
 ·rintro r w' ⟨rfl,f⟩;refine⟨?_,f⟩;simp[h33]
theorem QfC(w:World):Calls Tryz.prog 308 #[.agg #[]] w fun x w'=>x=.returned (.slice none 0 0)∧Below w.heap.size w w':=by
 go_enter Tryz.func308,Tryz.ntmps308
 go_wp2
 go_ret;exact⟨rfl,(Below.refl _ _).alloc (Nat.le_refl _) _⟩
theorem QfE(a b:Nat)(w:World):Calls Tryz.prog 312 #[.agg #[.int .i64 a,.int .i64 b]] w fun x w'=>x=.returned (.slice none 0 0)∧Below w.heap.size w w':=by
 go_enter Tryz.func312,Tryz.ntmps312
 go_wp2
 go_ret;exact⟨rfl,(Below.refl _ _).alloc (Nat.le_refl _) _⟩
theorem QfF(p q a b c d:Nat)(w:World):Calls Tryz.prog 320 #[.agg #[.int .i64 p,.int .i64 q,.int .i64 a,.int .i64 b,.int .i64 c,.int .i64 d]] w fun x w'=>∃v,x=.returned v∧w'.ownsRow w.heap.size 132 2 v 1 (pcs [(p,q)])∧Below w.heap.size w w':=by
 go_enter Tryz.func320,Tryz.ntmps320
 go_wp2
 go_ret;refine⟨_,rfl,?_,((Below.refl _ _).alloc (Nat.le_refl _) _).alloc (by simp) _⟩;have ON:=ZA (w.alloc (.cells #[.int .i64 p,.int .i64 q,.int .i64 a,.int .i64 b,.int .i64 c,.int .i64 d] 353)) w.heap.size 132 2 1 #[.int .i64 p,.int .i64 q] (by simp) rfl (by decide);rw[World.size_alloc]at ON;exact ON
def QZ(e:Z3):List (Nat×Nat):=if e.op=63 then [e.a] else []
theorem Qij(e:Z3)(hop:e.op=46∨e.op=62∨e.op=63):∃T x fn,QP e=.iface T x∧(∀w:World,(method 500 T x "Reads").run Tryz.prog w=.ok (fn,x) w)∧(∀args (w:World),(callFunc fn args).run Tryz.prog w=.ok (.enter fn args) w) ∧
  ∀w:World,Calls Tryz.prog fn #[x] w fun r w'=>∃v,r=.returned v∧w'.ownsRow w.heap.size 132 2 v (QZ e).length (pcs (QZ e))∧Below w.heap.size w w':=by
 rcases hop with hop|hop|hop
 ·obtain⟨a1,_⟩:=KK hop;refine⟨_,_,308,a1,fun w=>by kernel_rfl,enters_of Tryz.func308 (by kernel_rfl) rfl,fun w=>(QfC w).mono ?_⟩;rintro r w' ⟨rfl,f⟩;have:QZ e=[]:=by simp[QZ,hop]
  rw[this];exact⟨_,rfl,World.ownsRow_nil _ _ _ _,f⟩
 ·obtain⟨a1,_⟩:=KL hop;refine⟨_,_,312,a1,fun w=>by kernel_rfl,enters_of Tryz.func312 (by kernel_rfl) rfl,fun w=>(QfE _ _ w).mono ?_⟩;rintro r w' ⟨rfl,f⟩;have:QZ e=[]:=by simp[QZ,hop]
  rw[this];exact⟨_,rfl,World.ownsRow_nil _ _ _ _,f⟩
 ·obtain⟨a1,_⟩:=Jx hop;refine⟨_,_,320,a1,fun w=>by kernel_rfl,enters_of Tryz.func320 (by kernel_rfl) rfl,fun w=>(QfF _ _ _ _ _ _ w).mono ?_⟩;rintro r w' ⟨v,rfl,o,f⟩;have:QZ e=[e.a]:=by simp[QZ,hop]
  rw[this];exact⟨_,rfl,o,f⟩
theorem Rh{t e:TypeId}{z:Value}{size bytes:Nat}(ht:Tryz.prog.underlying t=some (.slice e))(hi:(Tryz.prog.info? e).map (fun i=>(i.zero,i.size,i.bytes))=some (some z,size,bytes))(hzs:z.cells.size=size)(hsz:0<size)
  {ops:Array Oper}{rest:List Oper}{o:Oper}{a:Act}{Q:Exit→Act→World→Prop}{w:World}(hgd:o.guard=none)(s x:Operand)
  (ho:o.op=.call { callee:=.builtin .append,args:=#[s,x],argTypes:=#[t,t] })
  {base B2:Nat}{v u:Value}{n m:Nat}{xs ys:List Value}(hs:a.eval s=v)(hown:w.ownsRow base e size v n xs)(hx:a.eval x=u)(hsrc:w.ownsRow B2 e size u m ys)(h1:∀y∈ys,y.oneCell'=true)
  (h63:n+m≤maxLen)(hbytes:(n+m)*bytes≤140737488355328)(hbase:base≤w.heap.size)
  (h:∀v' w',w'.ownsRow base e size v' (n+m) (xs++ys)→w.grownBy w' v.ownBlock→wpList Tryz.prog ops Q rest (a.put o.dst v') w'):wpList Tryz.prog ops Q (o::rest) a w:=by
 rcases hsrc.2 with ⟨rfl,h0⟩|⟨g,c,cur,rfl,_,hg,_⟩
 ·refine Ri ht hi hgd s x ho hs hown hx (h v w ?_ ⟨rfl,rfl,rfl,Nat.le_refl _,fun _ _ _=>rfl⟩);have hy:ys=[]:=List.eq_nil_of_length_eq_zero (by rw[hsrc.1,h0,Nat.zero_mul]);rw[hy,h0,List.append_nil,Nat.add_zero];exact hown
 ·obtain⟨I,Hi,Hz,Hs,Hb⟩:=info_parts hi;exact wpList_append_own w hgd s x t ho base e I z size bytes ht Hi Hz Hs Hb hzs hsz v n xs hs hown ⟨g,0,none⟩ m c ys hx hsrc.1 (fun j y hj=>hsrc.cells rfl j y hj) h1 h63 hbytes hbase (fun v' w' a b _=>h v' w' a b)
theorem Y7(l:List (Nat×Nat)):∀y∈pcs l,y.oneCell'=true:=fun y hy=>by
 obtain⟨p,_,h⟩:=List.mem_flatMap.1 hy;simp only[pc,List.mem_cons,List.not_mem_nil,or_false]at h;rcases h with rfl|rfl<;>rfl
theorem J3(a b:List (Nat×Nat)):pcs (a++b)=pcs a++pcs b:=List.flatMap_append ..
theorem Tryz.info132:(Tryz.prog.info? 132).map (fun i=>(i.zero,i.size,i.bytes))=some (some (.agg #[.int .i64 0,.int .i64 0]),2,16):=by kernel_rfl
theorem Qdd(t:Qy)(w:World):
  Calls Tryz.prog 55 #[.agg #[.int .u8 t.op,.int .i64 t.to.1,.int .i64 t.to.2,.int .i64 t.a.1,.int .i64 t.a.2,.int .i64 t.b.1,.int .i64 t.b.2,.int .i64 t.n]] w
   fun x w'=>∃v,x=.returned v∧w'.ownsRow w.heap.size 48 2 v (rdsF t).length (pcs (rdsF t))∧Below w.heap.size w w':=by
 by_cases h0:t.op=99
 ·have HG:Hid (rdsF t=[t.a]):=by simp[Hid,rdsF,h0]
  have e0:((t.op:Int)==99)=true:=by simp;omega
  clear h0;go_enter Tryz.func55,Tryz.ntmps55
  go_wp2
  go_ret;rw[HG.o];refine⟨_,rfl,?_,((Below.refl _ _).alloc (Nat.le_refl _) _).alloc (by simp) _⟩;have ON:=ZA (w.alloc (.cells #[.int .u8 t.op,.int .i64 t.to.1,.int .i64 t.to.2,.int .i64 t.a.1,.int .i64 t.a.2,.int .i64 t.b.1,.int .i64 t.b.2,.int .i64 t.n] 66)) w.heap.size 48 2 1 #[.int .i64 t.a.1,.int .i64 t.a.2] (by simp) rfl (by decide);rw[World.size_alloc]at ON;exact ON
 ·by_cases h1:t.op=33
  ·have HG:Hid (rdsF t=[t.a]):=by simp[Hid,rdsF,h1]
   have e0:((t.op:Int)==99)=false:=by simp;omega
   have e1:((t.op:Int)==33)=true:=by simp;omega
   clear h0 h1;go_enter Tryz.func55,Tryz.ntmps55
   go_wp2
   go_ret;rw[HG.o];refine⟨_,rfl,?_,((Below.refl _ _).alloc (Nat.le_refl _) _).alloc (by simp) _⟩;have ON:=ZA (w.alloc (.cells #[.int .u8 t.op,.int .i64 t.to.1,.int .i64 t.to.2,.int .i64 t.a.1,.int .i64 t.a.2,.int .i64 t.b.1,.int .i64 t.b.2,.int .i64 t.n] 66)) w.heap.size 48 2 1 #[.int .i64 t.a.1,.int .i64 t.a.2] (by simp) rfl (by decide);rw[World.size_alloc]at ON;exact ON
  ·by_cases h2:t.op=118
   ·have HG:Hid (rdsF t=[]):=by simp[Hid,rdsF,h2]
    have e0:((t.op:Int)==99)=false:=by simp;omega
    have e1:((t.op:Int)==33)=false:=by simp;omega
    have e2:((t.op:Int)==118)=true:=by simp;omega
    clear h0 h1 h2;go_enter Tryz.func55,Tryz.ntmps55
    go_wp2
    go_ret;rw[HG.o];exact⟨_,rfl,World.ownsRow_nil _ _ _ _,(Below.refl _ _).alloc (Nat.le_refl _) _⟩
   ·by_cases h3:t.op=63
    ·have HG:Hid (rdsF t=[]):=by simp[Hid,rdsF,h3]
     have e0:((t.op:Int)==99)=false:=by simp;omega
     have e1:((t.op:Int)==33)=false:=by simp;omega
     have e2:((t.op:Int)==118)=false:=by simp;omega
     have e3:((t.op:Int)==63)=true:=by simp;omega
     clear h0 h1 h2 h3;go_enter Tryz.func55,Tryz.ntmps55
     go_wp2
     go_ret;rw[HG.o];exact⟨_,rfl,World.ownsRow_nil _ _ _ _,(Below.refl _ _).alloc (Nat.le_refl _) _⟩
    ·have HG:Hid (rdsF t=[t.a,t.b]):=by simp[Hid,rdsF,h0,h1,h2,h3]
     have e0:((t.op:Int)==99)=false:=by simp;omega
     have e1:((t.op:Int)==33)=false:=by simp;omega
     have e2:((t.op:Int)==118)=false:=by simp;omega
     have e3:((t.op:Int)==63)=false:=by simp;omega
     clear h0 h1 h2 h3;go_enter Tryz.func55,Tryz.ntmps55
     go_wp2
     go_ret;rw[HG.o];refine⟨_,rfl,?_,((Below.refl _ _).alloc (Nat.le_refl _) _).alloc (by simp) _⟩;have ON:=ZA (w.alloc (.cells #[.int .u8 t.op,.int .i64 t.to.1,.int .i64 t.to.2,.int .i64 t.a.1,.int .i64 t.a.2,.int .i64 t.b.1,.int .i64 t.b.2,.int .i64 t.n] 66)) w.heap.size 48 2 2 #[.int .i64 t.a.1,.int .i64 t.a.2,.int .i64 t.b.1,.int .i64 t.b.2] (by simp) rfl (by decide);rw[World.size_alloc]at ON;exact ON
theorem J2(s i bad):regN s i bad<10000:=Z2 _ _ _
def StFine(t:Qy):Prop:=t.to.1<10000∧t.a.1<10000∧t.b.1<10000
def ChFine(n:Nat)(c:QH):Prop:=c.to.1<10000∧c.rs.length=c.gs.length∧c.gs.length≤n∧∀r∈c.rs,r.1<10000
structure ZG(n:Nat)(b:Ql):Prop where
 cl:b.chs.length≤n
 sl:b.sts.length≤n
 ch:∀c∈b.chs,ChFine n c
 st:∀t∈b.sts,StFine t
 e:b.e.a.1<10000
theorem Qci{s to i bad}(h:to.1<10000):StFine (givF s to i bad).st:=by
 unfold givF;by_cases h1:onF s i bad 63=true
 ·rw[if_pos h1];exact⟨h,Nat.zero_lt_succ _,Nat.zero_lt_succ _⟩
 rw[if_neg h1];by_cases h2:onF s i bad 114=true
 ·rw[if_pos h2];by_cases h3:opC s (regI s i bad) (regB s i bad)=0
  ·dsimp only;rw[if_pos h3];exact⟨h,J2 _ _ _,Nat.zero_lt_succ _⟩
  ·dsimp only;rw[if_neg h3];exact⟨h,J2 _ _ _,J2 _ _ _⟩
 rw[if_neg h2];by_cases h4:onF s i bad 45=true
 ·rw[if_pos h4];exact⟨h,Nat.zero_lt_succ _,Nat.zero_lt_succ _⟩
 ·rw[if_neg h4];exact⟨h,Nat.zero_lt_succ _,Nat.zero_lt_succ _⟩
theorem Qat{s}(k:Nat):∀c:Cho,c.rs.length=c.gs.length→(∀r∈c.rs,r.1<10000)→(Zv s k c).rs.length=(Zv s k c).gs.length∧∀r∈(Zv s k c).rs,r.1<10000:=by
 induction k with
 | zero=>intro c h1 h2;exact⟨h1,h2⟩
 | succ k ih=>
  intro c h1 h2;have g1:(choR s c).rs.length=(choR s c).gs.length:=by simp[choR,h1]
  have g2:∀r∈(choR s c).rs,r.1<10000:=fun r hr=>by
   simp only[choR,List.mem_append,List.mem_singleton]at hr;rcases hr with hr|hr
   ·exact h2 r hr
   ·subst hr;exact J2 _ _ _
  rw[Zv]
  cases h:onF s (choR s c).i (choR s c).bad 44 with
  | true=>rw[if_pos rfl];exact ih _ g1 g2
  | false=>rw[if_neg (by simp)];exact⟨g1,g2⟩
theorem U6{s i bad}:(choF s i bad).rs.length=(choF s i bad).gs.length∧∀r∈(choF s i bad).rs,r.1<10000:=Qat _ _ rfl (fun r hr=>by simp at hr)
theorem Qav{s i0}(k:Nat):∀chs sts i bad,chs.length+k≤s.size+1→sts.length+k≤s.size+1→(∀c∈chs,ChFine (s.size+1) c)→(∀t∈sts,StFine t)→ZG (s.size+1) (QG s i0 k chs sts i bad).b:=by
 induction k with
 | zero=>intro chs sts i bad h1 h2 h3 h4;exact⟨h1,h2,h3,h4,by show 0<10000;omega⟩
 | succ k ih=>
  intro chs sts i bad hc hl hch hst;have hcl:chs.length≤s.size+1:=by omega
  have hsl:sts.length≤s.size+1:=by omega
  rw[QG];by_cases hb:bad<0
  ·rw[if_pos hb];by_cases h1:onF s i bad 46=true
   ·rw[if_pos h1];exact⟨hcl,hsl,hch,hst,by show 0<10000;omega⟩
   rw[if_neg h1];by_cases h2:onF s i bad 62=true
   ·rw[if_pos h2];exact⟨hcl,hsl,hch,hst,by show 0<10000;omega⟩
   rw[if_neg h2];by_cases h3:onF s i bad 33=true
   ·rw[if_pos h3];refine ih _ _ _ _ (by omega) (by rw[List.length_append,List.length_singleton];omega) hch ?_;intro t ht;rcases List.mem_append.1 ht with ht|ht
    ·exact hst t ht
    ·rw[List.mem_singleton]at ht;subst ht;exact⟨by show 0<10000;omega,J2 _ _ _,by show 0<10000;omega⟩
   rw[if_neg h3];dsimp only;by_cases h4:onF s (regI s i bad) (regB s i bad) 61=true
   ·rw[if_pos h4];refine ih _ _ _ _ (by omega) (by rw[List.length_append,List.length_singleton];omega) hch ?_;intro t ht;rcases List.mem_append.1 ht with ht|ht
    ·exact hst t ht
    ·rw[List.mem_singleton]at ht;subst ht;exact Qci (J2 _ _ _)
   rw[if_neg h4];by_cases h5:(onF s (regI s i bad) (regB s i bad) 64&&sts.isEmpty)=true
   ·rw[if_pos h5];refine ih _ _ _ _ (by rw[List.length_append,List.length_singleton];omega) (by omega) ?_ hst;intro c hc;rcases List.mem_append.1 hc with hc|hc
    ·exact hch c hc
    ·rw[List.mem_singleton]at hc;subst hc;exact⟨J2 _ _ _,U6.1,NF,U6.2⟩
   rw[if_neg h5];exact⟨hcl,hsl,hch,hst,J2 _ _ _⟩
  ·rw[if_neg hb];exact⟨hcl,hsl,hch,hst,by show 0<10000;omega⟩
theorem Qax{s i bad}:ZG (s.size+1) (blkF s i bad).b:=Qav _ _ _ _ _ (by simp) (by simp) (fun c hc=>by simp at hc) (fun c hc=>by simp at hc)
theorem RN{s}(k:Nat):∀p:Par,(∀b∈p.bs,ZG (s.size+1) b)→∀b∈(ZU s k p).bs,ZG (s.size+1) b:=by
 induction k with
 | zero=>intro p h;exact h
 | succ k ih=>
  intro p h;rw[ZU];have hq:∀b∈p.bs++[(blkF s p.i p.bad).b],ZG (s.size+1) b:=by
   intro b hb;rcases List.mem_append.1 hb with hb|hb
   ·exact h b hb
   ·rw[List.mem_singleton]at hb;subst hb;exact Qax
  cases ho:onF s (blkF s p.i p.bad).i (blkF s p.i p.bad).bad 124 with
  | true=>rw[if_pos rfl];exact ih _ hq
  | false=>rw[if_neg (by simp)];exact hq
theorem WI(s:ByteArray):∀b∈(Qq s).bs,ZG (s.size+1) b:=RN _ _ (fun b hb=>by simp at hb)
def bkF(bs:List Ql)(i:Nat):Ql:=(bs[i]?).getD ⟨[],[],RT,0⟩
theorem Zt{bs:List Ql}{i:Nat}(h:i<bs.length):bkF bs i=bs[i]:=by rw[bkF,List.getElem?_eq_getElem h];rfl
theorem Qb6{s:ByteArray}(k:Nat)(p:Par)(h:0<p.bs.length∨0<k):0<(ZU s k p).bs.length:=by
 induction k generalizing p with
 | zero=>
  rcases h with h|h
  ·exact h
  ·omega
 | succ k ih=>
  rw[ZU];split
  ·exact ih _ (.inl (by simp))
  ·simp
theorem rd0{s:ByteArray}(h:(rdF s).e=0):(rdF s).at_=0∧0<(Qq s).bs.length∧(Qq s).bs.length≤12∧∀b∈(Qq s).bs,∀p∈goalsF b.e,p.1<(Qq s).bs.length:=by
 have hp:0<(Qq s).bs.length:=Qb6 _ _ (.inr (by omega));unfold rdF at h ⊢;by_cases h1:200000<s.size
 ·rw[if_pos h1]at h;cases h
 rw[if_neg h1]at h ⊢;by_cases h2:0≤QR s
 ·rw[if_pos h2]at h;cases h
 rw[if_neg h2]at h ⊢;by_cases h3:12<(Qq s).bs.length
 ·rw[dif_pos h3]at h;cases h
 rw[dif_neg h3]at h ⊢;by_cases h4:0≤ZR (Qq s).bs
 ·rw[if_pos h4]at h;cases h
 rw[if_neg h4]at h ⊢;by_cases h5:0≤Ka (Qq s).bs
 ·rw[if_pos h5]at h;cases h
 rw[if_neg h5];exact⟨rfl,hp,by omega,WT h4⟩
theorem ZG.mono{n m:Nat}{b:Ql}(h:ZG n b)(hn:n≤m):ZG m b:=⟨Nat.le_trans h.cl hn,Nat.le_trans h.sl hn,fun c hc=>⟨(h.ch c hc).1,(h.ch c hc).2.1,Nat.le_trans (h.ch c hc).2.2.1 hn,(h.ch c hc).2.2.2⟩,h.st,h.e⟩
theorem Rr{ah:List Nat}:∀{cs:List QH}{gv:List Nat},Js ah gv cs=none→∀c∈cs,Q3 c.gs=ah
 | [],_,_,c,hc=>by simp at hc
 | d::cs,gv,h,c,hc=>by
  rw[Js]at h;split at h
  ·rename_i ho;rcases List.mem_cons.1 hc with rfl|hc
   ·rw[Kp,Bool.and_eq_true]at ho;simpa using ho.1
   ·exact Rr h c hc
  ·cases h
theorem QfI{s:ByteArray}(h:(rdF s).e=0):s.size≤200000∧∀(i:Nat)(hi:i<(Qq s).bs.length),∀c∈(Qq s).bs[i].chs,Q3 c.gs=aheF (Qq s).bs i:=by
 unfold rdF at h;by_cases h1:200000<s.size
 ·rw[if_pos h1]at h;cases h
 rw[if_neg h1]at h;by_cases h2:0≤QR s
 ·rw[if_pos h2]at h;cases h
 rw[if_neg h2]at h;by_cases h3:12<(Qq s).bs.length
 ·rw[dif_pos h3]at h;cases h
 rw[dif_neg h3]at h;by_cases h4:0≤ZR (Qq s).bs
 ·rw[if_pos h4]at h;cases h
 rw[if_neg h4]at h;by_cases h5:0≤Ka (Qq s).bs
 ·rw[if_pos h5]at h;cases h
 refine⟨by omega,fun i hi c hc=>?_⟩;have hn:(List.range (Qq s).bs.length).findSome? (Xw (Qq s).bs)=none:=by
  cases e:(List.range (Qq s).bs.length).findSome? (Xw (Qq s).bs) with
  | none=>rfl
  | some x=>rw[Ka,e]at h5;exact absurd (by show (0:Int)≤(x:Int);omega) h5
 rw[List.findSome?_eq_none_iff]at hn;have:=hn i (List.mem_range.2 hi);rw[Xw,List.getElem?_eq_getElem hi]at this;exact Rr this c hc
theorem KS{s:ByteArray}(h:(rdF s).e=0):(∀b∈(Qq s).bs,ZG 1000000 b)∧(∀b∈(Qq s).bs,∀c∈b.chs,(c.gs.map (·.1)).Pairwise (· < ·))∧(∀b∈(Qq s).bs,∀c∈b.chs,c.gs.length≤1000):=by
 obtain⟨hs,hc⟩:=QfI h;obtain⟨_,_,h12,_⟩:=rd0 h;refine⟨fun b hb=>(WI s b hb).mono (by omega),fun b hb c hcc=>?_,fun b hb c hcc=>?_⟩
 ·obtain⟨i,hi,rfl⟩:=List.getElem_of_mem hb;have:=hc i hi c hcc;rw[Q3]at this;rw[this];exact VJ _ _ _
 ·obtain⟨i,hi,rfl⟩:=List.getElem_of_mem hb;have:=congrArg List.length (hc i hi c hcc);rw[Q3,List.length_map]at this;have:=NN (Qq s).bs i;omega
def upE(m:Nat)(s:ByteArray):Nat:=if (rdF s).e=0 then (if m<s.size then 1 else 0) else (rdF s).e
theorem K1{m s}(h:upE m s=0):(rdF s).e=0∧s.size≤m:=by
 unfold upE at h;by_cases h0:(rdF s).e=0
 ·rw[if_pos h0]at h;by_cases h1:m<s.size
  ·rw[if_pos h1]at h;cases h
  ·exact⟨h0,by omega⟩
 ·rw[if_neg h0]at h;exact absurd h h0
def PUp(w:World)(base m:Nat)(s:ByteArray)(v:Value):Prop:=upE m s=0→PBs w base (Qq s).bs v
theorem Qfy(m:Nat)(_hm:m≤1000000)(s:ByteArray)(w:World)(_hs:s.size≤maxLen):
  Calls Tryz.prog 19 #[.int .i64 m,.string s] w fun x w'=>∃v,x=.returned (.tuple #[v,.int .i64 (upE m s),.int .i64 (rdF s).at_])∧Hid (PUp w' w.heap.size m s v∧Below w.heap.size w w'):=by
 unfold maxLen at _hs;go_enter Tryz.func19,Tryz.ntmps19;go_wp2_with fail;refine(Qb1 s w).mono ?_;rintro x w1 ⟨v1,rfl,P1,f1⟩;have H1:=Qc (And.intro P1 f1);clear P1 f1;by_cases h0:(rdF s).e=0
 ·have ha:=(rd0 h0).1;have HA:=Qc ha;rw[h0,ha];by_cases hl:m<s.size
  ·have HE:Hid (upE m s=1):=by show _=_;rw[upE,if_pos h0,if_pos hl]
   clear h0 ha;go_wp2_with fail
   go_ret3
   exact⟨_,by rw[HE.o,HA.o];rfl,(fun h=>by rw[HE.o]at h;cases h),H1.o.2⟩
  ·have HE:Hid (upE m s=0):=by show _=_;rw[upE,if_pos h0,if_neg hl]
   have HP:=Qc (H1.o.1 h0);clear h0 ha;go_wp2_with fail
   go_ret3
   exact⟨_,by rw[HE.o,HA.o];rfl,fun _=>HP.o,H1.o.2⟩
 ·have HE:Hid (upE m s=(rdF s).e):=by show _=_;rw[upE,if_neg h0]
  have hd:(((rdF s).e:Int)==0)=false:=by simp;omega
  have HZ:Hid (upE m s≠0):=by show _≠_;rw[HE.o];exact h0
  clear h0;go_wp2_with fail
  go_ret3
  exact⟨_,by rw[HE.o];rfl,fun h=>absurd h HZ.o,H1.o.2⟩
theorem Qhs(s:ByteArray)(w:World)(hs:s.size≤maxLen):
  Calls Tryz.prog 15 #[.string s] w fun x w'=>∃v,x=.returned (.tuple #[v,.int .i64 (upE 40000 s),.int .i64 (rdF s).at_])∧Hid ((upE 40000 s=0→QK w' w.heap.size (Qq s).bs v)∧Below w.heap.size w w'):=by
 go_enter Tryz.func15,Tryz.ntmps15;go_wp2_with fail;refine(RG s w hs).mono ?_;rintro x w1 ⟨v1,rfl,P1,f1⟩;unfold maxLen at hs;have H1:=Qc (And.intro P1 f1);clear P1 f1;by_cases h0:(rdF s).e=0
 ·have ha:=(rd0 h0).1;have HA:=Qc ha;rw[h0,ha];by_cases hl:40000<s.size
  ·have HE:Hid (upE 40000 s=1):=by show _=_;rw[upE,if_pos h0,if_pos hl]
   clear h0 ha;go_wp2_with fail
   go_ret3
   exact⟨_,by rw[HE.o,HA.o];rfl,(fun h=>by rw[HE.o]at h;cases h),H1.o.2⟩
  ·have HE:Hid (upE 40000 s=0):=by show _=_;rw[upE,if_pos h0,if_neg hl]
   have HP:=Qc (H1.o.1 h0);clear h0 ha;go_wp2_with fail
   go_ret3
   exact⟨_,by rw[HE.o,HA.o];rfl,fun _=>HP.o,H1.o.2⟩
 ·have HE:Hid (upE 40000 s=(rdF s).e):=by show _=_;rw[upE,if_neg h0]
  have hd:(((rdF s).e:Int) != 0)=true:=by simp;omega
  have HZ:Hid (upE 40000 s≠0):=by show _≠_;rw[HE.o];exact h0
  clear h0;go_wp2_with fail
  go_ret3
  exact⟨_,by rw[HE.o];rfl,fun h=>absurd h HZ.o,H1.o.2⟩
theorem VB{s:ByteArray}(h:(rdF s).e=0):∀b∈(Qq s).bs,∀c∈b.chs,∀p∈c.gs,p.1<(Qq s).bs.length:=by
 intro b hb c hc p hp;obtain⟨i,hi,rfl⟩:=List.getElem_of_mem hb;have:=(QfI h).2 i hi c hc;have hm:p.1∈Q3 c.gs:=List.mem_map.2 ⟨p,hp,rfl⟩;rw[this]at hm;exact Ur hm
theorem QhA{t:Qy}(h:StFine t){r:Nat}(hr:r∈(rdsF t).map (·.1)):r<10000:=by
 obtain⟨h1,h2,h3⟩:=h;unfold rdsF at hr;split at hr
 ·simp at hr;omega
 split at hr
 ·simp at hr;omega
 split at hr
 ·simp at hr
 split at hr
 ·simp at hr
 ·simp at hr;omega
theorem QeR{n:Nat}{bs:List Ql}(h:∀b∈bs,ZG n b)(i:Nat):ZG n (bkF bs i):=by
 by_cases hi:i<bs.length
 ·rw[Zt hi];exact h _ (List.getElem_mem hi)
 ·rw[bkF,List.getElem?_eq_none (by omega)];exact⟨Nat.zero_le _,Nat.zero_le _,fun c hc=>by simp at hc,fun c hc=>by simp at hc,by show 0<10000;omega⟩
theorem Qfl{l:List Nat}(hl:l.Pairwise (· < ·)){n:Nat}(h:∀x∈l,x<n):l=QC n (fun x=>l.contains x):=Y3 hl fun x=>⟨fun hx=>⟨h x hx,by simpa using hx⟩,fun hx=>by simpa using hx.2⟩
theorem Qfm{l:List Nat}(hl:l.Pairwise (· < ·)){n:Nat}(h:∀x∈l,x<n):l.length≤n:=by
 rw[Qfl hl h];exact Xy _ _
theorem QhV{l:List Nat}(h:l.Pairwise (· < ·)):ofL l=l:=ZX (XX _) h fun _=>Z1
def SM(l:List Nat):Prop:=l.Pairwise (· < ·)∧∀x∈l,x<10000
theorem SM.len{l:List Nat}(h:SM l):l.length≤10000:=Qfm h.1 h.2
theorem SM.of{l:List Nat}(h:∀x∈l,x<10000):SM (ofL l):=⟨XX _,fun x hx=>h x (Z1.1 hx)⟩
theorem Qdg(t:Qy):(rdsF t).length≤2:=by
 unfold rdsF
 repeat' split
 all_goals simp
structure Use where
 n:Nat
 p:Nat
 b:Nat
 s:Int
def stU(b:Ql)(i j:Nat):List Use:=match b.sts[j]? with|some t=>if t.op=33 then [] else [⟨t.to.1,t.to.2,i,j⟩] | none=>[]
theorem Gk{b:Ql}{i j:Nat}(hj:j<b.sts.length)(h:b.sts[j].op=33):stU b i j=[]:=by rw[stU,List.getElem?_eq_getElem hj];simp[h]
theorem Wt{b:Ql}{i j:Nat}(hj:j<b.sts.length)(h:¬b.sts[j].op=33):stU b i j=[⟨b.sts[j].to.1,b.sts[j].to.2,i,j⟩]:=by rw[stU,List.getElem?_eq_getElem hj];simp[h]
def chU(i:Nat)(c:QH):Use:=⟨c.to.1,c.to.2,i,-1⟩
def Va(b:Ql)(i:Nat):List Use:=b.chs.map (chU i)++(List.range b.sts.length).flatMap (stU b i)
def VW(bs:List Ql)(m:Nat):List Use:=(List.range m).flatMap fun i=>Va (bkF bs i) i
def gvU(bs:List Ql):List Use:=VW bs bs.length
theorem UY(bs:List Ql)(m:Nat):VW bs (m+1)=VW bs m++Va (bkF bs m) m:=by rw[VW,VW,List.range_succ,List.flatMap_append];simp
def twG(seen:List Nat):List Use→Option Use
 | []=>none
 | u::us=>if seen.contains u.n then some u else twG (seen++[u.n]) us
def twF(l:List Use):Option Use:=twG [] l
theorem YY(u:Use):∀(l:List Use)(seen:List Nat),twG seen (l++[u])=match twG seen l with|some x=>some x|none=>if (seen++l.map (·.n)).contains u.n then some u else none
 | [],seen=>by simp[twG]
 | v::l,seen=>by
  rw[List.cons_append,twG,twG];by_cases h:seen.contains v.n=true
  ·rw[if_pos h,if_pos h]
  ·rw[if_neg h,if_neg h,YY u l (seen++[v.n])];simp[List.append_assoc]
theorem Wk{l:List Use}{x:Use}(h:twF l=some x)(u:Use):twF (l++[u])=some x:=by rw[twF,YY];rw[twF]at h;rw[h]
theorem VY{l:List Use}{u:Use}(h:twF l=none)(hu:u.n∈l.map (·.n)):twF (l++[u])=some u:=by
 rw[twF,YY];rw[twF]at h;rw[h];simp only[List.nil_append];rw[if_pos (List.contains_iff_mem.2 hu)]
theorem NR{l:List Use}{u:Use}(h:twF l=none)(hu:u.n∉l.map (·.n)):twF (l++[u])=none:=by
 rw[twF,YY];rw[twF]at h;rw[h];simp only[List.nil_append];rw[if_neg (fun e=>hu (List.contains_iff_mem.1 e))]
def atO(o:Option Use):Int:=match o with|some u=>u.p|none=>-1
def whF(l:List Use)(n:Nat):Int:=match l.findIdx? (fun u=>u.n==n) with|some i=>i|none=>-1
theorem YX{l:List Use}{n:Nat}:0≤whF l n↔n∈l.map (·.n):=by
 unfold whF
 cases h:l.findIdx? (fun u=>u.n==n) with
 | none=>
  rw[List.findIdx?_eq_none_iff]at h;constructor
  ·intro e;exact absurd e (by decide)
  ·intro e;obtain⟨u,hu,rfl⟩:=List.mem_map.1 e;have:=h u hu;simp at this
 | some i=>
  rw[List.findIdx?_eq_some_iff_getElem]at h;obtain⟨hi,h1,_⟩:=h;constructor
  ·intro _;exact List.mem_map.2 ⟨l[i],List.getElem_mem hi,by simpa using h1⟩
  ·intro _;show (0:Int)≤(i:Int);omega
def QN(l:List Use):List Value:=l.flatMap fun u=>[.int .i64 u.n,.int .i64 u.b,.int .i64 u.s]
theorem Zu(l m:List Use):QN (l++m)=QN l++QN m:=by rw[QN,QN,QN,List.flatMap_append]
theorem Jt{l:List Use}{j:Nat}(hj:j<l.length):(QN l)[j*3]?=some (.int .i64 l[j].n)∧(QN l)[j*3+1]?=some (.int .i64 l[j].b)∧(QN l)[j*3+2]?=some (.int .i64 l[j].s):=by
 have F:=fun k hk=>ZS 3 (l.map fun u:Use=>[Value.int .i64 u.n,.int .i64 u.b,.int .i64 u.s]) j k [.int .i64 l[j].n,.int .i64 l[j].b,.int .i64 l[j].s] (fun x hx=>by obtain⟨y,_,rfl⟩:=List.mem_map.1 hx;rfl) (by simp[hj]) hk;rw[QN,List.flatMap_def];exact⟨F 0 (by omega),F 1 (by omega),F 2 (by omega)⟩
theorem Wh(l:List Use)(n base:Nat)(v:Value)(w:World)(h:w.ownsRow base 115 3 v l.length (QN l))(hl:l.length≤100000000000):
  Calls Tryz.prog 53 #[v,.int .i64 n] w fun x w'=>x=.returned (.int .i64 (whF l n))∧w'=w:=by
 obtain⟨p,c,rfl⟩:=Qb h;have H:=Qc h;clear h;go_enter Tryz.func53,Tryz.ntmps53;go_wp2_with fail
 go_loop [5] (fun i=>∃k:Nat,k≤l.length∧i=.int .i64 k∧Hid (∀j,(hj:j<l.length)→j<k→l[j].n≠n)) (fun i=>l.length-(intOf i).toNat)
 case atStart=>exact⟨0,by omega,rfl,fun j hj hk=>absurd hk (by omega)⟩
 case round=>
  obtain⟨k,hk,rfl,HN⟩:=hrel;by_cases hlt:k<l.length
  ·obtain⟨g,rfl,_,_⟩:=Qh H.o (by omega);have hc:=Qe H.o (Jt hlt).1;by_cases he:l[k].n=n
   ·have he':((l[k].n:Int)==(n:Int))=true:=by simp;omega
    have HR:Hid (whF l n=k):=by
     show whF l n=_;have:l.findIdx? (fun u=>u.n==n)=some k:=List.findIdx?_eq_some_iff_getElem.2 ⟨hlt,by simpa using he,fun j hj=>by simpa using HN.o j (by omega) hj⟩;rw[whF,this]
    clear he;go_wp2_with fail;go_ret;exact⟨by rw[HR.o];rfl,rfl⟩
   ·have he':((l[k].n:Int)==(n:Int))=false:=by simp;omega
    have HN2:Hid (∀j,(hj:j<l.length)→j<k+1→l[j].n≠n):=fun j hj hjk=>by
     rcases Nat.lt_succ_iff_lt_or_eq.1 hjk with h|rfl
     ·exact HN.o j hj h
     ·exact he
    clear he;go_wp2_with fail
    go_round
    case rel=>exact⟨k+1,by omega,by go_num,HN2⟩
    case measure=>simp[intOf];omega
  ·have HR:Hid (whF l n=-1):=by
    show whF l n=_;have:l.findIdx? (fun u=>u.n==n)=none:=by
     rw[List.findIdx?_eq_none_iff];intro u hu;obtain⟨j,hj,rfl⟩:=List.getElem_of_mem hu;simpa using HN.o j hj (by omega)
    rw[whF,this]
   go_wp2_with fail;go_ret;exact⟨by rw[HR.o];rfl,rfl⟩
structure Ad(pb:Nat)(v v':Value)(w w':World):Prop where
 os:w'.os=w.os
 tape:w'.tape=w.tape
 output:w'.output=w.output
 size:w.heap.size≤w'.heap.size
 block:∀k,k<w.heap.size→k≠pb→some k≠v.ownBlock→w'.heap[k]?=w.heap[k]?
 new:Vp w v v'
theorem QaQ{l:List Nat}{x:Nat}(hs:l.Pairwise (· < ·))(hx:x∈l):ptF l x=l:=ZX (XS _ _) hs fun y=>by
 rw[Zf];constructor
 ·rintro (h|rfl)
  ·exact h
  ·exact hx
 ·exact .inl
theorem QfL{l:List Nat}{x i:Nat}(hs:l.Pairwise (· < ·))(hx:x∉l)(hp:Kh l x i):ptF l x=ZT l i x:=ZX (XS _ _) (Qa6 hs hx hp) fun y=>by
 rw[Zf,Qa7,or_comm]
theorem QcZ{cs:Array Value}{o:Nat}{v:Value}(h:cs[o]?=some v):cs.setIfInBounds o v=cs:=by
 apply Array.ext_getElem?;intro i;rw[Array.getElem?_setIfInBounds];split
 ·rename_i e;subst e;split
  ·exact h.symm
  ·rename_i h2;rw[Array.getElem?_eq_none (by omega)]at h;cases h
 ·rfl
theorem NI{w:World}{k:Nat}{cs:Array Value}{t:TypeId}{v:Value}(h:w.heap[k]?=some (.cells cs t (0,0))){o:Nat}(ho:cs[o]?=some v):w.cell? ⟨k,o,none⟩=some v:=(Qa h o).trans ho
theorem Qjf(l:List Nat)(x:Nat)(hsrt:Hid (l.Pairwise (· < ·)))(pb po base:Nat)(cs:Array Value)(t:TypeId)(v:Value)(w:World)(hB:w.heap[pb]?=some (.cells cs t (0,0)))(hp:cs[po]?=some v)(h:w.ownsRow base 78 1 v l.length (Qg l))(hl:l.length≤1000000)(hb:base≤w.heap.size)(hpv:v.ownBlock≠some pb):
  Calls Tryz.prog 98 #[.pointer (some ⟨pb,po,none⟩),.int .i64 x] w fun e w'=>∃(bb:Bool)(v':Value),e=.returned (.bool bb)∧Hid (bb=!(Qt l x)∧w'.heap[pb]?=some (.cells (cs.setIfInBounds po v') t (0,0))∧w'.ownsRow base 78 1 v' (ptF l x).length (Qg (ptF l x))∧Ad pb v v' w w'):=by
 by_cases hx:x∈l
 ·refine(QbJ l x hx hsrt pb po base v w (NI hB hp) h hl).mono ?_;rintro e w' ⟨rfl,HW⟩;have hW:=HW.o;subst hW;refine⟨false,v,rfl,?_,?_,?_,⟨rfl,rfl,rfl,Nat.le_refl _,fun _ _ _ _=>rfl,.inl rfl⟩⟩
  ·rw[Qt,List.contains_iff_mem.2 hx];rfl
  ·rw[QcZ hp];exact hB
  ·rw[QaQ hsrt.out hx];exact h
 ·refine(QbK l x hx hsrt pb po base v w (NI hB hp) (Qf hB po) h hl hb hpv).mono ?_;rintro e w' ⟨rfl,i,v',H⟩;obtain⟨_,hsp,o',P⟩:=H.o;refine⟨true,v',rfl,?_,?_,?_,⟨P.os,P.tape,P.output,P.size,P.block,P.new⟩⟩
  ·have:l.contains x=false:=by rw[←Bool.not_eq_true,List.contains_iff_mem];exact hx
   rw[Qt,this];rfl
  ·rw[P.at_,Qp hB]
  ·rw[QfL hsrt.out hx hsp];exact o'
theorem Ad.below{pb base:Nat}{v v':Value}{w0 w w':World}(A:Ad pb v v' w w')(F:Below base w0 w)(hb:base≤pb)(hv:∀k,v.ownBlock=some k→base≤k)(hs:base≤w.heap.size):Below base w0 w':=
 F.trans ⟨A.os,A.tape,A.output,A.size,fun j hj=>A.block j (by omega) (by omega) (fun e=>by have:=hv j e.symm;omega)⟩
theorem NM{w:World}{b1 b2 e1 e2 s1 s2 n1 n2:Nat}{u v:Value}{xs ys:List Value}(hu:w.ownsRow b1 e1 s1 u n1 xs)(hv:w.ownsRow b2 e2 s2 v n2 ys)(he:e1≠e2):ZQ u v:=by
 intro k hk hk2;rcases hu.2 with ⟨rfl,_⟩|⟨g,cap,cur,rfl,_,c1,_⟩
 ·cases hk2
 rcases hv.2 with ⟨rfl,_⟩|⟨g',cap',cur',rfl,_,c2,_⟩
 ·cases hk
 cases hk;cases hk2;rw[c1]at c2;cases c2;exact he rfl
end Go.Proofs.YtgfhfkgdmidhpaaGreatDoor
namespace Go.Proofs.YtgfhfkgdmidhpaaGreatDoor
open Go.RowKit
open Go.Sort
set_option maxRecDepth 100000
set_option maxHeartbeats 8000000
theorem Qg1(l:List Nat)(x base:Nat)(v:Value)(w:World)(h:w.ownsRow base 78 1 v l.length (Qg l))(hsrt:Hid (l.Pairwise (· < ·)))(hl:l.length≤1000000):
  Calls Tryz.prog 108 #[.agg #[v],.int .i64 x] w fun e w'=>e=.returned (.bool (Qt l x))∧Below w.heap.size w w':=by
 obtain⟨p,c,rfl⟩:=Qb h;go_enter Tryz.func108,Tryz.ntmps108;go_wp2_with fail;refine(Uj l x hsrt base _ _ (h.alloc _) hl).mono ?_;rintro e w1 ⟨hw1,i,hi,hsp,rfl⟩;have F:Hid (Below w.heap.size w w1):=by rw[hw1];exact(Below.refl _ _).alloc (Nat.le_refl _) _
 rw[Ns hsrt.out hsp];clear hw1 hsp;go_wp2_with fail;go_ret;exact⟨rfl,F.o⟩
end Go.Proofs.YtgfhfkgdmidhpaaGreatDoor
namespace Go.Proofs.YtgfhfkgdmidhpaaGreatDoor
open Go.RowKit
set_option maxRecDepth 100000
set_option maxHeartbeats 8000000
def Ke(b:Nat)(w w':World):Prop:=∀(g:Nat)(cur:Array Value)(e:TypeId),g≠b→e≠78→w.heap[g]?=some (.cells cur e (0,0))→w'.heap[g]?=some (.cells cur e (0,0))
theorem Ke.ad{b base n:Nat}{v v':Value}{xs:List Value}{w w':World}(A:Ad b v v' w w')(h:w.ownsRow base 78 1 v n xs):Ke b w w':=fun g c e h1 h2 h3=>by
 rw[A.block g (lt_of_block h3) h1 (fun e1=>Qw h h3 (fun e2=>h2 e2.symm) e1.symm)];exact h3
theorem Ke.owns{b base e size n:Nat}{u:Value}{xs:List Value}{w w':World}(K:Ke b w w')(h:w.ownsRow base e size u n xs)(he:e≠78)(hb:u.ownBlock≠some b):w'.ownsRow base e size u n xs:=by
 obtain⟨a1,b1⟩:=h;refine⟨a1,b1.imp id ?_⟩;rintro⟨g,cap,cur,rfl,b2,c1,d1⟩;exact⟨g,cap,cur,rfl,b2,K g cur e (fun e1=>hb (by rw[e1];rfl)) he c1,d1⟩
theorem Qfz(t:Qy):(rdsF t).length≤2:=by
 unfold rdsF
 repeat' split
 all_goals simp
theorem QaN{t:Qy}(h:StFine t):∀p∈rdsF t,p.1<10000:=fun p hp=>QhA h (List.mem_map.2 ⟨p,hp,rfl⟩)
def KH(bs:List Ql)(n b:Nat)(k:Int):Bool:=
 if rchF (suF bs) bs.length noB b then
  match (gvU bs).find? (fun u=>u.n==n) with
  | none=>false
  | some u=>if u.b=b then decide (u.s<k) else X6 (suF bs) bs.length u.b b
 else true
theorem Rp{l:List Use}{n:Nat}:(whF l n<0→l.find? (fun u=>u.n==n)=none)∧(0≤whF l n→∃(i:Nat)(hi:i<l.length),whF l n=i∧l.find? (fun u=>u.n==n)=some l[i]):=by
 constructor
 ·intro h;rw[List.find?_eq_none];intro u hu e;have:n∈l.map (·.n):=List.mem_map.2 ⟨u,hu,by simpa using e⟩;have:=YX.2 this;omega
 ·intro h;unfold whF at h ⊢
  cases hf:l.findIdx? (fun u=>u.n==n) with
  | none=>rw[hf]at h;exact absurd h (by decide)
  | some i=>
   rw[List.findIdx?_eq_some_iff_getElem]at hf;obtain⟨hi,h1,h2⟩:=hf;refine⟨i,hi,rfl,?_⟩;rw[List.find?_eq_some_iff_getElem];exact⟨h1,i,hi,rfl,fun j hj=>by have:=h2 j hj;simpa using this⟩
theorem Qec{b:Ql}{i:Nat}{u:Use}(h:u∈Va b i):u.b=i:=by
 rw[Va,List.mem_append]at h;rcases h with h|h
 ·obtain⟨c,_,rfl⟩:=List.mem_map.1 h;rfl
 ·obtain⟨j,_,hj⟩:=List.mem_flatMap.1 h;unfold stU at hj;split at hj
  ·split at hj
   ·simp at hj
   ·rw[List.mem_singleton]at hj;rw[hj]
  ·simp at hj
theorem Qg3{bs:List Ql}{u:Use}(h:u∈gvU bs):u.b<bs.length:=by
 obtain⟨i,hi,hu⟩:=List.mem_flatMap.1 h;rw[Qec hu];exact List.mem_range.1 hi
def Rk(base:Nat)(w:World)(v:Value)(n:Nat)(f:Nat→Nat→Bool)(m:Nat):Prop:=
 ∃us:List Value,w.ownsRow base 67 1 v n us∧∀(k:Nat)(u:Value),us[k]?=some u→w.ownsRow base 4 1 u m (Q0 m (f k))
theorem Rk.slice{base w v n f m}(h:Rk base w v n f m):∃p c,v=.slice p n c:=by obtain⟨us,a,_⟩:=h;exact Qb a
theorem Rk.keeps{base:Nat}{w w':World}{v:Value}{n m:Nat}{f:Nat→Nat→Bool}(h:Rk base w v n f m)(k:Below w.heap.size w w'):Rk base w' v n f m:=by
 obtain⟨us,a,b⟩:=h;exact⟨us,Qd a (Qi k) trivial,fun j u hu=>Qd (b j u hu) (Qi k) trivial⟩
theorem Rk.at{base:Nat}{w:World}{p:Option Addr}{c n m:Nat}{f:Nat→Nat→Bool}(h:Rk base w (.slice p n c) n f m){k:Nat}(hk:k<n):
  ∃g u,p=some ⟨g,0,none⟩∧base≤g∧g<w.heap.size∧w.cell? ⟨g,k,none⟩=some u∧w.ownsRow base 4 1 u m (Q0 m (f k)):=by
 obtain⟨us,a,b⟩:=h;obtain⟨g,rfl,hb,hg⟩:=Qh a (by omega);have hl:us.length=n:=by have:=a.1;omega
 have hu:us[k]?=some us[k]:=List.getElem?_eq_getElem (by omega);exact⟨g,us[k],rfl,hb,hg,Qe a hu,b k _ hu⟩
def GrI(bs:List Ql)(base B gp:Nat)(vL:Value)(w:World):Prop:=
 ∃vS vC vO,w.heap[gp]?=some (.cells #[vL,vS,vC,vO] 118 (0,0))∧QK w base bs vL∧w.ownsRow B 115 3 vS (gvU bs).length (QN (gvU bs))∧w.ownsRow B 4 1 vC bs.length (Q0 bs.length (rchF (suF bs) bs.length noB))∧Rk B w vO bs.length (fun a=>X6 (suF bs) bs.length a) bs.length
theorem GrI.keeps{bs base B gp vL w w'}(h:GrI bs base B gp vL w)(F:Below w.heap.size w w'):GrI bs base B gp vL w':=by
 obtain⟨vS,vC,vO,a,b,c,d,e⟩:=h;exact⟨vS,vC,vO,by rw[F.block _ (lt_of_block a)];exact a,b.keeps3 (Qs.below F),Qd c (Qi F) trivial,Qd d (Qi F) trivial,e.keeps F⟩
theorem Qh7(bs:List Ql)(base B gp:Nat)(vL:Value)(n b:Nat)(k:Nat)(w:World)(h:GrI bs base B gp vL w)(hb:b<bs.length)(hl:(gvU bs).length≤100000000000):
  Calls Tryz.prog 54 #[.pointer (some ⟨gp,0,none⟩),.int .i64 n,.int .i64 b,.int .i64 k] w fun x w'=>x=.returned (.bool (KH bs n b k))∧Below w.heap.size w w':=by
 obtain⟨vS,vC,vO,a,_,oS,oC,oO⟩:=h;obtain⟨pS,cS,rfl⟩:=Qb oS;obtain⟨pC,cC,rfl⟩:=Qb oC;obtain⟨pO,cO,rfl⟩:=oO.slice;have k1:=Qa a 1;have k2:=Qa a 2;have k3:=Qa a 3;simp at k1 k2 k3;obtain⟨gC,rfl,_,_⟩:=Qh oC (by omega);have kc:=Qe oC (Zp hb);have HS:=Qc oS;have HO:=Qc oO;have hgp:=lt_of_block a;have HA:=Qc a;clear oS oC oO a
 cases hr:rchF (suF bs) bs.length noB b with
 | false=>
  rw[hr]at kc;have HM:Hid (KH bs n b k=true):=by show _=_;rw[KH,hr];rfl
  clear hr;go_enter Tryz.func54,Tryz.ntmps54;go_wp2_with fail;go_ret;exact⟨by rw[HM.o];rfl,Below.refl _ _⟩
 | true=>
  rw[hr]at kc;by_cases hw:0≤whF (gvU bs) n
  ·obtain⟨i,hi,hwi,hfi⟩:=Rp.2 hw;have hub:=Qg3 (List.getElem_mem hi);obtain⟨gS,rfl,_,_⟩:=Qh HS.o (by omega);have s0:=Qe HS.o (Jt hi).1;have s1:=Qe HS.o (Jt hi).2.1;have s2:=Qe HS.o (Jt hi).2.2;by_cases hbb:(gvU bs)[i].b=b
   ·have HM:Hid (KH bs n b k=decide ((gvU bs)[i].s<k)):=by show _=_;rw[KH,hr,if_pos rfl,hfi];simp only;rw[if_pos hbb]
    have hd:(((gvU bs)[i].b:Int)==(b:Int))=true:=by simp;omega
    have HWI:=Qc hwi;clear hr hw hfi hwi hbb;go_enter Tryz.func54,Tryz.ntmps54;go_wp2_with fail;refine(Wh (gvU bs) n B _ w HS.o hl).mono ?_;rintro x w' ⟨rfl,hw'⟩;rw[hw',HWI.o];clear hw' w';generalize (gvU bs)[i]=u at *;go_wp2_with fail;go_ret;exact⟨by rw[HM.o];rfl,(Below.refl _ _).alloc (Nat.le_refl _) _⟩
   ·have HM:Hid (KH bs n b k=X6 (suF bs) bs.length (gvU bs)[i].b b):=by show _=_;rw[KH,hr,if_pos rfl,hfi];simp only;rw[if_neg hbb]
    have hd:(((gvU bs)[i].b:Int)==(b:Int))=false:=by simp;omega
    have HWI:=Qc hwi;obtain⟨gO,uO,rfl,_,hgO,co,oo⟩:=HO.o.at hub;obtain⟨pu,cu,rfl⟩:=Qb oo;obtain⟨gu,rfl,_,hgu⟩:=Qh oo (by omega);have cb:=Qe oo (Zp hb);clear hr hw hfi hwi hbb oo;go_enter Tryz.func54,Tryz.ntmps54;go_wp2_with fail;refine(Wh (gvU bs) n B _ w HS.o hl).mono ?_;rintro x w' ⟨rfl,hw'⟩;rw[hw',HWI.o];clear hw' w';have FF:=Qc ((Below.refl w.heap.size w).alloc (Nat.le_refl _) (.cells #[.int .i64 (gvU bs)[i].n,.int .i64 (gvU bs)[i].b,.int .i64 (gvU bs)[i].s] 115));go_wp2_with fail;have gW:=heap_alloc_last w (.cells #[.int .i64 (gvU bs)[i].n,.int .i64 (gvU bs)[i].b,.int .i64 (gvU bs)[i].s] 115);generalize w.alloc (.cells #[.int .i64 (gvU bs)[i].n,.int .i64 (gvU bs)[i].b,.int .i64 (gvU bs)[i].s] 115)=W at *;have x1:=Qa gW 1;have x3:=(FF.o.cell (p:=⟨gp,3,none⟩) hgp).trans k3;have x4:=(FF.o.cell (p:=⟨gO,(gvU bs)[i].b,none⟩) hgO).trans co;have x5:=(FF.o.cell (p:=⟨gu,b,none⟩) hgu).trans cb;simp at x1;clear gW s0 s1 s2 k1 k2 k3 kc co cb
    go_region
    all_goals
     go_wp2_with fail;go_ret;exact⟨by rw[HM.o];rfl,⟨FF.o.os,FF.o.tape,FF.o.output,FF.o.size,FF.o.block⟩⟩
  ·have HM:Hid (KH bs n b k=false):=by show _=_;rw[KH,hr,if_pos rfl,Rp.1 (by omega)]
   have hw2:whF (gvU bs) n<0:=by omega
   clear hr hw;go_enter Tryz.func54,Tryz.ntmps54;go_wp2_with fail;refine(Wh (gvU bs) n B _ w HS.o hl).mono ?_;rintro x w' ⟨rfl,hw'⟩;rw[hw'];clear hw' w';generalize whF (gvU bs) n=wv at *;go_wp2_with fail;go_ret;exact⟨by rw[HM.o];rfl,Below.refl _ _⟩
end Go.Proofs.YtgfhfkgdmidhpaaGreatDoor
