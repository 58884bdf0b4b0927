import Derived.Test.YtgfhfkgdmidhpaaGreatDoorProg
import GoSem.Claim
import GoSem.ClaimJoined
import GoSem.ClaimMapViews
import Derived.JoinedTies
import Derived.KernelRfl
import Derived.RowKit
import Derived.WalkKit
import Derived.WalkSpells
import Derived.WalkLawsBesides
import Derived.Deep.QuietTactic
import Derived.BigQuiet
import Derived.Deep.WholeRow
namespace Go.Proofs.YtgfhfkgdmidhpaaGreatDoor
open Go.RowKit
open Tryz
set_option maxRecDepth 100000
set_option maxHeartbeats 8000000
theorem Qw{α}{a b:List α}:(a++b).length=a.length+b.length:=List.length_append
theorem Qi(n:Nat):n≤n:=Nat.le_refl n
theorem Qt(w:World)(o:Obj):(w.alloc o).heap.size=w.heap.size+1:=World.size_alloc w o
theorem Zb{α}{i:Nat}{l:List α}(h:i<l.length):l.take (i+1)=l.take i++[l[i]]:=List.take_succ_eq_append_getElem h
theorem QH{n m k:Nat}:n<m→m≤k→n<k:=Nat.lt_of_lt_of_le
theorem Qx{α}{l:List α}{n:Nat}(h:n<l.length):l[n]∈l:=List.getElem_mem h
theorem QO{α}{a:α}{b:List α}:(a::b).length=b.length+1:=List.length_cons
theorem Zl{α}{l:List α}{i:Nat}(h:i<l.length):l[i]?=some l[i]:=List.getElem?_eq_getElem h
theorem Qy{n m k:Nat}:n≤m→m≤k→n≤k:=Nat.le_trans
theorem Xi{α}{p:α→Bool}{l:List α}:l.all p=true↔∀x,x∈l→p x=true:=List.all_eq_true
theorem Q3(w:World)(b:Nat)(e:TypeId)(n:Nat):w.ownsRow b e n (.slice none 0 0) 0 []:=World.ownsRow_nil w b e n
theorem Zg{α}{i:Nat}{l:List α}:l.length≤i→l.take i=l:=List.take_of_length_le
theorem Zh(w:World)(a:Addr){u:Value}:w.cell? a=some u→a.block<w.heap.size:=World.block_lt_of_cell? w a
theorem QF{α}{a b:α}:a∈[b]↔a=b:=List.mem_singleton
theorem Qv{α β}{b:β}{f:α→β}{l:List α}:b∈l.map f↔∃a,a∈l∧f a=b:=List.mem_map
theorem QB{α}{a:α}{s t:List α}:a∈s++t↔a∈s∨a∈t:=List.mem_append
theorem ZI{α}{l:List α}{i:Nat}:l.length≤i→l[i]?=none:=List.getElem?_eq_none
theorem ZD{α}(y:α){a:α}{l:List α}:a∈l→a∈y::l:=List.mem_cons_of_mem y
structure Fr(b:Nat)(w w':World):Prop where
 os:w'.os=w.os
 tape:w'.tape=w.tape
 output:w'.output=w.output
 size:w.heap.size≤w'.heap.size
 block:∀k,k<w.heap.size→k≠b→w'.heap[k]?=w.heap[k]?
theorem Fr.refl(b:Nat)(w:World):Fr b w w:=⟨rfl,rfl,rfl,Qi _,fun _ _ _=>rfl⟩
theorem Fr.trans{b:Nat}{u v w:World}(h:Fr b u v)(k:Fr b v w):Fr b u w:=
 ⟨k.os.trans h.os,k.tape.trans h.tape,k.output.trans h.output,Qy h.size k.size,fun i hi hb=>(k.block i (QH hi h.size) hb).trans (h.block i hi hb)⟩
theorem Fr.drew{b:Nat}{u v:World}(h:Fr b u v):Fr b u v.drew:=⟨h.os,h.tape,h.output,h.size,h.block⟩
theorem Fr.drewN{b:Nat}{u v:World}(h:Fr b u v)(n:Nat):Fr b u (v.drewN n):=⟨h.os,h.tape,h.output,h.size,h.block⟩
theorem Fr.setCell{b:Nat}{u v:World}(h:Fr b u v)(o:Nat)(x:Value):Fr b u (v.setCell ⟨b,o,none⟩ x):=
 h.trans ⟨rfl,rfl,rfl,by simp[World.setCell],fun k _ hb=>Below.heap_setCell _ _ _ _ hb⟩
theorem Fr.alloc{b:Nat}{u v:World}(h:Fr b u v)(o:Obj):Fr b u (v.alloc o):=
 h.trans ⟨rfl,rfl,rfl,by simp,fun k hk _=>Below.heap_alloc _ _ _ hk⟩
theorem Fr.setNew{b:Nat}{u v:World}(h:Fr b u v){a:Addr}(ha:u.heap.size≤a.block)(x:Value):Fr b u (v.setCell a x):=
 ⟨h.os,h.tape,h.output,by simpa[World.setCell] using h.size,fun k hk hb=>(Below.heap_setCell _ _ _ _ (by omega)).trans (h.block k hk hb)⟩
theorem Fr.cell{b:Nat}{u v:World}(h:Fr b u v){k o:Nat}(hk:k<u.heap.size)(hb:k≠b):v.cell? ⟨k,o,none⟩=u.cell? ⟨k,o,none⟩:=
 World.cell?_of_block (w:=u) (h.block k hk hb)
def QJ(w:World)(b:Nat)(s:ByteArray)(i:Nat)(bad:Int):Prop:=
 ∃t,w.heap[b]?=some (.cells #[.string s,.int .i64 i,.int .i64 bad] t (0,0))
theorem QJ.c0{w b s i bad}(h:QJ w b s i bad):w.cell? ⟨b,0,none⟩=some (.string s):=by
 obtain⟨t,h⟩:=h;simp[World.cell?,h]
theorem QJ.c1{w b s i bad}(h:QJ w b s i bad):w.cell? ⟨b,1,none⟩=some (.int .i64 i):=by
 obtain⟨t,h⟩:=h;simp[World.cell?,h]
theorem QJ.c2{w b s i bad}(h:QJ w b s i bad):w.cell? ⟨b,2,none⟩=some (.int .i64 bad):=by
 obtain⟨t,h⟩:=h;simp[World.cell?,h]
theorem QJ.fz{w b s i bad}(h:QJ w b s i bad)(o:Nat):w.frozen? ⟨b,o,none⟩=false:=by
 obtain⟨t,h⟩:=h;simp[World.frozen?,h]
theorem QJ.lt{w b s i bad}(h:QJ w b s i bad):b<w.heap.size:=by
 obtain⟨t,h⟩:=h;rcases Nat.lt_or_ge b w.heap.size with g|g
 ·exact g
 ·rw[Array.getElem?_eq_none g]at h;cases h
theorem QJ.drewN{w b s i bad}(h:QJ w b s i bad)(n:Nat):QJ (w.drewN n) b s i bad:=h
theorem QJ.set1{w b s i bad}(h:QJ w b s i bad)(j:Nat):QJ (w.setCell ⟨b,1,none⟩ (.int .i64 j)) b s j bad:=by
 obtain⟨t,h⟩:=h;exact⟨t,by simp[World.setCell,Array.getElem?_modify,h]⟩
theorem QJ.set2{w b s i bad}(h:QJ w b s i bad)(j:Int):QJ (w.setCell ⟨b,2,none⟩ (.int .i64 j)) b s i j:=by
 obtain⟨t,h⟩:=h;exact⟨t,by simp[World.setCell,Array.getElem?_modify,h]⟩
theorem QJ.alloc{w b s i bad}(h:QJ w b s i bad)(o:Obj):QJ (w.alloc o) b s i bad:=by
 have hl:=h.lt;obtain⟨t,h⟩:=h;exact⟨t,by rw[Below.heap_alloc _ _ _ hl];exact h⟩
theorem QJ.setOther{w b s i bad}(h:QJ w b s i bad){a:Addr}(ha:b≠a.block)(x:Value):QJ (w.setCell a x) b s i bad:=by
 obtain⟨t,h⟩:=h;exact⟨t,by rw[Below.heap_setCell _ _ _ _ ha];exact h⟩
def byt(s:ByteArray)(i:Nat):Nat:=if h:i<s.size then s[i].toNat else 0
theorem Qf2(s:ByteArray)(i:Nat):byt s i<256:=by
 unfold byt;split
 ·exact UInt8.toNat_lt _
 ·omega
def onF(s:ByteArray)(i:Nat)(bad:Int)(c:Nat):Bool:=decide (bad<0)&&(decide (i<s.size)&&(byt s i==c))
theorem _root_.Go.RowKit.Hid.o{p:Prop}(h:Hid p):p:=h
def Ja(i:Nat)(bad:Int):Int:=if bad<0 then i else bad
def gotI(s:ByteArray)(i:Nat)(bad:Int)(c:Nat):Nat:=if onF s i bad c then i+1 else i
def mustB(s:ByteArray)(i:Nat)(bad:Int)(c:Nat):Int:=if onF s i bad c then bad else Ja i bad
def Zr(s:ByteArray)(i:Nat)(bad:Int):Bool:=decide (bad<0)&&(decide (i<s.size)&&(decide (48≤byt s i)&&decide (byt s i≤57)))
theorem QaN(b:Nat)(s:ByteArray)(i c:Nat)(bad:Int)(w:World)(hp:QJ w b s i bad):
  Calls prog 90 #[.pointer (some ⟨b,0,none⟩),.int .u8 c] w fun e w'=>∃n,e=.returned (.bool (onF s i bad c))∧w'=w.drewN n:=by
 have h0:=hp.c0;have h1:=hp.c1;have h2:=hp.c2;clear hp;by_cases hb:bad<0
 ·by_cases hl:i<s.size
  ·have e1:decide ((i:Int)<(s.size:Int))=true:=by simp;omega
   have e2:onF s i bad c=((s[i].toNat:Int)==(c:Int)):=by
    simp[onF,hb,hl,byt];rw[Bool.eq_iff_iff];simp;omega
   rw[e2];clear e2;go_enter func90,ntmps90
   go_wp2
   go_quiet (fail)
   go_wp2
   go_ret;exact⟨_,rfl,rfl⟩
  ·have e1:decide ((i:Int)<(s.size:Int))=false:=by simp;omega
   have e2:onF s i bad c=false:=by simp[onF,hl]
   rw[e2];clear e2;go_enter func90,ntmps90
   go_wp2
   go_quiet (fail)
   go_wp2
   go_ret;exact⟨_,rfl,rfl⟩
 ·have e1:decide (bad<0)=false:=by simpa using hb
  have e2:onF s i bad c=false:=by simp[onF,hb]
  rw[e2];clear e2;go_enter func90,ntmps90
  go_wp2
  go_quiet (fail)
  go_wp2
  go_ret;exact⟨_,rfl,rfl⟩
theorem VP(b:Nat)(s:ByteArray)(i:Nat)(bad:Int)(w:World)(hp:QJ w b s i bad):
  Calls prog 50 #[.pointer (some ⟨b,0,none⟩)] w fun e w'=>e=.returned (.tuple #[])∧QJ w' b s i (Ja i bad)∧Fr b w w':=by
 have h0:=hp.c0;have h1:=hp.c1;have h2:=hp.c2;have h3:=hp.fz 2;by_cases hb:bad<0
 ·go_enter func50,ntmps50
  go_wp2
  go_end0
  exact⟨rfl,by rw[Ja,if_pos hb];exact hp.set2 _,(Fr.refl _ _).setCell _ _⟩
 ·go_enter func50,ntmps50
  go_wp2
  go_end0
  exact⟨rfl,by rw[Ja,if_neg (by omega)];exact hp,(Fr.refl _ _)⟩
theorem YO(b:Nat)(s:ByteArray)(i c:Nat)(bad:Int)(w:World)(hp:QJ w b s i bad)(hs:s.size≤200000)(hi:i≤s.size):
  Calls prog 49 #[.pointer (some ⟨b,0,none⟩),.int .u8 c] w fun e w'=>e=.returned (.bool (onF s i bad c))∧QJ w' b s (gotI s i bad c) bad∧Fr b w w':=by
 have h0:=hp.c0;have h1:=hp.c1;have h2:=hp.c2;have h3:=hp.fz 1;by_cases ho:onF s i bad c=true
 ·go_enter func49,ntmps49;go_wp2_with (go_at_call 90;refine(QaN b s i c bad _ hp).mono ?_;rintro e w' ⟨n,rfl,rfl⟩;rw[ho]);go_ret;exact⟨by simp[ho],by rw[gotI,if_pos ho];exact(hp.drewN _).set1 (i+1),((Fr.refl _ _).drewN _).setCell _ _⟩
 ·have ho':onF s i bad c=false:=by simpa using ho
  go_enter func49,ntmps49;go_wp2_with (go_at_call 90;refine(QaN b s i c bad _ hp).mono ?_;rintro e w' ⟨n,rfl,rfl⟩;rw[ho']);go_ret;exact⟨by simp[ho'],by rw[gotI,if_neg ho];exact hp.drewN _,(Fr.refl _ _).drewN _⟩
theorem XQ(b:Nat)(s:ByteArray)(i c:Nat)(bad:Int)(w:World)(hp:QJ w b s i bad)(hs:s.size≤200000)(hi:i≤s.size):
  Calls prog 89 #[.pointer (some ⟨b,0,none⟩),.int .u8 c] w fun e w'=>e=.returned (.tuple #[])∧QJ w' b s (gotI s i bad c) (mustB s i bad c)∧Fr b w w':=by
 by_cases ho:onF s i bad c=true
 ·go_enter func89,ntmps89;go_wp2_with fail;refine(YO b s i c bad _ hp hs hi).mono ?_;rintro e w' ⟨rfl,hp1,f1⟩;rw[ho]
  go_wp2
  go_end0
  exact⟨rfl,by rw[mustB,if_pos ho];exact hp1,f1⟩
 ·have ho':onF s i bad c=false:=by simpa using ho
  have hg:gotI s i bad c=i:=by rw[gotI,if_neg ho]
  have HG:Hid (gotI s i bad c=i):=hg;clear hg;go_enter func89,ntmps89;go_wp2_with fail;refine(YO b s i c bad _ hp hs hi).mono ?_;rintro e w' ⟨rfl,hp1,f1⟩;rw[ho'];rw[HG.o]at hp1;go_wp2_with fail;refine(VP b s i bad _ hp1).mono ?_;rintro e w' ⟨rfl,hp2,f2⟩
  go_wp2
  go_end0
  exact⟨rfl,by rw[mustB,if_neg ho,HG.o];exact hp2,f1.trans f2⟩
theorem YP(b:Nat)(s:ByteArray)(i:Nat)(bad:Int)(w:World)(hp:QJ w b s i bad):
  Calls prog 191 #[.pointer (some ⟨b,0,none⟩)] w fun e w'=>∃n,e=.returned (.bool (Zr s i bad))∧w'=w.drewN n:=by
 have h0:=hp.c0;have h1:=hp.c1;have h2:=hp.c2;clear hp;by_cases hb:bad<0
 ·by_cases hl:i<s.size
  ·have e1:decide ((i:Int)<(s.size:Int))=true:=by simp;omega
   by_cases hd:48≤byt s i
   ·have e3:decide (48≤(s[i].toNat:Int))=true:=by simp[byt,hl]at hd ⊢;omega
    have e2:Zr s i bad=decide ((s[i].toNat:Int)≤57):=by
     simp[Zr,hb,hl,hd];simp[byt,hl];omega
    rw[e2];clear e2;go_enter func191,ntmps191
    go_wp2
    go_quiet (fail)
    go_wp2
    go_ret;exact⟨_,rfl,rfl⟩
   ·have e3:decide (48≤(s[i].toNat:Int))=false:=by simp[byt,hl]at hd ⊢;omega
    have e2:Zr s i bad=false:=by simp[Zr];intros;omega
    rw[e2];clear e2;go_enter func191,ntmps191
    go_wp2
    go_quiet (fail)
    go_wp2
    go_ret;exact⟨_,rfl,rfl⟩
  ·have e1:decide ((i:Int)<(s.size:Int))=false:=by simp;omega
   have e2:Zr s i bad=false:=by simp[Zr,hl]
   rw[e2];clear e2;go_enter func191,ntmps191
   go_wp2
   go_quiet (fail)
   go_wp2
   go_ret;exact⟨_,rfl,rfl⟩
 ·have e1:decide (bad<0)=false:=by simpa using hb
  have e2:Zr s i bad=false:=by simp[Zr,hb]
  rw[e2];clear e2;go_enter func191,ntmps191
  go_wp2
  go_quiet (fail)
  go_wp2
  go_ret;exact⟨_,rfl,rfl⟩
def Zm(s:ByteArray)(bad:Int)(fm:Nat):Nat→Nat→Nat→Nat×Nat
 | 0,i,n=>(n,i)
 | k+1,i,n=>if Zr s i bad&&(i==fm||byt s fm != 48) then Zm s bad fm k (i+1) (10*n+(byt s i-48)) else (n,i)
def numN(s:ByteArray)(i:Nat)(bad:Int):Nat:=if Zr s i bad then (Zm s bad i 4 i 0).1 else 0
def numI(s:ByteArray)(i:Nat)(bad:Int):Nat:=if Zr s i bad then (Zm s bad i 4 i 0).2 else i
def Zx(s:ByteArray)(i:Nat)(bad:Int):Int:=if Zr s i bad then bad else Ja i bad
theorem JN{s i bad}(h:Zr s i bad=true):bad<0∧i<s.size∧48≤byt s i∧byt s i≤57:=by
 simpa[Zr] using h
theorem K8{s:ByteArray}{i:Nat}(h:i<s.size):byt s i=s[i].toNat:=by simp[byt,h]
theorem KV{s bad fm i n}(k:Nat)(h:(Zr s i bad&&(i==fm||byt s fm != 48))=false):Zm s bad fm k i n=(n,i):=by
 cases k with
 | zero=>rfl
 | succ k=>rw[Zm,h];rfl
theorem UF{s bad fm j m}(hk:j<fm+4)(hj:fm≤j)(h:(Zr s j bad&&(j==fm||byt s fm != 48))=true):
  Zm s bad fm (fm+4-j) j m=Zm s bad fm (fm+4-(j+1)) (j+1) (10*m+(byt s j-48)):=by
 obtain⟨q,hq⟩:∃q,fm+4-j=q+1:=⟨fm+3-j,by omega⟩;rw[hq,Zm,h,show fm+4-(j+1)=q from by omega];rfl
theorem GD{i j m:Nat}(h1:i≤j)(h:m<10 ^ (j-i))(c:Nat)(hc:c≤57):10*m+(c-48)<10 ^ (j+1-i):=by
 rw[show j+1-i=(j-i)+1 from by omega,Nat.pow_succ];omega
theorem QJ.set1i{w b s i bad}(h:QJ w b s i bad){j:Nat}{v:Int}(hv:v=j):QJ (w.setCell ⟨b,1,none⟩ (.int .i64 v)) b s j bad:=by
 subst hv;exact h.set1 j
def penI(w:World)(b:Nat):Nat:=match w.cell? ⟨b,1,none⟩ with|some (.int _ q)=>q.toNat|_=>0
theorem QJ.penI{w b s i bad}(h:QJ w b s i bad):penI w b=i:=by simp[YtgfhfkgdmidhpaaGreatDoor.penI,h.c1]
theorem J1(b:Nat)(s:ByteArray)(i:Nat)(bad:Int)(w:World)(hp:QJ w b s i bad)(hs:s.size≤200000)(hi:i≤s.size):
  Calls prog 143 #[.pointer (some ⟨b,0,none⟩)] w fun e w'=>e=.returned (.int .i64 (numN s i bad))∧QJ w' b s (numI s i bad) (Zx s i bad)∧Fr b w w':=by
 by_cases ho:Zr s i bad=true
 ·have HN:Hid (numN s i bad=(Zm s bad i 4 i 0).1):=by simp[Hid,numN,ho]
  have HI:Hid (numI s i bad=(Zm s bad i 4 i 0).2):=by simp[Hid,numI,ho]
  have HB:Hid (Zx s i bad=bad):=by simp[Hid,Zx,ho]
  go_enter func143,ntmps143;go_wp2_with fail;refine(YP b s i bad _ hp).mono ?_;rintro e w' ⟨n,rfl,rfl⟩;rw[ho];have h1:=hp.c1;go_wp2_with fail
  go_loopw [3,4] (fun d n wr=>∃j m:Nat,i≤j∧j≤i+4∧m<10 ^ (j-i)∧j≤s.size∧d=.bool (Zr s j bad)∧n=.int .i64 m∧Hid (Zm s bad i (i+4-j) j m=Zm s bad i 4 i 0)∧QJ wr b s j bad∧Fr b w wr) (fun _ _ wr=>s.size-penI wr b)
  case atStart=>exact⟨i,0,by omega,by omega,by simp,by omega,by rw[ho],rfl,by rw[show i+4-i=4 from by omega];rfl,hp.drewN _,(Fr.refl _ _).drewN _⟩
  case round=>
   obtain⟨j,m,hij,hj4,hm,hjs,rfl,rfl,HG,hp',f1⟩:=hrel;clear hp h1;have h0:=hp'.c0;have h1:=hp'.c1;have h3:=hp'.fz 1;have hmb:(m:Int)<10000:=by
    have:10 ^ (j-i)≤10 ^ 4:=Nat.pow_le_pow_right (by omega) (by omega);omega
   have hmp:=hm;have HM:Hid (m<10 ^ (j-i)):=hm;clear hm hmp;by_cases hd:Zr s j bad=true
   ·obtain⟨hb0,hlt,hb1,hb2⟩:=JN hd;by_cases hk4:j<i+4
    ·by_cases hc:(j==i||byt s i != 48)=true
     ·have HS:=UF (m:=m) hk4 hij (by rw[hd,hc];rfl);have HS':Hid (Zm s bad i (i+4-(j+1)) (j+1) (10*m+(byt s j-48))=Zm s bad i 4 i 0):=HS.symm.trans HG.o;clear HS;have HP:=GD hij HM.o _ hb2;have HP':Hid (10*m+(byt s j-48)<10 ^ (j+1-i)):=HP;rw[K8 hlt]at hb1 hb2;have hbb1:(48:Int)≤(s[j].toNat:Int):=by omega
      have hbb2:(s[j].toNat:Int)≤57:=by omega
      have HY:Hid (byt s j=s[j].toNat):=K8 hlt;have HD:Hid (Zr s j bad=true):=hd;rw[hd];clear ho hd hb1 hb2 HP;have hil:i<s.size:=by omega
      rcases Nat.eq_or_lt_of_le hij with he|hne
      ·subst he;go_wp2_with fail
       go_quiet (fail)
       go_wp2_with fail;have hp2:QJ ((wr.drewN nq).setCell ⟨b,1,none⟩ (.int .i64 ((i:Int)+1))) b s (i+1) bad:=(hp'.drewN nq).set1i (by omega);refine(YP b s (i+1) bad _ hp2).mono ?_;rintro e w' ⟨n2,rfl,rfl⟩;go_wp2_with fail;go_roundw
       case rel=>exact⟨i+1,10*m+(byt s i-48),by omega,by omega,HP'.o,by omega,rfl,by rw[HY.o];go_num,HS',hp2.drewN _,f1.trans ((((Fr.refl _ _).drewN _).setCell _ _).drewN _)⟩
       case measure=>rw[(hp2.drewN n2).penI,hp'.penI];omega
      ·have hc1:((j:Int)==(i:Int))=false:=by simp;omega
       have hc2:((s[i].toNat:Int) != 48)=true:=by
        have:byt s i≠48:=by
         have:(j==i)=false:=by simp;omega
         rw[this]at hc;simpa using hc
        rw[K8 hil]at this;simp;omega
       clear hc;go_wp2_with fail
       go_quiet (fail)
       go_wp2_with fail;have hp2:QJ ((wr.drewN nq).setCell ⟨b,1,none⟩ (.int .i64 ((j:Int)+1))) b s (j+1) bad:=(hp'.drewN nq).set1i (by omega);refine(YP b s (j+1) bad _ hp2).mono ?_;rintro e w' ⟨n2,rfl,rfl⟩;go_wp2_with fail;go_roundw
       case rel=>exact⟨j+1,10*m+(byt s j-48),by omega,by omega,HP'.o,by omega,rfl,by rw[HY.o];go_num,HS',hp2.drewN _,f1.trans ((((Fr.refl _ _).drewN _).setCell _ _).drewN _)⟩
       case measure=>rw[(hp2.drewN n2).penI,hp'.penI];omega
     ·have HS:=KV (n:=m) (i+4-j) (show (Zr s j bad&&(j==i||byt s i != 48))=false by simp[hc]);have HS':=HS.symm.trans HG.o;have HN':Hid (numN s i bad=m):=by rw[HN.o,←HS'];rfl
      have HI':Hid (numI s i bad=j):=by rw[HI.o,←HS'];rfl
      clear HS HS' HN HI HG;have hne:i<j:=by
       rcases Nat.eq_or_lt_of_le hij with he|hne
       ·subst he;simp at hc
       ·exact hne
      have hil:i<s.size:=by omega
      have hc1:((j:Int)==(i:Int))=false:=by simp;omega
      have hc2:((s[i].toNat:Int) != 48)=false:=by
       have:byt s i=48:=by
        have h5:(j==i)=false:=by simp;omega
        rw[h5]at hc;simpa using hc
       rw[K8 hil]at this;simp;omega
      rw[hd];clear ho hd hb1 hb2 hc;go_wp2_with fail;go_ret;exact⟨by rw[HN'.o];rfl,by rw[HI'.o,HB.o];exact hp',f1⟩
    ·have HS':(m,j)=Zm s bad i 4 i 0:=by rw[←HG.o,show i+4-j=0 from by omega];rfl
     have HN':Hid (numN s i bad=m):=by rw[HN.o,←HS'];rfl
     have HI':Hid (numI s i bad=j):=by rw[HI.o,←HS'];rfl
     clear HS' HN HI HG;rw[hd];clear ho hd hb1 hb2;go_wp2_with fail;go_ret;exact⟨by rw[HN'.o];rfl,by rw[HI'.o,HB.o];exact hp',f1⟩
   ·have hd':Zr s j bad=false:=by simpa using hd
    have HS':(m,j)=Zm s bad i 4 i 0:=by rw[←HG.o,KV (i+4-j) (by rw[hd'];rfl)]
    have HN':Hid (numN s i bad=m):=by rw[HN.o,←HS'];rfl
    have HI':Hid (numI s i bad=j):=by rw[HI.o,←HS'];rfl
    clear HS' HN HI HG;rw[hd'];clear ho hd hd';go_wp2_with fail;go_ret;exact⟨by rw[HN'.o];rfl,by rw[HI'.o,HB.o];exact hp',f1⟩
 ·have ho':Zr s i bad=false:=by simpa using ho
  go_enter func143,ntmps143;go_wp2_with fail;refine(YP b s i bad _ hp).mono ?_;rintro e w' ⟨n,rfl,rfl⟩;rw[ho'];go_wp2_with fail;refine(VP b s i bad _ (hp.drewN _)).mono ?_;rintro e w' ⟨rfl,hp2,f2⟩
  go_wp2
  go_ret;exact⟨by simp[numN,ho'],by rw[numI,Zx,if_neg ho,if_neg ho];exact hp2,((Fr.refl _ _).drewN _).trans f2⟩
theorem Fr.own{b:Nat}{w w1:World}{o:Obj}(f:Fr b (w.alloc o) w1)(hne:b≠w.heap.size):w1.heap[w.heap.size]?=some o:=by
 rw[f.block w.heap.size (by simp) (fun e=>hne e.symm)];exact heap_alloc_last w o
theorem Qb{w:World}{k:Nat}{cs:Array Value}{t:TypeId}(h:w.heap[k]?=some (.cells cs t (0,0)))(o:Nat):w.cell? ⟨k,o,none⟩=cs[o]?:=by
 simp[World.cell?,h]
theorem Qg{w:World}{k:Nat}{cs:Array Value}{t:TypeId}(h:w.heap[k]?=some (.cells cs t (0,0)))(o:Nat):w.frozen? ⟨k,o,none⟩=false:=by
 simp[World.frozen?,h]
def regN(s:ByteArray)(i:Nat)(bad:Int):Nat:=numN s (gotI s i bad 114) (mustB s i bad 114)
def regI(s:ByteArray)(i:Nat)(bad:Int):Nat:=numI s (gotI s i bad 114) (mustB s i bad 114)
def regB(s:ByteArray)(i:Nat)(bad:Int):Int:=Zx s (gotI s i bad 114) (mustB s i bad 114)
theorem Zd{s i bad c}(h:i≤s.size):gotI s i bad c≤s.size:=by
 unfold gotI;split
 ·rename_i h1;simp[onF]at h1;omega
 ·exact h
theorem Qes{s bad fm}(k i n:Nat)(h:i≤s.size):(Zm s bad fm k i n).2≤s.size:=by
 induction k generalizing i n with
 | zero=>exact h
 | succ k ih=>
  rw[Zm];split
  ·rename_i h1;simp[Zr]at h1;exact ih _ _ (by omega)
  ·exact h
theorem Jl{s i bad}(h:i≤s.size):numI s i bad≤s.size:=by
 unfold numI;split
 ·exact Qes _ _ _ h
 ·exact h
theorem VN(b:Nat)(s:ByteArray)(i:Nat)(bad:Int)(w:World)(hp:QJ w b s i bad)(hs:s.size≤200000)(hi:i≤s.size):
  Calls prog 87 #[.pointer (some ⟨b,0,none⟩)] w fun e w'=>e=.returned (.agg #[.int .i64 (numN s i bad),.int .i64 i])∧QJ w' b s (numI s i bad) (Zx s i bad)∧Fr b w w':=by
 have h1:=hp.c1;have hl:=hp.lt;have hne:b≠w.heap.size:=by omega
 go_enter func87,ntmps87;go_wp2_with fail;refine(J1 b s i bad _ (hp.alloc _) hs hi).mono ?_;rintro e w1 ⟨rfl,hp1,f1⟩;have hk:=f1.own hne;have k0:=Qb hk 0;have k1:=Qb hk 1;have kf:=Qg hk;simp at k0 k1;clear hk;go_wp2_with fail;refine bodyPost_ret (v:=.agg #[.int .i64 (numN s i bad),.int .i64 i]) (by simp[results,results87,go_sem,k0,k1]) rfl ⟨rfl,?_,?_⟩
 ·exact(hp1.setOther hne _).setOther hne _
 ·exact((((Fr.refl _ _).alloc _).trans f1).setNew (by simp) _).setNew (by simp) _
theorem Vz(b:Nat)(s:ByteArray)(i:Nat)(bad:Int)(w:World)(hp:QJ w b s i bad)(hs:s.size≤200000)(hi:i≤s.size):
  Calls prog 88 #[.pointer (some ⟨b,0,none⟩)] w fun e w'=>e=.returned (.agg #[.int .i64 (regN s i bad),.int .i64 i])∧QJ w' b s (regI s i bad) (regB s i bad)∧Fr b w w':=by
 have h1:=hp.c1;have hl:=hp.lt;have hne:b≠w.heap.size:=by omega
 go_enter func88,ntmps88;go_wp2_with fail;refine(XQ b s i 114 bad _ (hp.alloc _) hs hi).mono ?_;rintro e w1 ⟨rfl,hp1,f1⟩;go_wp2_with fail;refine(J1 b s _ _ _ hp1 hs (Zd hi)).mono ?_;rintro e w2 ⟨rfl,hp2,f2⟩;have f3:=f1.trans f2;have hk:=f3.own hne;have k0:=Qb hk 0;have k1:=Qb hk 1;have kf:=Qg hk;simp at k0 k1;clear hk;go_wp2_with fail;refine bodyPost_ret (v:=.agg #[.int .i64 (regN s i bad),.int .i64 i]) (by simp[results,results88,go_sem,k0,k1,regN]) rfl ⟨rfl,?_,?_⟩
 ·exact(hp2.setOther hne _).setOther hne _
 ·exact((((Fr.refl _ _).alloc _).trans f3).setNew (by simp) _).setNew (by simp) _
theorem Fr.to{b:Nat}{w w':World}(f:Fr b w w'):w.grownBy w' (some b):=
 ⟨f.os,f.tape,f.output,f.size,fun k hk hb=>f.block k hk (fun e=>hb (by rw[e]))⟩
theorem Fr.grown{b:Nat}{u v v':World}{row:Option Nat}(h:Fr b u v)(hg:v.grownBy v' row)(hr:∀k,row=some k→u.heap.size≤k):Fr b u v':=
 ⟨hg.os.trans h.os,hg.tape.trans h.tape,hg.output.trans h.output,Qy h.size hg.size,
  fun k hk hb=>(hg.block k (QH hk h.size) (fun e=>by have:=hr k e.symm;omega)).trans (h.block k hk hb)⟩
theorem QC{w w':World}{row:Option Nat}(hg:w.grownBy w' row){k:Nat}{o:Obj}(h:w.heap[k]?=some o)(hr:∀j,row=some j→k≠j):w'.heap[k]?=some o:=by
 have hk:k<w.heap.size:=by
  rcases Nat.lt_or_ge k w.heap.size with g|g
  ·exact g
  ·rw[Array.getElem?_eq_none g]at h;cases h
 rw[hg.block k hk (fun e=>hr k e.symm rfl)];exact h
theorem Qn{b:Nat}{w w':World}(f:Fr b w w'){k:Nat}{o:Obj}(h:w.heap[k]?=some o)(hr:k≠b):w'.heap[k]?=some o:=
 QC f.to h (fun j e=>by cases e;exact hr)
theorem Qo{w:World}{k:Nat}{x:Obj}(h:w.heap[k]?=some x)(o:Obj):(w.alloc o).heap[k]?=some x:=by
 rw[Below.heap_alloc _ _ _ (lt_of_block h)];exact h
theorem Qq{w:World}{k:Nat}{cs:Array Value}{t:TypeId}{fz:Nat×Nat}(h:w.heap[k]?=some (.cells cs t fz))(o:Nat)(x:Value):
  (w.setCell ⟨k,o,none⟩ x).heap[k]?=some (.cells (cs.setIfInBounds o x) t fz):=by
 simp[World.setCell,Array.getElem?_modify,h]
theorem Ql{w:World}{k:Nat}{ob:Obj}(h:w.heap[k]?=some ob){j:Nat}(hj:k≠j)(o:Nat)(x:Value):(w.setCell ⟨j,o,none⟩ x).heap[k]?=some ob:=by
 rw[Below.heap_setCell _ _ _ _ hj];exact h
theorem Zs(w:World)(a:Addr)(x:Value):(w.setCell a x).heap.size=w.heap.size:=by simp[World.setCell]
theorem QJ.grown{w w':World} {b s i bad}{row:Option Nat}(h:QJ w b s i bad)(hg:w.grownBy w' row)(hr:∀j,row=some j→b≠j):QJ w' b s i bad:=by
 obtain⟨t,h⟩:=h;exact⟨t,QC hg h hr⟩
theorem Xn{b:Nat}{w w':World} {base e size v n xs}(h:w.ownsRow base e size v n xs)(f:Fr b w w')(hb:b<base):w'.ownsRow base e size v n xs:=by
 refine h.kept f.to ?_
 cases hv:v.ownBlock with
 | none=>exact .inl rfl
 | some g=>exact .inr (fun e=>by have:=(h.lt g hv).1;cases e;omega)
theorem Qj{w:World} {base base' e size v n xs}(h:w.ownsRow base e size v n xs)(hb:base'≤base):w.ownsRow base' e size v n xs:=by
 obtain⟨h1,h2⟩:=h;refine⟨h1,h2.imp id ?_⟩;rintro⟨g,cap,cur,a,b,c⟩;exact⟨g,cap,cur,a,by omega,c⟩
theorem Yh{w w':World} {base e size v n xs base' e' size' v' n' xs'}(h:w.ownsRow base e size v n xs)(h':w.ownsRow base' e' size' v' n' xs')(he:e≠e')(hg:w.grownBy w' v'.ownBlock):w'.ownsRow base e size v n xs:=by
 refine h.kept hg ?_;rcases h.2 with ⟨rfl,_⟩|⟨g,cap,cur,rfl,_,hc,_⟩
 ·exact .inl rfl
 ·right;rcases h'.2 with ⟨rfl,_⟩|⟨g',cap',cur',rfl,_,hc',_⟩
  ·simp[Value.ownBlock]
  ·simp only[Value.ownBlock,ne_eq,Option.some.injEq];intro e1;subst e1;rw[hc]at hc';cases hc';exact he rfl
theorem Js{w:World} {base e size v n xs}(h:w.ownsRow base e size v n xs){a:Addr}(ha:a.block<base)(x:Value):(w.setCell a x).ownsRow base e size v n xs:=
 ownsRow_setCell_below h ha x
theorem QE{w:World} {base e size v n xs}(h:w.ownsRow base e size v n xs)(k o:Nat)(x:Value)(hk:k<base):(w.setCell ⟨k,o,none⟩ x).ownsRow base e size v n xs:=
 ownsRow_setCell_below h hk x
theorem QJ.setk{w b s i bad}(h:QJ w b s i bad)(k o:Nat)(x:Value)(hk:b≠k):QJ (w.setCell ⟨k,o,none⟩ x) b s i bad:=h.setOther (a:=⟨k,o,none⟩) hk x
theorem Fr.setk{b:Nat}{u v:World}(h:Fr b u v)(k o:Nat)(x:Value)(hk:u.heap.size≤k):Fr b u (v.setCell ⟨k,o,none⟩ x):=h.setNew (a:=⟨k,o,none⟩) hk x
theorem Xm{w:World} {base e size v n xs}(h:w.ownsRow base e size v n xs):∃p m c,v=.slice p m c:=by
 rcases h.2 with ⟨rfl,_⟩|⟨g,cap,cur,rfl,_⟩
 ·exact⟨_,_,_,rfl⟩
 ·exact⟨_,_,_,rfl⟩
theorem Qc{p:Prop}(h:p):Hid p:=h
theorem QA{p:Prop}(h:Hid p):p:=h
def pc(x:Nat×Nat):List Value:=[.int .i64 x.1,.int .i64 x.2]
def pcs(l:List (Nat×Nat)):List Value:=l.flatMap pc
theorem UA(l:List (Nat×Nat))(x:Nat×Nat):pcs l++[.int .i64 x.1,.int .i64 x.2]=pcs (l++[x]):=by simp[pcs,pc]
structure Cho where
 gs:List (Nat×Nat)
 rs:List (Nat×Nat)
 i:Nat
 bad:Int
def choR(s:ByteArray)(c:Cho):Cho:=
 let i1:=numI s c.i c.bad
 let b1:=Zx s c.i c.bad
 let i2:=gotI s i1 b1 58
 let b2:=mustB s i1 b1 58
 { gs:=c.gs++[(numN s c.i c.bad,c.i)],rs:=c.rs++[(regN s i2 b2,i2)],i:=regI s i2 b2,bad:=regB s i2 b2 }
def ZO(s:ByteArray):Nat→Cho→Cho
 | 0,c=>c
 | k+1,c=>
  let d:=choR s c
  let e:={ d with i:=gotI s d.i d.bad 44 }
  if onF s d.i d.bad 44 then ZO s k e else e
def choF(s:ByteArray)(i:Nat)(bad:Int):Cho:=ZO s (s.size+1) { gs:=[],rs:=[],i:=gotI s i bad 64,bad:=mustB s i bad 64 }
theorem QjK:(prog.info? 49).map (fun i=>(i.zero,i.size,i.bytes))=some (some (.agg #[.int .i64 0,.int .i64 0]),2,16):=by kernel_rfl
theorem QjL:(prog.info? 48).map (fun i=>(i.zero,i.size,i.bytes))=some (some (.agg #[.int .i64 0,.int .i64 0]),2,16):=by kernel_rfl
theorem Z3{s i bad c}:i≤gotI s i bad c:=by unfold gotI;split<;>omega
theorem Qet{s bad fm}(k i n:Nat):i≤(Zm s bad fm k i n).2:=by
 induction k generalizing i n with
 | zero=>exact Qi _
 | succ k ih=>
  rw[Zm];split
  ·exact Qy (Nat.le_succ i) (ih _ _)
  ·exact Qi _
theorem XT{s i bad}:i≤numI s i bad:=by
 unfold numI;split
 ·exact Qet _ _ _
 ·exact Qi _
theorem Xl{s i bad}:i≤regI s i bad:=Qy Z3 XT
theorem ZM{s i bad}(h:i≤s.size):regI s i bad≤s.size:=Jl (Zd h)
def Qai:Value→Nat | .bool true=>1|_=>0
def Vc(s:ByteArray)(a:Bool)(k:Nat)(c:Cho):Cho:=if a then ZO s k c else c
theorem Vp{s k c}(hk:0<k):Vc s true k c=Vc s (onF s (choR s c).i (choR s c).bad 44) (k-1) { choR s c with i:=gotI s (choR s c).i (choR s c).bad 44 }:=by
 obtain⟨k,rfl⟩:∃j,k=j+1:=⟨k-1,by omega⟩;simp only[Vc,if_true,ZO,Nat.add_sub_cancel]
theorem Qbe(b:Nat)(s:ByteArray)(i tn ta:Nat)(bad:Int)(w:World)(hp:QJ w b s i bad)(hs:s.size≤200000)(hi:i≤s.size):
  Calls prog 92 #[.pointer (some ⟨b,0,none⟩),.agg #[.int .i64 tn,.int .i64 ta]] w fun e w'=>∃vf vr,e=.returned (.agg #[.int .i64 tn,.int .i64 ta,vf,vr]) ∧
   w'.ownsRow w.heap.size 49 2 vf (choF s i bad).gs.length (pcs (choF s i bad).gs)∧w'.ownsRow w.heap.size 48 2 vr (choF s i bad).rs.length (pcs (choF s i bad).rs) ∧
   QJ w' b s (choF s i bad).i (choF s i bad).bad∧Fr b w w':=by
 have hl:=hp.lt;obtain⟨I2,Hi2,Hz2,Hs2,Hb2⟩:=info_parts QjK;obtain⟨I1,Hi1,Hz1,Hs1,Hb1⟩:=info_parts QjL;go_enter func92,ntmps92;go_wp2_with fail;refine(XQ b s i 64 bad _ (((hp.alloc _).alloc _).alloc _) hs hi).mono ?_;rintro e w1 ⟨rfl,hp1,f1⟩;have g1:w1.heap[w.heap.size+1]?=some (.cells #[.int .i64 0,.int .i64 0,.slice none 0 0,.slice none 0 0] 64 (0,0)):=by
  refine Qn f1 ?_ (by omega);rw[Below.heap_alloc _ _ _ (by simp)];simpa using heap_alloc_last (w.alloc _) _
 have g2:w1.heap[w.heap.size+2]?=some (.cells #[.int .i64 tn,.int .i64 ta,.slice none 0 0,.slice none 0 0] 64 (0,0)):=by
  refine Qn f1 ?_ (by omega);simpa using heap_alloc_last ((w.alloc _).alloc _) _
 have hz:w.heap.size+3≤w1.heap.size:=by simpa using f1.size
 have f0:Fr b w w1:=((((Fr.refl _ _).alloc _).alloc _).alloc _).trans f1;have HF:Hid (Vc s true (s.size+1) { gs:=[],rs:=[],i:=gotI s i bad 64,bad:=mustB s i bad 64 }=choF s i bad):=rfl;clear f1;have hg:=Zd (c:=64) (bad:=bad) hi;generalize gotI s i bad 64=j0 at *;generalize mustB s i bad 64=bad0 at *;go_wp2_with fail
 go_loopw [6] (fun ag wr=>∃(a:Bool)(k:Nat)(c:Cho)(vf vr:Value),ag=.bool a∧c.i≤s.size∧(a=true→s.size<k+c.i∧c.gs.length≤c.i∧c.rs.length≤c.i)∧Hid (Vc s a k c=choF s i bad) ∧
   wr.heap[w.heap.size+1]?=some (.cells #[.int .i64 0,.int .i64 0,.slice none 0 0,.slice none 0 0] 64 (0,0))∧wr.heap[w.heap.size+2]?=some (.cells #[.int .i64 tn,.int .i64 ta,vf,vr] 64 (0,0)) ∧
   wr.ownsRow (w.heap.size+3) 49 2 vf c.gs.length (pcs c.gs)∧wr.ownsRow (w.heap.size+3) 48 2 vr c.rs.length (pcs c.rs)∧QJ wr b s c.i c.bad∧Fr b w wr∧w.heap.size+3≤wr.heap.size)
  (fun ag wr=>2*(s.size-penI wr b)+Qai ag)
 case atStart=>exact⟨true,s.size+1,_,_,_,rfl,hg,fun _=>⟨by show _<_;omega,by simp,by simp⟩,HF,g1,g2,World.ownsRow_nil _ _ _ _,World.ownsRow_nil _ _ _ _,hp1,f0,hz⟩
 case round=>
  clear g1 g2 hz f0 HF hp1 hp w1 hg;obtain⟨a,k,c,vf,vr,rfl,hci,hcb,HR,g1,g2,o1,o2,hp,f0,hz⟩:=hrel
  cases a with
  | false=>
   obtain⟨pf,mf,cf,rfl⟩:=Xm o1;obtain⟨pr,mr,cr,rfl⟩:=Xm o2;have q1:=Qb g1;have q2:=Qb g2;have z1:=Qg g1;have HC:Hid (choF s i bad=c):=HR.o.symm;go_wp2_with fail;refine bodyPost_ret (v:=.agg #[.int .i64 tn,.int .i64 ta,.slice pf mf cf,.slice pr mr cr]) (by simp[results,results92,go_sem,q1]) rfl ⟨_,_,rfl,?_,?_,?_,?_⟩
   ·rw[HC.o];exact Qj (Js (Js (Js (Js o1 (by show _<_;simp) _) (by show _<_;simp) _) (by show _<_;simp) _) (by show _<_;simp) _) (by omega)
   ·rw[HC.o];exact Qj (Js (Js (Js (Js o2 (by show _<_;simp) _) (by show _<_;simp) _) (by show _<_;simp) _) (by show _<_;simp) _) (by omega)
   ·rw[HC.o];exact(((hp.setOther (by simp;omega) _).setOther (by simp;omega) _).setOther (by simp;omega) _).setOther (by simp;omega) _
   ·exact(((f0.setNew (by simp) _).setNew (by simp) _).setNew (by simp) _).setNew (by simp) _
  | true=>
   obtain⟨hk,hgl,hrl⟩:=hcb rfl;clear hcb;have HR2:Hid (Vc s (onF s (choR s c).i (choR s c).bad 44) (k-1) { choR s c with i:=gotI s (choR s c).i (choR s c).bad 44 }=choF s i bad):=(Vp (by omega)).symm.trans HR;clear HR;go_wp2_with fail;refine(VN b s _ _ _ hp hs hci).mono ?_;rintro e w1 ⟨rfl,hp1,f1⟩;have hi1:=Jl (bad:=c.bad) hci;have G1:=Qn f1 g1 (by omega);have G2:=Qn f1 g2 (by omega);have O1:=Xn o1 f1 (by omega);have O2:=Xn o2 f1 (by omega);have F0:=f0.trans f1;have hz1:w.heap.size+3≤w1.heap.size:=Qy hz f1.size;have HPI:Hid (penI wr b=c.i):=hp.penI;clear g1 g2 o1 o2 f0 f1 hp hz;go_wp2_with fail;refine(XQ b s _ 58 _ _ (hp1.alloc _) hs hi1).mono ?_;rintro e w2 ⟨rfl,hp2,f2⟩;have hl1:=hp1.lt;have gb:=f2.own (by omega);replace G1:=Qn f2 (Qo G1 _) (by omega);replace G2:=Qn f2 (Qo G2 _) (by omega);replace O1:=Xn (O1.alloc _) f2 (by omega);replace O2:=Xn (O2.alloc _) f2 (by omega);replace F0:=(F0.alloc _).trans f2;have hz2:w1.heap.size+1≤w2.heap.size:=by simpa using f2.size
   have hi2:=Zd (c:=58) (bad:=Zx s c.i c.bad) hi1;clear f2 hp1;go_wp2_with fail;refine(Vz b s _ _ _ hp2 hs hi2).mono ?_;rintro e w3 ⟨rfl,hp3,f3⟩;replace gb:=Qn f3 gb (by omega);replace G1:=Qn f3 G1 (by omega);replace G2:=Qn f3 G2 (by omega);replace O1:=Xn O1 f3 (by omega);replace O2:=Xn O2 f3 (by omega);replace F0:=F0.trans f3;have hz3:w1.heap.size+1≤w3.heap.size:=Qy hz2 f3.size;clear f3 hp2 hz2;have q2:=Qb G2;have qb:=Qb gb;obtain⟨pf,mf,cf,rfl⟩:=Xm O1;obtain⟨pr,mr,cr,rfl⟩:=Xm O2;have n1:w.heap.size+1+1<w3.heap.size:=by omega
   have n2:w1.heap.size<w3.heap.size:=by omega
   go_wp2_with (at_builtin;refine QA ?_);refine Qc ?_;refine wpList_append_own _ rfl _ _ 61 rfl (w.heap.size+3) 49 I2 (.agg #[.int .i64 0,.int .i64 0]) 2 16 underlying61 Hi2 Hz2 Hs2 Hb2 rfl (by decide) _ _ _ rfl ((O1.alloc _).alloc _) ⟨w3.heap.size+1,0,none⟩ 1 1 [.int .i64 (numN s c.i c.bad),.int .i64 c.i] rfl rfl (by simpa using cell_two_new (w3.alloc _) _ _ _) (fun x hx=>by simp at hx;rcases hx with rfl|rfl<;>rfl) (by unfold maxLen;omega) (by omega) (by simp;omega) ?_;intro v1 w4 o4 gr4 _;have r4:∀k,(Value.slice pf mf cf).ownBlock=some k→w.heap.size+3≤k∧k<w3.heap.size:=O1.lt;have gr:w4.heap[w3.heap.size]?=some (.cells #[.int .i64 (regN s (gotI s (numI s c.i c.bad) (Zx s c.i c.bad) 58) (mustB s (numI s c.i c.bad) (Zx s c.i c.bad) 58)),.int .i64 (gotI s (numI s c.i c.bad) (Zx s c.i c.bad) 58)] 48 (0,0)):=
    QC gr4 (Qo (heap_alloc_last w3 _) _) (fun k hk=>by have:=r4 k hk;omega)
   replace G1:=QC gr4 (Qo (Qo G1 _) _) (fun k hk=>by have:=r4 k hk;omega);replace G2:=QC gr4 (Qo (Qo G2 _) _) (fun k hk=>by have:=r4 k hk;omega);replace O2:=Yh ((O2.alloc _).alloc _) ((O1.alloc _).alloc _) (by decide) gr4;have hp4:=QJ.grown ((hp3.alloc _).alloc _) gr4 (fun k hk=>by have:=r4 k hk;omega);replace F0:=((F0.alloc _).alloc _).grown gr4 (fun k hk=>by have:=r4 k hk;omega);have hz4:w3.heap.size+2≤w4.heap.size:=by simpa using gr4.size
   clear gr4 O1 r4 gb hp3 q2 qb n1 n2;obtain⟨p1,m1,c1,rfl⟩:=Xm o4;have q2:=Qb G2;have z2:=Qg G2;have qb:=Qb gr;have n1:w.heap.size+1+1<w4.heap.size:=by omega
   have n2:w3.heap.size<w4.heap.size:=by omega
   have n3:w3.heap.size≠w.heap.size+1+1:=by omega
   go_wp2_with (at_builtin;refine QA ?_);have G1':=Ql (j:=w.heap.size+1+1) G1 (by omega) 2 (.slice p1 m1 c1);have G2':(w4.setCell ⟨w.heap.size+1+1,2,none⟩ (.slice p1 m1 c1)).heap[w.heap.size+2]?=_:=Qq G2 2 (.slice p1 m1 c1);have O1':=QE o4 (w.heap.size+1+1) 2 (.slice p1 m1 c1) (by omega);have O2':=QE O2 (w.heap.size+1+1) 2 (.slice p1 m1 c1) (by omega);have hp5:=hp4.setk (w.heap.size+1+1) 2 (.slice p1 m1 c1) (by omega);have F5:=F0.setk (w.heap.size+1+1) 2 (.slice p1 m1 c1) (by omega);have hz5:w.heap.size+3≤(w4.setCell ⟨w.heap.size+1+1,2,none⟩ (.slice p1 m1 c1)).heap.size:=by rw[Zs];omega
   have e5:w4.heap.size=(w4.setCell ⟨w.heap.size+1+1,2,none⟩ (.slice p1 m1 c1)).heap.size:=(Zs _ _ _).symm;rw[e5];clear G1 G2 o4 O2 hp4 F0 q2 qb z2 gr hz4 n1 n2 n3 e5;generalize w4.setCell ⟨w.heap.size+1+1,2,none⟩ (.slice p1 m1 c1)=w5 at *;refine Qc ?_;refine wpList_append_own _ rfl _ _ 62 rfl (w.heap.size+3) 48 I1 (.agg #[.int .i64 0,.int .i64 0]) 2 16 underlying62 Hi1 Hz1 Hs1 Hb1 rfl (by decide) _ _ _ rfl (O2'.alloc _) ⟨w5.heap.size,0,none⟩ 1 1 [.int .i64 _,.int .i64 _] rfl rfl (cell_two_new w5 _ _ _) (fun x hx=>by simp at hx;rcases hx with rfl|rfl<;>rfl) (by unfold maxLen;omega) (by omega) (by simp;omega) ?_;intro v2 w6 o6 gr6 _;have r6:∀k,(Value.slice pr mr cr).ownBlock=some k→w.heap.size+3≤k∧k<w5.heap.size:=O2'.lt;replace G1:=QC gr6 (Qo G1' _) (fun k hk=>by have:=r6 k hk;omega);replace G2:=QC gr6 (Qo G2' _) (fun k hk=>by have:=r6 k hk;omega);replace O1:=Yh (O1'.alloc _) (O2'.alloc _) (by decide) gr6;have hp6:=QJ.grown (hp5.alloc _) gr6 (fun k hk=>by have:=r6 k hk;omega);have F6:=(F5.alloc _).grown gr6 (fun k hk=>by have:=r6 k hk;omega);have hz6:w5.heap.size+1≤w6.heap.size:=by simpa using gr6.size
   clear gr6 O2' r6 G1' G2' O1' hp5 F5;obtain⟨p2,m2,c2,rfl⟩:=Xm o6;have q2:=Qb G2;have z2:=Qg G2;simp at q2;go_wp2_with fail;have G1':=Ql (j:=w.heap.size+1+1) G1 (by omega) 3 (.slice p2 m2 c2);have G2':(w6.setCell ⟨w.heap.size+1+1,3,none⟩ (.slice p2 m2 c2)).heap[w.heap.size+2]?=_:=Qq G2 3 (.slice p2 m2 c2);have O1':=QE O1 (w.heap.size+1+1) 3 (.slice p2 m2 c2) (by omega);have O2':=QE o6 (w.heap.size+1+1) 3 (.slice p2 m2 c2) (by omega);have hp7:=hp6.setk (w.heap.size+1+1) 3 (.slice p2 m2 c2) (by omega);have F7:=F6.setk (w.heap.size+1+1) 3 (.slice p2 m2 c2) (by omega);have hz7:w.heap.size+3≤(w6.setCell ⟨w.heap.size+1+1,3,none⟩ (.slice p2 m2 c2)).heap.size:=by rw[Zs];omega
   clear G1 G2 O1 o6 hp6 F6 q2 z2 hz6;generalize w6.setCell ⟨w.heap.size+1+1,3,none⟩ (.slice p2 m2 c2)=w7 at *;refine(YO b s _ 44 _ _ hp7 hs (ZM hi2)).mono ?_;rintro e w8 ⟨rfl,hp8,f8⟩;replace G1:=Qn f8 G1' (by omega);replace G2:=Qn f8 G2' (by omega);replace O1:=Xn O1' f8 (by omega);replace O2:=Xn O2' f8 (by omega);replace F0:=F7.trans f8;have hz8:w.heap.size+3≤w8.heap.size:=Qy hz7 f8.size;clear G1' G2' O1' O2' F7 f8 hz7;go_wp2_with fail;go_roundw
   case rel=>
    refine⟨_,k-1,_,_,_,rfl,?_,?_,HR2,G1,G2,?_,?_,hp8,F0,hz8⟩
    ·exact Zd (ZM hi2)
    ·intro ha;have h1:gotI s (choR s c).i (choR s c).bad 44=(choR s c).i+1:=by rw[gotI];exact if_pos ha
     have h2:c.i≤(choR s c).i:=Qy XT (Qy Z3 Xl);show s.size<k-1+gotI s (choR s c).i (choR s c).bad 44∧(choR s c).gs.length≤gotI s (choR s c).i (choR s c).bad 44∧(choR s c).rs.length≤gotI s (choR s c).i (choR s c).bad 44;rw[h1];refine⟨by omega,?_,?_⟩
     ·simp[choR];simp[choR]at h2;omega
     ·simp[choR];simp[choR]at h2;omega
    ·rw[UA (c.gs) (numN s c.i c.bad,c.i)]at O1;simpa[choR] using O1
    ·rw[UA (c.rs) (_,_)]at O2;simpa[choR] using O2
   case measure=>
    rw[hp8.penI,HPI.o];have h2:c.i≤(choR s c).i:=Qy XT (Qy Z3 Xl);have h4:(choR s c).i≤s.size:=ZM hi2;show 2*(s.size-gotI s (choR s c).i (choR s c).bad 44)+Qai (.bool (onF s (choR s c).i (choR s c).bad 44))<2*(s.size-c.i)+Qai (.bool true);generalize choR s c=d at *
    cases ha:onF s d.i d.bad 44 with
    | true=>
     have h3:d.i<s.size:=by simp[onF]at ha;omega
     rw[gotI,if_pos ha];simp only[Qai];omega
    | false=>
     rw[gotI,if_neg (by simp[ha])];simp only[Qai];omega
theorem QJ.s8{w b s i bad}(h:QJ w b s i bad){k x0 x1 x2 x3 x4 x5 x6 x7}(hk:b≠k):QJ ((((((((w.setCell ⟨k,0,none⟩ x0).setCell ⟨k,1,none⟩ x1).setCell ⟨k,2,none⟩ x2).setCell ⟨k,3,none⟩ x3).setCell ⟨k,4,none⟩ x4).setCell ⟨k,5,none⟩ x5).setCell ⟨k,6,none⟩ x6).setCell ⟨k,7,none⟩ x7) b s i bad:=((((((((h.setk k 0 x0 hk).setk k 1 x1 hk).setk k 2 x2 hk).setk k 3 x3 hk).setk k 4 x4 hk).setk k 5 x5 hk).setk k 6 x6 hk).setk k 7 x7 hk)
theorem Fr.s8{b:Nat}{u v:World}(h:Fr b u v){k x0 x1 x2 x3 x4 x5 x6 x7}(hk:u.heap.size≤k):Fr b u ((((((((v.setCell ⟨k,0,none⟩ x0).setCell ⟨k,1,none⟩ x1).setCell ⟨k,2,none⟩ x2).setCell ⟨k,3,none⟩ x3).setCell ⟨k,4,none⟩ x4).setCell ⟨k,5,none⟩ x5).setCell ⟨k,6,none⟩ x6).setCell ⟨k,7,none⟩ x7):=((((((((h.setk k 0 x0 hk).setk k 1 x1 hk).setk k 2 x2 hk).setk k 3 x3 hk).setk k 4 x4 hk).setk k 5 x5 hk).setk k 6 x6 hk).setk k 7 x7 hk)
end Go.Proofs.YtgfhfkgdmidhpaaGreatDoor
