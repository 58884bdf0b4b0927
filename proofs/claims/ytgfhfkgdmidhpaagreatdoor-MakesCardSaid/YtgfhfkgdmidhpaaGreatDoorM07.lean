import Derived.Test.YtgfhfkgdmidhpaaGreatDoorM06
import Derived.Lib.OthersKept
namespace Go.Proofs.YtgfhfkgdmidhpaaGreatDoor
open Go.RowKit
open Tryz
set_option maxRecDepth 100000
set_option maxHeartbeats 8000000
structure Ng(s:ByteArray)(ms:List (Nat×Int))(pos:Nat):Prop where
 zero:ms=[]→pos=0
 first:∀h:0<ms.length,ms[0].1=0
 at_:∀k,(h:k<ms.length)→ms[k].1<s.size∧ms[k].2=(Utf8.decode s ms[k].1).1
 next:∀k,(h:k+1<ms.length)→ms[k+1].1=ms[k].1+(Utf8.decode s ms[k].1).2
 last:∀k,(h:k<ms.length)→k+1=ms.length→pos=ms[k].1+(Utf8.decode s ms[k].1).2
 len:ms.length≤pos
 le:pos≤s.size
theorem Ng.nil(s):Ng s [] 0:=⟨fun _=>rfl,fun h=>absurd h (by simp),fun k h=>absurd h (by simp),fun k h=>absurd h (by simp),fun k h=>absurd h (by simp),by simp,by simp⟩
theorem Ng.snoc{s ms pos}(h:Ng s ms pos)(hp:pos<s.size):Ng s (ms++[(pos,((Utf8.decode s pos).1:Int))]) (pos+(Utf8.decode s pos).2):=by
 have hf:=Ji hp;have hl:(ms++[(pos,((Utf8.decode s pos).1:Int))]).length=ms.length+1:=by simp
 refine⟨by simp,?_,?_,?_,?_,?_,hf.2.2.2.2.2.1⟩
 ·intro h0;by_cases hm:0<ms.length
  ·rw[List.getElem_append_left hm];exact h.first hm
  ·have:ms=[]:=by cases ms with|nil=>rfl|cons _ _=>simp at hm
   subst this;simp[h.zero rfl]
 ·intro k hk;by_cases hm:k<ms.length
  ·rw[List.getElem_append_left hm];exact h.at_ k hm
  ·have:k=ms.length:=by omega
   subst this;simp[hp]
 ·intro k hk;rw[hl]at hk;by_cases hm:k+1<ms.length
  ·rw[List.getElem_append_left hm,List.getElem_append_left (by omega)];exact h.next k hm
  ·have:k+1=ms.length:=by omega
   rw[List.getElem_append_left (show k<ms.length by omega),List.getElem_append_right (by omega)];simp[this];exact h.last k (by omega) this
 ·intro k hk he;rw[hl]at he;have:k=ms.length:=by omega
  subst this;simp
 ·rw[hl];have:=h.len;omega
theorem Ng.marks{s ms}(h:Ng s ms s.size):Qax s (ms++[(s.size,-1)]):=by
 have hl:(ms++[(s.size,(-1:Int))]).length=ms.length+1:=by simp
 have hlast:(ms++[(s.size,(-1:Int))])[ms.length]'(by omega)=(s.size,-1):=by simp
 have hget:∀k,(hk:k<ms.length)→(ms++[(s.size,(-1:Int))])[k]'(by omega)=ms[k]:=fun k hk=>List.getElem_append_left hk;have hnx:∀k,(hk:k<ms.length)→∃h2:k+1<(ms++[(s.size,(-1:Int))]).length,((ms++[(s.size,(-1:Int))])[k+1]).1=ms[k].1+(Utf8.decode s ms[k].1).2:=by
  intro k hk;refine⟨by omega,?_⟩;by_cases hm:k+1<ms.length
  ·rw[hget _ hm];exact h.next k hm
  ·have e:k+1=ms.length:=by omega
   have:=h.last k hk e;simp only[e,hlast];exact this
 refine⟨by omega,?_,?_,?_,?_,?_,?_,?_,?_,?_⟩
 ·intro h0;by_cases hm:0<ms.length
  ·rw[hget 0 hm];exact h.first hm
  ·have:ms=[]:=by cases ms with|nil=>rfl|cons _ _=>simp at hm
   subst this;simp[h.zero rfl]
 ·intro k hk;by_cases hm:k<ms.length
  ·rw[hget k hm];have:=(h.at_ k hm).1;omega
  ·have:k=ms.length:=by omega
   subst this;rw[hlast];exact Qi _
 ·rw[hl];have:=h.len;omega
 ·intro k hk c hc;by_cases hm:k<ms.length
  ·rw[hget k hm];obtain⟨a1,a2⟩:=h.at_ k hm;have hf:=Ji a1;rw[a2];constructor
   ·intro e;have e:(Utf8.decode s ms[k].1).1=c:=by omega
    have h1:=hf.1.1 (by omega);have h2:=hf.2.1 h1;rw[h2]at e;exact⟨a1,e⟩
   ·rintro⟨_,e⟩;have h2:=hf.2.1 (by omega);rw[h2];show ((byt s ms[k].1:Nat):Int)=c;omega
  ·have:k=ms.length:=by omega
   subst this;rw[hlast];exact⟨fun e=>by have e:(-1:Int)=c:=e;omega,fun e=>absurd e.1 (Nat.lt_irrefl _)⟩
 ·intro k hk h0 h1;by_cases hm:k<ms.length
  ·obtain⟨h2,e⟩:=hnx k hm;refine⟨h2,?_⟩;rw[hget k hm]at h1 ⊢;obtain⟨a1,a2⟩:=h.at_ k hm;have hf:=Ji a1;have h3:=hf.2.1 (hf.1.1 (by omega));rw[e,h3]
  ·have:k=ms.length:=by omega
   subst this;rw[hlast]at h0;exact absurd (show _ from h0) (by show ¬_;simp)
 ·intro k hk;by_cases hm:k<ms.length
  ·rw[hget k hm];obtain⟨a1,a2⟩:=h.at_ k hm;have hf:=Ji a1;rw[a2,←hf.2.2.1];omega
  ·have:k=ms.length:=by omega
   subst this;rw[hlast];exact⟨fun e=>by have e:(-1:Int)=215:=e;omega,fun e=>absurd e.1 (by show ¬s.size+1<s.size;omega)⟩
 ·intro k hk h0;by_cases hm:k<ms.length
  ·obtain⟨h2,e⟩:=hnx k hm;refine⟨h2,?_⟩;rw[hget k hm]at h0 ⊢;obtain⟨a1,a2⟩:=h.at_ k hm;have hf:=Ji a1;rw[e,hf.2.2.2.1 (by omega)]
  ·have:k=ms.length:=by omega
   subst this;rw[hlast]at h0;exact absurd (show _ from h0) (by show ¬_;simp)
 ·intro k hk;by_cases hm:k<ms.length
  ·rw[hget k hm];obtain⟨a1,a2⟩:=h.at_ k hm;rw[a2];exact⟨fun e=>by omega,fun e=>by omega⟩
  ·have:k=ms.length:=by omega
   subst this;rw[hlast];exact⟨fun _=>rfl,fun _=>rfl⟩
 ·intro k hk;by_cases hm:k<ms.length
  ·rw[hget k hm];obtain⟨a1,a2⟩:=h.at_ k hm;have hf:=Ji a1;rw[a2];have:=hf.2.2.2.2.2.2;exact⟨by omega,by omega⟩
  ·have:k=ms.length:=by omega
   subst this;rw[hlast];exact⟨by show (-1:Int)≤-1;decide,by show (-1:Int)<2000000;decide⟩
theorem Qr.iter{base:Nat}{T:TypeId→Prop}{w:World}{k:Nat}{s:ByteArray}{pos:Nat}(hk:w.heap[k]?=some (.stringIter s pos))(p:Nat):Qr base T w (w.iterAt k s p):=by
 intro g cur e _ _ h;rw[Lib.iterAt_other _ _ _ _ _ (fun e=>by subst e;rw[h]at hk;cases hk)];exact h
theorem Qa3{w w':World}{k:Nat}{s:ByteArray}{pos:Nat} {base e size v n xs}(hk:w.heap[k]?=some (.stringIter s pos))(ho:w.ownsRow base e size v n xs)(hg:w.grownBy w' v.ownBlock):w'.heap[k]?=some (.stringIter s pos):=by
 refine QC hg hk ?_;intro j hj e1;subst e1;rcases ho.2 with ⟨rfl,_⟩|⟨g,cap,cur,rfl,_,hc,_⟩
 ·simp[Value.ownBlock]at hj
 ·simp only[Value.ownBlock,Option.some.injEq]at hj;subst hj;rw[hk]at hc;cases hc
theorem RH:(prog.info? 275).map (fun i=>(i.zero,i.size,i.bytes))=some (some (.agg #[.int .i64 0,.int .i32 0]),2,16):=by kernel_rfl
theorem NP(l:List (Nat×Int))(x:Nat×Int):mcs l++[.int .i64 x.1,.int .i32 x.2]=mcs (l++[x]):=by simp[mcs,mc]
theorem NQ(s:ByteArray)(w:World)(hs:s.size≤200000):
  Calls prog 112 #[.string s] w fun e w'=>∃ms g cap,e=.returned (.slice (some ⟨g,0,none⟩) ms.length cap)∧Qax s ms∧w'.ownsRow w.heap.size 275 2 (.slice (some ⟨g,0,none⟩) ms.length cap) ms.length (mcs ms)∧Below w.heap.size w w':=by
 obtain⟨I9,Hi9,Hz9,Hs9,Hb9⟩:=info_parts RH;go_enter func112,ntmps112;go_wp2_with (at_make;refine QA ?_);refine Qc ?_;refine wpList_make_own w rfl _ _ 218 rfl w.heap.size 275 I9 (.agg #[.int .i64 0,.int .i32 0]) 2 underlying218 Hi9 Hz9 Hs9 .i64 .i64 _ (s.size+1) rfl rfl (by simp) (by rw[Hb9];omega) (by unfold maxLen;omega) (Nat.le_refl _) ?_;intro w1 o1 g1;have F1:Below w.heap.size w w1:=Below.grown (Below.refl _ _) g1 (Qi _) (fun k hk=>by cases hk);have hz1:w.heap.size≤w1.heap.size:=g1.size;clear g1;go_wp2_with fail
 go_loopw [3] (fun v wr=>∃(ms:List (Nat×Int)) (pos:Nat),wr.heap[w1.heap.size]?=some (.stringIter s pos)∧wr.ownsRow w.heap.size 275 2 v ms.length (mcs ms)∧Hid (Ng s ms pos)∧ms.length≤pos∧pos≤s.size∧Hid (Below w.heap.size w wr)∧w1.heap.size<wr.heap.size) (fun _ wr=>s.size-wr.iterPos w1.heap.size)
 case atStart=>exact⟨[],0,heap_alloc_last w1 _,o1.alloc _,Ng.nil s,by simp,by simp,F1.alloc hz1 _,by show _<(w1.alloc (.stringIter s 0)).heap.size;rw[World.size_alloc];omega⟩
 case round=>
  clear o1 F1;obtain⟨ms,pos,hit,O,HM,hml,hps,F,hz⟩:=hrel;have HPI:Hid (wr.iterPos w1.heap.size=pos):=iterPos_of hit;obtain⟨pv,cv,rfl⟩:=Qa O;by_cases hp:pos<s.size
  ·have hnx:∀ty,(Instr.next (.pointer (some ⟨w1.heap.size,0,none⟩)) true ty).run prog wr=_:=fun ty=>Lib.run_next_any_at wr w1.heap.size s pos ty hit hp;have hf:=Ji hp;have hit2:=Lib.iterAt_heap wr w1.heap.size s pos (pos+(Utf8.decode s pos).2) hit;have O2:=Qd O (Qr.iter (base:=w.heap.size) (T:=fun _=>True) hit (pos+(Utf8.decode s pos).2)) trivial;have F2:=Qc (Lib.below_iterAt F.o (k:=w1.heap.size) hz1 s (pos+(Utf8.decode s pos).2));have hz2:w1.heap.size<(wr.iterAt w1.heap.size s (pos+(Utf8.decode s pos).2)).heap.size:=by rw[Lib.iterAt_size];exact hz
   have HM2:=Qc (HM.o.snoc hp);obtain⟨W1,hW1⟩:∃W1,W1=wr.iterAt w1.heap.size s (pos+(Utf8.decode s pos).2):=⟨_,rfl⟩;rw[←hW1]at hnx hit2 O2 F2 hz2;have hd1:=hf.2.2.2.2.1;have hd2:=hf.2.2.2.2.2.1;clear hW1 hit O F HM hf hz;go_wp2_with (at_builtin;refine QA ?_);refine Qc ?_;have gB:=heap_alloc_last W1 (.cells #[.int .i64 pos,.int .i32 ((Utf8.decode s pos).1:Int)] 275);have O3:=O2.alloc (.cells #[.int .i64 pos,.int .i32 ((Utf8.decode s pos).1:Int)] 275);have hz3:w.heap.size≤(W1.alloc (.cells #[.int .i64 pos,.int .i32 ((Utf8.decode s pos).1:Int)] 275)).heap.size:=by rw[Qt];omega
   refine J7 underlying218 RH rfl (by decide) (by decide) rfl _ _ rfl rfl O3 gB rfl rfl (Xi.1 rfl) (by omega) hz3 ?_;intro v6 w6 o6 gr6;have hit6:=Qa3 (Qo hit2 _) O3 gr6;have F6:=Qc (Below.grown (F2.o.alloc (by omega) _) gr6 hz3 (fun j hj=>(O3.lt j hj).1));have hz6:w1.heap.size<w6.heap.size:=by have:=gr6.size;rw[Qt]at this;omega
   have o7:w6.ownsRow w.heap.size 275 2 v6 (ms++[(pos,((Utf8.decode s pos).1:Int))]).length (mcs (ms++[(pos,((Utf8.decode s pos).1:Int))])):=by
    rw[←NP,Qw];exact o6
   obtain⟨p6,c6,rfl⟩:=Qa o6;clear gB O3 hz3 gr6 o6 hnx O2 F2 hit2 hz2;go_wp2_with fail;go_roundw
   case rel=>exact⟨_,_,hit6,o7,HM2,by simp;omega,hd2,F6,hz6⟩
   case measure=>rw[iterPos_of hit6,HPI.o];omega
  ·have hnx:∀ty,(Instr.next (.pointer (some ⟨w1.heap.size,0,none⟩)) true ty).run prog wr=_:=fun ty=>Lib.run_next_end_at wr w1.heap.size s pos ty hit hp;have he:pos=s.size:=by omega
   have HM2:Hid (Qax s (ms++[(s.size,-1)])):=by have:=HM.o;rw[he]at this;exact this.marks
   clear HM he;go_wp2_with (at_builtin;refine QA ?_);refine Qc ?_;have gB:=heap_alloc_last wr (.cells #[.int .i64 s.size,.int .i32 (-1)] 275);have O3:=O.alloc (.cells #[.int .i64 s.size,.int .i32 (-1)] 275);have hz3:w.heap.size≤(wr.alloc (.cells #[.int .i64 s.size,.int .i32 (-1)] 275)).heap.size:=by rw[Qt];omega
   refine J7 underlying218 RH rfl (by decide) (by decide) rfl _ _ rfl rfl O3 gB rfl rfl (Xi.1 rfl) (by omega) hz3 ?_;intro v6 w6 o6 gr6;have F6:=Qc (Below.grown (F.o.alloc (by omega) _) gr6 hz3 (fun j hj=>(O3.lt j hj).1));have o7:w6.ownsRow w.heap.size 275 2 v6 (ms++[(s.size,(-1:Int))]).length (mcs (ms++[(s.size,(-1:Int))])):=by
    rw[←NP,Qw];exact o6
   obtain⟨p6,c6,h6⟩:=Qa o7;subst h6;obtain⟨g6,rfl,_,_⟩:=Qk o7 (by simp);clear gB O3 hz3 gr6 o6 hnx O F;go_wp2_with fail;go_ret;exact⟨ms++[(s.size,-1)],g6,c6,by simp,HM2.o,o7,F6.o⟩
structure JD(s:ByteArray)(i:Nat)(x:Int):Prop where
 ascii:∀c:Nat,c<128→(x=(c:Int)↔i<s.size∧byt s i=c)
 cross:x=215↔i+1<s.size∧byt s i=195∧byt s (i+1)=151
 fin:x=-1↔i=s.size
 wide:-1≤x∧x<2000000
theorem XI{b g:Nat}{s:ByteArray}{i:Nat}{w:World}(hp:RS w b g s i):
  Calls prog 158 #[.pointer (some ⟨b,0,none⟩)] w fun e w'=>∃x,e=.returned (.int .i32 x)∧JD s i x∧RS w' b g s i∧Fr b w w':=by
 have hp0:=hp;obtain⟨ms,k,cap,hm,⟨hk,rfl⟩,hr⟩:=hp;refine(Vw b s ms k g cap w hr hk).mono ?_;rintro e w1 ⟨n,rfl,rfl⟩;exact⟨_,rfl,⟨hm.ascii k hk,hm.cross k hk,hm.fin k hk,hm.wide k hk⟩,hp0.drewN n,(Fr.refl _ _).drewN _⟩
theorem WI{b g:Nat}{s:ByteArray}{i:Nat}{w:World}(hp:RS w b g s i):
  Calls prog 196 #[.pointer (some ⟨b,0,none⟩)] w fun e w'=>e=.returned (.int .i64 i)∧RS w' b g s i∧Fr b w w':=by
 have hp0:=hp;obtain⟨ms,k,cap,hm,⟨hk,rfl⟩,hr⟩:=hp;refine(Qbl b s ms k g cap w hr hk).mono ?_;rintro e w1 ⟨n,rfl,rfl⟩;exact⟨rfl,hp0.drewN n,(Fr.refl _ _).drewN _⟩
theorem JD.on{s i x}(h:JD s i x){c:Nat}(hc:c<128):(x==(c:Int))=onF s i (-1) c:=by
 rw[Bool.eq_iff_iff,beq_iff_eq,h.ascii c hc,JZ]
theorem JD.dig{s i x}(h:JD s i x):(decide (48≤x)&&decide (x≤57))=Zr s i (-1):=by
 rw[Bool.eq_iff_iff];simp only[Bool.and_eq_true,decide_eq_true_eq,Zr];constructor
 ·rintro⟨h1,h2⟩;obtain⟨c,rfl⟩:=Int.eq_ofNat_of_zero_le (show 0≤x by omega);have:=(h.ascii c (by omega)).1 rfl;exact⟨by omega,this.1,by omega,by omega⟩
 ·rintro⟨_,h1,h2,h3⟩;have:=(h.ascii (byt s i) (by omega)).2 ⟨h1,rfl⟩;omega
theorem JD.val{s i x}(h:JD s i x)(hd:Zr s i (-1)=true):x=byt s i:=by
 have:=JN hd;exact(h.ascii (byt s i) (by omega)).2 ⟨this.2.1,rfl⟩
theorem N2(x:Int)(w:World):
  Calls prog 244 #[.int .i32 x] w fun e w'=>e=.returned (.bool (decide (48≤x)&&decide (x≤57)))∧w'=w:=by
 by_cases h:48≤x
 ·go_enter func244,ntmps244
  go_wp2
  go_ret;exact⟨by simp[h],rfl⟩
 ·go_enter func244,ntmps244
  go_wp2
  go_ret;exact⟨by simp;omega,rfl⟩
theorem K1{s i x}(h:JD s i x){v:Bool}(hd:Zr s i (-1)=v)(w:World):
  Calls prog 244 #[.int .i32 x] w fun e w'=>e=.returned (.bool v)∧w'=w:=by
 refine(N2 x w).mono ?_;rintro e w' ⟨rfl,rfl⟩;exact⟨by rw[h.dig,hd],rfl⟩
theorem Rv{b g:Nat}{s:ByteArray}{i:Nat}{w:World}(hp:RS w b g s i)(hd:Zr s i (-1)=false):
  Calls prog 218 #[.pointer (some ⟨b,0,none⟩)] w fun e w'=>e=.panicked (brk i)∧Fr b w w':=by
 have HD:=Qc hd;clear hd;go_enter func218,ntmps218;go_wp2_with fail;refine(XI hp).mono ?_;rintro e w1 ⟨x,rfl,hx,hp1,f1⟩;have HX:=Qc hx;clear hx;go_wp2_with fail;refine(K1 HX.o HD.o _).mono ?_;rintro e w2 ⟨rfl,rfl⟩;go_wp2_with fail;refine(Vq hp1).mono ?_;rintro e w3 ⟨rfl,f3⟩;go_wp2_with fail;exact⟨rfl,rfl,f1.trans f3⟩
theorem WU{b g:Nat}{s:ByteArray}{i:Nat}{w:World}(hp:RS w b g s i)(hs:s.size≤200000)(hd:Zr s i (-1)=true):
  Calls prog 218 #[.pointer (some ⟨b,0,none⟩)] w fun e w'=>e=.returned (.int .i64 (numN s i (-1)))∧RS w' b g s (numI s i (-1))∧Fr b w w':=by
 have HN:Hid (numN s i (-1)=(Zm s (-1) i 4 i 0).1):=by simp[Hid,numN,hd]
 have HI:Hid (numI s i (-1)=(Zm s (-1) i 4 i 0).2):=by simp[Hid,numI,hd]
 have HD:=Qc hd;go_enter func218,ntmps218;go_wp2_with fail;refine(XI hp).mono ?_;rintro e w1 ⟨x,rfl,hx,hp1,f1⟩;have HX:=Qc hx;clear hx;go_wp2_with fail;refine(K1 HX.o HD.o _).mono ?_;rintro e w2 ⟨rfl,rfl⟩;go_wp2_with fail
 cases h48:onF s i (-1) 48 with
 | true=>
  have h0:Zm s (-1) i 4 i 0=(0,i+1):=by
   have hb:=(JZ.1 h48).2;rw[Zm,hd];have:(true&&(i==i||byt s i != 48))=true:=by simp
   rw[this,if_pos rfl,KV]
   ·simp[hb]
   ·simp[hb]
  have HN':Hid (numN s i (-1)=0):=by rw[HN.o,h0];rfl
  have HI':Hid (numI s i (-1)=i+1):=by rw[HI.o,h0];rfl
  clear h0 HN HI hd;refine(XD hp1 hs (by decide) h48).mono ?_;rintro e w3 ⟨rfl,hp3,f3⟩;clear h48;go_wp2_with fail;go_ret;exact⟨by rw[HN'.o];rfl,by rw[HI'.o];exact hp3,f1.trans f3⟩
 | false=>
  have hne:byt s i≠48:=fun e=>by
   have:=JZ.2 ⟨(JN hd).2.1,e⟩;rw[h48]at this;cases this
  have HNE:=Qc hne;refine(X2 hp1 (by decide) h48).mono ?_;rintro e w3 ⟨rfl,hp3,f3⟩;have F:=f1.trans f3;clear h48 hne f1 f3 hp1;go_wp2_with fail
  go_loopw [3,4] (fun n c wr=>∃j m:Nat,i≤j∧j≤i+4∧n=.int .i64 m∧c=.int .i64 ((j:Int)-i)∧Hid (m<10 ^ (j-i))∧Hid (Zm s (-1) i (i+4-j) j m=Zm s (-1) i 4 i 0)∧RS wr b g s j∧Hid (Fr b w wr)) (fun _ c _=>4-(intOf c).toNat)
  case atStart=>exact⟨i,0,by omega,by omega,rfl,by go_num,by simp[Hid],by rw[show i+4-i=4 from by omega];rfl,hp3,F⟩
  case round=>
   obtain⟨j,m,hij,hj4,rfl,rfl,HM,HG,hp4,F4⟩:=hrel;clear hp hp3 F;have hmb:(m:Int)<10000:=by
    have:10 ^ (j-i)≤10 ^ 4:=Nat.pow_le_pow_right (by omega) (by omega);have:=HM.o;omega
   by_cases hlt:j<i+4
   ·cases hdj:Zr s j (-1) with
    | true=>
     have HJ:=Qc hdj;have hv:=JN hdj;have HS:=Qc ((UF (m:=m) hlt hij (by rw[hdj];simp[HNE.o])).symm.trans HG.o);have HP:=Qc (GD hij HM.o _ hv.2.2.2);clear hdj hd;go_wp2_with fail;refine(XI hp4).mono ?_;rintro e w5 ⟨x5,rfl,hx5,hp5,f5⟩;have HX5:=Qc hx5;clear hx5;go_wp2_with fail;refine(K1 HX5.o HJ.o _).mono ?_;rintro e w6 ⟨rfl,rfl⟩;go_wp2_with fail;refine(XI hp5).mono ?_;rintro e w7 ⟨x7,rfl,hx7,hp7,f7⟩;have e7:=hx7.val HJ.o;have hb1:=hv.2.2.1;have hb2:=hv.2.2.2;clear hx7 hv;subst e7;have h7a:(48:Int)≤(byt s j:Int):=by omega
     have h7b:(byt s j:Int)≤57:=by omega
     obtain⟨ms,k,cap,hm,⟨hk,hkj⟩,hr⟩:=hp7;have HKJ:=Qc hkj;have hml:=hm.len;have c2:=hr.c2;have z2:=hr.fz 2;clear hkj;go_wp2_with fail;have hnx:=hm.next k hk (by have:=(hm.ascii k hk (byt s j) (by omega)).2 (by rw[HKJ.o];exact⟨(JN HJ.o).2.1,rfl⟩);omega) (by have:=(hm.ascii k hk (byt s j) (by omega)).2 (by rw[HKJ.o];exact⟨(JN HJ.o).2.1,rfl⟩);omega);obtain⟨hk2,e2⟩:=hnx;go_roundw
     case rel=>
      refine⟨j+1,10*m+(byt s j-48),by omega,by omega,by go_num,by go_num,HP,HS,⟨ms,k+1,cap,hm,⟨hk2,by rw[e2,HKJ.o]⟩,hr.set (by omega)⟩,?_⟩;exact(((F4.o.trans f5).trans f7).setCell _ _)
     case measure=>simp[intOf];omega
    | false=>
     have HJ:=Qc hdj;have h0:=HG.o;rw[KV _ (by rw[hdj];rfl)]at h0;have HN':Hid (numN s i (-1)=m):=by rw[HN.o,←h0];rfl
     have HI':Hid (numI s i (-1)=j):=by rw[HI.o,←h0];rfl
     clear hdj hd h0 HN HI HG;go_wp2_with fail;refine(XI hp4).mono ?_;rintro e w5 ⟨x5,rfl,hx5,hp5,f5⟩;have HX5:=Qc hx5;clear hx5;go_wp2_with fail;refine(K1 HX5.o HJ.o _).mono ?_;rintro e w6 ⟨rfl,rfl⟩;go_wp2_with fail;go_ret;exact⟨by rw[HN'.o];rfl,by rw[HI'.o];exact hp5,F4.o.trans f5⟩
   ·have h0:=HG.o;rw[show i+4-j=0 from by omega]at h0;have HN':Hid (numN s i (-1)=m):=by rw[HN.o,←h0];rfl
    have HI':Hid (numI s i (-1)=j):=by rw[HI.o,←h0];rfl
    clear hd h0 HN HI HG;go_wp2_with fail;go_ret;exact⟨by rw[HN'.o];rfl,by rw[HI'.o];exact hp4,F4.o⟩
section sticky
variable {s:ByteArray} {i:Nat} {bad:Int} (h:0≤bad)
include h
theorem Uo{c:Nat}:onF s i bad c=false:=by simp[onF];omega
theorem Qi4:Zr s i bad=false:=by simp[Zr];omega
theorem Rh:Ja i bad=bad:=by rw[Ja,if_neg (by omega)]
theorem ZV{c:Nat}:mustB s i bad c=bad:=by rw[mustB,Uo h];exact Rh h
theorem X1:Zx s i bad=bad:=by rw[Zx,Qi4 h];exact Rh h
theorem Rg:regB s i bad=bad:=by rw[regB,ZV h,X1 h]
theorem Qi2:opB s i bad=bad:=by simp[opB,Uo h]
theorem Qi1:opC s i bad=0:=by simp[opC,Uo h]
theorem Qgx{a:Nat×Nat}:(braF s a i bad).bad=bad:=by simp[braF,ZV h,X1 h]
end sticky
theorem V7{s:ByteArray}{i0:Nat}(k:Nat) {chs sts i}{bad:Int}(h:0≤bad):(QP s i0 k chs sts i bad).bad=bad:=by
 cases k with
 | zero=>rfl
 | succ k=>rw[QP,if_neg (by omega)]
theorem RP{i}:Ja i (-1)=i:=by simp[Ja]
theorem JA{s i c}:mustB s i (-1) c=if onF s i (-1) c then -1 else (i:Int):=by
 rw[mustB,RP]
theorem Kj{s i}:Zx s i (-1)=if Zr s i (-1) then -1 else (i:Int):=by
 rw[Zx,RP]
theorem Qea{s i}:regB s i (-1)=if onF s i (-1) 114 then (if Zr s (i+1) (-1) then -1 else ((i+1:Nat):Int)) else (i:Int):=by
 rw[regB,JA]
 cases h:onF s i (-1) 114 with
 | true=>rw[if_pos rfl,if_pos rfl,gotI,if_pos h,Kj]
 | false=>rw[if_neg (by simp),if_neg (by simp),X1 (by omega)]
theorem Ux{s i}(h:regB s i (-1)<0):onF s i (-1) 114=true∧Zr s (i+1) (-1)=true∧regB s i (-1)=-1∧regN s i (-1)=numN s (i+1) (-1)∧regI s i (-1)=numI s (i+1) (-1):=by
 rw[Qea]at h
 cases h1:onF s i (-1) 114 with
 | false=>rw[h1,if_neg (by simp)]at h;omega
 | true=>
  rw[h1,if_pos rfl]at h
  cases h2:Zr s (i+1) (-1) with
  | false=>rw[h2,if_neg (by simp)]at h;omega
  | true=>
   have g1:gotI s i (-1) 114=i+1:=by rw[gotI,if_pos h1]
   have g2:mustB s i (-1) 114=-1:=by rw[mustB,if_pos h1]
   exact⟨rfl,rfl,by rw[Qea,h1,h2];rfl,by rw[regN,g1,g2],by rw[regI,g1,g2]⟩
theorem VM{b g:Nat}{s:ByteArray}{i:Nat}{w:World}(hp:RS w b g s i)(hs:s.size≤200000)(hd:Zr s i (-1)=true):
  Calls prog 198 #[.pointer (some ⟨b,0,none⟩)] w fun e w'=>e=.returned (.agg #[.int .i64 (numN s i (-1)),.int .i64 i])∧RS w' b g s (numI s i (-1))∧Fr b w w':=by
 have hl:=hp.lt;have hgl:=hp.glt;have hne:b≠w.heap.size:=by omega
 have HD:=Qc hd;clear hd;go_enter func198,ntmps198;go_wp2_with fail;refine(WI (hp.alloc _)).mono ?_;rintro e w1 ⟨rfl,hp1,f1⟩;go_wp2_with fail;refine(WU hp1 hs HD.o).mono ?_;rintro e w2 ⟨rfl,hp2,f2⟩;have f3:=f1.trans f2;have hk:=f3.own hne;have k0:=Qb hk 0;have k1:=Qb hk 1;have kf:=Qg hk;simp at k0 k1;clear hk;go_wp2_with fail;refine bodyPost_ret (v:=.agg #[.int .i64 (numN s i (-1)),.int .i64 i]) (by simp[results,results198,go_sem,k0,k1]) rfl ⟨rfl,?_,?_⟩
 ·exact(hp2.setk _ 0 _ hne (by omega)).setk _ 1 _ hne (by omega)
 ·exact((((Fr.refl _ _).alloc _).trans f3).setk _ 0 _ (Qi _)).setk _ 1 _ (Qi _)
theorem Uc{b g:Nat}{s:ByteArray}{i:Nat}{w:World}(hp:RS w b g s i)(hd:Zr s i (-1)=false):
  Calls prog 198 #[.pointer (some ⟨b,0,none⟩)] w fun e w'=>e=.panicked (brk i)∧Fr b w w':=by
 have HD:=Qc hd;clear hd;go_enter func198,ntmps198;go_wp2_with fail;refine(WI (hp.alloc _)).mono ?_;rintro e w1 ⟨rfl,hp1,f1⟩;go_wp2_with fail;refine(Rv hp1 HD.o).mono ?_;rintro e w2 ⟨rfl,f2⟩;go_wp2_with fail;exact⟨rfl,rfl,(((Fr.refl _ _).alloc _).trans f1).trans f2⟩
theorem Kd{b g:Nat}{s:ByteArray}{i:Nat}{w:World}(hp:RS w b g s i)(hs:s.size≤200000)(hd:regB s i (-1)<0):
  Calls prog 199 #[.pointer (some ⟨b,0,none⟩)] w fun e w'=>e=.returned (.agg #[.int .i64 (regN s i (-1)),.int .i64 i])∧RS w' b g s (regI s i (-1))∧Fr b w w':=by
 have hl:=hp.lt;have hgl:=hp.glt;have hne:b≠w.heap.size:=by omega
 obtain⟨h1,h2,_,h4,h5⟩:=Ux hd;have H1:=Qc h1;have H2:=Qc h2;have H4:=Qc h4;have H5:=Qc h5;clear hd h1 h2 h4 h5;go_enter func199,ntmps199;go_wp2_with fail;refine(WI (hp.alloc _)).mono ?_;rintro e w1 ⟨rfl,hp1,f1⟩;go_wp2_with fail;refine(Jo (c:=114) hp1 hs (by decide) H1.o).mono ?_;rintro e w2 ⟨rfl,hp2,f2⟩;go_wp2_with fail;refine(WU hp2 hs H2.o).mono ?_;rintro e w3 ⟨rfl,hp3,f3⟩;have f4:=(f1.trans f2).trans f3;have hk:=f4.own hne;have k0:=Qb hk 0;have k1:=Qb hk 1;have kf:=Qg hk;simp at k0 k1;clear hk;go_wp2_with fail;rw[H4.o,H5.o];refine bodyPost_ret (v:=.agg #[.int .i64 (numN s (i+1) (-1)),.int .i64 i]) (by simp[results,results199,go_sem,k0,k1]) rfl ⟨rfl,?_,?_⟩
 ·exact(hp3.setk _ 0 _ hne (by omega)).setk _ 1 _ hne (by omega)
 ·exact((((Fr.refl _ _).alloc _).trans f4).setk _ 0 _ (Qi _)).setk _ 1 _ (Qi _)
theorem Uw{b g:Nat}{s:ByteArray}{i:Nat}{w:World}(hp:RS w b g s i)(hs:s.size≤200000)(hd:0≤regB s i (-1)):
  Calls prog 199 #[.pointer (some ⟨b,0,none⟩)] w fun e w'=>e=.panicked (brk (regB s i (-1)))∧Fr b w w':=by
 rw[Qea]at hd ⊢
 cases h1:onF s i (-1) 114 with
 | true=>
  rw[h1,if_pos rfl]at hd
  cases h2:Zr s (i+1) (-1) with
  | true=>rw[h2,if_pos rfl]at hd;omega
  | false=>
   rw[if_pos rfl,if_neg (by simp)];have H1:=Qc h1;have H2:=Qc h2;clear hd h1 h2;go_enter func199,ntmps199;go_wp2_with fail;refine(WI (hp.alloc _)).mono ?_;rintro e w1 ⟨rfl,hp1,f1⟩;go_wp2_with fail;refine(Jo (c:=114) hp1 hs (by decide) H1.o).mono ?_;rintro e w2 ⟨rfl,hp2,f2⟩;go_wp2_with fail;refine(Rv hp2 H2.o).mono ?_;rintro e w3 ⟨rfl,f3⟩;go_wp2_with fail;exact⟨rfl,rfl,((((Fr.refl _ _).alloc _).trans f1).trans f2).trans f3⟩
 | false=>
  rw[if_neg (by simp)];have H1:=Qc h1;clear hd h1;go_enter func199,ntmps199;go_wp2_with fail;refine(WI (hp.alloc _)).mono ?_;rintro e w1 ⟨rfl,hp1,f1⟩;go_wp2_with fail;refine(KM (c:=114) hp1 (by decide) H1.o).mono ?_;rintro e w2 ⟨rfl,f2⟩;go_wp2_with fail;exact⟨rfl,rfl,(((Fr.refl _ _).alloc _).trans f1).trans f2⟩
theorem RS.drew{w b g s i}(h:RS w b g s i):RS w.drew b g s i:=by obtain⟨ms,k,cap,a,c,h⟩:=h;exact⟨ms,k,cap,a,c,⟨h.B,h.M,h.N⟩⟩
def Je(c:Nat):Nat:=if c=43 then 0 else if c=45 then 1 else if c=42 then 2 else 3
def opX(x:Int):Option Nat:=if x=43 then some 0 else if x=45 then some 1 else if x=42 then some 2 else if x=215 then some 2 else if x=60 then some 3 else none
def Ys(x:Int):Value:=.tuple #[.int .i64 ((opX x).getD 0:Nat),.bool (opX x).isSome]
theorem NL(x:Int)(w:World):Calls prog 265 #[.int .i32 x] w fun e w'=>e=.returned (Ys x)∧w'=w:=by
 by_cases h1:x=43
 ·have H:Hid (Ys x=.tuple #[.int .i64 0,.bool true]):=by simp[Hid,Ys,opX,h1]
  have t:(x==43)=true:=by simp[h1]
  clear h1;go_enter func265,ntmps265
  go_wp2
  go_ret2
  exact⟨by rw[H.o];rfl,rfl⟩
 by_cases h2:x=45
 ·have H:Hid (Ys x=.tuple #[.int .i64 1,.bool true]):=by simp[Hid,Ys,opX,h2]
  have t1:(x==43)=false:=by simp[h1]
  have t2:(x==45)=true:=by simp[h2]
  clear h1 h2;go_enter func265,ntmps265
  go_wp2
  go_ret2
  exact⟨by rw[H.o];rfl,rfl⟩
 by_cases h3:x=42
 ·have H:Hid (Ys x=.tuple #[.int .i64 2,.bool true]):=by simp[Hid,Ys,opX,h3]
  have t1:(x==43)=false:=by simp[h1]
  have t2:(x==45)=false:=by simp[h2]
  have t3:(x==42)=true:=by simp[h3]
  clear h1 h2 h3;go_enter func265,ntmps265
  go_wp2
  go_ret2
  exact⟨by rw[H.o];rfl,rfl⟩
 by_cases h4:x=215
 ·have H:Hid (Ys x=.tuple #[.int .i64 2,.bool true]):=by simp[Hid,Ys,opX,h4]
  have t1:(x==43)=false:=by simp[h1]
  have t2:(x==45)=false:=by simp[h2]
  have t3:(x==42)=false:=by simp[h3]
  have t4:(x==215)=true:=by simp[h4]
  clear h1 h2 h3 h4;go_enter func265,ntmps265
  go_wp2
  go_ret2
  exact⟨by rw[H.o];rfl,rfl⟩
 have t1:(x==43)=false:=by simp[h1]
 have t2:(x==45)=false:=by simp[h2]
 have t3:(x==42)=false:=by simp[h3]
 have t4:(x==215)=false:=by simp[h4]
 by_cases h5:x=60
 ·have H:Hid (Ys x=.tuple #[.int .i64 3,.bool true]):=by simp[Hid,Ys,opX,h5]
  have t5:(x==60)=true:=by simp[h5]
  clear h1 h2 h3 h4 h5;go_enter func265,ntmps265
  go_wp2
  go_ret2
  exact⟨by rw[H.o];rfl,rfl⟩
 ·have H:Hid (Ys x=.tuple #[.int .i64 0,.bool false]):=by simp[Hid,Ys,opX,h1,h2,h3,h4,h5]
  have t5:(x==60)=false:=by simp[h5]
  clear h1 h2 h3 h4 h5;go_enter func265,ntmps265
  go_wp2
  go_ret2
  exact⟨by rw[H.o];rfl,rfl⟩
theorem Qcf{s i}:(i+1<s.size∧byt s i=195∧byt s (i+1)=151)↔onF s i (-1) 195=true∧onF s (i+1) (-1) 151=true:=by
 rw[JZ,JZ];constructor
 ·rintro⟨a,b,c⟩;exact⟨⟨by omega,b⟩,a,c⟩
 ·rintro⟨⟨_,b⟩,a,c⟩;exact⟨a,b,c⟩
theorem ZX{s i c d}(h:onF s i (-1) c=true)(hd:c≠d):onF s i (-1) d=false:=by
 rw[←Bool.not_eq_true,JZ];rintro⟨_,e⟩;exact hd ((JZ.1 h).2.symm.trans e)
theorem JD.op{s i x}(h:JD s i x):opX x=if opC s i (-1)≠0∧opB s i (-1)<0 then some (Je (opC s i (-1))) else none:=by
 have a43:x=43↔onF s i (-1) 43=true:=(h.ascii 43 (by decide)).trans (JZ (c:=43)).symm;have a45:x=45↔onF s i (-1) 45=true:=(h.ascii 45 (by decide)).trans (JZ (c:=45)).symm;have a42:x=42↔onF s i (-1) 42=true:=(h.ascii 42 (by decide)).trans (JZ (c:=42)).symm;have a60:x=60↔onF s i (-1) 60=true:=(h.ascii 60 (by decide)).trans (JZ (c:=60)).symm;have a215:=h.cross.trans Qcf;unfold opX opC opB
 cases h1:onF s i (-1) 43 with
 | true=>rw[if_pos (a43.2 h1)];simp[Je]
 | false=>
  rw[if_neg (fun e=>by rw[a43.1 e]at h1;cases h1)]
  cases h2:onF s i (-1) 45 with
  | true=>rw[if_pos (a45.2 h2)];simp[Je]
  | false=>
   rw[if_neg (fun e=>by rw[a45.1 e]at h2;cases h2)]
   cases h3:onF s i (-1) 42 with
   | true=>rw[if_pos (a42.2 h3)];simp[Je]
   | false=>
    rw[if_neg (fun e=>by rw[a42.1 e]at h3;cases h3)]
    cases h4:onF s i (-1) 60 with
    | true=>
     rw[if_neg (fun e=>by have:=(a215.1 e).1;rw[ZX h4 (by decide)]at this;cases this),if_pos (a60.2 h4)];simp[Je]
    | false=>
     cases h5:onF s i (-1) 195 with
     | true=>
      rw[JA]
      cases h6:onF s (i+1) (-1) 151 with
      | true=>rw[if_pos (a215.2 ⟨h5,h6⟩)];simp[Je]
      | false=>
       rw[if_neg (fun e=>by have:=(a215.1 e).2;rw[h6]at this;cases this),if_neg (fun e=>by rw[a60.1 e]at h4;cases h4)];simp;omega
     | false=>
      rw[if_neg (fun e=>by have:=(a215.1 e).1;rw[h5]at this;cases this),if_neg (fun e=>by rw[a60.1 e]at h4;cases h4)];simp
theorem Qhq{s ms}(hm:Qax s ms){k:Nat}(hk:k<ms.length)(h:(opX ms[k].2).isSome=true):∃h2:k+1<ms.length,ms[k+1].1=opI s ms[k].1 (-1):=by
 have hx:JD s ms[k].1 ms[k].2:=⟨hm.ascii k hk,hm.cross k hk,hm.fin k hk,hm.wide k hk⟩;have asc:∀c:Nat,c<128→ms[k].2=(c:Int)→∃h2:k+1<ms.length,ms[k+1].1=ms[k].1+1:=fun c hc e=>hm.next k hk (by omega) (by omega);unfold opX at h;unfold opI;by_cases h1:ms[k].2=43
 ·rw[if_pos (JZ.2 ((hx.ascii 43 (by decide)).1 h1))];exact asc 43 (by decide) h1
 rw[if_neg (fun e=>h1 ((hx.ascii 43 (by decide)).2 (JZ.1 e)))];by_cases h2:ms[k].2=45
 ·rw[if_pos (JZ.2 ((hx.ascii 45 (by decide)).1 h2))];exact asc 45 (by decide) h2
 rw[if_neg (fun e=>h2 ((hx.ascii 45 (by decide)).2 (JZ.1 e)))];by_cases h3:ms[k].2=42
 ·rw[if_pos (JZ.2 ((hx.ascii 42 (by decide)).1 h3))];exact asc 42 (by decide) h3
 rw[if_neg (fun e=>h3 ((hx.ascii 42 (by decide)).2 (JZ.1 e)))];by_cases h5:ms[k].2=60
 ·rw[if_pos (JZ.2 ((hx.ascii 60 (by decide)).1 h5))];exact asc 60 (by decide) h5
 rw[if_neg (fun e=>h5 ((hx.ascii 60 (by decide)).2 (JZ.1 e)))];by_cases h4:ms[k].2=215
 ·have h6:=Qcf.1 (hx.cross.1 h4);rw[if_pos h6.1,gotI,if_pos h6.2];obtain⟨a,b⟩:=hm.nextCross k hk h4;exact⟨a,by rw[b]⟩
 ·simp[h1,h2,h3,h4,h5]at h
theorem Qeo{b g:Nat}{s:ByteArray}{i:Nat}{w:World}(hp:RS w b g s i)(hs:s.size≤200000)(h1:opC s i (-1)≠0)(h2:opB s i (-1)<0):
  Calls prog 258 #[.pointer (some ⟨b,0,none⟩)] w fun e w'=>e=.returned (.int .i64 (Je (opC s i (-1))))∧RS w' b g s (opI s i (-1))∧Fr b w w':=by
 obtain⟨ms,k,cap,hm,⟨hk,rfl⟩,hr⟩:=hp;have hx:JD s ms[k].1 ms[k].2:=⟨hm.ascii k hk,hm.cross k hk,hm.fin k hk,hm.wide k hk⟩;have ho:=hx.op;rw[if_pos ⟨h1,h2⟩]at ho;obtain⟨hk2,e2⟩:=Qhq hm hk (by rw[ho];rfl);have E2:=Qc e2;have HV:Hid (Ys ms[k].2=.tuple #[.int .i64 (Je (opC s ms[k].1 (-1))),.bool true]):=by show _=_;rw[Ys,ho];rfl
 have hl:=hm.len;have c2:=hr.c2;have z2:=hr.fz 2;clear h1 h2 ho e2 hx;go_enter func258,ntmps258;go_wp2_with fail;refine(Vw b s ms k g cap _ hr hk).mono ?_;rintro e w1 ⟨n,rfl,rfl⟩;go_wp2_with fail;refine(NL _ _).mono ?_;rintro e w1 ⟨rfl,rfl⟩;rw[HV.o];go_wp2_with fail;go_ret;exact⟨rfl,⟨ms,k+1,cap,hm,⟨hk2,E2.o⟩,(hr.drewN n).set (by omega)⟩,((Fr.refl _ _).drewN _).setCell _ _⟩
def Vd(s:ByteArray)(i:Nat):Int:=if onF s i (-1) 195 then ((i+1:Nat):Int) else (i:Int)
theorem U8{b g:Nat}{s:ByteArray}{i:Nat}{w:World}(hp:RS w b g s i)(hs:s.size≤200000):
  Calls prog 266 #[.pointer (some ⟨b,0,none⟩)] w fun e w'=>e=.panicked (brk (Vd s i))∧Fr b w w':=by
 have hle:=hp.le;rw[Vd]
 cases ho:onF s i (-1) 195 with
 | true=>
  rw[if_pos rfl];have h1:=JZ.1 ho;have hlt:=h1.1;have h3:((s[i].toNat:Int)==195)=true:=by have:=h1.2;rw[K8 hlt]at this;simp;omega
  clear ho h1;go_enter func266,ntmps266;go_wp2_with fail;refine(WI hp).mono ?_;rintro e w1 ⟨rfl,hp1,f1⟩;obtain⟨ms,k,cap,hm,hkk,hr⟩:=hp1;have c0:=hr.c0;clear hm hkk;go_wp2_with fail;exact⟨rfl,rfl,f1⟩
 | false=>
  rw[if_neg (by simp)];by_cases hlt:i<s.size
  ·have h3:((s[i].toNat:Int)==195)=false:=by
    have:byt s i≠195:=fun e=>by rw[JZ.2 ⟨hlt,e⟩]at ho;cases ho
    rw[K8 hlt]at this;simp;omega
   clear ho;go_enter func266,ntmps266;go_wp2_with fail;refine(WI hp).mono ?_;rintro e w1 ⟨rfl,hp1,f1⟩;have hp2:=Qc hp1;obtain⟨ms,k,cap,hm,hkk,hr⟩:=hp1;have c0:=hr.c0;clear hm hkk hr;go_wp2_with fail;refine(Vq hp2.out).mono ?_;rintro e w2 ⟨rfl,f2⟩;go_wp2_with fail;exact⟨rfl,rfl,f1.trans f2⟩
  ·clear ho;go_enter func266,ntmps266;go_wp2_with fail;refine(WI hp).mono ?_;rintro e w1 ⟨rfl,hp1,f1⟩;have hp2:=Qc hp1;obtain⟨ms,k,cap,hm,hkk,hr⟩:=hp1;have c0:=hr.c0;clear hm hkk hr;go_wp2_with fail;refine(Vq hp2.out).mono ?_;rintro e w2 ⟨rfl,f2⟩;go_wp2_with fail;exact⟨rfl,rfl,f1.trans f2⟩
theorem Qkt{b g:Nat}{s:ByteArray}{i:Nat}{w:World}(hp:RS w b g s i)(hs:s.size≤200000)(h1:¬(opC s i (-1)≠0∧opB s i (-1)<0)):
  Calls prog 258 #[.pointer (some ⟨b,0,none⟩)] w fun e w'=>e=.panicked (brk (Vd s i))∧Fr b w w':=by
 have H1:=Qc h1;clear h1;go_enter func258,ntmps258;go_wp2_with fail;refine(XI hp).mono ?_;rintro e w1 ⟨x,rfl,hx,hp1,f1⟩;have ho:=hx.op;rw[if_neg H1.o]at ho;have HV:Hid (Ys x=.tuple #[.int .i64 0,.bool false]):=by show _=_;rw[Ys,ho];rfl
 clear hx ho H1;go_wp2_with fail;refine(NL _ _).mono ?_;rintro e w1 ⟨rfl,rfl⟩;rw[HV.o];go_wp2_with fail;refine(U8 hp1 hs).mono ?_;rintro e w2 ⟨rfl,f2⟩;go_wp2_with fail;exact⟨rfl,rfl,f1.trans f2⟩
theorem UI{f:FuncId}{args:Array Value}{w:World}{R:Ending→World→Prop}(h:Calls prog f args w R)(v:Value):Calls prog f args w fun e w'=>R e w'∨(e=.returned v∧Hid False):=
 h.mono fun _ _ h=>.inl h
theorem Fr.cells{b:Nat}{w w':World}(f:Fr b w w'){k:Nat}(hk:k<w.heap.size)(hb:k≠b)(o:Nat):w'.cell? ⟨k,o,none⟩=w.cell? ⟨k,o,none⟩:=f.cell hk hb
theorem Qh2{b g:Nat}{s:ByteArray}{i tn ta ln la:Nat}{w:World}(hp:RS w b g s i)(h59:onF s i (-1) 59=true):
  Calls prog 245 #[.pointer (some ⟨b,0,none⟩),.agg #[.int .i64 tn,.int .i64 ta],.agg #[.int .i64 ln,.int .i64 la]] w
   fun e w'=>e=.returned (.iface 142 (.agg #[.int .i64 tn,.int .i64 ta,.int .i64 ln,.int .i64 la]))∧RS w' b g s i∧Fr b w w':=by
 have hl:=hp.lt;have hgl:=hp.glt;have H59:=Qc h59;clear h59;go_enter func245,ntmps245;go_wp2_with fail;refine(XI ((hp.alloc _).alloc _)).mono ?_;rintro e w1 ⟨x,rfl,hx,hp1,f1⟩;have hx':(x==59)=true:=by have:=hx.on (c:=59) (by decide);rw[H59.o]at this;exact this
 have g0:w1.heap[w.heap.size]?=some (.cells #[.int .i64 tn,.int .i64 ta] 132 (0,0)):=Qn f1 (Qo (heap_alloc_last w _) _) (by omega);have g1:w1.heap[w.heap.size+1]?=some (.cells #[.int .i64 ln,.int .i64 la] 132 (0,0)):=Qn f1 (by simpa using heap_alloc_last (w.alloc _) _) (by omega);have q0:=Qb g0;have q1:=Qb g1;clear hx g0 g1;go_wp2_with fail;go_ret;exact⟨rfl,hp1,(((Fr.refl _ _).alloc _).alloc _).trans f1⟩
theorem QkN{b g:Nat}{s:ByteArray}{i tn ta ln la:Nat}{w:World}(hp:RS w b g s i)(hs:s.size≤200000)(h59:onF s i (-1) 59=false)(h1:¬(opC s i (-1)≠0∧opB s i (-1)<0)):
  Calls prog 245 #[.pointer (some ⟨b,0,none⟩),.agg #[.int .i64 tn,.int .i64 ta],.agg #[.int .i64 ln,.int .i64 la]] w
   fun e w'=>e=.panicked (brk (Vd s i))∧Fr b w w':=by
 have H59:=Qc h59;have H1:=Qc h1;clear h59 h1;go_enter func245,ntmps245;go_wp2_with fail;refine(XI ((hp.alloc _).alloc _)).mono ?_;rintro e w1 ⟨x,rfl,hx,hp1,f1⟩;have hx':(x==59)=false:=by have:=hx.on (c:=59) (by decide);rw[H59.o]at this;exact this
 clear hx;go_wp2_with fail;refine(Qkt hp1 hs H1.o).mono ?_;rintro e w2 ⟨rfl,f2⟩;go_wp2_with fail;exact⟨rfl,rfl,((((Fr.refl _ _).alloc _).alloc _).trans f1).trans f2⟩
theorem QkM{b g:Nat}{s:ByteArray}{i tn ta ln la:Nat}{w:World}(hp:RS w b g s i)(hs:s.size≤200000)(h59:onF s i (-1) 59=false)(h1:opC s i (-1)≠0)(h2:opB s i (-1)<0)(h3:regB s (opI s i (-1)) (-1)<0):
  Calls prog 245 #[.pointer (some ⟨b,0,none⟩),.agg #[.int .i64 tn,.int .i64 ta],.agg #[.int .i64 ln,.int .i64 la]] w
   fun e w'=>e=.returned (.iface 370 (.agg #[.int .i64 tn,.int .i64 ta,.int .i64 ln,.int .i64 la,.int .i64 (Je (opC s i (-1))),.int .i64 (regN s (opI s i (-1)) (-1)),.int .i64 (opI s i (-1))]))∧RS w' b g s (regI s (opI s i (-1)) (-1))∧Fr b w w':=by
 have hl:=hp.lt;have hgl:=hp.glt;have H59:=Qc h59;have H1:=Qc h1;have H2:=Qc h2;have H3:=Qc h3;clear h59 h1 h2 h3;go_enter func245,ntmps245;go_wp2_with fail;refine(XI ((hp.alloc _).alloc _)).mono ?_;rintro e w1 ⟨x,rfl,hx,hp1,f1⟩;have hx':(x==59)=false:=by have:=hx.on (c:=59) (by decide);rw[H59.o]at this;exact this
 clear hx;go_wp2_with fail;refine(Qeo hp1 hs H1.o H2.o).mono ?_;rintro e w2 ⟨rfl,hp2,f2⟩;have f3:=f1.trans f2;have g0:w2.heap[w.heap.size]?=some (.cells #[.int .i64 tn,.int .i64 ta] 132 (0,0)):=Qn f3 (Qo (heap_alloc_last w _) _) (by omega);have g1:w2.heap[w.heap.size+1]?=some (.cells #[.int .i64 ln,.int .i64 la] 132 (0,0)):=Qn f3 (by simpa using heap_alloc_last (w.alloc _) _) (by omega);have a0:=Qb g0 0;have a1:=Qb g0 1;have b0:=Qb g1 0;have b1:=Qb g1 1;simp at a0 a1 b0 b1;have F:=(((Fr.refl b w).alloc _).alloc _).trans f3;have l0:=lt_of_block g0;have l1:=lt_of_block g1;have n0:w.heap.size≠b:=by omega
 have n1:w.heap.size+1≠b:=by omega
 clear f1 f2 f3 g0 g1 hx';go_wp2_with fail
 go_region_held3 (fun w'=>w'.cell? ⟨w.heap.size,0,none⟩=some (.int .i64 tn)∧w'.cell? ⟨w.heap.size,1,none⟩=some (.int .i64 ta)∧w'.cell? ⟨w.heap.size+1,0,none⟩=some (.int .i64 ln)∧w'.cell? ⟨w.heap.size+1,1,none⟩=some (.int .i64 la)) (simp[*])
  (first | (go_at_call 199;refine(Kd (RS.drew hp2) hs H3.o).mono ?_;rintro e w5 ⟨rfl,hp5,f5⟩;have y0:=f5.cells (k:=w.heap.size) l0 n0;have y1:=f5.cells (k:=w.heap.size+1) l1 n1))
 go_wp2_with fail;go_ret;exact⟨rfl,hp5,F.drew.trans f5⟩
theorem QfD{b g:Nat}{s:ByteArray}{i tn ta ln la:Nat}{w:World}(hp:RS w b g s i)(hs:s.size≤200000)(h59:onF s i (-1) 59=false)(h1:opC s i (-1)≠0)(h2:opB s i (-1)<0)(h3:0≤regB s (opI s i (-1)) (-1)):
  Calls prog 245 #[.pointer (some ⟨b,0,none⟩),.agg #[.int .i64 tn,.int .i64 ta],.agg #[.int .i64 ln,.int .i64 la]] w
   fun e w'=>e=.panicked (brk (regB s (opI s i (-1)) (-1)))∧Fr b w w':=by
 have hl:=hp.lt;have hgl:=hp.glt;have H59:=Qc h59;have H1:=Qc h1;have H2:=Qc h2;have H3:=Qc h3;clear h59 h1 h2 h3;go_enter func245,ntmps245;go_wp2_with fail;refine(XI ((hp.alloc _).alloc _)).mono ?_;rintro e w1 ⟨x,rfl,hx,hp1,f1⟩;have hx':(x==59)=false:=by have:=hx.on (c:=59) (by decide);rw[H59.o]at this;exact this
 clear hx;go_wp2_with fail;refine(Qeo hp1 hs H1.o H2.o).mono ?_;rintro e w2 ⟨rfl,hp2,f2⟩;have f3:=f1.trans f2;have g0:w2.heap[w.heap.size]?=some (.cells #[.int .i64 tn,.int .i64 ta] 132 (0,0)):=Qn f3 (Qo (heap_alloc_last w _) _) (by omega);have g1:w2.heap[w.heap.size+1]?=some (.cells #[.int .i64 ln,.int .i64 la] 132 (0,0)):=Qn f3 (by simpa using heap_alloc_last (w.alloc _) _) (by omega);have a0:=Qb g0 0;have a1:=Qb g0 1;have b0:=Qb g1 0;have b1:=Qb g1 1;simp at a0 a1 b0 b1;have F:=(((Fr.refl b w).alloc _).alloc _).trans f3;have l0:=lt_of_block g0;have l1:=lt_of_block g1;have n0:w.heap.size≠b:=by omega
 have n1:w.heap.size+1≠b:=by omega
 clear f1 f2 f3 g0 g1 hx';go_wp2_with fail
 go_region_held (fun w'=>w'.cell? ⟨w.heap.size,0,none⟩=some (.int .i64 tn)∧w'.cell? ⟨w.heap.size,1,none⟩=some (.int .i64 ta)∧w'.cell? ⟨w.heap.size+1,0,none⟩=some (.int .i64 ln)∧w'.cell? ⟨w.heap.size+1,1,none⟩=some (.int .i64 la)) (first | exact(Hid.out ‹Hid False›).elim | simp[*])
  (first | (go_at_call 199;refine(UI (Uw (RS.drew hp2) hs H3.o) (.agg #[.int .i64 0,.int .i64 0])).mono ?_;rintro e w5 (⟨rfl,f5⟩ | ⟨rfl,hF⟩);exact⟨rfl,rfl,F.drew.trans f5⟩))
 all_goals exact(Hid.out ‹Hid False›).elim
end Go.Proofs.YtgfhfkgdmidhpaaGreatDoor
