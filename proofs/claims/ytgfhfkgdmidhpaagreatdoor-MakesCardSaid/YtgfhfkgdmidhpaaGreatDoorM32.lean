import Derived.Test.YtgfhfkgdmidhpaaGreatDoorM31
namespace Go.Proofs.YtgfhfkgdmidhpaaGreatDoor
open Go.RowKit
open Go.Proofs.Tryz
set_option maxRecDepth 100000
set_option maxHeartbeats 8000000
def Xr(bs:List Qm)(X:Nat→List Nat)(i:Nat):List Nat:=ofL (rdB (bkF bs i)++dif (neL bs X i) (gvB (bkF bs i)))
theorem WV{bs X i r}:r∈neL bs X i↔∃k∈suF bs i,∃x∈X k,orgR (bkF bs k).chs x i=r:=by
 rw[neL,QN,List.mem_flatMap];simp only[neS,List.mem_map]
theorem KF{bs X i r}:r∈Xr bs X i↔r∈JW (bkF bs i).sts (bkF bs i).e∨r∈neL bs X i∧r∉J3 (bkF bs i).sts:=by
 rw[Xr,QN,QB,rdB,QN,XX,gvB,QN]
theorem JL(bs X i):(Xr bs X i).Pairwise (· < ·):=Zi _
theorem Qez{bs:List Qm}{X Y:Nat→List Nat}(h:∀i r,r∈X i→r∈Y i){i r:Nat}(hr:r∈neL bs X i):r∈neL bs Y i:=by
 rw[WV]at hr ⊢;obtain⟨k,hk,x,hx,e⟩:=hr;exact⟨k,hk,x,h _ _ hx,e⟩
theorem QaO{bs:List Qm}{X Y:Nat→List Nat}(h:∀i r,r∈X i→r∈Y i){i r:Nat}(hr:r∈Xr bs X i):r∈Xr bs Y i:=by
 rw[KF]at hr ⊢;rcases hr with hr|⟨h1,h2⟩
 ·exact .inl hr
 ·exact .inr ⟨Qez h h1,h2⟩
def ndX(bs:List Qm):Nat→Nat→List Nat
 | 0,_=>[]
 | n+1,i=>Xr bs (ndX bs n) i
theorem Rw(bs:List Qm):∀(n:Nat)(i r:Nat),r∈ndX bs n i→r∈ndX bs (n+1) i
 | 0,_,_,h=>by simp[ndX]at h
 | n+1,_,_,h=>QaO (Rw bs n) h
theorem Qey{bs:List Qm}(hf:∀b∈bs,QU 1000000 b){X:Nat→List Nat}(hX:∀k,SM (X k))(i:Nat):SM (neL bs X i):=SM.of fun x hx=>by
 obtain⟨m,_,hx⟩:=List.mem_flatMap.1 hx;exact QaS hf hX i m x hx
theorem Qjg{bs:List Qm}(hf:∀b∈bs,QU 1000000 b){i r:Nat}(h:r∈JW (bkF bs i).sts (bkF bs i).e):r<10000:=by
 rcases Nat.lt_or_ge i bs.length with hi|hi
 ·rw[Zj hi]at h;have:=hf _ (Qx hi);exact WR this.e this.st h
 ·rw[bkF,ZI hi]at h;simp[JW,Jb,KG]at h
theorem Qeu{bs:List Qm}(hf:∀b∈bs,QU 1000000 b){X:Nat→List Nat}(hX:∀k,SM (X k))(i:Nat):SM (Xr bs X i):=⟨JL _ _ _,fun r hr=>by
 rw[KF]at hr;rcases hr with hr|⟨hr,_⟩
 ·exact Qjg hf hr
 ·exact(Qey hf hX i).2 r hr⟩
theorem Jz{bs:List Qm}(hf:∀b∈bs,QU 1000000 b):∀(n i:Nat),SM (ndX bs n i)
 | 0,_=>SM.nil
 | n+1,i=>Qeu hf (Jz hf n) i
def JS:Nat→(Nat→List Nat)→Nat
 | 0,_=>0
 | n+1,X=>JS n X+(X n).length
theorem Qgs{n:Nat}{X Y:Nat→List Nat}(h:∀i,i<n→(X i).length≤(Y i).length):JS n X≤JS n Y:=by
 induction n with
 | zero=>exact Qi _
 | succ n ih=>
  have h1:=ih fun i hi=>h i (by omega);have h2:=h n (by omega);rw[JS,JS];omega
theorem Qgr{n:Nat}{X Y:Nat→List Nat}(h:∀i,i<n→(X i).length≤(Y i).length){j:Nat}(hj:j<n)(hl:(X j).length<(Y j).length):JS n X<JS n Y:=by
 induction n with
 | zero=>omega
 | succ n ih=>
  have h1:=Qgs (n:=n) (X:=X) (Y:=Y) fun i hi=>h i (by omega);have h2:=h n (by omega);rw[JS,JS];by_cases e:j=n
  ·subst e;omega
  ·have:=ih (fun i hi=>h i (by omega)) (by omega);omega
theorem Np{n m:Nat}{X:Nat→List Nat}(h:∀i,i<n→(X i).length≤m):JS n X≤n*m:=by
 induction n with
 | zero=>simp[JS]
 | succ n ih=>
  have h1:=ih fun i hi=>h i (by omega);have h2:=h n (by omega);rw[JS,Nat.succ_mul];omega
theorem Nu{a b:List Nat}(ha:a.Pairwise (· < ·))(hb:b.Pairwise (· < ·))(hs:∀x∈a,x∈b):a.length≤b.length:=by
 apply Classical.byContradiction;intro hn;have:=Vv rfl ha hb hs (by omega);have e:=Zo ha hb fun x=>⟨hs x,this x⟩;rw[e]at hn;omega
theorem QeA{bs:List Qm}{n m j:Nat}(hj:j<m)(hne:Xr bs (ndX bs n) j≠ndX bs n j)(hf:∀b∈bs,QU 1000000 b):JS m (ndX bs n)<JS m (Xr bs (ndX bs n)):=by
 refine Qgr (fun i _=>Nu (Jz hf n i).1 (JL _ _ _) (Rw bs n i)) hj ?_;apply Classical.byContradiction;intro hn;have:=Vv rfl (Jz hf n j).1 (JL _ _ _) (Rw bs n j) (by omega);exact hne (Zo (JL _ _ _) (Jz hf n j).1 fun x=>⟨this x,Rw bs n j x⟩)
theorem QjE(bs:List Qm)(X:Nat→List Nat)(i base B pb:Nat)(v vf:Value)(w:World)(hP:PBs w base bs v)(hX:ZC B w vf bs.length X)(hgl:Hid (∀b∈bs,∀p∈goalsF b.e,p.1<bs.length))(hf:Hid (∀b∈bs,QU 1000000 b))(hg2:Hid (∀b∈bs,∀c∈b.chs,c.gs.length≤1000))(hXs:Hid (∀k,SM (X k)))(hi:i<bs.length)(hp:w.cell? ⟨pb,0,none⟩=some v):
  Calls prog 73 #[.int .i64 i,vf,.pointer (some ⟨pb,0,none⟩)] w fun x w'=>∃v',x=.returned (.agg #[v'])∧Hid (w'.ownsRow w.heap.size 78 1 v' (neL bs X i).length (Qe (neL bs X i))∧Below w.heap.size w w'):=by
 obtain⟨pv,cv,rfl⟩:=hP.slice;obtain⟨pf,cf,rfl⟩:=hX.slice;have hpw:pb<w.heap.size:=Zh _ _ hp;have f1:=(Below.refl w.heap.size w).alloc (Qi _) (.cells #[.slice none 0 0] 161);have hc:(w.alloc (.cells #[.slice none 0 0] 161)).cell? ⟨pb,0,none⟩=some (.slice pv bs.length cv):=(f1.cell (p:=⟨pb,0,none⟩) hpw).trans hp;have g1:=heap_alloc_last w (.cells #[.slice none 0 0] 161);have hs:(w.alloc (.cells #[.slice none 0 0] 161)).heap.size=w.heap.size+1:=Qt _ _;have H0:=Qc (And.intro (hP.keeps (Qr.below f1)) (And.intro (hX.keeps f1) f1));clear hP hX hp f1;go_enter func73,ntmps73;go_wp2_with fail;generalize w.alloc (.cells #[.slice none 0 0] 161)=W at *;refine(Qhy bs X i base B _ _ W H0.o.1 H0.o.2.1 hgl hf  hg2 hXs hi).mono ?_;rintro e w5 ⟨v5,rfl,H5⟩;obtain⟨p5,c5,rfl⟩:=Qa H5.o.1;have g5:w5.heap[w.heap.size]?=some (.cells #[.slice none 0 0] 161 (0,0)):=by rw[H5.o.2.block _ (by omega)];exact g1
 have e0:=Qb g5 0;have z0:=Qg g5 0;simp at e0;have R5:Hid ((w5.setCell ⟨w.heap.size,0,none⟩ (.slice p5 (neL bs X i).length c5)).heap[w.heap.size]?=some (.cells #[.slice p5 (neL bs X i).length c5] 161 (0,0))∧(w5.setCell ⟨w.heap.size,0,none⟩ (.slice p5 (neL bs X i).length c5)).ownsRow w.heap.size 78 1 (.slice p5 (neL bs X i).length c5) (neL bs X i).length (Qe (neL bs X i))∧Below w.heap.size w (w5.setCell ⟨w.heap.size,0,none⟩ (.slice p5 (neL bs X i).length c5))):=
  ⟨Qq g5 _ _,QL (Qj H5.o.1 (by omega)) g5 (by decide),Qp (H0.o.2.2.trans (H5.o.2.mono (by omega))) _ _ _ (Qi _)⟩
 clear H0 H5 g5 g1 hc;go_wp2_with fail;have k0:=Qb R5.o.1 0;simp at k0;refine bodyPost_ret (v:=.agg #[.slice p5 (neL bs X i).length c5]) (by simp[results,results73,go_sem,k0]) rfl ⟨_,rfl,R5.o.2.1,R5.o.2.2⟩
theorem QiZ(bs:List Qm)(X:Nat→List Nat)(base B Be pb qb lb pb2:Nat)(v ve vf:Value)(w:World)(hP:PBs w base bs v)(hE:J9 Be w ve bs bs.length)(hX:ZC B w vf bs.length X)(hp:w.cell? ⟨pb,0,none⟩=some v)(hp2:w.cell? ⟨pb2,0,none⟩=some v)(hq:w.cell? ⟨qb,0,none⟩=some ve)(hlt0:w.cell? ⟨lb,0,none⟩=some (.func (.func 73) #[] #[.pointer (some ⟨pb2,0,none⟩)]))
  (hgl:Hid (∀b∈bs,∀p∈goalsF b.e,p.1<bs.length))(hf:Hid (∀b∈bs,QU 1000000 b))(hg2:Hid (∀b∈bs,∀c∈b.chs,c.gs.length≤1000))(hXs:Hid (∀k,SM (X k)))(hn0:0<bs.length)(hn:bs.length≤1000):
  Calls prog 124 #[vf,.pointer (some ⟨pb,0,none⟩),.pointer (some ⟨qb,0,none⟩),.pointer (some ⟨lb,0,none⟩)] w fun x w'=>∃v',x=.returned v'∧Hid (ZC w.heap.size w' v' bs.length (Xr bs X)∧Below w.heap.size w w'):=by
 obtain⟨pv,cv,rfl⟩:=hP.slice;obtain⟨pe,ce,rfl⟩:=hE.slice;obtain⟨pf,cf,rfl⟩:=hX.slice;have hqw:qb<w.heap.size:=Zh _ _ hq;have hlw:lb<w.heap.size:=Zh _ _ hlt0;have hp2w:pb2<w.heap.size:=Zh _ _ hp2;have H0:=Qc (And.intro hP (And.intro hE (And.intro hX (And.intro hp2 (And.intro hq hlt0)))));obtain⟨I9,Hi9,Hz9,Hs9,Hb9⟩:=info_parts RI;have HI:=Qc (And.intro Hi9 (And.intro Hz9 (And.intro Hs9 Hb9)));clear hP hE hX hp2 hq hlt0 Hi9 Hz9 Hs9 Hb9;go_enter func124,ntmps124;go_wp2_with (at_make;refine QA ?_);refine Qc ?_;refine wpList_make_full _ rfl _ _ 158 rfl w.heap.size 161 I9 (.agg #[.slice none 0 0]) 1 underlying158 HI.o.1 HI.o.2.1 HI.o.2.2.1 .i64 .i64 _ _ bs.length rfl rfl rfl rfl (by rw[HI.o.2.2.2];omega) (by unfold maxLen;omega) (Qi _) ?_;intro w3 o3 gr3;have f3:Below w.heap.size w w3:=Below.grown (Below.refl _ _) gr3 (Qi _) (fun k hk=>by cases hk);have S3:ZC w.heap.size w3 (.slice (some ⟨w.heap.size,0,none⟩) bs.length bs.length) bs.length (fun k=>if k<0 then Xr bs X k else []):=by
  refine⟨_,o3,fun k u hu=>?_⟩;rw[J2]at hu;obtain⟨_,rfl⟩:=Kl hu;exact Q3 _ _ _ _
 have B0:=Qc (And.intro S3 f3);have y1:=(f3.cell (p:=⟨qb,0,none⟩) hqw).trans H0.o.2.2.2.2.1;clear o3 gr3 f3 S3 HI;go_wp2_with fail;clear y1
 go_loopw [14] (fun j wr=>∃m:Nat,m≤bs.length∧j=.int .i64 m∧Hid (ZC w.heap.size wr (.slice (some ⟨w.heap.size,0,none⟩) bs.length bs.length) bs.length (fun k=>if k<m then Xr bs X k else [])∧Below w.heap.size w wr)) (fun j _=>bs.length-(intOf j).toNat)
 case atStart=>exact⟨0,by omega,rfl,B0⟩
 case round=>
  clear B0;obtain⟨m,hm,rfl,HR⟩:=hrel;have hz:=HR.o.2.size;by_cases hlt:m<bs.length
  ·obtain⟨ge,u1,u2,rfl,_,hge,ce1,ce2,oe1,oe2⟩:=(H0.o.2.1.keeps HR.o.2).at hlt hlt;obtain⟨q1,d1,rfl⟩:=Qa oe1;obtain⟨q2,d2,rfl⟩:=Qa oe2;obtain⟨gN,_,eN,_,hgN,_,_,_⟩:=HR.o.1.at hlt;cases eN;have OE:=Qc (And.intro oe1 oe2);clear oe1 oe2;go_wp2_with fail;obtain⟨W,hW⟩:∃W,W=wr.alloc (.cells #[.slice q1 (rdB (bkF bs m)).length d1,.slice q2 (gvB (bkF bs m)).length d2] 234):=⟨_,rfl⟩;rw[←hW];have gW:W.heap[wr.heap.size]?=some (.cells #[.slice q1 (rdB (bkF bs m)).length d1,.slice q2 (gvB (bkF bs m)).length d2] 234 (0,0)):=by rw[hW];exact heap_alloc_last _ _
   have fW:Below wr.heap.size wr W:=by rw[hW];exact(Below.refl _ _).alloc (Qi _) _
   have sW:W.heap.size=wr.heap.size+1:=by rw[hW,Qt]
   have F:=HR.o.2.trans (fW.mono hz);have k1:=Qb gW 0;have k2:=Qb gW 1;simp at k1 k2;have kl:=(F.cell (p:=⟨lb,0,none⟩) hlw).trans H0.o.2.2.2.2.2;have HL:Hid (Calls prog 73 #[.int .i64 m,.slice pf bs.length cf,.pointer (some ⟨pb2,0,none⟩)] W.drew fun x w'=>∃v',x=.returned (.agg #[v'])∧Hid (w'.ownsRow W.drew.heap.size 78 1 v' (neL bs X m).length (Qe (neL bs X m))∧Below W.drew.heap.size W.drew w')):=
    QjE bs X m base B pb2 _ _ W.drew (H0.o.1.keeps (w':=W.drew) (Qr.below (w':=W) F)) (H0.o.2.2.1.keeps (w':=W.drew) ⟨F.os,F.tape,F.output,F.size,F.block⟩) hgl hf  hg2 hXs hlt ((F.cell (p:=⟨pb2,0,none⟩) hp2w).trans H0.o.2.2.2.1)
   have OW:Hid (W.ownsRow Be 78 1 (.slice q1 (rdB (bkF bs m)).length d1) (rdB (bkF bs m)).length (Qe (rdB (bkF bs m)))∧W.ownsRow Be 78 1 (.slice q2 (gvB (bkF bs m)).length d2) (gvB (bkF bs m)).length (Qe (gvB (bkF bs m)))):=⟨Qd OE.o.1 (Qh fW) trivial,Qd OE.o.2 (Qh fW) trivial⟩;have SW:=Qc (HR.o.1.keeps fW);have FW:=Qc F;have l1:wr.heap.size<W.heap.size:=by omega
   have hfm:=Qf6 hf.out m;have L1:(rdB (bkF bs m)).length≤10000:=(SM.of fun _ hx=>WR hfm.e hfm.st hx).len;have L2:(gvB (bkF bs m)).length≤10000:=by have:=(RK hfm (bkF bs m).sts.length).len;rwa [Qab]at this
   have HG2:Hid ((gvB (bkF bs m)).Pairwise (· < ·)):=Zi _;have hAS:SM (neL bs X m):=Qey hf.out hXs.out m;have L3:=hAS.len;have L4:=(QjX hAS (gvB (bkF bs m))).len;clear hW gW fW F HR OE ce1 ce2 hfm hAS
   go_region_law (first | (refine Z1 rfl 73 #[.int .i64 m,.slice pf bs.length cf,.pointer (some ⟨pb2,0,none⟩)] (by go_simp) HL.o ?_;rintro e w6 ⟨v6,rfl,H6⟩;obtain⟨p6,c6,rfl⟩:=Qa H6.o.1;have f6:Below W.heap.size W w6:=⟨H6.o.2.os,H6.o.2.tape,H6.o.2.output,H6.o.2.size,H6.o.2.block⟩;have s6:=f6.size;have y1:=f6.cell (p:=⟨wr.heap.size,0,none⟩) l1;have y2:=f6.cell (p:=⟨wr.heap.size,1,none⟩) l1;have O6:=Qc (And.intro H6.o.1 f6);clear H6 f6) | (refine Z1 rfl 126 #[.agg #[.slice p6 (neL bs X m).length c6],.agg #[.slice q2 (gvB (bkF bs m)).length d2]] (by go_simp) (QjA (neL bs X m) (gvB (bkF bs m)) W.heap.size Be _ _ w6 O6.o.1 (Qd OW.o.2 (Qh O6.o.2) trivial) HG2 (by omega) (by omega)) ?_;rintro e w7 ⟨v7,rfl,o7,f7⟩;obtain⟨p7,c7,rfl⟩:=Qa o7;have s7:=f7.size;have z1:=f7.cell (p:=⟨wr.heap.size,0,none⟩) (show wr.heap.size<w6.heap.size by omega);have O7:=Qc (And.intro o7 (O6.o.2.trans (f7.mono s6)));clear o7 f7) | (refine Z1 rfl 125 #[.agg #[.slice q1 (rdB (bkF bs m)).length d1],.agg #[.slice p7 (dif (neL bs X m) (gvB (bkF bs m))).length c7]] (by go_simp) (QiR (rdB (bkF bs m)) (dif (neL bs X m) (gvB (bkF bs m))) Be w6.heap.size _ _ w7 (Qd OW.o.1 (Qh O7.o.2) trivial) O7.o.1 (by omega) (by omega)) ?_;rintro e w8 ⟨v8,rfl,o8,f8⟩;obtain⟨p8,c8,rfl⟩:=Qa o8;have s8:=f8.size;have O8:=Qc (And.intro o8 (O7.o.2.trans (f8.mono (by omega))));have S8:=Qc (SW.o.keeps O8.o.2);obtain⟨gN8,uN8,eN8,_,_,cN8,cN8f,_⟩:=S8.o.at hlt;cases eN8;clear o8 f8) | fail)
   all_goals
    have HR2:Hid (ZC w.heap.size (w8.setCell ⟨w.heap.size,m,none⟩ (.slice p8 (ofL (rdB (bkF bs m)++dif (neL bs X m) (gvB (bkF bs m)))).length c8)) (.slice (some ⟨w.heap.size,0,none⟩) bs.length bs.length) bs.length (fun k=>if k<m+1 then Xr bs X k else [])∧Below w.heap.size w (w8.setCell ⟨w.heap.size,m,none⟩ (.slice p8 (ofL (rdB (bkF bs m)++dif (neL bs X m) (gvB (bkF bs m)))).length c8))):=by
     have S:=ZC.store S8.o (k:=m) (Qj O8.o.1 (show w.heap.size≤w7.heap.size by omega));refine⟨S.congr fun k hk=>?_,Qp (FW.o.trans (O8.o.2.mono (by omega))) _ _ _ (Qi _)⟩;by_cases hkm:k=m
     ·rw[if_pos (by omega),if_pos hkm,hkm];rfl
     ·rw[if_neg hkm];by_cases h2:k<m
      ·rw[if_pos (by omega),if_pos h2]
      ·rw[if_neg (by omega),if_neg h2]
    clear O6 O7 O8 S8 SW HL OW;go_wp2_with fail;go_roundw
    case rel=>exact⟨m+1,by omega,by go_num,HR2⟩
    case measure=>simp[intOf];omega
  ·have hme:m=bs.length:=by omega
   have HR3:Hid (ZC w.heap.size wr (.slice (some ⟨w.heap.size,0,none⟩) bs.length bs.length) bs.length (Xr bs X)∧Below w.heap.size w wr):=⟨HR.o.1.congr fun k hk=>by rw[if_pos (by omega)],HR.o.2⟩;go_wp2_with fail;go_ret;exact⟨_,rfl,HR3⟩
def Y8(bs:List Qm)(n:Nat):Prop:=∀i,i<bs.length→Xr bs (ndX bs n) i=ndX bs n i
theorem NM{bs:List Qm}(hs:∀i k,k∈suF bs i→k<bs.length){X Y:Nat→List Nat}(h:∀i,i<bs.length→X i=Y i)(i:Nat):Xr bs X i=Xr bs Y i:=by
 refine Zo (JL _ _ _) (JL _ _ _) fun r=>?_;rw[KF,KF,WV,WV];have:(∃k∈suF bs i,∃x∈X k,orgR (bkF bs k).chs x i=r)↔∃k∈suF bs i,∃x∈Y k,orgR (bkF bs k).chs x i=r:=by
  constructor
  ·rintro⟨k,hk,x,hx,e⟩;exact⟨k,hk,x,by rw[←h k (hs i k hk)];exact hx,e⟩
  ·rintro⟨k,hk,x,hx,e⟩;exact⟨k,hk,x,by rw[h k (hs i k hk)];exact hx,e⟩
 rw[this]
theorem UJ{bs:List Qm}(hs:∀i k,k∈suF bs i→k<bs.length){n:Nat}(h:Y8 bs n):∀(k i:Nat),i<bs.length→ndX bs (n+k) i=ndX bs n i
 | 0,_,_=>rfl
 | k+1,i,hi=>by
  show Xr bs (ndX bs (n+k)) i=_;rw[NM hs (UJ hs h k) i];exact h i hi
open Classical in
noncomputable def ndN(bs:List Qm):Nat:=if h:∃n,Y8 bs n then h.choose else 0
noncomputable def ndL(bs:List Qm):Nat→List Nat:=ndX bs (ndN bs)
theorem QbO{bs:List Qm}{n:Nat}(h:Y8 bs n):Y8 bs (ndN bs):=by
 have e:∃n,Y8 bs n:=⟨n,h⟩;unfold ndN;rw[dif_pos e];exact e.choose_spec
theorem Qjv{bs:List Qm}(hs:∀i k,k∈suF bs i→k<bs.length){n:Nat}(h:Y8 bs n){i:Nat}(hi:i<bs.length):ndL bs i=ndX bs n i:=by
 have h2:=QbO h;unfold ndL;rcases Nat.le_total n (ndN bs) with hl|hl
 ·obtain⟨k,e⟩:=Nat.exists_eq_add_of_le hl;rw[e];exact UJ hs h k i hi
 ·obtain⟨k,e⟩:=Nat.exists_eq_add_of_le hl;have:=UJ hs h2 k i hi;rw[←e]at this;exact this.symm
theorem QeC{bs:List Qm}(hf:∀b∈bs,QU 1000000 b):∃n,Y8 bs n:=by
 have key:∀k,(∃n,Y8 bs n)∨k≤JS bs.length (ndX bs k):=by
  intro k
  induction k with
  | zero=>exact .inr (Nat.zero_le _)
  | succ k ih=>
   rcases ih with ih|ih
   ·exact .inl ih
   ·by_cases h:Y8 bs k
    ·exact .inl ⟨k,h⟩
    ·refine .inr ?_;have h:∃i,¬(i<bs.length→Xr bs (ndX bs k) i=ndX bs k i):=Classical.not_forall.1 h;obtain⟨i,hi⟩:=h;obtain⟨h1,h2⟩:=Classical.not_imp.1 hi;have:=QeA h1 h2 hf;have:JS bs.length (ndX bs k)<JS bs.length (ndX bs (k+1)):=this;omega
 rcases key (bs.length*10000+1) with h|h
 ·exact h
 ·have:=Np (n:=bs.length) (m:=10000) (X:=ndX bs (bs.length*10000+1)) fun i _=>(Jz hf _ i).len;omega
theorem Qhz{bs:List Qm}(hf:∀b∈bs,QU 1000000 b){i:Nat}(hi:i<bs.length):Xr bs (ndL bs) i=ndL bs i:=by
 obtain⟨n,h⟩:=QeC hf;exact QbO h i hi
theorem QgI(bs:List Qm)(base B Be pb qb lb pb2:Nat)(v ve v0:Value)(w:World)(hP:PBs w base bs v)(hE:J9 Be w ve bs bs.length)(hX:ZC B w v0 bs.length (ndX bs 0))(hp:w.cell? ⟨pb,0,none⟩=some v)(hp2:w.cell? ⟨pb2,0,none⟩=some v)(hq:w.cell? ⟨qb,0,none⟩=some ve)(hlt0:w.cell? ⟨lb,0,none⟩=some (.func (.func 73) #[] #[.pointer (some ⟨pb2,0,none⟩)]))
  (hgl:Hid (∀b∈bs,∀p∈goalsF b.e,p.1<bs.length))(hf:Hid (∀b∈bs,QU 1000000 b))(hg2:Hid (∀b∈bs,∀c∈b.chs,c.gs.length≤1000))(hn0:0<bs.length)(hn:bs.length≤1000):
  Calls prog 123 #[v0,.func (.func 124) #[] #[.pointer (some ⟨pb,0,none⟩),.pointer (some ⟨qb,0,none⟩),.pointer (some ⟨lb,0,none⟩)]] w fun x w'=>∃v',x=.returned v'∧Hid (ZC w.heap.size w' v' bs.length (ndL bs)∧Below w.heap.size w w'):=by
 obtain⟨pf,cf,rfl⟩:=hX.slice;have hqw:qb<w.heap.size:=Zh _ _ hq;have hlw:lb<w.heap.size:=Zh _ _ hlt0;have hpw:pb<w.heap.size:=Zh _ _ hp;have hp2w:pb2<w.heap.size:=Zh _ _ hp2;have H0:=Qc (And.intro hP (And.intro hE (And.intro hp (And.intro hp2 (And.intro hq hlt0)))));have HX:=Qc (hX.base (Nat.zero_le _));have hmt:∀(x:Value)(w:World),(method 500 158 x "Same").run prog w=.ok (290,x) w:=fun x w=>by kernel_rfl
 clear hP hE hX hp hp2 hq hlt0;go_enter func123,ntmps123;go_wp2_with fail
 go_loopg [0] (bs.length*10000-JS bs.length (ndX bs 0)) (fun g s wr=>∃(n:Nat)(p:Option Addr)(c:Nat),s=.slice p bs.length c∧g=bs.length*10000-JS bs.length (ndX bs n)∧Hid (True∧ZC 0 wr (.slice p bs.length c) bs.length (ndX bs n)∧Below w.heap.size w wr))
 case atStart=>exact⟨0,pf,cf,rfl,rfl,trivial,HX.o,Below.refl _ _⟩
 case round=>
  obtain⟨n,p,c,rfl,rfl,HR⟩:=hrel;have HS:Hid (∀k,SM (ndX bs n k)):=fun k=>Jz hf.out n k;have HS2:Hid (∀k,SM (Xr bs (ndX bs n) k)):=fun k=>Jz hf.out (n+1) k;have hz:=HR.o.2.2.size;go_wp2_with fail;refine(QiZ bs (ndX bs n) base 0 Be pb qb lb pb2 v ve _ wr (H0.o.1.keeps (Qr.below HR.o.2.2)) (H0.o.2.1.keeps HR.o.2.2) HR.o.2.1 ((HR.o.2.2.cell (p:=⟨pb,0,none⟩) hpw).trans H0.o.2.2.1) ((HR.o.2.2.cell (p:=⟨pb2,0,none⟩) hp2w).trans H0.o.2.2.2.1) ((HR.o.2.2.cell (p:=⟨qb,0,none⟩) hqw).trans H0.o.2.2.2.2.1) ((HR.o.2.2.cell (p:=⟨lb,0,none⟩) hlw).trans H0.o.2.2.2.2.2) hgl hf  hg2 HS hn0 hn).mono ?_;rintro e w5 ⟨v5,rfl,H5⟩;obtain⟨p5,c5,rfl⟩:=H5.o.1.slice;have s5:=H5.o.2.size;go_wp2_with fail;refine(Qkp bs.length (Xr bs (ndX bs n)) (ndX bs n) wr.heap.size 0 _ _ w5 H5.o.1 (HR.o.2.1.keeps H5.o.2) HS2 HS hn).mono ?_;rintro e w6 ⟨bb,rfl,HBB,f6⟩;have F6:=Qc f6;clear f6
  cases bb with
  | true=>
   have HM:Hid (∀k,k<bs.length→ndL bs k=Xr bs (ndX bs n) k):=fun k hk=>by
    have he:Y8 bs n:=HBB.o.1 rfl;rw[he k hk];exact Qjv (XB hgl.out) he hk
   go_wp2_with fail;go_ret;exact⟨_,rfl,(ZC.base (H5.o.1.keeps F6.o) hz).congr HM.o,HR.o.2.2.trans ((H5.o.2.trans (F6.o.mono s5)).mono hz)⟩
  | false=>
   have HR2:Hid (True∧ZC 0 w6 (.slice p5 bs.length c5) bs.length (ndX bs (n+1))∧Below w.heap.size w w6):=⟨trivial,ZC.base (H5.o.1.keeps F6.o) (Nat.zero_le _),HR.o.2.2.trans ((H5.o.2.trans (F6.o.mono s5)).mono hz)⟩;have HLT:JS bs.length (ndX bs n)<JS bs.length (ndX bs (n+1)):=by
    obtain⟨k,hk,hne⟩:=HBB.o.2 rfl;exact QeA hk hne hf.out
   have HLM:JS bs.length (ndX bs (n+1))≤bs.length*10000:=Np fun i _=>(Jz hf.out (n+1) i).len;clear HBB H5 F6 HR;go_wp2_with fail
   go_roundg (bs.length*10000-JS bs.length (ndX bs (n+1)))
   case measure=>omega
   case rel=>exact⟨n+1,p5,c5,rfl,rfl,HR2⟩
theorem QdX(bs:List Qm)(base pb2:Nat)(v:Value)(w:World)(hP:PBs w base bs v)(hp2:w.cell? ⟨pb2,0,none⟩=some v)
  (hgl:Hid (∀b∈bs,∀p∈goalsF b.e,p.1<bs.length))(hf:Hid (∀b∈bs,QU 1000000 b))(hg2:Hid (∀b∈bs,∀c∈b.chs,c.gs.length≤1000))(hn0:0<bs.length)(hn:bs.length≤1000):
  Calls prog 72 #[v,.func (.func 73) #[] #[.pointer (some ⟨pb2,0,none⟩)]] w fun x w'=>∃v',x=.returned v'∧Hid (ZC w.heap.size w' v' bs.length (ndL bs)∧Below w.heap.size w w'):=by
 obtain⟨pv,cv,rfl⟩:=hP.slice;have hp2w:pb2<w.heap.size:=Zh _ _ hp2;have H0:=Qc (And.intro hP hp2);obtain⟨I9,Hi9,Hz9,Hs9,Hb9⟩:=info_parts QhN;have HI:=Qc (And.intro Hi9 (And.intro Hz9 (And.intro Hs9 Hb9)));clear hP hp2 Hi9 Hz9 Hs9 Hb9;go_enter func72,ntmps72;go_wp2_with (at_make;refine QA ?_);refine Qc ?_;obtain⟨W,hW⟩:∃W,W=(w.alloc (.cells #[.slice pv bs.length cv] 38)).alloc (.cells #[.func (.func 73) #[] #[.pointer (some ⟨pb2,0,none⟩)]] 163):=⟨_,rfl⟩;rw[←hW];obtain⟨g0,g1,hz,f2⟩:=two w (.cells #[.slice pv bs.length cv] 38) (.cells #[.func (.func 73) #[] #[.pointer (some ⟨pb2,0,none⟩)]] 163);rw[←hW]at g0 g1 hz f2;refine wpList_make_full _ rfl _ _ 232 rfl w.heap.size 234 I9 (.agg #[.slice none 0 0,.slice none 0 0]) 2 underlying232 HI.o.1 HI.o.2.1 HI.o.2.2.1 .i64 .i64 _ _ bs.length rfl rfl rfl rfl (by rw[HI.o.2.2.2];omega) (by unfold maxLen;omega) (by omega) ?_;intro w3 o3 gr3;have f3:Below W.heap.size W w3:=Below.grown (Below.refl _ _) gr3 (Qi _) (fun k hk=>by cases hk);have s3:=f3.size;rw[QeS]at o3;rw[hz]at o3 ⊢;have hmd:J9 w.heap.size w3 (.slice (some ⟨w.heap.size+2,0,none⟩) bs.length bs.length) bs 0:=⟨_,o3,by simp,fun k p _ hk=>absurd hk (by omega)⟩;obtain⟨gE,hgE,_,hgl3⟩:=Qk o3 hn0;cases hgE;have B0:Hid (w3.heap[w.heap.size]?=some (.cells #[.slice pv bs.length cv] 38 (0,0))∧w3.heap[w.heap.size+1]?=some (.cells #[.func (.func 73) #[] #[.pointer (some ⟨pb2,0,none⟩)]] 163 (0,0))∧J9 w.heap.size w3 (.slice (some ⟨w.heap.size+2,0,none⟩) bs.length bs.length) bs 0∧Below w.heap.size w w3):=⟨by rw[f3.block _ (by omega)];exact g0,by rw[f3.block _ (by omega)];exact g1,hmd,f2.trans (f3.mono (by omega))⟩;have y0:∀o,(w3.alloc o).cell? ⟨w.heap.size,0,none⟩=some (.slice pv bs.length cv):=fun o=>by have:=Qb (Qo B0.o.1 o) 0;simpa using this
 clear hW g0 g1 f2 f3 o3 gr3 hmd HI;go_wp2_with fail;have B1:Hid ((w3.alloc (.cells #[.slice (some ⟨w.heap.size+2,0,none⟩) bs.length bs.length] 232)).heap[w.heap.size]?=some (.cells #[.slice pv bs.length cv] 38 (0,0))∧(w3.alloc (.cells #[.slice (some ⟨w.heap.size+2,0,none⟩) bs.length bs.length] 232)).heap[w.heap.size+1]?=some (.cells #[.func (.func 73) #[] #[.pointer (some ⟨pb2,0,none⟩)]] 163 (0,0))∧(w3.alloc (.cells #[.slice (some ⟨w.heap.size+2,0,none⟩) bs.length bs.length] 232)).heap[w3.heap.size]?=some (.cells #[.slice (some ⟨w.heap.size+2,0,none⟩) bs.length bs.length] 232 (0,0))∧J9 w.heap.size (w3.alloc (.cells #[.slice (some ⟨w.heap.size+2,0,none⟩) bs.length bs.length] 232)) (.slice (some ⟨w.heap.size+2,0,none⟩) bs.length bs.length) bs 0∧Below w.heap.size w (w3.alloc (.cells #[.slice (some ⟨w.heap.size+2,0,none⟩) bs.length bs.length] 232))):=by
  obtain⟨a1,a2,a3,a4⟩:=B0.o;exact⟨Qo a1 _,Qo a2 _,heap_alloc_last _ _,a3.keeps ((Below.refl _ _).alloc (Qi _) _),a4.alloc (by omega) _⟩
 clear B0 y0
 go_loopw [13] (fun j wr=>∃m:Nat,m≤bs.length∧j=.int .i64 m∧Hid (wr.heap[w.heap.size]?=some (.cells #[.slice pv bs.length cv] 38 (0,0))∧wr.heap[w.heap.size+1]?=some (.cells #[.func (.func 73) #[] #[.pointer (some ⟨pb2,0,none⟩)]] 163 (0,0))∧wr.heap[w3.heap.size]?=some (.cells #[.slice (some ⟨w.heap.size+2,0,none⟩) bs.length bs.length] 232 (0,0))∧J9 w.heap.size wr (.slice (some ⟨w.heap.size+2,0,none⟩) bs.length bs.length) bs m∧Below w.heap.size w wr)) (fun j _=>bs.length-(intOf j).toNat)
 case atStart=>exact⟨0,by omega,rfl,B1⟩
 case round=>
  clear B1;obtain⟨m,hm,rfl,HR⟩:=hrel;have hz2:=HR.o.2.2.2.2.size;have hzl:=lt_of_block HR.o.2.2.1;by_cases hlt:m<bs.length
  ·obtain⟨gv,qc,cc,ps,cs1,rfl,_,hgv,hop,_,OS,d0,d1,d2,d3⟩:=(H0.o.1.keeps (Qr.below HR.o.2.2.2.2)).at hlt;obtain⟨T,x,hT⟩:=QQ bs[m].e;rw[hT]at d3;have HT:=Qc hT;have HOP:=Qc hop;have HFM:=Qc (hf.out _ (Qx hlt));have hsl:=HFM.o.sl;have HBK:=Qc (Zj hlt);have HOS:=Qc OS;clear hT hop OS;go_wp2_with fail;obtain⟨W5,hW5⟩:∃W5,W5=wr.alloc (.cells #[.int .i64 bs[m].at_,.slice qc bs[m].chs.length cc,.slice ps bs[m].sts.length cs1,.iface T x] 104):=⟨_,rfl⟩;rw[←hW5];have g5:W5.heap[wr.heap.size]?=some (.cells #[.int .i64 bs[m].at_,.slice qc bs[m].chs.length cc,.slice ps bs[m].sts.length cs1,.iface T x] 104 (0,0)):=by rw[hW5];exact heap_alloc_last _ _
   have f5:Below wr.heap.size wr W5:=by rw[hW5];exact(Below.refl _ _).alloc (Qi _) _
   have s5:W5.heap.size=wr.heap.size+1:=by rw[hW5,Qt]
   have k0:=Qb g5 0;have k1:=Qb g5 1;have k2:=Qb g5 2;have k3:=Qb g5 3;simp at k0 k1 k2 k3;have ke:=(f5.cell (p:=⟨w3.heap.size,0,none⟩) (show w3.heap.size<_ by omega)).trans (Qb HR.o.2.2.1 0);simp at ke;have HC:Hid (Calls prog 122 #[.agg #[.int .i64 bs[m].at_,.slice qc bs[m].chs.length cc,.slice ps bs[m].sts.length cs1,.iface T x]] W5.drew fun x w'=>∃vr vg,x=.returned (.agg #[vr,vg])∧Hid (w'.ownsRow W5.drew.heap.size 78 1 vr (rdB bs[m]).length (Qe (rdB bs[m]))∧w'.ownsRow W5.drew.heap.size 78 1 vg (gvB bs[m]).length (Qe (gvB bs[m]))∧Below W5.drew.heap.size W5.drew w')):=by
    rw[←HT.o];exact Qly bs[m] 1000000 HFM HOP bs[m].at_ base qc _ cc ps cs1 W5.drew (show W5.ownsRow base 150 1 _ _ _ from Qd HOS.o (Qh f5) trivial) hsl
   have R5:Hid (W5.heap[w.heap.size]?=some (.cells #[.slice (some ⟨gv,0,none⟩) bs.length cv] 38 (0,0))∧W5.heap[w.heap.size+1]?=some (.cells #[.func (.func 73) #[] #[.pointer (some ⟨pb2,0,none⟩)]] 163 (0,0))∧W5.heap[w3.heap.size]?=some (.cells #[.slice (some ⟨w.heap.size+2,0,none⟩) bs.length bs.length] 232 (0,0))∧J9 w.heap.size W5 (.slice (some ⟨w.heap.size+2,0,none⟩) bs.length bs.length) bs m∧Below w.heap.size w W5):=by
    obtain⟨a1,a2,a3,a4,a5⟩:=HR.o;exact⟨by rw[f5.block _ (lt_of_block a1)];exact a1,by rw[f5.block _ (lt_of_block a2)];exact a2,by rw[f5.block _ (lt_of_block a3)];exact a3,a4.keeps f5,a5.trans (f5.mono hz2)⟩
   clear hW5 g5 f5 HR d0 d1 d2 d3
   go_region_law (first | (refine Z1 rfl 122 #[.agg #[.int .i64 bs[m].at_,.slice qc bs[m].chs.length cc,.slice ps bs[m].sts.length cs1,.iface T x]] (by go_simp) HC.o ?_;rintro e w6 ⟨vr6,vg6,rfl,H6⟩;obtain⟨p6,c6,rfl⟩:=Qa H6.o.1;obtain⟨p7,c7,rfl⟩:=Qa H6.o.2.1;have f6:Below W5.heap.size W5 w6:=⟨H6.o.2.2.os,H6.o.2.2.tape,H6.o.2.2.output,H6.o.2.2.size,H6.o.2.2.block⟩;have s6:=f6.size;have ye:=f6.cell (p:=⟨w3.heap.size,0,none⟩) (show w3.heap.size<_ by omega);obtain⟨x0,x1,z0,z1,z0f,z1f⟩:=(R5.o.2.2.2.1.keeps f6).cells hlt;have O6:=Qc (And.intro H6.o.1 (And.intro H6.o.2.1 f6));clear H6 f6) | fail)
   all_goals
    have HR6:Hid (((w6.setCell ⟨w.heap.size+2,m*2,none⟩ (.slice p6 (rdB bs[m]).length c6)).setCell ⟨w.heap.size+2,m*2+1,none⟩ (.slice p7 (gvB bs[m]).length c7)).heap[w.heap.size]?=some (.cells #[.slice (some ⟨gv,0,none⟩) bs.length cv] 38 (0,0))∧((w6.setCell ⟨w.heap.size+2,m*2,none⟩ (.slice p6 (rdB bs[m]).length c6)).setCell ⟨w.heap.size+2,m*2+1,none⟩ (.slice p7 (gvB bs[m]).length c7)).heap[w.heap.size+1]?=some (.cells #[.func (.func 73) #[] #[.pointer (some ⟨pb2,0,none⟩)]] 163 (0,0))∧((w6.setCell ⟨w.heap.size+2,m*2,none⟩ (.slice p6 (rdB bs[m]).length c6)).setCell ⟨w.heap.size+2,m*2+1,none⟩ (.slice p7 (gvB bs[m]).length c7)).heap[w3.heap.size]?=some (.cells #[.slice (some ⟨w.heap.size+2,0,none⟩) bs.length bs.length] 232 (0,0))∧J9 w.heap.size ((w6.setCell ⟨w.heap.size+2,m*2,none⟩ (.slice p6 (rdB bs[m]).length c6)).setCell ⟨w.heap.size+2,m*2+1,none⟩ (.slice p7 (gvB bs[m]).length c7)) (.slice (some ⟨w.heap.size+2,0,none⟩) bs.length bs.length) bs (m+1)∧Below w.heap.size w ((w6.setCell ⟨w.heap.size+2,m*2,none⟩ (.slice p6 (rdB bs[m]).length c6)).setCell ⟨w.heap.size+2,m*2+1,none⟩ (.slice p7 (gvB bs[m]).length c7))):=by
     obtain⟨a1,a2,a3,a4,a5⟩:=R5.o;obtain⟨j1,j2,f6⟩:=O6.o;have b1:w6.heap[w.heap.size]?=some (.cells #[.slice (some ⟨gv,0,none⟩) bs.length cv] 38 (0,0)):=by rw[f6.block _ (lt_of_block a1)];exact a1
     have b2:w6.heap[w.heap.size+1]?=some (.cells #[.func (.func 73) #[] #[.pointer (some ⟨pb2,0,none⟩)]] 163 (0,0)):=by rw[f6.block _ (lt_of_block a2)];exact a2
     have b3:w6.heap[w3.heap.size]?=some (.cells #[.slice (some ⟨w.heap.size+2,0,none⟩) bs.length bs.length] 232 (0,0)):=by rw[f6.block _ (lt_of_block a3)];exact a3
     refine⟨Ql (Ql b1 (by omega) _ _) (by omega) _ _,Ql (Ql b2 (by omega) _ _) (by omega) _ _,Ql (Ql b3 (by omega) _ _) (by omega) _ _,?_,Qp (Qp (a5.trans (f6.mono (by omega))) _ _ _ (by omega)) _ _ _ (by omega)⟩;refine J9.store (a4.keeps f6) ?_ ?_
     ·rw[HBK.o];exact Qj j1 (show w.heap.size≤W5.heap.size by omega)
     ·rw[HBK.o];exact Qj j2 (show w.heap.size≤W5.heap.size by omega)
    clear R5 O6 HC;go_wp2_with fail;go_roundw
    case rel=>exact⟨m+1,by omega,by go_num,HR6⟩
    case measure=>simp[intOf];omega
  ·have hme:m=bs.length:=by omega
   subst hme;have e0:=Qb HR.o.1 0;simp at e0;obtain⟨I8,Hi8,Hz8,Hs8,Hb8⟩:=info_parts RI;have HI8:=Qc (And.intro Hi8 (And.intro Hz8 (And.intro Hs8 Hb8)));clear Hi8 Hz8 Hs8 Hb8;go_wp2_with (at_make;refine QA ?_);refine Qc ?_;refine wpList_make_full _ rfl _ _ 158 rfl wr.heap.size 161 I8 (.agg #[.slice none 0 0]) 1 underlying158 HI8.o.1 HI8.o.2.1 HI8.o.2.2.1 .i64 .i64 _ _ bs.length rfl rfl rfl rfl (by rw[HI8.o.2.2.2];omega) (by unfold maxLen;omega) (Qi _) ?_;intro w8 o8 gr8;have f8:Below wr.heap.size wr w8:=Below.grown (Below.refl _ _) gr8 (Qi _) (fun k hk=>by cases hk);have S8:ZC wr.heap.size w8 (.slice (some ⟨wr.heap.size,0,none⟩) bs.length bs.length) bs.length (fun _=>[]):=by
    refine⟨_,o8,fun k u hu=>?_⟩;rw[J2]at hu;obtain⟨_,rfl⟩:=Kl hu;exact Q3 _ _ _ _
   have s8:=f8.size;have H8:Hid (w8.heap[w.heap.size]?=some (.cells #[.slice pv bs.length cv] 38 (0,0))∧w8.heap[w.heap.size+1]?=some (.cells #[.func (.func 73) #[] #[.pointer (some ⟨pb2,0,none⟩)]] 163 (0,0))∧w8.heap[w3.heap.size]?=some (.cells #[.slice (some ⟨w.heap.size+2,0,none⟩) bs.length bs.length] 232 (0,0))∧J9 w.heap.size w8 (.slice (some ⟨w.heap.size+2,0,none⟩) bs.length bs.length) bs bs.length∧Below w.heap.size w w8∧ZC wr.heap.size w8 (.slice (some ⟨wr.heap.size,0,none⟩) bs.length bs.length) bs.length (fun _=>[])):=by
    obtain⟨a1,a2,a3,a4,a5⟩:=HR.o;exact⟨by rw[f8.block _ (lt_of_block a1)];exact a1,by rw[f8.block _ (lt_of_block a2)];exact a2,by rw[f8.block _ (lt_of_block a3)];exact a3,a4.keeps f8,a5.trans (f8.mono hz2),S8⟩
   clear o8 gr8 f8 S8 HR HI8 e0;go_wp2_with fail;refine(QgI bs base wr.heap.size w.heap.size w.heap.size w3.heap.size (w.heap.size+1) pb2 (.slice pv bs.length cv) _ _ w8 (H0.o.1.keeps (Qr.below H8.o.2.2.2.2.1)) H8.o.2.2.2.1 H8.o.2.2.2.2.2 (Qb H8.o.1 0) ((H8.o.2.2.2.2.1.cell (p:=⟨pb2,0,none⟩) hp2w).trans H0.o.2) (Qb H8.o.2.2.1 0) (Qb H8.o.2.1 0) hgl hf  hg2  hn0 hn).mono ?_;rintro e w9 ⟨v9,rfl,H9⟩;have H10:Hid (ZC w.heap.size w9 v9 bs.length (ndL bs)∧Below w.heap.size w w9):=⟨ZC.base H9.o.1 H8.o.2.2.2.2.1.size,H8.o.2.2.2.2.1.trans (H9.o.2.mono H8.o.2.2.2.2.1.size)⟩;clear H8 H9;go_wp2_with fail;go_ret;exact⟨_,rfl,H10⟩
theorem Qjs(bs:List Qm)(base:Nat)(v:Value)(w:World)(hP:PBs w base bs v)
  (hgl:Hid (∀b∈bs,∀p∈goalsF b.e,p.1<bs.length))(hf:Hid (∀b∈bs,QU 1000000 b))(hg2:Hid (∀b∈bs,∀c∈b.chs,c.gs.length≤1000))(hn0:0<bs.length)(hn:bs.length≤1000):
  Calls prog 42 #[v] w fun x w'=>∃v',x=.returned v'∧Hid (ZC w.heap.size w' v' bs.length (ndL bs)∧Below w.heap.size w w'):=by
 obtain⟨pv,cv,rfl⟩:=hP.slice;have f1:=(Below.refl w.heap.size w).alloc (Qi _) (.cells #[.slice pv bs.length cv] 38);have g1:=heap_alloc_last w (.cells #[.slice pv bs.length cv] 38);have hs:(w.alloc (.cells #[.slice pv bs.length cv] 38)).heap.size=w.heap.size+1:=Qt _ _;have H0:=Qc (And.intro (hP.keeps (Qr.below f1)) (And.intro f1 g1));clear hP f1 g1;go_enter func42,ntmps42;go_wp2_with fail;refine(QdX bs base w.heap.size _ _ H0.o.1 (Qb H0.o.2.2 0) hgl hf  hg2 hn0 hn).mono ?_;rintro e w5 ⟨v5,rfl,H5⟩;have H6:Hid (ZC w.heap.size w5 v5 bs.length (ndL bs)∧Below w.heap.size w w5):=⟨ZC.base H5.o.1 (by omega),H0.o.2.1.trans (H5.o.2.mono (by omega))⟩;clear H0 H5 hs;go_wp2_with fail;go_ret;exact⟨_,rfl,H6⟩
def chF(l:List Q0)(r:Nat):Bool:=l.any fun c=>c.to.1==r
theorem Uf{l:List Q0}{r:Nat}:chF l r=true↔∃c∈l,c.to.1=r:=by simp[chF]
theorem QkW(c:Q0)(r rb:Nat)(p:Option Addr)(cp:Nat)(w:World)(h:w.cell? ⟨rb,0,none⟩=some (.int .i64 r)):
  Calls prog 183 #[.agg #[.int .i64 c.to.1,.int .i64 c.to.2,.slice p c.gs.length cp],.pointer (some ⟨rb,0,none⟩)] w fun e w'=>e=.returned (.bool (c.to.1==r))∧Below w.heap.size w w':=by
 have hb:rb<w.heap.size:=Zh _ _ h;have f1:=(Below.refl w.heap.size w).alloc (Qi _) (.cells #[.int .i64 c.to.1,.int .i64 c.to.2,.slice p c.gs.length cp] 140);have hc:=(f1.cell (p:=⟨rb,0,none⟩) hb).trans h;have F1:=Qc f1;clear f1 h;go_enter func183,ntmps183;go_wp2_with fail;go_ret;refine⟨?_,F1.o⟩;by_cases e:c.to.1=r
 ·subst e;simp
 ·have h1:(c.to.1==r)=false:=by simpa using e
  rw[h1];have h2:((c.to.1:Int)==(r:Int))=false:=by simp;omega
  first | rfl | (rw[h2];rfl) | (simp[h2];rfl)
theorem Qlo(l:List Q0)(r rb base:Nat)(p:Option Addr)(cp:Nat)(w:World)(h:ZU w base l (.slice p l.length cp))(hr:w.cell? ⟨rb,0,none⟩=some (.int .i64 r))(hl:l.length≤1000000):
  Calls prog 211 #[.slice p l.length cp,.func (.func 183) #[] #[.pointer (some ⟨rb,0,none⟩)]] w fun e w'=>∃z:Int,e=.returned (.int .i64 z)∧Hid (decide (0≤z)=chF l r∧Below w.heap.size w w'):=by
 have hb:rb<w.heap.size:=Zh _ _ hr;have HP:=Qc (And.intro h hr);clear h hr;go_enter func211,ntmps211;go_wp2_with fail
 go_loopw [8] (fun i wr=>∃k:Nat,k≤l.length∧i=.int .i64 k∧Hid (chF (l.take k) r=false∧Below w.heap.size w wr)) (fun i _=>l.length-(intOf i).toNat)
 case atStart=>exact⟨0,by omega,rfl,rfl,Below.refl _ _⟩
 case round=>
  obtain⟨k,hk,rfl,HI⟩:=hrel;rename World=>wr;by_cases hlt:k<l.length
  ·obtain⟨g,pu,cu,rfl,_,_,hgr,_,c0,c1,c2⟩:=(HP.o.1.keeps (Qh HI.o.2) trivial trivial).at hlt;clear hgr;have hc:=(HI.o.2.cell (p:=⟨rb,0,none⟩) hb).trans HP.o.2;have HTK:Hid (l.take (k+1)=l.take k++[l[k]]):=Zb hlt;have HM:Hid (l[k]∈l):=Qx hlt;generalize l[k]=ch at *;have HC:=Qc hc;clear hc;go_wp2_with fail;refine(QkW ch r rb pu cu wr HC.o).mono ?_;rintro e w2 ⟨rfl,f2⟩;have F2:=Qc (HI.o.2.trans (f2.mono HI.o.2.size));clear f2 c0 c1 c2;by_cases he:ch.to.1=r
   ·have h1:(ch.to.1==r)=true:=by simpa using he
    have HF:Hid (chF l r=true):=Uf.2 ⟨ch,HM.o,he⟩;rw[h1];clear h1 he;go_wp2_with fail;go_ret;refine⟨_,rfl,?_,F2.o⟩;rw[HF.o];simp
   ·have h1:(ch.to.1==r)=false:=by simpa using he
    have HN:Hid (chF (l.take (k+1)) r=false∧Below w.heap.size w w2):=by
     refine⟨?_,F2.o⟩;have:=HI.o.1;rw[HTK.o];unfold chF at this ⊢;rw[List.any_append,this];simp[he]
    rw[h1];clear h1 he HI;go_wp2_with fail;go_roundw
    case rel=>exact⟨k+1,by omega,by go_num,HN⟩
    case measure=>simp[intOf];omega
  ·have HF:Hid (chF l r=false∧Below w.heap.size w wr):=⟨by have:=HI.o.1;rw[Zg (by omega)]at this;exact this,HI.o.2⟩;clear HI;go_wp2_with fail;go_ret;refine⟨_,rfl,?_,HF.o.2⟩;rw[HF.o.1];simp
theorem Qdr(l:List Q0)(r rb base:Nat)(p:Option Addr)(cp:Nat)(w:World)(h:ZU w base l (.slice p l.length cp))(hr:w.cell? ⟨rb,0,none⟩=some (.int .i64 r))(hl:l.length≤1000000):
  Calls prog 182 #[.slice p l.length cp,.func (.func 183) #[] #[.pointer (some ⟨rb,0,none⟩)]] w fun e w'=>e=.returned (.bool (chF l r))∧Below w.heap.size w w':=by
 have H0:=Qc (And.intro h hr);clear h hr;go_enter func182,ntmps182;go_wp2_with fail;refine(Qlo l r rb base p cp w H0.o.1 H0.o.2 hl).mono ?_;rintro e w2 ⟨z,rfl,H2⟩;have HE:=Qc H2.o.1;have F2:=Qc H2.o.2;clear H2;go_wp2_with fail;go_ret;refine⟨?_,F2.o⟩;rw[←HE.o]
 first | rfl | simp
theorem Qak(b:Qm)(r base:Nat)(p:Option Addr)(cp:Nat)(ps:Option Addr)(ns cs:Nat)(T:TypeId)(x:Value)(w:World)(h:ZU w base b.chs (.slice p b.chs.length cp))(hl:b.chs.length≤1000000):
  Calls prog 131 #[.agg #[.int .i64 b.at_,.slice p b.chs.length cp,.slice ps ns cs,.iface T x],.int .i64 r] w fun e w'=>e=.returned (.bool (chF b.chs r))∧Below w.heap.size w w':=by
 obtain⟨W,hW⟩:∃W,W=(w.alloc (.cells #[.int .i64 b.at_,.slice p b.chs.length cp,.slice ps ns cs,.iface T x] 104)).alloc (.cells #[.int .i64 r] 78):=⟨_,rfl⟩;obtain⟨g0,g1,hz,f2⟩:=two w (.cells #[.int .i64 b.at_,.slice p b.chs.length cp,.slice ps ns cs,.iface T x] 104) (.cells #[.int .i64 r] 78);rw[←hW]at g0 g1 hz f2;have H0:Hid (ZU W base b.chs (.slice p b.chs.length cp)∧W.cell? ⟨w.heap.size+1,0,none⟩=some (.int .i64 r)∧Below w.heap.size w W):=⟨h.keeps (Qh f2) trivial trivial,Qb g1 0,f2⟩;clear h g0 g1 f2;go_enter func131,ntmps131;go_wp2_with fail;rw[←hW];clear hW hz;refine(Qdr b.chs r (w.heap.size+1) base p cp W H0.o.1 H0.o.2.1 hl).mono ?_;rintro e w2 ⟨rfl,f2⟩;have F2:=Qc (H0.o.2.2.trans (f2.mono H0.o.2.2.size));clear f2 H0;go_wp2_with fail;go_ret;exact⟨rfl,F2.o⟩
end Go.Proofs.YtgfhfkgdmidhpaaGreatDoor
