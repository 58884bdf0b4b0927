import Derived.Test.YtgfhfkgdmidhpaaGreatDoorC33
namespace Go.Proofs.YtgfhfkgdmidhpaaGreatDoor
open Go.RowKit Go.Maps
set_option maxRecDepth 100000
set_option maxHeartbeats 8000000
theorem QdT(s:ByteArray)(vi:Value)(V:List Int)(fu:Int)(w:World)(hs:s.size≤maxLen)(hi:InA vi V w)(ht:Tab w):
  Calls Tryz.prog 4 #[.string s,vi,.int .i64 fu] w fun x w'=>x=.returned (.bool true)∧Below w.heap.size w w':=by
 have HI:=Qc hi;obtain⟨pi,ci,rfl,hci,_⟩:=hi;go_enter Tryz.func4,Tryz.ntmps4;go_wp2_with fail;refine(Qe2 s w hs ht).mono ?_;rintro x w1 ⟨⟨T,rfl,HT⟩,f1⟩;have F1:=Qc f1;clear f1;go_wp2_with fail;refine(Qhs s w1 hs).mono ?_;rintro x w2 ⟨v2,rfl,H2⟩;have F2:=Qc (F1.o.trans (H2.o.2.mono F1.o.size));by_cases h0:upE 40000 s=0
 ·obtain⟨h1,h2⟩:=K1 h0;have hR:=Ya h1;have HBk:=Qc (H2.o.1 h0);obtain⟨p2,c2,rfl⟩:=HBk.o.slice;have hg:=Qbd hR.jp;have h12:=hR.rd.le;have hpos:=hR.rd.pos;have HGL:=Qc hR.rd.goals;have HFI:=Qc (KS h1).1;have HFG:=Qc (KS h1).2.2;have HCG:=Qc (VB h1)
  cases hn:JQ (Qq s).bs with
  | some a=>
   rw[hn]at hg;have HG:Hid (Qao (Qq s).bs=(a:Int)):=hg;have eE:oldE s=5:=by rw[oldE,if_pos h0,hn];rfl
   have eA:Vw s=a:=by rw[Vw,if_pos h0,hn];rfl
   have eE2:lnE s=5:=by rw[lnE,if_neg (by rw[eE];decide),eE]
   have eA2:lnA s=a:=by rw[lnA,if_neg (by rw[eE];decide),eA]
   have eT:T=⟨#[]⟩:=HT.o.1 (by rw[eE2];decide);rw[eT,eE2,eA2,h0];clear eT eE2 eA2 eE eA h0 h1 h2 hR hg hn HT;go_wp2_with fail;refine(Rn (Qq s).bs w1.heap.size _ w2 HBk.o (by omega) HFI.o).mono ?_;rintro x w3 ⟨rfl,f3⟩;have F3:=Qc (F2.o.trans (f3.mono F2.o.size));clear f3;rw[HG.o];go_wp2_with fail;refine(QfZ 5 w3).mono ?_;rintro x w4 ⟨rfl,rfl⟩;go_wp2_with fail;go_ret;exact⟨rfl,F3.o⟩
  | none=>
   rw[hn]at hg;have HG:Hid (Qao (Qq s).bs=-1):=hg;have eE:oldE s=0:=by rw[oldE,if_pos h0,hn];rfl
   have eE2:lnE s=(sgE (Qq s).bs).1:=by rw[lnE,if_pos eE]
   have eA2:lnA s=(sgE (Qq s).bs).2:=by rw[lnA,if_pos eE]
   by_cases hz:(sgE (Qq s).bs).1=0
   ·have hF:LF s T:=QiZ (eE2.trans hz) HT.o;have HLF:=Qc hF;have h12':=hF.rdd.rd.le;have hpos':=hF.rdd.rd.pos;have hsz:=hF.sz;have HZ:=Qc (Wu hz);have hmx:T.size≤maxLen:=by unfold maxLen;omega
    have HG':Hid (Qao (Qq T).bs=-1):=by
     have h9:=Qbd hF.rdd.jp;rw[hF.nw]at h9;exact h9
    have he':(rdF T).e=0:=by rw[hF.rd]
    have HGL':=Qc hF.rdd.rd.goals;have HFI':=Qc (KS he').1;have HFG':=Qc (KS he').2.2;have HCG':=Qc (VB he');have HRK':=Qc hF.rdd.rd;rw[eE2,eA2,HZ.o,h0];clear eE eE2 eA2 h0 h1 h2 hR hg hn hF HT hz he';go_wp2_with fail;refine(Rn (Qq s).bs w1.heap.size _ w2 HBk.o (by omega) HFI.o).mono ?_;rintro x w3 ⟨rfl,f3⟩;have F3:=Qc (F2.o.trans (f3.mono F2.o.size));have B3:=Qc (HBk.o.keeps (Qi f3) trivial trivial trivial trivial trivial);clear f3;rw[HG.o];go_wp2_with fail;refine(Vy (Qq s).bs w1.heap.size _ w3 B3.o HGL HFI HFG HCG hpos (by omega)).mono ?_;rintro x w3 ⟨rfl,f3'⟩;have F3:=Qc (F3.o.trans (f3'.mono F3.o.size));have B3:=Qc (B3.o.keeps (Qi f3') trivial trivial trivial trivial trivial);clear f3';rw[HZ.o];go_wp2_with fail;refine(RG T w3 hmx).mono ?_;rintro x w4 ⟨v4,rfl,R4,f4⟩;have F4:=Qc (F3.o.trans (f4.mono F3.o.size));have B4:=Qc (B3.o.keeps (Qi f4) trivial trivial trivial trivial trivial);have C4:=Qc (R4 (by rw[HLF.o.rd]));obtain⟨p4,c4,rfl⟩:=C4.o.slice;rw[HLF.o.rd];clear f4 R4;go_wp2_with fail;refine(QfZ 0 w4).mono ?_;rintro x w5 ⟨rfl,rfl⟩;go_wp2_with fail;refine(Vy (Qq T).bs w3.heap.size _ w5 C4.o HGL' HFI' HFG' HCG' hpos' (by omega)).mono ?_;rintro x w6 ⟨rfl,f6⟩;have F6:=Qc (F4.o.trans (f6.mono F4.o.size));have B6:=Qc (B4.o.keeps (Qi f6) trivial trivial trivial trivial trivial);have C6:=Qc (C4.o.keeps (Qi f6) trivial trivial trivial trivial trivial);clear f6;rw[HLF.o.sg];go_wp2_with fail;refine(Qgf (Qq T).bs w3.heap.size _ w6 C6.o HRK' (Qc HLF.o.pk) HFI' HFG' HCG' h12' (Qc HLF.o.ln)).mono ?_;rintro x w7 ⟨rfl,f7⟩;have F7:=Qc (F6.o.trans (f7.mono F6.o.size));have B7:=Qc (B6.o.keeps (Qi f7) trivial trivial trivial trivial trivial);have C7:=Qc (C6.o.keeps (Qi f7) trivial trivial trivial trivial trivial);clear f7;go_wp2_with fail;refine(Rn (Qq T).bs w3.heap.size _ w7 C7.o (by omega) HFI'.o).mono ?_;rintro x w8 ⟨rfl,f8⟩;have F8:=Qc (F7.o.trans (f8.mono F7.o.size));have B8:=Qc (B7.o.keeps (Qi f8) trivial trivial trivial trivial trivial);have C8:=Qc (C7.o.keeps (Qi f8) trivial trivial trivial trivial trivial);clear f8;rw[HG'.o];go_wp2_with fail;refine(QiD (Qq s).bs (Qq T).bs w1.heap.size w3.heap.size _ _ w8 B8.o C8.o (by omega) HLF.o.eq HLF.o.ends).mono ?_;rintro x w9 ⟨rfl,f9⟩;have F9:=Qc (F8.o.trans (f9.mono F8.o.size));have B9:=Qc (B8.o.keeps (Qi f9) trivial trivial trivial trivial trivial);have C9:=Qc (C8.o.keeps (Qi f9) trivial trivial trivial trivial trivial);clear f9;have HAL:Hid (Calls Tryz.prog 13 #[.slice p2 (Qq s).bs.length c2,.slice p4 (Qq T).bs.length c4,.slice pi V.length ci,.int .i64 fu] w9 fun e w'=>e=.returned (.bool true)∧Below w9.heap.size w9 w'):=by
     by_cases hout:20<V.length∨fu<0∨300<fu
     ·exact Qiy _ _ _ _ _ _ w9 hout
     ·obtain⟨f,rfl⟩:∃f:Nat,fu=f:=⟨fu.toNat,by omega⟩;exact Qiz (Qq s).bs (Qq T).bs w1.heap.size w3.heap.size _ _ _ V f w9 B9.o C9.o (HI.o.keeps F9.o) (by omega) (by omega) HLF.o.p1 HLF.o.p2 (HLF.o.play V f)
    go_wp2_with fail;refine HAL.o.mono ?_;rintro x w10 ⟨rfl,f10⟩;have F10:=Qc (F9.o.trans (f10.mono F9.o.size));clear f10 HAL;go_wp2_with fail;go_ret;exact⟨rfl,F10.o⟩
   ·have eT:T=⟨#[]⟩:=HT.o.1 (by rw[eE2];exact hz);rw[eT,eE2,eA2,h0];have hd:(((sgE (Qq s).bs).1:Int) != 0)=true:=by simp;omega
    generalize hsg:sgE (Qq s).bs=sg at *;have HSG:=Qc hsg;clear eT eE eE2 eA2 h0 h1 h2 hR hg hn HT hz hsg;go_wp2_with fail;refine(Rn (Qq s).bs w1.heap.size _ w2 HBk.o (by omega) HFI.o).mono ?_;rintro x w3 ⟨rfl,f3⟩;have F3:=Qc (F2.o.trans (f3.mono F2.o.size));have B3:=Qc (HBk.o.keeps (Qi f3) trivial trivial trivial trivial trivial);clear f3;rw[HG.o];go_wp2_with fail;refine(Vy (Qq s).bs w1.heap.size _ w3 B3.o HGL HFI HFG HCG hpos (by omega)).mono ?_;rintro x w4 ⟨rfl,f4⟩;have F4:=Qc (F3.o.trans (f4.mono F3.o.size));clear f4;rw[HSG.o];go_wp2_with fail;refine(QfZ sg.1 w4).mono ?_;rintro x w5 ⟨rfl,rfl⟩;go_wp2_with fail;go_ret;exact⟨rfl,F4.o⟩
 ·have eE:oldE s=upE 40000 s:=by rw[oldE,if_neg h0]
  have eA:Vw s=(rdF s).at_:=by rw[Vw,if_neg h0]
  have eE2:lnE s=upE 40000 s:=by rw[lnE,if_neg (by rw[eE];exact h0),eE]
  have eA2:lnA s=(rdF s).at_:=by rw[lnA,if_neg (by rw[eE];exact h0),eA]
  have eT:T=⟨#[]⟩:=HT.o.1 (by rw[eE2];exact h0);rw[eT,eE2,eA2];have hd:((upE 40000 s:Int)==0)=false:=by simp;omega
  have hd2:((upE 40000 s:Int) != 0)=true:=by simp;omega
  clear eT eE eA eE2 eA2 h0 HT;go_wp2_with fail;refine(QfZ (upE 40000 s) w2).mono ?_;rintro x w3 ⟨rfl,rfl⟩;go_wp2_with fail;go_ret;exact⟨rfl,F2.o⟩
end Go.Proofs.YtgfhfkgdmidhpaaGreatDoor
