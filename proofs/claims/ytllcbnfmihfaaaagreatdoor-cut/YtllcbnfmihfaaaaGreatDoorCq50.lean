import Derived.Test.YtllcbnfmihfaaaaGreatDoorCq49
set_option maxRecDepth 100000
set_option maxHeartbeats 8000000
namespace Go.Proofs.YtllcbnfmihfaaaaGreatDoor
open Go.Proofs.Tryz
variable {N:Nat}
section
open Go.RowKit Go.Lib
theorem qwj (s:List UInt8)(R:Rep)(e p:Int){V:World}(h:V.heap[N]? = some (.cells (tdA s R e p) 52)):∀(j:Nat) (u:Value),(qaF R)[j]? = some u→V.cell? ⟨N,1+j,none⟩=some u:=by
 intro j u hu;refine(qab h (1+j)).trans ?_;have hj:j<4:=ltA hu
 match j,hj,hu with
 |0,_,hu=>exact hu
 |1,_,hu=>exact hu
 |2,_,hu=>exact hu
 |3,_,hu=>exact hu
theorem qiH (s:List UInt8)(p q:Nat)(h:p≤q):s.take p++(s.take q).drop p=s.take q:=by
 have e:(s.take q).take p=s.take p:=by rw[List.take_take,Nat.min_eq_left h]
 rw[←e,List.take_append_drop]
theorem qvR:∀w:World,(binOp .eql 28 (.slice none 0 0) (.slice none 0 0)).run prog w=.ok (.bool true) w:=fun w=>by kernel_rfl
theorem qvK:∀w:World,(binOp .eql 50 (.agg #[.int .i64 0,.int .i64 0,.int .i64 0,.int .i64 0]) (.agg #[.int .i64 0,.int .i64 0,.int .i64 0,.int .i64 0])).run prog w=.ok (.bool true) w:=fun w=>by kernel_rfl
def qwE (c:Cfg)(w:World)(N L b2 b3:Nat)(td:Array Value)(s:List UInt8)(at_:Nat)(wr:World):Prop:=∀n:Nat,at_+n≤s.length→∃(tp:List UInt8) (cap:Nat) (V2:World),(∀w:World,(Instr.sliceAt 9 (.string ⟨s.toArray⟩) (some (.int .i64 at_)) (some (.int .i64 ((at_:Int)+n))) none).run prog w=.ok (.string ⟨tp.toArray⟩) w)∧(convert 9 28 (.string ⟨tp.toArray⟩)).run prog wr=.ok (.slice (some ⟨wr.heap.size,0,none⟩) tp.length cap) V2∧Calls prog 32 #[.pointer (some ⟨L,0,none⟩),.slice (some ⟨wr.heap.size,0,none⟩) tp.length cap] V2 fun e V'=>e=.returned (.int .i64 (feE c (s.take (at_+n))))∧qhH w c N td V'∧qgo c b2 L b3 ((s.take (at_+n)).take (c.bytes.toNat+1)) V'
theorem qse {c:Cfg}(ck:qnq c){w:World}{L b2 b3:Nat}{td:Array Value}{s:List UInt8}(hs:s.length≤281474976710656){at_:Nat}{wr:World}(hC:qhH w c N td wr)(hG:qgo c b2 L b3 ((s.take at_).take (c.bytes.toNat+1)) wr)(hN:N<b2):qwE c w N L b2 b3 td s at_ wr:=by
 intro n hn;have htl:((s.take (at_+n)).drop at_).length≤maxLen:=by rw[List.length_drop,List.length_take];unfold maxLen;omega
 have hcut:=qiH s at_ (at_+n) (Nat.le_add_right _ _);have h5:=fun w=>qvS s at_ (at_+n) (Nat.le_add_right _ _) hn w;generalize (s.take (at_+n)).drop at_=tp at *;obtain⟨cap,V2,h1,h2,h3,h4⟩:=qis wr tp htl;have cF:=quG ck (hC.next h2) (hG.step h2) hN h3 (by simp) h4;rw[hcut] at cF;refine⟨tp,cap,V2,fun w => ?_,h1,cF⟩;have h6:=h5 w;rw[Int.natCast_add] at h6;exact h6
theorem quF (c:Cfg)(w:World)(hc:ql7 w c)(ht:qko w.heap.size w)(s:List UInt8)(hs:s.length≤281474976710656)(ka:Option Addr)(kc:Nat)(ks:List Int)(hk:qbV w ka ks)(hkl:ks.length≤281474976710656)(hkr:∀i (h:i<ks.length),-9223372036854775808≤ks[i]∧ks[i]≤9223372036854775807):Calls prog 14 #[.agg c.arr,.string ⟨s.toArray⟩,.slice ka ks.length kc] w fun e w'=>e=.returned (.bool true)∧Below w.heap.size w w':=by
 have HS:=qaa c.size;have HX:=qaa (qhW w c);have cP:=qmP c (w.alloc (.cells c.arr 45)) (HX.out.cfg hc) ((ht.below HX.out.below).top) s (by unfold maxLen;omega) (s.length+1) (by omega) (by unfold maxLen;omega);have hpc:(((s.length+1:Nat)):Int)=(s.length:Int)+1:=by omega
 rw[hpc] at cP;have HW1:Hid (∀N td V,qhH w c N td V→Calls prog 31 #[.agg c.arr] V fun e w'=>Below V.heap.size V w'∧((¬qbw c=0∧e=.returned (.tuple #[.pointer none,.int .i64 (qbw c)]))∨(qbw c=0∧∃L,e=.returned (.tuple #[.pointer (some ⟨L,0,none⟩),.int .i64 0])∧qgo c V.heap.size L w'.heap.size [] w'))):=fun N td V hV=>qv8 c V (hc.below hV.below) (ht.below hV.below).top;have HK:=qaa hk;have HKR:=qaa hkr;have HCT:Hid (∀w2:World,Below (w.alloc (.cells c.arr 45)).heap.size (w.alloc (.cells c.arr 45)) w2→qhH w c w2.heap.size (tdO c s) (w2.alloc (.cells (tdO c s) 52))):=fun w2 hb=>by
  have hs2:=hb.size;rw[World.size_alloc] at hs2;exact⟨(HX.out.below.trans (hb.mono HX.out.below.size)).alloc (by omega) _,(Below.heap_alloc _ _ _ (by omega)).trans ((hb.block _ (by rw[World.size_alloc];omega)).trans HX.out.box),qac w2 _,by omega⟩
 clear hc ht hk hkr hpc;have hsI:(s.length:Int)≤281474976710656:=by omega
 have hkI:(ks.length:Int)≤281474976710656:=by omega
 by_cases h0:qbw c=0
 ·have HCK:=qaa (qqt h0);obtain⟨z,HZ⟩:∃z,Hid (clO c (s.take (c.bytes.toNat+1))=z):=⟨_,rfl⟩
  obtain⟨R1,HR1⟩:∃R1,Hid (czR z=R1):=⟨_,rfl⟩
  obtain⟨E1,HE1⟩:∃E1,Hid (czE z=E1):=⟨_,rfl⟩
  obtain⟨P1,HP1⟩:∃P1,Hid (czP z=P1):=⟨_,rfl⟩
  obtain⟨S1,HS1⟩:∃S1,Hid (czS z=S1):=⟨_,rfl⟩
  have HTO:Hid (tdO c s=tdA S1 R1 E1 P1):=by show _=_;unfold tdO;rw[if_pos h0,HZ.out,HR1.out,HE1.out,HP1.out,HS1.out]
  rw[HTO.out] at cP HCT;have HW2:Hid (∀N td V,qhH w c N td V→Calls prog 31 #[.agg c.arr] V fun e w'=>∃L,e=.returned (.tuple #[.pointer (some ⟨L,0,none⟩),.int .i64 0])∧qhH w c N td w'∧qgo c V.heap.size L w'.heap.size [] w'):=fun N td V hV=>(HW1.out N td V hV).mono (by
   rintro e w' ⟨h1,h2⟩;rcases h2 with ⟨h2,_⟩|⟨_,L,h3,h4⟩
   ·exact absurd h0 h2
   exact⟨L,h3,hV.next h1,h4⟩)
  clear HTO HW1 h0;go_enter func14,ntmps14
  go_wp2_with (first
   |(refine wpList_load_row rfl 45 _ rfl w.heap.size rfl _ _ _ _ HX.out.box underlying45 rfl (qaV HS.out) ?_)
   |(go_at_call 28;refine cP.mono ?_;clear cP;rintro e w2 ⟨rfl,hB2⟩;have HC2:=qaa (HCT.out w2 hB2);clear hB2 HX HCT;have cO:=HW2.out _ _ _ HC2.out;clear HW2)
   |(refine wpList_store_row rfl 52 _ _ rfl w2.heap.size (tdA S1 R1 E1 P1) rfl rfl 52 _ (qac w2 _) (qh3 _ _ _ _) rfl (qmf _ _ _ _) ?_;rw[World.setRow_alloc_new])
   |(refine wpList_load_row rfl 45 _ rfl w.heap.size rfl _ _ _ _ HC2.out.cfg underlying45 rfl (qaV HS.out) ?_)
   |(go_at_call 31;refine cO.mono ?_;clear cO;rintro e w3 ⟨L,rfl,hC3,hG3⟩;have HC3:=qaa hC3;have HG3:=qaa hG3;have HNB:Hid (w2.heap.size<(w2.alloc (.cells (tdA S1 R1 E1 P1) 52)).heap.size):=by {show _<_;rw[World.size_alloc];omega};clear hC3 hG3 HC2))
  generalize w3.heap.size=b3 at *;generalize (w2.alloc (.cells (tdA S1 R1 E1 P1) 52)).heap.size=b2 at *;generalize w2.heap.size=N at *
  go_loopg [11,12,13,14,15] (ks.length+1) (fun g x1 x2 x3 x4 x5 V=>∃(at_ i:Nat) (bad:Int),x1=.int .i64 at_∧x2=.int .i64 bad∧x3=.int .i64 i∧Hid (i+g=ks.length+1)∧Hid (at_≤s.length)∧Hid (i=ks.length+1→at_=s.length∧bad=feE c s)∧Hid (bad=0∨bad=feE c (s.take at_))∧Hid (qhH w c N (tdA S1 R1 E1 P1) V)∧Hid (qgo c b2 L b3 ((s.take at_).take (c.bytes.toNat+1)) V))
  case atStart=>exact⟨0,0,0,rfl,rfl,rfl,by show _=_;omega,Nat.zero_le _,fun h=>(by omega),.inl rfl,HC3,by rw[List.take_zero,List.take_nil];exact HG3⟩
  case round =>
   clear HC3 HG3;obtain⟨at_,i,bad,rfl,rfl,rfl,HI,HA,HE,HBD,HC,HG⟩:=hrel;have hat:(at_:Int)≤(s.length:Int):=by have:=HA.out;omega
   cases gk with
   |zero =>
    have hgt:¬(i:Int)≤(ks.length:Int):=by have:=HI.out;omega
    obtain⟨hae,hbe⟩:=HE.out (by have:=HI.out;omega);have HBE:=qaa hbe;have cC:=qsk HCK.out HG.out;rw[hae,List.take_length] at cC;unfold qpj at cC;rw[HZ.out,HR1.out,HE1.out,HP1.out] at cC;clear HE HBD HG hae hbe HI HA;have hnil:=qvR;have hzer:=qvK;have hr0:(qaF R1)[0]? = some (.int .i64 R1.1):=rfl;have hr1:(qaF R1)[1]? = some (.int .i64 R1.2.1):=rfl;have hr2:(qaF R1)[2]? = some (.int .i64 R1.2.2.1):=rfl;have hr3:(qaF R1)[3]? = some (.int .i64 R1.2.2.2):=rfl;have ee1:(E1==E1)=true:=by simp
    have ee2:(E1 != E1)=false:=by simp
    have ep1:(P1==P1)=true:=by simp
    have ep2:(P1 != P1)=false:=by simp
    have hsM:s.length≤maxLen:=by unfold maxLen;omega
    by_cases hb0:bad=0
    all_goals
     first
     |subst hb0
     |have hfc:=qp2 HCK.out (l:=s) (by rw[←HBE.out];exact hb0)
      rw[HZ.out,HE1.out,HP1.out,←HBE.out] at hfc;have hEb:=hfc.1;have hpl:¬(s.length:Int)≤P1:=by have:=hfc.2;omega
      have eb1:(bad==0)=false:=by simpa using hb0
      have eb2:(bad != 0)=true:=by simpa using hb0
      have eb3:(bad != bad)=false:=by simp
      have eb4:(bad==bad)=true:=by simp
      subst hEb;clear hfc hb0
     go_wp2_with (first
      |(go_at_call 33;refine cC.mono ?_;clear cC;rintro e w6 ⟨va,vn,vc,rfl,hB6,hW6,hcl,hV6⟩;obtain⟨V6,HV6⟩:∃V6,Hid (w6.alloc (.cells (qaF R1) 50)=V6):=⟨_,rfl⟩;have hB67:Below w6.heap.size w6 V6:=(by {rw[←HV6.out];exact bwA});have HQ6:Hid (V6.heap[w6.heap.size]? = some (.cells (qaF R1) 50)):=(by {show _=_;rw[←HV6.out];exact qac w6 _});have hback:=qow (qvB hV6 hB67);rw[HS1.out] at hback;have HC6:=qaa ((HC.out.step hB6 HNB.out).next hB67);have HW6:Hid (w.heap.size≤w6.heap.size):=by {have h1:=HC.out.below.size;show _≤_;omega};have HCL:=qaa ((hB67.block _ (ltA hcl)).trans hcl);have d0:V6.cell? ⟨N,0,none⟩=some (.string ⟨S1.toArray⟩):=qab HC6.out.told 0;have d5:V6.cell? ⟨N,5,none⟩=some (.int .i64 E1):=qab HC6.out.told 5;have d6:V6.cell? ⟨N,6,none⟩=some (.int .i64 P1):=qab HC6.out.told 6;obtain⟨cap,V7,hcv,hB7,_,_⟩:=qis V6 s hsM;have hcl7:=(hB7.block L (ltA HCL.out)).trans HCL.out;have cF:=qkB V7 L gtZ qki (.slice none 0 0) (.slice (some ⟨V6.heap.size,0,none⟩) s.length cap) hcl7;have cC2:=qjg V7 L gtZ qki (.slice none 0 0) hcl7;have HQ7:=qaa ((hB7.block _ (ltA HQ6.out)).trans HQ6.out);have HB7:=qaa (HC6.out.below.trans (hB7.mono HC6.out.below.size));clear hB6 hV6 HC hcl hB7 hcl7 hB67 hW6)
      |(refine wpList_store_row rfl 50 _ _ rfl w6.heap.size (qaF R1) rfl rfl 50 _ (qac w6 _) (qaS R1) rfl (qdV R1) ?_;rw[World.setRow_alloc_new,HV6.out])
      |(refine qaf 50 (.tmp 17) rfl rfl w6.heap.size rfl _ _ _ _ HQ6.out underlying50 rfl (qaS R1) ?_)
      |(refine qcv 50 (.tmp 101) rfl rfl N 1 rfl (qaF R1) _ (qwj _ _ _ _ HC6.out.told) underlying50 rfl (qaS R1) ?_)
      |(go_at_call 32;refine cF.mono ?_;clear cF;rintro e w8 ⟨rfl,rfl⟩)
      |(go_at_call 33;refine cC2.mono ?_;clear cC2;rintro e w9 ⟨rfl,hB9⟩;have HQ9:=qaa ((hB9.block _ (ltA HQ7.out)).trans HQ7.out);have HB9:=qaa (HB7.out.trans (hB9.mono HB7.out.size));have HW9:=qaa HW6.out;clear hB9 HQ7 HB7 HC6 HCL d0 d5 d6 hback)
      |(refine wpList_store_row rfl 50 _ _ rfl w6.heap.size #[.int .i64 0,.int .i64 0,.int .i64 0,.int .i64 0] rfl rfl 50 _ HQ9.out qcs rfl qiF ?_)
      |(refine qaf 50 (.tmp 17) rfl rfl w6.heap.size rfl _ _ _ _ (setRow_heap _ _ _ _ _ _ HQ9.out) underlying50 rfl qcs ?_))
     go_ret;exact⟨rfl,qah HB9.out HW9.out _⟩
   |succ g =>
    have hile:(i:Int)≤(ks.length:Int):=by have:=HI.out;omega
    have HFIN:Hid (∀(n:Nat) (V2 w5:World) (en:Int),at_+n≤s.length→(i=ks.length→at_+n=s.length)→en=feE c (s.take (at_+n))→qhH w c N (tdA S1 R1 E1 P1) w5→qgo c b2 L b3 ((s.take (at_+n)).take (c.bytes.toNat+1)) w5→∃(a j:Nat) (bd:Int),Value.int .i64 ((at_:Int)+n)=.int .i64 a∧Value.int .i64 en=.int .i64 bd∧Value.int .i64 ((i:Int)+1)=.int .i64 j∧Hid (j+g=ks.length+1)∧Hid (a≤s.length)∧Hid (j=ks.length+1→a=s.length∧bd=feE c s)∧Hid (bd=0∨bd=feE c (s.take a))∧Hid (qhH w c N (tdA S1 R1 E1 P1) w5)∧Hid (qgo c b2 L b3 ((s.take a).take (c.bytes.toNat+1)) w5)):=fun n V2 w5 en h1 h2 h3 h4 h5=>by
     refine⟨at_+n,i+1,en,by rw[Int.natCast_add],rfl,by rw[Int.natCast_add];rfl,by show _=_;have:=HI.out;omega,h1,fun h => ?_,.inr h3,h4,h5⟩;have h6:=h2 (by omega);refine⟨h6,?_⟩;rw[h3,h6,List.take_length]
    have HST:=qaa (qse HCK.out hs HC.out HG.out HNB.out);obtain⟨n0,hn0⟩:∃n0:Nat,(s.length:Int)-(at_:Int)=n0:=⟨s.length-at_,by omega⟩
    by_cases hik:(i:Int)<(ks.length:Int)
    ·have hil:i<ks.length:=by omega
     have hkr:=HKR.out i hil;obtain⟨kb,ko,hka,hkb,hkc⟩:=(HK.out.below HC.out.below).at_ i hil;have hcell:=hkc i hil;have cPk:=fun w=>qsT ks[i] (n0+1) w (by omega) (by unfold maxLen;omega) hkr.1 hkr.2;have hpn:=qr6 ks[i] (n0+1) (by omega);have hca:((n0+1:Nat):Int)=(n0:Int)+1:=by omega
     rw[hca] at cPk;subst hka;have hn1:at_+qie ks[i] (n0+1)≤s.length:=by omega
     have HN1:=qaa hn1;generalize qie ks[i] (n0+1)=pk at *;generalize ks[i]=kv at *;have HIL:Hid (¬i=ks.length):=by show ¬_;omega
     clear hca hkc hpn hkr hkb hil;obtain⟨tp,cap,V2,hsl,hcv,cF⟩:=HST.out pk (hn1);by_cases hb0:bad=0
     all_goals
      first
      |subst hb0
       obtain⟨EN,HEN⟩:∃EN,Hid (feE c (s.take (at_+pk))=EN):=⟨_,rfl⟩
       rw[HEN.out] at cF
      |have HBE:Hid (feE c (s.take (at_+pk))=bad):=by
        rcases HBD.out with h|h
        ·exact absurd h hb0
        show _=_;rw[h,←qiH s at_ (at_+pk) (Nat.le_add_right _ _)];exact qje HCK.out _ (by rw[←h];exact hb0)
       rw[HBE.out] at cF;have eb1:(bad==0)=false:=by simpa using hb0
       have eb2:(bad != 0)=true:=by simpa using hb0
       have eb3:(bad != bad)=false:=by simp
       have eb4:(bad==bad)=true:=by simp
       clear hb0;have HEN:=HBE
      clear HST HC HG HBD HE
      go_wp2_with (first
       |(go_at_call 23;refine(cPk _).mono ?_;clear cPk;rintro e w4 ⟨rfl,rfl⟩)
       |(go_at_call 32;refine cF.mono ?_;clear cF;rintro e w5 ⟨rfl,hC5,hG5⟩;have HC5:=qaa hC5;have HG5:=qaa hG5;clear hC5 hG5))
      go_roundg g
      case measure=>omega
      case rel=>exact HFIN.out pk V2 w5 _ HN1.out (fun e=>absurd e HIL.out) HEN.out.symm HC5.out HG5.out
    have hn1:at_+n0≤s.length:=by omega
    have HN1:Hid (at_+n0=s.length):=by show _=_;omega
    obtain⟨tp,cap,V2,hsl,hcv,cF⟩:=HST.out n0 hn1;clear hn1;by_cases hb0:bad=0
    all_goals
     first
     |subst hb0
      obtain⟨EN,HEN⟩:∃EN,Hid (feE c (s.take (at_+n0))=EN):=⟨_,rfl⟩
      rw[HEN.out] at cF
     |have HBE:Hid (feE c (s.take (at_+n0))=bad):=by
       rcases HBD.out with h|h
       ·exact absurd h hb0
       show _=_;rw[h,←qiH s at_ (at_+n0) (Nat.le_add_right _ _)];exact qje HCK.out _ (by rw[←h];exact hb0)
      rw[HBE.out] at cF;have eb1:(bad==0)=false:=by simpa using hb0
      have eb2:(bad != 0)=true:=by simpa using hb0
      have eb3:(bad != bad)=false:=by simp
      have eb4:(bad==bad)=true:=by simp
      clear hb0;have HEN:=HBE
     clear HST HC HG HBD HE
     go_wp2_with (first
      |(go_at_call 32;refine cF.mono ?_;clear cF;rintro e w5 ⟨rfl,hC5,hG5⟩;have HC5:=qaa hC5;have HG5:=qaa hG5;clear hC5 hG5))
     go_roundg g
     case measure=>omega
     case rel=>exact HFIN.out n0 V2 w5 _ (by have:=HN1.out;omega) (fun _=>HN1.out) HEN.out.symm HC5.out HG5.out
 have HTO:Hid (tdO c s=tdA [] (0,0,0,0) (qbw c) 0):=if_neg h0;rw[HTO.out] at cP HCT;have HW2:Hid (∀N td V,qhH w c N td V→Calls prog 31 #[.agg c.arr] V fun e w'=>e=.returned (.tuple #[.pointer none,.int .i64 (qbw c)])∧qhH w c N td w'):=fun N td V hV=>(HW1.out N td V hV).mono (by
  rintro e w' ⟨h1,h2⟩;rcases h2 with ⟨_,h2⟩|⟨h2,_⟩
  ·exact⟨h2,hV.next h1⟩
  exact absurd h2 h0)
 generalize qbw c=E at *;have e1:(E==0)=false:=by simpa using h0
 have e2:(E != 0)=true:=by simpa using h0
 have e3:(E==E)=true:=by simp
 clear HTO HW1 h0;go_enter func14,ntmps14
 go_wp2_with (first
  |(refine wpList_load_row rfl 45 _ rfl w.heap.size rfl _ _ _ _ HX.out.box underlying45 rfl (qaV HS.out) ?_)
  |(go_at_call 28;refine cP.mono ?_;clear cP;rintro e w2 ⟨rfl,hB2⟩;have HC2:=qaa (HCT.out w2 hB2);clear hB2 HX HCT;have cO:=HW2.out _ _ _ HC2.out;clear HW2)
  |(refine wpList_store_row rfl 52 _ _ rfl w2.heap.size (tdA [] (0,0,0,0) E 0) rfl rfl 52 _ (qac w2 _) (qh3 _ _ _ _) rfl (qmf _ _ _ _) ?_;rw[World.setRow_alloc_new])
  |(refine wpList_load_row rfl 45 _ rfl w.heap.size rfl _ _ _ _ HC2.out.cfg underlying45 rfl (qaV HS.out) ?_)
  |(go_at_call 31;refine cO.mono ?_;clear cO;rintro e w3 ⟨rfl,hC3⟩;have HB3:=qaa hC3.below;have c5:w3.cell? ⟨w2.heap.size,5,none⟩=some (.int .i64 E):=qab hC3.told 5;clear hC3 HC2))
 go_ret;exact⟨rfl,HB3.out⟩
end
section
open Go.ChangeShapes Go.WideShapes Go.ChangeAt Go.RowKit Go.Lib Go.Deep Go.ChangeMaps
theorem qx7:(prog.globals[6]?).map (·.type)=some 380:=by kernel_rfl
theorem qt9:prog.cellsOf 380=20:=by kernel_rfl
theorem qur:(Rows.laid_internal_strconv_uint64pow10:DataW Unit)=tabData .u64 pow10Tab:=by kernel_rfl
def qxc:List Int:=[0,1,56,2,57,49,28,3,61,58,42,50,38,29,17,4,62,47,59,36,45,43,51,22,53,39,33,30,24,18,12,5,63,55,48,27,60,41,37,16,46,35,44,21,52,32,23,11,54,26,40,15,34,20,31,10,25,14,19,9,13,8,7,6]
theorem qx5:(prog.globals[8]?).map (·.type)=some 389:=by kernel_rfl
theorem quK:prog.cellsOf 389=64:=by kernel_rfl
theorem qt0:prog.cellsOf 5=1:=by kernel_rfl
theorem quP:(Rows.laid_math_bits_deBruijn64tab:DataW Unit)=tabData .u8 qxc:=by kernel_rfl
theorem qu1 {W:World}(hL:laidMetH prog Rows.checksRow.laid W)(hS:W.ShapedOpen prog):qko W.heap.size W:=by
 have hL':laidMet prog Rows.checksRow.laid W:=hL;have hdb:W.cell? ⟨8,15,none⟩=some (.int .u8 4)∧9≤W.heap.size:=by
  obtain⟨g,t,cs,fuel,p,hg,hty,hvar,hd⟩:=laidMet.reads hL' (d:=Rows.laid_math_bits_deBruijn64tab) (.tail _ (.head _));obtain rfl:g=8:=Option.some.inj (hg.symm.trans (by kernel_rfl));obtain rfl:=Option.some.inj (qx5.symm.trans hty);rw[quP] at hd;have hcs:=cells_of_tab underlying389 underlying5 qt0 quK hd;have h1:=World.var?_cell hg hvar 15;refine⟨?_,?_⟩
  ·rw[h1,←Array.getElem?_toList,hcs];rfl
  unfold World.var? at hvar;rw[hg] at hvar;simp only[Option.bind_some] at hvar;split at hvar
  ·next h=>exact ltA h
  cases hvar
 refine⟨⟨(qpC hL hS).tabs,qrq hL,hdb.2⟩,?_,hdb.1,qpC hL hS,hdb.2,Nat.le_refl _⟩;refine Lib.tabBelow_of_tabIs ?_;obtain⟨g,t,cs,fuel,p,hg,hty,hvar,hd⟩:=laidMet.reads hL' (d:=Rows.laid_internal_strconv_uint64pow10) (.tail _ (.tail _ (.head _)));obtain rfl:g=6:=Option.some.inj (hg.symm.trans (by kernel_rfl));obtain rfl:=Option.some.inj (qx7.symm.trans hty);rw[qur] at hd;have hcs:=cells_of_tab underlying380 underlying271 qlK qt9 hd;have hv2:W.var? prog qnt=some cs:=by
  refine Eq.trans ?_ hvar;exact congrArg (fun s=>W.var? prog s) (by kernel_rfl)
 unfold TabIs;rw[hv2,←hcs]
section
variable {H:Type} {enc:TypeId×Value→H} {w:World}
theorem qrh {fuel:Nat}{v:Value}{x:DataW H×List MemPlace}(h:DataW.trod enc prog w 0 (fun _=>true) true fuel 25 [v]=some x)(hw:(x.1.weights prog 25).all (·≤reachBytes)=true):∃(a:Option Addr) (cap:Nat) (B:List Int),v=.slice a B.length cap∧qbV w a B∧B.length≤281474976710656∧∀i (h:i<B.length),-9223372036854775808≤B[i]∧B[i]≤9223372036854775807:=by
 obtain⟨a1,cap1,B1,e1,h1,_,h3⟩:=qom h hw;subst e1;refine⟨a1,cap1,B1,rfl,h1,by omega,fun i hi => ?_⟩;rcases open_slice1 underlying25 qcU h with ⟨hv,_⟩|⟨a,len,cap,m,n,V,D,Pl,hv,_,hl,hm,hmm,rfl,hx⟩
 ·injection hv with hv _;injection hv with _ hv _;omega
 have hmc:m=cap:=by rw[hmm];rfl
 subst hmc;injection hv with hv _;injection hv with e2 e3 e4;subst e2;obtain⟨b,off,e5,_,hc⟩:=h1.at_ i hi;have hil:i<m:=by omega
 obtain⟨z,hz,_,hwf⟩:=DataW.trod_int underlying3 (hx i hil).2;have hVi:V i=.int .i64 z:=by simpa using hz
 have hci:=(hx i hil).1;injection e5 with e5;subst e5;rw[qcn,hVi] at hci;have hB:=hc i hi;rw[hci] at hB;injection hB with hB;injection hB with _ hB;have:=hwf;simp[Lit.wf,IntKind.min,IntKind.max,IntKind.signed,IntKind.bits] at this;omega
end
end
section
open Go.ChangeShapes Go.WideShapes Go.ChangeAt Go.RowKit Go.Lib Go.Deep
theorem qrM {H:Type}{t1 t2 t3:TypeId}{d0 d1 d2:DataW H}{P:Program}(h:(DataW.weightsEach P ([t1,t2,t3]++[]) ([d0,d1,d2]++[])).all (·≤reachBytes)=true):(d0.weights P t1).all (·≤reachBytes)=true∧(d1.weights P t2).all (·≤reachBytes)=true∧(d2.weights P t3).all (·≤reachBytes)=true:=by
 simp only[List.append_nil,DataW.weightsEach,List.all_append,Bool.and_eq_true] at h;exact⟨h.1,h.2.1,h.2.2⟩
theorem qjm (H:Type)(enc:TypeId×Value→H)(W:World)(args:Array Value)(ds gs:List (DataW H))(before:List MemPlace)(base:Nat)(hval:∀(j:Nat) t v,f14.params[j]? = some t→args[j]? = some v→Value.okWide prog W .any base t v)(hW:DataW.Whole enc prog f14.params.toList Rows.cutSpec.vars false W args.toList ds gs before)(hwt:(DataW.weightsEach prog (f14.params.toList++[]) (ds++gs)).all (·≤reachBytes)=true)(hL:laidMetH prog Rows.cutRow.laid W)(hS:W.ShapedOpen prog):Calls prog 14 args W fun e W'=>∃v,e=.returned v∧Rows.cutSpec.post enc prog f14 false true false false W args v W':=by
 have hW':=hW;obtain⟨p,q,hA0,hV,rfl,hfz,hnd⟩:=hW;have hA:=hA0;rw[Tryz.params14] at hA hwt hval;obtain⟨v0,v1,v2,d0,d1,d2,p0,p1,p2,rfl,rfl,rfl,h0,h1,h2⟩:=trodAll_three hA;obtain⟨rfl,rfl⟩:=trodVars_none hV;obtain⟨ca,rfl,_⟩:=okWide_struct underlying45 (hval 0 45 v0 rfl rfl);obtain⟨a2,l2,c2,rfl⟩:=okWide_slice underlying25 (hval 2 25 v2 rfl rfl);obtain⟨hw0,hw1,hw2⟩:=qrM hwt;obtain⟨s,rfl,rfl,rfl,hs⟩:=Go.ChangeMaps.open_string underlying9 (hval 1 9 v1 rfl rfl) h1;obtain⟨n0,h0'⟩:=h0;obtain⟨n2,h2'⟩:=h2;obtain⟨c,hcs,hC⟩:=qwl (x:=(d0,p0)) h0' hw0;have hca:ca=c.arr:=Array.ext' hcs;subst hca;obtain⟨ka,kc,ks,ev,hK,hkl,hkr⟩:=qrh (v:=.slice a2 l2 c2) (x:=(d2,p2)) h2' hw2;cases ev;have hsl:s.data.toList.length≤281474976710656:=by
  have h3:=List.all_eq_true.1 hw1 s.data.toList.length (by unfold DataW.weights;exact List.mem_singleton.2 rfl);have h4:=of_decide_eq_true h3;have h5:reachBytes=140737488351232:=rfl;omega
 have hcut:=quF c W hC (qu1 hL hS) s.data.toList hsl a2 c2 ks hK hkl hkr;have hsd:(⟨s.data.toList.toArray⟩:ByteArray)=s:=by
  apply ByteArray.ext;simp
 rw[hsd] at hcut;refine hcut.mono ?_;rintro e W' ⟨rfl,hB⟩;have hlt:∀x∈p0++[]++p2++[],x.block<W.heap.size:=fun x hx=>hW'.lt x hx;refine⟨_,rfl,[d0,.lit (.string s.data.toList),d2],[],p0++[]++p2++[],[],p0++([]++p2),[],hW',trodAll_mk1 (shut_bool underlying4 true),?_,rfl,hB.frame _,fun h=>by cases h⟩;exact trodAll_mk3 (Below.trod Tryz.laidOut (by kernel_rfl) (of_decide_eq_true (by kernel_rfl)) ⟨n0,h0'⟩ hB (fun x hx=>hlt x (by simp[hx]))) (Go.ChangeMaps.shut_string underlying9 hs) (Below.trod Tryz.laidOut (by kernel_rfl) (of_decide_eq_true (by kernel_rfl)) ⟨n2,h2'⟩ hB (fun x hx=>hlt x (by simp[hx])))
def qig:Array Value:=#[.agg qxB.arr,.string ByteArray.empty,.slice none 0 0]
theorem qui (os:Os):laidMet prog Rows.cutRow.laid ((quD (World.holding prog os ⟨#[],#[],[]⟩)).forCall (fun _ _=>0) ⟨#[],qig,[]⟩).memory :=
 laidMet_of_run' 8 (by kernel_rfl) (by kernel_rfl)
theorem qnE (os:Os){H:Type}(enc:TypeId×Value→H):∃ds places,DataW.whole enc prog ((quD (World.holding prog os ⟨#[],#[],[]⟩)).forCall (fun _ _=>0) ⟨#[],qig,[]⟩).memory f14.params.toList Rows.cutSpec.vars false qig.toList 8=some (ds,[],places) :=
 ⟨[.agg [.lit (.int .i64 0),.nil,.lit (.int .i64 0),.lit (.string []),.lit (.int .i64 0),.lit (.int .i64 0),.lit (.int .i64 0),.lit (.int .i64 0),.lit (.int .i64 0),.lit (.int .i64 0),.nil],.lit (.string []),.nil],[],by kernel_rfl⟩
end
section
open Go.ChangeShapes Go.WideShapes Go.ChangeAt Go.RowKit Go.Lib
theorem qmq (os:Os)(started:os.Started)(H:Type)(enc:TypeId×Value→H)(F:Stop.Interp):ReturnsInHanded {} Tryz.checked os 14 .any ((OpenSpec.ofChange Rows.cutSpec).preRow enc prog f14 Rows.cutRow.domain false Rows.cutRow.laid) (((OpenSpec.ofChange Rows.cutSpec).at F).post enc prog f14 false true false false):=by
 obtain⟨ds,places,hx⟩:=qnE os enc;refine returnsInHanded_of_row (C:=Tryz.checked) (s:=OpenSpec.ofChange Rows.cutSpec) Tryz.own started (by kernel_rfl) func14
  (witness_row_at (enc:=enc) (C:=Tryz.checked) false (quD (World.holding prog os ⟨#[],#[],[]⟩)) qig rfl (by kernel_rfl) (by kernel_rfl) (by kernel_rfl)
   (OpenSpec.preRow_of_cond 8 hx (by kernel_rfl) (fun k hk=>by cases hk) (by kernel_rfl) (qui os))) ?_
 intro W base args ds gs before hval hW _ _ hwt hL hS _;exact qjm H enc W args ds gs before base hval hW hwt hL hS
theorem qvq:(Rows.cutRow.inPlace==Tryz.pinned.checked.prog.inPlace 14)=true:=by kernel_rfl
theorem qwn:(Rows.cutRow.unfollowed==Tryz.pinned.checked.prog.unfollowed 14)=true:=by kernel_rfl
theorem qw2:(Rows.cutRow.recurses==Tryz.pinned.checked.prog.recurses 14)=true:=by kernel_rfl
theorem qwu:(Rows.cutRow.named==Tryz.pinned.checked.prog.varsNamed 14)=true:=by kernel_rfl
theorem qo1:joinedFacts Tryz.pinned.checked.prog 14 f14 (OpenSpec.ofChange Rows.cutSpec).bare Rows.cutRow=true:=by
 unfold joinedFacts;rw[qvq,qwn,qw2,qwu];kernel_rfl
theorem qrt:Rows.CutSaid :=
 OpenClaim.holds_of_cond 14 f14 rfl rfl rfl rfl rfl rfl rfl ⟨rfl,rfl,rfl,rfl,rfl⟩ rfl rfl rfl rfl rfl (by kernel_rfl) func14 qo1
  (of_decide_eq_true (by kernel_rfl)) (by unfold Func.isWrapper;first|(rw[if_pos (by decide +kernel)];kernel_rfl)|(rw[if_neg (by decide +kernel)];exact⟨rfl,rfl⟩))
  (fun os started H enc _ F=>by rw[OpenClaim.pre_eq_preRow];exact qmq os started H enc F)
theorem qpI (f:FuncId)(fn:Func)(hf:Tryz.pinned.checked.prog.funcNamed Rows.cutRow.func=some f)(hfn:Tryz.pinned.checked.prog.funcs[f]? = some fn):true=Tryz.pinned.checked.prog.looks []∧∀(j:Nat) t,fn.params[j]? = some t→Tryz.pinned.checked.prog.wantsStandIn t=false:=by
 obtain rfl:f=14:=Option.some.inj ((show prog.funcNamed Rows.cutRow.func=some 14 by kernel_rfl).symm.trans hf) |>.symm;obtain rfl:fn=f14:=(Option.some.inj (func14.symm.trans hfn)).symm;refine⟨by kernel_rfl,fun j t ht => ?_⟩;rw[Tryz.params14] at ht;have hm:t∈#[(45:TypeId),9,25]:=Array.mem_of_getElem? ht;rcases(by simpa using hm:t=45∨t=9∨t=25) with rfl|rfl|rfl
 ·exact(show prog.wantsStandIn 45=false by kernel_rfl)
 ·exact(show prog.wantsStandIn 9=false by kernel_rfl)
 exact(show prog.wantsStandIn 25=false by kernel_rfl)
theorem cut_card:Rows.CutCardSaid :=
 Claim7.holds_tied_plain_at .later [] _ _ _ _ qrt (fun _ h=>by cases h) (by kernel_rfl) (fun _ h=>by cases h) cut_row_tie rfl ⟨rfl,rfl⟩ (by kernel_rfl) rfl qpI (by kernel_rfl)
#print axioms cut_card
end
end Go.Proofs.YtllcbnfmihfaaaaGreatDoor
