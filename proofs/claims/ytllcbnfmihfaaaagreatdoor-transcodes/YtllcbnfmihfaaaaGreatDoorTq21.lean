import Derived.Test.YtllcbnfmihfaaaaGreatDoorTq20
import Derived.Test.YtllcbnfmihfaaaaGreatDoorTq12
set_option maxRecDepth 100000
set_option maxHeartbeats 8000000
namespace Go.Proofs.YtllcbnfmihfaaaaGreatDoor
open Go.Proofs.Tryz
variable {b:Nat}{V W:World}
section
open Go.RowKit
def qnZ (sp:Nat→Except (Int×Int) (Unit×Nat))(th:Nat→Except (Int×Int) (DataW Unit×Nat))(bs:List UInt8)(lim:Int):Except (Int×Int) (DataW Unit) :=
 match sp 0 with
 |.error e=>.error e
 |.ok (_,p0)=>match th p0 with
  |.error e=>.error e
  |.ok (d,p1)=>match sp p1 with
   |.error e=>.error e
   |.ok (_,p2)=>match qqn ⟨none,bs,0,0,lim,p2,0⟩ with
    |.error e=>.error e
    |.ok _=>.ok d
def qg6 (k:Nat)(W:World)(r:Except (Int×Int) (DataW Unit))(e:Ending)(W':World):Prop :=
 Below W.heap.size W W'∧match r with
 |.ok d=>∃t y,e=.returned (.iface t y)∧qai k W' (fun j=>W.heap.size≤j∧j<W'.heap.size) (.iface t y) d
 |.error (en,pl)=>qao en pl e
theorem qjI.toJ {k:Nat}{s:Src}{r:Except (Int×Int) (DataW Unit×Nat)}{e:Ending}{W':World}(h:qjI k W b s r e W'):qc7 k W b s r e W':=by
 refine⟨h.1,?_⟩;have h2:=h.2
 cases r with
 |ok x=>exact h2
 |error x=>exact h2.1
theorem qkz (k:Nat)(W:World)(fm:Int)(ia:Option Addr)(bs:List UInt8)(cap:Nat)(d l:Int)(h:qa4 W ia bs)(sp:Nat→Except (Int×Int) (Unit×Nat))(th:Nat→Except (Int×Int) (DataW Unit×Nat))(cR:∀V,qa4 V ia bs→Calls prog 65 #[.int .i64 fm,.agg #[.int .i64 d,.int .i64 l],.slice ia bs.length cap] V fun e W'=>∃b,e=.returned (.iface 198 (.agg #[.pointer (some ⟨b,0,none⟩)]))∧qad W' b ⟨ia,bs,cap,d,l,0,0⟩∧V.heap.size≤b∧Below V.heap.size V W')(cS:∀(b:Nat) (V:World) (p:Nat),W.heap.size≤b→qad V b ⟨ia,bs,cap,d,l,p,0⟩→Calls prog 297 #[.agg #[.pointer (some ⟨b,0,none⟩)]] V (qbJ V b ⟨ia,bs,cap,d,l,p,0⟩ (fun _:Unit=>.tuple #[]) (sp p)))(cT:∀(b:Nat) (V:World) (p:Nat),W.heap.size≤b→Below W.heap.size W V→qad V b ⟨ia,bs,cap,d,l,p,0⟩→Calls prog 296 #[.agg #[.pointer (some ⟨b,0,none⟩)]] V (qc7 k V b ⟨ia,bs,cap,d,l,p,0⟩ (th p))):Calls prog 41 #[.int .i64 fm,.agg #[.int .i64 d,.int .i64 l],.slice ia bs.length cap] W (qg6 k W (qnZ sp th bs l)):=by
 have hb0:Below W.heap.size W (W.alloc (.cells #[.int .i64 d,.int .i64 l] 86)):=bwA;have HB0:=qaa hb0;have cN:=cR (W.alloc (.cells #[.int .i64 d,.int .i64 l] 86)) (h.below hb0);obtain⟨R,HR⟩:∃R,Hid (qnZ sp th bs l=R):=⟨_,show _=_ from rfl⟩
 rw[HR.out];have hr:=HR.out;unfold qnZ at hr;go_enter func41,ntmps41
 go_wp2_with (first
  |(go_at_call 65;refine cN.mono ?_;rintro e w2 ⟨b,rfl,hS,hbl,hB⟩))
 have HBW:=qaa (HB0.out.trans (hB.mono HB0.out.size));have hbl2:W.heap.size≤b:=by simp only[World.size_alloc] at hbl;omega
 have cS1:=cS b w2 0 hbl2 hS;have cSb:=fun (V:World) (p:Nat) hV=>cS b V p hbl2 hV;have cTb:=fun (V:World) (p:Nat) (hB:Below W.heap.size W V) hV=>cT b V p hbl2 hB hV;refine qdj (y:=(297,.agg #[.pointer (some ⟨b,0,none⟩)])) (w:=w2) (by kernel_rfl) ?_
 go_wp2_with fail
 cases h1:sp 0 with
 |error er =>
  obtain⟨en,pl⟩:=er;rw[h1] at hr cS1;simp only[] at hr;subst hr;refine cS1.mono ?_;rintro e w3 ⟨hB3,hF⟩;obtain rfl:=(show qao en pl e from hF)
  go_wp2;exact⟨rfl,qaC HBW.out hB3 hbl2,rfl⟩
 |ok uq =>
  obtain⟨u0,p0⟩:=uq;rw[h1] at hr cS1;simp only[] at hr;refine cS1.mono ?_;rintro e w3 ⟨hB3,hF3⟩;obtain⟨rfl,hS3⟩:=(show e=.returned (.tuple #[])∧qad w3 b ⟨ia,bs,cap,d,l,p0,0⟩ from hF3)
  have HBW3:=qaa (qaC HBW.out hB3 hbl2);have cT1:=cTb w3 p0 HBW3.out hS3;have hbw3:=qaa (ltA hS3.row)
  go_wp2_with fail
  refine qdj (y:=(296,.agg #[.pointer (some ⟨b,0,none⟩)])) (w:=w3) (by kernel_rfl) ?_
  go_wp2_with fail
  cases h2:th p0 with
  |error er =>
   obtain⟨en,pl⟩:=er;rw[h2] at hr cT1;simp only[] at hr;subst hr;refine cT1.mono ?_;rintro e w4 ⟨hB4,hF⟩;obtain rfl:=(show qao en pl e from hF)
   go_wp2;exact⟨rfl,qaC HBW3.out hB4 hbl2,rfl⟩
  |ok dq =>
   obtain⟨dd,p1⟩:=dq;rw[h2] at hr cT1;simp only[] at hr;refine cT1.mono ?_;rintro e w4 ⟨hB4,hF4⟩;obtain⟨⟨t,y,rfl,hD4⟩,hS4⟩:=(show(∃t y,e=.returned (.iface t y)∧qai k w4 (fun j=>w3.heap.size≤j∧j<w4.heap.size) (.iface t y) dd)∧qad w4 b ⟨ia,bs,cap,d,l,p1,0⟩ from hF4)
   have HBW4:=qaa (qaC HBW3.out hB4 hbl2);have hbb:=hbw3.out;have HD:Hid (qai k w4 (fun j=>b<j∧j<w4.heap.size) (.iface t y) dd):=hD4.same (fun j hj=>⟨Nat.lt_of_lt_of_le hbb hj.1,hj.2⟩) (fun _ _=>rfl);have cS2:=cSb w4 p1 hS4
   go_wp2_with fail
   refine qdj (y:=(297,.agg #[.pointer (some ⟨b,0,none⟩)])) (w:=w4) (by kernel_rfl) ?_
   go_wp2_with fail
   cases h3:sp p1 with
   |error er =>
    obtain⟨en,pl⟩:=er;rw[h3] at hr cS2;simp only[] at hr;subst hr;refine cS2.mono ?_;rintro e w5 ⟨hB5,hF⟩;obtain rfl:=(show qao en pl e from hF)
    go_wp2;exact⟨rfl,qaC HBW4.out hB5 hbl2,rfl⟩
   |ok uq =>
    obtain⟨u2,p2⟩:=uq;rw[h3] at hr cS2;simp only[] at hr;refine cS2.mono ?_;rintro e w5 ⟨hB5,hF5⟩;obtain⟨rfl,hS5⟩:=(show e=.returned (.tuple #[])∧qad w5 b ⟨ia,bs,cap,d,l,p2,0⟩ from hF5)
    have HBW5:=qaa (qaC HBW4.out hB5 hbl2);have HD5:Hid (qai k w5 (fun j=>b<j∧j<w5.heap.size) (.iface t y) dd):=HD.out.same (fun j hj=>⟨hj.1,Nat.lt_of_lt_of_le hj.2 hB5.size⟩) (fun j hj=>hB5.block j hj.2 (by omega));have cE:Calls prog 290 #[.pointer (some ⟨b,0,none⟩)] w5 (qbJ w5 b ⟨ia,bs,cap,d,l,p2,0⟩ (fun _:Unit=>.tuple #[]) (qqn ⟨none,bs,0,0,l,p2,0⟩)):=qgi w5 b ⟨ia,bs,cap,d,l,p2,0⟩ hS5
    go_wp2_with fail
    refine qdj (y:=(290,.pointer (some ⟨b,0,none⟩))) (w:=w5) (by kernel_rfl) ?_
    go_wp2_with fail
    cases h4:qqn ⟨none,bs,0,0,l,p2,0⟩ with
    |error er =>
     obtain⟨en,pl⟩:=er;rw[h4] at hr cE;simp only[] at hr;subst hr;refine cE.mono ?_;rintro e w6 ⟨hB6,hF⟩;obtain rfl:=(show qao en pl e from hF)
     go_wp2;exact⟨rfl,qaC HBW5.out hB6 hbl2,rfl⟩
    |ok uq =>
     obtain⟨u4,p4⟩:=uq;rw[h4] at hr cE;simp only[] at hr;subst hr;refine cE.mono ?_;rintro e w6 ⟨hB6,hF6⟩;obtain⟨rfl,hS6⟩:=(show e=.returned (.tuple #[])∧qad w6 b ⟨ia,bs,cap,d,l,p4,0⟩ from hF6)
     have HD6:Hid (qai k w6 (fun j=>W.heap.size≤j∧j<w6.heap.size) (.iface t y) dd):=HD5.out.same (fun j hj=>⟨by omega,Nat.lt_of_lt_of_le hj.2 hB6.size⟩) (fun j hj=>hB6.block j hj.2 (by omega));have HBW6:=qaa (qaC HBW5.out hB6 hbl2);go_wp2;go_ret;exact⟨HBW6.out,_,_,rfl,HD6.out⟩
theorem qfW (k:Nat)(W:World)(fm:Int)(f:Nat)(ia:Option Addr)(bs:List UInt8)(cap:Nat)(d l:Int)(h:qa4 W ia bs)(sp:Nat→Except (Int×Int) (Unit×Nat))(th:Nat→Except (Int×Int) (DataW Unit×Nat))(cR:∀V,qa4 V ia bs→Calls prog 65 #[.int .i64 fm,.agg #[.int .i64 d,.int .i64 l],.slice ia bs.length cap] V fun e W'=>∃b,e=.returned (.iface 201 (.agg #[.pointer (some ⟨b,0,none⟩),.func (.func f) #[] #[]]))∧qad W' b ⟨ia,bs,cap,d,l,0,0⟩∧V.heap.size≤b∧Below V.heap.size V W')(cS:∀(b:Nat) (V:World) (p:Nat),W.heap.size≤b→qad V b ⟨ia,bs,cap,d,l,p,0⟩→Calls prog 291 #[.pointer (some ⟨b,0,none⟩)] V (qbJ V b ⟨ia,bs,cap,d,l,p,0⟩ (fun _:Unit=>.tuple #[]) (sp p)))(cT:∀(b:Nat) (V:World) (p:Nat),W.heap.size≤b→Below W.heap.size W V→qad V b ⟨ia,bs,cap,d,l,p,0⟩→Calls prog 325 #[.agg #[.pointer (some ⟨b,0,none⟩),.func (.func f) #[] #[]]] V (qc7 k V b ⟨ia,bs,cap,d,l,p,0⟩ (th p))):Calls prog 41 #[.int .i64 fm,.agg #[.int .i64 d,.int .i64 l],.slice ia bs.length cap] W (qg6 k W (qnZ sp th bs l)):=by
 have hb0:Below W.heap.size W (W.alloc (.cells #[.int .i64 d,.int .i64 l] 86)):=bwA;have HB0:=qaa hb0;have cN:=cR (W.alloc (.cells #[.int .i64 d,.int .i64 l] 86)) (h.below hb0);obtain⟨R,HR⟩:∃R,Hid (qnZ sp th bs l=R):=⟨_,show _=_ from rfl⟩
 rw[HR.out];have hr:=HR.out;unfold qnZ at hr;go_enter func41,ntmps41
 go_wp2_with (first
  |(go_at_call 65;refine cN.mono ?_;rintro e w2 ⟨b,rfl,hS,hbl,hB⟩))
 have HBW:=qaa (HB0.out.trans (hB.mono HB0.out.size));have hbl2:W.heap.size≤b:=by simp only[World.size_alloc] at hbl;omega
 have cS1:=cS b w2 0 hbl2 hS;have cSb:=fun (V:World) (p:Nat) hV=>cS b V p hbl2 hV;have cTb:=fun (V:World) (p:Nat) (hB:Below W.heap.size W V) hV=>cT b V p hbl2 hB hV;refine qdj (y:=(291,.pointer (some ⟨b,0,none⟩))) (w:=w2) (by kernel_rfl) ?_
 go_wp2_with fail
 cases h1:sp 0 with
 |error er =>
  obtain⟨en,pl⟩:=er;rw[h1] at hr cS1;simp only[] at hr;subst hr;refine cS1.mono ?_;rintro e w3 ⟨hB3,hF⟩;obtain rfl:=(show qao en pl e from hF)
  go_wp2;exact⟨rfl,qaC HBW.out hB3 hbl2,rfl⟩
 |ok uq =>
  obtain⟨u0,p0⟩:=uq;rw[h1] at hr cS1;simp only[] at hr;refine cS1.mono ?_;rintro e w3 ⟨hB3,hF3⟩;obtain⟨rfl,hS3⟩:=(show e=.returned (.tuple #[])∧qad w3 b ⟨ia,bs,cap,d,l,p0,0⟩ from hF3)
  have HBW3:=qaa (qaC HBW.out hB3 hbl2);have cT1:=cTb w3 p0 HBW3.out hS3;have hbw3:=qaa (ltA hS3.row)
  go_wp2_with fail
  refine qdj (y:=(325,.agg #[.pointer (some ⟨b,0,none⟩),.func (.func f) #[] #[]])) (w:=w3) (by kernel_rfl) ?_
  go_wp2_with fail
  cases h2:th p0 with
  |error er =>
   obtain⟨en,pl⟩:=er;rw[h2] at hr cT1;simp only[] at hr;subst hr;refine cT1.mono ?_;rintro e w4 ⟨hB4,hF⟩;obtain rfl:=(show qao en pl e from hF)
   go_wp2;exact⟨rfl,qaC HBW3.out hB4 hbl2,rfl⟩
  |ok dq =>
   obtain⟨dd,p1⟩:=dq;rw[h2] at hr cT1;simp only[] at hr;refine cT1.mono ?_;rintro e w4 ⟨hB4,hF4⟩;obtain⟨⟨t,y,rfl,hD4⟩,hS4⟩:=(show(∃t y,e=.returned (.iface t y)∧qai k w4 (fun j=>w3.heap.size≤j∧j<w4.heap.size) (.iface t y) dd)∧qad w4 b ⟨ia,bs,cap,d,l,p1,0⟩ from hF4)
   have HBW4:=qaa (qaC HBW3.out hB4 hbl2);have hbb:=hbw3.out;have HD:Hid (qai k w4 (fun j=>b<j∧j<w4.heap.size) (.iface t y) dd):=hD4.same (fun j hj=>⟨Nat.lt_of_lt_of_le hbb hj.1,hj.2⟩) (fun _ _=>rfl);have cS2:=cSb w4 p1 hS4
   go_wp2_with fail
   refine qdj (y:=(291,.pointer (some ⟨b,0,none⟩))) (w:=w4) (by kernel_rfl) ?_
   go_wp2_with fail
   cases h3:sp p1 with
   |error er =>
    obtain⟨en,pl⟩:=er;rw[h3] at hr cS2;simp only[] at hr;subst hr;refine cS2.mono ?_;rintro e w5 ⟨hB5,hF⟩;obtain rfl:=(show qao en pl e from hF)
    go_wp2;exact⟨rfl,qaC HBW4.out hB5 hbl2,rfl⟩
   |ok uq =>
    obtain⟨u2,p2⟩:=uq;rw[h3] at hr cS2;simp only[] at hr;refine cS2.mono ?_;rintro e w5 ⟨hB5,hF5⟩;obtain⟨rfl,hS5⟩:=(show e=.returned (.tuple #[])∧qad w5 b ⟨ia,bs,cap,d,l,p2,0⟩ from hF5)
    have HBW5:=qaa (qaC HBW4.out hB5 hbl2);have HD5:Hid (qai k w5 (fun j=>b<j∧j<w5.heap.size) (.iface t y) dd):=HD.out.same (fun j hj=>⟨hj.1,Nat.lt_of_lt_of_le hj.2 hB5.size⟩) (fun j hj=>hB5.block j hj.2 (by omega));have cE:Calls prog 290 #[.pointer (some ⟨b,0,none⟩)] w5 (qbJ w5 b ⟨ia,bs,cap,d,l,p2,0⟩ (fun _:Unit=>.tuple #[]) (qqn ⟨none,bs,0,0,l,p2,0⟩)):=qgi w5 b ⟨ia,bs,cap,d,l,p2,0⟩ hS5
    go_wp2_with fail
    refine qdj (y:=(290,.pointer (some ⟨b,0,none⟩))) (w:=w5) (by kernel_rfl) ?_
    go_wp2_with fail
    cases h4:qqn ⟨none,bs,0,0,l,p2,0⟩ with
    |error er =>
     obtain⟨en,pl⟩:=er;rw[h4] at hr cE;simp only[] at hr;subst hr;refine cE.mono ?_;rintro e w6 ⟨hB6,hF⟩;obtain rfl:=(show qao en pl e from hF)
     go_wp2;exact⟨rfl,qaC HBW5.out hB6 hbl2,rfl⟩
    |ok uq =>
     obtain⟨u4,p4⟩:=uq;rw[h4] at hr cE;simp only[] at hr;subst hr;refine cE.mono ?_;rintro e w6 ⟨hB6,hF6⟩;obtain⟨rfl,hS6⟩:=(show e=.returned (.tuple #[])∧qad w6 b ⟨ia,bs,cap,d,l,p4,0⟩ from hF6)
     have HD6:Hid (qai k w6 (fun j=>W.heap.size≤j∧j<w6.heap.size) (.iface t y) dd):=HD5.out.same (fun j hj=>⟨by omega,Nat.lt_of_lt_of_le hj.2 hB6.size⟩) (fun j hj=>hB6.block j hj.2 (by omega));have HBW6:=qaa (qaC HBW5.out hB6 hbl2);go_wp2;go_ret;exact⟨HBW6.out,_,_,rfl,HD6.out⟩
structure qeK (W:World):Prop where
 u8:U8 W
 hd:qdh W
 big:9≤W.heap.size
theorem U8.but (h:U8 W)(hV:But b W V)(h7:7<b)(hb:9≤W.heap.size):U8 V:=by
 have hc:∀(q off:Nat) (v:Value),q≤7→W.cell? ⟨q,off,none⟩=some v→V.cell? ⟨q,off,none⟩=some v:=fun q off v hq hv=>(World.cell?_of_block (w:=W) (hV.block q (by omega) (by omega))).trans hv;exact⟨fun c hc'=>hc _ _ _ (by decide) (h.1 c hc'),fun i hi=>⟨hc _ _ _ (by decide) (h.2 i hi).1,hc _ _ _ (by decide) (h.2 i hi).2⟩⟩
theorem qeK.below (h:qeK W)(hb:Below W.heap.size W V):qeK V:=⟨h.u8.below hb,h.hd.below hb,Nat.le_trans h.big hb.size⟩
theorem qvm:(List.range 256).all (fun c=>decide ((qiN c).1≤10∧(qiN c).2.1≤8∧((qiN c).2.1=0∨(qiN c).2.2=0)∧(qiN c).2.2<18446744073709551616))=true:=by kernel_rfl
theorem qvl:∀c,c<256→(qiN c).1≤10∧(qiN c).2.1≤8∧((qiN c).2.1=0∨(qiN c).2.2=0)∧(qiN c).2.2<18446744073709551616:=fun c hc=>of_decide_eq_true (List.all_eq_true.1 qvm c (List.mem_range.2 hc))
theorem qvI:(List.range 256).all (fun c=>decide ((qfo c).1≤10∧(qfo c).2.1≤8∧((qfo c).2.1=0∨(qfo c).2.2=0)∧(qfo c).2.2<18446744073709551616))=true:=by kernel_rfl
theorem qvE:∀c,c<256→(qfo c).1≤10∧(qfo c).2.1≤8∧((qfo c).2.1=0∨(qfo c).2.2=0)∧(qfo c).2.2<18446744073709551616:=fun c hc=>of_decide_eq_true (List.all_eq_true.1 qvI c (List.mem_range.2 hc))
theorem qub (h:qdh W)(hb:1<b):qeJ 107 qiN b W :=
 ⟨.inl rfl,fun c hc=>(qvl c hc).1,fun c hc=>(qvl c hc).2,fun c V hV=>qjL V c.toNat c.toNat_lt (h.but hV hb)⟩
theorem qtc (h:qdh W)(hb:1<b):qeJ 108 qfo b W :=
 ⟨.inr rfl,fun c hc=>(qvE c hc).1,fun c hc=>(qvE c hc).2,fun c V hV=>qj7 V c.toNat c.toNat_lt (h.but hV hb)⟩
def spO (fm:Int)(bs:List UInt8)(lim:Int)(p:Nat):Except (Int×Int) (Unit×Nat):=if fm=1 then spF bs lim (bs.length+1-p) p else .ok ((),p)
def thO (fm:Int)(bs:List UInt8)(d lim:Int)(p:Nat):Except (Int×Int) (DataW Unit×Nat) :=
 if fm=1 then thJ bs lim d (fun c p=>qg4 ⟨none,bs,0,0,lim,p,0⟩ c) (d.toNat+1) 0 p else if fm=2 then thB qiN bs lim d (d.toNat+1) 0 p else thB qfo bs lim d (d.toNat+1) 0 p
def qgE (fm:Int)(bs:List UInt8)(d lim:Int):Except (Int×Int) (DataW Unit):=qnZ (spO fm bs lim) (thO fm bs d lim) bs lim
theorem qjq (W:World)(fm:Int)(ia:Option Addr)(bs:List UInt8)(cap:Nat)(d l:Int)(hfm:fm=1∨fm=2∨fm=3)(h:qa4 W ia bs)(ht:qeK W)(hd0:0≤d)(hd1:d≤100000)(hlen:bs.length≤200000000):Calls prog 41 #[.int .i64 fm,.agg #[.int .i64 d,.int .i64 l],.slice ia bs.length cap] W (qg6 (d.toNat+1) W (qgE fm bs d l)):=by
 have hbig:=ht.big;rcases hfm with rfl|rfl|rfl
 ·have e1:spO 1 bs l=fun p=>spF bs l (bs.length+1-p) p:=by funext p;unfold spO;rw[if_pos rfl]
  have e2:thO 1 bs d l=fun p=>thJ bs l d (fun c p=>qg4 ⟨none,bs,0,0,l,p,0⟩ c) (d.toNat+1) 0 p:=by funext p;unfold thO;rw[if_pos rfl]
  unfold qgE;rw[e1,e2];refine qkz (d.toNat+1) W 1 ia bs cap d l h _ _ (fun V hV=>qgQ V ia bs cap d l hV) (fun b V p hb hS=>qaN V b ⟨ia,bs,cap,d,l,p,0⟩ hS) (fun b V p hb hB hS => ?_);exact qcp (d.toNat+1) V b ⟨ia,bs,cap,d,l,p,0⟩ hS hlen (fun U hU=>(ht.below hB).u8.but hU (by omega) (ht.below hB).big) (by omega) hd1 (by simpa using hd0) (by show d<((0:Nat):Int)+((d.toNat+1:Nat):Int);omega)
 ·have e1:spO 2 bs l=fun p=>.ok ((),p):=by funext p;unfold spO;rw[if_neg (by decide)]
  have e2:thO 2 bs d l=fun p=>thB qiN bs l d (d.toNat+1) 0 p:=by funext p;unfold thO;rw[if_neg (by decide),if_pos rfl]
  unfold qgE;rw[e1,e2];refine qfW (d.toNat+1) W 2 107 ia bs cap d l h _ _ (fun V hV=>qgH V ia bs cap d l hV) (fun b V p hb hS=>(qei V b).mono ?_) (fun b V p hb hB hS => ?_)
  ·rintro e w ⟨rfl,rfl⟩;exact⟨But.refl _ _,rfl,hS⟩
  exact(qbD qiN 107 (d.toNat+1) V b ⟨ia,bs,cap,d,l,p,0⟩ hS hlen (fun U hU=>(ht.below hB).u8.but hU (by omega) (ht.below hB).big) (by omega) (qub (ht.below hB).hd (by omega)) hd1 (by simpa using hd0) (by show d<((0:Nat):Int)+((d.toNat+1:Nat):Int);omega)).mono fun e w hh=>hh.toJ
 have e1:spO 3 bs l=fun p=>.ok ((),p):=by funext p;unfold spO;rw[if_neg (by decide)]
 have e2:thO 3 bs d l=fun p=>thB qfo bs l d (d.toNat+1) 0 p:=by funext p;unfold thO;rw[if_neg (by decide),if_neg (by decide)]
 unfold qgE;rw[e1,e2];refine qfW (d.toNat+1) W 3 108 ia bs cap d l h _ _ (fun V hV=>qgP V ia bs cap d l hV) (fun b V p hb hS=>(qei V b).mono ?_) (fun b V p hb hB hS => ?_)
 ·rintro e w ⟨rfl,rfl⟩;exact⟨But.refl _ _,rfl,hS⟩
 exact(qbD qfo 108 (d.toNat+1) V b ⟨ia,bs,cap,d,l,p,0⟩ hS hlen (fun U hU=>(ht.below hB).u8.but hU (by omega) (ht.below hB).big) (by omega) (qtc (ht.below hB).hd (by omega)) hd1 (by simpa using hd0) (by show d<((0:Nat):Int)+((d.toNat+1:Nat):Int);omega)).mono fun e w hh=>hh.toJ
theorem q09 {P:Program}{f:FuncId}{args:Array Value}{w:World}{R:Ending→World→Prop}{p:Prop}(h:Calls P f args w R)(hp:∀e w',R e w'→p):p:=by
 obtain⟨e,w',fr,hR,_⟩:=h [];exact hp e w' hR
end
end Go.Proofs.YtllcbnfmihfaaaaGreatDoor
