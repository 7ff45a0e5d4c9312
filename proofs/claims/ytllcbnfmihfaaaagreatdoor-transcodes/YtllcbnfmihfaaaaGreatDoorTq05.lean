import Derived.Test.YtllcbnfmihfaaaaGreatDoorTq02
import Derived.Test.YtllcbnfmihfaaaaGreatDoorTq03
set_option maxRecDepth 100000
set_option maxHeartbeats 8000000
namespace Go.Proofs.YtllcbnfmihfaaaaGreatDoor
open Go.Proofs.Tryz
section
open Go.RowKit
def qvc (x:Nat):Bool:=decide (56320≤x∧x≤57343)
def qwL (x:Nat):Bool:=decide (55296≤x∧x≤56319)
theorem qiW (x:Nat)(w:World):Calls prog 321 #[.int .i32 x] w fun e w'=>e=.returned (.bool (qvc x))∧w'=w:=by
 unfold qvc;by_cases h1:56320≤x
 ·by_cases h2:x≤57343
  ·have e9:decide ((x:Int)≤57343)=true:=by simp;omega
   rw[decide_eq_true ⟨h1,h2⟩];go_enter func321,ntmps321;go_wp2;go_ret;exact⟨rfl,rfl⟩
  have e9:decide ((x:Int)≤57343)=false:=by simp;omega
  rw[decide_eq_false (by omega)];go_enter func321,ntmps321;go_wp2;go_ret;exact⟨rfl,rfl⟩
 rw[decide_eq_false (by omega)];go_enter func321,ntmps321;go_wp2;go_ret;exact⟨rfl,rfl⟩
theorem qmT (x:Nat)(w:World):Calls prog 322 #[.int .i32 x] w fun e w'=>e=.returned (.bool (qwL x))∧w'=w:=by
 unfold qwL;by_cases h1:55296≤x
 ·by_cases h2:x≤56319
  ·have e9:decide ((x:Int)≤56319)=true:=by simp;omega
   rw[decide_eq_true ⟨h1,h2⟩];go_enter func322,ntmps322;go_wp2;go_ret;exact⟨rfl,rfl⟩
  have e9:decide ((x:Int)≤56319)=false:=by simp;omega
  rw[decide_eq_false (by omega)];go_enter func322,ntmps322;go_wp2;go_ret;exact⟨rfl,rfl⟩
 rw[decide_eq_false (by omega)];go_enter func322,ntmps322;go_wp2;go_ret;exact⟨rfl,rfl⟩
theorem qi9 {bs:List UInt8}{lim:Int}:∀{k p a x q:Nat},qgA bs lim k p a=.ok (x,q)→x<(a+1)*16^k∧q=p+k
 |0,p,a,x,q,h=>by
  unfold qgA at h;cases h;simp
 |k+1,p,a,x,q,h=>by
  rw[qgA] at h;split at h
  ·cases h
  split at h
  ·cases h
  split at h
  ·cases h
  next d hd =>
  obtain⟨h1,h2⟩:=qi9 h;have h3:=qnW hd;have h4:(a*16+d+1)*16^k≤((a+1)*16)*16^k:=Nat.mul_le_mul_right _ (by omega);have h5:((a+1)*16)*16^k=(a+1)*16^(k+1):=by rw[Nat.mul_assoc,Nat.pow_succ,Nat.mul_comm 16]
  exact⟨by omega,by omega⟩
def qgy (bs:List UInt8)(lim:Int)(p:Nat):Except (Int×Int) (Int×Nat):=match qgA bs lim 4 p 0 with
 |.error e=>.error e
 |.ok (x,q)=>if qvc x=true then .error (9,(q:Int)-1) else if qwL x=true then (match qaT bs lim [92,117] q with
  |.error e=>.error e
  |.ok (_,q2)=>match qgA bs lim 4 q2 0 with
   |.error e=>.error e
   |.ok (y,q3)=>if qvc y=true then .ok (65536+((x:Int)-55296)*1024+((y:Int)-56320),q3) else .error (9,(q3:Int)-1)) else .ok (x,q)
theorem qj3 (W:World)(b:Nat)(s:Src)(h:qad W b s):Calls prog 314 #[.agg #[.pointer (some ⟨b,0,none⟩)]] W (qbJ W b s (fun x:Int=>.int .i32 x) (qgy s.bs s.lim s.pos)):=by
 have HX0:=qaa (qaR h);obtain⟨R,HR⟩:∃R,Hid (qgy s.bs s.lim s.pos=R):=⟨_,show _=_ from rfl⟩
 rw[HR.out];have hr:=HR.out;unfold qgy at hr;have kb:=HX0.out.cell;have cX:=qgd _ b s HX0.out.src;go_enter func314,ntmps314
 go_wp2_with fail
 refine cX.mono ?_;rintro e w2 ⟨hB,hF⟩;rcases hx:qgA s.bs s.lim 4 s.pos 0 with ⟨en,pl⟩|⟨x,q⟩
 ·simp only[hx] at hr hF;subst hr;obtain rfl:=(show qao en pl e from hF)
  go_wp2;exact⟨rfl,HX0.out.but.trans hB,rfl⟩
 simp only[hx] at hr hF;have hxb:=(qi9 hx).1;obtain⟨rfl,hS⟩:=hF;obtain⟨HX2,kb⟩:=rdK HX0 hS hB
 go_wp2_with fail
 refine(qiW x _).mono ?_;rintro e w3 ⟨rfl,rfl⟩;cases hlo:qvc x
 ·rw[hlo,if_neg (by decide)] at hr
  go_wp2_with fail
  refine(qmT x _).mono ?_;rintro e w3 ⟨rfl,rfl⟩;cases hhi:qwL x
  ·rw[hhi,if_neg (by decide)] at hr;subst hr;go_wp2;go_ret;exact⟨HX2.out.but,rfl,HX2.out.src⟩
  rw[hhi,if_pos rfl] at hr;have hh:=of_decide_eq_true (show decide (55296≤x∧x≤56319)=true from hhi)
  go_wp2_with fail
  refine(qbv _ b {s with pos:=q} [92,117] (by decide) HX2.out.src).mono ?_;rintro e w4 ⟨hB,hF⟩;rcases hq:qaT s.bs s.lim [92,117] q with ⟨en,pl⟩|⟨_,q2⟩
  ·simp only[hq] at hr hF;subst hr;obtain rfl:=(show qao en pl e from hF)
   go_wp2;exact⟨rfl,HX2.out.but.trans hB,rfl⟩
  simp only[hq] at hr hF;obtain⟨rfl,hS⟩:=hF;obtain⟨HX4,kb⟩:=rdK HX2 hS hB
  go_wp2_with fail
  refine(qgd _ b {s with pos:=q2} HX4.out.src).mono ?_;rintro e w5 ⟨hB,hF⟩;rcases hy:qgA s.bs s.lim 4 q2 0 with ⟨en,pl⟩|⟨y,q3⟩
  ·simp only[hy] at hr hF;subst hr;obtain rfl:=(show qao en pl e from hF)
   go_wp2;exact⟨rfl,HX4.out.but.trans hB,rfl⟩
  simp only[hy] at hr hF;obtain⟨rfl,hS⟩:=hF;obtain⟨HX5,kb⟩:=rdK HX4 hS hB
  go_wp2_with fail
  refine(qiW y _).mono ?_;rintro e w6 ⟨rfl,rfl⟩;cases hlo2:qvc y
  ·rw[hlo2,if_neg (by decide)] at hr;subst hr
   go_wp2_with fail
   refine(qat _ b {s with pos:=q3} _ HX5.out.src).mono ?_;rintro e w7 ⟨rfl,rfl⟩;go_wp2;exact⟨rfl,HX5.out.but,rfl⟩
  rw[hlo2,if_pos rfl] at hr;have hl2:=of_decide_eq_true (show decide (56320≤y∧y≤57343)=true from hlo2);subst hr;go_wp2;go_ret;exact⟨HX5.out.but,by first|rfl|(simp;omega),HX5.out.src⟩
 rw[hlo,if_pos rfl] at hr;subst hr
 go_wp2_with fail
 refine(qat _ b {s with pos:=q} _ HX2.out.src).mono ?_;rintro e w7 ⟨rfl,rfl⟩;go_wp2;exact⟨rfl,HX2.out.but,rfl⟩
def qnj (bs:List UInt8)(lim:Int)(p:Nat):Except (Int×Int) (Int×Nat):=match bs[p]? with
 |none=>.error (9,p)
 |some c=>if (p:Int)=lim then .error (8,p) else if c.toNat=34 then .ok (34,p+1) else if c.toNat=92 then .ok (92,p+1) else if c.toNat=47 then .ok (47,p+1) else if c.toNat=98 then .ok (8,p+1) else if c.toNat=102 then .ok (12,p+1) else if c.toNat=110 then .ok (10,p+1) else if c.toNat=114 then .ok (13,p+1) else if c.toNat=116 then .ok (9,p+1) else if c.toNat=117 then qgy bs lim (p+1) else .error (9,p)
theorem qgJ (W:World)(b:Nat)(s:Src)(h:qad W b s):Calls prog 307 #[.agg #[.pointer (some ⟨b,0,none⟩)]] W (qbJ W b s (fun x:Int=>.int .i32 x) (qnj s.bs s.lim s.pos)):=by
 have HX0:=qaa (qaR h);obtain⟨R,HR⟩:∃R,Hid (qnj s.bs s.lim s.pos=R):=⟨_,show _=_ from rfl⟩
 rw[HR.out];have hr:=HR.out;unfold qnj at hr;have kb:=HX0.out.cell;clear h HR;rcases qaM HX0.out.src with h1|h1|⟨c,h1⟩
 ·rw[List.getElem?_eq_none (by have:s.pos=s.bs.length:=h1;omega)] at hr;subst hr;have cT:=qbm _ b s HX0.out.src h1;clear h1;go_enter func307,ntmps307
  go_wp2_with (first
   |(go_at_call 294;refine cT.mono ?_;clear cT;rintro e w2 ⟨hF,hB⟩;obtain rfl:=hF))
  exact⟨rfl,HX0.out.but.trans (But.of_below hB),rfl⟩
 ·have h2:=h1.2;have h3:=h1.1;rw[List.getElem?_eq_getElem h3] at hr;simp only[] at hr;rw[if_pos h2] at hr;subst hr;have cT:=qaP _ b s HX0.out.src h1;clear h1 h2 h3;go_enter func307,ntmps307
  go_wp2_with (first
   |(go_at_call 294;refine cT.mono ?_;clear cT;rintro e w2 ⟨hF,hB⟩;obtain rfl:=hF))
  exact⟨rfl,HX0.out.but.trans (But.of_below hB),rfl⟩
 have hc1:=h1.1;have hc2:=h1.2;rw[hc1] at hr;simp only[] at hr;rw[if_neg hc2] at hr;have cT:Calls prog 294 #[.pointer (some ⟨b,0,none⟩)] _ fun e W'=>e=.returned (.int .u8 c.toNat)∧qad W' b {s with pos:=s.pos+1}∧But b _ W':=qau _ b s c HX0.out.src h1;clear h1 hc1 hc2;go_enter func307,ntmps307
 go_wp2_with fail
 refine cT.mono ?_;clear cT kb;rintro e w2 ⟨rfl,hS,hB⟩;obtain⟨HX2,kb⟩:=rdK HX0 hS hB;clear HX0 hS hB;by_cases g34:c.toNat=34
 ·rw[if_pos g34] at hr;subst hr;have f34:((c.toNat:Int)==34)=true:=by simp;omega
  have HV:Hid (wrap32 (c.toNat:Int)=34):=by show _=_;unfold wrap32;omega
  clear g34;go_wp2;go_ret;exact⟨HX2.out.but,by show Ending.returned (.int .i32 (wrap32 (c.toNat:Int)))=_;rw[HV.out],HX2.out.src⟩
 rw[if_neg g34] at hr;have f34:=nec (c:=c) 34 (by omega);by_cases g92:c.toNat=92
 ·rw[if_pos g92] at hr;subst hr;have f92:((c.toNat:Int)==92)=true:=by simp;omega
  have HV:Hid (wrap32 (c.toNat:Int)=92):=by show _=_;unfold wrap32;omega
  clear g34 g92;go_wp2;go_ret;exact⟨HX2.out.but,by show Ending.returned (.int .i32 (wrap32 (c.toNat:Int)))=_;rw[HV.out],HX2.out.src⟩
 rw[if_neg g92] at hr;have f92:=nec (c:=c) 92 (by omega);by_cases g47:c.toNat=47
 ·rw[if_pos g47] at hr;subst hr;have f47:((c.toNat:Int)==47)=true:=by simp;omega
  have HV:Hid (wrap32 (c.toNat:Int)=47):=by show _=_;unfold wrap32;omega
  clear g34 g92 g47;go_wp2;go_ret;exact⟨HX2.out.but,by show Ending.returned (.int .i32 (wrap32 (c.toNat:Int)))=_;rw[HV.out],HX2.out.src⟩
 rw[if_neg g47] at hr;have f47:=nec (c:=c) 47 (by omega);by_cases g98:c.toNat=98
 ·rw[if_pos g98] at hr;subst hr;have f98:((c.toNat:Int)==98)=true:=by simp;omega
  clear g34 g92 g47 g98;go_wp2;go_ret;exact⟨HX2.out.but,rfl,HX2.out.src⟩
 rw[if_neg g98] at hr;have f98:=nec (c:=c) 98 (by omega);by_cases g102:c.toNat=102
 ·rw[if_pos g102] at hr;subst hr;have f102:((c.toNat:Int)==102)=true:=by simp;omega
  clear g34 g92 g47 g98 g102;go_wp2;go_ret;exact⟨HX2.out.but,rfl,HX2.out.src⟩
 rw[if_neg g102] at hr;have f102:=nec (c:=c) 102 (by omega);by_cases g110:c.toNat=110
 ·rw[if_pos g110] at hr;subst hr;have f110:((c.toNat:Int)==110)=true:=by simp;omega
  clear g34 g92 g47 g98 g102 g110;go_wp2;go_ret;exact⟨HX2.out.but,rfl,HX2.out.src⟩
 rw[if_neg g110] at hr;have f110:=nec (c:=c) 110 (by omega);by_cases g114:c.toNat=114
 ·rw[if_pos g114] at hr;subst hr;have f114:((c.toNat:Int)==114)=true:=by simp;omega
  clear g34 g92 g47 g98 g102 g110 g114;go_wp2;go_ret;exact⟨HX2.out.but,rfl,HX2.out.src⟩
 rw[if_neg g114] at hr;have f114:=nec (c:=c) 114 (by omega);by_cases g116:c.toNat=116
 ·rw[if_pos g116] at hr;subst hr;have f116:((c.toNat:Int)==116)=true:=by simp;omega
  clear g34 g92 g47 g98 g102 g110 g114 g116;go_wp2;go_ret;exact⟨HX2.out.but,rfl,HX2.out.src⟩
 rw[if_neg g116] at hr;have f116:=nec (c:=c) 116 (by omega);by_cases g117:c.toNat=117
 ·rw[if_pos g117] at hr;have f117:((c.toNat:Int)==117)=true:=by simp;omega
  clear g34 g92 g47 g98 g102 g110 g114 g116 g117;have cC:=fun V (hV:qad V b {s with pos:=s.pos+1})=>qj3 V b {s with pos:=s.pos+1} hV;have cC2:∀V,qad V b {s with pos:=s.pos+1}→Calls prog 314 #[.agg #[.pointer (some ⟨b,0,none⟩)]] V (qbJ V b {s with pos:=s.pos+1} (fun x:Int=>.int .i32 x) R):=by rw[←hr];exact cC
  clear cC hr;rcases R with ⟨en,pl⟩|⟨z,q⟩
  ·go_wp2_with (first
    |(go_at_call 314;refine(cC2 _ HX2.out.src).mono ?_;clear cC2 kb;rintro e w3 ⟨hB,hF⟩;obtain rfl:=hF))
   exact⟨rfl,HX2.out.but.trans hB,rfl⟩
  go_wp2_with (first
   |(go_at_call 314;refine(cC2 _ HX2.out.src).mono ?_;clear cC2 kb;rintro e w3 ⟨hB,rfl,hS⟩))
  go_ret;exact⟨HX2.out.but.trans hB,rfl,hS⟩
 rw[if_neg g117] at hr;have f117:=nec (c:=c) 117 (by omega);subst hr;clear g34 g92 g47 g98 g102 g110 g114 g116 g117
 go_wp2_with (first
  |(go_at_call 295;refine(qat _ b {s with pos:=s.pos+1} _ HX2.out.src).mono ?_;rintro e w7 ⟨hF,rfl⟩;obtain rfl:=hF))
 exact⟨rfl,HX2.out.but,by show qao _ _ _;unfold qao qeh;simp⟩
theorem qtp:∀(s:Fin 8) (x:Fin 32),bits .or .u8 ((s.val:Int)*32) (x.val:Int)=((32*s.val+x.val:Nat):Int):=by decide
theorem qew (s x:Nat)(hs:s<8)(hx:x<32):qav (UInt8.ofNat (32*s+x))=.int .u8 (bits .or .u8 ((s:Int)*32) (x:Int)):=by
 rw[qaQ _ (by omega)];have:=qtp ⟨s,hs⟩ ⟨x,hx⟩;simp only[] at this;rw[this]
theorem qbl (W:World)(base:Nat)(v:Value)(bs:List UInt8)(s x:Nat)(hs:s<8)(hx:x<18446744073709551616)(hl:bs.length≤999999999)(h:Own W base v bs):Calls prog 163 #[v,.int .u8 s,.int .u64 x] W fun e W'=>∃v',e=.returned v'∧Own W' base v' (bs++qaj s x)∧Below base W W':=by
 obtain⟨i0,hi,hz0,hz1,hz2⟩:=info_parts Tryz.infoU8;obtain⟨ho,hb,a,n,c,rfl⟩:=h;have HO:=qaa ho;by_cases c0:x<24
 ·have hr:Hid (qaj s x=UInt8.ofNat (32*s+x)::[]):=by show _=_;unfold qaj;rw[if_pos c0]
  go_enter func163,ntmps163
  go_wp2_with (first
    |(at_builtin;refine wpList_append_own _ rfl _ _ 28 rfl base 5 i0 (.int .u8 0) 1 1 underlying28 hi hz0 hz1 hz2 rfl (by decide) _ _ _ rfl (HO.out.alloc _) ⟨W.heap.size,0,none⟩ 1 1 [.int .u8 (bits .or .u8 ((s:Int)*32) (x:Int))] rfl rfl (qag _ _ _) (fun u hu=>by simp at hu;subst hu;rfl) (by unfold maxLen;omega) (by omega) (by simp;omega) ?_;intro v' w5 hown' hgrow5 hnil5;obtain⟨g5,cap5,rfl⟩:=ownsRow_succ hown';have HB:Hid (Own w5 base _ (bs++[UInt8.ofNat (32*s+x)])∧Below base W w5):=qax hb HO.out (qew s _ hs (by omega)) hown' hgrow5))
  go_ret;rw[hr.out];exact⟨_,rfl,HB.out⟩
 skip
 by_cases c1:x≤255
 ·have hr:Hid (qaj s x=UInt8.ofNat (32*s+24)::beF x 1):=by show _=_;unfold qaj;rw[if_neg c0];rw[if_pos c1]
  go_enter func163,ntmps163
  go_wp2_with (first
    |(at_builtin;refine wpList_append_own _ rfl _ _ 28 rfl base 5 i0 (.int .u8 0) 1 1 underlying28 hi hz0 hz1 hz2 rfl (by decide) _ _ _ rfl (HO.out.alloc _) ⟨W.heap.size,0,none⟩ 1 1 [.int .u8 (bits .or .u8 ((s:Int)*32) 24)] rfl rfl (qag _ _ _) (fun u hu=>by simp at hu;subst hu;rfl) (by unfold maxLen;omega) (by omega) (by simp;omega) ?_;intro v' w5 hown' hgrow5 hnil5;obtain⟨g5,cap5,rfl⟩:=ownsRow_succ hown';have HB:Hid (Own w5 base _ (bs++[UInt8.ofNat (32*s+24)])∧Below base W w5):=qax hb HO.out (qew s _ hs (by omega)) hown' hgrow5)
    |(go_at_call 202;refine(qaq _ base _ _ (x) 1 (by omega) (by omega) (by simp;omega) HB.out.1).mono ?_;rintro e w6 ⟨v6,rfl,h6,hB6⟩;obtain⟨h61,h62,a6,n6,c6,rfl⟩:=h6;have HC:=qaa (qaJ HB.out ⟨h61,h62,a6,n6,c6,rfl⟩ hB6 (hr.out.symm))))
  go_ret;exact⟨_,rfl,HC.out⟩
 skip
 by_cases c2:x≤65535
 ·have hr:Hid (qaj s x=UInt8.ofNat (32*s+25)::beF x 2):=by show _=_;unfold qaj;rw[if_neg c0];rw[if_neg c1];rw[if_pos c2]
  go_enter func163,ntmps163
  go_wp2_with (first
    |(at_builtin;refine wpList_append_own _ rfl _ _ 28 rfl base 5 i0 (.int .u8 0) 1 1 underlying28 hi hz0 hz1 hz2 rfl (by decide) _ _ _ rfl (HO.out.alloc _) ⟨W.heap.size,0,none⟩ 1 1 [.int .u8 (bits .or .u8 ((s:Int)*32) 25)] rfl rfl (qag _ _ _) (fun u hu=>by simp at hu;subst hu;rfl) (by unfold maxLen;omega) (by omega) (by simp;omega) ?_;intro v' w5 hown' hgrow5 hnil5;obtain⟨g5,cap5,rfl⟩:=ownsRow_succ hown';have HB:Hid (Own w5 base _ (bs++[UInt8.ofNat (32*s+25)])∧Below base W w5):=qax hb HO.out (qew s _ hs (by omega)) hown' hgrow5)
    |(go_at_call 202;refine(qaq _ base _ _ (x) 2 (by omega) (by omega) (by simp;omega) HB.out.1).mono ?_;rintro e w6 ⟨v6,rfl,h6,hB6⟩;obtain⟨h61,h62,a6,n6,c6,rfl⟩:=h6;have HC:=qaa (qaJ HB.out ⟨h61,h62,a6,n6,c6,rfl⟩ hB6 (hr.out.symm))))
  go_ret;exact⟨_,rfl,HC.out⟩
 skip
 by_cases c3:x≤4294967295
 ·have hr:Hid (qaj s x=UInt8.ofNat (32*s+26)::beF x 4):=by show _=_;unfold qaj;rw[if_neg c0];rw[if_neg c1];rw[if_neg c2];rw[if_pos c3]
  go_enter func163,ntmps163
  go_wp2_with (first
    |(at_builtin;refine wpList_append_own _ rfl _ _ 28 rfl base 5 i0 (.int .u8 0) 1 1 underlying28 hi hz0 hz1 hz2 rfl (by decide) _ _ _ rfl (HO.out.alloc _) ⟨W.heap.size,0,none⟩ 1 1 [.int .u8 (bits .or .u8 ((s:Int)*32) 26)] rfl rfl (qag _ _ _) (fun u hu=>by simp at hu;subst hu;rfl) (by unfold maxLen;omega) (by omega) (by simp;omega) ?_;intro v' w5 hown' hgrow5 hnil5;obtain⟨g5,cap5,rfl⟩:=ownsRow_succ hown';have HB:Hid (Own w5 base _ (bs++[UInt8.ofNat (32*s+26)])∧Below base W w5):=qax hb HO.out (qew s _ hs (by omega)) hown' hgrow5)
    |(go_at_call 202;refine(qaq _ base _ _ (x) 4 (by omega) (by omega) (by simp;omega) HB.out.1).mono ?_;rintro e w6 ⟨v6,rfl,h6,hB6⟩;obtain⟨h61,h62,a6,n6,c6,rfl⟩:=h6;have HC:=qaa (qaJ HB.out ⟨h61,h62,a6,n6,c6,rfl⟩ hB6 (hr.out.symm))))
  go_ret;exact⟨_,rfl,HC.out⟩
 skip
 have hr:Hid (qaj s x=UInt8.ofNat (32*s+27)::beF x 8):=by show _=_;unfold qaj;rw[if_neg c0];rw[if_neg c1];rw[if_neg c2];rw[if_neg c3]
 go_enter func163,ntmps163
 go_wp2_with (first
   |(at_builtin;refine wpList_append_own _ rfl _ _ 28 rfl base 5 i0 (.int .u8 0) 1 1 underlying28 hi hz0 hz1 hz2 rfl (by decide) _ _ _ rfl (HO.out.alloc _) ⟨W.heap.size,0,none⟩ 1 1 [.int .u8 (bits .or .u8 ((s:Int)*32) 27)] rfl rfl (qag _ _ _) (fun u hu=>by simp at hu;subst hu;rfl) (by unfold maxLen;omega) (by omega) (by simp;omega) ?_;intro v' w5 hown' hgrow5 hnil5;obtain⟨g5,cap5,rfl⟩:=ownsRow_succ hown';have HB:Hid (Own w5 base _ (bs++[UInt8.ofNat (32*s+27)])∧Below base W w5):=qax hb HO.out (qew s _ hs (by omega)) hown' hgrow5)
   |(go_at_call 202;refine(qaq _ base _ _ (x) 8 (by omega) (by omega) (by simp;omega) HB.out.1).mono ?_;rintro e w6 ⟨v6,rfl,h6,hB6⟩;obtain⟨h61,h62,a6,n6,c6,rfl⟩:=h6;have HC:=qaa (qaJ HB.out ⟨h61,h62,a6,n6,c6,rfl⟩ hB6 (hr.out.symm))))
 go_ret;exact⟨_,rfl,HC.out⟩
theorem qbF (W:World)(base:Nat)(v:Value)(bs:List UInt8)(z:Int)(w:Nat)(hw:w≤8)(hl:bs.length≤1000000000)(h:Own W base v bs):Calls prog 202 #[v,.int .u64 (IntKind.u64.wrap z),.int .i64 w] W fun e W'=>∃v',e=.returned v'∧Own W' base v' (bs++beF (z%18446744073709551616).toNat w)∧Below base W W':=by
 have e:IntKind.u64.wrap z=(((z%18446744073709551616).toNat:Nat):Int):=by unfold IntKind.wrap;simp[IntKind.bits,IntKind.signed];omega
 rw[e];exact qaq W base v bs _ w (by omega) hw hl h
theorem qkE (W:World)(base:Nat)(v:Value)(bs:List UInt8)(z:Int)(hn1 : -9223372036854775808≤z)(hn2:z<0)(hl:bs.length≤999999999)(h:Own W base v bs):Calls prog 165 #[v,.int .i64 z] W fun e W'=>∃v',e=.returned v'∧Own W' base v' (bs++qbo z)∧Below base W W':=by
 obtain⟨i0,hi,hz0,hz1,hz2⟩:=info_parts Tryz.infoU8;obtain⟨ho,hb,a,n,c,rfl⟩:=h;have HO:=qaa ho;by_cases c0 : -32≤z
 ·have hr:Hid (qbo z=UInt8.ofNat (z%256).toNat::[]):=by show _=_;unfold qbo;rw[if_pos c0]
  go_enter func165,ntmps165
  go_wp2_with (first
    |(at_builtin;refine wpList_append_own _ rfl _ _ 28 rfl base 5 i0 (.int .u8 0) 1 1 underlying28 hi hz0 hz1 hz2 rfl (by decide) _ _ _ rfl (HO.out.alloc _) ⟨W.heap.size,0,none⟩ 1 1 [.int .u8 (z%256)] rfl rfl (qag _ _ _) (fun u hu=>by simp at hu;subst hu;rfl) (by unfold maxLen;omega) (by omega) (by simp;omega) ?_;intro v' w5 hown' hgrow5 hnil5;obtain⟨g5,cap5,rfl⟩:=ownsRow_succ hown';have HB:Hid (Own w5 base _ (bs++[UInt8.ofNat (z%256).toNat])∧Below base W w5):=qax hb HO.out ((qaQ _ (by omega)).trans (by congr 1;omega)) hown' hgrow5))
  go_ret;rw[hr.out];exact⟨_,rfl,HB.out⟩
 skip
 by_cases c1 : -128≤z
 ·have hr:Hid (qbo z=208::beF (z%18446744073709551616).toNat 1):=by show _=_;unfold qbo;rw[if_neg c0];rw[if_pos c1]
  go_enter func165,ntmps165
  go_wp2_with (first
    |(at_builtin;refine wpList_append_own _ rfl _ _ 28 rfl base 5 i0 (.int .u8 0) 1 1 underlying28 hi hz0 hz1 hz2 rfl (by decide) _ _ _ rfl (HO.out.alloc _) ⟨W.heap.size,0,none⟩ 1 1 [.int .u8 208] rfl rfl (qag _ _ _) (fun u hu=>by simp at hu;subst hu;rfl) (by unfold maxLen;omega) (by omega) (by simp;omega) ?_;intro v' w5 hown' hgrow5 hnil5;obtain⟨g5,cap5,rfl⟩:=ownsRow_succ hown';have HB:Hid (Own w5 base _ (bs++[208])∧Below base W w5):=qax hb HO.out (rfl) hown' hgrow5)
    |(go_at_call 202;refine(qbF _ base _ _ z 1 (by omega) (by simp;omega) HB.out.1).mono ?_;rintro e w6 ⟨v6,rfl,h6,hB6⟩;obtain⟨h61,h62,a6,n6,c6,rfl⟩:=h6;have HC:=qaa (qaJ HB.out ⟨h61,h62,a6,n6,c6,rfl⟩ hB6 (hr.out.symm))))
  go_ret;exact⟨_,rfl,HC.out⟩
 skip
 by_cases c2 : -32768≤z
 ·have hr:Hid (qbo z=209::beF (z%18446744073709551616).toNat 2):=by show _=_;unfold qbo;rw[if_neg c0];rw[if_neg c1];rw[if_pos c2]
  go_enter func165,ntmps165
  go_wp2_with (first
    |(at_builtin;refine wpList_append_own _ rfl _ _ 28 rfl base 5 i0 (.int .u8 0) 1 1 underlying28 hi hz0 hz1 hz2 rfl (by decide) _ _ _ rfl (HO.out.alloc _) ⟨W.heap.size,0,none⟩ 1 1 [.int .u8 209] rfl rfl (qag _ _ _) (fun u hu=>by simp at hu;subst hu;rfl) (by unfold maxLen;omega) (by omega) (by simp;omega) ?_;intro v' w5 hown' hgrow5 hnil5;obtain⟨g5,cap5,rfl⟩:=ownsRow_succ hown';have HB:Hid (Own w5 base _ (bs++[209])∧Below base W w5):=qax hb HO.out (rfl) hown' hgrow5)
    |(go_at_call 202;refine(qbF _ base _ _ z 2 (by omega) (by simp;omega) HB.out.1).mono ?_;rintro e w6 ⟨v6,rfl,h6,hB6⟩;obtain⟨h61,h62,a6,n6,c6,rfl⟩:=h6;have HC:=qaa (qaJ HB.out ⟨h61,h62,a6,n6,c6,rfl⟩ hB6 (hr.out.symm))))
  go_ret;exact⟨_,rfl,HC.out⟩
 skip
 by_cases c3 : -2147483648≤z
 ·have hr:Hid (qbo z=210::beF (z%18446744073709551616).toNat 4):=by show _=_;unfold qbo;rw[if_neg c0];rw[if_neg c1];rw[if_neg c2];rw[if_pos c3]
  go_enter func165,ntmps165
  go_wp2_with (first
    |(at_builtin;refine wpList_append_own _ rfl _ _ 28 rfl base 5 i0 (.int .u8 0) 1 1 underlying28 hi hz0 hz1 hz2 rfl (by decide) _ _ _ rfl (HO.out.alloc _) ⟨W.heap.size,0,none⟩ 1 1 [.int .u8 210] rfl rfl (qag _ _ _) (fun u hu=>by simp at hu;subst hu;rfl) (by unfold maxLen;omega) (by omega) (by simp;omega) ?_;intro v' w5 hown' hgrow5 hnil5;obtain⟨g5,cap5,rfl⟩:=ownsRow_succ hown';have HB:Hid (Own w5 base _ (bs++[210])∧Below base W w5):=qax hb HO.out (rfl) hown' hgrow5)
    |(go_at_call 202;refine(qbF _ base _ _ z 4 (by omega) (by simp;omega) HB.out.1).mono ?_;rintro e w6 ⟨v6,rfl,h6,hB6⟩;obtain⟨h61,h62,a6,n6,c6,rfl⟩:=h6;have HC:=qaa (qaJ HB.out ⟨h61,h62,a6,n6,c6,rfl⟩ hB6 (hr.out.symm))))
  go_ret;exact⟨_,rfl,HC.out⟩
 skip
 have hr:Hid (qbo z=211::beF (z%18446744073709551616).toNat 8):=by show _=_;unfold qbo;rw[if_neg c0];rw[if_neg c1];rw[if_neg c2];rw[if_neg c3]
 go_enter func165,ntmps165
 go_wp2_with (first
   |(at_builtin;refine wpList_append_own _ rfl _ _ 28 rfl base 5 i0 (.int .u8 0) 1 1 underlying28 hi hz0 hz1 hz2 rfl (by decide) _ _ _ rfl (HO.out.alloc _) ⟨W.heap.size,0,none⟩ 1 1 [.int .u8 211] rfl rfl (qag _ _ _) (fun u hu=>by simp at hu;subst hu;rfl) (by unfold maxLen;omega) (by omega) (by simp;omega) ?_;intro v' w5 hown' hgrow5 hnil5;obtain⟨g5,cap5,rfl⟩:=ownsRow_succ hown';have HB:Hid (Own w5 base _ (bs++[211])∧Below base W w5):=qax hb HO.out (rfl) hown' hgrow5)
   |(go_at_call 202;refine(qbF _ base _ _ z 8 (by omega) (by simp;omega) HB.out.1).mono ?_;rintro e w6 ⟨v6,rfl,h6,hB6⟩;obtain⟨h61,h62,a6,n6,c6,rfl⟩:=h6;have HC:=qaa (qaJ HB.out ⟨h61,h62,a6,n6,c6,rfl⟩ hB6 (hr.out.symm))))
 go_ret;exact⟨_,rfl,HC.out⟩
end
end Go.Proofs.YtllcbnfmihfaaaaGreatDoor
