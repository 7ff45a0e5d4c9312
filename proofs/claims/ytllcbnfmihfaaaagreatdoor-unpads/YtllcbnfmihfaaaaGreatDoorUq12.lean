import Derived.Test.YtllcbnfmihfaaaaGreatDoorUq02
set_option maxRecDepth 100000
set_option maxHeartbeats 8000000
namespace Go.Proofs.YtllcbnfmihfaaaaGreatDoor
open Go.Proofs.Tryz
section
open Go.RowKit
def qlI (x:Nat):Bool:=decide (56320≤x∧x≤57343)
def qnL (x:Nat):Bool:=decide (55296≤x∧x≤56319)
theorem qgx (x:Nat)(w:World):Calls prog 321 #[.int .i32 x] w fun e w'=>e=.returned (.bool (qlI x))∧w'=w:=by
 unfold qlI
 by_cases h1:56320≤x
 ·by_cases h2:x≤57343
  ·have e9:decide ((x:Int)≤57343)=true:=by simp;omega
   rw[decide_eq_true ⟨h1,h2⟩]
   go_enter func321,ntmps321
   go_wp2
   go_ret
   exact⟨rfl,rfl⟩
  ·have e9:decide ((x:Int)≤57343)=false:=by simp;omega
   rw[decide_eq_false (by omega)]
   go_enter func321,ntmps321
   go_wp2
   go_ret
   exact⟨rfl,rfl⟩
 ·rw[decide_eq_false (by omega)]
  go_enter func321,ntmps321
  go_wp2
  go_ret
  exact⟨rfl,rfl⟩
theorem qjt (x:Nat)(w:World):Calls prog 322 #[.int .i32 x] w fun e w'=>e=.returned (.bool (qnL x))∧w'=w:=by
 unfold qnL
 by_cases h1:55296≤x
 ·by_cases h2:x≤56319
  ·have e9:decide ((x:Int)≤56319)=true:=by simp;omega
   rw[decide_eq_true ⟨h1,h2⟩]
   go_enter func322,ntmps322
   go_wp2
   go_ret
   exact⟨rfl,rfl⟩
  ·have e9:decide ((x:Int)≤56319)=false:=by simp;omega
   rw[decide_eq_false (by omega)]
   go_enter func322,ntmps322
   go_wp2
   go_ret
   exact⟨rfl,rfl⟩
 ·rw[decide_eq_false (by omega)]
  go_enter func322,ntmps322
  go_wp2
  go_ret
  exact⟨rfl,rfl⟩
theorem qfA {bs:List UInt8}{lim:Int}:∀{k p a x q:Nat},qbY bs lim k p a=.ok (x,q)→x<(a+1)*16^k∧q=p+k
 |0,p,a,x,q,h=>by
  unfold qbY at h
  cases h
  simp
 |k+1,p,a,x,q,h=>by
  rw[qbY] at h
  split at h
  ·cases h
  ·split at h
   ·cases h
   ·split at h
    ·cases h
    ·next d hd =>
     obtain⟨h1,h2⟩:=qfA h
     have h3:=qf1 hd
     have h4:(a*16+d+1)*16^k≤((a+1)*16)*16^k:=Nat.mul_le_mul_right _ (by omega)
     have h5:((a+1)*16)*16^k=(a+1)*16^(k+1):=by rw[Nat.mul_assoc,Nat.pow_succ,Nat.mul_comm 16]
     exact⟨by omega,by omega⟩
def qdr (bs:List UInt8)(lim:Int)(p:Nat):Except (Int×Int) (Int×Nat):=match qbY bs lim 4 p 0 with
 |.error e=>.error e
 |.ok (x,q)=>if qlI x=true then .error (9,(q:Int)-1) else if qnL x=true then (match qaw bs lim [92,117] q with
  |.error e=>.error e
  |.ok (_,q2)=>match qbY bs lim 4 q2 0 with
   |.error e=>.error e
   |.ok (y,q3)=>if qlI y=true then .ok (65536+((x:Int)-55296)*1024+((y:Int)-56320),q3) else .error (9,(q3:Int)-1)) else .ok (x,q)
theorem qhe (W:World)(b:Nat)(s:Src)(h:qad W b s):Calls prog 314 #[.agg #[.pointer (some ⟨b,0,none⟩)]] W (qbv W b s (fun x:Int=>.int .i32 x) (qdr s.bs s.lim s.pos)):=by
 have HX0:Hid (qcY W b W.heap.size s (W.alloc (.cells #[.pointer (some ⟨b,0,none⟩)] 198))):=qaP h
 obtain⟨R,HR⟩:∃R,Hid (qdr s.bs s.lim s.pos=R):=⟨_,show _=_ from rfl⟩
 rw[HR.out]
 have hr:=HR.out
 unfold qdr at hr
 have kb:=HX0.out.cell
 have cX:=qe2 _ b s HX0.out.src
 clear h HR
 rcases hx:qbY s.bs s.lim 4 s.pos 0 with ⟨en,pl⟩|⟨x,q⟩
 ·rw[hx] at hr cX
  subst hr
  clear hx
  go_enter func314,ntmps314
  go_wp2_with (first
   |(go_at_call 320;refine cX.mono ?_;clear cX kb;rintro e w2 ⟨hB,hF⟩;obtain rfl:=hF))
  exact⟨rfl,HX0.out.but.trans hB,rfl⟩
 ·rw[hx] at hr cX
  simp only[] at hr
  have hxb:=(qfA hx).1
  have cL:=fun w=>qgx x w
  have cHi:=fun w=>qjt x w
  clear hx
  cases hlo:qlI x
  ·rw[hlo] at hr cL
   rw[if_neg (by decide)] at hr
   cases hhi:qnL x
   ·rw[hhi] at hr cHi
    rw[if_neg (by decide)] at hr
    subst hr
    clear hlo hhi hxb
    go_enter func314,ntmps314
    go_wp2_with (first
     |(go_at_call 320;refine cX.mono ?_;clear cX kb;rintro e w2 ⟨hB,rfl,hS⟩;have HX2:=qac (HX0.out.step hS hB);clear HX0 hS hB;have kb:=HX2.out.cell)
     |(go_at_call 321;refine(cL _).mono ?_;clear cL;rintro e w3 ⟨rfl,rfl⟩)
     |(go_at_call 322;refine(cHi _).mono ?_;clear cHi;rintro e w3 ⟨rfl,rfl⟩))
    go_ret
    exact⟨HX2.out.but,rfl,HX2.out.src⟩
   ·rw[hhi] at hr cHi
    rw[if_pos rfl] at hr
    have hh:=of_decide_eq_true (show decide (55296≤x∧x≤56319)=true from hhi)
    have cR:=fun V (hV:qad V b {s with pos:=q})=>qbs V b {s with pos:=q} [92,117] (by decide) hV
    clear hlo hhi hxb
    rcases hq:qaw s.bs s.lim [92,117] q with ⟨en,pl⟩|⟨_,q2⟩
    ·rw[hq] at hr
     have cR2:∀V,qad V b {s with pos:=q}→Calls prog 298 #[.agg #[.pointer (some ⟨b,0,none⟩)],.string ⟨#[92,117]⟩] V (qbv V b {s with pos:=q} (fun _:Unit=>.tuple #[]) (.error (en,pl))):=by rw[←hq];exact cR
     subst hr
     clear cR hq
     go_enter func314,ntmps314
     go_wp2_with (first
      |(go_at_call 320;refine cX.mono ?_;clear cX kb;rintro e w2 ⟨hB,rfl,hS⟩;have HX2:=qac (HX0.out.step hS hB);clear HX0 hS hB;have kb:=HX2.out.cell)
      |(go_at_call 321;refine(cL _).mono ?_;clear cL;rintro e w3 ⟨rfl,rfl⟩)
      |(go_at_call 322;refine(cHi _).mono ?_;clear cHi;rintro e w3 ⟨rfl,rfl⟩)
      |(go_at_call 298;refine(cR2 _ HX2.out.src).mono ?_;clear cR2 kb;rintro e w4 ⟨hB,hF⟩;obtain rfl:=hF))
     exact⟨rfl,HX2.out.but.trans hB,rfl⟩
    ·rw[hq] at hr
     simp only[] at hr
     have cR2:∀V,qad V b {s with pos:=q}→Calls prog 298 #[.agg #[.pointer (some ⟨b,0,none⟩)],.string ⟨#[92,117]⟩] V (qbv V b {s with pos:=q} (fun _:Unit=>.tuple #[]) (.ok ((),q2))):=by rw[←hq];exact cR
     have cX2:=fun V (hV:qad V b {s with pos:=q2})=>qe2 V b {s with pos:=q2} hV
     clear cR hq
     rcases hy:qbY s.bs s.lim 4 q2 0 with ⟨en,pl⟩|⟨y,q3⟩
     ·rw[hy] at hr
      have cX3:∀V,qad V b {s with pos:=q2}→Calls prog 320 #[.agg #[.pointer (some ⟨b,0,none⟩)]] V (qbv V b {s with pos:=q2} (fun x:Nat=>.int .i32 x) (.error (en,pl))):=by rw[←hy];exact cX2
      subst hr
      clear cX2 hy
      have T1:True:=trivial
      go_enter func314,ntmps314
      go_wp2_with (first
       |(go_at_call 320;clear T1;refine cX.mono ?_;clear cX kb;rintro e w2 ⟨hB,rfl,hS⟩;have HX2:=qac (HX0.out.step hS hB);clear HX0 hS hB;have kb:=HX2.out.cell)
       |(go_at_call 321;refine(cL _).mono ?_;clear cL;rintro e w3 ⟨rfl,rfl⟩)
       |(go_at_call 322;refine(cHi _).mono ?_;clear cHi;rintro e w3 ⟨rfl,rfl⟩)
       |(go_at_call 298;refine(cR2 _ HX2.out.src).mono ?_;clear cR2 kb;rintro e w4 ⟨hB,rfl,hS⟩;have HX4:=qac (HX2.out.step hS hB);clear HX2 hS hB;have kb:=HX4.out.cell)
       |(go_at_call 320;refine(cX3 _ HX4.out.src).mono ?_;clear cX3 kb;rintro e w5 ⟨hB,hF⟩;obtain rfl:=hF))
      exact⟨rfl,HX4.out.but.trans hB,rfl⟩
     ·rw[hy] at hr
      simp only[] at hr
      have cX3:∀V,qad V b {s with pos:=q2}→Calls prog 320 #[.agg #[.pointer (some ⟨b,0,none⟩)]] V (qbv V b {s with pos:=q2} (fun x:Nat=>.int .i32 x) (.ok (y,q3))):=by rw[←hy];exact cX2
      have cL2:=fun w=>qgx y w
      clear cX2 hy
      have T1:True:=trivial
      have T2:True:=trivial
      cases hlo2:qlI y
      ·rw[hlo2] at hr cL2
       rw[if_neg (by decide)] at hr
       subst hr
       clear hlo2
       go_enter func314,ntmps314
       go_wp2_with (first
        |(go_at_call 320;clear T1;refine cX.mono ?_;clear cX kb;rintro e w2 ⟨hB,rfl,hS⟩;have HX2:=qac (HX0.out.step hS hB);clear HX0 hS hB;have kb:=HX2.out.cell)
        |(go_at_call 321;clear T2;refine(cL _).mono ?_;clear cL;rintro e w3 ⟨rfl,rfl⟩)
        |(go_at_call 322;refine(cHi _).mono ?_;clear cHi;rintro e w3 ⟨rfl,rfl⟩)
        |(go_at_call 298;refine(cR2 _ HX2.out.src).mono ?_;clear cR2 kb;rintro e w4 ⟨hB,rfl,hS⟩;have HX4:=qac (HX2.out.step hS hB);clear HX2 hS hB;have kb:=HX4.out.cell)
        |(go_at_call 320;refine(cX3 _ HX4.out.src).mono ?_;clear cX3 kb;rintro e w5 ⟨hB,rfl,hS⟩;have HX5:=qac (HX4.out.step hS hB);clear HX4 hS hB;have kb:=HX5.out.cell)
        |(go_at_call 321;refine(cL2 _).mono ?_;clear cL2;rintro e w6 ⟨rfl,rfl⟩)
        |(go_at_call 295;refine(qam _ b {s with pos:=q3} _ HX5.out.src).mono ?_;rintro e w7 ⟨hF,rfl⟩;obtain rfl:=hF))
       exact⟨rfl,HX5.out.but,rfl⟩
      ·rw[hlo2] at hr cL2
       rw[if_pos rfl] at hr
       have hl2:=of_decide_eq_true (show decide (56320≤y∧y≤57343)=true from hlo2)
       subst hr
       clear hlo2
       go_enter func314,ntmps314
       go_wp2_with (first
        |(go_at_call 320;clear T1;refine cX.mono ?_;clear cX kb;rintro e w2 ⟨hB,rfl,hS⟩;have HX2:=qac (HX0.out.step hS hB);clear HX0 hS hB;have kb:=HX2.out.cell)
        |(go_at_call 321;clear T2;refine(cL _).mono ?_;clear cL;rintro e w3 ⟨rfl,rfl⟩)
        |(go_at_call 322;refine(cHi _).mono ?_;clear cHi;rintro e w3 ⟨rfl,rfl⟩)
        |(go_at_call 298;refine(cR2 _ HX2.out.src).mono ?_;clear cR2 kb;rintro e w4 ⟨hB,rfl,hS⟩;have HX4:=qac (HX2.out.step hS hB);clear HX2 hS hB;have kb:=HX4.out.cell)
        |(go_at_call 320;refine(cX3 _ HX4.out.src).mono ?_;clear cX3 kb;rintro e w5 ⟨hB,rfl,hS⟩;have HX5:=qac (HX4.out.step hS hB);clear HX4 hS hB;have kb:=HX5.out.cell)
        |(go_at_call 321;refine(cL2 _).mono ?_;clear cL2;rintro e w6 ⟨rfl,rfl⟩))
       go_ret
       exact⟨HX5.out.but,by first|rfl|(simp;omega),HX5.out.src⟩
  ·rw[hlo] at hr cL
   rw[if_pos rfl] at hr
   subst hr
   clear hlo hxb cHi
   go_enter func314,ntmps314
   go_wp2_with (first
    |(go_at_call 320;refine cX.mono ?_;clear cX kb;rintro e w2 ⟨hB,rfl,hS⟩;have HX2:=qac (HX0.out.step hS hB);clear HX0 hS hB;have kb:=HX2.out.cell)
    |(go_at_call 321;refine(cL _).mono ?_;clear cL;rintro e w3 ⟨rfl,rfl⟩)
    |(go_at_call 295;refine(qam _ b {s with pos:=q} _ HX2.out.src).mono ?_;rintro e w7 ⟨hF,rfl⟩;obtain rfl:=hF))
   exact⟨rfl,HX2.out.but,rfl⟩
def qh3 (bs:List UInt8)(lim:Int)(p:Nat):Except (Int×Int) (Int×Nat):=match bs[p]? with
 |none=>.error (9,p)
 |some c=>if (p:Int)=lim then .error (8,p) else if c.toNat=34 then .ok (34,p+1) else if c.toNat=92 then .ok (92,p+1) else if c.toNat=47 then .ok (47,p+1) else if c.toNat=98 then .ok (8,p+1) else if c.toNat=102 then .ok (12,p+1) else if c.toNat=110 then .ok (10,p+1) else if c.toNat=114 then .ok (13,p+1) else if c.toNat=116 then .ok (9,p+1) else if c.toNat=117 then qdr bs lim (p+1) else .error (9,p)
theorem qeH (W:World)(b:Nat)(s:Src)(h:qad W b s):Calls prog 307 #[.agg #[.pointer (some ⟨b,0,none⟩)]] W (qbv W b s (fun x:Int=>.int .i32 x) (qh3 s.bs s.lim s.pos)):=by
 have HX0:Hid (qcY W b W.heap.size s (W.alloc (.cells #[.pointer (some ⟨b,0,none⟩)] 198))):=qaP h
 obtain⟨R,HR⟩:∃R,Hid (qh3 s.bs s.lim s.pos=R):=⟨_,show _=_ from rfl⟩
 rw[HR.out]
 have hr:=HR.out
 unfold qh3 at hr
 have kb:=HX0.out.cell
 clear h HR
 rcases qaO HX0.out.src with h1|h1|⟨c,h1⟩
 ·rw[List.getElem?_eq_none (by have:s.pos=s.bs.length:=h1;omega)] at hr
  subst hr
  have cT:=qbe _ b s HX0.out.src h1
  clear h1
  go_enter func307,ntmps307
  go_wp2_with (first
   |(go_at_call 294;refine cT.mono ?_;clear cT;rintro e w2 ⟨hF,hB⟩;obtain rfl:=hF))
  exact⟨rfl,HX0.out.but.trans (But.of_below hB),rfl⟩
 ·have h2:(s.pos:Int)=s.lim:=h1.2
  have h3:s.pos<s.bs.length:=h1.1
  rw[List.getElem?_eq_getElem h3] at hr
  simp only[] at hr
  rw[if_pos h2] at hr
  subst hr
  have cT:=qaN _ b s HX0.out.src h1
  clear h1 h2 h3
  go_enter func307,ntmps307
  go_wp2_with (first
   |(go_at_call 294;refine cT.mono ?_;clear cT;rintro e w2 ⟨hF,hB⟩;obtain rfl:=hF))
  exact⟨rfl,HX0.out.but.trans (But.of_below hB),rfl⟩
 ·have hc1:s.bs[s.pos]? = some c:=h1.1
  have hc2:¬(s.pos:Int)=s.lim:=h1.2
  rw[hc1] at hr
  simp only[] at hr
  rw[if_neg hc2] at hr
  have cT:Calls prog 294 #[.pointer (some ⟨b,0,none⟩)] _ fun e W'=>e=.returned (.int .u8 c.toNat)∧qad W' b {s with pos:=s.pos+1}∧But b _ W':=qax _ b s c HX0.out.src h1
  clear h1 hc1 hc2
  by_cases g34:c.toNat=34
  ·rw[if_pos g34] at hr
   subst hr
   have f34:((c.toNat:Int)==34)=true:=by simp;omega
   have HV:Hid (wrap32 (c.toNat:Int)=34):=by show _=_;unfold wrap32;omega
   clear g34
   go_enter func307,ntmps307
   go_wp2_with (first
    |(go_at_call 294;refine cT.mono ?_;clear cT kb;rintro e w2 ⟨rfl,hS,hB⟩;have HX2:=qac (HX0.out.step hS hB);clear HX0 hS hB;have kb:=HX2.out.cell))
   go_ret
   exact⟨HX2.out.but,by show Ending.returned (.int .i32 (wrap32 (c.toNat:Int)))=_;rw[HV.out],HX2.out.src⟩
  rw[if_neg g34] at hr
  by_cases g92:c.toNat=92
  ·rw[if_pos g92] at hr
   subst hr
   have f34:=nec (c:=c) 34 (by omega)
   have f92:((c.toNat:Int)==92)=true:=by simp;omega
   have HV:Hid (wrap32 (c.toNat:Int)=92):=by show _=_;unfold wrap32;omega
   clear g34 g92
   go_enter func307,ntmps307
   go_wp2_with (first
    |(go_at_call 294;refine cT.mono ?_;clear cT kb;rintro e w2 ⟨rfl,hS,hB⟩;have HX2:=qac (HX0.out.step hS hB);clear HX0 hS hB;have kb:=HX2.out.cell))
   go_ret
   exact⟨HX2.out.but,by show Ending.returned (.int .i32 (wrap32 (c.toNat:Int)))=_;rw[HV.out],HX2.out.src⟩
  rw[if_neg g92] at hr
  by_cases g47:c.toNat=47
  ·rw[if_pos g47] at hr
   subst hr
   have f34:=nec (c:=c) 34 (by omega)
   have f92:=nec (c:=c) 92 (by omega)
   have f47:((c.toNat:Int)==47)=true:=by simp;omega
   have HV:Hid (wrap32 (c.toNat:Int)=47):=by show _=_;unfold wrap32;omega
   clear g34 g92 g47
   go_enter func307,ntmps307
   go_wp2_with (first
    |(go_at_call 294;refine cT.mono ?_;clear cT kb;rintro e w2 ⟨rfl,hS,hB⟩;have HX2:=qac (HX0.out.step hS hB);clear HX0 hS hB;have kb:=HX2.out.cell))
   go_ret
   exact⟨HX2.out.but,by show Ending.returned (.int .i32 (wrap32 (c.toNat:Int)))=_;rw[HV.out],HX2.out.src⟩
  rw[if_neg g47] at hr
  by_cases g98:c.toNat=98
  ·rw[if_pos g98] at hr
   subst hr
   have f34:=nec (c:=c) 34 (by omega)
   have f92:=nec (c:=c) 92 (by omega)
   have f47:=nec (c:=c) 47 (by omega)
   have f98:((c.toNat:Int)==98)=true:=by simp;omega
   clear g34 g92 g47 g98
   go_enter func307,ntmps307
   go_wp2_with (first
    |(go_at_call 294;refine cT.mono ?_;clear cT kb;rintro e w2 ⟨rfl,hS,hB⟩;have HX2:=qac (HX0.out.step hS hB);clear HX0 hS hB;have kb:=HX2.out.cell))
   go_ret
   exact⟨HX2.out.but,rfl,HX2.out.src⟩
  rw[if_neg g98] at hr
  by_cases g102:c.toNat=102
  ·rw[if_pos g102] at hr
   subst hr
   have f34:=nec (c:=c) 34 (by omega)
   have f92:=nec (c:=c) 92 (by omega)
   have f47:=nec (c:=c) 47 (by omega)
   have f98:=nec (c:=c) 98 (by omega)
   have f102:((c.toNat:Int)==102)=true:=by simp;omega
   clear g34 g92 g47 g98 g102
   go_enter func307,ntmps307
   go_wp2_with (first
    |(go_at_call 294;refine cT.mono ?_;clear cT kb;rintro e w2 ⟨rfl,hS,hB⟩;have HX2:=qac (HX0.out.step hS hB);clear HX0 hS hB;have kb:=HX2.out.cell))
   go_ret
   exact⟨HX2.out.but,rfl,HX2.out.src⟩
  rw[if_neg g102] at hr
  by_cases g110:c.toNat=110
  ·rw[if_pos g110] at hr
   subst hr
   have f34:=nec (c:=c) 34 (by omega)
   have f92:=nec (c:=c) 92 (by omega)
   have f47:=nec (c:=c) 47 (by omega)
   have f98:=nec (c:=c) 98 (by omega)
   have f102:=nec (c:=c) 102 (by omega)
   have f110:((c.toNat:Int)==110)=true:=by simp;omega
   clear g34 g92 g47 g98 g102 g110
   go_enter func307,ntmps307
   go_wp2_with (first
    |(go_at_call 294;refine cT.mono ?_;clear cT kb;rintro e w2 ⟨rfl,hS,hB⟩;have HX2:=qac (HX0.out.step hS hB);clear HX0 hS hB;have kb:=HX2.out.cell))
   go_ret
   exact⟨HX2.out.but,rfl,HX2.out.src⟩
  rw[if_neg g110] at hr
  by_cases g114:c.toNat=114
  ·rw[if_pos g114] at hr
   subst hr
   have f34:=nec (c:=c) 34 (by omega)
   have f92:=nec (c:=c) 92 (by omega)
   have f47:=nec (c:=c) 47 (by omega)
   have f98:=nec (c:=c) 98 (by omega)
   have f102:=nec (c:=c) 102 (by omega)
   have f110:=nec (c:=c) 110 (by omega)
   have f114:((c.toNat:Int)==114)=true:=by simp;omega
   clear g34 g92 g47 g98 g102 g110 g114
   go_enter func307,ntmps307
   go_wp2_with (first
    |(go_at_call 294;refine cT.mono ?_;clear cT kb;rintro e w2 ⟨rfl,hS,hB⟩;have HX2:=qac (HX0.out.step hS hB);clear HX0 hS hB;have kb:=HX2.out.cell))
   go_ret
   exact⟨HX2.out.but,rfl,HX2.out.src⟩
  rw[if_neg g114] at hr
  by_cases g116:c.toNat=116
  ·rw[if_pos g116] at hr
   subst hr
   have f34:=nec (c:=c) 34 (by omega)
   have f92:=nec (c:=c) 92 (by omega)
   have f47:=nec (c:=c) 47 (by omega)
   have f98:=nec (c:=c) 98 (by omega)
   have f102:=nec (c:=c) 102 (by omega)
   have f110:=nec (c:=c) 110 (by omega)
   have f114:=nec (c:=c) 114 (by omega)
   have f116:((c.toNat:Int)==116)=true:=by simp;omega
   clear g34 g92 g47 g98 g102 g110 g114 g116
   go_enter func307,ntmps307
   go_wp2_with (first
    |(go_at_call 294;refine cT.mono ?_;clear cT kb;rintro e w2 ⟨rfl,hS,hB⟩;have HX2:=qac (HX0.out.step hS hB);clear HX0 hS hB;have kb:=HX2.out.cell))
   go_ret
   exact⟨HX2.out.but,rfl,HX2.out.src⟩
  rw[if_neg g116] at hr
  by_cases g117:c.toNat=117
  ·rw[if_pos g117] at hr
   have f34:=nec (c:=c) 34 (by omega)
   have f92:=nec (c:=c) 92 (by omega)
   have f47:=nec (c:=c) 47 (by omega)
   have f98:=nec (c:=c) 98 (by omega)
   have f102:=nec (c:=c) 102 (by omega)
   have f110:=nec (c:=c) 110 (by omega)
   have f114:=nec (c:=c) 114 (by omega)
   have f116:=nec (c:=c) 116 (by omega)
   have f117:((c.toNat:Int)==117)=true:=by simp;omega
   clear g34 g92 g47 g98 g102 g110 g114 g116 g117
   have cC:=fun V (hV:qad V b {s with pos:=s.pos+1})=>qhe V b {s with pos:=s.pos+1} hV
   have cC2:∀V,qad V b {s with pos:=s.pos+1}→Calls prog 314 #[.agg #[.pointer (some ⟨b,0,none⟩)]] V (qbv V b {s with pos:=s.pos+1} (fun x:Int=>.int .i32 x) R):=by rw[←hr];exact cC
   clear cC hr
   rcases R with ⟨en,pl⟩|⟨z,q⟩
   ·go_enter func307,ntmps307
    go_wp2_with (first
     |(go_at_call 294;refine cT.mono ?_;clear cT kb;rintro e w2 ⟨rfl,hS,hB⟩;have HX2:=qac (HX0.out.step hS hB);clear HX0 hS hB;have kb:=HX2.out.cell)
     |(go_at_call 314;refine(cC2 _ HX2.out.src).mono ?_;clear cC2 kb;rintro e w3 ⟨hB,hF⟩;obtain rfl:=hF))
    exact⟨rfl,HX2.out.but.trans hB,rfl⟩
   ·go_enter func307,ntmps307
    go_wp2_with (first
     |(go_at_call 294;refine cT.mono ?_;clear cT kb;rintro e w2 ⟨rfl,hS,hB⟩;have HX2:=qac (HX0.out.step hS hB);clear HX0 hS hB;have kb:=HX2.out.cell)
     |(go_at_call 314;refine(cC2 _ HX2.out.src).mono ?_;clear cC2 kb;rintro e w3 ⟨hB,rfl,hS⟩))
    go_ret
    exact⟨HX2.out.but.trans hB,rfl,hS⟩
  rw[if_neg g117] at hr
  subst hr
  have f34:=nec (c:=c) 34 (by omega)
  have f92:=nec (c:=c) 92 (by omega)
  have f47:=nec (c:=c) 47 (by omega)
  have f98:=nec (c:=c) 98 (by omega)
  have f102:=nec (c:=c) 102 (by omega)
  have f110:=nec (c:=c) 110 (by omega)
  have f114:=nec (c:=c) 114 (by omega)
  have f116:=nec (c:=c) 116 (by omega)
  have f117:=nec (c:=c) 117 (by omega)
  clear g34 g92 g47 g98 g102 g110 g114 g116 g117
  go_enter func307,ntmps307
  go_wp2_with (first
   |(go_at_call 294;refine cT.mono ?_;clear cT kb;rintro e w2 ⟨rfl,hS,hB⟩;have HX2:=qac (HX0.out.step hS hB);clear HX0 hS hB;have kb:=HX2.out.cell)
   |(go_at_call 295;refine(qam _ b {s with pos:=s.pos+1} _ HX2.out.src).mono ?_;rintro e w7 ⟨hF,rfl⟩;obtain rfl:=hF))
  exact⟨rfl,HX2.out.but,by show qaj _ _ _;unfold qaj qco;simp⟩
end
end Go.Proofs.YtllcbnfmihfaaaaGreatDoor
