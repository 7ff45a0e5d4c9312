import Derived.Laws.IdiomStrings
import Derived.Test.YtllcbnfmihfaaaaGreatDoorCq18
import Derived.Test.YtllcbnfmihfaaaaGreatDoorCq11
import Derived.Test.YtllcbnfmihfaaaaGreatDoorCq16
set_option maxRecDepth 100000
set_option maxHeartbeats 8000000
namespace Go.Proofs.YtllcbnfmihfaaaaGreatDoor
open Go.Proofs.Tryz
variable {acc bs:List UInt8}{lim r:Int}{c:UInt8}{b n p q wh:Nat}{V V' W:World}{s:Src}{m m':Nat→Nat→Bool}
section
open Go.RowKit
def qaT (bs:List UInt8)(lim:Int):List UInt8→Nat→Except (Int×Int) (Unit×Nat)
 |[],p=>.ok ((),p)
 |x::xs,p=>match bs[p]? with
  |none=>.error (9,p)
  |some c=>if (p:Int)=lim then .error (8,p) else if c=x then qaT bs lim xs (p+1) else .error (9,p)
theorem qbv (W:World)(b:Nat)(s:Src)(l:List UInt8)(hl:l.length≤100)(h:qad W b s):Calls prog 298 #[.agg #[.pointer (some ⟨b,0,none⟩)],.string ⟨l.toArray⟩] W (qbJ W b s (fun _:Unit=>.tuple #[]) (qaT s.bs s.lim l s.pos)):=by
 have HX0:=qaa (qaR h);obtain⟨R,HR⟩:∃R,Hid (qaT s.bs s.lim l s.pos=R):=⟨_,show _=_ from rfl⟩
 rw[HR.out];go_enter func298,ntmps298;go_wp2;generalize W.alloc (.cells #[.pointer (some ⟨b,0,none⟩)] 198)=W0 at *
 go_loopg [4,7] l.length (fun m _ z wr=>∃(k:Nat),z=.int .i64 k∧Hid (m+k=l.length)∧Hid (qno W b W.heap.size {s with pos:=s.pos+k} wr)∧Hid (qaT s.bs s.lim (l.drop k) (s.pos+k)=R))
 case atStart=>exact⟨0,rfl,rfl,HX0,HR⟩
 case round =>
  obtain⟨k,rfl,hm,HX,HR⟩:=hrel;have kb:=HX.out.cell
  cases gk with
  |zero =>
   have e:k=l.length:=by have:=hm.out;omega
   have HE:Hid (R=.ok ((),s.pos+k)):=by
    show _=_;rw[←HR.out,List.drop_eq_nil_of_le (by omega)];rfl
   have e2:decide ((k:Int)<(l.length:Int))=false:=by simp;omega
   have e3:decide (k<l.length)=false:=by simp;omega
   go_wp2;go_end0;rw[HE.out];exact⟨HX.out.but,rfl,HX.out.src⟩
  |succ m =>
   have hlt:k<l.length:=by have:=hm.out;omega
   have e2:decide ((k:Int)<(l.length:Int))=true:=by simp;omega
   have e3:decide (k<l.length)=true:=by simp;omega
   obtain⟨x,hx⟩:∃x,l[k]=x:=⟨_,rfl⟩
   have hdr:l.drop k=x::l.drop (k+1):=by rw[List.drop_eq_getElem_cons hlt,hx]
   have HGX:Hid (l[k]? = some x):=by show _=_;rw[List.getElem?_eq_getElem hlt,hx]
   have hS0:{wr with drawn:=wr.drawn+1}.cell? ⟨W.heap.size,0,none⟩=some (.pointer (some ⟨b,0,none⟩)):=kb;have HXd:Hid (qad {wr with drawn:=wr.drawn+1} b {s with pos:=s.pos+k}):=HX.out.src.drewN 1;have HBd:Hid (But b wr {wr with drawn:=wr.drawn+1}):=But.of_below (qam wr 1);have hr:=HR.out;rw[hdr,qaT] at hr;go_wp2;refine wp_region_held (S:=fun V=>V.cell? ⟨W.heap.size,0,none⟩=some (.pointer (some ⟨b,0,none⟩))) (by kernel_rfl) ?_;refine wpAnyH_take (i:=0) (v:=.pointer (some ⟨W.heap.size,0,none⟩)) rfl (by kernel_rfl) (by kernel_rfl) (by kernel_rfl) (fun _ _ _ h=>h) (.inl ⟨rfl,fun V hV=>rfl⟩) hS0 ?_;refine wpAnyH_take (i:=1) (v:=.pointer (some ⟨b,0,none⟩)) rfl (by kernel_rfl) (by kernel_rfl) (by kernel_rfl) (fun _ _ _ h=>h) (.inl ⟨rfl,fun V hV => ?y1⟩) hS0 ?_
   case y1=>go_simp
   refine wpAnyH_take (i:=3) (v:=.string ⟨l.toArray⟩) rfl (by kernel_rfl) (by kernel_rfl) (by kernel_rfl) (fun _ _ _ h=>h) (.inl ⟨rfl,fun V hV=>rfl⟩) hS0 ?_;refine wpAnyH_take (i:=4) (v:=.int .i64 k) rfl (by kernel_rfl) (by kernel_rfl) (by kernel_rfl) (fun _ _ _ h=>h) (.inl ⟨rfl,fun V hV=>rfl⟩) hS0 ?_;refine wpAnyH_take (i:=5) (v:=.int .u8 x.toNat) rfl (by kernel_rfl) (by kernel_rfl) (by kernel_rfl) (fun _ _ _ h=>h) (.inl ⟨rfl,fun V hV => ?y5⟩) hS0 ?_
   case y5 =>
    have hgl:=Option.some.inj ((List.getElem?_eq_getElem hlt).symm.trans HGX.out);go_simp;show(((l.toArray)[k]'(by simpa using hlt)).toNat:Int)=_;rw[List.getElem_toArray,hgl]
   refine rdH 2 rfl (by kernel_rfl) (fun K hK => ?_);rcases qaM HXd.out with h1|h1|⟨c,h1⟩
   ·have HE:Hid (R=.error (9,((s.pos+k:Nat):Int))):=by
     show _=_;rw[←hr,List.getElem?_eq_none (by have:s.pos+k=s.bs.length:=h1;omega)]
    have cT:=qbm _ b {s with pos:=s.pos+k} HXd.out h1;go_simp;refine cT.mono ?_;rintro e w2 ⟨hF,hB⟩;obtain rfl:=hF;exact⟨rfl,(HX.out.but.trans HBd.out).trans (But.of_below hB),by rw[HE.out];rfl⟩
   ·have HE:Hid (R=.error (8,((s.pos+k:Nat):Int))):=by
     show _=_;have h2:((s.pos+k:Nat):Int)=s.lim:=h1.2;have h3:s.pos+k<s.bs.length:=h1.1;rw[←hr,List.getElem?_eq_getElem h3];simp only[];rw[if_pos h2]
    have cT:=qaP _ b {s with pos:=s.pos+k} HXd.out h1;go_simp;refine cT.mono ?_;rintro e w2 ⟨hF,hB⟩;obtain rfl:=hF;exact⟨rfl,(HX.out.but.trans HBd.out).trans (But.of_below hB),by rw[HE.out];rfl⟩
   have hc1:s.bs[s.pos+k]? = some c:=h1.1;have hc2:¬((s.pos+k:Nat):Int)=s.lim:=h1.2;rw[hc1] at hr;simp only[] at hr;rw[if_neg hc2] at hr;have cT:Calls prog 294 #[.pointer (some ⟨b,0,none⟩)] {wr with drawn:=wr.drawn+1} fun e W'=>e=.returned (.int .u8 c.toNat)∧qad W' b {s with pos:=s.pos+(k+1)}∧But b {wr with drawn:=wr.drawn+1} W':=qau _ b {s with pos:=s.pos+k} c HXd.out h1;go_simp;refine cT.mono ?_;rintro e w2 ⟨rfl,hS,hB⟩;simp only[];have HX2:=qaa (HX.out.step hS (HBd.out.trans hB));refine hK.out _ _ HX2.out.cell (fun _ => ?_);have kb2:=HX2.out.cell;by_cases hcx:c=x
   ·have hce:((c.toNat:Int)==(x.toNat:Int))=true:=by rw[hcx];simp
    have hcn:c.toNat=x.toNat:=by rw[hcx]
    have HN:Hid (qaT s.bs s.lim (l.drop (k+1)) (s.pos+(k+1))=R):=by show _=_;rw[←hr,if_pos hcx];rfl
    refine wpAnyH_take (i:=6) (v:=.bool false) rfl (by kernel_rfl) (by kernel_rfl) (by kernel_rfl) (fun _ _ _ h=>h) (.inl ⟨rfl,fun V hV => ?y6⟩) HX2.out.cell ?_
    case y6=>(go_simp;first|done|omega|assumption|trace_state)
    refine wpAnyH_done (by kernel_rfl) ?_ _;go_wp2;go_roundg m
    case measure=>omega
    case rel=>exact⟨k+1,by go_num,by show _=_;have:=hm.out;omega,HX2,HN⟩
   have hce:((c.toNat:Int)==(x.toNat:Int))=false:=by
    simp only[beq_eq_false_iff_ne,ne_eq];intro hh;exact hcx (UInt8.toNat_inj.1 (by omega))
   have hcn:¬c.toNat=x.toNat:=fun hh=>hcx (UInt8.toNat_inj.1 hh);have HE:Hid (R=.error (9,((s.pos+k:Nat):Int))):=by show _=_;rw[←hr,if_neg hcx]
   refine wpAnyH_take (i:=6) (v:=.bool true) rfl (by kernel_rfl) (by kernel_rfl) (by kernel_rfl) (fun _ _ _ h=>h) (.inl ⟨rfl,fun V hV => ?y6⟩) HX2.out.cell ?_
   case y6=>(go_simp;first|done|omega|assumption|trace_state)
   refine wpAnyH_done (by kernel_rfl) ?_ _
   go_wp2_with (first
    |(go_at_call 295;refine(qat _ b {s with pos:=s.pos+(k+1)} _ HX2.out.src).mono ?_;rintro e w7 ⟨hF,rfl⟩;obtain rfl:=hF))
   rw[HE.out];exact⟨rfl,HX2.out.but,by show qao _ _ _;unfold qao qeh;simp;omega⟩
def qvc (x:Nat):Bool:=decide (56320≤x∧x≤57343)
def qwL (x:Nat):Bool:=decide (55296≤x∧x≤56319)
theorem qiW (x:Nat)(w:World):Calls prog 321 #[.int .i32 x] w fun e w'=>e=.returned (.bool (qvc x))∧w'=w:=by
 unfold qvc;by_cases h1:56320≤x
 ·by_cases h2:x≤57343
  ·have e9:decide ((x:Int)≤57343)=true:=by simp;omega
   rw[decide_eq_true ⟨h1,h2⟩];go_enter func321,ntmps321;go_wp2;go_ret;exact⟨rfl,rfl⟩
  have e9:decide ((x:Int)≤57343)=false:=by simp;omega
  rw[decide_eq_false (by omega)];go_enter func321,ntmps321;go_wp2;go_ret;exact⟨rfl,rfl⟩
 rw[decide_eq_false (by omega)];go_enter func321,ntmps321;go_wp2;go_ret;exact⟨rfl,rfl⟩
theorem qmT (x:Nat)(w:World):Calls prog 322 #[.int .i32 x] w fun e w'=>e=.returned (.bool (qwL x))∧w'=w:=by
 unfold qwL;by_cases h1:55296≤x
 ·by_cases h2:x≤56319
  ·have e9:decide ((x:Int)≤56319)=true:=by simp;omega
   rw[decide_eq_true ⟨h1,h2⟩];go_enter func322,ntmps322;go_wp2;go_ret;exact⟨rfl,rfl⟩
  have e9:decide ((x:Int)≤56319)=false:=by simp;omega
  rw[decide_eq_false (by omega)];go_enter func322,ntmps322;go_wp2;go_ret;exact⟨rfl,rfl⟩
 rw[decide_eq_false (by omega)];go_enter func322,ntmps322;go_wp2;go_ret;exact⟨rfl,rfl⟩
theorem qi9:∀{k p a x q:Nat},qgA bs lim k p a=.ok (x,q)→x<(a+1)*16^k∧q=p+k
 |0,p,a,x,q,h=>by
  unfold qgA at h;cases h;simp
 |k+1,p,a,x,q,h=>by
  rw[qgA] at h;split at h
  ·cases h
  split at h
  ·cases h
  split at h
  ·cases h
  next d hd =>
  obtain⟨h1,h2⟩:=qi9 h;have h3:=qnW hd;have h4:(a*16+d+1)*16^k≤((a+1)*16)*16^k:=Nat.mul_le_mul_right _ (by omega);have h5:((a+1)*16)*16^k=(a+1)*16^(k+1):=by rw[Nat.mul_assoc,Nat.pow_succ,Nat.mul_comm 16]
  exact⟨by omega,by omega⟩
def qgy (bs:List UInt8)(lim:Int)(p:Nat):Except (Int×Int) (Int×Nat):=match qgA bs lim 4 p 0 with
 |.error e=>.error e
 |.ok (x,q)=>if qvc x=true then .error (9,(q:Int)-1) else if qwL x=true then (match qaT bs lim [92,117] q with
  |.error e=>.error e
  |.ok (_,q2)=>match qgA bs lim 4 q2 0 with
   |.error e=>.error e
   |.ok (y,q3)=>if qvc y=true then .ok (65536+((x:Int)-55296)*1024+((y:Int)-56320),q3) else .error (9,(q3:Int)-1)) else .ok (x,q)
theorem qj3 (W:World)(b:Nat)(s:Src)(h:qad W b s):Calls prog 314 #[.agg #[.pointer (some ⟨b,0,none⟩)]] W (qbJ W b s (fun x:Int=>.int .i32 x) (qgy s.bs s.lim s.pos)):=by
 have HX0:=qaa (qaR h);obtain⟨R,HR⟩:∃R,Hid (qgy s.bs s.lim s.pos=R):=⟨_,show _=_ from rfl⟩
 rw[HR.out];have hr:=HR.out;unfold qgy at hr;have kb:=HX0.out.cell;have cX:=qgd _ b s HX0.out.src;go_enter func314,ntmps314
 go_wp2_with fail
 refine cX.mono ?_;rintro e w2 ⟨hB,hF⟩;rcases hx:qgA s.bs s.lim 4 s.pos 0 with ⟨en,pl⟩|⟨x,q⟩
 ·simp only[hx] at hr hF;subst hr;obtain rfl:=(show qao en pl e from hF)
  go_wp2;exact⟨rfl,HX0.out.but.trans hB,rfl⟩
 simp only[hx] at hr hF;have hxb:=(qi9 hx).1;obtain⟨rfl,hS⟩:=hF;obtain⟨HX2,kb⟩:=rdK HX0 hS hB
 go_wp2_with fail
 refine(qiW x _).mono ?_;rintro e w3 ⟨rfl,rfl⟩;cases hlo:qvc x
 ·rw[hlo,if_neg (by decide)] at hr
  go_wp2_with fail
  refine(qmT x _).mono ?_;rintro e w3 ⟨rfl,rfl⟩;cases hhi:qwL x
  ·rw[hhi,if_neg (by decide)] at hr;subst hr;go_wp2;go_ret;exact⟨HX2.out.but,rfl,HX2.out.src⟩
  rw[hhi,if_pos rfl] at hr;have hh:=of_decide_eq_true (show decide (55296≤x∧x≤56319)=true from hhi)
  go_wp2_with fail
  refine(qbv _ b {s with pos:=q} [92,117] (by decide) HX2.out.src).mono ?_;rintro e w4 ⟨hB,hF⟩;rcases hq:qaT s.bs s.lim [92,117] q with ⟨en,pl⟩|⟨_,q2⟩
  ·simp only[hq] at hr hF;subst hr;obtain rfl:=(show qao en pl e from hF)
   go_wp2;exact⟨rfl,HX2.out.but.trans hB,rfl⟩
  simp only[hq] at hr hF;obtain⟨rfl,hS⟩:=hF;obtain⟨HX4,kb⟩:=rdK HX2 hS hB
  go_wp2_with fail
  refine(qgd _ b {s with pos:=q2} HX4.out.src).mono ?_;rintro e w5 ⟨hB,hF⟩;rcases hy:qgA s.bs s.lim 4 q2 0 with ⟨en,pl⟩|⟨y,q3⟩
  ·simp only[hy] at hr hF;subst hr;obtain rfl:=(show qao en pl e from hF)
   go_wp2;exact⟨rfl,HX4.out.but.trans hB,rfl⟩
  simp only[hy] at hr hF;obtain⟨rfl,hS⟩:=hF;obtain⟨HX5,kb⟩:=rdK HX4 hS hB
  go_wp2_with fail
  refine(qiW y _).mono ?_;rintro e w6 ⟨rfl,rfl⟩;cases hlo2:qvc y
  ·rw[hlo2,if_neg (by decide)] at hr;subst hr
   go_wp2_with fail
   refine(qat _ b {s with pos:=q3} _ HX5.out.src).mono ?_;rintro e w7 ⟨rfl,rfl⟩;go_wp2;exact⟨rfl,HX5.out.but,rfl⟩
  rw[hlo2,if_pos rfl] at hr;have hl2:=of_decide_eq_true (show decide (56320≤y∧y≤57343)=true from hlo2);subst hr;go_wp2;go_ret;exact⟨HX5.out.but,by first|rfl|(simp;omega),HX5.out.src⟩
 rw[hlo,if_pos rfl] at hr;subst hr
 go_wp2_with fail
 refine(qat _ b {s with pos:=q} _ HX2.out.src).mono ?_;rintro e w7 ⟨rfl,rfl⟩;go_wp2;exact⟨rfl,HX2.out.but,rfl⟩
def qnj (bs:List UInt8)(lim:Int)(p:Nat):Except (Int×Int) (Int×Nat):=match bs[p]? with
 |none=>.error (9,p)
 |some c=>if (p:Int)=lim then .error (8,p) else if c.toNat=34 then .ok (34,p+1) else if c.toNat=92 then .ok (92,p+1) else if c.toNat=47 then .ok (47,p+1) else if c.toNat=98 then .ok (8,p+1) else if c.toNat=102 then .ok (12,p+1) else if c.toNat=110 then .ok (10,p+1) else if c.toNat=114 then .ok (13,p+1) else if c.toNat=116 then .ok (9,p+1) else if c.toNat=117 then qgy bs lim (p+1) else .error (9,p)
theorem qgJ (W:World)(b:Nat)(s:Src)(h:qad W b s):Calls prog 307 #[.agg #[.pointer (some ⟨b,0,none⟩)]] W (qbJ W b s (fun x:Int=>.int .i32 x) (qnj s.bs s.lim s.pos)):=by
 have HX0:=qaa (qaR h);obtain⟨R,HR⟩:∃R,Hid (qnj s.bs s.lim s.pos=R):=⟨_,show _=_ from rfl⟩
 rw[HR.out];have hr:=HR.out;unfold qnj at hr;have kb:=HX0.out.cell;clear h HR;rcases qaM HX0.out.src with h1|h1|⟨c,h1⟩
 ·rw[List.getElem?_eq_none (by have:s.pos=s.bs.length:=h1;omega)] at hr;subst hr;have cT:=qbm _ b s HX0.out.src h1;clear h1;go_enter func307,ntmps307
  go_wp2_with (first
   |(go_at_call 294;refine cT.mono ?_;clear cT;rintro e w2 ⟨hF,hB⟩;obtain rfl:=hF))
  exact⟨rfl,HX0.out.but.trans (But.of_below hB),rfl⟩
 ·have h2:=h1.2;have h3:=h1.1;rw[List.getElem?_eq_getElem h3] at hr;simp only[] at hr;rw[if_pos h2] at hr;subst hr;have cT:=qaP _ b s HX0.out.src h1;clear h1 h2 h3;go_enter func307,ntmps307
  go_wp2_with (first
   |(go_at_call 294;refine cT.mono ?_;clear cT;rintro e w2 ⟨hF,hB⟩;obtain rfl:=hF))
  exact⟨rfl,HX0.out.but.trans (But.of_below hB),rfl⟩
 have hc1:=h1.1;have hc2:=h1.2;rw[hc1] at hr;simp only[] at hr;rw[if_neg hc2] at hr;have cT:Calls prog 294 #[.pointer (some ⟨b,0,none⟩)] _ fun e W'=>e=.returned (.int .u8 c.toNat)∧qad W' b {s with pos:=s.pos+1}∧But b _ W':=qau _ b s c HX0.out.src h1;clear h1 hc1 hc2;go_enter func307,ntmps307
 go_wp2_with fail
 refine cT.mono ?_;clear cT kb;rintro e w2 ⟨rfl,hS,hB⟩;obtain⟨HX2,kb⟩:=rdK HX0 hS hB;clear HX0 hS hB;by_cases g34:c.toNat=34
 ·rw[if_pos g34] at hr;subst hr;have f34:((c.toNat:Int)==34)=true:=by simp;omega
  have HV:Hid (wrap32 (c.toNat:Int)=34):=by show _=_;unfold wrap32;omega
  clear g34;go_wp2;go_ret;exact⟨HX2.out.but,by show Ending.returned (.int .i32 (wrap32 (c.toNat:Int)))=_;rw[HV.out],HX2.out.src⟩
 rw[if_neg g34] at hr;have f34:=nec (c:=c) 34 (by omega);by_cases g92:c.toNat=92
 ·rw[if_pos g92] at hr;subst hr;have f92:((c.toNat:Int)==92)=true:=by simp;omega
  have HV:Hid (wrap32 (c.toNat:Int)=92):=by show _=_;unfold wrap32;omega
  clear g34 g92;go_wp2;go_ret;exact⟨HX2.out.but,by show Ending.returned (.int .i32 (wrap32 (c.toNat:Int)))=_;rw[HV.out],HX2.out.src⟩
 rw[if_neg g92] at hr;have f92:=nec (c:=c) 92 (by omega);by_cases g47:c.toNat=47
 ·rw[if_pos g47] at hr;subst hr;have f47:((c.toNat:Int)==47)=true:=by simp;omega
  have HV:Hid (wrap32 (c.toNat:Int)=47):=by show _=_;unfold wrap32;omega
  clear g34 g92 g47;go_wp2;go_ret;exact⟨HX2.out.but,by show Ending.returned (.int .i32 (wrap32 (c.toNat:Int)))=_;rw[HV.out],HX2.out.src⟩
 rw[if_neg g47] at hr;have f47:=nec (c:=c) 47 (by omega);by_cases g98:c.toNat=98
 ·rw[if_pos g98] at hr;subst hr;have f98:((c.toNat:Int)==98)=true:=by simp;omega
  clear g34 g92 g47 g98;go_wp2;go_ret;exact⟨HX2.out.but,rfl,HX2.out.src⟩
 rw[if_neg g98] at hr;have f98:=nec (c:=c) 98 (by omega);by_cases g102:c.toNat=102
 ·rw[if_pos g102] at hr;subst hr;have f102:((c.toNat:Int)==102)=true:=by simp;omega
  clear g34 g92 g47 g98 g102;go_wp2;go_ret;exact⟨HX2.out.but,rfl,HX2.out.src⟩
 rw[if_neg g102] at hr;have f102:=nec (c:=c) 102 (by omega);by_cases g110:c.toNat=110
 ·rw[if_pos g110] at hr;subst hr;have f110:((c.toNat:Int)==110)=true:=by simp;omega
  clear g34 g92 g47 g98 g102 g110;go_wp2;go_ret;exact⟨HX2.out.but,rfl,HX2.out.src⟩
 rw[if_neg g110] at hr;have f110:=nec (c:=c) 110 (by omega);by_cases g114:c.toNat=114
 ·rw[if_pos g114] at hr;subst hr;have f114:((c.toNat:Int)==114)=true:=by simp;omega
  clear g34 g92 g47 g98 g102 g110 g114;go_wp2;go_ret;exact⟨HX2.out.but,rfl,HX2.out.src⟩
 rw[if_neg g114] at hr;have f114:=nec (c:=c) 114 (by omega);by_cases g116:c.toNat=116
 ·rw[if_pos g116] at hr;subst hr;have f116:((c.toNat:Int)==116)=true:=by simp;omega
  clear g34 g92 g47 g98 g102 g110 g114 g116;go_wp2;go_ret;exact⟨HX2.out.but,rfl,HX2.out.src⟩
 rw[if_neg g116] at hr;have f116:=nec (c:=c) 116 (by omega);by_cases g117:c.toNat=117
 ·rw[if_pos g117] at hr;have f117:((c.toNat:Int)==117)=true:=by simp;omega
  clear g34 g92 g47 g98 g102 g110 g114 g116 g117;have cC:=fun V (hV:qad V b {s with pos:=s.pos+1})=>qj3 V b {s with pos:=s.pos+1} hV;have cC2:∀V,qad V b {s with pos:=s.pos+1}→Calls prog 314 #[.agg #[.pointer (some ⟨b,0,none⟩)]] V (qbJ V b {s with pos:=s.pos+1} (fun x:Int=>.int .i32 x) R):=by rw[←hr];exact cC
  clear cC hr;rcases R with ⟨en,pl⟩|⟨z,q⟩
  ·go_wp2_with (first
    |(go_at_call 314;refine(cC2 _ HX2.out.src).mono ?_;clear cC2 kb;rintro e w3 ⟨hB,hF⟩;obtain rfl:=hF))
   exact⟨rfl,HX2.out.but.trans hB,rfl⟩
  go_wp2_with (first
   |(go_at_call 314;refine(cC2 _ HX2.out.src).mono ?_;clear cC2 kb;rintro e w3 ⟨hB,rfl,hS⟩))
  go_ret;exact⟨HX2.out.but.trans hB,rfl,hS⟩
 rw[if_neg g117] at hr;have f117:=nec (c:=c) 117 (by omega);subst hr;clear g34 g92 g47 g98 g102 g110 g114 g116 g117
 go_wp2_with (first
  |(go_at_call 295;refine(qat _ b {s with pos:=s.pos+1} _ HX2.out.src).mono ?_;rintro e w7 ⟨hF,rfl⟩;obtain rfl:=hF))
 exact⟨rfl,HX2.out.but,by show qao _ _ _;unfold qao qeh;simp⟩
end
section
open Go.RowKit Go.Lib
theorem qo8 {l:List UInt8}(hp:qst l=true)(h:qc1 l c=1):qst (l++[c])=true:=by
 match l,hp with
 |[],_ =>
  unfold qc1 at h;simp only[] at h;split at h
  ·cases h
  split at h
  ·cases h
  exact decide_eq_true (by omega)
 |[b0],hp =>
  have hs:=of_decide_eq_true hp;unfold qc1 at h;simp only[] at h;split at h
  ·cases h
  split at h
  ·cases h
  exact decide_eq_true (by omega)
 |[b0,b1],hp =>
  have hs:=of_decide_eq_true hp;have hb:=qhF (b:=b0) (by omega);unfold qc1 at h;simp only[] at h;split at h
  ·cases h
  split at h
  ·cases h
  exact decide_eq_true (by omega)
 |[b0,b1,b2],hp =>
  unfold qc1 at h;simp only[] at h;split at h
  ·cases h
  cases h
def qfe (bs:List UInt8)(lim:Int):Nat→Nat→List UInt8→Nat→Except (Int×Int) (List UInt8×Nat)
 |0,p,_,_=>.error (9,p)
 |g+1,p,acc,wh=>match bs[p]? with
  |none=>.error (9,p)
  |some c=>if (p:Int)=lim then .error (8,p) else
   if c.toNat=34∧wh=acc.length then .ok (acc,p+1) else
   if c.toNat=92∧wh=acc.length then (match qnj bs lim (p+1) with
    |.error e=>.error e
    |.ok (r,q)=>qfe bs lim g q (acc++qcD r) (acc++qcD r).length) else
   if c.toNat<32 then .error (9,p) else if qc1 (acc.drop wh) c=0 then .error (9,p) else
   qfe bs lim g (p+1) (acc++[c]) (if qc1 (acc.drop wh) c=2 then acc.length+1 else wh)
theorem qmU (h:qgy bs lim p=.ok (r,q)):(0≤r∧r≤1114111)∧p+4≤q:=by
 unfold qgy at h;split at h
 ·cases h
 next x q1 hx =>
 obtain⟨hx1,hx2⟩:=qi9 hx;split at h
 ·cases h
 split at h
 ·next hhi =>
  have hh:=of_decide_eq_true (show decide (55296≤x∧x≤56319)=true from hhi);split at h
  ·cases h
  next q2 hr =>
  split at h
  ·cases h
  next y q3 hy =>
  obtain⟨hy1,hy2⟩:=qi9 hy;split at h
  ·next hlo =>
   have hl:=of_decide_eq_true (show decide (56320≤y∧y≤57343)=true from hlo);cases h;have:q1≤q2:=by
    unfold qaT at hr;split at hr
    ·cases hr
    split at hr
    ·cases hr
    split at hr
    ·unfold qaT at hr;split at hr
     ·cases hr
     split at hr
     ·cases hr
     split at hr
     ·unfold qaT at hr;cases hr;omega
     cases hr
    cases hr
   omega
  cases h
 cases h;simp at hx1;omega
theorem qjf (h:qnj bs lim p=.ok (r,q)):(0≤r∧r≤1114111)∧p+1≤q:=by
 unfold qnj at h;split at h
 ·cases h
 split at h
 ·cases h
 repeat' split at h
 all_goals first
  |(cases h;omega)
  |(have:=qmU h;omega)
  |cases h
theorem qja {wf:Nat}(hle:wh≤acc.length)(hp:qst (acc.drop wh)=true)(h0:¬qc1 (acc.drop wh) c=0)(hwf:(if qc1 (acc.drop wh) c=2 then acc.length+1 else wh)=wf):qst ((acc++[c]).drop wf)=true:=by
 by_cases h2:qc1 (acc.drop wh) c=2
 ·rw[if_pos h2] at hwf;subst hwf;rw[List.drop_eq_nil_of_le (by simp)];rfl
 rw[if_neg h2] at hwf;subst hwf;rw[List.drop_append_of_le_length hle];refine qo8 hp ?_;have hk:qc1 (acc.drop wh) c=0∨qc1 (acc.drop wh) c=1∨qc1 (acc.drop wh) c=2:=by
  unfold qc1
  repeat' split
  all_goals simp
 omega
theorem qfO {Q:Exit→Act→World→Prop}{a:Act}{w:World}(h:Q .ret a w):Exit.noGoto Q .ret a w:=h
structure qiK (W:World)(b:Nat)(s:Src)(p:Nat)(acc:List UInt8)(wh:Nat)(V:World):Prop where
 src:qad V b {s with pos:=p}
 but:But b W V
 box:V.heap[W.heap.size]? = some (.cells #[.pointer (some ⟨b,0,none⟩)] 198)
 gat:qck V (W.heap.size+1) (W.heap.size+2) acc wh
theorem qiK.take (h:qiK W b s p acc wh V)(hb:b<W.heap.size)(hs:qad V' b {s with pos:=q})(hB:But b V V'):qiK W b s q acc wh V' :=
 ⟨hs,h.but.trans hB,(hB.block _ (ltA h.box) (by omega)).trans h.box,h.gat.but hB (by omega) (by omega)⟩
theorem qiK.below (h:qiK W b s p acc wh V)(hB:Below V.heap.size V V'):qiK W b s p acc wh V' :=
 ⟨h.src.below hB,h.but.trans (But.of_below hB),(hB.block _ (ltA h.box)).trans h.box,h.gat.below hB⟩
theorem qiK.keep {acc':List UInt8}{wh':Nat}(h:qiK W b s p acc wh V)(h0:qad W b s)(hK:qcH (W.heap.size+1) (W.heap.size+2) V V')(hg:qck V' (W.heap.size+1) (W.heap.size+2) acc' wh'):qiK W b s p acc' wh' V' :=
 ⟨h0.same rfl rfl h.src (fun k hk=>hK.block k (by omega) (by omega)),⟨hK.os.trans h.but.os,hK.tape.trans h.but.tape,hK.output.trans h.but.output,Nat.le_trans h.but.size hK.size,fun k hk hn=>(hK.block k (by omega) (by omega)).trans (h.but.block k hk hn)⟩,(hK.block _ (by omega) (by omega)).trans h.box,hg⟩
theorem qle:∀w:World,(convert 28 9 (.slice none 0 0)).run prog w=.ok (.string ⟨#[]⟩) w:=fun w=>by kernel_rfl
theorem qkU {base:Nat}{v:Value}(h:Own W base v bs):(convert 28 9 v).run prog W=.ok (.string ⟨bs.toArray⟩) W:=by
 have h':=h;obtain⟨⟨h1,h2⟩,h3,h4⟩:=h;rcases h2 with ⟨rfl,h0⟩|⟨g,cap,cur,rfl,h5⟩
 ·have:bs=[]:=List.eq_nil_of_length_eq_zero h0;subst this;exact qle W
 refine run_convert_bytes_back W 28 9 5 ⟨g,0,none⟩ cap bs underlying28 underlying5 underlying9 ?_;intro j hj;have e:(⟨g,0,none⟩:Addr).add j=⟨g,j,none⟩:=by by_cases h:j=0<;>simp[Addr.add,h]
 rw[e];exact(qcB h').2 j hj
theorem qtN (h:qad W b s):qiK W b s s.pos [] 0 ((W.alloc (.cells #[.pointer (some ⟨b,0,none⟩)] 198)).alloc (.cells #[.slice none 0 0,.int .i64 0] 409)):=by
 have hB:Below W.heap.size W ((W.alloc (.cells #[.pointer (some ⟨b,0,none⟩)] 198)).alloc (.cells #[.slice none 0 0,.int .i64 0] 409)):=(bwA).alloc (by simp) _;have hg:=qac (W.alloc (.cells #[.pointer (some ⟨b,0,none⟩)] 198)) (.cells #[.slice none 0 0,.int .i64 0] 409);rw[World.size_alloc] at hg;refine⟨h.below hB,But.of_below hB,?_,⟨⟨_,hg,?_⟩,by omega,Nat.le_refl _⟩⟩
 ·have h0:=qac W (.cells #[.pointer (some ⟨b,0,none⟩)] 198);exact(Below.heap_alloc _ _ _ (by simp)).trans h0
 refine⟨World.ownsRow_nil _ _ _ _,?_,none,0,0,rfl⟩;simp
theorem qeQ (W:World)(b:Nat)(s:Src)(h:qad W b s)(ht:U8 W)(h7:7<b)(hlen:s.bs.length≤200000000):Calls prog 299 #[.agg #[.pointer (some ⟨b,0,none⟩)]] W (qbJ W b s (fun l:List UInt8=>.string ⟨l.toArray⟩) (qfe s.bs s.lim (s.bs.length+1-s.pos) s.pos [] 0)):=by
 have HX0:=qaa (qtN h);have HS0:=qaa h;have HT:=qaa ht;have hbN:=ltA h.row;have hle:=h.le;obtain⟨R,HR⟩:∃R,Hid (qfe s.bs s.lim (s.bs.length+1-s.pos) s.pos [] 0=R):=⟨_,show _=_ from rfl⟩
 rw[HR.out];go_enter func299,ntmps299;go_wp2;go_step3;go_wp2;go_step3;go_wp2;generalize (W.alloc (.cells #[.pointer (some ⟨b,0,none⟩)] 198)).alloc (.cells #[.slice none 0 0,.int .i64 0] 409)=W0 at *
 go_loopg [4,8] (s.bs.length+1-s.pos) (fun g _ _ wr=>∃(p:Nat) (acc:List UInt8) (wh:Nat),Hid (s.bs.length+1≤p+g)∧Hid (p≤s.bs.length)∧Hid (acc.length≤4*p)∧Hid (qst (acc.drop wh)=true)∧Hid (qiK W b s p acc wh wr)∧Hid (qfe s.bs s.lim g p acc wh=R))
 case atStart=>exact⟨s.pos,[],0,by show _≤_;omega,hle,by show 0≤_;omega,rfl,HX0,HR⟩
 case round =>
  obtain⟨p,acc,wh,hg,hp,ha,hpe,HX,HR⟩:=hrel;obtain⟨g,rfl⟩:∃g,gk=g+1:=⟨gk-1,by have:=hg.out;have:=hp.out;omega⟩
  have kb:=qab HX.out.box 0;have HU:Hid (∀V,But b W V→U8 V):=by
   show ∀V,_;intro V hV;have hc:∀(q off:Nat) (v:Value),q≤7→W.cell? ⟨q,off,none⟩=some v→V.cell? ⟨q,off,none⟩=some v:=fun q off v hq hv=>(World.cell?_of_block (w:=W) (hV.block q (by omega) (by omega))).trans hv;exact⟨fun c hc'=>hc _ _ _ (by decide) (HT.out.1 c hc'),fun i hi=>⟨hc _ _ _ (by decide) (HT.out.2 i hi).1,hc _ _ _ (by decide) (HT.out.2 i hi).2⟩⟩
  rcases qaM HX.out.src with h1|h1|⟨c,h1⟩
  ·have HE:Hid (R=.error (9,(p:Int))):=by
    show _=_;rw[←HR.out,qfe,List.getElem?_eq_none (by have:p=s.bs.length:=h1;omega)]
   have cT:=qbm _ b {s with pos:=p} HX.out.src h1
   go_wp2_with (first
    |(go_at_call 294;refine cT.mono ?_;rintro e w2 ⟨hF,hB⟩;obtain rfl:=hF))
   rw[HE.out];exact⟨rfl,HX.out.but.trans (But.of_below hB),rfl⟩
  ·have HE:Hid (R=.error (8,(p:Int))):=by
    show _=_;have h2:(p:Int)=s.lim:=h1.2;have h3:p<s.bs.length:=h1.1;rw[←HR.out,qfe,List.getElem?_eq_getElem h3];simp only[];rw[if_pos h2]
   have cT:=qaP _ b {s with pos:=p} HX.out.src h1
   go_wp2_with (first
    |(go_at_call 294;refine cT.mono ?_;rintro e w2 ⟨hF,hB⟩;obtain rfl:=hF))
   rw[HE.out];exact⟨rfl,HX.out.but.trans (But.of_below hB),rfl⟩
  have hc1:s.bs[p]? = some c:=h1.1;have hc2:¬(p:Int)=s.lim:=h1.2;have HPL:Hid (p<s.bs.length):=h1.lt;have hr:=HR.out;rw[qfe,hc1] at hr;simp only[] at hr;rw[if_neg hc2] at hr;have cT:Calls prog 294 #[.pointer (some ⟨b,0,none⟩)] wr fun e W'=>e=.returned (.int .u8 c.toNat)∧qad W' b {s with pos:=p+1}∧But b wr W':=qau _ b {s with pos:=p} c HX.out.src h1;have cW:=fun V (hV:qiK W b s (p+1) acc wh V)=>qgq V (W.heap.size+1) (W.heap.size+2) acc wh hV.gat;have hC:(wh=acc.length∧c.toNat=34)∨(wh=acc.length∧c.toNat=92)∨(wh=acc.length∧c.toNat≠34∧c.toNat≠92)∨(wh≠acc.length∧c.toNat=34)∨(wh≠acc.length∧c.toNat=92)∨(wh≠acc.length∧c.toNat≠34∧c.toNat≠92):=by omega
  rcases hC with ⟨hw,g34⟩|⟨hw,g92⟩|⟨hw,g34,g92⟩|⟨hw,g34⟩|⟨hw,g92⟩|⟨hw,g34,g92⟩
  ·rw[decide_eq_true hw] at cW;rw[if_pos ⟨g34,hw⟩] at hr;subst hr;have f34:((c.toNat:Int)==34)=true:=by simp;omega
   go_wp2_with (first
    |(go_at_call 294;refine cT.mono ?_;rintro e w2 ⟨rfl,hS,hB⟩;have HX2:=qaa (HX.out.take hbN hS hB))
    |(go_at_call 305;refine(cW _ HX2.out).mono ?_;rintro e w3 ⟨rfl,hB⟩;have HX3:=qaa (HX2.out.below hB);obtain⟨v3,r3,o3⟩:=HX3.out.gat.row;obtain⟨_,_,a3,n3,c3,rfl⟩:=(show Own w3 _ _ _ from o3);have hcv:=qkU o3;have k3:=qab r3 0))
   refine qfO ?_;go_ret;exact⟨HX3.out.but,rfl,HX3.out.src⟩
  ·rw[decide_eq_true hw] at cW;rw[if_neg (fun hh=>by omega),if_pos ⟨g92,hw⟩] at hr;have f34:=nec (c:=c) 34 (by omega);have f92:((c.toNat:Int)==92)=true:=by simp;omega
   have cE:=fun V (hV:qiK W b s (p+1) acc wh V)=>qgJ V b {s with pos:=p+1} hV.src;rcases he:qnj s.bs s.lim (p+1) with ⟨en,pl⟩|⟨r,q⟩
   ·rw[he] at hr;have cE2:∀V,qiK W b s (p+1) acc wh V→Calls prog 307 #[.agg #[.pointer (some ⟨b,0,none⟩)]] V (qbJ V b {s with pos:=p+1} (fun x:Int=>.int .i32 x) (.error (en,pl))):=by rw[←he];exact cE
    subst hr
    go_wp2_with (first
     |(go_at_call 294;refine cT.mono ?_;rintro e w2 ⟨rfl,hS,hB⟩;have HX2:=qaa (HX.out.take hbN hS hB);have kb:=qab HX2.out.box 0)
     |(go_at_call 305;refine(cW _ HX2.out).mono ?_;rintro e w3 ⟨rfl,hB⟩;have HX3:=qaa (HX2.out.below hB);have HX2:=HX3;have kb:=qab HX2.out.box 0)
     |(go_at_call 307;refine(cE2 _ HX2.out).mono ?_;rintro e w5 ⟨hB,hF⟩;obtain rfl:=hF))
    exact⟨rfl,HX2.out.but.trans hB,rfl⟩
   rw[he] at hr;simp only[] at hr;have cE2:∀V,qiK W b s (p+1) acc wh V→Calls prog 307 #[.agg #[.pointer (some ⟨b,0,none⟩)]] V (qbJ V b {s with pos:=p+1} (fun x:Int=>.int .i32 x) (.ok (r,q))):=by rw[←he];exact cE
   have hfit:=qjf he;have hf1:=hfit.1.1;have hf2:=hfit.1.2;have HF3:=qaa hfit.2;have HN:=qaa hr;have cC:=fun V (hV:qiK W b s q acc wh V)=>qfd V (W.heap.size+1) (W.heap.size+2) acc wh r (by omega) (by omega) hV.gat (by have:=ha.out;have:=hp.out;omega);have HRB:=qaa ((qcg r).2)
   go_wp2_with (first
    |(go_at_call 294;refine cT.mono ?_;rintro e w2 ⟨rfl,hS,hB⟩;have HX2:=qaa (HX.out.take hbN hS hB);have kb:=qab HX2.out.box 0)
    |(go_at_call 305;refine(cW _ HX2.out).mono ?_;rintro e w3 ⟨rfl,hB⟩;have HX3:=qaa (HX2.out.below hB);have HX2:=HX3;have kb:=qab HX2.out.box 0)
    |(go_at_call 307;refine(cE2 _ HX2.out).mono ?_;rintro e w5 ⟨hB,rfl,hS⟩;have HX5:=qaa (HX2.out.take hbN hS hB))
    |(go_at_call 306;refine(cC _ HX5.out).mono ?_;rintro e w6 ⟨rfl,hK6,hG6⟩;have HX6:=qaa (HX5.out.keep HS0.out hK6 hG6)))
   go_roundg g
   case measure=>omega
   case rel=>exact⟨q,acc++qcD r,(acc++qcD r).length,by show _≤_;have:=hg.out;have:=HF3.out;omega,HX6.out.src.le,by show _≤_;rw[List.length_append];have:=ha.out;have:=HF3.out;have:=HRB.out;omega,by show _=_;rw[List.drop_length];rfl,HX6,HN⟩
  all_goals
   first|rw[decide_eq_true hw] at cW|rw[decide_eq_false hw] at cW
   first|have f34:((c.toNat:Int)==34)=true:=(by simp;omega)|have f34:=nec (c:=c) 34 (by omega)
   first|have f92:((c.toNat:Int)==92)=true:=(by simp;omega)|have f92:=nec (c:=c) 92 (by omega)
   rw[if_neg (fun hh=>by omega),if_neg (fun hh=>by omega)] at hr;by_cases h32:c.toNat<32
   ·rw[if_pos h32] at hr;subst hr;have f32:decide ((c.toNat:Int)<32)=true:=by simp;omega
    first
    |exact absurd h32 (by omega)
    |clear h32
     try clear g34
     try clear g92
     go_wp2_with (first
      |(go_at_call 294;refine cT.mono ?_;rintro e w2 ⟨rfl,hS,hB⟩;have HX2:=qaa (HX.out.take hbN hS hB);have kb:=qab HX2.out.box 0)
      |(go_at_call 305;refine(cW _ HX2.out).mono ?_;rintro e w3 ⟨rfl,hB⟩;have HX3:Hid (qiK W b s (p+1) acc wh w3):=HX2.out.below hB;have HX2:=HX3;have kb:=qab HX2.out.box 0)
      |(go_at_call 295;refine(qat _ b {s with pos:=p+1} _ HX2.out.src).mono ?_;rintro e w7 ⟨hF,rfl⟩;obtain rfl:=hF))
     exact⟨rfl,HX2.out.but,by show qao _ _ _;unfold qao qeh;simp⟩
   rw[if_neg h32] at hr;have f32:decide ((c.toNat:Int)<32)=false:=by simp;omega
   try clear g34
   try clear g92
   obtain⟨wf,HWF⟩:∃wf,Hid ((if qc1 (acc.drop wh) c=2 then acc.length+1 else wh)=wf):=⟨_,show _=_ from rfl⟩
   have cAdd:=fun V (hV:qiK W b s (p+1) acc wh V)=>qp8 V (W.heap.size+1) (W.heap.size+2) acc wh c hV.gat hpe.out (HU.out V hV.but) (by omega) (by have:=ha.out;have:=hp.out;omega);rw[HWF.out] at cAdd;by_cases h0:qc1 (acc.drop wh) c=0
   ·rw[if_pos h0] at hr;subst hr;have hb0:(qc1 (acc.drop wh) c != 0)=false:=by rw[h0];rfl
    rw[hb0] at cAdd
    go_wp2_with (first
     |(go_at_call 294;refine cT.mono ?_;rintro e w2 ⟨rfl,hS,hB⟩;have HX2:=qaa (HX.out.take hbN hS hB);have kb:=qab HX2.out.box 0)
     |(go_at_call 305;refine(cW _ HX2.out).mono ?_;rintro e w3 ⟨rfl,hB⟩;have HX3:=qaa (HX2.out.below hB);have HX2:=HX3;have kb:=qab HX2.out.box 0)
     |(go_at_call 308;refine(cAdd _ HX2.out).mono ?_;rintro e w4 ⟨rfl,hK4,hG4⟩;have HX4:=qaa (HX2.out.keep HS0.out hK4 hG4);have kb:=qab HX4.out.box 0)
     |(go_at_call 295;refine(qat _ b {s with pos:=p+1} _ HX4.out.src).mono ?_;rintro e w7 ⟨hF,rfl⟩;obtain rfl:=hF))
    exact⟨rfl,HX4.out.but,by show qao _ _ _;unfold qao qeh;simp⟩
   rw[if_neg h0,HWF.out] at hr;have HN:=qaa hr;have hb0:(qc1 (acc.drop wh) c != 0)=true:=by simpa using h0
   rw[hb0] at cAdd;have HP2:=qaa (qja HX.out.gat.le hpe.out h0 HWF.out)
   go_wp2_with (first
    |(go_at_call 294;refine cT.mono ?_;rintro e w2 ⟨rfl,hS,hB⟩;have HX2:=qaa (HX.out.take hbN hS hB);have kb:=qab HX2.out.box 0)
    |(go_at_call 305;refine(cW _ HX2.out).mono ?_;rintro e w3 ⟨rfl,hB⟩;have HX3:=qaa (HX2.out.below hB);have HX2:=HX3;have kb:=qab HX2.out.box 0)
    |(go_at_call 308;refine(cAdd _ HX2.out).mono ?_;rintro e w4 ⟨rfl,hK4,hG4⟩;have HX4:=qaa (HX2.out.keep HS0.out hK4 hG4);have kb:=qab HX4.out.box 0))
   go_roundg g
   case measure=>omega
   case rel=>exact⟨p+1,acc++[c],wf,by show _≤_;have:=hg.out;omega,HPL,by show _≤_;rw[List.length_append];have:=ha.out;simp;omega,HP2,HX4,HN⟩
end
section
open Go.RowKit
theorem qdh.of (h:qdh W)(hk:∀k,k<W.heap.size→k≤1→V.heap[k]? = W.heap[k]?):qdh V:=by
 have hc:∀(g off:Nat) (v:Value),g≤1→W.cell? ⟨g,off,none⟩=some v→V.cell? ⟨g,off,none⟩=some v:=fun g off v hg hv=>(World.cell?_of_block (w:=W) (hk g (block_lt_of_cell hv) hg)).trans hv;refine⟨fun u hu=>hc _ _ _ (by decide) (h.cb u hu),fun u hu => ?_⟩;obtain⟨h1,h2,h3⟩:=h.pk u hu;exact⟨hc _ _ _ (by decide) h1,hc _ _ _ (by decide) h2,hc _ _ _ (by decide) h3⟩
theorem qdh.lt (h:qdh W):1<W.heap.size:=block_lt_of_cell (h.pk 0 (by decide)).1
theorem qdh.below (h:qdh W)(hb:Below W.heap.size W V):qdh V:=h.of fun k hk _=>hb.block k hk
theorem qdh.but (h:qdh W)(hb:But b W V)(hn:1<b):qdh V:=h.of fun k hk h1=>hb.block k hk (by omega)
theorem qgH (W:World)(ia:Option Addr)(bs:List UInt8)(cap:Nat)(d l:Int)(h:qa4 W ia bs):Calls prog 65 #[.int .i64 2,.agg #[.int .i64 d,.int .i64 l],.slice ia bs.length cap] W fun e W' =>
   ∃b,e=.returned (.iface 201 (.agg #[.pointer (some ⟨b,0,none⟩),.func (.func 107) #[] #[]]))∧qad W' b ⟨ia,bs,cap,d,l,0,0⟩∧W.heap.size≤b∧Below W.heap.size W W':=by
 have HB:=qaa h;go_enter func65,ntmps65;go_wp2;go_ret;have hb:Below W.heap.size W ((W.alloc (.cells #[.int .i64 d,.int .i64 l] 86)).alloc (.cells #[.slice ia bs.length cap,.int .i64 d,.int .i64 l,.int .i64 0,.int .i64 0] 196)):=(bwA).alloc (by simp) _;have hr:=qac (W.alloc (.cells #[.int .i64 d,.int .i64 l] 86)) (.cells #[.slice ia bs.length cap,.int .i64 d,.int .i64 l,.int .i64 0,.int .i64 0] 196);rw[World.size_alloc] at hr;exact⟨W.heap.size+1,rfl,qkI HB.out hb (by omega) hr,by omega,hb⟩
theorem qgP (W:World)(ia:Option Addr)(bs:List UInt8)(cap:Nat)(d l:Int)(h:qa4 W ia bs):Calls prog 65 #[.int .i64 3,.agg #[.int .i64 d,.int .i64 l],.slice ia bs.length cap] W fun e W' =>
   ∃b,e=.returned (.iface 201 (.agg #[.pointer (some ⟨b,0,none⟩),.func (.func 108) #[] #[]]))∧qad W' b ⟨ia,bs,cap,d,l,0,0⟩∧W.heap.size≤b∧Below W.heap.size W W':=by
 have HB:=qaa h;go_enter func65,ntmps65;go_wp2;go_ret;have hb:Below W.heap.size W ((W.alloc (.cells #[.int .i64 d,.int .i64 l] 86)).alloc (.cells #[.slice ia bs.length cap,.int .i64 d,.int .i64 l,.int .i64 0,.int .i64 0] 196)):=(bwA).alloc (by simp) _;have hr:=qac (W.alloc (.cells #[.int .i64 d,.int .i64 l] 86)) (.cells #[.slice ia bs.length cap,.int .i64 d,.int .i64 l,.int .i64 0,.int .i64 0] 196);rw[World.size_alloc] at hr;exact⟨W.heap.size+1,rfl,qkI HB.out hb (by omega) hr,by omega,hb⟩
theorem qei (W:World)(b:Nat):Calls prog 291 #[.pointer (some ⟨b,0,none⟩)] W fun e W'=>e=.returned (.tuple #[])∧W'=W:=by
 go_enter func291,ntmps291;go_wp2;go_end0;exact⟨rfl,rfl⟩
end
section
open Go.RowKit Go.Deep
theorem qkJ (h:∀i j,i<n→j<n→m i j=m' i j):qa7 n m = !qbz n m':=by
 cases hc:qa7 n m
 ·symm;rw[Bool.not_eq_false'];refine qeP (fun a b ha hb => ?_);cases ht:qd3 n m' a b
  ·rfl
  exfalso;unfold qd3 at ht;simp only[Bool.and_eq_true,Bool.not_eq_true',beq_eq_false_iff_ne] at ht;obtain⟨_,⟨hne,h1⟩,h2⟩:=ht;rw[←h a b ha hb] at h1;rw[←h b a hb ha] at h2;rcases Nat.lt_or_ge b a with hlt|hge
  ·have:=qdg (m:=m) ha hlt (by unfold qqg;rw[h1,h2];rfl);rw[hc] at this;cases this
  have:=qdg (m:=m) hb (show a<b by omega) (by unfold qqg;rw[h1,h2];rfl);rw[hc] at this;cases this
 symm;rw[Bool.not_eq_true'];unfold qa7 at hc;rw[List.any_eq_true] at hc;obtain⟨a,ha,hc⟩:=hc;rw[List.any_eq_true] at hc;obtain⟨b,hb,hc⟩:=hc;have ha':=List.mem_range.1 ha;have hb':=List.mem_range.1 hb;unfold qqg at hc;simp only[Bool.and_eq_true] at hc;refine qfP (a:=a) (b:=b) ha' (by omega) ?_;unfold qd3;rw[←h a b ha' (by omega),←h b a (by omega) ha',hc.1,hc.2,beq_eq_false_iff_ne.2 (show a≠b by omega)];simp
theorem ql0 (m:Nat→Nat→Bool)(a b k:Nat):ubB m a b k=ubB m b a k:=by unfold ubB;exact Bool.and_comm _ _
theorem qeg (n:Nat)(m:Nat→Nat→Bool)(a b:Nat):qa1 n m a b=qa1 n m b a:=by
 unfold qa1;congr 1;funext j;unfold qaK;rw[ql0];congr 2;funext k;rw[ql0]
theorem qdZ {a:Nat}(ha:a<n)(hr:m a a=true):qa1 n m a a=true:=by
 refine qdy ha (qfw (by unfold ubB;rw[hr];rfl) (fun k _ hu => ?_));unfold ubB at hu;simp only[Bool.and_eq_true] at hu;exact hu.1
theorem qml (h:∀i j,i<n→j<n→m i j=m' i j)(hr:∀i,i<n→m' i i=true):qa6 n m=qb6 n m':=by
 have hp:∀a b,a<n→b<n→qey n m a b=qb5 n m' a b:=fun a b ha hb=>by
  unfold qey qb5;rw[qcz h ha hb,qcz (fun i j hi hj=>h j i hj hi) ha hb]
 have hs:∀a b,qb5 n m' a b=qb5 n m' b a:=fun a b=>by
  unfold qb5;rw[qeg,qeg n (fun i j=>m' j i)]
 have hself:∀a,a<n→qb5 n m' a a=true:=fun a ha=>by
  unfold qb5;rw[qdZ ha (hr a ha),qdZ (m:=fun i j=>m' j i) ha (hr a ha)];rfl
 cases hc:qa6 n m
 ·symm;unfold qa6 at hc;rw[List.all_eq_false] at hc;obtain⟨a,ha,hc⟩:=hc;rw[Bool.not_eq_true,List.all_eq_false] at hc;obtain⟨b,hb,hc⟩:=hc;have ha':=List.mem_range.1 ha;have hb':=List.mem_range.1 hb;exact qdM (a:=a) (b:=b) ha' (by omega) (by rw[←hp a b ha' (by omega)];exact Bool.not_eq_true _▸hc)
 symm;refine qeV (fun a b ha hb => ?_);have hall:∀a b,a<n→b<a→qb5 n m' a b=true:=fun a b ha hb=>by
  rw[←hp a b ha (by omega)];exact List.all_eq_true.1 (List.all_eq_true.1 hc a (List.mem_range.2 ha)) b (List.mem_range.2 hb)
 rcases Nat.lt_trichotomy a b with hlt|heq|hgt
 ·rw[hs];exact hall b a hb hlt
 ·subst heq;exact hself a ha
 exact hall a b ha hgt
end
end Go.Proofs.YtllcbnfmihfaaaaGreatDoor
