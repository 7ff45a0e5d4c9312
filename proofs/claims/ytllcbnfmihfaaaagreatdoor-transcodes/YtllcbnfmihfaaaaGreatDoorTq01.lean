import Derived.Test.YtllcbnfmihfaaaaGreatDoorTq00
set_option maxRecDepth 100000
set_option maxHeartbeats 8000000
namespace Go.Proofs.YtllcbnfmihfaaaaGreatDoor
open Go.Proofs.Tryz
variable {W W' W0:World}{N b:Nat}{s s':Src}{c:UInt8}{bs:List UInt8}{ia:Option Addr}
section
open Go.RowKit
theorem qad.drewN (h:qad W b s)(n:Nat):qad (W.drewN n) b s:=h.below (qam W n)
theorem qkW (W:World)(b:Nat)(s:Src)(x:Int)(h:qad W b s)(h1:quY s):Calls prog 304 #[.pointer (some ⟨b,0,none⟩),.int .u8 x] W fun e W'=>e=.returned (.bool false)∧∃n,W'=W.drewN n:=by
 have cM:∀n,Calls prog 293 #[.pointer (some ⟨b,0,none⟩)] (W.drewN n) fun e W'=>e=.returned (.bool false)∧∃m,W'=(W.drewN n).drewN m:=fun n=>qfu _ b s (h.drewN n) h1;go_enter func304,ntmps304;go_wp2
 go_quiet (first|(go_at_call 293;exact(cM _).quiet_of))
 go_wp2;go_ret;exact⟨rfl,nq,rfl⟩
theorem qjp (W:World)(b:Nat)(s:Src)(c:UInt8)(x:Int)(h:qad W b s)(h1:qfp s c):Calls prog 304 #[.pointer (some ⟨b,0,none⟩),.int .u8 x] W fun e W'=>e=.returned (.bool ((c.toNat:Int)==x))∧∃n,W'=W.drewN n:=by
 have cM:∀n,Calls prog 293 #[.pointer (some ⟨b,0,none⟩)] (W.drewN n) fun e W'=>e=.returned (.bool true)∧∃m,W'=(W.drewN n).drewN m:=fun n=>qeo _ b s (h.drewN n) h1.lt h1.2;obtain⟨g,off,e1,e2,e3⟩:=h1.cell h;have c0:W.cell? ⟨b,0,none⟩=some (.slice (some ⟨g,off,none⟩) s.bs.length s.cap):=by rw[←e1];exact qab h.row 0
 have c3:W.cell? ⟨b,3,none⟩=some (.int .i64 s.pos):=qab h.row 3;have hl:=h1.lt;have hl':(s.pos:Int)<s.bs.length:=by omega
 go_enter func304,ntmps304;go_wp2
 go_quiet (first|(go_at_call 293;exact(cM _).quiet_of))
 go_wp2;go_ret;exact⟨rfl,nq,rfl⟩
theorem qdd (W:World)(b:Nat)(s:Src)(x:Int)(h:qad W b s)(h1:quZ s):Calls prog 304 #[.pointer (some ⟨b,0,none⟩),.int .u8 x] W fun e W'=>qao 8 s.pos e∧Below W.heap.size W W':=by
 have cM:Calls prog 293 #[.pointer (some ⟨b,0,none⟩)] W.drew fun e W'=>qao 8 s.pos e∧∃m,W'=W.drew.drewN m:=qel _ b s (h.drewN 1) h1.1 h1.2;go_enter func304,ntmps304;go_wp2;refine wp_region_held (S:=fun _=>True) (by kernel_rfl) ?_;refine wpAnyH_take (i:=0) (v:=.pointer (some ⟨b,0,none⟩)) rfl (by kernel_rfl) (by kernel_rfl) (by kernel_rfl) (fun _ _ _ h=>h) (.inl ⟨rfl,fun W hW=>rfl⟩) trivial ?_;refine rdH 1 rfl (by kernel_rfl) (fun K hK => ?_);go_simp;refine cM.mono ?_;rintro e w2 ⟨rfl,n,rfl⟩;exact⟨rfl,rfl,(Below.refl _ _).drew.trans (qam W.drew n)⟩
theorem qbg (c:UInt8)(w:World):Calls prog 302 #[.int .u8 c.toNat] w fun e w'=>e=.returned (.bool (decide (48≤(c.toNat:Int)∧(c.toNat:Int)≤57)))∧w'=w:=by
 by_cases h1:(48:Int)≤c.toNat
 ·by_cases h2:(c.toNat:Int)≤57
  ·go_enter func302,ntmps302;go_wp2;go_ret;exact⟨by rw[decide_eq_true (by omega)];rfl,rfl⟩
  go_enter func302,ntmps302;go_wp2;go_ret;exact⟨by rw[decide_eq_false (by omega)];rfl,rfl⟩
 go_enter func302,ntmps302;go_wp2;go_ret;exact⟨by rw[decide_eq_false (by omega)];rfl,rfl⟩
theorem qat (W:World)(b:Nat)(s:Src)(e:Int)(h:qad W b s):Calls prog 295 #[.pointer (some ⟨b,0,none⟩),.int .i64 e] W fun en W'=>qao e ((s.pos:Int)-1) en∧W'=W:=by
 have c3:W.cell? ⟨b,3,none⟩=some (.int .i64 s.pos):=qab h.row 3;have hm:=h.len;have hle:=h.le;unfold maxLen at hm;go_enter func295,ntmps295;go_wp2;exact⟨rfl,rfl,rfl⟩
theorem qfc (W:World)(b:Nat)(s:Src)(h:qad W b s)(h1:quY s):Calls prog 319 #[.pointer (some ⟨b,0,none⟩)] W fun e W'=>e=.returned (.bool false)∧∃n,W'=W.drewN n:=by
 have cM:∀n,Calls prog 293 #[.pointer (some ⟨b,0,none⟩)] (W.drewN n) fun e W'=>e=.returned (.bool false)∧∃m,W'=(W.drewN n).drewN m:=fun n=>qfu _ b s (h.drewN n) h1;go_enter func319,ntmps319;go_wp2
 go_quiet (first|(go_at_call 293;exact(cM _).quiet_of))
 go_wp2;go_ret;exact⟨rfl,nq,rfl⟩
theorem qe1 (W:World)(b:Nat)(s:Src)(c:UInt8)(h:qad W b s)(h1:qfp s c):Calls prog 319 #[.pointer (some ⟨b,0,none⟩)] W fun e W'=>e=.returned (.bool (decide (48≤(c.toNat:Int)∧(c.toNat:Int)≤57)))∧∃n,W'=W.drewN n:=by
 have cM:∀n,Calls prog 293 #[.pointer (some ⟨b,0,none⟩)] (W.drewN n) fun e W'=>e=.returned (.bool true)∧∃m,W'=(W.drewN n).drewN m:=fun n=>qeo _ b s (h.drewN n) h1.lt h1.2;have cD:∀n,Calls prog 302 #[.int .u8 c.toNat] (W.drewN n) fun e W'=>e=.returned (.bool (decide (48≤(c.toNat:Int)∧(c.toNat:Int)≤57)))∧W'=W.drewN n:=fun n=>qbg c _;obtain⟨g,off,e1,e2,e3⟩:=h1.cell h;have c0:W.cell? ⟨b,0,none⟩=some (.slice (some ⟨g,off,none⟩) s.bs.length s.cap):=by rw[←e1];exact qab h.row 0
 have c3:W.cell? ⟨b,3,none⟩=some (.int .i64 s.pos):=qab h.row 3;have hl:=h1.lt;have hl':(s.pos:Int)<s.bs.length:=by omega
 generalize decide (48≤(c.toNat:Int)∧(c.toNat:Int)≤57)=d at *;go_enter func319,ntmps319;go_wp2
 go_quiet (first|(go_at_call 293;exact(cM _).quiet_of)|(go_at_call 302;exact(cD _).quiet_of_same))
 go_wp2;go_ret;exact⟨rfl,nq,rfl⟩
theorem qeF (W:World)(b:Nat)(s:Src)(h:qad W b s)(h1:quZ s):Calls prog 319 #[.pointer (some ⟨b,0,none⟩)] W fun e W'=>qao 8 s.pos e∧Below W.heap.size W W':=by
 have cM:Calls prog 293 #[.pointer (some ⟨b,0,none⟩)] W.drew fun e W'=>qao 8 s.pos e∧∃m,W'=W.drew.drewN m:=qel _ b s (h.drewN 1) h1.1 h1.2;go_enter func319,ntmps319;go_wp2;refine wp_region_held (S:=fun _=>True) (by kernel_rfl) ?_;refine wpAnyH_take (i:=0) (v:=.pointer (some ⟨b,0,none⟩)) rfl (by kernel_rfl) (by kernel_rfl) (by kernel_rfl) (fun _ _ _ h=>h) (.inl ⟨rfl,fun W hW=>rfl⟩) trivial ?_;refine rdH 1 rfl (by kernel_rfl) (fun K hK => ?_);go_simp;refine cM.mono ?_;rintro e w2 ⟨rfl,n,rfl⟩;exact⟨rfl,rfl,(Below.refl _ _).drew.trans (qam W.drew n)⟩
def qcQ (c:UInt8):Bool:=decide (48≤(c.toNat:Int)∧(c.toNat:Int)≤57)
def qfi (bs:List UInt8)(lim:Int)(most:Nat)(z:Bool):Nat→Nat→Nat→Except (Int×Int) (Nat×Nat)
 |0,p,num=>.ok (num,p)
 |g+1,p,num=>match bs[p]? with
  |none=>.ok (num,p)
  |some c=>if (p:Int)=lim then .error (8,p) else
   if qcQ c=true then (if z=true then .error (9,p) else if (most-(c.toNat-48)) / 10<num then .error (10,p) else qfi bs lim most z g (p+1) (num*10+(c.toNat-48)))
   else if c.toNat=46∨c.toNat=101∨c.toNat=69 then .error (10,p) else .ok (num,p)
def qbJ {α:Type}(W:World)(b:Nat)(s:Src)(val:α→Value)(r:Except (Int×Int) (α×Nat))(e:Ending)(W':World):Prop :=
 But b W W'∧match r with
 |.ok (x,p)=>e=.returned (val x)∧qad W' b {s with pos:=p}
 |.error (en,pl)=>qao en pl e
structure qno (W0:World)(b N:Nat)(s:Src)(W:World):Prop where
 src:qad W b s
 but:But b W0 W
 box:W.heap[N]? = some (.cells #[.pointer (some ⟨b,0,none⟩)] 198)
 ne:N≠b
theorem qno.step (h:qno W0 b N s W)(hs:qad W' b s')(hb:But b W W'):qno W0 b N s' W' :=
 ⟨hs,h.but.trans hb,(hb.block _ (ltA h.box) h.ne).trans h.box,h.ne⟩
theorem qno.cell (h:qno W0 b N s W):W.cell? ⟨N,0,none⟩=some (.pointer (some ⟨b,0,none⟩)):=qab h.box 0
theorem rdK (h:Hid (qno W0 b N s W))(hs:qad W' b s')(hb:But b W W'):Hid (qno W0 b N s' W')∧W'.cell? ⟨N,0,none⟩=some (.pointer (some ⟨b,0,none⟩)):=⟨h.out.step hs hb,(h.out.step hs hb).cell⟩
theorem qaR (h:qad W b s):qno W b W.heap.size s (W.alloc (.cells #[.pointer (some ⟨b,0,none⟩)] 198)) :=
 ⟨h.below bwA,But.of_below bwA,qac _ _,by have:=ltA h.row;omega⟩
theorem qij (x:Int)(h:qad W b s)(h1:quY s):Calls prog 304 #[.pointer (some ⟨b,0,none⟩),.int .u8 x] W fun e W'=>e=.returned (.bool false)∧qad W' b s∧But b W W' :=
 (qkW W b s x h h1).mono fun _ _ ⟨he,n,hw⟩=>⟨he,hw▸h.drewN n,hw▸But.of_below (qam W n)⟩
theorem qdw (x:Int)(h:qad W b s)(h1:qfp s c):Calls prog 304 #[.pointer (some ⟨b,0,none⟩),.int .u8 x] W fun e W'=>e=.returned (.bool ((c.toNat:Int)==x))∧qad W' b s∧But b W W' :=
 (qjp W b s c x h h1).mono fun _ _ ⟨he,n,hw⟩=>⟨he,hw▸h.drewN n,hw▸But.of_below (qam W n)⟩
theorem qu0 (h:qad W b s)(h1:quY s):Calls prog 319 #[.pointer (some ⟨b,0,none⟩)] W fun e W'=>e=.returned (.bool false)∧qad W' b s∧But b W W' :=
 (qfc W b s h h1).mono fun _ _ ⟨he,n,hw⟩=>⟨he,hw▸h.drewN n,hw▸But.of_below (qam W n)⟩
theorem qrA (h:qad W b s)(h1:qfp s c):Calls prog 319 #[.pointer (some ⟨b,0,none⟩)] W fun e W'=>e=.returned (.bool (qcQ c))∧qad W' b s∧But b W W' :=
 (qe1 W b s c h h1).mono fun _ _ ⟨he,n,hw⟩=>⟨he,hw▸h.drewN n,hw▸But.of_below (qam W n)⟩
theorem qd7 (W:World)(b:Nat)(s:Src)(first:UInt8)(most:Nat)(h:qad W b s)(hm:most=9223372036854775807∨most=9223372036854775808)(hf:48≤first.toNat∧first.toNat≤57):Calls prog 313 #[.agg #[.pointer (some ⟨b,0,none⟩)],.int .u8 first.toNat,.int .u64 most] W
   (qbJ W b s (fun x:Nat=>.int .u64 x) (qfi s.bs s.lim most (first.toNat==48) (s.bs.length+1-s.pos) s.pos (first.toNat-48))):=by
 have HX0:=qaa (qaR h);have hle:=h.le;have hlen:=h.len;unfold maxLen at hlen;have hf1:=hf.1;have hf2:=hf.2;obtain⟨R,HR⟩:∃R,Hid (qfi s.bs s.lim most (first.toNat==48) (s.bs.length+1-s.pos) s.pos (first.toNat-48)=R):=⟨_,show _=_ from rfl⟩
 rw[HR.out];clear h hf;go_enter func313,ntmps313;go_wp2;generalize W.alloc (.cells #[.pointer (some ⟨b,0,none⟩)] 198)=W0 at *
 go_loopg [7,8] (s.bs.length+1-s.pos) (fun g x _ wr=>∃p num:Nat,x=.int .u64 num∧Hid (p+g=s.bs.length+1)∧p≤s.bs.length∧num≤most∧Hid (qno W b W.heap.size {s with pos:=p} wr)∧Hid (qfi s.bs s.lim most (first.toNat==48) g p num=R))
 case atStart=>exact⟨s.pos,first.toNat-48,by go_num,by show _=_;omega,hle,by omega,HX0,HR⟩
 case round =>
  clear HX0 HR;obtain⟨p,num,rfl,hg,hp,hnum,HX,HR⟩:=hrel;have kb:=HX.out.cell;obtain⟨g,rfl⟩:∃g,gk=g+1:=⟨gk-1,by have:=hg.out;omega⟩
  rcases qaM HX.out.src with h1|h1|⟨c,h1⟩
  ·have HE:Hid (R=.ok (num,p)):=by
    show _=_;rw[←HR.out,qfi,List.getElem?_eq_none (by have:p=s.bs.length:=h1;omega)]
   have cD:=qu0 HX.out.src h1;have cF:=fun (x:Int) (V:World) (hV:qad V b {s with pos:=p})=>qij x hV h1;clear h1 HR;have T1:True:=trivial;have T2:True:=trivial
   go_wp2_with (first
    |(go_at_call 319;refine cD.mono ?_;clear cD kb;rintro e w2 ⟨rfl,hS,hB⟩;obtain⟨HX,kb⟩:=rdK HX hS hB;clear hS hB)
    |(go_at_call 304;clear T1;refine(cF 46 _ HX.out.src).mono ?_;clear kb;rintro e w3 ⟨rfl,hS,hB⟩;obtain⟨HX,kb⟩:=rdK HX hS hB;clear hS hB)
    |(go_at_call 304;clear T2;refine(cF 101 _ HX.out.src).mono ?_;clear kb;rintro e w4 ⟨rfl,hS,hB⟩;obtain⟨HX,kb⟩:=rdK HX hS hB;clear hS hB)
    |(go_at_call 304;refine(cF 69 _ HX.out.src).mono ?_;clear kb;rintro e w5 ⟨rfl,hS,hB⟩;obtain⟨HX,kb⟩:=rdK HX hS hB;clear hS hB))
   go_ret;rw[HE.out];exact⟨HX.out.but,rfl,HX.out.src⟩
  ·have HE:Hid (R=.error (8,(p:Int))):=by
    show _=_;have h2:(p:Int)=s.lim:=h1.2;have h3:p<s.bs.length:=h1.1;rw[←HR.out,qfi,List.getElem?_eq_getElem h3];simp[h2]
   have cD:=qeF wr b {s with pos:=p} HX.out.src h1;clear h1 HR
   go_wp2_with (first
    |(go_at_call 319;refine cD.mono ?_;clear cD kb;rintro e w2 ⟨rfl,hB⟩))
   rw[HE.out];exact⟨rfl,HX.out.but.trans (But.of_below hB),rfl⟩
  have hc1:s.bs[p]? = some c:=h1.1;have hc2:¬(p:Int)=s.lim:=h1.2;have cD:=qrA HX.out.src h1;have cF:=fun (x:Int) (V:World) (hV:qad V b {s with pos:=p})=>qdw x hV h1;have cT:∀V,qad V b {s with pos:=p}→Calls prog 294 #[.pointer (some ⟨b,0,none⟩)] V fun e W'=>e=.returned (.int .u8 c.toNat)∧qad W' b {s with pos:=p+1}∧But b V W':=fun V hV=>qau V b {s with pos:=p} c hV h1;have hplt:p<s.bs.length:=h1.lt;rw[qfi,hc1] at HR;simp only[] at HR;rw[if_neg hc2] at HR;clear h1 hc1 hc2
  go_wp2_with fail
  refine cD.mono ?_;clear cD kb;rintro e w2 ⟨rfl,hS,hB⟩;obtain⟨HX,kb⟩:=rdK HX hS hB;clear hS hB;cases hd:qcQ c
  ·rw[hd] at HR;rw[if_neg (by simp)] at HR;clear hd;have T1:True:=trivial;have T2:True:=trivial;by_cases hb:c.toNat=46∨c.toNat=101∨c.toNat=69
   ·have HE:Hid (R=.error (10,(p:Int))):=by show _=_;rw[←HR.out,if_pos hb]
    clear HR;rcases hb with hb|hb|hb
    all_goals
     first|have e46:((c.toNat:Int)==46)=true:=(by simp;omega)|have e46:=nec (c:=c) 46 (by omega)
     first|have e101:((c.toNat:Int)==101)=true:=(by simp;omega)|have e101:=nec (c:=c) 101 (by omega)
     first|have e69:((c.toNat:Int)==69)=true:=(by simp;omega)|have e69:=nec (c:=c) 69 (by omega)
     clear hb
     go_wp2_with (first
      |(go_at_call 304;clear T1;refine(cF 46 _ HX.out.src).mono ?_;clear kb;rintro e w3 ⟨rfl,hS,hB⟩;rw[e46];obtain⟨HX,kb⟩:=rdK HX hS hB;clear hS hB)
      |(go_at_call 304;clear T2;refine(cF 101 _ HX.out.src).mono ?_;clear kb;rintro e w4 ⟨rfl,hS,hB⟩;rw[e101];obtain⟨HX,kb⟩:=rdK HX hS hB;clear hS hB)
      |(go_at_call 304;refine(cF 69 _ HX.out.src).mono ?_;clear kb;rintro e w5 ⟨rfl,hS,hB⟩;rw[e69];obtain⟨HX,kb⟩:=rdK HX hS hB;clear hS hB)
      |(go_at_call 294;refine(cT _ HX.out.src).mono ?_;clear kb;rintro e w6 ⟨rfl,hS,hB⟩;obtain⟨HX,kb⟩:=rdK HX hS hB;clear hS hB;have cU:=fun (en:Int)=>qat w6 b {s with pos:=p+1} en HX.out.src)
      |(go_at_call 295;refine(cU _).mono ?_;clear cU kb;rintro e w7 ⟨hF,rfl⟩;obtain rfl:=hF))
     rw[HE.out];exact⟨rfl,HX.out.but,by show qao _ _ _;unfold qao qeh;simp⟩
   have HE:Hid (R=.ok (num,p)):=by show _=_;rw[←HR.out,if_neg hb]
   clear HR cT;have e46:=nec (c:=c) 46 (by omega);have e101:=nec (c:=c) 101 (by omega);have e69:=nec (c:=c) 69 (by omega);clear hb
   go_wp2_with (first
    |(go_at_call 304;clear T1;refine(cF 46 _ HX.out.src).mono ?_;clear kb;rintro e w3 ⟨rfl,hS,hB⟩;rw[e46];obtain⟨HX,kb⟩:=rdK HX hS hB;clear hS hB)
    |(go_at_call 304;clear T2;refine(cF 101 _ HX.out.src).mono ?_;clear kb;rintro e w4 ⟨rfl,hS,hB⟩;rw[e101];obtain⟨HX,kb⟩:=rdK HX hS hB;clear hS hB)
    |(go_at_call 304;refine(cF 69 _ HX.out.src).mono ?_;clear kb;rintro e w5 ⟨rfl,hS,hB⟩;rw[e69];obtain⟨HX,kb⟩:=rdK HX hS hB;clear hS hB))
   go_ret;rw[HE.out];exact⟨HX.out.but,rfl,HX.out.src⟩
  rw[hd] at HR;rw[if_pos rfl] at HR;have hdd:=of_decide_eq_true hd;have hd1:=hdd.1;have hd2:=hdd.2;clear hd hdd;by_cases hz:(first.toNat:Int)=48
  ·have HE:Hid (R=.error (9,(p:Int))):=by
    show _=_;rw[←HR.out,if_pos (by simp;omega)]
   clear HR cF
   go_wp2_with (first
    |(go_at_call 294;refine(cT _ HX.out.src).mono ?_;clear kb;rintro e w6 ⟨rfl,hS,hB⟩;obtain⟨HX,kb⟩:=rdK HX hS hB;clear hS hB;have cU:=fun (en:Int)=>qat w6 b {s with pos:=p+1} en HX.out.src)
    |(go_at_call 295;refine(cU _).mono ?_;clear cU kb;rintro e w7 ⟨hF,rfl⟩;obtain rfl:=hF))
   rw[HE.out];exact⟨rfl,HX.out.but,by show qao _ _ _;unfold qao qeh;simp⟩
  have HR2:Hid ((if (most-(c.toNat-48)) / 10<num then Except.error (10,(p:Int)) else qfi s.bs s.lim most (first.toNat==48) g (p+1) (num*10+(c.toNat-48)))=R):=by
   have e:=HR.out;rw[if_neg (show ¬(first.toNat==48)=true by simp;omega)] at e;exact e
  clear HR cF;by_cases hov:(most-(c.toNat-48)) / 10<num
  ·have HE:Hid (R=.error (10,(p:Int))):=by
    show _=_;rw[←HR2.out,if_pos hov]
   go_wp2_with (first
    |(go_at_call 294;refine(cT _ HX.out.src).mono ?_;clear kb;rintro e w6 ⟨rfl,hS,hB⟩;obtain⟨HX,kb⟩:=rdK HX hS hB;clear hS hB;have cU:=fun (en:Int)=>qat w6 b {s with pos:=p+1} en HX.out.src)
    |(go_at_call 295;refine(cU _).mono ?_;clear cU kb;rintro e w7 ⟨hF,rfl⟩;obtain rfl:=hF))
   rw[HE.out];exact⟨rfl,HX.out.but,rfl⟩
  have HE:Hid (qfi s.bs s.lim most (first.toNat==48) g (p+1) (num*10+(c.toNat-48))=R):=by
   show _=_;rw[←HR2.out,if_neg hov]
  go_wp2_with (first
   |(go_at_call 294;refine(cT _ HX.out.src).mono ?_;clear kb;rintro e w6 ⟨rfl,hS,hB⟩;obtain⟨HX,kb⟩:=rdK HX hS hB;clear hS hB;have cU:=fun (en:Int)=>qat w6 b {s with pos:=p+1} en HX.out.src)
   |(go_at_call 295;refine(cU _).mono ?_;clear cU kb;rintro e w7 ⟨hF,rfl⟩;obtain rfl:=hF))
  go_roundg g
  case measure=>omega
  case rel=>exact⟨p+1,num*10+(c.toNat-48),by go_num,by show _=_;have:=hg.out;omega,hplt,by omega,HX,HE⟩
theorem qfK {lim:Int}{most:Nat}{z:Bool}:∀{g p num:Nat} {x q:Nat},num≤most→9≤most→qfi bs lim most z g p num=.ok (x,q)→x≤most
 |0,p,num,x,q,hn,_,h=>by
  unfold qfi at h;cases h;exact hn
 |g+1,p,num,x,q,hn,hm,h=>by
  unfold qfi at h;split at h
  ·cases h;exact hn
  split at h
  ·cases h
  split at h
  ·next hd =>
   split at h
   ·cases h
   split at h
   ·cases h
   next hov =>
   have hdd:=of_decide_eq_true hd;exact qfK (by omega) hm h
  split at h
  ·cases h
  cases h;exact hn
def qg4 (s:Src)(first:UInt8):Except (Int×Int) (Int×Nat) :=
 if first.toNat=45 then
  match s.bs[s.pos]? with
  |none=>.error (9,s.pos)
  |some c=>if (s.pos:Int)=s.lim then .error (8,s.pos) else if qcQ c=true then
    (match qfi s.bs s.lim 9223372036854775808 (c.toNat==48) (s.bs.length+1-(s.pos+1)) (s.pos+1) (c.toNat-48) with
    |.ok (x,p)=>.ok (-(x:Int),p)
    |.error e=>.error e)
   else .error (9,s.pos)
 else match qfi s.bs s.lim 9223372036854775807 (first.toNat==48) (s.bs.length+1-s.pos) s.pos (first.toNat-48) with
  |.ok (x,p)=>.ok ((x:Int),p)
  |.error e=>.error e
theorem qrr (x:Nat)(h:x≤9223372036854775808):wrap64 (IntKind.u64.wrap (-(x:Int))) = -(x:Int):=by
 by_cases h0:x=0
 ·subst h0;have h1:IntKind.u64.wrap (-((0:Nat):Int))=0:=by
   unfold IntKind.wrap;simp[IntKind.bits,IntKind.signed]
  rw[h1];unfold wrap64;omega
 have h1:IntKind.u64.wrap (-(x:Int))=18446744073709551616-x:=by
  unfold IntKind.wrap;simp[IntKind.bits,IntKind.signed];omega
 rw[h1];unfold wrap64
 first|omega|(unfold IntKind.wrap;simp[IntKind.bits,IntKind.signed];omega)|(split<;>omega)
theorem qg7 (W:World)(b:Nat)(s:Src)(first:UInt8)(h:qad W b s)(hf:first.toNat=45∨qcQ first=true):Calls prog 303 #[.agg #[.pointer (some ⟨b,0,none⟩)],.int .u8 first.toNat] W (qbJ W b s (fun z:Int=>.int .i64 z) (qg4 s first)):=by
 have HX0:=qaa (qaR h);obtain⟨R,HR⟩:∃R,Hid (qg4 s first=R):=⟨_,show _=_ from rfl⟩
 rw[HR.out];have kb:=HX0.out.cell;by_cases h45:(first.toNat:Int)=45
 ·have hr:=HR.out;unfold qg4 at hr;rw[if_pos (by omega)] at hr;rcases qaM h with h1|h1|⟨c,h1⟩
  ·have HE:Hid (R=.error (9,(s.pos:Int))):=by
    show _=_;rw[List.getElem?_eq_none (by have:s.pos=s.bs.length:=h1;omega)] at hr;exact hr.symm
   have cT:=qbm _ b s HX0.out.src h1;go_enter func303,ntmps303
   go_wp2_with (first
    |(go_at_call 294;refine cT.mono ?_;rintro e w2 ⟨hF,hB⟩;obtain rfl:=hF))
   rw[HE.out];exact⟨rfl,HX0.out.but.trans (But.of_below hB),rfl⟩
  ·have HE:Hid (R=.error (8,(s.pos:Int))):=by
    show _=_;rw[List.getElem?_eq_getElem h1.1] at hr;simp only[] at hr;rw[if_pos h1.2] at hr;exact hr.symm
   have cT:=qaP _ b s HX0.out.src h1;go_enter func303,ntmps303
   go_wp2_with (first
    |(go_at_call 294;refine cT.mono ?_;rintro e w2 ⟨hF,hB⟩;obtain rfl:=hF))
   rw[HE.out];exact⟨rfl,HX0.out.but.trans (But.of_below hB),rfl⟩
  rw[h1.1] at hr;simp only[] at hr;rw[if_neg h1.2] at hr;have cT:=qau _ b s c HX0.out.src h1;have hlt:=h1.lt;have hle:=h.len;unfold maxLen at hle;cases hdc:decide (48≤(c.toNat:Int)∧(c.toNat:Int)≤57)
  ·have HE:Hid (R=.error (9,(s.pos:Int))):=by
    show _=_;rw[if_neg (by unfold qcQ;rw[hdc];simp)] at hr;exact hr.symm
   go_enter func303,ntmps303
   go_wp2_with (first
    |(go_at_call 294;refine cT.mono ?_;rintro e w2 ⟨rfl,hS,hB⟩;have HX2:=qaa (HX0.out.step hS hB);have HX:=HX2;have kb:=HX.out.cell)
    |(go_at_call 302;refine(qbg c _).mono ?_;rintro e w3 ⟨rfl,rfl⟩;rw[hdc])
    |(go_at_call 295;refine(qat _ b s.next _ HX.out.src).mono ?_;rintro e w7 ⟨hF,rfl⟩;obtain rfl:=hF))
   rw[HE.out];exact⟨rfl,HX.out.but,by show qao _ _ _;unfold qao qeh Src.next;simp⟩
  have hd:=of_decide_eq_true hdc;have hd1:=hd.1;have hd2:=hd.2;rw[if_pos (by unfold qcQ;exact hdc)] at hr;have cD:=fun V (hV:qad V b s.next)=>qd7 V b s.next c 9223372036854775808 hV (.inr rfl) ⟨by omega,by omega⟩
  obtain⟨D,hD⟩:∃D,qfi s.bs s.lim 9223372036854775808 (c.toNat==48) (s.bs.length+1-(s.pos+1)) (s.pos+1) (c.toNat-48)=D:=⟨_,rfl⟩
  have cD2:∀V,qad V b s.next→Calls prog 313 #[.agg #[.pointer (some ⟨b,0,none⟩)],.int .u8 c.toNat,.int .u64 9223372036854775808] V (qbJ V b s.next (fun x:Nat=>.int .u64 x) D):=by rw[←hD];exact cD
  rw[hD] at hr;rcases D with ⟨en,pl⟩|⟨x,q⟩
  ·have HE:Hid (R=.error (en,pl)):=hr.symm;go_enter func303,ntmps303
   go_wp2_with (first
    |(go_at_call 294;refine cT.mono ?_;rintro e w2 ⟨rfl,hS,hB⟩;have HX2:=qaa (HX0.out.step hS hB);have HX:=HX2;have kb:=HX.out.cell)
    |(go_at_call 302;refine(qbg c _).mono ?_;rintro e w3 ⟨rfl,rfl⟩;rw[hdc])
    |(go_at_call 313;refine(cD2 _ HX.out.src).mono ?_;rintro e w4 ⟨hB,hF⟩;obtain rfl:=hF))
   rw[HE.out];exact⟨rfl,HX.out.but.trans hB,rfl⟩
  have HE:Hid (R=.ok (-(x:Int),q)):=hr.symm;have hx:=qfK (by omega) (by omega) hD;go_enter func303,ntmps303
  go_wp2_with (first
   |(go_at_call 294;refine cT.mono ?_;rintro e w2 ⟨rfl,hS,hB⟩;have HX2:=qaa (HX0.out.step hS hB);have HX:=HX2;have kb:=HX.out.cell)
   |(go_at_call 302;refine(qbg c _).mono ?_;rintro e w3 ⟨rfl,rfl⟩;rw[hdc])
   |(go_at_call 313;refine(cD2 _ HX.out.src).mono ?_;rintro e w4 ⟨hB,rfl,hS⟩))
  go_ret;rw[HE.out];exact⟨HX.out.but.trans hB,congrArg (fun z=>Ending.returned (Value.int .i64 z)) (qrr x hx),hS⟩
 have hd:=of_decide_eq_true (hf.resolve_left (by omega));have hd1:=hd.1;have hd2:=hd.2;have cD:=qd7 (W.alloc (.cells #[.pointer (some ⟨b,0,none⟩)] 198)) b s first 9223372036854775807 HX0.out.src (.inl rfl) ⟨by omega,by omega⟩
 have hr:=HR.out;unfold qg4 at hr;rw[if_neg (by omega)] at hr;obtain⟨D,hD⟩:∃D,qfi s.bs s.lim 9223372036854775807 (first.toNat==48) (s.bs.length+1-s.pos) s.pos (first.toNat-48)=D:=⟨_,rfl⟩
 rw[hD] at cD hr;rcases D with ⟨en,pl⟩|⟨x,q⟩
 ·have HE:Hid (R=.error (en,pl)):=hr.symm;go_enter func303,ntmps303
  go_wp2_with (first
   |(go_at_call 313;refine cD.mono ?_;rintro e w2 ⟨hB,hF⟩;obtain rfl:=hF))
  rw[HE.out];exact⟨rfl,HX0.out.but.trans hB,rfl⟩
 have HE:Hid (R=.ok ((x:Int),q)):=hr.symm;have hx:=qfK (by omega) (by omega) hD;go_enter func303,ntmps303
 go_wp2_with (first
  |(go_at_call 313;refine cD.mono ?_;rintro e w2 ⟨hB,rfl,hS⟩))
 go_ret;rw[HE.out];exact⟨HX0.out.but.trans hB,rfl,hS⟩
def qxm (c:UInt8):Bool:=c.toNat==32||(c.toNat==9||(c.toNat==10||c.toNat==13))
def spF (bs:List UInt8)(lim:Int):Nat→Nat→Except (Int×Int) (Unit×Nat)
 |0,p=>.ok ((),p)
 |g+1,p=>match bs[p]? with
  |none=>.ok ((),p)
  |some c=>if (p:Int)=lim then .error (8,p) else if qxm c=true then spF bs lim g (p+1) else .ok ((),p)
theorem qaN (W:World)(b:Nat)(s:Src)(h:qad W b s):Calls prog 297 #[.agg #[.pointer (some ⟨b,0,none⟩)]] W (qbJ W b s (fun _:Unit=>.tuple #[]) (spF s.bs s.lim (s.bs.length+1-s.pos) s.pos)):=by
 have HX0:=qaa (qaR h);have hle:=h.le;obtain⟨R,HR⟩:∃R,Hid (spF s.bs s.lim (s.bs.length+1-s.pos) s.pos=R):=⟨_,show _=_ from rfl⟩
 rw[HR.out];clear h;go_enter func297,ntmps297;go_wp2;generalize W.alloc (.cells #[.pointer (some ⟨b,0,none⟩)] 198)=W0 at *
 go_loopg [2] (s.bs.length+1-s.pos) (fun g _ wr=>∃p:Nat,Hid (p+g=s.bs.length+1)∧p≤s.bs.length∧Hid (qno W b W.heap.size {s with pos:=p} wr)∧Hid (spF s.bs s.lim g p=R))
 case atStart=>exact⟨s.pos,by show _=_;omega,hle,HX0,HR⟩
 case round =>
  clear HX0 HR;obtain⟨p,hg,hp,HX,HR⟩:=hrel;have kb:=HX.out.cell;obtain⟨g,rfl⟩:∃g,gk=g+1:=⟨gk-1,by have:=hg.out;omega⟩
  rcases qaM HX.out.src with h1|h1|⟨c,h1⟩
  ·have HE:Hid (R=.ok ((),p)):=by
    show _=_;rw[←HR.out,spF,List.getElem?_eq_none (by have:p=s.bs.length:=h1;omega)]
   have cF:=fun (x:Int) (V:World) (hV:qad V b {s with pos:=p})=>qij x hV h1;clear h1 HR;have T1:True:=trivial;have T2:True:=trivial;have T3:True:=trivial
   go_wp2_with (first
    |(go_at_call 304;clear T1;refine(cF 32 _ HX.out.src).mono ?_;clear kb;rintro e w2 ⟨rfl,hS,hB⟩;obtain⟨HX,kb⟩:=rdK HX hS hB;clear hS hB)
    |(go_at_call 304;clear T2;refine(cF 9 _ HX.out.src).mono ?_;clear kb;rintro e w3 ⟨rfl,hS,hB⟩;obtain⟨HX,kb⟩:=rdK HX hS hB;clear hS hB)
    |(go_at_call 304;clear T3;refine(cF 10 _ HX.out.src).mono ?_;clear kb;rintro e w4 ⟨rfl,hS,hB⟩;obtain⟨HX,kb⟩:=rdK HX hS hB;clear hS hB)
    |(go_at_call 304;refine(cF 13 _ HX.out.src).mono ?_;clear kb;rintro e w5 ⟨rfl,hS,hB⟩;obtain⟨HX,kb⟩:=rdK HX hS hB;clear hS hB))
   go_end0;rw[HE.out];exact⟨HX.out.but,rfl,HX.out.src⟩
  ·have HE:Hid (R=.error (8,(p:Int))):=by
    show _=_;have h2:(p:Int)=s.lim:=h1.2;have h3:p<s.bs.length:=h1.1;rw[←HR.out,spF,List.getElem?_eq_getElem h3];simp[h2]
   have cD:=qdd wr b {s with pos:=p} 32 HX.out.src h1;clear h1 HR
   go_wp2_with (first
    |(go_at_call 304;refine cD.mono ?_;clear cD kb;rintro e w2 ⟨rfl,hB⟩))
   rw[HE.out];exact⟨rfl,HX.out.but.trans (But.of_below hB),rfl⟩
  have hc1:s.bs[p]? = some c:=h1.1;have hc2:¬(p:Int)=s.lim:=h1.2;have cF:=fun (x:Int) (V:World) (hV:qad V b {s with pos:=p})=>qdw x hV h1;have cT:∀V,qad V b {s with pos:=p}→Calls prog 294 #[.pointer (some ⟨b,0,none⟩)] V fun e W'=>e=.returned (.int .u8 c.toNat)∧qad W' b {s with pos:=p+1}∧But b V W':=fun V hV=>qau V b {s with pos:=p} c hV h1;have hplt:p<s.bs.length:=h1.lt;rw[spF,hc1] at HR;simp only[] at HR;rw[if_neg hc2] at HR;clear h1 hc1 hc2;have T1:True:=trivial;have T2:True:=trivial;have T3:True:=trivial;by_cases hsp:c.toNat=32∨c.toNat=9∨c.toNat=10∨c.toNat=13
  ·have HE:Hid (spF s.bs s.lim g (p+1)=R):=by
    show _=_;rw[←HR.out,if_pos (by unfold qxm;simpa using hsp)]
   clear HR;rcases hsp with hb|hb|hb|hb
   all_goals
    first|have e32:((c.toNat:Int)==32)=true:=(by simp;omega)|have e32:=nec (c:=c) 32 (by omega)
    first|have e9:((c.toNat:Int)==9)=true:=(by simp;omega)|have e9:=nec (c:=c) 9 (by omega)
    first|have e10:((c.toNat:Int)==10)=true:=(by simp;omega)|have e10:=nec (c:=c) 10 (by omega)
    first|have e13:((c.toNat:Int)==13)=true:=(by simp;omega)|have e13:=nec (c:=c) 13 (by omega)
    clear hb
    go_wp2_with (first
     |(go_at_call 304;clear T1;refine(cF 32 _ HX.out.src).mono ?_;clear kb;rintro e w2 ⟨rfl,hS,hB⟩;rw[e32];obtain⟨HX,kb⟩:=rdK HX hS hB;clear hS hB)
     |(go_at_call 304;clear T2;refine(cF 9 _ HX.out.src).mono ?_;clear kb;rintro e w3 ⟨rfl,hS,hB⟩;rw[e9];obtain⟨HX,kb⟩:=rdK HX hS hB;clear hS hB)
     |(go_at_call 304;clear T3;refine(cF 10 _ HX.out.src).mono ?_;clear kb;rintro e w4 ⟨rfl,hS,hB⟩;rw[e10];obtain⟨HX,kb⟩:=rdK HX hS hB;clear hS hB)
     |(go_at_call 304;refine(cF 13 _ HX.out.src).mono ?_;clear kb;rintro e w5 ⟨rfl,hS,hB⟩;rw[e13];obtain⟨HX,kb⟩:=rdK HX hS hB;clear hS hB)
     |(go_at_call 294;refine(cT _ HX.out.src).mono ?_;clear kb;rintro e w6 ⟨rfl,hS,hB⟩;obtain⟨HX,kb⟩:=rdK HX hS hB;clear hS hB))
    go_roundg g
    case measure=>omega
    case rel=>exact⟨p+1,by show _=_;have:=hg.out;omega,hplt,HX,HE⟩
  have HE:Hid (R=.ok ((),p)):=by
   show _=_;rw[←HR.out,if_neg (by unfold qxm;simpa using hsp)]
  clear HR;have e32:=nec (c:=c) 32 (by omega);have e9:=nec (c:=c) 9 (by omega);have e10:=nec (c:=c) 10 (by omega);have e13:=nec (c:=c) 13 (by omega);clear hsp
  go_wp2_with (first
   |(go_at_call 304;clear T1;refine(cF 32 _ HX.out.src).mono ?_;clear kb;rintro e w2 ⟨rfl,hS,hB⟩;rw[e32];obtain⟨HX,kb⟩:=rdK HX hS hB;clear hS hB)
   |(go_at_call 304;clear T2;refine(cF 9 _ HX.out.src).mono ?_;clear kb;rintro e w3 ⟨rfl,hS,hB⟩;rw[e9];obtain⟨HX,kb⟩:=rdK HX hS hB;clear hS hB)
   |(go_at_call 304;clear T3;refine(cF 10 _ HX.out.src).mono ?_;clear kb;rintro e w4 ⟨rfl,hS,hB⟩;rw[e10];obtain⟨HX,kb⟩:=rdK HX hS hB;clear hS hB)
   |(go_at_call 304;refine(cF 13 _ HX.out.src).mono ?_;clear kb;rintro e w5 ⟨rfl,hS,hB⟩;rw[e13];obtain⟨HX,kb⟩:=rdK HX hS hB;clear hS hB))
  go_end0;rw[HE.out];exact⟨HX.out.but,rfl,HX.out.src⟩
def qqn (s:Src):Except (Int×Int) (Unit×Nat) :=
 match s.bs[s.pos]? with
 |none=>.ok ((),s.pos)
 |some _=>if (s.pos:Int)=s.lim then .error (8,s.pos) else .error (9,s.pos)
theorem qgi (W:World)(b:Nat)(s:Src)(h:qad W b s):Calls prog 290 #[.pointer (some ⟨b,0,none⟩)] W (qbJ W b s (fun _:Unit=>.tuple #[]) (qqn s)):=by
 obtain⟨R,HR⟩:∃R,Hid (qqn s=R):=⟨_,show _=_ from rfl⟩
 rw[HR.out];have hr:=HR.out;unfold qqn at hr;rcases qaM h with h1|h1|⟨c,h1⟩
 ·have HE:Hid (R=.ok ((),s.pos)):=by
   show _=_;rw[List.getElem?_eq_none (by have:s.pos=s.bs.length:=h1;omega)] at hr;exact hr.symm
  have cM:=qfu W b s h h1;have HS:=qaa h;clear hr HR h h1;go_enter func290,ntmps290
  go_wp2_with (first
   |(go_at_call 293;refine cM.mono ?_;clear cM;rintro e w2 ⟨rfl,n,rfl⟩))
  go_end0;rw[HE.out];exact⟨But.of_below (qam W n),rfl,HS.out.drewN n⟩
 ·have HE:Hid (R=.error (8,(s.pos:Int))):=by
   show _=_;rw[List.getElem?_eq_getElem h1.1] at hr;simp only[] at hr;rw[if_pos h1.2] at hr;exact hr.symm
  have cM:=qel W b s h h1.1 h1.2;clear hr HR h h1;go_enter func290,ntmps290
  go_wp2_with (first
   |(go_at_call 293;refine cM.mono ?_;clear cM;rintro e w2 ⟨hF,n,rfl⟩;obtain rfl:=hF))
  rw[HE.out];exact⟨rfl,But.of_below (qam W n),rfl⟩
 have HE:Hid (R=.error (9,(s.pos:Int))):=by
  show _=_;rw[h1.1] at hr;simp only[] at hr;rw[if_neg h1.2] at hr;exact hr.symm
 have cM:=qeo W b s h h1.lt h1.2;have cT:=fun V (hV:qad V b s)=>qau V b s c hV h1;have HS:=qaa h;have hlt:=h1.lt;have hm:=h.len;unfold maxLen at hm;clear hr HR h h1;go_enter func290,ntmps290
 go_wp2_with (first
  |(go_at_call 293;refine cM.mono ?_;clear cM;rintro e w2 ⟨rfl,n,rfl⟩;have HS2:=qaa (HS.out.drewN n))
  |(go_at_call 294;refine(cT _ HS2.out).mono ?_;rintro e w3 ⟨rfl,hS3,hB3⟩;have HS3:=qaa hS3;have HB3:=qaa hB3;clear hS3 hB3)
  |(go_at_call 295;refine(qat _ b s.next _ HS3.out).mono ?_;rintro e w7 ⟨hF,rfl⟩;obtain rfl:=hF))
 rw[HE.out];exact⟨rfl,(But.of_below (qam W n)).trans HB3.out,by show qao _ _ _;unfold qao qeh Src.next;simp⟩
def qpT (z:Int):Value:=.iface 279 (.int .i64 z)
theorem qim (W:World)(b:Nat)(s:Src)(c:UInt8)(h:qad W b s)(h1:qfp s c)(hc:c.toNat=45∨qcQ c=true):Calls prog 296 #[.agg #[.pointer (some ⟨b,0,none⟩)]] W (qbJ W b s qpT (qg4 s.next c)):=by
 have HX0:=qaa (qaR h);have kb:=HX0.out.cell;have cT:=qau _ b s c HX0.out.src h1;have cN:=fun V (hV:qad V b s.next)=>qg7 V b s.next c hV hc
 obtain⟨R,HR⟩:∃R,Hid (qg4 s.next c=R):=⟨_,show _=_ from rfl⟩
 rw[HR.out];have cN2:∀V,qad V b s.next→Calls prog 303 #[.agg #[.pointer (some ⟨b,0,none⟩)],.int .u8 c.toNat] V (qbJ V b s.next (fun z:Int=>.int .i64 z) R):=by rw[←HR.out];exact cN
 have hrange:(c.toNat:Int)=45∨(48≤(c.toNat:Int)∧(c.toNat:Int)≤57):=by
  rcases hc with hc|hc
  ·left;omega
  right;exact of_decide_eq_true hc
 have n1:¬(c.toNat:Int)=110:=by omega
 have n2:¬(c.toNat:Int)=116:=by omega
 have n3:¬(c.toNat:Int)=102:=by omega
 have n4:¬(c.toNat:Int)=34:=by omega
 have n5:¬(c.toNat:Int)=91:=by omega
 have n6:¬(c.toNat:Int)=123:=by omega
 clear cN HR hc h1 h;have e1:=beq_eq_false_iff_ne.2 n1;have e2:=beq_eq_false_iff_ne.2 n2;have e3:=beq_eq_false_iff_ne.2 n3;have e4:=beq_eq_false_iff_ne.2 n4;have e5:=beq_eq_false_iff_ne.2 n5;have e6:=beq_eq_false_iff_ne.2 n6;clear n1 n2 n3 n4 n5 n6;rcases hrange with hr|hr
 ·have e7:=beq_iff_eq.2 hr;clear hr;rcases hR2:R with ⟨en,pl⟩|⟨z,q⟩
  ·have HE:=qaa hR2;rw[hR2] at cN2;clear hR2;go_enter func296,ntmps296
   go_wp2_with (first
    |(go_at_call 294;refine cT.mono ?_;clear cT kb;rintro e w2 ⟨rfl,hS,hB⟩;have HX2:=qaa (HX0.out.step hS hB);clear HX0 hS hB;have HX:=HX2;clear HX2;have kb:=HX.out.cell)
    |(go_at_call 303;refine(cN2 _ HX.out.src).mono ?_;clear cN2 kb;rintro e w4 ⟨hB,hF⟩;obtain rfl:=hF))
   exact⟨rfl,HX.out.but.trans hB,rfl⟩
  have HE:=qaa hR2;rw[hR2] at cN2;clear hR2;go_enter func296,ntmps296
  go_wp2_with (first
   |(go_at_call 294;refine cT.mono ?_;clear cT kb;rintro e w2 ⟨rfl,hS,hB⟩;have HX2:=qaa (HX0.out.step hS hB);clear HX0 hS hB;have HX:=HX2;clear HX2;have kb:=HX.out.cell)
   |(go_at_call 303;refine(cN2 _ HX.out.src).mono ?_;clear cN2 kb;rintro e w4 ⟨hB,rfl,hS⟩))
  go_ret;exact⟨HX.out.but.trans hB,rfl,hS⟩
 have hdc:=decide_eq_true hr;have e7:((c.toNat:Int)==45)=false:=beq_eq_false_iff_ne.2 (by omega);clear hr;rcases hR2:R with ⟨en,pl⟩|⟨z,q⟩
 ·have HE:=qaa hR2;rw[hR2] at cN2;clear hR2;go_enter func296,ntmps296
  go_wp2_with (first
   |(go_at_call 294;refine cT.mono ?_;clear cT kb;rintro e w2 ⟨rfl,hS,hB⟩;have HX2:=qaa (HX0.out.step hS hB);clear HX0 hS hB;have HX:=HX2;clear HX2;have kb:=HX.out.cell)
   |(go_at_call 302;refine(qbg c _).mono ?_;rintro e w3 ⟨rfl,rfl⟩;rw[hdc])
   |(go_at_call 303;refine(cN2 _ HX.out.src).mono ?_;clear cN2 kb;rintro e w4 ⟨hB,hF⟩;obtain rfl:=hF))
  exact⟨rfl,HX.out.but.trans hB,rfl⟩
 have HE:=qaa hR2;rw[hR2] at cN2;clear hR2;go_enter func296,ntmps296
 go_wp2_with (first
  |(go_at_call 294;refine cT.mono ?_;clear cT kb;rintro e w2 ⟨rfl,hS,hB⟩;have HX2:=qaa (HX0.out.step hS hB);clear HX0 hS hB;have HX:=HX2;clear HX2;have kb:=HX.out.cell)
  |(go_at_call 302;refine(qbg c _).mono ?_;rintro e w3 ⟨rfl,rfl⟩;rw[hdc])
  |(go_at_call 303;refine(cN2 _ HX.out.src).mono ?_;clear cN2 kb;rintro e w4 ⟨hB,rfl,hS⟩))
 go_ret;exact⟨HX.out.but.trans hB,rfl,hS⟩
structure qa4 (W:World)(ia:Option Addr)(bs:List UInt8):Prop where
 at_:∀i (h:i<bs.length),∃g off,ia=some ⟨g,off,none⟩∧g<W.heap.size∧W.cell? ⟨g,off+i,none⟩=some (.int .u8 (bs[i]'h).toNat)
 len:bs.length≤maxLen
theorem qa4.below (h:qa4 W ia bs)(hb:Below W.heap.size W W'):qa4 W' ia bs :=
 ⟨fun i hi=>by
  obtain⟨g,off,e1,e2,e3⟩:=h.at_ i hi;exact⟨g,off,e1,Nat.lt_of_lt_of_le e2 hb.size,(hb.cell (p:=⟨g,off+i,none⟩) e2).trans e3⟩,h.len⟩
theorem qkI {cap:Nat}{d l:Int}(h:qa4 W ia bs)(hb:Below W.heap.size W W')(hlt:W.heap.size≤b)(hr:W'.heap[b]? = some (.cells (Src.arr ⟨ia,bs,cap,d,l,0,0⟩) 196)):qad W' b ⟨ia,bs,cap,d,l,0,0⟩ :=
 ⟨hr,fun i hi=>by
  obtain⟨g,off,e1,e2,e3⟩:=h.at_ i hi;exact⟨g,off,e1,by omega,(hb.cell (p:=⟨g,off+i,none⟩) e2).trans e3⟩,h.len,Nat.zero_le _⟩
theorem qgQ (W:World)(ia:Option Addr)(bs:List UInt8)(cap:Nat)(d l:Int)(h:qa4 W ia bs):Calls prog 65 #[.int .i64 1,.agg #[.int .i64 d,.int .i64 l],.slice ia bs.length cap] W fun e W' =>
   ∃b,e=.returned (.iface 198 (.agg #[.pointer (some ⟨b,0,none⟩)]))∧qad W' b ⟨ia,bs,cap,d,l,0,0⟩∧W.heap.size≤b∧Below W.heap.size W W':=by
 have HB:=qaa h;go_enter func65,ntmps65;go_wp2;go_ret;have hb:Below W.heap.size W ((W.alloc (.cells #[.int .i64 d,.int .i64 l] 86)).alloc (.cells #[.slice ia bs.length cap,.int .i64 d,.int .i64 l,.int .i64 0,.int .i64 0] 196)):=(bwA).alloc (by simp) _;have hr:=qac (W.alloc (.cells #[.int .i64 d,.int .i64 l] 86)) (.cells #[.slice ia bs.length cap,.int .i64 d,.int .i64 l,.int .i64 0,.int .i64 0] 196);rw[World.size_alloc] at hr;exact⟨W.heap.size+1,rfl,qkI HB.out hb (by omega) hr,by omega,hb⟩
theorem qaC {V V':World}(h:Below W.heap.size W V)(hk:But b V V')(hb:W.heap.size≤b):Below W.heap.size W V' :=
 ⟨hk.os.trans h.os,hk.tape.trans h.tape,hk.output.trans h.output,Nat.le_trans h.size hk.size,fun k hk2=>(hk.block k (by have:=h.size;omega) (by omega)).trans (h.block k hk2)⟩
theorem qdj {α:Type}{P:Program}{o:Oper}{a:Act}{K:Act→World→Prop}{Q:Exit→Act→World→Prop}{x:Result α}{y:α}{w:World}{k:α→World→Result Next}(h:x=.ok y w)(hk:o.upon P a K Q (k y w)):o.upon P a K Q (x.andThen k):=by rw[h];exact hk
end
end Go.Proofs.YtllcbnfmihfaaaaGreatDoor
