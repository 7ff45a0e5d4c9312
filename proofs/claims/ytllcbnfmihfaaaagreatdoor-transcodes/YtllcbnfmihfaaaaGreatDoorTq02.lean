import Derived.Test.YtllcbnfmihfaaaaGreatDoorTq01
set_option maxRecDepth 100000
set_option maxHeartbeats 8000000
namespace Go.Proofs.YtllcbnfmihfaaaaGreatDoor
open Go.Proofs.Tryz
variable {W:World}{b:Nat}{s:Src}
section
open Go.RowKit
def qws (x:Nat)(w:Int):Int:=if (w==1)=true then wrap64 (IntKind.i8.wrap x) else if (w==2)=true then wrap64 (IntKind.i16.wrap x) else if (w==4)=true then wrap64 (wrap32 x) else wrap64 x
theorem qg8 (x:Nat)(w:Int)(_hx:x<18446744073709551616)(W:World):Calls prog 332 #[.int .u64 x,.int .i64 w] W fun e W'=>e=.returned (.int .i64 (qws x w))∧W'=W:=by
 obtain⟨R,HR⟩:∃R,Hid (qws x w=R):=⟨_,show _=_ from rfl⟩
 rw[HR.out];have hr:=HR.out;unfold qws at hr;cases h1:(w==1)
 ·rw[h1,if_neg (by decide)] at hr;cases h2:(w==2)
  ·rw[h2,if_neg (by decide)] at hr;cases h4:(w==4)
   ·rw[h4,if_neg (by decide)] at hr;have HR:=qaa hr;go_enter func332,ntmps332;go_wp2;go_ret;rw[←HR.out];exact⟨rfl,rfl⟩
   rw[h4,if_pos rfl] at hr;have HR:=qaa hr;go_enter func332,ntmps332;go_wp2;go_ret;rw[←HR.out];exact⟨rfl,rfl⟩
  rw[h2,if_pos rfl] at hr;have HR:=qaa hr;go_enter func332,ntmps332;go_wp2;go_ret;rw[←HR.out];exact⟨rfl,rfl⟩
 rw[h1,if_pos rfl] at hr;have HR:=qaa hr;go_enter func332,ntmps332;go_wp2;go_ret;rw[←HR.out];exact⟨rfl,rfl⟩
def nbF (so w:Int)(x:Nat)(pos:Int):Except (Int×Int) Int :=
 if (so==5)=true then .ok (qws x w) else if 9223372036854775807<x then .error (10,pos-1) else if (so==6)=true then .ok (-1-(x:Int)) else .ok x
def qgc {α:Type}(W:World)(b:Nat)(s:Src)(val:α→Value)(r:Except (Int×Int) (α×Nat))(e:Ending)(W':World):Prop :=
 But b W W'∧match r with
 |.ok (x,p)=>e=.returned (val x)∧qad W' b {s with pos:=p}
 |.error (en,pl)=>qao en pl e∧∃p,qad W' b {s with pos:=p}
def qsC (W:World)(b:Nat)(s:Src)(r:Except (Int×Int) Int)(e:Ending)(W':World):Prop :=
 But b W W'∧match r with
 |.ok z=>e=.returned (.int .i64 z)∧qad W' b s
 |.error (en,pl)=>qao en pl e∧∃p,qad W' b {s with pos:=p}
structure qld (W0:World)(b N:Nat)(fv:Value)(so w:Int)(g:Nat)(s:Src)(W:World):Prop where
 src:qad W b s
 but:But b W0 W
 box:W.heap[N]? = some (.cells #[.pointer (some ⟨b,0,none⟩),fv] 201)
 hd:W.heap[N+1]? = some (.cells #[.int .i64 so,.int .i64 w,.int .u64 g] 273)
 ne:b<N
theorem qld.step {W0:World}{N:Nat}{fv:Value}{so w:Int}{g:Nat}{s':Src}{W':World}(h:qld W0 b N fv so w g s W)(hs:qad W' b s')(hb:But b W W'):qld W0 b N fv so w g s' W' :=
 ⟨hs,h.but.trans hb,(hb.block _ (ltA h.box) (by have:=h.ne;omega)).trans h.box,(hb.block _ (ltA h.hd) (by have:=h.ne;omega)).trans h.hd,h.ne⟩
theorem qlr (fv:Value)(so w:Int)(g:Nat)(h:qad W b s):qld W b W.heap.size fv so w g s ((W.alloc (.cells #[.pointer (some ⟨b,0,none⟩),fv] 201)).alloc (.cells #[.int .i64 so,.int .i64 w,.int .u64 g] 273)):=by
 have hB:Below W.heap.size W ((W.alloc (.cells #[.pointer (some ⟨b,0,none⟩),fv] 201)).alloc (.cells #[.int .i64 so,.int .i64 w,.int .u64 g] 273)):=(bwA).alloc (by simp) _;refine⟨h.below hB,But.of_below hB,?_,?_,(ltA h.row)⟩
 ·have:=qac W (.cells #[.pointer (some ⟨b,0,none⟩),fv] 201);rw[←this];exact(((Below.refl (W.heap.size+1) (W.alloc (.cells #[.pointer (some ⟨b,0,none⟩),fv] 201))).alloc (by simp) _).block _ (by omega))
 have:=qac (W.alloc (.cells #[.pointer (some ⟨b,0,none⟩),fv] 201)) (.cells #[.int .i64 so,.int .i64 w,.int .u64 g] 273);rw[World.size_alloc] at this;exact this
theorem qiU (W:World)(b:Nat)(s:Src)(f:Nat)(so w:Int)(g x:Nat)(hx:x<18446744073709551616)(h:qad W b s):Calls prog 327 #[.agg #[.pointer (some ⟨b,0,none⟩),.func (.func f) #[] #[]],.agg #[.int .i64 so,.int .i64 w,.int .u64 g],.int .u64 x] W (qsC W b s (nbF so w x s.pos)):=by
 have HX:Hid (qld W b W.heap.size (.func (.func f) #[] #[]) so w g s ((W.alloc (.cells #[.pointer (some ⟨b,0,none⟩),.func (.func f) #[] #[]] 201)).alloc (.cells #[.int .i64 so,.int .i64 w,.int .u64 g] 273))):=qlr _ so w g h;obtain⟨R,HR⟩:∃R,Hid (nbF so w x s.pos=R):=⟨_,show _=_ from rfl⟩
 rw[HR.out];have hr:=HR.out;unfold nbF at hr;have k0:=qab HX.out.box 0;have k1:=qab HX.out.hd 0;have k2:=qab HX.out.hd 1;cases h5:(so==5)
 ·rw[h5,if_neg (by decide)] at hr;by_cases hm:9223372036854775807<x
  ·rw[if_pos hm] at hr;subst hr;have cR:=qat _ b s 10 HX.out.src;have hm2:decide ((9223372036854775807:Int)<x)=true:=by simp;omega
   go_enter func327,ntmps327
   go_wp2_with (first
    |(go_at_call 295;refine cR.mono ?_;rintro e w7 ⟨hF,rfl⟩;obtain rfl:=hF))
   exact⟨rfl,HX.out.but,rfl,_,HX.out.src⟩
  rw[if_neg hm] at hr;have hm2:decide ((9223372036854775807:Int)<x)=false:=by simp;omega
  cases h6:(so==6)
  ·rw[h6,if_neg (by decide)] at hr;subst hr;go_enter func327,ntmps327;go_wp2;go_ret;exact⟨HX.out.but,rfl,HX.out.src⟩
  rw[h6,if_pos rfl] at hr;subst hr;go_enter func327,ntmps327;go_wp2;go_ret;exact⟨HX.out.but,rfl,HX.out.src⟩
 rw[h5,if_pos rfl] at hr;subst hr;have cE:=fun V=>qg8 x w hx V;go_enter func327,ntmps327
 go_wp2_with (first
  |(go_at_call 332;refine(cE _).mono ?_;rintro e w7 ⟨rfl,rfl⟩))
 go_ret;exact⟨HX.out.but,rfl,HX.out.src⟩
def qqh (c:UInt8):Option Nat:=if qcQ c=true then some (c.toNat-48) else if 97≤c.toNat∧c.toNat≤102 then some (c.toNat-87) else if 65≤c.toNat∧c.toNat≤70 then some (c.toNat-55) else none
theorem qnW {c:UInt8}{d:Nat}(h:qqh c=some d):d<16:=by
 unfold qqh at h;split at h
 ·next hd=>have:=of_decide_eq_true hd;cases h;omega
 split at h
 ·cases h;omega
 split at h
 ·cases h;omega
 cases h
def qqq (c:UInt8):Value:=match qqh c with
 |some d=>.tuple #[.int .i32 d,.bool true]
 |none=>.tuple #[.int .i32 0,.bool false]
theorem qkh (c:UInt8)(w:World):Calls prog 324 #[.int .u8 c.toNat] w fun e w'=>e=.returned (qqq c)∧w'=w:=by
 have cD:=qbg c w;have hlt:=c.toNat_lt;by_cases hd:48≤(c.toNat:Int)∧(c.toNat:Int)≤57
 ·have HA:Hid (qqq c=.tuple #[.int .i32 ((c.toNat:Int)-48),.bool true]):=by
   show _=_;unfold qqq qqh;rw[if_pos (show qcQ c=true from decide_eq_true hd)];simp only[];rw[show((c.toNat-48:Nat):Int)=(c.toNat:Int)-48 by omega]
  have hd2:=decide_eq_true hd;rw[hd2] at cD;go_enter func324,ntmps324
  go_wp2_with (first|(go_at_call 302;refine cD.mono ?_;rintro e w2 ⟨rfl,rfl⟩))
  go_ret2
  rw[HA.out];exact⟨rfl,rfl⟩
 have hd2:=decide_eq_false hd;have hd3:qcQ c=false:=hd2;rw[hd2] at cD;by_cases h1:97≤c.toNat∧c.toNat≤102
 ·have HA:Hid (qqq c=.tuple #[.int .i32 ((c.toNat:Int)-97+10),.bool true]):=by
   show _=_;unfold qqq qqh;rw[if_neg (by rw[hd3];simp),if_pos h1];simp only[];rw[show((c.toNat-87:Nat):Int)=(c.toNat:Int)-97+10 by omega]
  have e1:decide (97≤(c.toNat:Int))=true:=by simp;omega
  have e2:decide ((c.toNat:Int)≤102)=true:=by simp;omega
  go_enter func324,ntmps324
  go_wp2_with (first|(go_at_call 302;refine cD.mono ?_;rintro e w2 ⟨rfl,rfl⟩))
  go_ret2
  rw[HA.out];exact⟨rfl,rfl⟩
 by_cases h2:65≤c.toNat∧c.toNat≤70
 ·have HA:Hid (qqq c=.tuple #[.int .i32 ((c.toNat:Int)-65+10),.bool true]):=by
   show _=_;unfold qqq qqh;rw[if_neg (by rw[hd3];simp),if_neg h1,if_pos h2];simp only[];rw[show((c.toNat-55:Nat):Int)=(c.toNat:Int)-65+10 by omega]
  have e1:decide (97≤(c.toNat:Int))=false:=by simp;omega
  have e3:decide (65≤(c.toNat:Int))=true:=by simp;omega
  have e4:decide ((c.toNat:Int)≤70)=true:=by simp;omega
  go_enter func324,ntmps324
  go_wp2_with (first|(go_at_call 302;refine cD.mono ?_;rintro e w2 ⟨rfl,rfl⟩))
  go_ret2
  rw[HA.out];exact⟨rfl,rfl⟩
 have HA:Hid (qqq c=.tuple #[.int .i32 0,.bool false]):=by
  show _=_;unfold qqq qqh;rw[if_neg (by rw[hd3];simp),if_neg h1,if_neg h2]
 go_enter func324,ntmps324
 go_wp2_with (first|(go_at_call 302;refine cD.mono ?_;rintro e w2 ⟨rfl,rfl⟩))
 all_goals first
  |(exfalso;omega)
  |(go_ret2;rw[HA.out];exact⟨rfl,rfl⟩)
def qgA (bs:List UInt8)(lim:Int):Nat→Nat→Nat→Except (Int×Int) (Nat×Nat)
 |0,p,a=>.ok (a,p)
 |k+1,p,a=>match bs[p]? with
  |none=>.error (9,p)
  |some c=>if (p:Int)=lim then .error (8,p) else match qqh c with
   |none=>.error (9,p)
   |some d=>qgA bs lim k (p+1) (a*16+d)
theorem qgd (W:World)(b:Nat)(s:Src)(h:qad W b s):Calls prog 320 #[.agg #[.pointer (some ⟨b,0,none⟩)]] W (qbJ W b s (fun x:Nat=>.int .i32 x) (qgA s.bs s.lim 4 s.pos 0)):=by
 have HX0:=qaa (qaR h);obtain⟨R,HR⟩:∃R,Hid (qgA s.bs s.lim 4 s.pos 0=R):=⟨_,show _=_ from rfl⟩
 rw[HR.out];go_enter func320,ntmps320;go_wp2;generalize W.alloc (.cells #[.pointer (some ⟨b,0,none⟩)] 198)=W0 at *
 go_loopg [3,6] 4 (fun m y z wr=>∃(k acc:Nat),y=.int .i32 acc∧z=.int .i64 k∧Hid (m+k=4)∧Hid (acc<16^k)∧Hid (qno W b W.heap.size {s with pos:=s.pos+k} wr)∧Hid (qgA s.bs s.lim m (s.pos+k) acc=R))
 case atStart=>exact⟨0,0,rfl,rfl,rfl,by show 0<1;decide,HX0,HR⟩
 case round =>
  obtain⟨k,acc,rfl,rfl,hm,ha,HX,HR⟩:=hrel;have kb:=HX.out.cell
  cases gk with
  |zero =>
   have e:k=4:=by have:=hm.out;omega
   subst e;have HE:Hid (R=.ok (acc,s.pos+4)):=HR.out.symm;go_wp2;go_ret;rw[HE.out];exact⟨HX.out.but,rfl,HX.out.src⟩
  |succ m =>
   have hlt:k<4:=by have:=hm.out;omega
   have hlt2:decide ((k:Int)<4)=true:=by simp;omega
   have hacc4:acc<4096:=Nat.lt_of_lt_of_le ha.out (Nat.le_trans (Nat.pow_le_pow_right (by decide) (show k≤3 from by omega)) (by decide));rcases qaM HX.out.src with h1|h1|⟨c,h1⟩
   ·have HE:Hid (R=.error (9,((s.pos+k:Nat):Int))):=by
     show _=_;rw[←HR.out,qgA,List.getElem?_eq_none (by have:s.pos+k=s.bs.length:=h1;omega)]
    have cT:=qbm _ b {s with pos:=s.pos+k} HX.out.src h1
    go_wp2_with (first
     |(go_at_call 294;refine cT.mono ?_;rintro e w2 ⟨hF,hB⟩;obtain rfl:=hF))
    rw[HE.out];exact⟨rfl,HX.out.but.trans (But.of_below hB),rfl⟩
   ·have HE:Hid (R=.error (8,((s.pos+k:Nat):Int))):=by
     show _=_;have h2:((s.pos+k:Nat):Int)=s.lim:=h1.2;have h3:s.pos+k<s.bs.length:=h1.1;rw[←HR.out,qgA,List.getElem?_eq_getElem h3];simp only[];rw[if_pos h2]
    have cT:=qaP _ b {s with pos:=s.pos+k} HX.out.src h1
    go_wp2_with (first
     |(go_at_call 294;refine cT.mono ?_;rintro e w2 ⟨hF,hB⟩;obtain rfl:=hF))
    rw[HE.out];exact⟨rfl,HX.out.but.trans (But.of_below hB),rfl⟩
   have hc1:s.bs[s.pos+k]? = some c:=h1.1;have hc2:¬((s.pos+k:Nat):Int)=s.lim:=h1.2;have hr:=HR.out;rw[qgA,hc1] at hr;simp only[] at hr;rw[if_neg hc2] at hr;have cH:=fun w=>qkh c w;unfold qqq at cH;have cT:Calls prog 294 #[.pointer (some ⟨b,0,none⟩)] wr fun e W'=>e=.returned (.int .u8 c.toNat)∧qad W' b {s with pos:=s.pos+(k+1)}∧But b wr W':=qau _ b {s with pos:=s.pos+k} c HX.out.src h1;rcases hv:qqh c with _|d
   ·rw[hv] at hr cH;have HE:Hid (R=.error (9,((s.pos+k:Nat):Int))):=hr.symm
    go_wp2_with (first
     |(go_at_call 294;refine cT.mono ?_;rintro e w2 ⟨rfl,hS,hB⟩;have HX2:=qaa (HX.out.step hS hB);have kb:=HX2.out.cell)
     |(go_at_call 324;refine(cH _).mono ?_;rintro e w3 ⟨rfl,rfl⟩)
     |(go_at_call 295;refine(qat _ b {s with pos:=s.pos+(k+1)} _ HX2.out.src).mono ?_;rintro e w7 ⟨hF,rfl⟩;obtain rfl:=hF))
    rw[HE.out];exact⟨rfl,HX2.out.but,by show qao _ _ _;unfold qao qeh;simp;omega⟩
   rw[hv] at hr cH;have HN:Hid (qgA s.bs s.lim m (s.pos+(k+1)) (acc*16+d)=R):=hr;have hd:=qnW hv;have HA:Hid (acc*16+d<16^(k+1)):=by show _<_;rw[Nat.pow_succ];have:=ha.out;omega
   go_wp2_with (first
    |(go_at_call 294;refine cT.mono ?_;rintro e w2 ⟨rfl,hS,hB⟩;have HX2:=qaa (HX.out.step hS hB))
    |(go_at_call 324;refine(cH _).mono ?_;rintro e w3 ⟨rfl,rfl⟩))
   go_roundg m
   case measure=>omega
   case rel=>exact⟨k+1,acc*16+d,by simp,by go_num,by show _=_;have:=hm.out;omega,HA,HX2,HN⟩
def qaT (bs:List UInt8)(lim:Int):List UInt8→Nat→Except (Int×Int) (Unit×Nat)
 |[],p=>.ok ((),p)
 |x::xs,p=>match bs[p]? with
  |none=>.error (9,p)
  |some c=>if (p:Int)=lim then .error (8,p) else if c=x then qaT bs lim xs (p+1) else .error (9,p)
theorem qbv (W:World)(b:Nat)(s:Src)(l:List UInt8)(hl:l.length≤100)(h:qad W b s):Calls prog 298 #[.agg #[.pointer (some ⟨b,0,none⟩)],.string ⟨l.toArray⟩] W (qbJ W b s (fun _:Unit=>.tuple #[]) (qaT s.bs s.lim l s.pos)):=by
 have HX0:=qaa (qaR h);obtain⟨R,HR⟩:∃R,Hid (qaT s.bs s.lim l s.pos=R):=⟨_,show _=_ from rfl⟩
 rw[HR.out];go_enter func298,ntmps298;go_wp2;generalize W.alloc (.cells #[.pointer (some ⟨b,0,none⟩)] 198)=W0 at *
 go_loopg [4,7] l.length (fun m _ z wr=>∃(k:Nat),z=.int .i64 k∧Hid (m+k=l.length)∧Hid (qno W b W.heap.size {s with pos:=s.pos+k} wr)∧Hid (qaT s.bs s.lim (l.drop k) (s.pos+k)=R))
 case atStart=>exact⟨0,rfl,rfl,HX0,HR⟩
 case round =>
  obtain⟨k,rfl,hm,HX,HR⟩:=hrel;have kb:=HX.out.cell
  cases gk with
  |zero =>
   have e:k=l.length:=by have:=hm.out;omega
   have HE:Hid (R=.ok ((),s.pos+k)):=by
    show _=_;rw[←HR.out,List.drop_eq_nil_of_le (by omega)];rfl
   have e2:decide ((k:Int)<(l.length:Int))=false:=by simp;omega
   have e3:decide (k<l.length)=false:=by simp;omega
   go_wp2;go_end0;rw[HE.out];exact⟨HX.out.but,rfl,HX.out.src⟩
  |succ m =>
   have hlt:k<l.length:=by have:=hm.out;omega
   have e2:decide ((k:Int)<(l.length:Int))=true:=by simp;omega
   have e3:decide (k<l.length)=true:=by simp;omega
   obtain⟨x,hx⟩:∃x,l[k]=x:=⟨_,rfl⟩
   have hdr:l.drop k=x::l.drop (k+1):=by rw[List.drop_eq_getElem_cons hlt,hx]
   have HGX:Hid (l[k]? = some x):=by show _=_;rw[List.getElem?_eq_getElem hlt,hx]
   have hS0:{wr with drawn:=wr.drawn+1}.cell? ⟨W.heap.size,0,none⟩=some (.pointer (some ⟨b,0,none⟩)):=kb;have HXd:Hid (qad {wr with drawn:=wr.drawn+1} b {s with pos:=s.pos+k}):=HX.out.src.drewN 1;have HBd:Hid (But b wr {wr with drawn:=wr.drawn+1}):=But.of_below (qam wr 1);have hr:=HR.out;rw[hdr,qaT] at hr;go_wp2;refine wp_region_held (S:=fun V=>V.cell? ⟨W.heap.size,0,none⟩=some (.pointer (some ⟨b,0,none⟩))) (by kernel_rfl) ?_;refine wpAnyH_take (i:=0) (v:=.pointer (some ⟨W.heap.size,0,none⟩)) rfl (by kernel_rfl) (by kernel_rfl) (by kernel_rfl) (fun _ _ _ h=>h) (.inl ⟨rfl,fun V hV=>rfl⟩) hS0 ?_;refine wpAnyH_take (i:=1) (v:=.pointer (some ⟨b,0,none⟩)) rfl (by kernel_rfl) (by kernel_rfl) (by kernel_rfl) (fun _ _ _ h=>h) (.inl ⟨rfl,fun V hV => ?y1⟩) hS0 ?_
   case y1=>go_simp
   refine wpAnyH_take (i:=3) (v:=.string ⟨l.toArray⟩) rfl (by kernel_rfl) (by kernel_rfl) (by kernel_rfl) (fun _ _ _ h=>h) (.inl ⟨rfl,fun V hV=>rfl⟩) hS0 ?_;refine wpAnyH_take (i:=4) (v:=.int .i64 k) rfl (by kernel_rfl) (by kernel_rfl) (by kernel_rfl) (fun _ _ _ h=>h) (.inl ⟨rfl,fun V hV=>rfl⟩) hS0 ?_;refine wpAnyH_take (i:=5) (v:=.int .u8 x.toNat) rfl (by kernel_rfl) (by kernel_rfl) (by kernel_rfl) (fun _ _ _ h=>h) (.inl ⟨rfl,fun V hV => ?y5⟩) hS0 ?_
   case y5 =>
    have hgl:=Option.some.inj ((List.getElem?_eq_getElem hlt).symm.trans HGX.out);go_simp;show(((l.toArray)[k]'(by simpa using hlt)).toNat:Int)=_;rw[List.getElem_toArray,hgl]
   refine rdH 2 rfl (by kernel_rfl) (fun K hK => ?_);rcases qaM HXd.out with h1|h1|⟨c,h1⟩
   ·have HE:Hid (R=.error (9,((s.pos+k:Nat):Int))):=by
     show _=_;rw[←hr,List.getElem?_eq_none (by have:s.pos+k=s.bs.length:=h1;omega)]
    have cT:=qbm _ b {s with pos:=s.pos+k} HXd.out h1;go_simp;refine cT.mono ?_;rintro e w2 ⟨hF,hB⟩;obtain rfl:=hF;exact⟨rfl,(HX.out.but.trans HBd.out).trans (But.of_below hB),by rw[HE.out];rfl⟩
   ·have HE:Hid (R=.error (8,((s.pos+k:Nat):Int))):=by
     show _=_;have h2:((s.pos+k:Nat):Int)=s.lim:=h1.2;have h3:s.pos+k<s.bs.length:=h1.1;rw[←hr,List.getElem?_eq_getElem h3];simp only[];rw[if_pos h2]
    have cT:=qaP _ b {s with pos:=s.pos+k} HXd.out h1;go_simp;refine cT.mono ?_;rintro e w2 ⟨hF,hB⟩;obtain rfl:=hF;exact⟨rfl,(HX.out.but.trans HBd.out).trans (But.of_below hB),by rw[HE.out];rfl⟩
   have hc1:s.bs[s.pos+k]? = some c:=h1.1;have hc2:¬((s.pos+k:Nat):Int)=s.lim:=h1.2;rw[hc1] at hr;simp only[] at hr;rw[if_neg hc2] at hr;have cT:Calls prog 294 #[.pointer (some ⟨b,0,none⟩)] {wr with drawn:=wr.drawn+1} fun e W'=>e=.returned (.int .u8 c.toNat)∧qad W' b {s with pos:=s.pos+(k+1)}∧But b {wr with drawn:=wr.drawn+1} W':=qau _ b {s with pos:=s.pos+k} c HXd.out h1;go_simp;refine cT.mono ?_;rintro e w2 ⟨rfl,hS,hB⟩;simp only[];have HX2:=qaa (HX.out.step hS (HBd.out.trans hB));refine hK.out _ _ HX2.out.cell (fun _ => ?_);have kb2:=HX2.out.cell;by_cases hcx:c=x
   ·have hce:((c.toNat:Int)==(x.toNat:Int))=true:=by rw[hcx];simp
    have hcn:c.toNat=x.toNat:=by rw[hcx]
    have HN:Hid (qaT s.bs s.lim (l.drop (k+1)) (s.pos+(k+1))=R):=by show _=_;rw[←hr,if_pos hcx];rfl
    refine wpAnyH_take (i:=6) (v:=.bool false) rfl (by kernel_rfl) (by kernel_rfl) (by kernel_rfl) (fun _ _ _ h=>h) (.inl ⟨rfl,fun V hV => ?y6⟩) HX2.out.cell ?_
    case y6=>(go_simp;first|done|omega|assumption|trace_state)
    refine wpAnyH_done (by kernel_rfl) ?_ _;go_wp2;go_roundg m
    case measure=>omega
    case rel=>exact⟨k+1,by go_num,by show _=_;have:=hm.out;omega,HX2,HN⟩
   have hce:((c.toNat:Int)==(x.toNat:Int))=false:=by
    simp only[beq_eq_false_iff_ne,ne_eq];intro hh;exact hcx (UInt8.toNat_inj.1 (by omega))
   have hcn:¬c.toNat=x.toNat:=fun hh=>hcx (UInt8.toNat_inj.1 hh);have HE:Hid (R=.error (9,((s.pos+k:Nat):Int))):=by show _=_;rw[←hr,if_neg hcx]
   refine wpAnyH_take (i:=6) (v:=.bool true) rfl (by kernel_rfl) (by kernel_rfl) (by kernel_rfl) (fun _ _ _ h=>h) (.inl ⟨rfl,fun V hV => ?y6⟩) HX2.out.cell ?_
   case y6=>(go_simp;first|done|omega|assumption|trace_state)
   refine wpAnyH_done (by kernel_rfl) ?_ _
   go_wp2_with (first
    |(go_at_call 295;refine(qat _ b {s with pos:=s.pos+(k+1)} _ HX2.out.src).mono ?_;rintro e w7 ⟨hF,rfl⟩;obtain rfl:=hF))
   rw[HE.out];exact⟨rfl,HX2.out.but,by show qao _ _ _;unfold qao qeh;simp;omega⟩
def inV (bs:List UInt8)(fm d l:Int):Value:=.agg #[.string ⟨bs.toArray⟩,.int .i64 fm,.int .i64 d,.int .i64 l]
def qyb (bs:List UInt8)(l:Int)(i:Nat):Bool:=decide (i<bs.length)&&decide ((i:Int)<l)
def qr0 (bs:List UInt8)(l:Int)(i:Nat)(e:Int):Int×Int:=if l≤i∧i<bs.length then (8,i) else if bs.length≤i then (9,bs.length) else (e,i)
def q51 (x:Int×Int):Value:=.agg #[.int .i64 x.1,.int .i64 x.2]
theorem qym (bs:List UInt8):(⟨bs.toArray⟩:ByteArray).size=bs.length:=by
 show bs.toArray.size=_;simp
theorem qzK (W:World)(bs:List UInt8)(fm d l:Int)(i:Nat):Calls prog 113 #[inV bs fm d l,.int .i64 i] W fun e W'=>e=.returned (.bool (qyb bs l i))∧Below W.heap.size W W':=by
 have hsz:=qym bs;obtain⟨R,HR⟩:∃R,Hid (qyb bs l i=R):=⟨_,show _=_ from rfl⟩
 rw[HR.out];have hr:=HR.out;unfold qyb at hr;unfold inV;by_cases h1:i<bs.length
 ·have g1:decide ((i:Int)<(bs.length:Int))=true:=by simp;omega
  have g1':(i:Int)<(bs.length:Int):=by omega
  rw[decide_eq_true h1,Bool.true_and] at hr;cases h2:decide ((i:Int)<l)
  ·rw[h2] at hr;subst hr;have h3:=of_decide_eq_false h2;go_enter func113,ntmps113;go_wp2;go_ret;exact⟨rfl,bwA⟩
  rw[h2] at hr;subst hr;have h3:=of_decide_eq_true h2;go_enter func113,ntmps113;go_wp2;go_ret;exact⟨rfl,bwA⟩
 have g1:decide ((i:Int)<(bs.length:Int))=false:=by simp;omega
 have g1':¬(i:Int)<(bs.length:Int):=by omega
 rw[decide_eq_false h1,Bool.false_and] at hr;subst hr;go_enter func113,ntmps113;go_wp2;go_ret;exact⟨rfl,bwA⟩
theorem q38:(prog.info? 95).map (·.size)=some 2:=by kernel_rfl
theorem q1e (V:World)(B s:Nat)(hB:V.heap.size=B)(cs:Array Value)(hc:cs.size=2)(tmps:Array Value)(hp:tmps.getD s undef=.pointer (some ⟨B,0,none⟩)){fn:Func}(h:fn.results=#[.cell s 95]):(results fn tmps).run prog (V.alloc (.cells cs 95))=.ok (.agg cs) (V.alloc (.cells cs 95)) :=
 results_cell_row h tmps _ B 95 cs (0,0) _ hp (by rw[←hB];exact qac _ _) underlying95 rfl (by rw[hc];exact q38)
theorem qzq (W:World)(o o':Obj):Below W.heap.size W ((W.alloc o).alloc o'):=(bwA).alloc (by simp) _
theorem qyv (W:World)(bs:List UInt8)(fm d l:Int)(i:Nat)(en:Int):Calls prog 71 #[inV bs fm d l,.int .i64 i,.int .i64 en] W fun e W'=>e=.returned (q51 (qr0 bs l i en))∧Below W.heap.size W W':=by
 have hsz:=qym bs;obtain⟨R,HR⟩:∃R,Hid (qr0 bs l i en=R):=⟨_,show _=_ from rfl⟩
 rw[HR.out];have hr:=HR.out;unfold qr0 at hr;unfold inV;by_cases h1:l≤(i:Int)
 ·by_cases h2:i<bs.length
  ·rw[if_pos ⟨h1,h2⟩] at hr;subst hr;have g1:decide (l≤(i:Int))=true:=by simpa using h1
   have g2:(i:Int)<(bs.length:Int):=by omega
   have g3:decide ((i:Int)<(bs.length:Int))=true:=by simp;omega
   go_enter func71,ntmps71;go_wp2;exact bodyPost_ret (q1e _ _ _ (by simp) _ rfl _ rfl results71) rfl ⟨rfl,qzq _ _ _⟩
  rw[if_neg (fun hh=>h2 hh.2),if_pos (by omega)] at hr;subst hr;have g1:decide (l≤(i:Int))=true:=by simpa using h1
  have g2:¬(i:Int)<(bs.length:Int):=by omega
  have g3:decide ((i:Int)<(bs.length:Int))=false:=by simp;omega
  have g4:(bs.length:Int)≤(i:Int):=by omega
  go_enter func71,ntmps71;go_wp2;exact bodyPost_ret (q1e _ _ _ (by simp) _ rfl _ rfl results71) rfl ⟨rfl,qzq _ _ _⟩
 have g1:decide (l≤(i:Int))=false:=by simpa using h1
 by_cases h2:i<bs.length
 ·rw[if_neg (fun hh=>h1 hh.1),if_neg (by omega)] at hr;subst hr;have g4:¬(bs.length:Int)≤(i:Int):=by omega
  go_enter func71,ntmps71;go_wp2;exact bodyPost_ret (q1e _ _ _ (by simp) _ rfl _ rfl results71) rfl ⟨rfl,qzq _ _ _⟩
 rw[if_neg (fun hh=>h1 hh.1),if_pos (by omega)] at hr;subst hr;have g4:(bs.length:Int)≤(i:Int):=by omega
 go_enter func71,ntmps71;go_wp2;exact bodyPost_ret (q1e _ _ _ (by simp) _ rfl _ rfl results71) rfl ⟨rfl,qzq _ _ _⟩
theorem q3C (W:World)(c:UInt8):Calls prog 114 #[.int .u8 c.toNat] W fun e W'=>e=.returned (.bool (qxm c))∧W'=W:=by
 obtain⟨R,HR⟩:∃R,Hid (qxm c=R):=⟨_,show _=_ from rfl⟩
 rw[HR.out];have hr:=HR.out;unfold qxm at hr;have e0:((c.toNat:Int)==32)=(c.toNat==32):=by cases h:(c.toNat==32) with|true=>simp at h;simp[h]|false=>simp at h;simp;omega
 have e1:((c.toNat:Int)==9)=(c.toNat==9):=by cases h:(c.toNat==9) with|true=>simp at h;simp[h]|false=>simp at h;simp;omega
 have e2:((c.toNat:Int)==10)=(c.toNat==10):=by cases h:(c.toNat==10) with|true=>simp at h;simp[h]|false=>simp at h;simp;omega
 have e3:((c.toNat:Int)==13)=(c.toNat==13):=by cases h:(c.toNat==13) with|true=>simp at h;simp[h]|false=>simp at h;simp;omega
 cases h0:(c.toNat==32)<;>cases h1:(c.toNat==9)<;>cases h2:(c.toNat==10)<;>cases h3:(c.toNat==13)<;>rw[h0,h1,h2,h3] at hr<;>rw[h0] at e0<;>rw[h1] at e1<;>rw[h2] at e2<;>rw[h3] at e3<;>clear h0 h1 h2 h3
 all_goals have hr:_=R:=hr
 all_goals subst hr
 all_goals go_enter func114,ntmps114
 all_goals go_wp2
 all_goals go_ret
 all_goals exact⟨rfl,rfl⟩
end
end Go.Proofs.YtllcbnfmihfaaaaGreatDoor
