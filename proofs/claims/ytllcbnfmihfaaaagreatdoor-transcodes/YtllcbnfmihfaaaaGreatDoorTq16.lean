import Derived.Test.YtllcbnfmihfaaaaGreatDoorTq15
set_option maxRecDepth 100000
set_option maxHeartbeats 8000000
namespace Go.Proofs.YtllcbnfmihfaaaaGreatDoor
open Go.Proofs.Tryz
variable {b k m p q:Nat}{A B C V V' W W':World}{s:Src}{ks:List (List UInt8)}{hd:Nat→Nat×Nat×Nat}{xs:List Value}{es:List (Lit×DataW Unit)}{fv v:Value}{l:List UInt8}
section
open Go.RowKit
structure qiO (b m:Nat)(W W':World):Prop where
 os:W'.os=W.os
 tape:W'.tape=W.tape
 output:W'.output=W.output
 size:W.heap.size≤W'.heap.size
 block:∀k,k<W.heap.size→k≠b→k≠m→W'.heap[k]? = W.heap[k]?
theorem qiO.of1 (h:But b W W'):qiO b m W W':=⟨h.os,h.tape,h.output,h.size,fun k h1 h2 _=>h.block k h1 h2⟩
theorem qiO.of2 (h:But m W W'):qiO b m W W':=⟨h.os,h.tape,h.output,h.size,fun k h1 _ h2=>h.block k h1 h2⟩
theorem qiO.trans (h:qiO b m A B)(k:qiO b m B C):qiO b m A C :=
 ⟨k.os.trans h.os,k.tape.trans h.tape,k.output.trans h.output,Nat.le_trans h.size k.size,fun i h1 h2 h3=>(k.block i (by have:=h.size;omega) h2 h3).trans (h.block i h1 h2 h3)⟩
theorem qad.off (h:qad V b s)(hm:m≠b)(hi:∀g off,s.bs≠[]→s.ia=some ⟨g,off,none⟩→g≠m)(hB:But m V V'):qad V' b s :=
 ⟨(hB.block b (ltA h.row) (Ne.symm hm)).trans h.row,fun i hi'=>by
  obtain⟨g,off,e1,e2,e3⟩:=h.inp i hi';exact⟨g,off,e1,e2,(World.cell?_of_block (w:=V) (hB.block g (block_lt_of_cell e3) (hi g off (fun e=>by simp[e] at hi') e1))).trans e3⟩,h.len,h.le⟩
theorem qaE.but (h:qaE V m ks)(hm:m≠b)(hB:But b V V'):qaE V' m ks :=
 h.kept (row:=some b) ⟨hB.os,hB.tape,hB.output,hB.size,fun k hk hn=>hB.block k hk (fun e=>hn (by rw[e]))⟩ (fun e=>hm (by injection e))
def qi7 (W:World)(b m:Nat)(s:Src)(ks:List (List UInt8))(r:Except (Int×Int) (List UInt8×Nat))(e:Ending)(W':World):Prop :=
 qiO b m W W'∧match r with
 |.ok (l,p)=>e=.returned (.string ⟨l.toArray⟩)∧qad W' b {s with pos:=p}∧qaE W' m (l::ks)
 |.error (en,pl)=>qao en pl e∧∃p,qad W' b {s with pos:=p}
theorem qfq (bs:List UInt8)(lim:Int):∀(n p wh:Nat) (acc l:List UInt8) (r:Nat),qfg bs lim n p acc wh=.ok (l,r)→l.length=acc.length+n∧r=p+n
 |0,p,wh,acc,l,r,h=>by
  rw[qfg] at h;split at h
  ·injection h with h;injection h with h1 h2;subst h1;subst h2;exact⟨rfl,rfl⟩
  cases h
 |n+1,p,wh,acc,l,r,h=>by
  rw[qfg] at h;split at h
  ·cases h
  split at h
  ·cases h
  split at h
  ·cases h
  have:=qfq bs lim n _ _ _ l r h;rw[List.length_append] at this;simp at this;omega
theorem qjD (W:World)(b m:Nat)(s:Src)(c:UInt8)(ks:List (List UInt8))(hd:Nat→Nat×Nat×Nat)(f so w ar:Nat)(h:qad W b s)(h1:qfp s c)(hk:qaE W m ks)(hmb:m≠b)(hig:∀g off,s.bs≠[]→s.ia=some ⟨g,off,none⟩→g≠m)(hkl:ks.length<1000000000)(hhd:hd c.toNat=(so,w,ar))(hw:w≤8)(hg:w=0∨ar=0)(har:ar<18446744073709551616)(hlen:s.bs.length≤200000000)(hf:f=107∨f=108)(hU:∀V,But b W V→U8 V)(hB9:7<b)(cH:∀V,But b W V→Calls prog f #[.int .u8 c.toNat] V fun e V'=>e=.returned (.agg #[.int .i64 so,.int .i64 w,.int .u64 ar])∧Below V.heap.size V V'):Calls prog 333 #[.agg #[.pointer (some ⟨b,0,none⟩),.func (.func f) #[] #[]],.map (some m)] W (qi7 W b m s ks (qfr hd s.bs s.lim ks s.pos)):=by
 obtain⟨R,HR⟩:∃R,Hid (qfr hd s.bs s.lim ks s.pos=R):=⟨_,show _=_ from rfl⟩
 rw[HR.out];have hr:=HR.out;unfold qfr at hr;rw[h1.1] at hr;simp only[] at hr;rw[if_neg h1.2,hhd] at hr;simp only[] at hr;clear HR hhd;have cT0:∀V,qad V b s→Calls prog 294 #[.pointer (some ⟨b,0,none⟩)] V fun e W'=>e=.returned (.int .u8 c.toNat)∧qad W' b s.next∧But b V W':=fun V hV=>qau V b s c hV h1
 have cA:∀V,qad V b s.next→Calls prog 326 #[.agg #[.pointer (some ⟨b,0,none⟩),.func (.func f) #[] #[]],.agg #[.int .i64 so,.int .i64 w,.int .u64 ar]] V (qgc V b s.next (fun x:Nat=>.int .u64 x) (qd9 s.bs s.lim w (s.pos+1) ar)):=fun V hV=>qbN V b s.next f so w ar hw hg hV
 have HFIT:Hid (∀x q,qd9 s.bs s.lim w (s.pos+1) ar=.ok (x,q)→x<18446744073709551616):=fun x q hx=>qn5 ⟨hw,hg,har⟩ hx;have cX:∀(V:World) (p x:Nat),qad V b {s with pos:=p}→But b W V→x<18446744073709551616→Calls prog 329 #[.agg #[.pointer (some ⟨b,0,none⟩),.func (.func f) #[] #[]],.int .u64 x] V (qgc V b {s with pos:=p} (fun l:List UInt8=>.string ⟨l.toArray⟩) (qfg s.bs s.lim x p [] 0)):=fun V p x hV hB hx=>qep V b {s with pos:=p} f x hx hV (hU V hB) hB9 hlen;have cR0:∀V,qad V b s.next→Calls prog 295 #[.pointer (some ⟨b,0,none⟩),.int .i64 9] V fun e W'=>qao 9 s.pos e∧W'=V:=fun V hV=>by
  have:=qat V b s.next 9 hV
  rwa [show((s.next.pos:Int)-1)=s.pos by show(((s.pos+1:Nat)):Int)-1=s.pos;omega] at this
 have cR2:∀(V:World) (p:Nat),qad V b {s with pos:=p}→Calls prog 295 #[.pointer (some ⟨b,0,none⟩),.int .i64 12] V fun e W'=>qao 12 ((p:Int)-1) e∧W'=V:=fun V p hV=>qat V b {s with pos:=p} 12 hV;have HKS:Hid (∀V,But b W V→qaE V m ks):=fun V hV=>hk.but hmb hV;have HOFF:Hid (∀V V' p,qad V b {s with pos:=p}→But m V V'→qad V' b {s with pos:=p}):=fun V V' p hV hB=>hV.off hmb hig hB;have HH:=qaa h;have hbN:=ltA h.row;have hB1:Below W.heap.size W (W.alloc (.cells #[.pointer (some ⟨b,0,none⟩),.func (.func f) #[] #[]] 201)).drew:=(bwA).drew;have HB1:=qaa hB1;have HS1:=qaa (h.below hB1);have HX1:Hid ((W.alloc (.cells #[.pointer (some ⟨b,0,none⟩),.func (.func f) #[] #[]] 201)).drew.heap[W.heap.size]? = some (.cells #[.pointer (some ⟨b,0,none⟩),.func (.func f) #[] #[]] 201)):=qac W _;have HCF:Hid (∀(args:Array Value) (V:World),(callFunc f args).run prog V=.ok (.enter f args) V):=by
  show ∀_ _,_;rcases hf with rfl|rfl<;>exact fun args V=>by kernel_rfl
 clear h h1 hB1 hw hg har hf hU hk hig;go_enter func333,ntmps333
 go_wp2_with fail
 refine qso (fun M V=>qnk W b W.heap.size M (.func (.func f) #[] #[]) so w ar s.next V) (fun M=>{tmps:=#[.agg #[.pointer (some ⟨b,0,none⟩),.func (.func f) #[] #[]],.map (some m),.pointer (some ⟨W.heap.size,0,none⟩),undef,.string ⟨#[]⟩,.pointer (some ⟨M,0,none⟩),undef,.pointer (some ⟨W.heap.size,1,none⟩),.func (.func f) #[] #[],.pointer (some ⟨W.heap.size,0,none⟩),.pointer (some ⟨b,0,none⟩),.int .u8 c.toNat,.agg #[.int .i64 so,.int .i64 w,.int .u64 ar],undef,undef,undef,undef,undef,undef,undef,undef,undef,undef,undef,undef,undef,undef,undef,undef,undef,undef,undef],defers:=[]}) (fun hvia => ?reg) ?tail
 case reg =>
  refine wp_region_held (S:=fun V=>V.heap[W.heap.size]? = some (.cells #[.pointer (some ⟨b,0,none⟩),.func (.func f) #[] #[]] 201)) (by kernel_rfl) ?_;have hS:=HX1.out;refine wpAnyH_take (i:=0) (v:=.pointer (some ⟨W.heap.size,1,none⟩)) rfl (by kernel_rfl) (by kernel_rfl) (by kernel_rfl) (fun _ _ _ h=>h) (.inl ⟨rfl,fun V hV=>rfl⟩) hS ?_;refine wpAnyH_take (i:=1) (v:=.func (.func f) #[] #[]) rfl (by kernel_rfl) (by kernel_rfl) (by kernel_rfl) (fun _ _ _ h=>h) (.inl ⟨rfl,fun V hV => ?y1⟩) hS ?_
  case y1=>(have h2:=qab hV 1;go_simp)
  refine wpAnyH_take (i:=2) (v:=.pointer (some ⟨W.heap.size,0,none⟩)) rfl (by kernel_rfl) (by kernel_rfl) (by kernel_rfl) (fun _ _ _ h=>h) (.inl ⟨rfl,fun V hV=>rfl⟩) hS ?_;refine wpAnyH_take (i:=3) (v:=.pointer (some ⟨b,0,none⟩)) rfl (by kernel_rfl) (by kernel_rfl) (by kernel_rfl) (fun _ _ _ h=>h) (.inl ⟨rfl,fun V hV => ?y3⟩) hS ?_
  case y3=>(have h2:=qab hV 0;go_simp)
  refine qsx 4 6 rfl rfl (by kernel_rfl) (fun K hK => ?_) (fun K hK => ?_)
  ·go_simp;refine(cT0 _ HS1.out).mono ?_;rintro e w2 ⟨rfl,hS2,hB2⟩;simp only[];have hX2:=(hB2.block _ (ltA hS) (by omega)).trans hS;have hBW2:=(But.of_below HB1.out).trans hB2;have hN2:=ltA hX2;refine hK.out _ _ hX2 (fun _ => ?_);clear hK;refine qsx 5 6 rfl rfl (by kernel_rfl) (fun K hK => ?_) (fun K hK => ?_)
   ·go_simp;rw[HCF.out];refine Calls.mono (cH _ hBW2) ?_;rintro e w3 ⟨rfl,hB3⟩;simp only[];have hX3:=(hB3.block _ hN2).trans hX2;have hN3:=ltA hX3;refine hK.out _ _ hX3 (fun _ => ?_);clear hK;refine rdH 6 rfl (by kernel_rfl) (fun K hK => ?_);go_simp;have hX4:(w3.alloc (.cells #[.int .i64 0,.int .i64 0,.int .u64 0] 273)).heap[W.heap.size]? = _:=(Below.heap_alloc _ _ _ hN3).trans hX3;refine hK.out _ _ hX4 (fun _ => ?_);clear hK;refine rdH 7 rfl (by kernel_rfl) (fun K hK => ?_);rw[if_pos (by rfl)];refine wp_store_row 273 _ _ rfl w3.heap.size #[.int .i64 so,.int .i64 w,.int .u64 ar] rfl rfl 273 _ (qac w3 _) qgr rfl (by simp[Value.oneCell']) ?_;have HT:Hid (qnk W b W.heap.size w3.heap.size (.func (.func f) #[] #[]) so w ar s.next ((w3.alloc (.cells #[.int .i64 0,.int .i64 0,.int .u64 0] 273)).setRow w3.heap.size #[.int .i64 so,.int .i64 w,.int .u64 ar])) :=
     qe3 w3.heap.size HH.out ((hS2.below hB3).below bwA) ((hBW2.trans (But.of_below hB3)).trans (But.of_below bwA)) hX4 hN3 (qac w3 _)
    refine hK.out _ _ HT.out.box (fun _ => ?_);clear hK;refine wpAnyH_done (by kernel_rfl) ?_ _;exact hvia _ _ HT.out
   go_simp;have hX3:(w2.alloc (.cells #[.int .i64 0,.int .i64 0,.int .u64 0] 273)).heap[W.heap.size]? = _:=(Below.heap_alloc _ _ _ hN2).trans hX2;have hBa:Below w2.heap.size w2 (w2.alloc (.cells #[.int .i64 0,.int .i64 0,.int .u64 0] 273)):=bwA;have hN3:=ltA hX3;refine hK.out _ _ hX3 (fun _ => ?_);clear hK;refine rdH 5 rfl (by kernel_rfl) (fun K hK => ?_);go_simp;rw[HCF.out];refine Calls.mono (cH _ (hBW2.trans (But.of_below hBa))) ?_;rintro e w3 ⟨rfl,hB3⟩;simp only[];have hX4:=(hB3.block _ hN3).trans hX3;have hZ4:=(hB3.block w2.heap.size (by simp)).trans (qac w2 (.cells #[.int .i64 0,.int .i64 0,.int .u64 0] 273));refine hK.out _ _ hX4 (fun _ => ?_);clear hK;refine rdH 7 rfl (by kernel_rfl) (fun K hK => ?_);rw[if_pos (by rfl)];refine wp_store_row 273 _ _ rfl w2.heap.size #[.int .i64 so,.int .i64 w,.int .u64 ar] rfl rfl 273 _ hZ4 qgr rfl (by simp[Value.oneCell']) ?_;have HT:Hid (qnk W b W.heap.size w2.heap.size (.func (.func f) #[] #[]) so w ar s.next (w3.setRow w2.heap.size #[.int .i64 so,.int .i64 w,.int .u64 ar])) :=
    qe3 w2.heap.size HH.out ((hS2.below hBa).below hB3) ((hBW2.trans (But.of_below hBa)).trans (But.of_below hB3)) hX4 hN2 hZ4
   refine hK.out _ _ HT.out.box (fun _ => ?_);clear hK;refine wpAnyH_done (by kernel_rfl) ?_ _;exact hvia _ _ HT.out
  go_simp;have hX3:((W.alloc (.cells #[.pointer (some ⟨b,0,none⟩),.func (.func f) #[] #[]] 201)).drew.alloc (.cells #[.int .i64 0,.int .i64 0,.int .u64 0] 273)).heap[W.heap.size]? = _:=(Below.heap_alloc _ _ _ (ltA hS)).trans hS;have hBa:Below W.heap.size W ((W.alloc (.cells #[.pointer (some ⟨b,0,none⟩),.func (.func f) #[] #[]] 201)).drew.alloc (.cells #[.int .i64 0,.int .i64 0,.int .u64 0] 273)):=HB1.out.alloc HB1.out.size _;have hZ3:((W.alloc (.cells #[.pointer (some ⟨b,0,none⟩),.func (.func f) #[] #[]] 201)).drew.alloc (.cells #[.int .i64 0,.int .i64 0,.int .u64 0] 273)).heap[W.heap.size+1]? = some (.cells #[.int .i64 0,.int .i64 0,.int .u64 0] 273):=by
   have:=qac (W.alloc (.cells #[.pointer (some ⟨b,0,none⟩),.func (.func f) #[] #[]] 201)).drew (.cells #[.int .i64 0,.int .i64 0,.int .u64 0] 273);rw[show(W.alloc (.cells #[.pointer (some ⟨b,0,none⟩),.func (.func f) #[] #[]] 201)).drew.heap.size=W.heap.size+1 from World.size_alloc ..] at this;exact this
  have HS3:=qaa (HH.out.below hBa);refine hK.out _ _ hX3 (fun _ => ?_);clear hK;refine rdH 4 rfl (by kernel_rfl) (fun K hK => ?_);go_simp;refine(cT0 _ HS3.out).mono ?_;rintro e w2 ⟨rfl,hS2,hB2⟩;simp only[];have hX2:=(hB2.block _ (ltA hX3) (by omega)).trans hX3;have hZ2:=(hB2.block _ (ltA hZ3) (by omega)).trans hZ3;have hBW2:=(But.of_below hBa).trans hB2;refine hK.out _ _ hX2 (fun _ => ?_);clear hK;refine rdH 5 rfl (by kernel_rfl) (fun K hK => ?_);go_simp;rw[HCF.out];refine Calls.mono (cH _ hBW2) ?_;rintro e w3 ⟨rfl,hB3⟩;simp only[];have hX4:=(hB3.block _ (ltA hX2)).trans hX2;have hZ4:=(hB3.block _ (ltA hZ2)).trans hZ2;refine hK.out _ _ hX4 (fun _ => ?_);clear hK;refine rdH 7 rfl (by kernel_rfl) (fun K hK => ?_);rw[if_pos (by rfl)];refine wp_store_row 273 _ _ rfl (W.heap.size+1) #[.int .i64 so,.int .i64 w,.int .u64 ar] rfl rfl 273 _ hZ4 qgr rfl (by simp[Value.oneCell']) ?_;have HT:Hid (qnk W b W.heap.size (W.heap.size+1) (.func (.func f) #[] #[]) so w ar s.next (w3.setRow (W.heap.size+1) #[.int .i64 so,.int .i64 w,.int .u64 ar])) :=
   qe3 (W.heap.size+1) HH.out (hS2.below hB3) (hBW2.trans (But.of_below hB3)) hX4 (by omega) hZ4
  refine hK.out _ _ HT.out.box (fun _ => ?_);clear hK;refine wpAnyH_done (by kernel_rfl) ?_ _;exact hvia _ _ HT.out
 case tail =>
  intro M V hT;have HT:=qaa hT;clear hT HX1 HS1 HB1 HH cH cT0 HCF;have k0:=qab HT.out.box 0;have k1:=qab HT.out.box 1;have m0:=qab HT.out.hd 0;have m1:=qab HT.out.hd 1;have m2:=qab HT.out.hd 2;by_cases hv:so=8
  ·have e8:((so:Int)==8)=true:=by rw[hv];rfl
   have e8':((so:Int) != 8)=false:=by rw[hv];rfl
   rw[if_pos hv] at hr;clear cR0 hv
   go_wp2_with fail
   refine wp_region_held (S:=fun V9=>V9.heap[W.heap.size]? = some (.cells #[.pointer (some ⟨b,0,none⟩),.func (.func f) #[] #[]] 201)∧V9.heap[M]? = some (.cells #[.int .i64 so,.int .i64 w,.int .u64 ar] 273)) (by kernel_rfl) ?_;have HTd:=qaa (HT.out.step (HT.out.src.below (Below.refl _ _).drew) (But.of_below (Below.refl _ _).drew));change wpAnyH _ _ _ _ _ _ _ _ (World.drew V);refine wpAnyH_take (i:=0) (v:=.agg #[.pointer (some ⟨b,0,none⟩),.func (.func f) #[] #[]]) rfl (by kernel_rfl) (by kernel_rfl) (by kernel_rfl) (fun _ _ _ h=>h) (.inl ⟨rfl,fun V9 hV => ?y0⟩) ⟨HTd.out.box,HTd.out.hd⟩ ?_
   case y0=>(have c0:=qab hV.1 0;have c1:=qab hV.1 1;go_simp)
   refine wpAnyH_take (i:=1) (v:=.agg #[.pointer (some ⟨b,0,none⟩),.func (.func f) #[] #[]]) rfl (by kernel_rfl) (by kernel_rfl) (by kernel_rfl) (fun _ _ _ h=>h) (.inl ⟨rfl,fun V9 hV => ?y1⟩) ⟨HTd.out.box,HTd.out.hd⟩ ?_
   case y1=>(have c0:=qab hV.1 0;have c1:=qab hV.1 1;go_simp)
   refine wpAnyH_take (i:=2) (v:=.agg #[.int .i64 so,.int .i64 w,.int .u64 ar]) rfl (by kernel_rfl) (by kernel_rfl) (by kernel_rfl) (fun _ _ _ h=>h) (.inl ⟨rfl,fun V9 hV => ?y2⟩) ⟨HTd.out.box,HTd.out.hd⟩ ?_
   case y2=>(have c0:=qab hV.2 0;have c1:=qab hV.2 1;have c2:=qab hV.2 2;go_simp)
   have cA1:=cA _ HTd.out.src;clear cA HT k0 k1 m0 m1 m2;refine rdH 3 rfl (by kernel_rfl) (fun K hK => ?_);go_simp;refine cA1.mono ?_;clear cA1;rintro e w5 ⟨hB5,hF5⟩
   cases ha:qd9 s.bs s.lim w (s.pos+1) ar with
   |error er =>
    rw[ha] at hr hF5;simp only[] at hr;subst hr;obtain⟨en,pl⟩:=er;obtain⟨hF,pz,hsz⟩:=(show qao en pl e∧∃p,qad w5 b {s with pos:=p} from hF5)
    obtain rfl:=hF;exact⟨rfl,.of1 (HTd.out.but.trans hB5),rfl,pz,hsz⟩
   |ok xq =>
    obtain⟨x,q⟩:=xq;rw[ha] at hr hF5;simp only[] at hr;have hx64:=HFIT.out x q ha;obtain⟨rfl,hS5⟩:=(show e=.returned (.int .u64 x)∧qad w5 b {s with pos:=q} from hF5)
    have HT5:=qaa (HTd.out.step hS5 hB5);simp only[];refine hK.out _ _ ⟨HT5.out.box,HT5.out.hd⟩ (fun _ => ?_);clear hK;have cZ1:=cX w5 q x HT5.out.src HT5.out.but hx64;clear cX HFIT ha hF5 hB5 hS5 HTd;refine rdH 4 rfl (by kernel_rfl) (fun K hK => ?_);go_simp;refine cZ1.mono ?_;clear cZ1;rintro e w6 ⟨hB6,hF6⟩
    cases hz:qfg s.bs s.lim x q [] 0 with
    |error er =>
     rw[hz] at hr hF6;simp only[] at hr;subst hr;obtain⟨en,pl⟩:=er;obtain⟨hF,pz,hsz⟩:=(show qao en pl e∧∃p,qad w6 b {s with pos:=p} from hF6)
     obtain rfl:=hF;exact⟨rfl,.of1 (HT5.out.but.trans hB6),rfl,pz,hsz⟩
    |ok lr =>
     obtain⟨l,r⟩:=lr;rw[hz] at hr hF6;simp only[] at hr;have hll:=qfq _ _ _ _ _ _ _ _ hz;simp only[List.length_nil,Nat.zero_add] at hll;obtain⟨rfl,hS6⟩:=(show e=.returned (.string ⟨l.toArray⟩)∧qad w6 b {s with pos:=r} from hF6)
     have HT6:=qaa (HT5.out.step hS6 hB6);have HLL:Hid (l.length≤1000000000):=by
      show _≤_;have h1:r≤s.bs.length:=hS6.le;omega
     simp only[];refine hK.out _ _ ⟨HT6.out.box,HT6.out.hd⟩ (fun _ => ?_);clear hK hz hll hF6 hB6 hS6 HT5;refine rdH 5 rfl (by kernel_rfl) (fun K hK => ?_);go_simp;refine hK.out _ _ ⟨HT6.out.box,HT6.out.hd⟩ (fun _ => ?_);clear hK;refine wpAnyH_done (by kernel_rfl) ?_ _;have k0:=qab HT6.out.box 0;by_cases hin:l∈ks
     ·rw[if_pos hin] at hr;subst hr;have cK:=qht w6 m ks l (HKS.out w6 HT6.out.but) hin HLL.out;clear hin
      go_wp2_with (first
       |(go_at_call 318;refine cK.mono ?_;clear cK k0;rintro e w7 ⟨rfl,hB7⟩;have HT7:=qaa (HT6.out.step (HT6.out.src.below hB7) (But.of_below hB7));clear HT6 hB7;have k0:=qab HT7.out.box 0;have cR3:=cR2 w7 r HT7.out.src;clear cR2)
       |(go_at_call 295;refine cR3.mono ?_;clear cR3;rintro e w8 ⟨hF,rfl⟩;obtain rfl:=hF))
      exact⟨rfl,.of1 HT7.out.but,rfl,_,HT7.out.src⟩
     rw[if_neg hin] at hr;subst hr;have cK:=ql3 w6 m ks l (HKS.out w6 HT6.out.but) hin hkl HLL.out;clear hin cR2
     go_wp2_with (first
      |(go_at_call 318;refine cK.mono ?_;clear cK k0;rintro e w7 ⟨rfl,hK7,hB7⟩))
     go_ret;exact⟨(qiO.of1 HT6.out.but).trans (qiO.of2 hB7),rfl,HOFF.out _ _ _ HT6.out.src hB7,hK7⟩
  have e8:((so:Int)==8)=false:=by simp;omega
  have e8':((so:Int) != 8)=true:=by simp;omega
  rw[if_neg hv] at hr;subst hr;have cR1:=cR0 V HT.out.src;clear hv cR0 cA cX cR2 HFIT
  go_wp2_with (first
   |(go_at_call 295;refine cR1.mono ?_;clear cR1;rintro e w7 ⟨hF,rfl⟩;obtain rfl:=hF))
  exact⟨rfl,.of1 HT.out.but,rfl,_,HT.out.src⟩
theorem qeL (W:World)(b m:Nat)(s:Src)(f:Nat)(en:Int)(h:qad W b s)(cT:∀V,qad V b s→Calls prog 294 #[.pointer (some ⟨b,0,none⟩)] V fun e W'=>qao en s.pos e∧Below V.heap.size V W'):Calls prog 333 #[.agg #[.pointer (some ⟨b,0,none⟩),.func (.func f) #[] #[]],.map (some m)] W fun e W'=>But b W W'∧qao en s.pos e∧∃p,qad W' b {s with pos:=p}:=by
 have HH:=qaa h;have hB1:Below W.heap.size W (W.alloc (.cells #[.pointer (some ⟨b,0,none⟩),.func (.func f) #[] #[]] 201)).drew:=(bwA).drew;have HB1:=qaa hB1;have HX1:Hid ((W.alloc (.cells #[.pointer (some ⟨b,0,none⟩),.func (.func f) #[] #[]] 201)).drew.heap[W.heap.size]? = some (.cells #[.pointer (some ⟨b,0,none⟩),.func (.func f) #[] #[]] 201)):=qac W _;clear h hB1;go_enter func333,ntmps333
 go_wp2_with fail
 refine wp_region_held (S:=fun V=>V.heap[W.heap.size]? = some (.cells #[.pointer (some ⟨b,0,none⟩),.func (.func f) #[] #[]] 201)) (by kernel_rfl) ?_;have hS:=HX1.out;refine wpAnyH_take (i:=0) (v:=.pointer (some ⟨W.heap.size,1,none⟩)) rfl (by kernel_rfl) (by kernel_rfl) (by kernel_rfl) (fun _ _ _ h=>h) (.inl ⟨rfl,fun V hV=>rfl⟩) hS ?_;refine wpAnyH_take (i:=1) (v:=.func (.func f) #[] #[]) rfl (by kernel_rfl) (by kernel_rfl) (by kernel_rfl) (fun _ _ _ h=>h) (.inl ⟨rfl,fun V hV => ?y1⟩) hS ?_
 case y1=>(have h2:=qab hV 1;go_simp)
 refine wpAnyH_take (i:=2) (v:=.pointer (some ⟨W.heap.size,0,none⟩)) rfl (by kernel_rfl) (by kernel_rfl) (by kernel_rfl) (fun _ _ _ h=>h) (.inl ⟨rfl,fun V hV=>rfl⟩) hS ?_;refine wpAnyH_take (i:=3) (v:=.pointer (some ⟨b,0,none⟩)) rfl (by kernel_rfl) (by kernel_rfl) (by kernel_rfl) (fun _ _ _ h=>h) (.inl ⟨rfl,fun V hV => ?y3⟩) hS ?_
 case y3=>(have h2:=qab hV 0;go_simp)
 refine qsx 4 6 rfl rfl (by kernel_rfl) (fun K hK => ?_) (fun K hK => ?_)
 ·go_simp;refine(cT _ (HH.out.below HB1.out)).mono ?_;rintro e w2 ⟨hF,hB2⟩;obtain rfl:=hF;exact⟨rfl,(But.of_below HB1.out).trans (But.of_below hB2),rfl,_,(HH.out.below HB1.out).below hB2⟩
 go_simp;have hX3:((W.alloc (.cells #[.pointer (some ⟨b,0,none⟩),.func (.func f) #[] #[]] 201)).drew.alloc (.cells #[.int .i64 0,.int .i64 0,.int .u64 0] 273)).heap[W.heap.size]? = _:=(Below.heap_alloc _ _ _ (ltA hS)).trans hS;have hBa:Below W.heap.size W ((W.alloc (.cells #[.pointer (some ⟨b,0,none⟩),.func (.func f) #[] #[]] 201)).drew.alloc (.cells #[.int .i64 0,.int .i64 0,.int .u64 0] 273)):=HB1.out.alloc HB1.out.size _;refine hK.out _ _ hX3 (fun _ => ?_);clear hK;refine rdH 4 rfl (by kernel_rfl) (fun K hK => ?_);go_simp;refine(cT _ (HH.out.below hBa)).mono ?_;rintro e w2 ⟨hF,hB2⟩;obtain rfl:=hF;exact⟨rfl,(But.of_below hBa).trans (But.of_below hB2),rfl,_,(HH.out.below hBa).below hB2⟩
structure qeJ (f:Nat)(hd:Nat→Nat×Nat×Nat)(b:Nat)(W:World):Prop where
 fn:f=107∨f=108
 so:∀c,c<256→(hd c).1≤10
 fit:∀c,c<256→(hd c).2.1≤8∧((hd c).2.1=0∨(hd c).2.2=0)∧(hd c).2.2<18446744073709551616
 call:∀(c:UInt8) (V:World),But b W V→Calls prog f #[.int .u8 c.toNat] V fun e V'=>e=.returned (.agg #[.int .i64 (hd c.toNat).1,.int .i64 (hd c.toNat).2.1,.int .u64 (hd c.toNat).2.2])∧Below V.heap.size V V'
theorem qeJ.but {f:Nat}(h:qeJ f hd b W)(hB:But b W V):qeJ f hd b V:=⟨h.fn,h.so,h.fit,fun c U hU=>h.call c U (hB.trans hU)⟩
theorem qll (W:World)(b m:Nat)(s:Src)(ks:List (List UInt8))(hd:Nat→Nat×Nat×Nat)(f:Nat)(h:qad W b s)(hk:qaE W m ks)(hmb:m≠b)(hig:∀g off,s.bs≠[]→s.ia=some ⟨g,off,none⟩→g≠m)(hkl:ks.length<1000000000)(hlen:s.bs.length≤200000000)(hU:∀V,But b W V→U8 V)(hB9:7<b)(cH:qeJ f hd b W):Calls prog 333 #[.agg #[.pointer (some ⟨b,0,none⟩),.func (.func f) #[] #[]],.map (some m)] W (qi7 W b m s ks (qfr hd s.bs s.lim ks s.pos)):=by
 rcases qaM h with h1|h1|⟨c,h1⟩
 ·have e:qfr hd s.bs s.lim ks s.pos=.error (9,(s.pos:Int)):=by
   unfold qfr;rw[List.getElem?_eq_none (by have:s.pos=s.bs.length:=h1;omega)]
  rw[e];refine(qeL W b m s f 9 h (fun V hV=>qbm V b s hV h1)).mono ?_;rintro e w ⟨h1,h2,h3⟩;exact⟨.of1 h1,h2,h3⟩
 ·have e:qfr hd s.bs s.lim ks s.pos=.error (8,(s.pos:Int)):=by
   unfold qfr;rw[List.getElem?_eq_getElem h1.1];simp only[];rw[if_pos h1.2]
  rw[e];refine(qeL W b m s f 8 h (fun V hV=>qaP V b s hV h1)).mono ?_;rintro e w ⟨h1,h2,h3⟩;exact⟨.of1 h1,h2,h3⟩
 exact qjD W b m s c ks hd f _ _ _ h h1 hk hmb hig hkl rfl (cH.fit _ c.toNat_lt).1 (cH.fit _ c.toNat_lt).2.1 (cH.fit _ c.toNat_lt).2.2 hlen cH.fn hU hB9 (cH.call c)
def qcq (k:Nat)(V:World)(F:Nat→Prop)(xs:List Value)(es:List (Lit×DataW Unit)):Prop :=
 ∀(i:Nat) (key:Lit) (d:DataW Unit),es[i]? = some (key,d)→∃l x,key=.string l∧xs[2*i]? = some (.string ⟨l.toArray⟩)∧xs[2*i+1]? = some x∧qai k V F x d
theorem qcq.same {F G:Nat→Prop}(h:qcq k V F xs es)(hFG:∀k,F k→G k)(hk:∀k,F k→V'.heap[k]? = V.heap[k]?):qcq k V' G xs es:=fun i key d hd=>by
 obtain⟨l,x,e1,e2,e3,e4⟩:=h i key d hd;exact⟨l,x,e1,e2,e3,e4.same hFG hk⟩
theorem But.trans' (h:But b A B)(k:qiO b m B C)(hm:A.heap.size≤m:=by omega):But b A C :=
 ⟨k.os.trans h.os,k.tape.trans h.tape,k.output.trans h.output,Nat.le_trans h.size k.size,fun i h1 h2=>(k.block i (by have:=h.size;omega) h2 (by omega)).trans (h.block i h1 h2)⟩
structure qot (k:Nat)(W:World)(b:Nat)(fv:Value)(s:Src)(p:Nat)(v:Value)(es:List (Lit×DataW Unit))(ks:List (List UInt8))(V:World):Prop where
 src:qad V b {s with pos:=p}
 but:But b W V
 box:V.heap[W.heap.size]? = some (.cells #[.pointer (some ⟨b,0,none⟩),fv] 201)
 keys:qaE V (W.heap.size+1) ks
 own:∃xs,V.ownsRow (W.heap.size+2) 208 2 v es.length xs∧qcq k V (fun j=>W.heap.size+2≤j∧j<V.heap.size∧some j≠v.ownBlock) xs es
 size:W.heap.size+2≤V.heap.size
theorem qeO {base:Nat}{t:TypeId}{size:Nat}{n:Nat}(h:W.ownsRow base t size v n xs)(hB:qiO b m W W')(hn:b<base)(hm:m<base):W'.ownsRow base t size v n xs:=by
 obtain⟨h1,h2⟩:=h;refine⟨h1,?_⟩;rcases h2 with h2|⟨g,cap,cur,e,hb,hg,h5⟩
 ·exact .inl h2
 exact .inr ⟨g,cap,cur,e,hb,(hB.block g (ltA hg) (by omega) (by omega)).trans hg,h5⟩
theorem qot.step {ks':List (List UInt8)}(h:qot k W b fv s p v es ks V)(hb:b<W.heap.size)(hs:qad V' b {s with pos:=q})(hB:qiO b (W.heap.size+1) V V')(hk:qaE V' (W.heap.size+1) ks'):qot k W b fv s q v es ks' V':=by
 obtain⟨xs,h1,h2⟩:=h.own;have hsz:=h.size;refine⟨hs,h.but.trans' hB,(hB.block _ (ltA h.box) (by omega) (by omega)).trans h.box,hk,⟨xs,qeO h1 hB (by omega) (by omega),?_⟩,Nat.le_trans h.size hB.size⟩;exact h2.same (fun j hj=>⟨hj.1,Nat.lt_of_lt_of_le hj.2.1 hB.size,hj.2.2⟩) (fun j hj=>hB.block j hj.2.1 (by omega) (by omega))
theorem qot.push {w5:World}{v' x:Value}{d:DataW Unit}{V0:World}(h:qot k W b fv s p v es ks V)(h0:qad W b s)(ho:V.ownsRow (W.heap.size+2) 208 2 v es.length xs)(hx:qcq k V (fun j=>W.heap.size+2≤j∧j<V.heap.size∧some j≠v.ownBlock) xs es)(hd:qai k V (fun j=>V0.heap.size≤j∧j<V.heap.size) x d)(hv0:∀g,v.ownBlock=some g→g<V0.heap.size)(hW0:W.heap.size+2≤V0.heap.size)(ho':w5.ownsRow (W.heap.size+2) 208 2 v' (es.length+1) (xs++[.string ⟨l.toArray⟩,x]))(hg:(V.alloc (.cells #[.string ⟨l.toArray⟩,x] 208)).grownBy w5 v.ownBlock)(hw:v'.ownBlock=v.ownBlock∨v'.ownBlock=some (V.alloc (.cells #[.string ⟨l.toArray⟩,x] 208)).heap.size):qot k W b fv s p v' (es++[(.string l,d)]) ks w5:=by
 have hsz:=h.size;have hgs:V.heap.size+1≤w5.heap.size:=by have:=hg.size;simpa using this
 have key:∀g,v.ownBlock=some g→W.heap.size+2≤g:=fun g hg=>qbA ho hg;have hkeep:∀j,j<V.heap.size→some j≠v.ownBlock→w5.heap[j]? = V.heap[j]?:=fun j hj hn=>(hg.block j (by simp;omega) hn).trans (Below.heap_alloc _ _ _ hj);have hlow:∀j,j<W.heap.size+2→w5.heap[j]? = V.heap[j]?:=fun j hj=>hkeep j (by omega) (fun e=>by have:=key j e.symm;omega);have hkeys:qaE w5 (W.heap.size+1) ks:=by
  have hB:But (W.heap.size+2) V (V.alloc (.cells #[.string ⟨l.toArray⟩,x] 208)):=But.of_below bwA;have h1:=h.keys.but (b:=W.heap.size+2) (by omega) hB;exact h1.kept hg (fun e=>by have:=key _ e.symm;omega)
 refine⟨h0.same rfl rfl h.src (fun j hj=>hlow j (by omega)),⟨hg.os.trans h.but.os,hg.tape.trans h.but.tape,hg.output.trans h.but.output,by have:=h.but.size;omega,fun j hj hn=>(hlow j (by omega)).trans (h.but.block j hj hn)⟩,(hlow _ (by omega)).trans h.box,hkeys,⟨_,by rw[List.length_append];exact ho',fun i y c hc => ?_⟩,by omega⟩;have hne:∀j,j<V.heap.size→some j≠v.ownBlock→some j≠v'.ownBlock:=fun j hj hn=>by
  rcases hw with hw|hw
  ·rw[hw];exact hn
  rw[hw];intro e;injection e with e;simp at e;omega
 have hxl:=ho.1;by_cases hi:i<es.length
 ·rw[List.getElem?_append_left hi] at hc;obtain⟨l',x',e1,e2,e3,e4⟩:=hx i y c hc;refine⟨l',x',e1,by rw[List.getElem?_append_left (by omega)];exact e2,by rw[List.getElem?_append_left (by omega)];exact e3,?_⟩;exact e4.same (fun j hj=>⟨hj.1,by have:=hj.2.1;omega,hne j hj.2.1 hj.2.2⟩) (fun j hj=>hkeep j hj.2.1 hj.2.2)
 have e:i=es.length:=by
  have:=ltL hc;rw[List.length_append] at this;simp at this;omega
 subst e;rw[List.getElem?_append_right (by omega)] at hc;simp at hc;obtain⟨rfl,rfl⟩:=hc;have hoff:∀j,V0.heap.size≤j→some j≠v.ownBlock:=fun j hj e=>by have:=hv0 j e.symm;omega
 refine⟨l,x,rfl,?_,?_,hd.same (fun j hj=>⟨by omega,by omega,hne j hj.2 (hoff j hj.1)⟩) (fun j hj=>hkeep j hj.2 (hoff j hj.1))⟩
 ·rw[List.getElem?_append_right (by omega),show 2*es.length-xs.length=0 by omega];rfl
 rw[List.getElem?_append_right (by omega),show 2*es.length+1-xs.length=1 by omega];rfl
theorem qot.row (h:qot k W b fv s p v es ks V):qai (k+1) V (fun j=>W.heap.size≤j∧j<V.heap.size) (.iface 206 v) (.map es):=by
 obtain⟨xs,h1,h2⟩:=h.own;unfold qai;refine⟨v,xs,rfl,⟨h1.1,?_⟩,h2.same (fun j hj=>⟨by omega,hj.2.1⟩) (fun _ _=>rfl)⟩;rcases h1.2 with h3|⟨g,cap,cur,e,hb,hg,h5⟩
 ·exact .inl h3
 exact .inr ⟨g,cap,cur,e,⟨by omega,(ltA hg)⟩,hg,h5⟩
theorem Tryz.infoEntry:(prog.info? 208).map (fun i=>(i.zero,i.size,i.bytes))=some (some (.agg #[.string ByteArray.empty,.nilIface]),2,32):=by kernel_rfl
theorem qhP (bs:List UInt8)(lim:Int):∀(k p a x q:Nat),qd9 bs lim k p a=.ok (x,q)→q=p+k
 |0,p,a,x,q,h=>by
  unfold qd9 at h;cases h;rfl
 |k+1,p,a,x,q,h=>by
  rw[qd9] at h;split at h
  ·cases h
  split at h
  ·cases h
  have:=qhP bs lim k (p+1) _ x q h;omega
theorem qpE {bs:List UInt8}{lim:Int}(h:qfr hd bs lim ks p=.ok (l,q)):p<q:=by
 unfold qfr at h;split at h
 ·cases h
 split at h
 ·cases h
 split at h
 ·split at h
  ·cases h
  next x q' ha =>
  split at h
  ·cases h
  next l' r hb =>
  split at h
  ·cases h
  injection h with h;injection h with h1 h2;have:=qhP _ _ _ _ _ _ _ ha;have:=qfq _ _ _ _ _ _ _ _ hb;omega
 cases h
theorem quM (k:Nat)(fv:Value)(h:qad W b s):qot k W b fv s s.pos (.slice none 0 0) [] [] ((W.alloc (.cells #[.pointer (some ⟨b,0,none⟩),fv] 201)).alloc (.map #[] 0)):=by
 have hB:Below W.heap.size W ((W.alloc (.cells #[.pointer (some ⟨b,0,none⟩),fv] 201)).alloc (.map #[] 0)):=(bwA).alloc (by simp) _;refine⟨h.below hB,But.of_below hB,(Below.heap_alloc _ _ _ (by simp)).trans (qac W _),⟨.map [],?_,fun l=>by simp[Maps.has]⟩,⟨[],World.ownsRow_nil _ _ _ _,fun i key d hx=>by simp at hx⟩,by simp⟩;have:=World.ownsMap_made (W.alloc (.cells #[.pointer (some ⟨b,0,none⟩),fv] 201)) prog 9 (unitElem (H:=Unit));rw[World.size_alloc] at this;exact this
theorem qlp (k:Nat)(W:World)(b:Nat)(s:Src)(f n:Nat)(hd:Nat→Nat×Nat×Nat)(rd:Nat→Except (Int×Int) (DataW Unit×Nat))(hn:n<18446744073709551616)(h:qad W b s)(hlen:s.bs.length≤200000000)(hU:∀V,But b W V→U8 V)(hB9:7<b)(cH:qeJ f hd b W)(hrd:qnF k f b s W rd)(hgo:∀p d q,rd p=.ok (d,q)→p<q):Calls prog 331 #[.agg #[.pointer (some ⟨b,0,none⟩),.func (.func f) #[] #[]],.int .u64 n] W (qhz W b s (fun V v es=>(∃a n c,v=.slice a n c)∧qai (k+1) V (fun j=>W.heap.size≤j∧j<V.heap.size) (.iface 206 v) (.map es)) (qaI (qfr hd s.bs s.lim) rd n s.pos [] [])):=by
 obtain⟨i0,hi,hz0,hz1,hz2⟩:=info_parts Tryz.infoEntry;have hmm:∀V:World,(Instr.makeMap 414 none).run prog V=.ok (.map (some V.heap.size)) (V.alloc (.map #[] 0)):=fun V=>by kernel_rfl
 have HX0:Hid (qot k W b (.func (.func f) #[] #[]) s s.pos (.slice none 0 0) [] [] ((W.alloc (.cells #[.pointer (some ⟨b,0,none⟩),.func (.func f) #[] #[]] 201)).alloc (.map #[] 0))):=quM _ _ h;have hbN:=ltA h.row;have HIG:Hid (∀g off,s.bs≠[]→s.ia=some ⟨g,off,none⟩→g≠W.heap.size+1):=fun g off hne e=>by
  have hl:0<s.bs.length:=by cases hbs:s.bs with|nil=>exact absurd hbs hne|cons _ _=>simp
  obtain⟨g',off',e1,_,e3⟩:=h.inp 0 hl;rw[e] at e1;injection e1 with e1;injection e1 with e1;have:g'<W.heap.size:=block_lt_of_cell e3;omega
 have cK:∀(V:World) (p:Nat) (ks:List (List UInt8)),qad V b {s with pos:=p}→But b W V→qaE V (W.heap.size+1) ks→ks.length<1000000000→Calls prog 333 #[.agg #[.pointer (some ⟨b,0,none⟩),.func (.func f) #[] #[]],.map (some (W.heap.size+1))] V (qi7 V b (W.heap.size+1) {s with pos:=p} ks (qfr hd s.bs s.lim ks p)):=fun V p ks hV hB hk hl=>qll V b (W.heap.size+1) {s with pos:=p} ks hd f hV hk (by omega) HIG.out hl hlen (fun U hBU=>hU U (hB.trans hBU)) hB9 (cH.but hB);have HS0:=qaa h;have HRD:=qaa hrd;have HGO:=qaa hgo;have hle:=h.le;obtain⟨R,HR⟩:∃R,Hid (qaI (qfr hd s.bs s.lim) rd n s.pos [] []=R):=⟨_,show _=_ from rfl⟩
 rw[HR.out];clear h hrd hgo cH hU HIG;go_enter func331,ntmps331;go_wp2;generalize (W.alloc (.cells #[.pointer (some ⟨b,0,none⟩),.func (.func f) #[] #[]] 201)).alloc (.map #[] 0)=W0 at *;clear hmm
 go_loopg [5,10] n (fun g y z wr=>∃(m p:Nat) (a:Option Addr) (l c:Nat) (es:List (Lit×DataW Unit)) (ks:List (List UInt8)),y=.slice a l c∧z=.int .u64 m∧Hid (m+g=n)∧Hid (p≤s.bs.length)∧Hid (es.length≤p∧ks.length≤p)∧Hid (qot k W b (.func (.func f) #[] #[]) s p (.slice a l c) es ks wr)∧Hid (qaI (qfr hd s.bs s.lim) rd g p ks es=R))
 case atStart=>exact⟨0,s.pos,none,0,0,[],[],rfl,rfl,by show _=_;omega,hle,⟨Nat.zero_le _,Nat.zero_le _⟩,HX0,HR⟩
 case round =>
  clear HX0 HR;obtain⟨m,p,a,l,c0,es,ks,rfl,rfl,hg,hp,ha,HX,HR⟩:=hrel;have kb:=qab HX.out.box 0;have kb1:=qab HX.out.box 1
  cases gk with
  |zero =>
   have hk:m=n:=by have:=hg.out;omega
   subst hk;have HE:Hid (R=.ok (es,p)):=HR.out.symm;clear HR hg cK;go_wp2;go_ret;rw[HE.out];exact⟨HX.out.but,⟨_,rfl,⟨_,_,_,rfl⟩,HX.out.row⟩,HX.out.src⟩
  |succ g =>
   have hkn:m<n:=by have:=hg.out;omega
   have e1:decide ((m:Int)<(n:Int))=true:=by simp;omega
   have e2:decide (m<n)=true:=by simp;omega
   have hksl:ks.length<1000000000:=by have:=ha.out.2;have:=hp.out;omega
   have cK1:=cK wr p ks HX.out.src HX.out.but HX.out.keys hksl;have hr:=HR.out;rw[qaI] at hr;clear HR cK
   cases hq:qfr hd s.bs s.lim ks p with
   |error er =>
    rw[hq] at hr cK1;simp only[] at hr;obtain⟨en,pl⟩:=er;have HE:=qaa hr.symm;clear hr hq
    go_wp2_with (first
     |(go_at_call 333;refine cK1.mono ?_;clear cK1;rintro e w2 ⟨hB,hF⟩;obtain⟨hF,pz,hsz⟩:=(show qao en pl e∧∃p,qad w2 b {s with pos:=p} from hF);obtain rfl:=hF))
    rw[HE.out];exact⟨rfl,HX.out.but.trans' hB,rfl,pz,hsz⟩
   |ok lq =>
    obtain⟨key,q⟩:=lq;rw[hq] at hr cK1;simp only[] at hr;have hpq:=qpE hq;clear hq;have karm:True:=trivial
    cases hq2:rd q with
    |error er =>
     rw[hq2] at hr;simp only[] at hr;obtain⟨en,pl⟩:=er;have HE:=qaa hr.symm;have HQ2:=qaa hq2;clear hr hq2 karm
     go_wp2_with (first
      |(go_at_call 333;refine cK1.mono ?_;rintro e w2 ⟨hB,hF⟩;obtain⟨rfl,hS2,hK2⟩:=(show e=.returned (.string ⟨key.toArray⟩)∧qad w2 b {s with pos:=q}∧qaE w2 (W.heap.size+1) (key::ks) from hF);have HX2:=qaa (HX.out.step hbN hS2 hB hK2);have kb:=qab HX2.out.box 0;have kb1:=qab HX2.out.box 1;have cT:=HRD.out w2 q HX2.out.src HX2.out.but;rw[HQ2.out] at cT)
      |(go_at_call 325;refine cT.mono ?_;rintro e w3 ⟨hB3,hF3⟩;obtain⟨hF3,pz,hsz⟩:=(show qao en pl e∧∃p,qad w3 b {s with pos:=p} from hF3);obtain rfl:=hF3))
     rw[HE.out];exact⟨rfl,HX2.out.but.trans hB3,rfl,pz,hsz⟩
    |ok dr =>
     obtain⟨d,r⟩:=dr;rw[hq2] at hr;simp only[] at hr;have HQ2:=qaa hq2;have hqr:=HGO.out q d r hq2;have HN:=qaa hr;have hal:es.length≤200000000:=by have:=ha.out.1;have:=hp.out;omega
     have HDL:Hid (es.length+1≤r∧ks.length+1≤r):=⟨by have:=ha.out.1;omega,by have:=ha.out.2;omega⟩
     go_wp2_with (first
      |(go_at_call 333;refine cK1.mono ?_;rintro e w2 ⟨hB,hF⟩;obtain⟨rfl,hS2,hK2⟩:=(show e=.returned (.string ⟨key.toArray⟩)∧qad w2 b {s with pos:=q}∧qaE w2 (W.heap.size+1) (key::ks) from hF);have HX2:=qaa (HX.out.step hbN hS2 hB hK2);have kb:=qab HX2.out.box 0;have kb1:=qab HX2.out.box 1;have cT:=HRD.out w2 q HX2.out.src HX2.out.but;rw[HQ2.out] at cT;have HVW:=qaa HX2.out.size;have HOL:Hid (∀g,(Value.slice a l c0).ownBlock=some g→g<w2.heap.size):=by {obtain⟨xs,h1,_⟩:=HX2.out.own;exact qhh h1})
      |(go_at_call 325;refine cT.mono ?_;rintro e w3 ⟨hB3,hF3⟩;obtain⟨⟨t,y,rfl,hd3⟩,hS3⟩:=(show(∃t y,e=.returned (.iface t y)∧qai k w3 (fun j=>w2.heap.size≤j∧j<w3.heap.size) (.iface t y) d)∧qad w3 b {s with pos:=r} from hF3);have HX3:=qaa (HX2.out.step hbN hS3 (.of1 hB3) (HX2.out.keys.but (by omega) hB3));have HD:=qaa hd3;have HQ:Hid (r≤s.bs.length):=hS3.le;obtain⟨xs,hown,hxs⟩:=HX3.out.own;have HO:=qaa hown;have HXS:=qaa hxs;have HBS:=qaa HX3.out.size)
      |(at_builtin;refine qaX _ rfl _ _ 206 rfl (W.heap.size+2) 208 i0 (.agg #[.string ByteArray.empty,.nilIface]) 2 32 underlying206 hi hz0 hz1 hz2 rfl (by decide) _ _ _ rfl (HO.out.alloc _) ⟨w3.heap.size,0,none⟩ 1 1 [.string ⟨key.toArray⟩,.iface t y] rfl rfl (qag _ _ _) (fun u hu=>by simp at hu;rcases hu with rfl|rfl<;>rfl) (by decide) (by unfold maxLen;omega) (by omega) (by simp;have:=HBS.out;omega) ?_;intro v' w5 hown' hgrow5 hw5;have HX5:=qaa (HX3.out.push HS0.out HO.out HXS.out HD.out HOL.out HVW.out hown' hgrow5 hw5);obtain⟨g5,cap5,rfl⟩:=ownsRow_succ hown'))
     go_roundg g
     case measure=>omega
     case rel=>exact⟨m+1,r,_,_,_,es++[(.string key,d)],key::ks,rfl,by go_num,by show _=_;have:=hg.out;omega,HQ,⟨by rw[List.length_append];exact HDL.out.1,HDL.out.2⟩,HX5,HN⟩
end
end Go.Proofs.YtllcbnfmihfaaaaGreatDoor
