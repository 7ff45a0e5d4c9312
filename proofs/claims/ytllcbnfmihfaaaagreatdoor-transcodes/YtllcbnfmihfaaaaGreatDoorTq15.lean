import Derived.Test.YtllcbnfmihfaaaaGreatDoorTq13
set_option maxRecDepth 100000
set_option maxHeartbeats 8000000
namespace Go.Proofs.YtllcbnfmihfaaaaGreatDoor
open Go.Proofs.Tryz
variable {b k x:Nat}{V W:World}{v:Value}
section
open Go.RowKit
section
variable {bs:List UInt8} {lim:Int} {li:Nat→Nat→Except (Int×Int) (List (DataW Unit)×Nat)} {ma:Nat→Nat→Except (Int×Int) (List (Lit×DataW Unit)×Nat)} {w x q:Nat}
theorem qvh:qjF bs lim li ma 1 w x q=.ok (.nil,q):=rfl
theorem qvn:qjF bs lim li ma 2 w x q=.ok (.lit (.bool false),q):=rfl
theorem qvW:qjF bs lim li ma 3 w x q=.ok (.lit (.bool true),q):=rfl
theorem qvC:qjF bs lim li ma 7 w x q=(match qhb bs lim x q [] with|.error e=>.error e|.ok (l,r)=>.ok (.ptr (.lit (.string l)),r)):=rfl
theorem qvD:qjF bs lim li ma 8 w x q=(match qfg bs lim x q [] 0 with|.error e=>.error e|.ok (l,r)=>.ok (.lit (.string l),r)):=rfl
theorem qwh:qjF bs lim li ma 9 w x q=(match li x q with|.error e=>.error e|.ok (ds,r)=>.ok (.agg ds,r)):=rfl
theorem qu7:qjF bs lim li ma 10 w x q=(match ma x q with|.error e=>.error e|.ok (ds,r)=>.ok (.map ds,r)):=rfl
theorem qvL {so:Nat}(h:4≤so∧so≤6):qjF bs lim li ma so w x q=(match nbF so w x q with|.error e=>.error e|.ok z=>.ok (.lit (.int .i64 z),q)):=by
 rcases(show so=4∨so=5∨so=6 by omega) with rfl|rfl|rfl<;>rfl
end
theorem qqB {so w:Int}{p z:Int}(h:nbF so w x p=.ok z):-9223372036854775808≤z∧z≤9223372036854775807:=by
 have hw:∀y:Int,-9223372036854775808≤wrap64 y∧wrap64 y≤9223372036854775807:=fun y=>by unfold wrap64;omega
 unfold nbF at h;split at h
 ·injection h with h;subst h;unfold qws;split
  ·exact hw _
  split
  ·exact hw _
  split<;>exact hw _
 split at h
 ·cases h
 split at h<;>(injection h with h;omega)
theorem qlt (bs:List UInt8)(lim:Int):∀(k p a x q:Nat),qd9 bs lim k p a=.ok (x,q)→x<(a+1)*256^k
 |0,p,a,x,q,h=>by
  unfold qd9 at h;cases h;simp
 |k+1,p,a,x,q,h=>by
  rw[qd9] at h;split at h
  ·cases h
  next c _ =>
  split at h
  ·cases h
  have h1:=qlt bs lim k (p+1) _ x q h;have h2:c.toNat<256:=c.toNat_lt;have h3:(a*256+c.toNat+1)*256^k≤((a+1)*256)*256^k:=Nat.mul_le_mul_right _ (by omega);have h4:((a+1)*256)*256^k=(a+1)*256^(k+1):=by rw[Nat.mul_assoc,Nat.pow_succ,Nat.mul_comm 256]
  omega
theorem qn5 {bs:List UInt8}{lim:Int}{w g p q:Nat}(h:w≤8∧(w=0∨g=0)∧g<18446744073709551616)(ha:qd9 bs lim w p g=.ok (x,q)):x<18446744073709551616:=by
 have h1:=qlt bs lim w p g x q ha;obtain⟨h2,h3,h4⟩:=h;rcases h3 with rfl|rfl
 ·simp at h1;omega
 have:(256:Nat)^w≤256^8:=Nat.pow_le_pow_right (by decide) h2;have e:(256:Nat)^8=18446744073709551616:=by decide
 omega
theorem qtK {V':World}{d:DataW Unit}(lo:Nat)(hlo:W.heap.size≤lo)(hb:b<W.heap.size)(h:qai k V (fun j=>lo≤j∧j<V.heap.size) v d)(hB:But b V V'):qai k V' (fun j=>W.heap.size≤j∧j<V'.heap.size) v d :=
 h.same (fun j hj=>⟨by omega,Nat.lt_of_lt_of_le hj.2 hB.size⟩) (fun j hj=>hB.block j hj.2 (by omega))
theorem qoI {lo:Nat}{l:List UInt8}(hlo:W.heap.size≤lo)(h:Own V lo v l):qai (k+1) V (fun j=>W.heap.size≤j∧j<V.heap.size) (.iface 202 v) (.ptr (.lit (.string l))):=by
 unfold qai;refine⟨v,rfl,by simp,?_⟩;rcases h.1.2 with h3|⟨g,cap,cur,e,hb,hg,h5⟩
 ·exact .inl ⟨h3.1,h3.2⟩
 exact .inr ⟨g,cap,cur,e,⟨by omega,(ltA hg)⟩,hg,h5⟩
theorem qdo {s:Src}{t:Array Value}{R:Ending→World→Prop}(u:FrameMode)(hu:u≠.run)(h:qad V b s)(hk:s.within=k+1)(hw:s.within≤1000000)(H:∀V',qad V' b {s with within:=k}→But b V V'→Leaves prog f325 t R [] (settle u) V'):Leaves prog f325 t R [{target:=.fn (.func 317) #[],args:=#[.pointer (some ⟨b,0,none⟩)]}] u V:=by
 refine leaves_cons (f:=317) (args:=#[.pointer (some ⟨b,0,none⟩)]) hu (by simp[go_sem]) ?_;refine(qm2 V b k s u h hk hw).mono ?_;rintro e u' w3 ⟨rfl,rfl,hS,hB⟩;exact H w3 hS hB
theorem qgR (g:Nat)(W:World)(b:Nat)(s:Src)(c:UInt8)(hd:Nat→Nat×Nat×Nat)(f so w ar:Nat)(h:qad W b s)(h1:qfp s c)(hhd:hd c.toNat=(so,w,ar))(hso:so≤10)(hw:w≤8)(hg:w=0∨ar=0)(har:ar<18446744073709551616)(hlen:s.bs.length≤200000000)(hwi:s.within≤100000)(hf:f=107∨f=108)(hU:∀V,But b W V→U8 V)(hB9:7<b)(cH:∀V,But b W V→Calls prog f #[.int .u8 c.toNat] V fun e V'=>e=.returned (.agg #[.int .i64 so,.int .i64 w,.int .u64 ar])∧Below V.heap.size V V')(cL:¬(s.within:Int)=s.depth→∀(V:World) (p n:Nat),qad V b {s with pos:=p,within:=s.within+1}→But b W V→n<18446744073709551616→Calls prog 330 #[.agg #[.pointer (some ⟨b,0,none⟩),.func (.func f) #[] #[]],.int .u64 n] V (qhz V b {s with pos:=p,within:=s.within+1} (fun V' v ds=>(∃a n c,v=.slice a n c)∧qai (g+1) V' (fun j=>V.heap.size≤j∧j<V'.heap.size) (.iface 204 v) (.agg ds)) (qb9 (thB hd s.bs s.lim s.depth g (s.within+1)) n p [])))(cM:¬(s.within:Int)=s.depth→∀(V:World) (p n:Nat),qad V b {s with pos:=p,within:=s.within+1}→But b W V→n<18446744073709551616→Calls prog 331 #[.agg #[.pointer (some ⟨b,0,none⟩),.func (.func f) #[] #[]],.int .u64 n] V (qhz V b {s with pos:=p,within:=s.within+1} (fun V' v es=>(∃a n c,v=.slice a n c)∧qai (g+1) V' (fun j=>V.heap.size≤j∧j<V'.heap.size) (.iface 206 v) (.map es)) (qaI (qfr hd s.bs s.lim) (thB hd s.bs s.lim s.depth g (s.within+1)) n p [] []))):Calls prog 325 #[.agg #[.pointer (some ⟨b,0,none⟩),.func (.func f) #[] #[]]] W (qjI (g+1) W b s (thB hd s.bs s.lim s.depth (g+1) s.within s.pos)):=by
 obtain⟨R,HR⟩:∃R,Hid (thB hd s.bs s.lim s.depth (g+1) s.within s.pos=R):=⟨_,show _=_ from rfl⟩
 rw[HR.out];have hr:=HR.out;rw[qhJ h1.1 h1.2 hhd] at hr;clear HR hhd;have cT0:∀V,qad V b s→Calls prog 294 #[.pointer (some ⟨b,0,none⟩)] V fun e W'=>e=.returned (.int .u8 c.toNat)∧qad W' b s.next∧But b V W':=fun V hV=>qau V b s c hV h1
 have cA:∀V,qad V b s.next→Calls prog 326 #[.agg #[.pointer (some ⟨b,0,none⟩),.func (.func f) #[] #[]],.agg #[.int .i64 so,.int .i64 w,.int .u64 ar]] V (qgc V b s.next (fun x:Nat=>.int .u64 x) (qd9 s.bs s.lim w (s.pos+1) ar)):=fun V hV=>qbN V b s.next f so w ar hw hg hV
 have cA9:∀V,qad V b {s.next with within:=s.within+1}→Calls prog 326 #[.agg #[.pointer (some ⟨b,0,none⟩),.func (.func f) #[] #[]],.agg #[.int .i64 so,.int .i64 w,.int .u64 ar]] V (qgc V b {s.next with within:=s.within+1} (fun x:Nat=>.int .u64 x) (qd9 s.bs s.lim w (s.pos+1) ar)):=fun V hV=>qbN V b {s.next with within:=s.within+1} f so w ar hw hg hV;have HFIT:Hid (∀x q,qd9 s.bs s.lim w (s.pos+1) ar=.ok (x,q)→x<18446744073709551616):=fun x q hx=>qn5 ⟨hw,hg,har⟩ hx;have cN:∀(V:World) (p x:Nat),qad V b {s with pos:=p}→x<18446744073709551616→Calls prog 327 #[.agg #[.pointer (some ⟨b,0,none⟩),.func (.func f) #[] #[]],.agg #[.int .i64 so,.int .i64 w,.int .u64 ar],.int .u64 x] V (qsC V b {s with pos:=p} (nbF so w x p)):=fun V p x hV hx=>qiU V b {s with pos:=p} f so w ar x hx hV;have cB:∀(V:World) (p x:Nat),qad V b {s with pos:=p}→x<18446744073709551616→Calls prog 328 #[.agg #[.pointer (some ⟨b,0,none⟩),.func (.func f) #[] #[]],.int .u64 x] V (qhz V b {s with pos:=p} (fun V' v l=>Own V' (V.heap.size+1) v l) (qhb s.bs s.lim x p [])):=fun V p x hV hx=>qiw V b {s with pos:=p} f x hx hV hlen;have cX:∀(V:World) (p x:Nat),qad V b {s with pos:=p}→But b W V→x<18446744073709551616→Calls prog 329 #[.agg #[.pointer (some ⟨b,0,none⟩),.func (.func f) #[] #[]],.int .u64 x] V (qgc V b {s with pos:=p} (fun l:List UInt8=>.string ⟨l.toArray⟩) (qfg s.bs s.lim x p [] 0)):=fun V p x hV hB hx=>qep V b {s with pos:=p} f x hx hV (hU V hB) hB9 hlen;have cR0:∀V,qad V b s.next→Calls prog 295 #[.pointer (some ⟨b,0,none⟩),.int .i64 9] V fun e W'=>qao 9 s.pos e∧W'=V:=fun V hV=>by
  have:=qat V b s.next 9 hV
  rwa [show((s.next.pos:Int)-1)=s.pos by show(((s.pos+1:Nat)):Int)-1=s.pos;omega] at this
 have cE0:∀V,qad V b s.next→(s.within:Int)=s.depth→Calls prog 289 #[.pointer (some ⟨b,0,none⟩)] V fun e W'=>qao 11 s.pos e∧But b V W'∧∃p,qad W' b {s with pos:=p}:=fun V hV hd=>by
  have:=qjb V b s.next hV hd
  rwa [show((s.next.pos:Int)-1)=s.pos by show(((s.pos+1:Nat)):Int)-1=s.pos;omega] at this
 have cE1:∀V,qad V b s.next→¬(s.within:Int)=s.depth→Calls prog 289 #[.pointer (some ⟨b,0,none⟩)] V fun e W'=>e=.returned (.tuple #[])∧qad W' b {s.next with within:=s.within+1}∧But b V W':=fun V hV hd=>qin V b s.next hV hd (by show s.within≤_;omega)
 have HH:=qaa h;have hbN:=ltA h.row;have hB1:Below W.heap.size W (W.alloc (.cells #[.pointer (some ⟨b,0,none⟩),.func (.func f) #[] #[]] 201)).drew:=(bwA).drew;have HB1:=qaa hB1;have HS1:=qaa (h.below hB1);have HX1:Hid ((W.alloc (.cells #[.pointer (some ⟨b,0,none⟩),.func (.func f) #[] #[]] 201)).drew.heap[W.heap.size]? = some (.cells #[.pointer (some ⟨b,0,none⟩),.func (.func f) #[] #[]] 201)):=qac W _;have HCF:Hid (∀(args:Array Value) (V:World),(callFunc f args).run prog V=.ok (.enter f args) V):=by
  show ∀_ _,_;rcases hf with rfl|rfl<;>exact fun args V=>by kernel_rfl
 clear h h1 hB1 hw hg har hf hU
 go_enter_defers func325,ntmps325
 go_wp2_with fail
 refine qso (fun M V=>qnk W b W.heap.size M (.func (.func f) #[] #[]) so w ar s.next V) (fun M=>{tmps:=#[.agg #[.pointer (some ⟨b,0,none⟩),.func (.func f) #[] #[]],.pointer (some ⟨W.heap.size,0,none⟩),.nilIface,.pointer (some ⟨M,0,none⟩),undef,.pointer (some ⟨W.heap.size,1,none⟩),.func (.func f) #[] #[],.pointer (some ⟨W.heap.size,0,none⟩),.pointer (some ⟨b,0,none⟩),.int .u8 c.toNat,.agg #[.int .i64 so,.int .i64 w,.int .u64 ar],undef,undef,undef,undef,undef,undef,undef,undef,undef,undef,undef,undef,undef,undef,undef,undef,undef,undef,undef,undef,undef,undef,undef,undef,undef,undef,undef,undef,undef,undef,undef,undef,undef,undef,undef,undef,undef,undef,undef,undef,undef,undef,undef,undef,undef,undef,undef,undef,undef,undef,undef,undef,undef,undef,undef,undef,undef,undef,undef,undef,undef,undef],defers:=[]}) (fun hvia => ?reg) ?tail
 case reg =>
  refine wp_region_held (S:=fun V=>V.heap[W.heap.size]? = some (.cells #[.pointer (some ⟨b,0,none⟩),.func (.func f) #[] #[]] 201)) (by kernel_rfl) ?_;have hS:=HX1.out;refine wpAnyH_take (i:=0) (v:=.pointer (some ⟨W.heap.size,1,none⟩)) rfl (by kernel_rfl) (by kernel_rfl) (by kernel_rfl) (fun c a w h=>qbt results325 5 (by decide) _ c a w h) (.inl ⟨rfl,fun V hV=>rfl⟩) hS ?_;refine wpAnyH_take (i:=1) (v:=.func (.func f) #[] #[]) rfl (by kernel_rfl) (by kernel_rfl) (by kernel_rfl) (fun c a w h=>qbt results325 6 (by decide) _ c a w h) (.inl ⟨rfl,fun V hV => ?y1⟩) hS ?_
  case y1=>(have h2:=qab hV 1;go_simp)
  refine wpAnyH_take (i:=2) (v:=.pointer (some ⟨W.heap.size,0,none⟩)) rfl (by kernel_rfl) (by kernel_rfl) (by kernel_rfl) (fun c a w h=>qbt results325 7 (by decide) _ c a w h) (.inl ⟨rfl,fun V hV=>rfl⟩) hS ?_;refine wpAnyH_take (i:=3) (v:=.pointer (some ⟨b,0,none⟩)) rfl (by kernel_rfl) (by kernel_rfl) (by kernel_rfl) (fun c a w h=>qbt results325 8 (by decide) _ c a w h) (.inl ⟨rfl,fun V hV => ?y3⟩) hS ?_
  case y3=>(have h2:=qab hV 0;go_simp)
  refine qsx 4 6 rfl rfl (by kernel_rfl) (fun K hK => ?_) (fun K hK => ?_)
  ·go_simp;refine(cT0 _ HS1.out).mono ?_;rintro e w2 ⟨rfl,hS2,hB2⟩;simp only[];have hX2:=(hB2.block _ (ltA hS) (by omega)).trans hS;have hBW2:=(But.of_below HB1.out).trans hB2;have hN2:=ltA hX2;refine hK.out _ _ hX2 (fun _ => ?_);clear hK;refine qsx 5 6 rfl rfl (by kernel_rfl) (fun K hK => ?_) (fun K hK => ?_)
   ·go_simp;rw[HCF.out];refine Calls.mono (cH _ hBW2) ?_;rintro e w3 ⟨rfl,hB3⟩;simp only[];have hX3:=(hB3.block _ hN2).trans hX2;have hN3:=ltA hX3;refine hK.out _ _ hX3 (fun _ => ?_);clear hK;refine rdH 6 rfl (by kernel_rfl) (fun K hK => ?_);go_simp;have hX4:(w3.alloc (.cells #[.int .i64 0,.int .i64 0,.int .u64 0] 273)).heap[W.heap.size]? = _:=(Below.heap_alloc _ _ _ hN3).trans hX3;refine hK.out _ _ hX4 (fun _ => ?_);clear hK;refine rdH 7 rfl (by kernel_rfl) (fun K hK => ?_);rw[if_pos (by rfl)];refine wp_store_row 273 _ _ rfl w3.heap.size #[.int .i64 so,.int .i64 w,.int .u64 ar] rfl rfl 273 _ (qac w3 _) qgr rfl (by simp[Value.oneCell']) ?_;have HT:Hid (qnk W b W.heap.size w3.heap.size (.func (.func f) #[] #[]) so w ar s.next ((w3.alloc (.cells #[.int .i64 0,.int .i64 0,.int .u64 0] 273)).setRow w3.heap.size #[.int .i64 so,.int .i64 w,.int .u64 ar])) :=
     qe3 w3.heap.size HH.out ((hS2.below hB3).below bwA) ((hBW2.trans (But.of_below hB3)).trans (But.of_below bwA)) hX4 hN3 (qac w3 _)
    refine hK.out _ _ HT.out.box (fun _ => ?_);clear hK;refine wpAnyH_done (by kernel_rfl) ?_ _;exact hvia _ _ HT.out
   go_simp;have hX3:(w2.alloc (.cells #[.int .i64 0,.int .i64 0,.int .u64 0] 273)).heap[W.heap.size]? = _:=(Below.heap_alloc _ _ _ hN2).trans hX2;have hBa:Below w2.heap.size w2 (w2.alloc (.cells #[.int .i64 0,.int .i64 0,.int .u64 0] 273)):=bwA;have hN3:=ltA hX3;refine hK.out _ _ hX3 (fun _ => ?_);clear hK;refine rdH 5 rfl (by kernel_rfl) (fun K hK => ?_);go_simp;rw[HCF.out];refine Calls.mono (cH _ (hBW2.trans (But.of_below hBa))) ?_;rintro e w3 ⟨rfl,hB3⟩;simp only[];have hX4:=(hB3.block _ hN3).trans hX3;have hZ4:=(hB3.block w2.heap.size (by simp)).trans (qac w2 (.cells #[.int .i64 0,.int .i64 0,.int .u64 0] 273));refine hK.out _ _ hX4 (fun _ => ?_);clear hK;refine rdH 7 rfl (by kernel_rfl) (fun K hK => ?_);rw[if_pos (by rfl)];refine wp_store_row 273 _ _ rfl w2.heap.size #[.int .i64 so,.int .i64 w,.int .u64 ar] rfl rfl 273 _ hZ4 qgr rfl (by simp[Value.oneCell']) ?_;have HT:Hid (qnk W b W.heap.size w2.heap.size (.func (.func f) #[] #[]) so w ar s.next (w3.setRow w2.heap.size #[.int .i64 so,.int .i64 w,.int .u64 ar])) :=
    qe3 w2.heap.size HH.out ((hS2.below hBa).below hB3) ((hBW2.trans (But.of_below hBa)).trans (But.of_below hB3)) hX4 hN2 hZ4
   refine hK.out _ _ HT.out.box (fun _ => ?_);clear hK;refine wpAnyH_done (by kernel_rfl) ?_ _;exact hvia _ _ HT.out
  go_simp;have hX3:((W.alloc (.cells #[.pointer (some ⟨b,0,none⟩),.func (.func f) #[] #[]] 201)).drew.alloc (.cells #[.int .i64 0,.int .i64 0,.int .u64 0] 273)).heap[W.heap.size]? = _:=(Below.heap_alloc _ _ _ (ltA hS)).trans hS;have hBa:Below W.heap.size W ((W.alloc (.cells #[.pointer (some ⟨b,0,none⟩),.func (.func f) #[] #[]] 201)).drew.alloc (.cells #[.int .i64 0,.int .i64 0,.int .u64 0] 273)):=HB1.out.alloc HB1.out.size _;have hZ3:((W.alloc (.cells #[.pointer (some ⟨b,0,none⟩),.func (.func f) #[] #[]] 201)).drew.alloc (.cells #[.int .i64 0,.int .i64 0,.int .u64 0] 273)).heap[W.heap.size+1]? = some (.cells #[.int .i64 0,.int .i64 0,.int .u64 0] 273):=by
   have:=qac (W.alloc (.cells #[.pointer (some ⟨b,0,none⟩),.func (.func f) #[] #[]] 201)).drew (.cells #[.int .i64 0,.int .i64 0,.int .u64 0] 273);rw[show(W.alloc (.cells #[.pointer (some ⟨b,0,none⟩),.func (.func f) #[] #[]] 201)).drew.heap.size=W.heap.size+1 from World.size_alloc ..] at this;exact this
  have HS3:=qaa (HH.out.below hBa);refine hK.out _ _ hX3 (fun _ => ?_);clear hK;refine rdH 4 rfl (by kernel_rfl) (fun K hK => ?_);go_simp;refine(cT0 _ HS3.out).mono ?_;rintro e w2 ⟨rfl,hS2,hB2⟩;simp only[];have hX2:=(hB2.block _ (ltA hX3) (by omega)).trans hX3;have hZ2:=(hB2.block _ (ltA hZ3) (by omega)).trans hZ3;have hBW2:=(But.of_below hBa).trans hB2;refine hK.out _ _ hX2 (fun _ => ?_);clear hK;refine rdH 5 rfl (by kernel_rfl) (fun K hK => ?_);go_simp;rw[HCF.out];refine Calls.mono (cH _ hBW2) ?_;rintro e w3 ⟨rfl,hB3⟩;simp only[];have hX4:=(hB3.block _ (ltA hX2)).trans hX2;have hZ4:=(hB3.block _ (ltA hZ2)).trans hZ2;refine hK.out _ _ hX4 (fun _ => ?_);clear hK;refine rdH 7 rfl (by kernel_rfl) (fun K hK => ?_);rw[if_pos (by rfl)];refine wp_store_row 273 _ _ rfl (W.heap.size+1) #[.int .i64 so,.int .i64 w,.int .u64 ar] rfl rfl 273 _ hZ4 qgr rfl (by simp[Value.oneCell']) ?_;have HT:Hid (qnk W b W.heap.size (W.heap.size+1) (.func (.func f) #[] #[]) so w ar s.next (w3.setRow (W.heap.size+1) #[.int .i64 so,.int .i64 w,.int .u64 ar])) :=
   qe3 (W.heap.size+1) HH.out (hS2.below hB3) (hBW2.trans (But.of_below hB3)) hX4 (by omega) hZ4
  refine hK.out _ _ HT.out.box (fun _ => ?_);clear hK;refine wpAnyH_done (by kernel_rfl) ?_ _;exact hvia _ _ HT.out
 case tail =>
  intro M V hT;have HT:=qaa hT;clear hT HX1 HS1 HB1 HH cH cT0 HCF;have k0:=qab HT.out.box 0;have k1:=qab HT.out.box 1;have m0:=qab HT.out.hd 0;have m1:=qab HT.out.hd 1;have m2:=qab HT.out.hd 2;have hsv:so=0∨so=1∨so=2∨so=3∨so=4∨so=5∨so=6∨so=7∨so=8∨so=9∨so=10:=by omega
  rcases hsv with hv|hv|hv|hv|hv|hv|hv|hv|hv|hv|hv
  all_goals
   first|have e0:((so:Int)==0)=true:=by rw[hv];rfl|have e0:((so:Int)==0)=false:=by rw[hv];rfl
   first|have e2:((so:Int)==2)=true:=by rw[hv];rfl|have e2:((so:Int)==2)=false:=by rw[hv];rfl
   first|have e3:((so:Int)==3)=true:=by rw[hv];rfl|have e3:((so:Int)==3)=false:=by rw[hv];rfl
   first|have e4:((so:Int)==4)=true:=by rw[hv];rfl|have e4:((so:Int)==4)=false:=by rw[hv];rfl
   first|have e5:((so:Int)==5)=true:=by rw[hv];rfl|have e5:((so:Int)==5)=false:=by rw[hv];rfl
   first|have e6:((so:Int)==6)=true:=by rw[hv];rfl|have e6:((so:Int)==6)=false:=by rw[hv];rfl
   first|have e7:((so:Int)==7)=true:=by rw[hv];rfl|have e7:((so:Int)==7)=false:=by rw[hv];rfl
   first|have e8:((so:Int)==8)=true:=by rw[hv];rfl|have e8:((so:Int)==8)=false:=by rw[hv];rfl
   first|have e9:((so:Int)==9)=true:=by rw[hv];rfl|have e9:((so:Int)==9)=false:=by rw[hv];rfl
   first|have e10:((so:Int)==10)=true:=by rw[hv];rfl|have e10:((so:Int)==10)=false:=by rw[hv];rfl
  ·rw[if_pos hv] at hr;subst hr;have cR1:=cR0 V HT.out.src;clear hv cR0 cA cA9 cN cB cX cE0 cE1 cL cM
   go_wp2_with (first
    |(go_at_call 295;refine cR1.mono ?_;clear cR1;rintro e w7 ⟨hF,rfl⟩;obtain rfl:=hF))
   exact⟨HT.out.but,rfl,_,HT.out.src⟩
  all_goals
   rw[if_neg (by omega)] at hr
   first
   |have h9:9≤so:=by omega
    clear h9;by_cases hdep:(s.within:Int)=s.depth
    ·rw[if_pos ⟨by omega,hdep⟩] at hr;subst hr;have cE:=cE0 V HT.out.src hdep;clear hv cR0 cA cA9 cN cB cX cE0 cE1 cL cM
     go_wp2_with (first
      |(go_at_call 289;refine cE.mono ?_;clear cE;rintro e w7 ⟨hF,hB7,hS7⟩;obtain rfl:=hF))
     exact⟨HT.out.but.trans hB7,rfl,hS7⟩
    rw[if_neg (fun hh=>hdep hh.2)] at hr;have cE:=cE1 V HT.out.src hdep;clear cR0 cA cN cB cX cE0 cE1
    cases ha:qd9 s.bs s.lim w (s.pos+1) ar with
    |error er =>
     rw[ha] at hr;simp only[] at hr;subst hr;obtain⟨en,pl⟩:=er;rw[ha] at cA9;clear hv cL cM HFIT
     go_wp2_with (first
      |(go_at_call 289;refine cE.mono ?_;clear cE;rintro e w4 ⟨rfl,hS4,hB4⟩;have HT4:=qaa (HT.out.step hS4 hB4);clear HT k0 k1 m0 m1 m2 hB4 hS4;have k0:=qab HT4.out.box 0;have k1:=qab HT4.out.box 1;have m0:=qab HT4.out.hd 0;have m1:=qab HT4.out.hd 1;have m2:=qab HT4.out.hd 2;have cA1:=cA9 w4 HT4.out.src;clear cA9)
      |(go_at_call 326;refine cA1.mono ?_;clear cA1;rintro e w5 ⟨hB5,rfl,pz,hsz⟩))
     exact qdo _ (by simp) hsz rfl (by show s.within+1≤_;omega) (fun V9 hS9 hB9=>⟨(HT4.out.but.trans hB5).trans hB9,rfl,_,hS9⟩)
    |ok xq =>
     obtain⟨x,q⟩:=xq;rw[ha] at hr cA9;simp only[] at hr;rw[hv] at hr;have hx64:=HFIT.out x q ha
     first
     |rw[qwh] at hr
      obtain⟨Z,HZ⟩:∃Z,Hid (qb9 (thB hd s.bs s.lim s.depth g (s.within+1)) x q []=Z):=⟨_,show _=_ from rfl⟩
      have cZ:=fun V9 (hs:qad V9 b {s with pos:=q,within:=s.within+1}) (hb:But b W V9)=>cL hdep V9 q x hs hb hx64
     |rw[qu7] at hr
      obtain⟨Z,HZ⟩:∃Z,Hid (qaI (qfr hd s.bs s.lim) (thB hd s.bs s.lim s.depth g (s.within+1)) x q [] []=Z):=⟨_,show _=_ from rfl⟩
      have cZ:=fun V9 (hs:qad V9 b {s with pos:=q,within:=s.within+1}) (hb:But b W V9)=>cM hdep V9 q x hs hb hx64
     rw[HZ.out] at hr cZ;clear hv cL cM HFIT ha HZ;rcases Z with ⟨en,pl⟩|⟨ds,r⟩
     all_goals
      simp only[] at hr;subst hr
      go_wp2_with (first
       |(go_at_call 289;refine cE.mono ?_;clear cE;rintro e w4 ⟨rfl,hS4,hB4⟩;have HT4:=qaa (HT.out.step hS4 hB4);clear HT k0 k1 m0 m1 m2 hB4 hS4;have k0:=qab HT4.out.box 0;have k1:=qab HT4.out.box 1;have m0:=qab HT4.out.hd 0;have m1:=qab HT4.out.hd 1;have m2:=qab HT4.out.hd 2;have cA1:=cA9 w4 HT4.out.src;clear cA9)
       |(go_at_call 326;refine cA1.mono ?_;clear cA1;rintro e w5 ⟨hB5,rfl,hS5⟩;have HT5:=qaa (HT4.out.step hS5 hB5);clear HT4 k0 k1 m0 m1 m2 hB5 hS5;have k0:=qab HT5.out.box 0;have k1:=qab HT5.out.box 1;have m0:=qab HT5.out.hd 0;have m1:=qab HT5.out.hd 1;have m2:=qab HT5.out.hd 2;have cZ1:=cZ w5 HT5.out.src HT5.out.but;clear cZ)
       |(go_at_call 330;refine cZ1.mono ?_;clear cZ1;rintro e w6 ⟨hB6,hF6⟩;first|(obtain⟨⟨v6,rfl,⟨a6,n6,c6,rfl⟩,hD6⟩,hS6⟩:=hF6)|(obtain⟨rfl,hS6⟩:=hF6))
       |(go_at_call 331;refine cZ1.mono ?_;clear cZ1;rintro e w6 ⟨hB6,hF6⟩;first|(obtain⟨⟨v6,rfl,⟨a6,n6,c6,rfl⟩,hD6⟩,hS6⟩:=hF6)|(obtain⟨rfl,hS6⟩:=hF6)))
      first
      |exact qdo _ (by simp) hS6.choose_spec rfl (by show s.within+1≤_;omega) (fun V9 hS9 hB9=>⟨(HT5.out.but.trans hB6).trans hB9,rfl,_,hS9⟩)
      |exact qdo _ (by simp) hS6 rfl (by show s.within+1≤_;omega) (fun V9 hS9 hB9=>⟨_,qev results325 _ _,(HT5.out.but.trans hB6).trans hB9,⟨_,_,rfl,qtK _ HT5.out.but.size hbN hD6 hB9⟩,hS9⟩)
   |rw[if_neg (by omega)] at hr
    clear cR0 cA9 cE0 cE1 cL cM;have cA1:=cA V HT.out.src;clear cA
    cases ha:qd9 s.bs s.lim w (s.pos+1) ar with
    |error er =>
     rw[ha] at hr cA1;simp only[] at hr;subst hr;obtain⟨en,pl⟩:=er;clear hv cN cB cX HFIT
     go_wp2_with (first
      |(go_at_call 326;refine cA1.mono ?_;clear cA1;rintro e w5 ⟨hB5,rfl,pz,hsz⟩))
     exact⟨HT.out.but.trans hB5,rfl,pz,hsz⟩
    |ok xq =>
     obtain⟨x,q⟩:=xq;rw[ha] at hr cA1;simp only[] at hr;have hx64:=HFIT.out x q ha
     first
     |have h9:so≤3:=by omega
      clear h9;rw[hv] at hr
      first|rw[qvh] at hr|rw[qvn] at hr|rw[qvW] at hr
      subst hr;clear hv cN cB cX HFIT ha
      go_wp2_with (first
       |(go_at_call 326;refine cA1.mono ?_;clear cA1;rintro e w5 ⟨hB5,rfl,hS5⟩;have HT5:=qaa (HT.out.step hS5 hB5);clear HT k0 k1 m0 m1 m2 hB5 hS5;have k0:=qab HT5.out.box 0;have k1:=qab HT5.out.box 1;have m0:=qab HT5.out.hd 0;have m1:=qab HT5.out.hd 1;have m2:=qab HT5.out.hd 2))
      exact⟨_,qev results325 _ _,HT5.out.but,⟨_,_,rfl,rfl⟩,HT5.out.src⟩
     |have h9:7≤so:=by omega
      clear h9;rw[hv] at hr
      first
      |rw[qvC] at hr
       obtain⟨Z,HZ⟩:∃Z,Hid (qhb s.bs s.lim x q []=Z):=⟨_,show _=_ from rfl⟩
       have cZ:=fun V9 (hs:qad V9 b {s with pos:=q}) (_:But b W V9)=>cB V9 q x hs hx64
      |rw[qvD] at hr
       obtain⟨Z,HZ⟩:∃Z,Hid (qfg s.bs s.lim x q [] 0=Z):=⟨_,show _=_ from rfl⟩
       have cZ:=fun V9 (hs:qad V9 b {s with pos:=q}) (hb:But b W V9)=>cX V9 q x hs hb hx64
      rw[HZ.out] at hr cZ;clear hv cN cB cX HFIT ha HZ;rcases Z with ⟨en,pl⟩|⟨l,r⟩
      all_goals
       simp only[] at hr;subst hr
       go_wp2_with (first
        |(go_at_call 326;refine cA1.mono ?_;clear cA1;rintro e w5 ⟨hB5,rfl,hS5⟩;have HT5:=qaa (HT.out.step hS5 hB5);clear HT k0 k1 m0 m1 m2 hB5 hS5;have k0:=qab HT5.out.box 0;have k1:=qab HT5.out.box 1;have m0:=qab HT5.out.hd 0;have m1:=qab HT5.out.hd 1;have m2:=qab HT5.out.hd 2;have cZ1:=cZ w5 HT5.out.src HT5.out.but;clear cZ)
        |(go_at_call 328;refine cZ1.mono ?_;clear cZ1;rintro e w6 ⟨hB6,hF6⟩;first|(obtain⟨⟨v6,rfl,o6,b6,a6,n6,c6,rfl⟩,hS6⟩:=hF6)|(obtain⟨rfl,hS6⟩:=hF6))
        |(go_at_call 329;refine cZ1.mono ?_;clear cZ1;rintro e w6 ⟨hB6,rfl,hS6⟩))
       first
       |exact⟨HT5.out.but.trans hB6,rfl,hS6⟩
       |exact⟨_,qev results325 _ _,HT5.out.but.trans hB6,⟨_,_,rfl,rfl⟩,hS6⟩
       |exact⟨_,qev results325 _ _,HT5.out.but.trans hB6,⟨_,_,rfl,qoI (by have:=HT5.out.but.size;omega) ⟨o6,b6,_,_,_,rfl⟩⟩,hS6⟩
     |rw[qvL (by omega)] at hr
      have cZ:=fun V9 (hs:qad V9 b {s with pos:=q})=>cN V9 q x hs hx64;obtain⟨Z,HZ⟩:∃Z,Hid (nbF so w x q=Z):=⟨_,show _=_ from rfl⟩
      rw[HZ.out] at hr cZ;clear hv cN cB cX HFIT ha;rcases Z with ⟨en,pl⟩|z
      all_goals
       simp only[] at hr;subst hr
       try have HNR:=qaa (qqB HZ.out)
       clear HZ
       go_wp2_with (first
        |(go_at_call 326;refine cA1.mono ?_;clear cA1;rintro e w5 ⟨hB5,rfl,hS5⟩;have HT5:=qaa (HT.out.step hS5 hB5);clear HT k0 k1 m0 m1 m2 hB5 hS5;have k0:=qab HT5.out.box 0;have k1:=qab HT5.out.box 1;have m0:=qab HT5.out.hd 0;have m1:=qab HT5.out.hd 1;have m2:=qab HT5.out.hd 2;have cZ1:=cZ w5 HT5.out.src;clear cZ)
        |(go_at_call 327;refine cZ1.mono ?_;clear cZ1;rintro e w6 ⟨hB6,rfl,hS6⟩))
       first
       |exact⟨HT5.out.but.trans hB6,rfl,hS6⟩
       |exact⟨_,qev results325 _ _,HT5.out.but.trans hB6,⟨_,_,rfl,rfl,HNR.out⟩,hS6⟩
end
end Go.Proofs.YtllcbnfmihfaaaaGreatDoor
