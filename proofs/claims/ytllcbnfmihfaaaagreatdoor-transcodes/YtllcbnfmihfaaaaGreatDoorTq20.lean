import Derived.Test.YtllcbnfmihfaaaaGreatDoorTq19
set_option maxRecDepth 100000
set_option maxHeartbeats 8000000
namespace Go.Proofs.YtllcbnfmihfaaaaGreatDoor
open Go.Proofs.Tryz
variable {bs:List UInt8}{lim:Int}{last p q:Nat}{c:UInt8}
section
open Go.RowKit
theorem qdB (W:World)(b:Nat)(s:Src)(last:Int)(fn:Fn)(fs cs:Array Value)(h:qad W b s)(hd:(s.within:Int)=s.depth):Calls prog 309 #[.agg #[.pointer (some ⟨b,0,none⟩)],.int .u8 last,.func fn fs cs] W fun e W'=>qao 11 ((s.pos:Int)-1) e∧But b W W':=by
 have HX:=qaa (qaR h);have cE:=qjb _ b s HX.out.src hd;have k0:=qab HX.out.box 0;go_enter func309,ntmps309;go_wp2;go_step3
 go_wp2_with (first
  |(go_at_call 289;refine cE.mono ?_;rintro e w2 ⟨hF,hB2,_⟩;obtain rfl:=hF))
 exact⟨rfl,rfl,HX.out.but.trans hB2⟩
theorem qi2 (W:World)(b:Nat)(s:Src)(h:qad W b s)(hd:(s.within:Int)=s.depth):Calls prog 300 #[.agg #[.pointer (some ⟨b,0,none⟩)]] W fun e W'=>qao 11 ((s.pos:Int)-1) e∧But b W W':=by
 have hB0:Below W.heap.size W ((W.alloc (.cells #[.pointer (some ⟨b,0,none⟩)] 198)).alloc (.cells #[.slice none 0 0] 204)):=(bwA).alloc (by simp) _;have HB:Hid (But b W ((W.alloc (.cells #[.pointer (some ⟨b,0,none⟩)] 198)).alloc (.cells #[.slice none 0 0] 204))):=But.of_below hB0;have hmm:∀V:World,(Instr.makeMap 414 none).run prog V=.ok (.map (some V.heap.size)) (V.alloc (.map #[] 0)):=fun V=>by kernel_rfl
 have cI:=fun last fn fs cs=>qdB _ b s last fn fs cs (h.below hB0) hd;have hmf:∀(fn:Fn) (first cap:Array Value) (w:World),(Instr.makeFunc fn first cap).run prog w=.ok (.func fn first cap) w:=fun _ _ _ _=>rfl;have kr:((W.alloc (.cells #[.pointer (some ⟨b,0,none⟩)] 198)).alloc (.cells #[.slice none 0 0] 204)).cell? ⟨W.heap.size,0,none⟩=some (.pointer (some ⟨b,0,none⟩)):=qab ((Below.heap_alloc _ _ _ (by simp)).trans (qac W _)) 0;go_enter func300,ntmps300
 go_wp2_with (first
  |(go_at_call 309;refine(cI _ _ _ _).mono ?_;rintro e w2 ⟨hF,hB2⟩;obtain rfl:=hF))
 exact⟨rfl,rfl,HB.out.trans hB2⟩
theorem qjd (W:World)(b:Nat)(s:Src)(h:qad W b s)(hd:(s.within:Int)=s.depth):Calls prog 301 #[.agg #[.pointer (some ⟨b,0,none⟩)]] W fun e W'=>qao 11 ((s.pos:Int)-1) e∧But b W W':=by
 have hB0:Below W.heap.size W ((((W.alloc (.cells #[.pointer (some ⟨b,0,none⟩)] 198)).alloc (.cells #[.slice none 0 0] 206)).alloc (.map #[] 0)).alloc (.cells #[.map (some (W.heap.size+2))] 414)):=(((bwA).alloc (by simp) _).alloc (by simp;omega) _).alloc (by simp;omega) _;have HB:Hid (But b W ((((W.alloc (.cells #[.pointer (some ⟨b,0,none⟩)] 198)).alloc (.cells #[.slice none 0 0] 206)).alloc (.map #[] 0)).alloc (.cells #[.map (some (W.heap.size+2))] 414))):=But.of_below hB0;have hmm:∀V:World,(Instr.makeMap 414 none).run prog V=.ok (.map (some V.heap.size)) (V.alloc (.map #[] 0)):=fun V=>by kernel_rfl
 have cI:=fun last fn fs cs=>qdB _ b s last fn fs cs (h.below hB0) hd;have hmf:∀(fn:Fn) (first cap:Array Value) (w:World),(Instr.makeFunc fn first cap).run prog w=.ok (.func fn first cap) w:=fun _ _ _ _=>rfl;have kr:((((W.alloc (.cells #[.pointer (some ⟨b,0,none⟩)] 198)).alloc (.cells #[.slice none 0 0] 206)).alloc (.map #[] 0)).alloc (.cells #[.map (some (W.heap.size+2))] 414)).cell? ⟨W.heap.size,0,none⟩=some (.pointer (some ⟨b,0,none⟩)):=qab ((Below.heap_alloc _ _ _ (by simp;omega)).trans ((Below.heap_alloc _ _ _ (by simp;omega)).trans ((Below.heap_alloc _ _ _ (by simp)).trans (qac W _)))) 0;go_enter func301,ntmps301
 go_wp2_with (first
  |(go_at_call 309;refine(cI _ _ _ _).mono ?_;rintro e w2 ⟨hF,hB2⟩;obtain rfl:=hF))
 exact⟨rfl,rfl,HB.out.trans hB2⟩
theorem qk6 {most:Nat}{z:Bool}:∀{g p num:Nat} {x q:Nat},qfi bs lim most z g p num=.ok (x,q)→p≤q
 |0,p,num,x,q,h=>by
  unfold qfi at h;cases h;exact Nat.le_refl _
 |g+1,p,num,x,q,h=>by
  unfold qfi at h;split at h
  ·cases h;exact Nat.le_refl _
  split at h
  ·cases h
  split at h
  ·split at h
   ·cases h
   split at h
   ·cases h
   have:=qk6 h;omega
  split at h
  ·cases h
  cases h;exact Nat.le_refl _
theorem qhv {s:Src}{z:Int}(hc:c.toNat=45∨qcQ c=true)(h:qg4 s c=.ok (z,q)):(-9223372036854775808≤z∧z≤9223372036854775807)∧s.pos≤q:=by
 unfold qg4 at h;split at h
 ·split at h
  ·cases h
  split at h
  ·cases h
  split at h
  ·next c' _ _ hd =>
   have hr:=of_decide_eq_true hd;split at h
   ·next x p hx =>
    injection h with h;injection h with h1 h2;have:=qfK (by omega) (by decide) hx;have:=qk6 hx;exact⟨by omega,by omega⟩
   cases h
  cases h
 next hn =>
 have hd:qcQ c=true:=by
  rcases hc with hc|hc
  ·exact absurd hc hn
  exact hc
 have hr:=of_decide_eq_true hd;split at h
 ·next x p hx =>
  injection h with h;injection h with h1 h2;have:=qfK (by omega) (by decide) hx;have:=qk6 hx;exact⟨by omega,by omega⟩
 cases h
theorem qpc (g:Nat)(W:World)(b:Nat)(s:Src)(c:UInt8)(h:qad W b s)(h1:qfp s c)(hc:c.toNat=110):Calls prog 296 #[.agg #[.pointer (some ⟨b,0,none⟩)]] W (qc7 (g+1) W b s (match qaT s.bs s.lim [117,108,108] (s.pos+1) with|.error e=>.error e|.ok (_,q)=>.ok (.nil,q))):=by
 have HX0:=qaa (qaR h);have kb:=HX0.out.cell;have cT:=qau _ b s c HX0.out.src h1;have hbN:=ltA h.row;have e1:((c.toNat:Int)==110)=true:=by rw[hc];rfl
 have e2:=nec (c:=c) 116 (by omega);have e3:=nec (c:=c) 102 (by omega);have e4:=nec (c:=c) 34 (by omega);have e5:=nec (c:=c) 91 (by omega);have e6:=nec (c:=c) 123 (by omega);have cR:∀V,qad V b s.next→But b W V→Calls prog 298 #[.agg #[.pointer (some ⟨b,0,none⟩)],.string ⟨#[117,108,108]⟩] V (qbJ V b s.next (fun _:Unit=>.tuple #[]) (qaT s.bs s.lim [117,108,108] (s.pos+1))):=fun V hV _=>qbv V b s.next [117,108,108] (by simp) hV
 cases hz:qaT s.bs s.lim [117,108,108] (s.pos+1) with
 |error er =>
  obtain⟨en,pl⟩:=er;rw[hz] at cR;simp only[];go_enter func296,ntmps296
  go_wp2_with (first
   |(go_at_call 294;refine cT.mono ?_;rintro e w2 ⟨rfl,hS2,hB2⟩;have HX:=qaa (HX0.out.step hS2 hB2);have kb:=HX.out.cell;have cR1:=cR w2 HX.out.src HX.out.but)
   |(go_at_call 298;refine cR1.mono ?_;rintro e w4 ⟨hB4,hF4⟩;obtain rfl:=(show qao en pl e from hF4)))
  exact⟨rfl,HX.out.but.trans hB4,rfl⟩
 |ok xq =>
  obtain⟨x,q⟩:=xq;rw[hz] at cR;simp only[];go_enter func296,ntmps296
  go_wp2_with (first
   |(go_at_call 294;refine cT.mono ?_;rintro e w2 ⟨rfl,hS2,hB2⟩;have HX:=qaa (HX0.out.step hS2 hB2);have kb:=HX.out.cell;have cR1:=cR w2 HX.out.src HX.out.but)
   |(go_at_call 298;refine cR1.mono ?_;rintro e w4 ⟨hB4,hF4⟩;obtain⟨rfl,hS4⟩:=(show e=.returned (.tuple #[])∧qad w4 b {s with pos:=q} from hF4)))
  go_ret;exact⟨HX.out.but.trans hB4,⟨_,_,rfl,rfl⟩,hS4⟩
theorem qm7 (g:Nat)(W:World)(b:Nat)(s:Src)(c:UInt8)(h:qad W b s)(h1:qfp s c)(hc:c.toNat=116):Calls prog 296 #[.agg #[.pointer (some ⟨b,0,none⟩)]] W (qc7 (g+1) W b s (match qaT s.bs s.lim [114,117,101] (s.pos+1) with|.error e=>.error e|.ok (_,q)=>.ok (.lit (.bool true),q))):=by
 have HX0:=qaa (qaR h);have kb:=HX0.out.cell;have cT:=qau _ b s c HX0.out.src h1;have hbN:=ltA h.row;have e1:=nec (c:=c) 110 (by omega);have e2:((c.toNat:Int)==116)=true:=by rw[hc];rfl
 have e3:=nec (c:=c) 102 (by omega);have e4:=nec (c:=c) 34 (by omega);have e5:=nec (c:=c) 91 (by omega);have e6:=nec (c:=c) 123 (by omega);have cR:∀V,qad V b s.next→But b W V→Calls prog 298 #[.agg #[.pointer (some ⟨b,0,none⟩)],.string ⟨#[114,117,101]⟩] V (qbJ V b s.next (fun _:Unit=>.tuple #[]) (qaT s.bs s.lim [114,117,101] (s.pos+1))):=fun V hV _=>qbv V b s.next [114,117,101] (by simp) hV
 cases hz:qaT s.bs s.lim [114,117,101] (s.pos+1) with
 |error er =>
  obtain⟨en,pl⟩:=er;rw[hz] at cR;simp only[];go_enter func296,ntmps296
  go_wp2_with (first
   |(go_at_call 294;refine cT.mono ?_;rintro e w2 ⟨rfl,hS2,hB2⟩;have HX:=qaa (HX0.out.step hS2 hB2);have kb:=HX.out.cell;have cR1:=cR w2 HX.out.src HX.out.but)
   |(go_at_call 298;refine cR1.mono ?_;rintro e w4 ⟨hB4,hF4⟩;obtain rfl:=(show qao en pl e from hF4)))
  exact⟨rfl,HX.out.but.trans hB4,rfl⟩
 |ok xq =>
  obtain⟨x,q⟩:=xq;rw[hz] at cR;simp only[];go_enter func296,ntmps296
  go_wp2_with (first
   |(go_at_call 294;refine cT.mono ?_;rintro e w2 ⟨rfl,hS2,hB2⟩;have HX:=qaa (HX0.out.step hS2 hB2);have kb:=HX.out.cell;have cR1:=cR w2 HX.out.src HX.out.but)
   |(go_at_call 298;refine cR1.mono ?_;rintro e w4 ⟨hB4,hF4⟩;obtain⟨rfl,hS4⟩:=(show e=.returned (.tuple #[])∧qad w4 b {s with pos:=q} from hF4)))
  go_ret;exact⟨HX.out.but.trans hB4,⟨_,_,rfl,rfl⟩,hS4⟩
theorem qky (g:Nat)(W:World)(b:Nat)(s:Src)(c:UInt8)(h:qad W b s)(h1:qfp s c)(hc:c.toNat=102):Calls prog 296 #[.agg #[.pointer (some ⟨b,0,none⟩)]] W (qc7 (g+1) W b s (match qaT s.bs s.lim [97,108,115,101] (s.pos+1) with|.error e=>.error e|.ok (_,q)=>.ok (.lit (.bool false),q))):=by
 have HX0:=qaa (qaR h);have kb:=HX0.out.cell;have cT:=qau _ b s c HX0.out.src h1;have hbN:=ltA h.row;have e1:=nec (c:=c) 110 (by omega);have e2:=nec (c:=c) 116 (by omega);have e3:((c.toNat:Int)==102)=true:=by rw[hc];rfl
 have e4:=nec (c:=c) 34 (by omega);have e5:=nec (c:=c) 91 (by omega);have e6:=nec (c:=c) 123 (by omega);have cR:∀V,qad V b s.next→But b W V→Calls prog 298 #[.agg #[.pointer (some ⟨b,0,none⟩)],.string ⟨#[97,108,115,101]⟩] V (qbJ V b s.next (fun _:Unit=>.tuple #[]) (qaT s.bs s.lim [97,108,115,101] (s.pos+1))):=fun V hV _=>qbv V b s.next [97,108,115,101] (by simp) hV
 cases hz:qaT s.bs s.lim [97,108,115,101] (s.pos+1) with
 |error er =>
  obtain⟨en,pl⟩:=er;rw[hz] at cR;simp only[];go_enter func296,ntmps296
  go_wp2_with (first
   |(go_at_call 294;refine cT.mono ?_;rintro e w2 ⟨rfl,hS2,hB2⟩;have HX:=qaa (HX0.out.step hS2 hB2);have kb:=HX.out.cell;have cR1:=cR w2 HX.out.src HX.out.but)
   |(go_at_call 298;refine cR1.mono ?_;rintro e w4 ⟨hB4,hF4⟩;obtain rfl:=(show qao en pl e from hF4)))
  exact⟨rfl,HX.out.but.trans hB4,rfl⟩
 |ok xq =>
  obtain⟨x,q⟩:=xq;rw[hz] at cR;simp only[];go_enter func296,ntmps296
  go_wp2_with (first
   |(go_at_call 294;refine cT.mono ?_;rintro e w2 ⟨rfl,hS2,hB2⟩;have HX:=qaa (HX0.out.step hS2 hB2);have kb:=HX.out.cell;have cR1:=cR w2 HX.out.src HX.out.but)
   |(go_at_call 298;refine cR1.mono ?_;rintro e w4 ⟨hB4,hF4⟩;obtain⟨rfl,hS4⟩:=(show e=.returned (.tuple #[])∧qad w4 b {s with pos:=q} from hF4)))
  go_ret;exact⟨HX.out.but.trans hB4,⟨_,_,rfl,rfl⟩,hS4⟩
theorem qmF (g:Nat)(W:World)(b:Nat)(s:Src)(c:UInt8)(h:qad W b s)(h1:qfp s c)(hc:c.toNat=34)(hlen:s.bs.length≤200000000)(hU:∀V,But b W V→U8 V)(h7:7<b):Calls prog 296 #[.agg #[.pointer (some ⟨b,0,none⟩)]] W (qc7 (g+1) W b s (match qfe s.bs s.lim (s.bs.length+1-(s.pos+1)) (s.pos+1) [] 0 with|.error e=>.error e|.ok (x,q)=>.ok (.lit (.string x),q))):=by
 have HX0:=qaa (qaR h);have kb:=HX0.out.cell;have cT:=qau _ b s c HX0.out.src h1;have hbN:=ltA h.row;have e1:=nec (c:=c) 110 (by omega);have e2:=nec (c:=c) 116 (by omega);have e3:=nec (c:=c) 102 (by omega);have e4:((c.toNat:Int)==34)=true:=by rw[hc];rfl
 have e5:=nec (c:=c) 91 (by omega);have e6:=nec (c:=c) 123 (by omega);have cR:∀V,qad V b s.next→But b W V→Calls prog 299 #[.agg #[.pointer (some ⟨b,0,none⟩)]] V (qbJ V b s.next (fun l:List UInt8=>.string ⟨l.toArray⟩) (qfe s.bs s.lim (s.bs.length+1-(s.pos+1)) (s.pos+1) [] 0)):=fun V hV hB=>qeQ V b s.next hV (hU V hB) h7 hlen
 cases hz:qfe s.bs s.lim (s.bs.length+1-(s.pos+1)) (s.pos+1) [] 0 with
 |error er =>
  obtain⟨en,pl⟩:=er;rw[hz] at cR;simp only[];go_enter func296,ntmps296
  go_wp2_with (first
   |(go_at_call 294;refine cT.mono ?_;rintro e w2 ⟨rfl,hS2,hB2⟩;have HX:=qaa (HX0.out.step hS2 hB2);have kb:=HX.out.cell;have cR1:=cR w2 HX.out.src HX.out.but)
   |(go_at_call 299;refine cR1.mono ?_;rintro e w4 ⟨hB4,hF4⟩;obtain rfl:=(show qao en pl e from hF4)))
  exact⟨rfl,HX.out.but.trans hB4,rfl⟩
 |ok xq =>
  obtain⟨x,q⟩:=xq;rw[hz] at cR;simp only[];go_enter func296,ntmps296
  go_wp2_with (first
   |(go_at_call 294;refine cT.mono ?_;rintro e w2 ⟨rfl,hS2,hB2⟩;have HX:=qaa (HX0.out.step hS2 hB2);have kb:=HX.out.cell;have cR1:=cR w2 HX.out.src HX.out.but)
   |(go_at_call 299;refine cR1.mono ?_;rintro e w4 ⟨hB4,hF4⟩;obtain⟨rfl,hS4⟩:=(show e=.returned (.string ⟨x.toArray⟩)∧qad w4 b {s with pos:=q} from hF4)))
  go_ret;exact⟨HX.out.but.trans hB4,⟨_,_,rfl,rfl⟩,hS4⟩
theorem qmp (g:Nat)(W:World)(b:Nat)(s:Src)(c:UInt8)(h:qad W b s)(h1:qfp s c)(hc:c.toNat=91)(rd:Nat→Except (Int×Int) (DataW Unit×Nat))(hrd:qgg g b {s with within:=s.within+1} W rd)(hgo:∀p d q,rd p=.ok (d,q)→p<q)(hlen:s.bs.length≤200000000)(hd:¬(s.within:Int)=s.depth)(hwi:s.within≤100000):Calls prog 296 #[.agg #[.pointer (some ⟨b,0,none⟩)]] W (qc7 (g+1) W b s (match qe4 s.bs s.lim (liJ rd) 93 (s.pos+1) [] with|.error e=>.error e|.ok (x,q)=>.ok (.agg x,q))):=by
 have HX0:=qaa (qaR h);have kb:=HX0.out.cell;have cT:=qau _ b s c HX0.out.src h1;have hbN:=ltA h.row;have e1:=nec (c:=c) 110 (by omega);have e2:=nec (c:=c) 116 (by omega);have e3:=nec (c:=c) 102 (by omega);have e4:=nec (c:=c) 34 (by omega);have e5:((c.toNat:Int)==91)=true:=by rw[hc];rfl
 have e6:=nec (c:=c) 123 (by omega);have cR:∀V,qad V b s.next→But b W V→Calls prog 300 #[.agg #[.pointer (some ⟨b,0,none⟩)]] V (qlz V b s.next (fun V' v x=>(∃a n c,v=.slice a n c)∧qai (g+1) V' (fun j=>V.heap.size≤j∧j<V'.heap.size) (.iface 204 v) (.agg x)) (qe4 s.bs s.lim (liJ rd) 93 (s.pos+1) [])):=fun V hV hB=>qhE g V b s.next rd hV (fun U p h1 h2=>hrd U p h1 (hB.trans h2)) hgo hlen hd hwi
 cases hz:qe4 s.bs s.lim (liJ rd) 93 (s.pos+1) [] with
 |error er =>
  obtain⟨en,pl⟩:=er;rw[hz] at cR;simp only[];go_enter func296,ntmps296
  go_wp2_with (first
   |(go_at_call 294;refine cT.mono ?_;rintro e w2 ⟨rfl,hS2,hB2⟩;have HX:=qaa (HX0.out.step hS2 hB2);have kb:=HX.out.cell;have cR1:=cR w2 HX.out.src HX.out.but)
   |(go_at_call 300;refine cR1.mono ?_;rintro e w4 ⟨hB4,hF4⟩;obtain rfl:=(show qao en pl e from hF4)))
  exact⟨rfl,HX.out.but.trans hB4,rfl⟩
 |ok xq =>
  obtain⟨x,q⟩:=xq;rw[hz] at cR;simp only[];go_enter func296,ntmps296
  go_wp2_with (first
   |(go_at_call 294;refine cT.mono ?_;rintro e w2 ⟨rfl,hS2,hB2⟩;have HX:=qaa (HX0.out.step hS2 hB2);have kb:=HX.out.cell;have cR1:=cR w2 HX.out.src HX.out.but)
   |(go_at_call 300;refine cR1.mono ?_;rintro e w4 ⟨hB4,hF4⟩;obtain⟨⟨v4,rfl,⟨a4,n4,c4,rfl⟩,hD4⟩,hS4⟩:=(show(∃v,e=.returned v∧(∃a n c,v=.slice a n c)∧qai (g+1) w4 (fun j=>w2.heap.size≤j∧j<w4.heap.size) (.iface 204 v) (.agg x))∧qad w4 b {s with pos:=q} from hF4);have HD:=qaa hD4))
  go_ret;exact⟨HX.out.but.trans hB4,⟨_,_,rfl,HD.out.same (fun j hj=>⟨Nat.le_trans HX.out.but.size hj.1,hj.2⟩) (fun _ _=>rfl)⟩,hS4⟩
theorem qfM (W:World)(b:Nat)(s:Src)(c:UInt8)(h:qad W b s)(h1:qfp s c)(hc:c.toNat=91)(hd:(s.within:Int)=s.depth):Calls prog 296 #[.agg #[.pointer (some ⟨b,0,none⟩)]] W fun e W'=>But b W W'∧qao 11 s.pos e:=by
 have HX0:=qaa (qaR h);have kb:=HX0.out.cell;have cT:=qau _ b s c HX0.out.src h1;have e1:=nec (c:=c) 110 (by omega);have e2:=nec (c:=c) 116 (by omega);have e3:=nec (c:=c) 102 (by omega);have e4:=nec (c:=c) 34 (by omega);have e5:((c.toNat:Int)==91)=true:=by rw[hc];rfl
 have e6:=nec (c:=c) 123 (by omega);have cR:∀V,qad V b s.next→Calls prog 300 #[.agg #[.pointer (some ⟨b,0,none⟩)]] V fun e W'=>qao 11 s.pos e∧But b V W':=fun V hV=>by
  have:=qi2 V b s.next hV hd
  rwa [show((s.next.pos:Int)-1)=s.pos by show(((s.pos+1:Nat)):Int)-1=s.pos;omega] at this
 go_enter func296,ntmps296
 go_wp2_with (first
  |(go_at_call 294;refine cT.mono ?_;rintro e w2 ⟨rfl,hS2,hB2⟩;have HX:=qaa (HX0.out.step hS2 hB2);have kb:=HX.out.cell;have cR1:=cR w2 HX.out.src)
  |(go_at_call 300;refine cR1.mono ?_;rintro e w4 ⟨hF4,hB4⟩;obtain rfl:=hF4))
 exact⟨rfl,HX.out.but.trans hB4,rfl⟩
theorem qpu (g:Nat)(W:World)(b:Nat)(s:Src)(c:UInt8)(h:qad W b s)(h1:qfp s c)(hc:c.toNat=123)(rd:Nat→Except (Int×Int) (DataW Unit×Nat))(hrd:qgg g b {s with within:=s.within+1} W rd)(hgo:∀p d q,rd p=.ok (d,q)→p<q)(hlen:s.bs.length≤200000000)(hU:∀V,But b W V→U8 V)(h7:7<b)(hd:¬(s.within:Int)=s.depth)(hwi:s.within≤100000):Calls prog 296 #[.agg #[.pointer (some ⟨b,0,none⟩)]] W (qc7 (g+1) W b s (match qe4 s.bs s.lim (enJ s.bs s.lim rd) 125 (s.pos+1) ([],[]) with|.error e=>.error e|.ok (x,q)=>.ok (.map x.2,q))):=by
 have HX0:=qaa (qaR h);have kb:=HX0.out.cell;have cT:=qau _ b s c HX0.out.src h1;have hbN:=ltA h.row;have e1:=nec (c:=c) 110 (by omega);have e2:=nec (c:=c) 116 (by omega);have e3:=nec (c:=c) 102 (by omega);have e4:=nec (c:=c) 34 (by omega);have e5:=nec (c:=c) 91 (by omega);have e6:((c.toNat:Int)==123)=true:=by rw[hc];rfl
 have cR:∀V,qad V b s.next→But b W V→Calls prog 301 #[.agg #[.pointer (some ⟨b,0,none⟩)]] V (qlz V b s.next (fun V' v x=>(∃a n c,v=.slice a n c)∧qai (g+1) V' (fun j=>V.heap.size≤j∧j<V'.heap.size) (.iface 206 v) (.map x.2)) (qe4 s.bs s.lim (enJ s.bs s.lim rd) 125 (s.pos+1) ([],[]))):=fun V hV hB=>qjy g V b s.next rd hV (fun U p h1 h2=>hrd U p h1 (hB.trans h2)) hgo hlen (fun X hX=>hU X (hB.trans hX)) h7 hd hwi
 cases hz:qe4 s.bs s.lim (enJ s.bs s.lim rd) 125 (s.pos+1) ([],[]) with
 |error er =>
  obtain⟨en,pl⟩:=er;rw[hz] at cR;simp only[];go_enter func296,ntmps296
  go_wp2_with (first
   |(go_at_call 294;refine cT.mono ?_;rintro e w2 ⟨rfl,hS2,hB2⟩;have HX:=qaa (HX0.out.step hS2 hB2);have kb:=HX.out.cell;have cR1:=cR w2 HX.out.src HX.out.but)
   |(go_at_call 301;refine cR1.mono ?_;rintro e w4 ⟨hB4,hF4⟩;obtain rfl:=(show qao en pl e from hF4)))
  exact⟨rfl,HX.out.but.trans hB4,rfl⟩
 |ok xq =>
  obtain⟨x,q⟩:=xq;rw[hz] at cR;simp only[];go_enter func296,ntmps296
  go_wp2_with (first
   |(go_at_call 294;refine cT.mono ?_;rintro e w2 ⟨rfl,hS2,hB2⟩;have HX:=qaa (HX0.out.step hS2 hB2);have kb:=HX.out.cell;have cR1:=cR w2 HX.out.src HX.out.but)
   |(go_at_call 301;refine cR1.mono ?_;rintro e w4 ⟨hB4,hF4⟩;obtain⟨⟨v4,rfl,⟨a4,n4,c4,rfl⟩,hD4⟩,hS4⟩:=(show(∃v,e=.returned v∧(∃a n c,v=.slice a n c)∧qai (g+1) w4 (fun j=>w2.heap.size≤j∧j<w4.heap.size) (.iface 206 v) (.map x.2))∧qad w4 b {s with pos:=q} from hF4);have HD:=qaa hD4))
  go_ret;exact⟨HX.out.but.trans hB4,⟨_,_,rfl,HD.out.same (fun j hj=>⟨Nat.le_trans HX.out.but.size hj.1,hj.2⟩) (fun _ _=>rfl)⟩,hS4⟩
theorem qgI (W:World)(b:Nat)(s:Src)(c:UInt8)(h:qad W b s)(h1:qfp s c)(hc:c.toNat=123)(hd:(s.within:Int)=s.depth):Calls prog 296 #[.agg #[.pointer (some ⟨b,0,none⟩)]] W fun e W'=>But b W W'∧qao 11 s.pos e:=by
 have HX0:=qaa (qaR h);have kb:=HX0.out.cell;have cT:=qau _ b s c HX0.out.src h1;have e1:=nec (c:=c) 110 (by omega);have e2:=nec (c:=c) 116 (by omega);have e3:=nec (c:=c) 102 (by omega);have e4:=nec (c:=c) 34 (by omega);have e5:=nec (c:=c) 91 (by omega);have e6:((c.toNat:Int)==123)=true:=by rw[hc];rfl
 have cR:∀V,qad V b s.next→Calls prog 301 #[.agg #[.pointer (some ⟨b,0,none⟩)]] V fun e W'=>qao 11 s.pos e∧But b V W':=fun V hV=>by
  have:=qjd V b s.next hV hd
  rwa [show((s.next.pos:Int)-1)=s.pos by show(((s.pos+1:Nat)):Int)-1=s.pos;omega] at this
 go_enter func296,ntmps296
 go_wp2_with (first
  |(go_at_call 294;refine cT.mono ?_;rintro e w2 ⟨rfl,hS2,hB2⟩;have HX:=qaa (HX0.out.step hS2 hB2);have kb:=HX.out.cell;have cR1:=cR w2 HX.out.src)
  |(go_at_call 301;refine cR1.mono ?_;rintro e w4 ⟨hF4,hB4⟩;obtain rfl:=hF4))
 exact⟨rfl,HX.out.but.trans hB4,rfl⟩
theorem qn6 (W:World)(b:Nat)(s:Src)(c:UInt8)(h:qad W b s)(h1:qfp s c)(hn:¬(c.toNat=110∨c.toNat=116∨c.toNat=102∨c.toNat=34∨c.toNat=91∨c.toNat=123∨c.toNat=45∨qcQ c=true)):Calls prog 296 #[.agg #[.pointer (some ⟨b,0,none⟩)]] W fun e W'=>But b W W'∧qao 9 s.pos e:=by
 have HX0:=qaa (qaR h);have kb:=HX0.out.cell;have cT:=qau _ b s c HX0.out.src h1;have e1:=nec (c:=c) 110 (by omega);have e2:=nec (c:=c) 116 (by omega);have e3:=nec (c:=c) 102 (by omega);have e4:=nec (c:=c) 34 (by omega);have e5:=nec (c:=c) 91 (by omega);have e6:=nec (c:=c) 123 (by omega);have e7:=nec (c:=c) 45 (by omega);have hdc:decide (48≤(c.toNat:Int)∧(c.toNat:Int)≤57)=false:=by
  have:qcQ c=false:=by cases hh:qcQ c with|false=>rfl|true=>exact absurd (.inr (.inr (.inr (.inr (.inr (.inr (.inr hh))))))) hn
  exact this
 have cR:∀V,qad V b s.next→Calls prog 295 #[.pointer (some ⟨b,0,none⟩),.int .i64 9] V fun e W'=>qao 9 s.pos e∧W'=V:=fun V hV=>by
  have:=qat V b s.next 9 hV
  rwa [show((s.next.pos:Int)-1)=s.pos by show(((s.pos+1:Nat)):Int)-1=s.pos;omega] at this
 go_enter func296,ntmps296
 go_wp2_with (first
  |(go_at_call 294;refine cT.mono ?_;rintro e w2 ⟨rfl,hS2,hB2⟩;have HX:=qaa (HX0.out.step hS2 hB2);have kb:=HX.out.cell;have cR1:=cR w2 HX.out.src)
  |(go_at_call 302;refine(qbg c _).mono ?_;rintro e w3 ⟨rfl,rfl⟩;rw[hdc])
  |(go_at_call 295;refine cR1.mono ?_;rintro e w7 ⟨hF,rfl⟩;obtain rfl:=hF))
 exact⟨rfl,HX.out.but,rfl⟩
theorem qgY (W:World)(b:Nat)(s:Src)(en:Int)(h:qad W b s)(cT0:∀V,qad V b s→Calls prog 294 #[.pointer (some ⟨b,0,none⟩)] V fun e W'=>qao en s.pos e∧Below V.heap.size V W'):Calls prog 296 #[.agg #[.pointer (some ⟨b,0,none⟩)]] W fun e W'=>But b W W'∧qao en s.pos e:=by
 have HX0:=qaa (qaR h);have kb:=HX0.out.cell;have cT:=cT0 _ HX0.out.src;go_enter func296,ntmps296
 go_wp2_with (first
  |(go_at_call 294;refine cT.mono ?_;rintro e w2 ⟨hF,hB2⟩;obtain rfl:=hF))
 exact⟨rfl,HX0.out.but.trans (But.of_below hB2),rfl⟩
theorem qkx {α:Type}{itF:α→Nat→Except (Int×Int) (α×Nat)}(hit:∀a p a' q,itF a p=.ok (a',q)→p<q):∀(g p:Nat) (a a':α) (q:Nat),qgW bs lim itF last g p a=.ok (a',q)→p<q
 |0,p,a,a',q,h=>by rw[qgW] at h;cases h
 |g+1,p,a,a',q,h=>by
  rw[qgW] at h;split at h
  ·cases h
  next u1 p1 h1 =>
  split at h
  ·cases h
  next a2 p2 h2 =>
  split at h
  ·cases h
  next u3 p3 h3 =>
  have:=qcm _ _ _ _ _ _ h1;have:=hit _ _ _ _ h2;have:=qcm _ _ _ _ _ _ h3;split at h
  ·cases h
  split at h
  ·cases h
  split at h
  ·injection h with h;injection h with h4 h5;omega
  split at h
  ·have:=qkx hit g (p3+1) a2 a' q h;omega
  cases h
theorem qqf {α:Type}{itF:α→Nat→Except (Int×Int) (α×Nat)}(hit:∀a p a' q,itF a p=.ok (a',q)→p<q){a a':α}(h:qe4 bs lim itF last p a=.ok (a',q)):p<q:=by
 unfold qe4 at h;split at h
 ·cases h
 next u1 p1 h1 =>
 have:=qcm _ _ _ _ _ _ h1;split at h
 ·have:=qkx hit _ _ _ _ _ h;omega
 split at h
 ·cases h
 split at h
 ·injection h with h;injection h with h4 h5;omega
 have:=qkx hit _ _ _ _ _ h;omega
theorem qtA {depth:Int}{wi:Nat}{rd:Nat→Except (Int×Int) (DataW Unit×Nat)}{nm:UInt8→Nat→Except (Int×Int) (Int×Nat)}{d:DataW Unit}(hrd:∀p d q,rd p=.ok (d,q)→p<q)(hnm:∀z q,(c.toNat=45∨qcQ c=true)→nm c p=.ok (z,q)→p≤q)(h:qqi bs lim depth wi rd nm c p=.ok (d,q)):p≤q:=by
 unfold qqi at h;split at h
 ·split at h
  ·cases h
  next u r hr =>
  injection h with h;injection h with h1 h2;have:=qcb _ _ _ _ _ _ hr;omega
 split at h
 ·split at h
  ·cases h
  next u r hr =>
  injection h with h;injection h with h1 h2;have:=qcb _ _ _ _ _ _ hr;omega
 split at h
 ·split at h
  ·cases h
  next u r hr =>
  injection h with h;injection h with h1 h2;have:=qcb _ _ _ _ _ _ hr;omega
 split at h
 ·split at h
  ·cases h
  next l r hr =>
  injection h with h;injection h with h1 h2;have:=qet _ _ _ _ _ _ _ _ hr;omega
 split at h
 ·split at h
  ·cases h
  split at h
  ·cases h
  next l r hr =>
  injection h with h;injection h with h1 h2;have:=qqf (qsl hrd) hr;omega
 split at h
 ·split at h
  ·cases h
  split at h
  ·cases h
  next l r hr =>
  injection h with h;injection h with h1 h2;have:=qqf (qsh hrd) hr;omega
 split at h
 ·next hc =>
  split at h
  ·cases h
  next z r hr =>
  injection h with h;injection h with h1 h2;have:=hnm z r hc hr;omega
 cases h
def nmS (s:Src)(c:UInt8)(p:Nat):Except (Int×Int) (Int×Nat):=qg4 {s with pos:=p} c
theorem qov (s:Src):∀(g wi p:Nat) (d:DataW Unit) (q:Nat),thJ s.bs s.lim s.depth (nmS s) g wi p=.ok (d,q)→p<q
 |0,_,_,_,_,h=>by rw[thJ] at h;cases h
 |g+1,wi,p,d,q,h=>by
  rw[thJ] at h;split at h
  ·cases h
  split at h
  ·cases h
  have:=qtA (p:=p+1) (nm:=nmS s) (qov s g (wi+1)) (fun z q hc hz=>(qhv (s:={s with pos:=p+1}) hc hz).2) h;omega
theorem qcp:∀(g:Nat) (W:World) (b:Nat) (s:Src),qad W b s→s.bs.length≤200000000→(∀V,But b W V→U8 V)→7<b→s.depth≤100000→(s.within:Int)≤s.depth→s.depth<s.within+g →
  Calls prog 296 #[.agg #[.pointer (some ⟨b,0,none⟩)]] W (qc7 g W b s (thJ s.bs s.lim s.depth (nmS s) g s.within s.pos))
 |0,W,b,s,_,_,_,_,_,h1,h2=>by omega
 |g+1,W,b,s,h,hlen,hU,h7,hdp,hwd,hgd=>by
  have ih:¬(s.within:Int)=s.depth→qgg g b {s with within:=s.within+1} W (thJ s.bs s.lim s.depth (nmS s) g (s.within+1)):=fun hne U p hS hB =>
   qcp g U b {s with pos:=p,within:=s.within+1} hS hlen (fun X hX=>hU X (hB.trans hX)) h7 hdp (by show((s.within+1:Nat):Int)≤s.depth;omega) (by show s.depth<((s.within+1:Nat):Int)+g;omega)
  rcases qaM h with h1|h1|⟨c,h1⟩
  ·have e:thJ s.bs s.lim s.depth (nmS s) (g+1) s.within s.pos=.error (9,(s.pos:Int)):=by
    rw[thJ,List.getElem?_eq_none (by have:s.pos=s.bs.length:=h1;omega)]
   rw[e];exact qgY W b s 9 h (fun V hV=>qbm V b s hV h1)
  ·have e:thJ s.bs s.lim s.depth (nmS s) (g+1) s.within s.pos=.error (8,(s.pos:Int)):=by
    rw[thJ,List.getElem?_eq_getElem h1.1];simp only[];rw[if_pos h1.2]
   rw[e];exact qgY W b s 8 h (fun V hV=>qaP V b s hV h1)
  have e:thJ s.bs s.lim s.depth (nmS s) (g+1) s.within s.pos=qqi s.bs s.lim s.depth s.within (thJ s.bs s.lim s.depth (nmS s) g (s.within+1)) (nmS s) c (s.pos+1):=by
   rw[thJ,h1.1];simp only[];rw[if_neg h1.2]
  rw[e];have hpp:(((s.pos+1:Nat)):Int)-1=s.pos:=by omega
  unfold qqi;by_cases c1:c.toNat=110
  ·rw[if_pos c1];refine(qpc g W b s c h h1 c1).mono fun e w hh => ?_;cases hz:qaT s.bs s.lim [117,108,108] (s.pos+1)<;>(rw[hz] at hh;exact hh)
  rw[if_neg c1];by_cases c2:c.toNat=116
  ·rw[if_pos c2];refine(qm7 g W b s c h h1 c2).mono fun e w hh => ?_;cases hz:qaT s.bs s.lim [114,117,101] (s.pos+1)<;>(rw[hz] at hh;exact hh)
  rw[if_neg c2];by_cases c3:c.toNat=102
  ·rw[if_pos c3];refine(qky g W b s c h h1 c3).mono fun e w hh => ?_;cases hz:qaT s.bs s.lim [97,108,115,101] (s.pos+1)<;>(rw[hz] at hh;exact hh)
  rw[if_neg c3];by_cases c4:c.toNat=34
  ·rw[if_pos c4];refine(qmF g W b s c h h1 c4 hlen hU h7).mono fun e w hh => ?_;cases hz:qfe s.bs s.lim (s.bs.length+1-(s.pos+1)) (s.pos+1) [] 0<;>(rw[hz] at hh;exact hh)
  rw[if_neg c4];by_cases c5:c.toNat=91
  ·rw[if_pos c5];by_cases hd:(s.within:Int)=s.depth
   ·rw[if_pos hd,hpp];exact qfM W b s c h h1 c5 hd
   rw[if_neg hd];refine(qmp g W b s c h h1 c5 _ (ih hd) (qov s g (s.within+1)) hlen hd (by omega)).mono fun e w hh => ?_;cases hz:qe4 s.bs s.lim (liJ (thJ s.bs s.lim s.depth (nmS s) g (s.within+1))) 93 (s.pos+1) []<;>(rw[hz] at hh;exact hh)
  rw[if_neg c5];by_cases c6:c.toNat=123
  ·rw[if_pos c6];by_cases hd:(s.within:Int)=s.depth
   ·rw[if_pos hd,hpp];exact qgI W b s c h h1 c6 hd
   rw[if_neg hd];refine(qpu g W b s c h h1 c6 _ (ih hd) (qov s g (s.within+1)) hlen hU h7 hd (by omega)).mono fun e w hh => ?_;cases hz:qe4 s.bs s.lim (enJ s.bs s.lim (thJ s.bs s.lim s.depth (nmS s) g (s.within+1))) 125 (s.pos+1) ([],[])<;>(rw[hz] at hh;exact hh)
  rw[if_neg c6];by_cases c7:c.toNat=45∨qcQ c=true
  ·rw[if_pos c7];refine(qim W b s c h h1 c7).mono fun e w hh => ?_;have e2:nmS s c (s.pos+1)=qg4 s.next c:=rfl
   rw[e2]
   cases hz:qg4 s.next c with
   |error er =>
    rw[hz] at hh;exact hh
   |ok zq =>
    obtain⟨z,q⟩:=zq;rw[hz] at hh;obtain⟨hB,rfl,hS⟩:=hh;exact⟨hB,⟨_,_,rfl,rfl,(qhv c7 hz).1⟩,hS⟩
  rw[if_neg c7,hpp];exact qn6 W b s c h h1 (by
   rintro (hh|hh|hh|hh|hh|hh|hh)
   ·exact c1 hh
   ·exact c2 hh
   ·exact c3 hh
   ·exact c4 hh
   ·exact c5 hh
   ·exact c6 hh
   exact c7 hh)
end
end Go.Proofs.YtllcbnfmihfaaaaGreatDoor
