import Derived.Test.YtllcbnfmihfaaaaGreatDoorCq34
import Derived.Test.YtllcbnfmihfaaaaGreatDoorCq28
set_option maxRecDepth 100000
set_option maxHeartbeats 8000000
namespace Go.Proofs.YtllcbnfmihfaaaaGreatDoor
open Go.Proofs.Tryz
variable {bs:List UInt8}{lim:Int}{b last p q:Nat}{V W:World}
section
open Go.RowKit
theorem qkx {α:Type}{itF:α→Nat→Except (Int×Int) (α×Nat)}(hit:∀a p a' q,itF a p=.ok (a',q)→p<q):∀(g p:Nat) (a a':α) (q:Nat),qgW bs lim itF last g p a=.ok (a',q)→p<q
 |0,p,a,a',q,h=>by rw[qgW] at h;cases h
 |g+1,p,a,a',q,h=>by
  rw[qgW] at h;split at h
  ·cases h
  next u1 p1 h1 =>
  split at h
  ·cases h
  next a2 p2 h2 =>
  split at h
  ·cases h
  next u3 p3 h3 =>
  have:=qcm _ _ _ _ _ _ h1;have:=hit _ _ _ _ h2;have:=qcm _ _ _ _ _ _ h3;split at h
  ·cases h
  split at h
  ·cases h
  split at h
  ·injection h with h;injection h with h4 h5;omega
  split at h
  ·have:=qkx hit g (p3+1) a2 a' q h;omega
  cases h
theorem qqf {α:Type}{itF:α→Nat→Except (Int×Int) (α×Nat)}(hit:∀a p a' q,itF a p=.ok (a',q)→p<q){a a':α}(h:qe4 bs lim itF last p a=.ok (a',q)):p<q:=by
 unfold qe4 at h;split at h
 ·cases h
 next u1 p1 h1 =>
 have:=qcm _ _ _ _ _ _ h1;split at h
 ·have:=qkx hit _ _ _ _ _ h;omega
 split at h
 ·cases h
 split at h
 ·injection h with h;injection h with h4 h5;omega
 have:=qkx hit _ _ _ _ _ h;omega
theorem qtA {depth:Int}{wi:Nat}{rd:Nat→Except (Int×Int) (DataW Unit×Nat)}{nm:UInt8→Nat→Except (Int×Int) (Int×Nat)}{c:UInt8}{d:DataW Unit}(hrd:∀p d q,rd p=.ok (d,q)→p<q)(hnm:∀z q,(c.toNat=45∨qcQ c=true)→nm c p=.ok (z,q)→p≤q)(h:qqi bs lim depth wi rd nm c p=.ok (d,q)):p≤q:=by
 unfold qqi at h;split at h
 ·split at h
  ·cases h
  next u r hr =>
  injection h with h;injection h with h1 h2;have:=qcb _ _ _ _ _ _ hr;omega
 split at h
 ·split at h
  ·cases h
  next u r hr =>
  injection h with h;injection h with h1 h2;have:=qcb _ _ _ _ _ _ hr;omega
 split at h
 ·split at h
  ·cases h
  next u r hr =>
  injection h with h;injection h with h1 h2;have:=qcb _ _ _ _ _ _ hr;omega
 split at h
 ·split at h
  ·cases h
  next l r hr =>
  injection h with h;injection h with h1 h2;have:=qet _ _ _ _ _ _ _ _ hr;omega
 split at h
 ·split at h
  ·cases h
  split at h
  ·cases h
  next l r hr =>
  injection h with h;injection h with h1 h2;have:=qqf (qsl hrd) hr;omega
 split at h
 ·split at h
  ·cases h
  split at h
  ·cases h
  next l r hr =>
  injection h with h;injection h with h1 h2;have:=qqf (qsh hrd) hr;omega
 split at h
 ·next hc =>
  split at h
  ·cases h
  next z r hr =>
  injection h with h;injection h with h1 h2;have:=hnm z r hc hr;omega
 cases h
def nmS (s:Src)(c:UInt8)(p:Nat):Except (Int×Int) (Int×Nat):=qg4 {s with pos:=p} c
theorem qov (s:Src):∀(g wi p:Nat) (d:DataW Unit) (q:Nat),thJ s.bs s.lim s.depth (nmS s) g wi p=.ok (d,q)→p<q
 |0,_,_,_,_,h=>by rw[thJ] at h;cases h
 |g+1,wi,p,d,q,h=>by
  rw[thJ] at h;split at h
  ·cases h
  split at h
  ·cases h
  have:=qtA (p:=p+1) (nm:=nmS s) (qov s g (wi+1)) (fun z q hc hz=>(qhv (s:={s with pos:=p+1}) hc hz).2) h;omega
theorem qcp:∀(g:Nat) (W:World) (b:Nat) (s:Src),qad W b s→s.bs.length≤200000000→(∀V,But b W V→U8 V)→7<b→s.depth≤100000→(s.within:Int)≤s.depth→s.depth<s.within+g →
  Calls prog 296 #[.agg #[.pointer (some ⟨b,0,none⟩)]] W (qc7 g W b s (thJ s.bs s.lim s.depth (nmS s) g s.within s.pos))
 |0,W,b,s,_,_,_,_,_,h1,h2=>by omega
 |g+1,W,b,s,h,hlen,hU,h7,hdp,hwd,hgd=>by
  have ih:¬(s.within:Int)=s.depth→qgg g b {s with within:=s.within+1} W (thJ s.bs s.lim s.depth (nmS s) g (s.within+1)):=fun hne U p hS hB =>
   qcp g U b {s with pos:=p,within:=s.within+1} hS hlen (fun X hX=>hU X (hB.trans hX)) h7 hdp (by show((s.within+1:Nat):Int)≤s.depth;omega) (by show s.depth<((s.within+1:Nat):Int)+g;omega)
  rcases qaM h with h1|h1|⟨c,h1⟩
  ·have e:thJ s.bs s.lim s.depth (nmS s) (g+1) s.within s.pos=.error (9,(s.pos:Int)):=by
    rw[thJ,List.getElem?_eq_none (by have:s.pos=s.bs.length:=h1;omega)]
   rw[e];exact qgY W b s 9 h (fun V hV=>qbm V b s hV h1)
  ·have e:thJ s.bs s.lim s.depth (nmS s) (g+1) s.within s.pos=.error (8,(s.pos:Int)):=by
    rw[thJ,List.getElem?_eq_getElem h1.1];simp only[];rw[if_pos h1.2]
   rw[e];exact qgY W b s 8 h (fun V hV=>qaP V b s hV h1)
  have e:thJ s.bs s.lim s.depth (nmS s) (g+1) s.within s.pos=qqi s.bs s.lim s.depth s.within (thJ s.bs s.lim s.depth (nmS s) g (s.within+1)) (nmS s) c (s.pos+1):=by
   rw[thJ,h1.1];simp only[];rw[if_neg h1.2]
  rw[e];have hpp:(((s.pos+1:Nat)):Int)-1=s.pos:=by omega
  unfold qqi;by_cases c1:c.toNat=110
  ·rw[if_pos c1];refine(qpc g W b s c h h1 c1).mono fun e w hh => ?_;cases hz:qaT s.bs s.lim [117,108,108] (s.pos+1)<;>(rw[hz] at hh;exact hh)
  rw[if_neg c1];by_cases c2:c.toNat=116
  ·rw[if_pos c2];refine(qm7 g W b s c h h1 c2).mono fun e w hh => ?_;cases hz:qaT s.bs s.lim [114,117,101] (s.pos+1)<;>(rw[hz] at hh;exact hh)
  rw[if_neg c2];by_cases c3:c.toNat=102
  ·rw[if_pos c3];refine(qky g W b s c h h1 c3).mono fun e w hh => ?_;cases hz:qaT s.bs s.lim [97,108,115,101] (s.pos+1)<;>(rw[hz] at hh;exact hh)
  rw[if_neg c3];by_cases c4:c.toNat=34
  ·rw[if_pos c4];refine(qmF g W b s c h h1 c4 hlen hU h7).mono fun e w hh => ?_;cases hz:qfe s.bs s.lim (s.bs.length+1-(s.pos+1)) (s.pos+1) [] 0<;>(rw[hz] at hh;exact hh)
  rw[if_neg c4];by_cases c5:c.toNat=91
  ·rw[if_pos c5];by_cases hd:(s.within:Int)=s.depth
   ·rw[if_pos hd,hpp];exact qfM W b s c h h1 c5 hd
   rw[if_neg hd];refine(qmp g W b s c h h1 c5 _ (ih hd) (qov s g (s.within+1)) hlen hd (by omega)).mono fun e w hh => ?_;cases hz:qe4 s.bs s.lim (liJ (thJ s.bs s.lim s.depth (nmS s) g (s.within+1))) 93 (s.pos+1) []<;>(rw[hz] at hh;exact hh)
  rw[if_neg c5];by_cases c6:c.toNat=123
  ·rw[if_pos c6];by_cases hd:(s.within:Int)=s.depth
   ·rw[if_pos hd,hpp];exact qgI W b s c h h1 c6 hd
   rw[if_neg hd];refine(qpu g W b s c h h1 c6 _ (ih hd) (qov s g (s.within+1)) hlen hU h7 hd (by omega)).mono fun e w hh => ?_;cases hz:qe4 s.bs s.lim (enJ s.bs s.lim (thJ s.bs s.lim s.depth (nmS s) g (s.within+1))) 125 (s.pos+1) ([],[])<;>(rw[hz] at hh;exact hh)
  rw[if_neg c6];by_cases c7:c.toNat=45∨qcQ c=true
  ·rw[if_pos c7];refine(qim W b s c h h1 c7).mono fun e w hh => ?_;have e2:nmS s c (s.pos+1)=qg4 s.next c:=rfl
   rw[e2]
   cases hz:qg4 s.next c with
   |error er =>
    rw[hz] at hh;exact hh
   |ok zq =>
    obtain⟨z,q⟩:=zq;rw[hz] at hh;obtain⟨hB,rfl,hS⟩:=hh;exact⟨hB,⟨_,_,rfl,rfl,(qhv c7 hz).1⟩,hS⟩
  rw[if_neg c7,hpp];exact qn6 W b s c h h1 (by
   rintro (hh|hh|hh|hh|hh|hh|hh)
   ·exact c1 hh
   ·exact c2 hh
   ·exact c3 hh
   ·exact c4 hh
   ·exact c5 hh
   ·exact c6 hh
   exact c7 hh)
def qnZ (sp:Nat→Except (Int×Int) (Unit×Nat))(th:Nat→Except (Int×Int) (DataW Unit×Nat))(bs:List UInt8)(lim:Int):Except (Int×Int) (DataW Unit) :=
 match sp 0 with
 |.error e=>.error e
 |.ok (_,p0)=>match th p0 with
  |.error e=>.error e
  |.ok (d,p1)=>match sp p1 with
   |.error e=>.error e
   |.ok (_,p2)=>match qqn ⟨none,bs,0,0,lim,p2,0⟩ with
    |.error e=>.error e
    |.ok _=>.ok d
def qg6 (k:Nat)(W:World)(r:Except (Int×Int) (DataW Unit))(e:Ending)(W':World):Prop :=
 Below W.heap.size W W'∧match r with
 |.ok d=>∃t y,e=.returned (.iface t y)∧qai k W' (fun j=>W.heap.size≤j∧j<W'.heap.size) (.iface t y) d
 |.error (en,pl)=>qao en pl e
theorem qjI.toJ {k:Nat}{s:Src}{r:Except (Int×Int) (DataW Unit×Nat)}{e:Ending}{W':World}(h:qjI k W b s r e W'):qc7 k W b s r e W':=by
 refine⟨h.1,?_⟩;have h2:=h.2
 cases r with
 |ok x=>exact h2
 |error x=>exact h2.1
theorem qkz (k:Nat)(W:World)(fm:Int)(ia:Option Addr)(bs:List UInt8)(cap:Nat)(d l:Int)(h:qa4 W ia bs)(sp:Nat→Except (Int×Int) (Unit×Nat))(th:Nat→Except (Int×Int) (DataW Unit×Nat))(cR:∀V,qa4 V ia bs→Calls prog 65 #[.int .i64 fm,.agg #[.int .i64 d,.int .i64 l],.slice ia bs.length cap] V fun e W'=>∃b,e=.returned (.iface 198 (.agg #[.pointer (some ⟨b,0,none⟩)]))∧qad W' b ⟨ia,bs,cap,d,l,0,0⟩∧V.heap.size≤b∧Below V.heap.size V W')(cS:∀(b:Nat) (V:World) (p:Nat),W.heap.size≤b→qad V b ⟨ia,bs,cap,d,l,p,0⟩→Calls prog 297 #[.agg #[.pointer (some ⟨b,0,none⟩)]] V (qbJ V b ⟨ia,bs,cap,d,l,p,0⟩ (fun _:Unit=>.tuple #[]) (sp p)))(cT:∀(b:Nat) (V:World) (p:Nat),W.heap.size≤b→Below W.heap.size W V→qad V b ⟨ia,bs,cap,d,l,p,0⟩→Calls prog 296 #[.agg #[.pointer (some ⟨b,0,none⟩)]] V (qc7 k V b ⟨ia,bs,cap,d,l,p,0⟩ (th p))):Calls prog 41 #[.int .i64 fm,.agg #[.int .i64 d,.int .i64 l],.slice ia bs.length cap] W (qg6 k W (qnZ sp th bs l)):=by
 have hb0:Below W.heap.size W (W.alloc (.cells #[.int .i64 d,.int .i64 l] 86)):=bwA;have HB0:=qaa hb0;have cN:=cR (W.alloc (.cells #[.int .i64 d,.int .i64 l] 86)) (h.below hb0);obtain⟨R,HR⟩:∃R,Hid (qnZ sp th bs l=R):=⟨_,show _=_ from rfl⟩
 rw[HR.out];have hr:=HR.out;unfold qnZ at hr;go_enter func41,ntmps41
 go_wp2_with (first
  |(go_at_call 65;refine cN.mono ?_;rintro e w2 ⟨b,rfl,hS,hbl,hB⟩))
 have HBW:=qaa (HB0.out.trans (hB.mono HB0.out.size));have hbl2:W.heap.size≤b:=by simp only[World.size_alloc] at hbl;omega
 have cS1:=cS b w2 0 hbl2 hS;have cSb:=fun (V:World) (p:Nat) hV=>cS b V p hbl2 hV;have cTb:=fun (V:World) (p:Nat) (hB:Below W.heap.size W V) hV=>cT b V p hbl2 hB hV;refine qdj (y:=(297,.agg #[.pointer (some ⟨b,0,none⟩)])) (w:=w2) (by kernel_rfl) ?_
 go_wp2_with fail
 cases h1:sp 0 with
 |error er =>
  obtain⟨en,pl⟩:=er;rw[h1] at hr cS1;simp only[] at hr;subst hr;refine cS1.mono ?_;rintro e w3 ⟨hB3,hF⟩;obtain rfl:=(show qao en pl e from hF)
  go_wp2;exact⟨rfl,qaC HBW.out hB3 hbl2,rfl⟩
 |ok uq =>
  obtain⟨u0,p0⟩:=uq;rw[h1] at hr cS1;simp only[] at hr;refine cS1.mono ?_;rintro e w3 ⟨hB3,hF3⟩;obtain⟨rfl,hS3⟩:=(show e=.returned (.tuple #[])∧qad w3 b ⟨ia,bs,cap,d,l,p0,0⟩ from hF3)
  have HBW3:=qaa (qaC HBW.out hB3 hbl2);have cT1:=cTb w3 p0 HBW3.out hS3;have hbw3:=qaa (ltA hS3.row)
  go_wp2_with fail
  refine qdj (y:=(296,.agg #[.pointer (some ⟨b,0,none⟩)])) (w:=w3) (by kernel_rfl) ?_
  go_wp2_with fail
  cases h2:th p0 with
  |error er =>
   obtain⟨en,pl⟩:=er;rw[h2] at hr cT1;simp only[] at hr;subst hr;refine cT1.mono ?_;rintro e w4 ⟨hB4,hF⟩;obtain rfl:=(show qao en pl e from hF)
   go_wp2;exact⟨rfl,qaC HBW3.out hB4 hbl2,rfl⟩
  |ok dq =>
   obtain⟨dd,p1⟩:=dq;rw[h2] at hr cT1;simp only[] at hr;refine cT1.mono ?_;rintro e w4 ⟨hB4,hF4⟩;obtain⟨⟨t,y,rfl,hD4⟩,hS4⟩:=(show(∃t y,e=.returned (.iface t y)∧qai k w4 (fun j=>w3.heap.size≤j∧j<w4.heap.size) (.iface t y) dd)∧qad w4 b ⟨ia,bs,cap,d,l,p1,0⟩ from hF4)
   have HBW4:=qaa (qaC HBW3.out hB4 hbl2);have hbb:=hbw3.out;have HD:Hid (qai k w4 (fun j=>b<j∧j<w4.heap.size) (.iface t y) dd):=hD4.same (fun j hj=>⟨Nat.lt_of_lt_of_le hbb hj.1,hj.2⟩) (fun _ _=>rfl);have cS2:=cSb w4 p1 hS4
   go_wp2_with fail
   refine qdj (y:=(297,.agg #[.pointer (some ⟨b,0,none⟩)])) (w:=w4) (by kernel_rfl) ?_
   go_wp2_with fail
   cases h3:sp p1 with
   |error er =>
    obtain⟨en,pl⟩:=er;rw[h3] at hr cS2;simp only[] at hr;subst hr;refine cS2.mono ?_;rintro e w5 ⟨hB5,hF⟩;obtain rfl:=(show qao en pl e from hF)
    go_wp2;exact⟨rfl,qaC HBW4.out hB5 hbl2,rfl⟩
   |ok uq =>
    obtain⟨u2,p2⟩:=uq;rw[h3] at hr cS2;simp only[] at hr;refine cS2.mono ?_;rintro e w5 ⟨hB5,hF5⟩;obtain⟨rfl,hS5⟩:=(show e=.returned (.tuple #[])∧qad w5 b ⟨ia,bs,cap,d,l,p2,0⟩ from hF5)
    have HBW5:=qaa (qaC HBW4.out hB5 hbl2);have HD5:Hid (qai k w5 (fun j=>b<j∧j<w5.heap.size) (.iface t y) dd):=HD.out.same (fun j hj=>⟨hj.1,Nat.lt_of_lt_of_le hj.2 hB5.size⟩) (fun j hj=>hB5.block j hj.2 (by omega));have cE:Calls prog 290 #[.pointer (some ⟨b,0,none⟩)] w5 (qbJ w5 b ⟨ia,bs,cap,d,l,p2,0⟩ (fun _:Unit=>.tuple #[]) (qqn ⟨none,bs,0,0,l,p2,0⟩)):=qgi w5 b ⟨ia,bs,cap,d,l,p2,0⟩ hS5
    go_wp2_with fail
    refine qdj (y:=(290,.pointer (some ⟨b,0,none⟩))) (w:=w5) (by kernel_rfl) ?_
    go_wp2_with fail
    cases h4:qqn ⟨none,bs,0,0,l,p2,0⟩ with
    |error er =>
     obtain⟨en,pl⟩:=er;rw[h4] at hr cE;simp only[] at hr;subst hr;refine cE.mono ?_;rintro e w6 ⟨hB6,hF⟩;obtain rfl:=(show qao en pl e from hF)
     go_wp2;exact⟨rfl,qaC HBW5.out hB6 hbl2,rfl⟩
    |ok uq =>
     obtain⟨u4,p4⟩:=uq;rw[h4] at hr cE;simp only[] at hr;subst hr;refine cE.mono ?_;rintro e w6 ⟨hB6,hF6⟩;obtain⟨rfl,hS6⟩:=(show e=.returned (.tuple #[])∧qad w6 b ⟨ia,bs,cap,d,l,p4,0⟩ from hF6)
     have HD6:Hid (qai k w6 (fun j=>W.heap.size≤j∧j<w6.heap.size) (.iface t y) dd):=HD5.out.same (fun j hj=>⟨by omega,Nat.lt_of_lt_of_le hj.2 hB6.size⟩) (fun j hj=>hB6.block j hj.2 (by omega));have HBW6:=qaa (qaC HBW5.out hB6 hbl2);go_wp2;go_ret;exact⟨HBW6.out,_,_,rfl,HD6.out⟩
theorem qfW (k:Nat)(W:World)(fm:Int)(f:Nat)(ia:Option Addr)(bs:List UInt8)(cap:Nat)(d l:Int)(h:qa4 W ia bs)(sp:Nat→Except (Int×Int) (Unit×Nat))(th:Nat→Except (Int×Int) (DataW Unit×Nat))(cR:∀V,qa4 V ia bs→Calls prog 65 #[.int .i64 fm,.agg #[.int .i64 d,.int .i64 l],.slice ia bs.length cap] V fun e W'=>∃b,e=.returned (.iface 201 (.agg #[.pointer (some ⟨b,0,none⟩),.func (.func f) #[] #[]]))∧qad W' b ⟨ia,bs,cap,d,l,0,0⟩∧V.heap.size≤b∧Below V.heap.size V W')(cS:∀(b:Nat) (V:World) (p:Nat),W.heap.size≤b→qad V b ⟨ia,bs,cap,d,l,p,0⟩→Calls prog 291 #[.pointer (some ⟨b,0,none⟩)] V (qbJ V b ⟨ia,bs,cap,d,l,p,0⟩ (fun _:Unit=>.tuple #[]) (sp p)))(cT:∀(b:Nat) (V:World) (p:Nat),W.heap.size≤b→Below W.heap.size W V→qad V b ⟨ia,bs,cap,d,l,p,0⟩→Calls prog 325 #[.agg #[.pointer (some ⟨b,0,none⟩),.func (.func f) #[] #[]]] V (qc7 k V b ⟨ia,bs,cap,d,l,p,0⟩ (th p))):Calls prog 41 #[.int .i64 fm,.agg #[.int .i64 d,.int .i64 l],.slice ia bs.length cap] W (qg6 k W (qnZ sp th bs l)):=by
 have hb0:Below W.heap.size W (W.alloc (.cells #[.int .i64 d,.int .i64 l] 86)):=bwA;have HB0:=qaa hb0;have cN:=cR (W.alloc (.cells #[.int .i64 d,.int .i64 l] 86)) (h.below hb0);obtain⟨R,HR⟩:∃R,Hid (qnZ sp th bs l=R):=⟨_,show _=_ from rfl⟩
 rw[HR.out];have hr:=HR.out;unfold qnZ at hr;go_enter func41,ntmps41
 go_wp2_with (first
  |(go_at_call 65;refine cN.mono ?_;rintro e w2 ⟨b,rfl,hS,hbl,hB⟩))
 have HBW:=qaa (HB0.out.trans (hB.mono HB0.out.size));have hbl2:W.heap.size≤b:=by simp only[World.size_alloc] at hbl;omega
 have cS1:=cS b w2 0 hbl2 hS;have cSb:=fun (V:World) (p:Nat) hV=>cS b V p hbl2 hV;have cTb:=fun (V:World) (p:Nat) (hB:Below W.heap.size W V) hV=>cT b V p hbl2 hB hV;refine qdj (y:=(291,.pointer (some ⟨b,0,none⟩))) (w:=w2) (by kernel_rfl) ?_
 go_wp2_with fail
 cases h1:sp 0 with
 |error er =>
  obtain⟨en,pl⟩:=er;rw[h1] at hr cS1;simp only[] at hr;subst hr;refine cS1.mono ?_;rintro e w3 ⟨hB3,hF⟩;obtain rfl:=(show qao en pl e from hF)
  go_wp2;exact⟨rfl,qaC HBW.out hB3 hbl2,rfl⟩
 |ok uq =>
  obtain⟨u0,p0⟩:=uq;rw[h1] at hr cS1;simp only[] at hr;refine cS1.mono ?_;rintro e w3 ⟨hB3,hF3⟩;obtain⟨rfl,hS3⟩:=(show e=.returned (.tuple #[])∧qad w3 b ⟨ia,bs,cap,d,l,p0,0⟩ from hF3)
  have HBW3:=qaa (qaC HBW.out hB3 hbl2);have cT1:=cTb w3 p0 HBW3.out hS3;have hbw3:=qaa (ltA hS3.row)
  go_wp2_with fail
  refine qdj (y:=(325,.agg #[.pointer (some ⟨b,0,none⟩),.func (.func f) #[] #[]])) (w:=w3) (by kernel_rfl) ?_
  go_wp2_with fail
  cases h2:th p0 with
  |error er =>
   obtain⟨en,pl⟩:=er;rw[h2] at hr cT1;simp only[] at hr;subst hr;refine cT1.mono ?_;rintro e w4 ⟨hB4,hF⟩;obtain rfl:=(show qao en pl e from hF)
   go_wp2;exact⟨rfl,qaC HBW3.out hB4 hbl2,rfl⟩
  |ok dq =>
   obtain⟨dd,p1⟩:=dq;rw[h2] at hr cT1;simp only[] at hr;refine cT1.mono ?_;rintro e w4 ⟨hB4,hF4⟩;obtain⟨⟨t,y,rfl,hD4⟩,hS4⟩:=(show(∃t y,e=.returned (.iface t y)∧qai k w4 (fun j=>w3.heap.size≤j∧j<w4.heap.size) (.iface t y) dd)∧qad w4 b ⟨ia,bs,cap,d,l,p1,0⟩ from hF4)
   have HBW4:=qaa (qaC HBW3.out hB4 hbl2);have hbb:=hbw3.out;have HD:Hid (qai k w4 (fun j=>b<j∧j<w4.heap.size) (.iface t y) dd):=hD4.same (fun j hj=>⟨Nat.lt_of_lt_of_le hbb hj.1,hj.2⟩) (fun _ _=>rfl);have cS2:=cSb w4 p1 hS4
   go_wp2_with fail
   refine qdj (y:=(291,.pointer (some ⟨b,0,none⟩))) (w:=w4) (by kernel_rfl) ?_
   go_wp2_with fail
   cases h3:sp p1 with
   |error er =>
    obtain⟨en,pl⟩:=er;rw[h3] at hr cS2;simp only[] at hr;subst hr;refine cS2.mono ?_;rintro e w5 ⟨hB5,hF⟩;obtain rfl:=(show qao en pl e from hF)
    go_wp2;exact⟨rfl,qaC HBW4.out hB5 hbl2,rfl⟩
   |ok uq =>
    obtain⟨u2,p2⟩:=uq;rw[h3] at hr cS2;simp only[] at hr;refine cS2.mono ?_;rintro e w5 ⟨hB5,hF5⟩;obtain⟨rfl,hS5⟩:=(show e=.returned (.tuple #[])∧qad w5 b ⟨ia,bs,cap,d,l,p2,0⟩ from hF5)
    have HBW5:=qaa (qaC HBW4.out hB5 hbl2);have HD5:Hid (qai k w5 (fun j=>b<j∧j<w5.heap.size) (.iface t y) dd):=HD.out.same (fun j hj=>⟨hj.1,Nat.lt_of_lt_of_le hj.2 hB5.size⟩) (fun j hj=>hB5.block j hj.2 (by omega));have cE:Calls prog 290 #[.pointer (some ⟨b,0,none⟩)] w5 (qbJ w5 b ⟨ia,bs,cap,d,l,p2,0⟩ (fun _:Unit=>.tuple #[]) (qqn ⟨none,bs,0,0,l,p2,0⟩)):=qgi w5 b ⟨ia,bs,cap,d,l,p2,0⟩ hS5
    go_wp2_with fail
    refine qdj (y:=(290,.pointer (some ⟨b,0,none⟩))) (w:=w5) (by kernel_rfl) ?_
    go_wp2_with fail
    cases h4:qqn ⟨none,bs,0,0,l,p2,0⟩ with
    |error er =>
     obtain⟨en,pl⟩:=er;rw[h4] at hr cE;simp only[] at hr;subst hr;refine cE.mono ?_;rintro e w6 ⟨hB6,hF⟩;obtain rfl:=(show qao en pl e from hF)
     go_wp2;exact⟨rfl,qaC HBW5.out hB6 hbl2,rfl⟩
    |ok uq =>
     obtain⟨u4,p4⟩:=uq;rw[h4] at hr cE;simp only[] at hr;subst hr;refine cE.mono ?_;rintro e w6 ⟨hB6,hF6⟩;obtain⟨rfl,hS6⟩:=(show e=.returned (.tuple #[])∧qad w6 b ⟨ia,bs,cap,d,l,p4,0⟩ from hF6)
     have HD6:Hid (qai k w6 (fun j=>W.heap.size≤j∧j<w6.heap.size) (.iface t y) dd):=HD5.out.same (fun j hj=>⟨by omega,Nat.lt_of_lt_of_le hj.2 hB6.size⟩) (fun j hj=>hB6.block j hj.2 (by omega));have HBW6:=qaa (qaC HBW5.out hB6 hbl2);go_wp2;go_ret;exact⟨HBW6.out,_,_,rfl,HD6.out⟩
structure qeK (W:World):Prop where
 u8:U8 W
 hd:qdh W
 big:9≤W.heap.size
theorem U8.but (h:U8 W)(hV:But b W V)(h7:7<b)(hb:9≤W.heap.size):U8 V:=by
 have hc:∀(q off:Nat) (v:Value),q≤7→W.cell? ⟨q,off,none⟩=some v→V.cell? ⟨q,off,none⟩=some v:=fun q off v hq hv=>(World.cell?_of_block (w:=W) (hV.block q (by omega) (by omega))).trans hv;exact⟨fun c hc'=>hc _ _ _ (by decide) (h.1 c hc'),fun i hi=>⟨hc _ _ _ (by decide) (h.2 i hi).1,hc _ _ _ (by decide) (h.2 i hi).2⟩⟩
theorem qeK.below (h:qeK W)(hb:Below W.heap.size W V):qeK V:=⟨h.u8.below hb,h.hd.below hb,Nat.le_trans h.big hb.size⟩
theorem qvm:(List.range 256).all (fun c=>decide ((qiN c).1≤10∧(qiN c).2.1≤8∧((qiN c).2.1=0∨(qiN c).2.2=0)∧(qiN c).2.2<18446744073709551616))=true:=by kernel_rfl
theorem qvl:∀c,c<256→(qiN c).1≤10∧(qiN c).2.1≤8∧((qiN c).2.1=0∨(qiN c).2.2=0)∧(qiN c).2.2<18446744073709551616:=fun c hc=>of_decide_eq_true (List.all_eq_true.1 qvm c (List.mem_range.2 hc))
theorem qvI:(List.range 256).all (fun c=>decide ((qfo c).1≤10∧(qfo c).2.1≤8∧((qfo c).2.1=0∨(qfo c).2.2=0)∧(qfo c).2.2<18446744073709551616))=true:=by kernel_rfl
theorem qvE:∀c,c<256→(qfo c).1≤10∧(qfo c).2.1≤8∧((qfo c).2.1=0∨(qfo c).2.2=0)∧(qfo c).2.2<18446744073709551616:=fun c hc=>of_decide_eq_true (List.all_eq_true.1 qvI c (List.mem_range.2 hc))
theorem qub (h:qdh W)(hb:1<b):qeJ 107 qiN b W :=
 ⟨.inl rfl,fun c hc=>(qvl c hc).1,fun c hc=>(qvl c hc).2,fun c V hV=>qjL V c.toNat c.toNat_lt (h.but hV hb)⟩
theorem qtc (h:qdh W)(hb:1<b):qeJ 108 qfo b W :=
 ⟨.inr rfl,fun c hc=>(qvE c hc).1,fun c hc=>(qvE c hc).2,fun c V hV=>qj7 V c.toNat c.toNat_lt (h.but hV hb)⟩
def spO (fm:Int)(bs:List UInt8)(lim:Int)(p:Nat):Except (Int×Int) (Unit×Nat):=if fm=1 then spF bs lim (bs.length+1-p) p else .ok ((),p)
def thO (fm:Int)(bs:List UInt8)(d lim:Int)(p:Nat):Except (Int×Int) (DataW Unit×Nat) :=
 if fm=1 then thJ bs lim d (fun c p=>qg4 ⟨none,bs,0,0,lim,p,0⟩ c) (d.toNat+1) 0 p else if fm=2 then thB qiN bs lim d (d.toNat+1) 0 p else thB qfo bs lim d (d.toNat+1) 0 p
def qgE (fm:Int)(bs:List UInt8)(d lim:Int):Except (Int×Int) (DataW Unit):=qnZ (spO fm bs lim) (thO fm bs d lim) bs lim
theorem qjq (W:World)(fm:Int)(ia:Option Addr)(bs:List UInt8)(cap:Nat)(d l:Int)(hfm:fm=1∨fm=2∨fm=3)(h:qa4 W ia bs)(ht:qeK W)(hd0:0≤d)(hd1:d≤100000)(hlen:bs.length≤200000000):Calls prog 41 #[.int .i64 fm,.agg #[.int .i64 d,.int .i64 l],.slice ia bs.length cap] W (qg6 (d.toNat+1) W (qgE fm bs d l)):=by
 have hbig:=ht.big;rcases hfm with rfl|rfl|rfl
 ·have e1:spO 1 bs l=fun p=>spF bs l (bs.length+1-p) p:=by funext p;unfold spO;rw[if_pos rfl]
  have e2:thO 1 bs d l=fun p=>thJ bs l d (fun c p=>qg4 ⟨none,bs,0,0,l,p,0⟩ c) (d.toNat+1) 0 p:=by funext p;unfold thO;rw[if_pos rfl]
  unfold qgE;rw[e1,e2];refine qkz (d.toNat+1) W 1 ia bs cap d l h _ _ (fun V hV=>qgQ V ia bs cap d l hV) (fun b V p hb hS=>qaN V b ⟨ia,bs,cap,d,l,p,0⟩ hS) (fun b V p hb hB hS => ?_);exact qcp (d.toNat+1) V b ⟨ia,bs,cap,d,l,p,0⟩ hS hlen (fun U hU=>(ht.below hB).u8.but hU (by omega) (ht.below hB).big) (by omega) hd1 (by simpa using hd0) (by show d<((0:Nat):Int)+((d.toNat+1:Nat):Int);omega)
 ·have e1:spO 2 bs l=fun p=>.ok ((),p):=by funext p;unfold spO;rw[if_neg (by decide)]
  have e2:thO 2 bs d l=fun p=>thB qiN bs l d (d.toNat+1) 0 p:=by funext p;unfold thO;rw[if_neg (by decide),if_pos rfl]
  unfold qgE;rw[e1,e2];refine qfW (d.toNat+1) W 2 107 ia bs cap d l h _ _ (fun V hV=>qgH V ia bs cap d l hV) (fun b V p hb hS=>(qei V b).mono ?_) (fun b V p hb hB hS => ?_)
  ·rintro e w ⟨rfl,rfl⟩;exact⟨But.refl _ _,rfl,hS⟩
  exact(qbD qiN 107 (d.toNat+1) V b ⟨ia,bs,cap,d,l,p,0⟩ hS hlen (fun U hU=>(ht.below hB).u8.but hU (by omega) (ht.below hB).big) (by omega) (qub (ht.below hB).hd (by omega)) hd1 (by simpa using hd0) (by show d<((0:Nat):Int)+((d.toNat+1:Nat):Int);omega)).mono fun e w hh=>hh.toJ
 have e1:spO 3 bs l=fun p=>.ok ((),p):=by funext p;unfold spO;rw[if_neg (by decide)]
 have e2:thO 3 bs d l=fun p=>thB qfo bs l d (d.toNat+1) 0 p:=by funext p;unfold thO;rw[if_neg (by decide),if_neg (by decide)]
 unfold qgE;rw[e1,e2];refine qfW (d.toNat+1) W 3 108 ia bs cap d l h _ _ (fun V hV=>qgP V ia bs cap d l hV) (fun b V p hb hS=>(qei V b).mono ?_) (fun b V p hb hB hS => ?_)
 ·rintro e w ⟨rfl,rfl⟩;exact⟨But.refl _ _,rfl,hS⟩
 exact(qbD qfo 108 (d.toNat+1) V b ⟨ia,bs,cap,d,l,p,0⟩ hS hlen (fun U hU=>(ht.below hB).u8.but hU (by omega) (ht.below hB).big) (by omega) (qtc (ht.below hB).hd (by omega)) hd1 (by simpa using hd0) (by show d<((0:Nat):Int)+((d.toNat+1:Nat):Int);omega)).mono fun e w hh=>hh.toJ
def qvG (k:Nat)(W:World)(r:Except (Int×Int) (DataW Unit))(e:Ending)(W':World):Prop :=
 Below W.heap.size W W'∧match r with
 |.ok d=>∃t y,e=.returned (.tuple #[.iface t y,.int .i64 0,.int .i64 0])∧qai k W' (fun j=>W.heap.size≤j∧j<W'.heap.size) (.iface t y) d
 |.error (en,pl)=>e=.returned (.tuple #[.nilIface,.int .i64 en,.int .i64 pl])
theorem qjU (k:Nat)(W:World)(caps:Array Value)(r:Except (Int×Int) (DataW Unit))(cR:Calls prog 88 caps ((W.alloc (.cells #[.int .i64 0] 31)).alloc (.cells #[.int .i64 0] 3)) (qg6 k ((W.alloc (.cells #[.int .i64 0] 31)).alloc (.cells #[.int .i64 0] 3)) r)):Calls prog 39 #[.func (.func 88) #[] caps] W (qvG k W r):=by
 have hmf:∀(fn:Fn) (first cap:Array Value) (w:World),(Instr.makeFunc fn first cap).run prog w=.ok (.func fn first cap) w:=fun _ _ _ _=>rfl;have b1:Below W.heap.size W ((W.alloc (.cells #[.int .i64 0] 31)).alloc (.cells #[.int .i64 0] 3)):=(bwA).alloc (by simp) _;have k1:=Boxed.new W 31 (.int .i64 0);have k2:=Boxed.new (W.alloc (.cells #[.int .i64 0] 31)) 3 (.int .i64 0);have k1':=k1.alloc (.cells #[.int .i64 0] 3);rw[World.size_alloc] at k2;have HB:=qaa b1;have HK1:=qaa k1';have HK2:=qaa k2
 go_enter_defers func39,ntmps39
 go_wp2_with fail
 refine cR.mono ?_;rcases r with ⟨en,pl⟩|d
 ·rintro e w2 ⟨hB2,hF⟩;obtain rfl:=hF;have q1:Boxed w2 W.heap.size 31 (.int .i64 0):=(hB2.block _ HK1.out.lt).trans HK1.out;have q2:Boxed w2 (W.heap.size+1) 3 (.int .i64 0):=(hB2.block _ HK2.out.lt).trans HK2.out;have hBW:=HB.out.trans (hB2.mono HB.out.size);have HQ1:=qaa q1;have HQ2:=qaa q2;have HBW:=qaa hBW;go_wp2;refine leaves_cons (f:=64) (args:=#[.pointer (some ⟨W.heap.size,0,none⟩),.pointer (some ⟨W.heap.size+1,0,none⟩)]) (by simp) (by simp[go_sem]) ?_;refine(qmS W.heap.size (W.heap.size+1) en pl 0 0 w2 HQ1.out.cell HQ2.out.cell HQ1.out.frozen HQ2.out.frozen (by omega)).mono ?_;rintro e u' w3 ⟨rfl,rfl,c1,c2,c3⟩;have hfin:=HBW.out.trans (c3 _ (Nat.le_refl _) (by omega) HBW.out.size);simp[Leaves,settle,results,results39,go_sem,c1,c2,qvG,hfin]
 rintro e w2 ⟨hB2,hF2⟩;obtain⟨t,y,rfl,hD2⟩:=(show ∃t y,e=.returned (.iface t y)∧qai k w2 (fun j=>((W.alloc (.cells #[.int .i64 0] 31)).alloc (.cells #[.int .i64 0] 3)).heap.size≤j∧j<w2.heap.size) (.iface t y) d from hF2)
 have HD:Hid (qai k w2 (fun j=>W.heap.size+2≤j∧j<w2.heap.size) (.iface t y) d):=hD2.same (fun j hj=>⟨by have:=hj.1;simp only[World.size_alloc] at this;omega,hj.2⟩) (fun _ _=>rfl);have q1:Boxed w2 W.heap.size 31 (.int .i64 0):=(hB2.block _ HK1.out.lt).trans HK1.out;have q2:Boxed w2 (W.heap.size+1) 3 (.int .i64 0):=(hB2.block _ HK2.out.lt).trans HK2.out;have hBW:=HB.out.trans (hB2.mono HB.out.size);have HQ1:=qaa q1;have HQ2:=qaa q2;have HBW:=qaa hBW;have c1:=q1.cell;have f1:=q1.frozen;have c2:=q2.cell;have f2:=q2.frozen;go_wp2;have g1:=grownBy_setCell' w2 W.heap.size (.int .i64 0);have g2:=grownBy_setCell' (w2.setCell ⟨W.heap.size,0,none⟩ (.int .i64 0)) (W.heap.size+1) (.int .i64 0);have t1:=((HQ1.out.set (.int .i64 0)).kept g2 (by intro e;injection e with e;omega)).cell;have t2:=(Boxed.set (.int .i64 0) (HQ2.out.kept g1 (by intro e;injection e with e;omega))).cell;have hfin:Below W.heap.size W ((w2.setCell ⟨W.heap.size,0,none⟩ (.int .i64 0)).setCell ⟨W.heap.size+1,0,none⟩ (.int .i64 0)) :=
  HBW.out.trans ⟨rfl,rfl,rfl,by simp[World.setCell],fun k hk=>(heap_setCell_other _ _ _ _ (by simp;omega)).trans (heap_setCell_other w2 _ _ _ (by simp;omega))⟩
 have hDV:qai k ((w2.setCell ⟨W.heap.size,0,none⟩ (.int .i64 0)).setCell ⟨W.heap.size+1,0,none⟩ (.int .i64 0)) (fun j=>W.heap.size≤j∧j<((w2.setCell ⟨W.heap.size,0,none⟩ (.int .i64 0)).setCell ⟨W.heap.size+1,0,none⟩ (.int .i64 0)).heap.size) (.iface t y) d:=HD.out.same (fun j hj=>⟨by omega,by simp[World.setCell];exact hj.2⟩) (fun j hj=>(heap_setCell_other _ _ _ _ (by simp;omega)).trans (heap_setCell_other w2 _ _ _ (by simp;omega)));generalize (w2.setCell ⟨W.heap.size,0,none⟩ (.int .i64 0)).setCell ⟨W.heap.size+1,0,none⟩ (.int .i64 0)=V at *;refine leaves_cons (f:=64) (args:=#[.pointer (some ⟨W.heap.size,0,none⟩),.pointer (some ⟨W.heap.size+1,0,none⟩)]) (by simp) (by simp[go_sem]) ?_;refine(qms ⟨W.heap.size,0,none⟩ ⟨W.heap.size+1,0,none⟩ V).mono ?_;rintro e u' w3 ⟨rfl,rfl,rfl⟩;simp[Leaves,settle,results,results39,go_sem,t1,t2,qvG,hfin];exact⟨t,y,⟨rfl,rfl⟩,hDV⟩
def qfX (fm:Int):Nat:=if fm=1 then 32 else 0
theorem qmV (fm:Int)(W:World):Calls prog 142 #[.int .i64 fm] W fun e W'=>e=.returned (.int .u8 (qfX fm))∧W'=W:=by
 by_cases h:fm=1
 ·have e1:(fm==1)=true:=by simpa using h
  have hb:qfX fm=32:=by unfold qfX;rw[if_pos h]
  rw[hb];go_enter func142,ntmps142;go_wp2;go_ret;exact⟨rfl,rfl⟩
 have e1:(fm==1)=false:=by simpa using h
 have hb:qfX fm=0:=by unfold qfX;rw[if_neg h]
 rw[hb];go_enter func142,ntmps142;go_wp2;go_ret;exact⟨rfl,rfl⟩
end
end Go.Proofs.YtllcbnfmihfaaaaGreatDoor
