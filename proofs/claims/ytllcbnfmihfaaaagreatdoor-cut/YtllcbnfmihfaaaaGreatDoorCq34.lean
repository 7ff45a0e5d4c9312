import Derived.Test.YtllcbnfmihfaaaaGreatDoorCq33
set_option maxRecDepth 100000
set_option maxHeartbeats 8000000
namespace Go.Proofs.YtllcbnfmihfaaaaGreatDoor
open Go.Proofs.Tryz
variable {b k:Nat}{W:World}{s:Src}{rd:Nat→Except (Int×Int) (DataW Unit×Nat)}{bs:List UInt8}
section
open Go.RowKit
def qlz {α:Type}(W:World)(b:Nat)(s:Src)(val:World→Value→α→Prop)(r:Except (Int×Int) (α×Nat))(e:Ending)(W':World):Prop :=
 But b W W'∧match r with
 |.ok (x,p)=>(∃v,e=.returned v∧val W' v x)∧qad W' b {s with pos:=p}
 |.error (en,pl)=>qao en pl e
theorem qqY (hb:b<W.heap.size):qhI b s (qnp k W b s) (fun V=>But b W V) :=
 ⟨fun _ _ _ _ _ h=>h.src,fun _ _ _ _ _ _ _ _ h hs hB hpq=>h.step hb hs hB (by have:=h.len;omega),fun _ _ _ _ _ h=>h.box,fun _ _ _ _ _ h=>h.but,fun _ _ h hB=>h.trans hB⟩
theorem qsc (hb:b<W.heap.size):qhI b s (qfs k W b s) (fun V=>But b W V) :=
 ⟨fun _ _ _ _ _ h=>h.src,fun _ _ _ _ _ _ _ _ h hs hB hpq=>h.go hb hs hB hpq,fun _ _ _ _ _ h=>h.box,fun _ _ _ _ _ h=>h.but,fun _ _ h hB=>h.trans hB⟩
theorem qsl (hgo:∀p d q,rd p=.ok (d,q)→p<q):∀a p a' q,liJ rd a p=.ok (a',q)→p<q:=fun a p a' q h=>by
 unfold liJ at h;split at h
 ·cases h
 next d r hr =>
 injection h with h;injection h with h1 h2;have:=hgo _ _ _ hr;omega
theorem qsh {lim:Int}(hgo:∀p d q,rd p=.ok (d,q)→p<q):∀a p a' q,enJ bs lim rd a p=.ok (a',q)→p<q:=fun a p a' q h=>by
 unfold enJ at h;split at h
 ·cases h
 next l p1 h1 =>
 split at h
 ·cases h
 next u2 p2 h2 =>
 split at h
 ·cases h
 next u3 p3 h3 =>
 split at h
 ·cases h
 next u4 p4 h4 =>
 split at h
 ·cases h
 next d p5 h5 =>
 injection h with h;injection h with h6 h7;have:=qpR h1;have:=qcm _ _ _ _ _ _ h2;have:=qcb _ _ _ _ _ _ h3;have:=qcm _ _ _ _ _ _ h4;have:=hgo _ _ _ h5;omega
theorem qu9 (k:Nat)(h:qad W b s):qnp k W b s (W.heap.size+2) s.within s.pos [] (((W.alloc (.cells #[.pointer (some ⟨b,0,none⟩)] 198)).alloc (.cells #[.slice none 0 0] 204)).alloc (.cells #[.pointer (some ⟨b,0,none⟩)] 198)):=by
 have hB:Below W.heap.size W (((W.alloc (.cells #[.pointer (some ⟨b,0,none⟩)] 198)).alloc (.cells #[.slice none 0 0] 204)).alloc (.cells #[.pointer (some ⟨b,0,none⟩)] 198)):=((bwA).alloc (by simp) _).alloc (by simp;omega) _;refine⟨h.below hB,But.of_below hB,?_,?_,Nat.le_refl _,⟨none,0,0,[],?_,World.ownsRow_nil _ _ _ _,by simp[Value.ownBlock],fun i x d hx=>by simp at hx⟩,by simp,Nat.zero_le _⟩
 ·exact(Below.heap_alloc _ _ _ (by simp;omega)).trans ((Below.heap_alloc _ _ _ (by simp)).trans (qac W _))
 ·have:=qac ((W.alloc (.cells #[.pointer (some ⟨b,0,none⟩)] 198)).alloc (.cells #[.slice none 0 0] 204)) (.cells #[.pointer (some ⟨b,0,none⟩)] 198);rw[World.size_alloc,World.size_alloc] at this;exact this
 refine(Below.heap_alloc _ _ _ (by simp)).trans ?_;have:=qac (W.alloc (.cells #[.pointer (some ⟨b,0,none⟩)] 198)) (.cells #[.slice none 0 0] 204);rw[World.size_alloc] at this;exact this
theorem qsG (k:Nat)(h:qad W b s):qfs k W b s (W.heap.size+4) s.within s.pos ([],[]) (((((W.alloc (.cells #[.pointer (some ⟨b,0,none⟩)] 198)).alloc (.cells #[.slice none 0 0] 206)).alloc (.map #[] 0)).alloc (.cells #[.map (some (W.heap.size+2))] 414)).alloc (.cells #[.pointer (some ⟨b,0,none⟩)] 198)):=by
 have hB:Below W.heap.size W (((((W.alloc (.cells #[.pointer (some ⟨b,0,none⟩)] 198)).alloc (.cells #[.slice none 0 0] 206)).alloc (.map #[] 0)).alloc (.cells #[.map (some (W.heap.size+2))] 414)).alloc (.cells #[.pointer (some ⟨b,0,none⟩)] 198)):=((((bwA).alloc (by simp) _).alloc (by simp;omega) _).alloc (by simp;omega) _).alloc (by simp;omega) _;generalize hA:W.alloc (.cells #[.pointer (some ⟨b,0,none⟩)] 198)=A at *;have hAs:A.heap.size=W.heap.size+1:=by rw[←hA];simp
 have hA0:A.heap[W.heap.size]? = some (.cells #[.pointer (some ⟨b,0,none⟩)] 198):=by rw[←hA];exact qac W _
 generalize hC:A.alloc (.cells #[.slice none 0 0] 206)=C at *;have hCs:C.heap.size=W.heap.size+2:=by rw[←hC];simp[hAs]
 have hC0:C.heap[W.heap.size]? = some (.cells #[.pointer (some ⟨b,0,none⟩)] 198):=by rw[←hC];exact(Below.heap_alloc _ _ _ (by omega)).trans hA0
 have hC1:C.heap[W.heap.size+1]? = some (.cells #[.slice none 0 0] 206):=by rw[←hC,←hAs];exact qac A _
 have hM:qaE (C.alloc (.map #[] 0)) (W.heap.size+2) []:=⟨.map [],by rw[←hCs];exact World.ownsMap_made C prog 9 (unitElem (H:=Unit)),fun l=>by simp[Maps.has]⟩
 refine⟨h.below hB,But.of_below hB,?_,?_,?_,?_,Nat.le_refl _,⟨none,0,0,[],?_,World.ownsRow_nil _ _ _ _,by simp[Value.ownBlock],fun i x d hx=>by simp at hx⟩,by simp;omega,⟨Nat.zero_le _,Nat.zero_le _⟩⟩
 ·exact(Below.heap_alloc _ _ _ (by simp;omega)).trans ((Below.heap_alloc _ _ _ (by simp;omega)).trans ((Below.heap_alloc _ _ _ (by omega)).trans hC0))
 ·refine(Below.heap_alloc _ _ _ (by simp;omega)).trans ?_;have:=qac (C.alloc (.map #[] 0)) (.cells #[.map (some (W.heap.size+2))] 414);rw[World.size_alloc,hCs] at this;exact this
 ·exact(hM.but (b:=W.heap.size) (by omega) (But.of_below bwA)).but (b:=W.heap.size) (by omega) (But.of_below bwA)
 ·have:=qac ((C.alloc (.map #[] 0)).alloc (.cells #[.map (some (W.heap.size+2))] 414)) (.cells #[.pointer (some ⟨b,0,none⟩)] 198);rw[World.size_alloc,World.size_alloc,hCs] at this;exact this
 exact(Below.heap_alloc _ _ _ (by simp;omega)).trans ((Below.heap_alloc _ _ _ (by simp;omega)).trans ((Below.heap_alloc _ _ _ (by omega)).trans hC1))
theorem qhE (k:Nat)(W:World)(b:Nat)(s:Src)(rd:Nat→Except (Int×Int) (DataW Unit×Nat))(h:qad W b s)(hrd:qgg k b {s with within:=s.within+1} W rd)(hgo:∀p d q,rd p=.ok (d,q)→p<q)(hlen:s.bs.length≤200000000)(hd:¬(s.within:Int)=s.depth)(hwi:s.within≤100000):Calls prog 300 #[.agg #[.pointer (some ⟨b,0,none⟩)]] W (qlz W b s (fun V v ds=>(∃a n c,v=.slice a n c)∧qai (k+1) V (fun j=>W.heap.size≤j∧j<V.heap.size) (.iface 204 v) (.agg ds)) (qe4 s.bs s.lim (liJ rd) 93 s.pos [])):=by
 have hbN:=ltA h.row;have hB0:Below W.heap.size W ((W.alloc (.cells #[.pointer (some ⟨b,0,none⟩)] 198)).alloc (.cells #[.slice none 0 0] 204)):=(bwA).alloc (by simp) _;have cI:=qgM ((W.alloc (.cells #[.pointer (some ⟨b,0,none⟩)] 198)).alloc (.cells #[.slice none 0 0] 204)) b (W.heap.size+1) W.heap.size s (liJ rd) [] (qnp k W b s) (fun V=>But b W V) (qqY hbN) (h.below hB0) hd hwi (by simp only[World.size_alloc];exact qu9 k h) (fun N p ds V hV=>qqb k W b s (s.within+1) rd h hrd hgo hlen N p ds V hV) (qsl hgo);have hmf:∀(fn:Fn) (first cap:Array Value) (w:World),(Instr.makeFunc fn first cap).run prog w=.ok (.func fn first cap) w:=fun _ _ _ _=>rfl;have kr:((W.alloc (.cells #[.pointer (some ⟨b,0,none⟩)] 198)).alloc (.cells #[.slice none 0 0] 204)).cell? ⟨W.heap.size,0,none⟩=some (.pointer (some ⟨b,0,none⟩)):=qab ((Below.heap_alloc _ _ _ (by simp)).trans (qac W _)) 0
 cases hr:qe4 s.bs s.lim (liJ rd) 93 s.pos [] with
 |error er =>
  obtain⟨en,pl⟩:=er;rw[hr] at cI;go_enter func300,ntmps300
  go_wp2_with (first
   |(go_at_call 309;refine cI.mono ?_;rintro e w2 hF;obtain⟨hF,hFr⟩:=(show qao en pl e∧But b W w2 from hF);obtain rfl:=hF))
  exact⟨rfl,hFr,rfl⟩
 |ok dq =>
  obtain⟨ds,q⟩:=dq;rw[hr] at cI;go_enter func300,ntmps300
  go_wp2_with (first
   |(go_at_call 309;refine cI.mono ?_;rintro e w2 hF;obtain⟨rfl,hJ⟩:=(show e=.returned (.tuple #[])∧qnp k W b s _ s.within q ds w2 from hF);obtain⟨a,l,c,xs,hL,ho,hne,hxs⟩:=hJ.own;have kl:=qab hL 0;have HO:=qaa ho;have HXS:=qaa hxs;have HB:=qaa hJ.but;have HS:=qaa hJ.src))
  go_ret;refine⟨HB.out,⟨_,rfl,⟨_,_,_,rfl⟩,?_⟩,HS.out⟩;unfold qai;refine⟨_,xs,rfl,⟨HO.out.1,?_⟩,fun i x d hx hd=>(HXS.out i x d hx hd).same (fun j hj=>⟨by omega,hj.2.1⟩) (fun _ _=>rfl)⟩;rcases HO.out.2 with h3|⟨g,cap,cur,e,hb,hg,h5⟩
  ·exact .inl h3
  exact .inr ⟨g,cap,cur,e,⟨by omega,(ltA hg)⟩,hg,h5⟩
theorem qjy (k:Nat)(W:World)(b:Nat)(s:Src)(rd:Nat→Except (Int×Int) (DataW Unit×Nat))(h:qad W b s)(hrd:qgg k b {s with within:=s.within+1} W rd)(hgo:∀p d q,rd p=.ok (d,q)→p<q)(hlen:s.bs.length≤200000000)(hU:∀V,But b W V→U8 V)(h7:7<b)(hd:¬(s.within:Int)=s.depth)(hwi:s.within≤100000):Calls prog 301 #[.agg #[.pointer (some ⟨b,0,none⟩)]] W (qlz W b s (fun V v es=>(∃a n c,v=.slice a n c)∧qai (k+1) V (fun j=>W.heap.size≤j∧j<V.heap.size) (.iface 206 v) (.map es.2)) (qe4 s.bs s.lim (enJ s.bs s.lim rd) 125 s.pos ([],[]))):=by
 have hbN:=ltA h.row;have hmm:∀V:World,(Instr.makeMap 414 none).run prog V=.ok (.map (some V.heap.size)) (V.alloc (.map #[] 0)):=fun V=>by kernel_rfl
 have hB0:Below W.heap.size W ((((W.alloc (.cells #[.pointer (some ⟨b,0,none⟩)] 198)).alloc (.cells #[.slice none 0 0] 206)).alloc (.map #[] 0)).alloc (.cells #[.map (some (W.heap.size+2))] 414)):=(((bwA).alloc (by simp) _).alloc (by simp;omega) _).alloc (by simp;omega) _;have cI:=qhR ((((W.alloc (.cells #[.pointer (some ⟨b,0,none⟩)] 198)).alloc (.cells #[.slice none 0 0] 206)).alloc (.map #[] 0)).alloc (.cells #[.map (some (W.heap.size+2))] 414)) b (W.heap.size+1) W.heap.size (W.heap.size+3) s (enJ s.bs s.lim rd) ([],[]) (qfs k W b s) (fun V=>But b W V) (qsc hbN) (h.below hB0) hd hwi (by simp only[World.size_alloc];exact qsG k h) (fun N p es V hV=>qra k W b s (s.within+1) rd h hrd hgo hlen hU h7 N p es V hV) (qsh hgo);have hmf:∀(fn:Fn) (first cap:Array Value) (w:World),(Instr.makeFunc fn first cap).run prog w=.ok (.func fn first cap) w:=fun _ _ _ _=>rfl;have kr:((((W.alloc (.cells #[.pointer (some ⟨b,0,none⟩)] 198)).alloc (.cells #[.slice none 0 0] 206)).alloc (.map #[] 0)).alloc (.cells #[.map (some (W.heap.size+2))] 414)).cell? ⟨W.heap.size,0,none⟩=some (.pointer (some ⟨b,0,none⟩)):=qab ((Below.heap_alloc _ _ _ (by simp;omega)).trans ((Below.heap_alloc _ _ _ (by simp;omega)).trans ((Below.heap_alloc _ _ _ (by simp)).trans (qac W _)))) 0
 cases hr:qe4 s.bs s.lim (enJ s.bs s.lim rd) 125 s.pos ([],[]) with
 |error er =>
  obtain⟨en,pl⟩:=er;rw[hr] at cI;go_enter func301,ntmps301
  go_wp2_with (first
   |(go_at_call 309;refine cI.mono ?_;rintro e w2 hF;obtain⟨hF,hFr⟩:=(show qao en pl e∧But b W w2 from hF);obtain rfl:=hF))
  exact⟨rfl,hFr,rfl⟩
 |ok dq =>
  obtain⟨es,q⟩:=dq;rw[hr] at cI;go_enter func301,ntmps301
  go_wp2_with (first
   |(go_at_call 309;refine cI.mono ?_;rintro e w2 hF;obtain⟨rfl,hJ⟩:=(show e=.returned (.tuple #[])∧qfs k W b s _ s.within q es w2 from hF);obtain⟨a,l,c,xs,hL,ho,hne,hxs⟩:=hJ.own;have kl:=qab hL 0;have HO:=qaa ho;have HXS:=qaa hxs;have HB:=qaa hJ.but;have HS:=qaa hJ.src))
  go_ret;refine⟨HB.out,⟨_,rfl,⟨_,_,_,rfl⟩,?_⟩,HS.out⟩;unfold qai;refine⟨_,xs,rfl,⟨HO.out.1,?_⟩,HXS.out.same (fun j hj=>⟨by omega,hj.2.1⟩) (fun _ _=>rfl)⟩;rcases HO.out.2 with h3|⟨g,cap,cur,e,hb,hg,h5⟩
  ·exact .inl h3
  exact .inr ⟨g,cap,cur,e,⟨by omega,(ltA hg)⟩,hg,h5⟩
theorem qdB (W:World)(b:Nat)(s:Src)(last:Int)(fn:Fn)(fs cs:Array Value)(h:qad W b s)(hd:(s.within:Int)=s.depth):Calls prog 309 #[.agg #[.pointer (some ⟨b,0,none⟩)],.int .u8 last,.func fn fs cs] W fun e W'=>qao 11 ((s.pos:Int)-1) e∧But b W W':=by
 have HX:=qaa (qaR h);have cE:=qjb _ b s HX.out.src hd;have k0:=qab HX.out.box 0;go_enter func309,ntmps309;go_wp2;go_step3
 go_wp2_with (first
  |(go_at_call 289;refine cE.mono ?_;rintro e w2 ⟨hF,hB2,_⟩;obtain rfl:=hF))
 exact⟨rfl,rfl,HX.out.but.trans hB2⟩
theorem qi2 (W:World)(b:Nat)(s:Src)(h:qad W b s)(hd:(s.within:Int)=s.depth):Calls prog 300 #[.agg #[.pointer (some ⟨b,0,none⟩)]] W fun e W'=>qao 11 ((s.pos:Int)-1) e∧But b W W':=by
 have hB0:Below W.heap.size W ((W.alloc (.cells #[.pointer (some ⟨b,0,none⟩)] 198)).alloc (.cells #[.slice none 0 0] 204)):=(bwA).alloc (by simp) _;have HB:Hid (But b W ((W.alloc (.cells #[.pointer (some ⟨b,0,none⟩)] 198)).alloc (.cells #[.slice none 0 0] 204))):=But.of_below hB0;have hmm:∀V:World,(Instr.makeMap 414 none).run prog V=.ok (.map (some V.heap.size)) (V.alloc (.map #[] 0)):=fun V=>by kernel_rfl
 have cI:=fun last fn fs cs=>qdB _ b s last fn fs cs (h.below hB0) hd;have hmf:∀(fn:Fn) (first cap:Array Value) (w:World),(Instr.makeFunc fn first cap).run prog w=.ok (.func fn first cap) w:=fun _ _ _ _=>rfl;have kr:((W.alloc (.cells #[.pointer (some ⟨b,0,none⟩)] 198)).alloc (.cells #[.slice none 0 0] 204)).cell? ⟨W.heap.size,0,none⟩=some (.pointer (some ⟨b,0,none⟩)):=qab ((Below.heap_alloc _ _ _ (by simp)).trans (qac W _)) 0;go_enter func300,ntmps300
 go_wp2_with (first
  |(go_at_call 309;refine(cI _ _ _ _).mono ?_;rintro e w2 ⟨hF,hB2⟩;obtain rfl:=hF))
 exact⟨rfl,rfl,HB.out.trans hB2⟩
theorem qjd (W:World)(b:Nat)(s:Src)(h:qad W b s)(hd:(s.within:Int)=s.depth):Calls prog 301 #[.agg #[.pointer (some ⟨b,0,none⟩)]] W fun e W'=>qao 11 ((s.pos:Int)-1) e∧But b W W':=by
 have hB0:Below W.heap.size W ((((W.alloc (.cells #[.pointer (some ⟨b,0,none⟩)] 198)).alloc (.cells #[.slice none 0 0] 206)).alloc (.map #[] 0)).alloc (.cells #[.map (some (W.heap.size+2))] 414)):=(((bwA).alloc (by simp) _).alloc (by simp;omega) _).alloc (by simp;omega) _;have HB:Hid (But b W ((((W.alloc (.cells #[.pointer (some ⟨b,0,none⟩)] 198)).alloc (.cells #[.slice none 0 0] 206)).alloc (.map #[] 0)).alloc (.cells #[.map (some (W.heap.size+2))] 414))):=But.of_below hB0;have hmm:∀V:World,(Instr.makeMap 414 none).run prog V=.ok (.map (some V.heap.size)) (V.alloc (.map #[] 0)):=fun V=>by kernel_rfl
 have cI:=fun last fn fs cs=>qdB _ b s last fn fs cs (h.below hB0) hd;have hmf:∀(fn:Fn) (first cap:Array Value) (w:World),(Instr.makeFunc fn first cap).run prog w=.ok (.func fn first cap) w:=fun _ _ _ _=>rfl;have kr:((((W.alloc (.cells #[.pointer (some ⟨b,0,none⟩)] 198)).alloc (.cells #[.slice none 0 0] 206)).alloc (.map #[] 0)).alloc (.cells #[.map (some (W.heap.size+2))] 414)).cell? ⟨W.heap.size,0,none⟩=some (.pointer (some ⟨b,0,none⟩)):=qab ((Below.heap_alloc _ _ _ (by simp;omega)).trans ((Below.heap_alloc _ _ _ (by simp;omega)).trans ((Below.heap_alloc _ _ _ (by simp)).trans (qac W _)))) 0;go_enter func301,ntmps301
 go_wp2_with (first
  |(go_at_call 309;refine(cI _ _ _ _).mono ?_;rintro e w2 ⟨hF,hB2⟩;obtain rfl:=hF))
 exact⟨rfl,rfl,HB.out.trans hB2⟩
theorem qk6 {lim:Int}{most:Nat}{z:Bool}:∀{g p num:Nat} {x q:Nat},qfi bs lim most z g p num=.ok (x,q)→p≤q
 |0,p,num,x,q,h=>by
  unfold qfi at h;cases h;exact Nat.le_refl _
 |g+1,p,num,x,q,h=>by
  unfold qfi at h;split at h
  ·cases h;exact Nat.le_refl _
  split at h
  ·cases h
  split at h
  ·split at h
   ·cases h
   split at h
   ·cases h
   have:=qk6 h;omega
  split at h
  ·cases h
  cases h;exact Nat.le_refl _
theorem qhv {c:UInt8}{z:Int}{q:Nat}(hc:c.toNat=45∨qcQ c=true)(h:qg4 s c=.ok (z,q)):(-9223372036854775808≤z∧z≤9223372036854775807)∧s.pos≤q:=by
 unfold qg4 at h;split at h
 ·split at h
  ·cases h
  split at h
  ·cases h
  split at h
  ·next c' _ _ hd =>
   have hr:=of_decide_eq_true hd;split at h
   ·next x p hx =>
    injection h with h;injection h with h1 h2;have:=qfK (by omega) (by decide) hx;have:=qk6 hx;exact⟨by omega,by omega⟩
   cases h
  cases h
 next hn =>
 have hd:qcQ c=true:=by
  rcases hc with hc|hc
  ·exact absurd hc hn
  exact hc
 have hr:=of_decide_eq_true hd;split at h
 ·next x p hx =>
  injection h with h;injection h with h1 h2;have:=qfK (by omega) (by decide) hx;have:=qk6 hx;exact⟨by omega,by omega⟩
 cases h
theorem qpc (g:Nat)(W:World)(b:Nat)(s:Src)(c:UInt8)(h:qad W b s)(h1:qfp s c)(hc:c.toNat=110):Calls prog 296 #[.agg #[.pointer (some ⟨b,0,none⟩)]] W (qc7 (g+1) W b s (match qaT s.bs s.lim [117,108,108] (s.pos+1) with|.error e=>.error e|.ok (_,q)=>.ok (.nil,q))):=by
 have HX0:=qaa (qaR h);have kb:=HX0.out.cell;have cT:=qau _ b s c HX0.out.src h1;have hbN:=ltA h.row;have e1:((c.toNat:Int)==110)=true:=by rw[hc];rfl
 have e2:=nec (c:=c) 116 (by omega);have e3:=nec (c:=c) 102 (by omega);have e4:=nec (c:=c) 34 (by omega);have e5:=nec (c:=c) 91 (by omega);have e6:=nec (c:=c) 123 (by omega);have cR:∀V,qad V b s.next→But b W V→Calls prog 298 #[.agg #[.pointer (some ⟨b,0,none⟩)],.string ⟨#[117,108,108]⟩] V (qbJ V b s.next (fun _:Unit=>.tuple #[]) (qaT s.bs s.lim [117,108,108] (s.pos+1))):=fun V hV _=>qbv V b s.next [117,108,108] (by simp) hV
 cases hz:qaT s.bs s.lim [117,108,108] (s.pos+1) with
 |error er =>
  obtain⟨en,pl⟩:=er;rw[hz] at cR;simp only[];go_enter func296,ntmps296
  go_wp2_with (first
   |(go_at_call 294;refine cT.mono ?_;rintro e w2 ⟨rfl,hS2,hB2⟩;have HX:=qaa (HX0.out.step hS2 hB2);have kb:=HX.out.cell;have cR1:=cR w2 HX.out.src HX.out.but)
   |(go_at_call 298;refine cR1.mono ?_;rintro e w4 ⟨hB4,hF4⟩;obtain rfl:=(show qao en pl e from hF4)))
  exact⟨rfl,HX.out.but.trans hB4,rfl⟩
 |ok xq =>
  obtain⟨x,q⟩:=xq;rw[hz] at cR;simp only[];go_enter func296,ntmps296
  go_wp2_with (first
   |(go_at_call 294;refine cT.mono ?_;rintro e w2 ⟨rfl,hS2,hB2⟩;have HX:=qaa (HX0.out.step hS2 hB2);have kb:=HX.out.cell;have cR1:=cR w2 HX.out.src HX.out.but)
   |(go_at_call 298;refine cR1.mono ?_;rintro e w4 ⟨hB4,hF4⟩;obtain⟨rfl,hS4⟩:=(show e=.returned (.tuple #[])∧qad w4 b {s with pos:=q} from hF4)))
  go_ret;exact⟨HX.out.but.trans hB4,⟨_,_,rfl,rfl⟩,hS4⟩
theorem qm7 (g:Nat)(W:World)(b:Nat)(s:Src)(c:UInt8)(h:qad W b s)(h1:qfp s c)(hc:c.toNat=116):Calls prog 296 #[.agg #[.pointer (some ⟨b,0,none⟩)]] W (qc7 (g+1) W b s (match qaT s.bs s.lim [114,117,101] (s.pos+1) with|.error e=>.error e|.ok (_,q)=>.ok (.lit (.bool true),q))):=by
 have HX0:=qaa (qaR h);have kb:=HX0.out.cell;have cT:=qau _ b s c HX0.out.src h1;have hbN:=ltA h.row;have e1:=nec (c:=c) 110 (by omega);have e2:((c.toNat:Int)==116)=true:=by rw[hc];rfl
 have e3:=nec (c:=c) 102 (by omega);have e4:=nec (c:=c) 34 (by omega);have e5:=nec (c:=c) 91 (by omega);have e6:=nec (c:=c) 123 (by omega);have cR:∀V,qad V b s.next→But b W V→Calls prog 298 #[.agg #[.pointer (some ⟨b,0,none⟩)],.string ⟨#[114,117,101]⟩] V (qbJ V b s.next (fun _:Unit=>.tuple #[]) (qaT s.bs s.lim [114,117,101] (s.pos+1))):=fun V hV _=>qbv V b s.next [114,117,101] (by simp) hV
 cases hz:qaT s.bs s.lim [114,117,101] (s.pos+1) with
 |error er =>
  obtain⟨en,pl⟩:=er;rw[hz] at cR;simp only[];go_enter func296,ntmps296
  go_wp2_with (first
   |(go_at_call 294;refine cT.mono ?_;rintro e w2 ⟨rfl,hS2,hB2⟩;have HX:=qaa (HX0.out.step hS2 hB2);have kb:=HX.out.cell;have cR1:=cR w2 HX.out.src HX.out.but)
   |(go_at_call 298;refine cR1.mono ?_;rintro e w4 ⟨hB4,hF4⟩;obtain rfl:=(show qao en pl e from hF4)))
  exact⟨rfl,HX.out.but.trans hB4,rfl⟩
 |ok xq =>
  obtain⟨x,q⟩:=xq;rw[hz] at cR;simp only[];go_enter func296,ntmps296
  go_wp2_with (first
   |(go_at_call 294;refine cT.mono ?_;rintro e w2 ⟨rfl,hS2,hB2⟩;have HX:=qaa (HX0.out.step hS2 hB2);have kb:=HX.out.cell;have cR1:=cR w2 HX.out.src HX.out.but)
   |(go_at_call 298;refine cR1.mono ?_;rintro e w4 ⟨hB4,hF4⟩;obtain⟨rfl,hS4⟩:=(show e=.returned (.tuple #[])∧qad w4 b {s with pos:=q} from hF4)))
  go_ret;exact⟨HX.out.but.trans hB4,⟨_,_,rfl,rfl⟩,hS4⟩
theorem qky (g:Nat)(W:World)(b:Nat)(s:Src)(c:UInt8)(h:qad W b s)(h1:qfp s c)(hc:c.toNat=102):Calls prog 296 #[.agg #[.pointer (some ⟨b,0,none⟩)]] W (qc7 (g+1) W b s (match qaT s.bs s.lim [97,108,115,101] (s.pos+1) with|.error e=>.error e|.ok (_,q)=>.ok (.lit (.bool false),q))):=by
 have HX0:=qaa (qaR h);have kb:=HX0.out.cell;have cT:=qau _ b s c HX0.out.src h1;have hbN:=ltA h.row;have e1:=nec (c:=c) 110 (by omega);have e2:=nec (c:=c) 116 (by omega);have e3:((c.toNat:Int)==102)=true:=by rw[hc];rfl
 have e4:=nec (c:=c) 34 (by omega);have e5:=nec (c:=c) 91 (by omega);have e6:=nec (c:=c) 123 (by omega);have cR:∀V,qad V b s.next→But b W V→Calls prog 298 #[.agg #[.pointer (some ⟨b,0,none⟩)],.string ⟨#[97,108,115,101]⟩] V (qbJ V b s.next (fun _:Unit=>.tuple #[]) (qaT s.bs s.lim [97,108,115,101] (s.pos+1))):=fun V hV _=>qbv V b s.next [97,108,115,101] (by simp) hV
 cases hz:qaT s.bs s.lim [97,108,115,101] (s.pos+1) with
 |error er =>
  obtain⟨en,pl⟩:=er;rw[hz] at cR;simp only[];go_enter func296,ntmps296
  go_wp2_with (first
   |(go_at_call 294;refine cT.mono ?_;rintro e w2 ⟨rfl,hS2,hB2⟩;have HX:=qaa (HX0.out.step hS2 hB2);have kb:=HX.out.cell;have cR1:=cR w2 HX.out.src HX.out.but)
   |(go_at_call 298;refine cR1.mono ?_;rintro e w4 ⟨hB4,hF4⟩;obtain rfl:=(show qao en pl e from hF4)))
  exact⟨rfl,HX.out.but.trans hB4,rfl⟩
 |ok xq =>
  obtain⟨x,q⟩:=xq;rw[hz] at cR;simp only[];go_enter func296,ntmps296
  go_wp2_with (first
   |(go_at_call 294;refine cT.mono ?_;rintro e w2 ⟨rfl,hS2,hB2⟩;have HX:=qaa (HX0.out.step hS2 hB2);have kb:=HX.out.cell;have cR1:=cR w2 HX.out.src HX.out.but)
   |(go_at_call 298;refine cR1.mono ?_;rintro e w4 ⟨hB4,hF4⟩;obtain⟨rfl,hS4⟩:=(show e=.returned (.tuple #[])∧qad w4 b {s with pos:=q} from hF4)))
  go_ret;exact⟨HX.out.but.trans hB4,⟨_,_,rfl,rfl⟩,hS4⟩
theorem qmF (g:Nat)(W:World)(b:Nat)(s:Src)(c:UInt8)(h:qad W b s)(h1:qfp s c)(hc:c.toNat=34)(hlen:s.bs.length≤200000000)(hU:∀V,But b W V→U8 V)(h7:7<b):Calls prog 296 #[.agg #[.pointer (some ⟨b,0,none⟩)]] W (qc7 (g+1) W b s (match qfe s.bs s.lim (s.bs.length+1-(s.pos+1)) (s.pos+1) [] 0 with|.error e=>.error e|.ok (x,q)=>.ok (.lit (.string x),q))):=by
 have HX0:=qaa (qaR h);have kb:=HX0.out.cell;have cT:=qau _ b s c HX0.out.src h1;have hbN:=ltA h.row;have e1:=nec (c:=c) 110 (by omega);have e2:=nec (c:=c) 116 (by omega);have e3:=nec (c:=c) 102 (by omega);have e4:((c.toNat:Int)==34)=true:=by rw[hc];rfl
 have e5:=nec (c:=c) 91 (by omega);have e6:=nec (c:=c) 123 (by omega);have cR:∀V,qad V b s.next→But b W V→Calls prog 299 #[.agg #[.pointer (some ⟨b,0,none⟩)]] V (qbJ V b s.next (fun l:List UInt8=>.string ⟨l.toArray⟩) (qfe s.bs s.lim (s.bs.length+1-(s.pos+1)) (s.pos+1) [] 0)):=fun V hV hB=>qeQ V b s.next hV (hU V hB) h7 hlen
 cases hz:qfe s.bs s.lim (s.bs.length+1-(s.pos+1)) (s.pos+1) [] 0 with
 |error er =>
  obtain⟨en,pl⟩:=er;rw[hz] at cR;simp only[];go_enter func296,ntmps296
  go_wp2_with (first
   |(go_at_call 294;refine cT.mono ?_;rintro e w2 ⟨rfl,hS2,hB2⟩;have HX:=qaa (HX0.out.step hS2 hB2);have kb:=HX.out.cell;have cR1:=cR w2 HX.out.src HX.out.but)
   |(go_at_call 299;refine cR1.mono ?_;rintro e w4 ⟨hB4,hF4⟩;obtain rfl:=(show qao en pl e from hF4)))
  exact⟨rfl,HX.out.but.trans hB4,rfl⟩
 |ok xq =>
  obtain⟨x,q⟩:=xq;rw[hz] at cR;simp only[];go_enter func296,ntmps296
  go_wp2_with (first
   |(go_at_call 294;refine cT.mono ?_;rintro e w2 ⟨rfl,hS2,hB2⟩;have HX:=qaa (HX0.out.step hS2 hB2);have kb:=HX.out.cell;have cR1:=cR w2 HX.out.src HX.out.but)
   |(go_at_call 299;refine cR1.mono ?_;rintro e w4 ⟨hB4,hF4⟩;obtain⟨rfl,hS4⟩:=(show e=.returned (.string ⟨x.toArray⟩)∧qad w4 b {s with pos:=q} from hF4)))
  go_ret;exact⟨HX.out.but.trans hB4,⟨_,_,rfl,rfl⟩,hS4⟩
theorem qmp (g:Nat)(W:World)(b:Nat)(s:Src)(c:UInt8)(h:qad W b s)(h1:qfp s c)(hc:c.toNat=91)(rd:Nat→Except (Int×Int) (DataW Unit×Nat))(hrd:qgg g b {s with within:=s.within+1} W rd)(hgo:∀p d q,rd p=.ok (d,q)→p<q)(hlen:s.bs.length≤200000000)(hd:¬(s.within:Int)=s.depth)(hwi:s.within≤100000):Calls prog 296 #[.agg #[.pointer (some ⟨b,0,none⟩)]] W (qc7 (g+1) W b s (match qe4 s.bs s.lim (liJ rd) 93 (s.pos+1) [] with|.error e=>.error e|.ok (x,q)=>.ok (.agg x,q))):=by
 have HX0:=qaa (qaR h);have kb:=HX0.out.cell;have cT:=qau _ b s c HX0.out.src h1;have hbN:=ltA h.row;have e1:=nec (c:=c) 110 (by omega);have e2:=nec (c:=c) 116 (by omega);have e3:=nec (c:=c) 102 (by omega);have e4:=nec (c:=c) 34 (by omega);have e5:((c.toNat:Int)==91)=true:=by rw[hc];rfl
 have e6:=nec (c:=c) 123 (by omega);have cR:∀V,qad V b s.next→But b W V→Calls prog 300 #[.agg #[.pointer (some ⟨b,0,none⟩)]] V (qlz V b s.next (fun V' v x=>(∃a n c,v=.slice a n c)∧qai (g+1) V' (fun j=>V.heap.size≤j∧j<V'.heap.size) (.iface 204 v) (.agg x)) (qe4 s.bs s.lim (liJ rd) 93 (s.pos+1) [])):=fun V hV hB=>qhE g V b s.next rd hV (fun U p h1 h2=>hrd U p h1 (hB.trans h2)) hgo hlen hd hwi
 cases hz:qe4 s.bs s.lim (liJ rd) 93 (s.pos+1) [] with
 |error er =>
  obtain⟨en,pl⟩:=er;rw[hz] at cR;simp only[];go_enter func296,ntmps296
  go_wp2_with (first
   |(go_at_call 294;refine cT.mono ?_;rintro e w2 ⟨rfl,hS2,hB2⟩;have HX:=qaa (HX0.out.step hS2 hB2);have kb:=HX.out.cell;have cR1:=cR w2 HX.out.src HX.out.but)
   |(go_at_call 300;refine cR1.mono ?_;rintro e w4 ⟨hB4,hF4⟩;obtain rfl:=(show qao en pl e from hF4)))
  exact⟨rfl,HX.out.but.trans hB4,rfl⟩
 |ok xq =>
  obtain⟨x,q⟩:=xq;rw[hz] at cR;simp only[];go_enter func296,ntmps296
  go_wp2_with (first
   |(go_at_call 294;refine cT.mono ?_;rintro e w2 ⟨rfl,hS2,hB2⟩;have HX:=qaa (HX0.out.step hS2 hB2);have kb:=HX.out.cell;have cR1:=cR w2 HX.out.src HX.out.but)
   |(go_at_call 300;refine cR1.mono ?_;rintro e w4 ⟨hB4,hF4⟩;obtain⟨⟨v4,rfl,⟨a4,n4,c4,rfl⟩,hD4⟩,hS4⟩:=(show(∃v,e=.returned v∧(∃a n c,v=.slice a n c)∧qai (g+1) w4 (fun j=>w2.heap.size≤j∧j<w4.heap.size) (.iface 204 v) (.agg x))∧qad w4 b {s with pos:=q} from hF4);have HD:=qaa hD4))
  go_ret;exact⟨HX.out.but.trans hB4,⟨_,_,rfl,HD.out.same (fun j hj=>⟨Nat.le_trans HX.out.but.size hj.1,hj.2⟩) (fun _ _=>rfl)⟩,hS4⟩
theorem qfM (W:World)(b:Nat)(s:Src)(c:UInt8)(h:qad W b s)(h1:qfp s c)(hc:c.toNat=91)(hd:(s.within:Int)=s.depth):Calls prog 296 #[.agg #[.pointer (some ⟨b,0,none⟩)]] W fun e W'=>But b W W'∧qao 11 s.pos e:=by
 have HX0:=qaa (qaR h);have kb:=HX0.out.cell;have cT:=qau _ b s c HX0.out.src h1;have e1:=nec (c:=c) 110 (by omega);have e2:=nec (c:=c) 116 (by omega);have e3:=nec (c:=c) 102 (by omega);have e4:=nec (c:=c) 34 (by omega);have e5:((c.toNat:Int)==91)=true:=by rw[hc];rfl
 have e6:=nec (c:=c) 123 (by omega);have cR:∀V,qad V b s.next→Calls prog 300 #[.agg #[.pointer (some ⟨b,0,none⟩)]] V fun e W'=>qao 11 s.pos e∧But b V W':=fun V hV=>by
  have:=qi2 V b s.next hV hd
  rwa [show((s.next.pos:Int)-1)=s.pos by show(((s.pos+1:Nat)):Int)-1=s.pos;omega] at this
 go_enter func296,ntmps296
 go_wp2_with (first
  |(go_at_call 294;refine cT.mono ?_;rintro e w2 ⟨rfl,hS2,hB2⟩;have HX:=qaa (HX0.out.step hS2 hB2);have kb:=HX.out.cell;have cR1:=cR w2 HX.out.src)
  |(go_at_call 300;refine cR1.mono ?_;rintro e w4 ⟨hF4,hB4⟩;obtain rfl:=hF4))
 exact⟨rfl,HX.out.but.trans hB4,rfl⟩
theorem qpu (g:Nat)(W:World)(b:Nat)(s:Src)(c:UInt8)(h:qad W b s)(h1:qfp s c)(hc:c.toNat=123)(rd:Nat→Except (Int×Int) (DataW Unit×Nat))(hrd:qgg g b {s with within:=s.within+1} W rd)(hgo:∀p d q,rd p=.ok (d,q)→p<q)(hlen:s.bs.length≤200000000)(hU:∀V,But b W V→U8 V)(h7:7<b)(hd:¬(s.within:Int)=s.depth)(hwi:s.within≤100000):Calls prog 296 #[.agg #[.pointer (some ⟨b,0,none⟩)]] W (qc7 (g+1) W b s (match qe4 s.bs s.lim (enJ s.bs s.lim rd) 125 (s.pos+1) ([],[]) with|.error e=>.error e|.ok (x,q)=>.ok (.map x.2,q))):=by
 have HX0:=qaa (qaR h);have kb:=HX0.out.cell;have cT:=qau _ b s c HX0.out.src h1;have hbN:=ltA h.row;have e1:=nec (c:=c) 110 (by omega);have e2:=nec (c:=c) 116 (by omega);have e3:=nec (c:=c) 102 (by omega);have e4:=nec (c:=c) 34 (by omega);have e5:=nec (c:=c) 91 (by omega);have e6:((c.toNat:Int)==123)=true:=by rw[hc];rfl
 have cR:∀V,qad V b s.next→But b W V→Calls prog 301 #[.agg #[.pointer (some ⟨b,0,none⟩)]] V (qlz V b s.next (fun V' v x=>(∃a n c,v=.slice a n c)∧qai (g+1) V' (fun j=>V.heap.size≤j∧j<V'.heap.size) (.iface 206 v) (.map x.2)) (qe4 s.bs s.lim (enJ s.bs s.lim rd) 125 (s.pos+1) ([],[]))):=fun V hV hB=>qjy g V b s.next rd hV (fun U p h1 h2=>hrd U p h1 (hB.trans h2)) hgo hlen (fun X hX=>hU X (hB.trans hX)) h7 hd hwi
 cases hz:qe4 s.bs s.lim (enJ s.bs s.lim rd) 125 (s.pos+1) ([],[]) with
 |error er =>
  obtain⟨en,pl⟩:=er;rw[hz] at cR;simp only[];go_enter func296,ntmps296
  go_wp2_with (first
   |(go_at_call 294;refine cT.mono ?_;rintro e w2 ⟨rfl,hS2,hB2⟩;have HX:=qaa (HX0.out.step hS2 hB2);have kb:=HX.out.cell;have cR1:=cR w2 HX.out.src HX.out.but)
   |(go_at_call 301;refine cR1.mono ?_;rintro e w4 ⟨hB4,hF4⟩;obtain rfl:=(show qao en pl e from hF4)))
  exact⟨rfl,HX.out.but.trans hB4,rfl⟩
 |ok xq =>
  obtain⟨x,q⟩:=xq;rw[hz] at cR;simp only[];go_enter func296,ntmps296
  go_wp2_with (first
   |(go_at_call 294;refine cT.mono ?_;rintro e w2 ⟨rfl,hS2,hB2⟩;have HX:=qaa (HX0.out.step hS2 hB2);have kb:=HX.out.cell;have cR1:=cR w2 HX.out.src HX.out.but)
   |(go_at_call 301;refine cR1.mono ?_;rintro e w4 ⟨hB4,hF4⟩;obtain⟨⟨v4,rfl,⟨a4,n4,c4,rfl⟩,hD4⟩,hS4⟩:=(show(∃v,e=.returned v∧(∃a n c,v=.slice a n c)∧qai (g+1) w4 (fun j=>w2.heap.size≤j∧j<w4.heap.size) (.iface 206 v) (.map x.2))∧qad w4 b {s with pos:=q} from hF4);have HD:=qaa hD4))
  go_ret;exact⟨HX.out.but.trans hB4,⟨_,_,rfl,HD.out.same (fun j hj=>⟨Nat.le_trans HX.out.but.size hj.1,hj.2⟩) (fun _ _=>rfl)⟩,hS4⟩
theorem qgI (W:World)(b:Nat)(s:Src)(c:UInt8)(h:qad W b s)(h1:qfp s c)(hc:c.toNat=123)(hd:(s.within:Int)=s.depth):Calls prog 296 #[.agg #[.pointer (some ⟨b,0,none⟩)]] W fun e W'=>But b W W'∧qao 11 s.pos e:=by
 have HX0:=qaa (qaR h);have kb:=HX0.out.cell;have cT:=qau _ b s c HX0.out.src h1;have e1:=nec (c:=c) 110 (by omega);have e2:=nec (c:=c) 116 (by omega);have e3:=nec (c:=c) 102 (by omega);have e4:=nec (c:=c) 34 (by omega);have e5:=nec (c:=c) 91 (by omega);have e6:((c.toNat:Int)==123)=true:=by rw[hc];rfl
 have cR:∀V,qad V b s.next→Calls prog 301 #[.agg #[.pointer (some ⟨b,0,none⟩)]] V fun e W'=>qao 11 s.pos e∧But b V W':=fun V hV=>by
  have:=qjd V b s.next hV hd
  rwa [show((s.next.pos:Int)-1)=s.pos by show(((s.pos+1:Nat)):Int)-1=s.pos;omega] at this
 go_enter func296,ntmps296
 go_wp2_with (first
  |(go_at_call 294;refine cT.mono ?_;rintro e w2 ⟨rfl,hS2,hB2⟩;have HX:=qaa (HX0.out.step hS2 hB2);have kb:=HX.out.cell;have cR1:=cR w2 HX.out.src)
  |(go_at_call 301;refine cR1.mono ?_;rintro e w4 ⟨hF4,hB4⟩;obtain rfl:=hF4))
 exact⟨rfl,HX.out.but.trans hB4,rfl⟩
theorem qn6 (W:World)(b:Nat)(s:Src)(c:UInt8)(h:qad W b s)(h1:qfp s c)(hn:¬(c.toNat=110∨c.toNat=116∨c.toNat=102∨c.toNat=34∨c.toNat=91∨c.toNat=123∨c.toNat=45∨qcQ c=true)):Calls prog 296 #[.agg #[.pointer (some ⟨b,0,none⟩)]] W fun e W'=>But b W W'∧qao 9 s.pos e:=by
 have HX0:=qaa (qaR h);have kb:=HX0.out.cell;have cT:=qau _ b s c HX0.out.src h1;have e1:=nec (c:=c) 110 (by omega);have e2:=nec (c:=c) 116 (by omega);have e3:=nec (c:=c) 102 (by omega);have e4:=nec (c:=c) 34 (by omega);have e5:=nec (c:=c) 91 (by omega);have e6:=nec (c:=c) 123 (by omega);have e7:=nec (c:=c) 45 (by omega);have hdc:decide (48≤(c.toNat:Int)∧(c.toNat:Int)≤57)=false:=by
  have:qcQ c=false:=by cases hh:qcQ c with|false=>rfl|true=>exact absurd (.inr (.inr (.inr (.inr (.inr (.inr (.inr hh))))))) hn
  exact this
 have cR:∀V,qad V b s.next→Calls prog 295 #[.pointer (some ⟨b,0,none⟩),.int .i64 9] V fun e W'=>qao 9 s.pos e∧W'=V:=fun V hV=>by
  have:=qat V b s.next 9 hV
  rwa [show((s.next.pos:Int)-1)=s.pos by show(((s.pos+1:Nat)):Int)-1=s.pos;omega] at this
 go_enter func296,ntmps296
 go_wp2_with (first
  |(go_at_call 294;refine cT.mono ?_;rintro e w2 ⟨rfl,hS2,hB2⟩;have HX:=qaa (HX0.out.step hS2 hB2);have kb:=HX.out.cell;have cR1:=cR w2 HX.out.src)
  |(go_at_call 302;refine(qbg c _).mono ?_;rintro e w3 ⟨rfl,rfl⟩;rw[hdc])
  |(go_at_call 295;refine cR1.mono ?_;rintro e w7 ⟨hF,rfl⟩;obtain rfl:=hF))
 exact⟨rfl,HX.out.but,rfl⟩
theorem qgY (W:World)(b:Nat)(s:Src)(en:Int)(h:qad W b s)(cT0:∀V,qad V b s→Calls prog 294 #[.pointer (some ⟨b,0,none⟩)] V fun e W'=>qao en s.pos e∧Below V.heap.size V W'):Calls prog 296 #[.agg #[.pointer (some ⟨b,0,none⟩)]] W fun e W'=>But b W W'∧qao en s.pos e:=by
 have HX0:=qaa (qaR h);have kb:=HX0.out.cell;have cT:=cT0 _ HX0.out.src;go_enter func296,ntmps296
 go_wp2_with (first
  |(go_at_call 294;refine cT.mono ?_;rintro e w2 ⟨hF,hB2⟩;obtain rfl:=hF))
 exact⟨rfl,HX0.out.but.trans (But.of_below hB2),rfl⟩
end
end Go.Proofs.YtllcbnfmihfaaaaGreatDoor
