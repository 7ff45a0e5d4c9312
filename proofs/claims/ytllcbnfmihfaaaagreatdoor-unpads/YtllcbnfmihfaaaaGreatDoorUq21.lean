import Derived.Test.YtllcbnfmihfaaaaGreatDoorUq20
set_option maxRecDepth 100000
set_option maxHeartbeats 8000000
namespace Go.Proofs.YtllcbnfmihfaaaaGreatDoor
open Go.Proofs.Tryz
section
open Go.RowKit
structure qcA (k:Nat)(W:World)(b:Nat)(s:Src)(N wi p:Nat)(a:List (List UInt8)×List (Lit×DataW Unit))(V:World):Prop where
 src:qad V b {s with pos:=p,within:=wi}
 but:But b W V
 rbox:V.heap[W.heap.size]? = some (.cells #[.pointer (some ⟨b,0,none⟩)] 198)
 kbox:V.heap[W.heap.size+3]? = some (.cells #[.map (some (W.heap.size+2))] 414)
 keys:qaB V (W.heap.size+2) a.1
 box:V.heap[N]? = some (.cells #[.pointer (some ⟨b,0,none⟩)] 198)
 hN:W.heap.size+4≤N
 own:∃ad l c xs,V.heap[W.heap.size+1]? = some (.cells #[.slice ad l c] 206)∧V.ownsRow (W.heap.size+4) 208 2 (.slice ad l c) a.2.length xs∧some N≠(Value.slice ad l c).ownBlock∧qcu k V (fun j=>W.heap.size+4≤j∧j<V.heap.size∧some j≠(Value.slice ad l c).ownBlock) xs a.2
 size:W.heap.size+4≤V.heap.size
 len:a.2.length≤p∧a.1.length≤p
theorem qcA.step {k:Nat}{W V V':World}{b:Nat}{s:Src}{N wi wi' p q:Nat}{a:List (List UInt8)×List (Lit×DataW Unit)}{ks:List (List UInt8)}(h:qcA k W b s N wi p a V)(hb:b<W.heap.size)(hs:qad V' b {s with pos:=q,within:=wi' })(hB:qfV b (W.heap.size+2) V V')(hk:qaB V' (W.heap.size+2) ks)(hlen:a.2.length≤q∧ks.length≤q):qcA k W b s N wi' q (ks,a.2) V':=by
 obtain⟨ad,l,c,xs,h0,h1,h2,h3⟩:=h.own
 have hsz:=h.size
 have hN:=h.hN
 exact⟨hs,h.but.trans' hB,(hB.block _ (ltA h.rbox) (by omega) (by omega)).trans h.rbox,(hB.block _ (ltA h.kbox) (by omega) (by omega)).trans h.kbox,hk,(hB.block _ (ltA h.box) (by omega) (by omega)).trans h.box,h.hN,⟨ad,l,c,xs,(hB.block _ (ltA h0) (by omega) (by omega)).trans h0,qdF h1 hB (by omega) (by omega),h2,h3.same (fun j hj=>⟨hj.1,Nat.lt_of_lt_of_le hj.2.1 hB.size,hj.2.2⟩) (fun j hj=>hB.block j hj.2.1 (by omega) (by omega))⟩,Nat.le_trans h.size hB.size,hlen⟩
theorem qcA.go' {k:Nat}{W V V':World}{b:Nat}{s:Src}{N wi wi' p q:Nat}{a:List (List UInt8)×List (Lit×DataW Unit)}(h:qcA k W b s N wi p a V)(hb:b<W.heap.size)(hs:qad V' b {s with pos:=q,within:=wi' })(hB:But b V V')(hlen:a.2.length≤q∧a.1.length≤q):qcA k W b s N wi' q a V' :=
 h.step (ks:=a.1) hb hs (.of1 hB) (h.keys.but (by omega) hB) hlen
theorem qcA.go {k:Nat}{W V V':World}{b:Nat}{s:Src}{N wi wi' p q:Nat}{a:List (List UInt8)×List (Lit×DataW Unit)}(h:qcA k W b s N wi p a V)(hb:b<W.heap.size)(hs:qad V' b {s with pos:=q,within:=wi' })(hB:But b V V')(hpq:p≤q):qcA k W b s N wi' q a V' :=
 h.go' hb hs hB ⟨by have:=h.len.1;omega,by have:=h.len.2;omega⟩
theorem qcA.push {k:Nat}{W V V3 w5:World}{b:Nat}{s:Src}{N wi p q:Nat}{es:List (Lit×DataW Unit)}{ks:List (List UInt8)}{d:DataW Unit}{key:List UInt8}{a:Option Addr}{l c:Nat}{v' x:Value}{xs:List Value}(h:qcA k W b s N wi p (ks,es) V)(h0:qad W b s)(hb:b<W.heap.size)(hB:But b V V3)(hS:qad V3 b {s with pos:=q,within:=wi})(hd:qa2 k V3 (fun j=>V.heap.size≤j∧j<V3.heap.size) x d)(hL:V.heap[W.heap.size+1]? = some (.cells #[.slice a l c] 206))(ho:V.ownsRow (W.heap.size+4) 208 2 (.slice a l c) es.length xs)(hne:some N≠(Value.slice a l c).ownBlock)(hxs:qcu k V (fun j=>W.heap.size+4≤j∧j<V.heap.size∧some j≠(Value.slice a l c).ownBlock) xs es)(ho':w5.ownsRow (W.heap.size+4) 208 2 v' (es.length+1) (xs++[.string ⟨key.toArray⟩,x]))(hg:(V3.alloc (.cells #[.string ⟨key.toArray⟩,x] 208)).grownBy w5 (Value.slice a l c).ownBlock)(hw:v'.ownBlock=(Value.slice a l c).ownBlock∨v'.ownBlock=some (V3.alloc (.cells #[.string ⟨key.toArray⟩,x] 208)).heap.size)(hlen:es.length+1≤q)(hlen2:ks.length≤q):qcA k W b s N wi q (ks,es++[(.string key,d)]) (w5.setCell ⟨W.heap.size+1,0,none⟩ v'):=by
 have hsz:=h.size
 have hN:=h.hN
 have hNlt:=ltA h.box
 have hB3:=hB.size
 have hgs:V3.heap.size+1≤w5.heap.size:=by have:=hg.size;simpa using this
 have hky:∀g,(Value.slice a l c).ownBlock=some g→W.heap.size+4≤g:=fun g hg=>qaQ ho hg
 have klt:∀g,(Value.slice a l c).ownBlock=some g→g<V.heap.size:=qiX ho
 have hkeep:∀j,j<V3.heap.size→some j≠(Value.slice a l c).ownBlock→j≠W.heap.size+1→(w5.setCell ⟨W.heap.size+1,0,none⟩ v').heap[j]? = V3.heap[j]?:=fun j hj hn hl=>(heap_setCell_other w5 _ _ _ (by simpa using hl)).trans ((hg.block j (by simp;omega) hn).trans (Below.heap_alloc _ _ _ hj))
 have hlow:∀j,j<W.heap.size+4→j≠W.heap.size+1→(w5.setCell ⟨W.heap.size+1,0,none⟩ v').heap[j]? = V3.heap[j]?:=fun j hj hl=>hkeep j (by omega) (fun e=>by have:=hky j e.symm;omega) hl
 have hL5:w5.heap[W.heap.size+1]? = some (.cells #[.slice a l c] 206):=(hg.block _ (by simp;omega) (fun e=>by have:=hky _ e.symm;omega)).trans ((Below.heap_alloc _ _ _ (by omega)).trans ((hB.block _ (ltA hL) (by omega)).trans hL))
 have hsz2:(w5.setCell ⟨W.heap.size+1,0,none⟩ v').heap.size=w5.heap.size:=by simp[World.setCell]
 have hkeys:qaB (w5.setCell ⟨W.heap.size+1,0,none⟩ v') (W.heap.size+2) ks:=by
  have h1:qaB V3 (W.heap.size+2) ks:=h.keys.but (by omega) hB
  have h2:qaB (V3.alloc (.cells #[.string ⟨key.toArray⟩,x] 208)) (W.heap.size+2) ks:=h1.but (b:=W.heap.size+1) (by omega) (But.of_below bwA)
  have h3:qaB w5 (W.heap.size+2) ks:=h2.kept hg (fun e=>by have:=hky _ e.symm;omega)
  exact h3.but (b:=W.heap.size+1) (by omega) ⟨rfl,rfl,rfl,by simp[World.setCell],fun j _ hj=>heap_setCell_other w5 _ _ _ (by simpa using hj)⟩
 obtain⟨g5,cap5,rfl⟩:=ownsRow_succ ho'
 have ho5:(w5.setCell ⟨W.heap.size+1,0,none⟩ (.slice (some ⟨g5,0,none⟩) (es.length+1) cap5)).ownsRow (W.heap.size+4) 208 2 (.slice (some ⟨g5,0,none⟩) (es.length+1) cap5) (es.length+1) (xs++[.string ⟨key.toArray⟩,x]):=by
  refine⟨ho'.1,?_⟩
  rcases ho'.2 with h2|⟨g,cap,cur,e,hbb,hgg,h5⟩
  ·exact .inl h2
  ·exact .inr ⟨g,cap,cur,e,hbb,(heap_setCell_other w5 _ _ _ (by simp;omega)).trans hgg,h5⟩
 have hne5:∀j,j<V3.heap.size→some j≠(Value.slice a l c).ownBlock→some j≠(Value.slice (some ⟨g5,0,none⟩) (es.length+1) cap5).ownBlock:=fun j hj hn=>by
  rcases hw with hw|hw
  ·rw[hw];exact hn
  ·rw[hw];intro e;injection e with e;simp at e;omega
 refine⟨h0.same rfl rfl hS (fun j hj=>hlow j (by omega) (by omega)),⟨hg.os.trans (hB.os.trans h.but.os),hg.tape.trans (hB.tape.trans h.but.tape),hg.output.trans (hB.output.trans h.but.output),by rw[hsz2];have:=h.but.size;omega,fun j hj hn=>(hlow j (by omega) (by omega)).trans ((hB.block j (by omega) hn).trans (h.but.block j hj hn))⟩,(hlow _ (by omega) (by omega)).trans ((hB.block _ (by omega) (by omega)).trans h.rbox),(hlow _ (by omega) (by omega)).trans ((hB.block _ (by omega) (by omega)).trans h.kbox),hkeys,(hkeep N (by omega) hne (by omega)).trans ((hB.block N hNlt (by omega)).trans h.box),h.hN,⟨_,_,_,_,?_,by rw[List.length_append];exact ho5,?_,fun i y dd hc => ?_⟩,by rw[hsz2];omega,⟨by rw[List.length_append];exact hlen,hlen2⟩⟩
 ·rw[heap_setCell_same _ _ _ _ _ _ hL5]
  rfl
 ·exact hne5 N (by omega) hne
 ·have hxl:xs.length=es.length*2:=ho.1
  by_cases hi:i<es.length
  ·rw[List.getElem?_append_left hi] at hc
   obtain⟨l',x',e1,e2,e3,e4⟩:=hxs i y dd hc
   refine⟨l',x',e1,by rw[List.getElem?_append_left (by omega)];exact e2,by rw[List.getElem?_append_left (by omega)];exact e3,?_⟩
   exact e4.same (fun j hj=>⟨hj.1,by rw[hsz2];have:=hj.2.1;omega,hne5 j (by omega) hj.2.2⟩) (fun j hj=>(hkeep j (by omega) hj.2.2 (by omega)).trans (hB.block j hj.2.1 (by omega)))
  ·have e:i=es.length:=by
    have:=ltL hc
    rw[List.length_append] at this
    simp at this
    omega
   subst e
   rw[List.getElem?_append_right (by omega)] at hc
   simp at hc
   obtain⟨rfl,rfl⟩:=hc
   have hoff:∀j,V.heap.size≤j→some j≠(Value.slice a l c).ownBlock:=fun j hj e=>by have:=klt j e.symm;omega
   refine⟨key,x,rfl,?_,?_,hd.same (fun j hj=>⟨by omega,by rw[hsz2];omega,hne5 j hj.2 (hoff j hj.1)⟩) (fun j hj=>hkeep j hj.2 (hoff j hj.1) (by omega))⟩
   ·rw[List.getElem?_append_right (by omega),show 2*es.length-xs.length=0 by omega];rfl
   ·rw[List.getElem?_append_right (by omega),show 2*es.length+1-xs.length=1 by omega];rfl
theorem qlX (k:Nat)(W:World)(b:Nat)(s:Src)(wi:Nat)(rd:Nat→Except (Int×Int) (DataW Unit×Nat))(h0:qad W b s)(hrd:qeq k b {s with within:=wi} W rd)(hgo:∀p d q,rd p=.ok (d,q)→p<q)(hlen:s.bs.length≤200000000)(hU:∀V,But b W V→U8 V)(h7:7<b)(N p:Nat)(a:List (List UInt8)×List (Lit×DataW Unit))(V:World)(h:qcA k W b s N wi p a V):Calls prog 311 #[.pointer (some ⟨W.heap.size,0,none⟩),.pointer (some ⟨W.heap.size+3,0,none⟩),.pointer (some ⟨W.heap.size+1,0,none⟩)] V (qbC (qcA k W b s N wi) (fun V=>But b W V) (enJ s.bs s.lim rd a p)):=by
 obtain⟨i0,hi,hz0,hz1,hz2⟩:=info_parts Tryz.infoEntry
 have hbN:b<W.heap.size:=ltA h0.row
 have hig:∀g off,s.bs≠[]→s.ia=some ⟨g,off,none⟩→g≠W.heap.size+2:=fun g off hne e=>by
  have hl:0<s.bs.length:=by cases hbs:s.bs with|nil=>exact absurd hbs hne|cons _ _=>simp
  obtain⟨g',off',e1,_,e3⟩:=h0.inp 0 hl
  rw[e] at e1
  injection e1 with e1
  injection e1 with e1
  have:g'<W.heap.size:=block_lt_of_cell e3
  omega
 have H:Hid (qcA k W b s N wi p a V):=h
 have cK:Calls prog 312 #[.agg #[.pointer (some ⟨b,0,none⟩)],.map (some (W.heap.size+2))] V (qg7 V b (W.heap.size+2) {s with pos:=p,within:=wi} a.1 (qkl s.bs s.lim a.1 p)):=qgy V b (W.heap.size+2) {s with pos:=p,within:=wi} a.1 h.src h.keys (by omega) hig (by have h1:=h.len.2;have h2:p≤s.bs.length:=h.src.le;omega) hlen (fun V9 h9=>hU V9 (h.but.trans h9)) h7
 have cS:∀(V:World) (p:Nat),qad V b {s with pos:=p,within:=wi}→Calls prog 297 #[.agg #[.pointer (some ⟨b,0,none⟩)]] V (qbv V b {s with pos:=p,within:=wi} (fun _:Unit=>.tuple #[]) (spF s.bs s.lim (s.bs.length+1-p) p)):=fun V p hV=>qcj V b {s with pos:=p,within:=wi} hV
 have cR:∀(V:World) (p:Nat),qad V b {s with pos:=p,within:=wi}→Calls prog 298 #[.agg #[.pointer (some ⟨b,0,none⟩)],.string ⟨#[58]⟩] V (qbv V b {s with pos:=p,within:=wi} (fun _:Unit=>.tuple #[]) (qaw s.bs s.lim [58] p)):=fun V p hV=>qbs V b {s with pos:=p,within:=wi} [58] (by simp) hV
 have cT0:∀(V9:World) (q:Nat),qad V9 b {s with pos:=q,within:=wi}→But b W V9→Calls prog 296 #[.agg #[.pointer (some ⟨b,0,none⟩)]] V9 (qbV k V9 b {s with pos:=q,within:=wi} (rd q)):=fun V9 q h1 h2=>hrd V9 q h1 h2
 have k1:=qaa h.rbox 0
 have k2:=qaa h.kbox 0
 clear h hrd hU hig
 unfold enJ
 cases h1:qkl s.bs s.lim a.1 p with
 |error er =>
  obtain⟨en,pl⟩:=er
  rw[h1] at cK
  clear h1 cS cR cT0
  go_enter func311,ntmps311
  go_wp2_with (first
   |(go_at_call 312;refine cK.mono ?_;clear cK;rintro e w9 ⟨hB9,hF9⟩;obtain rfl:=(show qaj en pl e from hF9)))
  exact⟨rfl,rfl,H.out.but.trans' hB9⟩
 |ok lq =>
  obtain⟨key,q1⟩:=lq
  have hq1:=qkH h1
  rw[h1] at cK
  simp only[]
  clear h1
  cases h2:spF s.bs s.lim (s.bs.length+1-q1) q1 with
  |error er =>
   obtain⟨en,pl⟩:=er
   have HZ2:Hid (spF s.bs s.lim (s.bs.length+1-q1) q1=.error (en,pl)):=h2
   clear h2 cR cT0
   go_enter func311,ntmps311
   go_wp2_with (first
    |(go_at_call 312;refine cK.mono ?_;clear cK;rintro e w1 ⟨hB1,hF1⟩;obtain⟨rfl,hS1,hK1⟩:=(show e=.returned (.string ⟨key.toArray⟩)∧qad w1 b {s with pos:=q1,within:=wi}∧qaB w1 (W.heap.size+2) (key::a.1) from hF1);have H1:Hid (qcA k W b s N wi q1 (key::a.1,a.2) w1):=H.out.step hbN hS1 hB1 hK1 ⟨by have:=H.out.len.1;omega,by have:=H.out.len.2;rw[List.length_cons];omega⟩;clear H hS1 hB1 hK1 hF1 k1 k2;have k1:=qaa H1.out.rbox 0;have cS2:=cS w1 q1 H1.out.src;rw[HZ2.out] at cS2)
    |(go_at_call 297;refine cS2.mono ?_;clear cS2;rintro e w9 ⟨hB9,hF9⟩;obtain rfl:=(show qaj en pl e from hF9)))
   exact⟨rfl,rfl,H1.out.but.trans hB9⟩
  |ok uq =>
   obtain⟨u2,q2⟩:=uq
   have hq2:=qbW _ _ _ _ _ _ h2
   have HZ2:Hid (spF s.bs s.lim (s.bs.length+1-q1) q1=.ok (u2,q2)):=h2
   simp only[]
   clear h2
   cases h3:qaw s.bs s.lim [58] q2 with
   |error er =>
    obtain⟨en,pl⟩:=er
    have HZ3:Hid (qaw s.bs s.lim [58] q2=.error (en,pl)):=h3
    clear h3 cT0
    go_enter func311,ntmps311
    go_wp2_with (first
     |(go_at_call 312;refine cK.mono ?_;clear cK;rintro e w1 ⟨hB1,hF1⟩;obtain⟨rfl,hS1,hK1⟩:=(show e=.returned (.string ⟨key.toArray⟩)∧qad w1 b {s with pos:=q1,within:=wi}∧qaB w1 (W.heap.size+2) (key::a.1) from hF1);have H1:Hid (qcA k W b s N wi q1 (key::a.1,a.2) w1):=H.out.step hbN hS1 hB1 hK1 ⟨by have:=H.out.len.1;omega,by have:=H.out.len.2;rw[List.length_cons];omega⟩;clear H hS1 hB1 hK1 hF1 k1 k2;have k1:=qaa H1.out.rbox 0;have cS2:=cS w1 q1 H1.out.src;rw[HZ2.out] at cS2)
     |(go_at_call 297;refine cS2.mono ?_;clear cS2;rintro e w2 ⟨hB2,hF2⟩;obtain⟨rfl,hS2⟩:=(show e=.returned (.tuple #[])∧qad w2 b {s with pos:=q2,within:=wi} from hF2);have H2:Hid (qcA k W b s N wi q2 (key::a.1,a.2) w2):=H1.out.go hbN hS2 hB2 hq2;clear H1 hS2 hB2 hF2 k1;have k1:=qaa H2.out.rbox 0;have cR3:=cR w2 q2 H2.out.src;rw[HZ3.out] at cR3)
     |(go_at_call 298;refine cR3.mono ?_;clear cR3;rintro e w9 ⟨hB9,hF9⟩;obtain rfl:=(show qaj en pl e from hF9)))
    exact⟨rfl,rfl,H2.out.but.trans hB9⟩
   |ok uq =>
    obtain⟨u3,q3⟩:=uq
    have hq3:q2≤q3:=by have:=qbR _ _ _ _ _ _ h3;omega
    have HZ3:Hid (qaw s.bs s.lim [58] q2=.ok (u3,q3)):=h3
    simp only[]
    clear h3
    cases h4:spF s.bs s.lim (s.bs.length+1-q3) q3 with
    |error er =>
     obtain⟨en,pl⟩:=er
     have HZ4:Hid (spF s.bs s.lim (s.bs.length+1-q3) q3=.error (en,pl)):=h4
     clear h4 cT0
     go_enter func311,ntmps311
     go_wp2_with (first
      |(go_at_call 312;refine cK.mono ?_;clear cK;rintro e w1 ⟨hB1,hF1⟩;obtain⟨rfl,hS1,hK1⟩:=(show e=.returned (.string ⟨key.toArray⟩)∧qad w1 b {s with pos:=q1,within:=wi}∧qaB w1 (W.heap.size+2) (key::a.1) from hF1);have H1:Hid (qcA k W b s N wi q1 (key::a.1,a.2) w1):=H.out.step hbN hS1 hB1 hK1 ⟨by have:=H.out.len.1;omega,by have:=H.out.len.2;rw[List.length_cons];omega⟩;clear H hS1 hB1 hK1 hF1 k1 k2;have k1:=qaa H1.out.rbox 0;have cS2:=cS w1 q1 H1.out.src;rw[HZ2.out] at cS2)
      |(go_at_call 297;refine cS2.mono ?_;clear cS2;rintro e w2 ⟨hB2,hF2⟩;obtain⟨rfl,hS2⟩:=(show e=.returned (.tuple #[])∧qad w2 b {s with pos:=q2,within:=wi} from hF2);have H2:Hid (qcA k W b s N wi q2 (key::a.1,a.2) w2):=H1.out.go hbN hS2 hB2 hq2;clear H1 hS2 hB2 hF2 k1;have k1:=qaa H2.out.rbox 0;have cR3:=cR w2 q2 H2.out.src;rw[HZ3.out] at cR3)
      |(go_at_call 298;refine cR3.mono ?_;clear cR3;rintro e w3 ⟨hB3,hF3⟩;obtain⟨rfl,hS3⟩:=(show e=.returned (.tuple #[])∧qad w3 b {s with pos:=q3,within:=wi} from hF3);have H3:Hid (qcA k W b s N wi q3 (key::a.1,a.2) w3):=H2.out.go hbN hS3 hB3 hq3;clear H2 hS3 hB3 hF3 k1;have k1:=qaa H3.out.rbox 0;have cS4:=cS w3 q3 H3.out.src;rw[HZ4.out] at cS4)
      |(go_at_call 297;refine cS4.mono ?_;clear cS4;rintro e w9 ⟨hB9,hF9⟩;obtain rfl:=(show qaj en pl e from hF9)))
     exact⟨rfl,rfl,H3.out.but.trans hB9⟩
    |ok uq =>
     obtain⟨u4,q4⟩:=uq
     have hq4:=qbW _ _ _ _ _ _ h4
     have HZ4:Hid (spF s.bs s.lim (s.bs.length+1-q3) q3=.ok (u4,q4)):=h4
     simp only[]
     clear h4
     have cT:∀V9,qad V9 b {s with pos:=q4,within:=wi}→But b W V9→Calls prog 296 #[.agg #[.pointer (some ⟨b,0,none⟩)]] V9 (qbV k V9 b {s with pos:=q4,within:=wi} (rd q4)):=fun V9 h1 h2=>cT0 V9 q4 h1 h2
     clear cT0
     cases h5:rd q4 with
     |error er =>
      obtain⟨en,pl⟩:=er
      rw[h5] at cT
      simp only[]
      clear h5
      go_enter func311,ntmps311
      go_wp2_with (first
       |(go_at_call 312;refine cK.mono ?_;clear cK;rintro e w1 ⟨hB1,hF1⟩;obtain⟨rfl,hS1,hK1⟩:=(show e=.returned (.string ⟨key.toArray⟩)∧qad w1 b {s with pos:=q1,within:=wi}∧qaB w1 (W.heap.size+2) (key::a.1) from hF1);have H1:Hid (qcA k W b s N wi q1 (key::a.1,a.2) w1):=H.out.step hbN hS1 hB1 hK1 ⟨by have:=H.out.len.1;omega,by have:=H.out.len.2;rw[List.length_cons];omega⟩;clear H hS1 hB1 hK1 hF1 k1 k2;have k1:=qaa H1.out.rbox 0;have cS2:=cS w1 q1 H1.out.src;rw[HZ2.out] at cS2)
       |(go_at_call 297;refine cS2.mono ?_;clear cS2;rintro e w2 ⟨hB2,hF2⟩;obtain⟨rfl,hS2⟩:=(show e=.returned (.tuple #[])∧qad w2 b {s with pos:=q2,within:=wi} from hF2);have H2:Hid (qcA k W b s N wi q2 (key::a.1,a.2) w2):=H1.out.go hbN hS2 hB2 hq2;clear H1 hS2 hB2 hF2 k1;have k1:=qaa H2.out.rbox 0;have cR3:=cR w2 q2 H2.out.src;rw[HZ3.out] at cR3)
       |(go_at_call 298;refine cR3.mono ?_;clear cR3;rintro e w3 ⟨hB3,hF3⟩;obtain⟨rfl,hS3⟩:=(show e=.returned (.tuple #[])∧qad w3 b {s with pos:=q3,within:=wi} from hF3);have H3:Hid (qcA k W b s N wi q3 (key::a.1,a.2) w3):=H2.out.go hbN hS3 hB3 hq3;clear H2 hS3 hB3 hF3 k1;have k1:=qaa H3.out.rbox 0;have cS4:=cS w3 q3 H3.out.src;rw[HZ4.out] at cS4)
       |(go_at_call 297;refine cS4.mono ?_;clear cS4;rintro e V5 ⟨hB4,hF4⟩;obtain⟨rfl,hS4⟩:=(show e=.returned (.tuple #[])∧qad V5 b {s with pos:=q4,within:=wi} from hF4);have H4:Hid (qcA k W b s N wi q4 (key::a.1,a.2) V5):=H3.out.go hbN hS4 hB4 hq4;clear H3 hS4 hB4 hF4 k1))
      obtain⟨a0,l0,c0,xs,hL,ho,hne,hxs⟩:=H4.out.own
      have ho:V5.ownsRow (W.heap.size+4) 208 2 (.slice a0 l0 c0) a.2.length xs:=ho
      have hxs:qcu k V5 (fun j=>W.heap.size+4≤j∧j<V5.heap.size∧some j≠(Value.slice a0 l0 c0).ownBlock) xs a.2:=hxs
      have hLlt:W.heap.size+1<(World.drew V5).heap.size:=ltA hL
      have hSd:qad (World.drew V5) b {s with pos:=q4,within:=wi}:=H4.out.src.below (Below.refl _ _).drew
      have hBd:But b W (World.drew V5):=H4.out.but.trans (But.of_below (Below.refl _ _).drew)
      have k0:(World.drew V5).cell? ⟨W.heap.size+1,0,none⟩=some (.slice a0 l0 c0):=qaa hL 0
      have k1:(World.drew V5).cell? ⟨W.heap.size,0,none⟩=some (.pointer (some ⟨b,0,none⟩)):=qaa H4.out.rbox 0
      have hsz:=H4.out.size
      refine wp_region_any (by kernel_rfl) ?_
      change wpAny _ _ _ _ _ _ _ (World.drew V5)
      refine wpAny_take (i:=1) (v:=.string ⟨key.toArray⟩) rfl (by kernel_rfl) (by kernel_rfl) (by kernel_rfl) (fun _ _ _ h=>h) (.inl ⟨rfl,fun V9=>rfl⟩) ?_
      refine rd2 0 2 rfl rfl (by kernel_rfl) (fun K hK => ?_) (fun K hK => ?_)
      ·go_simp
       refine hK _ _ ?_
       clear hK
       refine rd1 2 rfl (by kernel_rfl) (fun K hK => ?_)
       go_simp
       refine hK _ _ ?_
       clear hK
       refine rd1 3 rfl (by kernel_rfl) (fun K hK => ?_)
       go_simp
       refine(cT _ hSd hBd).mono ?_
       rintro e w3 ⟨hB3,hF3⟩
       obtain rfl:=(show qaj en pl e from hF3)
       exact⟨rfl,rfl,hBd.trans hB3⟩
      ·go_simp
       refine hK _ _ ?_
       clear hK
       refine rd2 0 3 rfl rfl (by kernel_rfl) (fun K hK => ?_) (fun K hK => ?_)
       ·go_simp
        refine hK _ _ ?_
        clear hK
        refine rd1 3 rfl (by kernel_rfl) (fun K hK => ?_)
        go_simp
        refine(cT _ hSd hBd).mono ?_
        rintro e w3 ⟨hB3,hF3⟩
        obtain rfl:=(show qaj en pl e from hF3)
        exact⟨rfl,rfl,hBd.trans hB3⟩
       ·go_simp
        refine(cT _ hSd hBd).mono ?_
        rintro e w3 ⟨hB3,hF3⟩
        obtain rfl:=(show qaj en pl e from hF3)
        exact⟨rfl,rfl,hBd.trans hB3⟩
     |ok dq =>
      obtain⟨d,q5⟩:=dq
      have hq5:=hgo q4 d q5 h5
      rw[h5] at cT
      simp only[]
      clear h5
      go_enter func311,ntmps311
      go_wp2_with (first
       |(go_at_call 312;refine cK.mono ?_;clear cK;rintro e w1 ⟨hB1,hF1⟩;obtain⟨rfl,hS1,hK1⟩:=(show e=.returned (.string ⟨key.toArray⟩)∧qad w1 b {s with pos:=q1,within:=wi}∧qaB w1 (W.heap.size+2) (key::a.1) from hF1);have H1:Hid (qcA k W b s N wi q1 (key::a.1,a.2) w1):=H.out.step hbN hS1 hB1 hK1 ⟨by have:=H.out.len.1;omega,by have:=H.out.len.2;rw[List.length_cons];omega⟩;clear H hS1 hB1 hK1 hF1 k1 k2;have k1:=qaa H1.out.rbox 0;have cS2:=cS w1 q1 H1.out.src;rw[HZ2.out] at cS2)
       |(go_at_call 297;refine cS2.mono ?_;clear cS2;rintro e w2 ⟨hB2,hF2⟩;obtain⟨rfl,hS2⟩:=(show e=.returned (.tuple #[])∧qad w2 b {s with pos:=q2,within:=wi} from hF2);have H2:Hid (qcA k W b s N wi q2 (key::a.1,a.2) w2):=H1.out.go hbN hS2 hB2 hq2;clear H1 hS2 hB2 hF2 k1;have k1:=qaa H2.out.rbox 0;have cR3:=cR w2 q2 H2.out.src;rw[HZ3.out] at cR3)
       |(go_at_call 298;refine cR3.mono ?_;clear cR3;rintro e w3 ⟨hB3,hF3⟩;obtain⟨rfl,hS3⟩:=(show e=.returned (.tuple #[])∧qad w3 b {s with pos:=q3,within:=wi} from hF3);have H3:Hid (qcA k W b s N wi q3 (key::a.1,a.2) w3):=H2.out.go hbN hS3 hB3 hq3;clear H2 hS3 hB3 hF3 k1;have k1:=qaa H3.out.rbox 0;have cS4:=cS w3 q3 H3.out.src;rw[HZ4.out] at cS4)
       |(go_at_call 297;refine cS4.mono ?_;clear cS4;rintro e V5 ⟨hB4,hF4⟩;obtain⟨rfl,hS4⟩:=(show e=.returned (.tuple #[])∧qad V5 b {s with pos:=q4,within:=wi} from hF4);have H4:Hid (qcA k W b s N wi q4 (key::a.1,a.2) V5):=H3.out.go hbN hS4 hB4 hq4;clear H3 hS4 hB4 hF4 k1))
      obtain⟨a0,l0,c0,xs,hL,ho,hne,hxs⟩:=H4.out.own
      have ho:V5.ownsRow (W.heap.size+4) 208 2 (.slice a0 l0 c0) a.2.length xs:=ho
      have hxs:qcu k V5 (fun j=>W.heap.size+4≤j∧j<V5.heap.size∧some j≠(Value.slice a0 l0 c0).ownBlock) xs a.2:=hxs
      have hLlt:W.heap.size+1<(World.drew V5).heap.size:=ltA hL
      have hSd:qad (World.drew V5) b {s with pos:=q4,within:=wi}:=H4.out.src.below (Below.refl _ _).drew
      have hBd:But b W (World.drew V5):=H4.out.but.trans (But.of_below (Below.refl _ _).drew)
      have k0:(World.drew V5).cell? ⟨W.heap.size+1,0,none⟩=some (.slice a0 l0 c0):=qaa hL 0
      have k1:(World.drew V5).cell? ⟨W.heap.size,0,none⟩=some (.pointer (some ⟨b,0,none⟩)):=qaa H4.out.rbox 0
      have hsz:=H4.out.size
      refine wp_region_any (by kernel_rfl) ?_
      change wpAny _ _ _ _ _ _ _ (World.drew V5)
      refine wpAny_take (i:=1) (v:=.string ⟨key.toArray⟩) rfl (by kernel_rfl) (by kernel_rfl) (by kernel_rfl) (fun _ _ _ h=>h) (.inl ⟨rfl,fun V9=>rfl⟩) ?_
      have hal:a.2.length≤200000000:=by have h1:a.2.length≤q4:=H4.out.len.1;have h2:q4≤s.bs.length:=H4.out.src.le;omega
      refine qf5 (β:=TypeId×Value×World) #[true,true,true,true,true,true,false,false] 2 (fun x=>[(13,.slice a0 l0 c0),(15,.agg #[.pointer (some ⟨b,0,none⟩)]),(16,.iface x.1 x.2.1),(17,.agg #[.string ⟨key.toArray⟩,.iface x.1 x.2.1]),(18,.slice (some ⟨x.2.2.heap.size,0,none⟩) 1 1)]) (fun x=>But b (World.drew V5) x.2.2∧qad x.2.2 b {s with pos:=q5,within:=wi}∧qa2 k x.2.2 (fun j=>(World.drew V5).heap.size≤j∧j<x.2.2.heap.size) (.iface x.1 x.2.1) d) (fun x=>x.2.2.alloc (.cells #[.string ⟨key.toArray⟩,.iface x.1 x.2.1] 208)) (fun hvia => ?reg) ?tail
      case reg =>
       refine rd2 0 2 rfl rfl (by kernel_rfl) (fun K hK => ?_) (fun K hK => ?_)
       ·go_simp
        refine hK _ _ ?_
        clear hK
        refine rd1 2 rfl (by kernel_rfl) (fun K hK => ?_)
        go_simp
        refine hK _ _ ?_
        clear hK
        refine rd1 3 rfl (by kernel_rfl) (fun K hK => ?_)
        go_simp
        refine(cT _ hSd hBd).mono ?_
        rintro e w3 ⟨hB3,hF3⟩
        obtain⟨⟨t,y,rfl,hd3⟩,hS3⟩:=(show(∃t y,e=.returned (.iface t y)∧qa2 k w3 (fun j=>(World.drew V5).heap.size≤j∧j<w3.heap.size) (.iface t y) d)∧qad w3 b {s with pos:=q5,within:=wi} from hF3)
        simp only[]
        have c3:w3.cell? ⟨W.heap.size+1,0,none⟩=some (.slice a0 l0 c0):=qaa ((hB3.block _ hLlt (by omega)).trans hL) 0
        have hrel:But b (World.drew V5) w3∧qad w3 b {s with pos:=q5,within:=wi}∧qa2 k w3 (fun j=>(World.drew V5).heap.size≤j∧j<w3.heap.size) (.iface t y) d:=⟨hB3,hS3,hd3⟩
        refine hK _ _ ?_
        clear hK
        refine rd1 4 rfl (by kernel_rfl) (fun K hK => ?_)
        go_simp
        refine hK _ _ ?_
        clear hK
        refine rd1 5 rfl (by kernel_rfl) (fun K hK => ?_)
        go_simp
        refine hK _ _ ?_
        clear hK
        exact hvia ⟨t,y,w3⟩ hrel
       ·go_simp
        refine hK _ _ ?_
        clear hK
        refine rd2 0 3 rfl rfl (by kernel_rfl) (fun K hK => ?_) (fun K hK => ?_)
        ·go_simp
         refine hK _ _ ?_
         clear hK
         refine rd1 3 rfl (by kernel_rfl) (fun K hK => ?_)
         go_simp
         refine(cT _ hSd hBd).mono ?_
         rintro e w3 ⟨hB3,hF3⟩
         obtain⟨⟨t,y,rfl,hd3⟩,hS3⟩:=(show(∃t y,e=.returned (.iface t y)∧qa2 k w3 (fun j=>(World.drew V5).heap.size≤j∧j<w3.heap.size) (.iface t y) d)∧qad w3 b {s with pos:=q5,within:=wi} from hF3)
         simp only[]
         have c3:w3.cell? ⟨W.heap.size+1,0,none⟩=some (.slice a0 l0 c0):=qaa ((hB3.block _ hLlt (by omega)).trans hL) 0
         have hrel:But b (World.drew V5) w3∧qad w3 b {s with pos:=q5,within:=wi}∧qa2 k w3 (fun j=>(World.drew V5).heap.size≤j∧j<w3.heap.size) (.iface t y) d:=⟨hB3,hS3,hd3⟩
         refine hK _ _ ?_
         clear hK
         refine rd1 4 rfl (by kernel_rfl) (fun K hK => ?_)
         go_simp
         refine hK _ _ ?_
         clear hK
         refine rd1 5 rfl (by kernel_rfl) (fun K hK => ?_)
         go_simp
         refine hK _ _ ?_
         clear hK
         exact hvia ⟨t,y,w3⟩ hrel
        ·go_simp
         refine(cT _ hSd hBd).mono ?_
         rintro e w3 ⟨hB3,hF3⟩
         obtain⟨⟨t,y,rfl,hd3⟩,hS3⟩:=(show(∃t y,e=.returned (.iface t y)∧qa2 k w3 (fun j=>(World.drew V5).heap.size≤j∧j<w3.heap.size) (.iface t y) d)∧qad w3 b {s with pos:=q5,within:=wi} from hF3)
         simp only[]
         have c3:w3.cell? ⟨W.heap.size+1,0,none⟩=some (.slice a0 l0 c0):=qaa ((hB3.block _ hLlt (by omega)).trans hL) 0
         have hrel:But b (World.drew V5) w3∧qad w3 b {s with pos:=q5,within:=wi}∧qa2 k w3 (fun j=>(World.drew V5).heap.size≤j∧j<w3.heap.size) (.iface t y) d:=⟨hB3,hS3,hd3⟩
         refine hK _ _ ?_
         clear hK
         refine rd2 0 4 rfl rfl (by kernel_rfl) (fun K hK => ?_) (fun K hK => ?_)
         ·go_simp
          refine hK _ _ ?_
          clear hK
          refine rd1 4 rfl (by kernel_rfl) (fun K hK => ?_)
          go_simp
          refine hK _ _ ?_
          clear hK
          refine rd1 5 rfl (by kernel_rfl) (fun K hK => ?_)
          go_simp
          refine hK _ _ ?_
          clear hK
          exact hvia ⟨t,y,w3⟩ hrel
         ·go_simp
          refine hK _ _ ?_
          clear hK
          refine rd2 0 5 rfl rfl (by kernel_rfl) (fun K hK => ?_) (fun K hK => ?_)
          ·go_simp
           refine hK _ _ ?_
           clear hK
           refine rd1 5 rfl (by kernel_rfl) (fun K hK => ?_)
           go_simp
           refine hK _ _ ?_
           clear hK
           exact hvia ⟨t,y,w3⟩ hrel
          ·go_simp
           refine hK _ _ ?_
           clear hK
           refine rd1 0 rfl (by kernel_rfl) (fun K hK => ?_)
           have c4:(w3.alloc (.cells #[.string ⟨key.toArray⟩,.iface t y] 208)).cell? ⟨W.heap.size+1,0,none⟩=some (.slice a0 l0 c0):=(World.cell?_alloc_some w3 _ _ (by rw[c3];rfl)).trans c3
           go_simp
           refine hK _ _ ?_
           clear hK
           exact hvia ⟨t,y,w3⟩ hrel
      case tail =>
       rintro⟨t,y,w3⟩ ⟨hB3,hS3,hd3⟩
       simp only[] at hB3 hS3 hd3 ⊢
       have hB3':But b V5 w3:=(But.of_below (Below.refl _ _).drew).trans hB3
       have hO3:w3.ownsRow (W.heap.size+4) 208 2 (.slice a0 l0 c0) a.2.length xs:=qcn ho hB3' (by omega)
       have hw3:W.heap.size+4≤w3.heap.size:=Nat.le_trans hsz hB3'.size
       simp only[List.foldl]
       refine rd1 6 rfl (by kernel_rfl) (fun K hK => ?_)
       rw[if_pos (by rfl)]
       refine qc2 _ _ 206 rfl (W.heap.size+4) 208 i0 (.agg #[.string ByteArray.empty,.nilIface]) 2 32 underlying206 hi hz0 hz1 hz2 rfl (by decide) _ _ _ rfl (hO3.alloc _) ⟨w3.heap.size,0,none⟩ 1 1 [.string ⟨key.toArray⟩,.iface t y] rfl rfl (qa4 _ _ _) (fun u hu=>by simp at hu;rcases hu with rfl|rfl<;>rfl) (by decide) (by unfold maxLen;omega) (by omega) (by simp;omega) ?_
       intro v' w5 hown' hgrow5 hw5
       have hJ:qcA k W b s N wi q5 (key::a.1,a.2++[(.string key,d)]) (w5.setCell ⟨W.heap.size+1,0,none⟩ v'):=H4.out.push h0 hbN hB3' hS3 hd3 hL ho hne hxs hown' hgrow5 hw5 (by have h1:a.2.length≤q4:=H4.out.len.1;omega) (by have h1:(key::a.1).length≤q4:=H4.out.len.2;omega)
       have hL5:w5.heap[W.heap.size+1]? = some (.cells #[.slice a0 l0 c0] 206):=(hgrow5.block _ (by simp;omega) (fun e=>by have:=qaQ ho e.symm;omega)).trans ((Below.heap_alloc _ _ _ (by omega)).trans ((hB3'.block _ (ltA hL) (by omega)).trans hL))
       have c5:w5.cell? ⟨W.heap.size+1,0,none⟩=some (.slice a0 l0 c0):=qaa hL5 0
       have f5:w5.frozen? ⟨W.heap.size+1,0,none⟩=false:=frozen_of_row w5 _ 0 _ _ hL5
       obtain⟨g5,cap5,rfl⟩:=ownsRow_succ hown'
       refine hK _ _ ?_
       clear hK
       refine rd1 7 rfl (by kernel_rfl) (fun K hK => ?_)
       go_simp
       refine hK _ _ ?_
       clear hK
       refine wpAny_done (by kernel_rfl) ?_ _
       go_end0
       exact⟨rfl,hJ⟩
end
end Go.Proofs.YtllcbnfmihfaaaaGreatDoor
