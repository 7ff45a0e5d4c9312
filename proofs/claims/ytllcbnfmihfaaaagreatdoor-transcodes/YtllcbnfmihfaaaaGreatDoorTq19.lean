import Derived.Test.YtllcbnfmihfaaaaGreatDoorTq18
set_option maxRecDepth 100000
set_option maxHeartbeats 8000000
namespace Go.Proofs.YtllcbnfmihfaaaaGreatDoor
open Go.Proofs.Tryz
variable {N b k p q wi wi':Nat}{V V' W:World}{s:Src}{a:List (List UInt8)×List (Lit×DataW Unit)}{ks:List (List UInt8)}{rd:Nat→Except (Int×Int) (DataW Unit×Nat)}
section
open Go.RowKit
structure qfs (k:Nat)(W:World)(b:Nat)(s:Src)(N wi p:Nat)(a:List (List UInt8)×List (Lit×DataW Unit))(V:World):Prop where
 src:qad V b {s with pos:=p,within:=wi}
 but:But b W V
 rbox:V.heap[W.heap.size]? = some (.cells #[.pointer (some ⟨b,0,none⟩)] 198)
 kbox:V.heap[W.heap.size+3]? = some (.cells #[.map (some (W.heap.size+2))] 414)
 keys:qaE V (W.heap.size+2) a.1
 box:V.heap[N]? = some (.cells #[.pointer (some ⟨b,0,none⟩)] 198)
 hN:W.heap.size+4≤N
 own:∃ad l c xs,V.heap[W.heap.size+1]? = some (.cells #[.slice ad l c] 206)∧V.ownsRow (W.heap.size+4) 208 2 (.slice ad l c) a.2.length xs∧some N≠(Value.slice ad l c).ownBlock∧qcq k V (fun j=>W.heap.size+4≤j∧j<V.heap.size∧some j≠(Value.slice ad l c).ownBlock) xs a.2
 size:W.heap.size+4≤V.heap.size
 len:a.2.length≤p∧a.1.length≤p
theorem qfs.step (h:qfs k W b s N wi p a V)(hb:b<W.heap.size)(hs:qad V' b {s with pos:=q,within:=wi' })(hB:qiO b (W.heap.size+2) V V')(hk:qaE V' (W.heap.size+2) ks)(hlen:a.2.length≤q∧ks.length≤q):qfs k W b s N wi' q (ks,a.2) V':=by
 obtain⟨ad,l,c,xs,h0,h1,h2,h3⟩:=h.own;have hsz:=h.size;have hN:=h.hN;exact⟨hs,h.but.trans' hB,(hB.block _ (ltA h.rbox) (by omega) (by omega)).trans h.rbox,(hB.block _ (ltA h.kbox) (by omega) (by omega)).trans h.kbox,hk,(hB.block _ (ltA h.box) (by omega) (by omega)).trans h.box,h.hN,⟨ad,l,c,xs,(hB.block _ (ltA h0) (by omega) (by omega)).trans h0,qeO h1 hB (by omega) (by omega),h2,h3.same (fun j hj=>⟨hj.1,Nat.lt_of_lt_of_le hj.2.1 hB.size,hj.2.2⟩) (fun j hj=>hB.block j hj.2.1 (by omega) (by omega))⟩,Nat.le_trans h.size hB.size,hlen⟩
theorem qfs.go' (h:qfs k W b s N wi p a V)(hb:b<W.heap.size)(hs:qad V' b {s with pos:=q,within:=wi' })(hB:But b V V')(hlen:a.2.length≤q∧a.1.length≤q):qfs k W b s N wi' q a V' :=
 h.step (ks:=a.1) hb hs (.of1 hB) (h.keys.but (by omega) hB) hlen
theorem qfs.go (h:qfs k W b s N wi p a V)(hb:b<W.heap.size)(hs:qad V' b {s with pos:=q,within:=wi' })(hB:But b V V')(hpq:p≤q):qfs k W b s N wi' q a V' :=
 h.go' hb hs hB ⟨by have:=h.len.1;omega,by have:=h.len.2;omega⟩
theorem qfs.push {V3 w5:World}{es:List (Lit×DataW Unit)}{d:DataW Unit}{key:List UInt8}{a:Option Addr}{l c:Nat}{v' x:Value}{xs:List Value}(h:qfs k W b s N wi p (ks,es) V)(h0:qad W b s)(hb:b<W.heap.size)(hB:But b V V3)(hS:qad V3 b {s with pos:=q,within:=wi})(hd:qai k V3 (fun j=>V.heap.size≤j∧j<V3.heap.size) x d)(hL:V.heap[W.heap.size+1]? = some (.cells #[.slice a l c] 206))(ho:V.ownsRow (W.heap.size+4) 208 2 (.slice a l c) es.length xs)(hne:some N≠(Value.slice a l c).ownBlock)(hxs:qcq k V (fun j=>W.heap.size+4≤j∧j<V.heap.size∧some j≠(Value.slice a l c).ownBlock) xs es)(ho':w5.ownsRow (W.heap.size+4) 208 2 v' (es.length+1) (xs++[.string ⟨key.toArray⟩,x]))(hg:(V3.alloc (.cells #[.string ⟨key.toArray⟩,x] 208)).grownBy w5 (Value.slice a l c).ownBlock)(hw:v'.ownBlock=(Value.slice a l c).ownBlock∨v'.ownBlock=some (V3.alloc (.cells #[.string ⟨key.toArray⟩,x] 208)).heap.size)(hlen:es.length+1≤q)(hlen2:ks.length≤q):qfs k W b s N wi q (ks,es++[(.string key,d)]) (w5.setCell ⟨W.heap.size+1,0,none⟩ v'):=by
 have hsz:=h.size;have hN:=h.hN;have hNlt:=ltA h.box;have hB3:=hB.size;have hgs:V3.heap.size+1≤w5.heap.size:=by have:=hg.size;simpa using this
 have hky:∀g,(Value.slice a l c).ownBlock=some g→W.heap.size+4≤g:=fun g hg=>qbA ho hg;have klt:∀g,(Value.slice a l c).ownBlock=some g→g<V.heap.size:=qhh ho;have hkeep:∀j,j<V3.heap.size→some j≠(Value.slice a l c).ownBlock→j≠W.heap.size+1→(w5.setCell ⟨W.heap.size+1,0,none⟩ v').heap[j]? = V3.heap[j]?:=fun j hj hn hl=>(heap_setCell_other w5 _ _ _ (by simpa using hl)).trans ((hg.block j (by simp;omega) hn).trans (Below.heap_alloc _ _ _ hj));have hlow:∀j,j<W.heap.size+4→j≠W.heap.size+1→(w5.setCell ⟨W.heap.size+1,0,none⟩ v').heap[j]? = V3.heap[j]?:=fun j hj hl=>hkeep j (by omega) (fun e=>by have:=hky j e.symm;omega) hl;have hL5:w5.heap[W.heap.size+1]? = some (.cells #[.slice a l c] 206):=(hg.block _ (by simp;omega) (fun e=>by have:=hky _ e.symm;omega)).trans ((Below.heap_alloc _ _ _ (by omega)).trans ((hB.block _ (ltA hL) (by omega)).trans hL));have hsz2:(w5.setCell ⟨W.heap.size+1,0,none⟩ v').heap.size=w5.heap.size:=by simp[World.setCell]
 have hkeys:qaE (w5.setCell ⟨W.heap.size+1,0,none⟩ v') (W.heap.size+2) ks:=by
  have h1:qaE V3 (W.heap.size+2) ks:=h.keys.but (by omega) hB;have h2:qaE (V3.alloc (.cells #[.string ⟨key.toArray⟩,x] 208)) (W.heap.size+2) ks:=h1.but (b:=W.heap.size+1) (by omega) (But.of_below bwA);have h3:qaE w5 (W.heap.size+2) ks:=h2.kept hg (fun e=>by have:=hky _ e.symm;omega);exact h3.but (b:=W.heap.size+1) (by omega) ⟨rfl,rfl,rfl,by simp[World.setCell],fun j _ hj=>heap_setCell_other w5 _ _ _ (by simpa using hj)⟩
 obtain⟨g5,cap5,rfl⟩:=ownsRow_succ ho';have ho5:(w5.setCell ⟨W.heap.size+1,0,none⟩ (.slice (some ⟨g5,0,none⟩) (es.length+1) cap5)).ownsRow (W.heap.size+4) 208 2 (.slice (some ⟨g5,0,none⟩) (es.length+1) cap5) (es.length+1) (xs++[.string ⟨key.toArray⟩,x]):=by
  refine⟨ho'.1,?_⟩;rcases ho'.2 with h2|⟨g,cap,cur,e,hbb,hgg,h5⟩
  ·exact .inl h2
  exact .inr ⟨g,cap,cur,e,hbb,(heap_setCell_other w5 _ _ _ (by simp;omega)).trans hgg,h5⟩
 have hne5:∀j,j<V3.heap.size→some j≠(Value.slice a l c).ownBlock→some j≠(Value.slice (some ⟨g5,0,none⟩) (es.length+1) cap5).ownBlock:=fun j hj hn=>by
  rcases hw with hw|hw
  ·rw[hw];exact hn
  rw[hw];intro e;injection e with e;simp at e;omega
 refine⟨h0.same rfl rfl hS (fun j hj=>hlow j (by omega) (by omega)),⟨hg.os.trans (hB.os.trans h.but.os),hg.tape.trans (hB.tape.trans h.but.tape),hg.output.trans (hB.output.trans h.but.output),by rw[hsz2];have:=h.but.size;omega,fun j hj hn=>(hlow j (by omega) (by omega)).trans ((hB.block j (by omega) hn).trans (h.but.block j hj hn))⟩,(hlow _ (by omega) (by omega)).trans ((hB.block _ (by omega) (by omega)).trans h.rbox),(hlow _ (by omega) (by omega)).trans ((hB.block _ (by omega) (by omega)).trans h.kbox),hkeys,(hkeep N (by omega) hne (by omega)).trans ((hB.block N hNlt (by omega)).trans h.box),h.hN,⟨_,_,_,_,?_,by rw[List.length_append];exact ho5,?_,fun i y dd hc => ?_⟩,by rw[hsz2];omega,⟨by rw[List.length_append];exact hlen,hlen2⟩⟩
 ·rw[heap_setCell_same _ _ _ _ _ _ hL5];rfl
 ·exact hne5 N (by omega) hne
 have hxl:xs.length=es.length*2:=ho.1;by_cases hi:i<es.length
 ·rw[List.getElem?_append_left hi] at hc;obtain⟨l',x',e1,e2,e3,e4⟩:=hxs i y dd hc;refine⟨l',x',e1,by rw[List.getElem?_append_left (by omega)];exact e2,by rw[List.getElem?_append_left (by omega)];exact e3,?_⟩;exact e4.same (fun j hj=>⟨hj.1,by rw[hsz2];have:=hj.2.1;omega,hne5 j (by omega) hj.2.2⟩) (fun j hj=>(hkeep j (by omega) hj.2.2 (by omega)).trans (hB.block j hj.2.1 (by omega)))
 have e:i=es.length:=by
  have:=ltL hc;rw[List.length_append] at this;simp at this;omega
 subst e;rw[List.getElem?_append_right (by omega)] at hc;simp at hc;obtain⟨rfl,rfl⟩:=hc;have hoff:∀j,V.heap.size≤j→some j≠(Value.slice a l c).ownBlock:=fun j hj e=>by have:=klt j e.symm;omega
 refine⟨key,x,rfl,?_,?_,hd.same (fun j hj=>⟨by omega,by rw[hsz2];omega,hne5 j hj.2 (hoff j hj.1)⟩) (fun j hj=>hkeep j hj.2 (hoff j hj.1) (by omega))⟩
 ·rw[List.getElem?_append_right (by omega),show 2*es.length-xs.length=0 by omega];rfl
 rw[List.getElem?_append_right (by omega),show 2*es.length+1-xs.length=1 by omega];rfl
theorem qra (k:Nat)(W:World)(b:Nat)(s:Src)(wi:Nat)(rd:Nat→Except (Int×Int) (DataW Unit×Nat))(h0:qad W b s)(hrd:qgg k b {s with within:=wi} W rd)(hgo:∀p d q,rd p=.ok (d,q)→p<q)(hlen:s.bs.length≤200000000)(hU:∀V,But b W V→U8 V)(h7:7<b)(N p:Nat)(a:List (List UInt8)×List (Lit×DataW Unit))(V:World)(h:qfs k W b s N wi p a V):Calls prog 311 #[.pointer (some ⟨W.heap.size,0,none⟩),.pointer (some ⟨W.heap.size+3,0,none⟩),.pointer (some ⟨W.heap.size+1,0,none⟩)] V (qc9 (qfs k W b s N wi) (fun V=>But b W V) (enJ s.bs s.lim rd a p)):=by
 obtain⟨i0,hi,hz0,hz1,hz2⟩:=info_parts Tryz.infoEntry;have hbN:b<W.heap.size:=ltA h0.row;have hig:∀g off,s.bs≠[]→s.ia=some ⟨g,off,none⟩→g≠W.heap.size+2:=fun g off hne e=>by
  have hl:0<s.bs.length:=by cases hbs:s.bs with|nil=>exact absurd hbs hne|cons _ _=>simp
  obtain⟨g',off',e1,_,e3⟩:=h0.inp 0 hl;rw[e] at e1;injection e1 with e1;injection e1 with e1;have:g'<W.heap.size:=block_lt_of_cell e3;omega
 have H:Hid (qfs k W b s N wi p a V):=h;have cK:Calls prog 312 #[.agg #[.pointer (some ⟨b,0,none⟩)],.map (some (W.heap.size+2))] V (qjS V b (W.heap.size+2) {s with pos:=p,within:=wi} a.1 (qmo s.bs s.lim a.1 p)):=qjV V b (W.heap.size+2) {s with pos:=p,within:=wi} a.1 h.src h.keys (by omega) hig (by have h1:=h.len.2;have h2:p≤s.bs.length:=h.src.le;omega) hlen (fun V9 h9=>hU V9 (h.but.trans h9)) h7;have cS:∀(V:World) (p:Nat),qad V b {s with pos:=p,within:=wi}→Calls prog 297 #[.agg #[.pointer (some ⟨b,0,none⟩)]] V (qbJ V b {s with pos:=p,within:=wi} (fun _:Unit=>.tuple #[]) (spF s.bs s.lim (s.bs.length+1-p) p)):=fun V p hV=>qaN V b {s with pos:=p,within:=wi} hV;have cR:∀(V:World) (p:Nat),qad V b {s with pos:=p,within:=wi}→Calls prog 298 #[.agg #[.pointer (some ⟨b,0,none⟩)],.string ⟨#[58]⟩] V (qbJ V b {s with pos:=p,within:=wi} (fun _:Unit=>.tuple #[]) (qaT s.bs s.lim [58] p)):=fun V p hV=>qbv V b {s with pos:=p,within:=wi} [58] (by simp) hV;have cT0:∀(V9:World) (q:Nat),qad V9 b {s with pos:=q,within:=wi}→But b W V9→Calls prog 296 #[.agg #[.pointer (some ⟨b,0,none⟩)]] V9 (qc7 k V9 b {s with pos:=q,within:=wi} (rd q)):=fun V9 q h1 h2=>hrd V9 q h1 h2;have k1:=qab h.rbox 0;have k2:=qab h.kbox 0;clear h hrd hU hig;obtain⟨R,HR⟩:∃R,Hid (enJ s.bs s.lim rd a p=R):=⟨_,show _=_ from rfl⟩
 rw[HR.out];have hr:=HR.out;unfold enJ at hr;clear HR;go_enter func311,ntmps311
 go_wp2_with fail
 refine cK.mono ?_;clear cK;rintro e w1 ⟨hB1,hF1⟩
 cases h1:qmo s.bs s.lim a.1 p with
 |error er =>
  obtain⟨en,pl⟩:=er;simp only[h1] at hr hF1;subst hr;clear h1 cS cR cT0;obtain rfl:=(show qao en pl e from hF1)
  go_wp2;exact⟨rfl,rfl,H.out.but.trans' hB1⟩
 |ok lq =>
  obtain⟨key,q1⟩:=lq;have hq1:=qpR h1;simp only[h1] at hr hF1;clear h1;obtain⟨rfl,hS1,hK1⟩:=(show e=.returned (.string ⟨key.toArray⟩)∧qad w1 b {s with pos:=q1,within:=wi}∧qaE w1 (W.heap.size+2) (key::a.1) from hF1)
  have H1:Hid (qfs k W b s N wi q1 (key::a.1,a.2) w1):=H.out.step hbN hS1 hB1 hK1 ⟨by have:=H.out.len.1;omega,by have:=H.out.len.2;rw[List.length_cons];omega⟩;clear H hS1 hB1 hK1 hF1 k1 k2;have k1:=qab H1.out.rbox 0
  go_wp2_with fail
  refine(cS w1 q1 H1.out.src).mono ?_;rintro e w2 ⟨hB2,hF2⟩
  cases h2:spF s.bs s.lim (s.bs.length+1-q1) q1 with
  |error er =>
   obtain⟨en,pl⟩:=er;simp only[h2] at hr hF2;subst hr;clear h2;obtain rfl:=(show qao en pl e from hF2)
   go_wp2;exact⟨rfl,rfl,H1.out.but.trans hB2⟩
  |ok uq =>
   obtain⟨u2,q2⟩:=uq;have hq2:=qcm _ _ _ _ _ _ h2;simp only[h2] at hr hF2;clear h2;obtain⟨rfl,hS2⟩:=(show e=.returned (.tuple #[])∧qad w2 b {s with pos:=q2,within:=wi} from hF2)
   have H2:Hid (qfs k W b s N wi q2 (key::a.1,a.2) w2):=H1.out.go hbN hS2 hB2 hq2;clear H1 hS2 hB2 hF2 k1;have k1:=qab H2.out.rbox 0
   go_wp2_with fail
   refine(cR w2 q2 H2.out.src).mono ?_;rintro e w3 ⟨hB3,hF3⟩
   cases h3:qaT s.bs s.lim [58] q2 with
   |error er =>
    obtain⟨en,pl⟩:=er;simp only[h3] at hr hF3;subst hr;clear h3;obtain rfl:=(show qao en pl e from hF3)
    go_wp2;exact⟨rfl,rfl,H2.out.but.trans hB3⟩
   |ok uq =>
    obtain⟨u3,q3⟩:=uq;have hq3:q2≤q3:=by have:=qcb _ _ _ _ _ _ h3;omega
    simp only[h3] at hr hF3;clear h3;obtain⟨rfl,hS3⟩:=(show e=.returned (.tuple #[])∧qad w3 b {s with pos:=q3,within:=wi} from hF3)
    have H3:Hid (qfs k W b s N wi q3 (key::a.1,a.2) w3):=H2.out.go hbN hS3 hB3 hq3;clear H2 hS3 hB3 hF3 k1;have k1:=qab H3.out.rbox 0
    go_wp2_with fail
    refine(cS w3 q3 H3.out.src).mono ?_;rintro e V5 ⟨hB4,hF4⟩
    cases h4:spF s.bs s.lim (s.bs.length+1-q3) q3 with
    |error er =>
     obtain⟨en,pl⟩:=er;simp only[h4] at hr hF4;subst hr;clear h4;obtain rfl:=(show qao en pl e from hF4)
     go_wp2;exact⟨rfl,rfl,H3.out.but.trans hB4⟩
    |ok uq =>
     obtain⟨u4,q4⟩:=uq;have hq4:=qcm _ _ _ _ _ _ h4;simp only[h4] at hr hF4;clear h4;obtain⟨rfl,hS4⟩:=(show e=.returned (.tuple #[])∧qad V5 b {s with pos:=q4,within:=wi} from hF4)
     have H4:Hid (qfs k W b s N wi q4 (key::a.1,a.2) V5):=H3.out.go hbN hS4 hB4 hq4;clear H3 hS4 hB4 hF4 k1
     go_wp2_with fail
     have cT:=fun V9 (h1:qad V9 b {s with pos:=q4,within:=wi}) (h2:But b W V9)=>cT0 V9 q4 h1 h2;clear cT0;obtain⟨a0,l0,c0,xs,hL,ho,hne,hxs⟩:=H4.out.own;have ho:V5.ownsRow (W.heap.size+4) 208 2 (.slice a0 l0 c0) a.2.length xs:=ho;have hxs:qcq k V5 (fun j=>W.heap.size+4≤j∧j<V5.heap.size∧some j≠(Value.slice a0 l0 c0).ownBlock) xs a.2:=hxs;have hLlt:W.heap.size+1<(World.drew V5).heap.size:=ltA hL;have hSd:qad (World.drew V5) b {s with pos:=q4,within:=wi}:=H4.out.src.below (Below.refl _ _).drew;have hBd:But b W (World.drew V5):=H4.out.but.trans (But.of_below (Below.refl _ _).drew);have k0:(World.drew V5).cell? ⟨W.heap.size+1,0,none⟩=some (.slice a0 l0 c0):=qab hL 0;have k1:(World.drew V5).cell? ⟨W.heap.size,0,none⟩=some (.pointer (some ⟨b,0,none⟩)):=qab H4.out.rbox 0;have hsz:=H4.out.size;refine wp_region_any (by kernel_rfl) ?_;change wpAny _ _ _ _ _ _ _ (World.drew V5);refine wpAny_take (i:=1) (v:=.string ⟨key.toArray⟩) rfl (by kernel_rfl) (by kernel_rfl) (by kernel_rfl) (fun _ _ _ h=>h) (.inl ⟨rfl,fun V9=>rfl⟩) ?_
     cases h5:rd q4 with
     |error er =>
      obtain⟨en,pl⟩:=er;simp only[h5] at hr;subst hr;rw[h5] at cT;clear h5;refine rd2 0 2 rfl rfl (by kernel_rfl) (fun K hK => ?_) (fun K hK => ?_)
      ·go_simp;refine hK _ _ ?_;clear hK;refine rd1 2 rfl (by kernel_rfl) (fun K hK => ?_);go_simp;refine hK _ _ ?_;clear hK;refine rd1 3 rfl (by kernel_rfl) (fun K hK => ?_);go_simp;refine(cT _ hSd hBd).mono ?_;rintro e w3 ⟨hB3,hF3⟩;obtain rfl:=(show qao en pl e from hF3)
       exact⟨rfl,rfl,hBd.trans hB3⟩
      go_simp;refine hK _ _ ?_;clear hK;refine rd2 0 3 rfl rfl (by kernel_rfl) (fun K hK => ?_) (fun K hK => ?_)
      ·go_simp;refine hK _ _ ?_;clear hK;refine rd1 3 rfl (by kernel_rfl) (fun K hK => ?_);go_simp;refine(cT _ hSd hBd).mono ?_;rintro e w3 ⟨hB3,hF3⟩;obtain rfl:=(show qao en pl e from hF3)
       exact⟨rfl,rfl,hBd.trans hB3⟩
      go_simp;refine(cT _ hSd hBd).mono ?_;rintro e w3 ⟨hB3,hF3⟩;obtain rfl:=(show qao en pl e from hF3)
      exact⟨rfl,rfl,hBd.trans hB3⟩
     |ok dq =>
      obtain⟨d,q5⟩:=dq;have hq5:=hgo q4 d q5 h5;simp only[h5] at hr;subst hr;rw[h5] at cT;clear h5;have hal:a.2.length≤200000000:=by have h1:a.2.length≤q4:=H4.out.len.1;have h2:q4≤s.bs.length:=H4.out.src.le;omega
      refine qoU (β:=TypeId×Value×World) #[true,true,true,true,true,true,false,false] 2 (fun x=>[(13,.slice a0 l0 c0),(15,.agg #[.pointer (some ⟨b,0,none⟩)]),(16,.iface x.1 x.2.1),(17,.agg #[.string ⟨key.toArray⟩,.iface x.1 x.2.1]),(18,.slice (some ⟨x.2.2.heap.size,0,none⟩) 1 1)]) (fun x=>But b (World.drew V5) x.2.2∧qad x.2.2 b {s with pos:=q5,within:=wi}∧qai k x.2.2 (fun j=>(World.drew V5).heap.size≤j∧j<x.2.2.heap.size) (.iface x.1 x.2.1) d) (fun x=>x.2.2.alloc (.cells #[.string ⟨key.toArray⟩,.iface x.1 x.2.1] 208)) (fun hvia => ?reg) ?tail
      case reg =>
       refine rd2 0 2 rfl rfl (by kernel_rfl) (fun K hK => ?_) (fun K hK => ?_)
       ·go_simp;refine hK _ _ ?_;clear hK;refine rd1 2 rfl (by kernel_rfl) (fun K hK => ?_);go_simp;refine hK _ _ ?_;clear hK;refine rd1 3 rfl (by kernel_rfl) (fun K hK => ?_);go_simp;refine(cT _ hSd hBd).mono ?_;rintro e w3 ⟨hB3,hF3⟩;obtain⟨⟨t,y,rfl,hd3⟩,hS3⟩:=(show(∃t y,e=.returned (.iface t y)∧qai k w3 (fun j=>(World.drew V5).heap.size≤j∧j<w3.heap.size) (.iface t y) d)∧qad w3 b {s with pos:=q5,within:=wi} from hF3)
        simp only[];have c3:w3.cell? ⟨W.heap.size+1,0,none⟩=some (.slice a0 l0 c0):=qab ((hB3.block _ hLlt (by omega)).trans hL) 0;have hrel:But b (World.drew V5) w3∧qad w3 b {s with pos:=q5,within:=wi}∧qai k w3 (fun j=>(World.drew V5).heap.size≤j∧j<w3.heap.size) (.iface t y) d:=⟨hB3,hS3,hd3⟩
        refine hK _ _ ?_;clear hK;refine rd1 4 rfl (by kernel_rfl) (fun K hK => ?_);go_simp;refine hK _ _ ?_;clear hK;refine rd1 5 rfl (by kernel_rfl) (fun K hK => ?_);go_simp;refine hK _ _ ?_;clear hK;exact hvia ⟨t,y,w3⟩ hrel
       go_simp;refine hK _ _ ?_;clear hK;refine rd2 0 3 rfl rfl (by kernel_rfl) (fun K hK => ?_) (fun K hK => ?_)
       ·go_simp;refine hK _ _ ?_;clear hK;refine rd1 3 rfl (by kernel_rfl) (fun K hK => ?_);go_simp;refine(cT _ hSd hBd).mono ?_;rintro e w3 ⟨hB3,hF3⟩;obtain⟨⟨t,y,rfl,hd3⟩,hS3⟩:=(show(∃t y,e=.returned (.iface t y)∧qai k w3 (fun j=>(World.drew V5).heap.size≤j∧j<w3.heap.size) (.iface t y) d)∧qad w3 b {s with pos:=q5,within:=wi} from hF3)
        simp only[];have c3:w3.cell? ⟨W.heap.size+1,0,none⟩=some (.slice a0 l0 c0):=qab ((hB3.block _ hLlt (by omega)).trans hL) 0;have hrel:But b (World.drew V5) w3∧qad w3 b {s with pos:=q5,within:=wi}∧qai k w3 (fun j=>(World.drew V5).heap.size≤j∧j<w3.heap.size) (.iface t y) d:=⟨hB3,hS3,hd3⟩
        refine hK _ _ ?_;clear hK;refine rd1 4 rfl (by kernel_rfl) (fun K hK => ?_);go_simp;refine hK _ _ ?_;clear hK;refine rd1 5 rfl (by kernel_rfl) (fun K hK => ?_);go_simp;refine hK _ _ ?_;clear hK;exact hvia ⟨t,y,w3⟩ hrel
       go_simp;refine(cT _ hSd hBd).mono ?_;rintro e w3 ⟨hB3,hF3⟩;obtain⟨⟨t,y,rfl,hd3⟩,hS3⟩:=(show(∃t y,e=.returned (.iface t y)∧qai k w3 (fun j=>(World.drew V5).heap.size≤j∧j<w3.heap.size) (.iface t y) d)∧qad w3 b {s with pos:=q5,within:=wi} from hF3)
       simp only[];have c3:w3.cell? ⟨W.heap.size+1,0,none⟩=some (.slice a0 l0 c0):=qab ((hB3.block _ hLlt (by omega)).trans hL) 0;have hrel:But b (World.drew V5) w3∧qad w3 b {s with pos:=q5,within:=wi}∧qai k w3 (fun j=>(World.drew V5).heap.size≤j∧j<w3.heap.size) (.iface t y) d:=⟨hB3,hS3,hd3⟩
       refine hK _ _ ?_;clear hK;refine rd2 0 4 rfl rfl (by kernel_rfl) (fun K hK => ?_) (fun K hK => ?_)
       ·go_simp;refine hK _ _ ?_;clear hK;refine rd1 4 rfl (by kernel_rfl) (fun K hK => ?_);go_simp;refine hK _ _ ?_;clear hK;refine rd1 5 rfl (by kernel_rfl) (fun K hK => ?_);go_simp;refine hK _ _ ?_;clear hK;exact hvia ⟨t,y,w3⟩ hrel
       go_simp;refine hK _ _ ?_;clear hK;refine rd2 0 5 rfl rfl (by kernel_rfl) (fun K hK => ?_) (fun K hK => ?_)
       ·go_simp;refine hK _ _ ?_;clear hK;refine rd1 5 rfl (by kernel_rfl) (fun K hK => ?_);go_simp;refine hK _ _ ?_;clear hK;exact hvia ⟨t,y,w3⟩ hrel
       go_simp;refine hK _ _ ?_;clear hK;refine rd1 0 rfl (by kernel_rfl) (fun K hK => ?_);have c4:(w3.alloc (.cells #[.string ⟨key.toArray⟩,.iface t y] 208)).cell? ⟨W.heap.size+1,0,none⟩=some (.slice a0 l0 c0):=(World.cell?_alloc_some w3 _ _ (by rw[c3];rfl)).trans c3;go_simp;refine hK _ _ ?_;clear hK;exact hvia ⟨t,y,w3⟩ hrel
      case tail =>
       rintro⟨t,y,w3⟩ ⟨hB3,hS3,hd3⟩;simp only[] at hB3 hS3 hd3 ⊢;have hB3':But b V5 w3:=(But.of_below (Below.refl _ _).drew).trans hB3;have hO3:w3.ownsRow (W.heap.size+4) 208 2 (.slice a0 l0 c0) a.2.length xs:=qcM ho hB3' (by omega);have hw3:W.heap.size+4≤w3.heap.size:=Nat.le_trans hsz hB3'.size;simp only[List.foldl];refine rd1 6 rfl (by kernel_rfl) (fun K hK => ?_);rw[if_pos (by rfl)];refine qcY _ _ 206 rfl (W.heap.size+4) 208 i0 (.agg #[.string ByteArray.empty,.nilIface]) 2 32 underlying206 hi hz0 hz1 hz2 rfl (by decide) _ _ _ rfl (hO3.alloc _) ⟨w3.heap.size,0,none⟩ 1 1 [.string ⟨key.toArray⟩,.iface t y] rfl rfl (qag _ _ _) (fun u hu=>by simp at hu;rcases hu with rfl|rfl<;>rfl) (by decide) (by unfold maxLen;omega) (by omega) (by simp;omega) ?_;intro v' w5 hown' hgrow5 hw5;have hJ:qfs k W b s N wi q5 (key::a.1,a.2++[(.string key,d)]) (w5.setCell ⟨W.heap.size+1,0,none⟩ v'):=H4.out.push h0 hbN hB3' hS3 hd3 hL ho hne hxs hown' hgrow5 hw5 (by have h1:a.2.length≤q4:=H4.out.len.1;omega) (by have h1:(key::a.1).length≤q4:=H4.out.len.2;omega);have hL5:w5.heap[W.heap.size+1]? = some (.cells #[.slice a0 l0 c0] 206):=(hgrow5.block _ (by simp;omega) (fun e=>by have:=qbA ho e.symm;omega)).trans ((Below.heap_alloc _ _ _ (by omega)).trans ((hB3'.block _ (ltA hL) (by omega)).trans hL));have c5:w5.cell? ⟨W.heap.size+1,0,none⟩=some (.slice a0 l0 c0):=qab hL5 0;have f5:w5.frozen? ⟨W.heap.size+1,0,none⟩=false:=frozen_of_row w5 _ 0 _ _ hL5;obtain⟨g5,cap5,rfl⟩:=ownsRow_succ hown';refine hK _ _ ?_;clear hK;refine rd1 7 rfl (by kernel_rfl) (fun K hK => ?_);go_simp;refine hK _ _ ?_;clear hK;refine wpAny_done (by kernel_rfl) ?_ _;go_end0;exact⟨rfl,hJ⟩
def qlz {α:Type}(W:World)(b:Nat)(s:Src)(val:World→Value→α→Prop)(r:Except (Int×Int) (α×Nat))(e:Ending)(W':World):Prop :=
 But b W W'∧match r with
 |.ok (x,p)=>(∃v,e=.returned v∧val W' v x)∧qad W' b {s with pos:=p}
 |.error (en,pl)=>qao en pl e
theorem qqY (hb:b<W.heap.size):qhI b s (qnp k W b s) (fun V=>But b W V) :=
 ⟨fun _ _ _ _ _ h=>h.src,fun _ _ _ _ _ _ _ _ h hs hB hpq=>h.step hb hs hB (by have:=h.len;omega),fun _ _ _ _ _ h=>h.box,fun _ _ _ _ _ h=>h.but,fun _ _ h hB=>h.trans hB⟩
theorem qsc (hb:b<W.heap.size):qhI b s (qfs k W b s) (fun V=>But b W V) :=
 ⟨fun _ _ _ _ _ h=>h.src,fun _ _ _ _ _ _ _ _ h hs hB hpq=>h.go hb hs hB hpq,fun _ _ _ _ _ h=>h.box,fun _ _ _ _ _ h=>h.but,fun _ _ h hB=>h.trans hB⟩
theorem qsl (hgo:∀p d q,rd p=.ok (d,q)→p<q):∀a p a' q,liJ rd a p=.ok (a',q)→p<q:=fun a p a' q h=>by
 unfold liJ at h;split at h
 ·cases h
 next d r hr =>
 injection h with h;injection h with h1 h2;have:=hgo _ _ _ hr;omega
theorem qsh {bs:List UInt8}{lim:Int}(hgo:∀p d q,rd p=.ok (d,q)→p<q):∀a p a' q,enJ bs lim rd a p=.ok (a',q)→p<q:=fun a p a' q h=>by
 unfold enJ at h;split at h
 ·cases h
 next l p1 h1 =>
 split at h
 ·cases h
 next u2 p2 h2 =>
 split at h
 ·cases h
 next u3 p3 h3 =>
 split at h
 ·cases h
 next u4 p4 h4 =>
 split at h
 ·cases h
 next d p5 h5 =>
 injection h with h;injection h with h6 h7;have:=qpR h1;have:=qcm _ _ _ _ _ _ h2;have:=qcb _ _ _ _ _ _ h3;have:=qcm _ _ _ _ _ _ h4;have:=hgo _ _ _ h5;omega
theorem qu9 (k:Nat)(h:qad W b s):qnp k W b s (W.heap.size+2) s.within s.pos [] (((W.alloc (.cells #[.pointer (some ⟨b,0,none⟩)] 198)).alloc (.cells #[.slice none 0 0] 204)).alloc (.cells #[.pointer (some ⟨b,0,none⟩)] 198)):=by
 have hB:Below W.heap.size W (((W.alloc (.cells #[.pointer (some ⟨b,0,none⟩)] 198)).alloc (.cells #[.slice none 0 0] 204)).alloc (.cells #[.pointer (some ⟨b,0,none⟩)] 198)):=((bwA).alloc (by simp) _).alloc (by simp;omega) _;refine⟨h.below hB,But.of_below hB,?_,?_,Nat.le_refl _,⟨none,0,0,[],?_,World.ownsRow_nil _ _ _ _,by simp[Value.ownBlock],fun i x d hx=>by simp at hx⟩,by simp,Nat.zero_le _⟩
 ·exact(Below.heap_alloc _ _ _ (by simp;omega)).trans ((Below.heap_alloc _ _ _ (by simp)).trans (qac W _))
 ·have:=qac ((W.alloc (.cells #[.pointer (some ⟨b,0,none⟩)] 198)).alloc (.cells #[.slice none 0 0] 204)) (.cells #[.pointer (some ⟨b,0,none⟩)] 198);rw[World.size_alloc,World.size_alloc] at this;exact this
 refine(Below.heap_alloc _ _ _ (by simp)).trans ?_;have:=qac (W.alloc (.cells #[.pointer (some ⟨b,0,none⟩)] 198)) (.cells #[.slice none 0 0] 204);rw[World.size_alloc] at this;exact this
theorem qsG (k:Nat)(h:qad W b s):qfs k W b s (W.heap.size+4) s.within s.pos ([],[]) (((((W.alloc (.cells #[.pointer (some ⟨b,0,none⟩)] 198)).alloc (.cells #[.slice none 0 0] 206)).alloc (.map #[] 0)).alloc (.cells #[.map (some (W.heap.size+2))] 414)).alloc (.cells #[.pointer (some ⟨b,0,none⟩)] 198)):=by
 have hB:Below W.heap.size W (((((W.alloc (.cells #[.pointer (some ⟨b,0,none⟩)] 198)).alloc (.cells #[.slice none 0 0] 206)).alloc (.map #[] 0)).alloc (.cells #[.map (some (W.heap.size+2))] 414)).alloc (.cells #[.pointer (some ⟨b,0,none⟩)] 198)):=((((bwA).alloc (by simp) _).alloc (by simp;omega) _).alloc (by simp;omega) _).alloc (by simp;omega) _;generalize hA:W.alloc (.cells #[.pointer (some ⟨b,0,none⟩)] 198)=A at *;have hAs:A.heap.size=W.heap.size+1:=by rw[←hA];simp
 have hA0:A.heap[W.heap.size]? = some (.cells #[.pointer (some ⟨b,0,none⟩)] 198):=by rw[←hA];exact qac W _
 generalize hC:A.alloc (.cells #[.slice none 0 0] 206)=C at *;have hCs:C.heap.size=W.heap.size+2:=by rw[←hC];simp[hAs]
 have hC0:C.heap[W.heap.size]? = some (.cells #[.pointer (some ⟨b,0,none⟩)] 198):=by rw[←hC];exact(Below.heap_alloc _ _ _ (by omega)).trans hA0
 have hC1:C.heap[W.heap.size+1]? = some (.cells #[.slice none 0 0] 206):=by rw[←hC,←hAs];exact qac A _
 have hM:qaE (C.alloc (.map #[] 0)) (W.heap.size+2) []:=⟨.map [],by rw[←hCs];exact World.ownsMap_made C prog 9 (unitElem (H:=Unit)),fun l=>by simp[Maps.has]⟩
 refine⟨h.below hB,But.of_below hB,?_,?_,?_,?_,Nat.le_refl _,⟨none,0,0,[],?_,World.ownsRow_nil _ _ _ _,by simp[Value.ownBlock],fun i x d hx=>by simp at hx⟩,by simp;omega,⟨Nat.zero_le _,Nat.zero_le _⟩⟩
 ·exact(Below.heap_alloc _ _ _ (by simp;omega)).trans ((Below.heap_alloc _ _ _ (by simp;omega)).trans ((Below.heap_alloc _ _ _ (by omega)).trans hC0))
 ·refine(Below.heap_alloc _ _ _ (by simp;omega)).trans ?_;have:=qac (C.alloc (.map #[] 0)) (.cells #[.map (some (W.heap.size+2))] 414);rw[World.size_alloc,hCs] at this;exact this
 ·exact(hM.but (b:=W.heap.size) (by omega) (But.of_below bwA)).but (b:=W.heap.size) (by omega) (But.of_below bwA)
 ·have:=qac ((C.alloc (.map #[] 0)).alloc (.cells #[.map (some (W.heap.size+2))] 414)) (.cells #[.pointer (some ⟨b,0,none⟩)] 198);rw[World.size_alloc,World.size_alloc,hCs] at this;exact this
 exact(Below.heap_alloc _ _ _ (by simp;omega)).trans ((Below.heap_alloc _ _ _ (by simp;omega)).trans ((Below.heap_alloc _ _ _ (by omega)).trans hC1))
theorem qhE (k:Nat)(W:World)(b:Nat)(s:Src)(rd:Nat→Except (Int×Int) (DataW Unit×Nat))(h:qad W b s)(hrd:qgg k b {s with within:=s.within+1} W rd)(hgo:∀p d q,rd p=.ok (d,q)→p<q)(hlen:s.bs.length≤200000000)(hd:¬(s.within:Int)=s.depth)(hwi:s.within≤100000):Calls prog 300 #[.agg #[.pointer (some ⟨b,0,none⟩)]] W (qlz W b s (fun V v ds=>(∃a n c,v=.slice a n c)∧qai (k+1) V (fun j=>W.heap.size≤j∧j<V.heap.size) (.iface 204 v) (.agg ds)) (qe4 s.bs s.lim (liJ rd) 93 s.pos [])):=by
 have hbN:=ltA h.row;have hB0:Below W.heap.size W ((W.alloc (.cells #[.pointer (some ⟨b,0,none⟩)] 198)).alloc (.cells #[.slice none 0 0] 204)):=(bwA).alloc (by simp) _;have cI:=qgM ((W.alloc (.cells #[.pointer (some ⟨b,0,none⟩)] 198)).alloc (.cells #[.slice none 0 0] 204)) b (W.heap.size+1) W.heap.size s (liJ rd) [] (qnp k W b s) (fun V=>But b W V) (qqY hbN) (h.below hB0) hd hwi (by simp only[World.size_alloc];exact qu9 k h) (fun N p ds V hV=>qqb k W b s (s.within+1) rd h hrd hgo hlen N p ds V hV) (qsl hgo);have hmf:∀(fn:Fn) (first cap:Array Value) (w:World),(Instr.makeFunc fn first cap).run prog w=.ok (.func fn first cap) w:=fun _ _ _ _=>rfl;have kr:((W.alloc (.cells #[.pointer (some ⟨b,0,none⟩)] 198)).alloc (.cells #[.slice none 0 0] 204)).cell? ⟨W.heap.size,0,none⟩=some (.pointer (some ⟨b,0,none⟩)):=qab ((Below.heap_alloc _ _ _ (by simp)).trans (qac W _)) 0
 cases hr:qe4 s.bs s.lim (liJ rd) 93 s.pos [] with
 |error er =>
  obtain⟨en,pl⟩:=er;rw[hr] at cI;go_enter func300,ntmps300
  go_wp2_with (first
   |(go_at_call 309;refine cI.mono ?_;rintro e w2 hF;obtain⟨hF,hFr⟩:=(show qao en pl e∧But b W w2 from hF);obtain rfl:=hF))
  exact⟨rfl,hFr,rfl⟩
 |ok dq =>
  obtain⟨ds,q⟩:=dq;rw[hr] at cI;go_enter func300,ntmps300
  go_wp2_with (first
   |(go_at_call 309;refine cI.mono ?_;rintro e w2 hF;obtain⟨rfl,hJ⟩:=(show e=.returned (.tuple #[])∧qnp k W b s _ s.within q ds w2 from hF);obtain⟨a,l,c,xs,hL,ho,hne,hxs⟩:=hJ.own;have kl:=qab hL 0;have HO:=qaa ho;have HXS:=qaa hxs;have HB:=qaa hJ.but;have HS:=qaa hJ.src))
  go_ret;refine⟨HB.out,⟨_,rfl,⟨_,_,_,rfl⟩,?_⟩,HS.out⟩;unfold qai;refine⟨_,xs,rfl,⟨HO.out.1,?_⟩,fun i x d hx hd=>(HXS.out i x d hx hd).same (fun j hj=>⟨by omega,hj.2.1⟩) (fun _ _=>rfl)⟩;rcases HO.out.2 with h3|⟨g,cap,cur,e,hb,hg,h5⟩
  ·exact .inl h3
  exact .inr ⟨g,cap,cur,e,⟨by omega,(ltA hg)⟩,hg,h5⟩
theorem qjy (k:Nat)(W:World)(b:Nat)(s:Src)(rd:Nat→Except (Int×Int) (DataW Unit×Nat))(h:qad W b s)(hrd:qgg k b {s with within:=s.within+1} W rd)(hgo:∀p d q,rd p=.ok (d,q)→p<q)(hlen:s.bs.length≤200000000)(hU:∀V,But b W V→U8 V)(h7:7<b)(hd:¬(s.within:Int)=s.depth)(hwi:s.within≤100000):Calls prog 301 #[.agg #[.pointer (some ⟨b,0,none⟩)]] W (qlz W b s (fun V v es=>(∃a n c,v=.slice a n c)∧qai (k+1) V (fun j=>W.heap.size≤j∧j<V.heap.size) (.iface 206 v) (.map es.2)) (qe4 s.bs s.lim (enJ s.bs s.lim rd) 125 s.pos ([],[]))):=by
 have hbN:=ltA h.row;have hmm:∀V:World,(Instr.makeMap 414 none).run prog V=.ok (.map (some V.heap.size)) (V.alloc (.map #[] 0)):=fun V=>by kernel_rfl
 have hB0:Below W.heap.size W ((((W.alloc (.cells #[.pointer (some ⟨b,0,none⟩)] 198)).alloc (.cells #[.slice none 0 0] 206)).alloc (.map #[] 0)).alloc (.cells #[.map (some (W.heap.size+2))] 414)):=(((bwA).alloc (by simp) _).alloc (by simp;omega) _).alloc (by simp;omega) _;have cI:=qhR ((((W.alloc (.cells #[.pointer (some ⟨b,0,none⟩)] 198)).alloc (.cells #[.slice none 0 0] 206)).alloc (.map #[] 0)).alloc (.cells #[.map (some (W.heap.size+2))] 414)) b (W.heap.size+1) W.heap.size (W.heap.size+3) s (enJ s.bs s.lim rd) ([],[]) (qfs k W b s) (fun V=>But b W V) (qsc hbN) (h.below hB0) hd hwi (by simp only[World.size_alloc];exact qsG k h) (fun N p es V hV=>qra k W b s (s.within+1) rd h hrd hgo hlen hU h7 N p es V hV) (qsh hgo);have hmf:∀(fn:Fn) (first cap:Array Value) (w:World),(Instr.makeFunc fn first cap).run prog w=.ok (.func fn first cap) w:=fun _ _ _ _=>rfl;have kr:((((W.alloc (.cells #[.pointer (some ⟨b,0,none⟩)] 198)).alloc (.cells #[.slice none 0 0] 206)).alloc (.map #[] 0)).alloc (.cells #[.map (some (W.heap.size+2))] 414)).cell? ⟨W.heap.size,0,none⟩=some (.pointer (some ⟨b,0,none⟩)):=qab ((Below.heap_alloc _ _ _ (by simp;omega)).trans ((Below.heap_alloc _ _ _ (by simp;omega)).trans ((Below.heap_alloc _ _ _ (by simp)).trans (qac W _)))) 0
 cases hr:qe4 s.bs s.lim (enJ s.bs s.lim rd) 125 s.pos ([],[]) with
 |error er =>
  obtain⟨en,pl⟩:=er;rw[hr] at cI;go_enter func301,ntmps301
  go_wp2_with (first
   |(go_at_call 309;refine cI.mono ?_;rintro e w2 hF;obtain⟨hF,hFr⟩:=(show qao en pl e∧But b W w2 from hF);obtain rfl:=hF))
  exact⟨rfl,hFr,rfl⟩
 |ok dq =>
  obtain⟨es,q⟩:=dq;rw[hr] at cI;go_enter func301,ntmps301
  go_wp2_with (first
   |(go_at_call 309;refine cI.mono ?_;rintro e w2 hF;obtain⟨rfl,hJ⟩:=(show e=.returned (.tuple #[])∧qfs k W b s _ s.within q es w2 from hF);obtain⟨a,l,c,xs,hL,ho,hne,hxs⟩:=hJ.own;have kl:=qab hL 0;have HO:=qaa ho;have HXS:=qaa hxs;have HB:=qaa hJ.but;have HS:=qaa hJ.src))
  go_ret;refine⟨HB.out,⟨_,rfl,⟨_,_,_,rfl⟩,?_⟩,HS.out⟩;unfold qai;refine⟨_,xs,rfl,⟨HO.out.1,?_⟩,HXS.out.same (fun j hj=>⟨by omega,hj.2.1⟩) (fun _ _=>rfl)⟩;rcases HO.out.2 with h3|⟨g,cap,cur,e,hb,hg,h5⟩
  ·exact .inl h3
  exact .inr ⟨g,cap,cur,e,⟨by omega,(ltA hg)⟩,hg,h5⟩
end
end Go.Proofs.YtllcbnfmihfaaaaGreatDoor
