import Derived.Test.YtllcbnfmihfaaaaGreatDoorUq17
set_option maxRecDepth 100000
set_option maxHeartbeats 8000000
namespace Go.Proofs.YtllcbnfmihfaaaaGreatDoor
open Go.Proofs.Tryz
section
open Go.RowKit
def qcu (k:Nat)(V:World)(F:Nat→Prop)(xs:List Value)(es:List (Lit×DataW Unit)):Prop :=
 ∀(i:Nat) (key:Lit) (d:DataW Unit),es[i]? = some (key,d)→∃l x,key=.string l∧xs[2*i]? = some (.string ⟨l.toArray⟩)∧xs[2*i+1]? = some x∧qa2 k V F x d
theorem qcu.same {k:Nat}{V V':World}{F G:Nat→Prop}{xs:List Value}{es:List (Lit×DataW Unit)}(h:qcu k V F xs es)(hFG:∀k,F k→G k)(hk:∀k,F k→V'.heap[k]? = V.heap[k]?):qcu k V' G xs es:=fun i key d hd=>by
 obtain⟨l,x,e1,e2,e3,e4⟩:=h i key d hd
 exact⟨l,x,e1,e2,e3,e4.same hFG hk⟩
theorem But.trans' {b m:Nat}{A B C:World}(h:But b A B)(k:qfV b m B C)(hm:A.heap.size≤m:=by omega):But b A C :=
 ⟨k.os.trans h.os,k.tape.trans h.tape,k.output.trans h.output,Nat.le_trans h.size k.size,fun i h1 h2=>(k.block i (by have:=h.size;omega) h2 (by omega)).trans (h.block i h1 h2)⟩
structure qj1 (k:Nat)(W:World)(b:Nat)(fv:Value)(s:Src)(p:Nat)(v:Value)(es:List (Lit×DataW Unit))(ks:List (List UInt8))(V:World):Prop where
 src:qad V b {s with pos:=p}
 but:But b W V
 box:V.heap[W.heap.size]? = some (.cells #[.pointer (some ⟨b,0,none⟩),fv] 201)
 keys:qaB V (W.heap.size+1) ks
 own:∃xs,V.ownsRow (W.heap.size+2) 208 2 v es.length xs∧qcu k V (fun j=>W.heap.size+2≤j∧j<V.heap.size∧some j≠v.ownBlock) xs es
 size:W.heap.size+2≤V.heap.size
theorem qdF {W W':World}{b m base:Nat}{t:TypeId}{size:Nat}{v:Value}{n:Nat}{xs:List Value}(h:W.ownsRow base t size v n xs)(hB:qfV b m W W')(hn:b<base)(hm:m<base):W'.ownsRow base t size v n xs:=by
 obtain⟨h1,h2⟩:=h
 refine⟨h1,?_⟩
 rcases h2 with h2|⟨g,cap,cur,e,hb,hg,h5⟩
 ·exact .inl h2
 ·exact .inr ⟨g,cap,cur,e,hb,(hB.block g (ltA hg) (by omega) (by omega)).trans hg,h5⟩
theorem qj1.step {k:Nat}{W V V':World}{b:Nat}{fv v:Value}{s:Src}{p q:Nat}{es:List (Lit×DataW Unit)}{ks ks':List (List UInt8)}(h:qj1 k W b fv s p v es ks V)(hb:b<W.heap.size)(hs:qad V' b {s with pos:=q})(hB:qfV b (W.heap.size+1) V V')(hk:qaB V' (W.heap.size+1) ks'):qj1 k W b fv s q v es ks' V':=by
 obtain⟨xs,h1,h2⟩:=h.own
 have hsz:=h.size
 refine⟨hs,h.but.trans' hB,(hB.block _ (ltA h.box) (by omega) (by omega)).trans h.box,hk,⟨xs,qdF h1 hB (by omega) (by omega),?_⟩,Nat.le_trans h.size hB.size⟩
 exact h2.same (fun j hj=>⟨hj.1,Nat.lt_of_lt_of_le hj.2.1 hB.size,hj.2.2⟩) (fun j hj=>hB.block j hj.2.1 (by omega) (by omega))
theorem qj1.push {k:Nat}{W V w5:World}{b:Nat}{fv v v' x:Value}{s:Src}{p:Nat}{es:List (Lit×DataW Unit)}{ks:List (List UInt8)}{l:List UInt8}{d:DataW Unit}{xs:List Value}{V0:World}(h:qj1 k W b fv s p v es ks V)(h0:qad W b s)(ho:V.ownsRow (W.heap.size+2) 208 2 v es.length xs)(hx:qcu k V (fun j=>W.heap.size+2≤j∧j<V.heap.size∧some j≠v.ownBlock) xs es)(hd:qa2 k V (fun j=>V0.heap.size≤j∧j<V.heap.size) x d)(hv0:∀g,v.ownBlock=some g→g<V0.heap.size)(hW0:W.heap.size+2≤V0.heap.size)(ho':w5.ownsRow (W.heap.size+2) 208 2 v' (es.length+1) (xs++[.string ⟨l.toArray⟩,x]))(hg:(V.alloc (.cells #[.string ⟨l.toArray⟩,x] 208)).grownBy w5 v.ownBlock)(hw:v'.ownBlock=v.ownBlock∨v'.ownBlock=some (V.alloc (.cells #[.string ⟨l.toArray⟩,x] 208)).heap.size):qj1 k W b fv s p v' (es++[(.string l,d)]) ks w5:=by
 have hsz:=h.size
 have hgs:V.heap.size+1≤w5.heap.size:=by have:=hg.size;simpa using this
 have key:∀g,v.ownBlock=some g→W.heap.size+2≤g:=fun g hg=>qaQ ho hg
 have hkeep:∀j,j<V.heap.size→some j≠v.ownBlock→w5.heap[j]? = V.heap[j]?:=fun j hj hn=>(hg.block j (by simp;omega) hn).trans (Below.heap_alloc _ _ _ hj)
 have hlow:∀j,j<W.heap.size+2→w5.heap[j]? = V.heap[j]?:=fun j hj=>hkeep j (by omega) (fun e=>by have:=key j e.symm;omega)
 have hkeys:qaB w5 (W.heap.size+1) ks:=by
  have hB:But (W.heap.size+2) V (V.alloc (.cells #[.string ⟨l.toArray⟩,x] 208)):=But.of_below bwA
  have h1:=h.keys.but (b:=W.heap.size+2) (by omega) hB
  exact h1.kept hg (fun e=>by have:=key _ e.symm;omega)
 refine⟨h0.same rfl rfl h.src (fun j hj=>hlow j (by omega)),⟨hg.os.trans h.but.os,hg.tape.trans h.but.tape,hg.output.trans h.but.output,by have:=h.but.size;omega,fun j hj hn=>(hlow j (by omega)).trans (h.but.block j hj hn)⟩,(hlow _ (by omega)).trans h.box,hkeys,⟨_,by rw[List.length_append];exact ho',fun i y c hc => ?_⟩,by omega⟩
 have hne:∀j,j<V.heap.size→some j≠v.ownBlock→some j≠v'.ownBlock:=fun j hj hn=>by
  rcases hw with hw|hw
  ·rw[hw];exact hn
  ·rw[hw];intro e;injection e with e;simp at e;omega
 have hxl:xs.length=es.length*2:=ho.1
 by_cases hi:i<es.length
 ·rw[List.getElem?_append_left hi] at hc
  obtain⟨l',x',e1,e2,e3,e4⟩:=hx i y c hc
  refine⟨l',x',e1,by rw[List.getElem?_append_left (by omega)];exact e2,by rw[List.getElem?_append_left (by omega)];exact e3,?_⟩
  exact e4.same (fun j hj=>⟨hj.1,by have:=hj.2.1;omega,hne j hj.2.1 hj.2.2⟩) (fun j hj=>hkeep j hj.2.1 hj.2.2)
 ·have e:i=es.length:=by
   have:=ltL hc
   rw[List.length_append] at this
   simp at this
   omega
  subst e
  rw[List.getElem?_append_right (by omega)] at hc
  simp at hc
  obtain⟨rfl,rfl⟩:=hc
  have hoff:∀j,V0.heap.size≤j→some j≠v.ownBlock:=fun j hj e=>by have:=hv0 j e.symm;omega
  refine⟨l,x,rfl,?_,?_,hd.same (fun j hj=>⟨by omega,by omega,hne j hj.2 (hoff j hj.1)⟩) (fun j hj=>hkeep j hj.2 (hoff j hj.1))⟩
  ·rw[List.getElem?_append_right (by omega),show 2*es.length-xs.length=0 by omega];rfl
  ·rw[List.getElem?_append_right (by omega),show 2*es.length+1-xs.length=1 by omega];rfl
theorem qj1.row {k:Nat}{W V:World}{b:Nat}{fv v:Value}{s:Src}{p:Nat}{es:List (Lit×DataW Unit)}{ks:List (List UInt8)}(h:qj1 k W b fv s p v es ks V):qa2 (k+1) V (fun j=>W.heap.size≤j∧j<V.heap.size) (.iface 206 v) (.map es):=by
 obtain⟨xs,h1,h2⟩:=h.own
 unfold qa2
 refine⟨v,xs,rfl,⟨h1.1,?_⟩,h2.same (fun j hj=>⟨by omega,hj.2.1⟩) (fun _ _=>rfl)⟩
 rcases h1.2 with h3|⟨g,cap,cur,e,hb,hg,h5⟩
 ·exact .inl h3
 ·exact .inr ⟨g,cap,cur,e,⟨by omega,(ltA hg)⟩,hg,h5⟩
theorem Tryz.infoEntry:(prog.info? 208).map (fun i=>(i.zero,i.size,i.bytes))=some (some (.agg #[.string ByteArray.empty,.nilIface]),2,32):=by kernel_rfl
theorem qfu (bs:List UInt8)(lim:Int):∀(k p a x q:Nat),qa0 bs lim k p a=.ok (x,q)→q=p+k
 |0,p,a,x,q,h=>by
  unfold qa0 at h
  cases h
  rfl
 |k+1,p,a,x,q,h=>by
  rw[qa0] at h
  split at h
  ·cases h
  ·split at h
   ·cases h
   ·have:=qfu bs lim k (p+1) _ x q h
    omega
theorem qkS {hd:Nat→Nat×Nat×Nat}{bs:List UInt8}{lim:Int}{ks:List (List UInt8)}{p:Nat}{l:List UInt8}{q:Nat}(h:qbT hd bs lim ks p=.ok (l,q)):p<q:=by
 unfold qbT at h
 split at h
 ·cases h
 ·split at h
  ·cases h
  ·split at h
   ·split at h
    ·cases h
    ·next x q' ha =>
     split at h
     ·cases h
     ·next l' r hb =>
      split at h
      ·cases h
      ·injection h with h
       injection h with h1 h2
       have:=qfu _ _ _ _ _ _ _ ha
       have:=qdX _ _ _ _ _ _ _ _ hb
       omega
   ·cases h
theorem qnx {W:World}{b:Nat}{s:Src}(k:Nat)(fv:Value)(h:qad W b s):qj1 k W b fv s s.pos (.slice none 0 0) [] [] ((W.alloc (.cells #[.pointer (some ⟨b,0,none⟩),fv] 201)).alloc (.map #[] 0)):=by
 have hB:Below W.heap.size W ((W.alloc (.cells #[.pointer (some ⟨b,0,none⟩),fv] 201)).alloc (.map #[] 0)):=(bwA).alloc (by simp) _
 refine⟨h.below hB,But.of_below hB,(Below.heap_alloc _ _ _ (by simp)).trans (qab W _),⟨.map [],?_,fun l=>by simp[Maps.has]⟩,⟨[],World.ownsRow_nil _ _ _ _,fun i key d hx=>by simp at hx⟩,by simp⟩
 have:=World.ownsMap_made (W.alloc (.cells #[.pointer (some ⟨b,0,none⟩),fv] 201)) prog 9 (unitElem (H:=Unit))
 rw[World.size_alloc] at this
 exact this
theorem qhB (k:Nat)(W:World)(b:Nat)(s:Src)(f n:Nat)(hd:Nat→Nat×Nat×Nat)(rd:Nat→Except (Int×Int) (DataW Unit×Nat))(hn:n<18446744073709551616)(h:qad W b s)(hlen:s.bs.length≤200000000)(hU:∀V,But b W V→U8 V)(hB9:7<b)(cH:qdH f hd b W)(hrd:qgY k f b s W rd)(hgo:∀p d q,rd p=.ok (d,q)→p<q):Calls prog 331 #[.agg #[.pointer (some ⟨b,0,none⟩),.func (.func f) #[] #[]],.int .u64 n] W (qeQ W b s (fun V v es=>(∃a n c,v=.slice a n c)∧qa2 (k+1) V (fun j=>W.heap.size≤j∧j<V.heap.size) (.iface 206 v) (.map es)) (qau (qbT hd s.bs s.lim) rd n s.pos [] [])):=by
 obtain⟨i0,hi,hz0,hz1,hz2⟩:=info_parts Tryz.infoEntry
 have hmm:∀V:World,(Instr.makeMap 414 none).run prog V=.ok (.map (some V.heap.size)) (V.alloc (.map #[] 0)):=fun V=>by kernel_rfl
 have HX0:Hid (qj1 k W b (.func (.func f) #[] #[]) s s.pos (.slice none 0 0) [] [] ((W.alloc (.cells #[.pointer (some ⟨b,0,none⟩),.func (.func f) #[] #[]] 201)).alloc (.map #[] 0))):=qnx _ _ h
 have hbN:b<W.heap.size:=ltA h.row
 have HIG:Hid (∀g off,s.bs≠[]→s.ia=some ⟨g,off,none⟩→g≠W.heap.size+1):=fun g off hne e=>by
  have hl:0<s.bs.length:=by cases hbs:s.bs with|nil=>exact absurd hbs hne|cons _ _=>simp
  obtain⟨g',off',e1,_,e3⟩:=h.inp 0 hl
  rw[e] at e1
  injection e1 with e1
  injection e1 with e1
  have:g'<W.heap.size:=block_lt_of_cell e3
  omega
 have cK:∀(V:World) (p:Nat) (ks:List (List UInt8)),qad V b {s with pos:=p}→But b W V→qaB V (W.heap.size+1) ks→ks.length<1000000000→Calls prog 333 #[.agg #[.pointer (some ⟨b,0,none⟩),.func (.func f) #[] #[]],.map (some (W.heap.size+1))] V (qf7 V b (W.heap.size+1) {s with pos:=p} ks (qbT hd s.bs s.lim ks p)):=fun V p ks hV hB hk hl=>qim V b (W.heap.size+1) {s with pos:=p} ks hd f hV hk (by omega) HIG.out hl hlen (fun U hBU=>hU U (hB.trans hBU)) hB9 (cH.but hB)
 have HS0:Hid (qad W b s):=h
 have HRD:Hid (qgY k f b s W rd):=hrd
 have HGO:Hid (∀p d q,rd p=.ok (d,q)→p<q):=hgo
 have hle:=h.le
 obtain⟨R,HR⟩:∃R,Hid (qau (qbT hd s.bs s.lim) rd n s.pos [] []=R):=⟨_,show _=_ from rfl⟩
 rw[HR.out]
 clear h hrd hgo cH hU HIG
 go_enter func331,ntmps331
 go_wp2
 generalize (W.alloc (.cells #[.pointer (some ⟨b,0,none⟩),.func (.func f) #[] #[]] 201)).alloc (.map #[] 0)=W0 at *
 clear hmm
 go_loopg [5,10] n (fun g y z wr=>∃(m p:Nat) (a:Option Addr) (l c:Nat) (es:List (Lit×DataW Unit)) (ks:List (List UInt8)),y=.slice a l c∧z=.int .u64 m∧Hid (m+g=n)∧Hid (p≤s.bs.length)∧Hid (es.length≤p∧ks.length≤p)∧Hid (qj1 k W b (.func (.func f) #[] #[]) s p (.slice a l c) es ks wr)∧Hid (qau (qbT hd s.bs s.lim) rd g p ks es=R))
 case atStart=>exact⟨0,s.pos,none,0,0,[],[],rfl,rfl,by show _=_;omega,hle,⟨Nat.zero_le _,Nat.zero_le _⟩,HX0,HR⟩
 case round =>
  clear HX0 HR
  obtain⟨m,p,a,l,c0,es,ks,rfl,rfl,hg,hp,ha,HX,HR⟩:=hrel
  have kb:=qaa HX.out.box 0
  have kb1:=qaa HX.out.box 1
  cases gk with
  |zero =>
   have hk:m=n:=by have:=hg.out;omega
   subst hk
   have HE:Hid (R=.ok (es,p)):=HR.out.symm
   clear HR hg cK
   go_wp2
   go_ret
   rw[HE.out]
   exact⟨HX.out.but,⟨_,rfl,⟨_,_,_,rfl⟩,HX.out.row⟩,HX.out.src⟩
  |succ g =>
   have hkn:m<n:=by have:=hg.out;omega
   have e1:decide ((m:Int)<(n:Int))=true:=by simp;omega
   have e2:decide (m<n)=true:=by simp;omega
   have hksl:ks.length<1000000000:=by have:=ha.out.2;have:=hp.out;omega
   have cK1:=cK wr p ks HX.out.src HX.out.but HX.out.keys hksl
   have hr:=HR.out
   rw[qau] at hr
   clear HR cK
   cases hq:qbT hd s.bs s.lim ks p with
   |error er =>
    rw[hq] at hr cK1
    simp only[] at hr
    obtain⟨en,pl⟩:=er
    have HE:Hid (R=.error (en,pl)):=hr.symm
    clear hr hq
    go_wp2_with (first
     |(go_at_call 333;refine cK1.mono ?_;clear cK1;rintro e w2 ⟨hB,hF⟩;obtain⟨hF,pz,hsz⟩:=(show qaj en pl e∧∃p,qad w2 b {s with pos:=p} from hF);obtain rfl:=hF))
    rw[HE.out]
    exact⟨rfl,HX.out.but.trans' hB,rfl,pz,hsz⟩
   |ok lq =>
    obtain⟨key,q⟩:=lq
    rw[hq] at hr cK1
    simp only[] at hr
    have hpq:=qkS hq
    clear hq
    have karm:True:=trivial
    cases hq2:rd q with
    |error er =>
     rw[hq2] at hr
     simp only[] at hr
     obtain⟨en,pl⟩:=er
     have HE:Hid (R=.error (en,pl)):=hr.symm
     have HQ2:Hid (rd q=.error (en,pl)):=hq2
     clear hr hq2 karm
     go_wp2_with (first
      |(go_at_call 333;refine cK1.mono ?_;clear cK1 kb kb1;rintro e w2 ⟨hB,hF⟩;obtain⟨rfl,hS2,hK2⟩:=(show e=.returned (.string ⟨key.toArray⟩)∧qad w2 b {s with pos:=q}∧qaB w2 (W.heap.size+1) (key::ks) from hF);have HX2:=qac (HX.out.step hbN hS2 hB hK2);clear HX hF hB hS2 hK2;have kb:=qaa HX2.out.box 0;have kb1:=qaa HX2.out.box 1;have cT:=HRD.out w2 q HX2.out.src HX2.out.but;rw[HQ2.out] at cT)
      |(go_at_call 325;refine cT.mono ?_;clear cT;rintro e w3 ⟨hB3,hF3⟩;obtain⟨hF3,pz,hsz⟩:=(show qaj en pl e∧∃p,qad w3 b {s with pos:=p} from hF3);obtain rfl:=hF3))
     rw[HE.out]
     exact⟨rfl,HX2.out.but.trans hB3,rfl,pz,hsz⟩
    |ok dr =>
     obtain⟨d,r⟩:=dr
     rw[hq2] at hr
     simp only[] at hr
     have HQ2:Hid (rd q=.ok (d,r)):=hq2
     have hqr:=HGO.out q d r hq2
     have HN:Hid (qau (qbT hd s.bs s.lim) rd g r (key::ks) (es++[(.string key,d)])=R):=hr
     have hal:es.length≤200000000:=by have:=ha.out.1;have:=hp.out;omega
     have HDL:Hid (es.length+1≤r∧ks.length+1≤r):=⟨by have:=ha.out.1;omega,by have:=ha.out.2;omega⟩
     clear hr hq2 hpq hqr ha hp karm
     go_wp2_with (first
      |(go_at_call 333;refine cK1.mono ?_;clear cK1 kb kb1;rintro e w2 ⟨hB,hF⟩;obtain⟨rfl,hS2,hK2⟩:=(show e=.returned (.string ⟨key.toArray⟩)∧qad w2 b {s with pos:=q}∧qaB w2 (W.heap.size+1) (key::ks) from hF);have HX2:=qac (HX.out.step hbN hS2 hB hK2);clear HX hF hB hS2 hK2;have kb:=qaa HX2.out.box 0;have kb1:=qaa HX2.out.box 1;have cT:=HRD.out w2 q HX2.out.src HX2.out.but;rw[HQ2.out] at cT;have HVW:Hid (W.heap.size+2≤w2.heap.size):=HX2.out.size;have HOL:Hid (∀g,(Value.slice a l c0).ownBlock=some g→g<w2.heap.size):=by {obtain⟨xs,h1,_⟩:=HX2.out.own;exact qiX h1})
      |(go_at_call 325;refine cT.mono ?_;clear cT kb kb1;rintro e w3 ⟨hB3,hF3⟩;obtain⟨⟨t,y,rfl,hd3⟩,hS3⟩:=(show(∃t y,e=.returned (.iface t y)∧qa2 k w3 (fun j=>w2.heap.size≤j∧j<w3.heap.size) (.iface t y) d)∧qad w3 b {s with pos:=r} from hF3);have HX3:Hid (qj1 k W b (.func (.func f) #[] #[]) s r (.slice a l c0) es (key::ks) w3):=HX2.out.step hbN hS3 (.of1 hB3) (HX2.out.keys.but (by omega) hB3);have HD:Hid (qa2 k w3 (fun j=>w2.heap.size≤j∧j<w3.heap.size) (.iface t y) d):=hd3;have HQ:Hid (r≤s.bs.length):=hS3.le;clear HX2 hS3 hB3 hd3 hF3;obtain⟨xs,hown,hxs⟩:=HX3.out.own;have HO:Hid (w3.ownsRow (W.heap.size+2) 208 2 (.slice a l c0) es.length xs):=hown;have HXS:Hid (qcu k w3 (fun j=>W.heap.size+2≤j∧j<w3.heap.size∧some j≠(Value.slice a l c0).ownBlock) xs es):=hxs;clear hown hxs;have HBS:Hid (W.heap.size+2≤w3.heap.size):=HX3.out.size)
      |(at_builtin;refine qag _ rfl _ _ 206 rfl (W.heap.size+2) 208 i0 (.agg #[.string ByteArray.empty,.nilIface]) 2 32 underlying206 hi hz0 hz1 hz2 rfl (by decide) _ _ _ rfl (HO.out.alloc _) ⟨w3.heap.size,0,none⟩ 1 1 [.string ⟨key.toArray⟩,.iface t y] rfl rfl (qa4 _ _ _) (fun u hu=>by simp at hu;rcases hu with rfl|rfl<;>rfl) (by decide) (by unfold maxLen;omega) (by omega) (by simp;have:=HBS.out;omega) ?_;intro v' w5 hown' hgrow5 hw5;have HX5:Hid (qj1 k W b (.func (.func f) #[] #[]) s r v' (es++[(.string key,d)]) (key::ks) w5):=HX3.out.push HS0.out HO.out HXS.out HD.out HOL.out HVW.out hown' hgrow5 hw5;obtain⟨g5,cap5,rfl⟩:=ownsRow_succ hown';clear hown' hgrow5 hw5 HX3 HO HXS HD))
     go_roundg g
     case measure=>omega
     case rel=>exact⟨m+1,r,_,_,_,es++[(.string key,d)],key::ks,rfl,by go_num,by show _=_;have:=hg.out;omega,HQ,⟨by rw[List.length_append];exact HDL.out.1,HDL.out.2⟩,HX5,HN⟩
theorem qjk (bs:List UInt8)(lim:Int):∀(n p:Nat) (acc l:List UInt8) (r:Nat),qch bs lim n p acc=.ok (l,r)→r=p+n
 |0,p,acc,l,r,h=>by
  rw[qch] at h
  injection h with h
  injection h with h1 h2
  exact h2.symm
 |n+1,p,acc,l,r,h=>by
  rw[qch] at h
  split at h
  ·cases h
  ·split at h
   ·cases h
   ·have:=qjk bs lim n _ _ l r h
    omega
theorem qhr {rd:Nat→Except (Int×Int) (DataW Unit×Nat)}(hrd:∀p d q,rd p=.ok (d,q)→p<q):∀(n p:Nat) (acc ds:List (DataW Unit)) (r:Nat),qaE rd n p acc=.ok (ds,r)→p≤r
 |0,p,acc,ds,r,h=>by
  rw[qaE] at h
  injection h with h
  injection h with h1 h2
  omega
 |n+1,p,acc,ds,r,h=>by
  rw[qaE] at h
  split at h
  ·cases h
  ·next d q hq =>
   have h1:=hrd _ _ _ hq
   have h2:=qhr hrd n q _ ds r h
   omega
theorem qes {kf:List (List UInt8)→Nat→Except (Int×Int) (List UInt8×Nat)}{rd:Nat→Except (Int×Int) (DataW Unit×Nat)}(hkf:∀ks p l q,kf ks p=.ok (l,q)→p<q)(hrd:∀p d q,rd p=.ok (d,q)→p<q):∀(n p:Nat) (ks:List (List UInt8)) (acc es:List (Lit×DataW Unit)) (r:Nat),qau kf rd n p ks acc=.ok (es,r)→p≤r
 |0,p,ks,acc,es,r,h=>by
  rw[qau] at h
  injection h with h
  injection h with h1 h2
  omega
 |n+1,p,ks,acc,es,r,h=>by
  rw[qau] at h
  split at h
  ·cases h
  ·next l q hq =>
   split at h
   ·cases h
   ·next d r' hr =>
    have h1:=hkf _ _ _ _ hq
    have h2:=hrd _ _ _ hr
    have h3:=qes hkf hrd n r' _ _ es r h
    omega
theorem qnm {bs:List UInt8}{lim:Int}{li:Nat→Nat→Except (Int×Int) (List (DataW Unit)×Nat)}{ma:Nat→Nat→Except (Int×Int) (List (Lit×DataW Unit)×Nat)}{so w x q:Nat}{d:DataW Unit}{r:Nat}(hli:∀x q ds r,li x q=.ok (ds,r)→q≤r)(hma:∀x q es r,ma x q=.ok (es,r)→q≤r)(h:qej bs lim li ma so w x q=.ok (d,r)):q≤r:=by
 unfold qej at h
 split at h
 ·injection h with h;injection h with h1 h2;omega
 ·injection h with h;injection h with h1 h2;omega
 ·split at h
  ·cases h
  ·injection h with h;injection h with h1 h2;omega
 ·split at h
  ·cases h
  ·injection h with h;injection h with h1 h2;omega
 ·split at h
  ·cases h
  ·injection h with h;injection h with h1 h2;omega
 ·split at h
  ·cases h
  ·next l r' hl =>
   injection h with h;injection h with h1 h2
   have:=qjk _ _ _ _ _ _ _ hl
   omega
 ·split at h
  ·cases h
  ·next l r' hl =>
   injection h with h;injection h with h1 h2
   have:=qdX _ _ _ _ _ _ _ _ hl
   omega
 ·split at h
  ·cases h
  ·next ds r' hl =>
   injection h with h;injection h with h1 h2
   have:=hli _ _ _ _ hl
   omega
 ·split at h
  ·cases h
  ·next es r' hl =>
   injection h with h;injection h with h1 h2
   have:=hma _ _ _ _ hl
   omega
 ·injection h with h;injection h with h1 h2;omega
theorem qeT (hd:Nat→Nat×Nat×Nat)(bs:List UInt8)(lim depth:Int):∀(g wi p:Nat) (d:DataW Unit) (q:Nat),thB hd bs lim depth g wi p=.ok (d,q)→p<q
 |0,_,_,_,_,h=>by rw[thB] at h;cases h
 |g+1,wi,p,d,q,h=>by
  have ih:=qeT hd bs lim depth g (wi+1)
  cases hc:bs[p]? with
  |none =>
   unfold thB at h
   rw[hc] at h
   cases h
  |some c =>
   by_cases hl:(p:Int)=lim
   ·unfold thB at h
    rw[hc] at h
    simp only[] at h
    rw[if_pos hl] at h
    cases h
   ·rw[qdV hc hl rfl] at h
    split at h
    ·cases h
    ·split at h
     ·cases h
     ·split at h
      ·cases h
      ·next x q' ha =>
       have h1:=qfu _ _ _ _ _ _ _ ha
       have h2:=qnm (fun x q ds r hh=>qhr ih x q [] ds r hh) (fun x q es r hh=>qes (fun ks p l q hk=>qkS hk) ih x q [] [] es r hh) h
       omega
theorem qb1 (hd:Nat→Nat×Nat×Nat)(f:Nat):∀(g:Nat) (W:World) (b:Nat) (s:Src),qad W b s→s.bs.length≤200000000→(∀V,But b W V→U8 V)→7<b→qdH f hd b W→s.depth≤100000→(s.within:Int)≤s.depth→s.depth<s.within+g →
  Calls prog 325 #[.agg #[.pointer (some ⟨b,0,none⟩),.func (.func f) #[] #[]]] W (qha g W b s (thB hd s.bs s.lim s.depth g s.within s.pos))
 |0,W,b,s,_,_,_,_,_,_,h1,h2=>by omega
 |g+1,W,b,s,h,hlen,hU,h7,cH,hdp,hwd,hgd=>by
  have ih:¬(s.within:Int)=s.depth→∀V,But b W V→qgY g f b {s with within:=s.within+1} V (thB hd s.bs s.lim s.depth g (s.within+1)):=fun hne V hV U p hS hB =>
   qb1 hd f g U b {s with pos:=p,within:=s.within+1} hS hlen (fun X hX=>hU X ((hV.trans hB).trans hX)) h7 (cH.but (hV.trans hB)) hdp (by show((s.within+1:Nat):Int)≤s.depth;omega) (by show s.depth<((s.within+1:Nat):Int)+g;omega)
  rcases qaO h with h1|h1|⟨c,h1⟩
  ·have e:thB hd s.bs s.lim s.depth (g+1) s.within s.pos=.error (9,(s.pos:Int)):=by
    unfold thB
    rw[List.getElem?_eq_none (by have:s.pos=s.bs.length:=h1;omega)]
   rw[e]
   exact qcS W b s f 9 h (fun V hV=>qbe V b s hV h1)
  ·have e:thB hd s.bs s.lim s.depth (g+1) s.within s.pos=.error (8,(s.pos:Int)):=by
    unfold thB
    rw[List.getElem?_eq_getElem h1.1]
    simp only[]
    rw[if_pos h1.2]
   rw[e]
   exact qcS W b s f 8 h (fun V hV=>qaN V b s hV h1)
  ·exact qe7 g W b s c hd f _ _ _ h h1 rfl (cH.so _ c.toNat_lt) (cH.fit _ c.toNat_lt).1 (cH.fit _ c.toNat_lt).2.1 (cH.fit _ c.toNat_lt).2.2 hlen (by omega) cH.fn hU h7 (cH.call c)
    (fun hne V p n hS hB hn=>qgF g V b {s with pos:=p,within:=s.within+1} f n _ hn hS hlen (ih hne V hB) (qeT hd s.bs s.lim s.depth g (s.within+1)))
    (fun hne V p n hS hB hn=>qhB g V b {s with pos:=p,within:=s.within+1} f n hd _ hn hS hlen (fun X hX=>hU X (hB.trans hX)) h7 (cH.but hB) (ih hne V hB) (qeT hd s.bs s.lim s.depth g (s.within+1)))
def qd6 {α:Type}(bs:List UInt8)(lim:Int)(itF:α→Nat→Except (Int×Int) (α×Nat))(last:Nat):Nat→Nat→α→Except (Int×Int) (α×Nat)
 |0,p,_=>.error (9,p)
 |g+1,p,acc=>match spF bs lim (bs.length+1-p) p with
  |.error e=>.error e
  |.ok (_,p1)=>match itF acc p1 with
   |.error e=>.error e
   |.ok (acc',p2)=>match spF bs lim (bs.length+1-p2) p2 with
    |.error e=>.error e
    |.ok (_,p3)=>match bs[p3]? with
     |none=>.error (9,p3)
     |some c=>if (p3:Int)=lim then .error (8,p3) else if c.toNat=last then .ok (acc',p3+1) else if c.toNat=44 then qd6 bs lim itF last g (p3+1) acc' else .error (9,p3)
def qdg {α:Type}(bs:List UInt8)(lim:Int)(itF:α→Nat→Except (Int×Int) (α×Nat))(last p:Nat)(acc:α):Except (Int×Int) (α×Nat) :=
 match spF bs lim (bs.length+1-p) p with
 |.error e=>.error e
 |.ok (_,p1)=>match bs[p1]? with
  |none=>qd6 bs lim itF last (bs.length+1-p1) p1 acc
  |some c=>if (p1:Int)=lim then .error (8,p1) else if c.toNat=last then .ok (acc,p1+1) else qd6 bs lim itF last (bs.length+1-p1) p1 acc
def liJ (rd:Nat→Except (Int×Int) (DataW Unit×Nat))(ds:List (DataW Unit))(p:Nat):Except (Int×Int) (List (DataW Unit)×Nat) :=
 match rd p with
 |.error e=>.error e
 |.ok (d,q)=>.ok (ds++[d],q)
def qkl (bs:List UInt8)(lim:Int)(ks:List (List UInt8))(p:Nat):Except (Int×Int) (List UInt8×Nat) :=
 match qaw bs lim [34] p with
 |.error e=>.error e
 |.ok (_,q)=>match qbu bs lim (bs.length+1-q) q [] 0 with
  |.error e=>.error e
  |.ok (l,r)=>if l∈ks then .error (12,(r:Int)-1) else .ok (l,r)
def enJ (bs:List UInt8)(lim:Int)(rd:Nat→Except (Int×Int) (DataW Unit×Nat))(a:List (List UInt8)×List (Lit×DataW Unit))(p:Nat):Except (Int×Int) ((List (List UInt8)×List (Lit×DataW Unit))×Nat) :=
 match qkl bs lim a.1 p with
 |.error e=>.error e
 |.ok (l,p1)=>match spF bs lim (bs.length+1-p1) p1 with
  |.error e=>.error e
  |.ok (_,p2)=>match qaw bs lim [58] p2 with
   |.error e=>.error e
   |.ok (_,p3)=>match spF bs lim (bs.length+1-p3) p3 with
    |.error e=>.error e
    |.ok (_,p4)=>match rd p4 with
     |.error e=>.error e
     |.ok (d,p5)=>.ok ((l::a.1,a.2++[(.string l,d)]),p5)
def qmM (bs:List UInt8)(lim depth:Int)(wi:Nat)(rd:Nat→Except (Int×Int) (DataW Unit×Nat))(nm:UInt8→Nat→Except (Int×Int) (Int×Nat))(c:UInt8)(p:Nat):Except (Int×Int) (DataW Unit×Nat) :=
 if c.toNat=110 then match qaw bs lim [117,108,108] p with
  |.error e=>.error e
  |.ok (_,q)=>.ok (.nil,q)
 else if c.toNat=116 then match qaw bs lim [114,117,101] p with
  |.error e=>.error e
  |.ok (_,q)=>.ok (.lit (.bool true),q)
 else if c.toNat=102 then match qaw bs lim [97,108,115,101] p with
  |.error e=>.error e
  |.ok (_,q)=>.ok (.lit (.bool false),q)
 else if c.toNat=34 then match qbu bs lim (bs.length+1-p) p [] 0 with
  |.error e=>.error e
  |.ok (l,q)=>.ok (.lit (.string l),q)
 else if c.toNat=91 then (if (wi:Int)=depth then .error (11,(p:Int)-1) else match qdg bs lim (liJ rd) 93 p [] with
  |.error e=>.error e
  |.ok (ds,q)=>.ok (.agg ds,q))
 else if c.toNat=123 then (if (wi:Int)=depth then .error (11,(p:Int)-1) else match qdg bs lim (enJ bs lim rd) 125 p ([],[]) with
  |.error e=>.error e
  |.ok (es,q)=>.ok (.map es.2,q))
 else if c.toNat=45∨qaG c=true then match nm c p with
  |.error e=>.error e
  |.ok (z,q)=>.ok (.lit (.int .i64 z),q)
 else .error (9,(p:Int)-1)
def thJ (bs:List UInt8)(lim depth:Int)(nm:UInt8→Nat→Except (Int×Int) (Int×Nat)):Nat→Nat→Nat→Except (Int×Int) (DataW Unit×Nat)
 |0,_,_=>.error (0,0)
 |g+1,wi,p=>match bs[p]? with
  |none=>.error (9,p)
  |some c=>if (p:Int)=lim then .error (8,p) else qmM bs lim depth wi (thJ bs lim depth nm g (wi+1)) nm c (p+1)
def qbV (k:Nat)(W:World)(b:Nat)(s:Src)(r:Except (Int×Int) (DataW Unit×Nat))(e:Ending)(W':World):Prop :=
 But b W W'∧match r with
 |.ok (d,p)=>(∃t y,e=.returned (.iface t y)∧qa2 k W' (fun j=>W.heap.size≤j∧j<W'.heap.size) (.iface t y) d)∧qad W' b {s with pos:=p}
 |.error (en,pl)=>qaj en pl e
def qeq (k b:Nat)(s:Src)(W0:World)(rd:Nat→Except (Int×Int) (DataW Unit×Nat)):Prop :=
 ∀(V:World) (p:Nat),qad V b {s with pos:=p}→But b W0 V→Calls prog 296 #[.agg #[.pointer (some ⟨b,0,none⟩)]] V (qbV k V b {s with pos:=p} (rd p))
end
end Go.Proofs.YtllcbnfmihfaaaaGreatDoor
