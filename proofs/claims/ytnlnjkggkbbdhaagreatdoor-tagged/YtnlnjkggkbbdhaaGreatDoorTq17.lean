import Derived.Test.YtnlnjkggkbbdhaaGreatDoorTq16
set_option maxRecDepth 100000
set_option maxHeartbeats 8000000
set_option linter.all false
namespace Go.Proofs.YtnlnjkggkbbdhaaGreatDoor
open Go.Proofs.Tryz
open Go.Value renaming int->I,slice->G
open Option renaming some->U,none->Y
open Go.IntKind renaming i64->K
open Go renaming World->O
open Go.Obj renaming cells->E
open Go.Proofs.Tryz renaming prog->X
open Go.Value renaming pointer->A8,string->A9,tuple->Aa,agg->Ab,iface->Ad
open Go.Ending renaming returned->Af
open Go renaming Value->Al,Calls->Am
variable{N b k p q wi wi':Nat}{V V' W:O}{s:BO}{a:List A1×List (Lit×DataW Unit)}{ks:List A1}{rd:Nat->Except (Int×Int) (DataW Unit×Nat)}
section
open Go.RowKit
structure F3(k:Nat)(W:World)(b:Nat)(s:BO)(N wi p:Nat)(a:List A1×List (Lit×DataW Unit))(V:World):Prop where
 src:BD V b {s with pos:=p,within:=wi}
 but:BF b W V
 rbox:V.heap[W.heap.size]?=some (.cells #[.pointer (some ⟨b,0,none⟩)] 147)
 kbox:V.heap[W.heap.size+3]?=some (.cells #[.map (some (W.heap.size+2))] 346)
 keys:E2 V (W.heap.size+2) a.1
 box:V.heap[N]?=some (.cells #[.pointer (some ⟨b,0,none⟩)] 147)
 hN:W.heap.size+4<=N
 own:∃ad l c xs,V.heap[W.heap.size+1]?=some (.cells #[.slice ad l c] 155)/\V.ownsRow (W.heap.size+4) 157 2 (.slice ad l c) a.2.length xs/\some N≠(Value.slice ad l c).ownBlock/\JS k V (λj=>W.heap.size+4<=j/\j<V.heap.size/\some j≠(Value.slice ad l c).ownBlock) xs a.2
 size:W.heap.size+4<=V.heap.size
 len:a.2.length<=p/\a.1.length<=p
def F3.step(h:F3 k W b s N wi p a V)(hb:b<W.heap.size)(t:BD V' b {s with pos:=q,within:=wi' })(d:GG b (W.heap.size+2) V V')(o:E2 V' (W.heap.size+2) ks)(r:a.2.length<=q/\ks.length<=q):F3 k W b s N wi' q (ks,a.2) V':=by
 obtain⟨g,l,c,u,f,i,m,n⟩:=h.own;have w:=h.size;have v:=h.hN;exact⟨t,h.but.trans' d,(d.block _ (BC h.rbox) J J).trans h.rbox,(d.block _ (BC h.kbox) J J).trans h.kbox,o,(d.block _ (BC h.box) J J).trans h.box,h.hN,⟨g,l,c,u,(d.block _ (BC f) J J).trans f,Yl i d J J,m,n.same (λj e=>⟨e.1,CA e.2.1 d.size,e.2.2⟩) (λj e=>d.block j e.2.1 J J)⟩,C7 h.size d.size,r⟩
def F3.go'(h:F3 k W b s N wi p a V)(hb:b<W.heap.size)(e:BD V' b {s with pos:=q,within:=wi' })(c:BF b V V')(d:a.2.length<=q/\a.1.length<=q):F3 k W b s N wi' q a V' :=
 h.step (ks:=a.1) hb e (.of1 c) (h.keys.but J c) d
def F3.go(h:F3 k W b s N wi p a V)(hb:b<W.heap.size)(d:BD V' b {s with pos:=q,within:=wi' })(c:BF b V V')(e:p<=q):F3 k W b s N wi' q a V' :=
 h.go' hb d c ⟨Ao h.len.1,Ao h.len.2⟩
def F3.push{V3 w5:O}{es:List (Lit×DataW Unit)}{d:A2}{key:A1}{a:A4}{l c:Nat}{v' x:Al}{xs:List Al}(h:F3 k W b s N wi p (ks,es) V)(h0:BD W b s)(hb:b<W.heap.size)(m:BF b V V3)(hS:BD V3 b {s with pos:=q,within:=wi})(hd:BQ k V3 (λj=>V.heap.size<=j/\j<V3.heap.size) x d)(P:V.heap[W.heap.size+1]?=U (E #[G a l c] 155))(H:V.ownsRow (W.heap.size+4) 157 2 (G a l c) es.length xs)(Q:U N≠(Value.slice a l c).ownBlock)(ai:JS k V (λj=>W.heap.size+4<=j/\j<V.heap.size/\U j≠(Value.slice a l c).ownBlock) xs es)(L:w5.ownsRow (W.heap.size+4) 157 2 v' (es.length+1) (xs++[A9 ⟨key.toArray⟩,x]))(n:(V3.alloc (E #[A9 ⟨key.toArray⟩,x] 157)).grownBy w5 (Value.slice a l c).ownBlock)(t:v'.ownBlock=(Value.slice a l c).ownBlock\/v'.ownBlock=U (V3.alloc (E #[A9 ⟨key.toArray⟩,x] 157)).heap.size)(af:es.length+1<=q)(ag:ks.length<=q):F3 k W b s N wi q (ks,es++[(.string key,d)]) (w5.setCell ⟨W.heap.size+1,0,Y⟩ v'):=by
 have an:=h.size;have hN:=h.hN;have ab:=BC h.box;have al:=m.size;have am:V3.heap.size+1<=w5.heap.size:=keQ
 have C:∀g,(Value.slice a l c).ownBlock=U g->W.heap.size+4<=g:=λg n=>Fa H n;have aj:∀g,(Value.slice a l c).ownBlock=U g->g<V.heap.size:=P7 H;have u:∀j,j<V3.heap.size->U j≠(Value.slice a l c).ownBlock->j≠W.heap.size+1->(w5.setCell ⟨W.heap.size+1,0,Y⟩ v').heap[j]?=V3.heap[j]?:=λj f r D=>(CP w5 _ _ _ (by simpa using D)).trans ((n.block j Ax r).trans (BT _ _ _ f));have v:∀j,j<W.heap.size+4->j≠W.heap.size+1->(w5.setCell ⟨W.heap.size+1,0,Y⟩ v').heap[j]?=V3.heap[j]?:=λj f D=>u j J (λe=>Ao (C j e.symm)) D;have aa:w5.heap[W.heap.size+1]?=U (E #[G a l c] 155):=(n.block _ Ax (λe=>Ao (C _ e.symm))).trans ((BT _ _ _ J).trans ((m.block _ (BC P) J).trans P));have w:(w5.setCell ⟨W.heap.size+1,0,Y⟩ v').heap.size=w5.heap.size:=AJ
 have ae:E2 (w5.setCell ⟨W.heap.size+1,0,Y⟩ v') (W.heap.size+2) ks:=by
  have h1:E2 V3 (W.heap.size+2) ks:=h.keys.but J m;have B:E2 (V3.alloc (E #[A9 ⟨key.toArray⟩,x] 157)) (W.heap.size+2) ks:=h1.but (b:=W.heap.size+1) J (BF.of_below BN);have h3:E2 w5 (W.heap.size+2) ks:=B.kept n (λe=>Ao (C _ e.symm));exact h3.but (b:=W.heap.size+1) J ⟨Z,Z,Z,AJ,λj _ f=>CP w5 _ _ _ keP⟩
 obtain⟨A,z,rfl⟩:=ownsRow_succ L;have ah:(w5.setCell ⟨W.heap.size+1,0,Y⟩ (G (U ⟨A,0,Y⟩) (es.length+1) z)).ownsRow (W.heap.size+4) 157 2 (G (U ⟨A,0,Y⟩) (es.length+1) z) (es.length+1) (xs++[A9 ⟨key.toArray⟩,x]):=by
  refine⟨L.1,?_⟩;rcases L.2 with B|⟨g,S,y,e,ac,ad,h5⟩
  ·exact .inl B
  exact .inr ⟨g,S,y,e,ac,(CP w5 _ _ _ Ax).trans ad,h5⟩
 have F:∀j,j<V3.heap.size->U j≠(Value.slice a l c).ownBlock->U j≠(Value.slice (U ⟨A,0,Y⟩) (es.length+1) z).ownBlock:=λj f r=>by
  rcases t with t|t
  ·rw[t];exact r
  rw[t];intro e;injection e with e;simp at e;omega
 refine⟨h0.same Z Z hS (λj f=>v j J J),⟨n.os.trans (m.os.trans h.but.os),n.tape.trans (m.tape.trans h.but.tape),n.output.trans (m.output.trans h.but.output),by rw[w];have:=h.but.size;omega,λj f r=>(v j J J).trans ((m.block j J r).trans (h.but.block j f r))⟩,(v _ J J).trans ((m.block _ J J).trans h.rbox),(v _ J J).trans ((m.block _ J J).trans h.kbox),ae,(u N J Q J).trans ((m.block N ab J).trans h.box),h.hN,⟨_,_,_,_,?_,by rw[BK];exact ah,?_,λi ak dd o=>?_⟩,by rw[w];omega,⟨by rw[BK];exact af,ag⟩⟩
 ·rw[ET _ _ _ _ _ _ aa];rfl
 ·exact F N J Q
 have ao:xs.length=es.length*2:=H.1;by_cases hi:i<es.length
 ·rw[F6 hi]at o;obtain⟨l',x',e1,e2,e3,e4⟩:=ai i ak dd o;refine⟨l',x',e1,by rw[F6 J];exact e2,by rw[F6 J];exact e3,?_⟩;exact e4.same (λj f=>⟨f.1,by rw[w];have:=f.2.1;omega,F j J f.2.2⟩) (λj f=>(u j J f.2.2 J).trans (m.block j f.2.1 J))
 have e:i=es.length:=by
  have:=Cf o;rw[BK]at this;simp at this;omega
 subst e;rw[Ez J]at o;simp at o;obtain⟨rfl,rfl⟩:=o;have R:∀j,V.heap.size<=j->U j≠(Value.slice a l c).ownBlock:=λj f e=>Ao (aj j e.symm)
 refine⟨key,x,Z,?_,?_,hd.same (λj f=>⟨J,by rw[w];omega,F j f.2 (R j f.1)⟩) (λj f=>u j f.2 (R j f.1) J)⟩
 ·rw[Ez J,show 2*es.length-xs.length=0 by omega];rfl
 rw[Ez J,show 2*es.length+1-xs.length=1 by omega];rfl
def kQ(k:Nat)(W:O)(b:Nat)(s:BO)(wi:Nat)(rd:Nat->Except (Int×Int) (DataW Unit×Nat))(h0:BD W b s)(a3:MI k b {s with within:=wi} W rd)(a6:∀p d aa,rd p=.ok (d,aa)->p<aa)(a7:s.bs.length<=200000000)(hU:∀V,BF b W V->U8 V)(h7:7<b)(N p:Nat)(a:List A1×List (Lit×DataW Unit))(V:O)(h:F3 k W b s N wi p a V):Am X 243 #[A8 (U ⟨W.heap.size,0,Y⟩),A8 (U ⟨W.heap.size+3,0,Y⟩),A8 (U ⟨W.heap.size+1,0,Y⟩)] V (NR (F3 k W b s N wi) (λV=>BF b W V) (DO s.bs s.lim rd a p)):=by
 obtain⟨i0,hi,bd,be,bf⟩:=DZ Tryz.infoEntry;have ag:b<W.heap.size:=BC h0.row;have a1:∀ak off,s.bs≠[]->s.ia=U ⟨ak,off,Y⟩->ak≠W.heap.size+2:=λak off ap e=>by
  have hl:0<s.bs.length:=by cases a5:s.bs with|nil=>exact absurd a5 ap|cons _ _=>simp
  obtain⟨g',bl,e1,_,e3⟩:=h0.inp 0 hl;rw[e]at e1;injection e1 with e1;injection e1 with e1;have:g'<W.heap.size:=G8 e3;omega
 have ac:Hid (F3 k W b s N wi p a V):=h;have cK:Am X 244 #[Ab #[A8 (U ⟨b,0,Y⟩)],.map (U (W.heap.size+2))] V (Yt V b (W.heap.size+2) {s with pos:=p,within:=wi} a.1 (FH s.bs s.lim a.1 p)):=kP V b (W.heap.size+2) {s with pos:=p,within:=wi} a.1 h.src h.keys J a1 (by have z:=h.len.2;have D:p<=s.bs.length:=h.src.le;omega) a7 (λw h9=>hU w (h.but.trans h9)) h7;have cS:∀(V:O) (p:Nat),BD V b {s with pos:=p,within:=wi}->Am X 229 #[Ab #[A8 (U ⟨b,0,Y⟩)]] V (ED V b {s with pos:=p,within:=wi} (λ_:Unit=>Aa #[]) (Cd s.bs s.lim (s.bs.length+1-p) p)):=λV p hV=>KY V b {s with pos:=p,within:=wi} hV;have cR:∀(V:O) (p:Nat),BD V b {s with pos:=p,within:=wi}->Am X 230 #[Ab #[A8 (U ⟨b,0,Y⟩)],A9 ⟨#[58]⟩] V (ED V b {s with pos:=p,within:=wi} (λ_:Unit=>Aa #[]) (Ci s.bs s.lim [58] p)):=λV p hV=>NP V b {s with pos:=p,within:=wi} [58] Az hV;have aj:∀(w:O) (aa:Nat),BD w b {s with pos:=aa,within:=wi}->BF b W w->Am X 228 #[Ab #[A8 (U ⟨b,0,Y⟩)]] w (IW k w b {s with pos:=aa,within:=wi} (rd aa)):=λw aa z D=>a3 w aa z D;have k1:=BB h.rbox 0;have k2:=BB h.kbox 0;clear h a3 hU a1;obtain⟨ar,HR⟩:∃ar,Hid (DO s.bs s.lim rd a p=ar):=⟨_,show _=_ from rfl⟩
 rw[HR.out];have r:=HR.out;unfold DO at r;clear HR;go_enter func243,ntmps243
 go_wp2_with fail
 refine cK.mono ?_;clear cK;rintro e w1 ⟨al,ad⟩
 cases z:FH s.bs s.lim a.1 p with
 |error u =>
  obtain⟨C,P⟩:=u;simp only[z]at r ad;subst r;clear z cS cR aj;obtain rfl:=(show C0 C P e from ad)
  go_wp2;exact⟨Z,Z,ac.out.but.trans' al⟩
 |ok lq =>
  obtain⟨key,q1⟩:=lq;have bi:=Ys z;simp only[z]at r ad;clear z;obtain⟨rfl,aw,au⟩:=(show e=Af (A9 ⟨key.toArray⟩)/\BD w1 b {s with pos:=q1,within:=wi}/\E2 w1 (W.heap.size+2) (key::a.1)from ad)
  have H1:Hid (F3 k W b s N wi q1 (key::a.1,a.2) w1):=ac.out.step ag aw al au ⟨Ao ac.out.len.1,by have:=ac.out.len.2;rw[Cu];omega⟩;clear ac aw al au ad k1 k2;have k1:=BB H1.rbox 0
  go_wp2_with fail
  refine(cS w1 q1 H1.src).mono ?_;rintro e w2 ⟨am,ae⟩
  cases D:Cd s.bs s.lim (s.bs.length+1-q1) q1 with
  |error u =>
   obtain⟨C,P⟩:=u;simp only[D]at r ae;subst r;clear D;obtain rfl:=(show C0 C P e from ae)
   go_wp2;exact⟨Z,Z,H1.but.trans am⟩
  |ok uq =>
   obtain⟨u2,q2⟩:=uq;have a8:=Hd _ _ _ _ _ _ D;simp only[D]at r ae;clear D;obtain⟨rfl,ax⟩:=(show e=Af (Aa #[])/\BD w2 b {s with pos:=q2,within:=wi}from ae)
   have H2:Hid (F3 k W b s N wi q2 (key::a.1,a.2) w2):=H1.go ag ax am a8;clear H1 ax am ae k1;have k1:=BB H2.rbox 0
   go_wp2_with fail
   refine(cR w2 q2 H2.src).mono ?_;rintro e f ⟨n,o⟩
   cases h3:Ci s.bs s.lim [58] q2 with
   |error u =>
    obtain⟨C,P⟩:=u;simp only[h3]at r o;subst r;clear h3;obtain rfl:=(show C0 C P e from o)
    go_wp2;exact⟨Z,Z,H2.but.trans n⟩
   |ok uq =>
    obtain⟨u3,q3⟩:=uq;have a9:q2<=q3:=Ao (MJ _ _ _ _ _ _ h3)
    simp only[h3]at r o;clear h3;obtain⟨rfl,F⟩:=(show e=Af (Aa #[])/\BD f b {s with pos:=q3,within:=wi}from o)
    have H3:Hid (F3 k W b s N wi q3 (key::a.1,a.2) f):=H2.go ag F n a9;clear H2 F n o k1;have k1:=BB H3.rbox 0
    go_wp2_with fail
    refine(cS f q3 H3.src).mono ?_;rintro e m ⟨an,af⟩
    cases h4:Cd s.bs s.lim (s.bs.length+1-q3) q3 with
    |error u =>
     obtain⟨C,P⟩:=u;simp only[h4]at r af;subst r;clear h4;obtain rfl:=(show C0 C P e from af)
     go_wp2;exact⟨Z,Z,H3.but.trans an⟩
    |ok uq =>
     obtain⟨u4,Q⟩:=uq;have ba:=Hd _ _ _ _ _ _ h4;simp only[h4]at r af;clear h4;obtain⟨rfl,ay⟩:=(show e=Af (Aa #[])/\BD m b {s with pos:=Q,within:=wi}from af)
     have S:Hid (F3 k W b s N wi Q (key::a.1,a.2) m):=H3.go ag ay an ba;clear H3 ay an af k1
     go_wp2_with fail
     have H:=λw (z:BD w b {s with pos:=Q,within:=wi}) (D:BF b W w)=>aj w Q z D;clear aj;obtain⟨A,L,B,xs,hL,ho,ap,aq⟩:=S.own;have ho:m.ownsRow (W.heap.size+4) 157 2 (G A L B) a.2.length xs:=ho;have aq:JS k m (λj=>W.heap.size+4<=j/\j<m.heap.size/\U j≠(Value.slice A L B).ownBlock) xs a.2:=aq;have ao:W.heap.size+1<(World.drew m).heap.size:=BC hL;have ab:BD (World.drew m) b {s with pos:=Q,within:=wi}:=S.src.below (C5 _ _).drew;have R:BF b W (World.drew m):=S.but.trans (BF.of_below (C5 _ _).drew);have k0:(World.drew m).cell? ⟨W.heap.size+1,0,Y⟩=U (G A L B):=BB hL 0;have k1:(World.drew m).cell? ⟨W.heap.size,0,Y⟩=U (A8 (U ⟨b,0,Y⟩)):=BB S.rbox 0;have bb:=S.size;refine Qp M ?_;change wpAny _ _ _ _ _ _ _ (World.drew m);refine wpAny_take (i:=1) (v:=A9 ⟨key.toArray⟩) Z M M M (λ_ _ _ h=>h) (.inl ⟨Z,λw=>rfl⟩) ?_
     cases h5:rd Q with
     |error u =>
      obtain⟨C,P⟩:=u;simp only[h5]at r;subst r;rw[h5]at H;clear h5;refine JK 0 2 Z Z M (λl c=>?_) (λl c=>?_)
      ·go_simp;refine c _ _ ?_;clear c;refine Ej 2 Z M (λl c=>?_);go_simp;refine c _ _ ?_;clear c;refine Ej 3 Z M (λl c=>?_);go_simp;refine(H _ ab R).mono ?_;rintro e f ⟨n,o⟩;obtain rfl:=(show C0 C P e from o)
       exact⟨Z,Z,R.trans n⟩
      go_simp;refine c _ _ ?_;clear c;refine JK 0 3 Z Z M (λl c=>?_) (λl c=>?_)
      ·go_simp;refine c _ _ ?_;clear c;refine Ej 3 Z M (λl c=>?_);go_simp;refine(H _ ab R).mono ?_;rintro e f ⟨n,o⟩;obtain rfl:=(show C0 C P e from o)
       exact⟨Z,Z,R.trans n⟩
      go_simp;refine(H _ ab R).mono ?_;rintro e f ⟨n,o⟩;obtain rfl:=(show C0 C P e from o)
      exact⟨Z,Z,R.trans n⟩
     |ok dq =>
      obtain⟨d,g⟩:=dq;have bj:=a6 Q d g h5;simp only[h5]at r;subst r;rw[h5]at H;clear h5;have bh:a.2.length<=200000000:=by have z:a.2.length<=Q:=S.len.1;have D:Q<=s.bs.length:=S.src.le;omega
      refine Yq (β:=TypeId×Al×O) #[true,true,true,true,true,true,false,false] 2 (λx=>[(13,G A L B),(15,Ab #[A8 (U ⟨b,0,Y⟩)]),(16,Ad x.1 x.2.1),(17,Ab #[A9 ⟨key.toArray⟩,Ad x.1 x.2.1]),(18,G (U ⟨x.2.2.heap.size,0,Y⟩) 1 1)]) (λx=>BF b (World.drew m) x.2.2/\BD x.2.2 b {s with pos:=g,within:=wi}/\BQ k x.2.2 (λj=>(World.drew m).heap.size<=j/\j<x.2.2.heap.size) (Ad x.1 x.2.1) d) (λx=>x.2.2.alloc (E #[A9 ⟨key.toArray⟩,Ad x.1 x.2.1] 157)) (λah=>?reg) ?tail
      case reg =>
       refine JK 0 2 Z Z M (λl c=>?_) (λl c=>?_)
       ·go_simp;refine c _ _ ?_;clear c;refine Ej 2 Z M (λl c=>?_);go_simp;refine c _ _ ?_;clear c;refine Ej 3 Z M (λl c=>?_);go_simp;refine(H _ ab R).mono ?_;rintro e f ⟨n,o⟩;obtain⟨⟨t,y,rfl,q⟩,F⟩:=(show(∃t y,e=Af (Ad t y)/\BQ k f (λj=>(World.drew m).heap.size<=j/\j<f.heap.size) (Ad t y) d)/\BD f b {s with pos:=g,within:=wi}from o)
        simp only[];have c3:f.cell? ⟨W.heap.size+1,0,Y⟩=U (G A L B):=BB ((n.block _ ao J).trans hL) 0;have hrel:BF b (World.drew m) f/\BD f b {s with pos:=g,within:=wi}/\BQ k f (λj=>(World.drew m).heap.size<=j/\j<f.heap.size) (Ad t y) d:=⟨n,F,q⟩
        refine c _ _ ?_;clear c;refine Ej 4 Z M (λl c=>?_);go_simp;refine c _ _ ?_;clear c;refine Ej 5 Z M (λl c=>?_);go_simp;refine c _ _ ?_;clear c;exact ah ⟨t,y,f⟩ hrel
       go_simp;refine c _ _ ?_;clear c;refine JK 0 3 Z Z M (λl c=>?_) (λl c=>?_)
       ·go_simp;refine c _ _ ?_;clear c;refine Ej 3 Z M (λl c=>?_);go_simp;refine(H _ ab R).mono ?_;rintro e f ⟨n,o⟩;obtain⟨⟨t,y,rfl,q⟩,F⟩:=(show(∃t y,e=Af (Ad t y)/\BQ k f (λj=>(World.drew m).heap.size<=j/\j<f.heap.size) (Ad t y) d)/\BD f b {s with pos:=g,within:=wi}from o)
        simp only[];have c3:f.cell? ⟨W.heap.size+1,0,Y⟩=U (G A L B):=BB ((n.block _ ao J).trans hL) 0;have hrel:BF b (World.drew m) f/\BD f b {s with pos:=g,within:=wi}/\BQ k f (λj=>(World.drew m).heap.size<=j/\j<f.heap.size) (Ad t y) d:=⟨n,F,q⟩
        refine c _ _ ?_;clear c;refine Ej 4 Z M (λl c=>?_);go_simp;refine c _ _ ?_;clear c;refine Ej 5 Z M (λl c=>?_);go_simp;refine c _ _ ?_;clear c;exact ah ⟨t,y,f⟩ hrel
       go_simp;refine(H _ ab R).mono ?_;rintro e f ⟨n,o⟩;obtain⟨⟨t,y,rfl,q⟩,F⟩:=(show(∃t y,e=Af (Ad t y)/\BQ k f (λj=>(World.drew m).heap.size<=j/\j<f.heap.size) (Ad t y) d)/\BD f b {s with pos:=g,within:=wi}from o)
       simp only[];have c3:f.cell? ⟨W.heap.size+1,0,Y⟩=U (G A L B):=BB ((n.block _ ao J).trans hL) 0;have hrel:BF b (World.drew m) f/\BD f b {s with pos:=g,within:=wi}/\BQ k f (λj=>(World.drew m).heap.size<=j/\j<f.heap.size) (Ad t y) d:=⟨n,F,q⟩
       refine c _ _ ?_;clear c;refine JK 0 4 Z Z M (λl c=>?_) (λl c=>?_)
       ·go_simp;refine c _ _ ?_;clear c;refine Ej 4 Z M (λl c=>?_);go_simp;refine c _ _ ?_;clear c;refine Ej 5 Z M (λl c=>?_);go_simp;refine c _ _ ?_;clear c;exact ah ⟨t,y,f⟩ hrel
       go_simp;refine c _ _ ?_;clear c;refine JK 0 5 Z Z M (λl c=>?_) (λl c=>?_)
       ·go_simp;refine c _ _ ?_;clear c;refine Ej 5 Z M (λl c=>?_);go_simp;refine c _ _ ?_;clear c;exact ah ⟨t,y,f⟩ hrel
       go_simp;refine c _ _ ?_;clear c;refine Ej 0 Z M (λl c=>?_);have c4:(f.alloc (E #[A9 ⟨key.toArray⟩,Ad t y] 157)).cell? ⟨W.heap.size+1,0,Y⟩=U (G A L B):=(Df f _ _ (by rw[c3];rfl)).trans c3;go_simp;refine c _ _ ?_;clear c;exact ah ⟨t,y,f⟩ hrel
      case tail =>
       rintro⟨t,y,f⟩ ⟨n,F,q⟩;simp only[]at n F q ⊢;have ai:BF b m f:=(BF.of_below (C5 _ _).drew).trans n;have a4:f.ownsRow (W.heap.size+4) 157 2 (G A L B) a.2.length xs:=QX ho ai J;have bk:W.heap.size+4<=f.heap.size:=C7 bb ai.size;simp only[List.foldl];refine Ej 6 Z M (λl c=>?_);rw[BA Bk];refine Yr _ _ 155 Z (W.heap.size+4) 157 i0 (Ab #[.string ByteArray.empty,.nilIface]) 2 32 underlying155 hi bd be bf Z Ay _ _ _ Z (a4.alloc _) ⟨f.heap.size,0,Y⟩ 1 1 [A9 ⟨key.toArray⟩,Ad t y] Z Z (EE _ _ _) (λbm hu=>Bv) Ay AC J Ax ?_;intro v' w5 a2 az bc;have hJ:F3 k W b s N wi g (key::a.1,a.2++[(.string key,d)]) (w5.setCell ⟨W.heap.size+1,0,Y⟩ v'):=S.push h0 ag ai F q hL ho ap aq a2 az bc (by have z:a.2.length<=Q:=S.len.1;omega) (by have z:(key::a.1).length<=Q:=S.len.2;omega);have av:w5.heap[W.heap.size+1]?=U (E #[G A L B] 155):=(az.block _ Ax (λe=>Ao (Fa ho e.symm))).trans ((BT _ _ _ J).trans ((ai.block _ (BC hL) J).trans hL));have c5:w5.cell? ⟨W.heap.size+1,0,Y⟩=U (G A L B):=BB av 0;have f5:w5.frozen? ⟨W.heap.size+1,0,Y⟩=false:=Dx w5 _ 0 _ _ av;obtain⟨g5,bg,rfl⟩:=ownsRow_succ a2;refine c _ _ ?_;clear c;refine Ej 7 Z M (λl c=>?_);go_simp;refine c _ _ ?_;clear c;refine T6 M ?_ _;go_end0;exact⟨Z,hJ⟩
def R5{α:Type}(W:World)(b:Nat)(s:BO)(val:World->Al->α->Prop)(r:A5 α)(e:Ending)(W':World):Prop :=
 BF b W W'/\match r with
 |.ok (x,p)=>(∃v,e=Af v/\val W' v x)/\BD W' b {s with pos:=p}
 |.error (en,pl)=>C0 en pl e
def kR(hb:b<W.heap.size):R2 b s (Jp k W b s) (λV=>BF b W V) :=
 ⟨λ_ _ _ _ _ h=>h.src,λ_ _ _ _ _ _ _ _ h c a d=>h.step hb c a (Ao h.len),λ_ _ _ _ _ h=>h.box,λ_ _ _ _ _ h=>h.but,λ_ _ h a=>h.trans a⟩
def kS(hb:b<W.heap.size):R2 b s (F3 k W b s) (λV=>BF b W V) :=
 ⟨λ_ _ _ _ _ h=>h.src,λ_ _ _ _ _ _ _ _ h d a c=>h.go hb d a c,λ_ _ _ _ _ h=>h.box,λ_ _ _ _ _ h=>h.but,λ_ _ h a=>h.trans a⟩
def Yu(c:∀p d q,rd p=.ok (d,q)->p<q):∀a p b q,D9 rd a p=.ok (b,q)->p<q:=λa p b q h=>by
 unfold D9 at h;split at h
 ·cases h
 next d r hr =>
 injection h with h;injection h with h1 h2;have:=c _ _ _ hr;omega
def TW{bs:A1}{lim:Int}(c:∀p d q,rd p=.ok (d,q)->p<q):∀a p b q,DO bs lim rd a p=.ok (b,q)->p<q:=λa p b q h=>by
 unfold DO at h;split at h
 ·cases h
 next l p1 h1 =>
 split at h
 ·cases h
 next u2 p2 h2 =>
 split at h
 ·cases h
 next u3 p3 h3 =>
 split at h
 ·cases h
 next u4 p4 h4 =>
 split at h
 ·cases h
 next d p5 h5 =>
 injection h with h;injection h with h6 h7;have:=Ys h1;have:=Hd _ _ _ _ _ _ h2;have:=MJ _ _ _ _ _ _ h3;have:=Hd _ _ _ _ _ _ h4;have:=c _ _ _ h5;omega
def kT(k:Nat)(h:BD W b s):Jp k W b s (W.heap.size+2) s.within s.pos [] (((W.alloc (E #[A8 (U ⟨b,0,Y⟩)] 147)).alloc (E #[G Y 0 0] 153)).alloc (E #[A8 (U ⟨b,0,Y⟩)] 147)):=by
 have a:A0 W (((W.alloc (E #[A8 (U ⟨b,0,Y⟩)] 147)).alloc (E #[G Y 0 0] 153)).alloc (E #[A8 (U ⟨b,0,Y⟩)] 147)):=((BN).alloc Az _).alloc Ax _;refine⟨h.below a,BF.of_below a,?_,?_,BM _,⟨Y,0,0,[],?_,FQ _ _ _ _,by simp[Value.ownBlock],λi x d c=>by simp at c⟩,Az,DK _⟩
 ·exact(BT _ _ _ Ax).trans ((BT _ _ _ Az).trans (BI W _))
 ·have:=BI ((W.alloc (E #[A8 (U ⟨b,0,Y⟩)] 147)).alloc (E #[G Y 0 0] 153)) (E #[A8 (U ⟨b,0,Y⟩)] 147);rw[BU,BU]at this;exact this
 refine(BT _ _ _ Az).trans ?_;have:=BI (W.alloc (E #[A8 (U ⟨b,0,Y⟩)] 147)) (E #[G Y 0 0] 153);rw[BU]at this;exact this
def kU(k:Nat)(h:BD W b s):F3 k W b s (W.heap.size+4) s.within s.pos ([],[]) (((((W.alloc (E #[A8 (U ⟨b,0,Y⟩)] 147)).alloc (E #[G Y 0 0] 155)).alloc (.map #[] 0)).alloc (E #[.map (U (W.heap.size+2))] 346)).alloc (E #[A8 (U ⟨b,0,Y⟩)] 147)):=by
 have e:A0 W (((((W.alloc (E #[A8 (U ⟨b,0,Y⟩)] 147)).alloc (E #[G Y 0 0] 155)).alloc (.map #[] 0)).alloc (E #[.map (U (W.heap.size+2))] 346)).alloc (E #[A8 (U ⟨b,0,Y⟩)] 147)):=((((BN).alloc Az _).alloc Ax _).alloc Ax _).alloc Ax _;generalize hA:W.alloc (E #[A8 (U ⟨b,0,Y⟩)] 147)=A at *;have c:A.heap.size=W.heap.size+1:=by rw[<-hA];simp
 have f:A.heap[W.heap.size]?=U (E #[A8 (U ⟨b,0,Y⟩)] 147):=by rw[<-hA];exact BI W _
 generalize hC:A.alloc (E #[G Y 0 0] 155)=C at *;have a:C.heap.size=W.heap.size+2:=by rw[<-hC];simp[c]
 have g:C.heap[W.heap.size]?=U (E #[A8 (U ⟨b,0,Y⟩)] 147):=by rw[<-hC];exact(BT _ _ _ J).trans f
 have j:C.heap[W.heap.size+1]?=U (E #[G Y 0 0] 155):=by rw[<-hC,<-c];exact BI A _
 have m:E2 (C.alloc (.map #[] 0)) (W.heap.size+2) []:=⟨.map [],by rw[<-a];exact Qc C X 9 (unitElem (H:=Unit)),λl=>by simp[Maps.has]⟩
 refine⟨h.below e,BF.of_below e,?_,?_,?_,?_,BM _,⟨Y,0,0,[],?_,FQ _ _ _ _,by simp[Value.ownBlock],λi x d n=>by simp at n⟩,Ax,⟨DK _,DK _⟩⟩
 ·exact(BT _ _ _ Ax).trans ((BT _ _ _ Ax).trans ((BT _ _ _ J).trans g))
 ·refine(BT _ _ _ Ax).trans ?_;have:=BI (C.alloc (.map #[] 0)) (E #[.map (U (W.heap.size+2))] 346);rw[BU,a]at this;exact this
 ·exact(m.but (b:=W.heap.size) J (BF.of_below BN)).but (b:=W.heap.size) J (BF.of_below BN)
 ·have:=BI ((C.alloc (.map #[] 0)).alloc (E #[.map (U (W.heap.size+2))] 346)) (E #[A8 (U ⟨b,0,Y⟩)] 147);rw[BU,BU,a]at this;exact this
 exact(BT _ _ _ Ax).trans ((BT _ _ _ Ax).trans ((BT _ _ _ J).trans j))
def kV(k:Nat)(W:O)(b:Nat)(s:BO)(f:Nat->Except (Int×Int) (DataW Unit×Nat))(h:BD W b s)(ab:MI k b {s with within:=s.within+1} W f)(C:∀p d q,f p=.ok (d,q)->p<q)(aa:s.bs.length<=200000000)(u:¬(s.within:Int)=s.depth)(ac:s.within<=100000):Am X 232 #[Ab #[A8 (U ⟨b,0,Y⟩)]] W (R5 W b s (λV v m=>(∃a af c,v=G a af c)/\BQ (k+1) V (λj=>W.heap.size<=j/\j<V.heap.size) (Ad 153 v) (.agg m)) (Di s.bs s.lim (D9 f) 93 s.pos [])):=by
 have x:=BC h.row;have i:A0 W ((W.alloc (E #[A8 (U ⟨b,0,Y⟩)] 147)).alloc (E #[G Y 0 0] 153)):=(BN).alloc Az _;have o:=kM ((W.alloc (E #[A8 (U ⟨b,0,Y⟩)] 147)).alloc (E #[G Y 0 0] 153)) b (W.heap.size+1) W.heap.size s (D9 f) [] (Jp k W b s) (λV=>BF b W V) (kR x) (h.below i) u ac (by simp only[BU,A0];exact kT k h) (λN p m V hV=>kO k W b s (s.within+1) f h ab C aa N p m V hV) (Yu C);have ah:∀(A:Fn) (first r:A3) (w:O),(Instr.makeFunc A first r).run X w=.ok (.func A first r) w:=λ_ _ _ _=>rfl;have kr:((W.alloc (E #[A8 (U ⟨b,0,Y⟩)] 147)).alloc (E #[G Y 0 0] 153)).cell? ⟨W.heap.size,0,Y⟩=U (A8 (U ⟨b,0,Y⟩)):=BB ((BT _ _ _ Az).trans (BI W _)) 0
 cases D:Di s.bs s.lim (D9 f) 93 s.pos []with
 |error S =>
  obtain⟨R,pl⟩:=S;rw[D]at o;go_enter func232,ntmps232
  go_wp2_with(first
   |(go_at_call 241;refine o.mono ?_;rintro e y hF;obtain⟨hF,n⟩:=(show C0 R pl e/\BF b W y from hF);obtain rfl:=hF))
  exact⟨Z,n,Z⟩
 |ok Q =>
  obtain⟨m,q⟩:=Q;rw[D]at o;go_enter func232,ntmps232
  go_wp2_with(first
   |(go_at_call 241;refine o.mono ?_;rintro e y hF;obtain⟨rfl,t⟩:=(show e=Af (Aa #[])/\Jp k W b s _ s.within q m y from hF);obtain⟨a,aj,c,xs,hL,ho,ai,ad⟩:=t.own;have kl:=BB hL 0;have z:=T ho;have L:=T ad;have F:=T t.but;have H:=T t.src))
  go_ret;refine⟨F,⟨_,Z,⟨_,_,_,Z⟩,?_⟩,H⟩;unfold BQ;refine⟨_,xs,Z,⟨z.1,?_⟩,λae ag d hx u=>(L ae ag d hx u).same (λj hj=>⟨J,hj.2.1⟩) (λ_ _=>rfl)⟩;rcases z.2 with l|⟨g,r,P,e,hb,B,h5⟩
  ·exact .inl l
  exact .inr ⟨g,r,P,e,⟨J,(BC B)⟩,B,h5⟩
def kX(k:Nat)(W:O)(b:Nat)(s:BO)(f:Nat->Except (Int×Int) (DataW Unit×Nat))(h:BD W b s)(ac:MI k b {s with within:=s.within+1} W f)(z:∀p d q,f p=.ok (d,q)->p<q)(ab:s.bs.length<=200000000)(hU:∀V,BF b W V->U8 V)(S:7<b)(hd:¬(s.within:Int)=s.depth)(ad:s.within<=100000):Am X 233 #[Ab #[A8 (U ⟨b,0,Y⟩)]] W (R5 W b s (λV v i=>(∃a af c,v=G a af c)/\BQ (k+1) V (λj=>W.heap.size<=j/\j<V.heap.size) (Ad 155 v) (.map i.2)) (Di s.bs s.lim (DO s.bs s.lim f) 125 s.pos ([],[]))):=by
 have aa:=BC h.row;have ah:∀V:O,(Instr.makeMap 346 Y).run X V=.ok (.map (U V.heap.size)) (V.alloc (.map #[] 0)):=λV=>M
 have l:A0 W ((((W.alloc (E #[A8 (U ⟨b,0,Y⟩)] 147)).alloc (E #[G Y 0 0] 155)).alloc (.map #[] 0)).alloc (E #[.map (U (W.heap.size+2))] 346)):=(((BN).alloc Az _).alloc Ax _).alloc Ax _;have m:=kN ((((W.alloc (E #[A8 (U ⟨b,0,Y⟩)] 147)).alloc (E #[G Y 0 0] 155)).alloc (.map #[] 0)).alloc (E #[.map (U (W.heap.size+2))] 346)) b (W.heap.size+1) W.heap.size (W.heap.size+3) s (DO s.bs s.lim f) ([],[]) (F3 k W b s) (λV=>BF b W V) (kS aa) (h.below l) hd ad (by simp only[BU,A0];exact kU k h) (λN p i V hV=>kQ k W b s (s.within+1) f h ac z ab hU S N p i V hV) (TW z);have ag:∀(x:Fn) (first o:A3) (w:O),(Instr.makeFunc x first o).run X w=.ok (.func x first o) w:=λ_ _ _ _=>rfl;have kr:((((W.alloc (E #[A8 (U ⟨b,0,Y⟩)] 147)).alloc (E #[G Y 0 0] 155)).alloc (.map #[] 0)).alloc (E #[.map (U (W.heap.size+2))] 346)).cell? ⟨W.heap.size,0,Y⟩=U (A8 (U ⟨b,0,Y⟩)):=BB ((BT _ _ _ Ax).trans ((BT _ _ _ Ax).trans ((BT _ _ _ Az).trans (BI W _)))) 0
 cases A:Di s.bs s.lim (DO s.bs s.lim f) 125 s.pos ([],[])with
 |error P =>
  obtain⟨L,pl⟩:=P;rw[A]at m;go_enter func233,ntmps233
  go_wp2_with(first
   |(go_at_call 241;refine m.mono ?_;rintro e t hF;obtain⟨hF,n⟩:=(show C0 L pl e/\BF b W t from hF);obtain rfl:=hF))
  exact⟨Z,n,Z⟩
 |ok H =>
  obtain⟨i,q⟩:=H;rw[A]at m;go_enter func233,ntmps233
  go_wp2_with(first
   |(go_at_call 241;refine m.mono ?_;rintro e t hF;obtain⟨rfl,r⟩:=(show e=Af (Aa #[])/\F3 k W b s _ s.within q i t from hF);obtain⟨a,aj,c,xs,hL,ho,ai,ae⟩:=r.own;have kl:=BB hL 0;have u:=T ho;have D:=T ae;have B:=T r.but;have C:=T r.src))
  go_ret;refine⟨B,⟨_,Z,⟨_,_,_,Z⟩,?_⟩,C⟩;unfold BQ;refine⟨_,xs,Z,⟨u.1,?_⟩,D.same (λj hj=>⟨J,hj.2.1⟩) (λ_ _=>rfl)⟩;rcases u.2 with Q|⟨g,o,F,e,hb,y,R⟩
  ·exact .inl Q
  exact .inr ⟨g,o,F,e,⟨J,(BC y)⟩,y,R⟩
def Yv(W:O)(b:Nat)(s:BO)(last:Int)(f:Fn)(g cs:A3)(h:BD W b s)(j:(s.within:Int)=s.depth):Am X 241 #[Ab #[A8 (U ⟨b,0,Y⟩)],I .u8 last,.func f g cs] W λe c=>C0 11 ((s.pos:Int)-1) e/\BF b W c:=by
 have a:=T (AA h);have d:=Ye _ b s a.src j;have k:=BB a.box 0;go_enter func241,ntmps241;go_wp2;go_step3
 go_wp2_with(first
  |(go_at_call 221;refine d.mono ?_;rintro e l ⟨hF,i,_⟩;obtain rfl:=hF))
 exact⟨Z,Z,a.but.trans i⟩
def kY(W:O)(b:Nat)(s:BO)(h:BD W b s)(l:(s.within:Int)=s.depth):Am X 232 #[Ab #[A8 (U ⟨b,0,Y⟩)]] W λe g=>C0 11 ((s.pos:Int)-1) e/\BF b W g:=by
 have d:A0 W ((W.alloc (E #[A8 (U ⟨b,0,Y⟩)] 147)).alloc (E #[G Y 0 0] 153)):=(BN).alloc Az _;have f:Hid (BF b W ((W.alloc (E #[A8 (U ⟨b,0,Y⟩)] 147)).alloc (E #[G Y 0 0] 153))):=BF.of_below d;have n:∀V:O,(Instr.makeMap 346 Y).run X V=.ok (.map (U V.heap.size)) (V.alloc (.map #[] 0)):=λV=>M
 have i:=λlast a j cs=>Yv _ b s last a j cs (h.below d) l;have m:∀(a:Fn) (first c:A3) (w:O),(Instr.makeFunc a first c).run X w=.ok (.func a first c) w:=λ_ _ _ _=>rfl;have o:((W.alloc (E #[A8 (U ⟨b,0,Y⟩)] 147)).alloc (E #[G Y 0 0] 153)).cell? ⟨W.heap.size,0,Y⟩=U (A8 (U ⟨b,0,Y⟩)):=BB ((BT _ _ _ Az).trans (BI W _)) 0;go_enter func232,ntmps232
 go_wp2_with(first
  |(go_at_call 241;refine(i _ _ _ _).mono ?_;rintro e p ⟨hF,k⟩;obtain rfl:=hF))
 exact⟨Z,Z,f.trans k⟩
def kZ(W:O)(b:Nat)(s:BO)(h:BD W b s)(l:(s.within:Int)=s.depth):Am X 233 #[Ab #[A8 (U ⟨b,0,Y⟩)]] W λe g=>C0 11 ((s.pos:Int)-1) e/\BF b W g:=by
 have d:A0 W ((((W.alloc (E #[A8 (U ⟨b,0,Y⟩)] 147)).alloc (E #[G Y 0 0] 155)).alloc (.map #[] 0)).alloc (E #[.map (U (W.heap.size+2))] 346)):=(((BN).alloc Az _).alloc Ax _).alloc Ax _;have f:Hid (BF b W ((((W.alloc (E #[A8 (U ⟨b,0,Y⟩)] 147)).alloc (E #[G Y 0 0] 155)).alloc (.map #[] 0)).alloc (E #[.map (U (W.heap.size+2))] 346))):=BF.of_below d;have n:∀V:O,(Instr.makeMap 346 Y).run X V=.ok (.map (U V.heap.size)) (V.alloc (.map #[] 0)):=λV=>M
 have i:=λlast a j cs=>Yv _ b s last a j cs (h.below d) l;have m:∀(a:Fn) (first c:A3) (w:O),(Instr.makeFunc a first c).run X w=.ok (.func a first c) w:=λ_ _ _ _=>rfl;have o:((((W.alloc (E #[A8 (U ⟨b,0,Y⟩)] 147)).alloc (E #[G Y 0 0] 155)).alloc (.map #[] 0)).alloc (E #[.map (U (W.heap.size+2))] 346)).cell? ⟨W.heap.size,0,Y⟩=U (A8 (U ⟨b,0,Y⟩)):=BB ((BT _ _ _ Ax).trans ((BT _ _ _ Ax).trans ((BT _ _ _ Az).trans (BI W _)))) 0;go_enter func233,ntmps233
 go_wp2_with(first
  |(go_at_call 241;refine(i _ _ _ _).mono ?_;rintro e p ⟨hF,k⟩;obtain rfl:=hF))
 exact⟨Z,Z,f.trans k⟩
def TX{bs:A1}{lim:Int}{most:Nat}{z:Bool}:∀{g p num:Nat} {x q:Nat},Dn bs lim most z g p num=.ok (x,q)->p<=q
 |0,p,num,x,q,h=>by
  unfold Dn at h;cases h;exact BM _
 |g+1,p,num,x,q,h=>by
  unfold Dn at h;split at h
  ·cases h;exact BM _
  split at h
  ·cases h
  split at h
  ·split at h
   ·cases h
   split at h
   ·cases h
   have:=TX h;omega
  split at h
  ·cases h
  cases h;exact BM _
def TY{c:UInt8}{z:Int}(a:c.toNat=45\/Dm c=true)(h:CR s c=.ok (z,q)):(-9223372036854775808<=z/\z<=9223372036854775807)/\s.pos<=q:=by
 unfold CR at h;split at h
 ·split at h
  ·cases h
  split at h
  ·cases h
  split at h
  ·next c' _ _ b =>
   have d:=CD b;split at h
   ·next x p hx =>
    injection h with h;injection h with h1 h2;have:=OV J Ay hx;have:=TX hx;exact⟨J,J⟩
   cases h
  cases h
 next hn =>
 have b:Dm c=true:=by
  rcases a with a|a
  ·exact absurd a hn
  exact a
 have d:=CD b;split at h
 ·next x p hx =>
  injection h with h;injection h with h1 h2;have:=OV J Ay hx;have:=TX hx;exact⟨J,J⟩
 cases h
def l6(g:Nat)(W:O)(b:Nat)(s:BO)(c:UInt8)(h:BD W b s)(w:EW s c)(A:c.toNat=110):Am X 228 #[Ab #[A8 (U ⟨b,0,Y⟩)]] W (IW (g+1) W b s (match Ci s.bs s.lim [117,108,108] (s.pos+1)with|.error e=>.error e|.ok (_,q)=>.ok (.nil,q))):=by
 have d:=T (AA h);have r:=d.cell;have o:=Ep _ b s c d.src w;have Q:=BC h.row;have D:((c.toNat:Int)==110)=true:=by rw[A];rfl
 have F:=BS (c:=c) 116 J;have H:=BS (c:=c) 102 J;have L:=BS (c:=c) 34 J;have N:=BS (c:=c) 91 J;have P:=BS (c:=c) 123 J;have f:∀V,BD V b s.next->BF b W V->Am X 230 #[Ab #[A8 (U ⟨b,0,Y⟩)],A9 ⟨#[117,108,108]⟩] V (ED V b s.next (λ_:Unit=>Aa #[]) (Ci s.bs s.lim [117,108,108] (s.pos+1))):=λV z _=>NP V b s.next [117,108,108] Az z
 cases p:Ci s.bs s.lim [117,108,108] (s.pos+1)with
 |error v =>
  obtain⟨u,B⟩:=v;rw[p]at f;simp only[];go_enter func228,ntmps228
  go_wp2_with(first
   |(go_at_call 226;refine o.mono ?_;rintro e n ⟨rfl,m,j⟩;have a:=T (d.step m j);have r:=a.cell;have i:=f n a.src a.but)
   |(go_at_call 230;refine i.mono ?_;rintro e t ⟨k,l⟩;obtain rfl:=(show C0 u B e from l)))
  exact⟨Z,a.but.trans k,Z⟩
 |ok C =>
  obtain⟨x,q⟩:=C;rw[p]at f;simp only[];go_enter func228,ntmps228
  go_wp2_with(first
   |(go_at_call 226;refine o.mono ?_;rintro e n ⟨rfl,m,j⟩;have a:=T (d.step m j);have r:=a.cell;have i:=f n a.src a.but)
   |(go_at_call 230;refine i.mono ?_;rintro e t ⟨k,l⟩;obtain⟨rfl,y⟩:=(show e=Af (Aa #[])/\BD t b {s with pos:=q}from l)))
  go_ret;exact⟨a.but.trans k,⟨_,_,Z,Z⟩,y⟩
def l8(g:Nat)(W:O)(b:Nat)(s:BO)(c:UInt8)(h:BD W b s)(w:EW s c)(A:c.toNat=116):Am X 228 #[Ab #[A8 (U ⟨b,0,Y⟩)]] W (IW (g+1) W b s (match Ci s.bs s.lim [114,117,101] (s.pos+1)with|.error e=>.error e|.ok (_,q)=>.ok (.lit (.bool true),q))):=by
 have d:=T (AA h);have r:=d.cell;have o:=Ep _ b s c d.src w;have Q:=BC h.row;have D:=BS (c:=c) 110 J;have F:((c.toNat:Int)==116)=true:=by rw[A];rfl
 have H:=BS (c:=c) 102 J;have L:=BS (c:=c) 34 J;have N:=BS (c:=c) 91 J;have P:=BS (c:=c) 123 J;have f:∀V,BD V b s.next->BF b W V->Am X 230 #[Ab #[A8 (U ⟨b,0,Y⟩)],A9 ⟨#[114,117,101]⟩] V (ED V b s.next (λ_:Unit=>Aa #[]) (Ci s.bs s.lim [114,117,101] (s.pos+1))):=λV z _=>NP V b s.next [114,117,101] Az z
 cases p:Ci s.bs s.lim [114,117,101] (s.pos+1)with
 |error v =>
  obtain⟨u,B⟩:=v;rw[p]at f;simp only[];go_enter func228,ntmps228
  go_wp2_with(first
   |(go_at_call 226;refine o.mono ?_;rintro e n ⟨rfl,m,j⟩;have a:=T (d.step m j);have r:=a.cell;have i:=f n a.src a.but)
   |(go_at_call 230;refine i.mono ?_;rintro e t ⟨k,l⟩;obtain rfl:=(show C0 u B e from l)))
  exact⟨Z,a.but.trans k,Z⟩
 |ok C =>
  obtain⟨x,q⟩:=C;rw[p]at f;simp only[];go_enter func228,ntmps228
  go_wp2_with(first
   |(go_at_call 226;refine o.mono ?_;rintro e n ⟨rfl,m,j⟩;have a:=T (d.step m j);have r:=a.cell;have i:=f n a.src a.but)
   |(go_at_call 230;refine i.mono ?_;rintro e t ⟨k,l⟩;obtain⟨rfl,y⟩:=(show e=Af (Aa #[])/\BD t b {s with pos:=q}from l)))
  go_ret;exact⟨a.but.trans k,⟨_,_,Z,Z⟩,y⟩
def l9(g:Nat)(W:O)(b:Nat)(s:BO)(c:UInt8)(h:BD W b s)(w:EW s c)(A:c.toNat=102):Am X 228 #[Ab #[A8 (U ⟨b,0,Y⟩)]] W (IW (g+1) W b s (match Ci s.bs s.lim [97,108,115,101] (s.pos+1)with|.error e=>.error e|.ok (_,q)=>.ok (.lit (.bool false),q))):=by
 have d:=T (AA h);have r:=d.cell;have o:=Ep _ b s c d.src w;have Q:=BC h.row;have D:=BS (c:=c) 110 J;have F:=BS (c:=c) 116 J;have H:((c.toNat:Int)==102)=true:=by rw[A];rfl
 have L:=BS (c:=c) 34 J;have N:=BS (c:=c) 91 J;have P:=BS (c:=c) 123 J;have f:∀V,BD V b s.next->BF b W V->Am X 230 #[Ab #[A8 (U ⟨b,0,Y⟩)],A9 ⟨#[97,108,115,101]⟩] V (ED V b s.next (λ_:Unit=>Aa #[]) (Ci s.bs s.lim [97,108,115,101] (s.pos+1))):=λV z _=>NP V b s.next [97,108,115,101] Az z
 cases p:Ci s.bs s.lim [97,108,115,101] (s.pos+1)with
 |error v =>
  obtain⟨u,B⟩:=v;rw[p]at f;simp only[];go_enter func228,ntmps228
  go_wp2_with(first
   |(go_at_call 226;refine o.mono ?_;rintro e n ⟨rfl,m,j⟩;have a:=T (d.step m j);have r:=a.cell;have i:=f n a.src a.but)
   |(go_at_call 230;refine i.mono ?_;rintro e t ⟨k,l⟩;obtain rfl:=(show C0 u B e from l)))
  exact⟨Z,a.but.trans k,Z⟩
 |ok C =>
  obtain⟨x,q⟩:=C;rw[p]at f;simp only[];go_enter func228,ntmps228
  go_wp2_with(first
   |(go_at_call 226;refine o.mono ?_;rintro e n ⟨rfl,m,j⟩;have a:=T (d.step m j);have r:=a.cell;have i:=f n a.src a.but)
   |(go_at_call 230;refine i.mono ?_;rintro e t ⟨k,l⟩;obtain⟨rfl,y⟩:=(show e=Af (Aa #[])/\BD t b {s with pos:=q}from l)))
  go_ret;exact⟨a.but.trans k,⟨_,_,Z,Z⟩,y⟩
def la(g:Nat)(W:O)(b:Nat)(s:BO)(c:UInt8)(h:BD W b s)(y:EW s c)(F:c.toNat=34)(H:s.bs.length<=200000000)(C:∀V,BF b W V->U8 V)(z:7<b):Am X 228 #[Ab #[A8 (U ⟨b,0,Y⟩)]] W (IW (g+1) W b s (match Ct s.bs s.lim (s.bs.length+1-(s.pos+1)) (s.pos+1) [] 0 with|.error e=>.error e|.ok (x,q)=>.ok (.lit (.string x),q))):=by
 have d:=T (AA h);have t:=d.cell;have p:=Ep _ b s c d.src y;have aa:=BC h.row;have P:=BS (c:=c) 110 J;have Q:=BS (c:=c) 116 J;have R:=BS (c:=c) 102 J;have S:((c.toNat:Int)==34)=true:=by rw[F];rfl
 have e5:=BS (c:=c) 91 J;have e6:=BS (c:=c) 123 J;have f:∀V,BD V b s.next->BF b W V->Am X 231 #[Ab #[A8 (U ⟨b,0,Y⟩)]] V (ED V b s.next (λl:A1=>A9 ⟨l.toArray⟩) (Ct s.bs s.lim (s.bs.length+1-(s.pos+1)) (s.pos+1) [] 0)):=λV D A=>Ya V b s.next D (C V A) z H
 cases r:Ct s.bs s.lim (s.bs.length+1-(s.pos+1)) (s.pos+1) [] 0 with
 |error w =>
  obtain⟨v,L⟩:=w;rw[r]at f;simp only[];go_enter func228,ntmps228
  go_wp2_with(first
   |(go_at_call 226;refine p.mono ?_;rintro e o ⟨rfl,n,j⟩;have a:=T (d.step n j);have t:=a.cell;have i:=f o a.src a.but)
   |(go_at_call 231;refine i.mono ?_;rintro e u ⟨k,m⟩;obtain rfl:=(show C0 v L e from m)))
  exact⟨Z,a.but.trans k,Z⟩
 |ok N =>
  obtain⟨x,q⟩:=N;rw[r]at f;simp only[];go_enter func228,ntmps228
  go_wp2_with(first
   |(go_at_call 226;refine p.mono ?_;rintro e o ⟨rfl,n,j⟩;have a:=T (d.step n j);have t:=a.cell;have i:=f o a.src a.but)
   |(go_at_call 231;refine i.mono ?_;rintro e u ⟨k,m⟩;obtain⟨rfl,B⟩:=(show e=Af (A9 ⟨x.toArray⟩)/\BD u b {s with pos:=q}from m)))
  go_ret;exact⟨a.but.trans k,⟨_,_,Z,Z⟩,B⟩
def lc(g:Nat)(W:O)(b:Nat)(s:BO)(c:UInt8)(h:BD W b s)(t:EW s c)(hc:c.toNat=91)(i:Nat->Except (Int×Int) (DataW Unit×Nat))(ad:MI g b {s with within:=s.within+1} W i)(ab:∀p d q,i p=.ok (d,q)->p<q)(ac:s.bs.length<=200000000)(hd:¬(s.within:Int)=s.depth)(ae:s.within<=100000):Am X 228 #[Ab #[A8 (U ⟨b,0,Y⟩)]] W (IW (g+1) W b s (match Di s.bs s.lim (D9 i) 93 (s.pos+1) []with|.error e=>.error e|.ok (x,q)=>.ok (.agg x,q))):=by
 have k:=T (AA h);have F:=k.cell;have B:=Ep _ b s c k.src t;have af:=BC h.row;have e1:=BS (c:=c) 110 J;have e2:=BS (c:=c) 116 J;have e3:=BS (c:=c) 102 J;have e4:=BS (c:=c) 34 J;have e5:((c.toNat:Int)==91)=true:=by rw[hc];rfl
 have e6:=BS (c:=c) 123 J;have l:∀V,BD V b s.next->BF b W V->Am X 232 #[Ab #[A8 (U ⟨b,0,Y⟩)]] V (R5 V b s.next (λA v x=>(∃a n c,v=G a n c)/\BQ (g+1) A (λj=>V.heap.size<=j/\j<A.heap.size) (Ad 153 v) (.agg x)) (Di s.bs s.lim (D9 i) 93 (s.pos+1) [])):=λV hV R=>kV g V b s.next i hV (λL p t Q=>ad L p t (R.trans Q)) ab ac hd ae
 cases D:Di s.bs s.lim (D9 i) 93 (s.pos+1) []with
 |error P =>
  obtain⟨N,pl⟩:=P;rw[D]at l;simp only[];go_enter func228,ntmps228
  go_wp2_with(first
   |(go_at_call 226;refine B.mono ?_;rintro e m ⟨rfl,z,u⟩;have f:=T (k.step z u);have F:=f.cell;have r:=l m f.src f.but)
   |(go_at_call 232;refine r.mono ?_;rintro e o ⟨w,y⟩;obtain rfl:=(show C0 N pl e from y)))
  exact⟨Z,f.but.trans w,Z⟩
 |ok xq =>
  obtain⟨x,q⟩:=xq;rw[D]at l;simp only[];go_enter func228,ntmps228
  go_wp2_with(first
   |(go_at_call 226;refine B.mono ?_;rintro e m ⟨rfl,z,u⟩;have f:=T (k.step z u);have F:=f.cell;have r:=l m f.src f.but)
   |(go_at_call 232;refine r.mono ?_;rintro e o ⟨w,y⟩;obtain⟨⟨v4,rfl,⟨a4,n4,c4,rfl⟩,S⟩,aa⟩:=(show(∃v,e=Af v/\(∃a n c,v=G a n c)/\BQ (g+1) o (λj=>m.heap.size<=j/\j<o.heap.size) (Ad 153 v) (.agg x))/\BD o b {s with pos:=q}from y);have H:=T S))
  go_ret;exact⟨f.but.trans w,⟨_,_,Z,H.same (λj C=>⟨C7 f.but.size C.1,C.2⟩) (λ_ _=>rfl)⟩,aa⟩
def ld(W:O)(b:Nat)(s:BO)(c:UInt8)(h:BD W b s)(k:EW s c)(q:c.toNat=91)(r:(s.within:Int)=s.depth):Am X 228 #[Ab #[A8 (U ⟨b,0,Y⟩)]] W λe f=>BF b W f/\C0 11 s.pos e:=by
 have d:=T (AA h);have t:=d.cell;have j:=Ep _ b s c d.src k;have v:=BS (c:=c) 110 J;have w:=BS (c:=c) 116 J;have x:=BS (c:=c) 102 J;have y:=BS (c:=c) 34 J;have z:((c.toNat:Int)==91)=true:=by rw[q];rfl
 have A:=BS (c:=c) 123 J;have g:∀V,BD V b s.next->Am X 232 #[Ab #[A8 (U ⟨b,0,Y⟩)]] V λe f=>C0 11 s.pos e/\BF b V f:=λV p=>by
  have:=kY V b s.next p r
  rwa[show((s.next.pos:Int)-1)=s.pos by show(((s.pos+1:Nat)):Int)-1=s.pos;omega]at this
 go_enter func228,ntmps228
 go_wp2_with(first
  |(go_at_call 226;refine j.mono ?_;rintro e u ⟨rfl,o,l⟩;have a:=T (d.step o l);have t:=a.cell;have i:=g u a.src)
  |(go_at_call 232;refine i.mono ?_;rintro e B ⟨n,m⟩;obtain rfl:=n))
 exact⟨Z,a.but.trans m,Z⟩
def lg(g:Nat)(W:O)(b:Nat)(s:BO)(c:UInt8)(h:BD W b s)(t:EW s c)(hc:c.toNat=123)(i:Nat->Except (Int×Int) (DataW Unit×Nat))(ae:MI g b {s with within:=s.within+1} W i)(ac:∀p d q,i p=.ok (d,q)->p<q)(ad:s.bs.length<=200000000)(hU:∀V,BF b W V->U8 V)(h7:7<b)(hd:¬(s.within:Int)=s.depth)(af:s.within<=100000):Am X 228 #[Ab #[A8 (U ⟨b,0,Y⟩)]] W (IW (g+1) W b s (match Di s.bs s.lim (DO s.bs s.lim i) 125 (s.pos+1) ([],[])with|.error e=>.error e|.ok (x,q)=>.ok (.map x.2,q))):=by
 have k:=T (AA h);have H:=k.cell;have B:=Ep _ b s c k.src t;have ag:=BC h.row;have e1:=BS (c:=c) 110 J;have e2:=BS (c:=c) 116 J;have e3:=BS (c:=c) 102 J;have e4:=BS (c:=c) 34 J;have e5:=BS (c:=c) 91 J;have e6:((c.toNat:Int)==123)=true:=by rw[hc];rfl
 have l:∀V,BD V b s.next->BF b W V->Am X 233 #[Ab #[A8 (U ⟨b,0,Y⟩)]] V (R5 V b s.next (λA v x=>(∃a n c,v=G a n c)/\BQ (g+1) A (λj=>V.heap.size<=j/\j<A.heap.size) (Ad 155 v) (.map x.2)) (Di s.bs s.lim (DO s.bs s.lim i) 125 (s.pos+1) ([],[]))):=λV hV C=>kX g V b s.next i hV (λN p t S=>ae N p t (C.trans S)) ac ad (λP hX=>hU P (C.trans hX)) h7 hd af
 cases F:Di s.bs s.lim (DO s.bs s.lim i) 125 (s.pos+1) ([],[])with
 |error R =>
  obtain⟨Q,pl⟩:=R;rw[F]at l;simp only[];go_enter func228,ntmps228
  go_wp2_with(first
   |(go_at_call 226;refine B.mono ?_;rintro e m ⟨rfl,z,u⟩;have f:=T (k.step z u);have H:=f.cell;have r:=l m f.src f.but)
   |(go_at_call 233;refine r.mono ?_;rintro e o ⟨w,y⟩;obtain rfl:=(show C0 Q pl e from y)))
  exact⟨Z,f.but.trans w,Z⟩
 |ok xq =>
  obtain⟨x,q⟩:=xq;rw[F]at l;simp only[];go_enter func228,ntmps228
  go_wp2_with(first
   |(go_at_call 226;refine B.mono ?_;rintro e m ⟨rfl,z,u⟩;have f:=T (k.step z u);have H:=f.cell;have r:=l m f.src f.but)
   |(go_at_call 233;refine r.mono ?_;rintro e o ⟨w,y⟩;obtain⟨⟨v4,rfl,⟨a4,n4,c4,rfl⟩,aa⟩,ab⟩:=(show(∃v,e=Af v/\(∃a n c,v=G a n c)/\BQ (g+1) o (λj=>m.heap.size<=j/\j<o.heap.size) (Ad 155 v) (.map x.2))/\BD o b {s with pos:=q}from y);have L:=T aa))
  go_ret;exact⟨f.but.trans w,⟨_,_,Z,L.same (λj D=>⟨C7 f.but.size D.1,D.2⟩) (λ_ _=>rfl)⟩,ab⟩
def lh(W:O)(b:Nat)(s:BO)(c:UInt8)(h:BD W b s)(k:EW s c)(q:c.toNat=123)(r:(s.within:Int)=s.depth):Am X 228 #[Ab #[A8 (U ⟨b,0,Y⟩)]] W λe f=>BF b W f/\C0 11 s.pos e:=by
 have d:=T (AA h);have t:=d.cell;have j:=Ep _ b s c d.src k;have v:=BS (c:=c) 110 J;have w:=BS (c:=c) 116 J;have x:=BS (c:=c) 102 J;have y:=BS (c:=c) 34 J;have z:=BS (c:=c) 91 J;have A:((c.toNat:Int)==123)=true:=by rw[q];rfl
 have g:∀V,BD V b s.next->Am X 233 #[Ab #[A8 (U ⟨b,0,Y⟩)]] V λe f=>C0 11 s.pos e/\BF b V f:=λV p=>by
  have:=kZ V b s.next p r
  rwa[show((s.next.pos:Int)-1)=s.pos by show(((s.pos+1:Nat)):Int)-1=s.pos;omega]at this
 go_enter func228,ntmps228
 go_wp2_with(first
  |(go_at_call 226;refine j.mono ?_;rintro e u ⟨rfl,o,l⟩;have a:=T (d.step o l);have t:=a.cell;have i:=g u a.src)
  |(go_at_call 233;refine i.mono ?_;rintro e B ⟨n,m⟩;obtain rfl:=n))
 exact⟨Z,a.but.trans m,Z⟩
def lj(W:O)(b:Nat)(s:BO)(c:UInt8)(h:BD W b s)(k:EW s c)(q:¬(c.toNat=110\/c.toNat=116\/c.toNat=102\/c.toNat=34\/c.toNat=91\/c.toNat=123\/c.toNat=45\/Dm c=true)):Am X 228 #[Ab #[A8 (U ⟨b,0,Y⟩)]] W λe f=>BF b W f/\C0 9 s.pos e:=by
 have d:=T (AA h);have r:=d.cell;have j:=Ep _ b s c d.src k;have u:=BS (c:=c) 110 J;have v:=BS (c:=c) 116 J;have w:=BS (c:=c) 102 J;have x:=BS (c:=c) 34 J;have y:=BS (c:=c) 91 J;have z:=BS (c:=c) 123 J;have A:=BS (c:=c) 45 J;have o:decide (48<=(c.toNat:Int)/\(c.toNat:Int)<=57)=false:=by
  have:Dm c=false:=by cases p:Dm c with|false=>rfl|true=>exact absurd (.inr (.inr (.inr (.inr (.inr (.inr (.inr p))))))) q
  exact this
 have g:∀V,BD V b s.next->Am X 227 #[A8 (U ⟨b,0,Y⟩),I K 9] V λe f=>C0 9 s.pos e/\f=V:=λV n=>by
  have:=EX V b s.next 9 n
  rwa[show((s.next.pos:Int)-1)=s.pos by show(((s.pos+1:Nat)):Int)-1=s.pos;omega]at this
 go_enter func228,ntmps228
 go_wp2_with(first
  |(go_at_call 226;refine j.mono ?_;rintro e t ⟨rfl,m,l⟩;have a:=T (d.step m l);have r:=a.cell;have i:=g t a.src)
  |(go_at_call 234;refine(LM c _).mono ?_;rintro e B ⟨rfl,rfl⟩;rw[o])
  |(go_at_call 227;refine i.mono ?_;rintro e C ⟨hF,rfl⟩;obtain rfl:=hF))
 exact⟨Z,a.but,Z⟩
def Yw(W:O)(b:Nat)(s:BO)(d:Int)(h:BD W b s)(g:∀V,BD V b s->Am X 226 #[A8 (U ⟨b,0,Y⟩)] V λe c=>C0 d s.pos e/\A0 V c):Am X 228 #[Ab #[A8 (U ⟨b,0,Y⟩)]] W λe c=>BF b W c/\C0 d s.pos e:=by
 have a:=T (AA h);have j:=a.cell;have f:=g _ a.src;go_enter func228,ntmps228
 go_wp2_with(first
  |(go_at_call 226;refine f.mono ?_;rintro e k ⟨hF,i⟩;obtain rfl:=hF))
 exact⟨Z,a.but.trans (BF.of_below i),Z⟩
end
end Go.Proofs.YtnlnjkggkbbdhaaGreatDoor
