import Derived.Test.YtmajcjammmjimaaGreatDoorCq17
set_option maxRecDepth 100000
set_option maxHeartbeats 8000000
set_option linter.all false
namespace Go.Proofs.YtmajcjammmjimaaGreatDoor
open Go.Proofs.Tryz
variable{P:Program}{Q:Exit->Act->World->Prop}{N b c k l p q wi wi':Nat}{a:List (List UInt8)×List (Lit×DataW Unit)}{V V' V3 W w w5:World}{s:Src}{ds:List (DataW Unit)}{d:DataW Unit}{v' x:Value}{xs:List Value}{bs:List UInt8}{ks:List (List UInt8)}{rd:Nat->Except (Int×Int) (DataW Unit×Nat)}
section
open Go.RowKit
theorem qja{α:Type}(W:World)(b L r m:Nat)(s:Src)(itF:α->Nat->Except (Int×Int) (α×Nat))(K:α)(C:Nat->Nat->Nat->α->World->Prop)(u:World->Prop)(hI:qiW b s C u)(av:qad W b s)(hd:¬(s.within:Int)=s.depth)(a8:s.within<=100000)(a2:C W.heap.size s.within s.pos K (W.alloc (.cells #[.pointer (some ⟨b,0,none⟩)] 114)))(ag:∀ai p a V,C ai (s.within+1) p a V->Calls prog 205 #[.pointer (some ⟨r,0,none⟩),.pointer (some ⟨m,0,none⟩),.pointer (some ⟨L,0,none⟩)] V (qcS (C ai (s.within+1)) u (itF a p)))(a1:∀a p N ac,itF a p=.ok (N,ac)->p<ac):Calls prog 203 #[.agg #[.pointer (some ⟨b,0,none⟩)],.int .u8 125,.func (.func 205) #[] #[.pointer (some ⟨r,0,none⟩),.pointer (some ⟨m,0,none⟩),.pointer (some ⟨L,0,none⟩)]] W (qcS (λac a V=>C W.heap.size s.within ac a V) u (qdV s.bs s.lim itF 125 s.pos K)):=by
 have HS:=qab a2;have f:=qab hI;have ar:=qab a1;have cE:=qiH (W.alloc (.cells #[.pointer (some ⟨b,0,none⟩)] 114)) b s (av.below bwA) hd (by omega);have w:∀(V:World) (p:Nat),qad V b {s with pos:=p,within:=s.within+1}->Calls prog 211 #[.pointer (some ⟨b,0,none⟩)] V λe Q=>e=.returned (.tuple #[])/\qad Q b {s with pos:=p}/\But b V Q:=λV p k=>qk7 V b s.within {s with pos:=p,within:=s.within+1} k rfl (by show s.within+1<=_;omega);obtain⟨R,J⟩:∃R,Hid (qdV s.bs s.lim itF 125 s.pos K=R):=⟨_,show _=_ from rfl⟩
 rw[J.out];have d:=J.out;unfold qdV at d;have v:=qaa (f.out.box _ _ _ _ _ HS.out) 0;go_enter func203,ntmps203;go_wp2;go_step3
 go_wp2_with fail
 refine cE.mono ?_;rintro e w2 ⟨rfl,a0,aw⟩;have h:=qab (f.out.step _ _ _ _ _ _ _ _ HS.out a0 aw (by omega));have v:=qaa (f.out.box _ _ _ _ _ h.out) 0
 go_wp2_with fail
 refine(qaR w2 b {s with pos:=s.pos,within:=s.within+1} (f.out.src _ _ _ _ _ h.out)).mono ?_;rintro e w3 ⟨aj,q⟩
 cases x:spF s.bs s.lim (s.bs.length+1-s.pos) s.pos with
 |error E =>
  obtain⟨D,G⟩:=E;simp only[x]at d q;subst d;obtain rfl:=(show qan D G e from q)
  go_wp2;exact⟨rfl,rfl,f.out.frb _ _ (f.out.fr _ _ _ _ _ h.out) aj⟩
 |ok up =>
  obtain⟨a9,i⟩:=up;simp only[x]at d q;have a4:=qc5 _ _ _ _ _ _ x;obtain⟨rfl,am⟩:=(show e=.returned (.tuple #[])/\qad w3 b {s with pos:=i,within:=s.within+1}from q)
  have z:=qab (f.out.step _ _ _ _ _ _ _ _ h.out am aj (by omega));have ah:Hid (i<=s.bs.length):=am.le;have v:=qaa (f.out.box _ _ _ _ _ z.out) 0;have a3:(qxF {s with pos:=i,within:=s.within+1}/\R=.error (8,(i:Int)))\/(∃c,qgm {s with pos:=i,within:=s.within+1} c/\c.toNat=125/\R=.ok (K,i+1))\/((Calls prog 198 #[.pointer (some ⟨b,0,none⟩),.int .u8 125] w3 λe Q=>e=.returned (.bool false)/\qad Q b {s with pos:=i,within:=s.within+1}/\But b w3 Q)/\qfZ s.bs s.lim itF 125 (s.bs.length+1-i) i K=R):=by
   have k:=(f.out.src _ _ _ _ _ z.out)
   cases l:s.bs[i]? with
   |none =>
    rw[l]at d;refine .inr (.inr ⟨qjj 125 k ?_,d⟩);have y:i<=s.bs.length:=k.le;have M:=kch.1 l;show i=s.bs.length;omega
   |some c =>
    rw[l]at d;simp only[]at d;have M:=ltL l;by_cases t:(i:Int)=s.lim
    ·rw[kag t]at d;exact .inl ⟨⟨M,t⟩,d.symm⟩
    rw[kac t]at d;by_cases n:c.toNat=125
    ·rw[kag n]at d;exact .inr (.inl ⟨c,⟨l,t⟩,n,d.symm⟩)
    rw[kac n]at d;refine .inr (.inr ⟨?_,d⟩);have:=qdK (c:=c) 125 k ⟨l,t⟩;rwa[show((c.toNat:Int)==125)=false by simp;omega]at this
  go_wp2_with fail
  rcases a3 with⟨az,rfl⟩|⟨c,al,hc,rfl⟩|⟨cF,d⟩
  ·refine(qdp w3 b {s with pos:=i,within:=s.within+1} 125 (f.out.src _ _ _ _ _ z.out) az).mono ?_;rintro e w4 ⟨rfl,T⟩;go_wp2;exact⟨rfl,rfl,f.out.frb _ _ (f.out.fr _ _ _ _ _ z.out) (But.of_below T)⟩
  ·have cF:=qdK (c:=c) 125 (f.out.src _ _ _ _ _ z.out) al;rw[show((c.toNat:Int)==125)=true by rw[hc];rfl]at cF;refine cF.mono ?_;rintro e w4 ⟨rfl,ae,T⟩;have o:=qab (f.out.step _ _ _ _ _ _ _ _ z.out ae T (by omega));have v:=qaa (f.out.box _ _ _ _ _ o.out) 0
   go_wp2_with fail
   refine(qaw w4 b {s with pos:=i,within:=s.within+1} c (f.out.src _ _ _ _ _ o.out) al).mono ?_;rintro e w5 ⟨rfl,aa,U⟩;have H:=qab (f.out.step _ _ _ _ _ _ _ _ o.out (show qad w5 b {s with pos:=i+1,within:=s.within+1}from aa) U (by omega));have v:=qaa (f.out.box _ _ _ _ _ H.out) 0
   go_wp2_with fail
   refine(w w5 (i+1) (f.out.src _ _ _ _ _ H.out)).mono ?_;rintro e w6 ⟨rfl,ab,ax⟩;have A:=qab (f.out.step _ _ _ _ _ _ _ _ H.out ab ax (by omega));go_wp2;refine qht ?_;go_end0;exact⟨rfl,A.out⟩
  have J:=qab d;refine cF.mono ?_;rintro e w4 ⟨rfl,ae,T⟩;have o:=qab (f.out.step _ _ _ _ _ _ _ _ z.out ae T (by omega));go_wp2;go_step3;go_wp2
  go_loopg[21] (s.bs.length+1-i) (λg _ wr=>∃(p:Nat) (a:α),Hid (s.bs.length+1<=p+g)/\Hid (p<=s.bs.length)/\Hid (C W.heap.size (s.within+1) p a wr)/\Hid (qfZ s.bs s.lim itF 125 g p a=R))
  case atStart=>exact⟨i,K,by show _<=_;have:=ah.out;omega,ah,o,J⟩
  case round =>
   obtain⟨p,a,hg,hp,o,J⟩:=hrel;obtain⟨g,rfl⟩:∃g,gk=g+1:=⟨gk-1,by have:=hg.out;have:=hp.out;omega⟩
   have v:=qaa (f.out.box _ _ _ _ _ o.out) 0;have d:=J.out;rw[qfZ]at d
   go_wp2_with fail
   refine(qaR wr b {s with pos:=p,within:=s.within+1} (f.out.src _ _ _ _ _ o.out)).mono ?_;rintro e w5 ⟨U,X⟩
   cases x:spF s.bs s.lim (s.bs.length+1-p) p with
   |error E =>
    obtain⟨D,G⟩:=E;simp only[x]at d X;subst d;clear x ag w;obtain rfl:=(show qan D G e from X)
    go_wp2;exact⟨rfl,rfl,f.out.frb _ _ (f.out.fr _ _ _ _ _ o.out) U⟩
   |ok up =>
    obtain⟨u1,q1⟩:=up;simp only[x]at d X;have a5:=qc5 _ _ _ _ _ _ x;clear x;obtain⟨rfl,aa⟩:=(show e=.returned (.tuple #[])/\qad w5 b {s with pos:=q1,within:=s.within+1}from X)
    have H:=qab (f.out.step _ _ _ _ _ _ _ _ o.out aa U (by omega));clear o aa U X
    go_wp2_with fail
    refine(ag _ _ _ _ H.out).mono ?_;clear ag;rintro e w6 F
    cases l:itF a q1 with
    |error E =>
     obtain⟨D,G⟩:=E;rw[l]at d F;simp only[]at d;subst d;clear l w;obtain⟨F,ay⟩:=(show qan D G e/\u w6 from F)
     obtain rfl:=F;go_wp2;exact⟨rfl,rfl,ay⟩
    |ok aq =>
     obtain⟨N,q2⟩:=aq;rw[l]at d F;simp only[]at d;have a6:=ar.out _ _ _ _ l;clear l;obtain⟨rfl,ab⟩:=(show e=.returned (.tuple #[])/\C W.heap.size (s.within+1) q2 N w6 from F)
     have A:=qab ab;clear H F ab;have v:=qaa (f.out.box _ _ _ _ _ A.out) 0
     go_wp2_with fail
     refine(qaR w6 b {s with pos:=q2,within:=s.within+1} (f.out.src _ _ _ _ _ A.out)).mono ?_;clear v;rintro e w7 ⟨ad,Y⟩
     cases t:spF s.bs s.lim (s.bs.length+1-q2) q2 with
     |error E =>
      obtain⟨D,G⟩:=E;simp only[t]at d Y;subst d;clear t w;obtain rfl:=(show qan D G e from Y)
      go_wp2;exact⟨rfl,rfl,f.out.frb _ _ (f.out.fr _ _ _ _ _ A.out) ad⟩
     |ok up =>
      obtain⟨u3,j⟩:=up;simp only[t]at d Y;have a7:=qc5 _ _ _ _ _ _ t;clear t;obtain⟨rfl,an⟩:=(show e=.returned (.tuple #[])/\qad w7 b {s with pos:=j,within:=s.within+1}from Y)
      have I:=qab (f.out.step _ _ _ _ _ _ _ _ A.out an ad (by omega));clear A an ad Y;have v:=qaa (f.out.box _ _ _ _ _ I.out) 0
      go_wp2_with fail
      have k:=(f.out.src _ _ _ _ _ I.out)
      cases n:s.bs[j]? with
      |none =>
       simp only[n]at d;subst d;refine(qb0 w7 b {s with pos:=j,within:=s.within+1} k (by show j=s.bs.length;have y:j<=s.bs.length:=k.le;have M:=kch.1 n;omega)).mono ?_;clear n w k;rintro e Z ⟨rfl,P⟩;go_wp2;exact⟨rfl,rfl,f.out.frb _ _ (f.out.fr _ _ _ _ _ I.out) (But.of_below P)⟩
      |some c =>
       rw[n]at d;simp only[]at d;have M:=ltL n;by_cases y:(j:Int)=s.lim
       ·rw[kag y]at d;subst d;refine(qbb w7 b {s with pos:=j,within:=s.within+1} k ⟨M,y⟩).mono ?_;clear n y M w k;rintro e Z ⟨rfl,P⟩;go_wp2;exact⟨rfl,rfl,f.out.frb _ _ (f.out.fr _ _ _ _ _ I.out) (But.of_below P)⟩
       rw[kac y]at d;refine(qaw w7 b {s with pos:=j,within:=s.within+1} c k ⟨n,y⟩).mono ?_;clear n y v k;rintro e Z ⟨rfl,af,P⟩;have B:=qab (f.out.step _ _ _ _ _ _ _ _ I.out (show qad Z b {s with pos:=j+1,within:=s.within+1}from af) P (by omega));have au:Hid (j+1<=s.bs.length):=af.le;clear I af P;have v:=qaa (f.out.box _ _ _ _ _ B.out) 0;by_cases O:c.toNat=125
       ·rw[kag O]at d;subst d;have e1:((c.toNat:Int)==125)=true:=by rw[O];rfl
        clear O
        go_wp2_with fail
        refine(w Z (j+1) (f.out.src _ _ _ _ _ B.out)).mono ?_;clear w v;rintro e w9 ⟨rfl,ao,ak⟩;have H9:=qab (f.out.step _ _ _ _ _ _ _ _ B.out ao ak (by omega));clear B ao ak;go_wp2
        first|(refine qht ?_;go_end0)|go_end0
        exact⟨rfl,H9.out⟩
       rw[kac O]at d;have e1:=nec (c:=c) 125 (by omega);by_cases S:c.toNat=44
       ·rw[kag S]at d;have HN:=qab d;have e2:((c.toNat:Int)==44)=true:=by rw[S];rfl
        have ap:Hid (s.bs.length+1<=(j+1)+g):=by show _<=_;have:=hg.out;omega
        clear O S d w;go_wp2;go_roundg g
        case measure=>omega
        case rel=>exact⟨j+1,N,ap,au,B,HN⟩
       rw[kac S]at d;subst d;have e2:=nec (c:=c) 44 (by omega);have cR:=qav Z b {s with pos:=j+1,within:=s.within+1} 9 (f.out.src _ _ _ _ _ B.out);rw[show((({s with pos:=j+1,within:=s.within+1}:Src).pos:Int)-1)=j by show(((j+1:Nat)):Int)-1=j;omega]at cR;clear O S w
       go_wp2_with fail
       refine cR.mono ?_;rintro e w9 ⟨rfl,rfl⟩;go_wp2;exact⟨rfl,rfl,f.out.fr _ _ _ _ _ B.out⟩

theorem qjz{β:Type}{md:Region.Mode}{ops:Array Oper}{fuel:Nat}{listed:Array Bool}{a:Act}(L:Array Bool)(b:Nat)(c:β->List (Nat×Value))(T:β->Prop)(d:β->World)(e:(∀x,T x->wpAny P md ops Q b L ((c x).foldl (λa p=>a.put (some p.1) p.2) a) (d x))->wpAny P md ops Q fuel listed a w)(f:∀x,T x->wpAny P md ops Q b L ((c x).foldl (λa p=>a.put (some p.1) p.2) a) (d x)):wpAny P md ops Q fuel listed a w:=e f
theorem qd4{o:Oper}{a:Act}{K:Act->World->Prop}(s x:Operand)(t:TypeId)(O:o.op=.call {callee:=.builtin .append,args:=#[s,x],argTypes:=#[t,t]})(f:Nat)(e:TypeId)(i:TypeInfo)(z:Value)(size l:Nat)(G:P.underlying t=some (.slice e))(hi:P.info? e=some i)(H:i.zero=some z)(F:i.size=size)(y:i.bytes=l)(U:z.cells.size=size)(S:0<size)(v:Value)(n:Nat)(p:List Value)(R:a.eval s=v)(D:w.ownsRow f e size v n p)(k:Addr)(m c:Nat)(b:List Value)(T:a.eval x=.slice (some k) m c)(B:b.length=m*size)(C:∀j u,b[j]?=some u->w.cell? (k.add j)=some u)(q:∀u∈b,u.oneCell'=true)(N:0<m)(r:n+m<=maxLen)(A:(n+m)*l<=140737488355328)(M:f<=w.heap.size)(h:∀d g,g.ownsRow f e size d (n+m) (p++b)->w.grownBy g v.ownBlock->(d.ownBlock=v.ownBlock\/d.ownBlock=some w.heap.size)->K (a.put o.dst d) g):o.wp P a w K Q:=by
 obtain⟨d,g,E,I,J,_⟩:=kcK (P:=P) w f t o.type e i z size l G hi H F y U S v n p D k m c b B C q r A M;have L:=qdl (P:=P) w f t o.type e i z size l G hi H F y v n p D k m c b B C q N r A E;unfold Oper.wp execOp;simp only[O,resolve,invoke,builtin,kbb,kby,kaJ,kco,kaH,kb8,R,T,E];exact h d g I J L
structure qoY(k:Nat)(W:World)(b:Nat)(s:Src)(N wi p:Nat)(ds:List (DataW Unit))(V:World):Prop where
 src:qad V b {s with pos:=p,within:=wi}
 but:But b W V
 rbox:V.heap[W.heap.size]?=some (.cells #[.pointer (some ⟨b,0,none⟩)] 114)
 box:V.heap[N]?=some (.cells #[.pointer (some ⟨b,0,none⟩)] 114)
 hN:W.heap.size+2<=N
 own:∃a l c xs,V.heap[W.heap.size+1]?=some (.cells #[.slice a l c] 120)/\V.ownsRow (W.heap.size+2) 47 1 (.slice a l c) ds.length xs/\some N≠(Value.slice a l c).ownBlock/\∀(i:Nat) (x:Value) (d:DataW Unit),xs[i]?=some x->ds[i]?=some d->qah k V (λj=>W.heap.size+2<=j/\j<V.heap.size/\some j≠(Value.slice a l c).ownBlock) x d
 size:W.heap.size+2<=V.heap.size
 len:ds.length<=p
theorem qoY.step(h:qoY k W b s N wi p ds V)(z:b<W.heap.size)(u:qad V' b {s with pos:=q,within:=wi' })(e:But b V V')(t:ds.length<=q):qoY k W b s N wi' q ds V':=by
 obtain⟨a,l,c,w,g,m,n,o⟩:=h.own;have A:=h.size;have y:=h.hN;exact⟨u,h.but.trans e,(e.block _ (ltA h.rbox) (by omega)).trans h.rbox,(e.block _ (ltA h.box) (by omega)).trans h.box,h.hN,⟨a,l,c,w,(e.block _ (ltA g) (by omega)).trans g,qcZ m e (by omega),n,λi x d v r=>(o i x d v r).same (λj f=>⟨f.1,kai f.2.1 e.size,f.2.2⟩) (λj f=>e.block j f.2.1 (by omega))⟩,kaj h.size e.size,t⟩
theorem qoY.push{a:Option Addr}(h:qoY k W b s N wi p ds V)(M:qad W b s)(hb:b<W.heap.size)(m:But b V V3)(S:qad V3 b {s with pos:=q,within:=wi})(U:qah k V3 (λj=>V.heap.size<=j/\j<V3.heap.size) x d)(F:V.heap[W.heap.size+1]?=some (.cells #[.slice a l c] 120))(D:V.ownsRow (W.heap.size+2) 47 1 (.slice a l c) ds.length xs)(G:some N≠(Value.slice a l c).ownBlock)(ab:∀(i:Nat) (x:Value) (d:DataW Unit),xs[i]?=some x->ds[i]?=some d->qah k V (λj=>W.heap.size+2<=j/\j<V.heap.size/\some j≠(Value.slice a l c).ownBlock) x d)(E:w5.ownsRow (W.heap.size+2) 47 1 v' (ds.length+1) (xs++[x]))(n:(V3.alloc (.cells #[x] 47)).grownBy w5 (Value.slice a l c).ownBlock)(t:v'.ownBlock=(Value.slice a l c).ownBlock\/v'.ownBlock=some (V3.alloc (.cells #[x] 47)).heap.size)(Z:ds.length+1<=q):qoY k W b s N wi q (ds++[d]) (w5.setCell ⟨W.heap.size+1,0,none⟩ v'):=by
 have ag:=h.size;have hN:=h.hN;have R:=ltA h.box;have ae:=m.size;have af:V3.heap.size+1<=w5.heap.size:=by have:=n.size;simpa using this
 have I:∀g,(Value.slice a l c).ownBlock=some g->W.heap.size+2<=g:=λg n=>qbH D n;have ac:=qiv D;have v:∀j,j<V3.heap.size->some j≠(Value.slice a l c).ownBlock->j≠W.heap.size+1->(w5.setCell ⟨W.heap.size+1,0,none⟩ v').heap[j]?=V3.heap[j]?:=λj f r Y=>(kat w5 _ _ _ (by simpa using Y)).trans ((n.block j (by simp;omega) r).trans (kae _ _ _ f));have B:∀j,j<W.heap.size+1->(w5.setCell ⟨W.heap.size+1,0,none⟩ v').heap[j]?=V3.heap[j]?:=λj f=>v j (by omega) (λe=>by have:=I j e.symm;omega) (by omega);have Q:=(n.block _ (by simp;omega) (λe=>by have:=I _ e.symm;omega)).trans ((kae _ _ _ (by omega)).trans ((m.block _ (ltA F) (by omega)).trans F));have w:(w5.setCell ⟨W.heap.size+1,0,none⟩ v').heap.size=w5.heap.size:=by simp[World.setCell]
 obtain⟨A,z,rfl⟩:=ownsRow_succ E;have y:(w5.setCell ⟨W.heap.size+1,0,none⟩ (.slice (some ⟨A,0,none⟩) (ds.length+1) z)).ownsRow (W.heap.size+2) 47 1 (.slice (some ⟨A,0,none⟩) (ds.length+1) z) (ds.length+1) (xs++[x]):=by
  refine⟨E.1,?_⟩;rcases E.2 with O|⟨g,J,K,e,T,X,P⟩
  ·exact .inl O
  exact .inr ⟨g,J,K,e,T,(kat w5 _ _ _ (by simp;omega)).trans X,P⟩
 have C:∀j,j<V3.heap.size->some j≠(Value.slice a l c).ownBlock->some j≠(Value.slice (some ⟨A,0,none⟩) (ds.length+1) z).ownBlock:=λj f r=>by
  rcases t with t|t
  ·rw[t];exact r
  rw[t];intro e;injection e with e;simp at e;omega
 refine⟨M.same rfl rfl S (λj f=>B j (by omega)),⟨n.os.trans (m.os.trans h.but.os),n.tape.trans (m.tape.trans h.but.tape),n.output.trans (m.output.trans h.but.output),by rw[w];have:=h.but.size;omega,λj f r=>(B j (by omega)).trans ((m.block j (by omega) r).trans (h.but.block j f r))⟩,(B _ (by omega)).trans ((m.block _ (by omega) (by omega)).trans h.rbox),(v N (by omega) G (by omega)).trans ((m.block N R (by omega)).trans h.box),h.hN,⟨_,_,_,_,?_,by rw[kaa];exact y,?_,λi ad L u o=>?_⟩,by rw[w];omega,by rw[kaa];exact Z⟩
 ·rw[kaO _ _ _ _ _ _ Q];rfl
 ·exact C N (by omega) G
 have aa:xs.length=ds.length:=by have:=D.1;omega
 by_cases hi:i<ds.length
 ·rw[kau (by omega)]at u o;exact(ab i ad L u o).same (λj f=>⟨f.1,by rw[w];have:=f.2.1;omega,C j (by omega) f.2.2⟩) (λj f=>(v j (by omega) f.2.2 (by omega)).trans (m.block j f.2.1 (by omega)))
 have e:i=ds.length:=by
  have:=ltL o;rw[kaa]at this;simp at this;omega
 subst e;rw[kas (by omega)]at o;rw[kas (by omega),aa]at u;simp at u o;subst u;subst o;have H:∀j,V.heap.size<=j->some j≠(Value.slice a l c).ownBlock:=λj f e=>by have:=ac j e.symm;omega
 exact U.same (λj f=>⟨by omega,by rw[w];omega,C j f.2 (H j f.1)⟩) (λj f=>v j f.2 (H j f.1) (by omega))
theorem qqh(k:Nat)(W:World)(b:Nat)(s:Src)(wi:Nat)(z:Nat->Except (Int×Int) (DataW Unit×Nat))(O:qad W b s)(ae:qhi k b {s with within:=wi} W z)(ac:∀p d q,z p=.ok (d,q)->p<q)(an:s.bs.length<=200000000)(N p:Nat)(B:List (DataW Unit))(V:World)(h:qoY k W b s N wi p B V):Calls prog 204 #[.pointer (some ⟨W.heap.size+1,0,none⟩),.pointer (some ⟨W.heap.size,0,none⟩)] V (qcS (qoY k W b s N wi) (λV=>But b W V) (liJ z B p)):=by
 obtain⟨i0,hi,ai,aj,ak⟩:=kaF Tryz.infoThing;have ab:=ltA O.row;obtain⟨r,w,v,xs,m,L,ad,ah⟩:=h.own;have J:W.heap.size+1<(World.drew V).heap.size:=ltA m;have am:B.length<=200000000:=by have P:=h.len;have Q:p<=s.bs.length:=h.src.le;omega
 have C:=h.src.below (kam _ _).drew;have i:=h.but.trans (But.of_below (kam _ _).drew);have k0:(World.drew V).cell? ⟨W.heap.size+1,0,none⟩=some (.slice r w v):=qaa m 0;have k1:(World.drew V).cell? ⟨W.heap.size,0,none⟩=some (.pointer (some ⟨b,0,none⟩)):=qaa h.rbox 0;have af:=h.size;have l:∀A,qad A b {s with pos:=p,within:=wi}->But b W A->Calls prog 190 #[.agg #[.pointer (some ⟨b,0,none⟩)]] A (qct k A b {s with pos:=p,within:=wi} (z p)):=λA P Q=>ae A p P Q
 cases D:z p with
 |error Z =>
  obtain⟨F,I⟩:=Z;have M:liJ z B p=.error (F,I):=by unfold liJ;rw[D]
  rw[M];rw[D]at l;go_enter func204,ntmps204
  go_wp2_with fail
  refine kcD (by kernel_rfl) ?_;change wpAny _ _ _ _ _ _ _ (World.drew V);refine rd2 0 1 rfl rfl (by kernel_rfl) (λK a=>?_) (λK a=>?_)
  ·go_simp;refine a _ _ ?_;refine rd1 1 rfl (by kernel_rfl) (λK a=>?_);go_simp;refine a _ _ ?_;refine rd1 2 rfl (by kernel_rfl) (λK a=>?_);go_simp;refine(l _ C i).mono ?_;rintro e c ⟨f,g⟩;obtain rfl:=(show qan F I e from g)
   exact⟨rfl,rfl,i.trans f⟩
  go_simp;refine a _ _ ?_;refine rd2 0 2 rfl rfl (by kernel_rfl) (λK a=>?_) (λK a=>?_)
  ·go_simp;refine a _ _ ?_;refine rd1 2 rfl (by kernel_rfl) (λK a=>?_);go_simp;refine(l _ C i).mono ?_;rintro e c ⟨f,g⟩;obtain rfl:=(show qan F I e from g)
   exact⟨rfl,rfl,i.trans f⟩
  go_simp;refine(l _ C i).mono ?_;rintro e c ⟨f,g⟩;obtain rfl:=(show qan F I e from g)
  exact⟨rfl,rfl,i.trans f⟩
 |ok Y =>
  obtain⟨d,q⟩:=Y;have M:liJ z B p=.ok (B++[d],q):=by unfold liJ;rw[D]
  rw[M];have ao:=ac p d q D;rw[D]at l;go_enter func204,ntmps204
  go_wp2_with fail
  refine kcD (by kernel_rfl) ?_;change wpAny _ _ _ _ _ _ _ (World.drew V);refine qjz (β:=TypeId×Value×World) #[true,true,true,true,false,false] 2 (λx=>[(2,.slice r w v),(3,.agg #[.pointer (some ⟨b,0,none⟩)]),(4,.iface x.1 x.2.1),(5,.slice (some ⟨x.2.2.heap.size,0,none⟩) 1 1)]) (λx=>But b (World.drew V) x.2.2/\qad x.2.2 b {s with pos:=q,within:=wi}/\qah k x.2.2 (λj=>(World.drew V).heap.size<=j/\j<x.2.2.heap.size) (.iface x.1 x.2.1) d) (λx=>x.2.2.alloc (.cells #[.iface x.1 x.2.1] 47)) (λH=>?reg) ?tail
  case reg =>
   refine rd2 0 1 rfl rfl (by kernel_rfl) (λK a=>?_) (λK a=>?_)
   ·go_simp;refine a _ _ ?_;refine rd1 1 rfl (by kernel_rfl) (λK a=>?_);go_simp;refine a _ _ ?_;refine rd1 2 rfl (by kernel_rfl) (λK a=>?_);go_simp;refine(l _ C i).mono ?_;rintro e c ⟨f,g⟩;obtain⟨⟨t,y,rfl,o⟩,n⟩:=(show(∃t y,e=.returned (.iface t y)/\qah k c (λj=>(World.drew V).heap.size<=j/\j<c.heap.size) (.iface t y) d)/\qad c b {s with pos:=q,within:=wi}from g)
    simp only[];have E:c.cell? ⟨W.heap.size+1,0,none⟩=some (.slice r w v):=qaa ((f.block _ J (by omega)).trans m) 0;have hrel:But b (World.drew V) c/\qad c b {s with pos:=q,within:=wi}/\qah k c (λj=>(World.drew V).heap.size<=j/\j<c.heap.size) (.iface t y) d:=⟨f,n,o⟩
    refine a _ _ ?_;refine rd1 3 rfl (by kernel_rfl) (λK a=>?_);go_simp;refine a _ _ ?_;exact H ⟨t,y,c⟩ hrel
   go_simp;refine a _ _ ?_;refine rd2 0 2 rfl rfl (by kernel_rfl) (λK a=>?_) (λK a=>?_)
   ·go_simp;refine a _ _ ?_;refine rd1 2 rfl (by kernel_rfl) (λK a=>?_);go_simp;refine(l _ C i).mono ?_;rintro e c ⟨f,g⟩;obtain⟨⟨t,y,rfl,o⟩,n⟩:=(show(∃t y,e=.returned (.iface t y)/\qah k c (λj=>(World.drew V).heap.size<=j/\j<c.heap.size) (.iface t y) d)/\qad c b {s with pos:=q,within:=wi}from g)
    simp only[];have E:c.cell? ⟨W.heap.size+1,0,none⟩=some (.slice r w v):=qaa ((f.block _ J (by omega)).trans m) 0;have hrel:But b (World.drew V) c/\qad c b {s with pos:=q,within:=wi}/\qah k c (λj=>(World.drew V).heap.size<=j/\j<c.heap.size) (.iface t y) d:=⟨f,n,o⟩
    refine a _ _ ?_;refine rd1 3 rfl (by kernel_rfl) (λK a=>?_);go_simp;refine a _ _ ?_;exact H ⟨t,y,c⟩ hrel
   go_simp;refine(l _ C i).mono ?_;rintro e c ⟨f,g⟩;obtain⟨⟨t,y,rfl,o⟩,n⟩:=(show(∃t y,e=.returned (.iface t y)/\qah k c (λj=>(World.drew V).heap.size<=j/\j<c.heap.size) (.iface t y) d)/\qad c b {s with pos:=q,within:=wi}from g)
   simp only[];have E:c.cell? ⟨W.heap.size+1,0,none⟩=some (.slice r w v):=qaa ((f.block _ J (by omega)).trans m) 0;have hrel:But b (World.drew V) c/\qad c b {s with pos:=q,within:=wi}/\qah k c (λj=>(World.drew V).heap.size<=j/\j<c.heap.size) (.iface t y) d:=⟨f,n,o⟩
   refine a _ _ ?_;refine rd2 0 3 rfl rfl (by kernel_rfl) (λK a=>?_) (λK a=>?_)
   ·go_simp;refine a _ _ ?_;refine rd1 3 rfl (by kernel_rfl) (λK a=>?_);go_simp;refine a _ _ ?_;exact H ⟨t,y,c⟩ hrel
   go_simp;refine a _ _ ?_;refine rd1 0 rfl (by kernel_rfl) (λK a=>?_);have c4:(c.alloc (.cells #[.iface t y] 47)).cell? ⟨W.heap.size+1,0,none⟩=some (.slice r w v):=(kal c _ _ (by rw[E];rfl)).trans E;go_simp;refine a _ _ ?_;exact H ⟨t,y,c⟩ hrel
  case tail =>
   rintro⟨t,y,c⟩ ⟨f,n,o⟩;simp only[]at f n o ⊢;have G:=(But.of_below (kam _ _).drew).trans f;have aa:=qcZ L G (by omega);have ap:=kaj af G.size;simp only[List.foldl];refine rd1 4 rfl (by kernel_rfl) (λK a=>?_);rw[kag (by rfl)];refine qd4 _ _ 120 rfl (W.heap.size+2) 47 i0 .nilIface 1 16 underlying120 hi ai aj ak rfl (by decide) _ _ _ rfl (aa.alloc _) ⟨c.heap.size,0,none⟩ 1 1 [.iface t y] rfl rfl (qag _ _ _) (λaq U=>by simp at U;subst U;rfl) (by decide) (by unfold maxLen;omega) (by omega) (by simp;omega) ?_;intro v' X T S ag;have u:=h.push O ab G n o m L ad ah T S ag (by have:=h.len;omega);have R:=(S.block _ (by simp;omega) (λe=>by have:=qbH L e.symm;omega)).trans ((kae _ _ _ (by omega)).trans ((G.block _ (ltA m) (by omega)).trans m));have c5:X.cell? ⟨W.heap.size+1,0,none⟩=some (.slice r w v):=qaa R 0;have f5:=kaK X _ 0 _ _ R;obtain⟨g5,al,rfl⟩:=ownsRow_succ T;refine a _ _ ?_;refine rd1 5 rfl (by kernel_rfl) (λK a=>?_);go_simp;refine a _ _ ?_;refine kd9 (by kernel_rfl) ?_ _;go_end0;exact⟨rfl,u⟩

theorem qeE(bs:List UInt8)(lim:Int):∀(g p c:Nat) (b l:List UInt8) (r:Nat),qcU bs lim g p b c=.ok (l,r)->p<r/\l.length+4*p<=b.length+4*r
 |0,p,c,b,l,r,h=>by rw[qcU]at h;cases h
 |g+1,p,c,b,l,r,h=>by
  rw[qcU]at h;split at h
  ·cases h
  split at h
  ·cases h
  split at h
  ·injection h with h;injection h with a d;subst a;omega
  split at h
  ·split at h
   ·cases h
   next rr q hq =>
   have a:=qeE bs lim g q _ _ l r h;have d:=(qls hq).2;have e:=(qcv rr).2;rw[kaa]at a;omega
  split at h
  ·cases h
  split at h
  ·cases h
  have a:=qeE bs lim g (p+1) _ _ l r h;rw[kaa]at a;simp at a;omega
theorem qci(bs:List UInt8)(lim:Int):∀(l:List UInt8) (p:Nat) (u:Unit) (q:Nat),qaO bs lim l p=.ok (u,q)->q=p+l.length
 |[],p,u,q,h=>by
  rw[qaO]at h;injection h with h;injection h with h1 h2;simp[h2]
 |x::xs,p,u,q,h=>by
  rw[qaO]at h;split at h
  ·cases h
  split at h
  ·cases h
  split at h
  ·have:=qci bs lim xs (p+1) u q h;simp;omega
  cases h
theorem qqM{lim:Int}{l:List UInt8}(h:qlw bs lim ks p=.ok (l,q)):p<q:=by
 unfold qlw at h;split at h
 ·cases h
 next u q1 h1 =>
 split at h
 ·cases h
 next l' r h2 =>
 split at h
 ·cases h
 injection h with h;injection h with h3 h4;have:=qci _ _ _ _ _ _ h1;have:=qeE _ _ _ _ _ _ _ _ h2;omega
def qkg(W:World)(b m:Nat)(s:Src)(ks:List (List UInt8))(r:Except (Int×Int) (List UInt8×Nat))(e:Ending)(W':World):Prop :=
 qjL b m W W'/\match r with
 |.ok (l,p)=>e=.returned (.string ⟨l.toArray⟩)/\qad W' b {s with pos:=p}/\qaJ W' m (l::ks)
 |.error (en,pl)=>qan en pl e
theorem qkB(W:World)(b m:Nat)(s:Src)(ks:List (List UInt8))(h:qad W b s)(hk:qaJ W m ks)(S:m≠b)(ab:∀g off,s.bs≠[]->s.ia=some ⟨g,off,none⟩->g≠m)(ac:ks.length<1000000000)(ad:s.bs.length<=200000000)(hU:∀V,But b W V->U8 V)(h7:7<b):Calls prog 206 #[.agg #[.pointer (some ⟨b,0,none⟩)],.map (some m)] W (qkg W b m s ks (qlw s.bs s.lim ks s.pos)):=by
 have o:=qab (qaX h);have t:=qbA _ b s [34] (by simp) o.out.src;have u:∀(V:World) (p:Nat),qad V b {s with pos:=p}->But b W V->Calls prog 193 #[.agg #[.pointer (some ⟨b,0,none⟩)]] V (qbV V b {s with pos:=p} (λl:List UInt8=>.string ⟨l.toArray⟩) (qcU s.bs s.lim (s.bs.length+1-p) p [] 0)):=λV p n L=>qfD V b {s with pos:=p} n (hU V L) h7 ad;have Y:∀(V:World) (p:Nat),qad V b {s with pos:=p}->Calls prog 189 #[.pointer (some ⟨b,0,none⟩),.int .i64 12] V λe X=>qan 12 ((p:Int)-1) e/\X=V:=λV p n=>qav V b {s with pos:=p} 12 n;have O:Hid (∀V,But b W V->qaJ V m ks):=λV n=>hk.but S n;have U:Hid (∀V H p,qad V b {s with pos:=p}->But m V H->qad H b {s with pos:=p}):=λV H p n L=>n.off S ab L;obtain⟨R,P⟩:∃R,Hid (qlw s.bs s.lim ks s.pos=R):=⟨_,show _=_ from rfl⟩
 rw[P.out];have a:=P.out;unfold qlw at a;have v:=qaa o.out.box 0
 cases Q:qaO s.bs s.lim [34] s.pos with
 |error K =>
  rw[Q]at a t;simp only[]at a;subst a;obtain⟨J,N⟩:=K;go_enter func206,ntmps206
  go_wp2_with(first
   |(go_at_call 192;refine t.mono ?_;rintro e f ⟨j,k⟩;obtain rfl:=(show qan J N e from k)))
  exact⟨rfl,.of1 (o.out.but.trans j),rfl⟩
 |ok uq =>
  obtain⟨af,q⟩:=uq;rw[Q]at a t;simp only[]at a;have w:=λI (hs:qad I b {s with pos:=q}) (hb:But b W I)=>u I q hs hb
  cases M:qcU s.bs s.lim (s.bs.length+1-q) q [] 0 with
  |error K =>
   rw[M]at a w;simp only[]at a;subst a;obtain⟨J,N⟩:=K;go_enter func206,ntmps206
   go_wp2_with(first
    |(go_at_call 192;refine t.mono ?_;rintro e f ⟨j,k⟩;obtain⟨rfl,B⟩:=(show e=.returned (.tuple #[])/\qad f b {s with pos:=q}from k);have c:=qab (o.out.step B j);have v:=qaa c.out.box 0;have x:=w f c.out.src c.out.but)
    |(go_at_call 193;refine x.mono ?_;rintro e i ⟨y,A⟩;obtain rfl:=(show qan J N e from A)))
   exact⟨rfl,.of1 (c.out.but.trans y),rfl⟩
  |ok lr =>
   obtain⟨l,r⟩:=lr;rw[M]at a w;simp only[]at a;have ae:=qeE _ _ _ _ _ _ _ _ M;simp only[kay,kaL]at ae;by_cases D:l∈ks
   ·rw[kag D]at a;subst a;have E:=qab D;go_enter func206,ntmps206
    go_wp2_with(first
     |(go_at_call 192;refine t.mono ?_;rintro e f ⟨j,k⟩;obtain⟨rfl,B⟩:=(show e=.returned (.tuple #[])/\qad f b {s with pos:=q}from k);have c:=qab (o.out.step B j);have v:=qaa c.out.box 0;have x:=w f c.out.src c.out.but)
     |(go_at_call 193;refine x.mono ?_;rintro e i ⟨y,A⟩;obtain⟨rfl,C⟩:=(show e=.returned (.string ⟨l.toArray⟩)/\qad i b {s with pos:=r}from A);have d:=qab (c.out.step C y);have F:Hid (l.length<=1000000000):=(show _<=_ from by have h1:r<=s.bs.length:=C.le;omega);have v:=qaa d.out.box 0)
     |(go_at_call 212;refine(qiq i m ks l (O.out i d.out.but) E.out F.out).mono ?_;rintro e T ⟨rfl,z⟩;have G:=qab (d.out.step (d.out.src.below z) (But.of_below z));have v:=qaa G.out.box 0;have Z:=Y T r G.out.src)
     |(go_at_call 189;refine Z.mono ?_;rintro e w8 ⟨hF,rfl⟩;obtain rfl:=hF))
    exact⟨rfl,.of1 G.out.but,rfl⟩
   rw[kac D]at a;subst a;have E:=qab D;go_enter func206,ntmps206
   go_wp2_with(first
    |(go_at_call 192;refine t.mono ?_;rintro e f ⟨j,k⟩;obtain⟨rfl,B⟩:=(show e=.returned (.tuple #[])/\qad f b {s with pos:=q}from k);have c:=qab (o.out.step B j);have v:=qaa c.out.box 0;have x:=w f c.out.src c.out.but)
    |(go_at_call 193;refine x.mono ?_;rintro e i ⟨y,A⟩;obtain⟨rfl,C⟩:=(show e=.returned (.string ⟨l.toArray⟩)/\qad i b {s with pos:=r}from A);have d:=qab (c.out.step C y);have F:Hid (l.length<=1000000000):=(show _<=_ from by have h1:r<=s.bs.length:=C.le;omega);have v:=qaa d.out.box 0)
    |(go_at_call 212;refine(qmH i m ks l (O.out i d.out.but) E.out ac F.out).mono ?_;rintro e T ⟨rfl,aa,z⟩))
   go_ret;exact⟨(qjL.of1 d.out.but).trans (qjL.of2 z),rfl,U.out _ _ _ d.out.src z,aa⟩

structure qgo(k:Nat)(W:World)(b:Nat)(s:Src)(N wi p:Nat)(a:List (List UInt8)×List (Lit×DataW Unit))(V:World):Prop where
 src:qad V b {s with pos:=p,within:=wi}
 but:But b W V
 rbox:V.heap[W.heap.size]?=some (.cells #[.pointer (some ⟨b,0,none⟩)] 114)
 kbox:V.heap[W.heap.size+3]?=some (.cells #[.map (some (W.heap.size+2))] 310)
 keys:qaJ V (W.heap.size+2) a.1
 box:V.heap[N]?=some (.cells #[.pointer (some ⟨b,0,none⟩)] 114)
 hN:W.heap.size+4<=N
 own:∃ad l c xs,V.heap[W.heap.size+1]?=some (.cells #[.slice ad l c] 122)/\V.ownsRow (W.heap.size+4) 124 2 (.slice ad l c) a.2.length xs/\some N≠(Value.slice ad l c).ownBlock/\qc7 k V (λj=>W.heap.size+4<=j/\j<V.heap.size/\some j≠(Value.slice ad l c).ownBlock) xs a.2
 size:W.heap.size+4<=V.heap.size
 len:a.2.length<=p/\a.1.length<=p
theorem qgo.step(h:qgo k W b s N wi p a V)(w:b<W.heap.size)(t:qad V' b {s with pos:=q,within:=wi' })(d:qjL b (W.heap.size+2) V V')(o:qaJ V' (W.heap.size+2) ks)(r:a.2.length<=q/\ks.length<=q):qgo k W b s N wi' q (ks,a.2) V':=by
 obtain⟨g,l,c,u,f,i,m,n⟩:=h.own;have x:=h.size;have v:=h.hN;exact⟨t,h.but.trans' d,(d.block _ (ltA h.rbox) (by omega) (by omega)).trans h.rbox,(d.block _ (ltA h.kbox) (by omega) (by omega)).trans h.kbox,o,(d.block _ (ltA h.box) (by omega) (by omega)).trans h.box,h.hN,⟨g,l,c,u,(d.block _ (ltA f) (by omega) (by omega)).trans f,qfS i d (by omega) (by omega),m,n.same (λj e=>⟨e.1,kai e.2.1 d.size,e.2.2⟩) (λj e=>d.block j e.2.1 (by omega) (by omega))⟩,kaj h.size d.size,r⟩
theorem qgo.go'(h:qgo k W b s N wi p a V)(d:b<W.heap.size)(f:qad V' b {s with pos:=q,within:=wi' })(c:But b V V')(e:a.2.length<=q/\a.1.length<=q):qgo k W b s N wi' q a V' :=
 h.step (ks:=a.1) d f (.of1 c) (h.keys.but (by omega) c) e
theorem qgo.go(h:qgo k W b s N wi p a V)(d:b<W.heap.size)(e:qad V' b {s with pos:=q,within:=wi' })(c:But b V V')(f:p<=q):qgo k W b s N wi' q a V' :=
 h.go' d e c ⟨by have:=h.len.1;omega,by have:=h.len.2;omega⟩
theorem qgo.push{es:List (Lit×DataW Unit)}{key:List UInt8}{a:Option Addr}(h:qgo k W b s N wi p (ks,es) V)(S:qad W b s)(hb:b<W.heap.size)(m:But b V V3)(hS:qad V3 b {s with pos:=q,within:=wi})(hd:qah k V3 (λj=>V.heap.size<=j/\j<V3.heap.size) x d)(H:V.heap[W.heap.size+1]?=some (.cells #[.slice a l c] 122))(F:V.ownsRow (W.heap.size+4) 124 2 (.slice a l c) es.length xs)(I:some N≠(Value.slice a l c).ownBlock)(af:qc7 k V (λj=>W.heap.size+4<=j/\j<V.heap.size/\some j≠(Value.slice a l c).ownBlock) xs es)(G:w5.ownsRow (W.heap.size+4) 124 2 v' (es.length+1) (xs++[.string ⟨key.toArray⟩,x]))(n:(V3.alloc (.cells #[.string ⟨key.toArray⟩,x] 124)).grownBy w5 (Value.slice a l c).ownBlock)(t:v'.ownBlock=(Value.slice a l c).ownBlock\/v'.ownBlock=some (V3.alloc (.cells #[.string ⟨key.toArray⟩,x] 124)).heap.size)(ac:es.length+1<=q)(ad:ks.length<=q):qgo k W b s N wi q (ks,es++[(.string key,d)]) (w5.setCell ⟨W.heap.size+1,0,none⟩ v'):=by
 have ak:=h.size;have hN:=h.hN;have Z:=ltA h.box;have ai:=m.size;have aj:V3.heap.size+1<=w5.heap.size:=by have:=n.size;simpa using this
 have C:∀g,(Value.slice a l c).ownBlock=some g->W.heap.size+4<=g:=λg n=>qbH F n;have ag:∀g,(Value.slice a l c).ownBlock=some g->g<V.heap.size:=qiv F;have u:∀j,j<V3.heap.size->some j≠(Value.slice a l c).ownBlock->j≠W.heap.size+1->(w5.setCell ⟨W.heap.size+1,0,none⟩ v').heap[j]?=V3.heap[j]?:=λj f r D=>(kat w5 _ _ _ (by simpa using D)).trans ((n.block j (by simp;omega) r).trans (kae _ _ _ f));have v:∀j,j<W.heap.size+4->j≠W.heap.size+1->(w5.setCell ⟨W.heap.size+1,0,none⟩ v').heap[j]?=V3.heap[j]?:=λj f D=>u j (by omega) (λe=>by have:=C j e.symm;omega) D;have Y:w5.heap[W.heap.size+1]?=some (.cells #[.slice a l c] 122):=(n.block _ (by simp;omega) (λe=>by have:=C _ e.symm;omega)).trans ((kae _ _ _ (by omega)).trans ((m.block _ (ltA H) (by omega)).trans H));have w:(w5.setCell ⟨W.heap.size+1,0,none⟩ v').heap.size=w5.heap.size:=by simp[World.setCell]
 have ab:qaJ (w5.setCell ⟨W.heap.size+1,0,none⟩ v') (W.heap.size+2) ks:=by
  have T:qaJ V3 (W.heap.size+2) ks:=h.keys.but (by omega) m;have B:qaJ (V3.alloc (.cells #[.string ⟨key.toArray⟩,x] 124)) (W.heap.size+2) ks:=T.but (b:=W.heap.size+1) (by omega) (But.of_below bwA);have U:qaJ w5 (W.heap.size+2) ks:=B.kept n (λe=>by have:=C _ e.symm;omega);exact U.but (b:=W.heap.size+1) (by omega) ⟨rfl,rfl,rfl,by simp[World.setCell],λj _ f=>kat w5 _ _ _ (by simpa using f)⟩
 obtain⟨A,z,rfl⟩:=ownsRow_succ G;have ae:(w5.setCell ⟨W.heap.size+1,0,none⟩ (.slice (some ⟨A,0,none⟩) (es.length+1) z)).ownsRow (W.heap.size+4) 124 2 (.slice (some ⟨A,0,none⟩) (es.length+1) z) (es.length+1) (xs++[.string ⟨key.toArray⟩,x]):=by
  refine⟨G.1,?_⟩;rcases G.2 with B|⟨g,K,L,e,y,aa,X⟩
  ·exact .inl B
  exact .inr ⟨g,K,L,e,y,(kat w5 _ _ _ (by simp;omega)).trans aa,X⟩
 have E:∀j,j<V3.heap.size->some j≠(Value.slice a l c).ownBlock->some j≠(Value.slice (some ⟨A,0,none⟩) (es.length+1) z).ownBlock:=λj f r=>by
  rcases t with t|t
  ·rw[t];exact r
  rw[t];intro e;injection e with e;simp at e;omega
 refine⟨S.same rfl rfl hS (λj f=>v j (by omega) (by omega)),⟨n.os.trans (m.os.trans h.but.os),n.tape.trans (m.tape.trans h.but.tape),n.output.trans (m.output.trans h.but.output),by rw[w];have:=h.but.size;omega,λj f r=>(v j (by omega) (by omega)).trans ((m.block j (by omega) r).trans (h.but.block j f r))⟩,(v _ (by omega) (by omega)).trans ((m.block _ (by omega) (by omega)).trans h.rbox),(v _ (by omega) (by omega)).trans ((m.block _ (by omega) (by omega)).trans h.kbox),ab,(u N (by omega) I (by omega)).trans ((m.block N Z (by omega)).trans h.box),h.hN,⟨_,_,_,_,?_,by rw[kaa];exact ae,?_,λi ah M o=>?_⟩,by rw[w];omega,⟨by rw[kaa];exact ac,ad⟩⟩
 ·rw[kaO _ _ _ _ _ _ Y];rfl
 ·exact E N (by omega) I
 have al:xs.length=es.length*2:=F.1;by_cases hi:i<es.length
 ·rw[kau hi]at o;obtain⟨l',x',O,P,Q,R⟩:=af i ah M o;refine⟨l',x',O,by rw[kau (by omega)];exact P,by rw[kau (by omega)];exact Q,?_⟩;exact R.same (λj f=>⟨f.1,by rw[w];have:=f.2.1;omega,E j (by omega) f.2.2⟩) (λj f=>(u j (by omega) f.2.2 (by omega)).trans (m.block j f.2.1 (by omega)))
 have e:i=es.length:=by
  have:=ltL o;rw[kaa]at this;simp at this;omega
 subst e;rw[kas (by omega)]at o;simp at o;obtain⟨rfl,rfl⟩:=o;have J:∀j,V.heap.size<=j->some j≠(Value.slice a l c).ownBlock:=λj f e=>by have:=ag j e.symm;omega
 refine⟨key,x,rfl,?_,?_,hd.same (λj f=>⟨by omega,by rw[w];omega,E j f.2 (J j f.1)⟩) (λj f=>u j f.2 (J j f.1) (by omega))⟩
 ·rw[kas (by omega),show 2*es.length-xs.length=0 by omega];rfl
 rw[kas (by omega),show 2*es.length+1-xs.length=1 by omega];rfl
theorem qt7(k:Nat)(W:World)(b:Nat)(s:Src)(wi:Nat)(Z:Nat->Except (Int×Int) (DataW Unit×Nat))(h0:qad W b s)(az:qhi k b {s with within:=wi} W Z)(a3:∀p d q,Z p=.ok (d,q)->p<q)(a4:s.bs.length<=200000000)(hU:∀V,But b W V->U8 V)(h7:7<b)(N p:Nat)(a:List (List UInt8)×List (Lit×DataW Unit))(V:World)(h:qgo k W b s N wi p a V):Calls prog 205 #[.pointer (some ⟨W.heap.size,0,none⟩),.pointer (some ⟨W.heap.size+3,0,none⟩),.pointer (some ⟨W.heap.size+1,0,none⟩)] V (qcS (qgo k W b s N wi) (λV=>But b W V) (enJ s.bs s.lim Z a p)):=by
 obtain⟨i0,hi,ba,bb,bc⟩:=kaF Tryz.infoEntry;have ad:b<W.heap.size:=ltA h0.row;have ax:∀ah off,s.bs≠[]->s.ia=some ⟨ah,off,none⟩->ah≠W.heap.size+2:=λah off am e=>by
  have hl:0<s.bs.length:=by cases a2:s.bs with|nil=>exact absurd a2 am|cons _ _=>simp
  obtain⟨g',bi,e1,_,e3⟩:=h0.inp 0 hl;rw[e]at e1;injection e1 with e1;injection e1 with e1;have:g'<W.heap.size:=kaI e3;omega
 have H:Hid (qgo k W b s N wi p a V):=h;have cK:Calls prog 206 #[.agg #[.pointer (some ⟨b,0,none⟩)],.map (some (W.heap.size+2))] V (qkg V b (W.heap.size+2) {s with pos:=p,within:=wi} a.1 (qlw s.bs s.lim a.1 p)):=qkB V b (W.heap.size+2) {s with pos:=p,within:=wi} a.1 h.src h.keys (by omega) ax (by have z:=h.len.2;have D:p<=s.bs.length:=h.src.le;omega) a4 (λw h9=>hU w (h.but.trans h9)) h7;have cS:∀(V:World) (p:Nat),qad V b {s with pos:=p,within:=wi}->Calls prog 191 #[.agg #[.pointer (some ⟨b,0,none⟩)]] V (qbV V b {s with pos:=p,within:=wi} (λ_:Unit=>.tuple #[]) (spF s.bs s.lim (s.bs.length+1-p) p)):=λV p hV=>qaR V b {s with pos:=p,within:=wi} hV;have cR:∀(V:World) (p:Nat),qad V b {s with pos:=p,within:=wi}->Calls prog 192 #[.agg #[.pointer (some ⟨b,0,none⟩)],.string ⟨#[58]⟩] V (qbV V b {s with pos:=p,within:=wi} (λ_:Unit=>.tuple #[]) (qaO s.bs s.lim [58] p)):=λV p hV=>qbA V b {s with pos:=p,within:=wi} [58] (by simp) hV;have ag:∀(w:World) (q:Nat),qad w b {s with pos:=q,within:=wi}->But b W w->Calls prog 190 #[.agg #[.pointer (some ⟨b,0,none⟩)]] w (qct k w b {s with pos:=q,within:=wi} (Z q)):=λw q z D=>az w q z D;have T:=qaa h.rbox 0;have k2:=qaa h.kbox 0;clear h az hU ax;obtain⟨ao,HR⟩:∃ao,Hid (enJ s.bs s.lim Z a p=ao):=⟨_,show _=_ from rfl⟩
 rw[HR.out];have o:=HR.out;unfold enJ at o;clear HR;go_enter func205,ntmps205
 go_wp2_with fail
 refine cK.mono ?_;clear cK;rintro e w1 ⟨ai,aa⟩
 cases z:qlw s.bs s.lim a.1 p with
 |error L =>
  obtain⟨C,G⟩:=L;simp only[z]at o aa;subst o;clear z cS cR ag;obtain rfl:=(show qan C G e from aa)
  go_wp2;exact⟨rfl,rfl,H.out.but.trans' ai⟩
 |ok lq =>
  obtain⟨r,q1⟩:=lq;have bf:=qqM z;simp only[z]at o aa;clear z;obtain⟨rfl,ar,ap⟩:=(show e=.returned (.string ⟨r.toArray⟩)/\qad w1 b {s with pos:=q1,within:=wi}/\qaJ w1 (W.heap.size+2) (r::a.1)from aa)
  have u:Hid (qgo k W b s N wi q1 (r::a.1,a.2) w1):=H.out.step ad ar ai ap ⟨by have:=H.out.len.1;omega,by have:=H.out.len.2;rw[kah];omega⟩;clear H ar ai ap aa T k2;have T:=qaa u.out.rbox 0
  go_wp2_with fail
  refine(cS w1 q1 u.out.src).mono ?_;rintro e w2 ⟨aj,ab⟩
  cases D:spF s.bs s.lim (s.bs.length+1-q1) q1 with
  |error L =>
   obtain⟨C,G⟩:=L;simp only[D]at o ab;subst o;clear D;obtain rfl:=(show qan C G e from ab)
   go_wp2;exact⟨rfl,rfl,u.out.but.trans aj⟩
  |ok uq =>
   obtain⟨u2,q2⟩:=uq;have a5:=qc5 _ _ _ _ _ _ D;simp only[D]at o ab;clear D;obtain⟨rfl,au⟩:=(show e=.returned (.tuple #[])/\qad w2 b {s with pos:=q2,within:=wi}from ab)
   have R:Hid (qgo k W b s N wi q2 (r::a.1,a.2) w2):=u.out.go ad au aj a5;clear u au aj ab T;have T:=qaa R.out.rbox 0
   go_wp2_with fail
   refine(cR w2 q2 R.out.src).mono ?_;rintro e f ⟨m,n⟩
   cases h3:qaO s.bs s.lim [58] q2 with
   |error L =>
    obtain⟨C,G⟩:=L;simp only[h3]at o n;subst o;clear h3;obtain rfl:=(show qan C G e from n)
    go_wp2;exact⟨rfl,rfl,R.out.but.trans m⟩
   |ok uq =>
    obtain⟨u3,Y⟩:=uq;have a6:q2<=Y:=by have:=qci _ _ _ _ _ _ h3;omega
    simp only[h3]at o n;clear h3;obtain⟨rfl,E⟩:=(show e=.returned (.tuple #[])/\qad f b {s with pos:=Y,within:=wi}from n)
    have g:Hid (qgo k W b s N wi Y (r::a.1,a.2) f):=R.out.go ad E m a6;clear R E m n T;have T:=qaa g.out.rbox 0
    go_wp2_with fail
    refine(cS f Y g.out.src).mono ?_;rintro e l ⟨ak,ac⟩
    cases h4:spF s.bs s.lim (s.bs.length+1-Y) Y with
    |error L =>
     obtain⟨C,G⟩:=L;simp only[h4]at o ac;subst o;clear h4;obtain rfl:=(show qan C G e from ac)
     go_wp2;exact⟨rfl,rfl,g.out.but.trans ak⟩
    |ok uq =>
     obtain⟨u4,I⟩:=uq;have a7:=qc5 _ _ _ _ _ _ h4;simp only[h4]at o ac;clear h4;obtain⟨rfl,av⟩:=(show e=.returned (.tuple #[])/\qad l b {s with pos:=I,within:=wi}from ac)
     have J:Hid (qgo k W b s N wi I (r::a.1,a.2) l):=g.out.go ad av ak a7;clear g av ak ac T
     go_wp2_with fail
     have P:=λw (z:qad w b {s with pos:=I,within:=wi}) (D:But b W w)=>ag w I z D;clear ag;obtain⟨A,F,B,xs,Q,ho,am,an⟩:=J.out.own;have ho:l.ownsRow (W.heap.size+4) 124 2 (.slice A F B) a.2.length xs:=ho;have an:qc7 k l (λj=>W.heap.size+4<=j/\j<l.heap.size/\some j≠(Value.slice A F B).ownBlock) xs a.2:=an;have al:W.heap.size+1<(World.drew l).heap.size:=ltA Q;have X:qad (World.drew l) b {s with pos:=I,within:=wi}:=J.out.src.below (kam _ _).drew;have M:But b W (World.drew l):=J.out.but.trans (But.of_below (kam _ _).drew);have k0:(World.drew l).cell? ⟨W.heap.size+1,0,none⟩=some (.slice A F B):=qaa Q 0;have T:(World.drew l).cell? ⟨W.heap.size,0,none⟩=some (.pointer (some ⟨b,0,none⟩)):=qaa J.out.rbox 0;have a8:=J.out.size;refine kcD (by kernel_rfl) ?_;change wpAny _ _ _ _ _ _ _ (World.drew l);refine wpAny_take (i:=1) (v:=.string ⟨r.toArray⟩) rfl (by kernel_rfl) (by kernel_rfl) (by kernel_rfl) (λ_ _ _ h=>h) (.inl ⟨rfl,λw=>rfl⟩) ?_
     cases U:Z I with
     |error L =>
      obtain⟨C,G⟩:=L;simp only[U]at o;subst o;rw[U]at P;clear U;refine rd2 0 2 rfl rfl (by kernel_rfl) (λK c=>?_) (λK c=>?_)
      ·go_simp;refine c _ _ ?_;clear c;refine rd1 2 rfl (by kernel_rfl) (λK c=>?_);go_simp;refine c _ _ ?_;clear c;refine rd1 3 rfl (by kernel_rfl) (λK c=>?_);go_simp;refine(P _ X M).mono ?_;rintro e f ⟨m,n⟩;obtain rfl:=(show qan C G e from n)
       exact⟨rfl,rfl,M.trans m⟩
      go_simp;refine c _ _ ?_;clear c;refine rd2 0 3 rfl rfl (by kernel_rfl) (λK c=>?_) (λK c=>?_)
      ·go_simp;refine c _ _ ?_;clear c;refine rd1 3 rfl (by kernel_rfl) (λK c=>?_);go_simp;refine(P _ X M).mono ?_;rintro e f ⟨m,n⟩;obtain rfl:=(show qan C G e from n)
       exact⟨rfl,rfl,M.trans m⟩
      go_simp;refine(P _ X M).mono ?_;rintro e f ⟨m,n⟩;obtain rfl:=(show qan C G e from n)
      exact⟨rfl,rfl,M.trans m⟩
     |ok dq =>
      obtain⟨d,O⟩:=dq;have bg:=a3 I d O U;simp only[U]at o;subst o;rw[U]at P;clear U;have be:a.2.length<=200000000:=by have z:a.2.length<=I:=J.out.len.1;have D:I<=s.bs.length:=J.out.src.le;omega
      refine qjz (β:=TypeId×Value×World) #[true,true,true,true,true,true,false,false] 2 (λx=>[(13,.slice A F B),(15,.agg #[.pointer (some ⟨b,0,none⟩)]),(16,.iface x.1 x.2.1),(17,.agg #[.string ⟨r.toArray⟩,.iface x.1 x.2.1]),(18,.slice (some ⟨x.2.2.heap.size,0,none⟩) 1 1)]) (λx=>But b (World.drew l) x.2.2/\qad x.2.2 b {s with pos:=O,within:=wi}/\qah k x.2.2 (λj=>(World.drew l).heap.size<=j/\j<x.2.2.heap.size) (.iface x.1 x.2.1) d) (λx=>x.2.2.alloc (.cells #[.string ⟨r.toArray⟩,.iface x.1 x.2.1] 124)) (λae=>?reg) ?tail
      case reg =>
       refine rd2 0 2 rfl rfl (by kernel_rfl) (λK c=>?_) (λK c=>?_)
       ·go_simp;refine c _ _ ?_;clear c;refine rd1 2 rfl (by kernel_rfl) (λK c=>?_);go_simp;refine c _ _ ?_;clear c;refine rd1 3 rfl (by kernel_rfl) (λK c=>?_);go_simp;refine(P _ X M).mono ?_;rintro e f ⟨m,n⟩;obtain⟨⟨t,y,rfl,S⟩,E⟩:=(show(∃t y,e=.returned (.iface t y)/\qah k f (λj=>(World.drew l).heap.size<=j/\j<f.heap.size) (.iface t y) d)/\qad f b {s with pos:=O,within:=wi}from n)
        simp only[];have c3:f.cell? ⟨W.heap.size+1,0,none⟩=some (.slice A F B):=qaa ((m.block _ al (by omega)).trans Q) 0;have hrel:But b (World.drew l) f/\qad f b {s with pos:=O,within:=wi}/\qah k f (λj=>(World.drew l).heap.size<=j/\j<f.heap.size) (.iface t y) d:=⟨m,E,S⟩
        refine c _ _ ?_;clear c;refine rd1 4 rfl (by kernel_rfl) (λK c=>?_);go_simp;refine c _ _ ?_;clear c;refine rd1 5 rfl (by kernel_rfl) (λK c=>?_);go_simp;refine c _ _ ?_;clear c;exact ae ⟨t,y,f⟩ hrel
       go_simp;refine c _ _ ?_;clear c;refine rd2 0 3 rfl rfl (by kernel_rfl) (λK c=>?_) (λK c=>?_)
       ·go_simp;refine c _ _ ?_;clear c;refine rd1 3 rfl (by kernel_rfl) (λK c=>?_);go_simp;refine(P _ X M).mono ?_;rintro e f ⟨m,n⟩;obtain⟨⟨t,y,rfl,S⟩,E⟩:=(show(∃t y,e=.returned (.iface t y)/\qah k f (λj=>(World.drew l).heap.size<=j/\j<f.heap.size) (.iface t y) d)/\qad f b {s with pos:=O,within:=wi}from n)
        simp only[];have c3:f.cell? ⟨W.heap.size+1,0,none⟩=some (.slice A F B):=qaa ((m.block _ al (by omega)).trans Q) 0;have hrel:But b (World.drew l) f/\qad f b {s with pos:=O,within:=wi}/\qah k f (λj=>(World.drew l).heap.size<=j/\j<f.heap.size) (.iface t y) d:=⟨m,E,S⟩
        refine c _ _ ?_;clear c;refine rd1 4 rfl (by kernel_rfl) (λK c=>?_);go_simp;refine c _ _ ?_;clear c;refine rd1 5 rfl (by kernel_rfl) (λK c=>?_);go_simp;refine c _ _ ?_;clear c;exact ae ⟨t,y,f⟩ hrel
       go_simp;refine(P _ X M).mono ?_;rintro e f ⟨m,n⟩;obtain⟨⟨t,y,rfl,S⟩,E⟩:=(show(∃t y,e=.returned (.iface t y)/\qah k f (λj=>(World.drew l).heap.size<=j/\j<f.heap.size) (.iface t y) d)/\qad f b {s with pos:=O,within:=wi}from n)
       simp only[];have c3:f.cell? ⟨W.heap.size+1,0,none⟩=some (.slice A F B):=qaa ((m.block _ al (by omega)).trans Q) 0;have hrel:But b (World.drew l) f/\qad f b {s with pos:=O,within:=wi}/\qah k f (λj=>(World.drew l).heap.size<=j/\j<f.heap.size) (.iface t y) d:=⟨m,E,S⟩
       refine c _ _ ?_;clear c;refine rd2 0 4 rfl rfl (by kernel_rfl) (λK c=>?_) (λK c=>?_)
       ·go_simp;refine c _ _ ?_;clear c;refine rd1 4 rfl (by kernel_rfl) (λK c=>?_);go_simp;refine c _ _ ?_;clear c;refine rd1 5 rfl (by kernel_rfl) (λK c=>?_);go_simp;refine c _ _ ?_;clear c;exact ae ⟨t,y,f⟩ hrel
       go_simp;refine c _ _ ?_;clear c;refine rd2 0 5 rfl rfl (by kernel_rfl) (λK c=>?_) (λK c=>?_)
       ·go_simp;refine c _ _ ?_;clear c;refine rd1 5 rfl (by kernel_rfl) (λK c=>?_);go_simp;refine c _ _ ?_;clear c;exact ae ⟨t,y,f⟩ hrel
       go_simp;refine c _ _ ?_;clear c;refine rd1 0 rfl (by kernel_rfl) (λK c=>?_);have c4:(f.alloc (.cells #[.string ⟨r.toArray⟩,.iface t y] 124)).cell? ⟨W.heap.size+1,0,none⟩=some (.slice A F B):=(kal f _ _ (by rw[c3];rfl)).trans c3;go_simp;refine c _ _ ?_;clear c;exact ae ⟨t,y,f⟩ hrel
      case tail =>
       rintro⟨t,y,f⟩ ⟨m,E,S⟩;simp only[]at m E S ⊢;have af:But b l f:=(But.of_below (kam _ _).drew).trans m;have a1:f.ownsRow (W.heap.size+4) 124 2 (.slice A F B) a.2.length xs:=qcZ ho af (by omega);have bh:W.heap.size+4<=f.heap.size:=kaj a8 af.size;simp only[List.foldl];refine rd1 6 rfl (by kernel_rfl) (λK c=>?_);rw[kag (by rfl)];refine qd4 _ _ 122 rfl (W.heap.size+4) 124 i0 (.agg #[.string ByteArray.empty,.nilIface]) 2 32 underlying122 hi ba bb bc rfl (by decide) _ _ _ rfl (a1.alloc _) ⟨f.heap.size,0,none⟩ 1 1 [.string ⟨r.toArray⟩,.iface t y] rfl rfl (qag _ _ _) (λbj hu=>by simp at hu;rcases hu with rfl|rfl<;>rfl) (by decide) (by unfold maxLen;omega) (by omega) (by simp;omega) ?_;intro v' w5 ay aw a9;have hJ:qgo k W b s N wi O (r::a.1,a.2++[(.string r,d)]) (w5.setCell ⟨W.heap.size+1,0,none⟩ v'):=J.out.push h0 ad af E S Q ho am an ay aw a9 (by have z:a.2.length<=I:=J.out.len.1;omega) (by have z:(r::a.1).length<=I:=J.out.len.2;omega);have aq:w5.heap[W.heap.size+1]?=some (.cells #[.slice A F B] 122):=(aw.block _ (by simp;omega) (λe=>by have:=qbH ho e.symm;omega)).trans ((kae _ _ _ (by omega)).trans ((af.block _ (ltA Q) (by omega)).trans Q));have c5:w5.cell? ⟨W.heap.size+1,0,none⟩=some (.slice A F B):=qaa aq 0;have f5:w5.frozen? ⟨W.heap.size+1,0,none⟩=false:=kaK w5 _ 0 _ _ aq;obtain⟨g5,bd,rfl⟩:=ownsRow_succ ay;refine c _ _ ?_;clear c;refine rd1 7 rfl (by kernel_rfl) (λK c=>?_);go_simp;refine c _ _ ?_;clear c;refine kd9 (by kernel_rfl) ?_ _;go_end0;exact⟨rfl,hJ⟩

def qnE{α:Type}(W:World)(b:Nat)(s:Src)(val:World->Value->α->Prop)(r:Except (Int×Int) (α×Nat))(e:Ending)(W':World):Prop :=
 But b W W'/\match r with
 |.ok (x,p)=>(∃v,e=.returned v/\val W' v x)/\qad W' b {s with pos:=p}
 |.error (en,pl)=>qan en pl e
theorem qub(c:b<W.heap.size):qiW b s (qoY k W b s) (λV=>But b W V) :=
 ⟨λ_ _ _ _ _ h=>h.src,λ_ _ _ _ _ _ _ _ h d a e=>h.step c d a (by have:=h.len;omega),λ_ _ _ _ _ h=>h.box,λ_ _ _ _ _ h=>h.but,λ_ _ h a=>h.trans a⟩
theorem qsB(c:b<W.heap.size):qiW b s (qgo k W b s) (λV=>But b W V) :=
 ⟨λ_ _ _ _ _ h=>h.src,λ_ _ _ _ _ _ _ _ h e a d=>h.go c e a d,λ_ _ _ _ _ h=>h.box,λ_ _ _ _ _ h=>h.but,λ_ _ h a=>h.trans a⟩
theorem quS(c:∀p d q,rd p=.ok (d,q)->p<q):∀a p b q,liJ rd a p=.ok (b,q)->p<q:=λa p b q h=>by
 unfold liJ at h;split at h
 ·cases h
 next d r hr =>
 injection h with h;injection h with h1 h2;have:=c _ _ _ hr;omega
theorem quR{lim:Int}(c:∀p d q,rd p=.ok (d,q)->p<q):∀a p b q,enJ bs lim rd a p=.ok (b,q)->p<q:=λa p b q h=>by
 unfold enJ at h;split at h
 ·cases h
 next l p1 h1 =>
 split at h
 ·cases h
 next u2 p2 h2 =>
 split at h
 ·cases h
 next u3 p3 h3 =>
 split at h
 ·cases h
 next u4 p4 h4 =>
 split at h
 ·cases h
 next d p5 h5 =>
 injection h with h;injection h with h6 h7;have:=qqM h1;have:=qc5 _ _ _ _ _ _ h2;have:=qci _ _ _ _ _ _ h3;have:=qc5 _ _ _ _ _ _ h4;have:=c _ _ _ h5;omega
theorem qvE(k:Nat)(h:qad W b s):qoY k W b s (W.heap.size+2) s.within s.pos [] (((W.alloc (.cells #[.pointer (some ⟨b,0,none⟩)] 114)).alloc (.cells #[.slice none 0 0] 120)).alloc (.cells #[.pointer (some ⟨b,0,none⟩)] 114)):=by
 have a:Below W.heap.size W (((W.alloc (.cells #[.pointer (some ⟨b,0,none⟩)] 114)).alloc (.cells #[.slice none 0 0] 120)).alloc (.cells #[.pointer (some ⟨b,0,none⟩)] 114)):=((bwA).alloc (by simp) _).alloc (by simp;omega) _;refine⟨h.below a,But.of_below a,?_,?_,kaf _,⟨none,0,0,[],?_,kaV _ _ _ _,by simp[Value.ownBlock],λi x d c=>by simp at c⟩,by simp,kaY _⟩
 ·exact(kae _ _ _ (by simp;omega)).trans ((kae _ _ _ (by simp)).trans (qac W _))
 ·have:=qac ((W.alloc (.cells #[.pointer (some ⟨b,0,none⟩)] 114)).alloc (.cells #[.slice none 0 0] 120)) (.cells #[.pointer (some ⟨b,0,none⟩)] 114);rw[kad,kad]at this;exact this
 refine(kae _ _ _ (by simp)).trans ?_;have:=qac (W.alloc (.cells #[.pointer (some ⟨b,0,none⟩)] 114)) (.cells #[.slice none 0 0] 120);rw[kad]at this;exact this
theorem qx5(k:Nat)(h:qad W b s):qgo k W b s (W.heap.size+4) s.within s.pos ([],[]) (((((W.alloc (.cells #[.pointer (some ⟨b,0,none⟩)] 114)).alloc (.cells #[.slice none 0 0] 122)).alloc (.map #[] 0)).alloc (.cells #[.map (some (W.heap.size+2))] 310)).alloc (.cells #[.pointer (some ⟨b,0,none⟩)] 114)):=by
 have e:Below W.heap.size W (((((W.alloc (.cells #[.pointer (some ⟨b,0,none⟩)] 114)).alloc (.cells #[.slice none 0 0] 122)).alloc (.map #[] 0)).alloc (.cells #[.map (some (W.heap.size+2))] 310)).alloc (.cells #[.pointer (some ⟨b,0,none⟩)] 114)):=((((bwA).alloc (by simp) _).alloc (by simp;omega) _).alloc (by simp;omega) _).alloc (by simp;omega) _;generalize hA:W.alloc (.cells #[.pointer (some ⟨b,0,none⟩)] 114)=A at *;have c:A.heap.size=W.heap.size+1:=by rw[<-hA];simp
 have f:A.heap[W.heap.size]?=some (.cells #[.pointer (some ⟨b,0,none⟩)] 114):=by rw[<-hA];exact qac W _
 generalize hC:A.alloc (.cells #[.slice none 0 0] 122)=C at *;have a:C.heap.size=W.heap.size+2:=by rw[<-hC];simp[c]
 have g:C.heap[W.heap.size]?=some (.cells #[.pointer (some ⟨b,0,none⟩)] 114):=by rw[<-hC];exact(kae _ _ _ (by omega)).trans f
 have j:C.heap[W.heap.size+1]?=some (.cells #[.slice none 0 0] 122):=by rw[<-hC,<-c];exact qac A _
 have m:qaJ (C.alloc (.map #[] 0)) (W.heap.size+2) []:=⟨.map [],by rw[<-a];exact kcC C prog 9 (unitElem (H:=Unit)),λl=>by simp[Maps.has]⟩
 refine⟨h.below e,But.of_below e,?_,?_,?_,?_,kaf _,⟨none,0,0,[],?_,kaV _ _ _ _,by simp[Value.ownBlock],λi x d n=>by simp at n⟩,by simp;omega,⟨kaY _,kaY _⟩⟩
 ·exact(kae _ _ _ (by simp;omega)).trans ((kae _ _ _ (by simp;omega)).trans ((kae _ _ _ (by omega)).trans g))
 ·refine(kae _ _ _ (by simp;omega)).trans ?_;have:=qac (C.alloc (.map #[] 0)) (.cells #[.map (some (W.heap.size+2))] 310);rw[kad,a]at this;exact this
 ·exact(m.but (b:=W.heap.size) (by omega) (But.of_below bwA)).but (b:=W.heap.size) (by omega) (But.of_below bwA)
 ·have:=qac ((C.alloc (.map #[] 0)).alloc (.cells #[.map (some (W.heap.size+2))] 310)) (.cells #[.pointer (some ⟨b,0,none⟩)] 114);rw[kad,kad,a]at this;exact this
 exact(kae _ _ _ (by simp;omega)).trans ((kae _ _ _ (by simp;omega)).trans ((kae _ _ _ (by omega)).trans j))
theorem qji(k:Nat)(W:World)(b:Nat)(s:Src)(f:Nat->Except (Int×Int) (DataW Unit×Nat))(h:qad W b s)(Y:qhi k b {s with within:=s.within+1} W f)(C:∀p d q,f p=.ok (d,q)->p<q)(U:s.bs.length<=200000000)(u:¬(s.within:Int)=s.depth)(Z:s.within<=100000):Calls prog 194 #[.agg #[.pointer (some ⟨b,0,none⟩)]] W (qnE W b s (λV v m=>(∃a n c,v=.slice a n c)/\qah (k+1) V (λj=>W.heap.size<=j/\j<V.heap.size) (.iface 120 v) (.agg m)) (qdV s.bs s.lim (liJ f) 93 s.pos [])):=by
 have S:=ltA h.row;have O:Below W.heap.size W ((W.alloc (.cells #[.pointer (some ⟨b,0,none⟩)] 114)).alloc (.cells #[.slice none 0 0] 120)):=(bwA).alloc (by simp) _;have o:=qhH ((W.alloc (.cells #[.pointer (some ⟨b,0,none⟩)] 114)).alloc (.cells #[.slice none 0 0] 120)) b (W.heap.size+1) W.heap.size s (liJ f) [] (qoY k W b s) (λV=>But b W V) (qub S) (h.below O) u Z (by simp only[kad];exact qvE k h) (λN p m V R=>qqh k W b s (s.within+1) f h Y C U N p m V R) (quS C);have ab:∀(A:Fn) (first r:Array Value) (w:World),(Instr.makeFunc A first r).run prog w=.ok (.func A first r) w:=λ_ _ _ _=>rfl;have kr:((W.alloc (.cells #[.pointer (some ⟨b,0,none⟩)] 114)).alloc (.cells #[.slice none 0 0] 120)).cell? ⟨W.heap.size,0,none⟩=some (.pointer (some ⟨b,0,none⟩)):=qaa ((kae _ _ _ (by simp)).trans (qac W _)) 0
 cases D:qdV s.bs s.lim (liJ f) 93 s.pos []with
 |error K =>
  obtain⟨J,pl⟩:=K;rw[D]at o;go_enter func194,ntmps194
  go_wp2_with(first
   |(go_at_call 203;refine o.mono ?_;rintro e y hF;obtain⟨hF,P⟩:=(show qan J pl e/\But b W y from hF);obtain rfl:=hF))
  exact⟨rfl,P,rfl⟩
 |ok I =>
  obtain⟨m,q⟩:=I;rw[D]at o;go_enter func194,ntmps194
  go_wp2_with(first
   |(go_at_call 203;refine o.mono ?_;rintro e y hF;obtain⟨rfl,t⟩:=(show e=.returned (.tuple #[])/\qoY k W b s _ s.within q m y from hF);obtain⟨a,ad,c,xs,Q,X,ac,i⟩:=t.own;have kl:=qaa Q 0;have z:=qab X;have G:=qab i;have E:=qab t.but;have F:=qab t.src))
  go_ret;refine⟨E.out,⟨_,rfl,⟨_,_,_,rfl⟩,?_⟩,F.out⟩;unfold qah;refine⟨_,xs,rfl,⟨z.out.1,?_⟩,λx aa d l u=>(G.out x aa d l u).same (λj T=>⟨by omega,T.2.1⟩) (λ_ _=>rfl)⟩;rcases z.out.2 with L|⟨g,r,H,e,hb,B,M⟩
  ·exact .inl L
  exact .inr ⟨g,r,H,e,⟨by omega,(ltA B)⟩,B,M⟩
theorem qk5(k:Nat)(W:World)(b:Nat)(s:Src)(f:Nat->Except (Int×Int) (DataW Unit×Nat))(h:qad W b s)(Y:qhi k b {s with within:=s.within+1} W f)(z:∀p d q,f p=.ok (d,q)->p<q)(U:s.bs.length<=200000000)(P:∀V,But b W V->U8 V)(K:7<b)(S:¬(s.within:Int)=s.depth)(Z:s.within<=100000):Calls prog 195 #[.agg #[.pointer (some ⟨b,0,none⟩)]] W (qnE W b s (λV v i=>(∃a n c,v=.slice a n c)/\qah (k+1) V (λj=>W.heap.size<=j/\j<V.heap.size) (.iface 122 v) (.map i.2)) (qdV s.bs s.lim (enJ s.bs s.lim f) 125 s.pos ([],[]))):=by
 have R:=ltA h.row;have ab:∀V:World,(Instr.makeMap 310 none).run prog V=.ok (.map (some V.heap.size)) (V.alloc (.map #[] 0)):=λV=>by kernel_rfl
 have L:Below W.heap.size W ((((W.alloc (.cells #[.pointer (some ⟨b,0,none⟩)] 114)).alloc (.cells #[.slice none 0 0] 122)).alloc (.map #[] 0)).alloc (.cells #[.map (some (W.heap.size+2))] 310)):=(((bwA).alloc (by simp) _).alloc (by simp;omega) _).alloc (by simp;omega) _;have m:=qja ((((W.alloc (.cells #[.pointer (some ⟨b,0,none⟩)] 114)).alloc (.cells #[.slice none 0 0] 122)).alloc (.map #[] 0)).alloc (.cells #[.map (some (W.heap.size+2))] 310)) b (W.heap.size+1) W.heap.size (W.heap.size+3) s (enJ s.bs s.lim f) ([],[]) (qgo k W b s) (λV=>But b W V) (qsB R) (h.below L) S Z (by simp only[kad];exact qx5 k h) (λN p i V Q=>qt7 k W b s (s.within+1) f h Y z U P K N p i V Q) (quR z);have aa:∀(x:Fn) (first o:Array Value) (w:World),(Instr.makeFunc x first o).run prog w=.ok (.func x first o) w:=λ_ _ _ _=>rfl;have kr:((((W.alloc (.cells #[.pointer (some ⟨b,0,none⟩)] 114)).alloc (.cells #[.slice none 0 0] 122)).alloc (.map #[] 0)).alloc (.cells #[.map (some (W.heap.size+2))] 310)).cell? ⟨W.heap.size,0,none⟩=some (.pointer (some ⟨b,0,none⟩)):=qaa ((kae _ _ _ (by simp;omega)).trans ((kae _ _ _ (by simp;omega)).trans ((kae _ _ _ (by simp)).trans (qac W _)))) 0
 cases A:qdV s.bs s.lim (enJ s.bs s.lim f) 125 s.pos ([],[])with
 |error H =>
  obtain⟨G,pl⟩:=H;rw[A]at m;go_enter func195,ntmps195
  go_wp2_with(first
   |(go_at_call 203;refine m.mono ?_;rintro e t hF;obtain⟨hF,M⟩:=(show qan G pl e/\But b W t from hF);obtain rfl:=hF))
  exact⟨rfl,M,rfl⟩
 |ok F =>
  obtain⟨i,q⟩:=F;rw[A]at m;go_enter func195,ntmps195
  go_wp2_with(first
   |(go_at_call 203;refine m.mono ?_;rintro e t hF;obtain⟨rfl,r⟩:=(show e=.returned (.tuple #[])/\qgo k W b s _ s.within q i t from hF);obtain⟨a,ad,c,xs,O,X,ac,l⟩:=r.own;have kl:=qaa O 0;have u:=qab X;have D:=qab l;have B:=qab r.but;have C:=qab r.src))
  go_ret;refine⟨B.out,⟨_,rfl,⟨_,_,_,rfl⟩,?_⟩,C.out⟩;unfold qah;refine⟨_,xs,rfl,⟨u.out.1,?_⟩,D.out.same (λj T=>⟨by omega,T.2.1⟩) (λ_ _=>rfl)⟩;rcases u.out.2 with I|⟨g,o,E,e,hb,y,J⟩
  ·exact .inl I
  exact .inr ⟨g,o,E,e,⟨by omega,(ltA y)⟩,y,J⟩

end
end Go.Proofs.YtmajcjammmjimaaGreatDoor
