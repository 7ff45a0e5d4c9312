import Derived.Test.YtoegnhgofkhbnaaGreatDoorHq20
set_option maxRecDepth 100000
set_option maxHeartbeats 8000000
set_option linter.all false
namespace Go.Proofs.YtoegnhgofkhbnaaGreatDoor
open Go.Proofs.Tryz
open Go.Value renaming int->A7,slice->A8,pointer->A9,string->Aa,tuple->Ab,agg->Ac,bool->Ad,iface->Ae
open Go.Obj renaming cells->Af
open Go.Ending renaming returned->Ag
open Go.IntKind renaming i64->Ah
open Option renaming some->Aj,none->Ak
open Go renaming World->Al,Value->Am,Calls->An
open Go.Proofs.Tryz renaming prog->Ao
variable{V V' V0 W w5:Al}{N N' k n size:Nat}{v v' x:Am}{xs:List Am}{c:Rc}{F:Nat->Prop}{R R' R1:AP}{sts sts':List ((Nat->Nat)×Int×Int)}{ds:List (DataW Unit)}{d:A3}{es:List (Lit×DataW Unit)}{p:List (A2×Bool)}{A:A4}
section
open Go.RowKit Go.Lib
def PM(c:Rc)(k:Nat)(F:Nat->Prop)(r:Option (DataW Unit)×AP)(M:Nat)(sts:List ((Nat->Nat)×Int×Int))(V:Al)(e:Ending)(V':Al):Prop :=
 ∃(v':Am) (sts':List ((Nat->Nat)×Int×Int)),e=Ag (Ab #[v',Ad r.1.isSome])/\BE c r.2 M sts' V'/\Bp V V'/\Ed sts sts'/\(r.1=Ak->v'=.nilIface)/\∀d',r.1=Aj d'->AJ k V' (λj=>F j\/(V.heap.size<=j/\j<V'.heap.size)) v' d'
def Mn(c:Rc)(k:Nat):Prop :=
 ∀(V:Al) (F:Nat->Prop) (x:Am) (d:A3) (p:List (A2×Bool)) (f:Nat) (R:AP) (N:Nat) (sts:List ((Nat->Nat)×Int×Int)),BE c R N sts V->FF c sts f p->(∀j,F j->j<V.heap.size)->AJ k V F x d->(BD k d).length<=999999999->N+Bx k d<=90000 ->
  An Ao 82 #[A9 (Aj ⟨c.B,0,Ak⟩),x,A7 Ah f] V (PM c k F (B2 c.v k p d R) (N+Bx k d) sts V)
structure IZ(c:Rc)(k:Nat)(W:World)(F:Nat->Prop)(R:AP)(N:Nat)(sts:List ((Nat->Nat)×Int×Int))(v:Value)(ds:List (DataW Unit))(V:World):Prop where
 rw:BE c R N sts V
 kp:Bp W V
 own:∃xs,V.ownsRow W.heap.size 89 1 v ds.length xs/\∀(i:Nat) (x:Value) (d:A3),xs[i]?=some x->ds[i]?=some d->AJ k V (λj=>(F j\/(W.heap.size<=j/\j<V.heap.size))/\some j≠v.ownBlock) x d
theorem Y1{W':Al}{base:Nat}{t:TypeId}(h:W.ownsRow base t size v n xs)(o:Bp W W')(f:t≠123)(i:t≠164)(j:t≠172):W'.ownsRow base t size v n xs:=by
 obtain⟨b,a⟩:=h;refine⟨b,?_⟩;rcases a with a|⟨g,c,d,e,l,m,k⟩
 ·exact .inl a
 exact .inr ⟨g,c,d,e,l,o.row _ _ _ _ m f i j,k⟩
theorem IZ.step(h:IZ c k W F R N sts v ds V)(l:BE c R' N' sts' V')(a:Bp V V'):IZ c k W F R' N' sts' v ds V':=by
 obtain⟨n,e,f⟩:=h.own;refine⟨l,h.kp.trans a,n,Y1 e a (by decide) (by decide) (by decide),λi x d m g=>(f i x d m g).kept (λj b=>⟨b.1.imp id (λh=>⟨h.1,Br h.2 a.size⟩),b.2⟩) a⟩
theorem mq(b:BE c R N sts V)(a:Bp W V):IZ c k W F R N sts (A8 Ak 0 0) [] V :=
 ⟨b,a,[],FK _ _ _ _,λi x d e=>by simp at e⟩
theorem IZ.push(h:IZ c k W F R N sts v ds V)(J:c.W0.heap.size<=W.heap.size)(hG:c.G.heap.size<=W.heap.size)(hF:∀j,F j->j<W.heap.size)(z:V.ownsRow W.heap.size 89 1 v ds.length xs)(T:∀(i:Nat) (x:Am) (d:A3),xs[i]?=Aj x->ds[i]?=Aj d->AJ k V (λj=>(F j\/(W.heap.size<=j/\j<V.heap.size))/\Aj j≠v.ownBlock) x d)(K:AJ k V (λj=>F j\/(V0.heap.size<=j/\j<V.heap.size)) x d)(S:∀g,v.ownBlock=Aj g->g<V0.heap.size)(ac:W.heap.size<=V0.heap.size)(O:w5.ownsRow W.heap.size 89 1 v' (ds.length+1) (xs++[x]))(l:(V.alloc (Af #[x] 89)).grownBy w5 v.ownBlock)(q:v'.ownBlock=v.ownBlock\/v'.ownBlock=Aj (V.alloc (Af #[x] 89)).heap.size):IZ c k W F R N sts v' (ds++[d]) w5:=by
 have H:=h.kp.size;have ae:V.heap.size+1<=w5.heap.size:=by have:=l.size;simpa using this
 have key:∀g,v.ownBlock=Aj g->W.heap.size<=g:=λg l=>E7 z l;have u:∀j,j<V.heap.size->Aj j≠v.ownBlock->w5.heap[j]?=V.heap[j]?:=λj f w=>(l.block j (by simp;omega) w).trans (AL _ _ _ f);have M:∀j,j<W.heap.size->w5.heap[j]?=V.heap[j]?:=λj f=>u j (by omega) (λe=>by have:=key j e.symm;omega);have L:Bp W w5:=⟨by omega,λj cs t I a b c d=>(M j (At a)).trans (h.kp.row j cs t I a b c d)⟩
 have Q:BE c R N sts w5:=by
  have m:=h.rw.step (LR (Af #[x] 89));have P:=z.alloc (Af #[x] 89);rcases P.2 with⟨s,_⟩|⟨g,aa,ab,s,ad,n,_⟩
  ·refine m.step ⟨l.os,l.tape,l.output,l.size,λj f=>l.block j f (by rw[s];simp[Value.ownBlock])⟩
  have A:v.ownBlock=Aj g:=by rw[s];rfl
  rw[A]at l;obtain⟨sa,sc,nf,mn,mf,X,Y,Z⟩:=m.here;refine⟨(l.block c.B (At m.box) (λe=>?_)).trans m.box,⟨sa,sc,nf,mn,mf,X.off (B:=g) ?_ l n (by decide) (by decide) (by decide),Y,Z⟩,⟨AW m.fr.1 l.size,λj a b c d e=>(l.block j (Br a m.fr.1) (λC=>by have:=key g A;injection C with C;omega)).trans (m.fr.2 j a b c d e)⟩,m.few⟩
  ·injection e with e;rw[<-e,m.box]at n;injection n with n;injection n with _ n _;exact absurd n (by decide)
  exact AW J (key g A)
 refine⟨Q,L,xs++[x],by rw[AC];exact O,λi y c r o=>?_⟩;have D:∀j,j<V.heap.size->Aj j≠v.ownBlock->Aj j≠v'.ownBlock:=λj f w=>by
  rcases q with q|q
  ·rw[q];exact w
  rw[q];intro e;injection e with e;simp at e;omega
 have U:xs.length=ds.length:=by have:=z.1;omega
 by_cases hi:i<ds.length
 ·rw[E3 (by omega)]at r o;have p:∀j,(F j\/(W.heap.size<=j/\j<V.heap.size))->j<V.heap.size:=λj f=>f.elim (λh=>Br (hF j h) H) (λh=>h.2);exact(T i y c r o).same (λj f=>⟨f.1.imp id (λh=>⟨h.1,by omega⟩),D j (p j f.1) f.2⟩) (λj f=>u j (p j f.1) f.2)
 have e:i=ds.length:=by
  have:=B9 o;rw[AC]at this;simp at this;omega
 subst e;rw[E2 (by omega)]at o;rw[E2 (by omega),U]at r;simp at r o;subst r;subst o;have E:∀j,(F j\/(V0.heap.size<=j/\j<V.heap.size))->Aj j≠v.ownBlock:=λj f e=>by
  have m:=S j e.symm;have h2:=key j e.symm;rcases f with f|f
  ·have:=hF j f;omega
  omega
 have p:∀j,(F j\/(V0.heap.size<=j/\j<V.heap.size))->j<V.heap.size:=λj f=>f.elim (λh=>Br (hF j h) H) (λh=>h.2);exact K.same (λj f=>⟨f.imp id (λh=>⟨by omega,by omega⟩),D j (p j f) (E j f)⟩) (λj f=>u j (p j f) (E j f))
theorem IZ.row(h:IZ c k W F R N sts v ds V):AJ (k+1) V (λj=>F j\/(W.heap.size<=j/\j<V.heap.size)) (Ae 218 v) (.agg ds):=by
 obtain⟨t,a,m⟩:=h.own;unfold AJ;refine⟨v,t,rfl,⟨a.1,?_⟩,λi x d s q=>(m i x d s q).same (λj r=>r.1) (λ_ _=>rfl)⟩;rcases a.2 with n|⟨g,f,l,e,p,b,o⟩
 ·exact .inl n
 exact .inr ⟨g,f,l,e,.inr ⟨p,(At b)⟩,b,o⟩
def PN(c:Rc)(k:Nat)(F:Nat->Prop)(t:TypeId)(r:DataW Unit×AP)(M:Nat)(sts:List ((Nat->Nat)×Int×Int))(V:Al)(e:Ending)(V':Al):Prop :=
 ∃(a:A5) (n m:Nat) (sts':List ((Nat->Nat)×Int×Int)),e=Ag (A8 a n m)/\BE c r.2 M sts' V'/\Bp V V'/\Ed sts sts'/\AJ k V' (λj=>F j\/(V.heap.size<=j/\j<V'.heap.size)) (Ae t (A8 a n m)) r.1
theorem PO(h:BE c R N sts V)(ok:EX c):V.cell? ⟨c.B,39,Ak⟩=Aj (A9 (Aj ⟨c.A,0,Ak⟩)):=by
 refine(Ar h.box 39).trans ?_;unfold CL;rw[Ls (by rw[ok.ord.size];omega),ok.ord.size];rfl
theorem mr(f:A3->AP->Option (DataW Unit)×AP)(l:List (DataW Unit))(d:A3)(R:AP)(h:Gz f l R=(ds,R1)):Gz f (l++[d]) R=(ds++(f d R1).1.toList,(f d R1).2):=by
 unfold Gz at h ⊢;rw[OB,h];rfl
theorem Y3{α:Type}(g:α->Nat):∀l:List α,l.length<=(l.map λd=>1+g d).sum
 |[]=>Cy _
 |a::l=>by
  have:=Y3 g l;simp only[CT,Hk,Bq];omega
theorem Y4{α:Type}(g:α->A2){l:List α}{i:Nat}{d:α}(h:l[i]?=Aj d):(g d).length<=(l.flatMap g).length:=by
 obtain⟨b,rfl⟩:=J8.1 h;have a:l.flatMap g=(l.take i).flatMap g++(g l[i]++(l.drop (i+1)).flatMap g):=by
  conv=>lhs;rw[<-Jb i l,JW,F5 b,LA]
 rw[a];simp only[AC];omega
theorem ms(c:Rc)(ok:EX c)(k:Nat)(ih:Mn c k)(W:Al)(F:Nat->Prop)(u:Am)(ds:List (DataW Unit))(xs:List Am)(p:List (A2×Bool))(f:Nat)(R:AP)(N:Nat)(T:List ((Nat->Nat)×Int×Int))(h:BE c R N T W)(hf:FF c T f p)(hF:∀j,F j->j<W.heap.size)(L:C7 W 89 1 F u ds.length xs)(S:∀(i:Nat) (x:Am) (d:A3),xs[i]?=Aj x->ds[i]?=Aj d->AJ k W F x d)(hc:(ds.flatMap (BD k)).length<=999999999)(hN:N+1+(ds.map λd=>1+Bx k d).sum<=90000):An Ao 132 #[A9 (Aj ⟨c.B,0,Ak⟩),u,A7 Ah f] W (PN c (k+1) F 218 (.agg (Gz (B2 c.v k (([],true)::p)) ds R).1,(Gz (B2 c.v k (([],true)::p)) ds R).2) (N+1+(ds.map λd=>1+Bx k d).sum) T W):=by
 obtain⟨i0,hi,be,bf,bg⟩:=BH Tryz.infoThing;obtain⟨ah,ae,rfl⟩:∃ah ae,u=A8 ah ds.length ae:=by
  rcases L.2 with⟨e,e2⟩|⟨g,ae,a4,e,_⟩
  ·exact⟨Ak,0,by rw[e,e2]⟩
  exact⟨_,_,e⟩
 obtain⟨rr,an⟩:∃rr,Hid (Gz (B2 c.v k (([],true)::p)) ds R=rr):=⟨_,rfl⟩
 rw[an.out];have bk:=Ap ok;have aw:=Ap ih;have HW:=Ap h.below.size;have HG:=Ap h.fr.1;have HU:=Ap L;have HX:=Ap S;have HC:=Ap hc;have HF:=Ap hF;obtain⟨I,Z⟩:∃I,Hid (N+1+(ds.map λd=>1+Bx k d).sum=I):=⟨_,rfl⟩
 have bp:ds.length<=90000:=by have:=Y3 (Bx k) ds;omega
 have HN:=Ap (Z.out▸hN);rw[Z.out];have bl:=PO h ok;have cN:=h.next ok (by omega) hf [] true (by simp[maxLen])
 go_enter func132,ntmps132
 go_wp2_with(first
  |(go_at_call 160;refine cN.mono ?_;rintro e w2 ⟨P,bi,rfl,a8,a6,a7,a5⟩;have a0:=Ap a8;have ax:=Ap a6;have az:=Ap a7;have av:=Ap a5))
 go_loopg[7,23] ds.length (λg y bj wr=>∃(i:Nat) (a:A5) (l E:Nat) (A:AP) (w:Nat) (s:List ((Nat->Nat)×Int×Int)) (m:List (DataW Unit)),y=A8 a l E/\bj=A7 Ah i/\Hid (i+g=ds.length)/\Hid (FF c s P (([],true)::p))/\Hid (Ed T s)/\Hid (IZ c k W F A w s (A8 a l E) m wr)/\Hid (Gz (B2 c.v k (([],true)::p)) (ds.take i) R=(m,A))/\Hid (w+((ds.drop i).map λd=>1+Bx k d).sum<=I)/\Hid (m.length<=i))
 case atStart=>exact⟨0,Ak,0,0,R,N+1,bi,[],rfl,rfl,by show _=_;omega,av,az,mq a0 ax,rfl,LM Z,AB _⟩
 case round =>
  obtain⟨i,a,l,E,A,w,s,m,rfl,rfl,K,aa,o,b,am,al,aj⟩:=hrel
  cases gk with
  |zero =>
   have ba:¬(i:Int)<ds.length:=by have:=K.out;omega
   have HT:Hid (ds.take i=ds):=by show _=_;exact FJ (by have:=K.out;omega)
   go_wp2;go_ret;have n:=am.out;rw[HT.out,an.out]at n;rw[n];exact⟨a,l,E,s,rfl,b.rw.more (by have:=al.out;omega),b.kp,o,b.row⟩
  |succ g =>
   have af:i<ds.length:=by have:=K.out;omega
   have ba:(i:Int)<ds.length:=by omega
   have z:=HU.kept (V':=wr) (G:=F) (λ_ h=>h) b.kp (by decide) (by decide) (by decide);obtain⟨q0,rfl⟩:∃q0,ah=Aj ⟨q0,0,Ak⟩:=by
    rcases z.2 with⟨_,e⟩|⟨g,bm,a4,e,_⟩
    ·omega
    injection e with e1 e2 e3;exact⟨g,e1⟩
   have br:xs.length=ds.length:=by have:=z.1;omega
   obtain⟨x,S⟩:∃x,xs[i]?=Aj x:=⟨xs[i],AY (by omega)⟩
   obtain⟨d,Q⟩:∃d,ds[i]?=Aj d:=⟨ds[i],AY af⟩
   have ap:=(HX i x d S Q).kept (V':=wr) (G:=F) (λ_ h=>h) b.kp;obtain⟨U,V,rfl⟩:=ap.iface;have hc:wr.cell? ⟨q0,i,Ak⟩=Aj (Ae U V):=by
    have:=z.cell i _ S;have e:(⟨q0,0,Ak⟩:Addr).add i=⟨q0,i,Ak⟩:=by by_cases h:i=0<;>simp[Addr.add,h]
    rwa[e]at this
   have bq:w+(1+Bx k d)+((ds.drop (i+1)).map λd=>1+Bx k d).sum<=I:=by
    have n:=al.out;have J:ds[i]=d:=by have:=AY af;rw[Q]at this;exact(CX this).symm
    rw[F5 af,CT,Hk,J]at n;omega
   have M:=aw.out wr F (Ae U V) d (([],true)::p) P A w s b.rw aa (λj hj=>Br (HF j hj) b.kp.size) ap (by have:=HC.out;have:=Y4 (BD k) Q;omega) (by have:=HN.out;omega);have ag:Gz (B2 c.v k (([],true)::p)) (ds.take (i+1)) R=(m++(B2 c.v k (([],true)::p) d A).1.toList,(B2 c.v k (([],true)::p) d A).2):=by
    rw[Hi,Q];exact mr _ _ _ _ am
   have Y:Hid ((w+Bx k d)+((ds.drop (i+1)).map λd=>1+Bx k d).sum<=I):=by show _<=_;omega
   obtain⟨C,ak⟩:∃C,Hid (w+Bx k d=C):=⟨_,rfl⟩
   rw[ak.out]at M;rw[ak.out]at Y;have bo:m.length<=90000:=by have:=aj.out;omega
   have ao:Hid (m.length+1<=i+1):=by show _<=_;have:=aj.out;omega
   have a1:=Ap b.kp.size;have ay:Hid (∀g,(Value.slice a l E).ownBlock=Aj g->g<wr.heap.size):=by obtain⟨xs,n,_⟩:=b.own;exact Pf n
   rcases hq:B2 c.v k (([],true)::p) d A with⟨bh,D⟩
   rw[hq]at M ag
   cases bh with
   |none =>
    have ab:Hid (Gz (B2 c.v k (([],true)::p)) (ds.take (i+1)) R=(m,D)):=by show _=_;rw[ag];simp
    have ad:An Ao 82 #[A9 (Aj ⟨c.B,0,Ak⟩),Ae U V,A7 Ah P] wr λe V'=>∃r,e=Ag (Ab #[.nilIface,Ad false])/\Hid (BE c D C r V')/\Hid (Bp wr V')/\Hid (Ed s r):=M.mono (by
     rintro e V' ⟨v',r,rfl,n,J,h3,h4,_⟩;obtain rfl:=h4 rfl;exact⟨r,rfl,n,J,h3⟩)
    go_wp2_with(first
     |(go_at_call 82;refine ad.mono ?_;rintro e w4 ⟨ai,rfl,q,X,H⟩))
    go_roundg g
    case measure=>omega
    case rel=>exact⟨i+1,a,l,E,D,C,ai,m,rfl,by go_num,by show _=_;have:=K.out;omega,aa.pre H,o.trans H,b.step q X,ab,Y,by show _<=_;have:=ao.out;omega⟩
   |some O =>
    have ab:Hid (Gz (B2 c.v k (([],true)::p)) (ds.take (i+1)) R=(m++[O],D)):=by show _=_;rw[ag];rfl
    have ad:An Ao 82 #[A9 (Aj ⟨c.B,0,Ak⟩),Ae U V,A7 Ah P] wr λe V'=>∃t y r,e=Ag (Ab #[Ae t y,Ad true])/\Hid (BE c D C r V')/\Hid (Bp wr V')/\Hid (Ed s r)/\Hid (AJ k V' (λj=>F j\/(wr.heap.size<=j/\j<V'.heap.size)) (Ae t y) O):=M.mono (by
     rintro e V' ⟨v',r,rfl,n,J,h3,_,h4⟩;have h5:=h4 O rfl;obtain⟨t,y,rfl⟩:=h5.iface;exact⟨t,y,r,rfl,n,J,h3,h5⟩)
    go_wp2_with(first
     |(go_at_call 82;refine ad.mono ?_;rintro e w4 ⟨t,y,ai,rfl,q,X,H,au⟩;have ac:=Ap (b.step q X);obtain⟨bs,bb,bd⟩:=ac.own;have HO:=Ap bb;have a3:=Ap bd;have ar:=Ap ac.kp.size)
     |(at_builtin;refine M9 _ rfl _ _ 218 rfl W.heap.size 89 i0 .nilIface 1 16 underlying218 hi be bf bg rfl (by decide) _ _ _ rfl (HO.alloc _) ⟨w4.heap.size,0,Ak⟩ 1 1 [Ae t y] rfl rfl (Bf _ _ _) (λu L=>by simp at L;subst L;rfl) (by decide) (by unfold maxLen;omega) (by omega) (by simp;have:=ar.out;omega) ?_;intro v' w5 aq a9 bc;have a2:=Ap (ac.push HW HG HF HO a3 au ay a1 aq a9 bc);obtain⟨g5,bn,rfl⟩:=ownsRow_succ aq))
    go_roundg g
    case measure=>omega
    case rel=>exact⟨i+1,_,_,_,D,C,ai,m++[O],rfl,by go_num,by show _=_;have:=K.out;omega,aa.pre H,o.trans H,a2,ab,Y,by show _<=_;rw[AC];exact ao⟩
theorem Hs.kept{G:Nat->Prop}(h:Hs k V F xs es)(f:∀k,F k->G k)(j:Bp V V'):Hs k V' G xs es:=λi key d g=>by
 obtain⟨l,x,a,b,c,e⟩:=h i key d g;exact⟨l,x,a,b,c,e.kept f j⟩
structure Im(c:Rc)(k:Nat)(W:World)(F:Nat->Prop)(R:AP)(N:Nat)(sts:List ((Nat->Nat)×Int×Int))(v:Value)(es:List (Lit×DataW Unit))(V:World):Prop where
 rw:BE c R N sts V
 kp:Bp W V
 own:∃xs,V.ownsRow W.heap.size 222 2 v es.length xs/\Hs k V (λj=>(F j\/(W.heap.size<=j/\j<V.heap.size))/\some j≠v.ownBlock) xs es
theorem Im.step(h:Im c k W F R N sts v es V)(f:BE c R' N' sts' V')(a:Bp V V'):Im c k W F R' N' sts' v es V':=by
 obtain⟨g,d,e⟩:=h.own;exact⟨f,h.kp.trans a,g,Y1 d a (by decide) (by decide) (by decide),e.kept (λj b=>⟨b.1.imp id (λh=>⟨h.1,Br h.2 a.size⟩),b.2⟩) a⟩
theorem mt(b:BE c R N sts V)(a:Bp W V):Im c k W F R N sts (A8 Ak 0 0) [] V :=
 ⟨b,a,[],FK _ _ _ _,λi x d e=>by simp at e⟩
theorem Im.push{l:A2}(h:Im c k W F R N sts v es V)(M:c.W0.heap.size<=W.heap.size)(hG:c.G.heap.size<=W.heap.size)(hF:∀j,F j->j<W.heap.size)(A:V.ownsRow W.heap.size 222 2 v es.length xs)(Z:Hs k V (λj=>(F j\/(W.heap.size<=j/\j<V.heap.size))/\Aj j≠v.ownBlock) xs es)(O:AJ k V (λj=>F j\/(V0.heap.size<=j/\j<V.heap.size)) x d)(Y:∀g,v.ownBlock=Aj g->g<V0.heap.size)(ac:W.heap.size<=V0.heap.size)(T:w5.ownsRow W.heap.size 222 2 v' (es.length+1) (xs++[Aa ⟨l.toArray⟩,x]))(m:(V.alloc (Af #[Aa ⟨l.toArray⟩,x] 222)).grownBy w5 v.ownBlock)(r:v'.ownBlock=v.ownBlock\/v'.ownBlock=Aj (V.alloc (Af #[Aa ⟨l.toArray⟩,x] 222)).heap.size):Im c k W F R N sts v' (es++[(.string l,d)]) w5:=by
 have H:=h.kp.size;have ae:V.heap.size+1<=w5.heap.size:=by have:=m.size;simpa using this
 have key:∀g,v.ownBlock=Aj g->W.heap.size<=g:=λg m=>E7 A m;have w:∀j,j<V.heap.size->Aj j≠v.ownBlock->w5.heap[j]?=V.heap[j]?:=λj f z=>(m.block j (by simp;omega) z).trans (AL _ _ _ f);have S:∀j,j<W.heap.size->w5.heap[j]?=V.heap[j]?:=λj f=>w j (by omega) (λe=>by have:=key j e.symm;omega);have Q:Bp W w5:=⟨by omega,λj cs t L a b c d=>(S j (At a)).trans (h.kp.row j cs t L a b c d)⟩
 have X:BE c R N sts w5:=by
  have n:=h.rw.step (LR (Af #[Aa ⟨l.toArray⟩,x] 222));have U:=A.alloc (Af #[Aa ⟨l.toArray⟩,x] 222);rcases U.2 with⟨u,_⟩|⟨g,aa,ab,u,ad,o,_⟩
  ·refine n.step ⟨m.os,m.tape,m.output,m.size,λj f=>m.block j f (by rw[u];simp[Value.ownBlock])⟩
  have C:v.ownBlock=Aj g:=by rw[u];rfl
  rw[C]at m;obtain⟨sa,sc,nf,mn,mf,k1,k2,k3⟩:=n.here;refine⟨(m.block c.B (At n.box) (λe=>?_)).trans n.box,⟨sa,sc,nf,mn,mf,k1.off (B:=g) ?_ m o (by decide) (by decide) (by decide),k2,k3⟩,⟨AW n.fr.1 m.size,λj a b c d e=>(m.block j (Br a n.fr.1) (λs=>by have:=key g C;injection s with s;omega)).trans (n.fr.2 j a b c d e)⟩,n.few⟩
  ·injection e with e;rw[<-e,n.box]at o;injection o with o;injection o with _ o _;exact absurd o (by decide)
  exact AW M (key g C)
 refine⟨X,Q,_,by rw[AC];exact T,λi y c p=>?_⟩;have D:∀j,j<V.heap.size->Aj j≠v.ownBlock->Aj j≠v'.ownBlock:=λj f z=>by
  rcases r with r|r
  ·rw[r];exact z
  rw[r];intro e;injection e with e;simp at e;omega
 have af:=A.1;by_cases P:i<es.length
 ·rw[E3 P]at p;obtain⟨l',x',I,s,J,K⟩:=Z i y c p;refine⟨l',x',I,by rw[E3 (by omega)];exact s,by rw[E3 (by omega)];exact J,?_⟩;have q:∀j,(F j\/(W.heap.size<=j/\j<V.heap.size))->j<V.heap.size:=λj f=>f.elim (λh=>Br (hF j h) H) (λh=>h.2);exact K.same (λj f=>⟨f.1.imp id (λh=>⟨h.1,by omega⟩),D j (q j f.1) f.2⟩) (λj f=>w j (q j f.1) f.2)
 have e:i=es.length:=by
  have:=B9 p;rw[AC]at this;simp at this;omega
 subst e;rw[E2 (by omega)]at p;simp at p;obtain⟨rfl,rfl⟩:=p;have E:∀j,(F j\/(V0.heap.size<=j/\j<V.heap.size))->Aj j≠v.ownBlock:=λj f e=>by
  have n:=Y j e.symm;have h2:=key j e.symm;rcases f with f|f
  ·have:=hF j f;omega
  omega
 have q:∀j,(F j\/(V0.heap.size<=j/\j<V.heap.size))->j<V.heap.size:=λj f=>f.elim (λh=>Br (hF j h) H) (λh=>h.2);refine⟨l,x,rfl,?_,?_,O.same (λj f=>⟨f.imp id (λh=>⟨by omega,by omega⟩),D j (q j f) (E j f)⟩) (λj f=>w j (q j f) (E j f))⟩
 ·rw[E2 (by omega),show 2*es.length-xs.length=0 by omega];rfl
 rw[E2 (by omega),show 2*es.length+1-xs.length=1 by omega];rfl
theorem Im.row(h:Im c k W F R N sts v es V):AJ (k+1) V (λj=>F j\/(W.heap.size<=j/\j<V.heap.size)) (Ae 220 v) (.map es):=by
 obtain⟨p,a,i⟩:=h.own;unfold AJ;refine⟨v,p,rfl,⟨a.1,?_⟩,i.same (λj o=>o.1) (λ_ _=>rfl)⟩;rcases a.2 with l|⟨g,d,f,e,n,b,m⟩
 ·exact .inl l
 exact .inr ⟨g,d,f,e,.inr ⟨n,(At b)⟩,b,m⟩
theorem mu(f:A2->A3->AP->Option (DataW Unit)×AP)(l:List (Lit×DataW Unit))(e:Lit×DataW Unit)(R:AP)(h:Fm f l R=(es,R1)):Fm f (l++[e]) R=(es++((f (B1 e.1) e.2 R1).1.map λd=>(e.1,d)).toList,(f (B1 e.1) e.2 R1).2):=by
 unfold Fm at h ⊢;rw[OB,h];rfl
theorem Y5{α:Type}(g:α->Nat):∀l:List α,l.length<=(l.map λd=>2+g d).sum
 |[]=>Cy _
 |a::l=>by
  have:=Y5 g l;simp only[CT,Hk,Bq];omega
theorem mw(c:Rc)(ok:EX c)(k:Nat)(ih:Mn c k)(W:Al)(F:Nat->Prop)(u:Am)(b:List (Lit×DataW Unit))(xs:List Am)(p:List (A2×Bool))(f:Nat)(R:AP)(N:Nat)(o:List ((Nat->Nat)×Int×Int))(h:BE c R N o W)(hf:FF c o f p)(hF:∀j,F j->j<W.heap.size)(z:C7 W 222 2 F u b.length xs)(hx:Hs k W F xs b)(hc:(b.flatMap λe=>(AO 3 (B1 e.1).length++B1 e.1)++BD k e.2).length<=999999999)(hN:N+(b.map λe=>2+Bx k e.2).sum<=90000):An Ao 133 #[A9 (Aj ⟨c.B,0,Ak⟩),u,A7 Ah f] W (PN c (k+1) F 220 (.map (Fm (λkey=>B2 c.v k ((key,false)::p)) b R).1,(Fm (λkey=>B2 c.v k ((key,false)::p)) b R).2) (N+(b.map λe=>2+Bx k e.2).sum) o W):=by
 obtain⟨i0,hi,b4,b5,b6⟩:=BH Tryz.infoEntry;obtain⟨ar,ao,rfl⟩:∃ar ao,u=A8 ar b.length ao:=by
  rcases z.2 with⟨e,e2⟩|⟨g,ao,bl,e,_⟩
  ·exact⟨Ak,0,by rw[e,e2]⟩
  exact⟨_,_,e⟩
 obtain⟨rr,az⟩:∃rr,Hid (Fm (λkey=>B2 c.v k ((key,false)::p)) b R=rr):=⟨_,rfl⟩
 rw[az.out];have ah:=Ap ok;have bd:=Ap ih;have HW:=Ap h.below.size;have HG:=Ap h.fr.1;have HU:=Ap z;have HX:=Ap hx;have HC:=Ap hc;have HF:=Ap hF;obtain⟨Y,ag⟩:∃Y,Hid (N+(b.map λe=>2+Bx k e.2).sum=Y):=⟨_,rfl⟩
 have cg:b.length<=90000:=by have:=Y5 (λe:Lit×DataW Unit=>Bx k e.2) b;omega
 have HN:=Ap (ag.out▸hN);rw[ag.out];have bg:=Ap h;have bb:=Ap hf;go_enter func133,ntmps133
 go_wp2_with fail
 go_loopg[7,15] b.length (λg y b7 wr=>∃(i:Nat) (a:A5) (l O:Nat) (H:AP) (D:Nat) (q:List ((Nat->Nat)×Int×Int)) (r:List (Lit×DataW Unit)),y=A8 a l O/\b7=A7 Ah i/\Hid (i+g=b.length)/\Hid (FF c q f p)/\Hid (Ed o q)/\Hid (Im c k W F H D q (A8 a l O) r wr)/\Hid (Fm (λkey=>B2 c.v k ((key,false)::p)) (b.take i) R=(r,H))/\Hid (D+((b.drop i).map λe=>2+Bx k e.2).sum<=Y)/\Hid (r.length<=i))
 case atStart=>exact⟨0,Ak,0,0,R,N,o,[],rfl,rfl,by show _=_;omega,bb,Ed.refl _,mt bg (Bp.refl _),rfl,LM ag,AB _⟩
 case round =>
  obtain⟨i,a,l,O,H,D,q,r,rfl,rfl,K,ak,ai,L,ay,ax,av⟩:=hrel
  cases gk with
  |zero =>
   have bw:¬(i:Int)<b.length:=by have:=K.out;omega
   have HT:Hid (b.take i=b):=by show _=_;exact FJ (by have:=K.out;omega)
   go_wp2;go_ret;have n:=ay.out;rw[HT.out,az.out]at n;rw[n];exact⟨a,l,O,q,rfl,L.rw.more (by have:=ax.out;omega),L.kp,ai,L.row⟩
  |succ g =>
   have ap:i<b.length:=by have:=K.out;omega
   have bw:(i:Int)<b.length:=by omega
   have HR:=HU.kept (V':=wr) (G:=F) (λ_ h=>h) L.kp (by decide) (by decide) (by decide);obtain⟨q0,rfl⟩:∃q0,ar=Aj ⟨q0,0,Ak⟩:=by
    rcases HR.2 with⟨_,e⟩|⟨g,b9,bl,e,_⟩
    ·omega
    injection e with e1 e2 e3;exact⟨g,e1⟩
   obtain⟨⟨key,d⟩,hd⟩:∃d,b[i]?=Aj d:=⟨b[i],AY ap⟩
   obtain⟨m,ci,rfl,b1,b2,a4⟩:=HX.out i key d hd;have br:=a4.kept (V':=wr) (G:=F) (λ_ h=>h) L.kp;obtain⟨w,C,rfl⟩:=br.iface;have cb:wr.cell? ⟨q0,i*2,Ak⟩=Aj (Aa ⟨m.toArray⟩):=by
    have:=HR.cell (2*i) _ b1;have e:(⟨q0,0,Ak⟩:Addr).add (2*i)=⟨q0,i*2,Ak⟩:=by by_cases h:2*i=0<;>simp only[Addr.add,h,Df,Gk i 2,K3,LP]
    rwa[e]at this
   have cd:wr.cell? ⟨q0,i*2+1,Ak⟩=Aj (Ae w C):=by
    have:=HR.cell (2*i+1) _ b2;have e:(⟨q0,0,Ak⟩:Addr).add (2*i+1)=⟨q0,i*2+1,Ak⟩:=by simp[Addr.add,Gk]
    rwa[e]at this
   have ch:D+(2+Bx k d)+((b.drop (i+1)).map λe=>2+Bx k e.2).sum<=Y:=by
    have n:=ax.out;have P:b[i]=(Lit.string m,d):=by have:=AY ap;rw[hd]at this;exact(CX this).symm
    rw[F5 ap,CT,Hk,P]at n;simp only at n;omega
   have bt:(BD k d).length<=999999999/\m.length<=999999999:=by
    have n:=HC.out;have P:((AO 3 m.length++m)++BD k d).length<=_:=Y4 (λe:Lit×DataW Unit=>(AO 3 (B1 e.1).length++B1 e.1)++BD k e.2) hd;rw[AC,AC]at P;omega
   have au:Hid (A1 wr (wr.alloc (Af #[Aa ⟨m.toArray⟩,Ae w C] 222))):=AH;have an:Hid ((wr.alloc (Af #[Aa ⟨m.toArray⟩,Ae w C] 222)).heap[wr.heap.size]?=Aj (Af #[Aa ⟨m.toArray⟩,Ae w C] 222)):=Ay _ _;have Q:=Ap (L.step (L.rw.step au) (Bp.of_below au));have Q:=Ap (Q.step (Q.rw.step (AT _ _).drew) (Bp.of_below (AT _ _).drew));have an:Hid ((World.drew (wr.alloc (Af #[Aa ⟨m.toArray⟩,Ae w C] 222))).heap[wr.heap.size]?=Aj (Af #[Aa ⟨m.toArray⟩,Ae w C] 222)):=Ay _ _;have E:(λZ:Al=>Z.cell? ⟨c.B,39,Ak⟩=Aj (A9 (Aj ⟨c.A,0,Ak⟩))/\Z.cell? ⟨wr.heap.size,0,Ak⟩=Aj (Aa ⟨m.toArray⟩)) { (wr.alloc (Af #[Aa ⟨m.toArray⟩,Ae w C] 222))with drawn:=(wr.alloc (Af #[Aa ⟨m.toArray⟩,Ae w C] 222)).drawn+1}:=⟨PO Q.rw ah,Ar an 0⟩
   have cN:=Q.rw.next ah (by have:=HN.out;omega) ak m false (by unfold maxLen;omega)
   have bs:=Ap a4;have a8:=Ap bt.1;have aq:Fm (λkey=>B2 c.v k ((key,false)::p)) (b.take (i+1)) R=(r++((B2 c.v k ((m,false)::p) d H).1.map λd=>(Lit.string m,d)).toList,(B2 c.v k ((m,false)::p) d H).2):=by
    rw[Hi,hd];exact mu _ _ _ _ ay
   have af:Hid ((D+1+Bx k d)+((b.drop (i+1)).map λe=>2+Bx k e.2).sum<=Y):=by show _<=_;omega
   have be:Hid (D+1+Bx k d<=90000):=by show _<=_;have:=HN.out;omega
   have cf:r.length<=90000:=by have:=av.out;omega
   have a0:Hid (r.length+1<=i+1):=by show _<=_;have:=av.out;omega
   rcases hq:B2 c.v k ((m,false)::p) d H with⟨a6,M⟩
   rw[hq]at aq;have aw:Hid (∀x I J,Im c k W F H (D+1) J (A8 a l O) r x->FF c J I ((m,false)::p)->An Ao 82 #[A9 (Aj ⟨c.B,0,Ak⟩),Ae w C,A7 Ah (I:Nat)] x (PM c k F (a6,M) (D+1+Bx k d) J x)):=λx I J n P=>hq▸bd.out x F (Ae w C) d ((m,false)::p) I H (D+1) J n.rw P (λj hj=>Br (HF j hj) n.kp.size) (bs.out.kept (λ_ h=>h) n.kp) a8 be;obtain⟨T,ba⟩:∃T,Hid (D+1+Bx k d=T):=⟨_,rfl⟩
   rw[ba.out]at aw af
   go_wp2_with fail
   refine Dr (S:=λZ=>Z.cell? ⟨c.B,39,Ak⟩=Aj (A9 (Aj ⟨c.A,0,Ak⟩))/\Z.cell? ⟨wr.heap.size,0,Ak⟩=Aj (Aa ⟨m.toArray⟩)) (by kernel_rfl) ?_;refine B6 0 19 (A9 (Aj ⟨c.B,0,Ak⟩)) rfl (by kernel_rfl) (λ_ _ _ h=>h) (λZ s=>by kernel_rfl) E ?_;refine B6 1 20 (A9 (Aj ⟨c.B,0,Ak⟩)) rfl (by kernel_rfl) (λ_ _ _ h=>h) (λZ s=>by kernel_rfl) E ?_;refine B6 2 21 (A9 (Aj ⟨c.B,0,Ak⟩)) rfl (by kernel_rfl) (λ_ _ _ h=>h) (λZ s=>by kernel_rfl) E ?_;refine B6 3 22 (A9 (Aj ⟨c.B,39,Ak⟩)) rfl (by kernel_rfl) (λ_ _ _ h=>h) (λZ s=>by kernel_rfl) E ?_;refine B6 4 23 (A9 (Aj ⟨c.A,0,Ak⟩)) rfl (by kernel_rfl) (λ_ _ _ h=>h) (λZ s=>?y4) E ?_
   case y4=>(have z1:=s.1;go_simp)
   refine B6 5 24 (A7 Ah f) rfl (by kernel_rfl) (λ_ _ _ h=>h) (λZ s=>by kernel_rfl) E ?_;refine B6 6 25 (A9 (Aj ⟨wr.heap.size,0,Ak⟩)) rfl (by kernel_rfl) (λ_ _ _ h=>h) (λZ s=>by kernel_rfl) E ?_;refine B6 7 26 (Aa ⟨m.toArray⟩) rfl (by kernel_rfl) (λ_ _ _ h=>h) (λZ s=>?y7) E ?_
   case y7=>(have z1:=s.2;go_simp)
   refine B6 8 27 (Ac #[Aa ⟨m.toArray⟩,Ad false]) rfl (by kernel_rfl) (λ_ _ _ h=>h) (λZ s=>by kernel_rfl) E ?_;refine Jw 9 rfl (by kernel_rfl) (λb8 hK=>?_);go_simp;refine cN.mono ?_;rintro e U ⟨I,J,rfl,a2,a1,bo,bm⟩;have X:=Ap (Q.step a2 a1);have ac:=Ap (a1.row _ _ _ _ an (by decide) (by decide) (by decide));have ab:=Ap bo;have bc:=Ap bm;have a3:(λZ:Al=>Z.cell? ⟨c.B,39,Ak⟩=Aj (A9 (Aj ⟨c.A,0,Ak⟩))/\Z.cell? ⟨wr.heap.size,0,Ak⟩=Aj (Aa ⟨m.toArray⟩)) U:=⟨PO a2 ah,Ar ac 0⟩
   simp only[];refine hK.out _ _ a3 (λ_=>?_);refine B6 10 10 (A7 Ah I) rfl (by kernel_rfl) (λ_ _ _ h=>h) (λZ s=>by kernel_rfl) a3 ?_;refine KK (by kernel_rfl) ?_ _;go_simp;have cR:=aw.out U I J X bc;have bu:=Ar ac 0;have ce:=Ar ac 1;have bh:=Ap X.kp.size;have bf:Hid (∀g,(Value.slice a l O).ownBlock=Aj g->g<U.heap.size):=by obtain⟨xs,n,_⟩:=X.own;exact Pf n
   cases a6 with
   |none =>
    have al:Hid (Fm (λkey=>B2 c.v k ((key,false)::p)) (b.take (i+1)) R=(r,M)):=by show _=_;rw[aq];simp
    go_wp2_with(first
     |(go_at_call 82;refine cR.mono ?_;rintro e w5 ⟨v5,ae,rfl,bq,bn,bp,bz,_⟩;obtain rfl:=bz rfl;have aj:Hid (BE c M T ae w5):=bq;have aa:=Ap bn;have V:=Ap bp;simp only[QH]))
    go_roundg g
    case measure=>omega
    case rel=>exact⟨i+1,a,l,O,M,T,ae,r,rfl,by go_num,by show _=_;have:=K.out;omega,(ak.pre ab).pre V,(ai.trans ab).trans V,X.step aj aa,al,af,by show _<=_;have:=a0.out;omega⟩
   |some d' =>
    have al:Hid (Fm (λkey=>B2 c.v k ((key,false)::p)) (b.take (i+1)) R=(r++[(Lit.string m,d')],M)):=by show _=_;rw[aq];rfl
    have bk:An Ao 82 #[A9 (Aj ⟨c.B,0,Ak⟩),Ae w C,A7 Ah I] U λe V'=>∃t y ad,e=Ag (Ab #[Ae t y,Ad true])/\Hid (BE c M T ad V')/\Hid (Bp U V')/\Hid (Ed J ad)/\Hid (AJ k V' (λj=>F j\/(U.heap.size<=j/\j<V'.heap.size)) (Ae t y) d'):=cR.mono (by
     rintro e V' ⟨v',ad,rfl,n,P,h3,_,h4⟩;have h5:=h4 d' rfl;obtain⟨t,y,rfl⟩:=h5.iface;exact⟨t,y,ad,rfl,n,P,h3,h5⟩)
    go_wp2_with(first
     |(go_at_call 82;refine bk.mono ?_;rintro e w5 ⟨t,y,ae,rfl,aj,aa,V,a9⟩;have am:=Ap (X.step aj aa);have bu:=Ar (aa.row _ _ _ _ ac (by decide) (by decide) (by decide)) 0;obtain⟨cj,bx,b3⟩:=am.own;have HO:=Ap bx;have bj:=Ap b3;have a7:=Ap am.kp.size)
     |(at_builtin;refine M9 _ rfl _ _ 220 rfl W.heap.size 222 i0 (Ac #[.string ByteArray.empty,.nilIface]) 2 32 underlying220 hi b4 b5 b6 rfl (by decide) _ _ _ rfl (HO.alloc _) ⟨w5.heap.size,0,Ak⟩ 1 1 [Aa ⟨m.toArray⟩,Ae t y] rfl rfl (Bf _ _ _) (λu z=>by simp at z;rcases z with rfl|rfl<;>rfl) (by decide) (by unfold maxLen;omega) (by omega) (by simp;have:=a7.out;omega) ?_;intro v' w6 a5 bv b0;have bi:=Ap (am.push HW HG HF HO bj a9 bf bh a5 bv b0);obtain⟨g6,ca,rfl⟩:=ownsRow_succ a5))
    go_roundg g
    case measure=>omega
    case rel=>exact⟨i+1,_,_,_,M,T,ae,r++[(Lit.string m,d')],rfl,by go_num,by show _=_;have:=K.out;omega,(ak.pre ab).pre V,(ai.trans ab).trans V,bi,al,af,by show _<=_;rw[AC];exact a0⟩
theorem mx(a:A5)(n c:Nat):∀w:Al,(Instr.typeAssert (Ae 216 (A8 a n c)) 89 218 true).run Ao w=.ok (Ab #[A8 Ak 0 0,Ad false]) w:=λw=>by kernel_rfl
theorem my(a:A5)(n c:Nat):∀w:Al,(Instr.typeAssert (Ae 216 (A8 a n c)) 89 220 true).run Ao w=.ok (Ab #[A8 Ak 0 0,Ad false]) w:=λw=>by kernel_rfl
theorem mz(B f:Nat)(t:TypeId)(y:Am)(b:∀w:Al,(Instr.typeAssert (Ae t y) 89 218 true).run Ao w=.ok (Ab #[A8 Ak 0 0,Ad false]) w)(c:∀w:Al,(Instr.typeAssert (Ae t y) 89 220 true).run Ao w=.ok (Ab #[A8 Ak 0 0,Ad false]) w)(W:Al):An Ao 109 #[A9 (Aj ⟨B,0,Ak⟩),Ae t y,A7 Ah f] W λe a=>e=Ag (Ae t y)/\a=W:=by
 go_enter func109,ntmps109;go_wp2;go_ret;exact⟨rfl,rfl⟩
def Mo(c:Rc)(k:Nat)(F:Nat->Prop)(r:DataW Unit×AP)(M:Nat)(sts:List ((Nat->Nat)×Int×Int))(V:Al)(e:Ending)(V':Al):Prop :=
 ∃(v':Am) (sts':List ((Nat->Nat)×Int×Int)),e=Ag v'/\BE c r.2 M sts' V'/\Bp V V'/\Ed sts sts'/\AJ k V' (λj=>F j\/(V.heap.size<=j/\j<V'.heap.size)) v' r.1
theorem mA(B f:Nat)(a:A5)(n m:Nat)(W:Al)(c:Rc)(k:Nat)(F:Nat->Prop)(r:DataW Unit×AP)(M:Nat)(d:List ((Nat->Nat)×Int×Int))(b:An Ao 132 #[A9 (Aj ⟨B,0,Ak⟩),A8 a n m,A7 Ah f] W (PN c k F 218 r M d W)):An Ao 109 #[A9 (Aj ⟨B,0,Ak⟩),Ae 218 (A8 a n m),A7 Ah f] W (Mo c k F r M d W):=by
 have p:=Vu a n m;go_enter func109,ntmps109
 go_wp2_with(first
  |(go_at_call 132;refine b.mono ?_;clear b;rintro e t ⟨o,s,q,l,rfl,g,h,i,j⟩))
 go_ret;exact⟨_,l,rfl,g,h,i,j⟩
theorem mB(B f:Nat)(a:A5)(n m:Nat)(W:Al)(c:Rc)(k:Nat)(F:Nat->Prop)(r:DataW Unit×AP)(M:Nat)(d:List ((Nat->Nat)×Int×Int))(b:An Ao 133 #[A9 (Aj ⟨B,0,Ak⟩),A8 a n m,A7 Ah f] W (PN c k F 220 r M d W)):An Ao 109 #[A9 (Aj ⟨B,0,Ak⟩),Ae 220 (A8 a n m),A7 Ah f] W (Mo c k F r M d W):=by
 have p:=Vv a n m;have q:=Vw a n m;go_enter func109,ntmps109
 go_wp2_with(first
  |(go_at_call 133;refine b.mono ?_;clear b;rintro e u ⟨o,t,s,l,rfl,g,h,i,j⟩))
 go_ret;exact⟨_,l,rfl,g,h,i,j⟩
theorem C7.sliceR{t:TypeId}(h:C7 V t size F v n xs):∃q a,v=A8 q n a:=by
 rcases h.2 with⟨e,b⟩|⟨g,a,c,e,_⟩
 ·exact⟨Ak,0,by rw[e,b]⟩
 exact⟨_,_,e⟩
theorem mC(c:Rc)(ok:EX c)(k:Nat)(C:Mn c k)(W:World)(F:Nat->Prop)(x:Value)(d:DataW Unit)(p:List (List UInt8×Bool))(f:Nat)(R:AP)(N:Nat)(b:List ((Nat->Nat)×Int×Int))(h:BE c R N b W)(A:FF c b f p)(hF:∀j,F j->j<W.heap.size)(a:AJ (k+1) W F x d)(z:(BD (k+1) d).length<=999999999)(H:N+Bx (k+1) d<=90001):Calls prog 109 #[.pointer (some ⟨c.B,0,none⟩),x,.int .i64 f] W (Mo c (k+1) F (FT (B2 c.v k) p d R) (N+Bx (k+1) d-1) b W):=by
 have l:∀(t:TypeId) (y:Value),x=.iface t y->FT (B2 c.v k) p d R=(d,R)->1<=Bx (k+1) d->(∀w:World,(Instr.typeAssert (.iface t y) 89 218 true).run prog w=.ok (.tuple #[.slice none 0 0,.bool false]) w)->(∀w:World,(Instr.typeAssert (.iface t y) 89 220 true).run prog w=.ok (.tuple #[.slice none 0 0,.bool false]) w)->Calls prog 109 #[.pointer (some ⟨c.B,0,none⟩),x,.int .i64 f] W (Mo c (k+1) F (FT (B2 c.v k) p d R) (N+Bx (k+1) d-1) b W):=by
  intro t y o i n D E;subst o;rw[i];refine(mz c.B f t y D E W).mono ?_;rintro e G ⟨rfl,rfl⟩;exact⟨_,b,rfl,h.more (by omega),Bp.refl _,Ed.refl _,a.same (λ_ h=>.inl h) (λ_ _=>rfl)⟩
 have I:=a;unfold AJ at a;split at a
 ·exact l _ _ a rfl (AB _) Vm Vn
 ·exact l _ _ a rfl (AB _) (Vo _) (Vp _)
 ·exact l _ _ a.1 rfl (AB _) (Vq _) (Vr _)
 ·exact l _ _ a rfl (AB _) (Vs _) (Vt _)
 ·obtain⟨u,e,g⟩:=a;obtain⟨q,m,rfl⟩:=g.sliceR;exact l _ _ e rfl (AB _) (mx _ _ _) (my _ _ _)
 ·rename_i ds
  obtain⟨u,s,rfl,g,r⟩:=a;obtain⟨q,m,rfl⟩:=g.sliceR;have o:Bx (k+1) (.agg ds)=2+(ds.map λd=>1+Bx k d).sum:=rfl;have i:N+Bx (k+1) (.agg ds)-1=N+1+(ds.map λd=>1+Bx k d).sum:=by omega
  rw[i];have n:BD (k+1) (.agg ds)=AO 4 ds.length++ds.flatMap (BD k):=rfl;refine mA c.B f q ds.length m W c (k+1) F _ _ b (ms c ok k C W F _ ds s p f R N b h A hF g r ?_ (by omega));rw[n,AC]at z;omega
 ·rename_i es
  obtain⟨u,s,rfl,g,r⟩:=a;obtain⟨q,m,rfl⟩:=g.sliceR;have o:Bx (k+1) (.map es)=1+(es.map λe=>2+Bx k e.2).sum:=rfl;have i:N+Bx (k+1) (.map es)-1=N+(es.map λe=>2+Bx k e.2).sum:=by omega
  rw[i];have n:BD (k+1) (.map es)=AO 5 es.length++es.flatMap (λe=>(AO 3 (B1 e.1).length++B1 e.1)++BD k e.2):=rfl;refine mB c.B f q es.length m W c (k+1) F _ _ b (mw c ok k C W F _ es s p f R N b h A hF g r ?_ (by omega));rw[n,AC]at z;omega
 exact a.elim
theorem Le(h:BE c R N sts V)(ok:EX c)(j:Nat):V.cell? ⟨c.B,37+j,Ak⟩=#[A7 Ah c.v.clr,A7 Ah c.v.key,A9 (Aj ⟨c.A,0,Ak⟩),A7 Ah R.1,A7 Ah R.2.1,A7 Ah R.2.2.1,A7 Ah R.2.2.2][j]?:=by
 refine(Ar h.box (37+j)).trans ?_;unfold CL;rw[Ls (by rw[ok.ord.size];omega),ok.ord.size,show 37+j-37=j by omega]
theorem Y6(h:BE c R N sts V):∀(j:Nat) (u:Am),c.O[j]?=Aj u->V.cell? ⟨c.B,0+j,Ak⟩=Aj u:=by
 intro j u a;have b:j<c.O.size:=At a;refine(Ar h.box (0+j)).trans ?_;rw[Df];unfold CL;rw[MN b];exact a
theorem PP(ok:EX c)(R:AP)(j:Nat)(v:Am):(CL c R).setIfInBounds (37+j) v=c.O++#[A7 Ah c.v.clr,A7 Ah c.v.key,A9 (Aj ⟨c.A,0,Ak⟩),A7 Ah R.1,A7 Ah R.2.1,A7 Ah R.2.2.1,A7 Ah R.2.2.2].setIfInBounds j v:=by
 unfold CL;apply KL;have a:c.O.toList.length=37:=by simp[ok.ord.size]
 simp only[MM,QD];rw[Ou _ _ (by omega),show 37+j-c.O.toList.length=j by omega]
theorem mD(ok:EX c):(prog.info? 72).map (·.size)=Aj c.O.size:=by rw[ok.ord.size];kernel_rfl
theorem mE{c:Rv}(a:c.m (CC c.dflt c.rs p.reverse).1.toNat c.clr=true):B2 c (k+1) p d R=(Aj (FT (B2 c k) p d (R.1+1,R.2)).1,(FT (B2 c k) p d (R.1+1,R.2)).2):=by rw[B2,As a]
theorem mF{c:Rv}(b:¬c.m (CC c.dflt c.rs p.reverse).1.toNat c.clr=true)(a:(CC c.dflt c.rs p.reverse).2=2):B2 c (k+1) p d R=(Aj (.lit (.string [42,42,42])),(R.1,R.2.1,R.2.2.1+1,R.2.2.2)):=by rw[B2,Aq b,As a]
theorem mG{c:Rv}(b:¬c.m (CC c.dflt c.rs p.reverse).1.toNat c.clr=true)(a:(CC c.dflt c.rs p.reverse).2=3):B2 c (k+1) p d R=(Aj (.lit (.string (Kf c.key (CC c.dflt c.rs p.reverse).1.toNat (BD (k+1) d)))),(R.1,R.2.1,R.2.2.1,R.2.2.2+1)):=by rw[B2,Aq b,Aq (by rw[a];decide),As a]
theorem mH{c:Rv}(e:¬c.m (CC c.dflt c.rs p.reverse).1.toNat c.clr=true)(a:¬(CC c.dflt c.rs p.reverse).2=2)(b:¬(CC c.dflt c.rs p.reverse).2=3):B2 c (k+1) p d R=(Ak,(R.1,R.2.1+1,R.2.2.1,R.2.2.2)):=by rw[B2,Aq e,Aq a,Aq b]
theorem mI(k:Nat)(d:A3):1<=Bx (k+1) d:=by
 unfold Bx;split<;>omega
def mJ(c:Rc)(k:Nat)(p:List (A2×Bool)):Prop:=∀(W:Al) (F:Nat->Prop) (x:Am) (d:A3) (f:Nat) (R:AP) (N:Nat) (sts:List ((Nat->Nat)×Int×Int)) (_h:BE c R N sts W) (_hf:FF c sts f p) (_hF:∀j,F j->j<W.heap.size) (_hd:AJ (k+1) W F x d) (_hc:(BD (k+1) d).length<=999999999) (_hN:N+Bx (k+1) d<=90001),An Ao 109 #[A9 (Aj ⟨c.B,0,Ak⟩),x,A7 Ah f] W (Mo c (k+1) F (FT (B2 c.v k) p d R) (N+Bx (k+1) d-1) sts W)
def SM(c:Rc)(k:Nat)(p:List (A2×Bool)):Prop:=∀(V:Al) (F:Nat->Prop) (x:Am) (d:A3) (f:Nat) (R:AP) (N:Nat) (sts:List ((Nat->Nat)×Int×Int)),BE c R N sts V->FF c sts f p->(∀j,F j->j<V.heap.size)->AJ k V F x d->(BD k d).length<=999999999->N+Bx k d<=90000 ->
  An Ao 82 #[A9 (Aj ⟨c.B,0,Ak⟩),x,A7 Ah f] V (PM c k F (B2 c.v k p d R) (N+Bx k d) sts V)
theorem mK(c:Rc)(ok:EX c)(k:Nat)(p:List (A2×Bool))(E:c.v.m (CC c.v.dflt c.v.rs p.reverse).1.toNat c.v.clr=true->mJ c k p):SM c (k+1) p:=by
 intro W F ba d aj R N o h hf hF K hc hN;have X:=h.verdict ok hf;obtain⟨l,hl,aq⟩:=ok.lab p.reverse;rw[hl]at X;obtain⟨D,G⟩:∃D,Hid ((CC c.v.dflt c.v.rs p.reverse).2=D):=⟨_,rfl⟩
 rw[G.out]at X;obtain⟨b,P⟩:∃b,Hid (c.v.m l c.v.clr=b):=⟨_,rfl⟩
 have Q:Hid ((CC c.v.dflt c.v.rs p.reverse).1.toNat=l):=by show _=_;rw[hl];simp
 have cM:=λV=>ak c.O c.n c.v.m ok.ord ok.n6 l c.v.clr aq ok.clr V;rw[P.out]at cM;obtain⟨t,y,rfl⟩:=K.iface;have HR:Hid (BE c R N o W):=h;have i:Hid (EX c):=ok;have aw:=PO h ok;have a0:=h.few;have a5:=mI k d;have U:Hid (∀V,b=true->BE c (R.1+1,R.2) (N+1) o V->Bp W V->An Ao 109 #[A9 (Aj ⟨c.B,0,Ak⟩),Ae t y,A7 Ah aj] V (Mo c (k+1) F (FT (B2 c.v k) p d (R.1+1,R.2)) (N+1+Bx (k+1) d-1) o V)):=λV ax h1 s=>E (by rw[Q.out,P.out,ax]) V F (Ae t y) d aj (R.1+1,R.2) (N+1) o h1 hf (λj M=>Br (hF j M) s.size) (K.kept (λ_ h=>h) s) hc (by omega);rw[show N+1+Bx (k+1) d-1=N+Bx (k+1) d by omega]at U;have ap:8<c.W0.heap.size:=by
  have h0:=ok.tab;by_cases h:8<c.W0.heap.size
  ·exact h
  simp[World.cell?,h]at h0
 have J:Hid (∀V,Below c.W0.heap.size c.W0 V->Bp W V->An Ao 110 #[A7 Ah c.v.key,A7 Ah l,Ae t y] V λe W'=>e=Ag (Aa ⟨(Kf c.v.key l (BD (k+1) d)).toArray⟩)/\A1 V W'):=λV h1 s=>fM c.v.key l (by have:=ok.n6;omega) (k+1) V F (Ae t y) d (λj M=>Br (hF j M) s.size) (K.kept (λ_ h=>h) s) hc ((h1.cell ap).trans ok.tab);have ag:N+1<=N+Bx (k+1) d:=by omega
 obtain⟨rr,I⟩:∃rr,Hid (B2 c.v (k+1) p d R=rr):=⟨_,rfl⟩
 rw[I.out];generalize hNE:N+Bx (k+1) d=NE at *;clear h hf hF K hc ok E hl aq ap hNE;go_enter func82,ntmps82
 go_wp2_with(first
  |(go_at_call 107;refine X.mono ?_;clear X;rintro e w2 ⟨rfl,ac⟩;have T:Hid (BE c R N o (World.drew w2)):=HR.step ac.drew;have ai:Hid (Bp W (World.drew w2)):=Bp.of_below ac.drew;clear HR aw ac))
 refine Cp (S:=λZ=>(∀(j:Nat) (u:Am),c.O[j]?=Aj u->Z.cell? ⟨c.B,0+j,Ak⟩=Aj u)/\Z.cell? ⟨c.B,37,Ak⟩=Aj (A7 Ah c.v.clr)) (⟨Y6 T,Le T i 0⟩) (by kernel_rfl) ?_;intro q;refine Au 0 20 (A9 (Aj ⟨c.B,0,Ak⟩)) q ?_;refine Au 1 21 (A9 (Aj ⟨c.B,0,Ak⟩)) q ?_;refine Au 2 22 (A9 (Aj ⟨c.B,0,Ak⟩)) q ?_;refine Au 3 23 (A9 (Aj ⟨c.B,0,Ak⟩)) q ?_;refine AD 4 24 (.agg c.O) rfl (λZ hZ=>?y4) q ?_
 case y4=>exact NM 72 (.tmp 23) rfl c.B 0 rfl c.O _ hZ.1 underlying72 rfl (mD i)
 refine Au 5 25 (A7 Ah l) q ?_;refine Au 6 26 (A9 (Aj ⟨c.B,0,Ak⟩)) q ?_;refine Au 7 27 (A9 (Aj ⟨c.B,0,Ak⟩)) q ?_;refine Au 8 28 (A9 (Aj ⟨c.B,0,Ak⟩)) q ?_;refine Au 9 29 (A9 (Aj ⟨c.B,37,Ak⟩)) q ?_;refine AD 10 30 (A7 Ah c.v.clr) rfl (λZ hZ=>?y10) q ?_
 case y10=>(have z1:=hZ.2;go_simp)
 refine Bc 11 (λay hK=>?_);go_simp;refine(cM _).mono ?_;clear cM;rintro e a ⟨rfl,ad⟩;simp only[];have r:=Ap (T.step ad);have H:Hid (Bp W a):=ai.trans (Bp.of_below ad);have ao:(λZ:Al=>(∀(j:Nat) (u:Am),c.O[j]?=Aj u->Z.cell? ⟨c.B,0+j,Ak⟩=Aj u)/\Z.cell? ⟨c.B,37,Ak⟩=Aj (A7 Ah c.v.clr)) a:=⟨Y6 r,Le r i 0⟩
 refine hK.out _ _ ao (λ_=>?_);clear hK T ai ad q;refine Bw ?_;go_simp;clear ao;have A:∀j,a.frozen? ⟨c.B,j,Ak⟩=false:=λj=>Cx a c.B j _ _ r.box
 cases b with
 |true =>
  have a6:a.cell? ⟨c.B,40,Ak⟩=Aj (A7 Ah R.1):=Le r i 3;have a1:=A 40;have z:rr=(Aj (FT (B2 c.v k) p d (R.1+1,R.2)).1,(FT (B2 c.v k) p d (R.1+1,R.2)).2):=I.symm.trans (mE (by rw[Q.out];exact P));subst z;have g:BE c (R.1+1,R.2) (N+1) o (a.setCell ⟨c.B,40,Ak⟩ (A7 Ah ((R.1:Int)+1)))/\Bp a (a.setCell ⟨c.B,40,Ak⟩ (A7 Ah ((R.1:Int)+1))):=r.count (R':=(R.1+1,R.2)) i 40 (R.1+1) (by rw[show 40=37+3 from rfl,PP i.out];rfl) (by simp only;omega);have cS:=U.out _ rfl g.1 (H.trans g.2);have w:Hid (Bp W (a.setCell ⟨c.B,40,Ak⟩ (A7 Ah ((R.1:Int)+1)))):=H.trans g.2;clear g J U A;generalize FT (B2 c.v k) p d (R.1+1,R.2)=E at *
  go_wp2_with(first
   |(go_at_call 109;refine cS.mono ?_;clear cS;rintro e f ⟨v4,ah,rfl,an,al,am,af⟩;obtain⟨t4,y4,rfl⟩:=af.iface;have C:Hid (BE c E.2 NE ah f):=an;have au:Hid (Ed o ah):=am;have ab:Hid (Bp W f):=w.trans al;have ar:Hid (AJ (k+1) f (λj=>F j\/(W.heap.size<=j/\j<f.heap.size)) (Ae t4 y4) E.1):=af.same (λj M=>M.imp id (λh=>⟨AW w.size h.1,h.2⟩)) (λ_ _=>rfl);clear an al am af))
  refine Bd (Hl results82 _ _ _) rfl ?_;exact⟨_,ah,rfl,C,ab,au,λh=>by simp at h,λY h=>by
   have L:E.1=Y:=CX h;rw[<-L];exact ar⟩
 |false =>
  have aa:Hid (¬c.v.m (CC c.v.dflt c.v.rs p.reverse).1.toNat c.v.clr=true):=by show¬_;rw[Q.out,P.out];decide
  clear U;by_cases s:D=2
  ·subst s;have a8:a.cell? ⟨c.B,42,Ak⟩=Aj (A7 Ah R.2.2.1):=Le r i 5;have a3:=A 42;have z:=I.symm.trans (mF aa G);subst z;have g:BE c (R.1,R.2.1,R.2.2.1+1,R.2.2.2) (N+1) o (a.setCell ⟨c.B,42,Ak⟩ (A7 Ah ((R.2.2.1:Int)+1)))/\Bp a (a.setCell ⟨c.B,42,Ak⟩ (A7 Ah ((R.2.2.1:Int)+1))):=r.count (R':=(R.1,R.2.1,R.2.2.1+1,R.2.2.2)) i 42 (R.2.2.1+1) (by rw[show 42=37+5 from rfl,PP i.out];rfl) (by simp only;omega);have w:Hid (Bp W (a.setCell ⟨c.B,42,Ak⟩ (A7 Ah ((R.2.2.1:Int)+1)))):=H.trans g.2;have C:Hid (BE c (R.1,R.2.1,R.2.2.1+1,R.2.2.2) NE o (a.setCell ⟨c.B,42,Ak⟩ (A7 Ah ((R.2.2.1:Int)+1)))):=g.1.more ag;clear g J A
   go_wp2_with fail
   refine Bd (Hl results82 _ _ _) rfl ?_;exact⟨_,o,rfl,C,w,Ed.refl _,λh=>by simp at h,λY h=>by
    have L:=CX h;rw[<-L];rfl⟩
  by_cases x:D=3
  ·subst x;have a9:a.cell? ⟨c.B,43,Ak⟩=Aj (A7 Ah R.2.2.2):=Le r i 6;have a4:=A 43;have z:=I.symm.trans (mG aa G);rw[Q.out]at z;subst z;have g:BE c (R.1,R.2.1,R.2.2.1,R.2.2.2+1) (N+1) o (a.setCell ⟨c.B,43,Ak⟩ (A7 Ah ((R.2.2.2:Int)+1)))/\Bp a (a.setCell ⟨c.B,43,Ak⟩ (A7 Ah ((R.2.2.2:Int)+1))):=r.count (R':=(R.1,R.2.1,R.2.2.1,R.2.2.2+1)) i 43 (R.2.2.2+1) (by rw[show 43=37+6 from rfl,PP i.out];rfl) (by simp only;omega);have w:Hid (Bp W (a.setCell ⟨c.B,43,Ak⟩ (A7 Ah ((R.2.2.2:Int)+1)))):=H.trans g.2;have C:Hid (BE c (R.1,R.2.1,R.2.2.1,R.2.2.2+1) NE o (a.setCell ⟨c.B,43,Ak⟩ (A7 Ah ((R.2.2.2:Int)+1)))):=g.1.more ag;have az:(a.setCell ⟨c.B,43,Ak⟩ (A7 Ah ((R.2.2.2:Int)+1))).cell? ⟨c.B,38,Ak⟩=Aj (A7 Ah c.v.key):=Le g.1 i 1;have cG:=J.out _ g.1.below w;clear g J A s;generalize Kf c.v.key l (BD (k+1) d)=tg at *
   go_wp2_with(first
    |(go_at_call 110;refine cG.mono ?_;clear cG;rintro e w5 ⟨rfl,ae⟩;have av:=Ap (C.step ae);have ab:Hid (Bp W w5):=w.trans (Bp.of_below ae);clear ae))
   refine Bd (Hl results82 _ _ _) rfl ?_;exact⟨_,o,rfl,av,ab,Ed.refl _,λh=>by simp at h,λY h=>by
    have L:=CX h;rw[<-L];rfl⟩
  have a7:a.cell? ⟨c.B,41,Ak⟩=Aj (A7 Ah R.2.1):=Le r i 4;have a2:=A 41;have e2:(D==2)=false:=by simpa using s
  have e3:(D==3)=false:=by simpa using x
  have z:=I.symm.trans (mH aa (G.symm▸s) (G.symm▸x));subst z;have g:BE c (R.1,R.2.1+1,R.2.2.1,R.2.2.2) (N+1) o (a.setCell ⟨c.B,41,Ak⟩ (A7 Ah ((R.2.1:Int)+1)))/\Bp a (a.setCell ⟨c.B,41,Ak⟩ (A7 Ah ((R.2.1:Int)+1))):=r.count (R':=(R.1,R.2.1+1,R.2.2.1,R.2.2.2)) i 41 (R.2.1+1) (by rw[show 41=37+4 from rfl,PP i.out];rfl) (by simp only;omega);have w:Hid (Bp W (a.setCell ⟨c.B,41,Ak⟩ (A7 Ah ((R.2.1:Int)+1)))):=H.trans g.2;have C:Hid (BE c (R.1,R.2.1+1,R.2.2.1,R.2.2.2) NE o (a.setCell ⟨c.B,41,Ak⟩ (A7 Ah ((R.2.1:Int)+1)))):=g.1.more ag;clear g J A s x
  go_wp2_with fail
  refine Bd (Hl results82 _ _ _) rfl ?_;exact⟨_,o,rfl,C,w,Ed.refl _,λ_=>rfl,λY h=>by cases h⟩
theorem mL(c:Rc)(ok:EX c)(k:Nat)(b:Mn c k):Mn c (k+1):=λW F x d p f R N a=>mK c ok k p (λ_ W F x d f R N a=>mC c ok k b W F x d p f R N a) W F x d f R N a
theorem Y7(c:Rc)(ok:EX c):∀k,Mn c k
 |0=>λ_ _ _ _ _ _ _ _ _ _ _ _ h=>h.elim
 |k+1=>mL c ok k (Y7 c ok k)
theorem Y8{P:Program}{fn:Func}{p u:Tmp}{ty:TypeId}(h:fn.results=#[.tmp u,.cell p ty])(b:A4)(w:Al)(g:Nat)(t:TypeId)(cs:A4)(c:Nat×Nat)(d:TypeDesc)(j:b.getD p undef=A9 (Aj ⟨g,0,Ak⟩))(i:w.heap[g]?=Aj (Af cs t c))(k:P.underlying ty=Aj d)(f:(match d with|.struct _|.array _ _=>true|_=>false)=true)(hi:(P.info? ty).map (·.size)=Aj cs.size)(v:Am)(l:b.getD u undef=v):(results fn b).run P w=.ok (Ab #[v,.agg cs]) w:=by
 have e:(results fn b).run P w=((asAddr (b.getD p undef)).run P w).andThen λa m=>((loadVar ty a).run P m).andThen λv n=>.ok (Ab #[b.getD u undef,v]) n:=by
  simp only[results,h];simp[D8,Result.andThen]
 subst l;rw[e,j];simp only[asAddr,E4,Dl,FZ w g t ty cs c d i k f hi]
def ED(c:Rc):A4:=c.O++#[A7 Ah c.v.clr,A7 Ah c.v.key,A9 (Aj ⟨c.A,0,Ak⟩)]
def AZ(R:AP):A4:=#[A7 Ah R.1,A7 Ah R.2.1,A7 Ah R.2.2.1,A7 Ah R.2.2.2]
def Gc:A4:=Bh 0 (λ_ _=>false)++#[A7 Ah 0,A7 Ah 0,A9 Ak,A7 Ah 0,A7 Ah 0,A7 Ah 0,A7 Ah 0]
theorem mM(ρ:Operand->Am)(o:Oper)(a:o.op=.alloc 172)(w:Al):(execOp ρ o).run Ao w=.ok (.value (A9 (Aj ⟨w.heap.size,0,Ak⟩))) (w.alloc (Af Gc 172)):=by
 unfold execOp;rw[a];kernel_rfl
theorem mN{ops:Array Oper}{rest:List Oper}{o:Oper}{a:Act}{w:Al}{Q:Exit->Act->Al->Prop}(e:o.guard=Ak)(f:o.op=.alloc 172)(d:Option Tmp)(c:o.dst=d)(N:Nat)(b:w.heap.size=N)(h:wpList Ao ops Q rest (a.put d (A9 (Aj ⟨N,0,Ak⟩))) (w.alloc (Af Gc 172))):wpList Ao ops Q (o::rest) a w:=by
 subst b;exact Ov e d c _ _ (mM _ _ f _) h
theorem mO(n:Nat)(m:Nat->Nat->Bool)(x y:Int)(p:A5):prog.built 172 [(0,.agg (Bh n m++#[A7 Ah x,A7 Ah y,.pointer p]))]=Aj (Bh n m++#[A7 Ah x,A7 Ah y,.pointer p,A7 Ah 0,A7 Ah 0,A7 Ah 0,A7 Ah 0]):=by kernel_rfl
theorem mP(h:A.size=40):(prog.info? 83).map (·.size)=Aj A.size:=by rw[h];kernel_rfl
theorem mQ(h:A.size=44):(prog.info? 172).map (·.size)=Aj A.size:=by rw[h];kernel_rfl
theorem EY(R:AP):(prog.info? 31).map (·.size)=Aj (AZ R).size:=by kernel_rfl
theorem mR(h:AJ k V F v d):AJ k {V with drawn:=V.drawn+1} F v d:=by
 have a:∀j,F j->({V with drawn:=V.drawn+1}:Al).heap[j]?=V.heap[j]?:=λ_ _=>rfl;exact AJ.same (λ_ h=>h) a h
def mS(c:Rc)(k:Nat)(F:Nat->Prop)(r:Option (DataW Unit)×AP)(W:Al)(e:Ending)(V':Al):Prop :=
 ∃t y,e=Ag (Ab #[Ae t y,.agg (AZ r.2)])/\Bp W V'/\Below c.W0.heap.size c.W0 V'/\(∀j,j<W.heap.size->j≠c.A->j≠c.q.nb->j≠c.q.mb->Aj j≠c.own0->V'.heap[j]?=W.heap[j]?)/\AJ k V' (λj=>F j\/(W.heap.size<=j/\j<V'.heap.size)) (Ae t y) (r.1.getD .nil)
theorem mT(c:Rc)(ok:EX c)(K:c.O=Bh c.n c.v.m)(W:Al)(T:c.G=W)(y:c.B=W.heap.size+2)(k:Nat)(bb:SM c k [])(F:Nat->Prop)(x:Am)(d:A3)(N:Nat)(D:List ((Nat->Nat)×Int×Int))(sa:A5)(sc:Nat)(nf:Lit->Option Nat)(mn:Nat)(mf:Lit->Option Nat)(hA:BQ c.W0 c.A c.q D (A8 sa D.length sc) nf mn mf W)(hM:La c.q D mf)(ay:mn<=N)(az:D.length<=N+1)(ho:(Value.slice sa D.length sc).ownBlock=c.own0)(hs:FF c D 0 [])(hF:∀j,F j->j<W.heap.size)(b:AJ k W F x d)(hc:(BD k d).length<=999999999)(hN:N+Bx k d<=90000):An Ao 52 #[.agg (ED c),x] W (mS c k F (B2 c.v k [] d (0,0,0,0)) W):=by
 have ag:CL c (0,0,0,0)=Bh c.n c.v.m++#[A7 Ah c.v.clr,A7 Ah c.v.key,A9 (Aj ⟨c.A,0,Ak⟩),A7 Ah 0,A7 Ah 0,A7 Ah 0,A7 Ah 0]:=by unfold CL;rw[K];rfl
 have ai:Hid (prog.built 172 [(0,.agg (ED c))]=Aj (CL c (0,0,0,0))):=by show _=_;rw[ag];unfold ED;rw[K];exact mO _ _ _ _ _
 have am:Hid ((ED c).size=40):=by show _=_;unfold ED;rw[K,QM,Bj];rfl
 have an:Hid ((CL c (0,0,0,0)).size=44):=Y0 ok _;have ao:Hid (Gc.size=(CL c (0,0,0,0)).size):=by show _=_;rw[Y0 ok,Gc,QM,Bj];rfl
 have ap:Hid ((CL c (0,0,0,0)).all (·.oneCell')=true):=by show _=_;rw[ag,OG,Sy];simp[Value.oneCell']
 have aa:Hid (∀V,A1 W V->V.heap[W.heap.size+2]?=Aj (Af (CL c (0,0,0,0)) 172)->An Ao 82 #[A9 (Aj ⟨W.heap.size+2,0,Ak⟩),x,A7 Ah 0] V (PM c k F (B2 c.v k [] d (0,0,0,0)) (N+Bx k d) D V)):=λV C r=>by
  have:=bb V F x d 0 (0,0,0,0) N D ⟨by rw[y];exact r,⟨sa,sc,nf,mn,mf,hA.next C,hM,ay,az,.inl ho⟩,⟨by rw[T];exact C.size,λj a _ _ _ _=>by rw[T];exact C.block j (T▸a)⟩,Cy _⟩ hs (λj g=>Br (hF j g) C.size) (b.same (λ_ h=>h) (λj g=>C.block j (hF j g))) hc hN;rw[y]at this;exact this
 have ax:∀V G,AJ k V G (Ae 176 (Ac #[])) .nil:=λV G=>by
  cases k with
  |zero=>exact b.elim
  |succ k=>rfl
 obtain⟨t,bf,rfl⟩:=b.iface;have HF:Hid (∀j,F j->j<W.heap.size):=hF;have bc:c.W0.heap.size<=W.heap.size+1:=MU hA.below.size;clear hA hM ay az ho hs hF b hc hN ag;obtain⟨⟨o,R⟩,hr⟩:∃be,B2 c.v k [] d (0,0,0,0)=be:=⟨_,rfl⟩
 rw[hr]at aa ⊢;clear hr;have av:Hid (((W.alloc (Af (ED c) 83)).alloc (Af #[A7 Ah 0,A7 Ah 0,A7 Ah 0,A7 Ah 0] 31)).heap[W.heap.size]?=Aj (Af (ED c) 83)):=(AL _ _ _ (by simp)).trans (Ay W _);have ab:Hid ((((W.alloc (Af (ED c) 83)).alloc (Af #[A7 Ah 0,A7 Ah 0,A7 Ah 0,A7 Ah 0] 31)).alloc (Af Gc 172)).heap[W.heap.size+2]?=Aj (Af Gc 172)):=by
  have h:=Ay ((W.alloc (Af (ED c) 83)).alloc (Af #[A7 Ah 0,A7 Ah 0,A7 Ah 0,A7 Ah 0] 31)) (Af Gc 172);show _=_;rw[AM,AM]at h;exact h
 have aj:Hid (A1 W (((W.alloc (Af (ED c) 83)).alloc (Af #[A7 Ah 0,A7 Ah 0,A7 Ah 0,A7 Ah 0] 31)).alloc (Af Gc 172))):=((AH).alloc (by simp) _).alloc (by simp;omega) _;have aw:Hid ((((W.alloc (Af (ED c) 83)).alloc (Af #[A7 Ah 0,A7 Ah 0,A7 Ah 0,A7 Ah 0] 31)).alloc (Af Gc 172)).heap[W.heap.size+1]?=Aj (Af (AZ (0,0,0,0)) 31)):=by
  have h:=Ay (W.alloc (Af (ED c) 83)) (Af #[A7 Ah 0,A7 Ah 0,A7 Ah 0,A7 Ah 0] 31);show _=_;rw[AM]at h;exact(AL _ _ _ (by simp)).trans h
 go_enter func52,ntmps52
 go_wp2_with(first
  |(refine mN rfl rfl _ rfl (W.heap.size+2) ?hN ?_;case hN=>(simp only[AM,A1];done))
  |(refine B3 rfl 83 _ rfl W.heap.size rfl _ _ _ _ av underlying83 rfl (mP am) ?_)
  |(refine Bg rfl 172 _ _ rfl (W.heap.size+2) (CL c (0,0,0,0)) rfl rfl 172 Gc ab (mQ an) ao ap ?_)
  |(refine EK rfl 172 _ rfl _ rfl _ [(0,.agg (ED c))] ?hl ai ?_;case hl=>simp[go_sem]))
 have ar:Hid (A1 W ((((W.alloc (Af (ED c) 83)).alloc (Af #[A7 Ah 0,A7 Ah 0,A7 Ah 0,A7 Ah 0] 31)).alloc (Af Gc 172)).setRow (W.heap.size+2) (CL c (0,0,0,0)))):=Bu aj (by omega) _;have a7:Hid (((((W.alloc (Af (ED c) 83)).alloc (Af #[A7 Ah 0,A7 Ah 0,A7 Ah 0,A7 Ah 0] 31)).alloc (Af Gc 172)).setRow (W.heap.size+2) (CL c (0,0,0,0))).heap[W.heap.size+2]?=Aj (Af (CL c (0,0,0,0)) 172)):=B4 _ _ _ _ _ _ ab;have a8:Hid (((((W.alloc (Af (ED c) 83)).alloc (Af #[A7 Ah 0,A7 Ah 0,A7 Ah 0,A7 Ah 0] 31)).alloc (Af Gc 172)).setRow (W.heap.size+2) (CL c (0,0,0,0))).heap[W.heap.size+1]?=Aj (Af (AZ (0,0,0,0)) 31)):=sx (by omega) aw;have a9:Hid (W.heap.size+3<=((((W.alloc (Af (ED c) 83)).alloc (Af #[A7 Ah 0,A7 Ah 0,A7 Ah 0,A7 Ah 0] 31)).alloc (Af Gc 172)).setRow (W.heap.size+2) (CL c (0,0,0,0))).heap.size):=by show _<=_;simp
 generalize(((W.alloc (Af (ED c) 83)).alloc (Af #[A7 Ah 0,A7 Ah 0,A7 Ah 0,A7 Ah 0] 31)).alloc (Af Gc 172)).setRow (W.heap.size+2) (CL c (0,0,0,0))=V at *;clear av ab aw aj ai am an ao ap;have cR:=aa.out V ar a7;clear aa;have au:Hid (c.W0.heap.size<=W.heap.size+1):=bc;have al:Hid (EX c):=ok;have HG:Hid (c.G=W):=T;have HB:Hid (c.B=W.heap.size+2):=y;clear ok T y K;obtain⟨N4,a0⟩:∃N4,Hid (N+Bx k d=N4):=⟨_,rfl⟩
 rw[a0.out]at cR;have a6:Hid (∀V G,AJ k V G (Ae 176 (Ac #[])) .nil):=ax;have Y:An Ao 82 #[A9 (Aj ⟨W.heap.size+2,0,Ak⟩),Ae t bf,A7 Ah 0] V λe i=>∃X,e=Ag (Ab #[X,Ad o.isSome])/\Hid (i.heap[W.heap.size+2]?=Aj (Af (CL c R) 172))/\Hid (i.heap[W.heap.size+1]?=Aj (Af (AZ (0,0,0,0)) 31))/\Hid (Bp W i)/\Hid (Below c.W0.heap.size c.W0 i)/\Hid (∀j,j<W.heap.size->j≠c.A->j≠c.q.nb->j≠c.q.mb->Aj j≠c.own0->i.heap[j]?=W.heap[j]?)/\(o=Ak->X=.nilIface)/\∀z,o=Aj z->AJ k i (λj=>F j\/(W.heap.size+3<=j/\j<i.heap.size)) X z:=cR.mono (by
  rintro e i ⟨X,bg,rfl,C,r,h3,h4,h5⟩;refine⟨X,rfl,?_,r.row _ _ _ _ a8 (by decide) (by decide) (by decide),(Bp.of_below ar).trans r,C.below,λj J L M P Q=>?_,h4,λz bd=>(h5 z bd).same (λj g=>g.imp id (λh=>⟨AW a9 h.1,h.2⟩)) (λ_ _=>rfl)⟩
  ·have:=C.box;rw[HB.out]at this;exact this
  have:=C.fr.2 j (by rw[HG.out];exact J) L M P Q;rw[HG.out]at this;exact this)
 clear cR ax;have ak:Hid (∀(i:Al),i.heap[W.heap.size+2]?=Aj (Af (CL c R) 172)->∀(j:Nat) (ah:Am),(AZ R)[j]?=Aj ah->i.cell? ⟨W.heap.size+2,40+j,Ak⟩=Aj ah):=λi h j ah s=>by
  refine(Ar h (40+j)).trans ?_;unfold CL;rw[Ls (by rw[al.ord.size];omega),al.ord.size,show 40+j-37=j+3 by omega];have g:j<4:=At s
  match j,g,s with
  |0,_,s=>exact s
  |1,_,s=>exact s
  |2,_,s=>exact s
  |3,_,s=>exact s
 have aq:Hid (∀R:AP,(AZ R).all (·.oneCell')=true):=λR=>by simp[AZ,Value.oneCell']
 cases o with
 |none =>
  go_wp2_with(first
   |(go_at_call 82;refine Y.mono ?_;clear Y;rintro e f ⟨v4,rfl,I,w,l,E,H,h6,_⟩;obtain rfl:=h6 rfl;clear h6;simp only[QH]))
  refine Cp (S:=λZ=>Z.heap[W.heap.size+2]?=Aj (Af (CL c R) 172)) (I) (by kernel_rfl) ?_;intro p;have w:Hid (({f with drawn:=f.drawn+1}:Al).heap[W.heap.size+1]?=Aj (Af (AZ (0,0,0,0)) 31)):=w;have l:Hid (Bp W {f with drawn:=f.drawn+1}):=⟨l.size,l.row⟩
  have E:Hid (Below c.W0.heap.size c.W0 {f with drawn:=f.drawn+1}):=E.drew;have H:Hid (∀j,j<W.heap.size->j≠c.A->j≠c.q.nb->j≠c.q.mb->Aj j≠c.own0->({f with drawn:=f.drawn+1}:Al).heap[j]?=W.heap[j]?):=H;clear I;generalize({f with drawn:=f.drawn+1}:Al)=w5 at *;refine Au 0 20 (Ae 176 (Ac #[])) p ?_;refine Au 1 21 (A9 (Aj ⟨W.heap.size+2,40,Ak⟩)) p ?_;refine AD 2 22 (.agg (AZ R)) rfl (λZ hZ=>?y2) p ?_
  case y2=>exact NM 31 (.tmp 21) rfl (W.heap.size+2) 40 rfl (AZ R) _ (ak Z hZ) underlying31 rfl (EY R)
  refine Au 3 4 (Ae 176 (Ac #[])) p ?_;have ae:(λZ:Al=>Z.heap[W.heap.size+2]?=Aj (Af (CL c R) 172)) (World.setRow w5 (W.heap.size+1) (AZ R)):=sx (by omega) p;refine Bc 4 (λba U=>?_);refine IU (by kernel_rfl) ?_;refine IB 31 (.tmp 5) (.tmp 22) rfl (W.heap.size+1) (AZ R) rfl rfl 31 (AZ (0,0,0,0)) w (EY R) rfl (aq R) ?_;refine U.out _ _ ae (λ_=>?_);clear U;refine Bw ?_;go_simp
  go_wp2_with fail
  refine Bd (Y8 results52 _ _ (W.heap.size+1) 31 (AZ R) (0,0) _ rfl (B4 _ _ _ _ _ _ w) underlying31 rfl (EY R) _ rfl) rfl ?_;have ad:Bp W (World.setRow w5 (W.heap.size+1) (AZ R)):=⟨by have:=l.size;simpa using this,λj cs t fr a ac c d=>(BO _ _ _ _ (by have:=At a;omega)).trans (l.row j cs t fr a ac c d)⟩
  have af:c.W0.heap.size<=W.heap.size+1:=au.out;refine⟨_,_,rfl,ad,Bu E af _,λj J L M P Q=>sx (by omega) (H j J L M P Q),?_⟩;exact a6 _ _
 |some z =>
  go_wp2_with(first
   |(go_at_call 82;refine Y.mono ?_;clear Y;rintro e f ⟨v4,rfl,I,w,l,E,H,_,h7⟩;obtain⟨u,y4,rfl⟩:=(h7 z rfl).iface;have H7:Hid (AJ k f (λj=>F j\/(W.heap.size+3<=j/\j<f.heap.size)) (Ae u y4) z):=h7 z rfl;clear h7;simp only[Us]))
  refine Cp (S:=λZ=>Z.heap[W.heap.size+2]?=Aj (Af (CL c R) 172)) (I) (by kernel_rfl) ?_;intro p;have w:Hid (({f with drawn:=f.drawn+1}:Al).heap[W.heap.size+1]?=Aj (Af (AZ (0,0,0,0)) 31)):=w;have l:Hid (Bp W {f with drawn:=f.drawn+1}):=⟨l.size,l.row⟩
  have E:Hid (Below c.W0.heap.size c.W0 {f with drawn:=f.drawn+1}):=E.drew;have H:Hid (∀j,j<W.heap.size->j≠c.A->j≠c.q.nb->j≠c.q.mb->Aj j≠c.own0->({f with drawn:=f.drawn+1}:Al).heap[j]?=W.heap[j]?):=H;have H7:Hid (AJ k {f with drawn:=f.drawn+1} (λj=>F j\/(W.heap.size+3<=j/\j<({f with drawn:=f.drawn+1}:Al).heap.size)) (Ae u y4) z):=mR H7;clear I;generalize({f with drawn:=f.drawn+1}:Al)=w5 at *;refine Au 0 20 (Ae u y4) p ?_;refine Au 1 21 (A9 (Aj ⟨W.heap.size+2,40,Ak⟩)) p ?_;refine AD 2 22 (.agg (AZ R)) rfl (λZ hZ=>?y2) p ?_
  case y2=>exact NM 31 (.tmp 21) rfl (W.heap.size+2) 40 rfl (AZ R) _ (ak Z hZ) underlying31 rfl (EY R)
  refine Au 3 4 (Ae u y4) p ?_;have ae:(λZ:Al=>Z.heap[W.heap.size+2]?=Aj (Af (CL c R) 172)) (World.setRow w5 (W.heap.size+1) (AZ R)):=sx (by omega) p;refine Bc 4 (λba U=>?_);refine IU (by kernel_rfl) ?_;refine IB 31 (.tmp 5) (.tmp 22) rfl (W.heap.size+1) (AZ R) rfl rfl 31 (AZ (0,0,0,0)) w (EY R) rfl (aq R) ?_;refine U.out _ _ ae (λ_=>?_);clear U;refine Bw ?_;go_simp
  go_wp2_with fail
  refine Bd (Y8 results52 _ _ (W.heap.size+1) 31 (AZ R) (0,0) _ rfl (B4 _ _ _ _ _ _ w) underlying31 rfl (EY R) _ rfl) rfl ?_;have ad:Bp W (World.setRow w5 (W.heap.size+1) (AZ R)):=⟨by have:=l.size;simpa using this,λj cs t fr a ac c d=>(BO _ _ _ _ (by have:=At a;omega)).trans (l.row j cs t fr a ac c d)⟩
  have af:c.W0.heap.size<=W.heap.size+1:=au.out;refine⟨_,_,rfl,ad,Bu E af _,λj J L M P Q=>sx (by omega) (H j J L M P Q),?_⟩;exact H7.same (λj g=>g.imp id (λh=>⟨by omega,by simpa using h.2⟩)) (λj g=>BO _ _ _ _ (by
   rcases g with g|g
   ·have:=HF.out j g;omega
   omega))
end
end Go.Proofs.YtoegnhgofkhbnaaGreatDoor
