import Derived.Test.YtmajcjammmjimaaGreatDoorCq19
set_option maxRecDepth 100000
set_option maxHeartbeats 8000000
set_option linter.all false
namespace Go.Proofs.YtmajcjammmjimaaGreatDoor
open Go.Proofs.Tryz
variable{p q r:Nat}{e lim pl:Int}{bs l t:List UInt8}{rd rd':Nat->Except (Int×Int) (DataW Unit×Nat)}
section
open Go.RowKit Go.Lib
def Kk{α:Type}(bs t:List UInt8)(lim:Int)(r':Except (Int×Int) α):Prop:=lim=bs.length->t≠[]->r'=.error (8,lim)
def Tm{α:Type}(bs t:List UInt8)(lim:Int)(s:Prop)(p:Nat)(M:α->Nat->Prop)(r r':Except (Int×Int) (α×Nat)):Prop :=
 match r with
 |.ok (x,q)=>p<=q/\q<=bs.length/\M x q/\(r'=.ok (x,q)\/(¬s/\q=bs.length/\Kk bs t lim r'))
 |.error (e,pl)=>pl<=(bs.length:Int)/\(r'=.error (e,pl)\/(pl=bs.length/\Kk bs t lim r'))/\(p=bs.length->pl=bs.length)
section
variable{α β:Type} {bs t:List UInt8} {lim:Int} {s:Prop} {p:Nat} {M:α->Nat->Prop}
theorem Tm.ok{x:α}(a:p<=q)(b:q<=bs.length)(c:M x q):Tm bs t lim s p M (.ok (x,q)) (.ok (x,q)):=⟨a,b,c,.inl rfl⟩
theorem Tm.last{x:α}{r':Except (Int×Int) (α×Nat)}(h:p=bs.length)(b:Kk bs t lim r')(a:M x p):Tm bs t lim False p M (.ok (x,p)) r':=⟨kaf _,kek h,a,.inr ⟨id,h,b⟩⟩
theorem Tm.err(a:pl<=bs.length)(b:p=bs.length->pl=bs.length):Tm bs t lim s p M (.error (e,pl)) (.error (e,pl)):=⟨a,.inl rfl,b⟩
theorem Tm.stop{r':Except (Int×Int) (α×Nat)}(h:p=bs.length)(a:Kk bs t lim r'):Tm bs t lim s p M (.error (e,(p:Int))) r':=⟨by omega,.inr ⟨by omega,a⟩,λ_=>by omega⟩
theorem Tm.from_{r r':Except (Int×Int) (α×Nat)}(h:Tm bs t lim s q M r r')(b:p<=q)(c:q<=bs.length):Tm bs t lim s p M r r':=by
 rcases r with⟨e,d⟩|⟨x,y⟩
 ·exact⟨h.1,h.2.1,λa=>h.2.2 (by omega)⟩
 exact⟨kaj b h.1,h.2⟩
theorem Tm.any{r r1 r2:Except (Int×Int) (α×Nat)}(h:Tm bs t lim s bs.length M r r1)(a:Kk bs t lim r2):Tm bs t lim False bs.length M r r2:=by
 rcases r with⟨e,b⟩|⟨x,y⟩
 ·exact⟨h.1,.inr ⟨h.2.2 rfl,a⟩,h.2.2⟩
 exact⟨h.1,h.2.1,h.2.2.1,.inr ⟨id,Nat.le_antisymm h.2.1 h.1,a⟩⟩
theorem Tm.with_{M':α->Nat->Prop}{r r':Except (Int×Int) (α×Nat)}(h:Tm bs t lim s p M r r')(a:∀x q,p<=q->q<=bs.length->M x q->M' x q):Tm bs t lim s p M' r r':=by
 rcases r with⟨e,b⟩|⟨x,y⟩
 ·exact h
 exact⟨h.1,h.2.1,a x y h.1 h.2.1 h.2.2.1,h.2.2.2⟩
theorem Tm.bind{M2:β->Nat->Prop}{r r':Except (Int×Int) (α×Nat)}{R R':Except (Int×Int) (β×Nat)}(h:Tm bs t lim s p M r r')(m:∀e,r=.error e->R=.error e)(i:∀e,r'=.error e->R'=.error e)(n:∀x q,p<=q->q<=bs.length->M x q->r=.ok (x,q)->∃f,(r'=.ok (x,q)->R'=f)/\Tm bs t lim False q M2 R f):Tm bs t lim False p M2 R R':=by
 rcases r with⟨e,u⟩|⟨x,q⟩
 ·obtain⟨d,c,g⟩:=h;rw[m _ rfl];refine⟨d,?_,g⟩;rcases c with rfl|c
  ·exact .inl (i _ rfl)
  exact .inr ⟨c.1,λa b=>i _ (c.2 a b)⟩
 obtain⟨d,c,g,l⟩:=h;obtain⟨f,k,j⟩:=n x q d c g rfl;rcases l with rfl|⟨_,rfl,o⟩
 ·rw[k rfl];exact j.from_ d c
 exact(j.any λa b=>i _ (o a b)).from_ d c
theorem Tm.bindS{M2:β->Nat->Prop}{r r':Except (Int×Int) (α×Nat)}{R R':Except (Int×Int) (β×Nat)}(h:Tm bs t lim True p M r r')(j:∀e,r=.error e->R=.error e)(i:∀e,r'=.error e->R'=.error e)(k:∀x q,p<=q->q<=bs.length->M x q->r=.ok (x,q)->r'=.ok (x,q)->Tm bs t lim s p M2 R R'):Tm bs t lim s p M2 R R':=by
 rcases r with⟨e,l⟩|⟨x,q⟩
 ·obtain⟨d,c,f⟩:=h;rw[j _ rfl];refine⟨d,?_,f⟩;rcases c with rfl|c
  ·exact .inl (i _ rfl)
  exact .inr ⟨c.1,λa b=>i _ (c.2 a b)⟩
 obtain⟨d,c,f,g⟩:=h;rcases g with rfl|⟨g,_⟩
 ·exact k x q d c f rfl rfl
 exact absurd trivial g
theorem qlS(t:List UInt8)(h:t≠[]):∃c,(bs++t)[bs.length]?=some c:=by
 cases t with
 |nil=>exact absurd rfl h
 |cons c t=>exact⟨c,by simp⟩
theorem Tm.at_{r0 r1:Except (Int×Int) (α×Nat)}{G G':UInt8->Except (Int×Int) (α×Nat)}(j:p<=bs.length)(i:p=bs.length->∀g,Kk bs t lim g->Tm bs t lim s p M r0 g)(h:∀c,bs[p]?=some c->p<bs.length->Tm bs t lim s p M (G c) (G' c)):Tm bs t lim s p M (match(generalizing:=false) bs[p]? with|none=>r0|some c=>if(p:Int)=lim then .error (8,(p:Int))else G c) (match(generalizing:=false) (bs++t)[p]? with|none=>r1|some c=>if(p:Int)=lim then .error (8,(p:Int))else G' c):=by
 by_cases f:p<bs.length
 ·have e:(bs++t)[p]?=bs[p]?:=kau f;obtain⟨c,d⟩:∃c,bs[p]?=some c:=⟨_,kab f⟩
  rw[e,d];dsimp only;split
  ·exact Tm.err (by omega) (by omega)
  exact h c d f
 have e:bs[p]?=none:=kaC (by omega);obtain rfl:p=bs.length:=by omega
 rw[e];refine i rfl _ λa b=>?_;obtain⟨c,d⟩:=qlS t b;rw[d];subst a;exact kag rfl
theorem Tm.byte{G G':UInt8->Except (Int×Int) (α×Nat)}(b:p<=bs.length)(h:∀c,bs[p]?=some c->p<bs.length->Tm bs t lim s p M (G c) (G' c)):Tm bs t lim s p M (match(generalizing:=false) bs[p]? with|none=>.error (9,(p:Int))|some c=>if(p:Int)=lim then .error (8,(p:Int))else G c) (match(generalizing:=false) (bs++t)[p]? with|none=>.error (9,(p:Int))|some c=>if(p:Int)=lim then .error (8,(p:Int))else G' c):=Tm.at_ b (λe _ a=>Tm.stop e a) h
theorem Tm.ite{c:Prop}[Decidable c]{a b a' b':Except (Int×Int) (α×Nat)}(d:c->Tm bs t lim s p M a a')(e:¬c->Tm bs t lim s p M b b'):Tm bs t lim s p M (if c then a else b) (if c then a' else b'):=by
 by_cases h:c
 ·rw[kag h,kag h];exact d h
 rw[kac h,kac h];exact e h
end
theorem quD(bs t:List UInt8)(lim:Int):∀(g a p:Nat),p<=bs.length->bs.length<g+p->(bs++t).length<a+p->Tm bs t lim False p (λ_ _=>True) (spF bs lim g p) (spF (bs++t) lim a p)
 |0,_,p,h1,h2,_=>by omega
 |g+1,0,p,h1,_,h3=>by rw[kaa]at h3;omega
 |g+1,a+1,p,h1,h2,h3=>by
  unfold spF;refine Tm.at_ h1 (λe _ d=>Tm.last e d trivial) (λc f b=>Tm.ite (λ_=>?_) (λ_=>Tm.ok (kaf _) h1 trivial));exact(quD bs t lim g a (p+1) b (by omega) (by omega)).from_ (by omega) b
theorem qiy(bs t:List UInt8)(lim:Int)(p:Nat)(h:p<=bs.length):Tm bs t lim False p (λ_ _=>True) (spF bs lim (bs.length+1-p) p) (spF (bs++t) lim ((bs++t).length+1-p) p):=quD bs t lim _ _ p h (by omega) (by rw[kaa];omega)
theorem qmu(bs t:List UInt8)(lim:Int)(b:Nat)(z:Bool):∀(g a p d:Nat),p<=bs.length->bs.length<g+p->(bs++t).length<a+p->Tm bs t lim False p (λ_ _=>True) (qeA bs lim b z g p d) (qeA (bs++t) lim b z a p d)
 |0,_,p,_,h1,h2,_=>by omega
 |g+1,0,p,_,h1,_,h3=>by rw[kaa]at h3;omega
 |g+1,a+1,p,d,h1,h2,h3=>by
  unfold qeA;refine Tm.at_ h1 (λe _ h=>Tm.last e h trivial) (λc i f=>Tm.ite (λ_=>Tm.ite (λ_=>Tm.err (by omega) (by omega)) (λ_=>Tm.ite (λ_=>Tm.err (by omega) (by omega)) (λ_=>?_))) (λ_=>Tm.ite (λ_=>Tm.err (by omega) (by omega)) (λ_=>Tm.ok (kaf _) h1 trivial)));exact(qmu bs t lim b z g a (p+1) _ f (by omega) (by omega)).from_ (by omega) f
theorem qva(bs t:List UInt8)(lim:Int)(c:UInt8)(p:Nat)(h:p<=bs.length):Tm bs t lim False p (λ_ _=>True) (qel ⟨none,bs,0,0,lim,p,0⟩ c) (qel ⟨none,bs++t,0,0,lim,p,0⟩ c):=by
 unfold qel;refine Tm.ite (λ_=>Tm.byte h (λc e d=>Tm.ite (λ_=>?_) (λ_=>Tm.err (by show(p:Int)<=_;omega) (by show _->(p:Int)=_;omega)))) (λ_=>?_)
 ·refine Tm.from_ (q:=p+1) ?_ (by omega) d;refine Tm.bind (qmu bs t lim 9223372036854775808 (c.toNat==48) (bs.length+1-(p+1)) ((bs++t).length+1-(p+1)) (p+1) (c.toNat-48) d (by omega) (by rw[kaa];omega)) (λ_ z=>by rw[z]) (λ_ z=>by rw[z]) (λx q _ a _ b=>⟨_,λz=>by rw[z],?_⟩);rw[b];refine Tm.ok (kaf _) a trivial
 refine Tm.bind (qmu bs t lim 9223372036854775807 (c.toNat==48) (bs.length+1-p) ((bs++t).length+1-p) p (c.toNat-48) h (by omega) (by rw[kaa];omega)) (λ_ z=>by rw[z]) (λ_ z=>by rw[z]) (λx q _ a _ b=>⟨_,λz=>by rw[z],?_⟩);rw[b];refine Tm.ok (kaf _) a trivial
theorem qcV(bs t:List UInt8)(lim:Int):∀(a:List UInt8) (p:Nat),p<=bs.length->Tm bs t lim True p (λ_ q=>q=p+a.length) (qaO bs lim a p) (qaO (bs++t) lim a p)
 |[],p,h=>Tm.ok (kaf _) h rfl
 |x::a,p,h=>by
  unfold qaO;refine Tm.byte h (λc d b=>Tm.ite (λ_=>?_) (λ_=>Tm.err (by omega) (by omega)));exact((qcV bs t lim a (p+1) b).with_ (λ_ q _ _ e=>by rw[kah];omega)).from_ (by omega) b
theorem qm3(bs t:List UInt8)(lim:Int):∀(k p a:Nat),p<=bs.length->Tm bs t lim True p (λ_ q=>q=p+k) (qf5 bs lim k p a) (qf5 (bs++t) lim k p a)
 |0,p,a,h=>Tm.ok (kaf _) h rfl
 |k+1,p,a,h=>by
  unfold qf5;refine Tm.byte h (λc f b=>?_)
  cases qra c with
  |none=>exact Tm.err (by omega) (by omega)
  |some d=>exact((qm3 bs t lim k (p+1) _ b).with_ (λ_ q _ _ e=>by omega)).from_ (by omega) b
theorem qtU(bs t:List UInt8)(lim:Int)(p:Nat)(h:p<=bs.length):Tm bs t lim True p (λ_ q=>p+4<=q) (qfl bs lim p) (qfl (bs++t) lim p):=by
 unfold qfl;refine Tm.bindS (qm3 bs t lim 4 p 0 h) (λ_ z=>by rw[z]) (λ_ z=>by rw[z]) (λx q _ c e b a=>?_);rw[b,a];refine Tm.ite (λ_=>Tm.err (by omega) (by omega)) (λ_=>Tm.ite (λ_=>?_) (λ_=>Tm.ok (by omega) c (by omega)));refine Tm.from_ (q:=q) ?_ (by omega) c;refine Tm.bindS (qcV bs t lim [92,117] q c) (λ_ z=>by rw[z]) (λ_ z=>by rw[z]) (λ_ d _ g f b a=>?_);rw[b,a];dsimp only;have f:d=q+2:=f;refine Tm.from_ (q:=d) ?_ (by omega) g;refine Tm.bindS (qm3 bs t lim 4 d 0 g) (λ_ z=>by rw[z]) (λ_ z=>by rw[z]) (λy k _ i j b a=>?_);rw[b,a];refine Tm.ite (λ_=>Tm.ok (by omega) i (by omega)) (λ_=>Tm.err (by omega) (by omega))
theorem qxa(bs t:List UInt8)(lim:Int)(p:Nat)(h:p<=bs.length):Tm bs t lim True p (λ_ q=>p+1<=q) (qlv bs lim p) (qlv (bs++t) lim p):=by
 unfold qlv;refine Tm.byte h (λc b a=>?_)
 repeat' refine Tm.ite (λ_=>Tm.ok (by omega) a (kaf _)) (λ_=>?_)
 refine Tm.ite (λ_=>?_) (λ_=>Tm.err (by omega) (by omega));exact((qtU bs t lim (p+1) a).with_ (λ_ q _ _ e=>by omega)).from_ (by omega) a
theorem qj4(bs t:List UInt8)(lim:Int):∀(g a p:Nat) (d:List UInt8) (h:Nat),p<=bs.length->bs.length<g+p->(bs++t).length<a+p->Tm bs t lim True p (λl q=>l.length+4*p+4<=d.length+4*q) (qcU bs lim g p d h) (qcU (bs++t) lim a p d h)
 |0,_,p,_,_,h1,h2,_=>by omega
 |g+1,0,p,_,_,h1,_,h3=>by rw[kaa]at h3;omega
 |g+1,a+1,p,d,h,h1,h2,h3=>by
  unfold qcU;refine Tm.byte h1 (λc m b=>Tm.ite (λ_=>Tm.ok (by omega) b (by omega)) (λ_=>Tm.ite (λ_=>?_) (λ_=>Tm.ite (λ_=>Tm.err (by omega) (by omega)) (λ_=>Tm.ite (λ_=>Tm.err (by omega) (by omega)) (λ_=>?_)))))
  ·refine Tm.from_ (q:=p+1) ?_ (by omega) b;refine Tm.bindS (qxa bs t lim (p+1) b) (λ_ z=>by rw[z]) (λ_ z=>by rw[z]) (λr q _ i e k j=>?_);rw[k,j];dsimp only;refine Tm.from_ (q:=q) ?_ (by omega) i;refine(qj4 bs t lim g a q _ _ i (by omega) (by omega)).with_ (λl y _ _ f=>?_);have:=qcv r;rw[kaa]at f;omega
  refine((qj4 bs t lim g a (p+1) _ _ b (by omega) (by omega)).with_ (λl y _ _ f=>?_)).from_ (by omega) b;rw[kaa]at f;simp only[kah,kay]at f;omega
def szF:Nat->DataW Unit->Nat
 |0,_=>0
 |k+1,d=>match d with
  |.agg ds=>200+(ds.map λd=>30+szF k d).sum
  |.map es=>200+(es.map λe=>100+6*(qaN e.1).length+szF k e.2).sum
  |.lit (.string l)=>200+6*l.length
  |.ptr (.lit (.string l))=>200+6*l.length
  |_=>200
def SzT(p:Nat)(d:DataW Unit)(q:Nat):Prop:=∀k,szF k d+30+400*p<=400*q
def TmR(bs t:List UInt8)(lim:Int)(rd rd':Nat->Except (Int×Int) (DataW Unit×Nat)):Prop:=∀p,p<=bs.length->Tm bs t lim False p (SzT p) (rd p) (rd' p)
def sqL(k:Nat)(ds:List (DataW Unit)):Nat:=(ds.map λd=>30+szF k d).sum
def sqE(k:Nat)(es:List (Lit×DataW Unit)):Nat:=(es.map λe=>100+6*(qaN e.1).length+szF k e.2).sum
theorem qiU(k:Nat)(a:List (DataW Unit))(d:DataW Unit):sqL k (a++[d])=sqL k a+(30+szF k d):=by unfold sqL;simp
theorem qn5(k:Nat)(a:List (Lit×DataW Unit))(l:List UInt8)(d:DataW Unit):sqE k (a++[(.string l,d)])=sqE k a+(100+6*l.length+szF k d):=by unfold sqE;simp[qaN]
def Gth{α:Type}(μ:Nat->α->Nat)(a:α)(p:Nat)(b:α)(q:Nat):Prop:=∀k,μ k b+400*p<=μ k a+400*q
theorem qqL{α:Type}(bs t:List UInt8)(lim:Int)(μ:Nat->α->Nat)(itF j:α->Nat->Except (Int×Int) (α×Nat))(last:Nat)(hi:∀a p,p<=bs.length->Tm bs t lim False p (Gth μ a p) (itF a p) (j a p)):∀(g h p:Nat) (d:α),p<=bs.length->bs.length<g+p->(bs++t).length<h+p->Tm bs t lim False p (Gth μ d p) (qfZ bs lim itF last g p d) (qfZ (bs++t) lim j last h p d)
 |0,_,p,_,h1,h2,_=>by omega
 |g+1,0,p,_,h1,_,h3=>by rw[kaa]at h3;omega
 |g+1,h+1,p,d,h1,h2,h3=>by
  unfold qfZ;refine Tm.bind (qiy bs t lim p h1) (λ_ z=>by rw[z]) (λ_ z=>by rw[z]) (λ_ r v n _ f=>⟨_,λz=>by rw[z],?_⟩);rw[f];dsimp only;refine Tm.bind (hi d r n) (λ_ z=>by rw[z]) (λ_ z=>by rw[z]) (λm s w o l f=>⟨_,λz=>by rw[z],?_⟩);rw[f];dsimp only;refine Tm.bind (qiy bs t lim s o) (λ_ z=>by rw[z]) (λ_ z=>by rw[z]) (λ_ u x q _ f=>⟨_,λz=>by rw[z],?_⟩);rw[f];dsimp only;refine Tm.byte q (λc A i=>Tm.ite (λ_=>Tm.ok (by omega) i (λk=>by have:=l k;omega)) (λ_=>Tm.ite (λ_=>?_) (λ_=>Tm.err (by omega) (by omega))));exact((qqL bs t lim μ itF j last hi g h (u+1) m i (by omega) (by omega)).with_ (λb y _ _ e k=>by have:=e k;have:=l k;omega)).from_ (by omega) i
theorem qpP{α:Type}(bs t:List UInt8)(lim:Int)(μ:Nat->α->Nat)(itF g:α->Nat->Except (Int×Int) (α×Nat))(last:Nat)(hi:∀a p,p<=bs.length->Tm bs t lim False p (Gth μ a p) (itF a p) (g a p))(p:Nat)(d:α)(j:p<=bs.length):Tm bs t lim False p (Gth μ d p) (qdV bs lim itF last p d) (qdV (bs++t) lim g last p d):=by
 unfold qdV;refine Tm.bind (qiy bs t lim p j) (λ_ z=>by rw[z]) (λ_ z=>by rw[z]) (λ_ f o i _ n=>⟨_,λz=>by rw[z],?_⟩);rw[n];dsimp only;have h:Tm bs t lim False f (Gth μ d p) (qfZ bs lim itF last (bs.length+1-f) f d) (qfZ (bs++t) lim g last ((bs++t).length+1-f) f d):=(qqL bs t lim μ itF g last hi _ _ f d i (by omega) (by rw[kaa];omega)).with_ (λb y _ _ e k=>by have:=e k;omega);refine Tm.at_ i (λe r l=>?_) (λc q m=>Tm.ite (λ_=>Tm.ok (by omega) m (λk=>by omega)) (λ_=>h));subst e;exact h.any l
theorem qyX(c:TmR bs t lim rd rd')(a:List (DataW Unit))(p:Nat)(h:p<=bs.length):Tm bs t lim False p (Gth sqL a p) (liJ rd a p) (liJ rd' a p):=by
 unfold liJ;refine Tm.bind (c p h) (λ_ z=>by rw[z]) (λ_ z=>by rw[z]) (λd q _ b e f=>⟨_,λz=>by rw[z],?_⟩);rw[f];refine Tm.ok (kaf _) b (λk=>by have:=e k;rw[qiU];omega)
theorem qv0(bs t:List UInt8)(lim:Int)(ks:List (List UInt8))(p:Nat)(h:p<=bs.length):Tm bs t lim True p (λl q=>l.length+4*p+8<=4*q) (qlw bs lim ks p) (qlw (bs++t) lim ks p):=by
 unfold qlw;refine Tm.bindS (qcV bs t lim [34] p h) (λ_ z=>by rw[z]) (λ_ z=>by rw[z]) (λ_ q _ c e b a=>?_);rw[b,a];dsimp only;have e:q=p+1:=e;refine Tm.from_ (q:=q) ?_ (by omega) c;refine Tm.bindS (qj4 bs t lim (bs.length+1-q) ((bs++t).length+1-q) q [] 0 c (by omega) (by rw[kaa];omega)) (λ_ z=>by rw[z]) (λ_ z=>by rw[z]) (λl r _ f d b a=>?_);rw[b,a];dsimp only;rw[kay]at d;exact Tm.ite (λ_=>Tm.err (by omega) (by omega)) (λ_=>Tm.ok (by omega) f (by omega))
def szM(k:Nat)(a:List (List UInt8)×List (Lit×DataW Unit)):Nat:=sqE k a.2
theorem qxH(bs t:List UInt8)(lim:Int)(m:TmR bs t lim rd rd')(a:List (List UInt8)×List (Lit×DataW Unit))(p:Nat)(h:p<=bs.length):Tm bs t lim False p (Gth szM a p) (enJ bs lim rd a p) (enJ (bs++t) lim rd' a p):=by
 unfold enJ;refine Tm.bind (qv0 bs t lim a.1 p h) (λ_ z=>by rw[z]) (λ_ z=>by rw[z]) (λl n _ e s b=>⟨_,λz=>by rw[z],?_⟩);rw[b];dsimp only;refine Tm.bind (qiy bs t lim n e) (λ_ z=>by rw[z]) (λ_ z=>by rw[z]) (λ_ o _ f _ b=>⟨_,λz=>by rw[z],?_⟩);rw[b];dsimp only;refine Tm.bind (qcV bs t lim [58] o f) (λ_ z=>by rw[z]) (λ_ z=>by rw[z]) (λ_ q _ g _ b=>⟨_,λz=>by rw[z],?_⟩);rw[b];dsimp only;refine Tm.bind (qiy bs t lim q g) (λ_ z=>by rw[z]) (λ_ z=>by rw[z]) (λ_ r _ i _ b=>⟨_,λz=>by rw[z],?_⟩);rw[b];dsimp only;refine Tm.bind (m r i) (λ_ z=>by rw[z]) (λ_ z=>by rw[z]) (λd u _ j c b=>⟨_,λz=>by rw[z],?_⟩);rw[b];refine Tm.ok (kaf _) j (λk=>?_);have:=c k;unfold szM;rw[qn5];omega
theorem qcB{d:DataW Unit}(h:∀k,szF (k+1) d=200)(a:p<q):SzT p d q:=λk=>by
 cases k with
 |zero=>show 0+30+_<=_;omega
 |succ k=>rw[h k];omega
theorem qqb(a:l.length+4*(p+1)<=4*q):SzT p (.lit (.string l)) q:=λk=>by
 cases k with
 |zero=>show 0+30+_<=_;omega
 |succ k=>show 200+6*l.length+30+_<=_;omega
theorem quc(a:l.length+4*(p+1)<=4*q):SzT p (.ptr (.lit (.string l))) q:=λk=>by
 cases k with
 |zero=>show 0+30+_<=_;omega
 |succ k=>show 200+6*l.length+30+_<=_;omega
theorem qpo{ds:List (DataW Unit)}(b:p<r)(a:r<=q)(h:Gth sqL [] r ds q):SzT p (.agg ds) q:=λk=>by
 cases k with
 |zero=>show 0+30+_<=_;omega
 |succ k =>
  have:=h k;show 200+sqL k ds+30+_<=_;have e:sqL k []=0:=rfl;omega
theorem qur{es:List (Lit×DataW Unit)}(b:p<r)(a:r<=q)(h:Gth sqE [] r es q):SzT p (.map es) q:=λk=>by
 cases k with
 |zero=>show 0+30+_<=_;omega
 |succ k =>
  have:=h k;show 200+sqE k es+30+_<=_;have e:sqE k []=0:=rfl;omega
theorem qvA(bs t:List UInt8)(lim depth:Int)(wi:Nat)(g:¬(wi:Int)=depth->TmR bs t lim rd rd')(c:UInt8)(p:Nat)(h:p+1<=bs.length):Tm bs t lim False p (SzT p) (qjM bs lim depth wi rd (λc p=>qel ⟨none,bs,0,0,lim,p,0⟩ c) c (p+1)) (qjM (bs++t) lim depth wi rd' (λc p=>qel ⟨none,bs++t,0,0,lim,p,0⟩ c) c (p+1)):=by
 unfold qjM;refine Tm.ite (λ_=>?_) (λ_=>Tm.ite (λ_=>?_) (λ_=>Tm.ite (λ_=>?_) (λ_=>Tm.ite (λ_=>?_) (λ_=>Tm.ite (λ_=>?_) (λ_=>Tm.ite (λ_=>?_) (λ_=>Tm.ite (λ_=>?_) (λ_=>?_)))))))
 ·refine Tm.from_ (q:=p+1) ?_ (by omega) h;refine Tm.bind (qcV bs t lim _ (p+1) h) (λ_ z=>by rw[z]) (λ_ z=>by rw[z]) (λ_ q d a _ b=>⟨_,λz=>by rw[z],?_⟩);rw[b];refine Tm.ok (kaf _) a (qcB (λ_=>rfl) (by omega))
 ·refine Tm.from_ (q:=p+1) ?_ (by omega) h;refine Tm.bind (qcV bs t lim _ (p+1) h) (λ_ z=>by rw[z]) (λ_ z=>by rw[z]) (λ_ q d a _ b=>⟨_,λz=>by rw[z],?_⟩);rw[b];refine Tm.ok (kaf _) a (qcB (λ_=>rfl) (by omega))
 ·refine Tm.from_ (q:=p+1) ?_ (by omega) h;refine Tm.bind (qcV bs t lim _ (p+1) h) (λ_ z=>by rw[z]) (λ_ z=>by rw[z]) (λ_ q d a _ b=>⟨_,λz=>by rw[z],?_⟩);rw[b];refine Tm.ok (kaf _) a (qcB (λ_=>rfl) (by omega))
 ·refine Tm.from_ (q:=p+1) ?_ (by omega) h;refine Tm.bind (qj4 bs t lim (bs.length+1-(p+1)) ((bs++t).length+1-(p+1)) (p+1) [] 0 h (by omega) (by rw[kaa];omega)) (λ_ z=>by rw[z]) (λ_ z=>by rw[z]) (λl q d a e b=>⟨_,λz=>by rw[z],?_⟩);rw[b];refine Tm.ok (kaf _) a (qqb ?_);rw[kay]at e;omega
 ·refine Tm.ite (λ_=>Tm.err (by omega) (by omega)) (λf=>?_);refine Tm.from_ (q:=p+1) ?_ (by omega) h;refine Tm.bind (qpP bs t lim sqL _ _ 93 (qyX (g f)) (p+1) [] h) (λ_ z=>by rw[z]) (λ_ z=>by rw[z]) (λi q d a e b=>⟨_,λz=>by rw[z],?_⟩);rw[b];refine Tm.ok (kaf _) a (qpo (kcS p) d e)
 ·refine Tm.ite (λ_=>Tm.err (by omega) (by omega)) (λf=>?_);refine Tm.from_ (q:=p+1) ?_ (by omega) h;refine Tm.bind (qpP bs t lim szM _ _ 125 (qxH bs t lim (g f)) (p+1) ([],[]) h) (λ_ z=>by rw[z]) (λ_ z=>by rw[z]) (λj q d a e b=>⟨_,λz=>by rw[z],?_⟩);rw[b];refine Tm.ok (kaf _) a (qur (kcS p) d e)
 ·dsimp only;refine Tm.from_ (q:=p+1) ?_ (by omega) h;refine Tm.bind (qva bs t lim c (p+1) h) (λ_ z=>by rw[z]) (λ_ z=>by rw[z]) (λz q d a _ b=>⟨_,λz=>by rw[z],?_⟩);rw[b];refine Tm.ok (kaf _) a (qcB (λ_=>rfl) (by omega))
 exact Tm.err (by omega) (by omega)
theorem qxT(bs t:List UInt8)(lim depth:Int)(g:Nat):∀(a:Nat),(a:Int)<=depth->depth<a+g->TmR bs t lim (thJ bs lim depth (λc p=>qel ⟨none,bs,0,0,lim,p,0⟩ c) g a) (thJ (bs++t) lim depth (λc p=>qel ⟨none,bs++t,0,0,lim,p,0⟩ c) g a):=by
 induction g with
 |zero=>intro a b d;omega
 |succ g h =>
  intro a b d p f;unfold thJ;refine Tm.byte f (λc i e=>?_);exact qvA bs t lim depth a (λj=>h (a+1) (by omega) (by omega)) c p e
theorem qmm(bs t:List UInt8)(lim:Int):∀(k p a:Nat),p<=bs.length->Tm bs t lim True p (λ_ q=>q=p+k) (qc4 bs lim k p a) (qc4 (bs++t) lim k p a)
 |0,p,a,h=>Tm.ok (kaf _) h rfl
 |k+1,p,a,h=>by
  unfold qc4;refine Tm.byte h (λc d b=>?_);exact((qmm bs t lim k (p+1) _ b).with_ (λ_ q _ _ e=>by omega)).from_ (by omega) b
theorem qrB(bs t:List UInt8)(lim:Int):∀(k p:Nat) (b:List UInt8),p<=bs.length->Tm bs t lim True p (λl q=>l.length+p=b.length+q) (qgs bs lim k p b) (qgs (bs++t) lim k p b)
 |0,p,a,h=>Tm.ok (kaf _) h rfl
 |k+1,p,b,h=>by
  unfold qgs;refine Tm.byte h (λc f d=>?_);refine((qrB bs t lim k (p+1) _ d).with_ (λ_ q _ _ e=>?_)).from_ (by omega) d;rw[kaa,kah,kay]at e;omega
theorem qml(bs t:List UInt8)(lim:Int)(g:Nat):∀(k p:Nat) (d:List UInt8) (f:Nat),g<=p->p<=bs.length->(g=p->f=d.length)->Tm bs t lim True g (λl q=>l.length+p=d.length+q) (qdm bs lim k p d f) (qdm (bs++t) lim k p d f)
 |0,p,d,f,h0,h,hw=>by
  unfold qdm;exact Tm.ite (λ_=>Tm.ok h0 h rfl) (λm=>Tm.err (by omega) (λe=>absurd (hw (by omega)) m))
 |k+1,p,d,f,h0,h,hw=>by
  unfold qdm;by_cases j:p<bs.length
  ·have e:(bs++t)[p]?=bs[p]?:=kau j;obtain⟨c,i⟩:∃c,bs[p]?=some c:=⟨_,kab j⟩
   rw[e,i];refine Tm.ite (λ_=>Tm.err (by omega) (by omega)) (λ_=>Tm.ite (λ_=>Tm.err (by omega) (by omega)) (λ_=>?_));refine(qml bs t lim g k (p+1) _ _ (by omega) j (by omega)).with_ (λl q _ _ e=>?_);rw[kaa,kah,kay]at e;omega
  have e:bs[p]?=none:=kaC (by omega);obtain rfl:p=bs.length:=by omega
  rw[e];refine⟨by omega,.inr ⟨by omega,λa b=>?_⟩,λ_=>by omega⟩;obtain⟨c,i⟩:=qlS t b;rw[i];subst a;exact kag rfl
theorem qwM(d:Nat->Nat×Nat×Nat)(bs t:List UInt8)(lim:Int)(ks:List (List UInt8))(p:Nat)(h:p<=bs.length):Tm bs t lim True p (λl q=>l.length+p+1<=q) (qet d bs lim ks p) (qet d (bs++t) lim ks p):=by
 unfold qet;refine Tm.byte h (λc k f=>Tm.ite (λ_=>?_) (λ_=>Tm.err (by omega) (by omega)));refine Tm.bindS ((qmm bs t lim _ (p+1) _ f).from_ (kda p) f) (λ_ z=>by rw[z]) (λ_ z=>by rw[z]) (λx q _ i e b a=>?_);rw[b,a];dsimp only;refine Tm.bindS (qml bs t lim p x q [] 0 (by omega) i (λ_=>rfl)) (λ_ z=>by rw[z]) (λ_ z=>by rw[z]) (λl r _ j g b a=>?_);rw[b,a];dsimp only;rw[kay]at g;exact Tm.ite (λ_=>Tm.err (by omega) (by omega)) (λ_=>Tm.ok (by omega) j (by omega))
theorem qkL(a:TmR bs t lim rd rd'):∀(k p:Nat) (acc:List (DataW Unit)),p<=bs.length->Tm bs t lim False p (Gth sqL acc p) (qbn rd k p acc) (qbn rd' k p acc)
 |0,p,acc,h=>Tm.ok (kaf _) h (λ_=>kaf _)
 |k+1,p,acc,h=>by
  unfold qbn;refine Tm.bind (a p h) (λ_ z=>by rw[z]) (λ_ z=>by rw[z]) (λd q _ g e i=>⟨_,λz=>by rw[z],?_⟩);rw[i];dsimp only;refine(qkL a k q _ g).with_ (λb y _ _ c j=>?_);have l:=e j;have f:=c j;rw[qiU]at f;omega
theorem qgG{kf kf':List (List UInt8)->Nat->Except (Int×Int) (List UInt8×Nat)}(f:∀a p,p<=bs.length->Tm bs t lim True p (λl q=>l.length+p+1<=q) (kf a p) (kf' a p))(g:TmR bs t lim rd rd'):∀(k p:Nat) (a:List (List UInt8)) (acc:List (Lit×DataW Unit)),p<=bs.length->Tm bs t lim False p (Gth sqE acc p) (qa7 kf rd k p a acc) (qa7 kf' rd' k p a acc)
 |0,p,a,acc,h=>Tm.ok (kaf _) h (λ_=>kaf _)
 |k+1,p,a,acc,h=>by
  unfold qa7;refine Tm.bind (f a p h) (λ_ z=>by rw[z]) (λ_ z=>by rw[z]) (λl q _ n s c=>⟨_,λz=>by rw[z],?_⟩);rw[c];dsimp only;refine Tm.bind (g q n) (λ_ z=>by rw[z]) (λ_ z=>by rw[z]) (λd r _ o e c=>⟨_,λz=>by rw[z],?_⟩);rw[c];dsimp only;refine(qgG f g k r _ _ o).with_ (λb y _ _ i j=>?_);have u:=e j;have m:=i j;rw[qn5]at m;omega
theorem qqV(p:Nat)(c w:Int)(x q:Nat)(a:p<q)(b:q<=bs.length){R:Except (Int×Int) (DataW Unit×Nat)}(h:R=match nbF c w x q with|.error e=>.error e|.ok z=>.ok (.lit (.int .i64 z),q)):Tm bs t lim False p (SzT p) R R:=by
 rw[h];unfold nbF;by_cases d:(c==5)=true
 ·rw[kag d];exact Tm.ok (by omega) b (qcB (λ_=>rfl) a)
 rw[kac d];by_cases f:9223372036854775807<x
 ·rw[kag f];exact Tm.err (by omega) (by omega)
 rw[kac f];by_cases g:(c==6)=true
 ·rw[kag g];exact Tm.ok (by omega) b (qcB (λ_=>rfl) a)
 rw[kac g];exact Tm.ok (by omega) b (qcB (λ_=>rfl) a)
theorem qv1(bs t:List UInt8)(lim:Int){li li':Nat->Nat->Except (Int×Int) (List (DataW Unit)×Nat)}{ma ma':Nat->Nat->Except (Int×Int) (List (Lit×DataW Unit)×Nat)}(g w x p q:Nat)(b:p<q)(a:q<=bs.length)(h:g=9->Tm bs t lim False q (Gth sqL [] q) (li x q) (li' x q))(i:g=10->Tm bs t lim False q (Gth sqE [] q) (ma x q) (ma' x q)):Tm bs t lim False p (SzT p) (qgw bs lim li ma g w x q) (qgw (bs++t) lim li' ma' g w x q):=by
 unfold qgw;split
 ·exact Tm.ok (by omega) a (qcB (λ_=>rfl) b)
 ·exact Tm.ok (by omega) a (qcB (λ_=>rfl) b)
 ·exact qqV p 4 w x q b a rfl
 ·exact qqV p 5 w x q b a rfl
 ·exact qqV p 6 w x q b a rfl
 ·refine Tm.from_ (q:=q) ?_ (by omega) a;refine Tm.bind (qrB bs t lim x q [] a) (λ_ z=>by rw[z]) (λ_ z=>by rw[z]) (λl r f c e d=>⟨_,λz=>by rw[z],?_⟩);rw[d];dsimp only;rw[kay]at e;exact Tm.ok (by omega) c (quc (by omega))
 ·refine Tm.from_ (q:=q) ?_ (by omega) a;refine Tm.bind (qml bs t lim q x q [] 0 (kaf _) a (λ_=>rfl)) (λ_ z=>by rw[z]) (λ_ z=>by rw[z]) (λl r f c e d=>⟨_,λz=>by rw[z],?_⟩);rw[d];dsimp only;rw[kay]at e;exact Tm.ok (by omega) c (qqb (by omega))
 ·refine Tm.from_ (q:=q) ?_ (by omega) a;refine Tm.bind (h rfl) (λ_ z=>by rw[z]) (λ_ z=>by rw[z]) (λj r f c e d=>⟨_,λz=>by rw[z],?_⟩);rw[d];refine Tm.ok (by omega) c (qpo b f e)
 ·refine Tm.from_ (q:=q) ?_ (by omega) a;refine Tm.bind (i rfl) (λ_ z=>by rw[z]) (λ_ z=>by rw[z]) (λk r f c e d=>⟨_,λz=>by rw[z],?_⟩);rw[d];refine Tm.ok (by omega) c (qur b f e)
 exact Tm.ok (by omega) a (qcB (λ_=>rfl) b)
theorem qu7(b:Nat->Nat×Nat×Nat)(bs t:List UInt8)(lim depth:Int)(g:Nat):∀(a:Nat),(a:Int)<=depth->depth<a+g->TmR bs t lim (thB b bs lim depth g a) (thB b (bs++t) lim depth g a):=by
 induction g with
 |zero=>intro a j l;omega
 |succ g s =>
  intro a j l p m;unfold thB;refine Tm.byte m (λc u i=>Tm.ite (λ_=>Tm.err (by omega) (by omega)) (λ_=>Tm.ite (λ_=>Tm.err (by omega) (by omega)) (λn=>?_)));have h:(b c.toNat).1=9\/(b c.toNat).1=10->TmR bs t lim (thB b bs lim depth g (a+1)) (thB b (bs++t) lim depth g (a+1)):=λd=>by
   have:¬(a:Int)=depth:=λe=>n ⟨d,e⟩;exact s (a+1) (by omega) (by omega)
  refine Tm.bindS ((qmm bs t lim _ (p+1) _ i).from_ (kda p) i) (λ_ z=>by rw[z]) (λ_ z=>by rw[z]) (λx q _ f e r o=>?_);rw[r,o];dsimp only;exact qv1 bs t lim _ _ x p q (by omega) f (λd=>qkL (h (.inl d)) x q [] f) (λk=>qgG (qwM b bs t lim) (h (.inr k)) x q [] [] f)
def dcP(n:Nat)(r:Except (Int×Int) (DataW Unit)):Except (Int×Int) (DataW Unit×Nat):=match r with
 |.error e=>.error e
 |.ok d=>.ok (d,n)
theorem qxb(bs t:List UInt8)(lim:Int){sp sp':Nat->Except (Int×Int) (Unit×Nat)}{th th':Nat->Except (Int×Int) (DataW Unit×Nat)}(l:∀p,p<=bs.length->Tm bs t lim False p (λ_ _=>True) (sp p) (sp' p))(q:TmR bs t lim th th'):Tm bs t lim False 0 (λd _=>∀k,szF k d+30<=400*bs.length) (dcP bs.length (qpa sp th bs lim)) (dcP (bs++t).length (qpa sp' th' (bs++t) lim)):=by
 unfold qpa;refine Tm.bind (l 0 (kaY _)) (λ_ z=>by rw[z];rfl) (λ_ z=>by rw[z];rfl) (λ_ r _ n _ g=>⟨_,λz=>by rw[z],?_⟩);rw[g];dsimp only;refine Tm.bind (q r n) (λ_ z=>by rw[z];rfl) (λ_ z=>by rw[z];rfl) (λd s _ o m g=>⟨_,λz=>by rw[z],?_⟩);rw[g];dsimp only;refine Tm.bind (l s o) (λ_ z=>by rw[z];rfl) (λ_ z=>by rw[z];rfl) (λ_ f _ u _ g=>⟨_,λz=>by rw[z],?_⟩);rw[g];dsimp only;unfold qsi;dsimp only;by_cases j:f<bs.length
 ·have e:(bs++t)[f]?=bs[f]?:=kau j;obtain⟨c,h⟩:∃c,bs[f]?=some c:=⟨_,kab j⟩
  rw[e,h];dsimp only;by_cases i:(f:Int)=lim
  ·rw[kag i];exact Tm.err (by omega) (by omega)
  rw[kac i];exact Tm.err (by omega) (by omega)
 have e:bs[f]?=none:=kaC (by omega);obtain rfl:f=bs.length:=by omega
 rw[e];refine⟨kaf _,kaf _,λk=>(by have:=m k;omega),.inr ⟨id,rfl,λa b=>?_⟩⟩;obtain⟨c,h⟩:=qlS t b;rw[h];subst a;dsimp only;rw[kag rfl];rfl
theorem qlE(b:Int)(bs t:List UInt8)(d lim:Int)(c:0<=d):Tm bs t lim False 0 (λd _=>∀k,szF k d+30<=400*bs.length) (dcP bs.length (qdA b bs d lim)) (dcP (bs++t).length (qdA b (bs++t) d lim)):=by
 unfold qdA;refine qxb bs t lim (λp a=>?_) (λp a=>?_)
 ·unfold spO;exact Tm.ite (λ_=>qiy bs t lim p a) (λ_=>Tm.ok (kaf _) a trivial)
 unfold thO;exact Tm.ite (λ_=>qxT bs t lim d (d.toNat+1) 0 (by omega) (by omega) p a) (λ_=>Tm.ite (λ_=>qu7 qdM bs t lim d (d.toNat+1) 0 (by omega) (by omega) p a) (λ_=>qu7 qcb bs t lim d (d.toNat+1) 0 (by omega) (by omega) p a))
theorem qoj(b:Int)(bs t:List UInt8)(d lim:Int)(f:0<=d){en:Int}(h:qdA b bs d lim=.error (en,pl))(g:¬pl=bs.length):pl<bs.length/\qdA b (bs++t) d lim=.error (en,pl):=by
 have:=qlE b bs t d lim f;rw[h]at this;obtain⟨i,a,_⟩:=this;rcases a with a|a
 ·refine⟨by omega,?_⟩
  cases c:qdA b (bs++t) d lim with
  |error e=>rw[c]at a;cases a;rfl
  |ok d=>rw[c]at a;cases a
 exact absurd a.1 g
theorem qhr(a:Int)(bs:List UInt8)(d lim:Int)(b:0<=d){x:DataW Unit}(h:qdA a bs d lim=.ok x)(k:Nat):szF k x+30<=400*bs.length:=by
 have:=qlE a bs [] d lim b;rw[h]at this;exact this.2.2.1 k
theorem qiZ(b:Int)(s:List UInt8)(d lim:Int)(l:0<=d)(o:0<=lim):qdA b (s.take (lim.toNat+1)) d lim=qdA b s d lim:=by
 by_cases h:s.length<=lim.toNat+1
 ·rw[kaU h]
 obtain⟨i,g,j,n⟩:∃i g,qdA b (s.take (lim.toNat+1)) d lim=.error (i,g)/\g<=lim:=by
  have p:(s.take lim.toNat).length=lim.toNat:=by rw[kbc];omega
  have:=qlE b (s.take lim.toNat) [s[lim.toNat]] d lim l;rw[List.take_append_getElem]at this;have f:lim=(s.take lim.toNat).length:=by omega
  have q:(s.take (lim.toNat+1)).length=lim.toNat+1:=by rw[kbc];omega
  cases k:qdA b (s.take (lim.toNat+1)) d lim with
  |error e =>
   refine⟨e.1,e.2,rfl,?_⟩;rw[k]at this
   cases c:qdA b (s.take lim.toNat) d lim with
   |error m =>
    rw[c]at this;rcases this.2.1 with a|⟨_,a⟩
    ·cases a;have:=this.1;omega
    cases a f (by simp);exact kdb _
   |ok x =>
    rw[c]at this;rcases this.2.2.2 with a|⟨_,_,a⟩
    ·cases a
    cases a f (by simp);exact kdb _
  |ok x =>
   rw[k]at this
   cases c:qdA b (s.take lim.toNat) d lim with
   |error m =>
    rw[c]at this;rcases this.2.1 with a|⟨_,a⟩
    ·cases a
    cases a f (by simp)
   |ok x =>
    rw[c]at this;rcases this.2.2.2 with a|⟨_,_,a⟩
    ·injection a with a;have:=congrArg Prod.snd a;omega
    cases a f (by simp)
 have:=qoj b (s.take (lim.toNat+1)) (s.drop (lim.toNat+1)) d lim l j (by rw[kbc];omega);rw[kbu]at this;rw[j,this.2]

end
end Go.Proofs.YtmajcjammmjimaaGreatDoor
