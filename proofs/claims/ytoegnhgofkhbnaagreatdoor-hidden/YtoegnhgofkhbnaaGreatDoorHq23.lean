import Derived.Test.YtoegnhgofkhbnaaGreatDoorHq22
set_option maxRecDepth 100000
set_option maxHeartbeats 8000000
set_option linter.all false
namespace Go.Proofs.YtoegnhgofkhbnaaGreatDoor
open Go.Proofs.Tryz
open Go.Value renaming int->A7,slice->A8,pointer->A9,tuple->Ab
open Go.Obj renaming cells->Af
open Go.IntKind renaming i64->Ah
open Option renaming some->Aj,none->Ak
open Go renaming World->Al,Value->Am
variable{k p p' q r:Nat}{d' e lim lim' pl:Int}{bs bs' t:A2}{rd rd':Nat->Except (Int×Int) (DataW Unit×Nat)}{d:A3}{F:Nat->Prop}
section
open Go.RowKit Go.Lib
def Kk{α:Type}(bs t:A2)(lim:Int)(r':Except (Int×Int) α):Prop:=lim=bs.length->t≠[]->r'=.error (8,lim)
def Tm{α:Type}(bs t:A2)(lim:Int)(s:Prop)(p:Nat)(M:α->Nat->Prop)(r r':A6 α):Prop :=
 match r with
 |.ok (x,q)=>p<=q/\q<=bs.length/\M x q/\(r'=.ok (x,q)\/(¬s/\q=bs.length/\Kk bs t lim r'))
 |.error (e,pl)=>pl<=(bs.length:Int)/\(r'=.error (e,pl)\/(pl=bs.length/\Kk bs t lim r'))/\(p=bs.length->pl=bs.length)
section
variable{α β:Type} {bs t:A2} {lim:Int} {s:Prop} {p:Nat} {M:α->Nat->Prop}
theorem Tm.ok{x:α}(a:p<=q)(b:q<=bs.length)(c:M x q):Tm bs t lim s p M (.ok (x,q)) (.ok (x,q)):=⟨a,b,c,.inl rfl⟩
theorem Tm.last{x:α}{r':A6 α}(h:p=bs.length)(b:Kk bs t lim r')(a:M x p):Tm bs t lim False p M (.ok (x,p)) r':=⟨AB _,LM h,a,.inr ⟨id,h,b⟩⟩
theorem Tm.err(a:pl<=bs.length)(b:p=bs.length->pl=bs.length):Tm bs t lim s p M (.error (e,pl)) (.error (e,pl)):=⟨a,.inl rfl,b⟩
theorem Tm.stop{r':A6 α}(h:p=bs.length)(a:Kk bs t lim r'):Tm bs t lim s p M (.error (e,(p:Int))) r':=⟨by omega,.inr ⟨by omega,a⟩,λ_=>by omega⟩
theorem Tm.from_{r r':A6 α}(h:Tm bs t lim s q M r r')(b:p<=q)(c:q<=bs.length):Tm bs t lim s p M r r':=by
 rcases r with⟨e,d⟩|⟨x,y⟩
 ·exact⟨h.1,h.2.1,λa=>h.2.2 (by omega)⟩
 exact⟨AW b h.1,h.2⟩
theorem Tm.any{r r1 r2:A6 α}(h:Tm bs t lim s bs.length M r r1)(a:Kk bs t lim r2):Tm bs t lim False bs.length M r r2:=by
 rcases r with⟨e,b⟩|⟨x,y⟩
 ·exact⟨h.1,.inr ⟨h.2.2 rfl,a⟩,h.2.2⟩
 exact⟨h.1,h.2.1,h.2.2.1,.inr ⟨id,Nat.le_antisymm h.2.1 h.1,a⟩⟩
theorem Tm.with_{M':α->Nat->Prop}{r r':A6 α}(h:Tm bs t lim s p M r r')(a:∀x q,p<=q->q<=bs.length->M x q->M' x q):Tm bs t lim s p M' r r':=by
 rcases r with⟨e,b⟩|⟨x,y⟩
 ·exact h
 exact⟨h.1,h.2.1,a x y h.1 h.2.1 h.2.2.1,h.2.2.2⟩
theorem Tm.bind{M2:β->Nat->Prop}{r r':A6 α}{R R':A6 β}(h:Tm bs t lim s p M r r')(m:∀e,r=.error e->R=.error e)(i:∀e,r'=.error e->R'=.error e)(n:∀x q,p<=q->q<=bs.length->M x q->r=.ok (x,q)->∃f,(r'=.ok (x,q)->R'=f)/\Tm bs t lim False q M2 R f):Tm bs t lim False p M2 R R':=by
 rcases r with⟨e,u⟩|⟨x,q⟩
 ·obtain⟨d,c,g⟩:=h;rw[m _ rfl];refine⟨d,?_,g⟩;rcases c with rfl|c
  ·exact .inl (i _ rfl)
  exact .inr ⟨c.1,λa b=>i _ (c.2 a b)⟩
 obtain⟨d,c,g,l⟩:=h;obtain⟨f,k,j⟩:=n x q d c g rfl;rcases l with rfl|⟨_,rfl,o⟩
 ·rw[k rfl];exact j.from_ d c
 exact(j.any λa b=>i _ (o a b)).from_ d c
theorem Tm.bindS{M2:β->Nat->Prop}{r r':A6 α}{R R':A6 β}(h:Tm bs t lim True p M r r')(j:∀e,r=.error e->R=.error e)(i:∀e,r'=.error e->R'=.error e)(k:∀x q,p<=q->q<=bs.length->M x q->r=.ok (x,q)->r'=.ok (x,q)->Tm bs t lim s p M2 R R'):Tm bs t lim s p M2 R R':=by
 rcases r with⟨e,l⟩|⟨x,q⟩
 ·obtain⟨d,c,f⟩:=h;rw[j _ rfl];refine⟨d,?_,f⟩;rcases c with rfl|c
  ·exact .inl (i _ rfl)
  exact .inr ⟨c.1,λa b=>i _ (c.2 a b)⟩
 obtain⟨d,c,f,g⟩:=h;rcases g with rfl|⟨g,_⟩
 ·exact k x q d c f rfl rfl
 exact absurd trivial g
theorem Ye(t:A2)(h:t≠[]):∃c,(bs++t)[bs.length]?=Aj c:=by
 cases t with
 |nil=>exact absurd rfl h
 |cons c t=>exact⟨c,by simp⟩
theorem Tm.at_{r0 r1:A6 α}{G G':UInt8->A6 α}(j:p<=bs.length)(i:p=bs.length->∀g,Kk bs t lim g->Tm bs t lim s p M r0 g)(h:∀c,bs[p]?=Aj c->p<bs.length->Tm bs t lim s p M (G c) (G' c)):Tm bs t lim s p M (match(generalizing:=false) bs[p]? with|none=>r0|some c=>if(p:Int)=lim then .error (8,(p:Int))else G c) (match(generalizing:=false) (bs++t)[p]? with|none=>r1|some c=>if(p:Int)=lim then .error (8,(p:Int))else G' c):=by
 by_cases f:p<bs.length
 ·have e:(bs++t)[p]?=bs[p]?:=E3 f;obtain⟨c,d⟩:∃c,bs[p]?=Aj c:=⟨_,AY f⟩
  rw[e,d];dsimp only;split
  ·exact Tm.err (by omega) (by omega)
  exact h c d f
 have e:bs[p]?=Ak:=DI (by omega);obtain rfl:p=bs.length:=by omega
 rw[e];refine i rfl _ λa b=>?_;obtain⟨c,d⟩:=Ye t b;rw[d];subst a;exact As rfl
theorem Tm.byte{G G':UInt8->A6 α}(b:p<=bs.length)(h:∀c,bs[p]?=Aj c->p<bs.length->Tm bs t lim s p M (G c) (G' c)):Tm bs t lim s p M (match(generalizing:=false) bs[p]? with|none=>.error (9,(p:Int))|some c=>if(p:Int)=lim then .error (8,(p:Int))else G c) (match(generalizing:=false) (bs++t)[p]? with|none=>.error (9,(p:Int))|some c=>if(p:Int)=lim then .error (8,(p:Int))else G' c):=Tm.at_ b (λe _ a=>Tm.stop e a) h
theorem Tm.ite{c:Prop}[Decidable c]{a b a' b':A6 α}(d:c->Tm bs t lim s p M a a')(e:¬c->Tm bs t lim s p M b b'):Tm bs t lim s p M (if c then a else b) (if c then a' else b'):=by
 by_cases h:c
 ·rw[As h,As h];exact d h
 rw[Aq h,Aq h];exact e h
end
theorem Yf(bs t:A2)(lim:Int):∀(g a p:Nat),p<=bs.length->bs.length<g+p->(bs++t).length<a+p->Tm bs t lim False p (λ_ _=>True) (Bk bs lim g p) (Bk (bs++t) lim a p)
 |0,_,p,h1,h2,_=>by omega
 |g+1,0,p,h1,_,h3=>by rw[AC]at h3;omega
 |g+1,a+1,p,h1,h2,h3=>by
  unfold Bk;refine Tm.at_ h1 (λe _ d=>Tm.last e d trivial) (λc f b=>Tm.ite (λ_=>?_) (λ_=>Tm.ok (AB _) h1 trivial));exact(Yf bs t lim g a (p+1) b (by omega) (by omega)).from_ (by omega) b
theorem Kn(bs t:A2)(lim:Int)(p:Nat)(h:p<=bs.length):Tm bs t lim False p (λ_ _=>True) (Bk bs lim (bs.length+1-p) p) (Bk (bs++t) lim ((bs++t).length+1-p) p):=Yf bs t lim _ _ p h (by omega) (by rw[AC];omega)
theorem SP(bs t:A2)(lim:Int)(b:Nat)(z:Bool):∀(g a p d:Nat),p<=bs.length->bs.length<g+p->(bs++t).length<a+p->Tm bs t lim False p (λ_ _=>True) (Cd bs lim b z g p d) (Cd (bs++t) lim b z a p d)
 |0,_,p,_,h1,h2,_=>by omega
 |g+1,0,p,_,h1,_,h3=>by rw[AC]at h3;omega
 |g+1,a+1,p,d,h1,h2,h3=>by
  unfold Cd;refine Tm.at_ h1 (λe _ h=>Tm.last e h trivial) (λc i f=>Tm.ite (λ_=>Tm.ite (λ_=>Tm.err (by omega) (by omega)) (λ_=>Tm.ite (λ_=>Tm.err (by omega) (by omega)) (λ_=>?_))) (λ_=>Tm.ite (λ_=>Tm.err (by omega) (by omega)) (λ_=>Tm.ok (AB _) h1 trivial)));exact(SP bs t lim b z g a (p+1) _ f (by omega) (by omega)).from_ (by omega) f
theorem nj(bs t:A2)(lim:Int)(c:UInt8)(p:Nat)(h:p<=bs.length):Tm bs t lim False p (λ_ _=>True) (Ci ⟨Ak,bs,0,0,lim,p,0⟩ c) (Ci ⟨Ak,bs++t,0,0,lim,p,0⟩ c):=by
 unfold Ci;refine Tm.ite (λ_=>Tm.byte h (λc e d=>Tm.ite (λ_=>?_) (λ_=>Tm.err (by show(p:Int)<=_;omega) (by show _->(p:Int)=_;omega)))) (λ_=>?_)
 ·refine Tm.from_ (q:=p+1) ?_ (by omega) d;refine Tm.bind (SP bs t lim 9223372036854775808 (c.toNat==48) (bs.length+1-(p+1)) ((bs++t).length+1-(p+1)) (p+1) (c.toNat-48) d (by omega) (by rw[AC];omega)) (λ_ z=>by rw[z]) (λ_ z=>by rw[z]) (λx q _ a _ b=>⟨_,λz=>by rw[z],?_⟩);rw[b];refine Tm.ok (AB _) a trivial
 refine Tm.bind (SP bs t lim 9223372036854775807 (c.toNat==48) (bs.length+1-p) ((bs++t).length+1-p) p (c.toNat-48) h (by omega) (by rw[AC];omega)) (λ_ z=>by rw[z]) (λ_ z=>by rw[z]) (λx q _ a _ b=>⟨_,λz=>by rw[z],?_⟩);rw[b];refine Tm.ok (AB _) a trivial
theorem Lf(bs t:A2)(lim:Int):∀(a:A2) (p:Nat),p<=bs.length->Tm bs t lim True p (λ_ q=>q=p+a.length) (Ba bs lim a p) (Ba (bs++t) lim a p)
 |[],p,h=>Tm.ok (AB _) h rfl
 |x::a,p,h=>by
  unfold Ba;refine Tm.byte h (λc d b=>Tm.ite (λ_=>?_) (λ_=>Tm.err (by omega) (by omega)));exact((Lf bs t lim a (p+1) b).with_ (λ_ q _ _ e=>by rw[Bq];omega)).from_ (by omega) b
theorem SQ(bs t:A2)(lim:Int):∀(k p a:Nat),p<=bs.length->Tm bs t lim True p (λ_ q=>q=p+k) (Ce bs lim k p a) (Ce (bs++t) lim k p a)
 |0,p,a,h=>Tm.ok (AB _) h rfl
 |k+1,p,a,h=>by
  unfold Ce;refine Tm.byte h (λc f b=>?_)
  cases G4 c with
  |none=>exact Tm.err (by omega) (by omega)
  |some d=>exact((SQ bs t lim k (p+1) _ b).with_ (λ_ q _ _ e=>by omega)).from_ (by omega) b
theorem nk(bs t:A2)(lim:Int)(p:Nat)(h:p<=bs.length):Tm bs t lim True p (λ_ q=>p+4<=q) (Ey bs lim p) (Ey (bs++t) lim p):=by
 unfold Ey;refine Tm.bindS (SQ bs t lim 4 p 0 h) (λ_ z=>by rw[z]) (λ_ z=>by rw[z]) (λx q _ c e b a=>?_);rw[b,a];refine Tm.ite (λ_=>Tm.err (by omega) (by omega)) (λ_=>Tm.ite (λ_=>?_) (λ_=>Tm.ok (by omega) c (by omega)));refine Tm.from_ (q:=q) ?_ (by omega) c;refine Tm.bindS (Lf bs t lim [92,117] q c) (λ_ z=>by rw[z]) (λ_ z=>by rw[z]) (λ_ d _ g f b a=>?_);rw[b,a];dsimp only;have f:d=q+2:=f;refine Tm.from_ (q:=d) ?_ (by omega) g;refine Tm.bindS (SQ bs t lim 4 d 0 g) (λ_ z=>by rw[z]) (λ_ z=>by rw[z]) (λy k _ i j b a=>?_);rw[b,a];refine Tm.ite (λ_=>Tm.ok (by omega) i (by omega)) (λ_=>Tm.err (by omega) (by omega))
theorem np(bs t:A2)(lim:Int)(p:Nat)(h:p<=bs.length):Tm bs t lim True p (λ_ q=>p+1<=q) (Eb bs lim p) (Eb (bs++t) lim p):=by
 unfold Eb;refine Tm.byte h (λc b a=>?_)
 repeat' refine Tm.ite (λ_=>Tm.ok (by omega) a (AB _)) (λ_=>?_)
 refine Tm.ite (λ_=>?_) (λ_=>Tm.err (by omega) (by omega));exact((nk bs t lim (p+1) a).with_ (λ_ q _ _ e=>by omega)).from_ (by omega) a
theorem PS(bs t:A2)(lim:Int):∀(g a p:Nat) (d:A2) (h:Nat),p<=bs.length->bs.length<g+p->(bs++t).length<a+p->Tm bs t lim True p (λl q=>l.length+4*p+4<=d.length+4*q) (Bn bs lim g p d h) (Bn (bs++t) lim a p d h)
 |0,_,p,_,_,h1,h2,_=>by omega
 |g+1,0,p,_,_,h1,_,h3=>by rw[AC]at h3;omega
 |g+1,a+1,p,d,h,h1,h2,h3=>by
  unfold Bn;refine Tm.byte h1 (λc m b=>Tm.ite (λ_=>Tm.ok (by omega) b (by omega)) (λ_=>Tm.ite (λ_=>?_) (λ_=>Tm.ite (λ_=>Tm.err (by omega) (by omega)) (λ_=>Tm.ite (λ_=>Tm.err (by omega) (by omega)) (λ_=>?_)))))
  ·refine Tm.from_ (q:=p+1) ?_ (by omega) b;refine Tm.bindS (np bs t lim (p+1) b) (λ_ z=>by rw[z]) (λ_ z=>by rw[z]) (λr q _ i e k j=>?_);rw[k,j];dsimp only;refine Tm.from_ (q:=q) ?_ (by omega) i;refine(PS bs t lim g a q _ _ i (by omega) (by omega)).with_ (λl y _ _ f=>?_);have:=KR r;rw[AC]at f;omega
  refine((PS bs t lim g a (p+1) _ _ b (by omega) (by omega)).with_ (λl y _ _ f=>?_)).from_ (by omega) b;rw[AC]at f;simp only[Bq,CF]at f;omega
def BL:Nat->A3->Nat
 |0,_=>0
 |k+1,d=>match d with
  |.agg ds=>200+(ds.map λd=>30+BL k d).sum
  |.map es=>200+(es.map λe=>100+6*(B1 e.1).length+BL k e.2).sum
  |.lit (.string l)=>200+6*l.length
  |.ptr (.lit (.string l))=>200+6*l.length
  |_=>200
def Mp(p:Nat)(d:A3)(q:Nat):Prop:=∀k,BL k d+30+400*p<=400*q
def Lg(bs t:A2)(lim:Int)(rd rd':Nat->Except (Int×Int) (DataW Unit×Nat)):Prop:=∀p,p<=bs.length->Tm bs t lim False p (Mp p) (rd p) (rd' p)
def EZ(k:Nat)(ds:List (DataW Unit)):Nat:=(ds.map λd=>30+BL k d).sum
def Eo(k:Nat)(es:List (Lit×DataW Unit)):Nat:=(es.map λe=>100+6*(B1 e.1).length+BL k e.2).sum
theorem Yg(k:Nat)(ds:List (DataW Unit))(d:A3):EZ k (ds++[d])=EZ k ds+(30+BL k d):=by unfold EZ;simp
theorem nr(k:Nat)(a:List (Lit×DataW Unit))(l:A2)(d:A3):Eo k (a++[(.string l,d)])=Eo k a+(100+6*l.length+BL k d):=by unfold Eo;simp[B1]
def JI{α:Type}(μ:Nat->α->Nat)(a:α)(p:Nat)(b:α)(q:Nat):Prop:=∀k,μ k b+400*p<=μ k a+400*q
theorem Yh{α:Type}(bs t:A2)(lim:Int)(μ:Nat->α->Nat)(j l:α->Nat->A6 α)(last:Nat)(hi:∀a p,p<=bs.length->Tm bs t lim False p (JI μ a p) (j a p) (l a p)):∀(g h p:Nat) (d:α),p<=bs.length->bs.length<g+p->(bs++t).length<h+p->Tm bs t lim False p (JI μ d p) (C8 bs lim j last g p d) (C8 (bs++t) lim l last h p d)
 |0,_,p,_,h1,h2,_=>by omega
 |g+1,0,p,_,h1,_,h3=>by rw[AC]at h3;omega
 |g+1,h+1,p,d,h1,h2,h3=>by
  unfold C8;refine Tm.bind (Kn bs t lim p h1) (λ_ z=>by rw[z]) (λ_ z=>by rw[z]) (λ_ s w o _ f=>⟨_,λz=>by rw[z],?_⟩);rw[f];dsimp only;refine Tm.bind (hi d s o) (λ_ z=>by rw[z]) (λ_ z=>by rw[z]) (λn u x q m f=>⟨_,λz=>by rw[z],?_⟩);rw[f];dsimp only;refine Tm.bind (Kn bs t lim u q) (λ_ z=>by rw[z]) (λ_ z=>by rw[z]) (λ_ v A r _ f=>⟨_,λz=>by rw[z],?_⟩);rw[f];dsimp only;refine Tm.byte r (λc B i=>Tm.ite (λ_=>Tm.ok (by omega) i (λk=>by have:=m k;omega)) (λ_=>Tm.ite (λ_=>?_) (λ_=>Tm.err (by omega) (by omega))));exact((Yh bs t lim μ j l last hi g h (v+1) n i (by omega) (by omega)).with_ (λb y _ _ e k=>by have:=e k;have:=m k;omega)).from_ (by omega) i
theorem Yi{α:Type}(bs t:A2)(lim:Int)(μ:Nat->α->Nat)(g h:α->Nat->A6 α)(last:Nat)(hi:∀a p,p<=bs.length->Tm bs t lim False p (JI μ a p) (g a p) (h a p))(p:Nat)(d:α)(l:p<=bs.length):Tm bs t lim False p (JI μ d p) (BW bs lim g last p d) (BW (bs++t) lim h last p d):=by
 unfold BW;refine Tm.bind (Kn bs t lim p l) (λ_ z=>by rw[z]) (λ_ z=>by rw[z]) (λ_ f q j _ o=>⟨_,λz=>by rw[z],?_⟩);rw[o];dsimp only;have i:Tm bs t lim False f (JI μ d p) (C8 bs lim g last (bs.length+1-f) f d) (C8 (bs++t) lim h last ((bs++t).length+1-f) f d):=(Yh bs t lim μ g h last hi _ _ f d j (by omega) (by rw[AC];omega)).with_ (λb y _ _ e k=>by have:=e k;omega);refine Tm.at_ j (λe s m=>?_) (λc r n=>Tm.ite (λ_=>Tm.ok (by omega) n (λk=>by omega)) (λ_=>i));subst e;exact i.any m
theorem Yj(b:Lg bs t lim rd rd')(ds:List (DataW Unit))(p:Nat)(h:p<=bs.length):Tm bs t lim False p (JI EZ ds p) (Cv rd ds p) (Cv rd' ds p):=by
 unfold Cv;refine Tm.bind (b p h) (λ_ z=>by rw[z]) (λ_ z=>by rw[z]) (λd q _ a e c=>⟨_,λz=>by rw[z],?_⟩);rw[c];refine Tm.ok (AB _) a (λk=>by have:=e k;rw[Yg];omega)
theorem ns(bs t:A2)(lim:Int)(ks:List A2)(p:Nat)(h:p<=bs.length):Tm bs t lim True p (λl q=>l.length+4*p+8<=4*q) (El bs lim ks p) (El (bs++t) lim ks p):=by
 unfold El;refine Tm.bindS (Lf bs t lim [34] p h) (λ_ z=>by rw[z]) (λ_ z=>by rw[z]) (λ_ q _ c e b a=>?_);rw[b,a];dsimp only;have e:q=p+1:=e;refine Tm.from_ (q:=q) ?_ (by omega) c;refine Tm.bindS (PS bs t lim (bs.length+1-q) ((bs++t).length+1-q) q [] 0 c (by omega) (by rw[AC];omega)) (λ_ z=>by rw[z]) (λ_ z=>by rw[z]) (λl r _ f d b a=>?_);rw[b,a];dsimp only;rw[CF]at d;exact Tm.ite (λ_=>Tm.err (by omega) (by omega)) (λ_=>Tm.ok (by omega) f (by omega))
def SR(k:Nat)(a:List A2×List (Lit×DataW Unit)):Nat:=Eo k a.2
theorem SS(bs t:A2)(lim:Int)(m:Lg bs t lim rd rd')(a:List A2×List (Lit×DataW Unit))(p:Nat)(h:p<=bs.length):Tm bs t lim False p (JI SR a p) (C0 bs lim rd a p) (C0 (bs++t) lim rd' a p):=by
 unfold C0;refine Tm.bind (ns bs t lim a.1 p h) (λ_ z=>by rw[z]) (λ_ z=>by rw[z]) (λl n _ e s b=>⟨_,λz=>by rw[z],?_⟩);rw[b];dsimp only;refine Tm.bind (Kn bs t lim n e) (λ_ z=>by rw[z]) (λ_ z=>by rw[z]) (λ_ o _ f _ b=>⟨_,λz=>by rw[z],?_⟩);rw[b];dsimp only;refine Tm.bind (Lf bs t lim [58] o f) (λ_ z=>by rw[z]) (λ_ z=>by rw[z]) (λ_ q _ g _ b=>⟨_,λz=>by rw[z],?_⟩);rw[b];dsimp only;refine Tm.bind (Kn bs t lim q g) (λ_ z=>by rw[z]) (λ_ z=>by rw[z]) (λ_ r _ i _ b=>⟨_,λz=>by rw[z],?_⟩);rw[b];dsimp only;refine Tm.bind (m r i) (λ_ z=>by rw[z]) (λ_ z=>by rw[z]) (λd u _ j c b=>⟨_,λz=>by rw[z],?_⟩);rw[b];refine Tm.ok (AB _) j (λk=>?_);have:=c k;unfold SR;rw[nr];omega
theorem PT(h:∀k,BL (k+1) d=200)(a:p<q):Mp p d q:=λk=>by
 cases k with
 |zero=>show 0+30+_<=_;omega
 |succ k=>rw[h k];omega
theorem nu{l:A2}(a:l.length+4*(p+1)<=4*q):Mp p (.lit (.string l)) q:=λk=>by
 cases k with
 |zero=>show 0+30+_<=_;omega
 |succ k=>show 200+6*l.length+30+_<=_;omega
theorem nv{ds:List (DataW Unit)}(b:p<r)(a:r<=q)(h:JI EZ [] r ds q):Mp p (.agg ds) q:=λk=>by
 cases k with
 |zero=>show 0+30+_<=_;omega
 |succ k =>
  have:=h k;show 200+EZ k ds+30+_<=_;have e:EZ k []=0:=rfl;omega
theorem nw{es:List (Lit×DataW Unit)}(b:p<r)(a:r<=q)(h:JI Eo [] r es q):Mp p (.map es) q:=λk=>by
 cases k with
 |zero=>show 0+30+_<=_;omega
 |succ k =>
  have:=h k;show 200+Eo k es+30+_<=_;have e:Eo k []=0:=rfl;omega
theorem ny(bs t:A2)(lim f:Int)(i:Nat)(j:¬(i:Int)=f->Lg bs t lim rd rd')(c:UInt8)(p:Nat)(h:p+1<=bs.length):Tm bs t lim False p (Mp p) (FA bs lim f i rd (λc p=>Ci ⟨Ak,bs,0,0,lim,p,0⟩ c) c (p+1)) (FA (bs++t) lim f i rd' (λc p=>Ci ⟨Ak,bs++t,0,0,lim,p,0⟩ c) c (p+1)):=by
 unfold FA;refine Tm.ite (λ_=>?_) (λ_=>Tm.ite (λ_=>?_) (λ_=>Tm.ite (λ_=>?_) (λ_=>Tm.ite (λ_=>?_) (λ_=>Tm.ite (λ_=>?_) (λ_=>Tm.ite (λ_=>?_) (λ_=>Tm.ite (λ_=>?_) (λ_=>?_)))))))
 ·refine Tm.from_ (q:=p+1) ?_ (by omega) h;refine Tm.bind (Lf bs t lim _ (p+1) h) (λ_ z=>by rw[z]) (λ_ z=>by rw[z]) (λ_ q d a _ b=>⟨_,λz=>by rw[z],?_⟩);rw[b];refine Tm.ok (AB _) a (PT (λ_=>rfl) (by omega))
 ·refine Tm.from_ (q:=p+1) ?_ (by omega) h;refine Tm.bind (Lf bs t lim _ (p+1) h) (λ_ z=>by rw[z]) (λ_ z=>by rw[z]) (λ_ q d a _ b=>⟨_,λz=>by rw[z],?_⟩);rw[b];refine Tm.ok (AB _) a (PT (λ_=>rfl) (by omega))
 ·refine Tm.from_ (q:=p+1) ?_ (by omega) h;refine Tm.bind (Lf bs t lim _ (p+1) h) (λ_ z=>by rw[z]) (λ_ z=>by rw[z]) (λ_ q d a _ b=>⟨_,λz=>by rw[z],?_⟩);rw[b];refine Tm.ok (AB _) a (PT (λ_=>rfl) (by omega))
 ·refine Tm.from_ (q:=p+1) ?_ (by omega) h;refine Tm.bind (PS bs t lim (bs.length+1-(p+1)) ((bs++t).length+1-(p+1)) (p+1) [] 0 h (by omega) (by rw[AC];omega)) (λ_ z=>by rw[z]) (λ_ z=>by rw[z]) (λl q d a e b=>⟨_,λz=>by rw[z],?_⟩);rw[b];refine Tm.ok (AB _) a (nu ?_);rw[CF]at e;omega
 ·refine Tm.ite (λ_=>Tm.err (by omega) (by omega)) (λg=>?_);refine Tm.from_ (q:=p+1) ?_ (by omega) h;refine Tm.bind (Yi bs t lim EZ _ _ 93 (Yj (j g)) (p+1) [] h) (λ_ z=>by rw[z]) (λ_ z=>by rw[z]) (λk q d a e b=>⟨_,λz=>by rw[z],?_⟩);rw[b];refine Tm.ok (AB _) a (nv (OF p) d e)
 ·refine Tm.ite (λ_=>Tm.err (by omega) (by omega)) (λg=>?_);refine Tm.from_ (q:=p+1) ?_ (by omega) h;refine Tm.bind (Yi bs t lim SR _ _ 125 (SS bs t lim (j g)) (p+1) ([],[]) h) (λ_ z=>by rw[z]) (λ_ z=>by rw[z]) (λm q d a e b=>⟨_,λz=>by rw[z],?_⟩);rw[b];refine Tm.ok (AB _) a (nw (OF p) d e)
 ·dsimp only;refine Tm.from_ (q:=p+1) ?_ (by omega) h;refine Tm.bind (nj bs t lim c (p+1) h) (λ_ z=>by rw[z]) (λ_ z=>by rw[z]) (λz q d a _ b=>⟨_,λz=>by rw[z],?_⟩);rw[b];refine Tm.ok (AB _) a (PT (λ_=>rfl) (by omega))
 exact Tm.err (by omega) (by omega)
theorem NU(bs t:A2)(lim b:Int)(g:Nat):∀(a:Nat),(a:Int)<=b->b<a+g->Lg bs t lim (BX bs lim b (λc p=>Ci ⟨Ak,bs,0,0,lim,p,0⟩ c) g a) (BX (bs++t) lim b (λc p=>Ci ⟨Ak,bs++t,0,0,lim,p,0⟩ c) g a):=by
 induction g with
 |zero=>intro a d e;omega
 |succ g i =>
  intro a d e p h;unfold BX;refine Tm.byte h (λc j f=>?_);exact ny bs t lim b a (λk=>i (a+1) (by omega) (by omega)) c p f
def PU(n:Nat)(r:Except (Int×Int) (DataW Unit)):Except (Int×Int) (DataW Unit×Nat):=match r with
 |.error e=>.error e
 |.ok d=>.ok (d,n)
theorem nz(bs t:A2)(lim:Int){sp sp':Nat->A6 Unit}{th th':Nat->Except (Int×Int) (DataW Unit×Nat)}(l:∀p,p<=bs.length->Tm bs t lim False p (λ_ _=>True) (sp p) (sp' p))(q:Lg bs t lim th th'):Tm bs t lim False 0 (λd _=>∀k,BL k d+30<=400*bs.length) (PU bs.length (Gu sp th bs lim)) (PU (bs++t).length (Gu sp' th' (bs++t) lim)):=by
 unfold Gu;refine Tm.bind (l 0 (Cy _)) (λ_ z=>by rw[z];rfl) (λ_ z=>by rw[z];rfl) (λ_ r _ n _ g=>⟨_,λz=>by rw[z],?_⟩);rw[g];dsimp only;refine Tm.bind (q r n) (λ_ z=>by rw[z];rfl) (λ_ z=>by rw[z];rfl) (λd s _ o m g=>⟨_,λz=>by rw[z],?_⟩);rw[g];dsimp only;refine Tm.bind (l s o) (λ_ z=>by rw[z];rfl) (λ_ z=>by rw[z];rfl) (λ_ f _ u _ g=>⟨_,λz=>by rw[z],?_⟩);rw[g];dsimp only;unfold G2;dsimp only;by_cases j:f<bs.length
 ·have e:(bs++t)[f]?=bs[f]?:=E3 j;obtain⟨c,h⟩:∃c,bs[f]?=Aj c:=⟨_,AY j⟩
  rw[e,h];dsimp only;by_cases i:(f:Int)=lim
  ·rw[As i];exact Tm.err (by omega) (by omega)
  rw[Aq i];exact Tm.err (by omega) (by omega)
 have e:bs[f]?=Ak:=DI (by omega);obtain rfl:f=bs.length:=by omega
 rw[e];refine⟨AB _,AB _,λk=>(by have:=m k;omega),.inr ⟨id,rfl,λa b=>?_⟩⟩;obtain⟨c,h⟩:=Ye t b;rw[h];subst a;dsimp only;rw[As rfl];rfl
def FU(fm:Int)(k:Nat)(d:A3):A2:=if fm=1 then Cq k d else if fm=2 then BD k d else Fg k d
theorem nB(key:Int)(a:Nat)(l:A2):(Kf key a l).length=16:=fG _ (Wa _ _ (Nm _ _))
theorem PV(x:Nat):∀k,(AX x k).length=k
 |0=>rfl
 |k+1=>by unfold AX;rw[Bq,PV x k]
theorem Lh(s x:Nat):(AO s x).length<=9:=by
 unfold AO
 repeat' split
 all_goals simp[PV]
theorem NV(x:Nat):(Fe x).length<=9/\(Ff x).length<=9/\(EN x).length<=9/\(C6 x).length<=9/\(Fy x).length<=9:=by
 unfold Fe Ff EN C6 Fy;refine⟨?_,?_,?_,?_,?_⟩
 all_goals repeat' split
 all_goals simp[PV]
theorem nC(z:Int):(Jl z).length<=9:=by
 unfold Jl;split
 ·unfold FO
  repeat' split
  all_goals simp[PV]
 exact(NV _).2.2.2.2
theorem nD(z:Int):(GR z).length<=9:=by
 unfold GR;split<;>exact Lh _ _
theorem PW{α:Type}(f:α->A2)(m:α->Nat):∀(l:List α),(∀a,a∈l->(f a).length<=m a)->(l.flatMap f).length<=(l.map m).sum
 |[],_=>AB _
 |a::l,h=>by
  have d:=h a (Gg ..);have e:=PW f m l λb c=>h b (GG _ c);rw[LA,AC,CT,Hk];omega
theorem PX(c f g a:Nat->List UInt8)(j:Bool->List UInt8)(i:List UInt8)(nm:Int->List UInt8)(h:∀x,(c x).length<=9/\(f x).length<=9/\(g x).length<=9/\(a x).length<=9)(m:∀b,(j b).length<=9)(o:i.length<=9)(n:∀z,(nm z).length<=9):∀(k:Nat) (d:DataW Unit),(II c f g a j i nm k d).length<=BL k d
 |0,_=>AB _
 |k+1,d=>by
  unfold II;split
  ·show _<=200;omega
  ·show _<=200;have:=m ‹Bool›;omega
  ·show _<=200;have:=n ‹Int›;omega
  ·next l=>show _<=200+6*l.length;have:=h l.length;rw[AC];omega
  ·next l=>show _<=200+6*l.length;have:=h l.length;rw[AC];omega
  ·next ds =>
   show _<=200+(ds.map λd=>30+BL k d).sum;have p:=h ds.length;have q:=PW (II c f g a j i nm k) (λd=>30+BL k d) ds (λd _=>AW (PX c f g a j i nm h m o n k d) (Fu _ _));rw[AC];omega
  ·next es =>
   show _<=200+(es.map λe=>100+6*(B1 e.1).length+BL k e.2).sum;have p:=h es.length;have q:=PW (λe:Lit×DataW Unit=>(a (B1 e.1).length++B1 e.1)++II c f g a j i nm k e.2) (λe=>100+6*(B1 e.1).length+BL k e.2) es (λe _=>by
    have r:=PX c f g a j i nm h m o n k e.2;have s:=h (B1 e.1).length;rw[AC,AC];omega)
   rw[AC];omega
  exact Cy _
theorem ST(k:Nat)(d:A3):(BD k d).length<=BL k d :=
 PX _ _ _ _ _ _ _ (λx=>⟨Lh _ _,Lh _ _,Lh _ _,Lh _ _⟩) (λb=>by unfold VB;cases b<;>exact Lh _ _) (Lh _ _) nD k d
theorem nE(k:Nat)(d:A3):(Fg k d).length<=BL k d :=
 PX _ _ _ _ _ _ _ (λx=>⟨(NV x).1,(NV x).2.1,(NV x).2.2.1,(NV x).2.2.2.1⟩) (λb=>by unfold VC;cases b<;>decide) (by decide) nC k d
theorem nG(r:Nat):(GT r).length<=6:=by
 unfold GT;split
 ·simp
 split
 ·simp
 exact AW (KR _).2 (by omega)
theorem Yk:∀(g:Nat) (l:A2),(FP g l).length<=6*g
 |0,_=>AB _
 |g+1,[]=>Cy _
 |g+1,b::t=>by
  unfold FP;have a:=nG (decodeL (b::t)).1;have c:=Yk g ((b::t).drop (decodeL (b::t)).2);rw[AC];omega
theorem Yl(l:A2):(CW l).length<=2+6*l.length:=by
 unfold CW;have:=Yk l.length l;simp only[AC,Bq,CF];omega
theorem Ym{α:Type}(T:α->A2)(m:α->Nat)(l:List α)(h:∀a,a∈l->(T a).length+1<=m a):(C9 T l).length<=(l.map m).sum:=by
 cases l with
 |nil=>exact AB _
 |cons a l =>
  unfold C9;have d:=h a (Gg ..);have f:=PW (λe=>44::T e) m l (λb c=>by have:=h b (GG _ c);rw[Bq];exact this);rw[AC,CT,Hk];omega
theorem SU:∀(k:Nat) (d:A3),30*Bx k d<=BL k d
 |0,_=>AB _
 |k+1,d=>by
  unfold Bx BL;split
  ·next ds =>
   have b:30*(ds.map λd=>1+Bx k d).sum<=(ds.map λd=>30+BL k d).sum:=by
    induction ds with
    |nil=>exact AB _
    |cons a l c =>
     have:=SU k a;rw[CT,Hk,CT,Hk];omega
   simp only[];omega
  ·next es =>
   have b:30*(es.map λe=>2+Bx k e.2).sum<=(es.map λe=>100+6*(B1 e.1).length+BL k e.2).sum:=by
    induction es with
    |nil=>exact AB _
    |cons a l c =>
     have:=SU k a.2;rw[CT,Hk,CT,Hk];omega
   simp only[];omega
  split<;>omega
theorem nH(k:Nat)(d:A3):200<=BL (k+1) d:=by
 unfold BL;split<;>omega
theorem nI(k:Nat)(f:A3->AP->Option (DataW Unit)×AP)(c:∀d R b,(f d R).1=Aj b->BL k b<=2*BL k d)(ds:List (DataW Unit)):∀(a:List (DataW Unit)×AP),EZ k (ds.foldl (λa d=>(a.1++(f d a.2).1.toList,(f d a.2).2)) a).1<=EZ k a.1+2*EZ k ds:=by
 induction ds with
 |nil=>intro a;exact JZ _ _
 |cons d ds g =>
  intro a;rw[K2];refine AW (g _) ?_;have e:EZ k (d::ds)=30+BL k d+EZ k ds:=by unfold EZ;rw[CT,Hk]
  rw[e];dsimp only
  cases h:(f d a.2).1 with
  |none=>rw[Ut,IA];omega
  |some b =>
   have:=c d a.2 b h;rw[Uu,Yg];omega
theorem nJ(k:Nat)(f:A2->A3->AP->Option (DataW Unit)×AP)(j:∀l d R b,(f l d R).1=Aj b->BL k b<=2*BL k d)(c:List (Lit×DataW Unit)):∀(a:List (Lit×DataW Unit)×AP),Eo k (c.foldl (λa e=>(a.1++((f (B1 e.1) e.2 a.2).1.map λd=>(e.1,d)).toList,(f (B1 e.1) e.2 a.2).2)) a).1<=Eo k a.1+2*Eo k c:=by
 induction c with
 |nil=>intro a;exact JZ _ _
 |cons d g m =>
  intro a;rw[K2];refine AW (m _) ?_;have e:Eo k (d::g)=100+6*(B1 d.1).length+BL k d.2+Eo k g:=by unfold Eo;rw[CT,Hk]
  rw[e];dsimp only
  cases h:(f (B1 d.1) d.2 a.2).1 with
  |none=>rw[Option.map_none,Ut,IA];omega
  |some b =>
   have:=j (B1 d.1) d.2 a.2 b h;have i:Eo k (a.1++[(d.1,b)])=Eo k a.1+(100+6*(B1 d.1).length+BL k b):=by unfold Eo;simp
   rw[MX,Uu,i];omega
theorem SV(c:Rv):∀(k:Nat) (p:List (A2×Bool)) (d:A3) (R:AP) (a:A3),(B2 c k p d R).1=Aj a->BL k a<=2*BL k d
 |0,_,_,_,_,h=>by cases h
 |k+1,p,d,R,a,h=>by
  have f:=nH k d;unfold B2 at h;split at h
  ·injection h with h;subst h;unfold FT;split
   ·next ds =>
    have b:=nI k (B2 c k (([],true)::p)) (λd R a=>SV c k _ d R a) ds ([],(R.1+1,R.2));have e:EZ k ([]:List (DataW Unit))=0:=rfl;show 200+EZ k (Gz _ ds _).1<=2*(200+EZ k ds);unfold Gz;dsimp only at b;omega
   ·next es =>
    have b:=nJ k (λkey=>B2 c k ((key,false)::p)) (λl d R a=>SV c k _ d R a) es ([],(R.1+1,R.2));have e:Eo k ([]:List (Lit×DataW Unit))=0:=rfl;show 200+Eo k (Fm _ es _).1<=2*(200+Eo k es);unfold Fm;dsimp only at b ⊢;omega
   dsimp only;omega
  split at h
  ·injection h with h;subst h;show 200+6*3<=_;omega
  split at h
  ·injection h with h;subst h;have:=nB c.key (CC c.dflt c.rs p.reverse).1.toNat (BD (k+1) d);show 200+6*(Kf _ _ _).length<=_;rw[this];omega
  cases h
theorem nK(c:Rv)(k:Nat)(d:A3)(R:AP):BL k ((B2 c k [] d R).1.getD .nil)<=2*BL k d+200:=by
 cases h:(B2 c k [] d R).1 with
 |none=>cases k with
  |zero=>exact Cy _
  |succ k=>show 200<=_;omega
 |some a =>
  have:=SV c k [] d R a h;show BL k a<=_;omega
theorem SW{V:World}:∀{k:Nat} {v:Value} {d:DataW Unit},AJ k V F v d->(Cq k d).length<=BL k d
 |0,_,_,h=>h.elim
 |k+1,v,d,h=>by
  unfold AJ at h;unfold Cq;split at h
  ·show 4<=200;omega
  ·next b=>show(bif b then _ else _:List UInt8).length<=200;cases b<;>decide
  ·next z =>
   have:=itoa_length_le z h.2.1 h.2.2;show(itoa z).length<=200;omega
  ·next l =>
   have:=Yl l;show(CW l).length<=200+6*l.length;omega
  ·next l =>
   show 4<=200+6*l.length;omega
  ·next ds =>
   obtain⟨u,f,_,j,a⟩:=h;show(([91]++C9 (Cq k) ds)++[93]).length<=200+EZ k ds;have g:=Ym (Cq k) (λd=>30+BL k d) ds (λd n=>by
    obtain⟨i,c,rfl⟩:=Uj.1 n;have p:i<f.length:=by have:=j.1;omega
    have:=SW (a i f[i] ds[i] (AY p) (AY c));omega)
   have e:EZ k ds=(ds.map λd=>30+BL k d).sum:=rfl;simp only[AC,Bq,CF];omega
  ·next es =>
   obtain⟨u,f,_,j,a⟩:=h;show(([123]++C9 (DG (Cq k)) es)++[125]).length<=200+Eo k es;have g:=Ym (DG (Cq k)) (λe=>100+6*(B1 e.1).length+BL k e.2) es (λe o=>by
    obtain⟨i,c,rfl⟩:=Uj.1 o;obtain⟨l,x,g,_,_,m⟩:=a i es[i].1 es[i].2 (AY c);have q:=SW m;have r:=Yl (B1 es[i].1);unfold DG;simp only[AC,Bq,CF];omega)
   have e:Eo k es=(es.map λe=>100+6*(B1 e.1).length+BL k e.2).sum:=rfl;simp only[AC,Bq,CF];omega
  exact h.elim
theorem Yn(fm:Int){V:Al}{v:Am}(h:AJ k V F v d):(FU fm k d).length<=BL k d:=by
 unfold FU;split
 ·exact SW h
 split
 ·exact ST k d
 exact nE k d
def Mt(c:AN)(A:Nat)(bv:Am):A4:=#[A7 Ah c.inn,A7 Ah c.out,A7 Ah c.depth,A7 Ah c.bytes]++(Bh c.labels.toNat (BK c.labels.toNat c.L)++#[A7 Ah c.clr,A7 Ah c.key,A9 (Aj ⟨A,0,Ak⟩)])++#[bv,A8 Ak 0 0,.bool false]
def F0(c:AN):List (List (Nat×A2)×Int×Int):=(BR c.pol.data.toList).map BZ
theorem oe(w:Al)(a:A5)(i:Nat)(B:List Int)(h:GL w a B)(A:a=Ak->B.length=0/\i=0)(G:B.length<=8):Calls prog 26 #[A8 a B.length i] w λe c=>∃d f,e=.returned (A8 d B.length f)/\C7 c 3 1 (λg=>w.heap.size<=g/\g<c.heap.size) (A8 d B.length f) B.length (B.map (Value.int Ah))/\A1 w c:=by
 have s:∀{c:Al} {v:Am} {n:Nat} {q:List Am},c.ownsRow w.heap.size 3 1 v n q->∃d f,v=A8 d n f/\C7 c 3 1 (λg=>w.heap.size<=g/\g<c.heap.size) (A8 d n f) n q:=by
  rintro c v n q ⟨k,m⟩;rcases m with⟨rfl,rfl⟩|⟨g,i,x,rfl,C,t,D⟩
  ·exact⟨Ak,0,rfl,k,.inl ⟨rfl,rfl⟩⟩
  exact⟨_,_,rfl,k,.inr ⟨g,i,x,rfl,⟨C,(At t)⟩,t,D⟩⟩
 cases a with
 |none =>
  obtain⟨l,F⟩:=A rfl;refine(Tryz.slices_Clone_int_nil B.length i w).mono ?_;rintro e c ⟨rfl,rfl⟩;have p:=JU l;subst p;exact⟨Ak,0,rfl,⟨rfl,.inl ⟨rfl,rfl⟩⟩,AT _ _⟩
 |some u =>
  by_cases y:B.length=0
  ·have p:=JU y;subst p;refine(Tryz.slices_Clone_int_zero u i w).mono ?_;rintro e c ⟨E,rfl,k,_,m⟩;obtain⟨d,f,rfl,o⟩:=s k;exact⟨d,f,rfl,o,m⟩
  obtain⟨b,off,l,H,z⟩:=h.at_ 0 (by omega);injection l with l;subst l;refine(Tryz.slices_Clone_int b off B.length i B w (AB _) (by omega) (λj r=>?_)).mono ?_
  ·rw[z j r,KC,AY r];rfl
  rintro e c ⟨E,rfl,k,_,m⟩;rw[K0]at k;obtain⟨d,f,rfl,o⟩:=s k;exact⟨d,f,rfl,o,m⟩
structure Io(c:AN)(W0:World)(L A:Nat)(q:Bi)(sts:List ((Nat->Nat)×Int×Int))(sa:A5)(sc:Nat)(nf mf:Lit->Option Nat)(bv:Value)(V:World):Prop where
 cp:XY W0 (F0 c) c.dflt A q sts sa sc nf mf V
 bk:C7 V 3 1 (λg=>W0.heap.size<=g/\g<L) bv c.B.length (c.B.map (Value.int .i64))
 bs:∃ba bc,bv=.slice ba c.B.length bc
def Yu(c:AN)(w:Al)(e:Ending)(w':Al):Prop :=
 A1 w w'/\((¬Bl c=0/\e=.returned (Ab #[A9 Ak,A7 Ah (Bl c)]))\/(Bl c=0/\∃W0 L A q sts sa sc nf mf bv,e=.returned (Ab #[A9 (Aj ⟨L,0,Ak⟩),A7 Ah 0])/\w.heap.size<=W0.heap.size/\W0.heap.size<=L/\w'.heap.size=L+1/\w'.heap[L]?=Aj (Af (Mt c A bv) 86)/\Io c W0 L A q sts sa sc nf mf bv w'))
theorem og{A:A4}{O:A4}{a:A5}{cap:Nat}(h:A=Ga O a k cap)(d:O.size=37):∀(j:Nat) (u:Am),O[j]?=Aj u->A[j]?=Aj u:=by
 intro j u b;have c:j<37:=by have:=At b;omega
 rw[h];unfold Ga;rw[Up,Aq (by omega)];exact b
theorem oh(n:Nat)(m:Nat->Nat->Bool):(prog.info? 72).map (·.size)=Aj (Bh n m).size:=by rw[Bj];kernel_rfl
theorem oj(c:AN)(w:Al)(Q:Et w c)(l:Gq w)(ac:Bl c=0->c.B.length<=8):Calls prog 12 #[.agg c.arr] w (Yu c w):=by
 have HS:=Ap c.size;have W:=Ap Q;have V:=Ap ac;have r:=Ap (Ml w c);have q:=ls c _ (r.cfg Q) (l.below r.below);have I:=Ap (SB c);clear Q l ac;go_enter func12,ntmps12
 go_wp2_with(first
  |(refine B3 rfl 25 _ rfl _ rfl _ _ _ _ r.box underlying25 rfl (Dg HS) ?_)
  |fail)
 refine q.mono ?_;clear q;rintro e d ⟨A,rfl,t,aa⟩;rw[I.1,I.2];have T:=Ap t.1;have U:=Ap t.2.1;have g:Hid (Cb.size=A.size):=by show _=_;rw[t.1];exact Hw
 have s:=Ap (r.step aa);have y:Hid (Q1 w c d.heap.size A (d.alloc (Af A 75))):=⟨s.below.alloc s.below.size _,(AL _ _ _ (At s.box)).trans s.box,Ay _ _⟩
 have J:=t.2.2;rw[I.1]at J;clear t aa r s;by_cases f:Bl c=0
 ·obtain⟨_,x,sk,R,M,lo,ae⟩:=J f;obtain⟨ra,rc,a0,af⟩:=ae.pru;injection a0 with e1 e2 e3;subst e1;subst e2;subst e3;have aw:A[37]?=Aj (A8 x (F0 c).length R):=by
   rw[M];unfold Ga;rw[Up,Bj];rfl
  have ag:=Ap (og M (Bj _ _));have an:Hid (G5 (d.alloc (Af A 75)) x (F0 c)):=af.below AH;have aq:=SL (Yt f);have ak:=Ap (V f);have ah:=Ap f;clear M J ae af V;rw[f];clear f;obtain⟨hn,h8,az⟩:=aq;have al:Hid ((F0 c).length<=16):=hn;have H8:Hid (∀i (h:i<(F0 c).length),(F0 c)[i].1.length<=8):=h8;have aj:Hid (∀i (h:i<(F0 c).length) j (h2:j<(F0 c)[i].1.length),(F0 c)[i].1[j].1<=3/\(F0 c)[i].1[j].2.length<=1000000000):=az
  go_wp2_with(first
   |(refine Sw rfl rfl _ rfl d.heap.size rfl ?_)
   |(refine Bg rfl 75 _ _ rfl d.heap.size A rfl rfl 75 Cb (Ay d _) (GY T) g U ?_;rw[F6]))
  have b:(λZ:Al=>Z.heap[w.heap.size]?=Aj (Af c.arr 25)/\Z.heap[d.heap.size]?=Aj (Af A 75)) { (d.alloc (Af A 75))with drawn:=(d.alloc (Af A 75)).drawn+1}:=⟨y.box,y.row⟩
  refine Dr (S:=λZ=>Z.heap[w.heap.size]?=Aj (Af c.arr 25)/\Z.heap[d.heap.size]?=Aj (Af A 75)) (by kernel_rfl) ?_;have F:Hid (A1 w { (d.alloc (Af A 75))with drawn:=(d.alloc (Af A 75)).drawn+1}):=y.below.drew;have ao:Hid (G5 { (d.alloc (Af A 75))with drawn:=(d.alloc (Af A 75)).drawn+1} x (F0 c)):=an.below (AT _ _).drew;generalize({ (d.alloc (Af A 75))with drawn:=(d.alloc (Af A 75)).drawn+1}:Al)=W4 at *;generalize d.heap.size=N4 at *;have am:Hid (∀Z:Al,Z.heap[N4]?=Aj (Af A 75)->∀(j:Nat) (u:Am),(Bh c.labels.toNat (BK c.labels.toNat c.L))[j]?=Aj u->Z.cell? ⟨N4,0+j,Ak⟩=Aj u):=λZ a j u hu=>by rw[Df];exact(Ar a j).trans (ag j u hu)
  refine B6 0 16 (A9 (Aj ⟨w.heap.size,6,Ak⟩)) rfl (by kernel_rfl) (λ_ _ _ h=>h) (λZ a=>by kernel_rfl) b ?_;refine B6 1 17 (A7 Ah c.inn) rfl (by kernel_rfl) (λ_ _ _ h=>h) (λZ a=>?y1) b ?_
  case y1=>(have k:Z.cell? ⟨w.heap.size,6,Ak⟩=Aj (A7 Ah c.inn):=Ar a.1 6;go_simp)
  refine B6 2 18 (A9 (Aj ⟨w.heap.size,7,Ak⟩)) rfl (by kernel_rfl) (λ_ _ _ h=>h) (λZ a=>by kernel_rfl) b ?_;refine B6 3 19 (A7 Ah c.out) rfl (by kernel_rfl) (λ_ _ _ h=>h) (λZ a=>?y3) b ?_
  case y3=>(have k:Z.cell? ⟨w.heap.size,7,Ak⟩=Aj (A7 Ah c.out):=Ar a.1 7;go_simp)
  refine B6 4 20 (A9 (Aj ⟨w.heap.size,8,Ak⟩)) rfl (by kernel_rfl) (λ_ _ _ h=>h) (λZ a=>by kernel_rfl) b ?_;refine B6 5 21 (A7 Ah c.depth) rfl (by kernel_rfl) (λ_ _ _ h=>h) (λZ a=>?y5) b ?_
  case y5=>(have k:Z.cell? ⟨w.heap.size,8,Ak⟩=Aj (A7 Ah c.depth):=Ar a.1 8;go_simp)
  refine B6 6 22 (A9 (Aj ⟨w.heap.size,9,Ak⟩)) rfl (by kernel_rfl) (λ_ _ _ h=>h) (λZ a=>by kernel_rfl) b ?_;refine B6 7 23 (A7 Ah c.bytes) rfl (by kernel_rfl) (λ_ _ _ h=>h) (λZ a=>?y7) b ?_
  case y7=>(have k:Z.cell? ⟨w.heap.size,9,Ak⟩=Aj (A7 Ah c.bytes):=Ar a.1 9;go_simp)
  refine B6 8 24 (.agg #[A7 Ah c.depth,A7 Ah c.bytes]) rfl (by kernel_rfl) (λ_ _ _ h=>h) (λZ a=>by kernel_rfl) b ?_;refine B6 9 25 (A9 (Aj ⟨N4,0,Ak⟩)) rfl (by kernel_rfl) (λ_ _ _ h=>h) (λZ a=>by kernel_rfl) b ?_;refine B6 10 26 (.agg (Bh c.labels.toNat (BK c.labels.toNat c.L))) rfl (by kernel_rfl) (λ_ _ _ h=>h) (λZ a=>?y10) b ?_
  case y10=>exact NM 72 (.tmp 25) (by kernel_rfl) N4 0 (by kernel_rfl) (Bh c.labels.toNat (BK c.labels.toNat c.L)) _ (am Z a.2) underlying72 (by kernel_rfl) (oh _ _)
  refine B6 11 27 (A9 (Aj ⟨w.heap.size,4,Ak⟩)) rfl (by kernel_rfl) (λ_ _ _ h=>h) (λZ a=>by kernel_rfl) b ?_;refine B6 12 28 (A7 Ah c.clr) rfl (by kernel_rfl) (λ_ _ _ h=>h) (λZ a=>?y12) b ?_
  case y12=>(have k:Z.cell? ⟨w.heap.size,4,Ak⟩=Aj (A7 Ah c.clr):=Ar a.1 4;go_simp)
  refine B6 13 29 (A9 (Aj ⟨w.heap.size,5,Ak⟩)) rfl (by kernel_rfl) (λ_ _ _ h=>h) (λZ a=>by kernel_rfl) b ?_;refine B6 14 30 (A7 Ah c.key) rfl (by kernel_rfl) (λ_ _ _ h=>h) (λZ a=>?y14) b ?_
  case y14=>(have k:Z.cell? ⟨w.heap.size,5,Ak⟩=Aj (A7 Ah c.key):=Ar a.1 5;go_simp)
  refine B6 15 31 (A9 (Aj ⟨N4,37,Ak⟩)) rfl (by kernel_rfl) (λ_ _ _ h=>h) (λZ a=>by kernel_rfl) b ?_;refine B6 16 32 (A8 x (F0 c).length R) rfl (by kernel_rfl) (λ_ _ _ h=>h) (λZ a=>?y16) b ?_
  case y16=>(have k:=(Ar a.2 37).trans aw;go_simp)
  refine B6 17 33 (A9 (Aj ⟨w.heap.size,2,Ak⟩)) rfl (by kernel_rfl) (λ_ _ _ h=>h) (λZ a=>by kernel_rfl) b ?_;refine B6 18 34 (A7 Ah c.dflt) rfl (by kernel_rfl) (λ_ _ _ h=>h) (λZ a=>?y18) b ?_
  case y18=>(have k:Z.cell? ⟨w.heap.size,2,Ak⟩=Aj (A7 Ah c.dflt):=Ar a.1 2;go_simp)
  refine B6 21 37 (A9 (Aj ⟨w.heap.size,10,Ak⟩)) rfl (by kernel_rfl) (λ_ _ _ h=>h) (λZ a=>by kernel_rfl) b ?_;refine B6 22 38 (A8 c.ba c.B.length c.bcap) rfl (by kernel_rfl) (λ_ _ _ h=>h) (λZ a=>?y22) b ?_
  case y22=>(have k:Z.cell? ⟨w.heap.size,10,Ak⟩=Aj (A8 c.ba c.B.length c.bcap):=Ar a.1 10;go_simp)
  refine Jw 19 rfl (by kernel_rfl) (λK v=>?_);go_simp;refine(me W4 x R (F0 c) c.dflt ao al H8 aj).mono ?_;rintro e w5 ⟨p,a1,a2,ta,tc,nf,mf,rfl,ad⟩;simp only[];have D:=ad.au.below;have X:=Ap ad;have G:=Ap (F.trans (D.mono F.size));have n:(λZ:Al=>Z.heap[w.heap.size]?=Aj (Af c.arr 25)/\Z.heap[N4]?=Aj (Af A 75)) w5:=⟨(D.block _ (At b.1)).trans b.1,(D.block _ (At b.2)).trans b.2⟩
  have ar:=Ap F.size;have Y:=Ap D.size;refine v.out _ _ n (λ_=>?_);refine B6 20 36 (.agg (Bh c.labels.toNat (BK c.labels.toNat c.L)++#[A7 Ah c.clr,A7 Ah c.key,A9 (Aj ⟨p,0,Ak⟩)])) rfl (by kernel_rfl) (λ_ _ _ h=>h) (λZ a=>by kernel_rfl) n ?_;refine Jw 23 rfl (by kernel_rfl) (λK v=>?_);go_simp;refine(oe w5 c.ba c.bcap c.B ((W.below G).ints) W.bn ak).mono ?_;rintro e m ⟨z,C,rfl,ay,O⟩;simp only[];have o:(λZ:Al=>Z.heap[w.heap.size]?=Aj (Af c.arr 25)/\Z.heap[N4]?=Aj (Af A 75)) m:=⟨(O.block _ (At n.1)).trans n.1,(O.block _ (At n.2)).trans n.2⟩
  have ap:=Ap ay;have H:=Ap O;refine v.out _ _ o (λ_=>?_);refine B6 24 40 (.agg (Mt c p (A8 z c.B.length C))) rfl (by kernel_rfl) (λ_ _ _ h=>h) (λZ a=>by kernel_rfl) o ?_;refine Jw 25 rfl (by kernel_rfl) (λK v=>?_);go_simp;have P:(λZ:Al=>Z.heap[w.heap.size]?=Aj (Af c.arr 25)/\Z.heap[N4]?=Aj (Af A 75)) (m.alloc (Af (Mt c p (A8 z c.B.length C)) 86)):=⟨(AL _ _ _ (At o.1)).trans o.1,(AL _ _ _ (At o.2)).trans o.2⟩
  refine v.out _ _ P (λ_=>?_);refine B6 26 2 (A9 (Aj ⟨m.heap.size,0,Ak⟩)) rfl (by kernel_rfl) (λ_ _ _ h=>h) (λZ a=>by kernel_rfl) P ?_;refine B6 27 3 (A7 Ah 0) rfl (by kernel_rfl) (λ_ _ _ h=>h) (λZ a=>by kernel_rfl) P ?_;refine KK (by kernel_rfl) ?_ _;go_simp;go_wp2
  go_ret2
  have ax:A1 m (m.alloc (Af (Mt c p (A8 z c.B.length C)) 86)):=AH;have ab:=H.trans (ax.mono H.size);refine⟨G.trans (ab.mono G.size),.inr ⟨ah,W4,m.heap.size,p,a1,a2,ta,tc,nf,mf,A8 z c.B.length C,rfl,ar,AW Y H.size,AM _ _,Ay m _,⟨{X.out with au:=X.au.next ab},?_,_,_,rfl⟩⟩⟩;exact ap.same (λav l=>⟨AW Y l.1,l.2⟩) (λav l=>AL _ _ _ l.2)
 have HE:=Ap f;have ai:Hid (Yu c w (.returned (Ab #[A9 Ak,A7 Ah (Bl c)])) (d.alloc (Af A 75))):=⟨y.below,.inl ⟨f,rfl⟩⟩
 generalize Bl c=E at *;generalize CP c=N at *;have hE:(E==0)=false:=by simpa using HE.out
 go_wp2_with(first
  |(refine Sw rfl rfl _ rfl d.heap.size rfl ?_)
  |(refine Bg rfl 75 _ _ rfl d.heap.size A rfl rfl 75 Cb (Ay d _) (GY T) g U ?_;rw[F6]))
 go_ret2
 exact ai
structure Ev(bs bs' t:A2)(lim lim':Int):Prop where
 l:(bs.length:Int)<=lim
 l':(bs'.length:Int)<=lim'
 st:t=[]\/∃c r,t=c::r/\(c=44\/c=125)
def Tl(bs bs' t:A2)(p p':Nat):Prop:=p<=bs.length/\p'<=bs'.length/\bs'.drop p'=bs.drop p++t
def Sx{α β:Type}(bs bs' t:A2)(R:α->β->Prop)(r:A6 α)(r':A6 β):Prop:=match r with
 |.ok (x,q)=>∃x' q',r'=.ok (x',q')/\R x x'/\Tl bs bs' t q q'
 |.error (e,_)=>t=[]->∃pl,r'=.error (e,pl)
section
variable{α β α' β':Type} {bs bs' t:A2} {lim lim':Int} {R:α->β->Prop} {p p':Nat}
theorem Sx.ok{x:α}{y:β}{q':Nat}(h:R x y)(a:Tl bs bs' t q q'):Sx bs bs' t R (.ok (x,q)) (.ok (y,q')):=⟨y,q',rfl,h,a⟩
theorem Sx.err{pl':Int}:Sx bs bs' t R (.error (e,pl)) (.error (e,pl')):=λ_=>⟨pl',rfl⟩
theorem Sx.ite{c:Prop}[Decidable c]{a b:A6 α}{a' b':A6 β}(d:c->Sx bs bs' t R a a')(e:¬c->Sx bs bs' t R b b'):Sx bs bs' t R (if c then a else b) (if c then a' else b'):=by
 by_cases h:c
 ·rw[As h,As h];exact d h
 rw[Aq h,Aq h];exact e h
theorem Sx.bind{R2:α'->β'->Prop}{r:A6 α}{r':A6 β}{Q:A6 α'}{Q':A6 β'}(h:Sx bs bs' t R r r')(g:∀e,r=.error e->Q=.error e)(i:∀e,r'=.error e->Q'=.error e)(j:∀x q b a,R x b->Tl bs bs' t q a->r=.ok (x,q)->r'=.ok (b,a)->Sx bs bs' t R2 Q Q'):Sx bs bs' t R2 Q Q':=by
 rcases r with⟨e,m⟩|⟨x,q⟩
 ·rw[g _ rfl];intro k;obtain⟨l,h⟩:=h k;exact⟨l,i _ h⟩
 obtain⟨b,a,c,d,f⟩:=h;exact j x q b a d f rfl c
theorem Sx.at_(E:Ev bs bs' t lim lim')(q:Tl bs bs' t p p'){r0:A6 α}{r0':A6 β}{G:UInt8->A6 α}{G':UInt8->A6 β}(m:t=[]->Sx bs bs' t R r0 r0')(n:p=bs.length->∀c r,t=c::r->(c=44\/c=125)->Sx bs bs' t R r0 (G' c))(h:∀c,Tl bs bs' t (p+1) (p'+1)->Sx bs bs' t R (G c) (G' c)):Sx bs bs' t R (match(generalizing:=false) bs[p]? with|none=>r0|some c=>if(p:Int)=lim then .error (8,(p:Int))else G c) (match(generalizing:=false) bs'[p']? with|none=>r0'|some c=>if(p':Int)=lim' then .error (8,(p':Int))else G' c):=by
 obtain⟨s,u,k⟩:=q;have d:(bs.drop p)[0]?=bs[p]?:=by rw[KD,LJ]
 have a:(bs'.drop p')[0]?=bs'[p']?:=by rw[KD,LJ]
 have e:=DK (i:=p) (l:=bs);have b:=DK (i:=p') (l:=bs');have g:bs.drop (p+1)=(bs.drop p).drop 1:=by rw[LH]
 have f:bs'.drop (p'+1)=(bs'.drop p').drop 1:=by rw[LH]
 have v:=E.l;have w:=E.l';rw[k]at a b f
 cases j:bs.drop p with
 |cons c r =>
  rw[j]at d a e b g f;rw[<-d,<-a];simp only[Bq,AC]at e b;show Sx bs bs' t R (if(p:Int)=lim then _ else _) (if(p':Int)=lim' then _ else _);rw[Aq (by omega),Aq (by omega)];exact h c ⟨by omega,by omega,by rw[g,f];rfl⟩
 |nil =>
  rw[j]at d a e b;rw[<-d,<-a];rw[CF]at e;rcases E.st with rfl|⟨c,r,rfl,o⟩
  ·exact m rfl
  simp only[Jd,Bq]at b;show Sx bs bs' _ R r0 (if(p':Int)=lim' then _ else _);rw[Aq (by omega)];exact n (by omega) c r rfl o
theorem Sx.byte(E:Ev bs bs' t lim lim')(a:Tl bs bs' t p p'){G:UInt8->A6 α}{G':UInt8->A6 β}(h:∀c,Tl bs bs' t (p+1) (p'+1)->Sx bs bs' t R (G c) (G' c)):Sx bs bs' t R (match(generalizing:=false) bs[p]? with|none=>.error (9,(p:Int))|some c=>if(p:Int)=lim then .error (8,(p:Int))else G c) (match(generalizing:=false) bs'[p']? with|none=>.error (9,(p':Int))|some c=>if(p':Int)=lim' then .error (8,(p':Int))else G' c) :=
 Sx.at_ E a (λ_=>Sx.err) (λ_ c r e _=>λh=>by rw[h]at e;cases e) h
theorem Tl.len(h:Tl bs bs' t p p'):bs'.length+p=bs.length+p'+t.length:=by
 have:=congrArg List.length h.2.2;rw[AC,DK,DK]at this;have:=h.1;have:=h.2.1;omega
end
theorem YK(E:Ev bs bs' t lim lim'):∀(g a p p':Nat),Tl bs bs' t p p'->bs.length<g+p->bs'.length<a+p'->Sx bs bs' t (λ_ _=>True) (Bk bs lim g p) (Bk bs' lim' a p')
 |0,_,p,_,h,h2,_=>by have:=h.1;omega
 |g+1,0,p,p',h,_,h3=>by have:=h.2.1;omega
 |g+1,a+1,p,p',h,h2,h3=>by
  unfold Bk;refine Sx.at_ E h (λ_=>Sx.ok trivial h) (λ_ c r _ d=>?_) (λc b=>Sx.ite (λ_=>YK E g a (p+1) (p'+1) b (by omega) (by omega)) (λ_=>Sx.ok trivial h));rw[Aq (by rcases d with rfl|rfl<;>decide)];exact Sx.ok trivial h
theorem Kq(E:Ev bs bs' t lim lim')(h:Tl bs bs' t p p'):Sx bs bs' t (λ_ _=>True) (Bk bs lim (bs.length+1-p) p) (Bk bs' lim' (bs'.length+1-p') p'):=YK E _ _ p p' h (by omega) (by omega)
theorem Ti(E:Ev bs bs' t lim lim')(b:Nat)(z:Bool):∀(g a p p' d:Nat),Tl bs bs' t p p'->bs.length<g+p->bs'.length<a+p'->Sx bs bs' t Eq (Cd bs lim b z g p d) (Cd bs' lim' b z a p' d)
 |0,_,p,_,_,h,h2,_=>by have:=h.1;omega
 |g+1,0,p,p',_,h,_,h3=>by have:=h.2.1;omega
 |g+1,a+1,p,p',d,h,h2,h3=>by
  unfold Cd;refine Sx.at_ E h (λ_=>Sx.ok rfl h) (λ_ c r _ e=>?_) (λc f=>Sx.ite (λ_=>Sx.ite (λ_=>Sx.err) (λ_=>Sx.ite (λ_=>Sx.err) (λ_=>Ti E b z g a (p+1) (p'+1) _ f (by omega) (by omega)))) (λ_=>Sx.ite (λ_=>Sx.err) (λ_=>Sx.ok rfl h)));rw[Aq (by rcases e with rfl|rfl<;>decide),Aq (by rcases e with rfl|rfl<;>decide)];exact Sx.ok rfl h
theorem pd(E:Ev bs bs' t lim lim')(c:UInt8)(h:Tl bs bs' t p p'):Sx bs bs' t Eq (Ci ⟨Ak,bs,0,0,lim,p,0⟩ c) (Ci ⟨Ak,bs',0,0,lim',p',0⟩ c):=by
 unfold Ci;refine Sx.ite (λ_=>Sx.byte E h (λc d=>Sx.ite (λ_=>?_) (λ_=>Sx.err))) (λ_=>?_)
 ·refine Sx.bind (Ti E 9223372036854775808 (c.toNat==48) (bs.length+1-(p+1)) (bs'.length+1-(p'+1)) (p+1) (p'+1) (c.toNat-48) d (by omega) (by omega)) (λ_ z=>by rw[z]) (λ_ z=>by rw[z]) (λx q g f e a z b=>?_);rw[z,b,e];exact Sx.ok rfl a
 refine Sx.bind (Ti E 9223372036854775807 (c.toNat==48) (bs.length+1-p) (bs'.length+1-p') p p' (c.toNat-48) h (by omega) (by omega)) (λ_ z=>by rw[z]) (λ_ z=>by rw[z]) (λx q g f e a z b=>?_);rw[z,b,e];exact Sx.ok rfl a
theorem Lj(E:Ev bs bs' t lim lim'):∀(a:A2) (p p':Nat),Tl bs bs' t p p'->Sx bs bs' t (λ_ _=>True) (Ba bs lim a p) (Ba bs' lim' a p')
 |[],_,_,h=>Sx.ok trivial h
 |x::a,p,p',h=>by
  unfold Ba;exact Sx.byte E h (λc b=>Sx.ite (λ_=>Lj E a _ _ b) (λ_=>Sx.err))
theorem Tj(E:Ev bs bs' t lim lim'):∀(k p p' a:Nat),Tl bs bs' t p p'->Sx bs bs' t Eq (Ce bs lim k p a) (Ce bs' lim' k p' a)
 |0,_,_,_,h=>Sx.ok rfl h
 |k+1,p,p',a,h=>by
  unfold Ce;refine Sx.byte E h (λc b=>?_)
  cases G4 c with
  |none=>exact Sx.err
  |some d=>exact Tj E k _ _ _ b
theorem pe(E:Ev bs bs' t lim lim')(h:Tl bs bs' t p p'):Sx bs bs' t Eq (Ey bs lim p) (Ey bs' lim' p'):=by
 unfold Ey;refine Sx.bind (Tj E 4 p p' 0 h) (λ_ z=>by rw[z]) (λ_ z=>by rw[z]) (λx q i b e h z a=>?_);rw[z,a,<-e];refine Sx.ite (λ_=>Sx.err) (λ_=>Sx.ite (λ_=>?_) (λ_=>Sx.ok rfl h));refine Sx.bind (Lj E [92,117] q b h) (λ_ z=>by rw[z]) (λ_ z=>by rw[z]) (λ_ c _ d _ h z a=>?_);rw[z,a];dsimp only;refine Sx.bind (Tj E 4 c d 0 h) (λ_ z=>by rw[z]) (λ_ z=>by rw[z]) (λy f j g e h z a=>?_);rw[z,a,<-e];exact Sx.ite (λ_=>Sx.ok rfl h) (λ_=>Sx.err)
theorem pf(E:Ev bs bs' t lim lim')(h:Tl bs bs' t p p'):Sx bs bs' t Eq (Eb bs lim p) (Eb bs' lim' p'):=by
 unfold Eb;refine Sx.byte E h (λc a=>?_)
 repeat' refine Sx.ite (λ_=>Sx.ok rfl a) (λ_=>?_)
 exact Sx.ite (λ_=>pe E a) (λ_=>Sx.err)
theorem Q4(E:Ev bs bs' t lim lim'):∀(g a p p':Nat) (d:A2) (f:Nat),Tl bs bs' t p p'->bs.length<g+p->bs'.length<a+p'->Sx bs bs' t Eq (Bn bs lim g p d f) (Bn bs' lim' a p' d f)
 |0,_,p,_,_,_,h,h2,_=>by have:=h.1;omega
 |g+1,0,p,p',_,_,h,_,h3=>by have:=h.2.1;omega
 |g+1,a+1,p,p',d,f,h,h2,h3=>by
  unfold Bn;refine Sx.byte E h (λc b=>Sx.ite (λ_=>Sx.ok rfl b) (λ_=>Sx.ite (λ_=>?_) (λ_=>Sx.ite (λ_=>Sx.err) (λ_=>Sx.ite (λ_=>Sx.err) (λ_=>Q4 E g a _ _ _ _ b (by omega) (by omega))))));refine Sx.bind (pf E b) (λ_ z=>by rw[z]) (λ_ z=>by rw[z]) (λr q n i e h z j=>?_);have m:=(RT z).2;have k:=h.len;have l:=b.len;rw[z,j,<-e];exact Q4 E g a q i _ _ h (by omega) (by omega)
theorem pg(E:Ev bs bs' t lim lim')(ks:List A2)(h:Tl bs bs' t p p'):Sx bs bs' t Eq (El bs lim ks p) (El bs' lim' ks p'):=by
 unfold El;refine Sx.bind (Lj E [34] p p' h) (λ_ z=>by rw[z]) (λ_ z=>by rw[z]) (λ_ q _ b _ h z a=>?_);rw[z,a];dsimp only;refine Sx.bind (Q4 E (bs.length+1-q) (bs'.length+1-b) q b [] 0 h (by omega) (by omega)) (λ_ z=>by rw[z]) (λ_ z=>by rw[z]) (λl r c d e h z a=>?_);rw[z,a,<-e];exact Sx.ite (λ_=>Sx.err) (λ_=>Sx.ok rfl h)
def O0(bs bs' t:A2)(rd rd':Nat->Except (Int×Int) (DataW Unit×Nat)):Prop:=∀p p',Tl bs bs' t p p'->Sx bs bs' t Eq (rd p) (rd' p')
theorem ph(f:O0 bs bs' t rd rd')(a b:List (DataW Unit))(p p':Nat)(c:a=b)(h:Tl bs bs' t p p'):Sx bs bs' t Eq (Cv rd a p) (Cv rd' b p'):=by
 unfold Cv;refine Sx.bind (f p p' h) (λ_ z=>by rw[z]) (λ_ z=>by rw[z]) (λd q i j e h z g=>?_);rw[z,g,<-e,<-c];exact Sx.ok rfl h
theorem YL(E:Ev bs bs' t lim lim')(j:O0 bs bs' t rd rd'){R:List A2×List (Lit×DataW Unit)->List A2×List (Lit×DataW Unit)->Prop}(g:∀a c,R a c->a.1=c.1/\∀l d,R (l::a.1,a.2++[(.string l,d)]) (l::c.1,c.2++[(.string l,d)]))(a c:List A2×List (Lit×DataW Unit))(p p':Nat)(i:R a c)(h:Tl bs bs' t p p'):Sx bs bs' t R (C0 bs lim rd a p) (C0 bs' lim' rd' c p'):=by
 obtain⟨f,k⟩:=g a c i;unfold C0;rw[<-f];refine Sx.bind (pg E a.1 h) (λ_ z=>by rw[z]) (λ_ z=>by rw[z]) (λl u s v e h z b=>?_);rw[z,b,<-e];dsimp only;refine Sx.bind (Kq E h) (λ_ z=>by rw[z]) (λ_ z=>by rw[z]) (λ_ m _ n _ h z b=>?_);rw[z,b];dsimp only;refine Sx.bind (Lj E [58] m n h) (λ_ z=>by rw[z]) (λ_ z=>by rw[z]) (λ_ w _ x _ h z b=>?_);rw[z,b];dsimp only;refine Sx.bind (Kq E h) (λ_ z=>by rw[z]) (λ_ z=>by rw[z]) (λ_ o _ q _ h z b=>?_);rw[z,b];dsimp only;refine Sx.bind (j o q h) (λ_ z=>by rw[z]) (λ_ z=>by rw[z]) (λd y r A e h z b=>?_);rw[z,b,<-e];have:=k l d;rw[<-f]at this;exact Sx.ok this h
theorem Tk(E:Ev bs bs' t lim lim'){α β:Type}{R:α->β->Prop}{itF:α->Nat->A6 α}{itF':β->Nat->A6 β}(last:Nat)(hi:∀a d p p',R a d->Tl bs bs' t p p'->Sx bs bs' t R (itF a p) (itF' d p'))(k:∀a p d q,p<=bs.length->itF a p=.ok (d,q)->p<=q):∀(g f p p':Nat) (a:α) (d:β),R a d->Tl bs bs' t p p'->bs.length<g+p->bs'.length<f+p'->Sx bs bs' t R (C8 bs lim itF last g p a) (C8 bs' lim' itF' last f p' d)
 |0,_,p,_,_,_,_,h,h2,_=>by have:=h.1;omega
 |g+1,0,p,p',_,_,_,h,_,h3=>by have:=h.2.1;omega
 |g+1,f+1,p,p',a,d,ha,h,h2,h3=>by
  have u:=h.len;unfold C8;refine Sx.bind (Kq E h) (λ_ z=>by rw[z]) (λ_ z=>by rw[z]) (λ_ n _ o _ l z e=>?_);have w:=FQ _ _ _ _ _ _ z;rw[z,e];dsimp only;refine Sx.bind (hi a d n o ha l) (λ_ z=>by rw[z]) (λ_ z=>by rw[z]) (λb A m B j h z e=>?_);have x:=k _ _ _ _ l.1 z;rw[z,e];dsimp only;refine Sx.bind (Kq E h) (λ_ z=>by rw[z]) (λ_ z=>by rw[z]) (λ_ r _ s _ h z e=>?_);have y:=FQ _ _ _ _ _ _ z;have v:=h.len;rw[z,e];dsimp only;exact Sx.byte E h (λc i=>Sx.ite (λ_=>Sx.ok j i) (λ_=>Sx.ite (λ_=>Tk E last hi k g f (r+1) (s+1) b m j i (by omega) (by omega)) (λ_=>Sx.err)))
theorem YM(E:Ev bs bs' t lim lim'){α β:Type}{R:α->β->Prop}{itF:α->Nat->A6 α}{itF':β->Nat->A6 β}(last:Nat)(hi:∀a a' p p',R a a'->Tl bs bs' t p p'->Sx bs bs' t R (itF a p) (itF' a' p'))(n:∀a p a' q,p<=bs.length->itF a p=.ok (a',q)->p<=q)(l:∀a,∃e,itF a bs.length=.error e){a:α}{a':β}(d:R a a')(h:Tl bs bs' t p p'):Sx bs bs' t R (BW bs lim itF last p a) (BW bs' lim' itF' last p' a'):=by
 unfold BW;refine Sx.bind (Kq E h) (λ_ z=>by rw[z]) (λ_ z=>by rw[z]) (λ_ i _ j _ h z v=>?_);rw[z,v];dsimp only;have b:=Tk E last hi n (bs.length+1-i) (bs'.length+1-j) i j a a' d h (by omega) (by omega);refine Sx.at_ E h (λ_=>b) (λo c r e _=>?_) (λc k=>Sx.ite (λ_=>Sx.ok d k) (λ_=>b));subst o;obtain⟨f,m⟩:=l a;have s:∀g,Bk bs lim g bs.length=.ok ((),bs.length):=λg=>by
  cases g with
  |zero=>rfl
  |succ g=>rw[Bk,DI (AB _)]
 have u:C8 bs lim itF last (bs.length+1-bs.length) bs.length a=.error f:=by
  rw[show bs.length+1-bs.length=0+1 by omega,C8,s];dsimp only;rw[m]
 rw[u];exact λh=>by rw[h]at e;cases e
theorem pi(E:Ev bs bs' t lim lim'){d:Int}{wi wi':Nat}(r:d-wi=d'-wi')(o:¬(wi:Int)=d->O0 bs bs' t rd rd'/\Lg bs [] lim rd rd/\∃e,rd bs.length=.error e)(c:UInt8)(h:Tl bs bs' t p p'):Sx bs bs' t Eq (FA bs lim d wi rd (λc p=>Ci ⟨Ak,bs,0,0,lim,p,0⟩ c) c p) (FA bs' lim' d' wi' rd' (λc p=>Ci ⟨Ak,bs',0,0,lim',p,0⟩ c) c p'):=by
 have g:((wi':Int)=d')=((wi:Int)=d):=propext (by omega);unfold FA;simp only[g];refine Sx.ite (λ_=>?_) (λ_=>Sx.ite (λ_=>?_) (λ_=>Sx.ite (λ_=>?_) (λ_=>Sx.ite (λ_=>?_) (λ_=>Sx.ite (λ_=>Sx.ite (λ_=>Sx.err) (λg=>?_)) (λ_=>Sx.ite (λ_=>Sx.ite (λ_=>Sx.err) (λg=>?_)) (λ_=>Sx.ite (λ_=>?_) (λ_=>Sx.err)))))))
 ·refine Sx.bind (Lj E _ _ _ h) (λ_ z=>by rw[z]) (λ_ z=>by rw[z]) (λ_ _ _ _ _ h z b=>?_);rw[z,b];exact Sx.ok rfl h
 ·refine Sx.bind (Lj E _ _ _ h) (λ_ z=>by rw[z]) (λ_ z=>by rw[z]) (λ_ _ _ _ _ h z b=>?_);rw[z,b];exact Sx.ok rfl h
 ·refine Sx.bind (Lj E _ _ _ h) (λ_ z=>by rw[z]) (λ_ z=>by rw[z]) (λ_ _ _ _ _ h z b=>?_);rw[z,b];exact Sx.ok rfl h
 ·refine Sx.bind (Q4 E (bs.length+1-p) (bs'.length+1-p') p p' [] 0 h (by omega) (by omega)) (λ_ z=>by rw[z]) (λ_ z=>by rw[z]) (λ_ _ _ _ e h z b=>?_);rw[z,b,e];exact Sx.ok rfl h
 ·obtain⟨i,j,f,n⟩:=o g;refine Sx.bind (YM E (R:=Eq) 93 (ph i) (λa p m q k l=>?_) (λa=>⟨f,by unfold Cv;rw[n]⟩) rfl h) (λ_ z=>by rw[z]) (λ_ z=>by rw[z]) (λ_ _ _ _ e h z b=>?_)
  ·have:=Yj j a p k;rw[l]at this;exact this.1
  rw[z,b,e];exact Sx.ok rfl h
 ·obtain⟨i,j,f,n⟩:=o g;refine Sx.bind (YM E (R:=Eq) 125 (YL E i (λa m e=>by subst e;exact⟨rfl,λ_ _=>rfl⟩)) (λa p m q k l=>?_) (λa=>⟨(9,bs.length),by unfold C0 El Ba;rw[DI (AB _)]⟩) rfl h) (λ_ z=>by rw[z]) (λ_ z=>by rw[z]) (λ_ _ _ _ e h z b=>?_)
  ·have:=SS bs [] lim j a p k;rw[l]at this;exact this.1
  rw[z,b,e];exact Sx.ok rfl h
 refine Sx.bind (pd E c h) (λ_ z=>by rw[z]) (λ_ z=>by rw[z]) (λ_ _ _ _ e h z b=>?_);rw[z,b,e];exact Sx.ok rfl h
theorem Tn(E:Ev bs bs' t lim lim'){d:Int}:∀(g a b:Nat),d-a=d'-b->(a:Int)<=d->d<a+g->O0 bs bs' t (BX bs lim d (λc p=>Ci ⟨Ak,bs,0,0,lim,p,0⟩ c) g a) (BX bs' lim' d' (λc p=>Ci ⟨Ak,bs',0,0,lim',p,0⟩ c) g b)
 |0,_,_,_,_,_=>by omega
 |g+1,a,b,hd,h1,h2=>λp p' h=>by
  unfold BX;refine Sx.byte E h (λc e=>pi E hd (λf=>⟨Tn E g (a+1) (b+1) (by omega) (by omega) (by omega),?_,?_⟩) c e)
  ·have:=NU bs [] lim d g (a+1) (by omega) (by omega);rw[IA]at this;exact this
  cases g with
  |zero=>omega
  |succ g=>exact⟨(9,bs.length),by rw[BX,DI (AB _)]⟩
end
end Go.Proofs.YtoegnhgofkhbnaaGreatDoor
