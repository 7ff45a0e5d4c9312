import Derived.Test.YtcokgepdckkjdaaGreatDoorRq26
set_option maxRecDepth 100000
set_option maxHeartbeats 8000000
namespace Go.Proofs.YtcokgepdckkjdaaGreatDoor
open Go.Proofs.Tryz
variable {n p q r:Nat}{e lim:Int}{bs t:List UInt8}{rd rd':Nat->Except (Int×Int) (DataW Unit×Nat)}
section
open Go.RowKit Go.Lib
def Tm {α:Type}(s:Prop)(n p:Nat)(M:α->Nat->Prop)(r r':Except (Int×Int) (α×Nat)):Prop :=
 match r with
 |.ok (x,q)=>p<=q/\q<=n/\M x q/\(r'=.ok (x,q)\/(¬s/\q=n))
 |.error (e,pl)=>pl<=(n:Int)/\(r'=.error (e,pl)\/pl=n)/\(p=n->pl=n)
theorem Tm.ok {α:Type}{s:Prop}{M:α->Nat->Prop}{x:α}(a:p<=q)(b:q<=n)(c:M x q):Tm s n p M (.ok (x,q)) (.ok (x,q)):=⟨a,b,c,.inl rfl⟩
theorem Tm.last {α:Type}{M:α->Nat->Prop}{x:α}{r':Except (Int×Int) (α×Nat)}(h:p=n)(a:M x p):Tm False n p M (.ok (x,p)) r':=⟨Nat.le_refl _,Nat.le_of_eq h,a,.inr ⟨id,h⟩⟩
theorem Tm.err {α:Type}{s:Prop}{M:α->Nat->Prop}{pl:Int}(a:pl<=n)(b:p=n->pl=n):Tm s n p M (.error (e,pl)) (.error (e,pl)):=⟨a,.inl rfl,b⟩
theorem Tm.stop {α:Type}{s:Prop}{M:α->Nat->Prop}{r':Except (Int×Int) (α×Nat)}(h:p=n):Tm s n p M (.error (e,(p:Int))) r':=⟨by omega,.inr (by omega),fun _=>by omega⟩
theorem Tm.from_ {α:Type}{s:Prop}{M:α->Nat->Prop}{r r':Except (Int×Int) (α×Nat)}(h:Tm s n q M r r')(b:p<=q)(c:q<=n):Tm s n p M r r':=by
 rcases r with ⟨e,d⟩|⟨x,y⟩
 ·exact⟨h.1,h.2.1,fun a=>h.2.2 (by omega)⟩
 exact⟨Nat.le_trans b h.1,h.2⟩
theorem Tm.any {α:Type}{s:Prop}{M:α->Nat->Prop}{r r1 r2:Except (Int×Int) (α×Nat)}(h:Tm s n n M r r1):Tm False n n M r r2:=by
 rcases r with ⟨e,a⟩|⟨x,y⟩
 ·exact⟨h.1,.inr (h.2.2 rfl),h.2.2⟩
 exact⟨h.1,h.2.1,h.2.2.1,.inr ⟨id,Nat.le_antisymm h.2.1 h.1⟩⟩
theorem Tm.with_ {α:Type}{s:Prop}{M M':α->Nat->Prop}{r r':Except (Int×Int) (α×Nat)}(h:Tm s n p M r r')(a:∀x q,p<=q->q<=n->M x q->M' x q):Tm s n p M' r r':=by
 rcases r with ⟨e,b⟩|⟨x,y⟩
 ·exact h
 exact⟨h.1,h.2.1,a x y h.1 h.2.1 h.2.2.1,h.2.2.2⟩
theorem Tm.bind {α β:Type}{s:Prop}{M:α->Nat->Prop}{M2:β->Nat->Prop}{r r':Except (Int×Int) (α×Nat)}{R R':Except (Int×Int) (β×Nat)}(h:Tm s n p M r r')(j:∀e,r=.error e->R=.error e)(k:∀e,r'=.error e->R'=.error e)(l:∀x q,p<=q->q<=n->M x q->r=.ok (x,q)->∃c,(r'=.ok (x,q)->R'=c)/\Tm False n q M2 R c):Tm False n p M2 R R':=by
 rcases r with ⟨e,m⟩|⟨x,q⟩
 ·obtain⟨b,a,d⟩:=h;rw[j _ rfl];refine⟨b,?_,d⟩;rcases a with rfl|a
  ·exact .inl (k _ rfl)
  exact .inr a
 obtain⟨b,a,d,i⟩:=h;obtain⟨c,g,f⟩:=l x q b a d rfl;rcases i with rfl|⟨_,rfl⟩
 ·rw[g rfl];exact f.from_ b a
 exact f.any.from_ b a
theorem Tm.bindS {α β:Type}{s:Prop}{M:α->Nat->Prop}{M2:β->Nat->Prop}{r r':Except (Int×Int) (α×Nat)}{R R':Except (Int×Int) (β×Nat)}(h:Tm True n p M r r')(f:∀e,r=.error e->R=.error e)(g:∀e,r'=.error e->R'=.error e)(i:∀x q,p<=q->q<=n->M x q->r=.ok (x,q)->r'=.ok (x,q)->Tm s n p M2 R R'):Tm s n p M2 R R':=by
 rcases r with ⟨e,j⟩|⟨x,q⟩
 ·obtain⟨b,a,c⟩:=h;rw[f _ rfl];refine⟨b,?_,c⟩;rcases a with rfl|a
  ·exact .inl (g _ rfl)
  exact .inr a
 obtain⟨b,a,c,d⟩:=h;rcases d with rfl|⟨d,_⟩
 ·exact i x q b a c rfl rfl
 exact absurd trivial d
theorem Tm.at_ {α:Type}{s:Prop}{M:α->Nat->Prop}{r0 r1:Except (Int×Int) (α×Nat)}{G G':UInt8->Except (Int×Int) (α×Nat)}(g:p<=bs.length)(d:p=bs.length->∀f,Tm s bs.length p M r0 f)(h:∀c,bs[p]? = some c->p<bs.length->Tm s bs.length p M (G c) (G' c)):Tm s bs.length p M (match (generalizing:=false) bs[p]? with|none=>r0|some c=>if (p:Int)=lim then .error (8,(p:Int)) else G c) (match (generalizing:=false) (bs++t)[p]? with|none=>r1|some c=>if (p:Int)=lim then .error (8,(p:Int)) else G' c):=by
 by_cases a:p<bs.length
 ·have e:(bs++t)[p]? = bs[p]?:=List.getElem?_append_left a;obtain⟨c,b⟩:∃c,bs[p]? = some c:=⟨_,List.getElem?_eq_getElem a⟩
  rw[e,b];dsimp only;split
  ·exact Tm.err (by omega) (by omega)
  exact h c b a
 have e:bs[p]? = none:=List.getElem?_eq_none (by omega);rw[e];exact d (by omega) _
theorem Tm.byte {α:Type}{s:Prop}{M:α->Nat->Prop}{G G':UInt8->Except (Int×Int) (α×Nat)}(a:p<=bs.length)(h:∀c,bs[p]? = some c->p<bs.length->Tm s bs.length p M (G c) (G' c)):Tm s bs.length p M (match (generalizing:=false) bs[p]? with|none=>.error (9,(p:Int))|some c=>if (p:Int)=lim then .error (8,(p:Int)) else G c) (match (generalizing:=false) (bs++t)[p]? with|none=>.error (9,(p:Int))|some c=>if (p:Int)=lim then .error (8,(p:Int)) else G' c):=Tm.at_ a (fun e _=>Tm.stop e) h
theorem Tm.ite {α:Type}{s:Prop}{M:α->Nat->Prop}{c:Prop}[Decidable c]{a b a' b':Except (Int×Int) (α×Nat)}(d:c->Tm s n p M a a')(e:¬c->Tm s n p M b b'):Tm s n p M (if c then a else b) (if c then a' else b'):=by
 by_cases h:c
 ·rw[if_pos h,if_pos h];exact d h
 rw[if_neg h,if_neg h];exact e h
theorem qss (bs t:List UInt8)(lim:Int):∀(g a p:Nat),p<=bs.length->bs.length<g+p->(bs++t).length<a+p->Tm False bs.length p (fun _ _=>True) (spF bs lim g p) (spF (bs++t) lim a p)
 |0,_,p,h1,h2,_=>by omega
 |g+1,0,p,h1,_,h3=>by rw[List.length_append] at h3;omega
 |g+1,a+1,p,h1,h2,h3=>by
  unfold spF;refine Tm.at_ h1 (fun e _=>Tm.last e trivial) (fun c d b=>Tm.ite (fun _ => ?_) (fun _=>Tm.ok (Nat.le_refl _) h1 trivial));exact(qss bs t lim g a (p+1) b (by omega) (by omega)).from_ (by omega) b
theorem qhj (bs t:List UInt8)(lim:Int)(p:Nat)(h:p<=bs.length):Tm False bs.length p (fun _ _=>True) (spF bs lim (bs.length+1-p) p) (spF (bs++t) lim ((bs++t).length+1-p) p):=qss bs t lim _ _ p h (by omega) (by rw[List.length_append];omega)
theorem qkr (bs t:List UInt8)(lim:Int)(b:Nat)(z:Bool):∀(g a p d:Nat),p<=bs.length->bs.length<g+p->(bs++t).length<a+p->Tm False bs.length p (fun _ _=>True) (qfi bs lim b z g p d) (qfi (bs++t) lim b z a p d)
 |0,_,p,_,h1,h2,_=>by omega
 |g+1,0,p,_,h1,_,h3=>by rw[List.length_append] at h3;omega
 |g+1,a+1,p,d,h1,h2,h3=>by
  unfold qfi;refine Tm.at_ h1 (fun e _=>Tm.last e trivial) (fun c h f=>Tm.ite (fun _=>Tm.ite (fun _=>Tm.err (by omega) (by omega)) (fun _=>Tm.ite (fun _=>Tm.err (by omega) (by omega)) (fun _ => ?_))) (fun _=>Tm.ite (fun _=>Tm.err (by omega) (by omega)) (fun _=>Tm.ok (Nat.le_refl _) h1 trivial)));exact(qkr bs t lim b z g a (p+1) _ f (by omega) (by omega)).from_ (by omega) f
theorem qu8 (bs t:List UInt8)(lim:Int)(c:UInt8)(p:Nat)(h:p<=bs.length):Tm False bs.length p (fun _ _=>True) (qg4 ⟨none,bs,0,0,lim,p,0⟩ c) (qg4 ⟨none,bs++t,0,0,lim,p,0⟩ c):=by
 unfold qg4;refine Tm.ite (fun _=>Tm.byte h (fun c e d=>Tm.ite (fun _ => ?_) (fun _=>Tm.err (by show(p:Int)<=_;omega) (by show _->(p:Int)=_;omega)))) (fun _ => ?_)
 ·refine Tm.from_ (q:=p+1) ?_ (by omega) d;refine Tm.bind (qkr bs t lim 9223372036854775808 (c.toNat==48) (bs.length+1-(p+1)) ((bs++t).length+1-(p+1)) (p+1) (c.toNat-48) d (by omega) (by rw[List.length_append];omega)) (fun _ z=>by rw[z]) (fun _ z=>by rw[z]) (fun x q _ a _ b=>⟨_,fun z=>by rw[z],?_⟩);rw[b];refine Tm.ok (Nat.le_refl _) a trivial
 refine Tm.bind (qkr bs t lim 9223372036854775807 (c.toNat==48) (bs.length+1-p) ((bs++t).length+1-p) p (c.toNat-48) h (by omega) (by rw[List.length_append];omega)) (fun _ z=>by rw[z]) (fun _ z=>by rw[z]) (fun x q _ a _ b=>⟨_,fun z=>by rw[z],?_⟩);rw[b];refine Tm.ok (Nat.le_refl _) a trivial
theorem qcP (bs t:List UInt8)(lim:Int):∀(a:List UInt8) (p:Nat),p<=bs.length->Tm True bs.length p (fun _ q=>q=p+a.length) (qaT bs lim a p) (qaT (bs++t) lim a p)
 |[],p,h=>Tm.ok (Nat.le_refl _) h rfl
 |x::a,p,h=>by
  unfold qaT;refine Tm.byte h (fun c d b=>Tm.ite (fun _ => ?_) (fun _=>Tm.err (by omega) (by omega)));exact((qcP bs t lim a (p+1) b).with_ (fun _ q _ _ e=>by rw[List.length_cons];omega)).from_ (by omega) b
theorem qkY (bs t:List UInt8)(lim:Int):∀(k p a:Nat),p<=bs.length->Tm True bs.length p (fun _ q=>q=p+k) (qgA bs lim k p a) (qgA (bs++t) lim k p a)
 |0,p,a,h=>Tm.ok (Nat.le_refl _) h rfl
 |k+1,p,a,h=>by
  unfold qgA;refine Tm.byte h (fun c f b => ?_)
  cases qqh c with
  |none=>exact Tm.err (by omega) (by omega)
  |some d=>exact((qkY bs t lim k (p+1) _ b).with_ (fun _ q _ _ e=>by omega)).from_ (by omega) b
theorem qrC (bs t:List UInt8)(lim:Int)(p:Nat)(h:p<=bs.length):Tm True bs.length p (fun _ q=>p+4<=q) (qgy bs lim p) (qgy (bs++t) lim p):=by
 unfold qgy;refine Tm.bindS (qkY bs t lim 4 p 0 h) (fun _ z=>by rw[z]) (fun _ z=>by rw[z]) (fun x q _ c e b a => ?_);rw[b,a];refine Tm.ite (fun _=>Tm.err (by omega) (by omega)) (fun _=>Tm.ite (fun _ => ?_) (fun _=>Tm.ok (by omega) c (by omega)));refine Tm.from_ (q:=q) ?_ (by omega) c;refine Tm.bindS (qcP bs t lim [92,117] q c) (fun _ z=>by rw[z]) (fun _ z=>by rw[z]) (fun _ d _ g f b a => ?_);rw[b,a];dsimp only;have f:d=q+2:=f;refine Tm.from_ (q:=d) ?_ (by omega) g;refine Tm.bindS (qkY bs t lim 4 d 0 g) (fun _ z=>by rw[z]) (fun _ z=>by rw[z]) (fun y k _ i j b a => ?_);rw[b,a];refine Tm.ite (fun _=>Tm.ok (by omega) i (by omega)) (fun _=>Tm.err (by omega) (by omega))
theorem qsN (bs t:List UInt8)(lim:Int)(p:Nat)(h:p<=bs.length):Tm True bs.length p (fun _ q=>p+1<=q) (qnj bs lim p) (qnj (bs++t) lim p):=by
 unfold qnj;refine Tm.byte h (fun c b a => ?_)
 repeat' refine Tm.ite (fun _=>Tm.ok (by omega) a (Nat.le_refl _)) (fun _ => ?_)
 refine Tm.ite (fun _ => ?_) (fun _=>Tm.err (by omega) (by omega));exact((qrC bs t lim (p+1) a).with_ (fun _ q _ _ e=>by omega)).from_ (by omega) a
theorem qhT (bs t:List UInt8)(lim:Int):∀(g a p:Nat) (d:List UInt8) (h:Nat),p<=bs.length->bs.length<g+p->(bs++t).length<a+p->Tm True bs.length p (fun l q=>l.length+4*p+4<=d.length+4*q) (qfe bs lim g p d h) (qfe (bs++t) lim a p d h)
 |0,_,p,_,_,h1,h2,_=>by omega
 |g+1,0,p,_,_,h1,_,h3=>by rw[List.length_append] at h3;omega
 |g+1,a+1,p,d,h,h1,h2,h3=>by
  unfold qfe;refine Tm.byte h1 (fun c m b=>Tm.ite (fun _=>Tm.ok (by omega) b (by omega)) (fun _=>Tm.ite (fun _ => ?_) (fun _=>Tm.ite (fun _=>Tm.err (by omega) (by omega)) (fun _=>Tm.ite (fun _=>Tm.err (by omega) (by omega)) (fun _ => ?_)))))
  ·refine Tm.from_ (q:=p+1) ?_ (by omega) b;refine Tm.bindS (qsN bs t lim (p+1) b) (fun _ z=>by rw[z]) (fun _ z=>by rw[z]) (fun r q _ i e k j => ?_);rw[k,j];dsimp only;refine Tm.from_ (q:=q) ?_ (by omega) i;refine(qhT bs t lim g a q _ _ i (by omega) (by omega)).with_ (fun l y _ _ f => ?_);have:=qcg r;rw[List.length_append] at f;omega
  refine((qhT bs t lim g a (p+1) _ _ b (by omega) (by omega)).with_ (fun l y _ _ f => ?_)).from_ (by omega) b;rw[List.length_append] at f;simp only[List.length_cons,List.length_nil] at f;omega
def szF:Nat->DataW Unit->Nat
 |0,_=>0
 |k+1,d=>match d with
  |.agg ds=>200+(ds.map fun d=>30+szF k d).sum
  |.map es=>200+(es.map fun e=>100+6*(qb7 e.1).length+szF k e.2).sum
  |.lit (.string l)=>200+6*l.length
  |.ptr (.lit (.string l))=>200+6*l.length
  |_=>200
def SzT (p:Nat)(d:DataW Unit)(q:Nat):Prop:=∀k,szF k d+30+400*p<=400*q
def TmR (n:Nat)(rd rd':Nat->Except (Int×Int) (DataW Unit×Nat)):Prop:=∀p,p<=n->Tm False n p (SzT p) (rd p) (rd' p)
def sqL (k:Nat)(ds:List (DataW Unit)):Nat:=(ds.map fun d=>30+szF k d).sum
def sqE (k:Nat)(es:List (Lit×DataW Unit)):Nat:=(es.map fun e=>100+6*(qb7 e.1).length+szF k e.2).sum
theorem qiB (k:Nat)(ds:List (DataW Unit))(d:DataW Unit):sqL k (ds++[d])=sqL k ds+(30+szF k d):=by unfold sqL;simp
theorem ql1 (k:Nat)(a:List (Lit×DataW Unit))(l:List UInt8)(d:DataW Unit):sqE k (a++[(.string l,d)])=sqE k a+(100+6*l.length+szF k d):=by unfold sqE;simp[qb7]
def Gth {α:Type}(μ:Nat->α->Nat)(a:α)(p:Nat)(b:α)(q:Nat):Prop:=∀k,μ k b+400*p<=μ k a+400*q
theorem qpZ {α:Type}(bs t:List UInt8)(lim:Int)(μ:Nat->α->Nat)(j l:α->Nat->Except (Int×Int) (α×Nat))(last:Nat)(hi:∀a p,p<=bs.length->Tm False bs.length p (Gth μ a p) (j a p) (l a p)):∀(g h p:Nat) (d:α),p<=bs.length->bs.length<g+p->(bs++t).length<h+p->Tm False bs.length p (Gth μ d p) (qgW bs lim j last g p d) (qgW (bs++t) lim l last h p d)
 |0,_,p,_,h1,h2,_=>by omega
 |g+1,0,p,_,h1,_,h3=>by rw[List.length_append] at h3;omega
 |g+1,h+1,p,d,h1,h2,h3=>by
  unfold qgW;refine Tm.bind (qhj bs t lim p h1) (fun _ z=>by rw[z]) (fun _ z=>by rw[z]) (fun _ s w o _ f=>⟨_,fun z=>by rw[z],?_⟩);rw[f];dsimp only;refine Tm.bind (hi d s o) (fun _ z=>by rw[z]) (fun _ z=>by rw[z]) (fun n u x q m f=>⟨_,fun z=>by rw[z],?_⟩);rw[f];dsimp only;refine Tm.bind (qhj bs t lim u q) (fun _ z=>by rw[z]) (fun _ z=>by rw[z]) (fun _ v A r _ f=>⟨_,fun z=>by rw[z],?_⟩);rw[f];dsimp only;refine Tm.byte r (fun c B i=>Tm.ite (fun _=>Tm.ok (by omega) i (fun k=>by have:=m k;omega)) (fun _=>Tm.ite (fun _ => ?_) (fun _=>Tm.err (by omega) (by omega))));exact((qpZ bs t lim μ j l last hi g h (v+1) n i (by omega) (by omega)).with_ (fun b y _ _ e k=>by have:=e k;have:=m k;omega)).from_ (by omega) i
theorem qnR {α:Type}(bs t:List UInt8)(lim:Int)(μ:Nat->α->Nat)(g h:α->Nat->Except (Int×Int) (α×Nat))(last:Nat)(hi:∀a p,p<=bs.length->Tm False bs.length p (Gth μ a p) (g a p) (h a p))(p:Nat)(d:α)(l:p<=bs.length):Tm False bs.length p (Gth μ d p) (qe4 bs lim g last p d) (qe4 (bs++t) lim h last p d):=by
 unfold qe4;refine Tm.bind (qhj bs t lim p l) (fun _ z=>by rw[z]) (fun _ z=>by rw[z]) (fun _ f o j _ n=>⟨_,fun z=>by rw[z],?_⟩);rw[n];dsimp only;have i:Tm False bs.length f (Gth μ d p) (qgW bs lim g last (bs.length+1-f) f d) (qgW (bs++t) lim h last ((bs++t).length+1-f) f d):=(qpZ bs t lim μ g h last hi _ _ f d j (by omega) (by rw[List.length_append];omega)).with_ (fun b y _ _ e k=>by have:=e k;omega);refine Tm.at_ j (fun e r => ?_) (fun c q m=>Tm.ite (fun _=>Tm.ok (by omega) m (fun k=>by omega)) (fun _=>i));subst e;exact i.any
theorem qvT (b:TmR n rd rd')(ds:List (DataW Unit))(p:Nat)(h:p<=n):Tm False n p (Gth sqL ds p) (liJ rd ds p) (liJ rd' ds p):=by
 unfold liJ;refine Tm.bind (b p h) (fun _ z=>by rw[z]) (fun _ z=>by rw[z]) (fun d q _ a e c=>⟨_,fun z=>by rw[z],?_⟩);rw[c];refine Tm.ok (Nat.le_refl _) a (fun k=>by have:=e k;rw[qiB];omega)
theorem qu5 (bs t:List UInt8)(lim:Int)(ks:List (List UInt8))(p:Nat)(h:p<=bs.length):Tm True bs.length p (fun l q=>l.length+4*p+8<=4*q) (qmo bs lim ks p) (qmo (bs++t) lim ks p):=by
 unfold qmo;refine Tm.bindS (qcP bs t lim [34] p h) (fun _ z=>by rw[z]) (fun _ z=>by rw[z]) (fun _ q _ c e b a => ?_);rw[b,a];dsimp only;have e:q=p+1:=e;refine Tm.from_ (q:=q) ?_ (by omega) c;refine Tm.bindS (qhT bs t lim (bs.length+1-q) ((bs++t).length+1-q) q [] 0 c (by omega) (by rw[List.length_append];omega)) (fun _ z=>by rw[z]) (fun _ z=>by rw[z]) (fun l r _ f d b a => ?_);rw[b,a];dsimp only;rw[List.length_nil] at d;exact Tm.ite (fun _=>Tm.err (by omega) (by omega)) (fun _=>Tm.ok (by omega) f (by omega))
def szM (k:Nat)(a:List (List UInt8)×List (Lit×DataW Unit)):Nat:=sqE k a.2
theorem qvQ (bs t:List UInt8)(lim:Int)(m:TmR bs.length rd rd')(a:List (List UInt8)×List (Lit×DataW Unit))(p:Nat)(h:p<=bs.length):Tm False bs.length p (Gth szM a p) (enJ bs lim rd a p) (enJ (bs++t) lim rd' a p):=by
 unfold enJ;refine Tm.bind (qu5 bs t lim a.1 p h) (fun _ z=>by rw[z]) (fun _ z=>by rw[z]) (fun l n _ e s b=>⟨_,fun z=>by rw[z],?_⟩);rw[b];dsimp only;refine Tm.bind (qhj bs t lim n e) (fun _ z=>by rw[z]) (fun _ z=>by rw[z]) (fun _ o _ f _ b=>⟨_,fun z=>by rw[z],?_⟩);rw[b];dsimp only;refine Tm.bind (qcP bs t lim [58] o f) (fun _ z=>by rw[z]) (fun _ z=>by rw[z]) (fun _ q _ g _ b=>⟨_,fun z=>by rw[z],?_⟩);rw[b];dsimp only;refine Tm.bind (qhj bs t lim q g) (fun _ z=>by rw[z]) (fun _ z=>by rw[z]) (fun _ r _ i _ b=>⟨_,fun z=>by rw[z],?_⟩);rw[b];dsimp only;refine Tm.bind (m r i) (fun _ z=>by rw[z]) (fun _ z=>by rw[z]) (fun d u _ j c b=>⟨_,fun z=>by rw[z],?_⟩);rw[b];refine Tm.ok (Nat.le_refl _) j (fun k => ?_);have:=c k;unfold szM;rw[ql1];omega
theorem qct {d:DataW Unit}(h:∀k,szF (k+1) d=200)(a:p<q):SzT p d q:=fun k=>by
 cases k with
 |zero=>show 0+30+_<=_;omega
 |succ k=>rw[h k];omega
theorem qoO {l:List UInt8}(a:l.length+4*(p+1)<=4*q):SzT p (.lit (.string l)) q:=fun k=>by
 cases k with
 |zero=>show 0+30+_<=_;omega
 |succ k=>show 200+6*l.length+30+_<=_;omega
theorem qnC {ds:List (DataW Unit)}(b:p<r)(a:r<=q)(h:Gth sqL [] r ds q):SzT p (.agg ds) q:=fun k=>by
 cases k with
 |zero=>show 0+30+_<=_;omega
 |succ k =>
  have:=h k;show 200+sqL k ds+30+_<=_;have e:sqL k []=0:=rfl;omega
theorem qsq {es:List (Lit×DataW Unit)}(b:p<r)(a:r<=q)(h:Gth sqE [] r es q):SzT p (.map es) q:=fun k=>by
 cases k with
 |zero=>show 0+30+_<=_;omega
 |succ k =>
  have:=h k;show 200+sqE k es+30+_<=_;have e:sqE k []=0:=rfl;omega
theorem qtk (bs t:List UInt8)(lim f:Int)(i:Nat)(j:¬(i:Int)=f->TmR bs.length rd rd')(c:UInt8)(p:Nat)(h:p+1<=bs.length):Tm False bs.length p (SzT p) (qqi bs lim f i rd (fun c p=>qg4 ⟨none,bs,0,0,lim,p,0⟩ c) c (p+1)) (qqi (bs++t) lim f i rd' (fun c p=>qg4 ⟨none,bs++t,0,0,lim,p,0⟩ c) c (p+1)):=by
 unfold qqi;refine Tm.ite (fun _ => ?_) (fun _=>Tm.ite (fun _ => ?_) (fun _=>Tm.ite (fun _ => ?_) (fun _=>Tm.ite (fun _ => ?_) (fun _=>Tm.ite (fun _ => ?_) (fun _=>Tm.ite (fun _ => ?_) (fun _=>Tm.ite (fun _ => ?_) (fun _ => ?_)))))))
 ·refine Tm.from_ (q:=p+1) ?_ (by omega) h;refine Tm.bind (qcP bs t lim _ (p+1) h) (fun _ z=>by rw[z]) (fun _ z=>by rw[z]) (fun _ q d a _ b=>⟨_,fun z=>by rw[z],?_⟩);rw[b];refine Tm.ok (Nat.le_refl _) a (qct (fun _=>rfl) (by omega))
 ·refine Tm.from_ (q:=p+1) ?_ (by omega) h;refine Tm.bind (qcP bs t lim _ (p+1) h) (fun _ z=>by rw[z]) (fun _ z=>by rw[z]) (fun _ q d a _ b=>⟨_,fun z=>by rw[z],?_⟩);rw[b];refine Tm.ok (Nat.le_refl _) a (qct (fun _=>rfl) (by omega))
 ·refine Tm.from_ (q:=p+1) ?_ (by omega) h;refine Tm.bind (qcP bs t lim _ (p+1) h) (fun _ z=>by rw[z]) (fun _ z=>by rw[z]) (fun _ q d a _ b=>⟨_,fun z=>by rw[z],?_⟩);rw[b];refine Tm.ok (Nat.le_refl _) a (qct (fun _=>rfl) (by omega))
 ·refine Tm.from_ (q:=p+1) ?_ (by omega) h;refine Tm.bind (qhT bs t lim (bs.length+1-(p+1)) ((bs++t).length+1-(p+1)) (p+1) [] 0 h (by omega) (by rw[List.length_append];omega)) (fun _ z=>by rw[z]) (fun _ z=>by rw[z]) (fun l q d a e b=>⟨_,fun z=>by rw[z],?_⟩);rw[b];refine Tm.ok (Nat.le_refl _) a (qoO ?_);rw[List.length_nil] at e;omega
 ·refine Tm.ite (fun _=>Tm.err (by omega) (by omega)) (fun g => ?_);refine Tm.from_ (q:=p+1) ?_ (by omega) h;refine Tm.bind (qnR bs t lim sqL _ _ 93 (qvT (j g)) (p+1) [] h) (fun _ z=>by rw[z]) (fun _ z=>by rw[z]) (fun k q d a e b=>⟨_,fun z=>by rw[z],?_⟩);rw[b];refine Tm.ok (Nat.le_refl _) a (qnC (Nat.lt_succ_self p) d e)
 ·refine Tm.ite (fun _=>Tm.err (by omega) (by omega)) (fun g => ?_);refine Tm.from_ (q:=p+1) ?_ (by omega) h;refine Tm.bind (qnR bs t lim szM _ _ 125 (qvQ bs t lim (j g)) (p+1) ([],[]) h) (fun _ z=>by rw[z]) (fun _ z=>by rw[z]) (fun m q d a e b=>⟨_,fun z=>by rw[z],?_⟩);rw[b];refine Tm.ok (Nat.le_refl _) a (qsq (Nat.lt_succ_self p) d e)
 ·dsimp only;refine Tm.from_ (q:=p+1) ?_ (by omega) h;refine Tm.bind (qu8 bs t lim c (p+1) h) (fun _ z=>by rw[z]) (fun _ z=>by rw[z]) (fun z q d a _ b=>⟨_,fun z=>by rw[z],?_⟩);rw[b];refine Tm.ok (Nat.le_refl _) a (qct (fun _=>rfl) (by omega))
 exact Tm.err (by omega) (by omega)
theorem qvV (bs t:List UInt8)(lim b:Int)(g:Nat):∀(a:Nat),(a:Int)<=b->b<a+g->TmR bs.length (thJ bs lim b (fun c p=>qg4 ⟨none,bs,0,0,lim,p,0⟩ c) g a) (thJ (bs++t) lim b (fun c p=>qg4 ⟨none,bs++t,0,0,lim,p,0⟩ c) g a):=by
 induction g with
 |zero=>intro a d e;omega
 |succ g i =>
  intro a d e p h;unfold thJ;refine Tm.byte h (fun c j f => ?_);exact qtk bs t lim b a (fun k=>i (a+1) (by omega) (by omega)) c p f
def dcP (n:Nat)(r:Except (Int×Int) (DataW Unit)):Except (Int×Int) (DataW Unit×Nat):=match r with
 |.error e=>.error e
 |.ok d=>.ok (d,n)
theorem qsW (bs t:List UInt8)(lim:Int){sp sp':Nat->Except (Int×Int) (Unit×Nat)}{th th':Nat->Except (Int×Int) (DataW Unit×Nat)}(h:∀p,p<=bs.length->Tm False bs.length p (fun _ _=>True) (sp p) (sp' p))(n:TmR bs.length th th'):Tm False bs.length 0 (fun d _=>∀k,szF k d+30<=400*bs.length) (dcP bs.length (qnZ sp th bs lim)) (dcP bs.length (qnZ sp' th' (bs++t) lim)):=by
 unfold qnZ;refine Tm.bind (h 0 (Nat.zero_le _)) (fun _ z=>by rw[z];rfl) (fun _ z=>by rw[z];rfl) (fun _ o _ j _ b=>⟨_,fun z=>by rw[z],?_⟩);rw[b];dsimp only;refine Tm.bind (n o j) (fun _ z=>by rw[z];rfl) (fun _ z=>by rw[z];rfl) (fun d q _ l i b=>⟨_,fun z=>by rw[z],?_⟩);rw[b];dsimp only;refine Tm.bind (h q l) (fun _ z=>by rw[z];rfl) (fun _ z=>by rw[z];rfl) (fun _ a _ r _ b=>⟨_,fun z=>by rw[z],?_⟩);rw[b];dsimp only;unfold qqn;dsimp only;by_cases g:a<bs.length
 ·have e:(bs++t)[a]? = bs[a]?:=List.getElem?_append_left g;obtain⟨c,m⟩:∃c,bs[a]? = some c:=⟨_,List.getElem?_eq_getElem g⟩
  rw[e,m];dsimp only;by_cases f:(a:Int)=lim
  ·rw[if_pos f];exact Tm.err (by omega) (by omega)
  rw[if_neg f];exact Tm.err (by omega) (by omega)
 have e:bs[a]? = none:=List.getElem?_eq_none (by omega);obtain rfl:a=bs.length:=by omega
 rw[e];exact⟨Nat.le_refl _,Nat.le_refl _,fun k=>(by have:=i k;omega),.inr ⟨id,rfl⟩⟩

end
end Go.Proofs.YtcokgepdckkjdaaGreatDoor
