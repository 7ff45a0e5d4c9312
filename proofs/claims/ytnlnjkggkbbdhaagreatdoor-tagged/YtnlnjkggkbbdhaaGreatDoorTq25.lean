import Derived.Test.YtnlnjkggkbbdhaaGreatDoorTq24
set_option maxRecDepth 100000
set_option maxHeartbeats 8000000
set_option linter.all false
namespace Go.Proofs.YtnlnjkggkbbdhaaGreatDoor
open Go.Proofs.Tryz
open Go.Value renaming int->I,slice->G
open Option renaming some->U,none->Y
open Go.IntKind renaming i64->K
open Go renaming World->O
variable{g p q r:Nat}{e lim:Int}{bs l t:A1}{rd rd':Nat->Except (Int×Int) (DataW Unit×Nat)}{ds:List (DataW Unit)}{R:Except (Int×Int) (List (DataW Unit)×Nat)}{W:O}{A:A3}{u:Value}
section
open Go.RowKit Go.Lib
def Kk{α:Type}(bs t:A1)(lim:Int)(r':Except (Int×Int) α):Prop:=lim=bs.length->t≠[]->r'=.error (8,lim)
def Tm{α:Type}(bs t:A1)(lim:Int)(s:Prop)(p:Nat)(M:α->Nat->Prop)(r r':A5 α):Prop :=
 match r with
 |.ok (x,q)=>p<=q/\q<=bs.length/\M x q/\(r'=.ok (x,q)\/(¬s/\q=bs.length/\Kk bs t lim r'))
 |.error (e,pl)=>pl<=(bs.length:Int)/\(r'=.error (e,pl)\/(pl=bs.length/\Kk bs t lim r'))/\(p=bs.length->pl=bs.length)
section
variable{α β:Type} {bs t:A1} {lim:Int} {s:Prop} {p:Nat} {M:α->Nat->Prop}
def Tm.ok{x:α}(a:p<=q)(b:q<=bs.length)(c:M x q):Tm bs t lim s p M (.ok (x,q)) (.ok (x,q)):=⟨a,b,c,.inl rfl⟩
def Tm.last{x:α}{r':A5 α}(h:p=bs.length)(b:Kk bs t lim r')(a:M x p):Tm bs t lim False p M (.ok (x,p)) r':=⟨BM _,OK h,a,.inr ⟨id,h,b⟩⟩
def Tm.err{pl:Int}(a:pl<=bs.length)(b:p=bs.length->pl=bs.length):Tm bs t lim s p M (.error (e,pl)) (.error (e,pl)):=⟨a,.inl rfl,b⟩
def Tm.stop{r':A5 α}(h:p=bs.length)(a:Kk bs t lim r'):Tm bs t lim s p M (.error (e,(p:Int))) r':=⟨J,.inr ⟨J,a⟩,λ_=>J⟩
def Tm.from_{r r':A5 α}(h:Tm bs t lim s q M r r')(b:p<=q)(c:q<=bs.length):Tm bs t lim s p M r r':=by
 rcases r with⟨e,d⟩|⟨x,y⟩
 ·exact⟨h.1,h.2.1,λa=>h.2.2 J⟩
 exact⟨C7 b h.1,h.2⟩
def Tm.any{r r1 r2:A5 α}(h:Tm bs t lim s bs.length M r r1)(a:Kk bs t lim r2):Tm bs t lim False bs.length M r r2:=by
 rcases r with⟨e,b⟩|⟨x,y⟩
 ·exact⟨h.1,.inr ⟨h.2.2 Z,a⟩,h.2.2⟩
 exact⟨h.1,h.2.1,h.2.2.1,.inr ⟨id,Nat.le_antisymm h.2.1 h.1,a⟩⟩
def Tm.with_{M':α->Nat->Prop}{r r':A5 α}(h:Tm bs t lim s p M r r')(a:∀x q,p<=q->q<=bs.length->M x q->M' x q):Tm bs t lim s p M' r r':=by
 rcases r with⟨e,b⟩|⟨x,y⟩
 ·exact h
 exact⟨h.1,h.2.1,a x y h.1 h.2.1 h.2.2.1,h.2.2.2⟩
def Tm.bind{M2:β->Nat->Prop}{r r':A5 α}{R R':A5 β}(h:Tm bs t lim s p M r r')(m:∀e,r=.error e->R=.error e)(i:∀e,r'=.error e->R'=.error e)(n:∀x q,p<=q->q<=bs.length->M x q->r=.ok (x,q)->∃f,(r'=.ok (x,q)->R'=f)/\Tm bs t lim False q M2 R f):Tm bs t lim False p M2 R R':=by
 rcases r with⟨e,u⟩|⟨x,q⟩
 ·obtain⟨d,c,g⟩:=h;rw[m _ rfl];refine⟨d,?_,g⟩;rcases c with rfl|c
  ·exact .inl (i _ Z)
  exact .inr ⟨c.1,λa b=>i _ (c.2 a b)⟩
 obtain⟨d,c,g,l⟩:=h;obtain⟨f,k,j⟩:=n x q d c g rfl;rcases l with rfl|⟨_,rfl,o⟩
 ·rw[k rfl];exact j.from_ d c
 exact(j.any λa b=>i _ (o a b)).from_ d c
def Tm.bindS{M2:β->Nat->Prop}{r r':A5 α}{R R':A5 β}(h:Tm bs t lim True p M r r')(j:∀e,r=.error e->R=.error e)(i:∀e,r'=.error e->R'=.error e)(k:∀x q,p<=q->q<=bs.length->M x q->r=.ok (x,q)->r'=.ok (x,q)->Tm bs t lim s p M2 R R'):Tm bs t lim s p M2 R R':=by
 rcases r with⟨e,l⟩|⟨x,q⟩
 ·obtain⟨d,c,f⟩:=h;rw[j _ rfl];refine⟨d,?_,f⟩;rcases c with rfl|c
  ·exact .inl (i _ Z)
  exact .inr ⟨c.1,λa b=>i _ (c.2 a b)⟩
 obtain⟨d,c,f,g⟩:=h;rcases g with rfl|⟨g,_⟩
 ·exact k x q d c f Z Z
 exact absurd trivial g
def UK(t:A1)(h:t≠[]):∃c,(bs++t)[bs.length]?=U c:=by
 cases t with
 |nil=>exact absurd rfl h
 |cons c t=>exact⟨c,Az⟩
def Tm.at_{r0 r1:A5 α}{G G':UInt8->A5 α}(j:p<=bs.length)(i:p=bs.length->∀g,Kk bs t lim g->Tm bs t lim s p M r0 g)(h:∀c,bs[p]?=U c->p<bs.length->Tm bs t lim s p M (G c) (G' c)):Tm bs t lim s p M (match(generalizing:=false) bs[p]? with|none=>r0|some c=>if(p:Int)=lim then .error (8,(p:Int))else G c) (match(generalizing:=false) (bs++t)[p]? with|none=>r1|some c=>if(p:Int)=lim then .error (8,(p:Int))else G' c):=by
 by_cases f:p<bs.length
 ·have e:(bs++t)[p]?=bs[p]?:=F6 f;obtain⟨c,d⟩:∃c,bs[p]?=U c:=⟨_,C6 f⟩
  rw[e,d];dsimp only;split
  ·exact Tm.err J J
  exact h c d f
 have e:bs[p]?=Y:=Dz J;obtain rfl:p=bs.length:=J
 rw[e];refine i Z _ λa b=>?_;obtain⟨c,d⟩:=UK t b;rw[d];subst a;exact BA Z
def Tm.byte{G G':UInt8->A5 α}(b:p<=bs.length)(h:∀c,bs[p]?=U c->p<bs.length->Tm bs t lim s p M (G c) (G' c)):Tm bs t lim s p M (match(generalizing:=false) bs[p]? with|none=>.error (9,(p:Int))|some c=>if(p:Int)=lim then .error (8,(p:Int))else G c) (match(generalizing:=false) (bs++t)[p]? with|none=>.error (9,(p:Int))|some c=>if(p:Int)=lim then .error (8,(p:Int))else G' c):=Tm.at_ b (λe _ a=>Tm.stop e a) h
def Tm.ite{c:Prop}[Decidable c]{a b a' b':A5 α}(d:c->Tm bs t lim s p M a a')(e:¬c->Tm bs t lim s p M b b'):Tm bs t lim s p M (if c then a else b) (if c then a' else b'):=by
 by_cases h:c
 ·rw[BA h,BA h];exact d h
 rw[Bz h,Bz h];exact e h
end
def aE(bs t:A1)(lim:Int):∀(g a p:Nat),p<=bs.length->bs.length<g+p->(bs++t).length<a+p->Tm bs t lim False p (λ_ _=>True) (Cd bs lim g p) (Cd (bs++t) lim a p)
 |0,_,p,h1,h2,_=>J
 |g+1,0,p,h1,_,h3=>kff
 |g+1,a+1,p,h1,h2,h3=>by
  unfold Cd;refine Tm.at_ h1 (λe _ d=>Tm.last e d trivial) (λc f b=>Tm.ite (λ_=>?_) (λ_=>Tm.ok (BM _) h1 trivial));exact(aE bs t lim g a (p+1) b J J).from_ J b
def Ln(bs t:A1)(lim:Int)(p:Nat)(h:p<=bs.length):Tm bs t lim False p (λ_ _=>True) (Cd bs lim (bs.length+1-p) p) (Cd (bs++t) lim ((bs++t).length+1-p) p):=aE bs t lim _ _ p h J Bx
def UL(bs t:A1)(lim:Int)(b:Nat)(z:Bool):∀(g a p d:Nat),p<=bs.length->bs.length<g+p->(bs++t).length<a+p->Tm bs t lim False p (λ_ _=>True) (Dn bs lim b z g p d) (Dn (bs++t) lim b z a p d)
 |0,_,p,_,h1,h2,_=>J
 |g+1,0,p,_,h1,_,h3=>kff
 |g+1,a+1,p,d,h1,h2,h3=>by
  unfold Dn;refine Tm.at_ h1 (λe _ h=>Tm.last e h trivial) (λc i f=>Tm.ite (λ_=>Tm.ite (λ_=>Tm.err J J) (λ_=>Tm.ite (λ_=>Tm.err J J) (λ_=>?_))) (λ_=>Tm.ite (λ_=>Tm.err J J) (λ_=>Tm.ok (BM _) h1 trivial)));exact(UL bs t lim b z g a (p+1) _ f J J).from_ J f
def qw(bs t:A1)(lim:Int)(c:UInt8)(p:Nat)(h:p<=bs.length):Tm bs t lim False p (λ_ _=>True) (CR ⟨Y,bs,0,0,lim,p,0⟩ c) (CR ⟨Y,bs++t,0,0,lim,p,0⟩ c):=by
 unfold CR;refine Tm.ite (λ_=>Tm.byte h (λc e d=>Tm.ite (λ_=>?_) (λ_=>Tm.err (by show(p:Int)<=_;omega) (by show _->(p:Int)=_;omega)))) (λ_=>?_)
 ·refine Tm.from_ (q:=p+1) ?_ J d;refine Tm.bind (UL bs t lim 9223372036854775808 (c.toNat==48) (bs.length+1-(p+1)) ((bs++t).length+1-(p+1)) (p+1) (c.toNat-48) d J Bx) (λ_ z=>AF) (λ_ z=>AF) (λx q _ a _ b=>⟨_,λz=>AF,?_⟩);rw[b];refine Tm.ok (BM _) a trivial
 refine Tm.bind (UL bs t lim 9223372036854775807 (c.toNat==48) (bs.length+1-p) ((bs++t).length+1-p) p (c.toNat-48) h J Bx) (λ_ z=>AF) (λ_ z=>AF) (λx q _ a _ b=>⟨_,λz=>AF,?_⟩);rw[b];refine Tm.ok (BM _) a trivial
def N2(bs t:A1)(lim:Int):∀(a:A1) (p:Nat),p<=bs.length->Tm bs t lim True p (λ_ q=>q=p+a.length) (Ci bs lim a p) (Ci (bs++t) lim a p)
 |[],p,h=>Tm.ok (BM _) h rfl
 |x::a,p,h=>by
  unfold Ci;refine Tm.byte h (λc d b=>Tm.ite (λ_=>?_) (λ_=>Tm.err J J));exact((N2 bs t lim a (p+1) b).with_ (λ_ q _ _ e=>by rw[Cu];omega)).from_ J b
def UM(bs t:A1)(lim:Int):∀(k p a:Nat),p<=bs.length->Tm bs t lim True p (λ_ q=>q=p+k) (Do bs lim k p a) (Do (bs++t) lim k p a)
 |0,p,a,h=>Tm.ok (BM _) h rfl
 |k+1,p,a,h=>by
  unfold Do;refine Tm.byte h (λc f b=>?_)
  cases Ia c with
  |none=>exact Tm.err J J
  |some d=>exact((UM bs t lim k (p+1) _ b).with_ (λ_ q _ _ e=>J)).from_ J b
def qx(bs t:A1)(lim:Int)(p:Nat)(h:p<=bs.length):Tm bs t lim True p (λ_ q=>p+4<=q) (FU bs lim p) (FU (bs++t) lim p):=by
 unfold FU;refine Tm.bindS (UM bs t lim 4 p 0 h) (λ_ z=>AF) (λ_ z=>AF) (λx q _ c e b a=>?_);rw[b,a];refine Tm.ite (λ_=>Tm.err J J) (λ_=>Tm.ite (λ_=>?_) (λ_=>Tm.ok J c J));refine Tm.from_ (q:=q) ?_ J c;refine Tm.bindS (N2 bs t lim [92,117] q c) (λ_ z=>AF) (λ_ z=>AF) (λ_ d _ g f b a=>?_);rw[b,a];dsimp only;have f:d=q+2:=f;refine Tm.from_ (q:=d) ?_ J g;refine Tm.bindS (UM bs t lim 4 d 0 g) (λ_ z=>AF) (λ_ z=>AF) (λy k _ i j b a=>?_);rw[b,a];refine Tm.ite (λ_=>Tm.ok J i J) (λ_=>Tm.err J J)
def qy(bs t:A1)(lim:Int)(p:Nat)(h:p<=bs.length):Tm bs t lim True p (λ_ q=>p+1<=q) (Fw bs lim p) (Fw (bs++t) lim p):=by
 unfold Fw;refine Tm.byte h (λc b a=>?_)
 repeat' refine Tm.ite (λ_=>Tm.ok J a (BM _)) (λ_=>?_)
 refine Tm.ite (λ_=>?_) (λ_=>Tm.err J J);exact((qx bs t lim (p+1) a).with_ (λ_ q _ _ e=>J)).from_ J a
def RF(bs t:A1)(lim:Int):∀(g a p:Nat) (d:A1) (h:Nat),p<=bs.length->bs.length<g+p->(bs++t).length<a+p->Tm bs t lim True p (λl q=>l.length+4*p+4<=d.length+4*q) (Ct bs lim g p d h) (Ct (bs++t) lim a p d h)
 |0,_,p,_,_,h1,h2,_=>J
 |g+1,0,p,_,_,h1,_,h3=>kff
 |g+1,a+1,p,d,h,h1,h2,h3=>by
  unfold Ct;refine Tm.byte h1 (λc m b=>Tm.ite (λ_=>Tm.ok J b J) (λ_=>Tm.ite (λ_=>?_) (λ_=>Tm.ite (λ_=>Tm.err J J) (λ_=>Tm.ite (λ_=>Tm.err J J) (λ_=>?_)))))
  ·refine Tm.from_ (q:=p+1) ?_ J b;refine Tm.bindS (qy bs t lim (p+1) b) (λ_ z=>AF) (λ_ z=>AF) (λr q _ i e k j=>?_);rw[k,j];dsimp only;refine Tm.from_ (q:=q) ?_ J i;refine(RF bs t lim g a q _ _ i J J).with_ (λl y _ _ f=>?_);have:=NJ r;rw[BK]at f;omega
  refine((RF bs t lim g a (p+1) _ _ b J J).with_ (λl y _ _ f=>?_)).from_ J b;rw[BK]at f;simp only[Cu,DX]at f;omega
def Ex:Nat->A2->Nat
 |0,_=>0
 |k+1,d=>match d with
  |.agg ds=>200+(ds.map λd=>30+Ex k d).sum
  |.map es=>200+(es.map λe=>100+6*(Cq e.1).length+Ex k e.2).sum
  |.lit (.string l)=>200+6*l.length
  |.ptr (.lit (.string l))=>200+6*l.length
  |_=>200
def Lo(p:Nat)(d:A2)(q:Nat):Prop:=∀k,Ex k d+30+400*p<=400*q
def KB(bs t:A1)(lim:Int)(rd rd':Nat->Except (Int×Int) (DataW Unit×Nat)):Prop:=∀p,p<=bs.length->Tm bs t lim False p (Lo p) (rd p) (rd' p)
def KC(k:Nat)(ds:List (DataW Unit)):Nat:=(ds.map λd=>30+Ex k d).sum
def Lp(k:Nat)(es:List (Lit×DataW Unit)):Nat:=(es.map λe=>100+6*(Cq e.1).length+Ex k e.2).sum
def aF(k:Nat)(ds:List (DataW Unit))(d:A2):KC k (ds++[d])=KC k ds+(30+Ex k d):=by unfold KC;simp
def aG(k:Nat)(a:List (Lit×DataW Unit))(l:A1)(d:A2):Lp k (a++[(.string l,d)])=Lp k a+(100+6*l.length+Ex k d):=by unfold Lp;simp[Cq]
def J1{α:Type}(μ:Nat->α->Nat)(a:α)(p:Nat)(b:α)(q:Nat):Prop:=∀k,μ k b+400*p<=μ k a+400*q
def aH{α:Type}(bs t:A1)(lim:Int)(μ:Nat->α->Nat)(itF j:α->Nat->A5 α)(last:Nat)(hi:∀a p,p<=bs.length->Tm bs t lim False p (J1 μ a p) (itF a p) (j a p)):∀(g h p:Nat) (d:α),p<=bs.length->bs.length<g+p->(bs++t).length<h+p->Tm bs t lim False p (J1 μ d p) (Dp bs lim itF last g p d) (Dp (bs++t) lim j last h p d)
 |0,_,p,_,h1,h2,_=>J
 |g+1,0,p,_,h1,_,h3=>kff
 |g+1,h+1,p,d,h1,h2,h3=>by
  unfold Dp;refine Tm.bind (Ln bs t lim p h1) (λ_ z=>AF) (λ_ z=>AF) (λ_ r v n _ f=>⟨_,λz=>AF,?_⟩);rw[f];dsimp only;refine Tm.bind (hi d r n) (λ_ z=>AF) (λ_ z=>AF) (λm s w o l f=>⟨_,λz=>AF,?_⟩);rw[f];dsimp only;refine Tm.bind (Ln bs t lim s o) (λ_ z=>AF) (λ_ z=>AF) (λ_ u x q _ f=>⟨_,λz=>AF,?_⟩);rw[f];dsimp only;refine Tm.byte q (λc A i=>Tm.ite (λ_=>Tm.ok J i (λk=>Ao (l k))) (λ_=>Tm.ite (λ_=>?_) (λ_=>Tm.err J J)));exact((aH bs t lim μ itF j last hi g h (u+1) m i J J).with_ (λb y _ _ e k=>Aq (e k) (l k))).from_ J i
def aI{α:Type}(bs t:A1)(lim:Int)(μ:Nat->α->Nat)(itF g:α->Nat->A5 α)(last:Nat)(hi:∀a p,p<=bs.length->Tm bs t lim False p (J1 μ a p) (itF a p) (g a p))(p:Nat)(d:α)(j:p<=bs.length):Tm bs t lim False p (J1 μ d p) (Di bs lim itF last p d) (Di (bs++t) lim g last p d):=by
 unfold Di;refine Tm.bind (Ln bs t lim p j) (λ_ z=>AF) (λ_ z=>AF) (λ_ f o i _ n=>⟨_,λz=>AF,?_⟩);rw[n];dsimp only;have h:Tm bs t lim False f (J1 μ d p) (Dp bs lim itF last (bs.length+1-f) f d) (Dp (bs++t) lim g last ((bs++t).length+1-f) f d):=(aH bs t lim μ itF g last hi _ _ f d i J Bx).with_ (λb y _ _ e k=>Ao (e k));refine Tm.at_ i (λe r l=>?_) (λc q m=>Tm.ite (λ_=>Tm.ok J m (λk=>J)) (λ_=>h));subst e;exact h.any l
def aJ(b:KB bs t lim rd rd')(ds:List (DataW Unit))(p:Nat)(h:p<=bs.length):Tm bs t lim False p (J1 KC ds p) (D9 rd ds p) (D9 rd' ds p):=by
 unfold D9;refine Tm.bind (b p h) (λ_ z=>AF) (λ_ z=>AF) (λd q _ a e c=>⟨_,λz=>AF,?_⟩);rw[c];refine Tm.ok (BM _) a (λk=>by have:=e k;rw[aF];omega)
def qz(bs t:A1)(lim:Int)(ks:List A1)(p:Nat)(h:p<=bs.length):Tm bs t lim True p (λl q=>l.length+4*p+8<=4*q) (FH bs lim ks p) (FH (bs++t) lim ks p):=by
 unfold FH;refine Tm.bindS (N2 bs t lim [34] p h) (λ_ z=>AF) (λ_ z=>AF) (λ_ q _ c e b a=>?_);rw[b,a];dsimp only;have e:q=p+1:=e;refine Tm.from_ (q:=q) ?_ J c;refine Tm.bindS (RF bs t lim (bs.length+1-q) ((bs++t).length+1-q) q [] 0 c J Bx) (λ_ z=>AF) (λ_ z=>AF) (λl r _ f d b a=>?_);rw[b,a];dsimp only;rw[DX]at d;exact Tm.ite (λ_=>Tm.err J J) (λ_=>Tm.ok J f J)
def UN(k:Nat)(a:List A1×List (Lit×DataW Unit)):Nat:=Lp k a.2
def aK(bs t:A1)(lim:Int)(m:KB bs t lim rd rd')(a:List A1×List (Lit×DataW Unit))(p:Nat)(h:p<=bs.length):Tm bs t lim False p (J1 UN a p) (DO bs lim rd a p) (DO (bs++t) lim rd' a p):=by
 unfold DO;refine Tm.bind (qz bs t lim a.1 p h) (λ_ z=>AF) (λ_ z=>AF) (λl n _ e s b=>⟨_,λz=>AF,?_⟩);rw[b];dsimp only;refine Tm.bind (Ln bs t lim n e) (λ_ z=>AF) (λ_ z=>AF) (λ_ o _ f _ b=>⟨_,λz=>AF,?_⟩);rw[b];dsimp only;refine Tm.bind (N2 bs t lim [58] o f) (λ_ z=>AF) (λ_ z=>AF) (λ_ q _ g _ b=>⟨_,λz=>AF,?_⟩);rw[b];dsimp only;refine Tm.bind (Ln bs t lim q g) (λ_ z=>AF) (λ_ z=>AF) (λ_ r _ i _ b=>⟨_,λz=>AF,?_⟩);rw[b];dsimp only;refine Tm.bind (m r i) (λ_ z=>AF) (λ_ z=>AF) (λd u _ j c b=>⟨_,λz=>AF,?_⟩);rw[b];refine Tm.ok (BM _) j (λk=>?_);have:=c k;unfold UN;rw[aG];omega
def KD{d:A2}(h:∀k,Ex (k+1) d=200)(a:p<q):Lo p d q:=λk=>by
 cases k with
 |zero=>show 0+30+_<=_;omega
 |succ k=>rw[h k];omega
def aL(a:l.length+4*(p+1)<=4*q):Lo p (.lit (.string l)) q:=λk=>by
 cases k with
 |zero=>show 0+30+_<=_;omega
 |succ k=>show 200+6*l.length+30+_<=_;omega
def qA(a:l.length+4*(p+1)<=4*q):Lo p (.ptr (.lit (.string l))) q:=λk=>by
 cases k with
 |zero=>show 0+30+_<=_;omega
 |succ k=>show 200+6*l.length+30+_<=_;omega
def aM(b:p<r)(a:r<=q)(h:J1 KC [] r ds q):Lo p (.agg ds) q:=λk=>by
 cases k with
 |zero=>show 0+30+_<=_;omega
 |succ k =>
  have:=h k;show 200+KC k ds+30+_<=_;have e:KC k []=0:=rfl;omega
def aN{es:List (Lit×DataW Unit)}(b:p<r)(a:r<=q)(h:J1 Lp [] r es q):Lo p (.map es) q:=λk=>by
 cases k with
 |zero=>show 0+30+_<=_;omega
 |succ k =>
  have:=h k;show 200+Lp k es+30+_<=_;have e:Lp k []=0:=rfl;omega
def qB(bs t:A1)(lim depth:Int)(wi:Nat)(g:¬(wi:Int)=depth->KB bs t lim rd rd')(c:UInt8)(p:Nat)(h:p+1<=bs.length):Tm bs t lim False p (Lo p) (GH bs lim depth wi rd (λc p=>CR ⟨Y,bs,0,0,lim,p,0⟩ c) c (p+1)) (GH (bs++t) lim depth wi rd' (λc p=>CR ⟨Y,bs++t,0,0,lim,p,0⟩ c) c (p+1)):=by
 unfold GH;refine Tm.ite (λ_=>?_) (λ_=>Tm.ite (λ_=>?_) (λ_=>Tm.ite (λ_=>?_) (λ_=>Tm.ite (λ_=>?_) (λ_=>Tm.ite (λ_=>?_) (λ_=>Tm.ite (λ_=>?_) (λ_=>Tm.ite (λ_=>?_) (λ_=>?_)))))))
 ·refine Tm.from_ (q:=p+1) ?_ J h;refine Tm.bind (N2 bs t lim _ (p+1) h) (λ_ z=>AF) (λ_ z=>AF) (λ_ q d a _ b=>⟨_,λz=>AF,?_⟩);rw[b];refine Tm.ok (BM _) a (KD (λ_=>rfl) J)
 ·refine Tm.from_ (q:=p+1) ?_ J h;refine Tm.bind (N2 bs t lim _ (p+1) h) (λ_ z=>AF) (λ_ z=>AF) (λ_ q d a _ b=>⟨_,λz=>AF,?_⟩);rw[b];refine Tm.ok (BM _) a (KD (λ_=>rfl) J)
 ·refine Tm.from_ (q:=p+1) ?_ J h;refine Tm.bind (N2 bs t lim _ (p+1) h) (λ_ z=>AF) (λ_ z=>AF) (λ_ q d a _ b=>⟨_,λz=>AF,?_⟩);rw[b];refine Tm.ok (BM _) a (KD (λ_=>rfl) J)
 ·refine Tm.from_ (q:=p+1) ?_ J h;refine Tm.bind (RF bs t lim (bs.length+1-(p+1)) ((bs++t).length+1-(p+1)) (p+1) [] 0 h J Bx) (λ_ z=>AF) (λ_ z=>AF) (λl q d a e b=>⟨_,λz=>AF,?_⟩);rw[b];refine Tm.ok (BM _) a (aL ?_);rw[DX]at e;omega
 ·refine Tm.ite (λ_=>Tm.err J J) (λf=>?_);refine Tm.from_ (q:=p+1) ?_ J h;refine Tm.bind (aI bs t lim KC _ _ 93 (aJ (g f)) (p+1) [] h) (λ_ z=>AF) (λ_ z=>AF) (λi q d a e b=>⟨_,λz=>AF,?_⟩);rw[b];refine Tm.ok (BM _) a (aM (Qh p) d e)
 ·refine Tm.ite (λ_=>Tm.err J J) (λf=>?_);refine Tm.from_ (q:=p+1) ?_ J h;refine Tm.bind (aI bs t lim UN _ _ 125 (aK bs t lim (g f)) (p+1) ([],[]) h) (λ_ z=>AF) (λ_ z=>AF) (λj q d a e b=>⟨_,λz=>AF,?_⟩);rw[b];refine Tm.ok (BM _) a (aN (Qh p) d e)
 ·dsimp only;refine Tm.from_ (q:=p+1) ?_ J h;refine Tm.bind (qw bs t lim c (p+1) h) (λ_ z=>AF) (λ_ z=>AF) (λz q d a _ b=>⟨_,λz=>AF,?_⟩);rw[b];refine Tm.ok (BM _) a (KD (λ_=>rfl) J)
 exact Tm.err J J
def Pt(bs t:A1)(lim depth:Int)(g:Nat):∀(a:Nat),(a:Int)<=depth->depth<a+g->KB bs t lim (CI bs lim depth (λc p=>CR ⟨Y,bs,0,0,lim,p,0⟩ c) g a) (CI (bs++t) lim depth (λc p=>CR ⟨Y,bs++t,0,0,lim,p,0⟩ c) g a):=by
 induction g with
 |zero=>intro a b d;omega
 |succ g h =>
  intro a b d p f;unfold CI;refine Tm.byte f (λc i e=>?_);exact qB bs t lim depth a (λj=>h (a+1) J J) c p e
def UO(bs t:A1)(lim:Int):∀(k p a:Nat),p<=bs.length->Tm bs t lim True p (λ_ q=>q=p+k) (D4 bs lim k p a) (D4 (bs++t) lim k p a)
 |0,p,a,h=>Tm.ok (BM _) h rfl
 |k+1,p,a,h=>by
  unfold D4;refine Tm.byte h (λc d b=>?_);exact((UO bs t lim k (p+1) _ b).with_ (λ_ q _ _ e=>J)).from_ J b
def aO(bs t:A1)(lim:Int):∀(k p:Nat) (b:A1),p<=bs.length->Tm bs t lim True p (λl q=>l.length+p=b.length+q) (EZ bs lim k p b) (EZ (bs++t) lim k p b)
 |0,p,a,h=>Tm.ok (BM _) h rfl
 |k+1,p,b,h=>by
  unfold EZ;refine Tm.byte h (λc f d=>?_);refine((aO bs t lim k (p+1) _ d).with_ (λ_ q _ _ e=>?_)).from_ J d;rw[BK,Cu,DX]at e;omega
def UP(bs t:A1)(lim:Int)(g:Nat):∀(k p:Nat) (d:A1) (f:Nat),g<=p->p<=bs.length->(g=p->f=d.length)->Tm bs t lim True g (λl q=>l.length+p=d.length+q) (Dr bs lim k p d f) (Dr (bs++t) lim k p d f)
 |0,p,d,f,h0,h,hw=>by
  unfold Dr;exact Tm.ite (λ_=>Tm.ok h0 h Z) (λm=>Tm.err J (λe=>absurd (hw J) m))
 |k+1,p,d,f,h0,h,hw=>by
  unfold Dr;by_cases j:p<bs.length
  ·have e:(bs++t)[p]?=bs[p]?:=F6 j;obtain⟨c,i⟩:∃c,bs[p]?=U c:=⟨_,C6 j⟩
   rw[e,i];refine Tm.ite (λ_=>Tm.err J J) (λ_=>Tm.ite (λ_=>Tm.err J J) (λ_=>?_));refine(UP bs t lim g k (p+1) _ _ J j J).with_ (λl q _ _ e=>?_);rw[BK,Cu,DX]at e;omega
  have e:bs[p]?=Y:=Dz J;obtain rfl:p=bs.length:=J
  rw[e];refine⟨J,.inr ⟨J,λa b=>?_⟩,λ_=>J⟩;obtain⟨c,i⟩:=UK t b;rw[i];subst a;exact BA Z
def qC(d:Nat->Nat×Nat×Nat)(bs t:A1)(lim:Int)(ks:List A1)(p:Nat)(h:p<=bs.length):Tm bs t lim True p (λl q=>l.length+p+1<=q) (E3 d bs lim ks p) (E3 d (bs++t) lim ks p):=by
 unfold E3;refine Tm.byte h (λc k f=>Tm.ite (λ_=>?_) (λ_=>Tm.err J J));refine Tm.bindS ((UO bs t lim _ (p+1) _ f).from_ (Nr p) f) (λ_ z=>AF) (λ_ z=>AF) (λx q _ i e b a=>?_);rw[b,a];dsimp only;refine Tm.bindS (UP bs t lim p x q [] 0 J i (λ_=>rfl)) (λ_ z=>AF) (λ_ z=>AF) (λl r _ j g b a=>?_);rw[b,a];dsimp only;rw[DX]at g;exact Tm.ite (λ_=>Tm.err J J) (λ_=>Tm.ok J j J)
def aP(a:KB bs t lim rd rd'):∀(k p:Nat) (acc:List (DataW Unit)),p<=bs.length->Tm bs t lim False p (J1 KC acc p) (F0 rd k p acc) (F0 rd' k p acc)
 |0,p,acc,h=>Tm.ok (BM _) h (λ_=>BM _)
 |k+1,p,acc,h=>by
  unfold F0;refine Tm.bind (a p h) (λ_ z=>AF) (λ_ z=>AF) (λd q _ g e i=>⟨_,λz=>AF,?_⟩);rw[i];dsimp only;refine(aP a k q _ g).with_ (λb y _ _ c j=>?_);have l:=e j;have f:=c j;rw[aF]at f;omega
def aQ{kf kf':List A1->Nat->A5 A1}(f:∀a p,p<=bs.length->Tm bs t lim True p (λl q=>l.length+p+1<=q) (kf a p) (kf' a p))(g:KB bs t lim rd rd'):∀(k p:Nat) (a:List A1) (acc:List (Lit×DataW Unit)),p<=bs.length->Tm bs t lim False p (J1 Lp acc p) (F1 kf rd k p a acc) (F1 kf' rd' k p a acc)
 |0,p,a,acc,h=>Tm.ok (BM _) h (λ_=>BM _)
 |k+1,p,a,acc,h=>by
  unfold F1;refine Tm.bind (f a p h) (λ_ z=>AF) (λ_ z=>AF) (λl q _ n s c=>⟨_,λz=>AF,?_⟩);rw[c];dsimp only;refine Tm.bind (g q n) (λ_ z=>AF) (λ_ z=>AF) (λd r _ o e c=>⟨_,λz=>AF,?_⟩);rw[c];dsimp only;refine(aQ f g k r _ _ o).with_ (λb y _ _ i j=>?_);have u:=e j;have m:=i j;rw[aG]at m;omega
def UQ(p:Nat)(c w:Int)(x q:Nat)(a:p<q)(b:q<=bs.length){R:Except (Int×Int) (DataW Unit×Nat)}(h:R=match DC c w x q with|.error e=>.error e|.ok z=>.ok (.lit (.int K z),q)):Tm bs t lim False p (Lo p) R R:=by
 rw[h];unfold DC;by_cases d:(c==5)=true
 ·rw[BA d];exact Tm.ok J b (KD (λ_=>rfl) a)
 rw[Bz d];by_cases f:9223372036854775807<x
 ·rw[BA f];exact Tm.err J J
 rw[Bz f];by_cases g:(c==6)=true
 ·rw[BA g];exact Tm.ok J b (KD (λ_=>rfl) a)
 rw[Bz g];exact Tm.ok J b (KD (λ_=>rfl) a)
def qD(bs t:A1)(lim:Int){li li':Nat->Nat->Except (Int×Int) (List (DataW Unit)×Nat)}{ma ma':Nat->Nat->Except (Int×Int) (List (Lit×DataW Unit)×Nat)}(g w x p q:Nat)(b:p<q)(a:q<=bs.length)(h:g=9->Tm bs t lim False q (J1 KC [] q) (li x q) (li' x q))(i:g=10->Tm bs t lim False q (J1 Lp [] q) (ma x q) (ma' x q)):Tm bs t lim False p (Lo p) (F2 bs lim li ma g w x q) (F2 (bs++t) lim li' ma' g w x q):=by
 unfold F2;split
 ·exact Tm.ok J a (KD (λ_=>rfl) b)
 ·exact Tm.ok J a (KD (λ_=>rfl) b)
 ·exact UQ p 4 w x q b a Z
 ·exact UQ p 5 w x q b a Z
 ·exact UQ p 6 w x q b a Z
 ·refine Tm.from_ (q:=q) ?_ J a;refine Tm.bind (aO bs t lim x q [] a) (λ_ z=>AF) (λ_ z=>AF) (λl r f c e d=>⟨_,λz=>AF,?_⟩);rw[d];dsimp only;rw[DX]at e;exact Tm.ok J c (qA J)
 ·refine Tm.from_ (q:=q) ?_ J a;refine Tm.bind (UP bs t lim q x q [] 0 (BM _) a (λ_=>rfl)) (λ_ z=>AF) (λ_ z=>AF) (λl r f c e d=>⟨_,λz=>AF,?_⟩);rw[d];dsimp only;rw[DX]at e;exact Tm.ok J c (aL J)
 ·refine Tm.from_ (q:=q) ?_ J a;refine Tm.bind (h Z) (λ_ z=>AF) (λ_ z=>AF) (λj r f c e d=>⟨_,λz=>AF,?_⟩);rw[d];refine Tm.ok J c (aM b f e)
 ·refine Tm.from_ (q:=q) ?_ J a;refine Tm.bind (i Z) (λ_ z=>AF) (λ_ z=>AF) (λk r f c e d=>⟨_,λz=>AF,?_⟩);rw[d];refine Tm.ok J c (aN b f e)
 exact Tm.ok J a (KD (λ_=>rfl) b)
def aR(b:Nat->Nat×Nat×Nat)(bs t:A1)(lim depth:Int)(g:Nat):∀(a:Nat),(a:Int)<=depth->depth<a+g->KB bs t lim (D5 b bs lim depth g a) (D5 b (bs++t) lim depth g a):=by
 induction g with
 |zero=>intro a j l;omega
 |succ g s =>
  intro a j l p m;unfold D5;refine Tm.byte m (λc u i=>Tm.ite (λ_=>Tm.err J J) (λ_=>Tm.ite (λ_=>Tm.err J J) (λn=>?_)));have h:(b c.toNat).1=9\/(b c.toNat).1=10->KB bs t lim (D5 b bs lim depth g (a+1)) (D5 b (bs++t) lim depth g (a+1)):=λd=>by
   have:¬(a:Int)=depth:=λe=>n ⟨d,e⟩;exact s (a+1) J J
  refine Tm.bindS ((UO bs t lim _ (p+1) _ i).from_ (Nr p) i) (λ_ z=>AF) (λ_ z=>AF) (λx q _ f e r o=>?_);rw[r,o];dsimp only;exact qD bs t lim _ _ x p q J f (λd=>aP (h (.inl d)) x q [] f) (λk=>aQ (qC b bs t lim) (h (.inr k)) x q [] [] f)
def O4(n:Nat)(r:Except (Int×Int) (DataW Unit)):Except (Int×Int) (DataW Unit×Nat):=match r with
 |.error e=>.error e
 |.ok d=>.ok (d,n)
def aS(bs t:A1)(lim:Int){sp sp':Nat->A5 Unit}{th th':Nat->Except (Int×Int) (DataW Unit×Nat)}(l:∀p,p<=bs.length->Tm bs t lim False p (λ_ _=>True) (sp p) (sp' p))(q:KB bs t lim th th'):Tm bs t lim False 0 (λd _=>∀k,Ex k d+30<=400*bs.length) (O4 bs.length (FI sp th bs lim)) (O4 (bs++t).length (FI sp' th' (bs++t) lim)):=by
 unfold FI;refine Tm.bind (l 0 (DK _)) (λ_ z=>kf0) (λ_ z=>kf0) (λ_ r _ n _ g=>⟨_,λz=>AF,?_⟩);rw[g];dsimp only;refine Tm.bind (q r n) (λ_ z=>kf0) (λ_ z=>kf0) (λd s _ o m g=>⟨_,λz=>AF,?_⟩);rw[g];dsimp only;refine Tm.bind (l s o) (λ_ z=>kf0) (λ_ z=>kf0) (λ_ f _ u _ g=>⟨_,λz=>AF,?_⟩);rw[g];dsimp only;unfold Gz;dsimp only;by_cases j:f<bs.length
 ·have e:(bs++t)[f]?=bs[f]?:=F6 j;obtain⟨c,h⟩:∃c,bs[f]?=U c:=⟨_,C6 j⟩
  rw[e,h];dsimp only;by_cases i:(f:Int)=lim
  ·rw[BA i];exact Tm.err J J
  rw[Bz i];exact Tm.err J J
 have e:bs[f]?=Y:=Dz J;obtain rfl:f=bs.length:=J
 rw[e];refine⟨BM _,BM _,λk=>(Ao (m k)),.inr ⟨id,Z,λa b=>?_⟩⟩;obtain⟨c,h⟩:=UK t b;rw[h];subst a;dsimp only;rw[BA rfl];rfl
def aT(fm:Int)(bs t:A1)(d lim:Int)(b:0<=d):Tm bs t lim False 0 (λd _=>∀k,Ex k d+30<=400*bs.length) (O4 bs.length (Cj fm bs d lim)) (O4 (bs++t).length (Cj fm (bs++t) d lim)):=by
 unfold Cj;refine aS bs t lim (λp a=>?_) (λp a=>?_)
 ·unfold GI;exact Tm.ite (λ_=>Ln bs t lim p a) (λ_=>Tm.ok (BM _) a trivial)
 unfold EF;exact Tm.ite (λ_=>Pt bs t lim d (d.toNat+1) 0 J J p a) (λ_=>Tm.ite (λ_=>aR DT bs t lim d (d.toNat+1) 0 J J p a) (λ_=>aR CX bs t lim d (d.toNat+1) 0 J J p a))
def qE(fm:Int)(bs:A1)(d lim:Int)(a:0<=d){x:A2}(h:Cj fm bs d lim=.ok x)(k:Nat):Ex k x+30<=400*bs.length:=by
 have:=aT fm bs [] d lim a;rw[h]at this;exact this.2.2.1 k
def ef{V2 w5:O}{y:A3}{m:Nat}{xs:List Value}{o:Obj}(h:E7 W A y V2)(d:V2.ownsRow (W.heap.size+4) 74 5 u m xs)(a:(V2.alloc o).grownBy w5 u.ownBlock):E7 W A y w5:=by
 have g:=h.size;have b:∀j,j<W.heap.size+4->w5.heap[j]?=V2.heap[j]?:=λj c=>(a.block j Ax (λe=>Ao (Fa d e.symm))).trans (BT _ _ _ J);have f:V2.heap.size+1<=w5.heap.size:=Au a.size
 exact⟨(b _ J).trans h.box,(b _ J).trans h.th,(b _ J).trans h.flt,(b _ J).trans h.tv,h.below.trans ⟨a.os,a.tape,a.output,J,λj c=>b j J⟩⟩
def eh{V:O}{kd n:Int}{s:ByteArray}{kv:Value}(h:E7 W A (BJ kd n s kv u) V)(b:Value):E7 W A (BJ kd n s kv b) (V.setCell ⟨W.heap.size+3,4,Y⟩ b):=by
 have a:∀j,j≠W.heap.size+3->(V.setCell ⟨W.heap.size+3,4,Y⟩ b).heap[j]?=V.heap[j]?:=λj c=>CP V _ _ _ Be;refine⟨(a _ J).trans h.box,(a _ J).trans h.th,(a _ J).trans h.flt,?_,h.below.trans ⟨Z,Z,Z,AJ,λj c=>a j J⟩⟩;rw[ET _ _ _ _ _ _ h.tv];rfl
def vk{f:Int×Int}(h:KL bs lim (D9 rd) 93 g p ds R)(i:FL bs lim (rd p) (.error f))(e:∀p:Nat,(p:Int)=lim->p<bs.length->rd p=.error (8,(p:Int))):R=.error f:=by
 have a:rd p=.error f:=by
  rcases i with h|⟨q,_,_,_,x,c⟩
  ·exact h
  cases c
 rcases h.2 with⟨j,_,b⟩|⟨b,d,c⟩
 ·rw[<-b];unfold Me D9;rw[a]
 rw[e p b d]at a;injection a with a;rw[c,a]
def vl{l:Int}(t:Lm bs l lim){p3:Nat}{dd:A2}(h:KL bs lim (D9 rd) 93 g p ds R)(N:FL bs lim (rd p) (.ok (dd,q)))(u:∀p:Nat,(p:Int)=lim->p<bs.length->rd p=.error (8,(p:Int)))(H:∀p x q,rd p=.ok (x,q)->p<q)(v:C1 bs lim q)(W:bs.length+1<=p+g)(r:p3=DR bs l (bs.length+1-q) q):C1 bs lim p3/\((Cy bs l p3=false/\R=.error (CS bs l p3 9))\/∃c,bs[p3]?=U c/\Cy bs l p3=true/\((c.toNat=93/\R=.ok (ds++[dd],p3+1)/\C1 bs lim (p3+1))\/(¬c.toNat=93/\c.toNat=44/\C1 bs lim (p3+1)/\∃a,g=a+2/\p<p3/\Dp bs lim (D9 rd) 93 (a+1) (p3+1) (ds++[dd])=R)\/(¬c.toNat=93/\¬c.toNat=44/\R=.error (CS bs l p3 9)))):=by
 rcases N with i|⟨q',d,m,n,x,f⟩
 ·have aa:=H p dd q i;rcases h.2 with⟨a,e,o⟩|⟨m,n,f⟩
  ·have L:D9 rd ds p=.ok (ds++[dd],q):=by unfold D9;rw[i]
   obtain⟨w,V,j⟩:=dU t v r L o;refine⟨w,?_⟩;rcases j with j|⟨c,s,y,b⟩
   ·exact .inl j
   refine .inr ⟨c,s,y,?_⟩;rcases b with b|⟨z,c2,A,B⟩|b
   ·exact .inl b
   ·have:=Cf s;obtain⟨k,rfl⟩:∃k,a=k+1:=⟨a-1,J⟩
    exact .inr (.inl ⟨z,c2,A,k,J,J,B⟩)
   exact .inr (.inr b)
  rw[u p m n]at i;cases i
 injection f with f;injection f with h5 h6;subst h6;obtain⟨C,D,F⟩:=dV t m n;rw[C]at r;subst r;refine⟨v,.inl ⟨D,?_⟩⟩;rw[F];rcases h.2 with⟨a,_,o⟩|⟨P,Q,S⟩
 ·rw[<-o];unfold Me D9;rw[d]
 rw[u p P Q]at d;injection d with d;rw[S,d]
def VY(d n:Int)(s:ByteArray)(a b:A4)(i j p q:Nat):∀u∈[Value.int K d,I K n,.string s,G a i j,G b p q],u.oneCell'=true:=λu c=>by
 simp at c;rcases c with rfl|rfl|rfl|rfl|rfl<;>rfl
def vm(k:Nat)(W:World)(bs:List UInt8)(fm d l lim:Int)(i:Nat)(dp:Int)(c:UInt8)(hc:bs[i]?=some c)(hv:c.toNat=91)(hp:¬(i:Int)=lim)(hl:Lm bs l lim)(hi:C1 bs lim i)(hb:bs.length<=281474976710656)(ct:lim<=200000000)(cz:0<=dp)(c4:dp<d)(c5:d<=100000)(rd:Nat->Except (Int×Int) (DataW Unit×Nat))(b6:∀p,CK (rd p))(ca:∀p:Nat,(p:Int)=lim->p<bs.length->rd p=.error (8,(p:Int)))(b7:∀p bt ay,rd p=.ok (bt,ay)->p<ay)(cJ:∀V (p:Nat),Below W.heap.size W V->C1 bs lim p->Calls prog 70 #[.agg (BP bs fm d l),.int .i64 p,.int .i64 (dp+1)] V (ER k bs lim V (rd p))):Calls prog 108 #[.agg (BP bs fm d l),.int .i64 i,.int .i64 dp] W (ER (k+1) bs lim W (vd (Di bs lim (D9 rd) 93 (i+1) []))):=by
 obtain⟨ti,ci,cf,cg,ch⟩:=DZ Tryz.infoThR;obtain⟨bj,HR⟩:∃bj,Hid (Di bs lim (D9 rd) 93 (i+1) []=bj):=⟨_,show _=_ from rfl⟩
 rw[HR.out];have c7:=Cf hc;have c8:=DI bs i c hc;have dn:=BS (c:=c) 123 J;have b8:=Fp hi hc hp;have HL:=T hl;have cH:=Od bs fm d l;have cB:=Oe bs fm d l;have cS:∀V (p:Nat),p<=bs.length->Calls prog 45 #[.agg #[.string ⟨bs.toArray⟩,.int .i64 fm,.int .i64 d,.int .i64 l],.int .i64 p] V λao W'=>ao=.returned (.int .i64 (DR bs l (bs.length+1-p) p))/\Below V.heap.size V W':=λV p hp=>Oa V bs fm d l p hb hp;have bv:Hid (∀V (p:Nat),Below W.heap.size W V->C1 bs lim p->Calls prog 70 #[.agg #[.string ⟨bs.toArray⟩,.int .i64 fm,.int .i64 d,.int .i64 l],.int .i64 p,.int .i64 (dp+1)] V (ER k bs lim V (rd p))):=cJ;have cm:=T b6;have b0:=T ca;have bw:=T b7;have a5:=λV=>cS V (i+1) J;obtain⟨h,bp⟩:∃h,h=DR bs l (bs.length+1-(i+1)) (i+1):=⟨_,rfl⟩
 obtain⟨cc,cw⟩:=dT hl b8 bp HR.out;rw[<-bp]at a5;have dc:=cc.1;have an:=λV=>cH V h;have c6:decide (d<=dp)=false:=Ax
 clear hc hv hp hl hi b8 cJ b7 b6 ca bp HR;rcases cw with⟨H,P,Q,he,b4,al⟩|⟨a9,b5⟩
 ·rw[Q]at an;have cq:=λV=>DI bs h H P V;have be:((H.toNat:Int)==93)=true:=by rw[he];rfl
  have bi:=T b4;have b3:=T al;have dh:=Cf P;clear P Q he b4 al cH cB cS bv bw cc;unfold BP;go_enter func108,ntmps108
  go_wp2_with(first
   |(go_at_call 45;refine CT (a5 _) w.out.next (λ_ ad=>ad.box) ?_;clear a5 m o c2 r t b;intro z v m o c2 r;have t:z.cell? ⟨W.heap.size+1+1+1,0,none⟩=some (.int .i64 6):=BB v.out.tv 0;have b:z.cell? ⟨W.heap.size+1+1+1,4,none⟩=some (.slice none 0 0):=BB v.out.tv 4)
   |(go_at_call 68;refine CT (an _) v.out.next (λ_ ad=>ad.box) ?_;clear an m o c2 r t b;intro w3 R m o c2 r;have t:w3.cell? ⟨W.heap.size+1+1+1,0,none⟩=some (.int .i64 6):=BB R.out.tv 0;have b:w3.cell? ⟨W.heap.size+1+1+1,4,none⟩=some (.slice none 0 0):=BB R.out.tv 4)
   |((with_reducible refine zT 9 21 rfl rfl (W.heap.size+3) (BJ 6 0 ⟨#[]⟩ BV BV) ?_ ?_);exact⟨Z,Z,Sg W _,thg⟩;refine F8 ?_;intro V0 az;have w:Hid (E7 W (BP bs fm d l) (BJ 6 0 ⟨#[]⟩ BV BV) V0):=az▸Sf W _ _;clear az;obtain⟨m,o,c2,r⟩:=CL w.out.box;have t:V0.cell? ⟨W.heap.size+1+1+1,0,none⟩=some (.int .i64 6):=BB w.out.tv 0;have b:V0.cell? ⟨W.heap.size+1+1+1,4,none⟩=some (.slice none 0 0):=BB w.out.tv 4)
   |((with_reducible refine C8 rfl 74 (.tmp 9) rfl (W.heap.size+3) ?hx 74 (BJ 6 0 ⟨#[]⟩ BV BV) (0,0) _ ?hg underlying74 rfl ?hi ?_);(case hx=>exact rfl);(case hg=>exact R.out.tv);(case hi=>exact K8 _ _ _ _ _))
   |((with_reducible refine zT 6 43 rfl rfl (W.heap.size+1) (BJ 6 0 ⟨#[]⟩ BV BV) ?_ ?_);exact⟨Z,Z,R.out.th,thg⟩)
   |((with_reducible refine zF 8 46 rfl rfl (W.heap.size+2) (0,0) ?_ ?_);exact⟨Z,Z,G6 R.out.rth Cm _⟩))
  have N:=EP R.out.rth Cm (BJ 6 0 ⟨#[]⟩ BV BV) (0,0);refine EQ results108 N (.int .i64 ((h:Int)+1)) Z Z Z Z ⟨N.2.2,?_⟩;exact⟨.ok (.agg [],h+1),.inl (by rw[bi.out];rfl),b3.out,_,_,_,_,_,_,_,_,_,rfl,(VX k _ (W.heap.size) (λ_=>False)).list (BM _)⟩
 have af:=T b5;have cu:(Cy bs l h=false)\/(∃c,bs[h]?=some c/\Cy bs l h=true/\((c.toNat:Int)==93)=false):=by
  rcases a9 with ad|⟨c,h1,h2,h3⟩
  ·exact .inl ad
  exact .inr ⟨c,h1,h2,Ax⟩
 clear a9 b5;rcases cu with a9|⟨H,P,Q,be⟩
 focus
  rw[a9]at an;clear a9
 rotate_left
 focus
  rw[Q]at an;have c9:=λV=>DI bs h H P V;have di:=Cf P;clear Q P
 all_goals
  unfold BP;go_enter func108,ntmps108
  go_wp2_with(first
   |(go_at_call 45;refine G3 (a5 _) w.out.next ?_;clear a5 m o c2 r t b;intro z a6 v;obtain⟨m,o,c2,r⟩:=CL v.out.box;have t:z.cell? ⟨W.heap.size+1+1+1,0,none⟩=some (.int .i64 6):=BB v.out.tv 0;have b:z.cell? ⟨W.heap.size+1+1+1,4,none⟩=some (.slice none 0 0):=BB v.out.tv 4)
   |(go_at_call 68;refine G3 (an _) v.out.next ?_;clear an m o c2 r t b;intro w3 aq R;obtain⟨m,o,c2,r⟩:=CL R.out.box;have t:w3.cell? ⟨W.heap.size+1+1+1,0,none⟩=some (.int .i64 6):=BB R.out.tv 0;have b:w3.cell? ⟨W.heap.size+1+1+1,4,none⟩=some (.slice none 0 0):=BB R.out.tv 4)
   |((with_reducible refine zT 9 21 rfl rfl (W.heap.size+3) (BJ 6 0 ⟨#[]⟩ BV BV) ?_ ?_);exact⟨Z,Z,Sg W _,thg⟩;refine F8 ?_;intro V0 az;have w:Hid (E7 W (BP bs fm d l) (BJ 6 0 ⟨#[]⟩ BV BV) V0):=az▸Sf W _ _;clear az;obtain⟨m,o,c2,r⟩:=CL w.out.box;have t:V0.cell? ⟨W.heap.size+1+1+1,0,none⟩=some (.int .i64 6):=BB w.out.tv 0;have b:V0.cell? ⟨W.heap.size+1+1+1,4,none⟩=some (.slice none 0 0):=BB w.out.tv 4))
  go_loopg[1] (bs.length+1-h) (λag ck wr=>∃(p:Nat) (y:List (DataW Unit)) (a:Option Addr) (aa c:Nat),ck=.int .i64 p/\Hid (bs.length+1<=p+ag)/\Hid (KL bs lim (D9 rd) 93 ag p y bj)/\Hid (y.length<=p)/\Hid (E7 W (BP bs fm d l) (BJ 6 0 ⟨#[]⟩ BV (.slice a aa c)) wr)/\Hid (Jz k wr (W.heap.size+4) (.slice a aa c) (λ_=>False) y))
  case atStart=>exact⟨h,[],none,0,0,rfl,AL,af,DK _,R,VX _ _ _ _⟩
  case round =>
   clear af w v R a6 aq m o c2 r t b;obtain⟨p,y,a,aa,c,rfl,hg,af,a8,w,a2⟩:=hrel;have dg:(p:Int)<=200000000:=SX af.out.1.2 ct;have db:=af.out.1.1;have dm:=w.out.size;obtain⟨m,o,c2,r⟩:=CL w.out.box;have t:wr.cell? ⟨W.heap.size+1+1+1,0,none⟩=some (.int .i64 6):=BB w.out.tv 0;have b:wr.cell? ⟨W.heap.size+1+1+1,4,none⟩=some (.slice a aa c):=BB w.out.tv 4;have cx:wr.cell? ⟨W.heap.size+3,0,none⟩=some (.int .i64 6):=t;have n0:W.heap.size+1+1+1<wr.heap.size:=J
   have n2:W.heap.size+3<wr.heap.size:=J
   have n1:W.heap.size<wr.heap.size:=J
   go_wp2_with fail
   refine(bv.out _ p ((w.out.below.alloc w.out.below.size _).alloc (Ar w.out.below.size) _) af.out.1).mono ?_;clear m o c2 r t b n0 n1 n2 cx;rintro ao z ⟨a6,r',cb,he⟩;have dl:wr.heap.size+2<=z.heap.size:=by have:=a6.size;simp only[BU,A0]at this;omega
   have aq:Below (wr.heap.size+2) ((wr.alloc (.cells (BH (0,0)) 76)).alloc (.cells BZ 74)) z:=by
    have ad:=a6;simp only[BU,A0]at ad;exact ad
   clear a6;have HV:Hid (∀a f,Below wr.heap.size wr ((z.setRow (wr.heap.size+1) a).setRow wr.heap.size f)):=λa f=>vb wr z a f aq;have HK:Hid (z.heap[wr.heap.size+1]?=some (.cells BZ 74)):=(aq.block _ J).trans (by have:=BI (wr.alloc (.cells (BH (0,0)) 76)) (.cells BZ 74);simpa only[BU]using this);have HF:=T ((aq.block _ J).trans ((BT _ _ _ Az).trans (BI _ _)));have bh:Hid (∀ag,(Value.slice a aa c).ownBlock=some ag->ag<wr.heap.size):=by
    obtain⟨xs,ho,_⟩:=a2.out;exact λag hg=>IG ho hg
   have bg:=T cb;clear cb
   cases r' with
   |error f =>
    obtain⟨kd,nn,s,a1,i1,j1,b1,q1,m1,ck,rfl⟩:=he;have da:(f.1==0)=false:=by
     have:=dI bg.out (cm.out p) f.1 f.2 Z;simpa using this
    simp only[]
    go_wp2_with(first
     |((with_reducible refine zT 12 65 rfl rfl (wr.heap.size+1) (BJ kd nn s (.slice a1 i1 j1) (.slice b1 q1 m1)) ?_ ?_);exact⟨Z,Z,HK.out,thg⟩)
     |((with_reducible refine zF 11 67 rfl rfl (wr.heap.size) (f) ?_ ?_);exact⟨Z,Z,sx J HF.out⟩;refine F8 ?_;intro C x;have v:=T (x▸w.out.next (HV.out _ _));have a3:=T (x▸a2.out.next (HV.out _ _).size (λj _ u=>(HV.out _ _).block j u));have a0:Hid (C.heap[wr.heap.size+1]?=some (.cells #[.int .i64 kd,.int .i64 nn,.string s,.slice a1 i1 j1,.slice b1 q1 m1] 74)):=x▸sx J (Ca _ _ _ _ _ _ HK.out);have ae:=T (x▸Ca _ _ _ _ _ _ (sx J HF.out));clear x;obtain⟨xs,ho,a7⟩:=a3.out;have HO:=T ho;have ba:Hid (∀(i:Nat) (d:DataW Unit),y[i]?=some d->∃a',Hj xs i a'/\CM k C (λj=>W.heap.size+4<=j/\j<C.heap.size/\some j≠(Value.slice a aa c).ownBlock/\¬False) (.agg a') d):=a7;clear ho a7 a3;obtain⟨m,o,c2,r⟩:=CL v.out.box;have t:C.cell? ⟨W.heap.size+1+1+1,0,none⟩=some (.int .i64 6):=BB v.out.tv 0;have b:C.cell? ⟨W.heap.size+1+1+1,4,none⟩=some (.slice a aa c):=BB v.out.tv 4)
     |((with_reducible refine C8 rfl 74 (.tmp 12) rfl (wr.heap.size+1) ?hx 74 (#[.int .i64 kd,.int .i64 nn,.string s,.slice a1 i1 j1,.slice b1 q1 m1]) (0,0) _ ?hg underlying74 rfl ?hi ?_);(case hx=>exact rfl);(case hg=>exact a0.out);(case hi=>exact Nb))
     |(at_builtin;(refine MH _ Z _ _ 72 Z (W.heap.size+4) 74 ti (.agg BZ) 5 80 underlying72 ci cf cg ch Z Ay _ _ _ Z (HO.out.alloc _) ⟨C.heap.size,0,none⟩ 1 1 [.int .i64 kd,.int .i64 nn,.string s,.slice a1 i1 j1,.slice b1 q1 m1] Z Z (EE _ _ _) (VY _ _ _ _ _ _ _ _ _) Ay (by have:=a8.out;unfold maxLen;omega) (Ao a8.out) (As v.out.size) ?_);intro v' B ax aj bd;obtain⟨g,e,rfl⟩:=ownsRow_succ ax;have ab:=T (ef v.out HO.out aj);have ar:=T ((aj.block _ (Ar (BC ae.out)) (λao=>Ao (bh.out _ ao.symm))).trans ((BT _ _ _ (BC ae.out)).trans ae.out));clear ax aj bd m o c2 r t b;have b:B.cell? ⟨W.heap.size+1+1+1,4,none⟩=some (.slice a aa c):=BB ab.out.tv 4;have f4:B.frozen? ⟨W.heap.size+1+1+1,4,none⟩=false:=Dx B (W.heap.size+3) 4 _ _ ab.out.tv;have u0:B.cell? ⟨wr.heap.size,0,none⟩=some (.int .i64 (f.1)):=BB ar.out 0))
    have HE:=T (vk af.out bg.out b0.out);have au:Hid (E7 W (BP bs fm d l) (BJ 6 0 ⟨#[]⟩ BV (.slice (some ⟨g,0,none⟩) (y.length+1) e)) (B.setCell ⟨W.heap.size+1+1+1,4,none⟩ (.slice (some ⟨g,0,none⟩) (y.length+1) e))):=eh ab.out _;have cn:Hid ((B.setCell ⟨W.heap.size+1+1+1,4,none⟩ (.slice (some ⟨g,0,none⟩) (y.length+1) e)).heap[wr.heap.size]?=some (.cells (BH f) 76)):=(CP B _ _ _ Ax).trans ar.out;generalize B.setCell ⟨W.heap.size+1+1+1,4,none⟩ (.slice (some ⟨g,0,none⟩) (y.length+1) e)=V6 at *;clear ab ar b f4 HO ba v a0 ae HK HF HV aq w a2;refine DA (S:=λbk=>bk.heap[wr.heap.size]?=some (.cells (BH f) 76)) (cn.out) M ?_;intro hS;refine BL 0 77 (.agg BZ) Z (λbk hZ=>?y0) hS ?_
    case y0=>(unfold BZ BJ BV;go_simp)
    refine BL 1 78 (.agg (BH f)) Z (λbk hZ=>yF 11 hZ Z Z) hS ?_;have bn:=(CQ _ (W.heap.size+1) wr.heap.size BZ J).trans hS;refine Jy 2 6 77 (W.heap.size+1) (BZ) M (au.out.th) thg (bn) ?_;refine BE 3 7 (.int .i64 0) bn ?_;refine sF 4 8 78 (W.heap.size+2) f M (G6 (V:=V6) au.out.rth Cm _) (sx J bn) ?_;refine Cv ?_;go_simp;go_wp2;have N:=EP au.out.rth.drew Cm (BZ) (f);refine EQ results108 N (.int .i64 0) Z Z Z Z ⟨N.2.2,?_⟩;exact⟨.error (f),.inl keJ,_,_,_,_,_,_,_,_,_,_,Z⟩
   |ok bt =>
    obtain⟨dd,ay⟩:=bt;obtain⟨al,kd,nn,s,a1,i1,j1,b1,q1,m1,rfl,hA⟩:=he;simp only[];have b3:=T al;have A:True:=trivial;have HA:Hid (CM k z (λj=>wr.heap.size+2<=j/\j<z.heap.size) (.agg #[.int .i64 kd,.int .i64 nn,.string s,.slice a1 i1 j1,.slice b1 q1 m1]) dd):=hA.same (λj u=>⟨by have:=u.1;simp only[BU,A0]at this;omega,u.2⟩) (λ_ _=>rfl);clear hA
    go_wp2_with(first
     |((with_reducible refine zT 12 65 rfl rfl (wr.heap.size+1) (BJ kd nn s (.slice a1 i1 j1) (.slice b1 q1 m1)) ?_ ?_);exact⟨Z,Z,HK.out,thg⟩)
     |((with_reducible refine zF 11 67 rfl rfl (wr.heap.size) (0,0) ?_ ?_);exact⟨Z,Z,sx J HF.out⟩;refine F8 ?_;intro C x;have v:=T (x▸w.out.next (HV.out _ _));have a3:=T (x▸a2.out.next (HV.out _ _).size (λj _ u=>(HV.out _ _).block j u));have a0:Hid (C.heap[wr.heap.size+1]?=some (.cells #[.int .i64 kd,.int .i64 nn,.string s,.slice a1 i1 j1,.slice b1 q1 m1] 74)):=x▸sx J (Ca _ _ _ _ _ _ HK.out);have ae:=T (x▸Ca _ _ _ _ _ _ (sx J HF.out));have bu:Hid (CM k C (λj=>wr.heap.size+2<=j/\j<C.heap.size) (.agg #[.int .i64 kd,.int .i64 nn,.string s,.slice a1 i1 j1,.slice b1 q1 m1]) dd):=x▸HA.out.same (λj u=>⟨u.1,by simpa using u.2⟩) (λj u=>Bg);clear x;obtain⟨xs,ho,a7⟩:=a3.out;have HO:=T ho;have ba:Hid (∀(i:Nat) (d:DataW Unit),y[i]?=some d->∃a',Hj xs i a'/\CM k C (λj=>W.heap.size+4<=j/\j<C.heap.size/\some j≠(Value.slice a aa c).ownBlock/\¬False) (.agg a') d):=a7;clear ho a7 a3;obtain⟨m,o,c2,r⟩:=CL v.out.box;have t:C.cell? ⟨W.heap.size+1+1+1,0,none⟩=some (.int .i64 6):=BB v.out.tv 0;have b:C.cell? ⟨W.heap.size+1+1+1,4,none⟩=some (.slice a aa c):=BB v.out.tv 4)
     |((with_reducible refine C8 rfl 74 (.tmp 12) rfl (wr.heap.size+1) ?hx 74 (#[.int .i64 kd,.int .i64 nn,.string s,.slice a1 i1 j1,.slice b1 q1 m1]) (0,0) _ ?hg underlying74 rfl ?hi ?_);(case hx=>exact rfl);(case hg=>exact a0.out);(case hi=>exact Nb))
     |(at_builtin;(refine MH _ Z _ _ 72 Z (W.heap.size+4) 74 ti (.agg BZ) 5 80 underlying72 ci cf cg ch Z Ay _ _ _ Z (HO.out.alloc _) ⟨C.heap.size,0,none⟩ 1 1 [.int .i64 kd,.int .i64 nn,.string s,.slice a1 i1 j1,.slice b1 q1 m1] Z Z (EE _ _ _) (VY _ _ _ _ _ _ _ _ _) Ay (by have:=a8.out;unfold maxLen;omega) (Ao a8.out) (As v.out.size) ?_);intro v' B ax aj bd;obtain⟨g,e,rfl⟩:=ownsRow_succ ax;have ab:=T (ef v.out HO.out aj);have ar:=T ((aj.block _ (Ar (BC ae.out)) (λao=>Ao (bh.out _ ao.symm))).trans ((BT _ _ _ (BC ae.out)).trans ae.out));have bx:=T (Jz.push (L:=wr.heap.size+2) HO.out ba.out bu.out (λag hg=>Ao (bh.out ag hg)) J (λ_ _ ad=>ad) Z ax aj bd);clear ax aj bd m o c2 r t b;have b:B.cell? ⟨W.heap.size+1+1+1,4,none⟩=some (.slice a aa c):=BB ab.out.tv 4;have f4:B.frozen? ⟨W.heap.size+1+1+1,4,none⟩=false:=Dx B (W.heap.size+3) 4 _ _ ab.out.tv;have u0:B.cell? ⟨wr.heap.size,0,none⟩=some (.int .i64 (0)):=BB ar.out 0;obtain⟨m,o,c2,r⟩:=CL ab.out.box))
    obtain⟨D,bq⟩:∃D,D=DR bs l (bs.length+1-ay) ay:=⟨_,rfl⟩
    obtain⟨cd,cv⟩:=vl HL.out af.out bg.out b0.out bw.out al hg.out bq;have dk:=al.1;have df:=cd.1;have bl:=λV=>cS V ay al.1;rw[<-bq]at bl;have ac:=λV=>cH V D;have av:=λV=>cB V D 9;have au:Hid (E7 W (BP bs fm d l) (BJ 6 0 ⟨#[]⟩ BV (.slice (some ⟨g,0,none⟩) (y.length+1) e)) (B.setCell ⟨W.heap.size+1+1+1,4,none⟩ (.slice (some ⟨g,0,none⟩) (y.length+1) e))):=eh ab.out _;have bz:Hid (Jz k (B.setCell ⟨W.heap.size+1+1+1,4,none⟩ (.slice (some ⟨g,0,none⟩) (y.length+1) e)) (W.heap.size+4) (.slice (some ⟨g,0,none⟩) (y.length+1) e) (λ_=>False) (y++[dd])):=bx.out.next AJ (λj cr cs=>CP B _ _ _ Ax)
    refine(bl _).mono ?_;rintro ao w7 ⟨rfl,bc⟩;have a4:=T (au.out.next bc);have bb:=T (bz.out.next bc.size (λj _ u=>bc.block j u));clear al bq cd bl m o c2 r b f4 au bz bc bx ab ar HO ba v a0 ae bu HK HF HV aq w a2 HA;simp only[];obtain⟨m,o,c2,r⟩:=CL a4.out.box;have t:=A;have b:=A;rcases cv with⟨Q,ai⟩|⟨H,P,Q,hx⟩
    ·rw[Q]at ac;have HE:=T ai;generalize CS bs l D 9=xx at *;clear Q ai cS cH cB
     go_wp2_with(first
      |(go_at_call 68;refine G3 (ac _) a4.out.next ?_;clear ac m o c2 r t b;intro w8 n F;have am:=T (bb.out.next n.size (λj _ u=>n.block j u));obtain⟨m,o,c2,r⟩:=CL F.out.box;have t:=A;have b:=A)
      |(go_at_call 47;refine G3 (av _) F.out.next ?_;clear av m o c2 r t b;intro w9 ah q;have bf:=T (am.out.next ah.size (λj _ u=>ah.block j u));obtain⟨m,o,c2,r⟩:=CL q.out.box;have t:=A;have b:=A)
      |((with_reducible refine zT 6 101 rfl rfl (W.heap.size+1) (BZ) ?_ ?_);exact⟨Z,Z,q.out.th,thg⟩)
      |((with_reducible refine zF 8 104 rfl rfl (W.heap.size+2) (xx) ?_ ?_);exact⟨Z,Z,G6 q.out.rth Cm _⟩))
     have N:=EP q.out.rth Cm (BZ) (xx);refine EQ results108 N (.int .i64 0) Z Z Z Z ⟨N.2.2,?_⟩;exact⟨.error (xx),.inl keJ,_,_,_,_,_,_,_,_,_,_,Z⟩
    rw[Q]at ac;have cq:=λV=>DI bs D H P V;have de:=Cf P;rcases hx with⟨ap,ai,ak⟩|⟨ap,aw,ak,g',cp,dj,b9⟩|⟨ap,aw,ai⟩
    ·have be:((H.toNat:Int)==93)=true:=by rw[ap];rfl
     have cj:((H.toNat:Int) != 93)=false:=by rw[ap];rfl
     have bi:=T ai;have co:=T ak;clear Q ap ai ak P cS cH cB av
     go_wp2_with(first
      |(go_at_call 68;refine G3 (ac _) a4.out.next ?_;clear ac m o c2 r t b;intro w8 n F;have am:=T (bb.out.next n.size (λj _ u=>n.block j u));obtain⟨m,o,c2,r⟩:=CL F.out.box;have t:=A;have b:=A)
      |((with_reducible refine C8 rfl 74 (.tmp 9) rfl (W.heap.size+3) ?hx 74 (BJ 6 0 ⟨#[]⟩ BV (.slice (some ⟨g,0,none⟩) (y.length+1) e)) (0,0) _ ?hg underlying74 rfl ?hi ?_);(case hx=>exact rfl);(case hg=>exact F.out.tv);(case hi=>exact K8 _ _ _ _ _))
      |((with_reducible refine zT 6 111 rfl rfl (W.heap.size+1) (BJ 6 0 ⟨#[]⟩ BV (.slice (some ⟨g,0,none⟩) (y.length+1) e)) ?_ ?_);exact⟨Z,Z,F.out.th,thg⟩)
      |((with_reducible refine zF 8 114 rfl rfl (W.heap.size+2) (0,0) ?_ ?_);exact⟨Z,Z,G6 F.out.rth Cm _⟩))
     have N:=EP F.out.rth Cm (BJ 6 0 ⟨#[]⟩ BV (.slice (some ⟨g,0,none⟩) (y.length+1) e)) (0,0);refine EQ results108 N (.int .i64 ((D:Int)+1)) Z Z Z Z ⟨N.2.2,?_⟩;exact⟨.ok (.agg (y++[dd]),D+1),.inl (by rw[bi.out];rfl),co.out,_,_,_,_,_,_,_,_,_,rfl,(am.out.next Az (λj cr cs=>Bg)).list J⟩
    ·have be:((H.toNat:Int)==93)=false:=by rw[aw];rfl
     have cj:((H.toNat:Int) != 93)=true:=by rw[aw];rfl
     have cy:((H.toNat:Int) != 44)=false:=by rw[aw];rfl
     subst cp;have bm:=λV=>cS V (D+1) ak.1;obtain⟨p4,br⟩:∃p4,p4=DR bs l (bs.length+1-(D+1)) (D+1):=⟨_,rfl⟩
     have bo:=dR HL.out ak b9;rw[<-br]at bo bm;have b2:Hid (D+1<=p4):=by
      show _<=_;rw[br];rcases KI HL.out (bs.length+1-(D+1)) (D+1) ak with⟨q',_,h2,_,h4,_⟩|⟨q',_,h2,h3,_⟩
      ·rw[h2];exact h4
      rw[h2];have:=ak.2;omega
     have cl:=T bo;clear Q ap aw ak P cS cH cB av b9 br bo
     go_wp2_with(first
      |(go_at_call 68;refine G3 (ac _) a4.out.next ?_;clear ac m o c2 r t b;intro w8 n F;have am:=T (bb.out.next n.size (λj _ u=>n.block j u));obtain⟨m,o,c2,r⟩:=CL F.out.box;have t:=A;have b:=A)
      |(go_at_call 45;refine G3 (bm _) F.out.next ?_;clear bm m o c2 r t b;intro w9 ah q;have bf:=T (am.out.next ah.size (λj _ u=>ah.block j u));obtain⟨m,o,c2,r⟩:=CL q.out.box;have t:=A;have b:=A))
     go_roundg (g'+1)
     case measure=>omega
     case rel=>exact⟨p4,y++[dd],_,_,_,rfl,by show _<=_;have:=hg.out;have:=b2.out;omega,cl,by show _<=_;rw[BK];have:=a8.out;have:=b2.out;simp;omega,q,bf⟩
    have be:((H.toNat:Int)==93)=false:=Ax
    have cj:((H.toNat:Int) != 93)=true:=Ax
    have cy:((H.toNat:Int) != 44)=true:=Ax
    have HE:=T ai;generalize CS bs l D 9=xx at *;clear Q ap aw ai P cS cH cB
    go_wp2_with(first
     |(go_at_call 68;refine G3 (ac _) a4.out.next ?_;clear ac m o c2 r t b;intro w8 n F;have am:=T (bb.out.next n.size (λj _ u=>n.block j u));obtain⟨m,o,c2,r⟩:=CL F.out.box;have t:=A;have b:=A)
     |(go_at_call 47;refine G3 (av _) F.out.next ?_;clear av m o c2 r t b;intro w9 ah q;have bf:=T (am.out.next ah.size (λj _ u=>ah.block j u));obtain⟨m,o,c2,r⟩:=CL q.out.box;have t:=A;have b:=A)
     |((with_reducible refine zT 6 101 rfl rfl (W.heap.size+1) (BZ) ?_ ?_);exact⟨Z,Z,q.out.th,thg⟩)
     |((with_reducible refine zF 8 104 rfl rfl (W.heap.size+2) (xx) ?_ ?_);exact⟨Z,Z,G6 q.out.rth Cm _⟩))
    have N:=EP q.out.rth Cm (BZ) (xx);refine EQ results108 N (.int .i64 0) Z Z Z Z ⟨N.2.2,?_⟩;exact⟨.error (xx),.inl keJ,_,_,_,_,_,_,_,_,_,_,Z⟩
end
end Go.Proofs.YtnlnjkggkbbdhaaGreatDoor
