import Derived.Test.YtllcbnfmihfaaaaGreatDoorCq35
set_option maxRecDepth 100000
set_option maxHeartbeats 8000000
namespace Go.Proofs.YtllcbnfmihfaaaaGreatDoor
open Go.Proofs.Tryz
variable {n p q r:Nat}{e lim pl:Int}{bs l t:List UInt8}{rd rd':Nat→Except (Int×Int) (DataW Unit×Nat)}
section
open Go.RowKit Go.Lib
def Tm {α:Type}(s:Prop)(n p:Nat)(M:α→Nat→Prop)(r r':Except (Int×Int) (α×Nat)):Prop :=
 match r with
 |.ok (x,q)=>p≤q∧q≤n∧M x q∧(r'=.ok (x,q)∨(¬s∧q=n))
 |.error (e,pl)=>pl≤(n:Int)∧(r'=.error (e,pl)∨pl=n)∧(p=n→pl=n)
theorem Tm.ok {α:Type}{s:Prop}{M:α→Nat→Prop}{x:α}(h1:p≤q)(h2:q≤n)(h3:M x q):Tm s n p M (.ok (x,q)) (.ok (x,q)):=⟨h1,h2,h3,.inl rfl⟩
theorem Tm.last {α:Type}{M:α→Nat→Prop}{x:α}{r':Except (Int×Int) (α×Nat)}(h:p=n)(h3:M x p):Tm False n p M (.ok (x,p)) r':=⟨Nat.le_refl _,Nat.le_of_eq h,h3,.inr ⟨id,h⟩⟩
theorem Tm.err {α:Type}{s:Prop}{M:α→Nat→Prop}(h1:pl≤n)(h2:p=n→pl=n):Tm s n p M (.error (e,pl)) (.error (e,pl)):=⟨h1,.inl rfl,h2⟩
theorem Tm.stop {α:Type}{s:Prop}{M:α→Nat→Prop}{r':Except (Int×Int) (α×Nat)}(h:p=n):Tm s n p M (.error (e,(p:Int))) r':=⟨by omega,.inr (by omega),fun _=>by omega⟩
theorem Tm.from_ {α:Type}{s:Prop}{M:α→Nat→Prop}{r r':Except (Int×Int) (α×Nat)}(h:Tm s n q M r r')(hp:p≤q)(hq:q≤n):Tm s n p M r r':=by
 rcases r with ⟨e,pl⟩|⟨x,y⟩
 ·exact⟨h.1,h.2.1,fun a=>h.2.2 (by omega)⟩
 exact⟨Nat.le_trans hp h.1,h.2⟩
theorem Tm.any {α:Type}{s:Prop}{M:α→Nat→Prop}{r r1 r2:Except (Int×Int) (α×Nat)}(h:Tm s n n M r r1):Tm False n n M r r2:=by
 rcases r with ⟨e,pl⟩|⟨x,y⟩
 ·exact⟨h.1,.inr (h.2.2 rfl),h.2.2⟩
 exact⟨h.1,h.2.1,h.2.2.1,.inr ⟨id,Nat.le_antisymm h.2.1 h.1⟩⟩
theorem Tm.with_ {α:Type}{s:Prop}{M M':α→Nat→Prop}{r r':Except (Int×Int) (α×Nat)}(h:Tm s n p M r r')(hM:∀x q,p≤q→q≤n→M x q→M' x q):Tm s n p M' r r':=by
 rcases r with ⟨e,pl⟩|⟨x,y⟩
 ·exact h
 exact⟨h.1,h.2.1,hM x y h.1 h.2.1 h.2.2.1,h.2.2.2⟩
theorem Tm.bind {α β:Type}{s:Prop}{M:α→Nat→Prop}{M2:β→Nat→Prop}{r r':Except (Int×Int) (α×Nat)}{R R':Except (Int×Int) (β×Nat)}(h:Tm s n p M r r')(hC:∀e,r=.error e→R=.error e)(hC':∀e,r'=.error e→R'=.error e)(hf:∀x q,p≤q→q≤n→M x q→r=.ok (x,q)→∃R1,(r'=.ok (x,q)→R'=R1)∧Tm False n q M2 R R1):Tm False n p M2 R R':=by
 rcases r with ⟨e,pl⟩|⟨x,q⟩
 ·obtain⟨h1,h2,h3⟩:=h;rw[hC _ rfl];refine⟨h1,?_,h3⟩;rcases h2 with rfl|h2
  ·exact .inl (hC' _ rfl)
  exact .inr h2
 obtain⟨h1,h2,h3,h4⟩:=h;obtain⟨R1,e1,hx⟩:=hf x q h1 h2 h3 rfl;rcases h4 with rfl|⟨_,rfl⟩
 ·rw[e1 rfl];exact hx.from_ h1 h2
 exact hx.any.from_ h1 h2
theorem Tm.bindS {α β:Type}{s:Prop}{M:α→Nat→Prop}{M2:β→Nat→Prop}{r r':Except (Int×Int) (α×Nat)}{R R':Except (Int×Int) (β×Nat)}(h:Tm True n p M r r')(hC:∀e,r=.error e→R=.error e)(hC':∀e,r'=.error e→R'=.error e)(hf:∀x q,p≤q→q≤n→M x q→r=.ok (x,q)→r'=.ok (x,q)→Tm s n p M2 R R'):Tm s n p M2 R R':=by
 rcases r with ⟨e,pl⟩|⟨x,q⟩
 ·obtain⟨h1,h2,h3⟩:=h;rw[hC _ rfl];refine⟨h1,?_,h3⟩;rcases h2 with rfl|h2
  ·exact .inl (hC' _ rfl)
  exact .inr h2
 obtain⟨h1,h2,h3,h4⟩:=h;rcases h4 with rfl|⟨h4,_⟩
 ·exact hf x q h1 h2 h3 rfl rfl
 exact absurd trivial h4
theorem Tm.at_ {α:Type}{s:Prop}{M:α→Nat→Prop}{r0 r1:Except (Int×Int) (α×Nat)}{G G':UInt8→Except (Int×Int) (α×Nat)}(hp:p≤bs.length)(h0:p=bs.length→∀r',Tm s bs.length p M r0 r')(h:∀c,bs[p]? = some c→p<bs.length→Tm s bs.length p M (G c) (G' c)):Tm s bs.length p M (match (generalizing:=false) bs[p]? with|none=>r0|some c=>if (p:Int)=lim then .error (8,(p:Int)) else G c) (match (generalizing:=false) (bs++t)[p]? with|none=>r1|some c=>if (p:Int)=lim then .error (8,(p:Int)) else G' c):=by
 by_cases hlt:p<bs.length
 ·have e:(bs++t)[p]? = bs[p]?:=List.getElem?_append_left hlt;obtain⟨c,hc⟩:∃c,bs[p]? = some c:=⟨_,List.getElem?_eq_getElem hlt⟩
  rw[e,hc];dsimp only;split
  ·exact Tm.err (by omega) (by omega)
  exact h c hc hlt
 have e:bs[p]? = none:=List.getElem?_eq_none (by omega);rw[e];exact h0 (by omega) _
theorem Tm.byte {α:Type}{s:Prop}{M:α→Nat→Prop}{G G':UInt8→Except (Int×Int) (α×Nat)}(hp:p≤bs.length)(h:∀c,bs[p]? = some c→p<bs.length→Tm s bs.length p M (G c) (G' c)):Tm s bs.length p M (match (generalizing:=false) bs[p]? with|none=>.error (9,(p:Int))|some c=>if (p:Int)=lim then .error (8,(p:Int)) else G c) (match (generalizing:=false) (bs++t)[p]? with|none=>.error (9,(p:Int))|some c=>if (p:Int)=lim then .error (8,(p:Int)) else G' c):=Tm.at_ hp (fun e _=>Tm.stop e) h
theorem Tm.ite {α:Type}{s:Prop}{M:α→Nat→Prop}{c:Prop}[Decidable c]{a b a' b':Except (Int×Int) (α×Nat)}(h1:c→Tm s n p M a a')(h2:¬c→Tm s n p M b b'):Tm s n p M (if c then a else b) (if c then a' else b'):=by
 by_cases h:c
 ·rw[if_pos h,if_pos h];exact h1 h
 rw[if_neg h,if_neg h];exact h2 h
theorem qss (bs t:List UInt8)(lim:Int):∀(g g' p:Nat),p≤bs.length→bs.length<g+p→(bs++t).length<g'+p→Tm False bs.length p (fun _ _=>True) (spF bs lim g p) (spF (bs++t) lim g' p)
 |0,_,p,h1,h2,_=>by omega
 |g+1,0,p,h1,_,h3=>by rw[List.length_append] at h3;omega
 |g+1,g'+1,p,h1,h2,h3=>by
  unfold spF;refine Tm.at_ h1 (fun e _=>Tm.last e trivial) (fun c hc hl=>Tm.ite (fun _ => ?_) (fun _=>Tm.ok (Nat.le_refl _) h1 trivial));exact(qss bs t lim g g' (p+1) hl (by omega) (by omega)).from_ (by omega) hl
theorem qhj (bs t:List UInt8)(lim:Int)(p:Nat)(h:p≤bs.length):Tm False bs.length p (fun _ _=>True) (spF bs lim (bs.length+1-p) p) (spF (bs++t) lim ((bs++t).length+1-p) p):=qss bs t lim _ _ p h (by omega) (by rw[List.length_append];omega)
theorem qkr (bs t:List UInt8)(lim:Int)(most:Nat)(z:Bool):∀(g g' p num:Nat),p≤bs.length→bs.length<g+p→(bs++t).length<g'+p→Tm False bs.length p (fun _ _=>True) (qfi bs lim most z g p num) (qfi (bs++t) lim most z g' p num)
 |0,_,p,_,h1,h2,_=>by omega
 |g+1,0,p,_,h1,_,h3=>by rw[List.length_append] at h3;omega
 |g+1,g'+1,p,num,h1,h2,h3=>by
  unfold qfi;refine Tm.at_ h1 (fun e _=>Tm.last e trivial) (fun c hc hl=>Tm.ite (fun _=>Tm.ite (fun _=>Tm.err (by omega) (by omega)) (fun _=>Tm.ite (fun _=>Tm.err (by omega) (by omega)) (fun _ => ?_))) (fun _=>Tm.ite (fun _=>Tm.err (by omega) (by omega)) (fun _=>Tm.ok (Nat.le_refl _) h1 trivial)));exact(qkr bs t lim most z g g' (p+1) _ hl (by omega) (by omega)).from_ (by omega) hl
theorem qu8 (bs t:List UInt8)(lim:Int)(c:UInt8)(p:Nat)(h:p≤bs.length):Tm False bs.length p (fun _ _=>True) (qg4 ⟨none,bs,0,0,lim,p,0⟩ c) (qg4 ⟨none,bs++t,0,0,lim,p,0⟩ c):=by
 unfold qg4;refine Tm.ite (fun _=>Tm.byte h (fun c hc hl=>Tm.ite (fun _ => ?_) (fun _=>Tm.err (by show(p:Int)≤_;omega) (by show _→(p:Int)=_;omega)))) (fun _ => ?_)
 ·refine Tm.from_ (q:=p+1) ?_ (by omega) hl;refine Tm.bind (qkr bs t lim 9223372036854775808 (c.toNat==48) (bs.length+1-(p+1)) ((bs++t).length+1-(p+1)) (p+1) (c.toNat-48) hl (by omega) (by rw[List.length_append];omega)) (fun _ z=>by rw[z]) (fun _ z=>by rw[z]) (fun x q _ hq _ hz=>⟨_,fun z=>by rw[z],?_⟩);rw[hz];refine Tm.ok (Nat.le_refl _) hq trivial
 refine Tm.bind (qkr bs t lim 9223372036854775807 (c.toNat==48) (bs.length+1-p) ((bs++t).length+1-p) p (c.toNat-48) h (by omega) (by rw[List.length_append];omega)) (fun _ z=>by rw[z]) (fun _ z=>by rw[z]) (fun x q _ hq _ hz=>⟨_,fun z=>by rw[z],?_⟩);rw[hz];refine Tm.ok (Nat.le_refl _) hq trivial
theorem qcP (bs t:List UInt8)(lim:Int):∀(xs:List UInt8) (p:Nat),p≤bs.length→Tm True bs.length p (fun _ q=>q=p+xs.length) (qaT bs lim xs p) (qaT (bs++t) lim xs p)
 |[],p,h=>Tm.ok (Nat.le_refl _) h rfl
 |x::xs,p,h=>by
  unfold qaT;refine Tm.byte h (fun c hc hl=>Tm.ite (fun _ => ?_) (fun _=>Tm.err (by omega) (by omega)));exact((qcP bs t lim xs (p+1) hl).with_ (fun _ q _ _ e=>by rw[List.length_cons];omega)).from_ (by omega) hl
theorem qkY (bs t:List UInt8)(lim:Int):∀(k p a:Nat),p≤bs.length→Tm True bs.length p (fun _ q=>q=p+k) (qgA bs lim k p a) (qgA (bs++t) lim k p a)
 |0,p,a,h=>Tm.ok (Nat.le_refl _) h rfl
 |k+1,p,a,h=>by
  unfold qgA;refine Tm.byte h (fun c hc hl => ?_)
  cases qqh c with
  |none=>exact Tm.err (by omega) (by omega)
  |some d=>exact((qkY bs t lim k (p+1) _ hl).with_ (fun _ q _ _ e=>by omega)).from_ (by omega) hl
theorem qrC (bs t:List UInt8)(lim:Int)(p:Nat)(h:p≤bs.length):Tm True bs.length p (fun _ q=>p+4≤q) (qgy bs lim p) (qgy (bs++t) lim p):=by
 unfold qgy;refine Tm.bindS (qkY bs t lim 4 p 0 h) (fun _ z=>by rw[z]) (fun _ z=>by rw[z]) (fun x q _ hq e hz hy => ?_);rw[hz,hy];refine Tm.ite (fun _=>Tm.err (by omega) (by omega)) (fun _=>Tm.ite (fun _ => ?_) (fun _=>Tm.ok (by omega) hq (by omega)));refine Tm.from_ (q:=q) ?_ (by omega) hq;refine Tm.bindS (qcP bs t lim [92,117] q hq) (fun _ z=>by rw[z]) (fun _ z=>by rw[z]) (fun _ q2 _ hq2 e2 hz hy => ?_);rw[hz,hy];dsimp only;have e2:q2=q+2:=e2;refine Tm.from_ (q:=q2) ?_ (by omega) hq2;refine Tm.bindS (qkY bs t lim 4 q2 0 hq2) (fun _ z=>by rw[z]) (fun _ z=>by rw[z]) (fun y q3 _ hq3 e3 hz hy => ?_);rw[hz,hy];refine Tm.ite (fun _=>Tm.ok (by omega) hq3 (by omega)) (fun _=>Tm.err (by omega) (by omega))
theorem qsN (bs t:List UInt8)(lim:Int)(p:Nat)(h:p≤bs.length):Tm True bs.length p (fun _ q=>p+1≤q) (qnj bs lim p) (qnj (bs++t) lim p):=by
 unfold qnj;refine Tm.byte h (fun c hc hl => ?_)
 repeat' refine Tm.ite (fun _=>Tm.ok (by omega) hl (Nat.le_refl _)) (fun _ => ?_)
 refine Tm.ite (fun _ => ?_) (fun _=>Tm.err (by omega) (by omega));exact((qrC bs t lim (p+1) hl).with_ (fun _ q _ _ e=>by omega)).from_ (by omega) hl
theorem qhT (bs t:List UInt8)(lim:Int):∀(g g' p:Nat) (acc:List UInt8) (wh:Nat),p≤bs.length→bs.length<g+p→(bs++t).length<g'+p→Tm True bs.length p (fun l q=>l.length+4*p+4≤acc.length+4*q) (qfe bs lim g p acc wh) (qfe (bs++t) lim g' p acc wh)
 |0,_,p,_,_,h1,h2,_=>by omega
 |g+1,0,p,_,_,h1,_,h3=>by rw[List.length_append] at h3;omega
 |g+1,g'+1,p,acc,wh,h1,h2,h3=>by
  unfold qfe;refine Tm.byte h1 (fun c hc hl=>Tm.ite (fun _=>Tm.ok (by omega) hl (by omega)) (fun _=>Tm.ite (fun _ => ?_) (fun _=>Tm.ite (fun _=>Tm.err (by omega) (by omega)) (fun _=>Tm.ite (fun _=>Tm.err (by omega) (by omega)) (fun _ => ?_)))))
  ·refine Tm.from_ (q:=p+1) ?_ (by omega) hl;refine Tm.bindS (qsN bs t lim (p+1) hl) (fun _ z=>by rw[z]) (fun _ z=>by rw[z]) (fun r q _ hq e hz hy => ?_);rw[hz,hy];dsimp only;refine Tm.from_ (q:=q) ?_ (by omega) hq;refine(qhT bs t lim g g' q _ _ hq (by omega) (by omega)).with_ (fun l y _ _ e2 => ?_);have:=qcg r;rw[List.length_append] at e2;omega
  refine((qhT bs t lim g g' (p+1) _ _ hl (by omega) (by omega)).with_ (fun l y _ _ e2 => ?_)).from_ (by omega) hl;rw[List.length_append] at e2;simp only[List.length_cons,List.length_nil] at e2;omega
def szF:Nat→DataW Unit→Nat
 |0,_=>0
 |k+1,d=>match d with
  |.agg ds=>200+(ds.map fun d=>30+szF k d).sum
  |.map es=>200+(es.map fun e=>100+6*(qb7 e.1).length+szF k e.2).sum
  |.lit (.string l)=>200+6*l.length
  |.ptr (.lit (.string l))=>200+6*l.length
  |_=>200
def SzT (p:Nat)(d:DataW Unit)(q:Nat):Prop:=∀k,szF k d+30+400*p≤400*q
def TmR (n:Nat)(rd rd':Nat→Except (Int×Int) (DataW Unit×Nat)):Prop:=∀p,p≤n→Tm False n p (SzT p) (rd p) (rd' p)
def sqL (k:Nat)(ds:List (DataW Unit)):Nat:=(ds.map fun d=>30+szF k d).sum
def sqE (k:Nat)(es:List (Lit×DataW Unit)):Nat:=(es.map fun e=>100+6*(qb7 e.1).length+szF k e.2).sum
theorem qiB (k:Nat)(ds:List (DataW Unit))(d:DataW Unit):sqL k (ds++[d])=sqL k ds+(30+szF k d):=by unfold sqL;simp
theorem ql1 (k:Nat)(es:List (Lit×DataW Unit))(l:List UInt8)(d:DataW Unit):sqE k (es++[(.string l,d)])=sqE k es+(100+6*l.length+szF k d):=by unfold sqE;simp[qb7]
def Gth {α:Type}(μ:Nat→α→Nat)(a:α)(p:Nat)(b:α)(q:Nat):Prop:=∀k,μ k b+400*p≤μ k a+400*q
theorem qpZ {α:Type}(bs t:List UInt8)(lim:Int)(μ:Nat→α→Nat)(itF itF':α→Nat→Except (Int×Int) (α×Nat))(last:Nat)(hi:∀a p,p≤bs.length→Tm False bs.length p (Gth μ a p) (itF a p) (itF' a p)):∀(g g' p:Nat) (acc:α),p≤bs.length→bs.length<g+p→(bs++t).length<g'+p→Tm False bs.length p (Gth μ acc p) (qgW bs lim itF last g p acc) (qgW (bs++t) lim itF' last g' p acc)
 |0,_,p,_,h1,h2,_=>by omega
 |g+1,0,p,_,h1,_,h3=>by rw[List.length_append] at h3;omega
 |g+1,g'+1,p,acc,h1,h2,h3=>by
  unfold qgW;refine Tm.bind (qhj bs t lim p h1) (fun _ z=>by rw[z]) (fun _ z=>by rw[z]) (fun _ p1 a1 hp1 _ hz=>⟨_,fun z=>by rw[z],?_⟩);rw[hz];dsimp only;refine Tm.bind (hi acc p1 hp1) (fun _ z=>by rw[z]) (fun _ z=>by rw[z]) (fun acc' p2 a2 hp2 e2 hz=>⟨_,fun z=>by rw[z],?_⟩);rw[hz];dsimp only;refine Tm.bind (qhj bs t lim p2 hp2) (fun _ z=>by rw[z]) (fun _ z=>by rw[z]) (fun _ p3 a3 hp3 _ hz=>⟨_,fun z=>by rw[z],?_⟩);rw[hz];dsimp only;refine Tm.byte hp3 (fun c hc hl=>Tm.ite (fun _=>Tm.ok (by omega) hl (fun k=>by have:=e2 k;omega)) (fun _=>Tm.ite (fun _ => ?_) (fun _=>Tm.err (by omega) (by omega))));exact((qpZ bs t lim μ itF itF' last hi g g' (p3+1) acc' hl (by omega) (by omega)).with_ (fun b y _ _ e k=>by have:=e k;have:=e2 k;omega)).from_ (by omega) hl
theorem qnR {α:Type}(bs t:List UInt8)(lim:Int)(μ:Nat→α→Nat)(itF itF':α→Nat→Except (Int×Int) (α×Nat))(last:Nat)(hi:∀a p,p≤bs.length→Tm False bs.length p (Gth μ a p) (itF a p) (itF' a p))(p:Nat)(acc:α)(h1:p≤bs.length):Tm False bs.length p (Gth μ acc p) (qe4 bs lim itF last p acc) (qe4 (bs++t) lim itF' last p acc):=by
 unfold qe4;refine Tm.bind (qhj bs t lim p h1) (fun _ z=>by rw[z]) (fun _ z=>by rw[z]) (fun _ p1 a1 hp1 _ hz=>⟨_,fun z=>by rw[z],?_⟩);rw[hz];dsimp only;have hI:Tm False bs.length p1 (Gth μ acc p) (qgW bs lim itF last (bs.length+1-p1) p1 acc) (qgW (bs++t) lim itF' last ((bs++t).length+1-p1) p1 acc):=(qpZ bs t lim μ itF itF' last hi _ _ p1 acc hp1 (by omega) (by rw[List.length_append];omega)).with_ (fun b y _ _ e k=>by have:=e k;omega);refine Tm.at_ hp1 (fun e r' => ?_) (fun c hc hl=>Tm.ite (fun _=>Tm.ok (by omega) hl (fun k=>by omega)) (fun _=>hI));subst e;exact hI.any
theorem qvT (hr:TmR n rd rd')(ds:List (DataW Unit))(p:Nat)(h:p≤n):Tm False n p (Gth sqL ds p) (liJ rd ds p) (liJ rd' ds p):=by
 unfold liJ;refine Tm.bind (hr p h) (fun _ z=>by rw[z]) (fun _ z=>by rw[z]) (fun d q _ hq e hz=>⟨_,fun z=>by rw[z],?_⟩);rw[hz];refine Tm.ok (Nat.le_refl _) hq (fun k=>by have:=e k;rw[qiB];omega)
theorem qu5 (bs t:List UInt8)(lim:Int)(ks:List (List UInt8))(p:Nat)(h:p≤bs.length):Tm True bs.length p (fun l q=>l.length+4*p+8≤4*q) (qmo bs lim ks p) (qmo (bs++t) lim ks p):=by
 unfold qmo;refine Tm.bindS (qcP bs t lim [34] p h) (fun _ z=>by rw[z]) (fun _ z=>by rw[z]) (fun _ q _ hq e hz hy => ?_);rw[hz,hy];dsimp only;have e:q=p+1:=e;refine Tm.from_ (q:=q) ?_ (by omega) hq;refine Tm.bindS (qhT bs t lim (bs.length+1-q) ((bs++t).length+1-q) q [] 0 hq (by omega) (by rw[List.length_append];omega)) (fun _ z=>by rw[z]) (fun _ z=>by rw[z]) (fun l r _ hr e2 hz hy => ?_);rw[hz,hy];dsimp only;rw[List.length_nil] at e2;exact Tm.ite (fun _=>Tm.err (by omega) (by omega)) (fun _=>Tm.ok (by omega) hr (by omega))
def szM (k:Nat)(a:List (List UInt8)×List (Lit×DataW Unit)):Nat:=sqE k a.2
theorem qvQ (bs t:List UInt8)(lim:Int)(hr:TmR bs.length rd rd')(a:List (List UInt8)×List (Lit×DataW Unit))(p:Nat)(h:p≤bs.length):Tm False bs.length p (Gth szM a p) (enJ bs lim rd a p) (enJ (bs++t) lim rd' a p):=by
 unfold enJ;refine Tm.bind (qu5 bs t lim a.1 p h) (fun _ z=>by rw[z]) (fun _ z=>by rw[z]) (fun l p1 _ hp1 e1 hz=>⟨_,fun z=>by rw[z],?_⟩);rw[hz];dsimp only;refine Tm.bind (qhj bs t lim p1 hp1) (fun _ z=>by rw[z]) (fun _ z=>by rw[z]) (fun _ p2 _ hp2 _ hz=>⟨_,fun z=>by rw[z],?_⟩);rw[hz];dsimp only;refine Tm.bind (qcP bs t lim [58] p2 hp2) (fun _ z=>by rw[z]) (fun _ z=>by rw[z]) (fun _ p3 _ hp3 _ hz=>⟨_,fun z=>by rw[z],?_⟩);rw[hz];dsimp only;refine Tm.bind (qhj bs t lim p3 hp3) (fun _ z=>by rw[z]) (fun _ z=>by rw[z]) (fun _ p4 _ hp4 _ hz=>⟨_,fun z=>by rw[z],?_⟩);rw[hz];dsimp only;refine Tm.bind (hr p4 hp4) (fun _ z=>by rw[z]) (fun _ z=>by rw[z]) (fun d p5 _ hp5 e5 hz=>⟨_,fun z=>by rw[z],?_⟩);rw[hz];refine Tm.ok (Nat.le_refl _) hp5 (fun k => ?_);have:=e5 k;unfold szM;rw[ql1];omega
theorem qct {d:DataW Unit}(h:∀k,szF (k+1) d=200)(hq:p<q):SzT p d q:=fun k=>by
 cases k with
 |zero=>show 0+30+_≤_;omega
 |succ k=>rw[h k];omega
theorem qoO (hq:l.length+4*(p+1)≤4*q):SzT p (.lit (.string l)) q:=fun k=>by
 cases k with
 |zero=>show 0+30+_≤_;omega
 |succ k=>show 200+6*l.length+30+_≤_;omega
theorem qrF (hq:l.length+4*(p+1)≤4*q):SzT p (.ptr (.lit (.string l))) q:=fun k=>by
 cases k with
 |zero=>show 0+30+_≤_;omega
 |succ k=>show 200+6*l.length+30+_≤_;omega
theorem qnC {ds:List (DataW Unit)}(hr:p<r)(hq:r≤q)(h:Gth sqL [] r ds q):SzT p (.agg ds) q:=fun k=>by
 cases k with
 |zero=>show 0+30+_≤_;omega
 |succ k =>
  have:=h k;show 200+sqL k ds+30+_≤_;have e:sqL k []=0:=rfl;omega
theorem qsq {es:List (Lit×DataW Unit)}(hr:p<r)(hq:r≤q)(h:Gth sqE [] r es q):SzT p (.map es) q:=fun k=>by
 cases k with
 |zero=>show 0+30+_≤_;omega
 |succ k =>
  have:=h k;show 200+sqE k es+30+_≤_;have e:sqE k []=0:=rfl;omega
theorem qtk (bs t:List UInt8)(lim depth:Int)(wi:Nat)(hr:¬(wi:Int)=depth→TmR bs.length rd rd')(c:UInt8)(p:Nat)(h:p+1≤bs.length):Tm False bs.length p (SzT p) (qqi bs lim depth wi rd (fun c p=>qg4 ⟨none,bs,0,0,lim,p,0⟩ c) c (p+1)) (qqi (bs++t) lim depth wi rd' (fun c p=>qg4 ⟨none,bs++t,0,0,lim,p,0⟩ c) c (p+1)):=by
 unfold qqi;refine Tm.ite (fun _ => ?_) (fun _=>Tm.ite (fun _ => ?_) (fun _=>Tm.ite (fun _ => ?_) (fun _=>Tm.ite (fun _ => ?_) (fun _=>Tm.ite (fun _ => ?_) (fun _=>Tm.ite (fun _ => ?_) (fun _=>Tm.ite (fun _ => ?_) (fun _ => ?_)))))))
 ·refine Tm.from_ (q:=p+1) ?_ (by omega) h;refine Tm.bind (qcP bs t lim _ (p+1) h) (fun _ z=>by rw[z]) (fun _ z=>by rw[z]) (fun _ q hp hq _ hz=>⟨_,fun z=>by rw[z],?_⟩);rw[hz];refine Tm.ok (Nat.le_refl _) hq (qct (fun _=>rfl) (by omega))
 ·refine Tm.from_ (q:=p+1) ?_ (by omega) h;refine Tm.bind (qcP bs t lim _ (p+1) h) (fun _ z=>by rw[z]) (fun _ z=>by rw[z]) (fun _ q hp hq _ hz=>⟨_,fun z=>by rw[z],?_⟩);rw[hz];refine Tm.ok (Nat.le_refl _) hq (qct (fun _=>rfl) (by omega))
 ·refine Tm.from_ (q:=p+1) ?_ (by omega) h;refine Tm.bind (qcP bs t lim _ (p+1) h) (fun _ z=>by rw[z]) (fun _ z=>by rw[z]) (fun _ q hp hq _ hz=>⟨_,fun z=>by rw[z],?_⟩);rw[hz];refine Tm.ok (Nat.le_refl _) hq (qct (fun _=>rfl) (by omega))
 ·refine Tm.from_ (q:=p+1) ?_ (by omega) h;refine Tm.bind (qhT bs t lim (bs.length+1-(p+1)) ((bs++t).length+1-(p+1)) (p+1) [] 0 h (by omega) (by rw[List.length_append];omega)) (fun _ z=>by rw[z]) (fun _ z=>by rw[z]) (fun l q hp hq e hz=>⟨_,fun z=>by rw[z],?_⟩);rw[hz];refine Tm.ok (Nat.le_refl _) hq (qoO ?_);rw[List.length_nil] at e;omega
 ·refine Tm.ite (fun _=>Tm.err (by omega) (by omega)) (fun hw => ?_);refine Tm.from_ (q:=p+1) ?_ (by omega) h;refine Tm.bind (qnR bs t lim sqL _ _ 93 (qvT (hr hw)) (p+1) [] h) (fun _ z=>by rw[z]) (fun _ z=>by rw[z]) (fun ds q hp hq e hz=>⟨_,fun z=>by rw[z],?_⟩);rw[hz];refine Tm.ok (Nat.le_refl _) hq (qnC (Nat.lt_succ_self p) hp e)
 ·refine Tm.ite (fun _=>Tm.err (by omega) (by omega)) (fun hw => ?_);refine Tm.from_ (q:=p+1) ?_ (by omega) h;refine Tm.bind (qnR bs t lim szM _ _ 125 (qvQ bs t lim (hr hw)) (p+1) ([],[]) h) (fun _ z=>by rw[z]) (fun _ z=>by rw[z]) (fun es q hp hq e hz=>⟨_,fun z=>by rw[z],?_⟩);rw[hz];refine Tm.ok (Nat.le_refl _) hq (qsq (Nat.lt_succ_self p) hp e)
 ·dsimp only;refine Tm.from_ (q:=p+1) ?_ (by omega) h;refine Tm.bind (qu8 bs t lim c (p+1) h) (fun _ z=>by rw[z]) (fun _ z=>by rw[z]) (fun z q hp hq _ hz=>⟨_,fun z=>by rw[z],?_⟩);rw[hz];refine Tm.ok (Nat.le_refl _) hq (qct (fun _=>rfl) (by omega))
 exact Tm.err (by omega) (by omega)
theorem qvV (bs t:List UInt8)(lim depth:Int)(g:Nat):∀(wi:Nat),(wi:Int)≤depth→depth<wi+g→TmR bs.length (thJ bs lim depth (fun c p=>qg4 ⟨none,bs,0,0,lim,p,0⟩ c) g wi) (thJ (bs++t) lim depth (fun c p=>qg4 ⟨none,bs++t,0,0,lim,p,0⟩ c) g wi):=by
 induction g with
 |zero=>intro wi h1 h2;omega
 |succ g ih =>
  intro wi h1 h2 p hp;unfold thJ;refine Tm.byte hp (fun c hc hl => ?_);exact qtk bs t lim depth wi (fun hw=>ih (wi+1) (by omega) (by omega)) c p hl
theorem qk4 (bs t:List UInt8)(lim:Int):∀(k p a:Nat),p≤bs.length→Tm True bs.length p (fun _ q=>q=p+k) (qd9 bs lim k p a) (qd9 (bs++t) lim k p a)
 |0,p,a,h=>Tm.ok (Nat.le_refl _) h rfl
 |k+1,p,a,h=>by
  unfold qd9;refine Tm.byte h (fun c hc hl => ?_);exact((qk4 bs t lim k (p+1) _ hl).with_ (fun _ q _ _ e=>by omega)).from_ (by omega) hl
theorem qn2 (bs t:List UInt8)(lim:Int):∀(k p:Nat) (acc:List UInt8),p≤bs.length→Tm True bs.length p (fun l q=>l.length+p=acc.length+q) (qhb bs lim k p acc) (qhb (bs++t) lim k p acc)
 |0,p,a,h=>Tm.ok (Nat.le_refl _) h rfl
 |k+1,p,acc,h=>by
  unfold qhb;refine Tm.byte h (fun c hc hl => ?_);refine((qn2 bs t lim k (p+1) _ hl).with_ (fun _ q _ _ e => ?_)).from_ (by omega) hl;rw[List.length_append,List.length_cons,List.length_nil] at e;omega
theorem qlg (bs t:List UInt8)(lim:Int)(p0:Nat):∀(k p:Nat) (acc:List UInt8) (wh:Nat),p0≤p→p≤bs.length→(p0=p→wh=acc.length)→Tm True bs.length p0 (fun l q=>l.length+p=acc.length+q) (qfg bs lim k p acc wh) (qfg (bs++t) lim k p acc wh)
 |0,p,acc,wh,h0,h,hw=>by
  unfold qfg;exact Tm.ite (fun _=>Tm.ok h0 h rfl) (fun hn=>Tm.err (by omega) (fun e=>absurd (hw (by omega)) hn))
 |k+1,p,acc,wh,h0,h,hw=>by
  unfold qfg;by_cases hl:p<bs.length
  ·have e:(bs++t)[p]? = bs[p]?:=List.getElem?_append_left hl;obtain⟨c,hc⟩:∃c,bs[p]? = some c:=⟨_,List.getElem?_eq_getElem hl⟩
   rw[e,hc];refine Tm.ite (fun _=>Tm.err (by omega) (by omega)) (fun _=>Tm.ite (fun _=>Tm.err (by omega) (by omega)) (fun _ => ?_));refine(qlg bs t lim p0 k (p+1) _ _ (by omega) hl (by omega)).with_ (fun l q _ _ e => ?_);rw[List.length_append,List.length_cons,List.length_nil] at e;omega
  have e:bs[p]? = none:=List.getElem?_eq_none (by omega);rw[e];exact⟨by omega,.inr (by omega),fun _=>by omega⟩
theorem qtL (hd:Nat→Nat×Nat×Nat)(bs t:List UInt8)(lim:Int)(ks:List (List UInt8))(p:Nat)(h:p≤bs.length):Tm True bs.length p (fun l q=>l.length+p+1≤q) (qfr hd bs lim ks p) (qfr hd (bs++t) lim ks p):=by
 unfold qfr;refine Tm.byte h (fun c hc hl=>Tm.ite (fun _ => ?_) (fun _=>Tm.err (by omega) (by omega)));refine Tm.bindS ((qk4 bs t lim _ (p+1) _ hl).from_ (Nat.le_succ p) hl) (fun _ z=>by rw[z]) (fun _ z=>by rw[z]) (fun x q _ hq e hz hy => ?_);rw[hz,hy];dsimp only;refine Tm.bindS (qlg bs t lim p x q [] 0 (by omega) hq (fun _=>rfl)) (fun _ z=>by rw[z]) (fun _ z=>by rw[z]) (fun l r _ hr e2 hz hy => ?_);rw[hz,hy];dsimp only;rw[List.length_nil] at e2;exact Tm.ite (fun _=>Tm.err (by omega) (by omega)) (fun _=>Tm.ok (by omega) hr (by omega))
theorem qjw (hr:TmR n rd rd'):∀(k p:Nat) (acc:List (DataW Unit)),p≤n→Tm False n p (Gth sqL acc p) (qb9 rd k p acc) (qb9 rd' k p acc)
 |0,p,acc,h=>Tm.ok (Nat.le_refl _) h (fun _=>Nat.le_refl _)
 |k+1,p,acc,h=>by
  unfold qb9;refine Tm.bind (hr p h) (fun _ z=>by rw[z]) (fun _ z=>by rw[z]) (fun d q _ hq e hz=>⟨_,fun z=>by rw[z],?_⟩);rw[hz];dsimp only;refine(qjw hr k q _ hq).with_ (fun b y _ _ e2 j => ?_);have h1:=e j;have h2:=e2 j;rw[qiB] at h2;omega
theorem qgf {kf kf':List (List UInt8)→Nat→Except (Int×Int) (List UInt8×Nat)}(hk:∀ks p,p≤n→Tm True n p (fun l q=>l.length+p+1≤q) (kf ks p) (kf' ks p))(hr:TmR n rd rd'):∀(k p:Nat) (ks:List (List UInt8)) (acc:List (Lit×DataW Unit)),p≤n→Tm False n p (Gth sqE acc p) (qaI kf rd k p ks acc) (qaI kf' rd' k p ks acc)
 |0,p,ks,acc,h=>Tm.ok (Nat.le_refl _) h (fun _=>Nat.le_refl _)
 |k+1,p,ks,acc,h=>by
  unfold qaI;refine Tm.bind (hk ks p h) (fun _ z=>by rw[z]) (fun _ z=>by rw[z]) (fun l q _ hq e1 hz=>⟨_,fun z=>by rw[z],?_⟩);rw[hz];dsimp only;refine Tm.bind (hr q hq) (fun _ z=>by rw[z]) (fun _ z=>by rw[z]) (fun d r _ hr' e hz=>⟨_,fun z=>by rw[z],?_⟩);rw[hz];dsimp only;refine(qgf hk hr k r _ _ hr').with_ (fun b y _ _ e2 j => ?_);have h1:=e j;have h2:=e2 j;rw[ql1] at h2;omega
theorem qpr (n p:Nat)(so w:Int)(x q:Nat)(hp:p<q)(hq:q≤n){R:Except (Int×Int) (DataW Unit×Nat)}(h:R=match nbF so w x q with|.error e=>.error e|.ok z=>.ok (.lit (.int .i64 z),q)):Tm False n p (SzT p) R R:=by
 rw[h];unfold nbF;by_cases h1:(so==5)=true
 ·rw[if_pos h1];exact Tm.ok (by omega) hq (qct (fun _=>rfl) hp)
 rw[if_neg h1];by_cases h2:9223372036854775807<x
 ·rw[if_pos h2];exact Tm.err (by omega) (by omega)
 rw[if_neg h2];by_cases h3:(so==6)=true
 ·rw[if_pos h3];exact Tm.ok (by omega) hq (qct (fun _=>rfl) hp)
 rw[if_neg h3];exact Tm.ok (by omega) hq (qct (fun _=>rfl) hp)
theorem qtU (bs t:List UInt8)(lim:Int){li li':Nat→Nat→Except (Int×Int) (List (DataW Unit)×Nat)}{ma ma':Nat→Nat→Except (Int×Int) (List (Lit×DataW Unit)×Nat)}(so w x p q:Nat)(hp:p<q)(hq:q≤bs.length)(hl:so=9→Tm False bs.length q (Gth sqL [] q) (li x q) (li' x q))(hm:so=10→Tm False bs.length q (Gth sqE [] q) (ma x q) (ma' x q)):Tm False bs.length p (SzT p) (qjF bs lim li ma so w x q) (qjF (bs++t) lim li' ma' so w x q):=by
 unfold qjF;split
 ·exact Tm.ok (by omega) hq (qct (fun _=>rfl) hp)
 ·exact Tm.ok (by omega) hq (qct (fun _=>rfl) hp)
 ·exact qpr _ p 4 w x q hp hq rfl
 ·exact qpr _ p 5 w x q hp hq rfl
 ·exact qpr _ p 6 w x q hp hq rfl
 ·refine Tm.from_ (q:=q) ?_ (by omega) hq;refine Tm.bind (qn2 bs t lim x q [] hq) (fun _ z=>by rw[z]) (fun _ z=>by rw[z]) (fun l r hr hr2 e hz=>⟨_,fun z=>by rw[z],?_⟩);rw[hz];dsimp only;rw[List.length_nil] at e;exact Tm.ok (by omega) hr2 (qrF (by omega))
 ·refine Tm.from_ (q:=q) ?_ (by omega) hq;refine Tm.bind (qlg bs t lim q x q [] 0 (Nat.le_refl _) hq (fun _=>rfl)) (fun _ z=>by rw[z]) (fun _ z=>by rw[z]) (fun l r hr hr2 e hz=>⟨_,fun z=>by rw[z],?_⟩);rw[hz];dsimp only;rw[List.length_nil] at e;exact Tm.ok (by omega) hr2 (qoO (by omega))
 ·refine Tm.from_ (q:=q) ?_ (by omega) hq;refine Tm.bind (hl rfl) (fun _ z=>by rw[z]) (fun _ z=>by rw[z]) (fun ds r hr hr2 e hz=>⟨_,fun z=>by rw[z],?_⟩);rw[hz];refine Tm.ok (by omega) hr2 (qnC hp hr e)
 ·refine Tm.from_ (q:=q) ?_ (by omega) hq;refine Tm.bind (hm rfl) (fun _ z=>by rw[z]) (fun _ z=>by rw[z]) (fun es r hr hr2 e hz=>⟨_,fun z=>by rw[z],?_⟩);rw[hz];refine Tm.ok (by omega) hr2 (qsq hp hr e)
 exact Tm.ok (by omega) hq (qct (fun _=>rfl) hp)
theorem qsp (hd:Nat→Nat×Nat×Nat)(bs t:List UInt8)(lim depth:Int)(g:Nat):∀(wi:Nat),(wi:Int)≤depth→depth<wi+g→TmR bs.length (thB hd bs lim depth g wi) (thB hd (bs++t) lim depth g wi):=by
 induction g with
 |zero=>intro wi h1 h2;omega
 |succ g ih =>
  intro wi h1 h2 p hp;unfold thB;refine Tm.byte hp (fun c hc hl=>Tm.ite (fun _=>Tm.err (by omega) (by omega)) (fun _=>Tm.ite (fun _=>Tm.err (by omega) (by omega)) (fun hw => ?_)));have hR:(hd c.toNat).1=9∨(hd c.toNat).1=10→TmR bs.length (thB hd bs lim depth g (wi+1)) (thB hd (bs++t) lim depth g (wi+1)):=fun h9=>by
   have:¬(wi:Int)=depth:=fun e=>hw ⟨h9,e⟩;exact ih (wi+1) (by omega) (by omega)
  refine Tm.bindS ((qk4 bs t lim _ (p+1) _ hl).from_ (Nat.le_succ p) hl) (fun _ z=>by rw[z]) (fun _ z=>by rw[z]) (fun x q _ hq e hz hy => ?_);rw[hz,hy];dsimp only;exact qtU bs t lim _ _ x p q (by omega) hq (fun h9=>qjw (hR (.inl h9)) x q [] hq) (fun h10=>qgf (qtL hd bs t lim) (hR (.inr h10)) x q [] [] hq)
def dcP (n:Nat)(r:Except (Int×Int) (DataW Unit)):Except (Int×Int) (DataW Unit×Nat):=match r with
 |.error e=>.error e
 |.ok d=>.ok (d,n)
theorem qsW (bs t:List UInt8)(lim:Int){sp sp':Nat→Except (Int×Int) (Unit×Nat)}{th th':Nat→Except (Int×Int) (DataW Unit×Nat)}(hs:∀p,p≤bs.length→Tm False bs.length p (fun _ _=>True) (sp p) (sp' p))(ht:TmR bs.length th th'):Tm False bs.length 0 (fun d _=>∀k,szF k d+30≤400*bs.length) (dcP bs.length (qnZ sp th bs lim)) (dcP bs.length (qnZ sp' th' (bs++t) lim)):=by
 unfold qnZ;refine Tm.bind (hs 0 (Nat.zero_le _)) (fun _ z=>by rw[z];rfl) (fun _ z=>by rw[z];rfl) (fun _ p0 _ h0 _ hz=>⟨_,fun z=>by rw[z],?_⟩);rw[hz];dsimp only;refine Tm.bind (ht p0 h0) (fun _ z=>by rw[z];rfl) (fun _ z=>by rw[z];rfl) (fun d p1 _ h1 e1 hz=>⟨_,fun z=>by rw[z],?_⟩);rw[hz];dsimp only;refine Tm.bind (hs p1 h1) (fun _ z=>by rw[z];rfl) (fun _ z=>by rw[z];rfl) (fun _ p2 _ h2 _ hz=>⟨_,fun z=>by rw[z],?_⟩);rw[hz];dsimp only;unfold qqn;dsimp only;by_cases hlt:p2<bs.length
 ·have e:(bs++t)[p2]? = bs[p2]?:=List.getElem?_append_left hlt;obtain⟨c,hc⟩:∃c,bs[p2]? = some c:=⟨_,List.getElem?_eq_getElem hlt⟩
  rw[e,hc];dsimp only;by_cases h3:(p2:Int)=lim
  ·rw[if_pos h3];exact Tm.err (by omega) (by omega)
  rw[if_neg h3];exact Tm.err (by omega) (by omega)
 have e:bs[p2]? = none:=List.getElem?_eq_none (by omega);obtain rfl:p2=bs.length:=by omega
 rw[e];exact⟨Nat.le_refl _,Nat.le_refl _,fun k=>(by have:=e1 k;omega),.inr ⟨id,rfl⟩⟩
theorem qpn (fm:Int)(bs t:List UInt8)(d lim:Int)(hd:0≤d):Tm False bs.length 0 (fun d _=>∀k,szF k d+30≤400*bs.length) (dcP bs.length (qgE fm bs d lim)) (dcP bs.length (qgE fm (bs++t) d lim)):=by
 unfold qgE;refine qsW bs t lim (fun p hp => ?_) (fun p hp => ?_)
 ·unfold spO;exact Tm.ite (fun _=>qhj bs t lim p hp) (fun _=>Tm.ok (Nat.le_refl _) hp trivial)
 unfold thO;exact Tm.ite (fun _=>qvV bs t lim d (d.toNat+1) 0 (by omega) (by omega) p hp) (fun _=>Tm.ite (fun _=>qsp qiN bs t lim d (d.toNat+1) 0 (by omega) (by omega) p hp) (fun _=>qsp qfo bs t lim d (d.toNat+1) 0 (by omega) (by omega) p hp))
theorem qhy (fm:Int)(bs t:List UInt8)(d lim:Int)(hd:0≤d){en:Int}(h:qgE fm bs d lim=.error (en,pl))(hp:¬pl=bs.length):pl<bs.length∧qgE fm (bs++t) d lim=.error (en,pl):=by
 have:=qpn fm bs t d lim hd;rw[h] at this;obtain⟨h1,h2,_⟩:=this;rcases h2 with h2|h2
 ·refine⟨by omega,?_⟩
  cases h3:qgE fm (bs++t) d lim with
  |error e=>rw[h3] at h2;cases h2;rfl
  |ok d=>rw[h3] at h2;cases h2
 exact absurd h2 hp
theorem qoS (fm:Int)(bs:List UInt8)(d lim:Int)(hd:0≤d){x:DataW Unit}(h:qgE fm bs d lim=.ok x)(k:Nat):szF k x+30≤400*bs.length:=by
 have:=qpn fm bs [] d lim hd;rw[h] at this;exact this.2.2.1 k
end
end Go.Proofs.YtllcbnfmihfaaaaGreatDoor
