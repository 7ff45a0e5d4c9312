import Derived.Test.YtmajcjammmjimaaGreatDoorCq21
import Derived.Test.YtmajcjammmjimaaGreatDoorCq23
import Derived.Test.YtmajcjammmjimaaGreatDoorCq17
set_option maxRecDepth 100000
set_option maxHeartbeats 8000000
set_option linter.all false
namespace Go.Proofs.YtmajcjammmjimaaGreatDoor
open Go.Proofs.Tryz
variable{V V' V0 W W' W0 w5:World}{A N N' base f k mn n size:Nat}{F G:Nat->Prop}{sv v v' x:Value}{xs:List Value}{sts sts':List ((Nat->Nat)×Int×Int)}{cs:Array Value}{fr:Nat×Nat}{q:Aut}{mf nf:Lit->Option Nat}{p:List (List UInt8×Bool)}{d:DataW Unit}{ds:List (DataW Unit)}{es:List (Lit×DataW Unit)}
section
open Go.RowKit Go.Lib
structure Rv where
 rs:List (List (Nat×List UInt8)×Int×Int)
 dflt:Int
 m:Nat->Nat->Bool
 clr:Nat
 key:Int
abbrev Rep:=Nat×Nat×Nat×Nat
def rwL(f:DataW Unit->Rep->Option (DataW Unit)×Rep)(ds:List (DataW Unit))(R:Rep):List (DataW Unit)×Rep :=
 ds.foldl (λa d=>(a.1++(f d a.2).1.toList,(f d a.2).2)) ([],R)
def rwE(f:List UInt8->DataW Unit->Rep->Option (DataW Unit)×Rep)(es:List (Lit×DataW Unit))(R:Rep):List (Lit×DataW Unit)×Rep :=
 es.foldl (λa e=>(a.1++((f (qaN e.1) e.2 a.2).1.map λd=>(e.1,d)).toList,(f (qaN e.1) e.2 a.2).2)) ([],R)
def shF(rw:List (List UInt8×Bool)->DataW Unit->Rep->Option (DataW Unit)×Rep)(p:List (List UInt8×Bool))(d:DataW Unit)(R:Rep):DataW Unit×Rep :=
 match d with
 |.agg ds=>(.agg (rwL (rw (([],true)::p)) ds R).1,(rwL (rw (([],true)::p)) ds R).2)
 |.map es=>(.map (rwE (λkey=>rw ((key,false)::p)) es R).1,(rwE (λkey=>rw ((key,false)::p)) es R).2)
 |d=>(d,R)
def rwF(c:Rv):Nat->List (List UInt8×Bool)->DataW Unit->Rep->Option (DataW Unit)×Rep
 |0,_,_,R=>(none,R)
 |k+1,p,d,R =>
  if c.m (lbF c.dflt c.rs p.reverse).1.toNat c.clr=true then(some (shF (rwF c k) p d (R.1+1,R.2)).1,(shF (rwF c k) p d (R.1+1,R.2)).2)
  else if(lbF c.dflt c.rs p.reverse).2=2 then(some (.lit (.string [42,42,42])),(R.1,R.2.1,R.2.2.1+1,R.2.2.2))
  else if(lbF c.dflt c.rs p.reverse).2=3 then(some (.lit (.string (quz c.key (lbF c.dflt c.rs p.reverse).1.toNat (qbc (k+1) d)))),(R.1,R.2.1,R.2.2.1,R.2.2.2+1))
  else(none,(R.1,R.2.1+1,R.2.2.1,R.2.2.2))
def ndF:Nat->DataW Unit->Nat
 |0,_=>0
 |k+1,d=>match d with
  |.agg ds=>2+(ds.map λd=>1+ndF k d).sum
  |.map es=>1+(es.map λe=>2+ndF k e.2).sum
  |_=>1
structure Rc where
 v:Rv
 W0:World
 A:Nat
 q:Aut
 B:Nat
 O:Array Value
 n:Nat
 G:World
 own0:Option Nat
def rwC(c:Rc)(R:Rep):Array Value:=c.O++#[.int .i64 c.v.clr,.int .i64 c.v.key,.pointer (some ⟨c.A,0,none⟩),.int .i64 R.1,.int .i64 R.2.1,.int .i64 R.2.2.1,.int .i64 R.2.2.2]
structure qjx(c:Rc):Prop where
 ers:c.q.rs=c.v.rs
 edf:c.q.dflt=c.v.dflt
 elf:c.q.lf=fnL (qc0 c.v.rs)
 eL:c.q.L=2+(qc0 c.v.rs).length
 ly:LyD c.v.rs (qc0 c.v.rs) c.q.st c.q.tk
 hn:c.v.rs.length<=16
 h8:∀i (h:i<c.v.rs.length),c.v.rs[i].1.length<=8
 hk:∀i (h:i<c.v.rs.length) j (h2:j<c.v.rs[i].1.length),c.v.rs[i].1[j].1<=3/\c.v.rs[i].1[j].2.length<=1000000000
 ord:qlt c.O c.n c.v.m
 n6:c.n<=6
 clr:c.v.clr<c.n
 lab:∀p,∃l:Nat,(lbF c.v.dflt c.v.rs p).1=l/\l<c.n
 hB:c.W0.heap.size<=c.B
 hG:c.G.heap.size<=c.B
 tab:c.W0.cell? ⟨8,15,none⟩=some (.int .u8 4)
structure KpR(W V:World):Prop where
 size:W.heap.size<=V.heap.size
 row:∀(k:Nat) (cs:Array Value) (t:TypeId) (fr:Nat×Nat),W.heap[k]?=some (.cells cs t fr)->t≠139->t≠189->t≠192->V.heap[k]?=some (.cells cs t fr)
theorem KpR.refl(W:World):KpR W W:=⟨kaf _,λ_ _ _ _ h _ _ _=>h⟩
theorem KpR.trans{X:World}(h:KpR W V)(g:KpR V X):KpR W X:=⟨kaj h.size g.size,λk cs t e a b c d=>g.row k cs t e (h.row k cs t e a b c d) b c d⟩
theorem KpR.of_below(h:Below W.heap.size W V):KpR W V:=⟨h.size,λk _ _ _ a _ _ _=>(h.block k (ltA a)).trans a⟩
theorem KpR.at_{R:Option Nat}(j:W.heap.size<=V.heap.size)(g:∀k,k<W.heap.size->some k≠R->V.heap[k]?=W.heap[k]?)(i:∀k,R=some k->∀cs t f,W.heap[k]?=some (.cells cs t f)->t=139\/t=189\/t=192):KpR W V:=by
 refine⟨j,λk cs t f a b c d=>?_⟩;by_cases e:some k=R
 ·rcases i k e.symm cs t f a with h|h|h
  ·exact absurd h b
  ·exact absurd h c
  exact absurd h d
 exact(g k (ltA a) e).trans a
theorem qbE.kept{t:TypeId}(h:qbE V t size F v n xs)(m:∀k,F k->G k)(q:KpR V V')(i:t≠139)(j:t≠189)(l:t≠192):qbE V' t size G v n xs:=by
 obtain⟨b,a⟩:=h;refine⟨b,?_⟩;rcases a with a|⟨g,d,f,e,o,p,c⟩
 ·exact .inl a
 exact .inr ⟨g,d,f,e,m g o,q.row _ _ _ _ p i j l,c⟩
theorem qah.kept(a:∀k,F k->G k)(b:KpR V V'):∀{k:Nat} {v:Value} {d:DataW Unit},qah k V F v d->qah k V' G v d
 |0,_,_,h=>h
 |k+1,v,d,h=>by
  unfold qah at h ⊢;split at h
  ·exact h
  ·exact h
  ·exact h
  ·exact h
  ·obtain⟨u,e,c⟩:=h;exact⟨u,e,c.kept a b (by decide) (by decide) (by decide)⟩
  ·obtain⟨u,j,e,c,g⟩:=h;exact⟨u,j,e,c.kept a b (by decide) (by decide) (by decide),λi x d f q=>qah.kept a b (g i x d f q)⟩
  ·obtain⟨u,j,e,c,g⟩:=h;refine⟨u,j,e,c.kept a b (by decide) (by decide) (by decide),λi r d f=>?_⟩;obtain⟨l,x,m,n,o,p⟩:=g i r d f;exact⟨l,x,m,n,o,qah.kept a b p⟩
  exact h
structure qca(c:Rc)(R:Rep)(N:Nat)(sts:List ((Nat->Nat)×Int×Int))(V:World):Prop where
 box:V.heap[c.B]?=some (.cells (rwC c R) 192)
 here:∃sa sc nf mn mf,qcy c.W0 c.A c.q sts (.slice sa sts.length sc) nf mn mf V/\qwh c.q sts mf/\mn<=N/\sts.length<=N+1/\((Value.slice sa sts.length sc).ownBlock=c.own0\/∃g,(Value.slice sa sts.length sc).ownBlock=some g/\c.G.heap.size<=g)
 fr:c.G.heap.size<=V.heap.size/\∀k,k<c.G.heap.size->k≠c.A->k≠c.q.nb->k≠c.q.mb->some k≠c.own0->V.heap[k]?=c.G.heap[k]?
 few:R.1+R.2.1+R.2.2.1+R.2.2.2<=N
theorem qca.more{c:Rc}{R:Rep}{M:Nat}(h:qca c R N sts V)(e:N<=M):qca c R M sts V:=by
 obtain⟨j,k,i,g,f,a,b,l,m,d⟩:=h.here;exact⟨h.box,⟨j,k,i,g,f,a,b,by omega,by omega,d⟩,h.fr,kaj h.few e⟩
theorem qca.step{c:Rc}{R:Rep}(h:qca c R N sts V)(f:Below V.heap.size V V'):qca c R N sts V':=by
 obtain⟨n,o,m,l,j,g,i⟩:=h.here;exact⟨(f.block _ (ltA h.box)).trans h.box,⟨n,o,m,l,j,g.next f,i⟩,⟨kaj h.fr.1 f.size,λk a b c d e=>(f.block k (kai a h.fr.1)).trans (h.fr.2 k a b c d e)⟩,h.few⟩
theorem qca.below{c:Rc}{R:Rep}(h:qca c R N sts V):Below c.W0.heap.size c.W0 V:=by
 obtain⟨g,i,f,e,d,a,b⟩:=h.here;exact a.below
theorem qaH{kt:TypeId}{m:Nat}{f:Lit->Option Nat}(h:qdo W kt m n f){t:TypeId}(b:W.heap[m]?=some (.cells cs t fr)):False:=by
 obtain⟨D,⟨d,c,a,_⟩,_⟩:=h;rw[b]at a;cases a
theorem qg1{e:TypeId}(i:W.ownsRow base e size v n xs){g:Nat}(h:v.ownBlock=some g){t:TypeId}(a:W.heap[g]?=some (.cells cs t fr)):t=e:=by
 rcases i.2 with⟨b,_⟩|⟨c,j,k,b,_,f,_⟩
 ·rw[b]at h;cases h
 rw[b]at h;injection h with h;have d:c=g:=h;rw[<-d,f]at a;injection a with a;injection a with _ a _;exact a.symm
theorem q0m(h:qcy W0 A q sts sv nf mn mf W)(f:qmR A q sv W V):KpR W V:=by
 refine⟨f.size,λk cs t g a b c d=>?_⟩;refine(f.block k (ltA a) (λe=>?_) (λe=>?_) (λe=>?_) (λe=>?_)).trans a
 ·exact c (qg1 h.states e.symm a)
 ·subst e;have:=h.row;rw[a]at this;injection this with this;injection this with _ this _;exact b this
 ·subst e;exact qaH h.numbers a
 subst e;exact qaH h.moves a
theorem qn9{c:Rc}(h:qjx c)(R:Rep):(rwC c R).size=44:=by simp[rwC,h.ord.size]
theorem qcy.off{B:Nat}(h:qcy W0 A q sts sv nf mn mf W)(w:W0.heap.size<=B)(a:W.grownBy W' (some B)){t:TypeId}(c:W.heap[B]?=some (.cells cs t fr))(k:t≠139)(l:t≠189)(m:t≠135):qcy W0 A q sts sv nf mn mf W':=by
 obtain⟨f,b,v⟩:=h.takes;have n:A≠B:=by
  rintro rfl;have:=h.row;rw[c]at this;injection this with this;injection this with _ this _;exact k this
 have o:q.tb≠B:=by
  rintro e;rw[e]at b;rw[c]at b;injection b with b;injection b with _ b _;exact m b
 have p:q.lm≠B:=λe=>qaH h.letters (e▸c);have r:q.nb≠B:=λe=>qaH h.numbers (e▸c);have s:q.mb≠B:=λe=>qaH h.moves (e▸c);have u:∀g,sv.ownBlock=some g->g≠B:=λg e j=>l (qg1 h.states e (j▸c));exact{h with
  row:=(a.block A (ltA h.row) (by simpa using n)).trans h.row
  below:=⟨a.os.trans h.below.os,a.tape.trans h.below.tape,a.output.trans h.below.output,kaj h.below.size a.size,λi d=>(a.block i (kai d h.below.size) (by simp;omega)).trans (h.below.block i d)⟩
  letters:=h.letters.kept a (by simpa using p)
  takes:=⟨f,(a.block _ (ltA b) (by simpa using o)).trans b,v⟩
  states:=qd1 h.states λg e=>a.block g (qjY h.states e) (by simpa using u g e)
  numbers:=h.numbers.kept a (by simpa using r)
  moves:=h.moves.kept a (by simpa using s)}
theorem qq7(W:World)(B j:Nat)(v:Value):W.grownBy (W.setCell ⟨B,j,none⟩ v) (some B) :=
 ⟨rfl,rfl,rfl,by simp[World.setCell],λk _ a=>kat _ _ _ _ (by simpa using a)⟩
theorem qca.count{c:Rc}{R R':Rep}(h:qca c R N sts V)(ok:qjx c)(j:Nat)(x:Nat)(o:(rwC c R).setIfInBounds j (.int .i64 x)=rwC c R')(n:R'.1+R'.2.1+R'.2.2.1+R'.2.2.2<=N+1):qca c R' (N+1) sts (V.setCell ⟨c.B,j,none⟩ (.int .i64 x))/\KpR V (V.setCell ⟨c.B,j,none⟩ (.int .i64 x)):=by
 obtain⟨s,u,r,q,p,i,l,w,y,m⟩:=h.here;have g:=qq7 V c.B j (.int .i64 x);refine⟨⟨?_,⟨s,u,r,q,p,i.off ok.hB g h.box (by decide) (by decide) (by decide),l,by omega,by omega,m⟩,⟨kaj h.fr.1 g.size,λk a b c d e=>(g.block k (kai a h.fr.1) (λe=>by have:=ok.hG;injection e with e;omega)).trans (h.fr.2 k a b c d e)⟩,n⟩,KpR.at_ (R:=some c.B) g.size g.block (λk e cs t v f=>?_)⟩
 ·rw[kaO V _ _ _ _ _ h.box,o]
 injection e with e;subst e;rw[h.box]at f;injection f with f;injection f with _ f _;exact .inr (.inr f.symm)
def StF(c:Rc)(sts:List ((Nat->Nat)×Int×Int))(f:Nat)(p:List (List UInt8×Bool)):Prop:=∃s,sts[f]?=some s/\PlP c.v.rs p s.1
def Pre(sts sts':List ((Nat->Nat)×Int×Int)):Prop:=∀(j:Nat) (x:(Nat->Nat)×Int×Int),sts[j]?=some x->sts'[j]?=some x
theorem StF.pre{c:Rc}(h:StF c sts f p)(d:Pre sts sts'):StF c sts' f p:=by
 obtain⟨s,a,b⟩:=h;exact⟨s,d _ _ a,b⟩
theorem Pre.trans{a b d:List ((Nat->Nat)×Int×Int)}(h:Pre a b)(g:Pre b d):Pre a d:=λj x c=>g j x (h j x c)
theorem Pre.refl(a:List ((Nat->Nat)×Int×Int)):Pre a a:=λ_ _ h=>h
def qyw(c:Rc)(R:Rep)(N:Nat)(sts:List ((Nat->Nat)×Int×Int))(p:List (List UInt8×Bool))(V:World)(e:Ending)(V':World):Prop :=
 ∃(f':Nat) (sts':List ((Nat->Nat)×Int×Int)),e=.returned (.int .i64 f')/\qca c R (N+1) sts' V'/\KpR V V'/\Pre sts sts'/\StF c sts' f' p
theorem qca.next{c:Rc}{R:Rep}(h:qca c R N sts V)(ok:qjx c)(hN:N<90000)(K:StF c sts f p)(n:List UInt8)(u:Bool)(I:n.length<=maxLen):Calls prog 135 #[.pointer (some ⟨c.A,0,none⟩),.int .i64 f,.agg #[.string ⟨n.toArray⟩,.bool u]] V (qyw c R N sts ((n,u)::p) V):=by
 obtain⟨sa,sc,nf,Z,W,i,E,v,h4,l⟩:=h.here;obtain⟨s,F,G⟩:=K;have af:=qnn ok.hn ok.h8;have O:qn0 c.q.lf n u<c.q.L:=by rw[ok.elf,ok.eL];exact qw4 _ _
 refine(qvX c.W0 c.A c.q sts sa sc nf Z W V i E (by omega) (by omega) f s F n u I _ rfl O (by rw[ok.eL];omega)).mono ?_;rintro e C ⟨D,ac,aa,ab,r,Y,X,rfl,P,Q,k3,S,k5,ad,ae,T,z,U,hF,m⟩;have H:=q0m i hF;have J:C.heap[c.B]?=some (.cells (rwC c R) 192):=by
  refine(hF.block c.B (ltA h.box) (λe=>?_) (λe=>?_) (λe=>?_) (λe=>?_)).trans h.box
  ·exact absurd (qg1 i.states e.symm h.box) (by decide)
  ·have:=i.row;rw[<-e,h.box]at this;injection this with this;injection this with _ this _;exact absurd this (by decide)
  ·exact qaH i.numbers (e▸h.box)
  exact qaH i.moves (e▸h.box)
 refine⟨D,ac,rfl,⟨J,⟨aa,ab,r,Y,X,P,Q,by omega,by omega,?_⟩,⟨kaj h.fr.1 hF.size,λk a b c d e=>(hF.block k (kai a h.fr.1) (λo=>?_) b c d).trans (h.fr.2 k a b c d e)⟩,kc0 h.few⟩,H,S,ad,T,?_⟩
 ·rcases m with m|⟨g,m,w⟩
  ·rw[m];exact l
  exact .inr ⟨g,m,kaj h.fr.1 w⟩
 ·rcases l with l|⟨g,l,w⟩
  ·exact e (o.trans l)
  rw[l]at o;injection o with o;omega
 rw[ok.elf,ok.ers]at z;refine quF (qth ok.ly (λt y s M=>?_) G _ _ z) ok.hn U;obtain⟨j,x,rfl⟩:=kbv M;exact⟨(ok.hk t y j x).1,λv=>qkP y x v⟩
theorem qca.verdict{c:Rc}{R:Rep}(h:qca c R N sts V)(ok:qjx c)(k:StF c sts f p):Calls prog 103 #[.pointer (some ⟨c.A,0,none⟩),.int .i64 f] V λe a=>e=.returned (.tuple #[.int .i64 (lbF c.v.dflt c.v.rs p.reverse).1,.int .i64 (lbF c.v.dflt c.v.rs p.reverse).2])/\Below V.heap.size V a:=by
 obtain⟨u,w,n,m,l,b,o,r,t,_⟩:=h.here;obtain⟨s,d,g⟩:=k;have i:=(b.here f s d).1;rw[<-List.reverse_reverse p]at g;rw[ok.edf,ok.ers,qwi g]at i;refine(qmF c.W0 c.A c.q sts _ n m l V b f s d).mono ?_;rintro e a ⟨rfl,j⟩;rw[i];exact⟨rfl,j⟩

def qnN(c:Rc)(k:Nat)(F:Nat->Prop)(r:Option (DataW Unit)×Rep)(M:Nat)(sts:List ((Nat->Nat)×Int×Int))(V:World)(e:Ending)(V':World):Prop :=
 ∃(v':Value) (sts':List ((Nat->Nat)×Int×Int)),e=.returned (.tuple #[v',.bool r.1.isSome])/\qca c r.2 M sts' V'/\KpR V V'/\Pre sts sts'/\(r.1=none->v'=.nilIface)/\∀d',r.1=some d'->qah k V' (λj=>F j\/(V.heap.size<=j/\j<V'.heap.size)) v' d'
def qxD(c:Rc)(k:Nat):Prop :=
 ∀(V:World) (F:Nat->Prop) (x:Value) (d:DataW Unit) (p:List (List UInt8×Bool)) (f:Nat) (R:Rep) (N:Nat) (sts:List ((Nat->Nat)×Int×Int)),qca c R N sts V->StF c sts f p->(∀j,F j->j<V.heap.size)->qah k V F x d->(qbc k d).length<=999999999->N+ndF k d<=90000 ->
  Calls prog 86 #[.pointer (some ⟨c.B,0,none⟩),x,.int .i64 f] V (qnN c k F (rwF c.v k p d R) (N+ndF k d) sts V)
structure qsj(c:Rc)(k:Nat)(W:World)(F:Nat->Prop)(R:Rep)(N:Nat)(sts:List ((Nat->Nat)×Int×Int))(v:Value)(ds:List (DataW Unit))(V:World):Prop where
 rw:qca c R N sts V
 kp:KpR W V
 own:∃xs,V.ownsRow W.heap.size 47 1 v ds.length xs/\∀(i:Nat) (x:Value) (d:DataW Unit),xs[i]?=some x->ds[i]?=some d->qah k V (λj=>(F j\/(W.heap.size<=j/\j<V.heap.size))/\some j≠v.ownBlock) x d
theorem qpy{t:TypeId}(h:W.ownsRow base t size v n xs)(o:KpR W W')(f:t≠139)(i:t≠189)(j:t≠192):W'.ownsRow base t size v n xs:=by
 obtain⟨b,a⟩:=h;refine⟨b,?_⟩;rcases a with a|⟨g,c,d,e,l,m,k⟩
 ·exact .inl a
 exact .inr ⟨g,c,d,e,l,o.row _ _ _ _ m f i j,k⟩
theorem qsj.step{c:Rc}{R R':Rep}(h:qsj c k W F R N sts v ds V)(l:qca c R' N' sts' V')(a:KpR V V'):qsj c k W F R' N' sts' v ds V':=by
 obtain⟨n,e,f⟩:=h.own;refine⟨l,h.kp.trans a,n,qpy e a (by decide) (by decide) (by decide),λi x d m g=>(f i x d m g).kept (λj b=>⟨b.1.imp id (λh=>⟨h.1,kai h.2 a.size⟩),b.2⟩) a⟩
theorem qvW{c:Rc}{R:Rep}(b:qca c R N sts V)(a:KpR W V):qsj c k W F R N sts (.slice none 0 0) [] V :=
 ⟨b,a,[],kaV _ _ _ _,λi x d e=>by simp at e⟩
theorem qsj.push{c:Rc}{R:Rep}(h:qsj c k W F R N sts v ds V)(K:c.W0.heap.size<=W.heap.size)(hG:c.G.heap.size<=W.heap.size)(hF:∀j,F j->j<W.heap.size)(A:V.ownsRow W.heap.size 47 1 v ds.length xs)(U:∀(i:Nat) (x:Value) (d:DataW Unit),xs[i]?=some x->ds[i]?=some d->qah k V (λj=>(F j\/(W.heap.size<=j/\j<V.heap.size))/\some j≠v.ownBlock) x d)(L:qah k V (λj=>F j\/(V0.heap.size<=j/\j<V.heap.size)) x d)(T:∀g,v.ownBlock=some g->g<V0.heap.size)(ac:W.heap.size<=V0.heap.size)(P:w5.ownsRow W.heap.size 47 1 v' (ds.length+1) (xs++[x]))(l:(V.alloc (.cells #[x] 47)).grownBy w5 v.ownBlock)(q:v'.ownBlock=v.ownBlock\/v'.ownBlock=some (V.alloc (.cells #[x] 47)).heap.size):qsj c k W F R N sts v' (ds++[d]) w5:=by
 have I:=h.kp.size;have ae:V.heap.size+1<=w5.heap.size:=by have:=l.size;simpa using this
 have s:∀g,v.ownBlock=some g->W.heap.size<=g:=λg l=>qbH A l;have w:∀j,j<V.heap.size->some j≠v.ownBlock->w5.heap[j]?=V.heap[j]?:=λj f z=>(l.block j (by simp;omega) z).trans (kae _ _ _ f);have O:∀j,j<W.heap.size->w5.heap[j]?=V.heap[j]?:=λj f=>w j (by omega) (λe=>by have:=s j e.symm;omega);have M:KpR W w5:=⟨by omega,λj cs t J a b c d=>(O j (ltA a)).trans (h.kp.row j cs t J a b c d)⟩
 have S:qca c R N sts w5:=by
  have m:=h.rw.step (bwO (.cells #[x] 47));have Q:=A.alloc (.cells #[x] 47);rcases Q.2 with⟨u,_⟩|⟨g,aa,ab,u,ad,n,_⟩
  ·refine m.step ⟨l.os,l.tape,l.output,l.size,λj f=>l.block j f (by rw[u];simp[Value.ownBlock])⟩
  have C:v.ownBlock=some g:=by rw[u];rfl
  rw[C]at l;obtain⟨sa,sc,nf,mn,mf,Y,Z,k3⟩:=m.here;refine⟨(l.block c.B (ltA m.box) (λe=>?_)).trans m.box,⟨sa,sc,nf,mn,mf,Y.off (B:=g) ?_ l n (by decide) (by decide) (by decide),Z,k3⟩,⟨kaj m.fr.1 l.size,λj a b c d e=>(l.block j (kai a m.fr.1) (λD=>by have:=s g C;injection D with D;omega)).trans (m.fr.2 j a b c d e)⟩,m.few⟩
  ·injection e with e;rw[<-e,m.box]at n;injection n with n;injection n with _ n _;exact absurd n (by decide)
  exact kaj K (s g C)
 refine⟨S,M,xs++[x],by rw[kaa];exact P,λi y c r o=>?_⟩;have E:∀j,j<V.heap.size->some j≠v.ownBlock->some j≠v'.ownBlock:=λj f z=>by
  rcases q with q|q
  ·rw[q];exact z
  rw[q];intro e;injection e with e;simp at e;omega
 have X:xs.length=ds.length:=by have:=A.1;omega
 by_cases hi:i<ds.length
 ·rw[kau (by omega)]at r o;have p:∀j,(F j\/(W.heap.size<=j/\j<V.heap.size))->j<V.heap.size:=λj f=>f.elim (λh=>kai (hF j h) I) (λh=>h.2);exact(U i y c r o).same (λj f=>⟨f.1.imp id (λh=>⟨h.1,by omega⟩),E j (p j f.1) f.2⟩) (λj f=>w j (p j f.1) f.2)
 have e:i=ds.length:=by
  have:=ltL o;rw[kaa]at this;simp at this;omega
 subst e;rw[kas (by omega)]at o;rw[kas (by omega),X]at r;simp at r o;subst r;subst o;have H:∀j,(F j\/(V0.heap.size<=j/\j<V.heap.size))->some j≠v.ownBlock:=λj f e=>by
  have m:=T j e.symm;have h2:=s j e.symm;rcases f with f|f
  ·have:=hF j f;omega
  omega
 have p:∀j,(F j\/(V0.heap.size<=j/\j<V.heap.size))->j<V.heap.size:=λj f=>f.elim (λh=>kai (hF j h) I) (λh=>h.2);exact L.same (λj f=>⟨f.imp id (λh=>⟨by omega,by omega⟩),E j (p j f) (H j f)⟩) (λj f=>w j (p j f) (H j f))
theorem qsj.row{c:Rc}{R:Rep}(h:qsj c k W F R N sts v ds V):qah (k+1) V (λj=>F j\/(W.heap.size<=j/\j<V.heap.size)) (.iface 120 v) (.agg ds):=by
 obtain⟨t,a,m⟩:=h.own;unfold qah;refine⟨v,t,rfl,⟨a.1,?_⟩,λi x d s q=>(m i x d s q).same (λj r=>r.1) (λ_ _=>rfl)⟩;rcases a.2 with n|⟨g,f,l,e,p,b,o⟩
 ·exact .inl n
 exact .inr ⟨g,f,l,e,.inr ⟨p,(ltA b)⟩,b,o⟩

def qnd(c:Rc)(k:Nat)(F:Nat->Prop)(t:TypeId)(r:DataW Unit×Rep)(M:Nat)(sts:List ((Nat->Nat)×Int×Int))(V:World)(e:Ending)(V':World):Prop :=
 ∃(a:Option Addr) (n m:Nat) (sts':List ((Nat->Nat)×Int×Int)),e=.returned (.slice a n m)/\qca c r.2 M sts' V'/\KpR V V'/\Pre sts sts'/\qah k V' (λj=>F j\/(V.heap.size<=j/\j<V'.heap.size)) (.iface t (.slice a n m)) r.1
theorem qsF{c:Rc}{R:Rep}(h:qca c R N sts V)(ok:qjx c):V.cell? ⟨c.B,39,none⟩=some (.pointer (some ⟨c.A,0,none⟩)):=by
 refine(qaa h.box 39).trans ?_;unfold rwC;rw[kb6 (by rw[ok.ord.size];omega),ok.ord.size];rfl
theorem qt9(f:DataW Unit->Rep->Option (DataW Unit)×Rep)(l:List (DataW Unit))(d:DataW Unit)(R:Rep){R1:Rep}(h:rwL f l R=(ds,R1)):rwL f (l++[d]) R=(ds++(f d R1).1.toList,(f d R1).2):=by
 unfold rwL at h ⊢;rw[kcG,h];rfl
theorem qqH{α:Type}(g:α->Nat):∀l:List α,l.length<=(l.map λd=>1+g d).sum
 |[]=>kaY _
 |a::l=>by
  have:=qqH g l;simp only[kaH,kbJ,kah];omega
theorem qnD{α:Type}(g:α->List UInt8){l:List α}{i:Nat}{d:α}(h:l[i]?=some d):(g d).length<=(l.flatMap g).length:=by
 obtain⟨b,rfl⟩:=kbw.1 h;have a:l.flatMap g=(l.take i).flatMap g++(g l[i]++(l.drop (i+1)).flatMap g):=by
  conv=>lhs;rw[<-kbu i l,kbP,ka6 b,kaZ]
 rw[a];simp only[kaa];omega
theorem qkz(c:Rc)(ok:qjx c)(k:Nat)(ih:qxD c k)(W:World)(F:Nat->Prop)(u:Value)(b:List (DataW Unit))(I:List Value)(p:List (List UInt8×Bool))(f:Nat)(R:Rep)(N:Nat)(V:List ((Nat->Nat)×Int×Int))(h:qca c R N V W)(hf:StF c V f p)(hF:∀j,F j->j<W.heap.size)(O:qbE W 47 1 F u b.length I)(U:∀(i:Nat) (x:Value) (d:DataW Unit),I[i]?=some x->b[i]?=some d->qah k W F x d)(hc:(b.flatMap (qbc k)).length<=999999999)(hN:N+1+(b.map λd=>1+ndF k d).sum<=90000):Calls prog 119 #[.pointer (some ⟨c.B,0,none⟩),u,.int .i64 f] W (qnd c (k+1) F 120 (.agg (rwL (rwF c.v k (([],true)::p)) b R).1,(rwL (rwF c.v k (([],true)::p)) b R).2) (N+1+(b.map λd=>1+ndF k d).sum) V W):=by
 obtain⟨i0,hi,bf,bg,bh⟩:=kaF Tryz.infoThing;obtain⟨ai,af,rfl⟩:∃ai af,u=.slice ai b.length af:=by
  rcases O.2 with⟨e,e2⟩|⟨g,af,a5,e,_⟩
  ·exact⟨none,0,by rw[e,e2]⟩
  exact⟨_,_,e⟩
 obtain⟨rr,ao⟩:∃rr,Hid (rwL (rwF c.v k (([],true)::p)) b R=rr):=⟨_,rfl⟩
 rw[ao.out];have bl:=qab ok;have ax:=qab ih;have HW:=qab h.below.size;have HG:=qab h.fr.1;have HU:=qab O;have HX:=qab U;have HC:=qab hc;have HF:=qab hF;obtain⟨K,z⟩:∃K,Hid (N+1+(b.map λd=>1+ndF k d).sum=K):=⟨_,rfl⟩
 have bq:b.length<=90000:=by have:=qqH (ndF k) b;omega
 have HN:=qab (z.out▸hN);rw[z.out];have bm:=qsF h ok;have cN:=h.next ok (by omega) hf [] true (by simp[maxLen])
 go_enter func119,ntmps119
 go_wp2_with(first
  |(go_at_call 135;refine cN.mono ?_;rintro e w2 ⟨S,bj,rfl,a9,a7,a8,a6⟩;have a1:=qab a9;have ay:=qab a7;have a0:=qab a8;have aw:=qab a6))
 go_loopg[7,23] b.length (λg y bk wr=>∃(i:Nat) (a:Option Addr) (l H:Nat) (C:Rep) (A:Nat) (w:List ((Nat->Nat)×Int×Int)) (n:List (DataW Unit)),y=.slice a l H/\bk=.int .i64 i/\Hid (i+g=b.length)/\Hid (StF c w S (([],true)::p))/\Hid (Pre V w)/\Hid (qsj c k W F C A w (.slice a l H) n wr)/\Hid (rwL (rwF c.v k (([],true)::p)) (b.take i) R=(n,C))/\Hid (A+((b.drop i).map λd=>1+ndF k d).sum<=K)/\Hid (n.length<=i))
 case atStart=>exact⟨0,none,0,0,R,N+1,bj,[],rfl,rfl,by show _=_;omega,aw,a0,qvW a1.out ay.out,rfl,kek z.out,kaf _⟩
 case round =>
  obtain⟨i,a,l,H,C,A,w,n,rfl,rfl,M,ab,q,m,an,am,ak⟩:=hrel
  cases gk with
  |zero =>
   have bb:¬(i:Int)<b.length:=by have:=M.out;omega
   have HT:Hid (b.take i=b):=by show _=_;exact kaU (by have:=M.out;omega)
   go_wp2;go_ret;have r:=an.out;rw[HT.out,ao.out]at r;rw[r];exact⟨a,l,H,w,rfl,m.out.rw.more (by have:=am.out;omega),m.out.kp,q.out,m.out.row⟩
  |succ g =>
   have ag:i<b.length:=by have:=M.out;omega
   have bb:(i:Int)<b.length:=by omega
   have HR:=HU.out.kept (V':=wr) (G:=F) (λ_ h=>h) m.out.kp (by decide) (by decide) (by decide);obtain⟨q0,rfl⟩:∃q0,ai=some ⟨q0,0,none⟩:=by
    rcases HR.2 with⟨_,e⟩|⟨g,bn,a5,e,_⟩
    ·omega
    injection e with e1 e2 e3;exact⟨g,e1⟩
   have bs:I.length=b.length:=by have:=HR.1;omega
   obtain⟨x,U⟩:∃x,I[i]?=some x:=⟨I[i],kab (by omega)⟩
   obtain⟨d,T⟩:∃d,b[i]?=some d:=⟨b[i],kab ag⟩
   have aq:=(HX.out i x d U T).kept (V':=wr) (G:=F) (λ_ h=>h) m.out.kp;obtain⟨X,Y,rfl⟩:=aq.iface;have hc:wr.cell? ⟨q0,i,none⟩=some (.iface X Y):=by
    have:=HR.cell i _ U;have e:(⟨q0,0,none⟩:Addr).add i=⟨q0,i,none⟩:=by by_cases h:i=0<;>simp[Addr.add,h]
    rwa[e]at this
   have br:A+(1+ndF k d)+((b.drop (i+1)).map λd=>1+ndF k d).sum<=K:=by
    have r:=am.out;have L:b[i]=d:=by have:=kab ag;rw[T]at this;exact(kaE this).symm
    rw[ka6 ag,kaH,kbJ,L]at r;omega
   have P:=ax.out wr F (.iface X Y) d (([],true)::p) S C A w m.out.rw ab.out (λj hj=>kai (HF.out j hj) m.out.kp.size) aq (by have:=HC.out;have:=qnD (qbc k) T;omega) (by have:=HN.out;omega);have ah:rwL (rwF c.v k (([],true)::p)) (b.take (i+1)) R=(n++(rwF c.v k (([],true)::p) d C).1.toList,(rwF c.v k (([],true)::p) d C).2):=by
    rw[kb7,T];exact qt9 _ _ _ _ an.out
   have o:Hid ((A+ndF k d)+((b.drop (i+1)).map λd=>1+ndF k d).sum<=K):=by show _<=_;omega
   obtain⟨D,al⟩:∃D,Hid (A+ndF k d=D):=⟨_,rfl⟩
   rw[al.out]at P;rw[al.out]at o;have bp:n.length<=90000:=by have:=ak.out;omega
   have ap:Hid (n.length+1<=i+1):=by show _<=_;have:=ak.out;omega
   have a2:=qab m.out.kp.size;have az:Hid (∀g,(Value.slice a l H).ownBlock=some g->g<wr.heap.size):=by obtain⟨I,r,_⟩:=m.out.own;exact qiv r
   rcases hq:rwF c.v k (([],true)::p) d C with⟨bi,E⟩
   rw[hq]at P ah
   cases bi with
   |none =>
    have ac:Hid (rwL (rwF c.v k (([],true)::p)) (b.take (i+1)) R=(n,E)):=by show _=_;rw[ah];simp
    have ae:Calls prog 86 #[.pointer (some ⟨c.B,0,none⟩),.iface X Y,.int .i64 S] wr λe V'=>∃s,e=.returned (.tuple #[.nilIface,.bool false])/\Hid (qca c E D s V')/\Hid (KpR wr V')/\Hid (Pre w s):=P.mono (by
     rintro e V' ⟨v',s,rfl,r,L,h3,h4,_⟩;obtain rfl:=h4 rfl;exact⟨s,rfl,r,L,h3⟩)
    go_wp2_with(first
     |(go_at_call 86;refine ae.mono ?_;rintro e w4 ⟨aj,rfl,aa,Z,J⟩))
    go_roundg g
    case measure=>omega
    case rel=>exact⟨i+1,a,l,H,E,D,aj,n,rfl,by go_num,by show _=_;have:=M.out;omega,ab.out.pre J.out,q.out.trans J.out,m.out.step aa.out Z.out,ac,o,by show _<=_;have:=ap.out;omega⟩
   |some Q =>
    have ac:Hid (rwL (rwF c.v k (([],true)::p)) (b.take (i+1)) R=(n++[Q],E)):=by show _=_;rw[ah];rfl
    have ae:Calls prog 86 #[.pointer (some ⟨c.B,0,none⟩),.iface X Y,.int .i64 S] wr λe V'=>∃t y s,e=.returned (.tuple #[.iface t y,.bool true])/\Hid (qca c E D s V')/\Hid (KpR wr V')/\Hid (Pre w s)/\Hid (qah k V' (λj=>F j\/(wr.heap.size<=j/\j<V'.heap.size)) (.iface t y) Q):=P.mono (by
     rintro e V' ⟨v',s,rfl,r,L,h3,_,h4⟩;have h5:=h4 Q rfl;obtain⟨t,y,rfl⟩:=h5.iface;exact⟨t,y,s,rfl,r,L,h3,h5⟩)
    go_wp2_with(first
     |(go_at_call 86;refine ae.mono ?_;rintro e w4 ⟨t,y,aj,rfl,aa,Z,J,av⟩;have ad:=qab (m.out.step aa.out Z.out);obtain⟨bt,bc,be⟩:=ad.out.own;have HO:=qab bc;have a4:=qab be;have au:=qab ad.out.kp.size)
     |(at_builtin;refine qbg _ rfl _ _ 120 rfl W.heap.size 47 i0 .nilIface 1 16 underlying120 hi bf bg bh rfl (by decide) _ _ _ rfl (HO.out.alloc _) ⟨w4.heap.size,0,none⟩ 1 1 [.iface t y] rfl rfl (qag _ _ _) (λu O=>by simp at O;subst O;rfl) (by decide) (by unfold maxLen;omega) (by omega) (by simp;have:=au.out;omega) ?_;intro v' w5 ar ba bd;have a3:=qab (ad.out.push HW.out HG.out HF.out HO.out a4.out av.out az.out a2.out ar ba bd);obtain⟨g5,bo,rfl⟩:=ownsRow_succ ar))
    go_roundg g
    case measure=>omega
    case rel=>exact⟨i+1,_,_,_,E,D,aj,n++[Q],rfl,by go_num,by show _=_;have:=M.out;omega,ab.out.pre J.out,q.out.trans J.out,a3,ac,o,by show _<=_;rw[kaa];exact ap.out⟩

theorem qc7.kept(h:qc7 k V F xs es)(f:∀k,F k->G k)(j:KpR V V'):qc7 k V' G xs es:=λi m d g=>by
 obtain⟨l,x,a,b,c,e⟩:=h i m d g;exact⟨l,x,a,b,c,e.kept f j⟩
structure qrk(c:Rc)(k:Nat)(W:World)(F:Nat->Prop)(R:Rep)(N:Nat)(sts:List ((Nat->Nat)×Int×Int))(v:Value)(es:List (Lit×DataW Unit))(V:World):Prop where
 rw:qca c R N sts V
 kp:KpR W V
 own:∃xs,V.ownsRow W.heap.size 124 2 v es.length xs/\qc7 k V (λj=>(F j\/(W.heap.size<=j/\j<V.heap.size))/\some j≠v.ownBlock) xs es
theorem qrk.step{c:Rc}{R R':Rep}(h:qrk c k W F R N sts v es V)(f:qca c R' N' sts' V')(a:KpR V V'):qrk c k W F R' N' sts' v es V':=by
 obtain⟨g,d,e⟩:=h.own;exact⟨f,h.kp.trans a,g,qpy d a (by decide) (by decide) (by decide),e.kept (λj b=>⟨b.1.imp id (λh=>⟨h.1,kai h.2 a.size⟩),b.2⟩) a⟩
theorem qx0{c:Rc}{R:Rep}(b:qca c R N sts V)(a:KpR W V):qrk c k W F R N sts (.slice none 0 0) [] V :=
 ⟨b,a,[],kaV _ _ _ _,λi x d e=>by simp at e⟩
theorem qrk.push{c:Rc}{R:Rep}{l:List UInt8}(h:qrk c k W F R N sts v es V)(O:c.W0.heap.size<=W.heap.size)(hG:c.G.heap.size<=W.heap.size)(hF:∀j,F j->j<W.heap.size)(C:V.ownsRow W.heap.size 124 2 v es.length xs)(hx:qc7 k V (λj=>(F j\/(W.heap.size<=j/\j<V.heap.size))/\some j≠v.ownBlock) xs es)(P:qah k V (λj=>F j\/(V0.heap.size<=j/\j<V.heap.size)) x d)(Z:∀g,v.ownBlock=some g->g<V0.heap.size)(ac:W.heap.size<=V0.heap.size)(U:w5.ownsRow W.heap.size 124 2 v' (es.length+1) (xs++[.string ⟨l.toArray⟩,x]))(m:(V.alloc (.cells #[.string ⟨l.toArray⟩,x] 124)).grownBy w5 v.ownBlock)(r:v'.ownBlock=v.ownBlock\/v'.ownBlock=some (V.alloc (.cells #[.string ⟨l.toArray⟩,x] 124)).heap.size):qrk c k W F R N sts v' (es++[(.string l,d)]) w5:=by
 have I:=h.kp.size;have ae:V.heap.size+1<=w5.heap.size:=by have:=m.size;simpa using this
 have u:∀g,v.ownBlock=some g->W.heap.size<=g:=λg m=>qbH C m;have z:∀j,j<V.heap.size->some j≠v.ownBlock->w5.heap[j]?=V.heap[j]?:=λj f A=>(m.block j (by simp;omega) A).trans (kae _ _ _ f);have T:∀j,j<W.heap.size->w5.heap[j]?=V.heap[j]?:=λj f=>z j (by omega) (λe=>by have:=u j e.symm;omega);have S:KpR W w5:=⟨by omega,λj cs t M a b c d=>(T j (ltA a)).trans (h.kp.row j cs t M a b c d)⟩
 have Y:qca c R N sts w5:=by
  have n:=h.rw.step (bwO (.cells #[.string ⟨l.toArray⟩,x] 124));have X:=C.alloc (.cells #[.string ⟨l.toArray⟩,x] 124);rcases X.2 with⟨w,_⟩|⟨g,aa,ab,w,ad,o,_⟩
  ·refine n.step ⟨m.os,m.tape,m.output,m.size,λj f=>m.block j f (by rw[w];simp[Value.ownBlock])⟩
  have D:v.ownBlock=some g:=by rw[w];rfl
  rw[D]at m;obtain⟨sa,sc,nf,mn,mf,k1,k2,k3⟩:=n.here;refine⟨(m.block c.B (ltA n.box) (λe=>?_)).trans n.box,⟨sa,sc,nf,mn,mf,k1.off (B:=g) ?_ m o (by decide) (by decide) (by decide),k2,k3⟩,⟨kaj n.fr.1 m.size,λj a b c d e=>(m.block j (kai a n.fr.1) (λs=>by have:=u g D;injection s with s;omega)).trans (n.fr.2 j a b c d e)⟩,n.few⟩
  ·injection e with e;rw[<-e,n.box]at o;injection o with o;injection o with _ o _;exact absurd o (by decide)
  exact kaj O (u g D)
 refine⟨Y,S,_,by rw[kaa];exact U,λi y c p=>?_⟩;have E:∀j,j<V.heap.size->some j≠v.ownBlock->some j≠v'.ownBlock:=λj f A=>by
  rcases r with r|r
  ·rw[r];exact A
  rw[r];intro e;injection e with e;simp at e;omega
 have af:=C.1;by_cases Q:i<es.length
 ·rw[kau Q]at p;obtain⟨l',x',J,s,K,L⟩:=hx i y c p;refine⟨l',x',J,by rw[kau (by omega)];exact s,by rw[kau (by omega)];exact K,?_⟩;have q:∀j,(F j\/(W.heap.size<=j/\j<V.heap.size))->j<V.heap.size:=λj f=>f.elim (λh=>kai (hF j h) I) (λh=>h.2);exact L.same (λj f=>⟨f.1.imp id (λh=>⟨h.1,by omega⟩),E j (q j f.1) f.2⟩) (λj f=>z j (q j f.1) f.2)
 have e:i=es.length:=by
  have:=ltL p;rw[kaa]at this;simp at this;omega
 subst e;rw[kas (by omega)]at p;simp at p;obtain⟨rfl,rfl⟩:=p;have H:∀j,(F j\/(V0.heap.size<=j/\j<V.heap.size))->some j≠v.ownBlock:=λj f e=>by
  have n:=Z j e.symm;have h2:=u j e.symm;rcases f with f|f
  ·have:=hF j f;omega
  omega
 have q:∀j,(F j\/(V0.heap.size<=j/\j<V.heap.size))->j<V.heap.size:=λj f=>f.elim (λh=>kai (hF j h) I) (λh=>h.2);refine⟨l,x,rfl,?_,?_,P.same (λj f=>⟨f.imp id (λh=>⟨by omega,by omega⟩),E j (q j f) (H j f)⟩) (λj f=>z j (q j f) (H j f))⟩
 ·rw[kas (by omega),show 2*es.length-xs.length=0 by omega];rfl
 rw[kas (by omega),show 2*es.length+1-xs.length=1 by omega];rfl
theorem qrk.row{c:Rc}{R:Rep}(h:qrk c k W F R N sts v es V):qah (k+1) V (λj=>F j\/(W.heap.size<=j/\j<V.heap.size)) (.iface 122 v) (.map es):=by
 obtain⟨p,a,i⟩:=h.own;unfold qah;refine⟨v,p,rfl,⟨a.1,?_⟩,i.same (λj o=>o.1) (λ_ _=>rfl)⟩;rcases a.2 with l|⟨g,d,f,e,n,b,m⟩
 ·exact .inl l
 exact .inr ⟨g,d,f,e,.inr ⟨n,(ltA b)⟩,b,m⟩
theorem qtH(f:List UInt8->DataW Unit->Rep->Option (DataW Unit)×Rep)(l:List (Lit×DataW Unit))(e:Lit×DataW Unit)(R:Rep){R1:Rep}(h:rwE f l R=(es,R1)):rwE f (l++[e]) R=(es++((f (qaN e.1) e.2 R1).1.map λd=>(e.1,d)).toList,(f (qaN e.1) e.2 R1).2):=by
 unfold rwE at h ⊢;rw[kcG,h];rfl
theorem qnI{α:Type}(g:α->Nat):∀l:List α,l.length<=(l.map λd=>2+g d).sum
 |[]=>kaY _
 |a::l=>by
  have:=qnI g l;simp only[kaH,kbJ,kah];omega
theorem qm8(c:Rc)(ok:qjx c)(k:Nat)(ih:qxD c k)(W:World)(F:Nat->Prop)(u:Value)(b:List (Lit×DataW Unit))(xs:List Value)(p:List (List UInt8×Bool))(f:Nat)(R:Rep)(N:Nat)(q:List ((Nat->Nat)×Int×Int))(h:qca c R N q W)(hf:StF c q f p)(hF:∀j,F j->j<W.heap.size)(o:qbE W 124 2 F u b.length xs)(hx:qc7 k W F xs b)(hc:(b.flatMap λe=>(qaj 3 (qaN e.1).length++qaN e.1)++qbc k e.2).length<=999999999)(hN:N+(b.map λe=>2+ndF k e.2).sum<=90000):Calls prog 120 #[.pointer (some ⟨c.B,0,none⟩),u,.int .i64 f] W (qnd c (k+1) F 122 (.map (rwE (λn=>rwF c.v k ((n,false)::p)) b R).1,(rwE (λn=>rwF c.v k ((n,false)::p)) b R).2) (N+(b.map λe=>2+ndF k e.2).sum) q W):=by
 obtain⟨i0,hi,b5,b6,b7⟩:=kaF Tryz.infoEntry;obtain⟨au,ap,rfl⟩:∃au ap,u=.slice au b.length ap:=by
  rcases o.2 with⟨e,e2⟩|⟨g,ap,bm,e,_⟩
  ·exact⟨none,0,by rw[e,e2]⟩
  exact⟨_,_,e⟩
 obtain⟨rr,a0⟩:∃rr,Hid (rwE (λn=>rwF c.v k ((n,false)::p)) b R=rr):=⟨_,rfl⟩
 rw[a0.out];have ai:=qab ok;have be:=qab ih;have HW:=qab h.below.size;have HG:=qab h.fr.1;have HU:=qab o;have HX:=qab hx;have HC:=qab hc;have HF:=qab hF;obtain⟨x,ah⟩:∃x,Hid (N+(b.map λe=>2+ndF k e.2).sum=x):=⟨_,rfl⟩
 have ch:b.length<=90000:=by have:=qnI (λe:Lit×DataW Unit=>ndF k e.2) b;omega
 have HN:=qab (ah.out▸hN);rw[ah.out];have bh:=qab h;have bc:=qab hf;go_enter func120,ntmps120
 go_wp2_with fail
 go_loopg[7,15] b.length (λg y b8 wr=>∃(i:Nat) (a:Option Addr) (l P:Nat) (I:Rep) (E:Nat) (aa:List ((Nat->Nat)×Int×Int)) (s:List (Lit×DataW Unit)),y=.slice a l P/\b8=.int .i64 i/\Hid (i+g=b.length)/\Hid (StF c aa f p)/\Hid (Pre q aa)/\Hid (qrk c k W F I E aa (.slice a l P) s wr)/\Hid (rwE (λn=>rwF c.v k ((n,false)::p)) (b.take i) R=(s,I))/\Hid (E+((b.drop i).map λe=>2+ndF k e.2).sum<=x)/\Hid (s.length<=i))
 case atStart=>exact⟨0,none,0,0,R,N,q,[],rfl,rfl,by show _=_;omega,bc,Pre.refl _,qx0 bh.out (KpR.refl _),rfl,kek ah.out,kaf _⟩
 case round =>
  obtain⟨i,a,l,P,I,E,aa,s,rfl,rfl,z,al,aj,M,az,ay,aw⟩:=hrel
  cases gk with
  |zero =>
   have bx:¬(i:Int)<b.length:=by have:=z.out;omega
   have HT:Hid (b.take i=b):=by show _=_;exact kaU (by have:=z.out;omega)
   go_wp2;go_ret;have r:=az.out;rw[HT.out,a0.out]at r;rw[r];exact⟨a,l,P,aa,rfl,M.out.rw.more (by have:=ay.out;omega),M.out.kp,aj.out,M.out.row⟩
  |succ g =>
   have aq:i<b.length:=by have:=z.out;omega
   have bx:(i:Int)<b.length:=by omega
   have HR:=HU.out.kept (V':=wr) (G:=F) (λ_ h=>h) M.out.kp (by decide) (by decide) (by decide);obtain⟨q0,rfl⟩:∃q0,au=some ⟨q0,0,none⟩:=by
    rcases HR.2 with⟨_,e⟩|⟨g,ca,bm,e,_⟩
    ·omega
    injection e with e1 e2 e3;exact⟨g,e1⟩
   obtain⟨⟨n,d⟩,hd⟩:∃d,b[i]?=some d:=⟨b[i],kab aq⟩
   obtain⟨m,cj,rfl,b2,b3,a5⟩:=HX.out i n d hd;have bs:=a5.kept (V':=wr) (G:=F) (λ_ h=>h) M.out.kp;obtain⟨C,D,rfl⟩:=bs.iface;have cd:wr.cell? ⟨q0,i*2,none⟩=some (.string ⟨m.toArray⟩):=by
    have:=HR.cell (2*i) _ b2;have e:(⟨q0,0,none⟩:Addr).add (2*i)=⟨q0,i*2,none⟩:=by by_cases h:2*i=0<;>simp only[Addr.add,h,kaL,kb9 i 2,ker,kep]
    rwa[e]at this
   have ce:wr.cell? ⟨q0,i*2+1,none⟩=some (.iface C D):=by
    have:=HR.cell (2*i+1) _ b3;have e:(⟨q0,0,none⟩:Addr).add (2*i+1)=⟨q0,i*2+1,none⟩:=by simp[Addr.add,kb9]
    rwa[e]at this
   have ci:E+(2+ndF k d)+((b.drop (i+1)).map λe=>2+ndF k e.2).sum<=x:=by
    have r:=ay.out;have Q:b[i]=(Lit.string m,d):=by have:=kab aq;rw[hd]at this;exact(kaE this).symm
    rw[ka6 aq,kaH,kbJ,Q]at r;simp only at r;omega
   have bu:(qbc k d).length<=999999999/\m.length<=999999999:=by
    have r:=HC.out;have Q:((qaj 3 m.length++m)++qbc k d).length<=_:=qnD (λe:Lit×DataW Unit=>(qaj 3 (qaN e.1).length++qaN e.1)++qbc k e.2) hd;rw[kaa,kaa]at Q;omega
   have av:Hid (Below wr.heap.size wr (wr.alloc (.cells #[.string ⟨m.toArray⟩,.iface C D] 124))):=bwA;have ao:Hid ((wr.alloc (.cells #[.string ⟨m.toArray⟩,.iface C D] 124)).heap[wr.heap.size]?=some (.cells #[.string ⟨m.toArray⟩,.iface C D] 124)):=qac _ _;have T:=qab (M.out.step (M.out.rw.step av.out) (KpR.of_below av.out));have T:=qab (T.out.step (T.out.rw.step (kam _ _).drew) (KpR.of_below (kam _ _).drew));have ao:Hid ((World.drew (wr.alloc (.cells #[.string ⟨m.toArray⟩,.iface C D] 124))).heap[wr.heap.size]?=some (.cells #[.string ⟨m.toArray⟩,.iface C D] 124)):=qac _ _;have H:(λZ:World=>Z.cell? ⟨c.B,39,none⟩=some (.pointer (some ⟨c.A,0,none⟩))/\Z.cell? ⟨wr.heap.size,0,none⟩=some (.string ⟨m.toArray⟩)) { (wr.alloc (.cells #[.string ⟨m.toArray⟩,.iface C D] 124))with drawn:=(wr.alloc (.cells #[.string ⟨m.toArray⟩,.iface C D] 124)).drawn+1}:=⟨qsF T.out.rw ai.out,qaa ao.out 0⟩
   have cN:=T.out.rw.next ai.out (by have:=HN.out;omega) al.out m false (by unfold maxLen;omega)
   have bt:=qab a5;have a9:=qab bu.1;have ar:rwE (λn=>rwF c.v k ((n,false)::p)) (b.take (i+1)) R=(s++((rwF c.v k ((m,false)::p) d I).1.map λd=>(Lit.string m,d)).toList,(rwF c.v k ((m,false)::p) d I).2):=by
    rw[kb7,hd];exact qtH _ _ _ _ az.out
   have ag:Hid ((E+1+ndF k d)+((b.drop (i+1)).map λe=>2+ndF k e.2).sum<=x):=by show _<=_;omega
   have bf:Hid (E+1+ndF k d<=90000):=by show _<=_;have:=HN.out;omega
   have cg:s.length<=90000:=by have:=aw.out;omega
   have a1:Hid (s.length+1<=i+1):=by show _<=_;have:=aw.out;omega
   rcases hq:rwF c.v k ((m,false)::p) d I with⟨a7,O⟩
   rw[hq]at ar;have ax:Hid (∀K J L,qrk c k W F I (E+1) L (.slice a l P) s K->StF c L J ((m,false)::p)->Calls prog 86 #[.pointer (some ⟨c.B,0,none⟩),.iface C D,.int .i64 (J:Nat)] K (qnN c k F (a7,O) (E+1+ndF k d) L K)):=λK J L r Q=>hq▸be.out K F (.iface C D) d ((m,false)::p) J I (E+1) L r.rw Q (λj hj=>kai (HF.out j hj) r.kp.size) (bt.out.kept (λ_ h=>h) r.kp) a9.out bf.out;obtain⟨U,bb⟩:∃U,Hid (E+1+ndF k d=U):=⟨_,rfl⟩
   rw[bb.out]at ax ag
   go_wp2_with fail
   refine kaM (S:=λZ=>Z.cell? ⟨c.B,39,none⟩=some (.pointer (some ⟨c.A,0,none⟩))/\Z.cell? ⟨wr.heap.size,0,none⟩=some (.string ⟨m.toArray⟩)) (by kernel_rfl) ?_;refine tkH 0 19 (.pointer (some ⟨c.B,0,none⟩)) rfl (by kernel_rfl) (λ_ _ _ h=>h) (λZ w=>by kernel_rfl) H ?_;refine tkH 1 20 (.pointer (some ⟨c.B,0,none⟩)) rfl (by kernel_rfl) (λ_ _ _ h=>h) (λZ w=>by kernel_rfl) H ?_;refine tkH 2 21 (.pointer (some ⟨c.B,0,none⟩)) rfl (by kernel_rfl) (λ_ _ _ h=>h) (λZ w=>by kernel_rfl) H ?_;refine tkH 3 22 (.pointer (some ⟨c.B,39,none⟩)) rfl (by kernel_rfl) (λ_ _ _ h=>h) (λZ w=>by kernel_rfl) H ?_;refine tkH 4 23 (.pointer (some ⟨c.A,0,none⟩)) rfl (by kernel_rfl) (λ_ _ _ h=>h) (λZ w=>?y4) H ?_
   case y4=>(have z1:=w.1;go_simp)
   refine tkH 5 24 (.int .i64 f) rfl (by kernel_rfl) (λ_ _ _ h=>h) (λZ w=>by kernel_rfl) H ?_;refine tkH 6 25 (.pointer (some ⟨wr.heap.size,0,none⟩)) rfl (by kernel_rfl) (λ_ _ _ h=>h) (λZ w=>by kernel_rfl) H ?_;refine tkH 7 26 (.string ⟨m.toArray⟩) rfl (by kernel_rfl) (λ_ _ _ h=>h) (λZ w=>?y7) H ?_
   case y7=>(have z1:=w.2;go_simp)
   refine tkH 8 27 (.agg #[.string ⟨m.toArray⟩,.bool false]) rfl (by kernel_rfl) (λ_ _ _ h=>h) (λZ w=>by kernel_rfl) H ?_;refine rdS 9 rfl (by kernel_rfl) (λb9 hK=>?_);go_simp;refine cN.mono ?_;rintro e V ⟨J,L,rfl,a3,a2,bp,bn⟩;have Y:=qab (T.out.step a3 a2);have ad:=qab (a2.row _ _ _ _ ao.out (by decide) (by decide) (by decide));have ac:=qab bp;have bd:=qab bn;have a4:(λZ:World=>Z.cell? ⟨c.B,39,none⟩=some (.pointer (some ⟨c.A,0,none⟩))/\Z.cell? ⟨wr.heap.size,0,none⟩=some (.string ⟨m.toArray⟩)) V:=⟨qsF a3 ai.out,qaa ad.out 0⟩
   simp only[];refine hK.out _ _ a4 (λ_=>?_);refine tkH 10 10 (.int .i64 J) rfl (by kernel_rfl) (λ_ _ _ h=>h) (λZ w=>by kernel_rfl) a4 ?_;refine kcF (by kernel_rfl) ?_ _;go_simp;have cR:=ax.out V J L Y.out bd.out;have bv:=qaa ad.out 0;have cf:=qaa ad.out 1;have bi:=qab Y.out.kp.size;have bg:Hid (∀g,(Value.slice a l P).ownBlock=some g->g<V.heap.size):=by obtain⟨xs,r,_⟩:=Y.out.own;exact qiv r
   cases a7 with
   |none =>
    have am:Hid (rwE (λn=>rwF c.v k ((n,false)::p)) (b.take (i+1)) R=(s,O)):=by show _=_;rw[ar];simp
    go_wp2_with(first
     |(go_at_call 86;refine cR.mono ?_;rintro e w5 ⟨v5,af,rfl,br,bo,bq,b0,_⟩;obtain rfl:=b0 rfl;have ak:Hid (qca c O U af w5):=br;have ab:=qab bo;have X:=qab bq;simp only[kdh]))
    go_roundg g
    case measure=>omega
    case rel=>exact⟨i+1,a,l,P,O,U,af,s,rfl,by go_num,by show _=_;have:=z.out;omega,(al.out.pre ac.out).pre X.out,(aj.out.trans ac.out).trans X.out,Y.out.step ak.out ab.out,am,ag,by show _<=_;have:=a1.out;omega⟩
   |some d' =>
    have am:Hid (rwE (λn=>rwF c.v k ((n,false)::p)) (b.take (i+1)) R=(s++[(Lit.string m,d')],O)):=by show _=_;rw[ar];rfl
    have bl:Calls prog 86 #[.pointer (some ⟨c.B,0,none⟩),.iface C D,.int .i64 J] V λe V'=>∃t y ae,e=.returned (.tuple #[.iface t y,.bool true])/\Hid (qca c O U ae V')/\Hid (KpR V V')/\Hid (Pre L ae)/\Hid (qah k V' (λj=>F j\/(V.heap.size<=j/\j<V'.heap.size)) (.iface t y) d'):=cR.mono (by
     rintro e V' ⟨v',ae,rfl,r,Q,h3,_,h4⟩;have h5:=h4 d' rfl;obtain⟨t,y,rfl⟩:=h5.iface;exact⟨t,y,ae,rfl,r,Q,h3,h5⟩)
    go_wp2_with(first
     |(go_at_call 86;refine bl.mono ?_;rintro e w5 ⟨t,y,af,rfl,ak,ab,X,ba⟩;have an:=qab (Y.out.step ak.out ab.out);have bv:=qaa (ab.out.row _ _ _ _ ad.out (by decide) (by decide) (by decide)) 0;obtain⟨ck,bz,b4⟩:=an.out.own;have HO:=qab bz;have bk:=qab b4;have a8:=qab an.out.kp.size)
     |(at_builtin;refine qbg _ rfl _ _ 122 rfl W.heap.size 124 i0 (.agg #[.string ByteArray.empty,.nilIface]) 2 32 underlying122 hi b5 b6 b7 rfl (by decide) _ _ _ rfl (HO.out.alloc _) ⟨w5.heap.size,0,none⟩ 1 1 [.string ⟨m.toArray⟩,.iface t y] rfl rfl (qag _ _ _) (λu o=>by simp at o;rcases o with rfl|rfl<;>rfl) (by decide) (by unfold maxLen;omega) (by omega) (by simp;have:=a8.out;omega) ?_;intro v' w6 a6 bw b1;have bj:=qab (an.out.push HW.out HG.out HF.out HO.out bk.out ba.out bg.out bi.out a6 bw b1);obtain⟨g6,cb,rfl⟩:=ownsRow_succ a6))
    go_roundg g
    case measure=>omega
    case rel=>exact⟨i+1,_,_,_,O,U,af,s++[(Lit.string m,d')],rfl,by go_num,by show _=_;have:=z.out;omega,(al.out.pre ac.out).pre X.out,(aj.out.trans ac.out).trans X.out,bj,am,ag,by show _<=_;rw[kaa];exact a1.out⟩

end
end Go.Proofs.YtmajcjammmjimaaGreatDoor
