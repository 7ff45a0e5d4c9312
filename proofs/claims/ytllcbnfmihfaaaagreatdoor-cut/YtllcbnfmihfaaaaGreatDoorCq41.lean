import Derived.Test.YtllcbnfmihfaaaaGreatDoorCq28
import Derived.Test.YtllcbnfmihfaaaaGreatDoorCq39
import Derived.Test.YtllcbnfmihfaaaaGreatDoorCq40
import Derived.Test.YtllcbnfmihfaaaaGreatDoorCq29
set_option maxRecDepth 100000
set_option maxHeartbeats 8000000
namespace Go.Proofs.YtllcbnfmihfaaaaGreatDoor
open Go.Proofs.Tryz
variable {V V' W W' W0:World}{A N base f k mn n size:Nat}{F G:Nat→Prop}{sv v:Value}{xs:List Value}{sts sts':List ((Nat→Nat)×Int×Int)}{cs:Array Value}{fr:Nat×Nat}{q:Aut}{mf nf:Lit→Option Nat}{p:List (List UInt8×Bool)}{ds:List (DataW Unit)}
section
open Go.RowKit Go.Lib
structure Rv where
 rs:List (List (Nat×List UInt8)×Int×Int)
 dflt:Int
 m:Nat→Nat→Bool
 clr:Nat
 key:Int
abbrev Rep:=Nat×Nat×Nat×Nat
def rwL (f:DataW Unit→Rep→Option (DataW Unit)×Rep)(ds:List (DataW Unit))(R:Rep):List (DataW Unit)×Rep :=
 ds.foldl (fun a d=>(a.1++(f d a.2).1.toList,(f d a.2).2)) ([],R)
def rwE (f:List UInt8→DataW Unit→Rep→Option (DataW Unit)×Rep)(es:List (Lit×DataW Unit))(R:Rep):List (Lit×DataW Unit)×Rep :=
 es.foldl (fun a e=>(a.1++((f (qb7 e.1) e.2 a.2).1.map fun d=>(e.1,d)).toList,(f (qb7 e.1) e.2 a.2).2)) ([],R)
def shF (rw:List (List UInt8×Bool)→DataW Unit→Rep→Option (DataW Unit)×Rep)(p:List (List UInt8×Bool))(d:DataW Unit)(R:Rep):DataW Unit×Rep :=
 match d with
 |.agg ds=>(.agg (rwL (rw (([],true)::p)) ds R).1,(rwL (rw (([],true)::p)) ds R).2)
 |.map es=>(.map (rwE (fun key=>rw ((key,false)::p)) es R).1,(rwE (fun key=>rw ((key,false)::p)) es R).2)
 |d=>(d,R)
def rwF (c:Rv):Nat→List (List UInt8×Bool)→DataW Unit→Rep→Option (DataW Unit)×Rep
 |0,_,_,R=>(none,R)
 |k+1,p,d,R =>
  if c.m (lbF c.dflt c.rs p.reverse).1.toNat c.clr=true then (some (shF (rwF c k) p d (R.1+1,R.2)).1,(shF (rwF c k) p d (R.1+1,R.2)).2)
  else if (lbF c.dflt c.rs p.reverse).2=2 then (some (.lit (.string [42,42,42])),(R.1,R.2.1,R.2.2.1+1,R.2.2.2))
  else if (lbF c.dflt c.rs p.reverse).2=3 then (some (.lit (.string (qs5 c.key (lbF c.dflt c.rs p.reverse).1.toNat (qaU (k+1) d)))),(R.1,R.2.1,R.2.2.1,R.2.2.2+1))
  else (none,(R.1,R.2.1+1,R.2.2.1,R.2.2.2))
def ndF:Nat→DataW Unit→Nat
 |0,_=>0
 |k+1,d=>match d with
  |.agg ds=>2+(ds.map fun d=>1+ndF k d).sum
  |.map es=>1+(es.map fun e=>2+ndF k e.2).sum
  |_=>1
structure Rc where
 v:Rv
 W0:World
 A:Nat
 q:Aut
 B:Nat
 O:Array Value
 n:Nat
 G:World
 own0:Option Nat
def rwC (c:Rc)(R:Rep):Array Value:=c.O++#[.int .i64 c.v.clr,.int .i64 c.v.key,.pointer (some ⟨c.A,0,none⟩),.int .i64 R.1,.int .i64 R.2.1,.int .i64 R.2.2.1,.int .i64 R.2.2.2]
structure qkl (c:Rc):Prop where
 ers:c.q.rs=c.v.rs
 edf:c.q.dflt=c.v.dflt
 elf:c.q.lf=fnL (qcl c.v.rs)
 eL:c.q.L=2+(qcl c.v.rs).length
 ly:LyD c.v.rs (qcl c.v.rs) c.q.st c.q.tk
 hn:c.v.rs.length≤16
 h8:∀i (h:i<c.v.rs.length),c.v.rs[i].1.length≤8
 hk:∀i (h:i<c.v.rs.length) j (h2:j<c.v.rs[i].1.length),c.v.rs[i].1[j].1≤3∧c.v.rs[i].1[j].2.length≤1000000000
 ord:qjo c.O c.n c.v.m
 n6:c.n≤6
 clr:c.v.clr<c.n
 lab:∀p,∃l:Nat,(lbF c.v.dflt c.v.rs p).1=l∧l<c.n
 hB:c.W0.heap.size≤c.B
 hG:c.G.heap.size≤c.B
 tab:c.W0.cell? ⟨8,15,none⟩=some (.int .u8 4)
structure KpR (W V:World):Prop where
 size:W.heap.size≤V.heap.size
 row:∀(k:Nat) (cs:Array Value) (t:TypeId) (fr:Nat×Nat),W.heap[k]? = some (.cells cs t fr)→t≠168→t≠240→t≠243→V.heap[k]? = some (.cells cs t fr)
theorem KpR.refl (W:World):KpR W W:=⟨Nat.le_refl _,fun _ _ _ _ h _ _ _=>h⟩
theorem KpR.trans {X:World}(h:KpR W V)(g:KpR V X):KpR W X:=⟨Nat.le_trans h.size g.size,fun k cs t fr a b c d=>g.row k cs t fr (h.row k cs t fr a b c d) b c d⟩
theorem KpR.of_below (h:Below W.heap.size W V):KpR W V:=⟨h.size,fun k _ _ _ a _ _ _=>(h.block k (ltA a)).trans a⟩
theorem KpR.at_ {R:Option Nat}(hs:W.heap.size≤V.heap.size)(hb:∀k,k<W.heap.size→some k≠R→V.heap[k]? = W.heap[k]?)(hr:∀k,R=some k→∀cs t fr,W.heap[k]? = some (.cells cs t fr)→t=168∨t=240∨t=243):KpR W V:=by
 refine⟨hs,fun k cs t fr a b c d => ?_⟩;by_cases e:some k=R
 ·rcases hr k e.symm cs t fr a with h|h|h
  ·exact absurd h b
  ·exact absurd h c
  exact absurd h d
 exact(hb k (ltA a) e).trans a
theorem qb1.kept {t:TypeId}(h:qb1 V t size F v n xs)(hFG:∀k,F k→G k)(hk:KpR V V')(h1:t≠168)(h2:t≠240)(h3:t≠243):qb1 V' t size G v n xs:=by
 obtain⟨a1,a2⟩:=h;refine⟨a1,?_⟩;rcases a2 with a2|⟨g,cap,cur,e,hf,hg,a3⟩
 ·exact .inl a2
 exact .inr ⟨g,cap,cur,e,hFG g hf,hk.row _ _ _ _ hg h1 h2 h3,a3⟩
theorem qai.kept (hFG:∀k,F k→G k)(hk:KpR V V'):∀{k:Nat} {v:Value} {d:DataW Unit},qai k V F v d→qai k V' G v d
 |0,_,_,h=>h
 |k+1,v,d,h=>by
  unfold qai at h ⊢;split at h
  ·exact h
  ·exact h
  ·exact h
  ·exact h
  ·obtain⟨u,e,hr⟩:=h;exact⟨u,e,hr.kept hFG hk (by decide) (by decide) (by decide)⟩
  ·obtain⟨u,xs,e,hr,ha⟩:=h;exact⟨u,xs,e,hr.kept hFG hk (by decide) (by decide) (by decide),fun i x d h1 h2=>qai.kept hFG hk (ha i x d h1 h2)⟩
  ·obtain⟨u,xs,e,hr,ha⟩:=h;refine⟨u,xs,e,hr.kept hFG hk (by decide) (by decide) (by decide),fun i key d h1 => ?_⟩;obtain⟨l,x,e1,e2,e3,e4⟩:=ha i key d h1;exact⟨l,x,e1,e2,e3,qai.kept hFG hk e4⟩
  exact h
structure qcy (c:Rc)(R:Rep)(N:Nat)(sts:List ((Nat→Nat)×Int×Int))(V:World):Prop where
 box:V.heap[c.B]? = some (.cells (rwC c R) 243)
 here:∃sa sc nf mn mf,qcj c.W0 c.A c.q sts (.slice sa sts.length sc) nf mn mf V∧qtn c.q sts mf∧mn≤N∧sts.length≤N+1∧((Value.slice sa sts.length sc).ownBlock=c.own0∨∃g,(Value.slice sa sts.length sc).ownBlock=some g∧c.G.heap.size≤g)
 fr:c.G.heap.size≤V.heap.size∧∀k,k<c.G.heap.size→k≠c.A→k≠c.q.nb→k≠c.q.mb→some k≠c.own0→V.heap[k]? = c.G.heap[k]?
 few:R.1+R.2.1+R.2.2.1+R.2.2.2≤N
theorem qcy.more {c:Rc}{R:Rep}{M:Nat}(h:qcy c R N sts V)(hm:N≤M):qcy c R M sts V:=by
 obtain⟨sa,sc,nf,mn,mf,h1,h2,h3,h4,h5⟩:=h.here;exact⟨h.box,⟨sa,sc,nf,mn,mf,h1,h2,by omega,by omega,h5⟩,h.fr,Nat.le_trans h.few hm⟩
theorem qcy.step {c:Rc}{R:Rep}(h:qcy c R N sts V)(hb:Below V.heap.size V V'):qcy c R N sts V':=by
 obtain⟨sa,sc,nf,mn,mf,h1,h2⟩:=h.here;exact⟨(hb.block _ (ltA h.box)).trans h.box,⟨sa,sc,nf,mn,mf,h1.next hb,h2⟩,⟨Nat.le_trans h.fr.1 hb.size,fun k a b c d e=>(hb.block k (Nat.lt_of_lt_of_le a h.fr.1)).trans (h.fr.2 k a b c d e)⟩,h.few⟩
theorem qcy.below {c:Rc}{R:Rep}(h:qcy c R N sts V):Below c.W0.heap.size c.W0 V:=by
 obtain⟨sa,sc,nf,mn,mf,h1,h2⟩:=h.here;exact h1.below
theorem qaD {kt:TypeId}{m:Nat}{f:Lit→Option Nat}(h:qcW W kt m n f){t:TypeId}(hc:W.heap[m]? = some (.cells cs t fr)):False:=by
 obtain⟨D,⟨es,clock,h1,_⟩,_⟩:=h;rw[hc] at h1;cases h1
theorem qf0 {e:TypeId}(ho:W.ownsRow base e size v n xs){g:Nat}(h:v.ownBlock=some g){t:TypeId}(hc:W.heap[g]? = some (.cells cs t fr)):t=e:=by
 rcases ho.2 with ⟨h0,_⟩|⟨g',cap,cur,h0,_,hh,_⟩
 ·rw[h0] at h;cases h
 rw[h0] at h;injection h with h;have h':g'=g:=h;rw[←h',hh] at hc;injection hc with hc;injection hc with _ hc _;exact hc.symm
theorem qwV (h:qcj W0 A q sts sv nf mn mf W)(hf:qlG A q sv W V):KpR W V:=by
 refine⟨hf.size,fun k cs t fr a b c d => ?_⟩;refine(hf.block k (ltA a) (fun e => ?_) (fun e => ?_) (fun e => ?_) (fun e => ?_)).trans a
 ·exact c (qf0 h.states e.symm a)
 ·subst e;have:=h.row;rw[a] at this;injection this with this;injection this with _ this _;exact b this
 ·subst e;exact qaD h.numbers a
 subst e;exact qaD h.moves a
theorem qlx {c:Rc}(h:qkl c)(R:Rep):(rwC c R).size=44:=by simp[rwC,h.ord.size]
theorem qcj.off {B:Nat}(h:qcj W0 A q sts sv nf mn mf W)(hB:W0.heap.size≤B)(hg:W.grownBy W' (some B)){t:TypeId}(hc:W.heap[B]? = some (.cells cs t fr))(h1:t≠168)(h2:t≠240)(h3:t≠164):qcj W0 A q sts sv nf mn mf W':=by
 obtain⟨cur,t1,t2⟩:=h.takes;have n1:A≠B:=by
  rintro rfl;have:=h.row;rw[hc] at this;injection this with this;injection this with _ this _;exact h1 this
 have n2:q.tb≠B:=by
  rintro e;rw[e] at t1;rw[hc] at t1;injection t1 with t1;injection t1 with _ t1 _;exact h3 t1
 have n3:q.lm≠B:=fun e=>qaD h.letters (e▸hc);have n4:q.nb≠B:=fun e=>qaD h.numbers (e▸hc);have n5:q.mb≠B:=fun e=>qaD h.moves (e▸hc);have n6:∀g,sv.ownBlock=some g→g≠B:=fun g e e2=>h2 (qf0 h.states e (e2▸hc));exact {h with
  row:=(hg.block A (ltA h.row) (by simpa using n1)).trans h.row
  below:=⟨hg.os.trans h.below.os,hg.tape.trans h.below.tape,hg.output.trans h.below.output,Nat.le_trans h.below.size hg.size,fun i hi=>(hg.block i (Nat.lt_of_lt_of_le hi h.below.size) (by simp;omega)).trans (h.below.block i hi)⟩
  letters:=h.letters.kept hg (by simpa using n3)
  takes:=⟨cur,(hg.block _ (ltA t1) (by simpa using n2)).trans t1,t2⟩
  states:=qdn h.states fun g e=>hg.block g (qjA h.states e) (by simpa using n6 g e)
  numbers:=h.numbers.kept hg (by simpa using n4)
  moves:=h.moves.kept hg (by simpa using n5)}
theorem qnY (W:World)(B j:Nat)(v:Value):W.grownBy (W.setCell ⟨B,j,none⟩ v) (some B) :=
 ⟨rfl,rfl,rfl,by simp[World.setCell],fun k _ hn=>heap_setCell_other _ _ _ _ (by simpa using hn)⟩
theorem qcy.count {c:Rc}{R R':Rep}(h:qcy c R N sts V)(ok:qkl c)(j:Nat)(x:Nat)(hx:(rwC c R).setIfInBounds j (.int .i64 x)=rwC c R')(hr:R'.1+R'.2.1+R'.2.2.1+R'.2.2.2≤N+1):qcy c R' (N+1) sts (V.setCell ⟨c.B,j,none⟩ (.int .i64 x))∧KpR V (V.setCell ⟨c.B,j,none⟩ (.int .i64 x)):=by
 obtain⟨sa,sc,nf,mn,mf,h1,h2,h3,h4,h5⟩:=h.here;have hg:=qnY V c.B j (.int .i64 x);refine⟨⟨?_,⟨sa,sc,nf,mn,mf,h1.off ok.hB hg h.box (by decide) (by decide) (by decide),h2,by omega,by omega,h5⟩,⟨Nat.le_trans h.fr.1 hg.size,fun k a b c d e=>(hg.block k (Nat.lt_of_lt_of_le a h.fr.1) (fun e=>by have:=ok.hG;injection e with e;omega)).trans (h.fr.2 k a b c d e)⟩,hr⟩,KpR.at_ (R:=some c.B) hg.size hg.block (fun k e cs t fr hc => ?_)⟩
 ·rw[heap_setCell_same V _ _ _ _ _ h.box,hx]
 injection e with e;subst e;rw[h.box] at hc;injection hc with hc;injection hc with _ hc _;exact .inr (.inr hc.symm)
def StF (c:Rc)(sts:List ((Nat→Nat)×Int×Int))(f:Nat)(p:List (List UInt8×Bool)):Prop:=∃s,sts[f]? = some s∧PlP c.v.rs p s.1
def Pre (sts sts':List ((Nat→Nat)×Int×Int)):Prop:=∀(j:Nat) (x:(Nat→Nat)×Int×Int),sts[j]? = some x→sts'[j]? = some x
theorem StF.pre {c:Rc}(h:StF c sts f p)(hp:Pre sts sts'):StF c sts' f p:=by
 obtain⟨s,h1,h2⟩:=h;exact⟨s,hp _ _ h1,h2⟩
theorem Pre.trans {a b d:List ((Nat→Nat)×Int×Int)}(h:Pre a b)(g:Pre b d):Pre a d:=fun j x hx=>g j x (h j x hx)
theorem Pre.refl (a:List ((Nat→Nat)×Int×Int)):Pre a a:=fun _ _ h=>h
def qvs (c:Rc)(R:Rep)(N:Nat)(sts:List ((Nat→Nat)×Int×Int))(p:List (List UInt8×Bool))(V:World)(e:Ending)(V':World):Prop :=
 ∃(f':Nat) (sts':List ((Nat→Nat)×Int×Int)),e=.returned (.int .i64 f')∧qcy c R (N+1) sts' V'∧KpR V V'∧Pre sts sts'∧StF c sts' f' p
theorem qcy.next {c:Rc}{R:Rep}(h:qcy c R N sts V)(ok:qkl c)(hN:N<90000)(hf:StF c sts f p)(key:List UInt8)(ix:Bool)(hb:key.length≤maxLen):Calls prog 153 #[.pointer (some ⟨c.A,0,none⟩),.int .i64 f,.agg #[.string ⟨key.toArray⟩,.bool ix]] V (qvs c R N sts ((key,ix)::p) V):=by
 obtain⟨sa,sc,nf,mn,mf,h1,h2,h3,h4,h7⟩:=h.here;obtain⟨s,h5,h6⟩:=hf;have hkl:=ql4 ok.hn ok.h8;have hx:qlM c.q.lf key ix<c.q.L:=by rw[ok.elf,ok.eL];exact qsQ _ _
 refine(qt2 c.W0 c.A c.q sts sa sc nf mn mf V h1 h2 (by omega) (by omega) f s h5 key ix hb _ rfl hx (by rw[ok.eL];omega)).mono ?_;rintro e V' ⟨f',sts',sa',sc',nf',mn',mf',rfl,k1,k2,k3,k4,k5,t,Y,k6,k7,k8,hF,hO⟩;have hK:=qwV h1 hF;have hbox:V'.heap[c.B]? = some (.cells (rwC c R) 243):=by
  refine(hF.block c.B (ltA h.box) (fun e => ?_) (fun e => ?_) (fun e => ?_) (fun e => ?_)).trans h.box
  ·exact absurd (qf0 h1.states e.symm h.box) (by decide)
  ·have:=h1.row;rw[←e,h.box] at this;injection this with this;injection this with _ this _;exact absurd this (by decide)
  ·exact qaD h1.numbers (e▸h.box)
  exact qaD h1.moves (e▸h.box)
 refine⟨f',sts',rfl,⟨hbox,⟨sa',sc',nf',mn',mf',k1,k2,by omega,by omega,?_⟩,⟨Nat.le_trans h.fr.1 hF.size,fun k a b c d e=>(hF.block k (Nat.lt_of_lt_of_le a h.fr.1) (fun e2 => ?_) b c d).trans (h.fr.2 k a b c d e)⟩,Nat.le_succ_of_le h.few⟩,hK,k4,t,k6,?_⟩
 ·rcases hO with hO|⟨g,hO,hg⟩
  ·rw[hO];exact h7
  exact .inr ⟨g,hO,Nat.le_trans h.fr.1 hg⟩
 ·rcases h7 with h7|⟨g,h7,hg⟩
  ·exact e (e2.trans h7)
  rw[h7] at e2;injection e2 with e2;omega
 rw[ok.elf,ok.ers] at k7;refine qsv (qr7 ok.ly (fun r hr s hs => ?_) h6 _ _ k7) ok.hn k8;obtain⟨j,hj,rfl⟩:=List.getElem_of_mem hs;exact⟨(ok.hk r hr j hj).1,fun h3=>qjl hr hj h3⟩
theorem qcy.verdict {c:Rc}{R:Rep}(h:qcy c R N sts V)(ok:qkl c)(hf:StF c sts f p):Calls prog 154 #[.pointer (some ⟨c.A,0,none⟩),.int .i64 f] V fun e V'=>e=.returned (.tuple #[.int .i64 (lbF c.v.dflt c.v.rs p.reverse).1,.int .i64 (lbF c.v.dflt c.v.rs p.reverse).2])∧Below V.heap.size V V':=by
 obtain⟨sa,sc,nf,mn,mf,h1,h2,h3,h4,_⟩:=h.here;obtain⟨s,h5,h6⟩:=hf;have hh:=(h1.here f s h5).1;rw[←List.reverse_reverse p] at h6;rw[ok.edf,ok.ers,qtm h6] at hh;refine(qkq c.W0 c.A c.q sts _ nf mn mf V h1 f s h5).mono ?_;rintro e V' ⟨rfl,hB⟩;rw[hh];exact⟨rfl,hB⟩
def qob (c:Rc)(k:Nat)(F:Nat→Prop)(r:Option (DataW Unit)×Rep)(M:Nat)(sts:List ((Nat→Nat)×Int×Int))(V:World)(e:Ending)(V':World):Prop :=
 ∃(v':Value) (sts':List ((Nat→Nat)×Int×Int)),e=.returned (.tuple #[v',.bool r.1.isSome])∧qcy c r.2 M sts' V'∧KpR V V'∧Pre sts sts'∧(r.1=none→v'=.nilIface)∧∀d',r.1=some d'→qai k V' (fun j=>F j∨(V.heap.size≤j∧j<V'.heap.size)) v' d'
def qvb (c:Rc)(k:Nat):Prop :=
 ∀(V:World) (F:Nat→Prop) (x:Value) (d:DataW Unit) (p:List (List UInt8×Bool)) (f:Nat) (R:Rep) (N:Nat) (sts:List ((Nat→Nat)×Int×Int)),qcy c R N sts V→StF c sts f p→(∀j,F j→j<V.heap.size)→qai k V F x d→(qaU k d).length≤999999999→N+ndF k d≤90000 →
  Calls prog 140 #[.pointer (some ⟨c.B,0,none⟩),x,.int .i64 f] V (qob c k F (rwF c.v k p d R) (N+ndF k d) sts V)
structure qql (c:Rc)(k:Nat)(W:World)(F:Nat→Prop)(R:Rep)(N:Nat)(sts:List ((Nat→Nat)×Int×Int))(v:Value)(ds:List (DataW Unit))(V:World):Prop where
 rw:qcy c R N sts V
 kp:KpR W V
 own:∃xs,V.ownsRow W.heap.size 81 1 v ds.length xs∧∀(i:Nat) (x:Value) (d:DataW Unit),xs[i]? = some x→ds[i]? = some d→qai k V (fun j=>(F j∨(W.heap.size≤j∧j<V.heap.size))∧some j≠v.ownBlock) x d
theorem qn9 {t:TypeId}(h:W.ownsRow base t size v n xs)(hk:KpR W W')(h1:t≠168)(h2:t≠240)(h3:t≠243):W'.ownsRow base t size v n xs:=by
 obtain⟨a1,a2⟩:=h;refine⟨a1,?_⟩;rcases a2 with a2|⟨g,cap,cur,e,hb,hg,h5⟩
 ·exact .inl a2
 exact .inr ⟨g,cap,cur,e,hb,hk.row _ _ _ _ hg h1 h2 h3,h5⟩
theorem qql.step {c:Rc}{R R':Rep}{N':Nat}(h:qql c k W F R N sts v ds V)(hr:qcy c R' N' sts' V')(hk:KpR V V'):qql c k W F R' N' sts' v ds V':=by
 obtain⟨xs,h1,h2⟩:=h.own;refine⟨hr,h.kp.trans hk,xs,qn9 h1 hk (by decide) (by decide) (by decide),fun i x d hx hd=>(h2 i x d hx hd).kept (fun j hj=>⟨hj.1.imp id (fun h=>⟨h.1,Nat.lt_of_lt_of_le h.2 hk.size⟩),hj.2⟩) hk⟩
theorem qts {c:Rc}{R:Rep}(hr:qcy c R N sts V)(hk:KpR W V):qql c k W F R N sts (.slice none 0 0) [] V :=
 ⟨hr,hk,[],World.ownsRow_nil _ _ _ _,fun i x d hx=>by simp at hx⟩
theorem qql.push {c:Rc}{R:Rep}{v' x:Value}{d:DataW Unit}{V0 w5:World}(h:qql c k W F R N sts v ds V)(hW:c.W0.heap.size≤W.heap.size)(hG:c.G.heap.size≤W.heap.size)(hF:∀j,F j→j<W.heap.size)(ho:V.ownsRow W.heap.size 81 1 v ds.length xs)(hx:∀(i:Nat) (x:Value) (d:DataW Unit),xs[i]? = some x→ds[i]? = some d→qai k V (fun j=>(F j∨(W.heap.size≤j∧j<V.heap.size))∧some j≠v.ownBlock) x d)(hd:qai k V (fun j=>F j∨(V0.heap.size≤j∧j<V.heap.size)) x d)(hv0:∀g,v.ownBlock=some g→g<V0.heap.size)(hW0:W.heap.size≤V0.heap.size)(ho':w5.ownsRow W.heap.size 81 1 v' (ds.length+1) (xs++[x]))(hg:(V.alloc (.cells #[x] 81)).grownBy w5 v.ownBlock)(hw:v'.ownBlock=v.ownBlock∨v'.ownBlock=some (V.alloc (.cells #[x] 81)).heap.size):qql c k W F R N sts v' (ds++[d]) w5:=by
 have hsz:=h.kp.size;have hgs:V.heap.size+1≤w5.heap.size:=by have:=hg.size;simpa using this
 have key:∀g,v.ownBlock=some g→W.heap.size≤g:=fun g hg=>qbA ho hg;have hkeep:∀j,j<V.heap.size→some j≠v.ownBlock→w5.heap[j]? = V.heap[j]?:=fun j hj hn=>(hg.block j (by simp;omega) hn).trans (Below.heap_alloc _ _ _ hj);have hlow:∀j,j<W.heap.size→w5.heap[j]? = V.heap[j]?:=fun j hj=>hkeep j (by omega) (fun e=>by have:=key j e.symm;omega);have hkp:KpR W w5:=⟨by omega,fun j cs t fr a b c d=>(hlow j (ltA a)).trans (h.kp.row j cs t fr a b c d)⟩
 have hrw:qcy c R N sts w5:=by
  have h1:=h.rw.step (bwO (.cells #[x] 81));have ho1:=ho.alloc (.cells #[x] 81);rcases ho1.2 with ⟨h0,_⟩|⟨g,cap,cur,h0,hbb,hh,_⟩
  ·refine h1.step ⟨hg.os,hg.tape,hg.output,hg.size,fun j hj=>hg.block j hj (by rw[h0];simp[Value.ownBlock])⟩
  have hob:v.ownBlock=some g:=by rw[h0];rfl
  rw[hob] at hg;obtain⟨sa,sc,nf,mn,mf,k1,k2,k3⟩:=h1.here;refine⟨(hg.block c.B (ltA h1.box) (fun e => ?_)).trans h1.box,⟨sa,sc,nf,mn,mf,k1.off (B:=g) ?_ hg hh (by decide) (by decide) (by decide),k2,k3⟩,⟨Nat.le_trans h1.fr.1 hg.size,fun j a b c d e=>(hg.block j (Nat.lt_of_lt_of_le a h1.fr.1) (fun e2=>by have:=key g hob;injection e2 with e2;omega)).trans (h1.fr.2 j a b c d e)⟩,h1.few⟩
  ·injection e with e;rw[←e,h1.box] at hh;injection hh with hh;injection hh with _ hh _;exact absurd hh (by decide)
  exact Nat.le_trans hW (key g hob)
 refine⟨hrw,hkp,xs++[x],by rw[List.length_append];exact ho',fun i y c hy hc => ?_⟩;have hne:∀j,j<V.heap.size→some j≠v.ownBlock→some j≠v'.ownBlock:=fun j hj hn=>by
  rcases hw with hw|hw
  ·rw[hw];exact hn
  rw[hw];intro e;injection e with e;simp at e;omega
 have hxl:xs.length=ds.length:=by have:=ho.1;omega
 by_cases hi:i<ds.length
 ·rw[List.getElem?_append_left (by omega)] at hy hc;have hlt:∀j,(F j∨(W.heap.size≤j∧j<V.heap.size))→j<V.heap.size:=fun j hj=>hj.elim (fun h=>Nat.lt_of_lt_of_le (hF j h) hsz) (fun h=>h.2);exact(hx i y c hy hc).same (fun j hj=>⟨hj.1.imp id (fun h=>⟨h.1,by omega⟩),hne j (hlt j hj.1) hj.2⟩) (fun j hj=>hkeep j (hlt j hj.1) hj.2)
 have e:i=ds.length:=by
  have:=ltL hc;rw[List.length_append] at this;simp at this;omega
 subst e;rw[List.getElem?_append_right (by omega)] at hc;rw[List.getElem?_append_right (by omega),hxl] at hy;simp at hy hc;subst hy;subst hc;have hoff:∀j,(F j∨(V0.heap.size≤j∧j<V.heap.size))→some j≠v.ownBlock:=fun j hj e=>by
  have h1:=hv0 j e.symm;have h2:=key j e.symm;rcases hj with hj|hj
  ·have:=hF j hj;omega
  omega
 have hlt:∀j,(F j∨(V0.heap.size≤j∧j<V.heap.size))→j<V.heap.size:=fun j hj=>hj.elim (fun h=>Nat.lt_of_lt_of_le (hF j h) hsz) (fun h=>h.2);exact hd.same (fun j hj=>⟨hj.imp id (fun h=>⟨by omega,by omega⟩),hne j (hlt j hj) (hoff j hj)⟩) (fun j hj=>hkeep j (hlt j hj) (hoff j hj))
theorem qql.row {c:Rc}{R:Rep}(h:qql c k W F R N sts v ds V):qai (k+1) V (fun j=>F j∨(W.heap.size≤j∧j<V.heap.size)) (.iface 204 v) (.agg ds):=by
 obtain⟨xs,h1,h2⟩:=h.own;unfold qai;refine⟨v,xs,rfl,⟨h1.1,?_⟩,fun i x d hx hd=>(h2 i x d hx hd).same (fun j hj=>hj.1) (fun _ _=>rfl)⟩;rcases h1.2 with h3|⟨g,cap,cur,e,hb,hg,h5⟩
 ·exact .inl h3
 exact .inr ⟨g,cap,cur,e,.inr ⟨hb,(ltA hg)⟩,hg,h5⟩
def ql5 (c:Rc)(k:Nat)(F:Nat→Prop)(t:TypeId)(r:DataW Unit×Rep)(M:Nat)(sts:List ((Nat→Nat)×Int×Int))(V:World)(e:Ending)(V':World):Prop :=
 ∃(a:Option Addr) (n m:Nat) (sts':List ((Nat→Nat)×Int×Int)),e=.returned (.slice a n m)∧qcy c r.2 M sts' V'∧KpR V V'∧Pre sts sts'∧qai k V' (fun j=>F j∨(V.heap.size≤j∧j<V'.heap.size)) (.iface t (.slice a n m)) r.1
theorem qrc {c:Rc}{R:Rep}(h:qcy c R N sts V)(ok:qkl c):V.cell? ⟨c.B,39,none⟩=some (.pointer (some ⟨c.A,0,none⟩)):=by
 refine(qab h.box 39).trans ?_;unfold rwC;rw[Array.getElem?_append_right (by rw[ok.ord.size];omega),ok.ord.size];rfl
theorem qqP (f:DataW Unit→Rep→Option (DataW Unit)×Rep)(l:List (DataW Unit))(d:DataW Unit)(R:Rep){R1:Rep}(h:rwL f l R=(ds,R1)):rwL f (l++[d]) R=(ds++(f d R1).1.toList,(f d R1).2):=by
 unfold rwL at h ⊢;rw[List.foldl_append,h];rfl
theorem qoR {α:Type}(g:α→Nat):∀l:List α,l.length≤(l.map fun d=>1+g d).sum
 |[]=>Nat.zero_le _
 |a::l=>by
  have:=qoR g l;simp only[List.map_cons,List.sum_cons,List.length_cons];omega
theorem qlI {α:Type}(g:α→List UInt8){l:List α}{i:Nat}{d:α}(h:l[i]? = some d):(g d).length≤(l.flatMap g).length:=by
 obtain⟨hi,rfl⟩:=List.getElem?_eq_some_iff.1 h;have h2:l.flatMap g=(l.take i).flatMap g++(g l[i]++(l.drop (i+1)).flatMap g):=by
  conv=>lhs;rw[←List.take_append_drop i l,List.flatMap_append,List.drop_eq_getElem_cons hi,List.flatMap_cons]
 rw[h2];simp only[List.length_append];omega
theorem qkg (c:Rc)(ok:qkl c)(k:Nat)(ih:qvb c k)(W:World)(F:Nat→Prop)(u:Value)(ds:List (DataW Unit))(xs:List Value)(p:List (List UInt8×Bool))(f:Nat)(R:Rep)(N:Nat)(sts:List ((Nat→Nat)×Int×Int))(h:qcy c R N sts W)(hf:StF c sts f p)(hF:∀j,F j→j<W.heap.size)(hu:qb1 W 81 1 F u ds.length xs)(hx:∀(i:Nat) (x:Value) (d:DataW Unit),xs[i]? = some x→ds[i]? = some d→qai k W F x d)(hc:(ds.flatMap (qaU k)).length≤999999999)(hN:N+1+(ds.map fun d=>1+ndF k d).sum≤90000):Calls prog 219 #[.pointer (some ⟨c.B,0,none⟩),u,.int .i64 f] W (ql5 c (k+1) F 204 (.agg (rwL (rwF c.v k (([],true)::p)) ds R).1,(rwL (rwF c.v k (([],true)::p)) ds R).2) (N+1+(ds.map fun d=>1+ndF k d).sum) sts W):=by
 obtain⟨i0,hi,hz0,hz1,hz2⟩:=info_parts Tryz.infoThing;obtain⟨q,cap,rfl⟩:∃q cap,u=.slice q ds.length cap:=by
  rcases hu.2 with ⟨e,e2⟩|⟨g,cap,cur,e,_⟩
  ·exact⟨none,0,by rw[e,e2]⟩
  exact⟨_,_,e⟩
 obtain⟨rr,HRR⟩:∃rr,Hid (rwL (rwF c.v k (([],true)::p)) ds R=rr):=⟨_,rfl⟩
 rw[HRR.out];have HOK:=qaa ok;have HIH:=qaa ih;have HW:=qaa h.below.size;have HG:=qaa h.fr.1;have HU:=qaa hu;have HX:=qaa hx;have HC:=qaa hc;have HF:=qaa hF;obtain⟨NE,HNE⟩:∃NE,Hid (N+1+(ds.map fun d=>1+ndF k d).sum=NE):=⟨_,rfl⟩
 have hlen:ds.length≤90000:=by have:=qoR (ndF k) ds;omega
 have HN:=qaa (HNE.out▸hN);rw[HNE.out];have c39:=qrc h ok;have cN:=h.next ok (by omega) hf [] true (by simp[maxLen])
 go_enter func219,ntmps219
 go_wp2_with (first
  |(go_at_call 153;refine cN.mono ?_;rintro e w2 ⟨f2,sts2,rfl,hR2,hK2,hP2,hF2⟩;have HR2:=qaa hR2;have HK2:=qaa hK2;have HP2:=qaa hP2;have HF2:=qaa hF2))
 go_loopg [7,23] ds.length (fun g y z wr=>∃(i:Nat) (a:Option Addr) (l cc:Nat) (R3:Rep) (N3:Nat) (sts3:List ((Nat→Nat)×Int×Int)) (ds3:List (DataW Unit)),y=.slice a l cc∧z=.int .i64 i∧Hid (i+g=ds.length)∧Hid (StF c sts3 f2 (([],true)::p))∧Hid (Pre sts sts3)∧Hid (qql c k W F R3 N3 sts3 (.slice a l cc) ds3 wr)∧Hid (rwL (rwF c.v k (([],true)::p)) (ds.take i) R=(ds3,R3))∧Hid (N3+((ds.drop i).map fun d=>1+ndF k d).sum≤NE)∧Hid (ds3.length≤i))
 case atStart=>exact⟨0,none,0,0,R,N+1,sts2,[],rfl,rfl,by show _=_;omega,HF2,HP2,qts HR2.out HK2.out,rfl,Nat.le_of_eq HNE.out,Nat.le_refl _⟩
 case round =>
  obtain⟨i,a,l,cc,R3,N3,sts3,ds3,rfl,rfl,hg,HSF,HPR,HWL,HRL,HN3,HD3⟩:=hrel
  cases gk with
  |zero =>
   have hlt:¬(i:Int)<ds.length:=by have:=hg.out;omega
   have HT:Hid (ds.take i=ds):=by show _=_;exact List.take_of_length_le (by have:=hg.out;omega)
   go_wp2;go_ret;have h1:=HRL.out;rw[HT.out,HRR.out] at h1;rw[h1];exact⟨a,l,cc,sts3,rfl,HWL.out.rw.more (by have:=HN3.out;omega),HWL.out.kp,HPR.out,HWL.out.row⟩
  |succ g =>
   have hkn:i<ds.length:=by have:=hg.out;omega
   have hlt:(i:Int)<ds.length:=by omega
   have HR:=HU.out.kept (V':=wr) (G:=F) (fun _ h=>h) HWL.out.kp (by decide) (by decide) (by decide);obtain⟨q0,rfl⟩:∃q0,q=some ⟨q0,0,none⟩:=by
    rcases HR.2 with ⟨_,e⟩|⟨g,cap',cur,e,_⟩
    ·omega
    injection e with e1 e2 e3;exact⟨g,e1⟩
   have hxl:xs.length=ds.length:=by have:=HR.1;omega
   obtain⟨x,hx⟩:∃x,xs[i]? = some x:=⟨xs[i],List.getElem?_eq_getElem (by omega)⟩
   obtain⟨d,hd⟩:∃d,ds[i]? = some d:=⟨ds[i],List.getElem?_eq_getElem hkn⟩
   have hTh:=(HX.out i x d hx hd).kept (V':=wr) (G:=F) (fun _ h=>h) HWL.out.kp;obtain⟨tx,yx,rfl⟩:=hTh.iface;have hc:wr.cell? ⟨q0,i,none⟩=some (.iface tx yx):=by
    have:=HR.cell i _ hx;have e:(⟨q0,0,none⟩:Addr).add i=⟨q0,i,none⟩:=by by_cases h:i=0<;>simp[Addr.add,h]
    rwa [e] at this
   have hsum:N3+(1+ndF k d)+((ds.drop (i+1)).map fun d=>1+ndF k d).sum≤NE:=by
    have h1:=HN3.out;have h2:ds[i]=d:=by have:=List.getElem?_eq_getElem hkn;rw[hd] at this;exact(Option.some.inj this).symm
    rw[List.drop_eq_getElem_cons hkn,List.map_cons,List.sum_cons,h2] at h1;omega
   have cR:=HIH.out wr F (.iface tx yx) d (([],true)::p) f2 R3 N3 sts3 HWL.out.rw HSF.out (fun j hj=>Nat.lt_of_lt_of_le (HF.out j hj) HWL.out.kp.size) hTh (by have:=HC.out;have:=qlI (qaU k) hd;omega) (by have:=HN.out;omega);have hsn:rwL (rwF c.v k (([],true)::p)) (ds.take (i+1)) R=(ds3++(rwF c.v k (([],true)::p) d R3).1.toList,(rwF c.v k (([],true)::p) d R3).2):=by
    rw[List.take_add_one,hd];exact qqP _ _ _ _ HRL.out
   have HN4:Hid ((N3+ndF k d)+((ds.drop (i+1)).map fun d=>1+ndF k d).sum≤NE):=by show _≤_;omega
   obtain⟨N4,HE4⟩:∃N4,Hid (N3+ndF k d=N4):=⟨_,rfl⟩
   rw[HE4.out] at cR;rw[HE4.out] at HN4;have hl3:ds3.length≤90000:=by have:=HD3.out;omega
   have HS5:Hid (ds3.length+1≤i+1):=by show _≤_;have:=HD3.out;omega
   have HVW:=qaa HWL.out.kp.size;have HOL:Hid (∀g,(Value.slice a l cc).ownBlock=some g→g<wr.heap.size):=by obtain⟨xs,h1,_⟩:=HWL.out.own;exact qhh h1
   rcases hq:rwF c.v k (([],true)::p) d R3 with ⟨o,R4⟩
   rw[hq] at cR hsn
   cases o with
   |none =>
    have HSN:Hid (rwL (rwF c.v k (([],true)::p)) (ds.take (i+1)) R=(ds3,R4)):=by show _=_;rw[hsn];simp
    have cR2:Calls prog 140 #[.pointer (some ⟨c.B,0,none⟩),.iface tx yx,.int .i64 f2] wr fun e V'=>∃sts',e=.returned (.tuple #[.nilIface,.bool false])∧Hid (qcy c R4 N4 sts' V')∧Hid (KpR wr V')∧Hid (Pre sts3 sts'):=cR.mono (by
     rintro e V' ⟨v',sts',rfl,h1,h2,h3,h4,_⟩;obtain rfl:=h4 rfl;exact⟨sts',rfl,h1,h2,h3⟩)
    go_wp2_with (first
     |(go_at_call 140;refine cR2.mono ?_;rintro e w4 ⟨sts4,rfl,HR4,HK4,HP4⟩))
    go_roundg g
    case measure=>omega
    case rel=>exact⟨i+1,a,l,cc,R4,N4,sts4,ds3,rfl,by go_num,by show _=_;have:=hg.out;omega,HSF.out.pre HP4.out,HPR.out.trans HP4.out,HWL.out.step HR4.out HK4.out,HSN,HN4,by show _≤_;have:=HS5.out;omega⟩
   |some d' =>
    have HSN:Hid (rwL (rwF c.v k (([],true)::p)) (ds.take (i+1)) R=(ds3++[d'],R4)):=by show _=_;rw[hsn];rfl
    have cR2:Calls prog 140 #[.pointer (some ⟨c.B,0,none⟩),.iface tx yx,.int .i64 f2] wr fun e V'=>∃t y sts',e=.returned (.tuple #[.iface t y,.bool true])∧Hid (qcy c R4 N4 sts' V')∧Hid (KpR wr V')∧Hid (Pre sts3 sts')∧Hid (qai k V' (fun j=>F j∨(wr.heap.size≤j∧j<V'.heap.size)) (.iface t y) d'):=cR.mono (by
     rintro e V' ⟨v',sts',rfl,h1,h2,h3,_,h4⟩;have h5:=h4 d' rfl;obtain⟨t,y,rfl⟩:=h5.iface;exact⟨t,y,sts',rfl,h1,h2,h3,h5⟩)
    go_wp2_with (first
     |(go_at_call 140;refine cR2.mono ?_;rintro e w4 ⟨t,y,sts4,rfl,HR4,HK4,HP4,HD4⟩;have HWL4:=qaa (HWL.out.step HR4.out HK4.out);obtain⟨xs4,hown,hxs⟩:=HWL4.out.own;have HO:=qaa hown;have HXS:=qaa hxs;have HBS:=qaa HWL4.out.kp.size)
     |(at_builtin;refine qaX _ rfl _ _ 204 rfl W.heap.size 81 i0 .nilIface 1 16 underlying204 hi hz0 hz1 hz2 rfl (by decide) _ _ _ rfl (HO.out.alloc _) ⟨w4.heap.size,0,none⟩ 1 1 [.iface t y] rfl rfl (qag _ _ _) (fun u hu=>by simp at hu;subst hu;rfl) (by decide) (by unfold maxLen;omega) (by omega) (by simp;have:=HBS.out;omega) ?_;intro v' w5 hown' hgrow5 hw5;have HX5:=qaa (HWL4.out.push HW.out HG.out HF.out HO.out HXS.out HD4.out HOL.out HVW.out hown' hgrow5 hw5);obtain⟨g5,cap5,rfl⟩:=ownsRow_succ hown'))
    go_roundg g
    case measure=>omega
    case rel=>exact⟨i+1,_,_,_,R4,N4,sts4,ds3++[d'],rfl,by go_num,by show _=_;have:=hg.out;omega,HSF.out.pre HP4.out,HPR.out.trans HP4.out,HX5,HSN,HN4,by show _≤_;rw[List.length_append];exact HS5.out⟩
end
end Go.Proofs.YtllcbnfmihfaaaaGreatDoor
