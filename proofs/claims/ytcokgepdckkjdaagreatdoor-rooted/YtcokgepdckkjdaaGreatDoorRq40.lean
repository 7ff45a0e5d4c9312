import Derived.Test.YtcokgepdckkjdaaGreatDoorRq38
import Derived.Test.YtcokgepdckkjdaaGreatDoorRq39
set_option maxRecDepth 100000
set_option maxHeartbeats 8000000
namespace Go.Proofs.YtcokgepdckkjdaaGreatDoor
open Go.Proofs.Tryz
variable {bs:List UInt8}{kd l lim z:Int}{B b g i k last n p q:Nat}{c:UInt8}{xs:List Value}{V V' W:World}{u v:Value}{d:DataW Unit}{A a y:Array Value}{r:Except (Int×Int) (Int×Nat)}{ex:Nat->Prop}{s:ByteArray}{R:Except (Int×Int) (DataW Unit×Nat)}{ds:List (DataW Unit)}
section
open Go.RowKit Go.Lib
theorem q1k {x:UInt8}{xs:List UInt8}(a:bs[i]? = some c)(b:¬(i:Int)=lim)(d:c=x):qaT bs lim (x::xs) i=qaT bs lim xs (i+1):=by
 rw[qaT,a];simp only[];rw[if_neg b,if_pos d]
theorem qyJ:∀(g p:Nat) (a:List UInt8) (j:Nat) (x:List UInt8) (q:Nat),InR bs lim p->qfe bs lim g p a j=.ok (x,q)->InR bs lim q
 |0,p,a,j,x,q,_,h=>by rw[qfe] at h;cases h
 |g+1,p,a,j,x,q,hi,h=>by
  rw[qfe] at h
  cases b:bs[p]? with
  |none=>rw[b] at h;cases h
  |some c =>
   rw[b] at h;simp only[] at h;by_cases i:(p:Int)=lim
   ·rw[if_pos i] at h;cases h
   rw[if_neg i] at h;have e:=qxG hi b i;split at h
   ·injection h with h;injection h with _ h;subst h;exact e
   split at h
   ·cases d:qnj bs lim (p+1) with
    |error f=>rw[d] at h;cases h
    |ok y =>
     obtain⟨r,q1⟩:=y;rw[d] at h;exact qyJ g q1 _ _ x q (q0r e d).1 h
   split at h
   ·cases h
   split at h
   ·cases h
   exact qyJ g (p+1) _ _ x q e h
theorem q2Z {w2 w3:World}{N:Nat}{x:Int×Int}(h:qxY k w3 (fun j=>w2.heap.size<=j/\j<w3.heap.size) v d)(e:B<=w2.heap.size)(f:N+2<w2.heap.size):qxY k ((w3.setRow (N+1) y).setRow (N+2) (qqp x)) (fun j=>B<=j/\j<((w3.setRow (N+1) y).setRow (N+2) (qqp x)).heap.size) v d:=by
 refine h.same (fun j c=>⟨by omega,?a⟩) (fun j c => ?b)
 case a =>
  have:=c.2;simpa using this
 case b=>rw[setRow_other _ _ _ _ (by omega),setRow_other _ _ _ _ (by omega)]
def q3p (r:Except (Int×Int) (Int×Nat)):Except (Int×Int) (DataW Unit×Nat):=match r with
 |.error e=>.error e
 |.ok (z,q)=>.ok (.lit (.int .i64 z),q)
theorem q1D {f:Int×Int}(h:qyi bs lim r (.error f)):qyi bs lim (q3p r) (.error f):=by
 rcases h with h|⟨q,_,_,_,x,a⟩
 ·rw[h];exact .inl rfl
 cases a
theorem q2v (h:qyi bs lim r (.ok (z,q))):qyi bs lim (q3p r) (.ok (.lit (.int .i64 z),q)):=by
 rcases h with h|⟨e,b,c,d,x,a⟩
 ·rw[h];exact .inl rfl
 injection a with a;injection a with h5 h6;subst h6;rw[b];exact .inr ⟨q,rfl,c,d,_,rfl⟩
theorem q0N {F:Nat->Prop}(h:qxY 1 V F v d):qxY (k+1) V F v d:=h.more (by omega)
theorem qyu {W':World}{r:Except (Int×Int) (DataW Unit×Nat)}{e:Ending}(h:qxJ k bs lim W r e W'):Below W.heap.size W W'/\∃g c n s a i j b p m z F,qyi bs lim r g/\e=.returned (.tuple #[.agg (thA c n s (.slice a i j) (.slice b p m)),.int .i64 z,.agg (qqp F)])/\(∀d q,g=.ok (d,q)->InR bs lim q/\z=(q:Int)/\F=(0,0)/\qxY k W' (fun j=>W.heap.size<=j/\j<W'.heap.size) (.agg (thA c n s (.slice a i j) (.slice b p m))) d)/\(∀f,g=.error f->F=f):=by
 obtain⟨v,g,o,t⟩:=h;refine⟨v,g,?_⟩
 cases g with
 |error f =>
  obtain⟨c,n,s,a,i,j,b,p,m,z,l⟩:=t;exact⟨c,n,s,a,i,j,b,p,m,z,f,o,l,(fun d q e=>by cases e),(fun u e=>by injection e)⟩
 |ok x =>
  obtain⟨d,q⟩:=x;obtain⟨y,c,n,s,a,i,j,b,p,m,l,w⟩:=t;refine⟨c,n,s,a,i,j,b,p,m,q,(0,0),o,l,fun A B e => ?_,(fun u e=>by cases e)⟩;injection e with e;injection e with e1 e2;subst e1;subst e2;exact⟨y,rfl,rfl,w⟩
def RdE (k:Nat)(bs:List UInt8)(lim:Int)(W:World)(r:Except (Int×Int) (DataW Unit×Nat))(T:Array Value)(z:Int)(F:Int×Int):Prop :=
 ∀W',Below W.heap.size W W'->qxJ k bs lim W r (.returned (.tuple #[.agg T,.int .i64 z,.agg (qqp F)])) W'
theorem qz9 {n:Int}(f:Int×Int):RdE k bs lim W (.error f) (thA kd n s qxE qxE) z f :=
 fun _ h=>⟨h,.error f,.inl rfl,_,_,_,_,_,_,_,_,_,_,rfl⟩
theorem q1Y {n:Int}{dd:DataW Unit}(c:InR bs lim q)(h:∀a,qxY 1 a (fun j=>W.heap.size<=j/\j<a.heap.size) (.agg (thA kd n s qxE qxE)) dd):RdE (k+1) bs lim W (.ok (dd,q)) (thA kd n s qxE qxE) q (0,0) :=
 fun a b=>⟨b,.ok (dd,q),.inl rfl,c,_,_,_,_,_,_,_,_,_,rfl,q0N (h a)⟩
theorem qzD (k:Nat)(W:World)(bs:List UInt8)(fm d l lim:Int)(i:Nat)(u:Int)(x:Int×Int)(o:qr0 bs l i 9=x)(p:RdE (k+1) bs lim W R th0 0 x)(f:qxS bs l i=false\/(qxS bs l i=true/\∃c,bs[i]? = some c/\(∀x,x∈[110,102,116,34,91,123,45]->¬c.toNat=x)/\((c.toNat:Int)<48\/57<(c.toNat:Int)))):Calls prog 45 #[.agg (inA bs fm d l),.int .i64 i,.int .i64 u] W (qxJ (k+1) bs lim W R):=by
 have m:=q0U fm d o;have s:=qzA W bs fm d l;have r:=qaa p;clear o p;unfold inA;rcases f with b|⟨b,c,e,q,f|f⟩
 all_goals
  have n:=qy9 fm d b;clear b
  try
   have A:=qxF bs i c e;have z:=ltL e;simp only[List.mem_cons,List.not_mem_nil,or_false,forall_eq_or_imp,forall_eq] at q;have C:=nec (c:=c) 110 (by omega);have B:=nec (c:=c) 102 (by omega);have D:=nec (c:=c) 116 (by omega);have F:=nec (c:=c) 34 (by omega);have H:=nec (c:=c) 91 (by omega);have E:=nec (c:=c) 123 (by omega);have G:=nec (c:=c) 45 (by omega)
   first
    |have w:decide (48<=(c.toNat:Int))=false:=(by simp;omega)
    |(have v:48<=(c.toNat:Int):=(by omega);have y:decide ((c.toNat:Int)<=57)=false:=(by simp;omega))
   clear e q
  go_enter func45,ntmps45
  go_wp2_with (first
   |(go_at_call 43;refine s.out.ck (n _) ?_;clear n;intro I t g h c2 j)
   |(go_at_call 31;refine t.out.ck (m _) ?_;clear m g h c2 j;intro J a g h c2 j)
   |((with_reducible refine zT 6 _ rfl rfl (W.heap.size+1) (th0) ?_ ?_);exact⟨rfl,rfl,a.out.th,thg⟩)
   |((with_reducible refine zF 8 _ rfl rfl (W.heap.size+2) x ?_ ?_);exact⟨rfl,rfl,qxT a.out bwR _⟩))
  refine eoT results45 (qxK a.out bwR _ _) (.int .i64 0) rfl rfl rfl rfl (r.out _ (qxK a.out bwR _ _).2.2)
theorem qz7 (k:Nat)(W:World)(bs:List UInt8)(fm d l lim:Int)(i:Nat)(L:Int)(c:UInt8)(p:bs[i]? = some c)(x:qxS bs l i=true)(v:Nat)(a:Array UInt8)(f q:Int)(F:Int×Int)(A:c.toNat=v)(B:(v,a,f)∈([(110,#[110,117,108,108],0),(102,#[102,97,108,115,101],1),(116,#[116,114,117,101],2)]:List (Nat×Array UInt8×Int)))(w:∀V,Calls prog 71 #[.agg (inA bs fm d l),.int .i64 i,.string ⟨a⟩] V fun e H=>e=.returned (.tuple #[.int .i64 q,.agg (qqp F)])/\Below V.heap.size V H)(y:RdE (k+1) bs lim W R (thA f 0 ⟨#[]⟩ qxE qxE) q F):Calls prog 45 #[.agg (inA bs fm d l),.int .i64 i,.int .i64 L] W (qxJ (k+1) bs lim W R):=by
 have O:=q3a p A;have N:=ltL p;have u:=qy9 fm d x;have E:=qzA W bs fm d l;have C:=qaa y;clear x p A y;unfold inA at *;simp only[List.mem_cons,Prod.mk.injEq,List.not_mem_nil,or_false] at B;rcases B with h|h|h
 all_goals
  obtain⟨rfl,rfl,rfl⟩:=h
 let f:Int:=0;let b:Nat:=40;rotate_left
 let f:Int:=1;let b:Nat:=52;rotate_left
 let f:Int:=2;let b:Nat:=64;rotate_left
 all_goals
  go_enter func45,ntmps45
  go_wp2_with (first
   |(go_at_call 43;refine E.out.ck (u _) ?_;clear u;intro P G I J c2 K)
   |(go_at_call 71;refine ck (w _) G.out.next ?_;clear w I J c2 K;intro g s)
   |((with_reducible refine zF _ _ rfl rfl (g.heap.size) F ?_ ?_);exact⟨rfl,rfl,qac g _⟩;refine nmd ?_;intro t n;have j:Hid (RTh W (inA bs fm d l) t):=n▸s.out.next (qxV _ _);have D:Hid (t.heap[g.heap.size]? = some (.cells (qqp F) 57)):=n▸setRow_heap _ _ _ _ _ _ (qac _ _);have r:Hid (W.heap.size+2<g.heap.size):=ltA s.out.flt;clear n;generalize g.heap.size=M at *))
  refine rgn (S:=fun Z=>Z.heap[M]? = some (.cells (qqp F) 57)) (D.out) (by kernel_rfl) ?_;intro m;refine tk 0 b (.agg (thA f 0 ⟨#[]⟩ qxE qxE)) rfl (by kernel_rfl) iQ3 (fun Z z => ?y0) m ?_
  case y0=>(unfold thA qxE;dsimp only [f];go_simp)
  refine tkk 1 (b+1) (.int .i64 q) (by kernel_rfl) iQ3 m ?_;refine tk 2 (b+2) (.agg (qqp F)) rfl (by kernel_rfl) iQ3 (fun Z z=>yF _ z rfl rfl) m ?_;have o:=(setRow_other _ (W.heap.size+1) M (thA f 0 ⟨#[]⟩ qxE qxE) (by have:=r.out;omega)).trans m;refine sTh 3 6 b (W.heap.size+1) (thA f 0 ⟨#[]⟩ qxE qxE) (by kernel_rfl) (j.out.drew.th) thg o ?_;refine tkk 4 7 (.int .i64 q) (by kernel_rfl) iQ3 o ?_;refine sF 5 8 (b+2) (W.heap.size+2) F (by kernel_rfl) (qxT j.out.drew bwR _) (sx (by have:=r.out;omega) o) ?_;refine wpAnyH_done (by kernel_rfl) ?_ _;dsimp only [b];go_simp;go_wp2;refine eoT results45 (qxK j.out.drew bwR _ _) (.int .i64 q) rfl rfl rfl rfl (C.out _ (qxK j.out.drew bwR _ _).2.2)
theorem q0m (k:Nat)(W:World)(bs:List UInt8)(fm d l lim:Int)(i:Nat)(G:Int)(c:UInt8)(j:bs[i]? = some c)(t:qxS bs l i=true)(s:ByteArray)(q:Int)(F:Int×Int)(w:c.toNat=34)(r:∀V,Calls prog 72 #[.agg (inA bs fm d l),.int .i64 i] V fun e B=>e=.returned (.tuple #[.string s,.int .i64 q,.agg (qqp F)])/\Below V.heap.size V B)(u:RdE (k+1) bs lim W R (thA 4 0 s qxE qxE) q F):Calls prog 45 #[.agg (inA bs fm d l),.int .i64 i,.int .i64 G] W (qxJ (k+1) bs lim W R):=by
 have I:=q3a j w;have H:=ltL j;have p:=qy9 fm d t;have z:=qzA W bs fm d l;have x:=qaa u;clear t j w u;unfold inA at *;go_enter func45,ntmps45
 go_wp2_with (first
  |(go_at_call 43;refine z.out.ck (p _) ?_;clear p;intro J A C D c2 E)
  |(go_at_call 72;refine ck (r _) A.out.next ?_;clear r C D c2 E;intro b n)
  |((with_reducible refine zF _ _ rfl rfl (b.heap.size) F ?_ ?_);exact⟨rfl,rfl,qac b _⟩;refine nmd ?_;intro o g;have f:Hid (RTh W (inA bs fm d l) o):=g▸n.out.next (qxV _ _);have y:Hid (o.heap[b.heap.size]? = some (.cells (qqp F) 57)):=g▸setRow_heap _ _ _ _ _ _ (qac _ _);have m:Hid (W.heap.size+2<b.heap.size):=ltA n.out.flt;clear g;generalize b.heap.size=M at *))
 refine rgn (S:=fun Z=>Z.heap[M]? = some (.cells (qqp F) 57)) (y.out) (by kernel_rfl) ?_;intro a;refine tkk 0 77 (.string s) (by kernel_rfl) iQ3 a ?_;refine tk 1 78 (.agg (thA 4 0 s qxE qxE)) rfl (by kernel_rfl) iQ3 (fun Z v => ?y0) a ?_
 case y0=>(unfold thA qxE;go_simp)
 refine tkk 2 79 (.int .i64 q) (by kernel_rfl) iQ3 a ?_;refine tk 3 80 (.agg (qqp F)) rfl (by kernel_rfl) iQ3 (fun Z v=>yF _ v rfl rfl) a ?_;have h:=(setRow_other _ (W.heap.size+1) M (thA 4 0 s qxE qxE) (by have:=m.out;omega)).trans a;refine sTh 4 6 78 (W.heap.size+1) (thA 4 0 s qxE qxE) (by kernel_rfl) (f.out.drew.th) thg h ?_;refine tkk 5 7 (.int .i64 q) (by kernel_rfl) iQ3 h ?_;refine sF 6 8 80 (W.heap.size+2) F (by kernel_rfl) (qxT f.out.drew bwR _) (sx (by have:=m.out;omega) h) ?_;refine wpAnyH_done (by kernel_rfl) ?_ _;go_simp;go_wp2;refine eoT results45 (qxK f.out.drew bwR _ _) (.int .i64 q) rfl rfl rfl rfl (x.out _ (qxK f.out.drew bwR _ _).2.2)
theorem qyK (k:Nat)(W:World)(bs:List UInt8)(fm d l lim:Int)(i:Nat)(r:Int)(c:UInt8)(j:bs[i]? = some c)(a:qxS bs l i=true)(b:((c.toNat=91\/c.toNat=123)/\∀V,Calls prog 73 #[.agg (inA bs fm d l),.int .i64 i,.int .i64 r] V (qxJ (k+1) bs lim V R))\/((c.toNat=45\/(48<=(c.toNat:Int)/\(c.toNat:Int)<=57))/\∀V,Calls prog 74 #[.agg (inA bs fm d l),.int .i64 i] V (qxJ (k+1) bs lim V R))):Calls prog 45 #[.agg (inA bs fm d l),.int .i64 i,.int .i64 r] W (qxJ (k+1) bs lim W R):=by
 have ad:=ltL j;have q:=qy9 fm d a;have w:=qzA W bs fm d l;clear a;unfold inA at *;rcases b with ⟨b|b,n⟩|⟨b|⟨ab,ac⟩,n⟩
 all_goals
  have p:=qaa n;clear n
  first
   |(have J:=q3a j b;clear b)
   |(have J:=qxF bs i c j;have af:=nec (c:=c) 110 (by omega);have ae:=nec (c:=c) 102 (by omega);have ag:=nec (c:=c) 116 (by omega);have ai:=nec (c:=c) 34 (by omega);have ak:=nec (c:=c) 91 (by omega);have ah:=nec (c:=c) 123 (by omega);have aj:=nec (c:=c) 45 (by omega))
  clear j;go_enter func45,ntmps45
  go_wp2_with (first
   |(go_at_call 43;refine w.out.ck (q _) ?_;clear q;intro w2 m D E c2 G))
  refine(p.out _).mono ?_;clear D E c2 G p;rintro y w3 o;have L:=ltA m.out.flt;obtain⟨t,r',S,Y,s,A,N,P,C,e,U,z,F,K,rfl,I,hF⟩:=qyu o;have g:=qaa (m.out.next t);have v:=qaa o.2;clear o K I hF t;simp only[]
  go_wp2_with (first
   |((with_reducible refine zT 6 _ rfl rfl (W.heap.size+1) (thA S Y s (.slice A N P) (.slice C e U)) ?_ ?_);exact⟨rfl,rfl,g.out.th,thg⟩)
   |((with_reducible refine zF 8 _ rfl rfl (W.heap.size+2) F ?_ ?_);exact⟨rfl,rfl,qxT g.out bwR _⟩))
  refine eoT results45 (qxK g.out bwR _ _) (.int .i64 z) rfl rfl rfl rfl ⟨(qxK g.out bwR _ _).2.2,?_⟩;obtain⟨u,a,h⟩:=v.out;refine⟨u,a,?_⟩
  cases u with
  |error aa=>exact h
  |ok al =>
   obtain⟨a,Q,X,f,x,M,O,B,Z,T,h,H⟩:=h;exact⟨a,Q,X,f,x,M,O,B,Z,T,h,q2Z H m.out.below.size L⟩

def qyq (k:Nat)(V:World)(b:Nat)(u:Value)(ex:Nat->Prop)(ds:List (DataW Unit)):Prop :=
 ∃xs,V.ownsRow b 55 5 u ds.length xs/\∀(i:Nat) (d:DataW Unit),ds[i]? = some d->∃a,qz1 xs i a/\qxY k V (fun j=>b<=j/\j<V.heap.size/\some j≠u.ownBlock/\¬ex j) (.agg a) d
theorem qy0 {base:Nat}{e:TypeId}{size:Nat}(c:W.ownsRow base e size v n xs)(h:v.ownBlock=some g):g<W.heap.size:=by
 rcases c.2 with ⟨a,_⟩|⟨i,d,f,rfl,_,b,_⟩
 ·subst a;cases h
 cases h;exact ltA b
theorem q1z {t:TypeId}{size:Nat}(h:V.ownsRow b t size u n xs)(l:∀j,b<=j->j<V.heap.size->V'.heap[j]? = V.heap[j]?):V'.ownsRow b t size u n xs:=by
 refine⟨h.1,?_⟩;rcases h.2 with i|⟨g,d,f,e,a,c,k⟩
 ·exact .inl i
 exact .inr ⟨g,d,f,e,a,(l g a (ltA c)).trans c,k⟩
theorem qyq.next (h:qyq k V b u ex ds)(p:V.heap.size<=V'.heap.size)(e:∀j,b<=j->j<V.heap.size->V'.heap[j]? = V.heap[j]?):qyq k V' b u ex ds:=by
 obtain⟨o,l,m⟩:=h;refine⟨o,q1z l e,fun i d n => ?_⟩;obtain⟨a,f,g⟩:=m i d n;exact⟨a,f,g.same (fun j c=>⟨c.1,by have:=c.2.1;omega,c.2.2⟩) (fun j c=>e j c.1 c.2.1)⟩
theorem qzB {ys:List Value}(b:xs.length=n*5)(hi:i<n)(h:qz1 xs i a):qz1 (xs++ys) i a:=by
 unfold qz1 at *;rw[List.drop_append_of_le_length (by omega),List.take_append_of_le_length (by rw[List.length_drop];omega)];exact h
theorem qzr (c:xs.length=n*5)(b:a.size=5):qz1 (xs++a.toList) n a:=by
 unfold qz1;rw[show 5*n=xs.length by omega,List.drop_left,List.take_of_length_le (by simp;omega)]
theorem qyq.push {w5:World}{L:Nat}{v':Value}{o:Obj}(m:V.ownsRow b 55 5 u ds.length xs)(y:∀(i:Nat) (d:DataW Unit),ds[i]? = some d->∃a,qz1 xs i a/\qxY k V (fun j=>b<=j/\j<V.heap.size/\some j≠u.ownBlock/\¬ex j) (.agg a) d)(C:qxY k V (fun j=>L<=j/\j<V.heap.size) (.agg a) d)(z:∀g,u.ownBlock=some g->g<L)(E:b<=L)(B:∀j,L<=j->¬ex j)(A:a.size=5)(D:w5.ownsRow b 55 5 v' (ds.length+1) (xs++a.toList))(n:(V.alloc o).grownBy w5 u.ownBlock)(h:v'.ownBlock=u.ownBlock\/v'.ownBlock=some (V.alloc o).heap.size):qyq k w5 b v' ex (ds++[d]):=by
 have F:V.heap.size+1<=w5.heap.size:=by have:=n.size;simpa using this
 have q:∀j,j<V.heap.size->some j≠u.ownBlock->w5.heap[j]? = V.heap[j]?:=fun j c l=>(n.block j (by simp;omega) l).trans (Below.heap_alloc _ _ _ c);have r:∀j,j<V.heap.size->some j≠u.ownBlock->some j≠v'.ownBlock:=fun j c l=>by
  rcases h with h|h
  ·rw[h];exact l
  rw[h];intro e;injection e with e;simp at e;omega
 refine⟨xs++a.toList,by rw[List.length_append];exact D,fun i v f => ?_⟩;by_cases p:i<ds.length
 ·rw[List.getElem?_append_left p] at f;obtain⟨t,w,x⟩:=y i v f;exact⟨t,qzB m.1 p w,x.same (fun j c=>⟨c.1,by have:=c.2.1;omega,r j c.2.1 c.2.2.1,c.2.2.2⟩) (fun j c=>q j c.2.1 c.2.2.1)⟩
 have e:i=ds.length:=by
  have:=ltL f;rw[List.length_append] at this;simp at this;omega
 subst e;rw[List.getElem?_append_right (Nat.le_refl _),Nat.sub_self] at f;injection f with f;subst f;have s:∀j,L<=j->some j≠u.ownBlock:=fun j c e=>by have:=z j e.symm;omega
 exact⟨a,qzr m.1 A,C.same (fun j c=>⟨by have:=c.1;omega,by have:=c.2;omega,r j c.2 (s j c.1),B j c.1⟩) (fun j c=>q j c.2 (s j c.1))⟩
theorem qyq.list (h:qyq k V b u ex ds)(q:B<=b):qxY (k+1) V (fun j=>B<=j/\j<V.heap.size) (.agg (thA 6 0 ⟨#[]⟩ qxE u)) (.agg ds):=by
 obtain⟨p,l,m⟩:=h;refine⟨u,p,rfl,qym l _ (fun g r o=>⟨by omega,o⟩),fun i d n => ?_⟩;obtain⟨a,e,f⟩:=m i d n;exact⟨a,e,f.same (fun j c=>⟨by have:=c.1;omega,c.2.1⟩) (fun _ _=>rfl)⟩
theorem qzo (k:Nat)(V:World)(b:Nat)(a:Nat->Prop):qyq k V b qxE a []:=⟨[],World.ownsRow_nil _ _ _ _,fun i d h=>by simp at h⟩
def q2k {α:Type}(bs:List UInt8)(lim:Int)(itF:α->Nat->Except (Int×Int) (α×Nat))(last g p1:Nat)(acc:α):Except (Int×Int) (α×Nat):=match itF acc p1 with
   |.error e=>.error e
   |.ok (acc',p2)=>match spF bs lim (bs.length+1-p2) p2 with
    |.error e=>.error e
    |.ok (_,p3)=>match bs[p3]? with
     |none=>.error (9,p3)
     |some c=>if (p3:Int)=lim then .error (8,p3) else if c.toNat=last then .ok (acc',p3+1) else if c.toNat=44 then qgW bs lim itF last g (p3+1) acc' else .error (9,p3)
theorem qzy {α:Type}(bs:List UInt8)(lim:Int)(b:α->Nat->Except (Int×Int) (α×Nat))(last g p:Nat)(a:α):qgW bs lim b last (g+1) p a=match spF bs lim (bs.length+1-p) p with
  |.error e=>.error e
  |.ok (_,p1)=>q2k bs lim b last g p1 a:=by
 rw[qgW];rfl
def qyU {α:Type}(bs:List UInt8)(lim:Int)(itF:α->Nat->Except (Int×Int) (α×Nat))(last g p:Nat)(acc:α)(R:Except (Int×Int) (α×Nat)):Prop :=
 InR bs lim p/\((∃g',g=g'+1/\q2k bs lim itF last g' p acc=R)\/((p:Int)=lim/\p<bs.length/\R=.error (8,(p:Int))))
theorem q2c {α:Type}(f:Lm bs l lim){itF:α->Nat->Except (Int×Int) (α×Nat)}{acc:α}{R:Except (Int×Int) (α×Nat)}(hi:InR bs lim p)(a:qgW bs lim itF last (g+1) p acc=R):qyU bs lim itF last (g+1) (skR bs l (bs.length+1-p) p) acc R:=by
 rw[qzy] at a;rcases qyV f (bs.length+1-p) p hi with ⟨q,b,c,d,e,_⟩|⟨q,b,c,d,e⟩
 ·rw[b] at a;rw[c];exact⟨d,.inl ⟨g,rfl,a⟩⟩
 rw[b] at a;rw[c];exact⟨⟨by omega,by omega⟩,.inr ⟨d,e,a.symm⟩⟩

theorem Tryz.infoThR:(prog.info? 55).map (fun i=>(i.zero,i.size,i.bytes))=some (some (.agg th0),5,80):=by kernel_rfl
structure qyz (W:World)(A:Array Value)(y:Array Value)(V:World):Prop where
 box:V.heap[W.heap.size]? = some (.cells A 77)
 th:V.heap[W.heap.size+1]? = some (.cells th0 55)
 flt:V.heap[W.heap.size+2]? = some (.cells (qqp (0,0)) 57)
 tv:V.heap[W.heap.size+3]? = some (.cells y 55)
 below:Below W.heap.size W V
theorem qyz.rth (h:qyz W A y V):RTh W A V:=⟨h.box,h.th,h.flt,h.below⟩
theorem qyz.next (h:qyz W A y V)(a:Below V.heap.size V V'):qyz W A y V' :=
 ⟨(a.block _ (ltA h.box)).trans h.box,(a.block _ (ltA h.th)).trans h.th,(a.block _ (ltA h.flt)).trans h.flt,(a.block _ (ltA h.tv)).trans h.tv,h.below.trans (a.mono h.below.size)⟩
theorem qyz.size (h:qyz W A y V):W.heap.size+4<=V.heap.size:=ltA h.tv
theorem q0p (W:World)(A y:Array Value):qyz W A y (((((W.alloc (.cells A 77)).alloc (.cells th0 55)).alloc (.cells (qqp (0,0)) 57)).alloc (.cells th0 55)).setRow (W.heap.size+3) y):=by
 have h:=q0S W A;have c:(((W.alloc (.cells A 77)).alloc (.cells th0 55)).alloc (.cells (qqp (0,0)) 57)).heap.size=W.heap.size+3:=by simp
 have b:=qac (((W.alloc (.cells A 77)).alloc (.cells th0 55)).alloc (.cells (qqp (0,0)) 57)) (.cells th0 55);rw[c] at b;generalize (((W.alloc (.cells A 77)).alloc (.cells th0 55)).alloc (.cells (qqp (0,0)) 57))=V at *;have a:=h.next (bwO (.cells th0 55))
 exact⟨sx (by omega) a.box,sx (by omega) a.th,sx (by omega) a.flt,setRow_heap _ _ _ _ _ _ b,qah a.below (by omega) _⟩
theorem q0j (W:World)(A:Array Value):((((W.alloc (.cells A 77)).alloc (.cells th0 55)).alloc (.cells (qqp (0,0)) 57)).alloc (.cells th0 55)).heap[W.heap.size+3]? = some (.cells th0 55):=by
 have b:(((W.alloc (.cells A 77)).alloc (.cells th0 55)).alloc (.cells (qqp (0,0)) 57)).heap.size=W.heap.size+3:=by simp
 have a:=qac (((W.alloc (.cells A 77)).alloc (.cells th0 55)).alloc (.cells (qqp (0,0)) 57)) (.cells th0 55);rw[b] at a;exact a
theorem qzV (wr b:World)(a:Array Value)(f:Array Value)(c:Below (wr.heap.size+2) ((wr.alloc (.cells (qqp (0,0)) 57)).alloc (.cells th0 55)) b):Below wr.heap.size wr ((b.setRow (wr.heap.size+1) a).setRow wr.heap.size f) :=
 qah (qah (((bwA).alloc (by simp) _).trans (c.mono (by omega))) (by omega) _) (Nat.le_refl _) _
def liR (r:Except (Int×Int) (List (DataW Unit)×Nat)):Except (Int×Int) (DataW Unit×Nat):=match r with
 |.error e=>.error e
 |.ok (ds,q)=>.ok (.agg ds,q)
theorem q0w (h:∀a,spF bs lim a q=.ok ((),q))(b:bs[q]? = some c):¬(q:Int)=lim:=fun e=>by
 have:=h 1;rw[spF,b] at this;simp only[] at this;rw[if_pos e] at this;cases this
theorem qza {α:Type}(n:Lm bs l lim){itF:α->Nat->Except (Int×Int) (α×Nat)}{p1:Nat}{acc:α}{R:Except (Int×Int) (α×Nat)}(hi:InR bs lim p)(f:p1=skR bs l (bs.length+1-p) p)(a:qe4 bs lim itF last p acc=R):InR bs lim p1/\((∃c,bs[p1]? = some c/\qxS bs l p1=true/\c.toNat=last/\R=.ok (acc,p1+1)/\InR bs lim (p1+1))\/((qxS bs l p1=false\/∃c,bs[p1]? = some c/\qxS bs l p1=true/\¬c.toNat=last)/\qyU bs lim itF last (bs.length+1-p1) p1 acc R)):=by
 unfold qe4 at a;rcases qyV n (bs.length+1-p) p hi with ⟨q,i,j,b,k,w⟩|⟨q,i,j,b,k⟩
 ·rw[j] at f;subst f;rw[i] at a;simp only[] at a;have u:=w (by have:=hi.1;omega);refine⟨b,?_⟩;have v:∀h,qgW bs lim itF last (bs.length+1-p1) p1 acc=h->qyU bs lim itF last (bs.length+1-p1) p1 acc h:=fun h m=>by
   obtain⟨g,s⟩:∃g,bs.length+1-p1=g+1:=⟨bs.length-p1,by have:=b.1;omega⟩
   rw[s] at m ⊢;rw[qzy,s,u (g+1)] at m;exact⟨b,.inl ⟨g,rfl,m⟩⟩
  cases d:bs[p1]? with
  |none =>
   rw[d] at a;exact .inr ⟨.inl (qxX d),v R a⟩
  |some c =>
   rw[d] at a;simp only[] at a;have o:=q0w u d;rw[if_neg o] at a;have t:=qyb n b d o;by_cases e:c.toNat=last
   ·rw[if_pos e] at a;exact .inl ⟨c,rfl,t,e,a.symm,qxG b d o⟩
   rw[if_neg e] at a;exact .inr ⟨.inr ⟨c,rfl,t,e⟩,v R a⟩
 rw[j] at f;subst f;rw[i] at a;simp only[] at a;obtain⟨c,d⟩:∃c,bs[p1]? = some c:=⟨_,List.getElem?_eq_getElem k⟩
 have r:InR bs lim p1:=⟨by omega,by omega⟩
 exact⟨r,.inr ⟨.inl (qxZ n d b),r,.inr ⟨b,k,a.symm⟩⟩⟩
theorem qz2 {α:Type}(e:Lm bs l lim){itF:α->Nat->Except (Int×Int) (α×Nat)}{p2 p3:Nat}{acc acc':α}{R:Except (Int×Int) (α×Nat)}(hi:InR bs lim p2)(j:p3=skR bs l (bs.length+1-p2) p2)(r:itF acc p=.ok (acc',p2))(a:q2k bs lim itF last g p acc=R):InR bs lim p3/\p2<=p3/\((qxS bs l p3=false/\R=.error (qr0 bs l p3 9))\/∃c,bs[p3]? = some c/\qxS bs l p3=true/\((c.toNat=last/\R=.ok (acc',p3+1)/\InR bs lim (p3+1))\/(¬c.toNat=last/\c.toNat=44/\InR bs lim (p3+1)/\qgW bs lim itF last g (p3+1) acc'=R)\/(¬c.toNat=last/\¬c.toNat=44/\R=.error (qr0 bs l p3 9)))):=by
 unfold q2k at a;rw[r] at a;simp only[] at a;rcases qyV e (bs.length+1-p2) p2 hi with ⟨q,k,m,d,n,o⟩|⟨q,k,m,d,n⟩
 ·rw[m] at j;subst j;rw[k] at a;simp only[] at a;refine⟨d,n,?_⟩
  cases b:bs[p3]? with
  |none =>
   rw[b] at a;exact .inl ⟨qxX b,by rw[qyc d.1 b];exact a.symm⟩
  |some c =>
   rw[b] at a;simp only[] at a;have h:=q0w (o (by have:=hi.1;omega)) b;rw[if_neg h] at a;refine .inr ⟨c,rfl,qyb e d b h,?_⟩;by_cases f:c.toNat=last
   ·rw[if_pos f] at a;exact .inl ⟨f,a.symm,qxG d b h⟩
   rw[if_neg f] at a;by_cases i:c.toNat=44
   ·rw[if_pos i] at a;exact .inr (.inl ⟨f,i,qxG d b h,a⟩)
   rw[if_neg i] at a;exact .inr (.inr ⟨f,i,by rw[qxN e d b h];exact a.symm⟩)
 rw[m] at j;subst j;rw[k] at a;simp only[] at a;obtain⟨c,b⟩:∃c,bs[p3]? = some c:=⟨_,List.getElem?_eq_getElem n⟩
 refine⟨⟨by omega,by omega⟩,by have:=hi.2;omega,.inl ⟨qxZ e b d,?_⟩⟩;rw[qxW e b d];exact a.symm
theorem q0v (b:Lm bs l lim)(d:(q:Int)=lim)(h:q<bs.length):skR bs l (bs.length+1-q) q=q/\qxS bs l q=false/\qr0 bs l q 9=(8,(q:Int)):=by
 obtain⟨c,f⟩:∃c,bs[q]? = some c:=⟨_,List.getElem?_eq_getElem h⟩
 refine⟨?_,qxZ b f d,qxW b f d 9⟩;rcases qyV b (bs.length+1-q) q ⟨by omega,by omega⟩ with ⟨j,g,a,e,i,_⟩|⟨j,g,a,e,i⟩
 ·have:=e.2;rw[a];omega
 rw[a];omega

end
end Go.Proofs.YtcokgepdckkjdaaGreatDoor
