import Derived.Test.YtpifimohecagoaaGreatDoorPq01
set_option maxRecDepth 100000
set_option maxHeartbeats 8000000
namespace Go.Proofs.YtpifimohecagoaaGreatDoor
open Go.Proofs.Tryz
variable{L:List (Int×Int)}{a b ecap h i j k l n s x:Nat}{c d:Int}{e:Int×Int}{m:Nat->Nat->Bool}{S:Nat->Bool}{W W' W0 w:World}{arr:Array Value}{ea:Option Addr}
section
open Go.RowKit Go.Deep
def Rch(L:List (Int×Int))(a b:Nat):Prop:=∀S:Nat->Prop,S a->(∀e,e∈L->S e.1.toNat->S e.2.toNat)->S b
theorem Rch.refl(L:List (Int×Int))(a:Nat):Rch L a a:=λ_ h _=>h
theorem Rch.trans{c:Nat}(h:Rch L a b)(k:Rch L b c):Rch L a c:=λS e d=>k S (h S e d) d
theorem Rch.edge(h:e∈L):Rch L e.1.toNat e.2.toNat:=λ_ a b=>b e h a
theorem qpg(h:m i j=true):qoP m e i j=true:=by
 unfold qoP upd;split<;>simp_all
theorem qq8(m:Nat->Nat->Bool)(e:Int×Int):qoP m e e.1.toNat e.2.toNat=true:=by simp[qoP,upd]
theorem qhX(L:List (Int×Int)):∀(m:Nat->Nat->Bool) (i j:Nat),m i j=true->L.foldl qoP m i j=true:=by
 induction L with
 |nil=>intro m i j h;exact h
 |cons e L a=>intro m i j h;exact a _ i j (qpg h)
theorem qpv(L:List (Int×Int)):∀(m:Nat->Nat->Bool) (e:Int×Int),e∈L->L.foldl qoP m e.1.toNat e.2.toNat=true:=by
 induction L with
 |nil=>intro m e h;cases h
 |cons x L a =>
  intro m e h
  cases List.mem_cons.1 h with
  |inl h=>subst h;exact qhX L _ _ _ (qq8 m e)
  |inr h=>exact a _ e h
theorem qlD(P:Nat->Nat->Prop)(L:List (Int×Int)):∀(m:Nat->Nat->Bool),(∀i j,m i j=true->P i j)->(∀e,e∈L->P e.1.toNat e.2.toNat)->∀i j,L.foldl qoP m i j=true->P i j:=by
 induction L with
 |nil=>intro m h _;exact h
 |cons x L f =>
  intro m h b;refine f (qoP m x) (λi j a=>?_) (λe d=>b e (List.mem_cons_of_mem _ d));unfold qoP upd at a;split at a
  ·rename_i c
   obtain⟨rfl,rfl⟩:=c;exact b x (List.mem_cons_self ..)
  exact h i j a
theorem ql0(h:qe5 n L i j=true):Rch L i j :=
 qlD (Rch L) L (qq7 n) (λi j b=>by have:=of_decide_eq_true b;rw[this.1];exact Rch.refl _ _) (λ_ a=>Rch.edge a) i j h
theorem qeG(H:fst n k m l h i j=true):m i j=true\/(m i k=true/\m k j=true):=by
 unfold fst at H;simp only[Bool.or_eq_true,Bool.and_eq_true]at H;rcases H with H|⟨_,H⟩
 ·exact .inl H
 exact .inr H
theorem qnk(H:m i j=true):fst n k m l h i j=true:=by
 unfold fst;rw[H];rfl
theorem qgl(hi:i<n)(c:j<n)(a:m i k=true)(b:m k j=true):fst n k m n 0 i j=true:=by
 unfold fst;rw[a,b,decide_eq_true (by omega)];simp
theorem qoJ:∀(k i j:Nat),qj3 n k (qe5 n L) i j=true->Rch L i j:=by
 intro k
 induction k with
 |zero=>intro i j h;exact ql0 h
 |succ k a =>
  intro i j h;rcases qeG h with h|⟨b,c⟩
  ·exact a i j h
  exact(a i k b).trans (a k j c)
theorem qkE(h:m i j=true):∀k,qj3 n k m i j=true:=by
 intro k
 induction k with
 |zero=>exact h
 |succ k a=>exact qnk a
theorem qol:∀(k:Nat),k<=n->∀c i j,c<k->i<n->j<n->qj3 n k m i c=true->qj3 n k m c j=true->qj3 n k m i j=true:=by
 intro k
 induction k with
 |zero=>intro _ c i j h;omega
 |succ k g =>
  intro v c i j t d f b a;have g:=g (by omega);have q:∀x,qj3 n (k+1) m x k=qj3 n k m x k:=λx=>qru n k (qj3 n k m) n 0 x;have s:∀x,qj3 n (k+1) m k x=qj3 n k m k x:=λx=>qmT n k (qj3 n k m) n 0 x;by_cases e:c=k
  ·subst e;rw[q]at b;rw[s]at a;exact qgl d f b a
  have o:c<k:=by omega
  have u:c<n:=by omega
  have p:k<n:=by omega
  rcases qeG b with b|⟨b,r⟩
  ·rcases qeG a with a|⟨a,l⟩
   ·exact qnk (g c i j o d f b a)
   exact qgl d f (g c i k o d p b a) l
  rcases qeG a with a|⟨a,l⟩
  ·exact qgl d f b (g c k j o p f r a)
  exact qgl d f b l
theorem qmi(c:qaV n L=true)(d:e∈L):e.1.toNat<n/\e.2.toNat<n:=by
 have:=List.all_eq_true.1 c e d;unfold qc9 at this;simp only[Bool.and_eq_true]at this;obtain⟨⟨a,b⟩,_⟩:=this;have f:=of_decide_eq_true a;have g:=of_decide_eq_true b;omega
theorem qsU(d:qaV n L=true)(f:a<n)(j:b<n):qcL n L a b=true↔Rch L a b:=by
 constructor
 ·exact qoJ n a b
 intro h;have:=h (λx=>x<n->qcL n L a x=true) (λ_=>qkE (qhX L _ _ _ (decide_eq_true ⟨rfl,f⟩)) n)
  (λe c g i=>qol n (Nat.le_refl _) e.1.toNat a e.2.toNat (qmi d c).1 f i (g (qmi d c).1) (qkE (qpv L _ e c) n))
 exact this j
theorem qqo(h:S x=true):qkY S k x=true:=by unfold qkY;split<;>simp_all
theorem qih(h:S x=true):qhD S e x=true:=by
 unfold qhD;split
 ·exact qqo h
 exact h
theorem qcW(L:List (Int×Int)):∀{S:Nat->Bool} {x:Nat},S x=true->qbj L S x=true:=by
 unfold qbj
 induction L with
 |nil=>intro S x h;exact h
 |cons e L a=>intro S x h;exact a (qih h)
theorem qlI(L:List (Int×Int)):∀{S:Nat->Bool} {e:Int×Int},e∈L->S e.1.toNat=true->qbj L S e.2.toNat=true:=by
 induction L with
 |nil=>intro S e h;cases h
 |cons x L b =>
  intro S e h a
  cases List.mem_cons.1 h with
  |inl h =>
   subst h;refine qcW L (S:=qhD S e) ?_;unfold qhD;rw[if_pos a];simp[qkY]
  |inr h=>exact b (S:=qhD S x) h (qih a)
theorem qfy(P:Nat->Prop)(L:List (Int×Int)):∀{S:Nat->Bool},(∀x,S x=true->P x)->(∀e,e∈L->P e.1.toNat->P e.2.toNat)->∀x,qbj L S x=true->P x:=by
 induction L with
 |nil=>intro S h _;exact h
 |cons e L g =>
  intro S h b;refine g (S:=qhD S e) (λx a=>?_) (λd f=>b d (List.mem_cons_of_mem _ f));unfold qhD at a;split at a
  ·rename_i hs
   unfold qkY at a;split at a
   ·rename_i c;subst c;exact b e (List.mem_cons_self ..) (h _ hs)
   exact h x a
  exact h x a
def qnU(L:List (Int×Int))(S:Nat->Bool):Prop:=∀e,e∈L->S e.1.toNat=true->S e.2.toNat=true
theorem qgJ(h:qnU L S):qbj L S=S:=by
 funext x;cases a:S x
 ·cases b:qbj L S x
  ·rfl
  have:=qfy (λx=>S x=true) L (S:=S) (λ_ h=>h) h x b;rw[a]at this;cases this
 exact qcW L a
def cnt(n:Nat)(S:Nat->Bool):Nat:=((List.range n).filter S).length
theorem qzb(n:Nat)(S:Nat->Bool):cnt n S<=n:=by
 have:=List.length_filter_le S (List.range n);simpa[cnt]using this
theorem qpM{T:Nat->Bool}(f:∀x,S x=true->T x=true):∀(l:List Nat) (y:Nat),y∈l->S y=false->T y=true->(l.filter S).length<(l.filter T).length:=by
 have g:∀l:List Nat,(l.filter S).length<=(l.filter T).length:=by
  intro l
  induction l with
  |nil=>simp
  |cons x l c =>
   cases a:S x
   ·rw[List.filter_cons_of_neg (by simp[a])];exact Nat.le_trans c (by rw[List.filter_cons];split<;>simp)
   rw[List.filter_cons_of_pos a,List.filter_cons_of_pos (f x a)];simp only[List.length_cons];omega
 intro l
 induction l with
 |nil=>intro y b;cases b
 |cons x l c =>
  intro y b d e
  cases List.mem_cons.1 b with
  |inl h =>
   subst h;rw[List.filter_cons_of_neg (by simp[d]),List.filter_cons_of_pos e];have:=g l;simp only[List.length_cons];omega
  |inr h =>
   have:=c y h d e;cases a:S x
   ·rw[List.filter_cons_of_neg (by simp[a])];exact Nat.lt_of_lt_of_le this (by rw[List.filter_cons];split<;>simp)
   rw[List.filter_cons_of_pos a,List.filter_cons_of_pos (f x a)];simp only[List.length_cons];omega
theorem qml(g:qaV n L=true)(i:a<n):∀k,qnU L (qa2 L k (qaB a))\/k+1<=cnt n (qa2 L k (qaB a)):=by
 intro k
 induction k with
 |zero =>
  right;have:0<((List.range n).filter (qaB a)).length:=List.length_pos_of_mem (a:=a) (List.mem_filter.2 ⟨List.mem_range.2 i,by simp[qaB,qkY]⟩);exact this
 |succ k m =>
  rcases m with h|h
  ·left;show qnU L (qbj L (qa2 L k (qaB a)));rw[qgJ h];exact h
  by_cases f:qnU L (qa2 L k (qaB a))
  ·left;show qnU L (qbj L (qa2 L k (qaB a)));rw[qgJ f];exact f
  right;have:∃e,e∈L/\qa2 L k (qaB a) e.1.toNat=true/\qa2 L k (qaB a) e.2.toNat=false:=by
   apply Classical.byContradiction;intro j;refine f (λe b c=>?_);cases d:qa2 L k (qaB a) e.2.toNat
   ·exact absurd ⟨e,b,c,d⟩ j
   rfl
  obtain⟨e,b,c,d⟩:=this;have o:=qpM (S:=qa2 L k (qaB a)) (T:=qbj L (qa2 L k (qaB a))) (λx l=>qcW L l) (List.range n) e.2.toNat (List.mem_range.2 (qmi g b).2) d (qlI L b c);show k+1+1<=((List.range n).filter (qbj L (qa2 L k (qaB a)))).length;unfold cnt at h;omega
theorem qjR:∀k x,qa2 L k (qaB a) x=true->Rch L a x:=by
 intro k
 induction k with
 |zero =>
  intro x h;have h:qaB a x=true:=h;unfold qaB qkY at h;split at h
  ·rename_i c;subst c;exact Rch.refl _ _
  cases h
 |succ k f =>
  intro x h;exact qfy (λx=>Rch L a x) L (S:=qa2 L k (qaB a)) f (λe d b=>b.trans (Rch.edge d)) x h
theorem qlH(h:S x=true):∀k,qa2 L k S x=true:=by
 intro k
 induction k with
 |zero=>exact h
 |succ k a=>exact qcW L a
theorem qna(c:qaV n L=true)(d:a<n):qbf n L a b=true↔Rch L a b:=by
 constructor
 ·exact qjR n b
 intro h;have e:qnU L (qa2 L n (qaB a)):=by
  rcases qml c d n with h|h
  ·exact h
  have:=qzb n (qa2 L n (qaB a));omega
 exact h (λx=>qa2 L n (qaB a) x=true) (qlH (by simp[qaB,qkY]) n) e
theorem qqt(c:qaV n L=true)(d:a<n)(e:b<n):qcL n L a b=qbf n L a b:=by
 rw[Bool.eq_iff_iff,qsU c d e,qna c d]
theorem qpL(b:qaV n L=true)(c:a<n):qbf n L a a=true:=(qna b c).2 (Rch.refl _ _)

structure qbT(s:Nat)(W0:World)(arr:Array Value)(ea:Option Addr)(L:List (Int×Int))(W:World):Prop where
 below:Below (s+1) W0 W
 box:W.heap[s]?=some (.cells arr 25)
 edges:qba W ea L
 size:s+1<=W.heap.size
theorem qbT.step(h:qbT s W0 arr ea L W)(a:Below W.heap.size W W'):qbT s W0 arr ea L W' :=
 ⟨h.below.trans (a.mono h.size),(a.block _ (by have:=h.size;omega)).trans h.box,h.edges.below a,Nat.le_trans h.size a.size⟩
theorem qgt(w:World)(arr:Array Value)(a:Option Addr)(L:List (Int×Int))(h:qba w a L):qbT w.heap.size (w.alloc (.cells arr 25)) arr a L (w.alloc (.cells arr 25)) :=
 ⟨Below.refl _ _,qac _ _,h.below bwA,by simp⟩
theorem qbT.cell(h:qbT s W0 arr ea L W)(j:Nat):W.cell? ⟨s,j,none⟩=arr[j]?:=qaa h.box j
theorem qbT.from_(h:qbT w.heap.size W0 arr ea L W)(a:Below w.heap.size w W0):Below w.heap.size w W:=a.trans (h.below.mono (by omega))
structure qj7(arr:Array Value)(n:Nat)(L:List (Int×Int))(ea:Option Addr)(ecap:Nat):Prop where
 cfg:qzQ arr n L ea ecap
 hn:n<=6
 hL:L.length<=30
 hE:qaV n L=true
theorem qdC(H:qj7 arr n L ea ecap)(a b:Nat)(c:a<n)(d:b<n)(h:qbT s W0 arr ea L W):Calls prog 34 #[.agg arr,.int .i64 a,.int .i64 b] W λe i=>e=.returned (.bool (qbf n L a b))/\qbT s W0 arr ea L i :=
 (qwC arr n L ea ecap H.cfg H.hn H.hL H.hE a b c d W h.edges).mono λ_ _ ⟨g,f⟩=>⟨g,h.step f⟩
theorem qtj(arr:Array Value)(n:Nat)(L:List (Int×Int))(s:Option Addr)(T:Nat)(H:qj7 arr n L s T)(a b:Nat)(Y:a<n)(Z:b<n)(w:World)(U:qba w s L):Calls prog 35 #[.agg arr,.int .i64 a,.int .i64 b] w λe X=>∃r:Int,e=.returned (.int .i64 r)/\Hid (decide (r<0) = !qa4 n (qbf n L) a b)/\Below w.heap.size w X:=by
 have G:=H.cfg.f0;have hn:=H.hn;have d:=qab (qaA H.cfg.size);have p:=qab H;have S:=qab (qgt w arr s L U);have M:Hid (Below w.heap.size w (w.alloc (.cells arr 25))):=bwA;go_enter func35,ntmps35;go_wp2;generalize w.alloc (.cells arr 25)=W0 at *
 go_loopg[7,8,9] n (λg x y aa wr=>∃k:Nat,Hid (k+g=n)/\x=.int .i64 k/\Hid (qbT w.heap.size W0 arr s L wr)/\Hid (∀j,j<k->qaS n (qbf n L) a b j=false))
 case atStart=>exact⟨0,by show _=_;omega,rfl,S,λj D=>by omega⟩
 case round =>
  obtain⟨k,t,rfl,c,v⟩:=hrel;have K:=(c.out.cell 0).trans G
  cases gk with
  |zero =>
   have V:¬(k:Int)<n:=by have:=t.out;omega
   go_wp2;go_ret;exact⟨-1,rfl,by show _=_;rw[qfv (λj D=>v.out j (by have:=t.out;omega))];rfl,c.out.from_ M.out⟩
  |succ g =>
   have V:(k:Int)<n:=by have:=t.out;omega
   cases B:qbf n L a k
   ·have l:Hid (qaS n (qbf n L) a b k=false):=by show _=_;unfold qaS ubB;simp[B]
    go_wp2_with(first
     |(refine wpList_load_row rfl 25 _ rfl _ rfl _ _ _ _ c.out.box underlying25 rfl d.out ?_)
     |(refine qaf 25 _ rfl rfl _ rfl _ _ _ _ c.out.box underlying25 rfl d.out ?_)
     |(go_at_call 34;refine(qdC p.out _ _ (by omega) (by omega) c.out).mono ?_;rintro e u ⟨rfl,f⟩;have c:=qab f))
    go_loopg[9,8] 0 (λg x y wr=>x=.int .i64 0/\y=.bool false/\Hid (qbT w.heap.size W0 arr s L wr))
    case atStart=>exact⟨rfl,rfl,c⟩
    case round =>
     obtain⟨rfl,rfl,c⟩:=hrel;have K:=(c.out.cell 0).trans G;go_wp2;go_roundg g
     case measure=>omega
     case rel =>
      refine⟨k+1,by show _=_;have:=t.out;omega,by go_num,c,λj D=>?_⟩;by_cases e:j=k
      ·subst e;exact l.out
      exact v.out j (by omega)
   cases C:qbf n L b k
   ·have l:Hid (qaS n (qbf n L) a b k=false):=by show _=_;unfold qaS ubB;simp[C]
    go_wp2_with(first
     |(refine wpList_load_row rfl 25 _ rfl _ rfl _ _ _ _ c.out.box underlying25 rfl d.out ?_)
     |(refine qaf 25 _ rfl rfl _ rfl _ _ _ _ c.out.box underlying25 rfl d.out ?_)
     |(go_at_call 34;refine(qdC p.out _ _ (by omega) (by omega) c.out).mono ?_;rintro e u ⟨rfl,f⟩;have c:=qab f))
    go_loopg[9,8] 0 (λg x y wr=>x=.int .i64 0/\y=.bool false/\Hid (qbT w.heap.size W0 arr s L wr))
    case atStart=>exact⟨rfl,rfl,c⟩
    case round =>
     obtain⟨rfl,rfl,c⟩:=hrel;have K:=(c.out.cell 0).trans G;go_wp2;go_roundg g
     case measure=>omega
     case rel =>
      refine⟨k+1,by show _=_;have:=t.out;omega,by go_num,c,λj D=>?_⟩;by_cases e:j=k
      ·subst e;exact l.out
      exact v.out j (by omega)
   have R:Hid (ubB (qbf n L) a b k=true):=by show _=_;unfold ubB;simp[B,C]
   go_wp2_with(first
    |(refine wpList_load_row rfl 25 _ rfl _ rfl _ _ _ _ c.out.box underlying25 rfl d.out ?_)
    |(refine qaf 25 _ rfl rfl _ rfl _ _ _ _ c.out.box underlying25 rfl d.out ?_)
    |(go_at_call 34;refine(qdC p.out _ _ (by omega) (by omega) c.out).mono ?_;rintro e u ⟨rfl,f⟩;have c:=qab f))
   go_loopg[9,8] (n+1) (λg x y wr=>∃(q:Nat) (o:Bool),Hid (q+g=n+1)/\x=.int .i64 q/\y=.bool o/\Hid (qbT w.heap.size W0 arr s L wr)/\Hid (o=true->q<=n/\∀i,i<q->ubB (qbf n L) a b i=true->(qbf n L) k i=true)/\Hid (o=false->qaS n (qbf n L) a b k=false))
   case atStart=>exact⟨0,true,by show _=_;omega,rfl,rfl,c,λ_=>⟨by omega,λi J=>by omega⟩,λh=>by cases h⟩
   case round =>
    obtain⟨q,o,E,rfl,rfl,c,N,Q⟩:=hrel;have K:=(c.out.cell 0).trans G
    cases o with
    |false =>
     have l:=qab (Q.out rfl);by_cases P:(q:Int)<n
     ·go_wp2;go_roundg g
      case measure=>omega
      case rel =>
       refine⟨k+1,by show _=_;have:=t.out;omega,by go_num,c,λj D=>?_⟩;by_cases e:j=k
       ·subst e;exact l.out
       exact v.out j (by omega)
     go_wp2;go_roundg g
     case measure=>omega
     case rel =>
      refine⟨k+1,by show _=_;have:=t.out;omega,by go_num,c,λj D=>?_⟩;by_cases e:j=k
      ·subst e;exact l.out
      exact v.out j (by omega)
    |true =>
     have z:=(N.out rfl).1;have F:=qab ((N.out rfl).2);by_cases W:q<n
     ·have P:(q:Int)<n:=by omega
      cases gk with
      |zero=>have:=E.out;omega
      |succ I =>
       cases B:qbf n L a q
       ·have A:Hid (ubB (qbf n L) a b q=true->(qbf n L) k q=true):=λh=>by unfold ubB at h;simp[B]at h
        go_wp2_with(first
         |(refine wpList_load_row rfl 25 _ rfl _ rfl _ _ _ _ c.out.box underlying25 rfl d.out ?_)
         |(refine qaf 25 _ rfl rfl _ rfl _ _ _ _ c.out.box underlying25 rfl d.out ?_)
         |(go_at_call 34;refine(qdC p.out _ _ (by omega) (by omega) c.out).mono ?_;rintro e u ⟨rfl,f⟩;have c:=qab f))
        go_roundg I
        case measure=>omega
        case rel=>exact⟨q+1,true,by show _=_;have:=E.out;omega,by go_num,rfl,c,(λ_=>⟨by omega,λi J m=>by by_cases e:i=q;(· subst e;exact A.out m);(· exact F.out i (by omega) m)⟩),(λh=>by cases h)⟩
       cases C:qbf n L b q
       ·have A:Hid (ubB (qbf n L) a b q=true->(qbf n L) k q=true):=λh=>by unfold ubB at h;simp[C]at h
        go_wp2_with(first
         |(refine wpList_load_row rfl 25 _ rfl _ rfl _ _ _ _ c.out.box underlying25 rfl d.out ?_)
         |(refine qaf 25 _ rfl rfl _ rfl _ _ _ _ c.out.box underlying25 rfl d.out ?_)
         |(go_at_call 34;refine(qdC p.out _ _ (by omega) (by omega) c.out).mono ?_;rintro e u ⟨rfl,f⟩;have c:=qab f))
        go_roundg I
        case measure=>omega
        case rel=>exact⟨q+1,true,by show _=_;have:=E.out;omega,by go_num,rfl,c,(λ_=>⟨by omega,λi J m=>by by_cases e:i=q;(· subst e;exact A.out m);(· exact F.out i (by omega) m)⟩),(λh=>by cases h)⟩
       cases O:qbf n L k q
       ·have l:Hid (qaS n (qbf n L) a b k=false):=qdA (k:=q) W (by unfold ubB;simp[B,C]) O
        go_wp2_with(first
         |(refine wpList_load_row rfl 25 _ rfl _ rfl _ _ _ _ c.out.box underlying25 rfl d.out ?_)
         |(refine qaf 25 _ rfl rfl _ rfl _ _ _ _ c.out.box underlying25 rfl d.out ?_)
         |(go_at_call 34;refine(qdC p.out _ _ (by omega) (by omega) c.out).mono ?_;rintro e u ⟨rfl,f⟩;have c:=qab f))
        go_roundg I
        case measure=>omega
        case rel=>exact⟨q+1,false,by show _=_;have:=E.out;omega,by go_num,rfl,c,(λh=>by cases h),(λ_=>l.out)⟩
       have A:Hid (ubB (qbf n L) a b q=true->(qbf n L) k q=true):=λ_=>O
       go_wp2_with(first
        |(refine wpList_load_row rfl 25 _ rfl _ rfl _ _ _ _ c.out.box underlying25 rfl d.out ?_)
        |(refine qaf 25 _ rfl rfl _ rfl _ _ _ _ c.out.box underlying25 rfl d.out ?_)
        |(go_at_call 34;refine(qdC p.out _ _ (by omega) (by omega) c.out).mono ?_;rintro e u ⟨rfl,f⟩;have c:=qab f))
       go_roundg I
       case measure=>omega
       case rel=>exact⟨q+1,true,by show _=_;have:=E.out;omega,by go_num,rfl,c,(λ_=>⟨by omega,λi J m=>by by_cases e:i=q;(· subst e;exact A.out m);(· exact F.out i (by omega) m)⟩),(λh=>by cases h)⟩
     have P:¬(q:Int)<n:=by omega
     have l:Hid (qaS n (qbf n L) a b k=true):=qgk R.out (λi J=>F.out i (by omega));go_wp2;go_ret;exact⟨k,rfl,by show _=_;rw[qdR (j:=k) (by omega) l.out,decide_eq_false (by omega)];rfl,c.out.from_ M.out⟩
theorem que(arr:Array Value)(n:Nat)(L:List (Int×Int))(s:Option Addr)(T:Nat)(H:qj7 arr n L s T)(a b:Nat)(Y:a<n)(Z:b<n)(w:World)(U:qba w s L):Calls prog 36 #[.agg arr,.int .i64 a,.int .i64 b] w λe X=>∃r:Int,e=.returned (.int .i64 r)/\Hid (decide (r<0) = !qa4 n (λi j=>qbf n L j i) a b)/\Below w.heap.size w X:=by
 have G:=H.cfg.f0;have hn:=H.hn;have d:=qab (qaA H.cfg.size);have p:=qab H;have S:=qab (qgt w arr s L U);have M:Hid (Below w.heap.size w (w.alloc (.cells arr 25))):=bwA;go_enter func36,ntmps36;go_wp2;generalize w.alloc (.cells arr 25)=W0 at *
 go_loopg[7,8,9] n (λg x y aa wr=>∃k:Nat,Hid (k+g=n)/\x=.int .i64 k/\Hid (qbT w.heap.size W0 arr s L wr)/\Hid (∀j,j<k->qaS n (λi j=>qbf n L j i) a b j=false))
 case atStart=>exact⟨0,by show _=_;omega,rfl,S,λj D=>by omega⟩
 case round =>
  obtain⟨k,t,rfl,c,v⟩:=hrel;have K:=(c.out.cell 0).trans G
  cases gk with
  |zero =>
   have V:¬(k:Int)<n:=by have:=t.out;omega
   go_wp2;go_ret;exact⟨-1,rfl,by show _=_;rw[qfv (λj D=>v.out j (by have:=t.out;omega))];rfl,c.out.from_ M.out⟩
  |succ g =>
   have V:(k:Int)<n:=by have:=t.out;omega
   cases B:qbf n L k a
   ·have l:Hid (qaS n (λi j=>qbf n L j i) a b k=false):=by show _=_;unfold qaS ubB;simp[B]
    go_wp2_with(first
     |(refine wpList_load_row rfl 25 _ rfl _ rfl _ _ _ _ c.out.box underlying25 rfl d.out ?_)
     |(refine qaf 25 _ rfl rfl _ rfl _ _ _ _ c.out.box underlying25 rfl d.out ?_)
     |(go_at_call 34;refine(qdC p.out _ _ (by omega) (by omega) c.out).mono ?_;rintro e u ⟨rfl,f⟩;have c:=qab f))
    go_loopg[9,8] 0 (λg x y wr=>x=.int .i64 0/\y=.bool false/\Hid (qbT w.heap.size W0 arr s L wr))
    case atStart=>exact⟨rfl,rfl,c⟩
    case round =>
     obtain⟨rfl,rfl,c⟩:=hrel;have K:=(c.out.cell 0).trans G;go_wp2;go_roundg g
     case measure=>omega
     case rel =>
      refine⟨k+1,by show _=_;have:=t.out;omega,by go_num,c,λj D=>?_⟩;by_cases e:j=k
      ·subst e;exact l.out
      exact v.out j (by omega)
   cases C:qbf n L k b
   ·have l:Hid (qaS n (λi j=>qbf n L j i) a b k=false):=by show _=_;unfold qaS ubB;simp[C]
    go_wp2_with(first
     |(refine wpList_load_row rfl 25 _ rfl _ rfl _ _ _ _ c.out.box underlying25 rfl d.out ?_)
     |(refine qaf 25 _ rfl rfl _ rfl _ _ _ _ c.out.box underlying25 rfl d.out ?_)
     |(go_at_call 34;refine(qdC p.out _ _ (by omega) (by omega) c.out).mono ?_;rintro e u ⟨rfl,f⟩;have c:=qab f))
    go_loopg[9,8] 0 (λg x y wr=>x=.int .i64 0/\y=.bool false/\Hid (qbT w.heap.size W0 arr s L wr))
    case atStart=>exact⟨rfl,rfl,c⟩
    case round =>
     obtain⟨rfl,rfl,c⟩:=hrel;have K:=(c.out.cell 0).trans G;go_wp2;go_roundg g
     case measure=>omega
     case rel =>
      refine⟨k+1,by show _=_;have:=t.out;omega,by go_num,c,λj D=>?_⟩;by_cases e:j=k
      ·subst e;exact l.out
      exact v.out j (by omega)
   have R:Hid (ubB (λi j=>qbf n L j i) a b k=true):=by show _=_;unfold ubB;simp[B,C]
   go_wp2_with(first
    |(refine wpList_load_row rfl 25 _ rfl _ rfl _ _ _ _ c.out.box underlying25 rfl d.out ?_)
    |(refine qaf 25 _ rfl rfl _ rfl _ _ _ _ c.out.box underlying25 rfl d.out ?_)
    |(go_at_call 34;refine(qdC p.out _ _ (by omega) (by omega) c.out).mono ?_;rintro e u ⟨rfl,f⟩;have c:=qab f))
   go_loopg[9,8] (n+1) (λg x y wr=>∃(q:Nat) (o:Bool),Hid (q+g=n+1)/\x=.int .i64 q/\y=.bool o/\Hid (qbT w.heap.size W0 arr s L wr)/\Hid (o=true->q<=n/\∀i,i<q->ubB (λi j=>qbf n L j i) a b i=true->(λi j=>qbf n L j i) k i=true)/\Hid (o=false->qaS n (λi j=>qbf n L j i) a b k=false))
   case atStart=>exact⟨0,true,by show _=_;omega,rfl,rfl,c,λ_=>⟨by omega,λi J=>by omega⟩,λh=>by cases h⟩
   case round =>
    obtain⟨q,o,E,rfl,rfl,c,N,Q⟩:=hrel;have K:=(c.out.cell 0).trans G
    cases o with
    |false =>
     have l:=qab (Q.out rfl);by_cases P:(q:Int)<n
     ·go_wp2;go_roundg g
      case measure=>omega
      case rel =>
       refine⟨k+1,by show _=_;have:=t.out;omega,by go_num,c,λj D=>?_⟩;by_cases e:j=k
       ·subst e;exact l.out
       exact v.out j (by omega)
     go_wp2;go_roundg g
     case measure=>omega
     case rel =>
      refine⟨k+1,by show _=_;have:=t.out;omega,by go_num,c,λj D=>?_⟩;by_cases e:j=k
      ·subst e;exact l.out
      exact v.out j (by omega)
    |true =>
     have z:=(N.out rfl).1;have F:=qab ((N.out rfl).2);by_cases W:q<n
     ·have P:(q:Int)<n:=by omega
      cases gk with
      |zero=>have:=E.out;omega
      |succ I =>
       cases B:qbf n L q a
       ·have A:Hid (ubB (λi j=>qbf n L j i) a b q=true->(λi j=>qbf n L j i) k q=true):=λh=>by unfold ubB at h;simp[B]at h
        go_wp2_with(first
         |(refine wpList_load_row rfl 25 _ rfl _ rfl _ _ _ _ c.out.box underlying25 rfl d.out ?_)
         |(refine qaf 25 _ rfl rfl _ rfl _ _ _ _ c.out.box underlying25 rfl d.out ?_)
         |(go_at_call 34;refine(qdC p.out _ _ (by omega) (by omega) c.out).mono ?_;rintro e u ⟨rfl,f⟩;have c:=qab f))
        go_roundg I
        case measure=>omega
        case rel=>exact⟨q+1,true,by show _=_;have:=E.out;omega,by go_num,rfl,c,(λ_=>⟨by omega,λi J m=>by by_cases e:i=q;(· subst e;exact A.out m);(· exact F.out i (by omega) m)⟩),(λh=>by cases h)⟩
       cases C:qbf n L q b
       ·have A:Hid (ubB (λi j=>qbf n L j i) a b q=true->(λi j=>qbf n L j i) k q=true):=λh=>by unfold ubB at h;simp[C]at h
        go_wp2_with(first
         |(refine wpList_load_row rfl 25 _ rfl _ rfl _ _ _ _ c.out.box underlying25 rfl d.out ?_)
         |(refine qaf 25 _ rfl rfl _ rfl _ _ _ _ c.out.box underlying25 rfl d.out ?_)
         |(go_at_call 34;refine(qdC p.out _ _ (by omega) (by omega) c.out).mono ?_;rintro e u ⟨rfl,f⟩;have c:=qab f))
        go_roundg I
        case measure=>omega
        case rel=>exact⟨q+1,true,by show _=_;have:=E.out;omega,by go_num,rfl,c,(λ_=>⟨by omega,λi J m=>by by_cases e:i=q;(· subst e;exact A.out m);(· exact F.out i (by omega) m)⟩),(λh=>by cases h)⟩
       cases O:qbf n L q k
       ·have l:Hid (qaS n (λi j=>qbf n L j i) a b k=false):=qdA (k:=q) W (by unfold ubB;simp[B,C]) O
        go_wp2_with(first
         |(refine wpList_load_row rfl 25 _ rfl _ rfl _ _ _ _ c.out.box underlying25 rfl d.out ?_)
         |(refine qaf 25 _ rfl rfl _ rfl _ _ _ _ c.out.box underlying25 rfl d.out ?_)
         |(go_at_call 34;refine(qdC p.out _ _ (by omega) (by omega) c.out).mono ?_;rintro e u ⟨rfl,f⟩;have c:=qab f))
        go_roundg I
        case measure=>omega
        case rel=>exact⟨q+1,false,by show _=_;have:=E.out;omega,by go_num,rfl,c,(λh=>by cases h),(λ_=>l.out)⟩
       have A:Hid (ubB (λi j=>qbf n L j i) a b q=true->(λi j=>qbf n L j i) k q=true):=λ_=>O
       go_wp2_with(first
        |(refine wpList_load_row rfl 25 _ rfl _ rfl _ _ _ _ c.out.box underlying25 rfl d.out ?_)
        |(refine qaf 25 _ rfl rfl _ rfl _ _ _ _ c.out.box underlying25 rfl d.out ?_)
        |(go_at_call 34;refine(qdC p.out _ _ (by omega) (by omega) c.out).mono ?_;rintro e u ⟨rfl,f⟩;have c:=qab f))
       go_roundg I
       case measure=>omega
       case rel=>exact⟨q+1,true,by show _=_;have:=E.out;omega,by go_num,rfl,c,(λ_=>⟨by omega,λi J m=>by by_cases e:i=q;(· subst e;exact A.out m);(· exact F.out i (by omega) m)⟩),(λh=>by cases h)⟩
     have P:¬(q:Int)<n:=by omega
     have l:Hid (qaS n (λi j=>qbf n L j i) a b k=true):=qgk R.out (λi J=>F.out i (by omega));go_wp2;go_ret;exact⟨k,rfl,by show _=_;rw[qdR (j:=k) (by omega) l.out,decide_eq_false (by omega)];rfl,c.out.from_ M.out⟩

def qdU(n:Nat)(m:Nat->Nat->Bool)(a b:Nat):Bool:=decide (n=n)&&(!(a==b)&&m a b&&m b a)
def qby(n:Nat)(m:Nat->Nat->Bool):Bool:=(List.range n).all λa=>(List.range n).all λb=>!qdU n m a b
theorem qgE(c:a<n)(d:b<n)(h:qdU n m a b=true):qby n m=false:=by
 unfold qby;rw[List.all_eq_false];refine⟨a,List.mem_range.2 c,?_⟩;rw[Bool.not_eq_true,List.all_eq_false];exact⟨b,List.mem_range.2 d,by rw[h];decide⟩
theorem qfH(h:∀a b,a<n->b<n->qdU n m a b=false):qby n m=true:=by
 unfold qby;rw[List.all_eq_true];intro a c;rw[List.all_eq_true];intro b d;rw[h a b (List.mem_range.1 c) (List.mem_range.1 d)];rfl
def qbI(n:Nat)(m:Nat->Nat->Bool)(a b:Nat):Bool:=qa4 n m a b&&qa4 n (λi j=>m j i) a b
def qb2(n:Nat)(m:Nat->Nat->Bool):Bool:=(List.range n).all λa=>(List.range n).all λb=>qbI n m a b
theorem qeo(c:a<n)(d:b<n)(h:qbI n m a b=false):qb2 n m=false:=by
 unfold qb2;rw[List.all_eq_false];refine⟨a,List.mem_range.2 c,?_⟩;rw[Bool.not_eq_true,List.all_eq_false];exact⟨b,List.mem_range.2 d,by rw[h];decide⟩
theorem qf7(h:∀a b,a<n->b<n->qbI n m a b=true):qb2 n m=true:=by
 unfold qb2;rw[List.all_eq_true];intro a c;rw[List.all_eq_true];intro b d;exact h a b (List.mem_range.1 c) (List.mem_range.1 d)
theorem qrD(H:qj7 arr n L ea ecap)(a b:Nat)(c:a<n)(d:b<n)(h:qbT s W0 arr ea L W):Calls prog 35 #[.agg arr,.int .i64 a,.int .i64 b] W λe j=>∃r:Int,e=.returned (.int .i64 r)/\Hid (decide (r<0) = !qa4 n (qbf n L) a b)/\qbT s W0 arr ea L j :=
 (qtj arr n L ea ecap H a b c d W h.edges).mono λ_ _ ⟨r,g,i,f⟩=>⟨r,g,i,h.step f⟩
theorem qug(H:qj7 arr n L ea ecap)(a b:Nat)(c:a<n)(d:b<n)(h:qbT s W0 arr ea L W):Calls prog 36 #[.agg arr,.int .i64 a,.int .i64 b] W λe l=>∃r:Int,e=.returned (.int .i64 r)/\Hid (decide (r<0) = !qa4 n (λi j=>qbf n L j i) a b)/\qbT s W0 arr ea L l :=
 (que arr n L ea ecap H a b c d W h.edges).mono λ_ _ ⟨r,g,k,f⟩=>⟨r,g,k,h.step f⟩
theorem qlU(arr:Array Value)(n:Nat)(L:List (Int×Int))(j:Option Addr)(F:Nat)(H:qj7 arr n L j F)(w:World)(G:qba w j L):Calls prog 20 #[.agg arr] w λe O=>e=.returned (.bool (qby n (qbf n L)))/\Below w.heap.size w O:=by
 have z:=H.cfg.f0;have P:=H.hn;have h:=qab (qaA H.cfg.size);have p:=qab H;have E:=qab (qgt w arr j L G);have s:Hid (Below w.heap.size w (w.alloc (.cells arr 25))):=bwA;go_enter func20,ntmps20;go_wp2;generalize w.alloc (.cells arr 25)=W0 at *
 go_loopg[3,4] n (λg x y wr=>∃k:Nat,Hid (k+g=n)/\x=.int .i64 k/\Hid (qbT w.heap.size W0 arr j L wr)/\Hid (∀a b,a<k->b<n->qdU n (qbf n L) a b=false))
 case atStart=>exact⟨0,by show _=_;omega,rfl,E,λa b A=>by omega⟩
 case round =>
  obtain⟨k,o,rfl,c,t⟩:=hrel;have I:=(c.out.cell 0).trans z
  cases gk with
  |zero =>
   have J:¬(k:Int)<n:=by have:=o.out;omega
   go_wp2;go_ret;exact⟨by rw[qfH (λa b A f=>t.out a b (by have:=o.out;omega) f)];rfl,c.out.from_ s.out⟩
  |succ g =>
   have J:(k:Int)<n:=by have:=o.out;omega
   go_wp2
   go_loopg[4] n (λg x wr=>∃q:Nat,Hid (q+g=n)/\x=.int .i64 q/\Hid (qbT w.heap.size W0 arr j L wr)/\Hid (∀b,b<q->qdU n (qbf n L) k b=false))
   case atStart=>exact⟨0,by show _=_;omega,rfl,c,λb f=>by omega⟩
   case round =>
    obtain⟨q,i,rfl,c,m⟩:=hrel;have I:=(c.out.cell 0).trans z
    cases gk with
    |zero =>
     have N:¬(q:Int)<n:=by have:=i.out;omega
     go_wp2;go_roundg g
     case measure=>omega
     case rel =>
      refine⟨k+1,by show _=_;have:=o.out;omega,by go_num,c,λa b A f=>?_⟩;by_cases e:a=k
      ·subst e;exact m.out b (by have:=i.out;omega)
      exact t.out a b (by omega) f
    |succ r =>
     have N:(q:Int)<n:=by have:=i.out;omega
     by_cases B:k=q
     ·have d:Hid (qdU n (qbf n L) k q=false):=by show _=_;unfold qdU;simp[B]
      have K:((k:Int)==q)=true:=beq_iff_eq.2 (by omega);have M:((k:Int) != q)=false:=by rw[bne_eq_false_iff_eq];omega
      go_wp2;go_roundg r
      case measure=>omega
      case rel =>
       refine⟨q+1,by show _=_;have:=i.out;omega,by go_num,c,λb f=>?_⟩;by_cases e:b=q
       ·subst e;exact d.out
       exact m.out b (by omega)
     have K:((k:Int)==q)=false:=beq_eq_false_iff_ne.2 (by omega);have M:((k:Int) != q)=true:=by rw[bne_iff_ne];omega
     have D:=qab (beq_eq_false_iff_ne.2 B);cases u:qbf n L k q
     ·have d:Hid (qdU n (qbf n L) k q=false):=by show _=_;unfold qdU;simp[u]
      go_wp2_with(first
       |(refine wpList_load_row rfl 25 _ rfl _ rfl _ _ _ _ c.out.box underlying25 rfl h.out ?_)
       |(refine qaf 25 _ rfl rfl _ rfl _ _ _ _ c.out.box underlying25 rfl h.out ?_)
       |(go_at_call 34;refine(qdC p.out _ _ (by omega) (by omega) c.out).mono ?_;rintro e C ⟨rfl,l⟩;have c:=qab l))
      go_roundg r
      case measure=>omega
      case rel =>
       refine⟨q+1,by show _=_;have:=i.out;omega,by go_num,c,λb f=>?_⟩;by_cases e:b=q
       ·subst e;exact d.out
       exact m.out b (by omega)
     cases v:qbf n L q k
     ·have d:Hid (qdU n (qbf n L) k q=false):=by show _=_;unfold qdU;simp[v]
      go_wp2_with(first
       |(refine wpList_load_row rfl 25 _ rfl _ rfl _ _ _ _ c.out.box underlying25 rfl h.out ?_)
       |(refine qaf 25 _ rfl rfl _ rfl _ _ _ _ c.out.box underlying25 rfl h.out ?_)
       |(go_at_call 34;refine(qdC p.out _ _ (by omega) (by omega) c.out).mono ?_;rintro e C ⟨rfl,l⟩;have c:=qab l))
      go_roundg r
      case measure=>omega
      case rel =>
       refine⟨q+1,by show _=_;have:=i.out;omega,by go_num,c,λb f=>?_⟩;by_cases e:b=q
       ·subst e;exact d.out
       exact m.out b (by omega)
     have d:Hid (qdU n (qbf n L) k q=true):=by show _=_;unfold qdU;rw[u,v,D.out];simp
     go_wp2_with(first
      |(refine wpList_load_row rfl 25 _ rfl _ rfl _ _ _ _ c.out.box underlying25 rfl h.out ?_)
      |(refine qaf 25 _ rfl rfl _ rfl _ _ _ _ c.out.box underlying25 rfl h.out ?_)
      |(go_at_call 34;refine(qdC p.out _ _ (by omega) (by omega) c.out).mono ?_;rintro e C ⟨rfl,l⟩;have c:=qab l))
     go_ret;exact⟨by rw[qgE (a:=k) (b:=q) (by omega) (by omega) d.out];rfl,c.out.from_ s.out⟩
theorem qmp(arr:Array Value)(n:Nat)(L:List (Int×Int))(s:Option Addr)(K:Nat)(H:qj7 arr n L s K)(w:World)(N:qba w s L):Calls prog 21 #[.agg arr] w λe S=>e=.returned (.bool (qb2 n (qbf n L)))/\Below w.heap.size w S:=by
 have F:=H.cfg.f0;have T:=H.hn;have h:=qab (qaA H.cfg.size);have p:=qab H;have J:=qab (qgt w arr s L N);have B:Hid (Below w.heap.size w (w.alloc (.cells arr 25))):=bwA;go_enter func21,ntmps21;go_wp2;generalize w.alloc (.cells arr 25)=W0 at *
 go_loopg[3,4] n (λg x y wr=>∃k:Nat,Hid (k+g=n)/\x=.int .i64 k/\Hid (qbT w.heap.size W0 arr s L wr)/\Hid (∀a b,a<k->b<n->qbI n (qbf n L) a b=true))
 case atStart=>exact⟨0,by show _=_;omega,rfl,J,λa b G=>by omega⟩
 case round =>
  obtain⟨k,v,rfl,c,D⟩:=hrel;have O:=(c.out.cell 0).trans F
  cases gk with
  |zero =>
   have P:¬(k:Int)<n:=by have:=v.out;omega
   go_wp2;go_ret;exact⟨by rw[qf7 (λa b G t=>D.out a b (by have:=v.out;omega) t)];rfl,c.out.from_ B.out⟩
  |succ g =>
   have P:(k:Int)<n:=by have:=v.out;omega
   go_wp2
   go_loopg[4] n (λg x wr=>∃q:Nat,Hid (q+g=n)/\x=.int .i64 q/\Hid (qbT w.heap.size W0 arr s L wr)/\Hid (∀b,b<q->qbI n (qbf n L) k b=true))
   case atStart=>exact⟨0,by show _=_;omega,rfl,c,λb t=>by omega⟩
   case round =>
    obtain⟨q,z,rfl,c,E⟩:=hrel;have O:=(c.out.cell 0).trans F
    cases gk with
    |zero =>
     have R:¬(q:Int)<n:=by have:=z.out;omega
     go_wp2;go_roundg g
     case measure=>omega
     case rel =>
      refine⟨k+1,by show _=_;have:=v.out;omega,by go_num,c,λa b G t=>?_⟩;by_cases e:a=k
      ·subst e;exact E.out b (by have:=z.out;omega)
      exact D.out a b (by omega) t
    |succ M =>
     have R:(q:Int)<n:=by have:=z.out;omega
     cases l:qa4 n (qbf n L) k q
     ·have o:Hid (qbI n (qbf n L) k q=false):=by show _=_;unfold qbI;rw[l];rfl
      have m:=qab l
      go_wp2_with(first
       |(refine wpList_load_row rfl 25 _ rfl _ rfl _ _ _ _ c.out.box underlying25 rfl h.out ?_)
       |(refine qaf 25 _ rfl rfl _ rfl _ _ _ _ c.out.box underlying25 rfl h.out ?_)
       |(go_at_call 35;refine(qrD p.out k q (by omega) (by omega) c.out).mono ?_;rintro e A ⟨r,rfl,f,d⟩;have c:=qab d;have Q:decide (r<0)=true:=(by rw[f.out,m.out];rfl)))
      go_ret;exact⟨by rw[qeo (a:=k) (b:=q) (by omega) (by omega) o.out];rfl,c.out.from_ B.out⟩
     cases u:qa4 n (λi j=>qbf n L j i) k q
     ·have o:Hid (qbI n (qbf n L) k q=false):=by show _=_;unfold qbI;rw[l,u];rfl
      have m:=qab l;have C:=qab u
      go_wp2_with(first
       |(refine wpList_load_row rfl 25 _ rfl _ rfl _ _ _ _ c.out.box underlying25 rfl h.out ?_)
       |(refine qaf 25 _ rfl rfl _ rfl _ _ _ _ c.out.box underlying25 rfl h.out ?_)
       |(go_at_call 35;refine(qrD p.out k q (by omega) (by omega) c.out).mono ?_;rintro e A ⟨r,rfl,f,d⟩;have c:=qab d;have I:decide (r<0)=false:=(by rw[f.out,m.out];rfl))
       |(go_at_call 36;refine(qug p.out k q (by omega) (by omega) c.out).mono ?_;rintro e A ⟨r,rfl,f,d⟩;have c:=qab d;have Q:decide (r<0)=true:=(by rw[f.out,C.out];rfl)))
      go_ret;exact⟨by rw[qeo (a:=k) (b:=q) (by omega) (by omega) o.out];rfl,c.out.from_ B.out⟩
     have o:Hid (qbI n (qbf n L) k q=true):=by show _=_;unfold qbI;rw[l,u];rfl
     have m:=qab l;have C:=qab u
     go_wp2_with(first
      |(refine wpList_load_row rfl 25 _ rfl _ rfl _ _ _ _ c.out.box underlying25 rfl h.out ?_)
      |(refine qaf 25 _ rfl rfl _ rfl _ _ _ _ c.out.box underlying25 rfl h.out ?_)
      |(go_at_call 35;refine(qrD p.out k q (by omega) (by omega) c.out).mono ?_;rintro e A ⟨r,rfl,f,d⟩;have c:=qab d;have I:decide (r<0)=false:=(by rw[f.out,m.out];rfl))
      |(go_at_call 36;refine(qug p.out k q (by omega) (by omega) c.out).mono ?_;rintro e A ⟨r,rfl,f,d⟩;have c:=qab d;have I:decide (r<0)=false:=(by rw[f.out,C.out];rfl)))
     go_roundg M
     case measure=>omega
     case rel =>
      refine⟨q+1,by show _=_;have:=z.out;omega,by go_num,c,λb t=>?_⟩;by_cases e:b=q
      ·subst e;exact o.out
      exact E.out b (by omega)

theorem qxY(c:Int)(L:List (Int×Int))(a:Option Addr)(b:Nat)(i:L.length<=maxLen)(w:World)(g:qba w a L)(h:qbD c L=false):Calls prog 57 #[.int .i64 c,.slice a L.length b] w λe f=>e=.returned (.tuple #[.agg qaI,.bool false])/\Below w.heap.size w f:=by
 by_cases d:1<=c/\c<=6/\L.length<=30
 ·obtain⟨n,rfl⟩:=Int.eq_ofNat_of_zero_le (show 0<=c by omega);have k:qaV n L=false:=by
   unfold qbD at h;rw[decide_eq_true d,Bool.true_and]at h;exact h
  refine(qut n (by omega) (by omega) L a b d.2.2 w g).mono ?_;rintro e f ⟨rfl,j⟩;exact⟨by rw[qiM k],j⟩
 exact qxr c L a b i w d
theorem qvf(c:Int)(L:List (Int×Int))(a:Option Addr)(b:Nat)(w:World)(g:qba w a L)(h:qbD c L=true):Calls prog 57 #[.int .i64 c,.slice a L.length b] w λe d=>e=.returned (.tuple #[.agg (qaq c.toNat (qcL c.toNat L)),.bool true])/\Below w.heap.size w d:=by
 unfold qbD at h;rw[Bool.and_eq_true]at h;have j:=of_decide_eq_true h.1;obtain⟨n,rfl⟩:=Int.eq_ofNat_of_zero_le (show 0<=c by omega);refine(qut n (by omega) (by omega) L a b j.2.2 w g).mono ?_;rintro e d ⟨rfl,i⟩;have f:qaV n L=true:=by have:=h.2;rwa[Int.toNat_natCast]at this
 exact⟨by rw[qmH f,Int.toNat_natCast],i⟩
def roE(c:Int)(L:List (Int×Int))(d k:Int):Int :=
 if qbD c L&&qbM c.toNat d&&qbM c.toNat k then(if qaC c.toNat (qcL c.toNat L)then 2 else if qa9 c.toNat (qcL c.toNat L)then 0 else 3)else 1
def roA(c:Int)(L:List (Int×Int))(d k:Int):Array Value:=if roE c L d k=0 then qaq c.toNat (qcL c.toNat L)else qaI
def roV(c:Int)(L:List (Int×Int))(d k:Int):Value:=.tuple #[.agg (roA c L d k),.int .i64 (roE c L d k)]
theorem qwJ{k:Int}(h:(qbD c L&&qbM c.toNat d&&qbM c.toNat k)=false):roV c L d k=.tuple #[.agg qaI,.int .i64 1]:=by
 have e:roE c L d k=1:=by unfold roE;rw[h];rfl
 unfold roV roA;rw[e];rfl
theorem qzG{k:Int}(h:(qbD c L&&qbM c.toNat d&&qbM c.toNat k)=true)(a:qaC c.toNat (qcL c.toNat L)=true):roV c L d k=.tuple #[.agg qaI,.int .i64 2]:=by
 have e:roE c L d k=2:=by unfold roE;rw[h,a];rfl
 unfold roV roA;rw[e];rfl
theorem qzW{k:Int}(h:(qbD c L&&qbM c.toNat d&&qbM c.toNat k)=true)(a:qaC c.toNat (qcL c.toNat L)=false)(b:qa9 c.toNat (qcL c.toNat L)=false):roV c L d k=.tuple #[.agg qaI,.int .i64 3]:=by
 have e:roE c L d k=3:=by unfold roE;rw[h,a,b];rfl
 unfold roV roA;rw[e];rfl
theorem q0d{k:Int}(h:(qbD c L&&qbM c.toNat d&&qbM c.toNat k)=true)(a:qaC c.toNat (qcL c.toNat L)=false)(b:qa9 c.toNat (qcL c.toNat L)=true):roV c L d k=.tuple #[.agg (qaq c.toNat (qcL c.toNat L)),.int .i64 0]:=by
 have e:roE c L d k=0:=by unfold roE;rw[h,a,b];rfl
 unfold roV roA;rw[e];rfl
structure qxX(w:World)(N:Nat)(arr A:Array Value)(W:World):Prop where
 below:Below w.heap.size w W
 box:W.heap[w.heap.size]?=some (.cells arr 25)
 res:W.heap[w.heap.size+1]?=some (.cells qaI 67)
 own:W.heap[N]?=some (.cells A 67)
 lo:w.heap.size+1<N
theorem qxX.step{N:Nat}{A:Array Value}(h:qxX w N arr A W)(a:Below W.heap.size W W'):qxX w N arr A W':=by
 have b:=ltA h.own;have:=h.lo;exact⟨h.below.trans (a.mono h.below.size),(a.block _ (by omega)).trans h.box,(a.block _ (by omega)).trans h.res,(a.block _ b).trans h.own,h.lo⟩
theorem qpq(w b:World)(arr A:Array Value)(a:Below (w.heap.size+1+1) ((w.alloc (.cells arr 25)).alloc (.cells qaI 67)) b):qxX w b.heap.size arr A (b.alloc (.cells A 67)):=by
 have c:=a.size;simp only[World.size_alloc]at c;refine⟨(((bwA).alloc (by simp) _).trans (a.mono (by omega))).alloc (by omega) _,?_,?_,qac _ _,by omega⟩
 ·rw[Below.heap_alloc _ _ _ (by omega),a.block _ (by omega),Below.heap_alloc _ _ _ (by simp)];exact qac _ _
 rw[Below.heap_alloc _ _ _ (by omega),a.block _ (by omega)];have:=qac (w.alloc (.cells arr 25)) (.cells qaI 67);rwa[World.size_alloc]at this
theorem qiC(arr:Array Value)(c:Int)(L:List (Int×Int))(r:Option Addr)(A:Nat)(d k:Int)(T:arr[0]?=some (.int .i64 c))(f1:arr[1]?=some (.slice r L.length A))(Q:arr[2]?=some (.int .i64 d))(u:arr[4]?=some (.int .i64 k))(H:L.length<=maxLen)(w:World)(G:qba w r L):Calls prog 39 #[.agg arr] w λe S=>e=.returned (roV c L d k)/\Below w.heap.size w S:=by
 have E:Hid (qba ((w.alloc (.cells arr 25)).alloc (.cells qaI 67)) r L):=G.below ((bwA).alloc (by simp) _);have J:=qab H;clear G H;cases i:qbD c L
 ·have j:Hid (roV c L d k=.tuple #[.agg qaI,.int .i64 1]):=qwJ (by rw[i];rfl);have o:=qxY c L r A J.out _ E.out i;clear i;go_enter func39,ntmps39
  go_wp2_with(first
   |(refine qas rfl rfl _ rfl (w.heap.size+1) ?hN ?_;case hN=>(simp only[World.size_alloc];done))
   |(go_at_call 57;refine o.mono ?_;clear o;rintro e h ⟨rfl,B⟩;have b:=qab (qpq w h arr qaI (by simpa using B)))
   |(refine qas rfl rfl _ rfl h.heap.size rfl ?_)
   |(refine qal rfl 67 _ rfl _ rfl _ [] ?hl qbP ?_;case hl=>simp)
   |(refine wpList_store_row rfl 67 _ _ rfl h.heap.size qaI rfl rfl 67 qaI (qac h _) (qat (qae _ _)) rfl (qa8 _ _) ?_;rw[World.setRow_alloc_new])
   |(refine wpList_store_row rfl 67 _ _ rfl (w.heap.size+1) qaI rfl rfl 67 qaI b.out.res (qat (qae _ _)) rfl (qa8 _ _) ?_))
  refine bodyPost_ret (qap results39 _ _ (w.heap.size+1) 67 qaI (0,0) _ rfl (setRow_heap _ _ qaI _ _ _ b.out.res) underlying67 rfl (qat (qae _ _)) (.int .i64 1) rfl) rfl ⟨by rw[j.out],qah b.out.below (by omega) _⟩
 have o:=qvf c L r A _ E.out i;have F:=qab i;have U:1<=c/\c<=6:=by
  unfold qbD at i;rw[Bool.and_eq_true]at i;have:=of_decide_eq_true i.1;omega
 clear i;obtain⟨n,rfl⟩:=Int.eq_ofNat_of_zero_le (show 0<=c by omega);have I:n<=6:=by omega
 rw[Int.toNat_natCast]at o;have b:Hid (∀x,qbM ((n:Int)).toNat x=qbM n x):=λx=>by rw[Int.toNat_natCast]
 have K:Hid (qcL ((n:Int)).toNat L=qcL n L):=by show _=_;rw[Int.toNat_natCast]
 have s:Hid (qaC ((n:Int)).toNat (qcL ((n:Int)).toNat L)=qaC n (qcL n L)):=by show _=_;rw[Int.toNat_natCast]
 have y:Hid (qa9 ((n:Int)).toNat (qcL ((n:Int)).toNat L)=qa9 n (qcL n L)):=by show _=_;rw[Int.toNat_natCast]
 have D:Hid (qaq ((n:Int)).toNat (qcL ((n:Int)).toNat L)=qaq n (qcL n L)):=by show _=_;rw[Int.toNat_natCast]
 generalize qcL n L=M at *;have R:(qbM n d=false/\Hid (roV n L d k=.tuple #[.agg qaI,.int .i64 1]))\/(qbM n d=true/\qbM n k=false/\Hid (roV n L d k=.tuple #[.agg qaI,.int .i64 1]))\/(qbM n d=true/\qbM n k=true/\qaC n M=true/\Hid (roV n L d k=.tuple #[.agg qaI,.int .i64 2]))\/(qbM n d=true/\qbM n k=true/\qaC n M=false/\qa9 n M=false/\Hid (roV n L d k=.tuple #[.agg qaI,.int .i64 3]))\/(qbM n d=true/\qbM n k=true/\qaC n M=false/\qa9 n M=true/\Hid (roV n L d k=.tuple #[.agg (qaq n M),.int .i64 0])):=by
  cases m:qbM n d
  ·exact .inl ⟨rfl,qwJ (by rw[b.out,b.out,m];simp)⟩
  cases q:qbM n k
  ·exact .inr (.inl ⟨rfl,rfl,qwJ (by rw[b.out,b.out,q];simp)⟩)
  have z:(qbD n L&&qbM ((n:Int)).toNat d&&qbM ((n:Int)).toNat k)=true:=by rw[b.out,b.out,m,q,F.out];rfl
  cases p:qaC n M
  ·cases v:qa9 n M
   ·exact .inr (.inr (.inr (.inl ⟨rfl,rfl,rfl,rfl,qzW z (s.out.trans p) (y.out.trans v)⟩)))
   exact .inr (.inr (.inr (.inr ⟨rfl,rfl,rfl,rfl,(q0d z (s.out.trans p) (y.out.trans v)).trans (by rw[D.out])⟩)))
  exact .inr (.inr (.inl ⟨rfl,rfl,rfl,qzG z (s.out.trans p)⟩))
 clear b K s y D F;have t:True:=trivial;have N:=t;have O:=t;have P:=t;rcases R with⟨m,j⟩|⟨m,q,j⟩|⟨m,q,p,j⟩|⟨m,q,p,v,j⟩|⟨m,q,p,v,j⟩
 all_goals
  go_enter func39,ntmps39
  go_wp2_with(first
   |(refine qas rfl rfl _ rfl (w.heap.size+1) ?hN ?_;case hN=>(simp only[World.size_alloc];done))
   |(go_at_call 57;refine o.mono ?_;clear o;rintro e h ⟨rfl,B⟩;have a:Hid (qxX w h.heap.size arr (qaq n M) (h.alloc (.cells (qaq n M) 67))):=qpq w h arr _ (by simpa using B);have l:=(qaa a.out.box 2).trans Q)
   |(refine qas rfl rfl _ rfl h.heap.size rfl ?_)
   |(refine wpList_store_row rfl 67 _ _ rfl h.heap.size (qaq n M) rfl rfl 67 qaI (qac h _) (qat (qae _ _)) (by rw[qae];exact qae _ _) (qa8 _ _) ?_;rw[World.setRow_alloc_new])
   |(refine wpList_load_row rfl 67 _ rfl _ rfl _ _ _ _ a.out.own underlying67 rfl (qat (qae _ _)) ?_)
   |(refine qaf 67 _ rfl rfl _ rfl _ _ _ _ a.out.own underlying67 rfl (qat (qae _ _)) ?_)
   |(refine qal rfl 67 _ rfl _ rfl _ [] ?hl qbP ?_;case hl=>simp)
   |(go_at_call 58;clear t;refine(qfg _ n (qay n M).count d _).mono ?_;rintro e C ⟨rfl,g⟩;have f:=a.out.step g;clear a l;have a:=qab f;clear f g;have l:=(qaa a.out.box 4).trans u)
   |(go_at_call 58;clear N;refine(qfg _ n (qay n M).count k _).mono ?_;rintro e C ⟨rfl,g⟩;have f:=a.out.step g;clear a l;have a:=qab f;clear f g;have l:=(qaa a.out.box 4).trans u)
   |(go_at_call 59;clear O;refine(qks _ n M (qay n M) I _).mono ?_;rintro e C ⟨rfl,g⟩;have f:=a.out.step g;clear a l;have a:=qab f;clear f g;have l:=(qaa a.out.box 4).trans u)
   |(go_at_call 60;clear P;refine(qi3 _ n M (qay n M) I _).mono ?_;rintro e C ⟨rfl,g⟩;have f:=a.out.step g;clear a l;have a:=qab f;clear f g;have l:=(qaa a.out.box 4).trans u)
   |(refine wpList_store_row rfl 67 _ _ rfl (w.heap.size+1) qaI rfl rfl 67 qaI a.out.res (qat (qae _ _)) rfl (qa8 _ _) ?_)
   |(refine wpList_store_row rfl 67 _ _ rfl (w.heap.size+1) (qaq n M) rfl rfl 67 qaI a.out.res (qat (qae _ _)) (by rw[qae];exact qae _ _) (qa8 _ _) ?_))
  first
  |refine bodyPost_ret (qap results39 _ _ (w.heap.size+1) 67 qaI (0,0) _ rfl (setRow_heap _ _ qaI _ _ _ a.out.res) underlying67 rfl (qat (qae _ _)) (.int .i64 _) rfl) rfl ⟨by rw[j.out],qah a.out.below (by omega) _⟩
  |refine bodyPost_ret (qap results39 _ _ (w.heap.size+1) 67 (qaq n M) (0,0) _ rfl (setRow_heap _ _ qaI _ _ _ a.out.res) underlying67 rfl (qat (qae _ _)) (.int .i64 0) rfl) rfl ⟨by rw[j.out],qah a.out.below (by omega) _⟩

end
end Go.Proofs.YtpifimohecagoaaGreatDoor
