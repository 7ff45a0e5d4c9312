import Derived.Test.YtoegnhgofkhbnaaGreatDoorHq03
set_option maxRecDepth 100000
set_option maxHeartbeats 8000000
set_option linter.all false
namespace Go.Proofs.YtoegnhgofkhbnaaGreatDoor
open Go.Proofs.Tryz
open Go.Value renaming int->A7,tuple->Ab,bool->Ad
open Go.Obj renaming cells->Af
open Go.Ending renaming returned->Ag
open Go.IntKind renaming i64->Ah
open Go renaming World->Al,Calls->An
variable{L:List (Int×Int)}{a b ecap h i j k l n s x:Nat}{c d:Int}{e:Int×Int}{m:Nat->Nat->Bool}{S:Nat->Bool}{W W' W0 w:Al}{arr:A4}{ea:A5}
section
open Go.RowKit Go.Deep
def EA(L:List (Int×Int))(a b:Nat):Prop:=∀S:Nat->Prop,S a->(∀e,e∈L->S e.1.toNat->S e.2.toNat)->S b
theorem EA.refl(L:List (Int×Int))(a:Nat):EA L a a:=λ_ h _=>h
theorem EA.trans{c:Nat}(h:EA L a b)(k:EA L b c):EA L a c:=λS e d=>k S (h S e d) d
theorem EA.edge(h:e∈L):EA L e.1.toNat e.2.toNat:=λ_ a b=>b e h a
theorem jN(h:m i j=true):Ho m e i j=true:=by
 unfold Ho F9;split<;>simp_all
theorem jO(m:Nat->Nat->Bool)(e:Int×Int):Ho m e e.1.toNat e.2.toNat=true:=by simp[Ho,F9]
theorem Xl(L:List (Int×Int)):∀(m:Nat->Nat->Bool) (i j:Nat),m i j=true->L.foldl Ho m i j=true:=by
 induction L with
 |nil=>intro m i j h;exact h
 |cons e L a=>intro m i j h;exact a _ i j (jN h)
theorem jP(L:List (Int×Int)):∀(m:Nat->Nat->Bool) (e:Int×Int),e∈L->L.foldl Ho m e.1.toNat e.2.toNat=true:=by
 induction L with
 |nil=>intro m e h;cases h
 |cons x L a =>
  intro m e h
  cases Gi.1 h with
  |inl h=>subst h;exact Xl L _ _ _ (jO m e)
  |inr h=>exact a _ e h
theorem jQ(P:Nat->Nat->Prop)(L:List (Int×Int)):∀(m:Nat->Nat->Bool),(∀i j,m i j=true->P i j)->(∀e,e∈L->P e.1.toNat e.2.toNat)->∀i j,L.foldl Ho m i j=true->P i j:=by
 induction L with
 |nil=>intro m h _;exact h
 |cons x L f =>
  intro m h b;refine f (Ho m x) (λi j a=>?_) (λe d=>b e (GG _ d));unfold Ho F9 at a;split at a
  ·rename_i c
   obtain⟨rfl,rfl⟩:=c;exact b x (Gg ..)
  exact h i j a
theorem jR(h:Gn n L i j=true):EA L i j :=
 jQ (EA L) L (Ib n) (λi j b=>by have:=By b;rw[this.1];exact EA.refl _ _) (λ_ a=>EA.edge a) i j h
theorem PA(H:fst n k m l h i j=true):m i j=true\/(m i k=true/\m k j=true):=by
 unfold fst at H;simp only[KI,Ch]at H;rcases H with H|⟨_,H⟩
 ·exact .inl H
 exact .inr H
theorem Xm(H:m i j=true):fst n k m l h i j=true:=by
 unfold fst;rw[H];rfl
theorem PB(hi:i<n)(c:j<n)(a:m i k=true)(b:m k j=true):fst n k m n 0 i j=true:=by
 unfold fst;rw[a,b,Bs (by omega)];simp
theorem jS:∀(k i j:Nat),EL n k (Gn n L) i j=true->EA L i j:=by
 intro k
 induction k with
 |zero=>intro i j h;exact jR h
 |succ k a =>
  intro i j h;rcases PA h with h|⟨b,c⟩
  ·exact a i j h
  exact(a i k b).trans (a k j c)
theorem Xn(h:m i j=true):∀k,EL n k m i j=true:=by
 intro k
 induction k with
 |zero=>exact h
 |succ k a=>exact Xm a
theorem jT:∀(k:Nat),k<=n->∀c i j,c<k->i<n->j<n->EL n k m i c=true->EL n k m c j=true->EL n k m i j=true:=by
 intro k
 induction k with
 |zero=>intro _ c i j h;omega
 |succ k g =>
  intro v c i j t d f b a;have g:=g (by omega);have q:∀x,EL n (k+1) m x k=EL n k m x k:=λx=>UL n k (EL n k m) n 0 x;have s:∀x,EL n (k+1) m k x=EL n k m k x:=λx=>UM n k (EL n k m) n 0 x;by_cases e:c=k
  ·subst e;rw[q]at b;rw[s]at a;exact PB d f b a
  have o:c<k:=by omega
  have u:c<n:=by omega
  have p:k<n:=by omega
  rcases PA b with b|⟨b,r⟩
  ·rcases PA a with a|⟨a,l⟩
   ·exact Xm (g c i j o d f b a)
   exact PB d f (g c i k o d p b a) l
  rcases PA a with a|⟨a,l⟩
  ·exact PB d f b (g c k j o p f r a)
  exact PB d f b l
theorem Sq(c:Da n L=true)(d:e∈L):e.1.toNat<n/\e.2.toNat<n:=by
 have:=D7.1 c e d;unfold Ei at this;simp only[Ch]at this;obtain⟨⟨a,b⟩,_⟩:=this;have f:=By a;have g:=By b;omega
theorem jU(d:Da n L=true)(f:a<n)(j:b<n):BK n L a b=true↔EA L a b:=by
 constructor
 ·exact jS n a b
 intro h;have:=h (λx=>x<n->BK n L a x=true) (λ_=>Xn (Xl L _ _ _ (Bs ⟨rfl,f⟩)) n)
  (λe c g i=>jT n (AB _) e.1.toNat a e.2.toNat (Sq d c).1 f i (g (Sq d c).1) (Xn (jP L _ e c) n))
 exact this j
theorem jV(h:S x=true):Fw S k x=true:=by unfold Fw;split<;>simp_all
theorem Xo(h:S x=true):ID S e x=true:=by
 unfold ID;split
 ·exact jV h
 exact h
theorem PC(L:List (Int×Int)):∀{S:Nat->Bool} {x:Nat},S x=true->Du L S x=true:=by
 unfold Du
 induction L with
 |nil=>intro S x h;exact h
 |cons e L a=>intro S x h;exact a (Xo h)
theorem jW(L:List (Int×Int)):∀{S:Nat->Bool} {e:Int×Int},e∈L->S e.1.toNat=true->Du L S e.2.toNat=true:=by
 induction L with
 |nil=>intro S e h;cases h
 |cons x L b =>
  intro S e h a
  cases Gi.1 h with
  |inl h =>
   subst h;refine PC L (S:=ID S e) ?_;unfold ID;rw[As a];simp[Fw]
  |inr h=>exact b (S:=ID S x) h (Xo a)
theorem Xp(P:Nat->Prop)(L:List (Int×Int)):∀{S:Nat->Bool},(∀x,S x=true->P x)->(∀e,e∈L->P e.1.toNat->P e.2.toNat)->∀x,Du L S x=true->P x:=by
 induction L with
 |nil=>intro S h _;exact h
 |cons e L g =>
  intro S h b;refine g (S:=ID S e) (λx a=>?_) (λd f=>b d (GG _ f));unfold ID at a;split at a
  ·rename_i hs
   unfold Fw at a;split at a
   ·rename_i c;subst c;exact b e (Gg ..) (h _ hs)
   exact h x a
  exact h x a
def Mk(L:List (Int×Int))(S:Nat->Bool):Prop:=∀e,e∈L->S e.1.toNat=true->S e.2.toNat=true
theorem Xq(h:Mk L S):Du L S=S:=by
 funext x;cases a:S x
 ·cases b:Du L S x
  ·rfl
  have:=Xp (λx=>S x=true) L (S:=S) (λ_ h=>h) h x b;rw[a]at this;cases this
 exact PC L a
def PD(n:Nat)(S:Nat->Bool):Nat:=((List.range n).filter S).length
theorem jX(n:Nat)(S:Nat->Bool):PD n S<=n:=by
 have:=List.length_filter_le S (List.range n);simpa[PD]using this
theorem jY{T:Nat->Bool}(f:∀x,S x=true->T x=true):∀(l:List Nat) (y:Nat),y∈l->S y=false->T y=true->(l.filter S).length<(l.filter T).length:=by
 have g:∀l:List Nat,(l.filter S).length<=(l.filter T).length:=by
  intro l
  induction l with
  |nil=>simp
  |cons x l c =>
   cases a:S x
   ·rw[Qy (by simp[a])];exact AW c (by rw[UD];split<;>simp)
   rw[MO a,MO (f x a)];simp only[Bq];omega
 intro l
 induction l with
 |nil=>intro y b;cases b
 |cons x l c =>
  intro y b d e
  cases Gi.1 b with
  |inl h =>
   subst h;rw[Qy (by simp[d]),MO e];have:=g l;simp only[Bq];omega
  |inr h =>
   have:=c y h d e;cases a:S x
   ·rw[Qy (by simp[a])];exact Br this (by rw[UD];split<;>simp)
   rw[MO a,MO (f x a)];simp only[Bq];omega
theorem jZ(g:Da n L=true)(i:a<n):∀k,Mk L (CG L k (Cl a))\/k+1<=PD n (CG L k (Cl a)):=by
 intro k
 induction k with
 |zero =>
  right;have:0<((List.range n).filter (Cl a)).length:=List.length_pos_of_mem (a:=a) (List.mem_filter.2 ⟨BT.2 i,by simp[Cl,Fw]⟩);exact this
 |succ k m =>
  rcases m with h|h
  ·left;show Mk L (Du L (CG L k (Cl a)));rw[Xq h];exact h
  by_cases f:Mk L (CG L k (Cl a))
  ·left;show Mk L (Du L (CG L k (Cl a)));rw[Xq f];exact f
  right;have:∃e,e∈L/\CG L k (Cl a) e.1.toNat=true/\CG L k (Cl a) e.2.toNat=false:=by
   apply Qw;intro j;refine f (λe b c=>?_);cases d:CG L k (Cl a) e.2.toNat
   ·exact absurd ⟨e,b,c,d⟩ j
   rfl
  obtain⟨e,b,c,d⟩:=this;have o:=jY (S:=CG L k (Cl a)) (T:=Du L (CG L k (Cl a))) (λx l=>PC L l) (List.range n) e.2.toNat (BT.2 (Sq g b).2) d (jW L b c);show k+1+1<=((List.range n).filter (Du L (CG L k (Cl a)))).length;unfold PD at h;omega
theorem ke:∀k x,CG L k (Cl a) x=true->EA L a x:=by
 intro k
 induction k with
 |zero =>
  intro x h;have h:Cl a x=true:=h;unfold Cl Fw at h;split at h
  ·rename_i c;subst c;exact EA.refl _ _
  cases h
 |succ k f =>
  intro x h;exact Xp (λx=>EA L a x) L (S:=CG L k (Cl a)) f (λe d b=>b.trans (EA.edge d)) x h
theorem kg(h:S x=true):∀k,CG L k S x=true:=by
 intro k
 induction k with
 |zero=>exact h
 |succ k a=>exact PC L a
theorem Xr(c:Da n L=true)(d:a<n):B5 n L a b=true↔EA L a b:=by
 constructor
 ·exact ke n b
 intro h;have e:Mk L (CG L n (Cl a)):=by
  rcases jZ c d n with h|h
  ·exact h
  have:=jX n (CG L n (Cl a));omega
 exact h (λx=>CG L n (Cl a) x=true) (kg (by simp[Cl,Fw]) n) e
theorem kh(c:Da n L=true)(d:a<n)(e:b<n):BK n L a b=B5 n L a b:=by
 rw[MY,jU c d e,Xr c d]
theorem km(b:Da n L=true)(c:a<n):B5 n L a a=true:=(Xr b c).2 (EA.refl _ _)
structure Do(s:Nat)(W0:World)(arr:A4)(ea:A5)(L:List (Int×Int))(W:World):Prop where
 below:Below (s+1) W0 W
 box:W.heap[s]?=some (.cells arr 25)
 edges:Es W ea L
 size:s+1<=W.heap.size
theorem Do.step(h:Do s W0 arr ea L W)(a:A1 W W'):Do s W0 arr ea L W' :=
 ⟨h.below.trans (a.mono h.size),(a.block _ (by have:=h.size;omega)).trans h.box,h.edges.below a,AW h.size a.size⟩
theorem PE(w:Al)(arr:A4)(a:A5)(L:List (Int×Int))(h:Es w a L):Do w.heap.size (w.alloc (Af arr 25)) arr a L (w.alloc (Af arr 25)) :=
 ⟨AT _ _,Ay _ _,h.below AH,by simp⟩
theorem Do.cell(h:Do s W0 arr ea L W)(j:Nat):W.cell? ⟨s,j,none⟩=arr[j]?:=Ar h.box j
theorem Do.from_(h:Do w.heap.size W0 arr ea L W)(a:A1 w W0):A1 w W:=a.trans (h.below.mono (by omega))
structure JF(arr:A4)(n:Nat)(L:List (Int×Int))(ea:A5)(ecap:Nat):Prop where
 cfg:Rg arr n L ea ecap
 hn:n<=6
 hL:L.length<=30
 hE:Da n L=true
theorem FC(H:JF arr n L ea ecap)(a b:Nat)(c:a<n)(d:b<n)(h:Do s W0 arr ea L W):An prog 30 #[.agg arr,A7 Ah a,A7 Ah b] W λe i=>e=Ag (Ad (B5 n L a b))/\Do s W0 arr ea L i :=
 (aK arr n L ea ecap H.cfg H.hn H.hL H.hE a b c d W h.edges).mono λ_ _ ⟨g,f⟩=>⟨g,h.step f⟩
theorem ko(arr:A4)(n:Nat)(L:List (Int×Int))(s:A5)(T:Nat)(H:JF arr n L s T)(a b:Nat)(Y:a<n)(Z:b<n)(w:Al)(U:Es w s L):An prog 31 #[.agg arr,A7 Ah a,A7 Ah b] w λe X=>∃r:Int,e=Ag (A7 Ah r)/\Hid (decide (r<0) = !Dm n (B5 n L) a b)/\A1 w X:=by
 have G:=H.cfg.f0;have hn:=H.hn;have d:=Ap (Dg H.cfg.size);have p:=Ap H;have S:=Ap (PE w arr s L U);have M:Hid (A1 w (w.alloc (Af arr 25))):=AH;go_enter func31,ntmps31;go_wp2;generalize w.alloc (Af arr 25)=W0 at *
 go_loopg[7,8,9] n (λg x y aa wr=>∃k:Nat,Hid (k+g=n)/\x=A7 Ah k/\Hid (Do w.heap.size W0 arr s L wr)/\Hid (∀j,j<k->CY n (B5 n L) a b j=false))
 case atStart=>exact⟨0,by show _=_;omega,rfl,S,λj D=>by omega⟩
 case round =>
  obtain⟨k,t,rfl,c,v⟩:=hrel;have K:=(c.cell 0).trans G
  cases gk with
  |zero =>
   have V:¬(k:Int)<n:=by have:=t.out;omega
   go_wp2;go_ret;exact⟨-1,rfl,by show _=_;rw[Ra (λj D=>v.out j (by have:=t.out;omega))];rfl,c.from_ M⟩
  |succ g =>
   have V:(k:Int)<n:=by have:=t.out;omega
   cases B:B5 n L a k
   ·have l:Hid (CY n (B5 n L) a b k=false):=by show _=_;unfold CY C5;simp[B]
    go_wp2_with(first
     |(refine B3 rfl 25 _ rfl _ rfl _ _ _ _ c.box underlying25 rfl d ?_)
     |(refine CA 25 _ rfl rfl _ rfl _ _ _ _ c.box underlying25 rfl d ?_)
     |(go_at_call 30;refine(FC p _ _ (by omega) (by omega) c).mono ?_;rintro e u ⟨rfl,f⟩;have c:=Ap f))
    go_loopg[9,8] 0 (λg x y wr=>x=A7 Ah 0/\y=Ad false/\Hid (Do w.heap.size W0 arr s L wr))
    case atStart=>exact⟨rfl,rfl,c⟩
    case round =>
     obtain⟨rfl,rfl,c⟩:=hrel;have K:=(c.cell 0).trans G;go_wp2;go_roundg g
     case measure=>omega
     case rel =>
      refine⟨k+1,by show _=_;have:=t.out;omega,by go_num,c,λj D=>?_⟩;by_cases e:j=k
      ·subst e;exact l
      exact v j (by omega)
   cases C:B5 n L b k
   ·have l:Hid (CY n (B5 n L) a b k=false):=by show _=_;unfold CY C5;simp[C]
    go_wp2_with(first
     |(refine B3 rfl 25 _ rfl _ rfl _ _ _ _ c.box underlying25 rfl d ?_)
     |(refine CA 25 _ rfl rfl _ rfl _ _ _ _ c.box underlying25 rfl d ?_)
     |(go_at_call 30;refine(FC p _ _ (by omega) (by omega) c).mono ?_;rintro e u ⟨rfl,f⟩;have c:=Ap f))
    go_loopg[9,8] 0 (λg x y wr=>x=A7 Ah 0/\y=Ad false/\Hid (Do w.heap.size W0 arr s L wr))
    case atStart=>exact⟨rfl,rfl,c⟩
    case round =>
     obtain⟨rfl,rfl,c⟩:=hrel;have K:=(c.cell 0).trans G;go_wp2;go_roundg g
     case measure=>omega
     case rel =>
      refine⟨k+1,by show _=_;have:=t.out;omega,by go_num,c,λj D=>?_⟩;by_cases e:j=k
      ·subst e;exact l
      exact v j (by omega)
   have R:Hid (C5 (B5 n L) a b k=true):=by show _=_;unfold C5;simp[B,C]
   go_wp2_with(first
    |(refine B3 rfl 25 _ rfl _ rfl _ _ _ _ c.box underlying25 rfl d ?_)
    |(refine CA 25 _ rfl rfl _ rfl _ _ _ _ c.box underlying25 rfl d ?_)
    |(go_at_call 30;refine(FC p _ _ (by omega) (by omega) c).mono ?_;rintro e u ⟨rfl,f⟩;have c:=Ap f))
   go_loopg[9,8] (n+1) (λg x y wr=>∃(q:Nat) (o:Bool),Hid (q+g=n+1)/\x=A7 Ah q/\y=Ad o/\Hid (Do w.heap.size W0 arr s L wr)/\Hid (o=true->q<=n/\∀i,i<q->C5 (B5 n L) a b i=true->(B5 n L) k i=true)/\Hid (o=false->CY n (B5 n L) a b k=false))
   case atStart=>exact⟨0,true,by show _=_;omega,rfl,rfl,c,λ_=>⟨by omega,λi J=>by omega⟩,λh=>by cases h⟩
   case round =>
    obtain⟨q,o,E,rfl,rfl,c,N,Q⟩:=hrel;have K:=(c.cell 0).trans G
    cases o with
    |false =>
     have l:=Ap (Q rfl);by_cases P:(q:Int)<n
     ·go_wp2;go_roundg g
      case measure=>omega
      case rel =>
       refine⟨k+1,by show _=_;have:=t.out;omega,by go_num,c,λj D=>?_⟩;by_cases e:j=k
       ·subst e;exact l
       exact v j (by omega)
     go_wp2;go_roundg g
     case measure=>omega
     case rel =>
      refine⟨k+1,by show _=_;have:=t.out;omega,by go_num,c,λj D=>?_⟩;by_cases e:j=k
      ·subst e;exact l
      exact v j (by omega)
    |true =>
     have z:=(N rfl).1;have F:=Ap ((N rfl).2);by_cases W:q<n
     ·have P:(q:Int)<n:=by omega
      cases gk with
      |zero=>have:=E.out;omega
      |succ I =>
       cases B:B5 n L a q
       ·have A:Hid (C5 (B5 n L) a b q=true->(B5 n L) k q=true):=λh=>by unfold C5 at h;simp[B]at h
        go_wp2_with(first
         |(refine B3 rfl 25 _ rfl _ rfl _ _ _ _ c.box underlying25 rfl d ?_)
         |(refine CA 25 _ rfl rfl _ rfl _ _ _ _ c.box underlying25 rfl d ?_)
         |(go_at_call 30;refine(FC p _ _ (by omega) (by omega) c).mono ?_;rintro e u ⟨rfl,f⟩;have c:=Ap f))
        go_roundg I
        case measure=>omega
        case rel=>exact⟨q+1,true,by show _=_;have:=E.out;omega,by go_num,rfl,c,(λ_=>⟨by omega,λi J m=>by by_cases e:i=q;(· subst e;exact A m);(· exact F i (by omega) m)⟩),(λh=>by cases h)⟩
       cases C:B5 n L b q
       ·have A:Hid (C5 (B5 n L) a b q=true->(B5 n L) k q=true):=λh=>by unfold C5 at h;simp[C]at h
        go_wp2_with(first
         |(refine B3 rfl 25 _ rfl _ rfl _ _ _ _ c.box underlying25 rfl d ?_)
         |(refine CA 25 _ rfl rfl _ rfl _ _ _ _ c.box underlying25 rfl d ?_)
         |(go_at_call 30;refine(FC p _ _ (by omega) (by omega) c).mono ?_;rintro e u ⟨rfl,f⟩;have c:=Ap f))
        go_roundg I
        case measure=>omega
        case rel=>exact⟨q+1,true,by show _=_;have:=E.out;omega,by go_num,rfl,c,(λ_=>⟨by omega,λi J m=>by by_cases e:i=q;(· subst e;exact A m);(· exact F i (by omega) m)⟩),(λh=>by cases h)⟩
       cases O:B5 n L k q
       ·have l:Hid (CY n (B5 n L) a b k=false):=R9 (k:=q) W (by unfold C5;simp[B,C]) O
        go_wp2_with(first
         |(refine B3 rfl 25 _ rfl _ rfl _ _ _ _ c.box underlying25 rfl d ?_)
         |(refine CA 25 _ rfl rfl _ rfl _ _ _ _ c.box underlying25 rfl d ?_)
         |(go_at_call 30;refine(FC p _ _ (by omega) (by omega) c).mono ?_;rintro e u ⟨rfl,f⟩;have c:=Ap f))
        go_roundg I
        case measure=>omega
        case rel=>exact⟨q+1,false,by show _=_;have:=E.out;omega,by go_num,rfl,c,(λh=>by cases h),(λ_=>l.out)⟩
       have A:Hid (C5 (B5 n L) a b q=true->(B5 n L) k q=true):=λ_=>O
       go_wp2_with(first
        |(refine B3 rfl 25 _ rfl _ rfl _ _ _ _ c.box underlying25 rfl d ?_)
        |(refine CA 25 _ rfl rfl _ rfl _ _ _ _ c.box underlying25 rfl d ?_)
        |(go_at_call 30;refine(FC p _ _ (by omega) (by omega) c).mono ?_;rintro e u ⟨rfl,f⟩;have c:=Ap f))
       go_roundg I
       case measure=>omega
       case rel=>exact⟨q+1,true,by show _=_;have:=E.out;omega,by go_num,rfl,c,(λ_=>⟨by omega,λi J m=>by by_cases e:i=q;(· subst e;exact A m);(· exact F i (by omega) m)⟩),(λh=>by cases h)⟩
     have P:¬(q:Int)<n:=by omega
     have l:Hid (CY n (B5 n L) a b k=true):=OP R (λi J=>F.out i (by omega));go_wp2;go_ret;exact⟨k,rfl,by show _=_;rw[OQ (j:=k) (by omega) l,BJ (by omega)];rfl,c.from_ M⟩
theorem kq(arr:A4)(n:Nat)(L:List (Int×Int))(s:A5)(T:Nat)(H:JF arr n L s T)(a b:Nat)(Y:a<n)(Z:b<n)(w:Al)(U:Es w s L):An prog 32 #[.agg arr,A7 Ah a,A7 Ah b] w λe X=>∃r:Int,e=Ag (A7 Ah r)/\Hid (decide (r<0) = !Dm n (λi j=>B5 n L j i) a b)/\A1 w X:=by
 have G:=H.cfg.f0;have hn:=H.hn;have d:=Ap (Dg H.cfg.size);have p:=Ap H;have S:=Ap (PE w arr s L U);have M:Hid (A1 w (w.alloc (Af arr 25))):=AH;go_enter func32,ntmps32;go_wp2;generalize w.alloc (Af arr 25)=W0 at *
 go_loopg[7,8,9] n (λg x y aa wr=>∃k:Nat,Hid (k+g=n)/\x=A7 Ah k/\Hid (Do w.heap.size W0 arr s L wr)/\Hid (∀j,j<k->CY n (λi j=>B5 n L j i) a b j=false))
 case atStart=>exact⟨0,by show _=_;omega,rfl,S,λj D=>by omega⟩
 case round =>
  obtain⟨k,t,rfl,c,v⟩:=hrel;have K:=(c.cell 0).trans G
  cases gk with
  |zero =>
   have V:¬(k:Int)<n:=by have:=t.out;omega
   go_wp2;go_ret;exact⟨-1,rfl,by show _=_;rw[Ra (λj D=>v.out j (by have:=t.out;omega))];rfl,c.from_ M⟩
  |succ g =>
   have V:(k:Int)<n:=by have:=t.out;omega
   cases B:B5 n L k a
   ·have l:Hid (CY n (λi j=>B5 n L j i) a b k=false):=by show _=_;unfold CY C5;simp[B]
    go_wp2_with(first
     |(refine B3 rfl 25 _ rfl _ rfl _ _ _ _ c.box underlying25 rfl d ?_)
     |(refine CA 25 _ rfl rfl _ rfl _ _ _ _ c.box underlying25 rfl d ?_)
     |(go_at_call 30;refine(FC p _ _ (by omega) (by omega) c).mono ?_;rintro e u ⟨rfl,f⟩;have c:=Ap f))
    go_loopg[9,8] 0 (λg x y wr=>x=A7 Ah 0/\y=Ad false/\Hid (Do w.heap.size W0 arr s L wr))
    case atStart=>exact⟨rfl,rfl,c⟩
    case round =>
     obtain⟨rfl,rfl,c⟩:=hrel;have K:=(c.cell 0).trans G;go_wp2;go_roundg g
     case measure=>omega
     case rel =>
      refine⟨k+1,by show _=_;have:=t.out;omega,by go_num,c,λj D=>?_⟩;by_cases e:j=k
      ·subst e;exact l
      exact v j (by omega)
   cases C:B5 n L k b
   ·have l:Hid (CY n (λi j=>B5 n L j i) a b k=false):=by show _=_;unfold CY C5;simp[C]
    go_wp2_with(first
     |(refine B3 rfl 25 _ rfl _ rfl _ _ _ _ c.box underlying25 rfl d ?_)
     |(refine CA 25 _ rfl rfl _ rfl _ _ _ _ c.box underlying25 rfl d ?_)
     |(go_at_call 30;refine(FC p _ _ (by omega) (by omega) c).mono ?_;rintro e u ⟨rfl,f⟩;have c:=Ap f))
    go_loopg[9,8] 0 (λg x y wr=>x=A7 Ah 0/\y=Ad false/\Hid (Do w.heap.size W0 arr s L wr))
    case atStart=>exact⟨rfl,rfl,c⟩
    case round =>
     obtain⟨rfl,rfl,c⟩:=hrel;have K:=(c.cell 0).trans G;go_wp2;go_roundg g
     case measure=>omega
     case rel =>
      refine⟨k+1,by show _=_;have:=t.out;omega,by go_num,c,λj D=>?_⟩;by_cases e:j=k
      ·subst e;exact l
      exact v j (by omega)
   have R:Hid (C5 (λi j=>B5 n L j i) a b k=true):=by show _=_;unfold C5;simp[B,C]
   go_wp2_with(first
    |(refine B3 rfl 25 _ rfl _ rfl _ _ _ _ c.box underlying25 rfl d ?_)
    |(refine CA 25 _ rfl rfl _ rfl _ _ _ _ c.box underlying25 rfl d ?_)
    |(go_at_call 30;refine(FC p _ _ (by omega) (by omega) c).mono ?_;rintro e u ⟨rfl,f⟩;have c:=Ap f))
   go_loopg[9,8] (n+1) (λg x y wr=>∃(q:Nat) (o:Bool),Hid (q+g=n+1)/\x=A7 Ah q/\y=Ad o/\Hid (Do w.heap.size W0 arr s L wr)/\Hid (o=true->q<=n/\∀i,i<q->C5 (λi j=>B5 n L j i) a b i=true->(λi j=>B5 n L j i) k i=true)/\Hid (o=false->CY n (λi j=>B5 n L j i) a b k=false))
   case atStart=>exact⟨0,true,by show _=_;omega,rfl,rfl,c,λ_=>⟨by omega,λi J=>by omega⟩,λh=>by cases h⟩
   case round =>
    obtain⟨q,o,E,rfl,rfl,c,N,Q⟩:=hrel;have K:=(c.cell 0).trans G
    cases o with
    |false =>
     have l:=Ap (Q rfl);by_cases P:(q:Int)<n
     ·go_wp2;go_roundg g
      case measure=>omega
      case rel =>
       refine⟨k+1,by show _=_;have:=t.out;omega,by go_num,c,λj D=>?_⟩;by_cases e:j=k
       ·subst e;exact l
       exact v j (by omega)
     go_wp2;go_roundg g
     case measure=>omega
     case rel =>
      refine⟨k+1,by show _=_;have:=t.out;omega,by go_num,c,λj D=>?_⟩;by_cases e:j=k
      ·subst e;exact l
      exact v j (by omega)
    |true =>
     have z:=(N rfl).1;have F:=Ap ((N rfl).2);by_cases W:q<n
     ·have P:(q:Int)<n:=by omega
      cases gk with
      |zero=>have:=E.out;omega
      |succ I =>
       cases B:B5 n L q a
       ·have A:Hid (C5 (λi j=>B5 n L j i) a b q=true->(λi j=>B5 n L j i) k q=true):=λh=>by unfold C5 at h;simp[B]at h
        go_wp2_with(first
         |(refine B3 rfl 25 _ rfl _ rfl _ _ _ _ c.box underlying25 rfl d ?_)
         |(refine CA 25 _ rfl rfl _ rfl _ _ _ _ c.box underlying25 rfl d ?_)
         |(go_at_call 30;refine(FC p _ _ (by omega) (by omega) c).mono ?_;rintro e u ⟨rfl,f⟩;have c:=Ap f))
        go_roundg I
        case measure=>omega
        case rel=>exact⟨q+1,true,by show _=_;have:=E.out;omega,by go_num,rfl,c,(λ_=>⟨by omega,λi J m=>by by_cases e:i=q;(· subst e;exact A m);(· exact F i (by omega) m)⟩),(λh=>by cases h)⟩
       cases C:B5 n L q b
       ·have A:Hid (C5 (λi j=>B5 n L j i) a b q=true->(λi j=>B5 n L j i) k q=true):=λh=>by unfold C5 at h;simp[C]at h
        go_wp2_with(first
         |(refine B3 rfl 25 _ rfl _ rfl _ _ _ _ c.box underlying25 rfl d ?_)
         |(refine CA 25 _ rfl rfl _ rfl _ _ _ _ c.box underlying25 rfl d ?_)
         |(go_at_call 30;refine(FC p _ _ (by omega) (by omega) c).mono ?_;rintro e u ⟨rfl,f⟩;have c:=Ap f))
        go_roundg I
        case measure=>omega
        case rel=>exact⟨q+1,true,by show _=_;have:=E.out;omega,by go_num,rfl,c,(λ_=>⟨by omega,λi J m=>by by_cases e:i=q;(· subst e;exact A m);(· exact F i (by omega) m)⟩),(λh=>by cases h)⟩
       cases O:B5 n L q k
       ·have l:Hid (CY n (λi j=>B5 n L j i) a b k=false):=R9 (k:=q) W (by unfold C5;simp[B,C]) O
        go_wp2_with(first
         |(refine B3 rfl 25 _ rfl _ rfl _ _ _ _ c.box underlying25 rfl d ?_)
         |(refine CA 25 _ rfl rfl _ rfl _ _ _ _ c.box underlying25 rfl d ?_)
         |(go_at_call 30;refine(FC p _ _ (by omega) (by omega) c).mono ?_;rintro e u ⟨rfl,f⟩;have c:=Ap f))
        go_roundg I
        case measure=>omega
        case rel=>exact⟨q+1,false,by show _=_;have:=E.out;omega,by go_num,rfl,c,(λh=>by cases h),(λ_=>l.out)⟩
       have A:Hid (C5 (λi j=>B5 n L j i) a b q=true->(λi j=>B5 n L j i) k q=true):=λ_=>O
       go_wp2_with(first
        |(refine B3 rfl 25 _ rfl _ rfl _ _ _ _ c.box underlying25 rfl d ?_)
        |(refine CA 25 _ rfl rfl _ rfl _ _ _ _ c.box underlying25 rfl d ?_)
        |(go_at_call 30;refine(FC p _ _ (by omega) (by omega) c).mono ?_;rintro e u ⟨rfl,f⟩;have c:=Ap f))
       go_roundg I
       case measure=>omega
       case rel=>exact⟨q+1,true,by show _=_;have:=E.out;omega,by go_num,rfl,c,(λ_=>⟨by omega,λi J m=>by by_cases e:i=q;(· subst e;exact A m);(· exact F i (by omega) m)⟩),(λh=>by cases h)⟩
     have P:¬(q:Int)<n:=by omega
     have l:Hid (CY n (λi j=>B5 n L j i) a b k=true):=OP R (λi J=>F.out i (by omega));go_wp2;go_ret;exact⟨k,rfl,by show _=_;rw[OQ (j:=k) (by omega) l,BJ (by omega)];rfl,c.from_ M⟩
def FR(n:Nat)(m:Nat->Nat->Bool)(a b:Nat):Bool:=decide (n=n)&&(!(a==b)&&m a b&&m b a)
def GW(n:Nat)(m:Nat->Nat->Bool):Bool:=(List.range n).all λa=>(List.range n).all λb=>!FR n m a b
theorem Xs(c:a<n)(d:b<n)(h:FR n m a b=true):GW n m=false:=by
 unfold GW;rw[F7];refine⟨a,BT.2 c,?_⟩;rw[KH,F7];exact⟨b,BT.2 d,by rw[h];decide⟩
theorem Xt(h:∀a b,a<n->b<n->FR n m a b=false):GW n m=true:=by
 unfold GW;rw[D7];intro a c;rw[D7];intro b d;rw[h a b (BT.1 c) (BT.1 d)];rfl
def ES(n:Nat)(m:Nat->Nat->Bool)(a b:Nat):Bool:=Dm n m a b&&Dm n (λi j=>m j i) a b
def GX(n:Nat)(m:Nat->Nat->Bool):Bool:=(List.range n).all λa=>(List.range n).all λb=>ES n m a b
theorem Sr(c:a<n)(d:b<n)(h:ES n m a b=false):GX n m=false:=by
 unfold GX;rw[F7];refine⟨a,BT.2 c,?_⟩;rw[KH,F7];exact⟨b,BT.2 d,by rw[h];decide⟩
theorem Xu(h:∀a b,a<n->b<n->ES n m a b=true):GX n m=true:=by
 unfold GX;rw[D7];intro a c;rw[D7];intro b d;exact h a b (BT.1 c) (BT.1 d)
theorem Ss(H:JF arr n L ea ecap)(a b:Nat)(c:a<n)(d:b<n)(h:Do s W0 arr ea L W):An prog 31 #[.agg arr,A7 Ah a,A7 Ah b] W λe j=>∃r:Int,e=Ag (A7 Ah r)/\Hid (decide (r<0) = !Dm n (B5 n L) a b)/\Do s W0 arr ea L j :=
 (ko arr n L ea ecap H a b c d W h.edges).mono λ_ _ ⟨r,g,i,f⟩=>⟨r,g,i,h.step f⟩
theorem Xv(H:JF arr n L ea ecap)(a b:Nat)(c:a<n)(d:b<n)(h:Do s W0 arr ea L W):An prog 32 #[.agg arr,A7 Ah a,A7 Ah b] W λe l=>∃r:Int,e=Ag (A7 Ah r)/\Hid (decide (r<0) = !Dm n (λi j=>B5 n L j i) a b)/\Do s W0 arr ea L l :=
 (kq arr n L ea ecap H a b c d W h.edges).mono λ_ _ ⟨r,g,k,f⟩=>⟨r,g,k,h.step f⟩
theorem ku(arr:A4)(n:Nat)(L:List (Int×Int))(j:A5)(F:Nat)(H:JF arr n L j F)(w:Al)(G:Es w j L):An prog 17 #[.agg arr] w λe O=>e=Ag (Ad (GW n (B5 n L)))/\A1 w O:=by
 have z:=H.cfg.f0;have P:=H.hn;have h:=Ap (Dg H.cfg.size);have p:=Ap H;have E:=Ap (PE w arr j L G);have s:Hid (A1 w (w.alloc (Af arr 25))):=AH;go_enter func17,ntmps17;go_wp2;generalize w.alloc (Af arr 25)=W0 at *
 go_loopg[3,4] n (λg x y wr=>∃k:Nat,Hid (k+g=n)/\x=A7 Ah k/\Hid (Do w.heap.size W0 arr j L wr)/\Hid (∀a b,a<k->b<n->FR n (B5 n L) a b=false))
 case atStart=>exact⟨0,by show _=_;omega,rfl,E,λa b A=>by omega⟩
 case round =>
  obtain⟨k,o,rfl,c,t⟩:=hrel;have I:=(c.cell 0).trans z
  cases gk with
  |zero =>
   have J:¬(k:Int)<n:=by have:=o.out;omega
   go_wp2;go_ret;exact⟨by rw[Xt (λa b A f=>t.out a b (by have:=o.out;omega) f)];rfl,c.from_ s⟩
  |succ g =>
   have J:(k:Int)<n:=by have:=o.out;omega
   go_wp2
   go_loopg[4] n (λg x wr=>∃q:Nat,Hid (q+g=n)/\x=A7 Ah q/\Hid (Do w.heap.size W0 arr j L wr)/\Hid (∀b,b<q->FR n (B5 n L) k b=false))
   case atStart=>exact⟨0,by show _=_;omega,rfl,c,λb f=>by omega⟩
   case round =>
    obtain⟨q,i,rfl,c,m⟩:=hrel;have I:=(c.cell 0).trans z
    cases gk with
    |zero =>
     have N:¬(q:Int)<n:=by have:=i.out;omega
     go_wp2;go_roundg g
     case measure=>omega
     case rel =>
      refine⟨k+1,by show _=_;have:=o.out;omega,by go_num,c,λa b A f=>?_⟩;by_cases e:a=k
      ·subst e;exact m b (by have:=i.out;omega)
      exact t a b (by omega) f
    |succ r =>
     have N:(q:Int)<n:=by have:=i.out;omega
     by_cases B:k=q
     ·have d:Hid (FR n (B5 n L) k q=false):=by show _=_;unfold FR;simp[B]
      have K:((k:Int)==q)=true:=Je.2 (by omega);have M:((k:Int) != q)=false:=by rw[bne_eq_false_iff_eq];omega
      go_wp2;go_roundg r
      case measure=>omega
      case rel =>
       refine⟨q+1,by show _=_;have:=i.out;omega,by go_num,c,λb f=>?_⟩;by_cases e:b=q
       ·subst e;exact d
       exact m b (by omega)
     have K:((k:Int)==q)=false:=Dq.2 (by omega);have M:((k:Int) != q)=true:=by rw[bne_iff_ne];omega
     have D:=Ap (Dq.2 B);cases u:B5 n L k q
     ·have d:Hid (FR n (B5 n L) k q=false):=by show _=_;unfold FR;simp[u]
      go_wp2_with(first
       |(refine B3 rfl 25 _ rfl _ rfl _ _ _ _ c.box underlying25 rfl h ?_)
       |(refine CA 25 _ rfl rfl _ rfl _ _ _ _ c.box underlying25 rfl h ?_)
       |(go_at_call 30;refine(FC p _ _ (by omega) (by omega) c).mono ?_;rintro e C ⟨rfl,l⟩;have c:=Ap l))
      go_roundg r
      case measure=>omega
      case rel =>
       refine⟨q+1,by show _=_;have:=i.out;omega,by go_num,c,λb f=>?_⟩;by_cases e:b=q
       ·subst e;exact d
       exact m b (by omega)
     cases v:B5 n L q k
     ·have d:Hid (FR n (B5 n L) k q=false):=by show _=_;unfold FR;simp[v]
      go_wp2_with(first
       |(refine B3 rfl 25 _ rfl _ rfl _ _ _ _ c.box underlying25 rfl h ?_)
       |(refine CA 25 _ rfl rfl _ rfl _ _ _ _ c.box underlying25 rfl h ?_)
       |(go_at_call 30;refine(FC p _ _ (by omega) (by omega) c).mono ?_;rintro e C ⟨rfl,l⟩;have c:=Ap l))
      go_roundg r
      case measure=>omega
      case rel =>
       refine⟨q+1,by show _=_;have:=i.out;omega,by go_num,c,λb f=>?_⟩;by_cases e:b=q
       ·subst e;exact d
       exact m b (by omega)
     have d:Hid (FR n (B5 n L) k q=true):=by show _=_;unfold FR;rw[u,v,D.out];simp
     go_wp2_with(first
      |(refine B3 rfl 25 _ rfl _ rfl _ _ _ _ c.box underlying25 rfl h ?_)
      |(refine CA 25 _ rfl rfl _ rfl _ _ _ _ c.box underlying25 rfl h ?_)
      |(go_at_call 30;refine(FC p _ _ (by omega) (by omega) c).mono ?_;rintro e C ⟨rfl,l⟩;have c:=Ap l))
     go_ret;exact⟨by rw[Xs (a:=k) (b:=q) (by omega) (by omega) d.out];rfl,c.from_ s⟩
theorem kw(arr:A4)(n:Nat)(L:List (Int×Int))(s:A5)(K:Nat)(H:JF arr n L s K)(w:Al)(N:Es w s L):An prog 18 #[.agg arr] w λe S=>e=Ag (Ad (GX n (B5 n L)))/\A1 w S:=by
 have F:=H.cfg.f0;have T:=H.hn;have h:=Ap (Dg H.cfg.size);have p:=Ap H;have J:=Ap (PE w arr s L N);have B:Hid (A1 w (w.alloc (Af arr 25))):=AH;go_enter func18,ntmps18;go_wp2;generalize w.alloc (Af arr 25)=W0 at *
 go_loopg[3,4] n (λg x y wr=>∃k:Nat,Hid (k+g=n)/\x=A7 Ah k/\Hid (Do w.heap.size W0 arr s L wr)/\Hid (∀a b,a<k->b<n->ES n (B5 n L) a b=true))
 case atStart=>exact⟨0,by show _=_;omega,rfl,J,λa b G=>by omega⟩
 case round =>
  obtain⟨k,v,rfl,c,D⟩:=hrel;have O:=(c.cell 0).trans F
  cases gk with
  |zero =>
   have P:¬(k:Int)<n:=by have:=v.out;omega
   go_wp2;go_ret;exact⟨by rw[Xu (λa b G t=>D.out a b (by have:=v.out;omega) t)];rfl,c.from_ B⟩
  |succ g =>
   have P:(k:Int)<n:=by have:=v.out;omega
   go_wp2
   go_loopg[4] n (λg x wr=>∃q:Nat,Hid (q+g=n)/\x=A7 Ah q/\Hid (Do w.heap.size W0 arr s L wr)/\Hid (∀b,b<q->ES n (B5 n L) k b=true))
   case atStart=>exact⟨0,by show _=_;omega,rfl,c,λb t=>by omega⟩
   case round =>
    obtain⟨q,z,rfl,c,E⟩:=hrel;have O:=(c.cell 0).trans F
    cases gk with
    |zero =>
     have R:¬(q:Int)<n:=by have:=z.out;omega
     go_wp2;go_roundg g
     case measure=>omega
     case rel =>
      refine⟨k+1,by show _=_;have:=v.out;omega,by go_num,c,λa b G t=>?_⟩;by_cases e:a=k
      ·subst e;exact E b (by have:=z.out;omega)
      exact D a b (by omega) t
    |succ M =>
     have R:(q:Int)<n:=by have:=z.out;omega
     cases l:Dm n (B5 n L) k q
     ·have o:Hid (ES n (B5 n L) k q=false):=by show _=_;unfold ES;rw[l];rfl
      have m:=Ap l
      go_wp2_with(first
       |(refine B3 rfl 25 _ rfl _ rfl _ _ _ _ c.box underlying25 rfl h ?_)
       |(refine CA 25 _ rfl rfl _ rfl _ _ _ _ c.box underlying25 rfl h ?_)
       |(go_at_call 31;refine(Ss p k q (by omega) (by omega) c).mono ?_;rintro e A ⟨r,rfl,f,d⟩;have c:=Ap d;have Q:decide (r<0)=true:=(by rw[f.out,m.out];rfl)))
      go_ret;exact⟨by rw[Sr (a:=k) (b:=q) (by omega) (by omega) o.out];rfl,c.from_ B⟩
     cases u:Dm n (λi j=>B5 n L j i) k q
     ·have o:Hid (ES n (B5 n L) k q=false):=by show _=_;unfold ES;rw[l,u];rfl
      have m:=Ap l;have C:=Ap u
      go_wp2_with(first
       |(refine B3 rfl 25 _ rfl _ rfl _ _ _ _ c.box underlying25 rfl h ?_)
       |(refine CA 25 _ rfl rfl _ rfl _ _ _ _ c.box underlying25 rfl h ?_)
       |(go_at_call 31;refine(Ss p k q (by omega) (by omega) c).mono ?_;rintro e A ⟨r,rfl,f,d⟩;have c:=Ap d;have I:decide (r<0)=false:=(by rw[f.out,m.out];rfl))
       |(go_at_call 32;refine(Xv p k q (by omega) (by omega) c).mono ?_;rintro e A ⟨r,rfl,f,d⟩;have c:=Ap d;have Q:decide (r<0)=true:=(by rw[f.out,C.out];rfl)))
      go_ret;exact⟨by rw[Sr (a:=k) (b:=q) (by omega) (by omega) o.out];rfl,c.from_ B⟩
     have o:Hid (ES n (B5 n L) k q=true):=by show _=_;unfold ES;rw[l,u];rfl
     have m:=Ap l;have C:=Ap u
     go_wp2_with(first
      |(refine B3 rfl 25 _ rfl _ rfl _ _ _ _ c.box underlying25 rfl h ?_)
      |(refine CA 25 _ rfl rfl _ rfl _ _ _ _ c.box underlying25 rfl h ?_)
      |(go_at_call 31;refine(Ss p k q (by omega) (by omega) c).mono ?_;rintro e A ⟨r,rfl,f,d⟩;have c:=Ap d;have I:decide (r<0)=false:=(by rw[f.out,m.out];rfl))
      |(go_at_call 32;refine(Xv p k q (by omega) (by omega) c).mono ?_;rintro e A ⟨r,rfl,f,d⟩;have c:=Ap d;have I:decide (r<0)=false:=(by rw[f.out,C.out];rfl)))
     go_roundg M
     case measure=>omega
     case rel =>
      refine⟨q+1,by show _=_;have:=z.out;omega,by go_num,c,λb t=>?_⟩;by_cases e:b=q
      ·subst e;exact o
      exact E b (by omega)
theorem kA(c:Int)(L:List (Int×Int))(a:A5)(b:Nat)(i:L.length<=maxLen)(w:Al)(g:Es w a L)(h:CU c L=false):An prog 70 #[A7 Ah c,.slice a L.length b] w λe f=>e=Ag (Ab #[.agg AU,Ad false])/\A1 w f:=by
 by_cases d:1<=c/\c<=6/\L.length<=30
 ·obtain⟨n,rfl⟩:=Lt (show 0<=c by omega);have k:Da n L=false:=by
   unfold CU at h;rw[Bs d,Gj]at h;exact h
  refine(UQ n (by omega) (by omega) L a b d.2.2 w g).mono ?_;rintro e f ⟨rfl,j⟩;exact⟨by rw[OR k],j⟩
 exact aF c L a b i w d
theorem kB(c:Int)(L:List (Int×Int))(a:A5)(b:Nat)(w:Al)(g:Es w a L)(h:CU c L=true):An prog 70 #[A7 Ah c,.slice a L.length b] w λe d=>e=Ag (Ab #[.agg (Bh c.toNat (BK c.toNat L)),Ad true])/\A1 w d:=by
 unfold CU at h;rw[Ch]at h;have j:=By h.1;obtain⟨n,rfl⟩:=Lt (show 0<=c by omega);refine(UQ n (by omega) (by omega) L a b j.2.2 w g).mono ?_;rintro e d ⟨rfl,i⟩;have f:Da n L=true:=by have:=h.2;rwa[Gh]at this
 exact⟨by rw[UP f,Gh],i⟩
def Db(c:Int)(L:List (Int×Int))(d k:Int):Int :=
 if CU c L&&Bv c.toNat d&&Bv c.toNat k then(if Fa c.toNat (BK c.toNat L)then 2 else if FM c.toNat (BK c.toNat L)then 0 else 3)else 1
def G8(c:Int)(L:List (Int×Int))(d k:Int):A4:=if Db c L d k=0 then Bh c.toNat (BK c.toNat L)else AU
def G9(c:Int)(L:List (Int×Int))(d k:Int):Value:=Ab #[.agg (G8 c L d k),A7 Ah (Db c L d k)]
theorem Su{k:Int}(h:(CU c L&&Bv c.toNat d&&Bv c.toNat k)=false):G9 c L d k=Ab #[.agg AU,A7 Ah 1]:=by
 have e:Db c L d k=1:=by unfold Db;rw[h];rfl
 unfold G9 G8;rw[e];rfl
theorem kD{k:Int}(h:(CU c L&&Bv c.toNat d&&Bv c.toNat k)=true)(a:Fa c.toNat (BK c.toNat L)=true):G9 c L d k=Ab #[.agg AU,A7 Ah 2]:=by
 have e:Db c L d k=2:=by unfold Db;rw[h,a];rfl
 unfold G9 G8;rw[e];rfl
theorem kE{k:Int}(h:(CU c L&&Bv c.toNat d&&Bv c.toNat k)=true)(a:Fa c.toNat (BK c.toNat L)=false)(b:FM c.toNat (BK c.toNat L)=false):G9 c L d k=Ab #[.agg AU,A7 Ah 3]:=by
 have e:Db c L d k=3:=by unfold Db;rw[h,a,b];rfl
 unfold G9 G8;rw[e];rfl
theorem kF{k:Int}(h:(CU c L&&Bv c.toNat d&&Bv c.toNat k)=true)(a:Fa c.toNat (BK c.toNat L)=false)(b:FM c.toNat (BK c.toNat L)=true):G9 c L d k=Ab #[.agg (Bh c.toNat (BK c.toNat L)),A7 Ah 0]:=by
 have e:Db c L d k=0:=by unfold Db;rw[h,a,b];rfl
 unfold G9 G8;rw[e];rfl
structure NQ(w:World)(N:Nat)(arr A:A4)(W:World):Prop where
 below:A1 w W
 box:W.heap[w.heap.size]?=some (.cells arr 25)
 res:W.heap[w.heap.size+1]?=some (.cells AU 72)
 own:W.heap[N]?=some (.cells A 72)
 lo:w.heap.size+1<N
theorem NQ.step{N:Nat}{A:A4}(h:NQ w N arr A W)(a:A1 W W'):NQ w N arr A W':=by
 have b:=At h.own;have:=h.lo;exact⟨h.below.trans (a.mono h.below.size),(a.block _ (by omega)).trans h.box,(a.block _ (by omega)).trans h.res,(a.block _ b).trans h.own,h.lo⟩
theorem Xz(w b:Al)(arr A:A4)(a:Below (w.heap.size+1+1) ((w.alloc (Af arr 25)).alloc (Af AU 72)) b):NQ w b.heap.size arr A (b.alloc (Af A 72)):=by
 have c:=a.size;simp only[AM,A1]at c;refine⟨(((AH).alloc (by simp) _).trans (a.mono (by omega))).alloc (by omega) _,?_,?_,Ay _ _,by omega⟩
 ·rw[AL _ _ _ (by omega),a.block _ (by omega),AL _ _ _ (by simp)];exact Ay _ _
 rw[AL _ _ _ (by omega),a.block _ (by omega)];have:=Ay (w.alloc (Af arr 25)) (Af AU 72);rwa[AM]at this
theorem kG(arr:Array Value)(c:Int)(L:List (Int×Int))(r:Option Addr)(A:Nat)(d k:Int)(T:arr[0]?=some (.int .i64 c))(f1:arr[1]?=some (.slice r L.length A))(Q:arr[2]?=some (.int .i64 d))(u:arr[4]?=some (.int .i64 k))(H:L.length<=maxLen)(w:World)(G:Es w r L):Calls prog 41 #[.agg arr] w λe S=>e=.returned (G9 c L d k)/\Below w.heap.size w S:=by
 have E:Hid (Es ((w.alloc (.cells arr 25)).alloc (.cells AU 72)) r L):=G.below ((AH).alloc (by simp) _);have J:=Ap H;clear G H;cases i:CU c L
 ·have j:Hid (G9 c L d k=.tuple #[.agg AU,.int .i64 1]):=Su (by rw[i];rfl);have o:=kA c L r A J.out _ E.out i;clear i;go_enter func41,ntmps41
  go_wp2_with(first
   |(refine G1 rfl rfl _ rfl (w.heap.size+1) ?hN ?_;case hN=>(simp only[AM,A1];done))
   |(go_at_call 70;refine o.mono ?_;clear o;rintro e h ⟨rfl,B⟩;have b:=Ap (Xz w h arr AU (by simpa using(show Below _ _ _ from B))))
   |(refine G1 rfl rfl _ rfl h.heap.size rfl ?_)
   |(refine EK rfl 72 _ rfl _ rfl _ [] ?hl KN ?_;case hl=>simp)
   |(refine Bg rfl 72 _ _ rfl h.heap.size AU rfl rfl 72 AU (Ay h _) (BP (Bj _ _)) rfl (FL _ _) ?_;rw[F6])
   |(refine Bg rfl 72 _ _ rfl (w.heap.size+1) AU rfl rfl 72 AU b.out.res (BP (Bj _ _)) rfl (FL _ _) ?_))
  refine Bd (FN results41 _ _ (w.heap.size+1) 72 AU (0,0) _ rfl (B4 _ _ AU _ _ _ b.out.res) underlying72 rfl (BP (Bj _ _)) (.int .i64 1) rfl) rfl ⟨by rw[j.out],Bu b.out.below (by omega) _⟩
 have o:=kB c L r A _ E.out i;have F:=Ap i;have U:1<=c/\c<=6:=by
  unfold CU at i;rw[Ch]at i;have:=By i.1;omega
 clear i;obtain⟨n,rfl⟩:=Lt (show 0<=c by omega);have I:n<=6:=by omega
 rw[Gh]at o;have b:Hid (∀x,Bv ((n:Int)).toNat x=Bv n x):=λx=>by rw[Gh]
 have K:Hid (BK ((n:Int)).toNat L=BK n L):=by show _=_;rw[Gh]
 have s:Hid (Fa ((n:Int)).toNat (BK ((n:Int)).toNat L)=Fa n (BK n L)):=by show _=_;rw[Gh]
 have y:Hid (FM ((n:Int)).toNat (BK ((n:Int)).toNat L)=FM n (BK n L)):=by show _=_;rw[Gh]
 have D:Hid (Bh ((n:Int)).toNat (BK ((n:Int)).toNat L)=Bh n (BK n L)):=by show _=_;rw[Gh]
 generalize BK n L=M at *;have R:(Bv n d=false/\Hid (G9 n L d k=.tuple #[.agg AU,.int .i64 1]))\/(Bv n d=true/\Bv n k=false/\Hid (G9 n L d k=.tuple #[.agg AU,.int .i64 1]))\/(Bv n d=true/\Bv n k=true/\Fa n M=true/\Hid (G9 n L d k=.tuple #[.agg AU,.int .i64 2]))\/(Bv n d=true/\Bv n k=true/\Fa n M=false/\FM n M=false/\Hid (G9 n L d k=.tuple #[.agg AU,.int .i64 3]))\/(Bv n d=true/\Bv n k=true/\Fa n M=false/\FM n M=true/\Hid (G9 n L d k=.tuple #[.agg (Bh n M),.int .i64 0])):=by
  cases m:Bv n d
  ·exact .inl ⟨rfl,Su (by rw[b.out,b.out,m];simp)⟩
  cases q:Bv n k
  ·exact .inr (.inl ⟨rfl,rfl,Su (by rw[b.out,b.out,q];simp)⟩)
  have z:(CU n L&&Bv ((n:Int)).toNat d&&Bv ((n:Int)).toNat k)=true:=by rw[b.out,b.out,m,q,F.out];rfl
  cases p:Fa n M
  ·cases v:FM n M
   ·exact .inr (.inr (.inr (.inl ⟨rfl,rfl,rfl,rfl,kE z (s.out.trans p) (y.out.trans v)⟩)))
   exact .inr (.inr (.inr (.inr ⟨rfl,rfl,rfl,rfl,(kF z (s.out.trans p) (y.out.trans v)).trans (by rw[D.out])⟩)))
  exact .inr (.inr (.inl ⟨rfl,rfl,rfl,kD z (s.out.trans p)⟩))
 clear b K s y D F;have t:True:=trivial;have N:=t;have O:=t;have P:=t;rcases R with⟨m,j⟩|⟨m,q,j⟩|⟨m,q,p,j⟩|⟨m,q,p,v,j⟩|⟨m,q,p,v,j⟩
 all_goals
  go_enter func41,ntmps41
  go_wp2_with(first
   |(refine G1 rfl rfl _ rfl (w.heap.size+1) ?hN ?_;case hN=>(simp only[AM,A1];done))
   |(go_at_call 70;refine o.mono ?_;clear o;rintro e h ⟨rfl,B⟩;have a:Hid (NQ w h.heap.size arr (Bh n M) (h.alloc (.cells (Bh n M) 72))):=Xz w h arr _ (by simpa using(show Below _ _ _ from B));have l:=(Ar a.out.box 2).trans Q)
   |(refine G1 rfl rfl _ rfl h.heap.size rfl ?_)
   |(refine Bg rfl 72 _ _ rfl h.heap.size (Bh n M) rfl rfl 72 AU (Ay h _) (BP (Bj _ _)) (by rw[Bj];exact Bj _ _) (FL _ _) ?_;rw[F6])
   |(refine B3 rfl 72 _ rfl _ rfl _ _ _ _ a.out.own underlying72 rfl (BP (Bj _ _)) ?_)
   |(refine CA 72 _ rfl rfl _ rfl _ _ _ _ a.out.own underlying72 rfl (BP (Bj _ _)) ?_)
   |(refine EK rfl 72 _ rfl _ rfl _ [] ?hl KN ?_;case hl=>simp)
   |(go_at_call 71;clear t;refine(LS _ n (Fv n M).count d _).mono ?_;rintro e C ⟨rfl,g⟩;have f:=a.out.step g;clear a l;have a:=Ap f;clear f g;have l:=(Ar a.out.box 4).trans u)
   |(go_at_call 71;clear N;refine(LS _ n (Fv n M).count k _).mono ?_;rintro e C ⟨rfl,g⟩;have f:=a.out.step g;clear a l;have a:=Ap f;clear f g;have l:=(Ar a.out.box 4).trans u)
   |(go_at_call 72;clear O;refine(aj _ n M (Fv n M) I _).mono ?_;rintro e C ⟨rfl,g⟩;have f:=a.out.step g;clear a l;have a:=Ap f;clear f g;have l:=(Ar a.out.box 4).trans u)
   |(go_at_call 73;clear P;refine(ax _ n M (Fv n M) I _).mono ?_;rintro e C ⟨rfl,g⟩;have f:=a.out.step g;clear a l;have a:=Ap f;clear f g;have l:=(Ar a.out.box 4).trans u)
   |(refine Bg rfl 72 _ _ rfl (w.heap.size+1) AU rfl rfl 72 AU a.out.res (BP (Bj _ _)) rfl (FL _ _) ?_)
   |(refine Bg rfl 72 _ _ rfl (w.heap.size+1) (Bh n M) rfl rfl 72 AU a.out.res (BP (Bj _ _)) (by rw[Bj];exact Bj _ _) (FL _ _) ?_))
  first
  |refine Bd (FN results41 _ _ (w.heap.size+1) 72 AU (0,0) _ rfl (B4 _ _ AU _ _ _ a.out.res) underlying72 rfl (BP (Bj _ _)) (.int .i64 _) rfl) rfl ⟨by rw[j.out],Bu a.out.below (by omega) _⟩
  |refine Bd (FN results41 _ _ (w.heap.size+1) 72 (Bh n M) (0,0) _ rfl (B4 _ _ AU _ _ _ a.out.res) underlying72 rfl (BP (Bj _ _)) (.int .i64 0) rfl) rfl ⟨by rw[j.out],Bu a.out.below (by omega) _⟩
end
end Go.Proofs.YtoegnhgofkhbnaaGreatDoor
