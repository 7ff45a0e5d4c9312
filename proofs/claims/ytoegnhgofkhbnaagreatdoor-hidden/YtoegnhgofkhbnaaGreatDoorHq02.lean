import Derived.Test.YtoegnhgofkhbnaaGreatDoorShelf
import Derived.Laws.Runes
import Derived.Laws.RangeAny
import Derived.Test.YtoegnhgofkhbnaaGreatDoorHq00
set_option maxRecDepth 100000
set_option maxHeartbeats 8000000
set_option linter.all false
namespace Go.Proofs.YtoegnhgofkhbnaaGreatDoor
open Go.Proofs.Tryz
open Go.Value renaming int->A7,slice->A8,pointer->A9,tuple->Ab,bool->Ad
open Go.Obj renaming cells->Af
open Go.Ending renaming returned->Ag
open Go.IntKind renaming i64->Ah
open Option renaming some->Aj,none->Ak
open Go renaming World->Al,Calls->An
variable{b fuel i j k n st x:Nat}{a:Act}{W w w':Al}{M m m':Nat->Nat->Bool}{Q:Exit->Act->Al->Prop}{ss:List (Nat×A2)}{P:Program}{ops:Array Oper}{md:Region.Mode}{listed:Array Bool}{o oi:Oper}{S:Al->Prop}{X Y:Nat->Nat}
section
open Go.RowKit
theorem UI(w:Al)(g i:Nat)(cs:A4)(h:i≠g):(w.setRow g cs).heap[i]?=w.heap[i]?:=BO w g i cs h
theorem Bu{B:Nat}{a:Al}(h:Below B a w){g:Nat}(b:B<=g)(cs:A4):Below B a (w.setRow g cs) :=
 h.trans ⟨rfl,rfl,rfl,by simp,λk c=>BO w g k cs (by omega)⟩
structure Jf(w W:World)(arr:A4)(n:Nat)(M:Nat->Nat->Bool):Prop where
 below:A1 w W
 box:W.heap[w.heap.size]?=some (.cells arr 72)
 res:W.heap[w.heap.size+1]?=some (.cells AU 72)
 own:W.heap[w.heap.size+1+1]?=some (.cells (Bh n M) 72)
theorem al(w:Al)(arr:A4)(n:Nat):Jf w ((((w.alloc (Af arr 72)).alloc (Af AU 72)).alloc (Af AU 72)).setRow (w.heap.size+1+1) (Bh n λ_ _=>false)) arr n (λ_ _=>false):=by
 refine⟨Bu (((AH).alloc (by simp) _).alloc (by simp;omega) _) (by omega) _,?_,?_,?_⟩
 ·rw[UI _ _ _ _ (by omega),AL _ _ _ (by simp;omega),AL _ _ _ (by simp)];exact Ay w _
 ·rw[UI _ _ _ _ (by omega),AL _ _ _ (by simp)];have:=Ay (w.alloc (Af arr 72)) (Af AU 72);rwa[AM]at this
 refine B4 _ _ AU _ 72 (0,0) ?_;have:=Ay ((w.alloc (Af arr 72)).alloc (Af AU 72)) (Af AU 72);rwa[AM,AM]at this
theorem Jf.set{arr:A4}(h:Jf w W arr n M)(hi:i<6)(a:j<6)(b:Bool):Jf w (W.setCell ⟨w.heap.size+1+1,1+i*6+j,Ak⟩ (Ad b)) arr n (F9 M i j b) :=
 ⟨h.below.setCell (by simp;omega) _,(BV W _ _ _ (by simp;omega)).trans h.box,(BV W _ _ _ (by simp)).trans h.res,
  by rw[DJ W _ _ _ _ _ h.own,UF n M i j b hi a]⟩
theorem Jf.drew{arr:A4}(h:Jf w W arr n M):Jf w W.drew arr n M:=⟨h.below.drew,h.box,h.res,h.own⟩
def Dt(n:Nat)(m:Nat->Nat->Bool)(k q:Nat):Nat->Nat->Bool:=λi j=>decide (j<n/\(i<k\/(i=k/\j<q)))&&m j i
theorem am(n:Nat)(m:Nat->Nat->Bool):Dt n m 0 0=λ_ _=>false:=by
 funext i j;simp[Dt]
theorem an(n:Nat)(m:Nat->Nat->Bool)(k q:Nat)(a:q<n):F9 (Dt n m k q) k q (m q k)=Dt n m k (q+1):=by
 funext i j;unfold F9 Dt;by_cases h:i=k/\j=q
 ·obtain⟨rfl,rfl⟩:=h;simp[a]
 rw[Aq h];congr 1;exact GI.2 (by omega)
theorem ap(n:Nat)(m:Nat->Nat->Bool)(k:Nat):Dt n m k n=Dt n m (k+1) 0:=by
 funext i j;unfold Dt;congr 1;exact GI.2 (by omega)
theorem ar(n:Nat)(m:Nat->Nat->Bool)(i j:Nat)(hi:i<n)(a:j<n):Dt n m n 0 i j=m j i:=by
 unfold Dt;rw[Bs (by omega),Gj]
theorem av(arr:A4)(n:Nat)(m:Nat->Nat->Bool)(H:K4 arr n m)(E:n<=6)(w:Al):An prog 97 #[.agg arr] w λe A=>e=Ag (.agg (Bh n (Dt n m n 0)))/\A1 w A:=by
 have l:=Ap H.at_;have j:=H.count;have f:=al w arr n;have p:Hid ((((w.alloc (Af arr 72)).alloc (Af AU 72)).alloc (Af AU 72)).heap[w.heap.size+1+1]?=Aj (Af AU 72)):=by
  have:=Ay ((w.alloc (Af arr 72)).alloc (Af AU 72)) (Af AU 72);rw[AM,AM]at this;exact this
 have s:Hid (AU.size=(Bh n λ_ _=>false).size):=by rw[Bj];exact Bj _ _
 generalize hW:(((w.alloc (Af arr 72)).alloc (Af AU 72)).alloc (Af AU 72)).setRow (w.heap.size+1+1) (Bh n λ_ _=>false)=W at f;have o:Hid (_=W):=hW;have u:=(Ar f.box 0).trans j;have r:=Ap f;go_enter func97,ntmps97
 go_wp2_with(first
  |(refine G1 rfl rfl _ rfl (w.heap.size+1) ?hN ?_;case hN=>(simp only[AM,A1];done))
  |(refine G1 rfl rfl _ rfl (w.heap.size+1+1) ?hN ?_;case hN=>(simp only[AM,A1];done))
  |(refine EK rfl 72 _ rfl _ rfl _ [(0,A7 Ah n)] ?hl (UG n) ?_;case hl=>simp[go_sem])
  |(refine Bg rfl 72 _ _ rfl _ _ rfl rfl 72 AU p (BP (Bj _ _)) s (FL _ _) ?_;rw[o.out]))
 go_loopg[11,4] n (λg x y wr=>∃k:Nat,Hid (k+g=n)/\x=A7 Ah k/\Hid (Jf w wr arr n (Dt n m k 0)))
 case atStart=>exact⟨0,by show _=_;omega,rfl,by rw[am];exact r⟩
 case round =>
  obtain⟨k,c,rfl,a⟩:=hrel;have u:=(Ar a.box 0).trans j
  cases gk with
  |zero =>
   have v:¬(k:Int)<n:=by have:=c.out;omega
   have e:k=n:=by have:=c.out;omega
   subst e
   go_wp2_with(first
    |(refine B3 rfl 72 _ rfl _ rfl _ _ _ _ a.own underlying72 rfl (BP (Bj _ _)) ?_)
    |(refine Bg rfl 72 _ _ rfl _ _ rfl rfl 72 AU a.res (BP (Bj _ _)) (by rw[Bj];exact Bj _ _) (FL _ _) ?_))
   refine Bd (KG results97 _ _ (w.heap.size+1) 72 (Bh k (Dt k m k 0)) (0,0) _ rfl (B4 _ _ AU _ _ _ a.res) underlying72 rfl (BP (Bj _ _))) rfl ⟨rfl,Bu a.below (by omega) _⟩
  |succ g =>
   have v:(k:Int)<n:=by have:=c.out;omega
   have h:k<6:=by omega
   go_wp2
   go_loopg[16,5] n (λg x y wr=>∃q:Nat,Hid (q+g=n)/\x=A7 Ah q/\Hid (Jf w wr arr n (Dt n m k q)))
   case atStart=>exact⟨0,by show _=_;omega,rfl,a⟩
   case round =>
    obtain⟨q,d,rfl,b⟩:=hrel
    cases gk with
    |zero =>
     have z:¬(q:Int)<n:=by have:=d.out;omega
     go_wp2;go_roundg g
     case measure=>omega
     case rel =>
      have e:q=n:=by have:=d.out;omega
      exact⟨k+1,by show _=_;have:=c.out;omega,by go_num,by have:=b.out;rw[e,ap]at this;exact this⟩
    |succ t =>
     have z:(q:Int)<n:=by have:=d.out;omega
     have i:q<6:=by omega
     have B:=(Ar b.box _).trans (l q k i h);have C:=(Ar b.own _).trans ((Fv n (Dt n m k q)).at_ k q h i);have D:=Cx wr (w.heap.size+1+1) (1+k*6+q) _ _ b.own;go_wp2
     go_region
     all_goals go_wp2
     go_roundg t
     case measure=>omega
     case rel=>exact⟨q+1,by show _=_;have:=d.out;omega,by go_num,by have:=(b.set h i (m q k)).drew;rw[an n m k q (by omega)]at this;exact this⟩
def GK(n:Nat)(m:Nat->Nat->Bool)(a b:Nat):Bool:=Dm n m a b&&Dm n (λi j=>m j i) a b
def FM(n:Nat)(m:Nat->Nat->Bool):Bool:=(List.range n).all λa=>(List.range a).all λb=>GK n m a b
theorem UJ{a:Nat}(c:a<n)(d:b<a)(h:GK n m a b=false):FM n m=false:=by
 unfold FM;rw[F7];refine⟨a,BT.2 c,?_⟩;rw[KH,F7];exact⟨b,BT.2 d,by rw[h];decide⟩
theorem aw(h:∀a b,a<n->b<a->GK n m a b=true):FM n m=true:=by
 unfold FM;rw[D7];intro a c;rw[D7];intro b d;exact h a b (BT.1 c) (BT.1 d)
theorem Re(h:∀i j,i<n->j<n->m i j=m' i j){a:Nat}(d:a<n)(e:b<n)(c:k<n):C5 m a b k=C5 m' a b k:=by
 unfold C5;rw[h a k d c,h b k e c]
theorem UK(h:∀i j,i<n->j<n->m i j=m' i j){a:Nat}(e:a<n)(f:b<n)(l:k<n):CY n m a b k=CY n m' a b k:=by
 unfold CY;rw[Re h e f l];congr 1;rw[MY,D7,D7];constructor
 ·intro g j c;have d:=BT.1 c;rw[<-Re h e f d,<-h k j l d];exact g j c
 intro g j c;have d:=BT.1 c;rw[Re h e f d,h k j l d];exact g j c
theorem Rf(h:∀i j,i<n->j<n->m i j=m' i j){a:Nat}(d:a<n)(e:b<n):Dm n m a b=Dm n m' a b:=by
 unfold Dm;rw[MY,I6,I6];constructor
 ·rintro⟨k,c,g⟩;exact⟨k,c,by rw[<-UK h d e (BT.1 c)];exact g⟩
 rintro⟨k,c,g⟩;exact⟨k,c,by rw[UK h d e (BT.1 c)];exact g⟩
theorem ax(arr:A4)(n:Nat)(m:Nat->Nat->Bool)(H:K4 arr n m)(B:n<=6)(w:Al):An prog 73 #[.agg arr] w λe w'=>e=Ag (Ad (FM n m))/\A1 w w':=by
 have Z:=H.count;have Q:=Ap H;have v:=Ap (BP H.size);clear H;have z:=Ap (Ay w (Af arr 72));have N:=Ap ((AT w.heap.size w).alloc (AB _) (Af arr 72));have T:=av arr n m Q B (w.alloc (Af arr 72));go_enter func73,ntmps73
 go_wp2_with(first
  |(refine B3 rfl 72 _ rfl _ rfl _ arr _ _ z underlying72 rfl v ?_)
  |(go_at_call 97;refine T.mono ?_;clear T;rintro e c ⟨rfl,s⟩;have D:=s.size;rw[AM]at D)
  |(refine G1 rfl rfl _ rfl c.heap.size rfl ?_)
  |(refine Bg rfl 72 _ _ rfl _ _ rfl rfl 72 AU (Ay c _) (BP (Bj _ _)) (by rw[Bj];exact Bj _ _) (FL _ _) ?_;rw[F6];have y:(c.alloc (Af (Bh n (Dt n m n 0)) 72)).cell? ⟨w.heap.size,0,Ak⟩=Aj (A7 Ah n):=(Ar ((AL _ _ _ (by omega)).trans ((s.block _ (by simp)).trans z)) 0).trans Z))
 have V:Hid ((c.alloc (Af (Bh n (Dt n m n 0)) 72)).heap[w.heap.size]?=Aj (Af arr 72)):=(AL _ _ _ (by omega)).trans ((s.block _ (by simp)).trans z);have W:Hid ((c.alloc (Af (Bh n (Dt n m n 0)) 72)).heap[c.heap.size]?=Aj (Af (Bh n (Dt n m n 0)) 72)):=Ay _ _;have X:Hid ((c.alloc (Af (Bh n (Dt n m n 0)) 72)).heap.size=c.heap.size+1):=by show _=_;simp
 have F:Hid (A1 w (c.alloc (Af (Bh n (Dt n m n 0)) 72))):=(N.trans (s.mono (by simp))).alloc (by omega) _;clear y s z N;generalize c.alloc (Af (Bh n (Dt n m n 0)) 72)=W3 at *;have l:Hid (w.heap.size<c.heap.size):=by show _<_;omega
 generalize c.heap.size=N3 at *
 go_loopg[10,4] n (λg x ad wr=>∃k:Nat,Hid (k+g=n)/\x=A7 Ah k/\Below (N3+1) W3 wr/\Hid (∀a b,a<k->b<a->GK n m a b=true))
 case atStart=>exact⟨0,by show _=_;omega,rfl,AT _ _,λa b U=>by omega⟩
 case round =>
  obtain⟨k,A,rfl,d,P⟩:=hrel
  cases gk with
  |zero =>
   have aa:¬(k:Int)<n:=by have:=A.out;omega
   go_wp2;go_ret;exact⟨by rw[aw (λa b U t=>P.out a b (by have:=A.out;omega) t)];rfl,F.trans (d.mono (by have:=l.out;omega))⟩
  |succ g =>
   have aa:(k:Int)<n:=by have:=A.out;omega
   have L:k<6:=by omega
   go_wp2
   go_loopg[14,5] k (λg x ad wr=>∃q:Nat,Hid (q+g=k)/\x=A7 Ah q/\Below (N3+1) W3 wr/\Hid (∀b,b<q->GK n m k b=true))
   case atStart=>exact⟨0,by show _=_;omega,rfl,d,λb t=>by omega⟩
   case round =>
    clear d;obtain⟨q,C,rfl,d,R⟩:=hrel
    cases gk with
    |zero =>
     have ab:¬(q:Int)<k:=by have:=C.out;omega
     go_wp2;go_roundg g
     case measure=>omega
     case rel =>
      refine⟨k+1,by show _=_;have:=A.out;omega,by go_num,d,λa b U t=>?_⟩;by_cases e:a=k
      ·subst e;exact R b (by have:=C.out;omega)
      exact P a b (by omega) t
    |succ Y =>
     have ab:(q:Int)<k:=by have:=C.out;omega
     have M:q<6:=by omega
     have I:=Ap ((d.block _ (by have:=l.out;omega)).trans V);have S:=Ap ((d.block _ (by omega)).trans W);have D:=d.size;rw[X.out]at D;have h:=Rb arr n m Q B k q L M wr;have u:Hid (Dm n (Dt n m n 0) k q=Dm n (λi j=>m j i) k q):=Rf (λi j hi hj=>ar n m i j hi hj) (by omega) (by omega);cases o:Dm n m k q
     ·rw[o]at h;have r:Hid (GK n m k q=false):=by show _=_;unfold GK;rw[o];rfl
      clear o
      go_wp2_with(first
       |(refine B3 rfl 72 _ rfl _ rfl _ arr _ _ I underlying72 rfl v ?_)
       |(go_at_call 98;refine h.mono ?_;clear h;rintro e E ⟨rfl,f⟩))
      go_ret;exact⟨by rw[UJ (a:=k) (b:=q) (by omega) (by omega) r.out];rfl,F.trans ((d.mono (by have:=l.out;omega)).trans (f.mono (by have:=l.out;omega)))⟩
     rw[o]at h;have O:=Ap o;clear o;cases p:Dm n (λi j=>m j i) k q
     ·have r:Hid (GK n m k q=false):=by show _=_;unfold GK;rw[p,O.out];rfl
      have G:=Ap (u.trans p);clear p u
      go_wp2_with(first
       |(refine B3 rfl 72 _ rfl _ rfl _ arr _ _ I underlying72 rfl v ?_)
       |(go_at_call 98;refine h.mono ?_;clear h;rintro e E ⟨rfl,f⟩;have c2:=Rb _ n _ (Fv n (Dt n m n 0)) B k q L M E;rw[G.out]at c2;have J:=Ap ((f.block _ (by omega)).trans S))
       |(refine CA 72 _ rfl rfl _ rfl _ _ _ _ J underlying72 rfl (BP (Bj _ _)) ?_)
       |(go_at_call 98;refine c2.mono ?_;clear c2;rintro e w5 ⟨rfl,K⟩))
      go_ret;have ac:=f.size;exact⟨by rw[UJ (a:=k) (b:=q) (by omega) (by omega) r.out];rfl,F.trans ((d.mono (by have:=l.out;omega)).trans ((f.mono (by have:=l.out;omega)).trans (K.mono (by have:=l.out;omega))))⟩
     have r:Hid (GK n m k q=true):=by show _=_;unfold GK;rw[p,O.out];rfl
     have G:=Ap (u.trans p);clear p u
     go_wp2_with(first
      |(refine B3 rfl 72 _ rfl _ rfl _ arr _ _ I underlying72 rfl v ?_)
      |(go_at_call 98;refine h.mono ?_;clear h;rintro e E ⟨rfl,f⟩;have c2:=Rb _ n _ (Fv n (Dt n m n 0)) B k q L M E;rw[G.out]at c2;have J:=Ap ((f.block _ (by omega)).trans S))
      |(refine CA 72 _ rfl rfl _ rfl _ _ _ _ J underlying72 rfl (BP (Bj _ _)) ?_)
      |(go_at_call 98;refine c2.mono ?_;clear c2;rintro e w5 ⟨rfl,K⟩))
     have ac:=f.size;go_roundg Y
     case measure=>omega
     case rel =>
      refine⟨q+1,by show _=_;have:=C.out;omega,by go_num,d.trans ((f.mono D).trans (K.mono (by omega))),λb t=>?_⟩;by_cases e:b=q
      ·subst e;exact r
      exact R b (by omega)
def fst(n k:Nat)(m:Nat->Nat->Bool)(l h:Nat):Nat->Nat->Bool:=λi j=>m i j||(decide (j<n/\(i<l\/(i=l/\j<h)))&&(m i k&&m k j))
def EL(n:Nat):Nat->(Nat->Nat->Bool)->Nat->Nat->Bool
 |0,m=>m
 |k+1,m=>fst n k (EL n k m) n 0
theorem ay(n k:Nat)(m:Nat->Nat->Bool):fst n k m 0 0=m:=by
 funext i j;simp[fst]
theorem az(n k:Nat)(m:Nat->Nat->Bool)(l:Nat):fst n k m l n=fst n k m (l+1) 0:=by
 funext i j;unfold fst;congr 2;exact GI.2 (by omega)
theorem UL(n k:Nat)(m:Nat->Nat->Bool)(l h i:Nat):fst n k m l h i k=m i k:=by
 unfold fst;cases m i k<;>simp
theorem UM(n k:Nat)(m:Nat->Nat->Bool)(l h j:Nat):fst n k m l h k j=m k j:=by
 unfold fst;cases m k j<;>simp
theorem aA(n k:Nat)(m:Nat->Nat->Bool)(l h:Nat)(d:h<n)(a:m l k=true)(b:m k h=true):F9 (fst n k m l h) l h true=fst n k m l (h+1):=by
 funext i j;unfold F9 fst;by_cases c:i=l/\j=h
 ·obtain⟨rfl,rfl⟩:=c;simp[d,a,b]
 rw[Aq c];congr 2;exact GI.2 (by omega)
theorem UN(n k:Nat)(m:Nat->Nat->Bool)(l h:Nat)(e:(m l k&&m k h)=false):fst n k m l h=fst n k m l (h+1):=by
 funext i j;unfold fst;by_cases c:i=l/\j=h
 ·obtain⟨rfl,rfl⟩:=c;rw[e];simp
 congr 2;exact GI.2 (by omega)
structure Cs(w W:World)(b n:Nat)(M:Nat->Nat->Bool):Prop where
 below:Below b w W
 own:W.heap[b]?=some (.cells (Bh n M) 72)
theorem Cs.set(h:Cs w W b n M)(hi:i<6)(a:j<6)(v:Bool):Cs w (W.setCell ⟨b,1+i*6+j,Ak⟩ (Ad v)) b n (F9 M i j v) :=
 ⟨h.below.setCell (AB _) _,by rw[DJ W _ _ _ _ _ h.own,UF n M i j v hi a]⟩
theorem Cs.count(h:Cs w W b n M):W.cell? ⟨b,0,Ak⟩=Aj (A7 Ah n):=(Ar h.own 0).trans (Fv n M).count
theorem Cs.at_(h:Cs w W b n M)(hi:i<6)(a:j<6):W.cell? ⟨b,1+i*6+j,Ak⟩=Aj (Ad (M i j)):=(Ar h.own _).trans ((Fv n M).at_ i j hi a)
theorem Cs.frozen(h:Cs w W b n M)(j:Nat):W.frozen? ⟨b,j,Ak⟩=false:=Cx W b j _ _ h.own
theorem Cs.drew(h:Cs w W b n M):Cs w W.drew b n M:=⟨h.below.drew,h.own⟩
theorem aB(b n:Nat)(m:Nat->Nat->Bool)(L:n<=6)(w:Al)(I:w.heap[b]?=Aj (Af (Bh n m) 72)):An prog 96 #[A9 (Aj ⟨b,0,Ak⟩)] w λe J=>e=Ag (Ab #[])/\Cs w J b n (EL n n m):=by
 have v:Hid (Cs w w b n (EL n 0 m)):=⟨AT _ _,I⟩
 have z:=v.count;go_enter func96,ntmps96;go_wp2
 go_loopg[9,2] n (λg x y wr=>∃k:Nat,Hid (k+g=n)/\x=A7 Ah k/\Hid (Cs w wr b n (EL n k m)))
 case atStart=>exact⟨0,by show _=_;omega,rfl,v⟩
 case round =>
  obtain⟨k,i,rfl,p⟩:=hrel;have z:=p.count
  cases gk with
  |zero =>
   have H:¬(k:Int)<n:=by have:=i.out;omega
   go_wp2;go_end0;have e:k=n:=by have:=i.out;omega
   exact⟨rfl,by have:=p.out;rw[e]at this;exact this⟩
  |succ g =>
   have H:(k:Int)<n:=by have:=i.out;omega
   have A:k<6:=by omega
   go_wp2
   go_loopg[16,3] n (λg x y wr=>∃l:Nat,Hid (l+g=n)/\x=A7 Ah l/\Hid (Cs w wr b n (fst n k (EL n k m) l 0)))
   case atStart=>exact⟨0,by show _=_;omega,rfl,by rw[ay];exact p⟩
   case round =>
    obtain⟨l,j,rfl,q⟩:=hrel;have z:=q.count
    cases gk with
    |zero =>
     have G:¬(l:Int)<n:=by have:=j.out;omega
     go_wp2;go_roundg g
     case measure=>omega
     case rel =>
      have e:l=n:=by have:=j.out;omega
      exact⟨k+1,by show _=_;have:=i.out;omega,by go_num,by have:=q.out;rw[e]at this;exact this⟩
    |succ E =>
     have G:(l:Int)<n:=by have:=j.out;omega
     have u:l<6:=by omega
     go_wp2
     go_loopg[23,4] n (λg x y wr=>∃h:Nat,Hid (h+g=n)/\x=A7 Ah h/\Hid (Cs w wr b n (fst n k (EL n k m) l h)))
     case atStart=>exact⟨0,by show _=_;omega,rfl,q⟩
     case round =>
      obtain⟨h,c,rfl,a⟩:=hrel
      cases gk with
      |zero =>
       have F:¬(h:Int)<n:=by have:=c.out;omega
       go_wp2;go_roundg E
       case measure=>omega
       case rel =>
        have e:h=n:=by have:=c.out;omega
        exact⟨l+1,by show _=_;have:=j.out;omega,by go_num,by have:=a.out;rw[e,az]at this;exact this⟩
      |succ s =>
       have F:(h:Int)<n:=by have:=c.out;omega
       have t:h<6:=by omega
       have r:=a.at_ u A;have c2:=a.at_ A t;have D:=a.at_ u t;have K:=a.frozen (1+l*6+h);rw[UL]at r;rw[UM]at c2;generalize hM:EL n k m=M at *;cases d:M l k
       ·rw[d]at r;have o:Hid ((M l k&&M k h)=false):=by show _=_;rw[d];rfl
        go_wp2;go_roundg s
        case measure=>omega
        case rel=>exact⟨h+1,by show _=_;have:=c.out;omega,by go_num,by have:=a.out;rw[UN n k M l h o.out]at this;exact this⟩
       rw[d]at r;cases f:M k h
       ·rw[f]at c2;have o:Hid ((M l k&&M k h)=false):=by show _=_;rw[d,f];rfl
        go_wp2;go_roundg s
        case measure=>omega
        case rel=>exact⟨h+1,by show _=_;have:=c.out;omega,by go_num,by have:=a.out;rw[UN n k M l h o.out]at this;exact this⟩
       rw[f]at c2;have B:=Ap d;have C:=Ap f;generalize hV:fst n k M l h l h=v0 at D;go_wp2;go_roundg s
       case measure=>omega
       case rel=>exact⟨h+1,by show _=_;have:=c.out;omega,by go_num,by have:=a.set u t true;rw[aA n k M l h (by omega) B C.out]at this;exact this⟩
end
section
open Go.RowKit Go.Shelf
theorem P8{K:Act->Al->Prop}(h:Q .ret a w):Exit.then K Q .ret a w:=h
theorem RN(h:Q .ret a w):Exit.inBlock n Q .ret a w:=h
theorem M4(h:Q .ret a w):Exit.noGoto Q .ret a w:=h
theorem eO(s:ByteArray)(o:s.size=5)(b:∀i (h:i<s.size),(s[i]'h).toNat<128)(w:Al):An prog 175 #[.string s,A7 .i32 65533] w λe k=>e=Ag (A7 Ah (-1))/\A1 w k:=by
 have d:Hid (∀i (h:i<s.size),(s[i]'h).toNat<128):=b;clear b;go_enter func175,ntmps175;go_wp2
 go_loopg[5,6] 5 (λg _ _ l=>∃i:Nat,i+g=5/\l=w.iter s i)
 case atStart=>exact⟨0,by omega,rfl⟩
 case round =>
  obtain⟨i,n,rfl⟩:=hrel
  cases gk with
  |zero =>
   obtain rfl:i=5:=by omega
   have j:=λa=>run_next_end (P:=prog) w s 5 a (by omega);go_wp2;go_ret;exact⟨rfl,AH⟩
  |succ g =>
   have c:i<s.size:=by omega
   have f:=d.out i (by omega);have j:=λa=>run_next_ascii (P:=prog) w s i a c f;have m:¬((s[i]'c).toNat:Int)=65533:=by omega
   go_wp2;go_roundg g
   case measure=>omega
   case rel=>exact⟨i+1,by omega,rfl⟩
theorem eP(s:ByteArray)(r:Int)(c:128<=r)(d:¬r=65533)(a:Lib.validRune r=false)(w:Al):An prog 175 #[.string s,A7 .i32 r] w λe b=>e=Ag (A7 Ah (-1))/\A1 w b:=by
 go_enter func175,ntmps175
 go_wp2_with(first|(go_at_call 189;refine(Tryz.utf8_ValidRune _ _).mono ?_;rintro e f ⟨rfl,rfl⟩;rw[a]))
 go_ret;exact⟨rfl,AT _ _⟩
theorem eQ(s:ByteArray)(B:s.size=5)(o:∀i (h:i<s.size),(s[i]'h).toNat<128)(r:Int)(E:128<=r)(I:¬r=65533)(C:Lib.validRune r=true)(rs:ByteArray)(k:Nat)(J:Utf8.encode r=rs)(G:rs.size=k+1)(D:1<=k)(F:k<=3)(y:128<=(rs[k]'(by omega)).toNat)(w:Al):An prog 175 #[.string s,A7 .i32 r] w λe n=>e=Ag (A7 Ah (-1))/\A1 w n:=by
 have v:k<s.size:=by omega
 have f:k<rs.size:=by omega
 have K:=o k v;have H:¬((s[k]'v).toNat:Int)=((rs[k]'f).toNat:Int):=by omega
 have m:Hid (Lib.indexByte (s.extract (k+1) s.size).data.toList (rs[k]'f) = -1):=by
  show _=_;rw[<-Lib.firstIdx_eq];refine firstIdx_ascii s (k+1) s.size _ (λb z=>?_) y;obtain⟨i,u,rfl⟩:=Iy z;have A:i<s.size:=by rw[DB]at u;exact u
  exact o i A
 have p:(((rs[k]'f).toNat:Int)).toNat.toUInt8=rs[k]'f:=by simp
 clear o;obtain rfl|rfl|rfl:k=1\/k=2\/k=3:=by omega
 all_goals
  rw[B]at m;go_enter func175,ntmps175
  go_wp2_with(first|(go_at_call 189;refine(Tryz.utf8_ValidRune _ _).mono ?_;rintro e q ⟨rfl,rfl⟩;rw[C]))
  go_step3;go_wp2
 ·have x:Lib.indexByte (List.take 3 (List.drop 2 s.data.toList)) (rs[1]'f)<0:=by
   have h:=m.out;rw[Ot,Ox,Ol]at h;have t:Lib.indexByte (List.take 3 (List.drop 2 s.data.toList)) (rs[1]'f) = -1:=h;omega
  go_loopg[9,10,11,12] 1 (λg a b c d l=>a=A7 Ah 1/\l=q)
  case atStart=>exact⟨rfl,rfl⟩
  case round =>
   obtain⟨rfl,rfl⟩:=hrel;go_wp2;go_step3;go_wp2
   go_region
   go_wp2
   go_region_with(first|(go_at_call 188;refine(Tryz.strings_IndexByte _ _ _).mono ?_;rintro e n ⟨rfl,j⟩;rw[j,p]))
   go_wp2
   all_goals repeat(first|refine P8 ?_|refine RN ?_|refine M4 ?_)
   all_goals go_ret
   all_goals exact⟨rfl,(AT _ _).drew.drew⟩
 ·have x:Lib.indexByte (List.take 2 (List.drop 3 s.data.toList)) (rs[2]'f)<0:=by
   have h:=m.out;rw[Ot,Ox,Ol]at h;have t:Lib.indexByte (List.take 2 (List.drop 3 s.data.toList)) (rs[2]'f) = -1:=h;omega
  go_loopg[9,10,11,12] 1 (λg a b c d l=>a=A7 Ah 2/\l=q)
  case atStart=>exact⟨rfl,rfl⟩
  case round =>
   obtain⟨rfl,rfl⟩:=hrel;go_wp2;go_step3;go_wp2
   go_region
   go_wp2
   go_region_with(first|(go_at_call 188;refine(Tryz.strings_IndexByte _ _ _).mono ?_;rintro e n ⟨rfl,j⟩;rw[j,p]))
   go_wp2
   all_goals repeat(first|refine P8 ?_|refine RN ?_|refine M4 ?_)
   all_goals go_ret
   all_goals exact⟨rfl,(AT _ _).drew.drew⟩
 have x:Lib.indexByte (List.take 1 (List.drop 4 s.data.toList)) (rs[3]'f)<0:=by
  have h:=m.out;rw[Ot,Ox,Ol]at h;have t:Lib.indexByte (List.take 1 (List.drop 4 s.data.toList)) (rs[3]'f) = -1:=h;omega
 go_loopg[9,10,11,12] 1 (λg a b c d l=>a=A7 Ah 3/\l=q)
 case atStart=>exact⟨rfl,rfl⟩
 case round =>
  obtain⟨rfl,rfl⟩:=hrel;go_wp2;go_step3;go_wp2
  go_region
  go_wp2
  go_region_with(first|(go_at_call 188;refine(Tryz.strings_IndexByte _ _ _).mono ?_;rintro e n ⟨rfl,j⟩;rw[j,p]))
  go_wp2
  all_goals repeat(first|refine P8 ?_|refine RN ?_|refine M4 ?_)
  all_goals go_ret
  all_goals exact⟨rfl,(AT _ _).drew.drew⟩
def KS(r:Int):Bool:=r==42||(r==91||(r==93||(r==47||r==46)))
theorem eR:∀k:Nat,k<128->decide (0<=Lib.indexByte [42,91,93,47,46] k.toUInt8)=KS (k:Int):=by decide
theorem VN:∀i (h:i<(⟨#[42,91,93,47,46]⟩:ByteArray).size),((⟨#[42,91,93,47,46]⟩:ByteArray)[i]'h).toNat<128:=by decide
theorem eS(r:Int)(d:0<=r)(w:Al):An prog 158 #[.string ⟨#[42,91,93,47,46]⟩,A7 .i32 r] w λe a=>e=Ag (Ad (KS r))/\A1 w a:=by
 by_cases h:r<128
 ·refine(Tryz.strings_ContainsRune_ascii _ r w d h).mono ?_;rintro e a ⟨rfl,rfl⟩;refine⟨?_,AT _ _⟩;have:=eR r.toNat (by omega);rw[JX d]at this;rw[<-this]
 have f:KS r=false:=by
  unfold KS;simp only[QA,Dq];omega
 have g:An prog 175 #[.string ⟨#[42,91,93,47,46]⟩,A7 .i32 r] w λe a=>e=Ag (A7 Ah (-1))/\A1 w a:=by
  by_cases b:r=65533
  ·subst b;exact eO _ rfl VN w
  cases c:Lib.validRune r
  ·exact eP _ r (by omega) b c w
  obtain⟨k,l,j⟩:=encode_facts r (by rw[validRune_eq];exact c) (by omega);exact eQ _ rfl VN r (by omega) b c _ ((Utf8.encode r).size-1) rfl (by omega) (by omega) (by omega) (j (by omega)) w
 rw[f];clear f h;generalize(⟨#[42,91,93,47,46]⟩:ByteArray)=s at *;go_enter func158,ntmps158
 go_wp2_with(first|(go_at_call 175;refine g.mono ?_;rintro e m ⟨rfl,i⟩))
 go_ret;exact⟨rfl,i⟩
end
section
open Go.RowKit
def EP(lo hi:Int)(l:A2)(j:Nat):Bool :=
 decide (j<l.length)&&(if j=1 then decide (lo<=((l.getD j 0).toNat:Int)/\((l.getD j 0).toNat:Int)<=hi)else decide (128<=(l.getD j 0).toNat/\(l.getD j 0).toNat<=191))
def Ej(lo hi:Int)(l:A2):Nat->Nat->Nat×Bool
 |0,j=>(j,true)
 |g+1,j=>if EP lo hi l j then Ej lo hi l g (j+1)else(j,false)
def Fi(l:A2):Nat×Bool :=
 if(CH (l.getD 0 0).toNat).2.2=0 then(0,false)else Ej (CH (l.getD 0 0).toNat).1 (CH (l.getD 0 0).toNat).2.1 l ((CH (l.getD 0 0).toNat).2.2.toNat-1) 1
theorem eT(c:Int):(CH c).2.2=0\/(CH c).2.2=1\/(CH c).2.2=2\/(CH c).2.2=3\/(CH c).2.2=4:=by
 unfold CH
 repeat(first|(split;simp)|simp)
def DQ(s:ByteArray)(i n:Nat):A2:=(s.data.toList.take n).drop i
theorem VR(s:ByteArray)(i n:Nat)(h:n<=s.size):(DQ s i n).length=n-i:=by
 unfold DQ;rw[DK,Hj];have:s.data.toList.length=s.size:=DB;omega
theorem VS(s:ByteArray)(i n j:Nat)(h:n<=s.size)(a:i+j<n):(DQ s i n).getD j 0=s[i+j]'(by omega):=by
 unfold DQ;rw[KC,KD,MS,As a];have:i+j<s.data.toList.length:=by
  have:s.data.toList.length=s.size:=DB;omega
 rw[AY this];rfl
theorem VT(s:ByteArray)(i n:Nat)(w:Al)(m:n<=s.size)(hi:i<n)(M:s.size<=4611686018427387904):An prog 118 #[.string s,A7 Ah i,A7 Ah n] w λe D=>e=Ag (Ab #[A7 Ah (Fi (DQ s i n)).1,Ad (Fi (DQ s i n)).2])/\D=w:=by
 have I:(i:Int)<s.size:=by omega
 have J:i<s.size:=by omega
 have r:Hid (((DQ s i n).getD 0 0)=s[i]):=VS s i n 0 m (by omega);obtain⟨c,b,k,d⟩:∃c b k,Hid (CH (s[i].toNat:Int)=(c,b,k)):=⟨_,_,_,show CH _=(_,_,_)from rfl⟩
 have q:=eT (s[i].toNat:Int);rw[d.out]at q;simp only[]at q;have u:Hid (Fi (DQ s i n)=if k=0 then(0,false)else Ej c b (DQ s i n) (k.toNat-1) 1):=by
  show _=_;unfold Fi;rw[r.out,d.out]
 clear r;by_cases v:k=0
 ·subst v;have p:Hid (Fi (DQ s i n)=(0,false)):=by show _=_;rw[u.out,As rfl]
  go_enter func118,ntmps118
  go_wp2_with(first
   |(go_at_call 151;refine(VO _ _).mono ?_;rintro e z ⟨rfl,rfl⟩;rw[d.out]))
  go_ret2
  exact⟨by rw[p.out];rfl,rfl⟩
 obtain⟨a,rfl⟩:∃a:Nat,k=a:=⟨k.toNat,by omega⟩
 have L:1<=a/\a<=4:=by simp at q;omega
 have K:((a:Int)==0)=false:=by rw[Dq];omega
 have p:Hid (Fi (DQ s i n)=Ej c b (DQ s i n) (a-1) 1):=by show _=_;rw[u.out,Aq v];rfl
 go_enter func118,ntmps118
 go_wp2_with(first
  |(go_at_call 151;refine(VO _ _).mono ?_;rintro e z ⟨rfl,rfl⟩;rw[d.out]))
 go_loopg[11] (a-1) (λg x wr=>∃j:Nat,Hid (j+g=a)/\x=A7 Ah j/\z=wr/\Hid (1<=j)/\Hid (Fi (DQ s i n)=Ej c b (DQ s i n) g j))
 case atStart=>exact⟨1,by show _=_;omega,rfl,rfl,AB 1,p⟩
 case round =>
  obtain⟨j,l,rfl,rfl,y,f⟩:=hrel
  cases gk with
  |zero =>
   have C:¬(j:Int)<a:=by have:=l.out;omega
   go_wp2
   go_ret2
   exact⟨(by rw[f.out];have:j=a:=(by have:=l.out;omega);subst this;rfl),rfl⟩
  |succ g =>
   have C:(j:Int)<a:=by have:=l.out;omega
   by_cases E:(n:Int)<=(i:Int)+j
   ·have o:Hid (Fi (DQ s i n)=(j,false)):=by
     show _=_;rw[f.out,Ej,EP,VR _ _ _ m,BJ (by omega)];rfl
    go_wp2
    go_ret2
    exact⟨by rw[o.out];rfl,rfl⟩
   have F:(i:Int)+j<n:=by omega
   have H:(i:Int)+j<s.size:=by omega
   have G:i+j<s.size:=by omega
   have t:Hid (EP c b (DQ s i n) j=if j=1 then decide (c<=(s[i+j].toNat:Int)/\(s[i+j].toNat:Int)<=b)else decide (128<=s[i+j].toNat/\s[i+j].toNat<=191)):=by
    show _=_;unfold EP;rw[VS s i n j m (by omega),VR _ _ _ m,Bs (by omega),Gj]
   have A:Hid (EP c b (DQ s i n) j=true->Fi (DQ s i n)=Ej c b (DQ s i n) g (j+1)):=λh=>by rw[f.out,Ej,As h]
   have o:Hid (EP c b (DQ s i n) j=false->Fi (DQ s i n)=(j,false)):=λh=>by rw[f.out,Ej,Aq (by rw[h];decide)]
   go_wp2
   all_goals first
    |(go_ret2;have hF:=o.out (by rw[t.out];have:=y.out;split<;>(apply BJ;omega));exact⟨by rw[hF];simp[*],rfl⟩)
    |go_roundg g
     case measure=>omega
     case rel =>
      have B:=A.out (by rw[t.out];have:=y.out;split<;>(apply Bs;omega));refine⟨j+1,by show _=_;have:=l.out;omega,?_,rfl,by show _<=_;omega,B⟩
      first|go_num|(simp[*];done)
theorem eU{α β:Type}(p:α×β):p=(p.1,p.2):=rfl
def Ea(l:A2):Nat:=if(Fi l).2 then(Fi l).1 else 0
theorem eV(s:ByteArray)(i:Nat)(w:Al)(hi:i<s.size)(f:s.size<=4611686018427387904):An prog 116 #[.string s,A7 Ah i] w λe h=>e=Ag (A7 Ah (Ea (s.data.toList.drop i)))/\h=w:=by
 have d:Hid (DQ s i s.size=s.data.toList.drop i):=by
  show _=_;unfold DQ;have g:s.data.toList.length=s.size:=DB;rw[<-g,K0]
 obtain⟨k,b,a⟩:∃k b,Hid (Fi (s.data.toList.drop i)=(k,b)):=⟨_,_,eU _⟩
 cases b
 ·have c:Hid (Ea (s.data.toList.drop i)=0):=by show _=_;unfold Ea;rw[a.out];rfl
  go_enter func116,ntmps116
  go_wp2_with(first
   |(go_at_call 118;refine(VT s i s.size _ (AB _) hi f).mono ?_;rintro e j ⟨rfl,rfl⟩;rw[d.out,a.out]))
  go_ret;exact⟨by rw[c.out];rfl,rfl⟩
 have c:Hid (Ea (s.data.toList.drop i)=k):=by show _=_;unfold Ea;rw[a.out];rfl
 go_enter func116,ntmps116
 go_wp2_with(first
  |(go_at_call 118;refine(VT s i s.size _ (AB _) hi f).mono ?_;rintro e j ⟨rfl,rfl⟩;rw[d.out,a.out]))
 go_ret;exact⟨by rw[c.out];rfl,rfl⟩
def KY(s:Nat×A2)(t:A2×Bool):Bool:=if s.1=0 then true else if s.1=1 then false else if s.1=2 then t.2 else !t.2&&t.1==s.2
def NA(s:Nat×A2)(p:List (A2×Bool))(f:Nat->Bool):Nat->Bool
 |0=>if s.1=1 then f 0 else false
 |k+1=>if s.1=1 then(List.range (k+2)).any f else f k&&(match p[k]? with|some t=>KY s t|none=>false)
def Mf:List (Nat×A2)->List (A2×Bool)->(Nat->Bool)->Nat->Bool
 |[],_,f=>f
 |s::ss,p,f=>Mf ss p (NA s p f)
def KZ(ss:List (Nat×A2))(p:List (A2×Bool)):Bool:=Mf ss p (λk=>k==0) p.length
theorem Ww(s:Nat×A2)(p:List (A2×Bool)):∀(ss:List (Nat×A2)) (f:Nat->Bool),Mf (ss++[s]) p f=NA s p (Mf ss p f)
 |[],_=>rfl
 |x::ss,f=>by show Mf (ss++[s]) p _=_;rw[Ww s p ss];rfl
def DT(ss:List (Nat×A2))(k:Nat):Bool:=match ss[k]? with
 |some s=>s.1==1
 |none=>false
def Kg(ss:List (Nat×A2))(t:A2×Bool)(k:Nat):Bool:=match ss[k]? with
 |some s=>KY s t
 |none=>false
def Js(ss:List (Nat×A2))(P:Nat->Bool):Nat->Bool
 |0=>P 0
 |k+1=>P (k+1)||(DT ss k&&Js ss P k)
def L0(ss:List (Nat×A2))(t:A2×Bool)(P:Nat->Bool):Nat->Bool
 |0=>P 0&&DT ss 0
 |k+1=>(P (k+1)&&DT ss (k+1))||(P k&&Kg ss t k)
def Jt(ss:List (Nat×A2)):List (A2×Bool)->Nat->Bool
 |[]=>Js ss (λk=>k==0)
 |t::r=>Js ss (L0 ss t (Jt ss r))
def rF(ss:List (Nat×A2))(p:List (A2×Bool))(k:Nat):Nat->Bool:=Mf (ss.take k) p (λn=>n==0)
theorem Wx(a:List (Nat×A2))(p:List (A2×Bool))(n:Nat):rF a p 0 n=(n==0):=rfl
theorem Wy{s:Nat×A2}(h:ss[k]?=Aj s)(p:List (A2×Bool)):rF ss p (k+1)=NA s p (rF ss p k):=by
 unfold rF;rw[Hi,h];exact Ww s p _ _
def gF(ss:List (Nat×A2))(p:List (A2×Bool))(k j:Nat):Bool:=if DT ss k then(List.range (j+1)).any (rF ss p k)else rF ss p k j
theorem gV(f:Nat->Bool)(j:Nat):(List.range (j+1)).any f=((List.range j).any f||f j):=by
 rw[List.range_succ,List.any_append];simp
theorem Wz(a:List (Nat×A2))(p:List (A2×Bool)):∀(j:Nat),j<=p.length->∀k,k<=a.length->Jt a (p.take j).reverse k=gF a p k j
 |0,_,k,hk=>by
  rw[QR,List.reverse_nil,Jt]
  induction k with
  |zero=>unfold gF;cases DT a 0<;>simp[Js,Wx]
  |succ k d =>
   have d:=d (by omega);rw[Js,d];obtain⟨s,f⟩:∃s,a[k]?=Aj s:=⟨a[k],AY (by omega)⟩
   have o:gF a p k 0=rF a p k 0:=by unfold gF;cases DT a k<;>simp
   have q:gF a p (k+1) 0=rF a p (k+1) 0:=by unfold gF;cases DT a (k+1)<;>simp
   have c:DT a k=(s.1==1):=by unfold DT;rw[f]
   rw[o,q,Wy f,NA,c];by_cases b:s.1=1
   ·simp[b]
   simp[b]
 |j+1,hj,k,hk=>by
  obtain⟨t,i⟩:∃t,p[j]?=Aj t:=⟨p[j],AY (by omega)⟩
  have u:(p.take (j+1)).reverse=t::(p.take j).reverse:=by rw[Hi,i];simp
  rw[u,Jt];have g:=Wz a p j (by omega);generalize hP:Jt a (p.take j).reverse=P;rw[hP]at g
  induction k with
  |zero =>
   rw[Js,L0,g 0 (by omega)];unfold gF
   cases c:DT a 0 with
   |true =>
    rw[As rfl,As rfl];have h:rF a p 0 0=true:=rfl;have m:(List.range (j+1)).any (rF a p 0)=true:=I6.2 ⟨0,by simp,h⟩;have n:(List.range (j+1+1)).any (rF a p 0)=true:=I6.2 ⟨0,by simp,h⟩;rw[m,n];rfl
   |false=>simp[Wx]
  |succ k d =>
   have d:=d (by omega);obtain⟨s,f⟩:∃s,a[k]?=Aj s:=⟨a[k],AY (by omega)⟩
   have c:DT a k=(s.1==1):=by unfold DT;rw[f]
   have l:Kg a t k=KY s t:=by unfold Kg;rw[f]
   rw[Js,L0,d,g (k+1) hk,g k (by omega)];have key:((gF a p k j&&Kg a t k)||(DT a k&&gF a p k (j+1)))=rF a p (k+1) (j+1):=by
    rw[Wy f,NA,i];by_cases b:s.1=1
    ·have e:gF a p k (j+1)=(List.range (j+1+1)).any (rF a p k):=by unfold gF;rw[c];simp[b]
     have v:KY s t=false:=by unfold KY;simp[b]
     rw[l,v,c,e];simp[b]
    have e:gF a p k j=rF a p k j:=by unfold gF;rw[c];simp[b]
    rw[l,c,e];simp[b]
   have r:((gF a p (k+1) j&&DT a (k+1))||rF a p (k+1) (j+1))=gF a p (k+1) (j+1):=by
    unfold gF
    cases DT a (k+1)with
    |true=>rw[As rfl,As rfl,Bool.and_true,<-gV]
    |false=>simp
   rw[Bool.or_assoc,key,r]
theorem gW(a:List (Nat×A2))(p:List (A2×Bool)):Jt a p.reverse a.length=KZ a p:=by
 have h:=Wz a p p.length (AB _) a.length (AB _);rw[K0]at h;rw[h];unfold gF;have e:DT a a.length=false:=by unfold DT;rw[DI (AB _)]
 rw[e,Aq (by simp)];unfold rF KZ;rw[K0]
def AG(P:Nat->Nat):A4:=((List.range 16).map λi=>Value.int .u16 (P i)).toArray
theorem Ju(P:Nat->Nat):(AG P).size=16:=by simp[AG]
theorem Hv(P:Nat->Nat)(r:Nat)(a:r<16):(AG P)[r]?=Aj (A7 .u16 (P r)):=by simp[AG,a]
theorem Pi(a:Nat):BitVec.ofInt 16 (a:Int)=BitVec.ofNat 16 a:=Ow ..
theorem Pj(a b:Nat)(c:a<65536)(d:b<65536):bits .and .u16 (a:Int) (b:Int)=((a&&&b:Nat):Int):=by
 have h:(BitVec.ofNat 16 a&&&BitVec.ofNat 16 b).toNat=a&&&b:=by
  rw[UC,JY,JY,I7 (by omega),I7 (by omega)]
 show IntKind.u16.wrap ((BitVec.ofInt 16 (a:Int)&&&BitVec.ofInt 16 (b:Int)).toNat:Int)=_;have e:a&&&b<2^16:=KE _ (by omega);rw[Pi,Pi,h];unfold IntKind.wrap;simp[IntKind.bits,IntKind.signed];omega
theorem S4(a b:Nat)(c:a<65536)(d:b<65536):bits .or .u16 (a:Int) (b:Int)=((a|||b:Nat):Int):=by
 have h:(BitVec.ofNat 16 a|||BitVec.ofNat 16 b).toNat=a|||b:=by
  rw[BitVec.toNat_or,JY,JY,I7 (by omega),I7 (by omega)]
 show IntKind.u16.wrap ((BitVec.ofInt 16 (a:Int)|||BitVec.ofInt 16 (b:Int)).toNat:Int)=_;have e:a|||b<2^16:=QK (by omega) (by omega);rw[Pi,Pi,h];unfold IntKind.wrap;simp[IntKind.bits,IntKind.signed];omega
theorem WA(x:Nat)(h:x<65536):IntKind.u16.wrap (x:Int)=(x:Int):=by
 unfold IntKind.wrap;simp[IntKind.bits,IntKind.signed];omega
theorem gX(x k:Nat)(c:x<65536):(bits .and .u16 ((x:Int)/2^k) 1==1)=x.testBit k:=by
 have e:((x:Int)/2^k)=((x/2^k:Nat):Int):=by simp
 have b:x/2^k<65536:=Nat.lt_of_le_of_lt (Nat.div_le_self _ _) c;have:=Pj (x/2^k) 1 b (by omega);rw[e,show(1:Int)=((1:Nat):Int)from rfl,this,Nat.testBit,Nat.shiftRight_eq_div_pow,Nat.and_comm 1];cases h:(x/2^k&&&1 != 0)
 ·simp at h;simp[h]
 have a:x/2^k&&&1=1:=by
  rw[Nat.and_one_is_mod]at h ⊢;simp at h;omega
 rw[a];rfl
theorem gY(W:Al)(P:Nat->Nat)(r k:Nat)(c:r<16)(g:k<16)(b:P r<65536):An prog 104 #[.agg (AG P),A7 Ah r,A7 Ah k] W λe a=>e=Ag (Ad ((P r).testBit k))/\A1 W a:=by
 have d:=Hv P r c;have f:=gX (P r) k b;go_enter func104,ntmps104;go_wp2;go_ret;exact⟨rfl,AH⟩
theorem Pk(P:Nat->Nat)(r:Nat)(x:Nat):(AG P).setIfInBounds r (A7 .u16 x)=AG (λi=>if i=r then x else P i):=by
 apply Array.ext
 ·simp[AG]
 intro i a c;simp[AG]at a;rw[Array.getElem_setIfInBounds (by simp[AG];exact a)];by_cases h:r=i
 ·subst h;simp[AG]
 have b:¬i=r:=λe=>h e.symm;simp[AG,h,b]
theorem WB(i:Nat)(hi:ops[i]?=Aj o)(c:Region.ready md ops listed=[i])(h:(∀b:Act->Al->Prop,(∀a w,wpAny P md ops Q fuel (listed.setIfInBounds i true) a w->b a w)->if Region.wanted o (yielded ops a.tmps)=true then Oper.wp P o a w b Q else b (a.put o.dst undef) w)):wpAny P md ops Q (fuel+1) listed a w:=R5 c (by simp) (OJ hi h QX)
theorem Jv(i d:Nat)(v:Value)(hi:ops[i]?=Aj oi)(b:(Region.noSelect ops&&Region.free md ops listed i&&(Region.ready md ops listed).contains i&&oi.dst==Aj d&&Region.wanted oi (yielded ops a.tmps))=true)(e:∀c a w,Q (.panic c) (a.put (Aj d) v) w->Q (.panic c) a w)(g:∀Z,(execOp a.eval oi).run P Z=.ok (.value v) Z)(h:wpAny P md ops Q fuel (listed.setIfInBounds i true) (a.put (Aj d) v) w):wpAny P md ops Q (fuel+1) listed a w:=by
 simp only[Ch]at b;have f:oi.dst=Aj d:=by simpa using b.1.2
 rw[<-f]at e h;exact wpAny_take hi b.1.1.1.1 b.1.1.1.2 b.1.1.2 e (.inl ⟨b.2,g⟩) h
theorem NB(W:Al)(g o:Nat)(x r k:Nat)(m:r<16)(j:k<16)(d:x<65536)(i:W.cell? ⟨g,o+r,Ak⟩=Aj (A7 .u16 x))(f:W.frozen? ⟨g,o+r,Ak⟩=false):An prog 77 #[A9 (Aj ⟨g,o,Ak⟩),A7 Ah r,A7 Ah k] W λe c=>e=Ag (Ab #[])/\c=W.drew.setCell ⟨g,o+r,Ak⟩ (A7 .u16 ((x|||2^k:Nat):Int)):=by
 have n:(r:Int)<16:=by omega
 have b:(2^k:Nat)<65536:=by
  have:(2^k:Nat)<=2^15:=QB (by decide) (by omega);omega
 have p:IntKind.u16.wrap (2^k)=2^k:=by
  have:=WA (2^k) b;simpa using this
 have l:bits .or .u16 (x:Int) (2^k)=((x|||2^k:Nat):Int):=by
  have:=S4 x (2^k) d b;rwa[show(((2^k:Nat):Int))=2^k by simp]at this
 go_enter func77,ntmps77;go_wp2;refine OK (by kernel_rfl) ?_;change wpAny _ _ _ _ _ _ _ (World.drew W);refine Jv 0 6 (A9 (Aj ⟨g,o,Ak⟩)) rfl (by kernel_rfl) (λ_ _ _ h=>h) (λ_=>by kernel_rfl) ?_;refine Jv 1 7 (A7 Ah r) rfl (by kernel_rfl) (λ_ _ _ h=>h) (λ_=>by kernel_rfl) ?_;refine Jv 2 8 (A9 (Aj ⟨g,o,Ak⟩)) rfl (by kernel_rfl) (λ_ _ _ h=>h) (λ_=>by kernel_rfl) ?_;refine Jv 3 9 (A9 (Aj ⟨g,o+r,Ak⟩)) rfl (by kernel_rfl) (λ_ _ _ h=>h) (λ_=>?y3) ?_
 case y3=>go_simp
 refine Jv 5 11 (A7 Ah k) rfl (by kernel_rfl) (λ_ _ _ h=>h) (λ_=>by kernel_rfl) ?_;refine Jv 6 12 (A7 .u16 ((2^k:Nat):Int)) rfl (by kernel_rfl) (λ_ _ _ h=>h) (λ_=>?y6) ?_
 case y6=>go_simp
 refine Jv 8 14 (A9 (Aj ⟨g,o,Ak⟩)) rfl (by kernel_rfl) (λ_ _ _ h=>h) (λ_=>by kernel_rfl) ?_;refine WB 4 rfl (by kernel_rfl) (λK a=>?_);go_simp;refine a _ _ ?_;refine Jv 7 13 (A7 .u16 ((x|||2^k:Nat):Int)) rfl (by kernel_rfl) (λ_ _ _ h=>h) (λ_=>?y7) ?_
 case y7=>go_simp
 refine Jv 9 15 (A9 (Aj ⟨g,o+r,Ak⟩)) rfl (by kernel_rfl) (λ_ _ _ h=>h) (λ_=>?y9) ?_
 case y9=>go_simp
 refine WB 10 rfl (by kernel_rfl) (λK a=>?_);go_simp;refine a _ _ ?_;refine R8 (by kernel_rfl) ?_ _;go_simp;go_wp2;go_end0;exact⟨rfl,rfl⟩
structure L1(w:World)(a:A5)(ss:List (Nat×A2)):Prop where
 at_:∀i (h:i<ss.length),∃b off,a=some ⟨b,off,none⟩/\b<w.heap.size/\w.cell? ⟨b,off+i*2,none⟩=some (.int .i64 ss[i].1)/\w.cell? ⟨b,off+i*2+1,none⟩=some (.string ⟨ss[i].2.toArray⟩)
theorem L1.below{a:A5}(h:L1 w a ss)(c:A1 w w'):L1 w' a ss :=
 ⟨λi j=>by
  obtain⟨b,off,g,d,e,f⟩:=h.at_ i j;exact⟨b,off,g,Br d c.size,(c.cell (p:=⟨b,_,Ak⟩) d).trans e,(c.cell (p:=⟨b,_,Ak⟩) d).trans f⟩⟩
structure G5(w:World)(a:A5)(rs:List (List (Nat×A2)×Int×Int)):Prop where
 at_:∀i (h:i<rs.length),∃b off pa pc,a=some ⟨b,off,none⟩/\b<w.heap.size/\w.cell? ⟨b,off+i*3,none⟩=some (.slice pa rs[i].1.length pc)/\w.cell? ⟨b,off+i*3+1,none⟩=some (.int .i64 rs[i].2.1)/\w.cell? ⟨b,off+i*3+2,none⟩=some (.int .i64 rs[i].2.2)/\L1 w pa rs[i].1
theorem G5.below{a:A5}{rs:List (List (Nat×A2)×Int×Int)}(h:G5 w a rs)(c:A1 w w'):G5 w' a rs :=
 ⟨λi l=>by
  obtain⟨b,off,m,n,k,d,e,f,g,j⟩:=h.at_ i l;exact⟨b,off,m,n,k,Br d c.size,(c.cell (p:=⟨b,_,Ak⟩) d).trans e,(c.cell (p:=⟨b,_,Ak⟩) d).trans f,(c.cell (p:=⟨b,_,Ak⟩) d).trans g,j.below c⟩⟩
def Cw(dflt:Int):List (List (Nat×A2)×Int×Int)->(Nat->Nat)->Nat->Int×Int
 |[],_,_=>(dflt,1)
 |x::rs,P,r=>if(P r).testBit x.1.length then x.2 else Cw dflt rs P (r+1)
theorem DU(P:Nat->Nat):(prog.info? 119).map (·.size)=Aj (AG P).size:=by rw[Ju];kernel_rfl
structure Mg(W:World)(P:Nat->Nat)(V:World):Prop where
 box:V.heap[W.heap.size]?=some (.cells (AG P) 119)
 below:A1 W V
theorem Mg.next{V V':Al}{P:Nat->Nat}(h:Mg W P V)(a:A1 V V'):Mg W P V' :=
 ⟨(a.block _ (At h.box)).trans h.box,h.below.trans (a.mono h.below.size)⟩
theorem gZ(W:Al)(P:Nat->Nat):Mg W P (W.alloc (Af (AG P) 119)):=⟨Ay _ _,AH⟩
theorem hH(W:Al)(A:Nat)(x:A5)(I:Nat)(a:Int)(rs:List (List (Nat×A2)×Int×Int))(P:Nat->Nat)(F:∀r,P r<65536)(R:rs.length<=16)(D:∀i (h:i<rs.length),rs[i].1.length<=8)(E:A<W.heap.size)(J:W.cell? ⟨A,0,Ak⟩=Aj (A8 x rs.length I))(C:W.cell? ⟨A,1,Ak⟩=Aj (A7 Ah a))(H:G5 W x rs):An prog 78 #[A9 (Aj ⟨A,0,Ak⟩),.agg (AG P)] W λe B=>e=Ag (Ab #[A7 Ah (Cw a rs P 0).1,A7 Ah (Cw a rs P 0).2])/\A1 W B:=by
 have y:=Ap H;go_enter func78,ntmps78;go_wp2
 go_loopg[13] rs.length (λg z wr=>∃k:Nat,z=A7 Ah k/\Hid (k+g=rs.length)/\Hid (Mg W P wr)/\Hid (Cw a rs P 0=Cw a (rs.drop k) P k))
 case atStart=>exact⟨0,rfl,by show _=_;omega,gZ _ _,rfl⟩
 case round =>
  obtain⟨k,rfl,m,d,q⟩:=hrel;have K:=(d.below.cell (p:=⟨A,_,Ak⟩) E).trans C
  cases gk with
  |zero =>
   have G:¬(k:Int)<(rs.length:Int):=by have:=m.out;omega
   have f:Hid (Cw a rs P 0=(a,1)):=by
    have h:=q.out;rw[J9 (by have:=m.out;omega)]at h;exact h
   go_wp2;refine Bd (Hl results78 _ _ _) rfl ⟨?_,d.below⟩;rw[f.out];rfl
  |succ g =>
   have t:k<rs.length:=by have:=m.out;omega
   have G:(k:Int)<(rs.length:Int):=by omega
   obtain⟨b,off,v,w,rfl,O,L,M,N,_⟩:=(y.below d.below).at_ k t;have Q:=D k t;have l:=λV=>gY V P k rs[k].1.length (by omega) (by omega) (F k);have u:Hid (Cw a (rs.drop k) P k=if(P k).testBit rs[k].1.length then rs[k].2 else Cw a (rs.drop (k+1)) P (k+1)):=by
    show _=_;rw[F5 t,Cw]
   have j:Hid (Mg W P (wr.alloc (Af #[A8 v rs[k].1.length w,A7 Ah rs[k].2.1,A7 Ah rs[k].2.2] 153))):=d.next AH
   have S:=At d.box
   cases n:(P k).testBit rs[k].1.length with
   |true =>
    rw[n]at l;have f:Hid (Cw a rs P 0=rs[k].2):=by have h:=q.out;rw[u.out,n]at h;exact h
    go_wp2_with(first
     |(refine B3 rfl 119 (.tmp 3) rfl W.heap.size rfl _ _ _ _ j.box underlying119 rfl (DU P) ?_)
     |(go_at_call 104;refine(l _).mono ?_;rintro e o ⟨rfl,c⟩;have s:=Ap (j.next c);have T:o.cell? ⟨wr.heap.size,0,Ak⟩=Aj (A8 v rs[k].1.length w):=Ar ((c.block _ (by simp)).trans (Ay _ _)) 0;have U:o.cell? ⟨wr.heap.size,1,Ak⟩=Aj (A7 Ah rs[k].2.1):=Ar ((c.block _ (by simp)).trans (Ay _ _)) 1;have X:o.cell? ⟨wr.heap.size,2,Ak⟩=Aj (A7 Ah rs[k].2.2):=Ar ((c.block _ (by simp)).trans (Ay _ _)) 2))
    go_quiet (fail)
    go_wp2;refine Bd (Hl results78 _ _ _) rfl ⟨?_,s.below.trans ⟨rfl,rfl,rfl,AB _,λ_ _=>rfl⟩⟩;rw[f.out];rfl
   |false =>
    rw[n]at l;have f:Hid (Cw a rs P 0=Cw a (rs.drop (k+1)) P (k+1)):=by have h:=q.out;rw[u.out,n]at h;exact h
    go_wp2_with(first
     |(refine B3 rfl 119 (.tmp 3) rfl W.heap.size rfl _ _ _ _ j.box underlying119 rfl (DU P) ?_)
     |(go_at_call 104;refine(l _).mono ?_;rintro e o ⟨rfl,c⟩;have s:=Ap (j.next c)))
    go_roundg g
    case measure=>omega
    case rel=>exact⟨k+1,by go_num,by show _=_;have:=m.out;omega,s,f⟩
theorem Jw(i:Nat)(hi:ops[i]?=Aj o)(c:Region.ready md ops listed=[i])(h:∀b:Act->Al->Prop,Shut (∀a w,S w->(S w->wpAnyH P md ops Q S fuel (listed.setIfInBounds i true) a w)->b a w)->if Region.wanted o (yielded ops a.tmps)=true then Oper.wp P o a w b Q else b (a.put o.dst undef) w):wpAnyH P md ops Q S (fuel+1) listed a w :=
 N9 c (by simp) (LF hi h N6)
theorem B6(i d:Nat)(v:Value)(hi:ops[i]?=Aj oi)(b:(Region.noSelect ops&&Region.free md ops listed i&&(Region.ready md ops listed).contains i&&oi.dst==Aj d&&Region.wanted oi (yielded ops a.tmps))=true)(e:∀c a w,Q (.panic c) (a.put (Aj d) v) w->Q (.panic c) a w)(j:∀Z,S Z->(execOp a.eval oi).run P Z=.ok (.value v) Z)(f:S w)(h:wpAnyH P md ops Q S fuel (listed.setIfInBounds i true) (a.put (Aj d) v) w):wpAnyH P md ops Q S (fuel+1) listed a w:=by
 simp only[Ch]at b;have g:oi.dst=Aj d:=by simpa using b.1.2
 rw[<-g]at e h;exact Ds hi b.1.1.1.1 b.1.1.1.2 b.1.1.2 e (.inl ⟨b.2,j⟩) f h
def w1(st x:Nat):Nat:=x|||((x&&&st)<<<1)
def GV(st x:Nat):Nat->Bool
 |0=>x.testBit 0
 |k+1=>x.testBit (k+1)||(st.testBit k&&GV st x k)
theorem S5(st x k:Nat):(w1 st x).testBit k=(x.testBit k||(decide (1<=k)&&(x.testBit (k-1)&&st.testBit (k-1)))):=by
 unfold w1;rw[QS,Ue,QP]
theorem WC(c:st<256)(d:x<512):w1 st x<512:=by
 have b:x&&&st<2^8:=KE _ (by omega);have a:(x&&&st)<<<1<2^9:=by rw[MV];omega
 exact QK (n:=9) (by omega) a
theorem i4(st x:Nat):x<=w1 st x:=Nat.left_le_or
structure L2(P st:Nat->Nat)(n:Nat)(X:Nat->Nat):Prop where
 lo:∀r,r<n->∀k,(P r).testBit k=true->(X r).testBit k=true
 hi:∀r,r<n->∀k,(X r).testBit k=true->GV (st r) (P r) k=true
 off:∀r,n<=r->X r=P r
 lt:∀r,X r<512
theorem i5(h:x.testBit k=true):GV st x k=true:=by
 cases k with
 |zero=>exact h
 |succ k=>rw[GV,h];rfl
theorem i6(P st:Nat->Nat)(n:Nat)(a:∀r,P r<512):L2 P st n P:=⟨λ_ _ _ h=>h,λ_ _ _ h=>i5 h,λ_ _=>rfl,a⟩
def D4(st X:Nat->Nat)(n:Nat):Nat->Nat:=λr=>if r<n then w1 (st r) (X r)else X r
theorem L2.step{P st:Nat->Nat}(h:L2 P st n X)(d:∀r,st r<256):L2 P st n (D4 st X n):=by
 refine⟨λr b k a=>?_,λr b k a=>?_,λr b=>?_,λr=>?_⟩
 ·unfold D4;rw[As b,S5,h.lo r b k a];rfl
 ·unfold D4 at a;rw[As b,S5,KI]at a;rcases a with a|a
  ·exact h.hi r b k a
  simp only[Ch,Jc]at a;obtain⟨c,rfl⟩:∃c,k=c+1:=⟨k-1,by omega⟩
  rw[Ly]at a;rw[GV,a.2.2,h.hi r b c a.2.1];simp
 ·unfold D4;rw[Aq (by omega)];exact h.off r b
 unfold D4;by_cases b:r<n
 ·rw[As b];exact WC (d r) (h.lt r)
 rw[Aq b];exact h.lt r
theorem L2.done{P st:Nat->Nat}(h:L2 P st n X)(e:∀r,r<n->w1 (st r) (X r)=X r):∀r,r<n->∀k,(X r).testBit k=GV (st r) (P r) k:=by
 intro r b k;have key:∀k,GV (st r) (P r) k=true->(X r).testBit k=true:=by
  intro k
  induction k with
  |zero=>exact λa=>h.lo r b 0 a
  |succ k g =>
   intro a;rw[GV,KI]at a;rcases a with a|a
   ·exact h.lo r b _ a
   rw[Ch]at a;have d:(w1 (st r) (X r)).testBit (k+1)=(X r).testBit (k+1):=by rw[e r b]
   rw[S5,Ly,g a.2,a.1]at d;rw[<-d];simp
 cases c:(X r).testBit k with
 |true=>exact(h.hi r b k c).symm
 |false =>
  cases f:GV (st r) (P r) k with
  |true=>rw[key k f]at c;cases c
  |false=>rfl
def Gv(X:Nat->Nat):Nat->Nat
 |0=>0
 |n+1=>Gv X n+X n
theorem Pm(h:∀r,X r<512):∀n,Gv X n<=n*512
 |0=>AB _
 |n+1=>by have:=Pm h n;have:=h n;unfold Gv;omega
theorem WD(h:∀r,X r<=Y r):∀n,Gv X n<=Gv Y n
 |0=>AB _
 |n+1=>by have:=WD h n;have:=h n;unfold Gv;omega
theorem WE(h:∀r,X r<=Y r):∀n r,r<n->X r<Y r->Gv X n<Gv Y n
 |0,_,hr,_=>absurd hr (by omega)
 |n+1,r,hr,hl=>by
  unfold Gv;by_cases e:r=n
  ·subst e;have:=WD h r;omega
  have:=WE h n r (by omega) hl;have:=h n;omega
theorem i7(h:∀r,r<16->X r=Y r):AG X=AG Y:=by
 unfold AG;congr 1;apply Ul;intro r a;rw[h r (by simpa using a)]
end
end Go.Proofs.YtoegnhgofkhbnaaGreatDoor
