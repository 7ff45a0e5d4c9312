import Derived.Test.YtmajcjammmjimaaGreatDoorShelf
import Derived.Laws.Runes
import Derived.Laws.RangeAny
import Derived.Test.YtmajcjammmjimaaGreatDoorCq00
set_option maxRecDepth 100000
set_option maxHeartbeats 8000000
set_option linter.all false
namespace Go.Proofs.YtmajcjammmjimaaGreatDoor
open Go.Proofs.Tryz
variable{b fuel i j k n st x:Nat}{M m m':Nat->Nat->Bool}{a:Act}{W w w':World}{arr:Array Value}{Q:Exit->Act->World->Prop}{ss:List (Nat×List UInt8)}{P:Program}{ops:Array Oper}{md:Region.Mode}{listed:Array Bool}{o oi:Oper}{S:World->Prop}{X Y:Nat->Nat}
section
open Go.RowKit
def qqn(m:Nat->Nat->Bool)(a b:Nat):Bool:=m a b&&m b a
def qaA(n:Nat)(m:Nat->Nat->Bool):Bool:=(List.range n).any λa=>(List.range a).any λb=>qqn m a b
theorem qdw{a:Nat}(c:a<n)(d:b<a)(h:qqn m a b=true):qaA n m=true:=by
 unfold qaA;rw[kbi];refine⟨a,kav.2 c,?_⟩;rw[kbi];exact⟨b,kav.2 d,h⟩
theorem qmC(h:∀a b,a<n->b<a->qqn m a b=false):qaA n m=false:=by
 unfold qaA;rw[kdY];intro a d;rw[kbi];rintro⟨b,e,c⟩;rw[h a b (kav.1 d) (kav.1 e)]at c;cases c
theorem qk0(arr:Array Value)(n:Nat)(m:Nat->Nat->Bool)(H:qlt arr n m)(F:n<=6)(w:World):Calls prog 79 #[.agg arr] w λe D=>e=.returned (.bool (qaA n m))/\Below w.heap.size w D:=by
 have p:=qab H.at_;have E:=H.count;clear H;go_enter func79,ntmps79;go_wp2
 go_loopg[7,3] n (λg x y wr=>∃k:Nat,Hid (k+g=n)/\x=.int .i64 k/\w.alloc (.cells arr 84)=wr/\Hid (∀a b,a<k->b<a->qqn m a b=false))
 case atStart=>exact⟨0,by show _=_;omega,rfl,rfl,λa b v=>by omega⟩
 case round =>
  obtain⟨k,j,rfl,rfl,r⟩:=hrel
  cases gk with
  |zero =>
   have B:¬(k:Int)<n:=by have:=j.out;omega
   go_wp2;go_ret;exact⟨by rw[qmC (λa b v f=>r.out a b (by have:=j.out;omega) f)];rfl,bwA⟩
  |succ g =>
   have B:(k:Int)<n:=by have:=j.out;omega
   have z:k<6:=by omega
   go_wp2
   go_loopg[11,4] k (λg x y wr=>∃q:Nat,Hid (q+g=k)/\x=.int .i64 q/\w.alloc (.cells arr 84)=wr/\Hid (∀b,b<q->qqn m k b=false))
   case atStart=>exact⟨0,by show _=_;omega,rfl,rfl,λb f=>by omega⟩
   case round =>
    obtain⟨q,h,rfl,rfl,o⟩:=hrel
    cases gk with
    |zero =>
     have C:¬(q:Int)<k:=by have:=h.out;omega
     go_wp2;go_roundg g
     case measure=>omega
     case rel =>
      refine⟨k+1,by show _=_;have:=j.out;omega,by go_num,rfl,λa b v f=>?_⟩;by_cases e:a=k
      ·subst e;exact o.out b (by have:=h.out;omega)
      exact r.out a b (by omega) f
    |succ s =>
     have C:(q:Int)<k:=by have:=h.out;omega
     have A:q<6:=by omega
     have t:=p.out k q z A;have u:=p.out q k A z;cases c:m k q
     ·rw[c]at t;have i:=qab c;clear c;go_wp2;go_roundg s
      case measure=>omega
      case rel =>
       refine⟨q+1,by show _=_;have:=h.out;omega,by go_num,rfl,λb f=>?_⟩;by_cases e:b=q
       ·subst e;unfold qqn;rw[i.out];rfl
       exact o.out b (by omega)
     rw[c]at t;have i:=qab c;clear c;cases d:m q k
     ·rw[d]at u;have l:=qab d;clear d;go_wp2;go_roundg s
      case measure=>omega
      case rel =>
       refine⟨q+1,by show _=_;have:=h.out;omega,by go_num,rfl,λb f=>?_⟩;by_cases e:b=q
       ·subst e;unfold qqn;rw[i.out,l.out];rfl
       exact o.out b (by omega)
     rw[d]at u;have l:=qab d;clear d;go_wp2;go_ret;exact⟨by rw[qdw (a:=k) (b:=q) (by omega) (by omega) (by unfold qqn;rw[i.out,l.out];rfl)];rfl,bwA⟩
theorem qoM(arr:Array Value)(n:Nat)(m:Nat->Nat->Bool)(H:qlt arr n m)(x:n<=6)(a b:Nat)(t:a<n)(u:b<n)(w:World):Calls prog 104 #[.agg arr,.int .i64 a,.int .i64 b] w λe r=>e=.returned (.bool (m a b))/\Below w.heap.size w r:=by
 have h:=H.at_ a b (by omega) (by omega);have j:=H.count;have g:=qab (qas H.size);clear H;have o:qbM n a=true:=by unfold qbM;exact kax (by omega)
 have p:qbM n b=true:=by unfold qbM;exact kax (by omega)
 go_enter func104,ntmps104;have l:=qac w (.cells arr 84);have c:=qab l;clear l;have d:=qfn arr n j a (w.alloc (.cells arr 84));rw[o]at d
 go_wp2_with(first
  |(refine kak rfl 84 _ rfl _ rfl _ arr _ _ c.out underlying84 rfl g.out ?_)
  |(refine qaf 84 _ rfl rfl _ rfl _ arr _ _ c.out underlying84 rfl g.out ?_)
  |(go_at_call 78;refine d.mono ?_;clear d;rintro e s ⟨rfl,f⟩;have i:=qab ((f.block _ (by simp)).trans c.out);clear c;have c:=i;clear i;have c2:=qfn arr n j b s;rw[p]at c2;have q:=f.size;rw[kad]at q)
  |(go_at_call 78;refine c2.mono ?_;clear c2;rintro e y ⟨rfl,k⟩;have v:=(qaa ((k.block _ (by omega)).trans c.out) (1+a*6+b)).trans h))
 go_ret;exact⟨rfl,((bwA).trans (f.mono (by simp))).trans (k.mono (by omega))⟩

theorem qe5(w:World)(g i:Nat)(cs:Array Value)(h:i≠g):(w.setRow g cs).heap[i]?=w.heap[i]?:=kb3 w g i cs h
theorem qai{B:Nat}{a:World}(h:Below B a w){g:Nat}(b:B<=g)(cs:Array Value):Below B a (w.setRow g cs) :=
 h.trans ⟨rfl,rfl,rfl,by simp,λk c=>kb3 w g k cs (by omega)⟩
structure qeU(w W:World)(arr:Array Value)(n:Nat)(M:Nat->Nat->Bool):Prop where
 below:Below w.heap.size w W
 box:W.heap[w.heap.size]?=some (.cells arr 84)
 res:W.heap[w.heap.size+1]?=some (.cells qaF 84)
 own:W.heap[w.heap.size+1+1]?=some (.cells (qaq n M) 84)
theorem qqY(w:World)(arr:Array Value)(n:Nat):qeU w ((((w.alloc (.cells arr 84)).alloc (.cells qaF 84)).alloc (.cells qaF 84)).setRow (w.heap.size+1+1) (qaq n λ_ _=>false)) arr n (λ_ _=>false):=by
 refine⟨qai (((bwA).alloc (by simp) _).alloc (by simp;omega) _) (by omega) _,?_,?_,?_⟩
 ·rw[qe5 _ _ _ _ (by omega),kae _ _ _ (by simp;omega),kae _ _ _ (by simp)];exact qac w _
 ·rw[qe5 _ _ _ _ (by omega),kae _ _ _ (by simp)];have:=qac (w.alloc (.cells arr 84)) (.cells qaF 84);rwa[kad]at this
 refine kaA _ _ qaF _ 84 (0,0) ?_;have:=qac ((w.alloc (.cells arr 84)).alloc (.cells qaF 84)) (.cells qaF 84);rwa[kad,kad]at this
theorem qeU.set(h:qeU w W arr n M)(hi:i<6)(a:j<6)(b:Bool):qeU w (W.setCell ⟨w.heap.size+1+1,1+i*6+j,none⟩ (.bool b)) arr n (upd M i j b) :=
 ⟨h.below.setCell (by simp;omega) _,(kat W _ _ _ (by simp;omega)).trans h.box,(kat W _ _ _ (by simp)).trans h.res,
  by rw[kaO W _ _ _ _ _ h.own,qik n M i j b hi a]⟩
theorem qeU.drew(h:qeU w W arr n M):qeU w W.drew arr n M:=⟨h.below.drew,h.box,h.res,h.own⟩
def trM(n:Nat)(m:Nat->Nat->Bool)(k q:Nat):Nat->Nat->Bool:=λi j=>decide (j<n/\(i<k\/(i=k/\j<q)))&&m j i
theorem qsY(n:Nat)(m:Nat->Nat->Bool):trM n m 0 0=λ_ _=>false:=by
 funext i j;simp[trM]
theorem qtz(n:Nat)(m:Nat->Nat->Bool)(k q:Nat)(a:q<n):upd (trM n m k q) k q (m q k)=trM n m k (q+1):=by
 funext i j;unfold upd trM;by_cases h:i=k/\j=q
 ·obtain⟨rfl,rfl⟩:=h;simp[a]
 rw[kac h];congr 1;exact kbn.2 (by omega)
theorem qwn(n:Nat)(m:Nat->Nat->Bool)(k:Nat):trM n m k n=trM n m (k+1) 0:=by
 funext i j;unfold trM;congr 1;exact kbn.2 (by omega)
theorem qzh(n:Nat)(m:Nat->Nat->Bool)(i j:Nat)(hi:i<n)(a:j<n):trM n m n 0 i j=m j i:=by
 unfold trM;rw[kax (by omega),kbB]
theorem qoi(arr:Array Value)(n:Nat)(m:Nat->Nat->Bool)(H:qlt arr n m)(E:n<=6)(w:World):Calls prog 95 #[.agg arr] w λe A=>e=.returned (.agg (qaq n (trM n m n 0)))/\Below w.heap.size w A:=by
 have l:=qab H.at_;have j:=H.count;have f:=qqY w arr n;have p:Hid ((((w.alloc (.cells arr 84)).alloc (.cells qaF 84)).alloc (.cells qaF 84)).heap[w.heap.size+1+1]?=some (.cells qaF 84)):=by
  have:=qac ((w.alloc (.cells arr 84)).alloc (.cells qaF 84)) (.cells qaF 84);rw[kad,kad]at this;exact this
 have s:Hid (qaF.size=(qaq n λ_ _=>false).size):=by rw[qae];exact qae _ _
 generalize hW:(((w.alloc (.cells arr 84)).alloc (.cells qaF 84)).alloc (.cells qaF 84)).setRow (w.heap.size+1+1) (qaq n λ_ _=>false)=W at f;have o:Hid (_=W):=hW;have u:=(qaa f.box 0).trans j;have r:=qab f;go_enter func95,ntmps95
 go_wp2_with(first
  |(refine qat rfl rfl _ rfl (w.heap.size+1) ?hN ?_;case hN=>(simp only[kad];done))
  |(refine qat rfl rfl _ rfl (w.heap.size+1+1) ?hN ?_;case hN=>(simp only[kad];done))
  |(refine qal rfl 84 _ rfl _ rfl _ [(0,.int .i64 n)] ?hl (qki n) ?_;case hl=>simp[go_sem])
  |(refine kan rfl 84 _ _ rfl _ _ rfl rfl 84 qaF p.out (qas (qae _ _)) s.out (qa9 _ _) ?_;rw[o.out]))
 go_loopg[11,4] n (λg x y wr=>∃k:Nat,Hid (k+g=n)/\x=.int .i64 k/\Hid (qeU w wr arr n (trM n m k 0)))
 case atStart=>exact⟨0,by show _=_;omega,rfl,by rw[qsY];exact r⟩
 case round =>
  obtain⟨k,c,rfl,a⟩:=hrel;have u:=(qaa a.out.box 0).trans j
  cases gk with
  |zero =>
   have v:¬(k:Int)<n:=by have:=c.out;omega
   have e:k=n:=by have:=c.out;omega
   subst e
   go_wp2_with(first
    |(refine kak rfl 84 _ rfl _ rfl _ _ _ _ a.out.own underlying84 rfl (qas (qae _ _)) ?_)
    |(refine kan rfl 84 _ _ rfl _ _ rfl rfl 84 qaF a.out.res (qas (qae _ _)) (by rw[qae];exact qae _ _) (qa9 _ _) ?_))
   refine kaw (kcb results95 _ _ (w.heap.size+1) 84 (qaq k (trM k m k 0)) (0,0) _ rfl (kaA _ _ qaF _ _ _ a.out.res) underlying84 rfl (qas (qae _ _))) rfl ⟨rfl,qai a.out.below (by omega) _⟩
  |succ g =>
   have v:(k:Int)<n:=by have:=c.out;omega
   have h:k<6:=by omega
   go_wp2
   go_loopg[16,5] n (λg x y wr=>∃q:Nat,Hid (q+g=n)/\x=.int .i64 q/\Hid (qeU w wr arr n (trM n m k q)))
   case atStart=>exact⟨0,by show _=_;omega,rfl,a⟩
   case round =>
    obtain⟨q,d,rfl,b⟩:=hrel
    cases gk with
    |zero =>
     have z:¬(q:Int)<n:=by have:=d.out;omega
     go_wp2;go_roundg g
     case measure=>omega
     case rel =>
      have e:q=n:=by have:=d.out;omega
      exact⟨k+1,by show _=_;have:=c.out;omega,by go_num,by have:=b.out;rw[e,qwn]at this;exact this⟩
    |succ t =>
     have z:(q:Int)<n:=by have:=d.out;omega
     have i:q<6:=by omega
     have B:=(qaa b.out.box _).trans (l.out q k i h);have C:=(qaa b.out.own _).trans ((qay n (trM n m k q)).at_ k q h i);have D:=kaK wr (w.heap.size+1+1) (1+k*6+q) _ _ b.out.own;go_wp2
     go_region
     all_goals go_wp2
     go_roundg t
     case measure=>omega
     case rel=>exact⟨q+1,by show _=_;have:=d.out;omega,by go_num,by have:=(b.out.set h i (m q k)).drew;rw[qtz n m k q (by omega)]at this;exact this⟩

def qf1(n:Nat)(m:Nat->Nat->Bool)(a b:Nat):Bool:=qa5 n m a b&&qa5 n (λi j=>m j i) a b
def qa8(n:Nat)(m:Nat->Nat->Bool):Bool:=(List.range n).all λa=>(List.range a).all λb=>qf1 n m a b
theorem qfC{a:Nat}(c:a<n)(d:b<a)(h:qf1 n m a b=false):qa8 n m=false:=by
 unfold qa8;rw[kaS];refine⟨a,kav.2 c,?_⟩;rw[kcc,kaS];exact⟨b,kav.2 d,by rw[h];decide⟩
theorem qiG(h:∀a b,a<n->b<a->qf1 n m a b=true):qa8 n m=true:=by
 unfold qa8;rw[ka3];intro a c;rw[ka3];intro b d;exact h a b (kav.1 c) (kav.1 d)
theorem qh0(h:∀i j,i<n->j<n->m i j=m' i j){a:Nat}(d:a<n)(e:b<n)(c:k<n):ubB m a b k=ubB m' a b k:=by
 unfold ubB;rw[h a k d c,h b k e c]
theorem qfM(h:∀i j,i<n->j<n->m i j=m' i j){a:Nat}(e:a<n)(f:b<n)(l:k<n):qaS n m a b k=qaS n m' a b k:=by
 unfold qaS;rw[qh0 h e f l];congr 1;rw[kcA,ka3,ka3];constructor
 ·intro g j c;have d:=kav.1 c;rw[<-qh0 h e f d,<-h k j l d];exact g j c
 intro g j c;have d:=kav.1 c;rw[qh0 h e f d,h k j l d];exact g j c
theorem qcD(h:∀i j,i<n->j<n->m i j=m' i j){a:Nat}(d:a<n)(e:b<n):qa5 n m a b=qa5 n m' a b:=by
 unfold qa5;rw[kcA,kbi,kbi];constructor
 ·rintro⟨k,c,g⟩;exact⟨k,c,by rw[<-qfM h d e (kav.1 c)];exact g⟩
 rintro⟨k,c,g⟩;exact⟨k,c,by rw[qfM h d e (kav.1 c)];exact g⟩
theorem qjJ(arr:Array Value)(n:Nat)(m:Nat->Nat->Bool)(H:qlt arr n m)(B:n<=6)(w:World):Calls prog 80 #[.agg arr] w λe w'=>e=.returned (.bool (qa8 n m))/\Below w.heap.size w w':=by
 have Z:=H.count;have Q:=qab H;have v:=qab (qas H.size);clear H;have z:=qab (qac w (.cells arr 84));have N:=qab ((kam w.heap.size w).alloc (kaf _) (.cells arr 84));have T:=qoi arr n m Q.out B (w.alloc (.cells arr 84));go_enter func80,ntmps80
 go_wp2_with(first
  |(refine kak rfl 84 _ rfl _ rfl _ arr _ _ z.out underlying84 rfl v.out ?_)
  |(go_at_call 95;refine T.mono ?_;clear T;rintro e c ⟨rfl,s⟩;have D:=s.size;rw[kad]at D)
  |(refine qat rfl rfl _ rfl c.heap.size rfl ?_)
  |(refine kan rfl 84 _ _ rfl _ _ rfl rfl 84 qaF (qac c _) (qas (qae _ _)) (by rw[qae];exact qae _ _) (qa9 _ _) ?_;rw[kaB];have y:(c.alloc (.cells (qaq n (trM n m n 0)) 84)).cell? ⟨w.heap.size,0,none⟩=some (.int .i64 n):=(qaa ((kae _ _ _ (by omega)).trans ((s.block _ (by simp)).trans z.out)) 0).trans Z))
 have V:Hid ((c.alloc (.cells (qaq n (trM n m n 0)) 84)).heap[w.heap.size]?=some (.cells arr 84)):=(kae _ _ _ (by omega)).trans ((s.block _ (by simp)).trans z.out);have W:Hid ((c.alloc (.cells (qaq n (trM n m n 0)) 84)).heap[c.heap.size]?=some (.cells (qaq n (trM n m n 0)) 84)):=qac _ _;have X:Hid ((c.alloc (.cells (qaq n (trM n m n 0)) 84)).heap.size=c.heap.size+1):=by show _=_;simp
 have F:Hid (Below w.heap.size w (c.alloc (.cells (qaq n (trM n m n 0)) 84))):=(N.out.trans (s.mono (by simp))).alloc (by omega) _;clear y s z N;generalize c.alloc (.cells (qaq n (trM n m n 0)) 84)=W3 at *;have l:Hid (w.heap.size<c.heap.size):=by show _<_;omega
 generalize c.heap.size=N3 at *
 go_loopg[10,4] n (λg x ad wr=>∃k:Nat,Hid (k+g=n)/\x=.int .i64 k/\Below (N3+1) W3 wr/\Hid (∀a b,a<k->b<a->qf1 n m a b=true))
 case atStart=>exact⟨0,by show _=_;omega,rfl,kam _ _,λa b U=>by omega⟩
 case round =>
  obtain⟨k,A,rfl,d,P⟩:=hrel
  cases gk with
  |zero =>
   have aa:¬(k:Int)<n:=by have:=A.out;omega
   go_wp2;go_ret;exact⟨by rw[qiG (λa b U t=>P.out a b (by have:=A.out;omega) t)];rfl,F.out.trans (d.mono (by have:=l.out;omega))⟩
  |succ g =>
   have aa:(k:Int)<n:=by have:=A.out;omega
   have L:k<6:=by omega
   go_wp2
   go_loopg[14,5] k (λg x ad wr=>∃q:Nat,Hid (q+g=k)/\x=.int .i64 q/\Below (N3+1) W3 wr/\Hid (∀b,b<q->qf1 n m k b=true))
   case atStart=>exact⟨0,by show _=_;omega,rfl,d,λb t=>by omega⟩
   case round =>
    clear d;obtain⟨q,C,rfl,d,R⟩:=hrel
    cases gk with
    |zero =>
     have ab:¬(q:Int)<k:=by have:=C.out;omega
     go_wp2;go_roundg g
     case measure=>omega
     case rel =>
      refine⟨k+1,by show _=_;have:=A.out;omega,by go_num,d,λa b U t=>?_⟩;by_cases e:a=k
      ·subst e;exact R.out b (by have:=C.out;omega)
      exact P.out a b (by omega) t
    |succ Y =>
     have ab:(q:Int)<k:=by have:=C.out;omega
     have M:q<6:=by omega
     have I:=qab ((d.block _ (by have:=l.out;omega)).trans V.out);have S:=qab ((d.block _ (by omega)).trans W.out);have D:=d.size;rw[X.out]at D;have h:=qer arr n m Q.out B k q L M wr;have u:Hid (qa5 n (trM n m n 0) k q=qa5 n (λi j=>m j i) k q):=qcD (λi j hi hj=>qzh n m i j hi hj) (by omega) (by omega);cases o:qa5 n m k q
     ·rw[o]at h;have r:Hid (qf1 n m k q=false):=by show _=_;unfold qf1;rw[o];rfl
      clear o
      go_wp2_with(first
       |(refine kak rfl 84 _ rfl _ rfl _ arr _ _ I.out underlying84 rfl v.out ?_)
       |(go_at_call 96;refine h.mono ?_;clear h;rintro e E ⟨rfl,f⟩))
      go_ret;exact⟨by rw[qfC (a:=k) (b:=q) (by omega) (by omega) r.out];rfl,F.out.trans ((d.mono (by have:=l.out;omega)).trans (f.mono (by have:=l.out;omega)))⟩
     rw[o]at h;have O:=qab o;clear o;cases p:qa5 n (λi j=>m j i) k q
     ·have r:Hid (qf1 n m k q=false):=by show _=_;unfold qf1;rw[p,O.out];rfl
      have G:=qab (u.out.trans p);clear p u
      go_wp2_with(first
       |(refine kak rfl 84 _ rfl _ rfl _ arr _ _ I.out underlying84 rfl v.out ?_)
       |(go_at_call 96;refine h.mono ?_;clear h;rintro e E ⟨rfl,f⟩;have c2:=qer _ n _ (qay n (trM n m n 0)) B k q L M E;rw[G.out]at c2;have J:=qab ((f.block _ (by omega)).trans S.out))
       |(refine qaf 84 _ rfl rfl _ rfl _ _ _ _ J.out underlying84 rfl (qas (qae _ _)) ?_)
       |(go_at_call 96;refine c2.mono ?_;clear c2;rintro e w5 ⟨rfl,K⟩))
      go_ret;have ac:=f.size;exact⟨by rw[qfC (a:=k) (b:=q) (by omega) (by omega) r.out];rfl,F.out.trans ((d.mono (by have:=l.out;omega)).trans ((f.mono (by have:=l.out;omega)).trans (K.mono (by have:=l.out;omega))))⟩
     have r:Hid (qf1 n m k q=true):=by show _=_;unfold qf1;rw[p,O.out];rfl
     have G:=qab (u.out.trans p);clear p u
     go_wp2_with(first
      |(refine kak rfl 84 _ rfl _ rfl _ arr _ _ I.out underlying84 rfl v.out ?_)
      |(go_at_call 96;refine h.mono ?_;clear h;rintro e E ⟨rfl,f⟩;have c2:=qer _ n _ (qay n (trM n m n 0)) B k q L M E;rw[G.out]at c2;have J:=qab ((f.block _ (by omega)).trans S.out))
      |(refine qaf 84 _ rfl rfl _ rfl _ _ _ _ J.out underlying84 rfl (qas (qae _ _)) ?_)
      |(go_at_call 96;refine c2.mono ?_;clear c2;rintro e w5 ⟨rfl,K⟩))
     have ac:=f.size;go_roundg Y
     case measure=>omega
     case rel =>
      refine⟨q+1,by show _=_;have:=C.out;omega,by go_num,d.trans ((f.mono D).trans (K.mono (by omega))),λb t=>?_⟩;by_cases e:b=q
      ·subst e;exact r.out
      exact R.out b (by omega)

def fst(n k:Nat)(m:Nat->Nat->Bool)(l h:Nat):Nat->Nat->Bool:=λi j=>m i j||(decide (j<n/\(i<l\/(i=l/\j<h)))&&(m i k&&m k j))
def qiX(n:Nat):Nat->(Nat->Nat->Bool)->Nat->Nat->Bool
 |0,m=>m
 |k+1,m=>fst n k (qiX n k m) n 0
theorem qt8(n k:Nat)(m:Nat->Nat->Bool):fst n k m 0 0=m:=by
 funext i j;simp[fst]
theorem qvi(n k:Nat)(m:Nat->Nat->Bool)(l:Nat):fst n k m l n=fst n k m (l+1) 0:=by
 funext i j;unfold fst;congr 2;exact kbn.2 (by omega)
theorem qrO(n k:Nat)(m:Nat->Nat->Bool)(l h i:Nat):fst n k m l h i k=m i k:=by
 unfold fst;cases m i k<;>simp
theorem qn6(n k:Nat)(m:Nat->Nat->Bool)(l h j:Nat):fst n k m l h k j=m k j:=by
 unfold fst;cases m k j<;>simp
theorem qwt(n k:Nat)(m:Nat->Nat->Bool)(l h:Nat)(d:h<n)(a:m l k=true)(b:m k h=true):upd (fst n k m l h) l h true=fst n k m l (h+1):=by
 funext i j;unfold upd fst;by_cases c:i=l/\j=h
 ·obtain⟨rfl,rfl⟩:=c;simp[d,a,b]
 rw[kac c];congr 2;exact kbn.2 (by omega)
theorem quw(n k:Nat)(m:Nat->Nat->Bool)(l h:Nat)(e:(m l k&&m k h)=false):fst n k m l h=fst n k m l (h+1):=by
 funext i j;unfold fst;by_cases c:i=l/\j=h
 ·obtain⟨rfl,rfl⟩:=c;rw[e];simp
 congr 2;exact kbn.2 (by omega)
structure qbp(w W:World)(b n:Nat)(M:Nat->Nat->Bool):Prop where
 below:Below b w W
 own:W.heap[b]?=some (.cells (qaq n M) 84)
theorem qbp.set(h:qbp w W b n M)(hi:i<6)(a:j<6)(v:Bool):qbp w (W.setCell ⟨b,1+i*6+j,none⟩ (.bool v)) b n (upd M i j v) :=
 ⟨h.below.setCell (kaf _) _,by rw[kaO W _ _ _ _ _ h.own,qik n M i j v hi a]⟩
theorem qbp.count(h:qbp w W b n M):W.cell? ⟨b,0,none⟩=some (.int .i64 n):=(qaa h.own 0).trans (qay n M).count
theorem qbp.at_(h:qbp w W b n M)(hi:i<6)(a:j<6):W.cell? ⟨b,1+i*6+j,none⟩=some (.bool (M i j)):=(qaa h.own _).trans ((qay n M).at_ i j hi a)
theorem qbp.frozen(h:qbp w W b n M)(j:Nat):W.frozen? ⟨b,j,none⟩=false:=kaK W b j _ _ h.own
theorem qbp.drew(h:qbp w W b n M):qbp w W.drew b n M:=⟨h.below.drew,h.own⟩
theorem qoz(b n:Nat)(m:Nat->Nat->Bool)(L:n<=6)(w:World)(I:w.heap[b]?=some (.cells (qaq n m) 84)):Calls prog 94 #[.pointer (some ⟨b,0,none⟩)] w λe J=>e=.returned (.tuple #[])/\qbp w J b n (qiX n n m):=by
 have v:Hid (qbp w w b n (qiX n 0 m)):=⟨kam _ _,I⟩
 have z:=v.out.count;go_enter func94,ntmps94;go_wp2
 go_loopg[9,2] n (λg x y wr=>∃k:Nat,Hid (k+g=n)/\x=.int .i64 k/\Hid (qbp w wr b n (qiX n k m)))
 case atStart=>exact⟨0,by show _=_;omega,rfl,v⟩
 case round =>
  obtain⟨k,i,rfl,p⟩:=hrel;have z:=p.out.count
  cases gk with
  |zero =>
   have H:¬(k:Int)<n:=by have:=i.out;omega
   go_wp2;go_end0;have e:k=n:=by have:=i.out;omega
   exact⟨rfl,by have:=p.out;rw[e]at this;exact this⟩
  |succ g =>
   have H:(k:Int)<n:=by have:=i.out;omega
   have A:k<6:=by omega
   go_wp2
   go_loopg[16,3] n (λg x y wr=>∃l:Nat,Hid (l+g=n)/\x=.int .i64 l/\Hid (qbp w wr b n (fst n k (qiX n k m) l 0)))
   case atStart=>exact⟨0,by show _=_;omega,rfl,by rw[qt8];exact p⟩
   case round =>
    obtain⟨l,j,rfl,q⟩:=hrel;have z:=q.out.count
    cases gk with
    |zero =>
     have G:¬(l:Int)<n:=by have:=j.out;omega
     go_wp2;go_roundg g
     case measure=>omega
     case rel =>
      have e:l=n:=by have:=j.out;omega
      exact⟨k+1,by show _=_;have:=i.out;omega,by go_num,by have:=q.out;rw[e]at this;exact this⟩
    |succ E =>
     have G:(l:Int)<n:=by have:=j.out;omega
     have u:l<6:=by omega
     go_wp2
     go_loopg[23,4] n (λg x y wr=>∃h:Nat,Hid (h+g=n)/\x=.int .i64 h/\Hid (qbp w wr b n (fst n k (qiX n k m) l h)))
     case atStart=>exact⟨0,by show _=_;omega,rfl,q⟩
     case round =>
      obtain⟨h,c,rfl,a⟩:=hrel
      cases gk with
      |zero =>
       have F:¬(h:Int)<n:=by have:=c.out;omega
       go_wp2;go_roundg E
       case measure=>omega
       case rel =>
        have e:h=n:=by have:=c.out;omega
        exact⟨l+1,by show _=_;have:=j.out;omega,by go_num,by have:=a.out;rw[e,qvi]at this;exact this⟩
      |succ s =>
       have F:(h:Int)<n:=by have:=c.out;omega
       have t:h<6:=by omega
       have r:=a.out.at_ u A;have c2:=a.out.at_ A t;have D:=a.out.at_ u t;have K:=a.out.frozen (1+l*6+h);rw[qrO]at r;rw[qn6]at c2;generalize hM:qiX n k m=M at *;cases d:M l k
       ·rw[d]at r;have o:Hid ((M l k&&M k h)=false):=by show _=_;rw[d];rfl
        go_wp2;go_roundg s
        case measure=>omega
        case rel=>exact⟨h+1,by show _=_;have:=c.out;omega,by go_num,by have:=a.out;rw[quw n k M l h o.out]at this;exact this⟩
       rw[d]at r;cases f:M k h
       ·rw[f]at c2;have o:Hid ((M l k&&M k h)=false):=by show _=_;rw[d,f];rfl
        go_wp2;go_roundg s
        case measure=>omega
        case rel=>exact⟨h+1,by show _=_;have:=c.out;omega,by go_num,by have:=a.out;rw[quw n k M l h o.out]at this;exact this⟩
       rw[f]at c2;have B:=qab d;have C:=qab f;generalize hV:fst n k M l h l h=v0 at D;go_wp2;go_roundg s
       case measure=>omega
       case rel=>exact⟨h+1,by show _=_;have:=c.out;omega,by go_num,by have:=a.out.set u t true;rw[qwt n k M l h (by omega) B.out C.out]at this;exact this⟩

end
section
open Go.RowKit Go.Shelf
theorem qgr{K:Act->World->Prop}(h:Q .ret a w):Exit.then K Q .ret a w:=h
theorem qes(h:Q .ret a w):Exit.inBlock n Q .ret a w:=h
theorem qch(h:Q .ret a w):Exit.noGoto Q .ret a w:=h
theorem qiV(s:ByteArray)(o:s.size=5)(b:∀i (h:i<s.size),(s[i]'h).toNat<128)(w:World):Calls prog 149 #[.string s,.int .i32 65533] w λe k=>e=.returned (.int .i64 (-1))/\Below w.heap.size w k:=by
 have d:Hid (∀i (h:i<s.size),(s[i]'h).toNat<128):=b;clear b;go_enter func149,ntmps149;go_wp2
 go_loopg[5,6] 5 (λg _ _ l=>∃i:Nat,i+g=5/\l=w.iter s i)
 case atStart=>exact⟨0,by omega,rfl⟩
 case round =>
  obtain⟨i,n,rfl⟩:=hrel
  cases gk with
  |zero =>
   obtain rfl:i=5:=by omega
   have j:=λa=>run_next_end (P:=prog) w s 5 a (by omega);go_wp2;go_ret;exact⟨rfl,bwA⟩
  |succ g =>
   have c:i<s.size:=by omega
   have f:=d.out i (by omega);have j:=λa=>run_next_ascii (P:=prog) w s i a c f;have m:¬((s[i]'c).toNat:Int)=65533:=by omega
   go_wp2;go_roundg g
   case measure=>omega
   case rel=>exact⟨i+1,by omega,rfl⟩
theorem qi7(s:ByteArray)(r:Int)(c:128<=r)(d:¬r=65533)(a:Lib.validRune r=false)(w:World):Calls prog 149 #[.string s,.int .i32 r] w λe b=>e=.returned (.int .i64 (-1))/\Below w.heap.size w b:=by
 go_enter func149,ntmps149
 go_wp2_with(first|(go_at_call 163;refine(Tryz.utf8_ValidRune _ _).mono ?_;rintro e f ⟨rfl,rfl⟩;rw[a]))
 go_ret;exact⟨rfl,kam _ _⟩
theorem qhK(s:ByteArray)(B:s.size=5)(o:∀i (h:i<s.size),(s[i]'h).toNat<128)(r:Int)(E:128<=r)(I:¬r=65533)(C:Lib.validRune r=true)(rs:ByteArray)(k:Nat)(J:Utf8.encode r=rs)(G:rs.size=k+1)(D:1<=k)(F:k<=3)(y:128<=(rs[k]'(by omega)).toNat)(w:World):Calls prog 149 #[.string s,.int .i32 r] w λe n=>e=.returned (.int .i64 (-1))/\Below w.heap.size w n:=by
 have v:k<s.size:=by omega
 have f:k<rs.size:=by omega
 have K:=o k v;have H:¬((s[k]'v).toNat:Int)=((rs[k]'f).toNat:Int):=by omega
 have m:Hid (Lib.indexByte (s.extract (k+1) s.size).data.toList (rs[k]'f) = -1):=by
  show _=_;rw[<-Lib.firstIdx_eq];refine firstIdx_ascii s (k+1) s.size _ (λb z=>?_) y;obtain⟨i,u,rfl⟩:=kbv z;have A:i<s.size:=by rw[ka8]at u;exact u
  exact o i A
 have p:(((rs[k]'f).toNat:Int)).toNat.toUInt8=rs[k]'f:=by simp
 clear o;obtain rfl|rfl|rfl:k=1\/k=2\/k=3:=by omega
 all_goals
  rw[B]at m;go_enter func149,ntmps149
  go_wp2_with(first|(go_at_call 163;refine(Tryz.utf8_ValidRune _ _).mono ?_;rintro e q ⟨rfl,rfl⟩;rw[C]))
  go_step3;go_wp2
 ·have x:Lib.indexByte (List.take 3 (List.drop 2 s.data.toList)) (rs[1]'f)<0:=by
   have h:=m.out;rw[kcr,kc2,kcg]at h;have t:Lib.indexByte (List.take 3 (List.drop 2 s.data.toList)) (rs[1]'f) = -1:=h;omega
  go_loopg[9,10,11,12] 1 (λg a b c d l=>a=.int .i64 1/\l=q)
  case atStart=>exact⟨rfl,rfl⟩
  case round =>
   obtain⟨rfl,rfl⟩:=hrel;go_wp2;go_step3;go_wp2
   go_region
   go_wp2
   go_region_with(first|(go_at_call 162;refine(Tryz.strings_IndexByte _ _ _).mono ?_;rintro e n ⟨rfl,j⟩;rw[j,p]))
   go_wp2
   all_goals repeat(first|refine qgr ?_|refine qes ?_|refine qch ?_)
   all_goals go_ret
   all_goals exact⟨rfl,(kam _ _).drew.drew⟩
 ·have x:Lib.indexByte (List.take 2 (List.drop 3 s.data.toList)) (rs[2]'f)<0:=by
   have h:=m.out;rw[kcr,kc2,kcg]at h;have t:Lib.indexByte (List.take 2 (List.drop 3 s.data.toList)) (rs[2]'f) = -1:=h;omega
  go_loopg[9,10,11,12] 1 (λg a b c d l=>a=.int .i64 2/\l=q)
  case atStart=>exact⟨rfl,rfl⟩
  case round =>
   obtain⟨rfl,rfl⟩:=hrel;go_wp2;go_step3;go_wp2
   go_region
   go_wp2
   go_region_with(first|(go_at_call 162;refine(Tryz.strings_IndexByte _ _ _).mono ?_;rintro e n ⟨rfl,j⟩;rw[j,p]))
   go_wp2
   all_goals repeat(first|refine qgr ?_|refine qes ?_|refine qch ?_)
   all_goals go_ret
   all_goals exact⟨rfl,(kam _ _).drew.drew⟩
 have x:Lib.indexByte (List.take 1 (List.drop 4 s.data.toList)) (rs[3]'f)<0:=by
  have h:=m.out;rw[kcr,kc2,kcg]at h;have t:Lib.indexByte (List.take 1 (List.drop 4 s.data.toList)) (rs[3]'f) = -1:=h;omega
 go_loopg[9,10,11,12] 1 (λg a b c d l=>a=.int .i64 3/\l=q)
 case atStart=>exact⟨rfl,rfl⟩
 case round =>
  obtain⟨rfl,rfl⟩:=hrel;go_wp2;go_step3;go_wp2
  go_region
  go_wp2
  go_region_with(first|(go_at_call 162;refine(Tryz.strings_IndexByte _ _ _).mono ?_;rintro e n ⟨rfl,j⟩;rw[j,p]))
  go_wp2
  all_goals repeat(first|refine qgr ?_|refine qes ?_|refine qch ?_)
  all_goals go_ret
  all_goals exact⟨rfl,(kam _ _).drew.drew⟩
def qwD(r:Int):Bool:=r==42||(r==91||(r==93||(r==47||r==46)))
theorem qpR:∀k:Nat,k<128->decide (0<=Lib.indexByte [42,91,93,47,46] k.toUInt8)=qwD (k:Int):=by decide
theorem qrh:∀i (h:i<(⟨#[42,91,93,47,46]⟩:ByteArray).size),((⟨#[42,91,93,47,46]⟩:ByteArray)[i]'h).toNat<128:=by decide
theorem qgg(r:Int)(d:0<=r)(w:World):Calls prog 133 #[.string ⟨#[42,91,93,47,46]⟩,.int .i32 r] w λe a=>e=.returned (.bool (qwD r))/\Below w.heap.size w a:=by
 by_cases h:r<128
 ·refine(Tryz.strings_ContainsRune_ascii _ r w d h).mono ?_;rintro e a ⟨rfl,rfl⟩;refine⟨?_,kam _ _⟩;have:=qpR r.toNat (by omega);rw[kbD d]at this;rw[<-this]
 have f:qwD r=false:=by
  unfold qwD;simp only[kcV,ka1];omega
 have g:Calls prog 149 #[.string ⟨#[42,91,93,47,46]⟩,.int .i32 r] w λe a=>e=.returned (.int .i64 (-1))/\Below w.heap.size w a:=by
  by_cases b:r=65533
  ·subst b;exact qiV _ rfl qrh w
  cases c:Lib.validRune r
  ·exact qi7 _ r (by omega) b c w
  obtain⟨k,l,j⟩:=encode_facts r (by rw[validRune_eq];exact c) (by omega);exact qhK _ rfl qrh r (by omega) b c _ ((Utf8.encode r).size-1) rfl (by omega) (by omega) (by omega) (j (by omega)) w
 rw[f];clear f h;generalize(⟨#[42,91,93,47,46]⟩:ByteArray)=s at *;go_enter func133,ntmps133
 go_wp2_with(first|(go_at_call 149;refine g.mono ?_;rintro e m ⟨rfl,i⟩))
 go_ret;exact⟨rfl,i⟩

end
section
open Go.RowKit
def tkS(s:Nat×List UInt8)(t:List UInt8×Bool):Bool:=if s.1=0 then true else if s.1=1 then false else if s.1=2 then t.2 else !t.2&&t.1==s.2
def rcS(s:Nat×List UInt8)(p:List (List UInt8×Bool))(f:Nat->Bool):Nat->Bool
 |0=>if s.1=1 then f 0 else false
 |k+1=>if s.1=1 then(List.range (k+2)).any f else f k&&(match p[k]? with|some t=>tkS s t|none=>false)
def rch:List (Nat×List UInt8)->List (List UInt8×Bool)->(Nat->Bool)->Nat->Bool
 |[],_,f=>f
 |s::ss,p,f=>rch ss p (rcS s p f)
def qx8(ss:List (Nat×List UInt8))(p:List (List UInt8×Bool)):Bool:=rch ss p (λk=>k==0) p.length
theorem qnp(s:Nat×List UInt8)(p:List (List UInt8×Bool)):∀(ss:List (Nat×List UInt8)) (f:Nat->Bool),rch (ss++[s]) p f=rcS s p (rch ss p f)
 |[],_=>rfl
 |x::ss,f=>by show rch (ss++[s]) p _=_;rw[qnp s p ss];rfl
def qgY(ss:List (Nat×List UInt8))(k:Nat):Bool:=match ss[k]? with
 |some s=>s.1==1
 |none=>false
def qkx(ss:List (Nat×List UInt8))(t:List UInt8×Bool)(k:Nat):Bool:=match ss[k]? with
 |some s=>tkS s t
 |none=>false
def wdP(ss:List (Nat×List UInt8))(P:Nat->Bool):Nat->Bool
 |0=>P 0
 |k+1=>P (k+1)||(qgY ss k&&wdP ss P k)
def goP(ss:List (Nat×List UInt8))(t:List UInt8×Bool)(P:Nat->Bool):Nat->Bool
 |0=>P 0&&qgY ss 0
 |k+1=>(P (k+1)&&qgY ss (k+1))||(P k&&qkx ss t k)
def plc(ss:List (Nat×List UInt8)):List (List UInt8×Bool)->Nat->Bool
 |[]=>wdP ss (λk=>k==0)
 |t::r=>wdP ss (goP ss t (plc ss r))
def rF(ss:List (Nat×List UInt8))(p:List (List UInt8×Bool))(k:Nat):Nat->Bool:=rch (ss.take k) p (λn=>n==0)
theorem qqy(a:List (Nat×List UInt8))(p:List (List UInt8×Bool))(n:Nat):rF a p 0 n=(n==0):=rfl
theorem qqB{s:Nat×List UInt8}(h:ss[k]?=some s)(p:List (List UInt8×Bool)):rF ss p (k+1)=rcS s p (rF ss p k):=by
 unfold rF;rw[kb7,h];exact qnp s p _ _
def gF(ss:List (Nat×List UInt8))(p:List (List UInt8×Bool))(k j:Nat):Bool:=if qgY ss k then(List.range (j+1)).any (rF ss p k)else rF ss p k j
theorem qtN(f:Nat->Bool)(j:Nat):(List.range (j+1)).any f=((List.range j).any f||f j):=by
 rw[List.range_succ,List.any_append];simp
theorem qn1(a:List (Nat×List UInt8))(p:List (List UInt8×Bool)):∀(j:Nat),j<=p.length->∀k,k<=a.length->plc a (p.take j).reverse k=gF a p k j
 |0,_,k,hk=>by
  rw[kdE,List.reverse_nil,plc]
  induction k with
  |zero=>unfold gF;cases qgY a 0<;>simp[wdP,qqy]
  |succ k d =>
   have d:=d (by omega);rw[wdP,d];obtain⟨s,f⟩:∃s,a[k]?=some s:=⟨a[k],kab (by omega)⟩
   have o:gF a p k 0=rF a p k 0:=by unfold gF;cases qgY a k<;>simp
   have q:gF a p (k+1) 0=rF a p (k+1) 0:=by unfold gF;cases qgY a (k+1)<;>simp
   have c:qgY a k=(s.1==1):=by unfold qgY;rw[f]
   rw[o,q,qqB f,rcS,c];by_cases b:s.1=1
   ·simp[b]
   simp[b]
 |j+1,hj,k,hk=>by
  obtain⟨t,i⟩:∃t,p[j]?=some t:=⟨p[j],kab (by omega)⟩
  have u:(p.take (j+1)).reverse=t::(p.take j).reverse:=by rw[kb7,i];simp
  rw[u,plc];have g:=qn1 a p j (by omega);generalize hP:plc a (p.take j).reverse=P;rw[hP]at g
  induction k with
  |zero =>
   rw[wdP,goP,g 0 (by omega)];unfold gF
   cases c:qgY a 0 with
   |true =>
    rw[kag rfl,kag rfl];have h:rF a p 0 0=true:=rfl;have m:(List.range (j+1)).any (rF a p 0)=true:=kbi.2 ⟨0,by simp,h⟩;have n:(List.range (j+1+1)).any (rF a p 0)=true:=kbi.2 ⟨0,by simp,h⟩;rw[m,n];rfl
   |false=>simp[qqy]
  |succ k d =>
   have d:=d (by omega);obtain⟨s,f⟩:∃s,a[k]?=some s:=⟨a[k],kab (by omega)⟩
   have c:qgY a k=(s.1==1):=by unfold qgY;rw[f]
   have l:qkx a t k=tkS s t:=by unfold qkx;rw[f]
   rw[wdP,goP,d,g (k+1) hk,g k (by omega)];have w:((gF a p k j&&qkx a t k)||(qgY a k&&gF a p k (j+1)))=rF a p (k+1) (j+1):=by
    rw[qqB f,rcS,i];by_cases b:s.1=1
    ·have e:gF a p k (j+1)=(List.range (j+1+1)).any (rF a p k):=by unfold gF;rw[c];simp[b]
     have v:tkS s t=false:=by unfold tkS;simp[b]
     rw[l,v,c,e];simp[b]
    have e:gF a p k j=rF a p k j:=by unfold gF;rw[c];simp[b]
    rw[l,c,e];simp[b]
   have r:((gF a p (k+1) j&&qgY a (k+1))||rF a p (k+1) (j+1))=gF a p (k+1) (j+1):=by
    unfold gF
    cases qgY a (k+1)with
    |true=>rw[kag rfl,kag rfl,Bool.and_true,<-qtN]
    |false=>simp
   rw[Bool.or_assoc,w,r]
theorem qtX(a:List (Nat×List UInt8))(p:List (List UInt8×Bool)):plc a p.reverse a.length=qx8 a p:=by
 have h:=qn1 a p p.length (kaf _) a.length (kaf _);rw[kcd]at h;rw[h];unfold gF;have e:qgY a a.length=false:=by unfold qgY;rw[kaC (kaf _)]
 rw[e,kac (by simp)];unfold rF qx8;rw[kcd]

def plA(P:Nat->Nat):Array Value:=((List.range 16).map λi=>Value.int .u16 (P i)).toArray
theorem qcc(P:Nat->Nat):(plA P).size=16:=by simp[plA]
theorem qdk(P:Nat->Nat)(r:Nat)(a:r<16):(plA P)[r]?=some (.int .u16 (P r)):=by simp[plA,a]
theorem qzz(a:Nat):BitVec.ofInt 16 (a:Int)=BitVec.ofNat 16 a:=kbK ..
theorem qsU(a b:Nat)(c:a<65536)(d:b<65536):bits .and .u16 (a:Int) (b:Int)=((a&&&b:Nat):Int):=by
 have h:(BitVec.ofNat 16 a&&&BitVec.ofNat 16 b).toNat=a&&&b:=by
  rw[kdx,kbr,kbr,kaQ (by omega),kaQ (by omega)]
 show IntKind.u16.wrap ((BitVec.ofInt 16 (a:Int)&&&BitVec.ofInt 16 (b:Int)).toNat:Int)=_;have e:a&&&b<2^16:=kbU _ (by omega);rw[qzz,qzz,h];unfold IntKind.wrap;simp[IntKind.bits,IntKind.signed];omega
theorem qzG(a b:Nat)(c:a<65536)(d:b<65536):bits .or .u16 (a:Int) (b:Int)=((a|||b:Nat):Int):=by
 have h:(BitVec.ofNat 16 a|||BitVec.ofNat 16 b).toNat=a|||b:=by
  rw[BitVec.toNat_or,kbr,kbr,kaQ (by omega),kaQ (by omega)]
 show IntKind.u16.wrap ((BitVec.ofInt 16 (a:Int)|||BitVec.ofInt 16 (b:Int)).toNat:Int)=_;have e:a|||b<2^16:=kdm (by omega) (by omega);rw[qzz,qzz,h];unfold IntKind.wrap;simp[IntKind.bits,IntKind.signed];omega
theorem w16(x:Nat)(h:x<65536):IntKind.u16.wrap (x:Int)=(x:Int):=by
 unfold IntKind.wrap;simp[IntKind.bits,IntKind.signed];omega
theorem qzY(x k:Nat)(c:x<65536):(bits .and .u16 ((x:Int)/2^k) 1==1)=x.testBit k:=by
 have e:((x:Int)/2^k)=((x/2^k:Nat):Int):=by simp
 have b:x/2^k<65536:=Nat.lt_of_le_of_lt (Nat.div_le_self _ _) c;have:=qsU (x/2^k) 1 b (by omega);rw[e,show(1:Int)=((1:Nat):Int)from rfl,this,Nat.testBit,Nat.shiftRight_eq_div_pow,Nat.and_comm 1];cases h:(x/2^k&&&1 != 0)
 ·simp at h;simp[h]
 have a:x/2^k&&&1=1:=by
  rw[Nat.and_one_is_mod]at h ⊢;simp at h;omega
 rw[a];rfl
theorem qz9(W:World)(P:Nat->Nat)(r k:Nat)(c:r<16)(g:k<16)(b:P r<65536):Calls prog 102 #[.agg (plA P),.int .i64 r,.int .i64 k] W λe a=>e=.returned (.bool ((P r).testBit k))/\Below W.heap.size W a:=by
 have d:=qdk P r c;have f:=qzY (P r) k b;go_enter func102,ntmps102;go_wp2;go_ret;exact⟨rfl,bwA⟩
theorem qiL(P:Nat->Nat)(r:Nat)(x:Nat):(plA P).setIfInBounds r (.int .u16 x)=plA (λi=>if i=r then x else P i):=by
 apply Array.ext
 ·simp[plA]
 intro i a c;simp[plA]at a;rw[Array.getElem_setIfInBounds (by simp[plA];exact a)];by_cases h:r=i
 ·subst h;simp[plA]
 have b:¬i=r:=λe=>h e.symm;simp[plA,h,b]
theorem rdA(i:Nat)(hi:ops[i]?=some o)(c:Region.ready md ops listed=[i])(h:(∀b:Act->World->Prop,(∀a w,wpAny P md ops Q fuel (listed.setIfInBounds i true) a w->b a w)->if Region.wanted o (yielded ops a.tmps)=true then Oper.wp P o a w b Q else b (a.put o.dst undef) w)):wpAny P md ops Q (fuel+1) listed a w:=ka4 c (by simp) (kar hi h ka0)
theorem tkA(i d:Nat)(v:Value)(hi:ops[i]?=some oi)(b:(Region.noSelect ops&&Region.free md ops listed i&&(Region.ready md ops listed).contains i&&oi.dst==some d&&Region.wanted oi (yielded ops a.tmps))=true)(e:∀c a w,Q (.panic c) (a.put (some d) v) w->Q (.panic c) a w)(g:∀Z,(execOp a.eval oi).run P Z=.ok (.value v) Z)(h:wpAny P md ops Q fuel (listed.setIfInBounds i true) (a.put (some d) v) w):wpAny P md ops Q (fuel+1) listed a w:=by
 simp only[ka2]at b;have f:oi.dst=some d:=by simpa using b.1.2
 rw[<-f]at e h;exact wpAny_take hi b.1.1.1.1 b.1.1.1.2 b.1.1.2 e (.inl ⟨b.2,g⟩) h
theorem qdy(W:World)(g o:Nat)(x r k:Nat)(m:r<16)(j:k<16)(d:x<65536)(i:W.cell? ⟨g,o+r,none⟩=some (.int .u16 x))(f:W.frozen? ⟨g,o+r,none⟩=false):Calls prog 83 #[.pointer (some ⟨g,o,none⟩),.int .i64 r,.int .i64 k] W λe c=>e=.returned (.tuple #[])/\c=W.drew.setCell ⟨g,o+r,none⟩ (.int .u16 ((x|||2^k:Nat):Int)):=by
 have n:(r:Int)<16:=by omega
 have b:(2^k:Nat)<65536:=by
  have:(2^k:Nat)<=2^15:=kck (by decide) (by omega);omega
 have p:IntKind.u16.wrap (2^k)=2^k:=by
  have:=w16 (2^k) b;simpa using this
 have l:bits .or .u16 (x:Int) (2^k)=((x|||2^k:Nat):Int):=by
  have:=qzG x (2^k) d b;rwa[show(((2^k:Nat):Int))=2^k by simp]at this
 go_enter func83,ntmps83;go_wp2;refine kcD (by kernel_rfl) ?_;change wpAny _ _ _ _ _ _ _ (World.drew W);refine tkA 0 6 (.pointer (some ⟨g,o,none⟩)) rfl (by kernel_rfl) (λ_ _ _ h=>h) (λ_=>by kernel_rfl) ?_;refine tkA 1 7 (.int .i64 r) rfl (by kernel_rfl) (λ_ _ _ h=>h) (λ_=>by kernel_rfl) ?_;refine tkA 2 8 (.pointer (some ⟨g,o,none⟩)) rfl (by kernel_rfl) (λ_ _ _ h=>h) (λ_=>by kernel_rfl) ?_;refine tkA 3 9 (.pointer (some ⟨g,o+r,none⟩)) rfl (by kernel_rfl) (λ_ _ _ h=>h) (λ_=>?y3) ?_
 case y3=>go_simp
 refine tkA 5 11 (.int .i64 k) rfl (by kernel_rfl) (λ_ _ _ h=>h) (λ_=>by kernel_rfl) ?_;refine tkA 6 12 (.int .u16 ((2^k:Nat):Int)) rfl (by kernel_rfl) (λ_ _ _ h=>h) (λ_=>?y6) ?_
 case y6=>go_simp
 refine tkA 8 14 (.pointer (some ⟨g,o,none⟩)) rfl (by kernel_rfl) (λ_ _ _ h=>h) (λ_=>by kernel_rfl) ?_;refine rdA 4 rfl (by kernel_rfl) (λK a=>?_);go_simp;refine a _ _ ?_;refine tkA 7 13 (.int .u16 ((x|||2^k:Nat):Int)) rfl (by kernel_rfl) (λ_ _ _ h=>h) (λ_=>?y7) ?_
 case y7=>go_simp
 refine tkA 9 15 (.pointer (some ⟨g,o+r,none⟩)) rfl (by kernel_rfl) (λ_ _ _ h=>h) (λ_=>?y9) ?_
 case y9=>go_simp
 refine rdA 10 rfl (by kernel_rfl) (λK a=>?_);go_simp;refine a _ _ ?_;refine kd9 (by kernel_rfl) ?_ _;go_simp;go_wp2;go_end0;exact⟨rfl,rfl⟩

structure qlT(w:World)(a:Option Addr)(ss:List (Nat×List UInt8)):Prop where
 at_:∀i (h:i<ss.length),∃b off,a=some ⟨b,off,none⟩/\b<w.heap.size/\w.cell? ⟨b,off+i*2,none⟩=some (.int .i64 ss[i].1)/\w.cell? ⟨b,off+i*2+1,none⟩=some (.string ⟨ss[i].2.toArray⟩)
theorem qlT.below{a:Option Addr}(h:qlT w a ss)(c:Below w.heap.size w w'):qlT w' a ss :=
 ⟨λi j=>by
  obtain⟨b,off,g,d,e,f⟩:=h.at_ i j;exact⟨b,off,g,kai d c.size,(c.cell (p:=⟨b,_,none⟩) d).trans e,(c.cell (p:=⟨b,_,none⟩) d).trans f⟩⟩
structure qep(w:World)(a:Option Addr)(rs:List (List (Nat×List UInt8)×Int×Int)):Prop where
 at_:∀i (h:i<rs.length),∃b off pa pc,a=some ⟨b,off,none⟩/\b<w.heap.size/\w.cell? ⟨b,off+i*3,none⟩=some (.slice pa rs[i].1.length pc)/\w.cell? ⟨b,off+i*3+1,none⟩=some (.int .i64 rs[i].2.1)/\w.cell? ⟨b,off+i*3+2,none⟩=some (.int .i64 rs[i].2.2)/\qlT w pa rs[i].1
theorem qep.below{a:Option Addr}{rs:List (List (Nat×List UInt8)×Int×Int)}(h:qep w a rs)(c:Below w.heap.size w w'):qep w' a rs :=
 ⟨λi l=>by
  obtain⟨b,off,m,n,k,d,e,f,g,j⟩:=h.at_ i l;exact⟨b,off,m,n,k,kai d c.size,(c.cell (p:=⟨b,_,none⟩) d).trans e,(c.cell (p:=⟨b,_,none⟩) d).trans f,(c.cell (p:=⟨b,_,none⟩) d).trans g,j.below c⟩⟩
def jdg(dflt:Int):List (List (Nat×List UInt8)×Int×Int)->(Nat->Nat)->Nat->Int×Int
 |[],_,_=>(dflt,1)
 |x::rs,P,r=>if(P r).testBit x.1.length then x.2 else jdg dflt rs P (r+1)
theorem qbo(P:Nat->Nat):(prog.info? 135).map (·.size)=some (plA P).size:=by rw[qcc];kernel_rfl
structure qxE(W:World)(P:Nat->Nat)(V:World):Prop where
 box:V.heap[W.heap.size]?=some (.cells (plA P) 135)
 below:Below W.heap.size W V
theorem qxE.next{V V':World}{P:Nat->Nat}(h:qxE W P V)(a:Below V.heap.size V V'):qxE W P V' :=
 ⟨(a.block _ (ltA h.box)).trans h.box,h.below.trans (a.mono h.below.size)⟩
theorem qwE(W:World)(P:Nat->Nat):qxE W P (W.alloc (.cells (plA P) 135)):=⟨qac _ _,bwA⟩
theorem qpv(W:World)(A:Nat)(x:Option Addr)(I:Nat)(a:Int)(rs:List (List (Nat×List UInt8)×Int×Int))(P:Nat->Nat)(F:∀r,P r<65536)(R:rs.length<=16)(D:∀i (h:i<rs.length),rs[i].1.length<=8)(E:A<W.heap.size)(J:W.cell? ⟨A,0,none⟩=some (.slice x rs.length I))(C:W.cell? ⟨A,1,none⟩=some (.int .i64 a))(H:qep W x rs):Calls prog 84 #[.pointer (some ⟨A,0,none⟩),.agg (plA P)] W λe B=>e=.returned (.tuple #[.int .i64 (jdg a rs P 0).1,.int .i64 (jdg a rs P 0).2])/\Below W.heap.size W B:=by
 have y:=qab H;go_enter func84,ntmps84;go_wp2
 go_loopg[13] rs.length (λg z wr=>∃k:Nat,z=.int .i64 k/\Hid (k+g=rs.length)/\Hid (qxE W P wr)/\Hid (jdg a rs P 0=jdg a (rs.drop k) P k))
 case atStart=>exact⟨0,rfl,by show _=_;omega,qwE _ _,rfl⟩
 case round =>
  obtain⟨k,rfl,m,d,q⟩:=hrel;have K:=(d.out.below.cell (p:=⟨A,_,none⟩) E).trans C
  cases gk with
  |zero =>
   have G:¬(k:Int)<(rs.length:Int):=by have:=m.out;omega
   have f:Hid (jdg a rs P 0=(a,1)):=by
    have h:=q.out;rw[kbA (by have:=m.out;omega)]at h;exact h
   go_wp2;refine kaw (kbY results84 _ _ _) rfl ⟨?_,d.out.below⟩;rw[f.out];rfl
  |succ g =>
   have t:k<rs.length:=by have:=m.out;omega
   have G:(k:Int)<(rs.length:Int):=by omega
   obtain⟨b,off,v,w,rfl,O,L,M,N,_⟩:=(y.out.below d.out.below).at_ k t;have Q:=D k t;have l:=λV=>qz9 V P k rs[k].1.length (by omega) (by omega) (F k);have u:Hid (jdg a (rs.drop k) P k=if(P k).testBit rs[k].1.length then rs[k].2 else jdg a (rs.drop (k+1)) P (k+1)):=by
    show _=_;rw[ka6 t,jdg]
   have j:Hid (qxE W P (wr.alloc (.cells #[.slice v rs[k].1.length w,.int .i64 rs[k].2.1,.int .i64 rs[k].2.2] 178))):=d.out.next bwA
   have S:=ltA d.out.box
   cases n:(P k).testBit rs[k].1.length with
   |true =>
    rw[n]at l;have f:Hid (jdg a rs P 0=rs[k].2):=by have h:=q.out;rw[u.out,n]at h;exact h
    go_wp2_with(first
     |(refine kak rfl 135 (.tmp 3) rfl W.heap.size rfl _ _ _ _ j.out.box underlying135 rfl (qbo P) ?_)
     |(go_at_call 102;refine(l _).mono ?_;rintro e o ⟨rfl,c⟩;have s:=qab (j.out.next c);have T:o.cell? ⟨wr.heap.size,0,none⟩=some (.slice v rs[k].1.length w):=qaa ((c.block _ (by simp)).trans (qac _ _)) 0;have U:o.cell? ⟨wr.heap.size,1,none⟩=some (.int .i64 rs[k].2.1):=qaa ((c.block _ (by simp)).trans (qac _ _)) 1;have X:o.cell? ⟨wr.heap.size,2,none⟩=some (.int .i64 rs[k].2.2):=qaa ((c.block _ (by simp)).trans (qac _ _)) 2))
    go_quiet (fail)
    go_wp2;refine kaw (kbY results84 _ _ _) rfl ⟨?_,s.out.below.trans ⟨rfl,rfl,rfl,kaf _,λ_ _=>rfl⟩⟩;rw[f.out];rfl
   |false =>
    rw[n]at l;have f:Hid (jdg a rs P 0=jdg a (rs.drop (k+1)) P (k+1)):=by have h:=q.out;rw[u.out,n]at h;exact h
    go_wp2_with(first
     |(refine kak rfl 135 (.tmp 3) rfl W.heap.size rfl _ _ _ _ j.out.box underlying135 rfl (qbo P) ?_)
     |(go_at_call 102;refine(l _).mono ?_;rintro e o ⟨rfl,c⟩;have s:=qab (j.out.next c)))
    go_roundg g
    case measure=>omega
    case rel=>exact⟨k+1,by go_num,by show _=_;have:=m.out;omega,s,f⟩

theorem rdS(i:Nat)(hi:ops[i]?=some o)(c:Region.ready md ops listed=[i])(h:∀b:Act->World->Prop,Shut (∀a w,S w->(S w->wpAnyH P md ops Q S fuel (listed.setIfInBounds i true) a w)->b a w)->if Region.wanted o (yielded ops a.tmps)=true then Oper.wp P o a w b Q else b (a.put o.dst undef) w):wpAnyH P md ops Q S (fuel+1) listed a w :=
 kd0 c (by simp) (kcJ hi h kds)
theorem tkH(i d:Nat)(v:Value)(hi:ops[i]?=some oi)(b:(Region.noSelect ops&&Region.free md ops listed i&&(Region.ready md ops listed).contains i&&oi.dst==some d&&Region.wanted oi (yielded ops a.tmps))=true)(e:∀c a w,Q (.panic c) (a.put (some d) v) w->Q (.panic c) a w)(j:∀Z,S Z->(execOp a.eval oi).run P Z=.ok (.value v) Z)(f:S w)(h:wpAnyH P md ops Q S fuel (listed.setIfInBounds i true) (a.put (some d) v) w):wpAnyH P md ops Q S (fuel+1) listed a w:=by
 simp only[ka2]at b;have g:oi.dst=some d:=by simpa using b.1.2
 rw[<-g]at e h;exact kaD hi b.1.1.1.1 b.1.1.1.2 b.1.1.2 e (.inl ⟨b.2,j⟩) f h
def w1(st x:Nat):Nat:=x|||((x&&&st)<<<1)
def wdB(st x:Nat):Nat->Bool
 |0=>x.testBit 0
 |k+1=>x.testBit (k+1)||(st.testBit k&&wdB st x k)
theorem qqD(st x k:Nat):(w1 st x).testBit k=(x.testBit k||(decide (1<=k)&&(x.testBit (k-1)&&st.testBit (k-1)))):=by
 unfold w1;rw[kdF,kd6,kd7]
theorem qzx(c:st<256)(d:x<512):w1 st x<512:=by
 have b:x&&&st<2^8:=kbU _ (by omega);have a:(x&&&st)<<<1<2^9:=by rw[kcn];omega
 exact kdm (n:=9) (by omega) a
theorem qzZ(st x:Nat):x<=w1 st x:=Nat.left_le_or
structure Mid(P st:Nat->Nat)(n:Nat)(X:Nat->Nat):Prop where
 lo:∀r,r<n->∀k,(P r).testBit k=true->(X r).testBit k=true
 hi:∀r,r<n->∀k,(X r).testBit k=true->wdB (st r) (P r) k=true
 off:∀r,n<=r->X r=P r
 lt:∀r,X r<512
theorem qyY(h:x.testBit k=true):wdB st x k=true:=by
 cases k with
 |zero=>exact h
 |succ k=>rw[wdB,h];rfl
theorem qxR(P st:Nat->Nat)(n:Nat)(a:∀r,P r<512):Mid P st n P:=⟨λ_ _ _ h=>h,λ_ _ _ h=>qyY h,λ_ _=>rfl,a⟩
def wSt(st X:Nat->Nat)(n:Nat):Nat->Nat:=λr=>if r<n then w1 (st r) (X r)else X r
theorem Mid.step{P st:Nat->Nat}(h:Mid P st n X)(d:∀r,st r<256):Mid P st n (wSt st X n):=by
 refine⟨λr b k a=>?_,λr b k a=>?_,λr b=>?_,λr=>?_⟩
 ·unfold wSt;rw[kag b,qqD,h.lo r b k a];rfl
 ·unfold wSt at a;rw[kag b,qqD,kcw]at a;rcases a with a|a
  ·exact h.hi r b k a
  simp only[ka2,kbQ]at a;obtain⟨c,rfl⟩:∃c,k=c+1:=⟨k-1,by omega⟩
  rw[kct]at a;rw[wdB,a.2.2,h.hi r b c a.2.1];simp
 ·unfold wSt;rw[kac (by omega)];exact h.off r b
 unfold wSt;by_cases b:r<n
 ·rw[kag b];exact qzx (d r) (h.lt r)
 rw[kac b];exact h.lt r
theorem Mid.done{P st:Nat->Nat}(h:Mid P st n X)(e:∀r,r<n->w1 (st r) (X r)=X r):∀r,r<n->∀k,(X r).testBit k=wdB (st r) (P r) k:=by
 intro r b k;have i:∀k,wdB (st r) (P r) k=true->(X r).testBit k=true:=by
  intro k
  induction k with
  |zero=>exact λa=>h.lo r b 0 a
  |succ k g =>
   intro a;rw[wdB,kcw]at a;rcases a with a|a
   ·exact h.lo r b _ a
   rw[ka2]at a;have d:(w1 (st r) (X r)).testBit (k+1)=(X r).testBit (k+1):=by rw[e r b]
   rw[qqD,kct,g a.2,a.1]at d;rw[<-d];simp
 cases c:(X r).testBit k with
 |true=>exact(h.hi r b k c).symm
 |false =>
  cases f:wdB (st r) (P r) k with
  |true=>rw[i k f]at c;cases c
  |false=>rfl
def qmY(X:Nat->Nat):Nat->Nat
 |0=>0
 |n+1=>qmY X n+X n
theorem qjl(h:∀r,X r<512):∀n,qmY X n<=n*512
 |0=>kaf _
 |n+1=>by have:=qjl h n;have:=h n;unfold qmY;omega
theorem qln(h:∀r,X r<=Y r):∀n,qmY X n<=qmY Y n
 |0=>kaf _
 |n+1=>by have:=qln h n;have:=h n;unfold qmY;omega
theorem qph(h:∀r,X r<=Y r):∀n r,r<n->X r<Y r->qmY X n<qmY Y n
 |0,_,hr,_=>absurd hr (by omega)
 |n+1,r,hr,hl=>by
  unfold qmY;by_cases e:r=n
  ·subst e;have:=qln h r;omega
  have:=qph h n r (by omega) hl;have:=h n;omega
theorem qxS(h:∀r,r<16->X r=Y r):plA X=plA Y:=by
 unfold plA;congr 1;apply kdJ;intro r a;rw[h r (by simpa using a)]

end
end Go.Proofs.YtmajcjammmjimaaGreatDoor
