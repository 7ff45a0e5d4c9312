import Derived.Laws.ResultCell
import Derived.Deep.OwnRows
import Derived.Test.YtpifimohecagoaaGreatDoorPq00
set_option maxRecDepth 100000
set_option maxHeartbeats 8000000
namespace Go.Proofs.YtpifimohecagoaaGreatDoor
open Go.Proofs.Tryz
variable{a b i j k n:Nat}{W w:World}{arr:Array Value}{M m m':Nat->Nat->Bool}{L:List (Int×Int)}{S:Nat->Bool}
section
open Go.RowKit
theorem qeH(w:World)(g i:Nat)(cs:Array Value)(h:i≠g):(w.setRow g cs).heap[i]?=w.heap[i]?:=setRow_other w g i cs h
theorem qah{B:Nat}{a:World}(h:Below B a w){g:Nat}(b:B<=g)(cs:Array Value):Below B a (w.setRow g cs) :=
 h.trans ⟨rfl,rfl,rfl,by simp,λk c=>setRow_other w g k cs (by omega)⟩
structure qeO(w W:World)(arr:Array Value)(n:Nat)(M:Nat->Nat->Bool):Prop where
 below:Below w.heap.size w W
 box:W.heap[w.heap.size]?=some (.cells arr 67)
 res:W.heap[w.heap.size+1]?=some (.cells qaI 67)
 own:W.heap[w.heap.size+1+1]?=some (.cells (qaq n M) 67)
theorem qqV(w:World)(arr:Array Value)(n:Nat):qeO w ((((w.alloc (.cells arr 67)).alloc (.cells qaI 67)).alloc (.cells qaI 67)).setRow (w.heap.size+1+1) (qaq n λ_ _=>false)) arr n (λ_ _=>false):=by
 refine⟨qah (((bwA).alloc (by simp) _).alloc (by simp;omega) _) (by omega) _,?_,?_,?_⟩
 ·rw[qeH _ _ _ _ (by omega),Below.heap_alloc _ _ _ (by simp;omega),Below.heap_alloc _ _ _ (by simp)];exact qac w _
 ·rw[qeH _ _ _ _ (by omega),Below.heap_alloc _ _ _ (by simp)];have:=qac (w.alloc (.cells arr 67)) (.cells qaI 67);rwa[World.size_alloc]at this
 refine setRow_heap _ _ qaI _ 67 (0,0) ?_;have:=qac ((w.alloc (.cells arr 67)).alloc (.cells qaI 67)) (.cells qaI 67);rwa[World.size_alloc,World.size_alloc]at this
theorem qeO.set(h:qeO w W arr n M)(hi:i<6)(a:j<6)(b:Bool):qeO w (W.setCell ⟨w.heap.size+1+1,1+i*6+j,none⟩ (.bool b)) arr n (upd M i j b) :=
 ⟨h.below.setCell (by simp;omega) _,(heap_setCell_other W _ _ _ (by simp;omega)).trans h.box,(heap_setCell_other W _ _ _ (by simp)).trans h.res,
  by rw[heap_setCell_same W _ _ _ _ _ h.own,qhY n M i j b hi a]⟩
theorem qeO.drew(h:qeO w W arr n M):qeO w W.drew arr n M:=⟨h.below.drew,h.box,h.res,h.own⟩
def trM(n:Nat)(m:Nat->Nat->Bool)(k q:Nat):Nat->Nat->Bool:=λi j=>decide (j<n/\(i<k\/(i=k/\j<q)))&&m j i
theorem qs7(n:Nat)(m:Nat->Nat->Bool):trM n m 0 0=λ_ _=>false:=by
 funext i j;simp[trM]
theorem qsE(n:Nat)(m:Nat->Nat->Bool)(k q:Nat)(a:q<n):upd (trM n m k q) k q (m q k)=trM n m k (q+1):=by
 funext i j;unfold upd trM;by_cases h:i=k/\j=q
 ·obtain⟨rfl,rfl⟩:=h;simp[a]
 rw[if_neg h];congr 1;exact decide_eq_decide.2 (by omega)
theorem qwZ(n:Nat)(m:Nat->Nat->Bool)(k:Nat):trM n m k n=trM n m (k+1) 0:=by
 funext i j;unfold trM;congr 1;exact decide_eq_decide.2 (by omega)
theorem qzg(n:Nat)(m:Nat->Nat->Bool)(i j:Nat)(hi:i<n)(a:j<n):trM n m n 0 i j=m j i:=by
 unfold trM;rw[decide_eq_true (by omega),Bool.true_and]
theorem qov(arr:Array Value)(n:Nat)(m:Nat->Nat->Bool)(H:qkt arr n m)(E:n<=6)(w:World):Calls prog 73 #[.agg arr] w λe A=>e=.returned (.agg (qaq n (trM n m n 0)))/\Below w.heap.size w A:=by
 have l:=qab H.at_;have j:=H.count;have f:=qqV w arr n;have p:Hid ((((w.alloc (.cells arr 67)).alloc (.cells qaI 67)).alloc (.cells qaI 67)).heap[w.heap.size+1+1]?=some (.cells qaI 67)):=by
  have:=qac ((w.alloc (.cells arr 67)).alloc (.cells qaI 67)) (.cells qaI 67);rw[World.size_alloc,World.size_alloc]at this;exact this
 have s:Hid (qaI.size=(qaq n λ_ _=>false).size):=by rw[qae];exact qae _ _
 generalize hW:(((w.alloc (.cells arr 67)).alloc (.cells qaI 67)).alloc (.cells qaI 67)).setRow (w.heap.size+1+1) (qaq n λ_ _=>false)=W at f;have o:Hid (_=W):=hW;have u:=(qaa f.box 0).trans j;have r:=qab f;go_enter func73,ntmps73
 go_wp2_with(first
  |(refine qas rfl rfl _ rfl (w.heap.size+1) ?hN ?_;case hN=>(simp only[World.size_alloc];done))
  |(refine qas rfl rfl _ rfl (w.heap.size+1+1) ?hN ?_;case hN=>(simp only[World.size_alloc];done))
  |(refine qal rfl 67 _ rfl _ rfl _ [(0,.int .i64 n)] ?hl (qjG n) ?_;case hl=>simp[go_sem])
  |(refine wpList_store_row rfl 67 _ _ rfl _ _ rfl rfl 67 qaI p.out (qat (qae _ _)) s.out (qa8 _ _) ?_;rw[o.out]))
 go_loopg[11,4] n (λg x y wr=>∃k:Nat,Hid (k+g=n)/\x=.int .i64 k/\Hid (qeO w wr arr n (trM n m k 0)))
 case atStart=>exact⟨0,by show _=_;omega,rfl,by rw[qs7];exact r⟩
 case round =>
  obtain⟨k,c,rfl,a⟩:=hrel;have u:=(qaa a.out.box 0).trans j
  cases gk with
  |zero =>
   have v:¬(k:Int)<n:=by have:=c.out;omega
   have e:k=n:=by have:=c.out;omega
   subst e
   go_wp2_with(first
    |(refine wpList_load_row rfl 67 _ rfl _ rfl _ _ _ _ a.out.own underlying67 rfl (qat (qae _ _)) ?_)
    |(refine wpList_store_row rfl 67 _ _ rfl _ _ rfl rfl 67 qaI a.out.res (qat (qae _ _)) (by rw[qae];exact qae _ _) (qa8 _ _) ?_))
   refine bodyPost_ret (results_cell_row results73 _ _ (w.heap.size+1) 67 (qaq k (trM k m k 0)) (0,0) _ rfl (setRow_heap _ _ qaI _ _ _ a.out.res) underlying67 rfl (qat (qae _ _))) rfl ⟨rfl,qah a.out.below (by omega) _⟩
  |succ g =>
   have v:(k:Int)<n:=by have:=c.out;omega
   have h:k<6:=by omega
   go_wp2
   go_loopg[16,5] n (λg x y wr=>∃q:Nat,Hid (q+g=n)/\x=.int .i64 q/\Hid (qeO w wr arr n (trM n m k q)))
   case atStart=>exact⟨0,by show _=_;omega,rfl,a⟩
   case round =>
    obtain⟨q,d,rfl,b⟩:=hrel
    cases gk with
    |zero =>
     have z:¬(q:Int)<n:=by have:=d.out;omega
     go_wp2;go_roundg g
     case measure=>omega
     case rel =>
      have e:q=n:=by have:=d.out;omega
      exact⟨k+1,by show _=_;have:=c.out;omega,by go_num,by have:=b.out;rw[e,qwZ]at this;exact this⟩
    |succ t =>
     have z:(q:Int)<n:=by have:=d.out;omega
     have i:q<6:=by omega
     have B:=(qaa b.out.box _).trans (l.out q k i h);have C:=(qaa b.out.own _).trans ((qay n (trM n m k q)).at_ k q h i);have D:=frozen_of_row wr (w.heap.size+1+1) (1+k*6+q) _ _ b.out.own;go_wp2
     go_region
     all_goals go_wp2
     go_roundg t
     case measure=>omega
     case rel=>exact⟨q+1,by show _=_;have:=d.out;omega,by go_num,by have:=(b.out.set h i (m q k)).drew;rw[qsE n m k q (by omega)]at this;exact this⟩

def qfp(n:Nat)(m:Nat->Nat->Bool)(a b:Nat):Bool:=qa4 n m a b&&qa4 n (λi j=>m j i) a b
def qa9(n:Nat)(m:Nat->Nat->Bool):Bool:=(List.range n).all λa=>(List.range a).all λb=>qfp n m a b
theorem qf8(c:a<n)(d:b<a)(h:qfp n m a b=false):qa9 n m=false:=by
 unfold qa9;rw[List.all_eq_false];refine⟨a,List.mem_range.2 c,?_⟩;rw[Bool.not_eq_true,List.all_eq_false];exact⟨b,List.mem_range.2 d,by rw[h];decide⟩
theorem qjn(h:∀a b,a<n->b<a->qfp n m a b=true):qa9 n m=true:=by
 unfold qa9;rw[List.all_eq_true];intro a c;rw[List.all_eq_true];intro b d;exact h a b (List.mem_range.1 c) (List.mem_range.1 d)
theorem qhw(h:∀i j,i<n->j<n->m i j=m' i j)(d:a<n)(e:b<n)(c:k<n):ubB m a b k=ubB m' a b k:=by
 unfold ubB;rw[h a k d c,h b k e c]
theorem qfF(h:∀i j,i<n->j<n->m i j=m' i j)(e:a<n)(f:b<n)(l:k<n):qaS n m a b k=qaS n m' a b k:=by
 unfold qaS;rw[qhw h e f l];congr 1;rw[Bool.eq_iff_iff,List.all_eq_true,List.all_eq_true];constructor
 ·intro g j c;have d:=List.mem_range.1 c;rw[<-qhw h e f d,<-h k j l d];exact g j c
 intro g j c;have d:=List.mem_range.1 c;rw[qhw h e f d,h k j l d];exact g j c
theorem qcE(h:∀i j,i<n->j<n->m i j=m' i j)(d:a<n)(e:b<n):qa4 n m a b=qa4 n m' a b:=by
 unfold qa4;rw[Bool.eq_iff_iff,List.any_eq_true,List.any_eq_true];constructor
 ·rintro⟨k,c,g⟩;exact⟨k,c,by rw[<-qfF h d e (List.mem_range.1 c)];exact g⟩
 rintro⟨k,c,g⟩;exact⟨k,c,by rw[qfF h d e (List.mem_range.1 c)];exact g⟩
theorem qi3(arr:Array Value)(n:Nat)(m:Nat->Nat->Bool)(H:qkt arr n m)(B:n<=6)(w:World):Calls prog 60 #[.agg arr] w λe w'=>e=.returned (.bool (qa9 n m))/\Below w.heap.size w w':=by
 have Z:=H.count;have Q:=qab H;have v:=qab (qat H.size);clear H;have z:=qab (qac w (.cells arr 67));have N:=qab ((Below.refl w.heap.size w).alloc (Nat.le_refl _) (.cells arr 67));have T:=qov arr n m Q.out B (w.alloc (.cells arr 67));go_enter func60,ntmps60
 go_wp2_with(first
  |(refine wpList_load_row rfl 67 _ rfl _ rfl _ arr _ _ z.out underlying67 rfl v.out ?_)
  |(go_at_call 73;refine T.mono ?_;clear T;rintro e c ⟨rfl,s⟩;have D:=s.size;rw[World.size_alloc]at D)
  |(refine qas rfl rfl _ rfl c.heap.size rfl ?_)
  |(refine wpList_store_row rfl 67 _ _ rfl _ _ rfl rfl 67 qaI (qac c _) (qat (qae _ _)) (by rw[qae];exact qae _ _) (qa8 _ _) ?_;rw[World.setRow_alloc_new];have y:(c.alloc (.cells (qaq n (trM n m n 0)) 67)).cell? ⟨w.heap.size,0,none⟩=some (.int .i64 n):=(qaa ((Below.heap_alloc _ _ _ (by omega)).trans ((s.block _ (by simp)).trans z.out)) 0).trans Z))
 have V:Hid ((c.alloc (.cells (qaq n (trM n m n 0)) 67)).heap[w.heap.size]?=some (.cells arr 67)):=(Below.heap_alloc _ _ _ (by omega)).trans ((s.block _ (by simp)).trans z.out);have W:Hid ((c.alloc (.cells (qaq n (trM n m n 0)) 67)).heap[c.heap.size]?=some (.cells (qaq n (trM n m n 0)) 67)):=qac _ _;have X:Hid ((c.alloc (.cells (qaq n (trM n m n 0)) 67)).heap.size=c.heap.size+1):=by show _=_;simp
 have F:Hid (Below w.heap.size w (c.alloc (.cells (qaq n (trM n m n 0)) 67))):=(N.out.trans (s.mono (by simp))).alloc (by omega) _;clear y s z N;generalize c.alloc (.cells (qaq n (trM n m n 0)) 67)=W3 at *;have l:Hid (w.heap.size<c.heap.size):=by show _<_;omega
 generalize c.heap.size=N3 at *
 go_loopg[10,4] n (λg x ad wr=>∃k:Nat,Hid (k+g=n)/\x=.int .i64 k/\Below (N3+1) W3 wr/\Hid (∀a b,a<k->b<a->qfp n m a b=true))
 case atStart=>exact⟨0,by show _=_;omega,rfl,Below.refl _ _,λa b U=>by omega⟩
 case round =>
  obtain⟨k,A,rfl,d,P⟩:=hrel
  cases gk with
  |zero =>
   have aa:¬(k:Int)<n:=by have:=A.out;omega
   go_wp2;go_ret;exact⟨by rw[qjn (λa b U t=>P.out a b (by have:=A.out;omega) t)];rfl,F.out.trans (d.mono (by have:=l.out;omega))⟩
  |succ g =>
   have aa:(k:Int)<n:=by have:=A.out;omega
   have L:k<6:=by omega
   go_wp2
   go_loopg[14,5] k (λg x ad wr=>∃q:Nat,Hid (q+g=k)/\x=.int .i64 q/\Below (N3+1) W3 wr/\Hid (∀b,b<q->qfp n m k b=true))
   case atStart=>exact⟨0,by show _=_;omega,rfl,d,λb t=>by omega⟩
   case round =>
    clear d;obtain⟨q,C,rfl,d,R⟩:=hrel
    cases gk with
    |zero =>
     have ab:¬(q:Int)<k:=by have:=C.out;omega
     go_wp2;go_roundg g
     case measure=>omega
     case rel =>
      refine⟨k+1,by show _=_;have:=A.out;omega,by go_num,d,λa b U t=>?_⟩;by_cases e:a=k
      ·subst e;exact R.out b (by have:=C.out;omega)
      exact P.out a b (by omega) t
    |succ Y =>
     have ab:(q:Int)<k:=by have:=C.out;omega
     have M:q<6:=by omega
     have I:=qab ((d.block _ (by have:=l.out;omega)).trans V.out);have S:=qab ((d.block _ (by omega)).trans W.out);have D:=d.size;rw[X.out]at D;have h:=qer arr n m Q.out B k q L M wr;have u:Hid (qa4 n (trM n m n 0) k q=qa4 n (λi j=>m j i) k q):=qcE (λi j hi hj=>qzg n m i j hi hj) (by omega) (by omega);cases o:qa4 n m k q
     ·rw[o]at h;have r:Hid (qfp n m k q=false):=by show _=_;unfold qfp;rw[o];rfl
      clear o
      go_wp2_with(first
       |(refine wpList_load_row rfl 67 _ rfl _ rfl _ arr _ _ I.out underlying67 rfl v.out ?_)
       |(go_at_call 74;refine h.mono ?_;clear h;rintro e E ⟨rfl,f⟩))
      go_ret;exact⟨by rw[qf8 (a:=k) (b:=q) (by omega) (by omega) r.out];rfl,F.out.trans ((d.mono (by have:=l.out;omega)).trans (f.mono (by have:=l.out;omega)))⟩
     rw[o]at h;have O:=qab o;clear o;cases p:qa4 n (λi j=>m j i) k q
     ·have r:Hid (qfp n m k q=false):=by show _=_;unfold qfp;rw[p,O.out];rfl
      have G:=qab (u.out.trans p);clear p u
      go_wp2_with(first
       |(refine wpList_load_row rfl 67 _ rfl _ rfl _ arr _ _ I.out underlying67 rfl v.out ?_)
       |(go_at_call 74;refine h.mono ?_;clear h;rintro e E ⟨rfl,f⟩;have c2:=qer _ n _ (qay n (trM n m n 0)) B k q L M E;rw[G.out]at c2;have J:=qab ((f.block _ (by omega)).trans S.out))
       |(refine qaf 67 _ rfl rfl _ rfl _ _ _ _ J.out underlying67 rfl (qat (qae _ _)) ?_)
       |(go_at_call 74;refine c2.mono ?_;clear c2;rintro e w5 ⟨rfl,K⟩))
      go_ret;have ac:=f.size;exact⟨by rw[qf8 (a:=k) (b:=q) (by omega) (by omega) r.out];rfl,F.out.trans ((d.mono (by have:=l.out;omega)).trans ((f.mono (by have:=l.out;omega)).trans (K.mono (by have:=l.out;omega))))⟩
     have r:Hid (qfp n m k q=true):=by show _=_;unfold qfp;rw[p,O.out];rfl
     have G:=qab (u.out.trans p);clear p u
     go_wp2_with(first
      |(refine wpList_load_row rfl 67 _ rfl _ rfl _ arr _ _ I.out underlying67 rfl v.out ?_)
      |(go_at_call 74;refine h.mono ?_;clear h;rintro e E ⟨rfl,f⟩;have c2:=qer _ n _ (qay n (trM n m n 0)) B k q L M E;rw[G.out]at c2;have J:=qab ((f.block _ (by omega)).trans S.out))
      |(refine qaf 67 _ rfl rfl _ rfl _ _ _ _ J.out underlying67 rfl (qat (qae _ _)) ?_)
      |(go_at_call 74;refine c2.mono ?_;clear c2;rintro e w5 ⟨rfl,K⟩))
     have ac:=f.size;go_roundg Y
     case measure=>omega
     case rel =>
      refine⟨q+1,by show _=_;have:=C.out;omega,by go_num,d.trans ((f.mono D).trans (K.mono (by omega))),λb t=>?_⟩;by_cases e:b=q
      ·subst e;exact r.out
      exact R.out b (by omega)

def fst(n k:Nat)(m:Nat->Nat->Bool)(l h:Nat):Nat->Nat->Bool:=λi j=>m i j||(decide (j<n/\(i<l\/(i=l/\j<h)))&&(m i k&&m k j))
def qj3(n:Nat):Nat->(Nat->Nat->Bool)->Nat->Nat->Bool
 |0,m=>m
 |k+1,m=>fst n k (qj3 n k m) n 0
theorem qs1(n k:Nat)(m:Nat->Nat->Bool):fst n k m 0 0=m:=by
 funext i j;simp[fst]
theorem qvq(n k:Nat)(m:Nat->Nat->Bool)(l:Nat):fst n k m l n=fst n k m (l+1) 0:=by
 funext i j;unfold fst;congr 2;exact decide_eq_decide.2 (by omega)
theorem qru(n k:Nat)(m:Nat->Nat->Bool)(l h i:Nat):fst n k m l h i k=m i k:=by
 unfold fst;cases m i k<;>simp
theorem qmT(n k:Nat)(m:Nat->Nat->Bool)(l h j:Nat):fst n k m l h k j=m k j:=by
 unfold fst;cases m k j<;>simp
theorem qwY(n k:Nat)(m:Nat->Nat->Bool)(l h:Nat)(d:h<n)(a:m l k=true)(b:m k h=true):upd (fst n k m l h) l h true=fst n k m l (h+1):=by
 funext i j;unfold upd fst;by_cases c:i=l/\j=h
 ·obtain⟨rfl,rfl⟩:=c;simp[d,a,b]
 rw[if_neg c];congr 2;exact decide_eq_decide.2 (by omega)
theorem quo(n k:Nat)(m:Nat->Nat->Bool)(l h:Nat)(e:(m l k&&m k h)=false):fst n k m l h=fst n k m l (h+1):=by
 funext i j;unfold fst;by_cases c:i=l/\j=h
 ·obtain⟨rfl,rfl⟩:=c;rw[e];simp
 congr 2;exact decide_eq_decide.2 (by omega)
structure qbv(w W:World)(b n:Nat)(M:Nat->Nat->Bool):Prop where
 below:Below b w W
 own:W.heap[b]?=some (.cells (qaq n M) 67)
theorem qbv.set(h:qbv w W b n M)(hi:i<6)(a:j<6)(v:Bool):qbv w (W.setCell ⟨b,1+i*6+j,none⟩ (.bool v)) b n (upd M i j v) :=
 ⟨h.below.setCell (Nat.le_refl _) _,by rw[heap_setCell_same W _ _ _ _ _ h.own,qhY n M i j v hi a]⟩
theorem qbv.count(h:qbv w W b n M):W.cell? ⟨b,0,none⟩=some (.int .i64 n):=(qaa h.own 0).trans (qay n M).count
theorem qbv.at_(h:qbv w W b n M)(hi:i<6)(a:j<6):W.cell? ⟨b,1+i*6+j,none⟩=some (.bool (M i j)):=(qaa h.own _).trans ((qay n M).at_ i j hi a)
theorem qbv.frozen(h:qbv w W b n M)(j:Nat):W.frozen? ⟨b,j,none⟩=false:=frozen_of_row W b j _ _ h.own
theorem qbv.drew(h:qbv w W b n M):qbv w W.drew b n M:=⟨h.below.drew,h.own⟩
theorem qoD(b n:Nat)(m:Nat->Nat->Bool)(L:n<=6)(w:World)(I:w.heap[b]?=some (.cells (qaq n m) 67)):Calls prog 72 #[.pointer (some ⟨b,0,none⟩)] w λe J=>e=.returned (.tuple #[])/\qbv w J b n (qj3 n n m):=by
 have v:Hid (qbv w w b n (qj3 n 0 m)):=⟨Below.refl _ _,I⟩
 have z:=v.out.count;go_enter func72,ntmps72;go_wp2
 go_loopg[9,2] n (λg x y wr=>∃k:Nat,Hid (k+g=n)/\x=.int .i64 k/\Hid (qbv w wr b n (qj3 n k m)))
 case atStart=>exact⟨0,by show _=_;omega,rfl,v⟩
 case round =>
  obtain⟨k,i,rfl,p⟩:=hrel;have z:=p.out.count
  cases gk with
  |zero =>
   have H:¬(k:Int)<n:=by have:=i.out;omega
   go_wp2;go_end0;have e:k=n:=by have:=i.out;omega
   exact⟨rfl,by have:=p.out;rw[e]at this;exact this⟩
  |succ g =>
   have H:(k:Int)<n:=by have:=i.out;omega
   have A:k<6:=by omega
   go_wp2
   go_loopg[16,3] n (λg x y wr=>∃l:Nat,Hid (l+g=n)/\x=.int .i64 l/\Hid (qbv w wr b n (fst n k (qj3 n k m) l 0)))
   case atStart=>exact⟨0,by show _=_;omega,rfl,by rw[qs1];exact p⟩
   case round =>
    obtain⟨l,j,rfl,q⟩:=hrel;have z:=q.out.count
    cases gk with
    |zero =>
     have G:¬(l:Int)<n:=by have:=j.out;omega
     go_wp2;go_roundg g
     case measure=>omega
     case rel =>
      have e:l=n:=by have:=j.out;omega
      exact⟨k+1,by show _=_;have:=i.out;omega,by go_num,by have:=q.out;rw[e]at this;exact this⟩
    |succ E =>
     have G:(l:Int)<n:=by have:=j.out;omega
     have u:l<6:=by omega
     go_wp2
     go_loopg[23,4] n (λg x y wr=>∃h:Nat,Hid (h+g=n)/\x=.int .i64 h/\Hid (qbv w wr b n (fst n k (qj3 n k m) l h)))
     case atStart=>exact⟨0,by show _=_;omega,rfl,q⟩
     case round =>
      obtain⟨h,c,rfl,a⟩:=hrel
      cases gk with
      |zero =>
       have F:¬(h:Int)<n:=by have:=c.out;omega
       go_wp2;go_roundg E
       case measure=>omega
       case rel =>
        have e:h=n:=by have:=c.out;omega
        exact⟨l+1,by show _=_;have:=j.out;omega,by go_num,by have:=a.out;rw[e,qvq]at this;exact this⟩
      |succ s =>
       have F:(h:Int)<n:=by have:=c.out;omega
       have t:h<6:=by omega
       have r:=a.out.at_ u A;have c2:=a.out.at_ A t;have D:=a.out.at_ u t;have K:=a.out.frozen (1+l*6+h);rw[qru]at r;rw[qmT]at c2;generalize hM:qj3 n k m=M at *;cases d:M l k
       ·rw[d]at r;have o:Hid ((M l k&&M k h)=false):=by show _=_;rw[d];rfl
        go_wp2;go_roundg s
        case measure=>omega
        case rel=>exact⟨h+1,by show _=_;have:=c.out;omega,by go_num,by have:=a.out;rw[quo n k M l h o.out]at this;exact this⟩
       rw[d]at r;cases f:M k h
       ·rw[f]at c2;have o:Hid ((M l k&&M k h)=false):=by show _=_;rw[d,f];rfl
        go_wp2;go_roundg s
        case measure=>omega
        case rel=>exact⟨h+1,by show _=_;have:=c.out;omega,by go_num,by have:=a.out;rw[quo n k M l h o.out]at this;exact this⟩
       rw[f]at c2;have B:=qab d;have C:=qab f;generalize hV:fst n k M l h l h=v0 at D;go_wp2;go_roundg s
       case measure=>omega
       case rel=>exact⟨h+1,by show _=_;have:=c.out;omega,by go_num,by have:=a.out.set u t true;rw[qwY n k M l h (by omega) B.out C.out]at this;exact this⟩

theorem qap{P:Program}{fn:Func}{p u:Tmp}{ty:TypeId}(h:fn.results=#[.cell p ty,.tmp u])(a:Array Value)(w:World)(g:Nat)(t:TypeId)(cs:Array Value)(b:Nat×Nat)(d:TypeDesc)(f:a.getD p undef=.pointer (some ⟨g,0,none⟩))(e:w.heap[g]?=some (.cells cs t b))(i:P.underlying ty=some d)(c:(match d with|.struct _|.array _ _=>true|_=>false)=true)(hi:(P.info? ty).map (·.size)=some cs.size)(v:Value)(j:a.getD u undef=v):(results fn a).run P w=.ok (.tuple #[.agg cs,v]) w:=by
 subst j;rw[results_cell_tmp h,f];simp only[asAddr,Sem.run_pure,Result.andThen_ok,run_loadVar_row w g t ty cs b d e i c hi]
structure qba(w:World)(a:Option Addr)(L:List (Int×Int)):Prop where
 at_:∀i (h:i<L.length),∃b off,a=some ⟨b,off,none⟩/\b<w.heap.size/\w.cell? ⟨b,off+i*2,none⟩=some (.int .i64 L[i].1)/\w.cell? ⟨b,off+i*2+1,none⟩=some (.int .i64 L[i].2)
theorem qba.below{w':World}{a:Option Addr}(h:qba w a L)(c:Below w.heap.size w w'):qba w' a L :=
 ⟨λi j=>by
  obtain⟨b,off,g,d,e,f⟩:=h.at_ i j;exact⟨b,off,g,Nat.lt_of_lt_of_le d c.size,(c.cell (p:=⟨b,_,none⟩) d).trans e,(c.cell (p:=⟨b,_,none⟩) d).trans f⟩⟩
def qc9(n:Nat)(e:Int×Int):Bool:=qbM n e.1&&qbM n e.2 && !(e.1==e.2)
def qq7(k:Nat):Nat->Nat->Bool:=λi j=>decide (i=j/\i<k)
theorem qpj(k:Nat):upd (qq7 k) k k true=qq7 (k+1):=by
 funext i j;unfold upd qq7;by_cases c:i=k/\j=k
 ·obtain⟨rfl,rfl⟩:=c;simp
 rw[if_neg c];exact decide_eq_decide.2 (by omega)
theorem qpF:qq7 0=λ_ _=>false:=by funext i j;simp[qq7]
def qoP(m:Nat->Nat->Bool)(e:Int×Int):Nat->Nat->Bool:=upd m e.1.toNat e.2.toNat true
def qe5(n:Nat)(L:List (Int×Int)):Nat->Nat->Bool:=L.foldl qoP (qq7 n)
theorem qo2(n:Nat)(L:List (Int×Int))(k:Nat)(h:k<L.length):qe5 n (L.take (k+1))=qoP (qe5 n (L.take k)) L[k]:=by
 unfold qe5;rw[List.take_succ_eq_append_getElem h,List.foldl_append];rfl
def qaV(n:Nat)(L:List (Int×Int)):Bool:=L.all (qc9 n)
theorem qcJ(h:k<L.length)(e:qc9 n L[k]=false):qaV n L=false:=by
 unfold qaV;rw[List.all_eq_false];exact⟨L[k],List.getElem_mem h,by rw[e];decide⟩
theorem qic(h:∀k (h:k<L.length),qc9 n L[k]=true):qaV n L=true:=by
 unfold qaV;rw[List.all_eq_true];intro x b;obtain⟨k,a,rfl⟩:=List.getElem_of_mem b;exact h k a
def qbD(c:Int)(L:List (Int×Int)):Bool:=decide (1<=c/\c<=6/\L.length<=30)&&qaV c.toNat L
def qcL(n:Nat)(L:List (Int×Int)):Nat->Nat->Bool:=qj3 n n (qe5 n L)
def qyw(n:Nat)(L:List (Int×Int)):Value:=if qaV n L then .tuple #[.agg (qaq n (qcL n L)),.bool true]else .tuple #[.agg qaI,.bool false]
theorem qiM(h:qaV n L=false):qyw n L=.tuple #[.agg qaI,.bool false]:=by unfold qyw;rw[h];rfl
theorem qmH(h:qaV n L=true):qyw n L=.tuple #[.agg (qaq n (qcL n L)),.bool true]:=by unfold qyw;rw[h];rfl
theorem qbv.trans{W':World}(h:qbv w W b n M)(k:Below W.heap.size W W'):qbv w W' b n M:=by
 have a:b<W.heap.size:=ltA h.own;exact⟨h.below.trans (k.mono (by omega)),(k.block b a).trans h.own⟩
theorem qbv.lt(h:qbv w W b n M):b<W.heap.size:=ltA h.own
theorem qbv.alloc(h:qbv w W b n M)(o:Obj):qbv w (W.alloc o) b n M:=h.trans ((Below.refl _ _).alloc (Nat.le_refl _) o)
theorem qxr(c:Int)(L:List (Int×Int))(a:Option Addr)(f:Nat)(i:L.length<=maxLen)(w:World)(j:¬(1<=c/\c<=6/\L.length<=30)):Calls prog 57 #[.int .i64 c,.slice a L.length f] w λe l=>e=.returned (.tuple #[.agg qaI,.bool false])/\Below w.heap.size w l:=by
 unfold maxLen at i;have b:Hid ((w.alloc (.cells qaI 67)).heap[w.heap.size]?=some (.cells qaI 67)):=qac _ _;have d:Hid (qaI.size=qaI.size):=rfl;have k:c<1\/(1<=c/\6<c)\/(1<=c/\c<=6/\(30:Int)<L.length):=by omega
 clear j;rcases k with h|⟨h,g⟩|⟨h,g,m⟩
 all_goals
  go_enter func57,ntmps57
  go_wp2_with(first
   |(refine qas rfl rfl _ rfl w.heap.size rfl ?_)
   |(refine qal rfl 67 _ rfl _ rfl _ [] ?hl qbP ?_;case hl=>simp)
   |(refine wpList_store_row rfl 67 _ _ rfl _ _ rfl rfl 67 qaI b.out (qat (qae _ _)) d.out (qa8 _ _) ?_;rw[World.setRow_alloc_new]))
  refine bodyPost_ret (qap results57 _ _ w.heap.size 67 qaI (0,0) _ rfl b.out underlying67 rfl (qat (qae _ _)) (.bool false) rfl) rfl ⟨rfl,bwA⟩
theorem qtw(w:World)(n:Nat):qbv (w.alloc (.cells qaI 67)) (((w.alloc (.cells qaI 67)).alloc (.cells qaI 67)).setRow (w.heap.size+1) (qaq n λ_ _=>false)) (w.heap.size+1) n (qq7 0):=by
 refine⟨qah ((Below.refl _ _).alloc (by simp) _) (Nat.le_refl _) _,?_⟩;rw[qpF];refine setRow_heap _ _ qaI _ 67 (0,0) ?_;have:=qac (w.alloc (.cells qaI 67)) (.cells qaI 67);rwa[World.size_alloc]at this
theorem qut(n:Nat)(h1:1<=n)(hn:n<=6)(L:List (Int×Int))(a:Option Addr)(ab:Nat)(hL:L.length<=30)(w:World)(U:qba w a L):Calls prog 57 #[.int .i64 n,.slice a L.length ab] w λe w'=>e=.returned (qyw n L)/\Below w.heap.size w w':=by
 have HE:Hid (qba w a L):=U;clear U;have d:Hid ((w.alloc (.cells qaI 67)).heap[w.heap.size]?=some (.cells qaI 67)):=qac _ _;have P:Hid (((w.alloc (.cells qaI 67)).alloc (.cells qaI 67)).heap[w.heap.size+1]?=some (.cells qaI 67)):=by
  have:=qac (w.alloc (.cells qaI 67)) (.cells qaI 67);rw[World.size_alloc]at this;exact this
 have S:Hid (qaI.size=(qaq n λ_ _=>false).size):=by rw[qae];exact qae _ _
 have H:=qtw w n;have m:Hid (Below w.heap.size w (w.alloc (.cells qaI 67))):=bwA;have ag:Hid ((w.alloc (.cells qaI 67)).heap.size=w.heap.size+1):=by show _=_;simp
 generalize hW:((w.alloc (.cells qaI 67)).alloc (.cells qaI 67)).setRow (w.heap.size+1) (qaq n λ_ _=>false)=W at H;have O:Hid (_=W):=hW;clear hW;have R:Hid (qbv (w.alloc (.cells qaI 67)) W (w.heap.size+1) n (qq7 0)):=H;clear H;go_enter func57,ntmps57
 go_wp2_with(first
  |(refine qas rfl rfl _ rfl w.heap.size rfl ?_)
  |(refine qas rfl rfl _ rfl (w.heap.size+1) ?hN ?_;case hN=>(simp only[World.size_alloc];done))
  |(refine qal rfl 67 _ rfl _ rfl _ [(0,.int .i64 n)] ?hl (qjG n) ?_;case hl=>simp[go_sem])
  |(refine wpList_store_row rfl 67 _ _ rfl _ _ rfl rfl 67 qaI P.out (qat (qae _ _)) S.out (qa8 _ _) ?_;rw[O.out]))
 clear O P S;generalize w.alloc (.cells qaI 67)=W0 at *
 go_loopg[25,7] n (λg x y wr=>∃k:Nat,Hid (k+g=n)/\x=.int .i64 k/\Hid (qbv W0 wr (w.heap.size+1) n (qq7 k)))
 case atStart=>exact⟨0,by show _=_;omega,rfl,R⟩
 case round =>
  clear R;obtain⟨k,C,rfl,o⟩:=hrel
  cases gk with
  |succ g =>
   have b:(k:Int)<n:=by have:=C.out;omega
   have D:k<6:=by omega
   have A:=o.out.at_ D D;have c2:=o.out.frozen (1+k*6+k);generalize qq7 k k k=v0 at A;go_wp2;go_roundg g
   case measure=>omega
   case rel=>exact⟨k+1,by show _=_;have:=C.out;omega,by go_num,by have:=o.out.set D D true;rw[qpj]at this;exact this⟩
  |zero =>
   have b:¬(k:Int)<n:=by have:=C.out;omega
   have e:k=n:=by have:=C.out;omega
   subst e;go_wp2
   go_loopg[36,9] L.length (λg x y wr=>∃q:Nat,Hid (q+g=L.length)/\x=.int .i64 q/\Hid (qbv W0 wr (w.heap.size+1) k (qe5 k (L.take q)))/\Hid (∀i (h:i<L.length),i<q->qc9 k L[i]=true))
   case atStart=>exact⟨0,by show _=_;omega,rfl,o,λi h hi=>by omega⟩
   case round =>
    clear o;obtain⟨q,r,rfl,u,G⟩:=hrel
    cases gk with
    |zero =>
     have ad:¬(q:Int)<L.length:=by have:=r.out;omega
     have HY:Hid (qaV k L=true):=qic (λi h=>G.out i h (by have:=r.out;omega));have Q:Hid (qbv W0 wr (w.heap.size+1) k (qe5 k L)):=by
      have:=u.out;rw[List.take_of_length_le (by have:=r.out;omega)]at this;exact this
     clear u G;have T:=qoD (w.heap.size+1) k (qe5 k L) hn wr Q.out.own
     go_wp2_with(first
      |(go_at_call 72;refine T.mono ?_;clear T;rintro e s ⟨rfl,N⟩;have c:Hid (qbv W0 s (w.heap.size+1) k (qcL k L)):=⟨Q.out.below.trans N.below,N.own⟩;clear N)
      |(refine wpList_load_row rfl 67 _ rfl _ rfl _ _ _ _ c.out.own underlying67 rfl (qat (qae _ _)) ?_)
      |(refine wpList_store_row rfl 67 _ _ rfl _ _ rfl rfl 67 qaI ((c.out.below.block _ (by omega)).trans d.out) (qat (qae _ _)) (by rw[qae];exact qae _ _) (qa8 _ _) ?_))
     refine bodyPost_ret (qap results57 _ _ w.heap.size 67 (qaq k (qcL k L)) (0,0) _ rfl (setRow_heap _ _ qaI _ _ _ ((c.out.below.block _ (by omega)).trans d.out)) underlying67 rfl (qat (qae _ _)) (.bool true) rfl) rfl ⟨by rw[qmH HY.out],qah (m.out.trans (c.out.below.mono (by omega))) (Nat.le_refl _) _⟩
    |succ g =>
     have ad:(q:Int)<L.length:=by have:=r.out;omega
     obtain⟨ah,off,rfl,b,e1,e2⟩:=(HE.out.below (m.out.trans ((u.out.below.mono (by omega))))).at_ q (by omega);have I:Hid ((wr.alloc (.cells #[.int .i64 L[q].1,.int .i64 L[q].2] 40)).heap[wr.heap.size]?=some (.cells #[.int .i64 L[q].1,.int .i64 L[q].2] 40)):=qac _ _;have c:Hid (qbv W0 (wr.alloc (.cells #[.int .i64 L[q].1,.int .i64 L[q].2] 40)) (w.heap.size+1) k (qe5 k (L.take q))):=u.out.alloc _;have f:Hid (qc9 k L[q]=qc9 k (L[q].1,L[q].2)):=rfl;have t:Hid (qe5 k (L.take (q+1))=qoP (qe5 k (L.take q)) (L[q].1,L[q].2)):=qo2 k L q (by omega);have A:=qfg _ k (qay k (qe5 k (L.take q))).count L[q].1 (wr.alloc (.cells #[.int .i64 L[q].1,.int .i64 L[q].2] 40));generalize L[q].1=x at *;generalize L[q].2=y at *;generalize qe5 k (L.take q)=M at *
     go_wp2_with(first
      |(refine wpList_load_row rfl 67 _ rfl _ rfl _ _ _ _ c.out.own underlying67 rfl (qat (qae _ _)) ?_)
      |(refine qaf 67 _ rfl rfl _ rfl _ _ _ _ c.out.own underlying67 rfl (qat (qae _ _)) ?_))
     refine A.mono ?_;clear A;rintro e s ⟨rfl,B⟩;have p:Hid (qbv W0 s (w.heap.size+1) k M):=c.out.trans B;clear c;have c:=p;clear p;have V:=(qaa ((B.block _ (by simp)).trans I.out) 0)
     have X:=(qaa ((B.block _ (by simp)).trans I.out) 1)
     have v:Hid (s.heap[wr.heap.size]?=some (.cells #[.int .i64 x,.int .i64 y] 40)):=(B.block _ (by simp)).trans I.out;have c2:=qfg _ k (qay k M).count y s;cases E:qbM k x
     ·have l:Hid (qaV k L=false):=qcJ (k:=q) (by omega) (by rw[f.out];unfold qc9;rw[E];rfl);clear E t f
      go_wp2_with(first
       |(refine qal rfl 67 _ rfl _ rfl _ [] ?hl qbP ?_;case hl=>simp)
       |(refine wpList_store_row rfl 67 _ _ rfl _ _ rfl rfl 67 qaI ((c.out.below.block _ (by omega)).trans d.out) (qat (qae _ _)) rfl (qa8 _ _) ?_))
      refine bodyPost_ret (qap results57 _ _ w.heap.size 67 qaI (0,0) _ rfl (setRow_heap _ _ qaI _ _ _ ((c.out.below.block _ (by omega)).trans d.out)) underlying67 rfl (qat (qae _ _)) (.bool false) rfl) rfl ⟨by rw[qiM l.out],qah (m.out.trans (c.out.below.mono (by omega))) (Nat.le_refl _) _⟩
     have z:=qab E;clear E
     go_wp2_with(first
      |(refine wpList_load_row rfl 67 _ rfl _ rfl _ _ _ _ c.out.own underlying67 rfl (qat (qae _ _)) ?_)
      |(refine qaf 67 _ rfl rfl _ rfl _ _ _ _ c.out.own underlying67 rfl (qat (qae _ _)) ?_))
     refine c2.mono ?_;clear c2;rintro e w3 ⟨rfl,K⟩;have p:Hid (qbv W0 w3 (w.heap.size+1) k M):=c.out.trans K;clear c;have c:=p;clear p;clear V X;have V:=(qaa ((K.block _ (ltA v.out)).trans v.out) 0)
     have X:=(qaa ((K.block _ (ltA v.out)).trans v.out) 1)
     cases F:qbM k y
     ·have l:Hid (qaV k L=false):=qcJ (k:=q) (by omega) (by rw[f.out];unfold qc9;rw[F,z.out];rfl);clear F t f
      go_wp2_with(first
       |(refine qal rfl 67 _ rfl _ rfl _ [] ?hl qbP ?_;case hl=>simp)
       |(refine wpList_store_row rfl 67 _ _ rfl _ _ rfl rfl 67 qaI ((c.out.below.block _ (by omega)).trans d.out) (qat (qae _ _)) rfl (qa8 _ _) ?_))
      refine bodyPost_ret (qap results57 _ _ w.heap.size 67 qaI (0,0) _ rfl (setRow_heap _ _ qaI _ _ _ ((c.out.below.block _ (by omega)).trans d.out)) underlying67 rfl (qat (qae _ _)) (.bool false) rfl) rfl ⟨by rw[qiM l.out],qah (m.out.trans (c.out.below.mono (by omega))) (Nat.le_refl _) _⟩
     ·have J:Hid (qbM k y=true):=F;clear F;cases aa:(x==y)
      ·have l:Hid (qc9 k L[q]=true):=by show _=_;rw[f.out];unfold qc9;rw[J.out,z.out,aa];rfl
       clear f;obtain⟨ae,ak⟩:0<=x/\x<k:=of_decide_eq_true z.out;obtain⟨af,al⟩:0<=y/\y<k:=of_decide_eq_true J.out
       go_wp2_with(first
     |(refine wpList_load_row rfl 67 _ rfl _ rfl _ _ _ _ c.out.own underlying67 rfl (qat (qae _ _)) ?_)
     |(refine qaf 67 _ rfl rfl _ rfl _ _ _ _ c.out.own underlying67 rfl (qat (qae _ _)) ?_)
     |(refine qal rfl 67 _ rfl _ rfl _ [] ?hl qbP ?_;case hl=>simp)
     |(refine wpList_store_row rfl 67 _ _ rfl _ _ rfl rfl 67 qaI ((c.out.below.block _ (by omega)).trans d.out) (qat (qae _ _)) rfl (qa8 _ _) ?_))
       obtain⟨i,rfl⟩:=Int.eq_ofNat_of_zero_le ae;obtain⟨j,rfl⟩:=Int.eq_ofNat_of_zero_le af;have Y:i<6:=by omega
       have Z:j<6:=by omega
       have ac:=c.out.at_ Y Z;have ai:=c.out.frozen (1+i*6+j);generalize M i j=v0 at ac
       go_region
       all_goals go_wp2
       go_roundg g
       case measure=>omega
       case rel =>
        refine⟨q+1,by show _=_;have:=r.out;omega,by go_num,?_,?_⟩
        ·have:=(c.out.set Y Z true).drew;show qbv _ _ _ _ _;rw[t.out];exact this
        intro i' h' aj;by_cases e:i'=q
        ·subst e;exact l.out
        exact G.out i' h' (by omega)
      ·have l:Hid (qaV k L=false):=qcJ (k:=q) (by omega) (by rw[f.out];unfold qc9;rw[J.out,z.out,aa];rfl);clear t f
       go_wp2_with(first
     |(refine wpList_load_row rfl 67 _ rfl _ rfl _ _ _ _ c.out.own underlying67 rfl (qat (qae _ _)) ?_)
     |(refine qaf 67 _ rfl rfl _ rfl _ _ _ _ c.out.own underlying67 rfl (qat (qae _ _)) ?_)
     |(refine qal rfl 67 _ rfl _ rfl _ [] ?hl qbP ?_;case hl=>simp)
     |(refine wpList_store_row rfl 67 _ _ rfl _ _ rfl rfl 67 qaI ((c.out.below.block _ (by omega)).trans d.out) (qat (qae _ _)) rfl (qa8 _ _) ?_))
       refine bodyPost_ret (qap results57 _ _ w.heap.size 67 qaI (0,0) _ rfl (setRow_heap _ _ qaI _ _ _ ((c.out.below.block _ (by omega)).trans d.out)) underlying67 rfl (qat (qae _ _)) (.bool false) rfl) rfl ⟨by rw[qiM l.out],qah (m.out.trans (c.out.below.mono (by omega))) (Nat.le_refl _) _⟩

end
section
open Go.RowKit Go.Deep
structure qzQ(arr:Array Value)(n:Nat)(L:List (Int×Int))(ea:Option Addr)(ecap:Nat):Prop where
 size:arr.size=11
 f0:arr[0]?=some (.int .i64 n)
 f1:arr[1]?=some (.slice ea L.length ecap)
theorem qaA(h:arr.size=11):(prog.info? 25).map (·.size)=some arr.size:=by rw[h];kernel_rfl
theorem qcQ(arr:Array Value)(n:Nat)(h:arr[0]?=some (.int .i64 n))(a:Int)(w:World):Calls prog 19 #[.agg arr,.int .i64 a] w λe c=>e=.returned (.bool (qbM n a))/\Below w.heap.size w c:=by
 go_enter func19,ntmps19;go_wp2
 all_goals go_ret
 ·exact⟨by simp[qbM, *],bwA⟩
 exact⟨(by have b:¬0<=a:=(by omega);simp[qbM,b]),bwA⟩
def qbG(n:Nat)(S:Nat->Bool):Array Value:=((List.range n).map λk=>.bool (S k)).toArray
theorem qbV(n:Nat)(S:Nat->Bool):(qbG n S).size=n:=by simp[qbG]
theorem qcN(n:Nat)(S:Nat->Bool)(k:Nat)(h:k<n):(qbG n S)[k]?=some (.bool (S k)):=by
 simp only[qbG,List.getElem?_toArray,List.getElem?_map];rw[List.getElem?_range h];rfl
def qkY(S:Nat->Bool)(k:Nat):Nat->Bool:=λx=>if x=k then true else S x
theorem qgK(n:Nat)(S:Nat->Bool)(k:Nat):(qbG n S).setIfInBounds k (.bool true)=qbG n (qkY S k):=by
 apply Array.ext_getElem?;intro i;rw[Array.getElem?_setIfInBounds];by_cases b:i<n
 ·rw[qcN n (qkY S k) i b];by_cases a:k=i
  ·subst a;rw[if_pos rfl,if_pos (by rw[qbV];exact b)];simp[qkY]
  rw[if_neg a,qcN n S i b];have:¬i=k:=λe=>a e.symm;simp[qkY,this]
 have c:(qbG n (qkY S k))[i]?=none:=Array.getElem?_eq_none (by rw[qbV];omega);have d:(qbG n S)[i]?=none:=Array.getElem?_eq_none (by rw[qbV];omega);rw[c,d];by_cases a:k=i
 ·subst a;rw[if_pos rfl,if_neg (by rw[qbV];omega)]
 rw[if_neg a]
theorem qkm(n:Nat):madeCells #[.bool false] n=qbG n λ_=>false:=by
 apply Array.ext_getElem?;intro i;by_cases a:i<n
 ·rw[qcN _ _ _ a];simp[madeCells,a,Nat.mod_one]
 have b:(qbG n λ_=>false)[i]?=none:=Array.getElem?_eq_none (by rw[qbV];omega);rw[b,Array.getElem?_eq_none (by rw[size_madeCells];omega)]
def qhD(S:Nat->Bool)(e:Int×Int):Nat->Bool:=if S e.1.toNat then qkY S e.2.toNat else S
def qbj(L:List (Int×Int))(S:Nat->Bool):Nat->Bool:=L.foldl qhD S
theorem qlY(L:List (Int×Int))(S:Nat->Bool)(k:Nat)(h:k<L.length):qbj (L.take (k+1)) S=qhD (qbj (L.take k) S) L[k]:=by
 unfold qbj;rw[List.take_succ_eq_append_getElem h,List.foldl_append];rfl
def qa2(L:List (Int×Int)):Nat->(Nat->Bool)->Nat->Bool
 |0,S=>S
 |k+1,S=>qbj L (qa2 L k S)
def qaB(a:Nat):Nat->Bool:=qkY (λ_=>false) a
def qbf(n:Nat)(L:List (Int×Int))(a b:Nat):Bool:=qa2 L n (qaB a) b
structure qfR(w W:World)(b n:Nat)(S:Nat->Bool):Prop where
 below:Below b w W
 own:W.heap[b]?=some (.cells (qbG n S) 4)
theorem qfR.set(h:qfR w W b n S)(k:Nat):qfR w (W.setCell ⟨b,k,none⟩ (.bool true)) b n (qkY S k) :=
 ⟨h.below.setCell (Nat.le_refl _) _,by rw[heap_setCell_same W _ _ _ _ _ h.own,qgK]⟩
theorem qfR.at_(h:qfR w W b n S)(a:k<n):W.cell? ⟨b,k,none⟩=some (.bool (S k)):=(qaa h.own k).trans (qcN n S k a)
theorem qfR.frozen(h:qfR w W b n S)(k:Nat):W.frozen? ⟨b,k,none⟩=false:=frozen_of_row W b k _ _ h.own
theorem qws(h:qaV n L=true)(c:k<L.length):∃i j:Nat,i<n/\j<n/\L[k].1=(i:Int)/\L[k].2=(j:Int):=by
 have:=List.all_eq_true.1 h L[k] (List.getElem_mem c);unfold qc9 at this;simp only[Bool.and_eq_true]at this;obtain⟨⟨a,b⟩,_⟩:=this;have d:=of_decide_eq_true a;have e:=of_decide_eq_true b;exact⟨L[k].1.toNat,L[k].2.toNat,by omega,by omega,by omega,by omega⟩
theorem qwC(arr:Array Value)(n:Nat)(L:List (Int×Int))(t:Option Addr)(F:Nat)(H:qzQ arr n L t F)(hn:n<=6)(Y:L.length<=30)(J:qaV n L=true)(a b:Nat)(K:a<n)(M:b<n)(w:World)(I:qba w t L):Calls prog 34 #[.agg arr,.int .i64 a,.int .i64 b] w λe U=>e=.returned (.bool (qbf n L a b))/\Below w.heap.size w U:=by
 have G:=H.f0;have f1:=H.f1;have A:=qab J;have z:=qab I;have S:=λw=>run_make_row' (P:=prog) 134 4 (.bool false) 1 underlying134 (by kernel_rfl) rfl .i64 .i64 n (by omega) (by omega) w;rw[qkm]at S;have r:Hid ((w.alloc (.cells arr 25)).heap[w.heap.size]?=some (.cells arr 25)):=qac _ _;have o:Hid (Below w.heap.size w (w.alloc (.cells arr 25))):=bwA;have V:Hid ((w.alloc (.cells arr 25)).heap.size=w.heap.size+1):=by show _=_;simp
 have B:Hid (qfR (w.alloc (.cells arr 25)) ((w.alloc (.cells arr 25)).alloc (.cells ((qbG n λ_=>false).setIfInBounds a (.bool true)) 4)) (w.heap.size+1) n (qaB a)):=by
  refine⟨(Below.refl _ _).alloc (by simp) _,?_⟩;have:=qac (w.alloc (.cells arr 25)) (.cells ((qbG n λ_=>false).setIfInBounds a (.bool true)) 4);rw[World.size_alloc]at this;rw[this,qgK];rfl
 have Z:=qcN n (λ_=>false) a K;go_enter func34,ntmps34;go_wp2;generalize(w.alloc (.cells arr 25)).alloc (.cells ((qbG n λ_=>false).setIfInBounds a (.bool true)) 4)=W1 at *;generalize w.alloc (.cells arr 25)=W0 at *
 go_loopg[8] n (λg x wr=>∃k:Nat,Hid (k+g=n)/\x=.int .i64 k/\Hid (qfR W0 wr (w.heap.size+1) n (qa2 L k (qaB a))))
 case atStart=>exact⟨0,by show _=_;omega,rfl,B⟩
 case round =>
  obtain⟨k,m,rfl,h⟩:=hrel;have ab:=(qaa ((h.out.below.block _ (by omega)).trans r.out) 0).trans G
  cases gk with
  |zero =>
   have R:¬(k:Int)<n:=by have:=m.out;omega
   have e:k=n:=by have:=m.out;omega
   subst e;have N:=h.out.at_ M;have d:Hid (qa2 L k (qaB a) b=qbf k L a b):=rfl;generalize qa2 L k (qaB a) b=v0 at N d;go_wp2;go_ret;exact⟨by rw[<-d.out];rfl,o.out.trans (h.out.below.mono (by omega))⟩
  |succ g =>
   have R:(k:Int)<n:=by have:=m.out;omega
   go_wp2
   go_loopg[9] L.length (λg x wr=>∃q:Nat,Hid (q+g=L.length)/\x=.int .i64 q/\Hid (qfR W0 wr (w.heap.size+1) n (qbj (L.take q) (qa2 L k (qaB a)))))
   case atStart=>exact⟨0,by show _=_;omega,rfl,h⟩
   case round =>
    obtain⟨q,f,rfl,c⟩:=hrel;have ac:=(qaa ((c.out.below.block _ (by omega)).trans r.out) 1).trans f1
    cases gk with
    |zero =>
     have T:¬(q:Int)<L.length:=by have:=f.out;omega
     go_wp2;go_roundg g
     case measure=>omega
     case rel =>
      refine⟨k+1,by show _=_;have:=m.out;omega,by go_num,?_⟩;have:=c.out;rw[List.take_of_length_le (by have:=f.out;omega)]at this;exact this
    |succ y =>
     have T:(q:Int)<L.length:=by have:=f.out;omega
     obtain⟨i,j,O,Q,u,v⟩:=qws A.out (k:=q) (by omega);obtain⟨W,off,rfl,aa,D,E⟩:=(z.out.below (o.out.trans (c.out.below.mono (by omega)))).at_ q (by omega);have p:Hid (qbj (L.take (q+1)) (qa2 L k (qaB a))=if qbj (L.take q) (qa2 L k (qaB a)) i then qkY (qbj (L.take q) (qa2 L k (qaB a))) j else qbj (L.take q) (qa2 L k (qaB a))):=by
      show _=_;rw[qlY L _ q (by omega)];unfold qhD;rw[u,v];rfl
     rw[u]at D;rw[v]at E;have s:=c.out.at_ O;have C:=c.out.at_ Q;have X:=c.out.frozen j;cases l:qbj (L.take q) (qa2 L k (qaB a)) i
     ·rw[l]at s;have d:Hid (qbj (L.take (q+1)) (qa2 L k (qaB a))=qbj (L.take q) (qa2 L k (qaB a))):=by show _=_;rw[p.out,l];rfl
      go_wp2;go_roundg y
      case measure=>omega
      case rel=>exact⟨q+1,by show _=_;have:=f.out;omega,by go_num,by show qfR _ _ _ _ _;rw[d.out];exact c.out⟩
     rw[l]at s;have d:Hid (qbj (L.take (q+1)) (qa2 L k (qaB a))=qkY (qbj (L.take q) (qa2 L k (qaB a))) j):=by show _=_;rw[p.out,l];rfl
     generalize qbj (L.take q) (qa2 L k (qaB a)) j=v0 at C;go_wp2;go_roundg y
     case measure=>omega
     case rel=>exact⟨q+1,by show _=_;have:=f.out;omega,by go_num,by show qfR _ _ _ _ _;rw[d.out];exact c.out.set j⟩

theorem qnZ(arr:Array Value)(c:Int)(L:List (Int×Int))(a:Option Addr)(b:Nat)(k:arr[0]?=some (.int .i64 c))(f1:arr[1]?=some (.slice a L.length b))(f:L.length<=maxLen)(w:World)(g:¬(1<=c/\c<=6/\L.length<=30)):Calls prog 18 #[.agg arr] w λe j=>e=.returned (.bool false)/\Below w.heap.size w j:=by
 unfold maxLen at f;have i:c<1\/(1<=c/\6<c)\/(1<=c/\c<=6/\(30:Int)<L.length):=by omega
 clear g;rcases i with h|⟨h,d⟩|⟨h,d,l⟩
 all_goals
  go_enter func18,ntmps18;go_wp2;go_ret;exact⟨rfl,bwA⟩
theorem qrP(arr:Array Value)(n:Nat)(L:List (Int×Int))(M:Option Addr)(W:Nat)(H:qzQ arr n L M W)(h1:1<=n)(hn:n<=6)(hL:L.length<=30)(w:World)(N:qba w M L):Calls prog 18 #[.agg arr] w λe Z=>e=.returned (.bool (qaV n L))/\Below w.heap.size w Z:=by
 have E:=H.f0;have f1:=H.f1;have s:=qab (qaA H.size);have S:=qab N;clear H N;have U:Hid ((w.alloc (.cells arr 25)).heap[w.heap.size]?=some (.cells arr 25)):=qac _ _;have A:Hid (Below w.heap.size w (w.alloc (.cells arr 25))):=bwA;have T:Hid ((w.alloc (.cells arr 25)).heap.size=w.heap.size+1):=by show _=_;simp
 go_enter func18,ntmps18;go_wp2;generalize w.alloc (.cells arr 25)=W0 at *
 go_loopg[3,4] L.length (λg x y wr=>∃q:Nat,Hid (q+g=L.length)/\x=.int .i64 q/\Below (w.heap.size+1) W0 wr/\Hid (∀i (h:i<L.length),i<q->qc9 n L[i]=true))
 case atStart=>exact⟨0,by show _=_;omega,rfl,Below.refl _ _,λi h hi=>by omega⟩
 case round =>
  obtain⟨q,F,rfl,u,K⟩:=hrel;have G:=qab ((u.block _ (by omega)).trans U.out);have aa:=(qaa G.out 1).trans f1;have P:=u.size;rw[T.out]at P
  cases gk with
  |zero =>
   have Y:¬(q:Int)<L.length:=by have:=F.out;omega
   have V:=qab (qic (λi h=>K.out i h (by have:=F.out;omega)));go_wp2;go_ret;exact⟨by rw[V.out];rfl,A.out.trans (u.mono (by omega))⟩
  |succ g =>
   have Y:(q:Int)<L.length:=by have:=F.out;omega
   obtain⟨b,off,rfl,ac,e1,e2⟩:=(S.out.below (A.out.trans (u.mono (by omega)))).at_ q (by omega);have I:Hid ((wr.alloc (.cells #[.int .i64 L[q].1,.int .i64 L[q].2] 40)).heap[wr.heap.size]?=some (.cells #[.int .i64 L[q].1,.int .i64 L[q].2] 40)):=qac _ _;have c:Hid ((wr.alloc (.cells #[.int .i64 L[q].1,.int .i64 L[q].2] 40)).heap[w.heap.size]?=some (.cells arr 25)):=(Below.heap_alloc _ _ _ (by omega)).trans G.out;have m:Hid (qc9 n L[q]=qc9 n (L[q].1,L[q].2)):=rfl;have j:=qcQ arr n E L[q].1 (wr.alloc (.cells #[.int .i64 L[q].1,.int .i64 L[q].2] 40));generalize L[q].1=x at *;generalize L[q].2=y at *;have D:Hid (Below (w.heap.size+1) W0 (wr.alloc (.cells #[.int .i64 x,.int .i64 y] 40))):=u.alloc P _;clear G u;cases v:qbM n x
   ·rw[v]at j;have r:Hid (qaV n L=false):=qcJ (k:=q) (by omega) (by rw[m.out];unfold qc9;rw[v];rfl);clear v m
    go_wp2_with(first
     |(refine wpList_load_row rfl 25 _ rfl _ rfl _ _ _ _ c.out underlying25 rfl s.out ?_)
     |(go_at_call 19;refine j.mono ?_;clear j;rintro e z ⟨rfl,d⟩))
    go_ret;exact⟨by rw[r.out];rfl,(A.out.trans (D.out.mono (by omega))).trans (d.mono (by simp;omega))⟩
   rw[v]at j;have J:=qab v;clear v;cases B:qbM n y
   ·have r:Hid (qaV n L=false):=qcJ (k:=q) (by omega) (by rw[m.out];unfold qc9;rw[B,J.out];rfl);have t:=qab B;clear B m
    go_wp2_with(first
     |(refine wpList_load_row rfl 25 _ rfl _ rfl _ _ _ _ c.out underlying25 rfl s.out ?_)
     |(refine qaf 25 _ rfl rfl _ rfl _ _ _ _ c.out underlying25 rfl s.out ?_)
     |(go_at_call 19;refine j.mono ?_;clear j;rintro e z ⟨rfl,d⟩;have l:=qab ((d.block _ (by simp;omega)).trans c.out);clear c;have c:=l;clear l;have a:=qab ((d.block _ (by simp)).trans I.out);have o:=qaa a.out 0;have p:=qaa a.out 1;have c2:=qcQ arr n E y z;rw[t.out]at c2)
     |(go_at_call 19;refine c2.mono ?_;clear c2;rintro e R ⟨rfl,f⟩;clear o p;have o:=(qaa ((f.block _ (ltA a.out)).trans a.out) 0);have p:=(qaa ((f.block _ (ltA a.out)).trans a.out) 1)))
    have C:=d.size;rw[World.size_alloc]at C;go_ret;exact⟨by rw[r.out];rfl,((A.out.trans (D.out.mono (by omega))).trans (d.mono (by simp;omega))).trans (f.mono (by omega))⟩
   have t:=qab B;clear B;cases O:(x==y)
   ·have r:Hid (qc9 n L[q]=true):=by show _=_;rw[m.out];unfold qc9;rw[t.out,J.out,O];rfl
    clear m
    go_wp2_with(first
    |(refine wpList_load_row rfl 25 _ rfl _ rfl _ _ _ _ c.out underlying25 rfl s.out ?_)
    |(refine qaf 25 _ rfl rfl _ rfl _ _ _ _ c.out underlying25 rfl s.out ?_)
    |(go_at_call 19;refine j.mono ?_;clear j;rintro e z ⟨rfl,d⟩;have l:=qab ((d.block _ (by simp;omega)).trans c.out);clear c;have c:=l;clear l;have a:=qab ((d.block _ (by simp)).trans I.out);have o:=qaa a.out 0;have p:=qaa a.out 1;have c2:=qcQ arr n E y z;rw[t.out]at c2)
    |(go_at_call 19;refine c2.mono ?_;clear c2;rintro e R ⟨rfl,f⟩;clear o p;have o:=(qaa ((f.block _ (ltA a.out)).trans a.out) 0);have p:=(qaa ((f.block _ (ltA a.out)).trans a.out) 1)))
    have C:=d.size;rw[World.size_alloc]at C;go_roundg g
    case measure=>omega
    case rel =>
     refine⟨q+1,by show _=_;have:=F.out;omega,by go_num,(D.out.trans (d.mono (by simp;omega))).trans (f.mono (by omega)),?_⟩;intro Q X ab;by_cases e:Q=q
     ·subst e;exact r.out
     exact K.out Q X (by omega)
   have r:Hid (qaV n L=false):=qcJ (k:=q) (by omega) (by rw[m.out];unfold qc9;rw[t.out,J.out,O];rfl);clear m
   go_wp2_with(first
   |(refine wpList_load_row rfl 25 _ rfl _ rfl _ _ _ _ c.out underlying25 rfl s.out ?_)
   |(refine qaf 25 _ rfl rfl _ rfl _ _ _ _ c.out underlying25 rfl s.out ?_)
   |(go_at_call 19;refine j.mono ?_;clear j;rintro e z ⟨rfl,d⟩;have l:=qab ((d.block _ (by simp;omega)).trans c.out);clear c;have c:=l;clear l;have a:=qab ((d.block _ (by simp)).trans I.out);have o:=qaa a.out 0;have p:=qaa a.out 1;have c2:=qcQ arr n E y z;rw[t.out]at c2)
   |(go_at_call 19;refine c2.mono ?_;clear c2;rintro e R ⟨rfl,f⟩;clear o p;have o:=(qaa ((f.block _ (ltA a.out)).trans a.out) 0);have p:=(qaa ((f.block _ (ltA a.out)).trans a.out) 1)))
   have C:=d.size;rw[World.size_alloc]at C;go_ret;exact⟨by rw[r.out];rfl,((A.out.trans (D.out.mono (by omega))).trans (d.mono (by simp;omega))).trans (f.mono (by omega))⟩

end
end Go.Proofs.YtpifimohecagoaaGreatDoor
