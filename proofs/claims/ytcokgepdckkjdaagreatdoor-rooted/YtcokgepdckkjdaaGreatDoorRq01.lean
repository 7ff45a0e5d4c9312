import Derived.Test.YtcokgepdckkjdaaGreatDoorRq00
set_option maxRecDepth 100000
set_option maxHeartbeats 8000000
namespace Go.Proofs.YtcokgepdckkjdaaGreatDoor
open Go.Proofs.Tryz
variable {a b fuel i j k n:Nat}{M m m':Nat->Nat->Bool}{W w w':World}{arr:Array Value}{ss:List (Nat×List UInt8)}{P:Program}{ops:Array Oper}{Q:Exit->Act->World->Prop}{md:Region.Mode}
section
open Go.RowKit
def qqg (m:Nat->Nat->Bool)(a b:Nat):Bool:=m a b&&m b a
def qa7 (n:Nat)(m:Nat->Nat->Bool):Bool:=(List.range n).any fun a=>(List.range a).any fun b=>qqg m a b
theorem qdg (c:a<n)(d:b<a)(h:qqg m a b=true):qa7 n m=true:=by
 unfold qa7;rw[List.any_eq_true];refine⟨a,List.mem_range.2 c,?_⟩;rw[List.any_eq_true];exact⟨b,List.mem_range.2 d,h⟩
theorem qkw (h:∀a b,a<n->b<a->qqg m a b=false):qa7 n m=false:=by
 unfold qa7;rw[List.any_eq_false];intro a d;rw[List.any_eq_true];rintro⟨b,e,c⟩;rw[h a b (List.mem_range.1 d) (List.mem_range.1 e)] at c;cases c
theorem qjQ (arr:Array Value)(n:Nat)(m:Nat->Nat->Bool)(H:qjo arr n m)(F:n<=6)(w:World):Calls prog 81 #[.agg arr] w fun e D=>e=.returned (.bool (qa7 n m))/\Below w.heap.size w D:=by
 have p:=qaa H.at_;have E:=H.count;clear H;go_enter func81,ntmps81;go_wp2
 go_loopg [7,3] n (fun g x y wr=>∃k:Nat,Hid (k+g=n)/\x=.int .i64 k/\w.alloc (.cells arr 87)=wr/\Hid (∀a b,a<k->b<a->qqg m a b=false))
 case atStart=>exact⟨0,by show _=_;omega,rfl,rfl,fun a b v=>by omega⟩
 case round =>
  obtain⟨k,j,rfl,rfl,r⟩:=hrel
  cases gk with
  |zero =>
   have B:¬(k:Int)<n:=by have:=j.out;omega
   go_wp2;go_ret;exact⟨by rw[qkw (fun a b v f=>r.out a b (by have:=j.out;omega) f)];rfl,bwA⟩
  |succ g =>
   have B:(k:Int)<n:=by have:=j.out;omega
   have z:k<6:=by omega
   go_wp2
   go_loopg [11,4] k (fun g x y wr=>∃q:Nat,Hid (q+g=k)/\x=.int .i64 q/\w.alloc (.cells arr 87)=wr/\Hid (∀b,b<q->qqg m k b=false))
   case atStart=>exact⟨0,by show _=_;omega,rfl,rfl,fun b f=>by omega⟩
   case round =>
    obtain⟨q,h,rfl,rfl,o⟩:=hrel
    cases gk with
    |zero =>
     have C:¬(q:Int)<k:=by have:=h.out;omega
     go_wp2;go_roundg g
     case measure=>omega
     case rel =>
      refine⟨k+1,by show _=_;have:=j.out;omega,by go_num,rfl,fun a b v f => ?_⟩;by_cases e:a=k
      ·subst e;exact o.out b (by have:=h.out;omega)
      exact r.out a b (by omega) f
    |succ s =>
     have C:(q:Int)<k:=by have:=h.out;omega
     have A:q<6:=by omega
     have t:=p.out k q z A;have u:=p.out q k A z;cases c:m k q
     ·rw[c] at t;have i:=qaa c;clear c;go_wp2;go_roundg s
      case measure=>omega
      case rel =>
       refine⟨q+1,by show _=_;have:=h.out;omega,by go_num,rfl,fun b f => ?_⟩;by_cases e:b=q
       ·subst e;unfold qqg;rw[i.out];rfl
       exact o.out b (by omega)
     rw[c] at t;have i:=qaa c;clear c;cases d:m q k
     ·rw[d] at u;have l:=qaa d;clear d;go_wp2;go_roundg s
      case measure=>omega
      case rel =>
       refine⟨q+1,by show _=_;have:=h.out;omega,by go_num,rfl,fun b f => ?_⟩;by_cases e:b=q
       ·subst e;unfold qqg;rw[i.out,l.out];rfl
       exact o.out b (by omega)
     rw[d] at u;have l:=qaa d;clear d;go_wp2;go_ret;exact⟨by rw[qdg (a:=k) (b:=q) (by omega) (by omega) (by unfold qqg;rw[i.out,l.out];rfl)];rfl,bwA⟩
theorem qmD (arr:Array Value)(n:Nat)(m:Nat->Nat->Bool)(H:qjo arr n m)(x:n<=6)(a b:Nat)(t:a<n)(u:b<n)(w:World):Calls prog 117 #[.agg arr,.int .i64 a,.int .i64 b] w fun e r=>e=.returned (.bool (m a b))/\Below w.heap.size w r:=by
 have h:=H.at_ a b (by omega) (by omega);have j:=H.count;have g:=qaa (qar H.size);clear H;have o:qbC n a=true:=by unfold qbC;exact decide_eq_true (by omega)
 have p:qbC n b=true:=by unfold qbC;exact decide_eq_true (by omega)
 go_enter func117,ntmps117;have l:=qac w (.cells arr 87);have c:=qaa l;clear l;have d:=qe9 arr n j a (w.alloc (.cells arr 87));rw[o] at d
 go_wp2_with (first
  |(refine wpList_load_row rfl 87 _ rfl _ rfl _ arr _ _ c.out underlying87 rfl g.out ?_)
  |(refine qaf 87 _ rfl rfl _ rfl _ arr _ _ c.out underlying87 rfl g.out ?_)
  |(go_at_call 80;refine d.mono ?_;clear d;rintro e s ⟨rfl,f⟩;have i:=qaa ((f.block _ (by simp)).trans c.out);clear c;have c:=i;clear i;have c2:=qe9 arr n j b s;rw[p] at c2;have q:=f.size;rw[World.size_alloc] at q)
  |(go_at_call 80;refine c2.mono ?_;clear c2;rintro e y ⟨rfl,k⟩;have v:=(qab ((k.block _ (by omega)).trans c.out) (1+a*6+b)).trans h))
 go_ret;exact⟨rfl,((bwA).trans (f.mono (by simp))).trans (k.mono (by omega))⟩

theorem qem (w:World)(g i:Nat)(cs:Array Value)(h:i≠g):(w.setRow g cs).heap[i]? = w.heap[i]?:=setRow_other w g i cs h
theorem qah {B:Nat}{a:World}(h:Below B a w){g:Nat}(b:B<=g)(cs:Array Value):Below B a (w.setRow g cs) :=
 h.trans ⟨rfl,rfl,rfl,by simp,fun k c=>setRow_other w g k cs (by omega)⟩
structure qdY (w W:World)(arr:Array Value)(n:Nat)(M:Nat->Nat->Bool):Prop where
 below:Below w.heap.size w W
 box:W.heap[w.heap.size]? = some (.cells arr 87)
 res:W.heap[w.heap.size+1]? = some (.cells qaB 87)
 own:W.heap[w.heap.size+1+1]? = some (.cells (qan n M) 87)
theorem qp7 (w:World)(arr:Array Value)(n:Nat):qdY w ((((w.alloc (.cells arr 87)).alloc (.cells qaB 87)).alloc (.cells qaB 87)).setRow (w.heap.size+1+1) (qan n fun _ _=>false)) arr n (fun _ _=>false):=by
 refine⟨qah (((bwA).alloc (by simp) _).alloc (by simp;omega) _) (by omega) _,?_,?_,?_⟩
 ·rw[qem _ _ _ _ (by omega),Below.heap_alloc _ _ _ (by simp;omega),Below.heap_alloc _ _ _ (by simp)];exact qac w _
 ·rw[qem _ _ _ _ (by omega),Below.heap_alloc _ _ _ (by simp)];have:=qac (w.alloc (.cells arr 87)) (.cells qaB 87);rwa [World.size_alloc] at this
 refine setRow_heap _ _ qaB _ 87 (0,0) ?_;have:=qac ((w.alloc (.cells arr 87)).alloc (.cells qaB 87)) (.cells qaB 87);rwa [World.size_alloc,World.size_alloc] at this
theorem qdY.set (h:qdY w W arr n M)(hi:i<6)(a:j<6)(b:Bool):qdY w (W.setCell ⟨w.heap.size+1+1,1+i*6+j,none⟩ (.bool b)) arr n (upd M i j b) :=
 ⟨h.below.setCell (by simp;omega) _,(heap_setCell_other W _ _ _ (by simp;omega)).trans h.box,(heap_setCell_other W _ _ _ (by simp)).trans h.res,
  by rw[heap_setCell_same W _ _ _ _ _ h.own,qhg n M i j b hi a]⟩
theorem qdY.drew (h:qdY w W arr n M):qdY w W.drew arr n M:=⟨h.below.drew,h.box,h.res,h.own⟩
def trM (n:Nat)(m:Nat->Nat->Bool)(k q:Nat):Nat->Nat->Bool:=fun i j=>decide (j<n/\(i<k\/(i=k/\j<q)))&&m j i
theorem qrE (n:Nat)(m:Nat->Nat->Bool):trM n m 0 0=fun _ _=>false:=by
 funext i j;simp[trM]
theorem qr1 (n:Nat)(m:Nat->Nat->Bool)(k q:Nat)(a:q<n):upd (trM n m k q) k q (m q k)=trM n m k (q+1):=by
 funext i j;unfold upd trM;by_cases h:i=k/\j=q
 ·obtain⟨rfl,rfl⟩:=h;simp[a]
 rw[if_neg h];congr 1;exact decide_eq_decide.2 (by omega)
theorem qsJ (n:Nat)(m:Nat->Nat->Bool)(k:Nat):trM n m k n=trM n m (k+1) 0:=by
 funext i j;unfold trM;congr 1;exact decide_eq_decide.2 (by omega)
theorem qwb (n:Nat)(m:Nat->Nat->Bool)(i j:Nat)(hi:i<n)(a:j<n):trM n m n 0 i j=m j i:=by
 unfold trM;rw[decide_eq_true (by omega),Bool.true_and]
theorem qmN (arr:Array Value)(n:Nat)(m:Nat->Nat->Bool)(H:qjo arr n m)(E:n<=6)(w:World):Calls prog 106 #[.agg arr] w fun e A=>e=.returned (.agg (qan n (trM n m n 0)))/\Below w.heap.size w A:=by
 have l:=qaa H.at_;have j:=H.count;have f:=qp7 w arr n;have p:Hid ((((w.alloc (.cells arr 87)).alloc (.cells qaB 87)).alloc (.cells qaB 87)).heap[w.heap.size+1+1]? = some (.cells qaB 87)):=by
  have:=qac ((w.alloc (.cells arr 87)).alloc (.cells qaB 87)) (.cells qaB 87);rw[World.size_alloc,World.size_alloc] at this;exact this
 have s:Hid (qaB.size=(qan n fun _ _=>false).size):=by rw[qae];exact qae _ _
 generalize hW:(((w.alloc (.cells arr 87)).alloc (.cells qaB 87)).alloc (.cells qaB 87)).setRow (w.heap.size+1+1) (qan n fun _ _=>false)=W at f;have o:Hid (_=W):=hW;have u:=(qab f.box 0).trans j;have r:=qaa f;go_enter func106,ntmps106
 go_wp2_with (first
  |(refine qas rfl rfl _ rfl (w.heap.size+1) ?hN ?_;case hN=>(simp only[World.size_alloc];done))
  |(refine qas rfl rfl _ rfl (w.heap.size+1+1) ?hN ?_;case hN=>(simp only[World.size_alloc];done))
  |(refine qak rfl 87 _ rfl _ rfl _ [(0,.int .i64 n)] ?hl (qiZ n) ?_;case hl=>simp[go_sem])
  |(refine wpList_store_row rfl 87 _ _ rfl _ _ rfl rfl 87 qaB p.out (qar (qae _ _)) s.out (qa5 _ _) ?_;rw[o.out]))
 go_loopg [11,4] n (fun g x y wr=>∃k:Nat,Hid (k+g=n)/\x=.int .i64 k/\Hid (qdY w wr arr n (trM n m k 0)))
 case atStart=>exact⟨0,by show _=_;omega,rfl,by rw[qrE];exact r⟩
 case round =>
  obtain⟨k,c,rfl,a⟩:=hrel;have u:=(qab a.out.box 0).trans j
  cases gk with
  |zero =>
   have v:¬(k:Int)<n:=by have:=c.out;omega
   have e:k=n:=by have:=c.out;omega
   subst e
   go_wp2_with (first
    |(refine wpList_load_row rfl 87 _ rfl _ rfl _ _ _ _ a.out.own underlying87 rfl (qar (qae _ _)) ?_)
    |(refine wpList_store_row rfl 87 _ _ rfl _ _ rfl rfl 87 qaB a.out.res (qar (qae _ _)) (by rw[qae];exact qae _ _) (qa5 _ _) ?_))
   refine bodyPost_ret (results_cell_row results106 _ _ (w.heap.size+1) 87 (qan k (trM k m k 0)) (0,0) _ rfl (setRow_heap _ _ qaB _ _ _ a.out.res) underlying87 rfl (qar (qae _ _))) rfl ⟨rfl,qah a.out.below (by omega) _⟩
  |succ g =>
   have v:(k:Int)<n:=by have:=c.out;omega
   have h:k<6:=by omega
   go_wp2
   go_loopg [16,5] n (fun g x y wr=>∃q:Nat,Hid (q+g=n)/\x=.int .i64 q/\Hid (qdY w wr arr n (trM n m k q)))
   case atStart=>exact⟨0,by show _=_;omega,rfl,a⟩
   case round =>
    obtain⟨q,d,rfl,b⟩:=hrel
    cases gk with
    |zero =>
     have z:¬(q:Int)<n:=by have:=d.out;omega
     go_wp2;go_roundg g
     case measure=>omega
     case rel =>
      have e:q=n:=by have:=d.out;omega
      exact⟨k+1,by show _=_;have:=c.out;omega,by go_num,by have:=b.out;rw[e,qsJ] at this;exact this⟩
    |succ t =>
     have z:(q:Int)<n:=by have:=d.out;omega
     have i:q<6:=by omega
     have B:=(qab b.out.box _).trans (l.out q k i h);have C:=(qab b.out.own _).trans ((qaw n (trM n m k q)).at_ k q h i);have D:=frozen_of_row wr (w.heap.size+1+1) (1+k*6+q) _ _ b.out.own;go_wp2
     go_region
     all_goals go_wp2
     go_roundg t
     case measure=>omega
     case rel=>exact⟨q+1,by show _=_;have:=d.out;omega,by go_num,by have:=(b.out.set h i (m q k)).drew;rw[qr1 n m k q (by omega)] at this;exact this⟩

def qey (n:Nat)(m:Nat->Nat->Bool)(a b:Nat):Bool:=qa1 n m a b&&qa1 n (fun i j=>m j i) a b
def qa6 (n:Nat)(m:Nat->Nat->Bool):Bool:=(List.range n).all fun a=>(List.range a).all fun b=>qey n m a b
theorem qeU (c:a<n)(d:b<a)(h:qey n m a b=false):qa6 n m=false:=by
 unfold qa6;rw[List.all_eq_false];refine⟨a,List.mem_range.2 c,?_⟩;rw[Bool.not_eq_true,List.all_eq_false];exact⟨b,List.mem_range.2 d,by rw[h];decide⟩
theorem qh6 (h:∀a b,a<n->b<a->qey n m a b=true):qa6 n m=true:=by
 unfold qa6;rw[List.all_eq_true];intro a c;rw[List.all_eq_true];intro b d;exact h a b (List.mem_range.1 c) (List.mem_range.1 d)
theorem qfT (h:∀i j,i<n->j<n->m i j=m' i j)(d:a<n)(e:b<n)(c:k<n):ubB m a b k=ubB m' a b k:=by
 unfold ubB;rw[h a k d c,h b k e c]
theorem qeM (h:∀i j,i<n->j<n->m i j=m' i j)(e:a<n)(f:b<n)(l:k<n):qaK n m a b k=qaK n m' a b k:=by
 unfold qaK;rw[qfT h e f l];congr 1;rw[Bool.eq_iff_iff,List.all_eq_true,List.all_eq_true];constructor
 ·intro g j c;have d:=List.mem_range.1 c;rw[<-qfT h e f d,<-h k j l d];exact g j c
 intro g j c;have d:=List.mem_range.1 c;rw[qfT h e f d,h k j l d];exact g j c
theorem qcz (h:∀i j,i<n->j<n->m i j=m' i j)(d:a<n)(e:b<n):qa1 n m a b=qa1 n m' a b:=by
 unfold qa1;rw[Bool.eq_iff_iff,List.any_eq_true,List.any_eq_true];constructor
 ·rintro⟨k,c,g⟩;exact⟨k,c,by rw[<-qeM h d e (List.mem_range.1 c)];exact g⟩
 rintro⟨k,c,g⟩;exact⟨k,c,by rw[qeM h d e (List.mem_range.1 c)];exact g⟩
theorem qiv (arr:Array Value)(n:Nat)(m:Nat->Nat->Bool)(H:qjo arr n m)(B:n<=6)(w:World):Calls prog 82 #[.agg arr] w fun e w'=>e=.returned (.bool (qa6 n m))/\Below w.heap.size w w':=by
 have Z:=H.count;have Q:=qaa H;have v:=qaa (qar H.size);clear H;have z:=qaa (qac w (.cells arr 87));have N:=qaa ((Below.refl w.heap.size w).alloc (Nat.le_refl _) (.cells arr 87));have T:=qmN arr n m Q.out B (w.alloc (.cells arr 87));go_enter func82,ntmps82
 go_wp2_with (first
  |(refine wpList_load_row rfl 87 _ rfl _ rfl _ arr _ _ z.out underlying87 rfl v.out ?_)
  |(go_at_call 106;refine T.mono ?_;clear T;rintro e c ⟨rfl,s⟩;have D:=s.size;rw[World.size_alloc] at D)
  |(refine qas rfl rfl _ rfl c.heap.size rfl ?_)
  |(refine wpList_store_row rfl 87 _ _ rfl _ _ rfl rfl 87 qaB (qac c _) (qar (qae _ _)) (by rw[qae];exact qae _ _) (qa5 _ _) ?_;rw[World.setRow_alloc_new];have y:(c.alloc (.cells (qan n (trM n m n 0)) 87)).cell? ⟨w.heap.size,0,none⟩=some (.int .i64 n):=(qab ((Below.heap_alloc _ _ _ (by omega)).trans ((s.block _ (by simp)).trans z.out)) 0).trans Z))
 have V:Hid ((c.alloc (.cells (qan n (trM n m n 0)) 87)).heap[w.heap.size]? = some (.cells arr 87)):=(Below.heap_alloc _ _ _ (by omega)).trans ((s.block _ (by simp)).trans z.out);have W:Hid ((c.alloc (.cells (qan n (trM n m n 0)) 87)).heap[c.heap.size]? = some (.cells (qan n (trM n m n 0)) 87)):=qac _ _;have X:Hid ((c.alloc (.cells (qan n (trM n m n 0)) 87)).heap.size=c.heap.size+1):=by show _=_;simp
 have F:Hid (Below w.heap.size w (c.alloc (.cells (qan n (trM n m n 0)) 87))):=(N.out.trans (s.mono (by simp))).alloc (by omega) _;clear y s z N;generalize c.alloc (.cells (qan n (trM n m n 0)) 87)=W3 at *;have l:Hid (w.heap.size<c.heap.size):=by show _<_;omega
 generalize c.heap.size=N3 at *
 go_loopg [10,4] n (fun g x ad wr=>∃k:Nat,Hid (k+g=n)/\x=.int .i64 k/\Below (N3+1) W3 wr/\Hid (∀a b,a<k->b<a->qey n m a b=true))
 case atStart=>exact⟨0,by show _=_;omega,rfl,Below.refl _ _,fun a b U=>by omega⟩
 case round =>
  obtain⟨k,A,rfl,d,P⟩:=hrel
  cases gk with
  |zero =>
   have aa:¬(k:Int)<n:=by have:=A.out;omega
   go_wp2;go_ret;exact⟨by rw[qh6 (fun a b U t=>P.out a b (by have:=A.out;omega) t)];rfl,F.out.trans (d.mono (by have:=l.out;omega))⟩
  |succ g =>
   have aa:(k:Int)<n:=by have:=A.out;omega
   have L:k<6:=by omega
   go_wp2
   go_loopg [14,5] k (fun g x ad wr=>∃q:Nat,Hid (q+g=k)/\x=.int .i64 q/\Below (N3+1) W3 wr/\Hid (∀b,b<q->qey n m k b=true))
   case atStart=>exact⟨0,by show _=_;omega,rfl,d,fun b t=>by omega⟩
   case round =>
    clear d;obtain⟨q,C,rfl,d,R⟩:=hrel
    cases gk with
    |zero =>
     have ab:¬(q:Int)<k:=by have:=C.out;omega
     go_wp2;go_roundg g
     case measure=>omega
     case rel =>
      refine⟨k+1,by show _=_;have:=A.out;omega,by go_num,d,fun a b U t => ?_⟩;by_cases e:a=k
      ·subst e;exact R.out b (by have:=C.out;omega)
      exact P.out a b (by omega) t
    |succ Y =>
     have ab:(q:Int)<k:=by have:=C.out;omega
     have M:q<6:=by omega
     have I:=qaa ((d.block _ (by have:=l.out;omega)).trans V.out);have S:=qaa ((d.block _ (by omega)).trans W.out);have D:=d.size;rw[X.out] at D;have h:=qdL arr n m Q.out B k q L M wr;have u:Hid (qa1 n (trM n m n 0) k q=qa1 n (fun i j=>m j i) k q):=qcz (fun i j hi hj=>qwb n m i j hi hj) (by omega) (by omega);cases o:qa1 n m k q
     ·rw[o] at h;have r:Hid (qey n m k q=false):=by show _=_;unfold qey;rw[o];rfl
      clear o
      go_wp2_with (first
       |(refine wpList_load_row rfl 87 _ rfl _ rfl _ arr _ _ I.out underlying87 rfl v.out ?_)
       |(go_at_call 107;refine h.mono ?_;clear h;rintro e E ⟨rfl,f⟩))
      go_ret;exact⟨by rw[qeU (a:=k) (b:=q) (by omega) (by omega) r.out];rfl,F.out.trans ((d.mono (by have:=l.out;omega)).trans (f.mono (by have:=l.out;omega)))⟩
     rw[o] at h;have O:=qaa o;clear o;cases p:qa1 n (fun i j=>m j i) k q
     ·have r:Hid (qey n m k q=false):=by show _=_;unfold qey;rw[p,O.out];rfl
      have G:=qaa (u.out.trans p);clear p u
      go_wp2_with (first
       |(refine wpList_load_row rfl 87 _ rfl _ rfl _ arr _ _ I.out underlying87 rfl v.out ?_)
       |(go_at_call 107;refine h.mono ?_;clear h;rintro e E ⟨rfl,f⟩;have c2:=qdL _ n _ (qaw n (trM n m n 0)) B k q L M E;rw[G.out] at c2;have J:=qaa ((f.block _ (by omega)).trans S.out))
       |(refine qaf 87 _ rfl rfl _ rfl _ _ _ _ J.out underlying87 rfl (qar (qae _ _)) ?_)
       |(go_at_call 107;refine c2.mono ?_;clear c2;rintro e w5 ⟨rfl,K⟩))
      go_ret;have ac:=f.size;exact⟨by rw[qeU (a:=k) (b:=q) (by omega) (by omega) r.out];rfl,F.out.trans ((d.mono (by have:=l.out;omega)).trans ((f.mono (by have:=l.out;omega)).trans (K.mono (by have:=l.out;omega))))⟩
     have r:Hid (qey n m k q=true):=by show _=_;unfold qey;rw[p,O.out];rfl
     have G:=qaa (u.out.trans p);clear p u
     go_wp2_with (first
      |(refine wpList_load_row rfl 87 _ rfl _ rfl _ arr _ _ I.out underlying87 rfl v.out ?_)
      |(go_at_call 107;refine h.mono ?_;clear h;rintro e E ⟨rfl,f⟩;have c2:=qdL _ n _ (qaw n (trM n m n 0)) B k q L M E;rw[G.out] at c2;have J:=qaa ((f.block _ (by omega)).trans S.out))
      |(refine qaf 87 _ rfl rfl _ rfl _ _ _ _ J.out underlying87 rfl (qar (qae _ _)) ?_)
      |(go_at_call 107;refine c2.mono ?_;clear c2;rintro e w5 ⟨rfl,K⟩))
     have ac:=f.size;go_roundg Y
     case measure=>omega
     case rel =>
      refine⟨q+1,by show _=_;have:=C.out;omega,by go_num,d.trans ((f.mono D).trans (K.mono (by omega))),fun b t => ?_⟩;by_cases e:b=q
      ·subst e;exact r.out
      exact R.out b (by omega)

def fst (n k:Nat)(m:Nat->Nat->Bool)(l h:Nat):Nat->Nat->Bool:=fun i j=>m i j||(decide (j<n/\(i<l\/(i=l/\j<h)))&&(m i k&&m k j))
def qhY (n:Nat):Nat->(Nat->Nat->Bool)->Nat->Nat->Bool
 |0,m=>m
 |k+1,m=>fst n k (qhY n k m) n 0
theorem qrS (n k:Nat)(m:Nat->Nat->Bool):fst n k m 0 0=m:=by
 funext i j;simp[fst]
theorem qsF (n k:Nat)(m:Nat->Nat->Bool)(l:Nat):fst n k m l n=fst n k m (l+1) 0:=by
 funext i j;unfold fst;congr 2;exact decide_eq_decide.2 (by omega)
theorem qoG (n k:Nat)(m:Nat->Nat->Bool)(l h i:Nat):fst n k m l h i k=m i k:=by
 unfold fst;cases m i k<;>simp
theorem qlC (n k:Nat)(m:Nat->Nat->Bool)(l h j:Nat):fst n k m l h k j=m k j:=by
 unfold fst;cases m k j<;>simp
theorem qt6 (n k:Nat)(m:Nat->Nat->Bool)(l h:Nat)(d:h<n)(a:m l k=true)(b:m k h=true):upd (fst n k m l h) l h true=fst n k m l (h+1):=by
 funext i j;unfold upd fst;by_cases c:i=l/\j=h
 ·obtain⟨rfl,rfl⟩:=c;simp[d,a,b]
 rw[if_neg c];congr 2;exact decide_eq_decide.2 (by omega)
theorem qsu (n k:Nat)(m:Nat->Nat->Bool)(l h:Nat)(e:(m l k&&m k h)=false):fst n k m l h=fst n k m l (h+1):=by
 funext i j;unfold fst;by_cases c:i=l/\j=h
 ·obtain⟨rfl,rfl⟩:=c;rw[e];simp
 congr 2;exact decide_eq_decide.2 (by omega)
structure qbi (w W:World)(b n:Nat)(M:Nat->Nat->Bool):Prop where
 below:Below b w W
 own:W.heap[b]? = some (.cells (qan n M) 87)
theorem qbi.set (h:qbi w W b n M)(hi:i<6)(a:j<6)(v:Bool):qbi w (W.setCell ⟨b,1+i*6+j,none⟩ (.bool v)) b n (upd M i j v) :=
 ⟨h.below.setCell (Nat.le_refl _) _,by rw[heap_setCell_same W _ _ _ _ _ h.own,qhg n M i j v hi a]⟩
theorem qbi.count (h:qbi w W b n M):W.cell? ⟨b,0,none⟩=some (.int .i64 n):=(qab h.own 0).trans (qaw n M).count
theorem qbi.at_ (h:qbi w W b n M)(hi:i<6)(a:j<6):W.cell? ⟨b,1+i*6+j,none⟩=some (.bool (M i j)):=(qab h.own _).trans ((qaw n M).at_ i j hi a)
theorem qbi.frozen (h:qbi w W b n M)(j:Nat):W.frozen? ⟨b,j,none⟩=false:=frozen_of_row W b j _ _ h.own
theorem qbi.drew (h:qbi w W b n M):qbi w W.drew b n M:=⟨h.below.drew,h.own⟩
theorem qni (b n:Nat)(m:Nat->Nat->Bool)(L:n<=6)(w:World)(I:w.heap[b]? = some (.cells (qan n m) 87)):Calls prog 105 #[.pointer (some ⟨b,0,none⟩)] w fun e J=>e=.returned (.tuple #[])/\qbi w J b n (qhY n n m):=by
 have v:Hid (qbi w w b n (qhY n 0 m)):=⟨Below.refl _ _,I⟩
 have z:=v.out.count;go_enter func105,ntmps105;go_wp2
 go_loopg [9,2] n (fun g x y wr=>∃k:Nat,Hid (k+g=n)/\x=.int .i64 k/\Hid (qbi w wr b n (qhY n k m)))
 case atStart=>exact⟨0,by show _=_;omega,rfl,v⟩
 case round =>
  obtain⟨k,i,rfl,p⟩:=hrel;have z:=p.out.count
  cases gk with
  |zero =>
   have H:¬(k:Int)<n:=by have:=i.out;omega
   go_wp2;go_end0;have e:k=n:=by have:=i.out;omega
   exact⟨rfl,by have:=p.out;rw[e] at this;exact this⟩
  |succ g =>
   have H:(k:Int)<n:=by have:=i.out;omega
   have A:k<6:=by omega
   go_wp2
   go_loopg [16,3] n (fun g x y wr=>∃l:Nat,Hid (l+g=n)/\x=.int .i64 l/\Hid (qbi w wr b n (fst n k (qhY n k m) l 0)))
   case atStart=>exact⟨0,by show _=_;omega,rfl,by rw[qrS];exact p⟩
   case round =>
    obtain⟨l,j,rfl,q⟩:=hrel;have z:=q.out.count
    cases gk with
    |zero =>
     have G:¬(l:Int)<n:=by have:=j.out;omega
     go_wp2;go_roundg g
     case measure=>omega
     case rel =>
      have e:l=n:=by have:=j.out;omega
      exact⟨k+1,by show _=_;have:=i.out;omega,by go_num,by have:=q.out;rw[e] at this;exact this⟩
    |succ E =>
     have G:(l:Int)<n:=by have:=j.out;omega
     have u:l<6:=by omega
     go_wp2
     go_loopg [23,4] n (fun g x y wr=>∃h:Nat,Hid (h+g=n)/\x=.int .i64 h/\Hid (qbi w wr b n (fst n k (qhY n k m) l h)))
     case atStart=>exact⟨0,by show _=_;omega,rfl,q⟩
     case round =>
      obtain⟨h,c,rfl,a⟩:=hrel
      cases gk with
      |zero =>
       have F:¬(h:Int)<n:=by have:=c.out;omega
       go_wp2;go_roundg E
       case measure=>omega
       case rel =>
        have e:h=n:=by have:=c.out;omega
        exact⟨l+1,by show _=_;have:=j.out;omega,by go_num,by have:=a.out;rw[e,qsF] at this;exact this⟩
      |succ s =>
       have F:(h:Int)<n:=by have:=c.out;omega
       have t:h<6:=by omega
       have r:=a.out.at_ u A;have c2:=a.out.at_ A t;have D:=a.out.at_ u t;have K:=a.out.frozen (1+l*6+h);rw[qoG] at r;rw[qlC] at c2;generalize hM:qhY n k m=M at *;cases d:M l k
       ·rw[d] at r;have o:Hid ((M l k&&M k h)=false):=by show _=_;rw[d];rfl
        go_wp2;go_roundg s
        case measure=>omega
        case rel=>exact⟨h+1,by show _=_;have:=c.out;omega,by go_num,by have:=a.out;rw[qsu n k M l h o.out] at this;exact this⟩
       rw[d] at r;cases f:M k h
       ·rw[f] at c2;have o:Hid ((M l k&&M k h)=false):=by show _=_;rw[d,f];rfl
        go_wp2;go_roundg s
        case measure=>omega
        case rel=>exact⟨h+1,by show _=_;have:=c.out;omega,by go_num,by have:=a.out;rw[qsu n k M l h o.out] at this;exact this⟩
       rw[f] at c2;have B:=qaa d;have C:=qaa f;generalize hV:fst n k M l h l h=v0 at D;go_wp2;go_roundg s
       case measure=>omega
       case rel=>exact⟨h+1,by show _=_;have:=c.out;omega,by go_num,by have:=a.out.set u t true;rw[qt6 n k M l h (by omega) B.out C.out] at this;exact this⟩

def tkS (s:Nat×List UInt8)(t:List UInt8×Bool):Bool:=if s.1=0 then true else if s.1=1 then false else if s.1=2 then t.2 else !t.2&&t.1==s.2
def rcS (s:Nat×List UInt8)(p:List (List UInt8×Bool))(f:Nat->Bool):Nat->Bool
 |0=>if s.1=1 then f 0 else false
 |k+1=>if s.1=1 then (List.range (k+2)).any f else f k&&(match p[k]? with|some t=>tkS s t|none=>false)
def rch:List (Nat×List UInt8)->List (List UInt8×Bool)->(Nat->Bool)->Nat->Bool
 |[],_,f=>f
 |s::ss,p,f=>rch ss p (rcS s p f)
def qwK (ss:List (Nat×List UInt8))(p:List (List UInt8×Bool)):Bool:=rch ss p (fun k=>k==0) p.length
theorem qma (s:Nat×List UInt8)(p:List (List UInt8×Bool)):∀(ss:List (Nat×List UInt8)) (f:Nat->Bool),rch (ss++[s]) p f=rcS s p (rch ss p f)
 |[],_=>rfl
 |x::ss,f=>by show rch (ss++[s]) p _=_;rw[qma s p ss];rfl
def qgs (ss:List (Nat×List UInt8))(k:Nat):Bool:=match ss[k]? with
 |some s=>s.1==1
 |none=>false
def qju (ss:List (Nat×List UInt8))(t:List UInt8×Bool)(k:Nat):Bool:=match ss[k]? with
 |some s=>tkS s t
 |none=>false
def wdP (ss:List (Nat×List UInt8))(P:Nat->Bool):Nat->Bool
 |0=>P 0
 |k+1=>P (k+1)||(qgs ss k&&wdP ss P k)
def goP (ss:List (Nat×List UInt8))(t:List UInt8×Bool)(P:Nat->Bool):Nat->Bool
 |0=>P 0&&qgs ss 0
 |k+1=>(P (k+1)&&qgs ss (k+1))||(P k&&qju ss t k)
def plc (ss:List (Nat×List UInt8)):List (List UInt8×Bool)->Nat->Bool
 |[]=>wdP ss (fun k=>k==0)
 |t::r=>wdP ss (goP ss t (plc ss r))
def rF (ss:List (Nat×List UInt8))(p:List (List UInt8×Bool))(k:Nat):Nat->Bool:=rch (ss.take k) p (fun n=>n==0)
theorem qpH (a:List (Nat×List UInt8))(p:List (List UInt8×Bool))(n:Nat):rF a p 0 n=(n==0):=rfl
theorem qnA {s:Nat×List UInt8}(h:ss[k]? = some s)(p:List (List UInt8×Bool)):rF ss p (k+1)=rcS s p (rF ss p k):=by
 unfold rF;rw[List.take_add_one,h];exact qma s p _ _
def gF (ss:List (Nat×List UInt8))(p:List (List UInt8×Bool))(k j:Nat):Bool:=if qgs ss k then (List.range (j+1)).any (rF ss p k) else rF ss p k j
theorem qrT (f:Nat->Bool)(j:Nat):(List.range (j+1)).any f=((List.range j).any f||f j):=by
 rw[List.range_succ,List.any_append];simp
theorem qmj (a:List (Nat×List UInt8))(p:List (List UInt8×Bool)):∀(j:Nat),j<=p.length->∀k,k<=a.length->plc a (p.take j).reverse k=gF a p k j
 |0,_,k,hk=>by
  rw[List.take_zero,List.reverse_nil,plc]
  induction k with
  |zero=>unfold gF;cases qgs a 0<;>simp[wdP,qpH]
  |succ k d =>
   have d:=d (by omega);rw[wdP,d];obtain⟨s,f⟩:∃s,a[k]? = some s:=⟨a[k],List.getElem?_eq_getElem (by omega)⟩
   have o:gF a p k 0=rF a p k 0:=by unfold gF;cases qgs a k<;>simp
   have q:gF a p (k+1) 0=rF a p (k+1) 0:=by unfold gF;cases qgs a (k+1)<;>simp
   have c:qgs a k=(s.1==1):=by unfold qgs;rw[f]
   rw[o,q,qnA f,rcS,c];by_cases b:s.1=1
   ·simp[b]
   simp[b]
 |j+1,hj,k,hk=>by
  obtain⟨t,i⟩:∃t,p[j]? = some t:=⟨p[j],List.getElem?_eq_getElem (by omega)⟩
  have u:(p.take (j+1)).reverse=t::(p.take j).reverse:=by rw[List.take_add_one,i];simp
  rw[u,plc];have g:=qmj a p j (by omega);generalize hP:plc a (p.take j).reverse=P;rw[hP] at g
  induction k with
  |zero =>
   rw[wdP,goP,g 0 (by omega)];unfold gF
   cases c:qgs a 0 with
   |true =>
    rw[if_pos rfl,if_pos rfl];have h:rF a p 0 0=true:=rfl;have m:(List.range (j+1)).any (rF a p 0)=true:=List.any_eq_true.2 ⟨0,by simp,h⟩;have n:(List.range (j+1+1)).any (rF a p 0)=true:=List.any_eq_true.2 ⟨0,by simp,h⟩;rw[m,n];rfl
   |false=>simp[qpH]
  |succ k d =>
   have d:=d (by omega);obtain⟨s,f⟩:∃s,a[k]? = some s:=⟨a[k],List.getElem?_eq_getElem (by omega)⟩
   have c:qgs a k=(s.1==1):=by unfold qgs;rw[f]
   have l:qju a t k=tkS s t:=by unfold qju;rw[f]
   rw[wdP,goP,d,g (k+1) hk,g k (by omega)];have key:((gF a p k j&&qju a t k)||(qgs a k&&gF a p k (j+1)))=rF a p (k+1) (j+1):=by
    rw[qnA f,rcS,i];by_cases b:s.1=1
    ·have e:gF a p k (j+1)=(List.range (j+1+1)).any (rF a p k):=by unfold gF;rw[c];simp[b]
     have v:tkS s t=false:=by unfold tkS;simp[b]
     rw[l,v,c,e];simp[b]
    have e:gF a p k j=rF a p k j:=by unfold gF;rw[c];simp[b]
    rw[l,c,e];simp[b]
   have r:((gF a p (k+1) j&&qgs a (k+1))||rF a p (k+1) (j+1))=gF a p (k+1) (j+1):=by
    unfold gF
    cases qgs a (k+1) with
    |true=>rw[if_pos rfl,if_pos rfl,Bool.and_true,<-qrT]
    |false=>simp
   rw[Bool.or_assoc,key,r]
theorem qrX (a:List (Nat×List UInt8))(p:List (List UInt8×Bool)):plc a p.reverse a.length=qwK a p:=by
 have h:=qmj a p p.length (Nat.le_refl _) a.length (Nat.le_refl _);rw[List.take_length] at h;rw[h];unfold gF;have e:qgs a a.length=false:=by unfold qgs;rw[List.getElem?_eq_none (Nat.le_refl _)]
 rw[e,if_neg (by simp)];unfold rF qwK;rw[List.take_length]

def plA (P:Nat->Nat):Array Value:=((List.range 16).map fun i=>Value.int .u16 (P i)).toArray
theorem qbR (P:Nat->Nat):(plA P).size=16:=by simp[plA]
theorem qcR (P:Nat->Nat)(r:Nat)(a:r<16):(plA P)[r]? = some (.int .u16 (P r)):=by simp[plA,a]
theorem qwH (a:Nat):BitVec.ofInt 16 (a:Int)=BitVec.ofNat 16 a:=BitVec.ofInt_natCast ..
theorem qqL (a b:Nat)(c:a<65536)(d:b<65536):bits .and .u16 (a:Int) (b:Int)=((a &&& b:Nat):Int):=by
 have h:(BitVec.ofNat 16 a &&& BitVec.ofNat 16 b).toNat=a &&& b:=by
  rw[BitVec.toNat_and,BitVec.toNat_ofNat,BitVec.toNat_ofNat,Nat.mod_eq_of_lt (by omega),Nat.mod_eq_of_lt (by omega)]
 show IntKind.u16.wrap ((BitVec.ofInt 16 (a:Int) &&& BitVec.ofInt 16 (b:Int)).toNat:Int)=_;have e:a &&& b<2^16:=Nat.and_lt_two_pow _ (by omega);rw[qwH,qwH,h];unfold IntKind.wrap;simp[IntKind.bits,IntKind.signed];omega
theorem qxk (a b:Nat)(c:a<65536)(d:b<65536):bits .or .u16 (a:Int) (b:Int)=((a ||| b:Nat):Int):=by
 have h:(BitVec.ofNat 16 a ||| BitVec.ofNat 16 b).toNat=a ||| b:=by
  rw[BitVec.toNat_or,BitVec.toNat_ofNat,BitVec.toNat_ofNat,Nat.mod_eq_of_lt (by omega),Nat.mod_eq_of_lt (by omega)]
 show IntKind.u16.wrap ((BitVec.ofInt 16 (a:Int) ||| BitVec.ofInt 16 (b:Int)).toNat:Int)=_;have e:a ||| b<2^16:=Nat.or_lt_two_pow (by omega) (by omega);rw[qwH,qwH,h];unfold IntKind.wrap;simp[IntKind.bits,IntKind.signed];omega
theorem w16 (x:Nat)(h:x<65536):IntKind.u16.wrap (x:Int)=(x:Int):=by
 unfold IntKind.wrap;simp[IntKind.bits,IntKind.signed];omega
theorem qwQ (x k:Nat)(c:x<65536):(bits .and .u16 ((x:Int) / 2^k) 1==1)=x.testBit k:=by
 have e:((x:Int) / 2^k)=((x / 2^k:Nat):Int):=by simp
 have b:x / 2^k<65536:=Nat.lt_of_le_of_lt (Nat.div_le_self _ _) c;have:=qqL (x / 2^k) 1 b (by omega);rw[e,show(1:Int)=((1:Nat):Int) from rfl,this,Nat.testBit,Nat.shiftRight_eq_div_pow,Nat.and_comm 1];cases h:(x / 2^k &&& 1 != 0)
 ·simp at h;simp[h]
 have a:x / 2^k &&& 1=1:=by
  rw[Nat.and_one_is_mod] at h ⊢;simp at h;omega
 rw[a];rfl
theorem qxh (W:World)(P:Nat->Nat)(r k:Nat)(c:r<16)(g:k<16)(b:P r<65536):Calls prog 113 #[.agg (plA P),.int .i64 r,.int .i64 k] W fun e a=>e=.returned (.bool ((P r).testBit k))/\Below W.heap.size W a:=by
 have d:=qcR P r c;have f:=qwQ (P r) k b;go_enter func113,ntmps113;go_wp2;go_ret;exact⟨rfl,bwA⟩
theorem qik (P:Nat->Nat)(r:Nat)(x:Nat):(plA P).setIfInBounds r (.int .u16 x)=plA (fun i=>if i=r then x else P i):=by
 apply Array.ext
 ·simp[plA]
 intro i a c;simp[plA] at a;rw[Array.getElem_setIfInBounds (by simp[plA];exact a)];by_cases h:r=i
 ·subst h;simp[plA]
 have b:¬i=r:=fun e=>h e.symm;simp[plA,h,b]
theorem rdA {listed:Array Bool}{a:Act}{o:Oper}(i:Nat)(hi:ops[i]? = some o)(c:Region.ready md ops listed=[i])(h:(∀b:Act->World->Prop,(∀a w,wpAny P md ops Q fuel (listed.setIfInBounds i true) a w->b a w)->if Region.wanted o (yielded ops a.tmps)=true then Oper.wp P o a w b Q else b (a.put o.dst undef) w)):wpAny P md ops Q (fuel+1) listed a w:=wpAny_ready c (by simp) (AllReady.cons hi h AllReady.nil)
theorem tkA {listed:Array Bool}{a:Act}{oi:Oper}(i d:Nat)(v:Value)(hi:ops[i]? = some oi)(b:(Region.noSelect ops&&Region.free md ops listed i&&(Region.ready md ops listed).contains i&&oi.dst==some d&&Region.wanted oi (yielded ops a.tmps))=true)(e:∀c a w,Q (.panic c) (a.put (some d) v) w->Q (.panic c) a w)(g:∀Z,(execOp a.eval oi).run P Z=.ok (.value v) Z)(h:wpAny P md ops Q fuel (listed.setIfInBounds i true) (a.put (some d) v) w):wpAny P md ops Q (fuel+1) listed a w:=by
 simp only[Bool.and_eq_true] at b;have f:oi.dst=some d:=by simpa using b.1.2
 rw[<-f] at e h;exact wpAny_take hi b.1.1.1.1 b.1.1.1.2 b.1.1.2 e (.inl ⟨b.2,g⟩) h
theorem qdf (W:World)(g o:Nat)(x r k:Nat)(m:r<16)(j:k<16)(d:x<65536)(i:W.cell? ⟨g,o+r,none⟩=some (.int .u16 x))(f:W.frozen? ⟨g,o+r,none⟩=false):Calls prog 86 #[.pointer (some ⟨g,o,none⟩),.int .i64 r,.int .i64 k] W fun e c=>e=.returned (.tuple #[])/\c=W.drew.setCell ⟨g,o+r,none⟩ (.int .u16 ((x ||| 2^k:Nat):Int)):=by
 have n:(r:Int)<16:=by omega
 have b:(2^k:Nat)<65536:=by
  have:(2^k:Nat)<=2^15:=Nat.pow_le_pow_right (by decide) (by omega);omega
 have p:IntKind.u16.wrap (2^k)=2^k:=by
  have:=w16 (2^k) b;simpa using this
 have l:bits .or .u16 (x:Int) (2^k)=((x ||| 2^k:Nat):Int):=by
  have:=qxk x (2^k) d b;rwa [show(((2^k:Nat):Int))=2^k by simp] at this
 go_enter func86,ntmps86;go_wp2;refine wp_region_any (by kernel_rfl) ?_;change wpAny _ _ _ _ _ _ _ (World.drew W);refine tkA 0 6 (.pointer (some ⟨g,o,none⟩)) rfl (by kernel_rfl) (fun _ _ _ h=>h) (fun _=>by kernel_rfl) ?_;refine tkA 1 7 (.int .i64 r) rfl (by kernel_rfl) (fun _ _ _ h=>h) (fun _=>by kernel_rfl) ?_;refine tkA 2 8 (.pointer (some ⟨g,o,none⟩)) rfl (by kernel_rfl) (fun _ _ _ h=>h) (fun _=>by kernel_rfl) ?_;refine tkA 3 9 (.pointer (some ⟨g,o+r,none⟩)) rfl (by kernel_rfl) (fun _ _ _ h=>h) (fun _ => ?y3) ?_
 case y3=>go_simp
 refine tkA 5 11 (.int .i64 k) rfl (by kernel_rfl) (fun _ _ _ h=>h) (fun _=>by kernel_rfl) ?_;refine tkA 6 12 (.int .u16 ((2^k:Nat):Int)) rfl (by kernel_rfl) (fun _ _ _ h=>h) (fun _ => ?y6) ?_
 case y6=>go_simp
 refine tkA 8 14 (.pointer (some ⟨g,o,none⟩)) rfl (by kernel_rfl) (fun _ _ _ h=>h) (fun _=>by kernel_rfl) ?_;refine rdA 4 rfl (by kernel_rfl) (fun K a => ?_);go_simp;refine a _ _ ?_;refine tkA 7 13 (.int .u16 ((x ||| 2^k:Nat):Int)) rfl (by kernel_rfl) (fun _ _ _ h=>h) (fun _ => ?y7) ?_
 case y7=>go_simp
 refine tkA 9 15 (.pointer (some ⟨g,o+r,none⟩)) rfl (by kernel_rfl) (fun _ _ _ h=>h) (fun _ => ?y9) ?_
 case y9=>go_simp
 refine rdA 10 rfl (by kernel_rfl) (fun K a => ?_);go_simp;refine a _ _ ?_;refine wpAny_done (by kernel_rfl) ?_ _;go_simp;go_wp2;go_end0;exact⟨rfl,rfl⟩

structure qks (w:World)(a:Option Addr)(ss:List (Nat×List UInt8)):Prop where
 at_:∀i (h:i<ss.length),∃b off,a=some ⟨b,off,none⟩/\b<w.heap.size/\w.cell? ⟨b,off+i*2,none⟩=some (.int .i64 ss[i].1)/\w.cell? ⟨b,off+i*2+1,none⟩=some (.string ⟨ss[i].2.toArray⟩)
theorem qks.below {a:Option Addr}(h:qks w a ss)(c:Below w.heap.size w w'):qks w' a ss :=
 ⟨fun i j=>by
  obtain⟨b,off,g,d,e,f⟩:=h.at_ i j;exact⟨b,off,g,Nat.lt_of_lt_of_le d c.size,(c.cell (p:=⟨b,_,none⟩) d).trans e,(c.cell (p:=⟨b,_,none⟩) d).trans f⟩⟩
structure qdW (w:World)(a:Option Addr)(rs:List (List (Nat×List UInt8)×Int×Int)):Prop where
 at_:∀i (h:i<rs.length),∃b off pa pc,a=some ⟨b,off,none⟩/\b<w.heap.size/\w.cell? ⟨b,off+i*3,none⟩=some (.slice pa rs[i].1.length pc)/\w.cell? ⟨b,off+i*3+1,none⟩=some (.int .i64 rs[i].2.1)/\w.cell? ⟨b,off+i*3+2,none⟩=some (.int .i64 rs[i].2.2)/\qks w pa rs[i].1
theorem qdW.below {a:Option Addr}{rs:List (List (Nat×List UInt8)×Int×Int)}(h:qdW w a rs)(c:Below w.heap.size w w'):qdW w' a rs :=
 ⟨fun i l=>by
  obtain⟨b,off,m,n,k,d,e,f,g,j⟩:=h.at_ i l;exact⟨b,off,m,n,k,Nat.lt_of_lt_of_le d c.size,(c.cell (p:=⟨b,_,none⟩) d).trans e,(c.cell (p:=⟨b,_,none⟩) d).trans f,(c.cell (p:=⟨b,_,none⟩) d).trans g,j.below c⟩⟩
def jdg (dflt:Int):List (List (Nat×List UInt8)×Int×Int)->(Nat->Nat)->Nat->Int×Int
 |[],_,_=>(dflt,1)
 |x::rs,P,r=>if (P r).testBit x.1.length then x.2 else jdg dflt rs P (r+1)
theorem qbh (P:Nat->Nat):(prog.info? 129).map (·.size)=some (plA P).size:=by rw[qbR];kernel_rfl
structure qva (W:World)(P:Nat->Nat)(V:World):Prop where
 box:V.heap[W.heap.size]? = some (.cells (plA P) 129)
 below:Below W.heap.size W V
theorem qva.next {V V':World}{P:Nat->Nat}(h:qva W P V)(a:Below V.heap.size V V'):qva W P V' :=
 ⟨(a.block _ (ltA h.box)).trans h.box,h.below.trans (a.mono h.below.size)⟩
theorem quy (W:World)(P:Nat->Nat):qva W P (W.alloc (.cells (plA P) 129)):=⟨qac _ _,bwA⟩
theorem qoj (W:World)(A:Nat)(x:Option Addr)(I:Nat)(a:Int)(rs:List (List (Nat×List UInt8)×Int×Int))(P:Nat->Nat)(F:∀r,P r<65536)(R:rs.length<=16)(D:∀i (h:i<rs.length),rs[i].1.length<=8)(E:A<W.heap.size)(J:W.cell? ⟨A,0,none⟩=some (.slice x rs.length I))(C:W.cell? ⟨A,1,none⟩=some (.int .i64 a))(H:qdW W x rs):Calls prog 87 #[.pointer (some ⟨A,0,none⟩),.agg (plA P)] W fun e B=>e=.returned (.tuple #[.int .i64 (jdg a rs P 0).1,.int .i64 (jdg a rs P 0).2])/\Below W.heap.size W B:=by
 have y:=qaa H;go_enter func87,ntmps87;go_wp2
 go_loopg [13] rs.length (fun g z wr=>∃k:Nat,z=.int .i64 k/\Hid (k+g=rs.length)/\Hid (qva W P wr)/\Hid (jdg a rs P 0=jdg a (rs.drop k) P k))
 case atStart=>exact⟨0,rfl,by show _=_;omega,quy _ _,rfl⟩
 case round =>
  obtain⟨k,rfl,m,d,q⟩:=hrel;have K:=(d.out.below.cell (p:=⟨A,_,none⟩) E).trans C
  cases gk with
  |zero =>
   have G:¬(k:Int)<(rs.length:Int):=by have:=m.out;omega
   have f:Hid (jdg a rs P 0=(a,1)):=by
    have h:=q.out;rw[List.drop_eq_nil_of_le (by have:=m.out;omega)] at h;exact h
   go_wp2;refine bodyPost_ret (results_tmp2 results87 _ _ _) rfl ⟨?_,d.out.below⟩;rw[f.out];rfl
  |succ g =>
   have t:k<rs.length:=by have:=m.out;omega
   have G:(k:Int)<(rs.length:Int):=by omega
   obtain⟨b,off,v,w,rfl,O,L,M,N,_⟩:=(y.out.below d.out.below).at_ k t;have Q:=D k t;have l:=fun V=>qxh V P k rs[k].1.length (by omega) (by omega) (F k);have u:Hid (jdg a (rs.drop k) P k=if (P k).testBit rs[k].1.length then rs[k].2 else jdg a (rs.drop (k+1)) P (k+1)):=by
    show _=_;rw[List.drop_eq_getElem_cons t,jdg]
   have j:Hid (qva W P (wr.alloc (.cells #[.slice v rs[k].1.length w,.int .i64 rs[k].2.1,.int .i64 rs[k].2.2] 164))):=d.out.next bwA
   have S:=ltA d.out.box
   cases n:(P k).testBit rs[k].1.length with
   |true =>
    rw[n] at l;have f:Hid (jdg a rs P 0=rs[k].2):=by have h:=q.out;rw[u.out,n] at h;exact h
    go_wp2_with (first
     |(refine wpList_load_row rfl 129 (.tmp 3) rfl W.heap.size rfl _ _ _ _ j.out.box underlying129 rfl (qbh P) ?_)
     |(go_at_call 113;refine(l _).mono ?_;rintro e o ⟨rfl,c⟩;have s:=qaa (j.out.next c);have T:o.cell? ⟨wr.heap.size,0,none⟩=some (.slice v rs[k].1.length w):=qab ((c.block _ (by simp)).trans (qac _ _)) 0;have U:o.cell? ⟨wr.heap.size,1,none⟩=some (.int .i64 rs[k].2.1):=qab ((c.block _ (by simp)).trans (qac _ _)) 1;have X:o.cell? ⟨wr.heap.size,2,none⟩=some (.int .i64 rs[k].2.2):=qab ((c.block _ (by simp)).trans (qac _ _)) 2))
    go_quiet (fail)
    go_wp2;refine bodyPost_ret (results_tmp2 results87 _ _ _) rfl ⟨?_,s.out.below.trans ⟨rfl,rfl,rfl,Nat.le_refl _,fun _ _=>rfl⟩⟩;rw[f.out];rfl
   |false =>
    rw[n] at l;have f:Hid (jdg a rs P 0=jdg a (rs.drop (k+1)) P (k+1)):=by have h:=q.out;rw[u.out,n] at h;exact h
    go_wp2_with (first
     |(refine wpList_load_row rfl 129 (.tmp 3) rfl W.heap.size rfl _ _ _ _ j.out.box underlying129 rfl (qbh P) ?_)
     |(go_at_call 113;refine(l _).mono ?_;rintro e o ⟨rfl,c⟩;have s:=qaa (j.out.next c)))
    go_roundg g
    case measure=>omega
    case rel=>exact⟨k+1,by go_num,by show _=_;have:=m.out;omega,s,f⟩

end
end Go.Proofs.YtcokgepdckkjdaaGreatDoor
