import Derived.Test.YtllcbnfmihfaaaaGreatDoorCq00
set_option maxRecDepth 100000
set_option maxHeartbeats 8000000
namespace Go.Proofs.YtllcbnfmihfaaaaGreatDoor
open Go.Proofs.Tryz
variable {a b i j k n:Nat}{W w:World}{arr:Array Value}{M m m':Nat→Nat→Bool}
section
open Go.RowKit
theorem qem (w:World)(g i:Nat)(cs:Array Value)(h:i≠g):(w.setRow g cs).heap[i]? = w.heap[i]?:=setRow_other w g i cs h
theorem qah {B:Nat}{a:World}(h:Below B a w){g:Nat}(hg:B≤g)(cs:Array Value):Below B a (w.setRow g cs) :=
 h.trans ⟨rfl,rfl,rfl,by simp,fun k hk=>setRow_other w g k cs (by omega)⟩
structure qdY (w W:World)(arr:Array Value)(n:Nat)(M:Nat→Nat→Bool):Prop where
 below:Below w.heap.size w W
 box:W.heap[w.heap.size]? = some (.cells arr 107)
 res:W.heap[w.heap.size+1]? = some (.cells qaB 107)
 own:W.heap[w.heap.size+1+1]? = some (.cells (qan n M) 107)
theorem qp7 (w:World)(arr:Array Value)(n:Nat):qdY w ((((w.alloc (.cells arr 107)).alloc (.cells qaB 107)).alloc (.cells qaB 107)).setRow (w.heap.size+1+1) (qan n fun _ _=>false)) arr n (fun _ _=>false):=by
 refine⟨qah (((bwA).alloc (by simp) _).alloc (by simp;omega) _) (by omega) _,?_,?_,?_⟩
 ·rw[qem _ _ _ _ (by omega),Below.heap_alloc _ _ _ (by simp;omega),Below.heap_alloc _ _ _ (by simp)];exact qac w _
 ·rw[qem _ _ _ _ (by omega),Below.heap_alloc _ _ _ (by simp)];have:=qac (w.alloc (.cells arr 107)) (.cells qaB 107);rwa [World.size_alloc] at this
 refine setRow_heap _ _ qaB _ 107 (0,0) ?_;have:=qac ((w.alloc (.cells arr 107)).alloc (.cells qaB 107)) (.cells qaB 107);rwa [World.size_alloc,World.size_alloc] at this
theorem qdY.set (h:qdY w W arr n M)(hi:i<6)(hj:j<6)(b:Bool):qdY w (W.setCell ⟨w.heap.size+1+1,1+i*6+j,none⟩ (.bool b)) arr n (upd M i j b) :=
 ⟨h.below.setCell (by simp;omega) _,(heap_setCell_other W _ _ _ (by simp;omega)).trans h.box,(heap_setCell_other W _ _ _ (by simp)).trans h.res,
  by rw[heap_setCell_same W _ _ _ _ _ h.own,qhg n M i j b hi hj]⟩
theorem qdY.drew (h:qdY w W arr n M):qdY w W.drew arr n M:=⟨h.below.drew,h.box,h.res,h.own⟩
def trM (n:Nat)(m:Nat→Nat→Bool)(k q:Nat):Nat→Nat→Bool:=fun i j=>decide (j<n∧(i<k∨(i=k∧j<q)))&&m j i
theorem qrE (n:Nat)(m:Nat→Nat→Bool):trM n m 0 0=fun _ _=>false:=by
 funext i j;simp[trM]
theorem qr1 (n:Nat)(m:Nat→Nat→Bool)(k q:Nat)(hq:q<n):upd (trM n m k q) k q (m q k)=trM n m k (q+1):=by
 funext i j;unfold upd trM;by_cases h:i=k∧j=q
 ·obtain⟨rfl,rfl⟩:=h;simp[hq]
 rw[if_neg h];congr 1;exact decide_eq_decide.2 (by omega)
theorem qsJ (n:Nat)(m:Nat→Nat→Bool)(k:Nat):trM n m k n=trM n m (k+1) 0:=by
 funext i j;unfold trM;congr 1;exact decide_eq_decide.2 (by omega)
theorem qwb (n:Nat)(m:Nat→Nat→Bool)(i j:Nat)(hi:i<n)(hj:j<n):trM n m n 0 i j=m j i:=by
 unfold trM;rw[decide_eq_true (by omega),Bool.true_and]
theorem qmN (arr:Array Value)(n:Nat)(m:Nat→Nat→Bool)(H:qjo arr n m)(hn:n≤6)(w:World):Calls prog 181 #[.agg arr] w fun e w'=>e=.returned (.agg (qan n (trM n m n 0)))∧Below w.heap.size w w':=by
 have HA:=qaa H.at_;have h0:=H.count;have HT:=qp7 w arr n;have HH:Hid ((((w.alloc (.cells arr 107)).alloc (.cells qaB 107)).alloc (.cells qaB 107)).heap[w.heap.size+1+1]? = some (.cells qaB 107)):=by
  have:=qac ((w.alloc (.cells arr 107)).alloc (.cells qaB 107)) (.cells qaB 107);rw[World.size_alloc,World.size_alloc] at this;exact this
 have HZ:Hid (qaB.size=(qan n fun _ _=>false).size):=by rw[qae];exact qae _ _
 generalize hW:(((w.alloc (.cells arr 107)).alloc (.cells qaB 107)).alloc (.cells qaB 107)).setRow (w.heap.size+1+1) (qan n fun _ _=>false)=W at HT;have HD:Hid (_=W):=hW;have hc0:=(qab HT.box 0).trans h0;have HTT:=qaa HT;go_enter func181,ntmps181
 go_wp2_with (first
  |(refine qas rfl rfl _ rfl (w.heap.size+1) ?hN ?_;case hN=>(simp only[World.size_alloc];done))
  |(refine qas rfl rfl _ rfl (w.heap.size+1+1) ?hN ?_;case hN=>(simp only[World.size_alloc];done))
  |(refine qak rfl 107 _ rfl _ rfl _ [(0,.int .i64 n)] ?hl (qiZ n) ?_;case hl=>simp[go_sem])
  |(refine wpList_store_row rfl 107 _ _ rfl _ _ rfl rfl 107 qaB HH.out (qar (qae _ _)) HZ.out (qa5 _ _) ?_;rw[HD.out]))
 go_loopg [11,4] n (fun g x y wr=>∃k:Nat,Hid (k+g=n)∧x=.int .i64 k∧Hid (qdY w wr arr n (trM n m k 0)))
 case atStart=>exact⟨0,by show _=_;omega,rfl,by rw[qrE];exact HTT⟩
 case round =>
  obtain⟨k,hk,rfl,HL⟩:=hrel;have hc0:=(qab HL.out.box 0).trans h0
  cases gk with
  |zero =>
   have hlt:¬(k:Int)<n:=by have:=hk.out;omega
   have e:k=n:=by have:=hk.out;omega
   subst e
   go_wp2_with (first
    |(refine wpList_load_row rfl 107 _ rfl _ rfl _ _ _ _ HL.out.own underlying107 rfl (qar (qae _ _)) ?_)
    |(refine wpList_store_row rfl 107 _ _ rfl _ _ rfl rfl 107 qaB HL.out.res (qar (qae _ _)) (by rw[qae];exact qae _ _) (qa5 _ _) ?_))
   refine bodyPost_ret (results_cell_row results181 _ _ (w.heap.size+1) 107 (qan k (trM k m k 0)) (0,0) _ rfl (setRow_heap _ _ qaB _ _ _ HL.out.res) underlying107 rfl (qar (qae _ _))) rfl ⟨rfl,qah HL.out.below (by omega) _⟩
  |succ g =>
   have hlt:(k:Int)<n:=by have:=hk.out;omega
   have hk6:k<6:=by omega
   go_wp2
   go_loopg [16,5] n (fun g x y wr=>∃q:Nat,Hid (q+g=n)∧x=.int .i64 q∧Hid (qdY w wr arr n (trM n m k q)))
   case atStart=>exact⟨0,by show _=_;omega,rfl,HL⟩
   case round =>
    obtain⟨q,hq,rfl,HQ⟩:=hrel
    cases gk with
    |zero =>
     have hql:¬(q:Int)<n:=by have:=hq.out;omega
     go_wp2;go_roundg g
     case measure=>omega
     case rel =>
      have e:q=n:=by have:=hq.out;omega
      exact⟨k+1,by show _=_;have:=hk.out;omega,by go_num,by have:=HQ.out;rw[e,qsJ] at this;exact this⟩
    |succ g2 =>
     have hql:(q:Int)<n:=by have:=hq.out;omega
     have hq6:q<6:=by omega
     have h1:=(qab HQ.out.box _).trans (HA.out q k hq6 hk6);have h2:=(qab HQ.out.own _).trans ((qaw n (trM n m k q)).at_ k q hk6 hq6);have h3:=frozen_of_row wr (w.heap.size+1+1) (1+k*6+q) _ _ HQ.out.own;go_wp2
     go_region
     all_goals go_wp2
     go_roundg g2
     case measure=>omega
     case rel=>exact⟨q+1,by show _=_;have:=hq.out;omega,by go_num,by have:=(HQ.out.set hk6 hq6 (m q k)).drew;rw[qr1 n m k q (by omega)] at this;exact this⟩
def qey (n:Nat)(m:Nat→Nat→Bool)(a b:Nat):Bool:=qa1 n m a b&&qa1 n (fun i j=>m j i) a b
def qa6 (n:Nat)(m:Nat→Nat→Bool):Bool:=(List.range n).all fun a=>(List.range a).all fun b=>qey n m a b
theorem qeU (ha:a<n)(hb:b<a)(h:qey n m a b=false):qa6 n m=false:=by
 unfold qa6;rw[List.all_eq_false];refine⟨a,List.mem_range.2 ha,?_⟩;rw[Bool.not_eq_true,List.all_eq_false];exact⟨b,List.mem_range.2 hb,by rw[h];decide⟩
theorem qh6 (h:∀a b,a<n→b<a→qey n m a b=true):qa6 n m=true:=by
 unfold qa6;rw[List.all_eq_true];intro a ha;rw[List.all_eq_true];intro b hb;exact h a b (List.mem_range.1 ha) (List.mem_range.1 hb)
theorem qfT (h:∀i j,i<n→j<n→m i j=m' i j)(ha:a<n)(hb:b<n)(hk:k<n):ubB m a b k=ubB m' a b k:=by
 unfold ubB;rw[h a k ha hk,h b k hb hk]
theorem qeM (h:∀i j,i<n→j<n→m i j=m' i j)(ha:a<n)(hb:b<n)(hk:k<n):qaK n m a b k=qaK n m' a b k:=by
 unfold qaK;rw[qfT h ha hb hk];congr 1;rw[Bool.eq_iff_iff,List.all_eq_true,List.all_eq_true];constructor
 ·intro g j hj;have hj':=List.mem_range.1 hj;rw[←qfT h ha hb hj',←h k j hk hj'];exact g j hj
 intro g j hj;have hj':=List.mem_range.1 hj;rw[qfT h ha hb hj',h k j hk hj'];exact g j hj
theorem qcz (h:∀i j,i<n→j<n→m i j=m' i j)(ha:a<n)(hb:b<n):qa1 n m a b=qa1 n m' a b:=by
 unfold qa1;rw[Bool.eq_iff_iff,List.any_eq_true,List.any_eq_true];constructor
 ·rintro⟨k,hk,g⟩;exact⟨k,hk,by rw[←qeM h ha hb (List.mem_range.1 hk)];exact g⟩
 rintro⟨k,hk,g⟩;exact⟨k,hk,by rw[qeM h ha hb (List.mem_range.1 hk)];exact g⟩
theorem qiv (arr:Array Value)(n:Nat)(m:Nat→Nat→Bool)(H:qjo arr n m)(hn:n≤6)(w:World):Calls prog 134 #[.agg arr] w fun e w'=>e=.returned (.bool (qa6 n m))∧Below w.heap.size w w':=by
 have h0:=H.count;have HO:=qaa H;have HI:=qaa (qar H.size);clear H;have HW:=qaa (qac w (.cells arr 107));have HB:=qaa ((Below.refl w.heap.size w).alloc (Nat.le_refl _) (.cells arr 107));have cT:=qmN arr n m HO.out hn (w.alloc (.cells arr 107));go_enter func134,ntmps134
 go_wp2_with (first
  |(refine wpList_load_row rfl 107 _ rfl _ rfl _ arr _ _ HW.out underlying107 rfl HI.out ?_)
  |(go_at_call 181;refine cT.mono ?_;clear cT;rintro e w2 ⟨rfl,hB2⟩;have hz:=hB2.size;rw[World.size_alloc] at hz)
  |(refine qas rfl rfl _ rfl w2.heap.size rfl ?_)
  |(refine wpList_store_row rfl 107 _ _ rfl _ _ rfl rfl 107 qaB (qac w2 _) (qar (qae _ _)) (by rw[qae];exact qae _ _) (qa5 _ _) ?_;rw[World.setRow_alloc_new];have hc0:(w2.alloc (.cells (qan n (trM n m n 0)) 107)).cell? ⟨w.heap.size,0,none⟩=some (.int .i64 n):=(qab ((Below.heap_alloc _ _ _ (by omega)).trans ((hB2.block _ (by simp)).trans HW.out)) 0).trans h0))
 have HX:Hid ((w2.alloc (.cells (qan n (trM n m n 0)) 107)).heap[w.heap.size]? = some (.cells arr 107)):=(Below.heap_alloc _ _ _ (by omega)).trans ((hB2.block _ (by simp)).trans HW.out);have HY:Hid ((w2.alloc (.cells (qan n (trM n m n 0)) 107)).heap[w2.heap.size]? = some (.cells (qan n (trM n m n 0)) 107)):=qac _ _;have HZ:Hid ((w2.alloc (.cells (qan n (trM n m n 0)) 107)).heap.size=w2.heap.size+1):=by show _=_;simp
 have HBB:Hid (Below w.heap.size w (w2.alloc (.cells (qan n (trM n m n 0)) 107))):=(HB.out.trans (hB2.mono (by simp))).alloc (by omega) _;clear hc0 hB2 HW HB;generalize w2.alloc (.cells (qan n (trM n m n 0)) 107)=W3 at *;have hN:Hid (w.heap.size<w2.heap.size):=by show _<_;omega
 generalize w2.heap.size=N3 at *
 go_loopg [10,4] n (fun g x y wr=>∃k:Nat,Hid (k+g=n)∧x=.int .i64 k∧Below (N3+1) W3 wr∧Hid (∀a b,a<k→b<a→qey n m a b=true))
 case atStart=>exact⟨0,by show _=_;omega,rfl,Below.refl _ _,fun a b ha=>by omega⟩
 case round =>
  obtain⟨k,hk,rfl,hB,HL⟩:=hrel
  cases gk with
  |zero =>
   have hlt:¬(k:Int)<n:=by have:=hk.out;omega
   go_wp2;go_ret;exact⟨by rw[qh6 (fun a b ha hb=>HL.out a b (by have:=hk.out;omega) hb)];rfl,HBB.out.trans (hB.mono (by have:=hN.out;omega))⟩
  |succ g =>
   have hlt:(k:Int)<n:=by have:=hk.out;omega
   have hk6:k<6:=by omega
   go_wp2
   go_loopg [14,5] k (fun g x y wr=>∃q:Nat,Hid (q+g=k)∧x=.int .i64 q∧Below (N3+1) W3 wr∧Hid (∀b,b<q→qey n m k b=true))
   case atStart=>exact⟨0,by show _=_;omega,rfl,hB,fun b hb=>by omega⟩
   case round =>
    clear hB;obtain⟨q,hq,rfl,hB,HQ⟩:=hrel
    cases gk with
    |zero =>
     have hql:¬(q:Int)<k:=by have:=hq.out;omega
     go_wp2;go_roundg g
     case measure=>omega
     case rel =>
      refine⟨k+1,by show _=_;have:=hk.out;omega,by go_num,hB,fun a b ha hb => ?_⟩;by_cases e:a=k
      ·subst e;exact HQ.out b (by have:=hq.out;omega)
      exact HL.out a b (by omega) hb
    |succ g2 =>
     have hql:(q:Int)<k:=by have:=hq.out;omega
     have hq6:q<6:=by omega
     have HX2:=qaa ((hB.block _ (by have:=hN.out;omega)).trans HX.out);have HY2:=qaa ((hB.block _ (by omega)).trans HY.out);have hz:=hB.size;rw[HZ.out] at hz;have c1:=qdL arr n m HO.out hn k q hk6 hq6 wr;have HE:Hid (qa1 n (trM n m n 0) k q=qa1 n (fun i j=>m j i) k q):=qcz (fun i j hi hj=>qwb n m i j hi hj) (by omega) (by omega);cases e1:qa1 n m k q
     ·rw[e1] at c1;have HF:Hid (qey n m k q=false):=by show _=_;unfold qey;rw[e1];rfl
      clear e1
      go_wp2_with (first
       |(refine wpList_load_row rfl 107 _ rfl _ rfl _ arr _ _ HX2.out underlying107 rfl HI.out ?_)
       |(go_at_call 182;refine c1.mono ?_;clear c1;rintro e w4 ⟨rfl,hB4⟩))
      go_ret;exact⟨by rw[qeU (a:=k) (b:=q) (by omega) (by omega) HF.out];rfl,HBB.out.trans ((hB.mono (by have:=hN.out;omega)).trans (hB4.mono (by have:=hN.out;omega)))⟩
     rw[e1] at c1;have HE1:=qaa e1;clear e1;cases e2:qa1 n (fun i j=>m j i) k q
     ·have HF:Hid (qey n m k q=false):=by show _=_;unfold qey;rw[e2,HE1.out];rfl
      have HG:=qaa (HE.out.trans e2);clear e2 HE
      go_wp2_with (first
       |(refine wpList_load_row rfl 107 _ rfl _ rfl _ arr _ _ HX2.out underlying107 rfl HI.out ?_)
       |(go_at_call 182;refine c1.mono ?_;clear c1;rintro e w4 ⟨rfl,hB4⟩;have c2:=qdL _ n _ (qaw n (trM n m n 0)) hn k q hk6 hq6 w4;rw[HG.out] at c2;have HY4:=qaa ((hB4.block _ (by omega)).trans HY2.out))
       |(refine qaf 107 _ rfl rfl _ rfl _ _ _ _ HY4.out underlying107 rfl (qar (qae _ _)) ?_)
       |(go_at_call 182;refine c2.mono ?_;clear c2;rintro e w5 ⟨rfl,hB5⟩))
      go_ret;have hz4:=hB4.size;exact⟨by rw[qeU (a:=k) (b:=q) (by omega) (by omega) HF.out];rfl,HBB.out.trans ((hB.mono (by have:=hN.out;omega)).trans ((hB4.mono (by have:=hN.out;omega)).trans (hB5.mono (by have:=hN.out;omega))))⟩
     have HF:Hid (qey n m k q=true):=by show _=_;unfold qey;rw[e2,HE1.out];rfl
     have HG:=qaa (HE.out.trans e2);clear e2 HE
     go_wp2_with (first
      |(refine wpList_load_row rfl 107 _ rfl _ rfl _ arr _ _ HX2.out underlying107 rfl HI.out ?_)
      |(go_at_call 182;refine c1.mono ?_;clear c1;rintro e w4 ⟨rfl,hB4⟩;have c2:=qdL _ n _ (qaw n (trM n m n 0)) hn k q hk6 hq6 w4;rw[HG.out] at c2;have HY4:=qaa ((hB4.block _ (by omega)).trans HY2.out))
      |(refine qaf 107 _ rfl rfl _ rfl _ _ _ _ HY4.out underlying107 rfl (qar (qae _ _)) ?_)
      |(go_at_call 182;refine c2.mono ?_;clear c2;rintro e w5 ⟨rfl,hB5⟩))
     have hz4:=hB4.size;go_roundg g2
     case measure=>omega
     case rel =>
      refine⟨q+1,by show _=_;have:=hq.out;omega,by go_num,hB.trans ((hB4.mono hz).trans (hB5.mono (by omega))),fun b hb => ?_⟩;by_cases e:b=q
      ·subst e;exact HF.out
      exact HQ.out b (by omega)
def fst (n k:Nat)(m:Nat→Nat→Bool)(l h:Nat):Nat→Nat→Bool:=fun i j=>m i j||(decide (j<n∧(i<l∨(i=l∧j<h)))&&(m i k&&m k j))
def qhY (n:Nat):Nat→(Nat→Nat→Bool)→Nat→Nat→Bool
 |0,m=>m
 |k+1,m=>fst n k (qhY n k m) n 0
theorem qrS (n k:Nat)(m:Nat→Nat→Bool):fst n k m 0 0=m:=by
 funext i j;simp[fst]
theorem qsF (n k:Nat)(m:Nat→Nat→Bool)(l:Nat):fst n k m l n=fst n k m (l+1) 0:=by
 funext i j;unfold fst;congr 2;exact decide_eq_decide.2 (by omega)
theorem qoG (n k:Nat)(m:Nat→Nat→Bool)(l h i:Nat):fst n k m l h i k=m i k:=by
 unfold fst;cases m i k<;>simp
theorem qlC (n k:Nat)(m:Nat→Nat→Bool)(l h j:Nat):fst n k m l h k j=m k j:=by
 unfold fst;cases m k j<;>simp
theorem qt6 (n k:Nat)(m:Nat→Nat→Bool)(l h:Nat)(hh:h<n)(e1:m l k=true)(e2:m k h=true):upd (fst n k m l h) l h true=fst n k m l (h+1):=by
 funext i j;unfold upd fst;by_cases c:i=l∧j=h
 ·obtain⟨rfl,rfl⟩:=c;simp[hh,e1,e2]
 rw[if_neg c];congr 2;exact decide_eq_decide.2 (by omega)
theorem qsu (n k:Nat)(m:Nat→Nat→Bool)(l h:Nat)(e:(m l k&&m k h)=false):fst n k m l h=fst n k m l (h+1):=by
 funext i j;unfold fst;by_cases c:i=l∧j=h
 ·obtain⟨rfl,rfl⟩:=c;rw[e];simp
 congr 2;exact decide_eq_decide.2 (by omega)
structure qbi (w W:World)(b n:Nat)(M:Nat→Nat→Bool):Prop where
 below:Below b w W
 own:W.heap[b]? = some (.cells (qan n M) 107)
theorem qbi.set (h:qbi w W b n M)(hi:i<6)(hj:j<6)(v:Bool):qbi w (W.setCell ⟨b,1+i*6+j,none⟩ (.bool v)) b n (upd M i j v) :=
 ⟨h.below.setCell (Nat.le_refl _) _,by rw[heap_setCell_same W _ _ _ _ _ h.own,qhg n M i j v hi hj]⟩
theorem qbi.count (h:qbi w W b n M):W.cell? ⟨b,0,none⟩=some (.int .i64 n):=(qab h.own 0).trans (qaw n M).count
theorem qbi.at_ (h:qbi w W b n M)(hi:i<6)(hj:j<6):W.cell? ⟨b,1+i*6+j,none⟩=some (.bool (M i j)):=(qab h.own _).trans ((qaw n M).at_ i j hi hj)
theorem qbi.frozen (h:qbi w W b n M)(j:Nat):W.frozen? ⟨b,j,none⟩=false:=frozen_of_row W b j _ _ h.own
theorem qbi.drew (h:qbi w W b n M):qbi w W.drew b n M:=⟨h.below.drew,h.own⟩
theorem qni (b n:Nat)(m:Nat→Nat→Bool)(hn:n≤6)(w:World)(hown:w.heap[b]? = some (.cells (qan n m) 107)):Calls prog 180 #[.pointer (some ⟨b,0,none⟩)] w fun e w'=>e=.returned (.tuple #[])∧qbi w w' b n (qhY n n m):=by
 have HT:Hid (qbi w w b n (qhY n 0 m)):=⟨Below.refl _ _,hown⟩
 have hc0:=HT.out.count;go_enter func180,ntmps180;go_wp2
 go_loopg [9,2] n (fun g x y wr=>∃k:Nat,Hid (k+g=n)∧x=.int .i64 k∧Hid (qbi w wr b n (qhY n k m)))
 case atStart=>exact⟨0,by show _=_;omega,rfl,HT⟩
 case round =>
  obtain⟨k,hk,rfl,HK⟩:=hrel;have hc0:=HK.out.count
  cases gk with
  |zero =>
   have hlt:¬(k:Int)<n:=by have:=hk.out;omega
   go_wp2;go_end0;have e:k=n:=by have:=hk.out;omega
   exact⟨rfl,by have:=HK.out;rw[e] at this;exact this⟩
  |succ g =>
   have hlt:(k:Int)<n:=by have:=hk.out;omega
   have hk6:k<6:=by omega
   go_wp2
   go_loopg [16,3] n (fun g x y wr=>∃l:Nat,Hid (l+g=n)∧x=.int .i64 l∧Hid (qbi w wr b n (fst n k (qhY n k m) l 0)))
   case atStart=>exact⟨0,by show _=_;omega,rfl,by rw[qrS];exact HK⟩
   case round =>
    obtain⟨l,hl,rfl,HL⟩:=hrel;have hc0:=HL.out.count
    cases gk with
    |zero =>
     have hll:¬(l:Int)<n:=by have:=hl.out;omega
     go_wp2;go_roundg g
     case measure=>omega
     case rel =>
      have e:l=n:=by have:=hl.out;omega
      exact⟨k+1,by show _=_;have:=hk.out;omega,by go_num,by have:=HL.out;rw[e] at this;exact this⟩
    |succ g2 =>
     have hll:(l:Int)<n:=by have:=hl.out;omega
     have hl6:l<6:=by omega
     go_wp2
     go_loopg [23,4] n (fun g x y wr=>∃h:Nat,Hid (h+g=n)∧x=.int .i64 h∧Hid (qbi w wr b n (fst n k (qhY n k m) l h)))
     case atStart=>exact⟨0,by show _=_;omega,rfl,HL⟩
     case round =>
      obtain⟨h,hh,rfl,HH⟩:=hrel
      cases gk with
      |zero =>
       have hhl:¬(h:Int)<n:=by have:=hh.out;omega
       go_wp2;go_roundg g2
       case measure=>omega
       case rel =>
        have e:h=n:=by have:=hh.out;omega
        exact⟨l+1,by show _=_;have:=hl.out;omega,by go_num,by have:=HH.out;rw[e,qsF] at this;exact this⟩
      |succ g3 =>
       have hhl:(h:Int)<n:=by have:=hh.out;omega
       have hh6:h<6:=by omega
       have c1:=HH.out.at_ hl6 hk6;have c2:=HH.out.at_ hk6 hh6;have c3:=HH.out.at_ hl6 hh6;have c4:=HH.out.frozen (1+l*6+h);rw[qoG] at c1;rw[qlC] at c2;generalize hM:qhY n k m=M at *;cases e1:M l k
       ·rw[e1] at c1;have HE:Hid ((M l k&&M k h)=false):=by show _=_;rw[e1];rfl
        go_wp2;go_roundg g3
        case measure=>omega
        case rel=>exact⟨h+1,by show _=_;have:=hh.out;omega,by go_num,by have:=HH.out;rw[qsu n k M l h HE.out] at this;exact this⟩
       rw[e1] at c1;cases e2:M k h
       ·rw[e2] at c2;have HE:Hid ((M l k&&M k h)=false):=by show _=_;rw[e1,e2];rfl
        go_wp2;go_roundg g3
        case measure=>omega
        case rel=>exact⟨h+1,by show _=_;have:=hh.out;omega,by go_num,by have:=HH.out;rw[qsu n k M l h HE.out] at this;exact this⟩
       rw[e2] at c2;have HE1:=qaa e1;have HE2:=qaa e2;generalize hV:fst n k M l h l h=v0 at c3;go_wp2;go_roundg g3
       case measure=>omega
       case rel=>exact⟨h+1,by show _=_;have:=hh.out;omega,by go_num,by have:=HH.out.set hl6 hh6 true;rw[qt6 n k M l h (by omega) HE1.out HE2.out] at this;exact this⟩
end
end Go.Proofs.YtllcbnfmihfaaaaGreatDoor
