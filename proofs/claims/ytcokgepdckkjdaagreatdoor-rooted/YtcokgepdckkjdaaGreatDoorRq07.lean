import Derived.Laws.ResultCell
import Derived.Deep.OwnRows
import Derived.Test.YtcokgepdckkjdaaGreatDoorShelf
import Derived.Laws.Runes
import Derived.Laws.RangeAny
import Derived.Test.YtcokgepdckkjdaaGreatDoorRq01
set_option maxRecDepth 100000
set_option maxHeartbeats 8000000
namespace Go.Proofs.YtcokgepdckkjdaaGreatDoor
open Go.Proofs.Tryz
variable {W w:World}{a:Act}{L:List (Int×Int)}{b k n:Nat}{M:Nat->Nat->Bool}{S:Nat->Bool}{Q:Exit->Act->World->Prop}
section
open Go.RowKit
theorem qap {P:Program}{fn:Func}{p u:Tmp}{ty:TypeId}(h:fn.results=#[.cell p ty,.tmp u])(a:Array Value)(w:World)(g:Nat)(t:TypeId)(cs:Array Value)(b:Nat×Nat)(d:TypeDesc)(f:a.getD p undef=.pointer (some ⟨g,0,none⟩))(e:w.heap[g]? = some (.cells cs t b))(i:P.underlying ty=some d)(c:(match d with|.struct _|.array _ _=>true|_=>false)=true)(hi:(P.info? ty).map (·.size)=some cs.size)(v:Value)(j:a.getD u undef=v):(results fn a).run P w=.ok (.tuple #[.agg cs,v]) w:=by
 subst j;rw[results_cell_tmp h,f];simp only[asAddr,Sem.run_pure,Result.andThen_ok,run_loadVar_row w g t ty cs b d e i c hi]
structure qaY (w:World)(a:Option Addr)(L:List (Int×Int)):Prop where
 at_:∀i (h:i<L.length),∃b off,a=some ⟨b,off,none⟩/\b<w.heap.size/\w.cell? ⟨b,off+i*2,none⟩=some (.int .i64 L[i].1)/\w.cell? ⟨b,off+i*2+1,none⟩=some (.int .i64 L[i].2)
theorem qaY.below {w':World}{a:Option Addr}(h:qaY w a L)(c:Below w.heap.size w w'):qaY w' a L :=
 ⟨fun i j=>by
  obtain⟨b,off,g,d,e,f⟩:=h.at_ i j;exact⟨b,off,g,Nat.lt_of_lt_of_le d c.size,(c.cell (p:=⟨b,_,none⟩) d).trans e,(c.cell (p:=⟨b,_,none⟩) d).trans f⟩⟩
def qcu (n:Nat)(e:Int×Int):Bool:=qbC n e.1&&qbC n e.2 && !(e.1==e.2)
def qnI (k:Nat):Nat->Nat->Bool:=fun i j=>decide (i=j/\i<k)
theorem qor (k:Nat):upd (qnI k) k k true=qnI (k+1):=by
 funext i j;unfold upd qnI;by_cases c:i=k/\j=k
 ·obtain⟨rfl,rfl⟩:=c;simp
 rw[if_neg c];exact decide_eq_decide.2 (by omega)
theorem qpd:qnI 0=fun _ _=>false:=by funext i j;simp[qnI]
def qnl (m:Nat->Nat->Bool)(e:Int×Int):Nat->Nat->Bool:=upd m e.1.toNat e.2.toNat true
def qer (n:Nat)(L:List (Int×Int)):Nat->Nat->Bool:=L.foldl qnl (qnI n)
theorem qne (n:Nat)(L:List (Int×Int))(k:Nat)(h:k<L.length):qer n (L.take (k+1))=qnl (qer n (L.take k)) L[k]:=by
 unfold qer;rw[List.take_succ_eq_append_getElem h,List.foldl_append];rfl
def qaO (n:Nat)(L:List (Int×Int)):Bool:=L.all (qcu n)
theorem qc3 (h:k<L.length)(e:qcu n L[k]=false):qaO n L=false:=by
 unfold qaO;rw[List.all_eq_false];exact⟨L[k],List.getElem_mem h,by rw[e];decide⟩
theorem qhi (h:∀k (h:k<L.length),qcu n L[k]=true):qaO n L=true:=by
 unfold qaO;rw[List.all_eq_true];intro x b;obtain⟨k,a,rfl⟩:=List.getElem_of_mem b;exact h k a
def qbx (c:Int)(L:List (Int×Int)):Bool:=decide (1<=c/\c<=6/\L.length<=30)&&qaO c.toNat L
def qcF (n:Nat)(L:List (Int×Int)):Nat->Nat->Bool:=qhY n n (qer n L)
def qwB (n:Nat)(L:List (Int×Int)):Value:=if qaO n L then .tuple #[.agg (qan n (qcF n L)),.bool true] else .tuple #[.agg qaB,.bool false]
theorem qhG (h:qaO n L=false):qwB n L=.tuple #[.agg qaB,.bool false]:=by unfold qwB;rw[h];rfl
theorem qlN (h:qaO n L=true):qwB n L=.tuple #[.agg (qan n (qcF n L)),.bool true]:=by unfold qwB;rw[h];rfl
theorem qbi.trans {W':World}(h:qbi w W b n M)(k:Below W.heap.size W W'):qbi w W' b n M:=by
 have a:b<W.heap.size:=ltA h.own;exact⟨h.below.trans (k.mono (by omega)),(k.block b a).trans h.own⟩
theorem qbi.lt (h:qbi w W b n M):b<W.heap.size:=ltA h.own
theorem qbi.alloc (h:qbi w W b n M)(o:Obj):qbi w (W.alloc o) b n M:=h.trans ((Below.refl _ _).alloc (Nat.le_refl _) o)
theorem quQ (c:Int)(L:List (Int×Int))(a:Option Addr)(f:Nat)(i:L.length<=maxLen)(w:World)(j:¬(1<=c/\c<=6/\L.length<=30)):Calls prog 79 #[.int .i64 c,.slice a L.length f] w fun e k=>e=.returned (.tuple #[.agg qaB,.bool false])/\Below w.heap.size w k:=by
 unfold maxLen at i;have b:Hid ((w.alloc (.cells qaB 87)).heap[w.heap.size]? = some (.cells qaB 87)):=qac _ _;have d:Hid (qaB.size=qaB.size):=rfl;have key:c<1\/(1<=c/\6<c)\/(1<=c/\c<=6/\(30:Int)<L.length):=by omega
 clear j;rcases key with h|⟨h,g⟩|⟨h,g,l⟩
 all_goals
  go_enter func79,ntmps79
  go_wp2_with (first
   |(refine qas rfl rfl _ rfl w.heap.size rfl ?_)
   |(refine qak rfl 87 _ rfl _ rfl _ [] ?hl qbE ?_;case hl=>simp)
   |(refine wpList_store_row rfl 87 _ _ rfl _ _ rfl rfl 87 qaB b.out (qar (qae _ _)) d.out (qa5 _ _) ?_;rw[World.setRow_alloc_new]))
  refine bodyPost_ret (qap results79 _ _ w.heap.size 87 qaB (0,0) _ rfl b.out underlying87 rfl (qar (qae _ _)) (.bool false) rfl) rfl ⟨rfl,bwA⟩
theorem qqK (w:World)(n:Nat):qbi (w.alloc (.cells qaB 87)) (((w.alloc (.cells qaB 87)).alloc (.cells qaB 87)).setRow (w.heap.size+1) (qan n fun _ _=>false)) (w.heap.size+1) n (qnI 0):=by
 refine⟨qah ((Below.refl _ _).alloc (by simp) _) (Nat.le_refl _) _,?_⟩;rw[qpd];refine setRow_heap _ _ qaB _ 87 (0,0) ?_;have:=qac (w.alloc (.cells qaB 87)) (.cells qaB 87);rwa [World.size_alloc] at this
theorem qsi (n:Nat)(h1:1<=n)(hn:n<=6)(L:List (Int×Int))(a:Option Addr)(ab:Nat)(hL:L.length<=30)(w:World)(U:qaY w a L):Calls prog 79 #[.int .i64 n,.slice a L.length ab] w fun e w'=>e=.returned (qwB n L)/\Below w.heap.size w w':=by
 have HE:Hid (qaY w a L):=U;clear U;have d:Hid ((w.alloc (.cells qaB 87)).heap[w.heap.size]? = some (.cells qaB 87)):=qac _ _;have P:Hid (((w.alloc (.cells qaB 87)).alloc (.cells qaB 87)).heap[w.heap.size+1]? = some (.cells qaB 87)):=by
  have:=qac (w.alloc (.cells qaB 87)) (.cells qaB 87);rw[World.size_alloc] at this;exact this
 have S:Hid (qaB.size=(qan n fun _ _=>false).size):=by rw[qae];exact qae _ _
 have H:=qqK w n;have m:Hid (Below w.heap.size w (w.alloc (.cells qaB 87))):=bwA;have ag:Hid ((w.alloc (.cells qaB 87)).heap.size=w.heap.size+1):=by show _=_;simp
 generalize hW:((w.alloc (.cells qaB 87)).alloc (.cells qaB 87)).setRow (w.heap.size+1) (qan n fun _ _=>false)=W at H;have O:Hid (_=W):=hW;clear hW;have R:Hid (qbi (w.alloc (.cells qaB 87)) W (w.heap.size+1) n (qnI 0)):=H;clear H;go_enter func79,ntmps79
 go_wp2_with (first
  |(refine qas rfl rfl _ rfl w.heap.size rfl ?_)
  |(refine qas rfl rfl _ rfl (w.heap.size+1) ?hN ?_;case hN=>(simp only[World.size_alloc];done))
  |(refine qak rfl 87 _ rfl _ rfl _ [(0,.int .i64 n)] ?hl (qiZ n) ?_;case hl=>simp[go_sem])
  |(refine wpList_store_row rfl 87 _ _ rfl _ _ rfl rfl 87 qaB P.out (qar (qae _ _)) S.out (qa5 _ _) ?_;rw[O.out]))
 clear O P S;generalize w.alloc (.cells qaB 87)=W0 at *
 go_loopg [25,7] n (fun g x y wr=>∃k:Nat,Hid (k+g=n)/\x=.int .i64 k/\Hid (qbi W0 wr (w.heap.size+1) n (qnI k)))
 case atStart=>exact⟨0,by show _=_;omega,rfl,R⟩
 case round =>
  clear R;obtain⟨k,C,rfl,o⟩:=hrel
  cases gk with
  |succ g =>
   have b:(k:Int)<n:=by have:=C.out;omega
   have D:k<6:=by omega
   have A:=o.out.at_ D D;have c2:=o.out.frozen (1+k*6+k);generalize qnI k k k=v0 at A;go_wp2;go_roundg g
   case measure=>omega
   case rel=>exact⟨k+1,by show _=_;have:=C.out;omega,by go_num,by have:=o.out.set D D true;rw[qor] at this;exact this⟩
  |zero =>
   have b:¬(k:Int)<n:=by have:=C.out;omega
   have e:k=n:=by have:=C.out;omega
   subst e;go_wp2
   go_loopg [36,9] L.length (fun g x y wr=>∃q:Nat,Hid (q+g=L.length)/\x=.int .i64 q/\Hid (qbi W0 wr (w.heap.size+1) k (qer k (L.take q)))/\Hid (∀i (h:i<L.length),i<q->qcu k L[i]=true))
   case atStart=>exact⟨0,by show _=_;omega,rfl,o,fun i h hi=>by omega⟩
   case round =>
    clear o;obtain⟨q,r,rfl,u,G⟩:=hrel
    cases gk with
    |zero =>
     have ad:¬(q:Int)<L.length:=by have:=r.out;omega
     have HY:Hid (qaO k L=true):=qhi (fun i h=>G.out i h (by have:=r.out;omega));have Q:Hid (qbi W0 wr (w.heap.size+1) k (qer k L)):=by
      have:=u.out;rw[List.take_of_length_le (by have:=r.out;omega)] at this;exact this
     clear u G;have T:=qni (w.heap.size+1) k (qer k L) hn wr Q.out.own
     go_wp2_with (first
      |(go_at_call 105;refine T.mono ?_;clear T;rintro e s ⟨rfl,N⟩;have c:Hid (qbi W0 s (w.heap.size+1) k (qcF k L)):=⟨Q.out.below.trans N.below,N.own⟩;clear N)
      |(refine wpList_load_row rfl 87 _ rfl _ rfl _ _ _ _ c.out.own underlying87 rfl (qar (qae _ _)) ?_)
      |(refine wpList_store_row rfl 87 _ _ rfl _ _ rfl rfl 87 qaB ((c.out.below.block _ (by omega)).trans d.out) (qar (qae _ _)) (by rw[qae];exact qae _ _) (qa5 _ _) ?_))
     refine bodyPost_ret (qap results79 _ _ w.heap.size 87 (qan k (qcF k L)) (0,0) _ rfl (setRow_heap _ _ qaB _ _ _ ((c.out.below.block _ (by omega)).trans d.out)) underlying87 rfl (qar (qae _ _)) (.bool true) rfl) rfl ⟨by rw[qlN HY.out],qah (m.out.trans (c.out.below.mono (by omega))) (Nat.le_refl _) _⟩
    |succ g =>
     have ad:(q:Int)<L.length:=by have:=r.out;omega
     obtain⟨ah,off,rfl,b,e1,e2⟩:=(HE.out.below (m.out.trans ((u.out.below.mono (by omega))))).at_ q (by omega);have I:Hid ((wr.alloc (.cells #[.int .i64 L[q].1,.int .i64 L[q].2] 32)).heap[wr.heap.size]? = some (.cells #[.int .i64 L[q].1,.int .i64 L[q].2] 32)):=qac _ _;have c:Hid (qbi W0 (wr.alloc (.cells #[.int .i64 L[q].1,.int .i64 L[q].2] 32)) (w.heap.size+1) k (qer k (L.take q))):=u.out.alloc _;have f:Hid (qcu k L[q]=qcu k (L[q].1,L[q].2)):=rfl;have t:Hid (qer k (L.take (q+1))=qnl (qer k (L.take q)) (L[q].1,L[q].2)):=qne k L q (by omega);have A:=qe9 _ k (qaw k (qer k (L.take q))).count L[q].1 (wr.alloc (.cells #[.int .i64 L[q].1,.int .i64 L[q].2] 32));generalize L[q].1=x at *;generalize L[q].2=y at *;generalize qer k (L.take q)=M at *
     go_wp2_with (first
      |(refine wpList_load_row rfl 87 _ rfl _ rfl _ _ _ _ c.out.own underlying87 rfl (qar (qae _ _)) ?_)
      |(refine qaf 87 _ rfl rfl _ rfl _ _ _ _ c.out.own underlying87 rfl (qar (qae _ _)) ?_))
     refine A.mono ?_;clear A;rintro e s ⟨rfl,B⟩;have p:Hid (qbi W0 s (w.heap.size+1) k M):=c.out.trans B;clear c;have c:=p;clear p;have V:=(qab ((B.block _ (by simp)).trans I.out) 0)
     have X:=(qab ((B.block _ (by simp)).trans I.out) 1)
     have v:Hid (s.heap[wr.heap.size]? = some (.cells #[.int .i64 x,.int .i64 y] 32)):=(B.block _ (by simp)).trans I.out;have c2:=qe9 _ k (qaw k M).count y s;cases E:qbC k x
     ·have l:Hid (qaO k L=false):=qc3 (k:=q) (by omega) (by rw[f.out];unfold qcu;rw[E];rfl);clear E t f
      go_wp2_with (first
       |(refine qak rfl 87 _ rfl _ rfl _ [] ?hl qbE ?_;case hl=>simp)
       |(refine wpList_store_row rfl 87 _ _ rfl _ _ rfl rfl 87 qaB ((c.out.below.block _ (by omega)).trans d.out) (qar (qae _ _)) rfl (qa5 _ _) ?_))
      refine bodyPost_ret (qap results79 _ _ w.heap.size 87 qaB (0,0) _ rfl (setRow_heap _ _ qaB _ _ _ ((c.out.below.block _ (by omega)).trans d.out)) underlying87 rfl (qar (qae _ _)) (.bool false) rfl) rfl ⟨by rw[qhG l.out],qah (m.out.trans (c.out.below.mono (by omega))) (Nat.le_refl _) _⟩
     have z:=qaa E;clear E
     go_wp2_with (first
      |(refine wpList_load_row rfl 87 _ rfl _ rfl _ _ _ _ c.out.own underlying87 rfl (qar (qae _ _)) ?_)
      |(refine qaf 87 _ rfl rfl _ rfl _ _ _ _ c.out.own underlying87 rfl (qar (qae _ _)) ?_))
     refine c2.mono ?_;clear c2;rintro e w3 ⟨rfl,K⟩;have p:Hid (qbi W0 w3 (w.heap.size+1) k M):=c.out.trans K;clear c;have c:=p;clear p;clear V X;have V:=(qab ((K.block _ (ltA v.out)).trans v.out) 0)
     have X:=(qab ((K.block _ (ltA v.out)).trans v.out) 1)
     cases F:qbC k y
     ·have l:Hid (qaO k L=false):=qc3 (k:=q) (by omega) (by rw[f.out];unfold qcu;rw[F,z.out];rfl);clear F t f
      go_wp2_with (first
       |(refine qak rfl 87 _ rfl _ rfl _ [] ?hl qbE ?_;case hl=>simp)
       |(refine wpList_store_row rfl 87 _ _ rfl _ _ rfl rfl 87 qaB ((c.out.below.block _ (by omega)).trans d.out) (qar (qae _ _)) rfl (qa5 _ _) ?_))
      refine bodyPost_ret (qap results79 _ _ w.heap.size 87 qaB (0,0) _ rfl (setRow_heap _ _ qaB _ _ _ ((c.out.below.block _ (by omega)).trans d.out)) underlying87 rfl (qar (qae _ _)) (.bool false) rfl) rfl ⟨by rw[qhG l.out],qah (m.out.trans (c.out.below.mono (by omega))) (Nat.le_refl _) _⟩
     ·have J:Hid (qbC k y=true):=F;clear F;cases aa:(x==y)
      ·have l:Hid (qcu k L[q]=true):=by show _=_;rw[f.out];unfold qcu;rw[J.out,z.out,aa];rfl
       clear f;obtain⟨ae,ak⟩:0<=x/\x<k:=of_decide_eq_true z.out;obtain⟨af,al⟩:0<=y/\y<k:=of_decide_eq_true J.out
       go_wp2_with (first
     |(refine wpList_load_row rfl 87 _ rfl _ rfl _ _ _ _ c.out.own underlying87 rfl (qar (qae _ _)) ?_)
     |(refine qaf 87 _ rfl rfl _ rfl _ _ _ _ c.out.own underlying87 rfl (qar (qae _ _)) ?_)
     |(refine qak rfl 87 _ rfl _ rfl _ [] ?hl qbE ?_;case hl=>simp)
     |(refine wpList_store_row rfl 87 _ _ rfl _ _ rfl rfl 87 qaB ((c.out.below.block _ (by omega)).trans d.out) (qar (qae _ _)) rfl (qa5 _ _) ?_))
       obtain⟨i,rfl⟩:=Int.eq_ofNat_of_zero_le ae;obtain⟨j,rfl⟩:=Int.eq_ofNat_of_zero_le af;have Y:i<6:=by omega
       have Z:j<6:=by omega
       have ac:=c.out.at_ Y Z;have ai:=c.out.frozen (1+i*6+j);generalize M i j=v0 at ac
       go_region
       all_goals go_wp2
       go_roundg g
       case measure=>omega
       case rel =>
        refine⟨q+1,by show _=_;have:=r.out;omega,by go_num,?_,?_⟩
        ·have:=(c.out.set Y Z true).drew;show qbi _ _ _ _ _;rw[t.out];exact this
        intro i' h' aj;by_cases e:i'=q
        ·subst e;exact l.out
        exact G.out i' h' (by omega)
      ·have l:Hid (qaO k L=false):=qc3 (k:=q) (by omega) (by rw[f.out];unfold qcu;rw[J.out,z.out,aa];rfl);clear t f
       go_wp2_with (first
     |(refine wpList_load_row rfl 87 _ rfl _ rfl _ _ _ _ c.out.own underlying87 rfl (qar (qae _ _)) ?_)
     |(refine qaf 87 _ rfl rfl _ rfl _ _ _ _ c.out.own underlying87 rfl (qar (qae _ _)) ?_)
     |(refine qak rfl 87 _ rfl _ rfl _ [] ?hl qbE ?_;case hl=>simp)
     |(refine wpList_store_row rfl 87 _ _ rfl _ _ rfl rfl 87 qaB ((c.out.below.block _ (by omega)).trans d.out) (qar (qae _ _)) rfl (qa5 _ _) ?_))
       refine bodyPost_ret (qap results79 _ _ w.heap.size 87 qaB (0,0) _ rfl (setRow_heap _ _ qaB _ _ _ ((c.out.below.block _ (by omega)).trans d.out)) underlying87 rfl (qar (qae _ _)) (.bool false) rfl) rfl ⟨by rw[qhG l.out],qah (m.out.trans (c.out.below.mono (by omega))) (Nat.le_refl _) _⟩

end
section
open Go.RowKit Go.Deep
structure qxo (arr:Array Value)(n:Nat)(L:List (Int×Int))(ea:Option Addr)(ecap:Nat):Prop where
 size:arr.size=11
 f0:arr[0]? = some (.int .i64 n)
 f1:arr[1]? = some (.slice ea L.length ecap)
theorem qaV {arr:Array Value}(h:arr.size=11):(prog.info? 25).map (·.size)=some arr.size:=by rw[h];kernel_rfl
theorem qc4 (arr:Array Value)(n:Nat)(h:arr[0]? = some (.int .i64 n))(a:Int)(w:World):Calls prog 13 #[.agg arr,.int .i64 a] w fun e c=>e=.returned (.bool (qbC n a))/\Below w.heap.size w c:=by
 go_enter func13,ntmps13;go_wp2
 all_goals go_ret
 ·exact⟨by simp[qbC, *],bwA⟩
 exact⟨(by have b:¬0<=a:=(by omega);simp[qbC,b]),bwA⟩
def qb4 (n:Nat)(S:Nat->Bool):Array Value:=((List.range n).map fun k=>.bool (S k)).toArray
theorem qbI (n:Nat)(S:Nat->Bool):(qb4 n S).size=n:=by simp[qb4]
theorem qcE (n:Nat)(S:Nat->Bool)(k:Nat)(h:k<n):(qb4 n S)[k]? = some (.bool (S k)):=by
 simp only[qb4,List.getElem?_toArray,List.getElem?_map];rw[List.getElem?_range h];rfl
def qji (S:Nat->Bool)(k:Nat):Nat->Bool:=fun x=>if x=k then true else S x
theorem qgx (n:Nat)(S:Nat->Bool)(k:Nat):(qb4 n S).setIfInBounds k (.bool true)=qb4 n (qji S k):=by
 apply Array.ext_getElem?;intro i;rw[Array.getElem?_setIfInBounds];by_cases b:i<n
 ·rw[qcE n (qji S k) i b];by_cases a:k=i
  ·subst a;rw[if_pos rfl,if_pos (by rw[qbI];exact b)];simp[qji]
  rw[if_neg a,qcE n S i b];have:¬i=k:=fun e=>a e.symm;simp[qji,this]
 have c:(qb4 n (qji S k))[i]? = none:=Array.getElem?_eq_none (by rw[qbI];omega);have d:(qb4 n S)[i]? = none:=Array.getElem?_eq_none (by rw[qbI];omega);rw[c,d];by_cases a:k=i
 ·subst a;rw[if_pos rfl,if_neg (by rw[qbI];omega)]
 rw[if_neg a]
theorem qjh (n:Nat):madeCells #[.bool false] n=qb4 n fun _=>false:=by
 apply Array.ext_getElem?;intro i;by_cases a:i<n
 ·rw[qcE _ _ _ a];simp[madeCells,a,Nat.mod_one]
 have b:(qb4 n fun _=>false)[i]? = none:=Array.getElem?_eq_none (by rw[qbI];omega);rw[b,Array.getElem?_eq_none (by rw[size_madeCells];omega)]
def qgS (S:Nat->Bool)(e:Int×Int):Nat->Bool:=if S e.1.toNat then qji S e.2.toNat else S
def qbb (L:List (Int×Int))(S:Nat->Bool):Nat->Bool:=L.foldl qgS S
theorem qlm (L:List (Int×Int))(S:Nat->Bool)(k:Nat)(h:k<L.length):qbb (L.take (k+1)) S=qgS (qbb (L.take k) S) L[k]:=by
 unfold qbb;rw[List.take_succ_eq_append_getElem h,List.foldl_append];rfl
def qa0 (L:List (Int×Int)):Nat->(Nat->Bool)->Nat->Bool
 |0,S=>S
 |k+1,S=>qbb L (qa0 L k S)
def qa8 (a:Nat):Nat->Bool:=qji (fun _=>false) a
def qaZ (n:Nat)(L:List (Int×Int))(a b:Nat):Bool:=qa0 L n (qa8 a) b
structure qfl (w W:World)(b n:Nat)(S:Nat->Bool):Prop where
 below:Below b w W
 own:W.heap[b]? = some (.cells (qb4 n S) 4)
theorem qfl.set (h:qfl w W b n S)(k:Nat):qfl w (W.setCell ⟨b,k,none⟩ (.bool true)) b n (qji S k) :=
 ⟨h.below.setCell (Nat.le_refl _) _,by rw[heap_setCell_same W _ _ _ _ _ h.own,qgx]⟩
theorem qfl.at_ (h:qfl w W b n S)(a:k<n):W.cell? ⟨b,k,none⟩=some (.bool (S k)):=(qab h.own k).trans (qcE n S k a)
theorem qfl.frozen (h:qfl w W b n S)(k:Nat):W.frozen? ⟨b,k,none⟩=false:=frozen_of_row W b k _ _ h.own
theorem qtM (h:qaO n L=true)(c:k<L.length):∃i j:Nat,i<n/\j<n/\L[k].1=(i:Int)/\L[k].2=(j:Int):=by
 have:=List.all_eq_true.1 h L[k] (List.getElem_mem c);unfold qcu at this;simp only[Bool.and_eq_true] at this;obtain⟨⟨a,b⟩,_⟩:=this;have d:=of_decide_eq_true a;have e:=of_decide_eq_true b;exact⟨L[k].1.toNat,L[k].2.toNat,by omega,by omega,by omega,by omega⟩
theorem quL (arr:Array Value)(n:Nat)(L:List (Int×Int))(t:Option Addr)(F:Nat)(H:qxo arr n L t F)(hn:n<=6)(Y:L.length<=30)(J:qaO n L=true)(a b:Nat)(K:a<n)(M:b<n)(w:World)(I:qaY w t L):Calls prog 24 #[.agg arr,.int .i64 a,.int .i64 b] w fun e U=>e=.returned (.bool (qaZ n L a b))/\Below w.heap.size w U:=by
 have G:=H.f0;have f1:=H.f1;have A:=qaa J;have z:=qaa I;have S:=fun w=>run_make_row' (P:=prog) 109 4 (.bool false) 1 underlying109 (by kernel_rfl) rfl .i64 .i64 n (by omega) (by omega) w;rw[qjh] at S;have r:Hid ((w.alloc (.cells arr 25)).heap[w.heap.size]? = some (.cells arr 25)):=qac _ _;have o:Hid (Below w.heap.size w (w.alloc (.cells arr 25))):=bwA;have V:Hid ((w.alloc (.cells arr 25)).heap.size=w.heap.size+1):=by show _=_;simp
 have B:Hid (qfl (w.alloc (.cells arr 25)) ((w.alloc (.cells arr 25)).alloc (.cells ((qb4 n fun _=>false).setIfInBounds a (.bool true)) 4)) (w.heap.size+1) n (qa8 a)):=by
  refine⟨(Below.refl _ _).alloc (by simp) _,?_⟩;have:=qac (w.alloc (.cells arr 25)) (.cells ((qb4 n fun _=>false).setIfInBounds a (.bool true)) 4);rw[World.size_alloc] at this;rw[this,qgx];rfl
 have Z:=qcE n (fun _=>false) a K;go_enter func24,ntmps24;go_wp2;generalize (w.alloc (.cells arr 25)).alloc (.cells ((qb4 n fun _=>false).setIfInBounds a (.bool true)) 4)=W1 at *;generalize w.alloc (.cells arr 25)=W0 at *
 go_loopg [8] n (fun g x wr=>∃k:Nat,Hid (k+g=n)/\x=.int .i64 k/\Hid (qfl W0 wr (w.heap.size+1) n (qa0 L k (qa8 a))))
 case atStart=>exact⟨0,by show _=_;omega,rfl,B⟩
 case round =>
  obtain⟨k,m,rfl,h⟩:=hrel;have ab:=(qab ((h.out.below.block _ (by omega)).trans r.out) 0).trans G
  cases gk with
  |zero =>
   have R:¬(k:Int)<n:=by have:=m.out;omega
   have e:k=n:=by have:=m.out;omega
   subst e;have N:=h.out.at_ M;have d:Hid (qa0 L k (qa8 a) b=qaZ k L a b):=rfl;generalize qa0 L k (qa8 a) b=v0 at N d;go_wp2;go_ret;exact⟨by rw[<-d.out];rfl,o.out.trans (h.out.below.mono (by omega))⟩
  |succ g =>
   have R:(k:Int)<n:=by have:=m.out;omega
   go_wp2
   go_loopg [9] L.length (fun g x wr=>∃q:Nat,Hid (q+g=L.length)/\x=.int .i64 q/\Hid (qfl W0 wr (w.heap.size+1) n (qbb (L.take q) (qa0 L k (qa8 a)))))
   case atStart=>exact⟨0,by show _=_;omega,rfl,h⟩
   case round =>
    obtain⟨q,f,rfl,c⟩:=hrel;have ac:=(qab ((c.out.below.block _ (by omega)).trans r.out) 1).trans f1
    cases gk with
    |zero =>
     have T:¬(q:Int)<L.length:=by have:=f.out;omega
     go_wp2;go_roundg g
     case measure=>omega
     case rel =>
      refine⟨k+1,by show _=_;have:=m.out;omega,by go_num,?_⟩;have:=c.out;rw[List.take_of_length_le (by have:=f.out;omega)] at this;exact this
    |succ y =>
     have T:(q:Int)<L.length:=by have:=f.out;omega
     obtain⟨i,j,O,Q,u,v⟩:=qtM A.out (k:=q) (by omega);obtain⟨W,off,rfl,aa,D,E⟩:=(z.out.below (o.out.trans (c.out.below.mono (by omega)))).at_ q (by omega);have p:Hid (qbb (L.take (q+1)) (qa0 L k (qa8 a))=if qbb (L.take q) (qa0 L k (qa8 a)) i then qji (qbb (L.take q) (qa0 L k (qa8 a))) j else qbb (L.take q) (qa0 L k (qa8 a))):=by
      show _=_;rw[qlm L _ q (by omega)];unfold qgS;rw[u,v];rfl
     rw[u] at D;rw[v] at E;have s:=c.out.at_ O;have C:=c.out.at_ Q;have X:=c.out.frozen j;cases l:qbb (L.take q) (qa0 L k (qa8 a)) i
     ·rw[l] at s;have d:Hid (qbb (L.take (q+1)) (qa0 L k (qa8 a))=qbb (L.take q) (qa0 L k (qa8 a))):=by show _=_;rw[p.out,l];rfl
      go_wp2;go_roundg y
      case measure=>omega
      case rel=>exact⟨q+1,by show _=_;have:=f.out;omega,by go_num,by show qfl _ _ _ _ _;rw[d.out];exact c.out⟩
     rw[l] at s;have d:Hid (qbb (L.take (q+1)) (qa0 L k (qa8 a))=qji (qbb (L.take q) (qa0 L k (qa8 a))) j):=by show _=_;rw[p.out,l];rfl
     generalize qbb (L.take q) (qa0 L k (qa8 a)) j=v0 at C;go_wp2;go_roundg y
     case measure=>omega
     case rel=>exact⟨q+1,by show _=_;have:=f.out;omega,by go_num,by show qfl _ _ _ _ _;rw[d.out];exact c.out.set j⟩

end
section
open Go.RowKit Go.Shelf
theorem qf1 {K:Act->World->Prop}(h:Q .ret a w):Exit.then K Q .ret a w:=h
theorem qdT (h:Q .ret a w):Exit.inBlock n Q .ret a w:=h
theorem qbU (h:Q .ret a w):Exit.noGoto Q .ret a w:=h
theorem qh9 (s:ByteArray)(o:s.size=5)(b:∀i (h:i<s.size),(s[i]'h).toNat<128)(w:World):Calls prog 175 #[.string s,.int .i32 65533] w fun e k=>e=.returned (.int .i64 (-1))/\Below w.heap.size w k:=by
 have d:Hid (∀i (h:i<s.size),(s[i]'h).toNat<128):=b;clear b;go_enter func175,ntmps175;go_wp2
 go_loopg [5,6] 5 (fun g _ _ l=>∃i:Nat,i+g=5/\l=w.iter s i)
 case atStart=>exact⟨0,by omega,rfl⟩
 case round =>
  obtain⟨i,n,rfl⟩:=hrel
  cases gk with
  |zero =>
   obtain rfl:i=5:=by omega
   have j:=fun a=>run_next_end (P:=prog) w s 5 a (by omega);go_wp2;go_ret;exact⟨rfl,bwA⟩
  |succ g =>
   have c:i<s.size:=by omega
   have f:=d.out i (by omega);have j:=fun a=>run_next_ascii (P:=prog) w s i a c f;have m:¬((s[i]'c).toNat:Int)=65533:=by omega
   go_wp2;go_roundg g
   case measure=>omega
   case rel=>exact⟨i+1,by omega,rfl⟩
theorem qiy (s:ByteArray)(r:Int)(c:128<=r)(d:¬r=65533)(a:Lib.validRune r=false)(w:World):Calls prog 175 #[.string s,.int .i32 r] w fun e b=>e=.returned (.int .i64 (-1))/\Below w.heap.size w b:=by
 go_enter func175,ntmps175
 go_wp2_with (first|(go_at_call 189;refine(Tryz.utf8_ValidRune _ _).mono ?_;rintro e f ⟨rfl,rfl⟩;rw[a]))
 go_ret;exact⟨rfl,Below.refl _ _⟩
theorem qgG (s:ByteArray)(B:s.size=5)(o:∀i (h:i<s.size),(s[i]'h).toNat<128)(r:Int)(E:128<=r)(I:¬r=65533)(C:Lib.validRune r=true)(rs:ByteArray)(k:Nat)(J:Utf8.encode r=rs)(G:rs.size=k+1)(D:1<=k)(F:k<=3)(y:128<=(rs[k]'(by omega)).toNat)(w:World):Calls prog 175 #[.string s,.int .i32 r] w fun e n=>e=.returned (.int .i64 (-1))/\Below w.heap.size w n:=by
 have v:k<s.size:=by omega
 have f:k<rs.size:=by omega
 have K:=o k v;have H:¬((s[k]'v).toNat:Int)=((rs[k]'f).toNat:Int):=by omega
 have m:Hid (Lib.indexByte (s.extract (k+1) s.size).data.toList (rs[k]'f) = -1):=by
  show _=_;rw[<-Lib.firstIdx_eq];refine firstIdx_ascii s (k+1) s.size _ (fun b z => ?_) y;obtain⟨i,u,rfl⟩:=List.getElem_of_mem z;have A:i<s.size:=by rw[Array.length_toList] at u;exact u
  exact o i A
 have p:(((rs[k]'f).toNat:Int)).toNat.toUInt8=rs[k]'f:=by simp
 clear o;obtain rfl|rfl|rfl:k=1\/k=2\/k=3:=by omega
 all_goals
  rw[B] at m;go_enter func175,ntmps175
  go_wp2_with (first|(go_at_call 189;refine(Tryz.utf8_ValidRune _ _).mono ?_;rintro e q ⟨rfl,rfl⟩;rw[C]))
  go_step3;go_wp2
 ·have x:Lib.indexByte (List.take 3 (List.drop 2 s.data.toList)) (rs[1]'f)<0:=by
   have h:=m.out;rw[ByteArray.data_extract,Array.toList_extract,List.extract_eq_take_drop] at h;have t:Lib.indexByte (List.take 3 (List.drop 2 s.data.toList)) (rs[1]'f) = -1:=h;omega
  go_loopg [9,10,11,12] 1 (fun g a b c d l=>a=.int .i64 1/\l=q)
  case atStart=>exact⟨rfl,rfl⟩
  case round =>
   obtain⟨rfl,rfl⟩:=hrel;go_wp2;go_step3;go_wp2
   go_region
   go_wp2
   go_region_with (first|(go_at_call 188;refine(Tryz.strings_IndexByte _ _ _).mono ?_;rintro e n ⟨rfl,j⟩;rw[j,p]))
   go_wp2
   all_goals repeat (first|refine qf1 ?_|refine qdT ?_|refine qbU ?_)
   all_goals go_ret
   all_goals exact⟨rfl,(Below.refl _ _).drew.drew⟩
 ·have x:Lib.indexByte (List.take 2 (List.drop 3 s.data.toList)) (rs[2]'f)<0:=by
   have h:=m.out;rw[ByteArray.data_extract,Array.toList_extract,List.extract_eq_take_drop] at h;have t:Lib.indexByte (List.take 2 (List.drop 3 s.data.toList)) (rs[2]'f) = -1:=h;omega
  go_loopg [9,10,11,12] 1 (fun g a b c d l=>a=.int .i64 2/\l=q)
  case atStart=>exact⟨rfl,rfl⟩
  case round =>
   obtain⟨rfl,rfl⟩:=hrel;go_wp2;go_step3;go_wp2
   go_region
   go_wp2
   go_region_with (first|(go_at_call 188;refine(Tryz.strings_IndexByte _ _ _).mono ?_;rintro e n ⟨rfl,j⟩;rw[j,p]))
   go_wp2
   all_goals repeat (first|refine qf1 ?_|refine qdT ?_|refine qbU ?_)
   all_goals go_ret
   all_goals exact⟨rfl,(Below.refl _ _).drew.drew⟩
 have x:Lib.indexByte (List.take 1 (List.drop 4 s.data.toList)) (rs[3]'f)<0:=by
  have h:=m.out;rw[ByteArray.data_extract,Array.toList_extract,List.extract_eq_take_drop] at h;have t:Lib.indexByte (List.take 1 (List.drop 4 s.data.toList)) (rs[3]'f) = -1:=h;omega
 go_loopg [9,10,11,12] 1 (fun g a b c d l=>a=.int .i64 3/\l=q)
 case atStart=>exact⟨rfl,rfl⟩
 case round =>
  obtain⟨rfl,rfl⟩:=hrel;go_wp2;go_step3;go_wp2
  go_region
  go_wp2
  go_region_with (first|(go_at_call 188;refine(Tryz.strings_IndexByte _ _ _).mono ?_;rintro e n ⟨rfl,j⟩;rw[j,p]))
  go_wp2
  all_goals repeat (first|refine qf1 ?_|refine qdT ?_|refine qbU ?_)
  all_goals go_ret
  all_goals exact⟨rfl,(Below.refl _ _).drew.drew⟩
def qua (r:Int):Bool:=r==42||(r==91||(r==93||(r==47||r==46)))
theorem qoD:∀k:Nat,k<128->decide (0<=Lib.indexByte [42,91,93,47,46] k.toUInt8)=qua (k:Int):=by decide
theorem qpU:∀i (h:i<(⟨#[42,91,93,47,46]⟩:ByteArray).size),((⟨#[42,91,93,47,46]⟩:ByteArray)[i]'h).toNat<128:=by decide
theorem qfb (r:Int)(d:0<=r)(w:World):Calls prog 160 #[.string ⟨#[42,91,93,47,46]⟩,.int .i32 r] w fun e a=>e=.returned (.bool (qua r))/\Below w.heap.size w a:=by
 by_cases h:r<128
 ·refine(Tryz.strings_ContainsRune_ascii _ r w d h).mono ?_;rintro e a ⟨rfl,rfl⟩;refine⟨?_,Below.refl _ _⟩;have:=qoD r.toNat (by omega);rw[Int.toNat_of_nonneg d] at this;rw[<-this]
 have f:qua r=false:=by
  unfold qua;simp only[Bool.or_eq_false_iff,beq_eq_false_iff_ne];omega
 have g:Calls prog 175 #[.string ⟨#[42,91,93,47,46]⟩,.int .i32 r] w fun e a=>e=.returned (.int .i64 (-1))/\Below w.heap.size w a:=by
  by_cases b:r=65533
  ·subst b;exact qh9 _ rfl qpU w
  cases c:Lib.validRune r
  ·exact qiy _ r (by omega) b c w
  obtain⟨k,l,j⟩:=encode_facts r (by rw[validRune_eq];exact c) (by omega);exact qgG _ rfl qpU r (by omega) b c _ ((Utf8.encode r).size-1) rfl (by omega) (by omega) (by omega) (j (by omega)) w
 rw[f];clear f h;generalize (⟨#[42,91,93,47,46]⟩:ByteArray)=s at *;go_enter func160,ntmps160
 go_wp2_with (first|(go_at_call 175;refine g.mono ?_;rintro e m ⟨rfl,i⟩))
 go_ret;exact⟨rfl,i⟩

end
section
open Go.RowKit Go.Deep
theorem qmk (arr:Array Value)(c:Int)(L:List (Int×Int))(a:Option Addr)(b:Nat)(j:arr[0]? = some (.int .i64 c))(f1:arr[1]? = some (.slice a L.length b))(f:L.length<=maxLen)(w:World)(g:¬(1<=c/\c<=6/\L.length<=30)):Calls prog 12 #[.agg arr] w fun e i=>e=.returned (.bool false)/\Below w.heap.size w i:=by
 unfold maxLen at f;have key:c<1\/(1<=c/\6<c)\/(1<=c/\c<=6/\(30:Int)<L.length):=by omega
 clear g;rcases key with h|⟨h,d⟩|⟨h,d,k⟩
 all_goals
  go_enter func12,ntmps12;go_wp2;go_ret;exact⟨rfl,bwA⟩
theorem qnB (arr:Array Value)(n:Nat)(L:List (Int×Int))(M:Option Addr)(W:Nat)(H:qxo arr n L M W)(h1:1<=n)(hn:n<=6)(hL:L.length<=30)(w:World)(N:qaY w M L):Calls prog 12 #[.agg arr] w fun e Z=>e=.returned (.bool (qaO n L))/\Below w.heap.size w Z:=by
 have E:=H.f0;have f1:=H.f1;have s:=qaa (qaV H.size);have S:=qaa N;clear H N;have U:Hid ((w.alloc (.cells arr 25)).heap[w.heap.size]? = some (.cells arr 25)):=qac _ _;have A:Hid (Below w.heap.size w (w.alloc (.cells arr 25))):=bwA;have T:Hid ((w.alloc (.cells arr 25)).heap.size=w.heap.size+1):=by show _=_;simp
 go_enter func12,ntmps12;go_wp2;generalize w.alloc (.cells arr 25)=W0 at *
 go_loopg [3,4] L.length (fun g x y wr=>∃q:Nat,Hid (q+g=L.length)/\x=.int .i64 q/\Below (w.heap.size+1) W0 wr/\Hid (∀i (h:i<L.length),i<q->qcu n L[i]=true))
 case atStart=>exact⟨0,by show _=_;omega,rfl,Below.refl _ _,fun i h hi=>by omega⟩
 case round =>
  obtain⟨q,F,rfl,u,K⟩:=hrel;have G:=qaa ((u.block _ (by omega)).trans U.out);have aa:=(qab G.out 1).trans f1;have P:=u.size;rw[T.out] at P
  cases gk with
  |zero =>
   have Y:¬(q:Int)<L.length:=by have:=F.out;omega
   have V:=qaa (qhi (fun i h=>K.out i h (by have:=F.out;omega)));go_wp2;go_ret;exact⟨by rw[V.out];rfl,A.out.trans (u.mono (by omega))⟩
  |succ g =>
   have Y:(q:Int)<L.length:=by have:=F.out;omega
   obtain⟨b,off,rfl,ac,e1,e2⟩:=(S.out.below (A.out.trans (u.mono (by omega)))).at_ q (by omega);have I:Hid ((wr.alloc (.cells #[.int .i64 L[q].1,.int .i64 L[q].2] 32)).heap[wr.heap.size]? = some (.cells #[.int .i64 L[q].1,.int .i64 L[q].2] 32)):=qac _ _;have c:Hid ((wr.alloc (.cells #[.int .i64 L[q].1,.int .i64 L[q].2] 32)).heap[w.heap.size]? = some (.cells arr 25)):=(Below.heap_alloc _ _ _ (by omega)).trans G.out;have m:Hid (qcu n L[q]=qcu n (L[q].1,L[q].2)):=rfl;have j:=qc4 arr n E L[q].1 (wr.alloc (.cells #[.int .i64 L[q].1,.int .i64 L[q].2] 32));generalize L[q].1=x at *;generalize L[q].2=y at *;have D:Hid (Below (w.heap.size+1) W0 (wr.alloc (.cells #[.int .i64 x,.int .i64 y] 32))):=u.alloc P _;clear G u;cases v:qbC n x
   ·rw[v] at j;have r:Hid (qaO n L=false):=qc3 (k:=q) (by omega) (by rw[m.out];unfold qcu;rw[v];rfl);clear v m
    go_wp2_with (first
     |(refine wpList_load_row rfl 25 _ rfl _ rfl _ _ _ _ c.out underlying25 rfl s.out ?_)
     |(go_at_call 13;refine j.mono ?_;clear j;rintro e z ⟨rfl,d⟩))
    go_ret;exact⟨by rw[r.out];rfl,(A.out.trans (D.out.mono (by omega))).trans (d.mono (by simp;omega))⟩
   rw[v] at j;have J:=qaa v;clear v;cases B:qbC n y
   ·have r:Hid (qaO n L=false):=qc3 (k:=q) (by omega) (by rw[m.out];unfold qcu;rw[B,J.out];rfl);have t:=qaa B;clear B m
    go_wp2_with (first
     |(refine wpList_load_row rfl 25 _ rfl _ rfl _ _ _ _ c.out underlying25 rfl s.out ?_)
     |(refine qaf 25 _ rfl rfl _ rfl _ _ _ _ c.out underlying25 rfl s.out ?_)
     |(go_at_call 13;refine j.mono ?_;clear j;rintro e z ⟨rfl,d⟩;have l:=qaa ((d.block _ (by simp;omega)).trans c.out);clear c;have c:=l;clear l;have a:=qaa ((d.block _ (by simp)).trans I.out);have o:=qab a.out 0;have p:=qab a.out 1;have c2:=qc4 arr n E y z;rw[t.out] at c2)
     |(go_at_call 13;refine c2.mono ?_;clear c2;rintro e R ⟨rfl,f⟩;clear o p;have o:=(qab ((f.block _ (ltA a.out)).trans a.out) 0);have p:=(qab ((f.block _ (ltA a.out)).trans a.out) 1)))
    have C:=d.size;rw[World.size_alloc] at C;go_ret;exact⟨by rw[r.out];rfl,((A.out.trans (D.out.mono (by omega))).trans (d.mono (by simp;omega))).trans (f.mono (by omega))⟩
   have t:=qaa B;clear B;cases O:(x==y)
   ·have r:Hid (qcu n L[q]=true):=by show _=_;rw[m.out];unfold qcu;rw[t.out,J.out,O];rfl
    clear m
    go_wp2_with (first
    |(refine wpList_load_row rfl 25 _ rfl _ rfl _ _ _ _ c.out underlying25 rfl s.out ?_)
    |(refine qaf 25 _ rfl rfl _ rfl _ _ _ _ c.out underlying25 rfl s.out ?_)
    |(go_at_call 13;refine j.mono ?_;clear j;rintro e z ⟨rfl,d⟩;have l:=qaa ((d.block _ (by simp;omega)).trans c.out);clear c;have c:=l;clear l;have a:=qaa ((d.block _ (by simp)).trans I.out);have o:=qab a.out 0;have p:=qab a.out 1;have c2:=qc4 arr n E y z;rw[t.out] at c2)
    |(go_at_call 13;refine c2.mono ?_;clear c2;rintro e R ⟨rfl,f⟩;clear o p;have o:=(qab ((f.block _ (ltA a.out)).trans a.out) 0);have p:=(qab ((f.block _ (ltA a.out)).trans a.out) 1)))
    have C:=d.size;rw[World.size_alloc] at C;go_roundg g
    case measure=>omega
    case rel =>
     refine⟨q+1,by show _=_;have:=F.out;omega,by go_num,(D.out.trans (d.mono (by simp;omega))).trans (f.mono (by omega)),?_⟩;intro Q X ab;by_cases e:Q=q
     ·subst e;exact r.out
     exact K.out Q X (by omega)
   have r:Hid (qaO n L=false):=qc3 (k:=q) (by omega) (by rw[m.out];unfold qcu;rw[t.out,J.out,O];rfl);clear m
   go_wp2_with (first
   |(refine wpList_load_row rfl 25 _ rfl _ rfl _ _ _ _ c.out underlying25 rfl s.out ?_)
   |(refine qaf 25 _ rfl rfl _ rfl _ _ _ _ c.out underlying25 rfl s.out ?_)
   |(go_at_call 13;refine j.mono ?_;clear j;rintro e z ⟨rfl,d⟩;have l:=qaa ((d.block _ (by simp;omega)).trans c.out);clear c;have c:=l;clear l;have a:=qaa ((d.block _ (by simp)).trans I.out);have o:=qab a.out 0;have p:=qab a.out 1;have c2:=qc4 arr n E y z;rw[t.out] at c2)
   |(go_at_call 13;refine c2.mono ?_;clear c2;rintro e R ⟨rfl,f⟩;clear o p;have o:=(qab ((f.block _ (ltA a.out)).trans a.out) 0);have p:=(qab ((f.block _ (ltA a.out)).trans a.out) 1)))
   have C:=d.size;rw[World.size_alloc] at C;go_ret;exact⟨by rw[r.out];rfl,((A.out.trans (D.out.mono (by omega))).trans (d.mono (by simp;omega))).trans (f.mono (by omega))⟩

end
end Go.Proofs.YtcokgepdckkjdaaGreatDoor
