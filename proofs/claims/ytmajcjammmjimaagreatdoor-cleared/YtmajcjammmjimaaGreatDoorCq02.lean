import Derived.Laws.ResultCell
import Derived.Deep.OwnRows
import Derived.RangeFuncOwn
import Derived.RangeFuncFrom
import Derived.Below
import Derived.Test.YtmajcjammmjimaaGreatDoorCq01
set_option maxRecDepth 100000
set_option maxHeartbeats 8000000
set_option linter.all false
namespace Go.Proofs.YtmajcjammmjimaaGreatDoor
open Go.Proofs.Tryz
variable{W W' w w':World}{a b h hi i j k l lo n x:Nat}{L:List (Int×Int)}{M m:Nat->Nat->Bool}{S:Nat->Bool}{e:Int×Int}
section
open Go.RowKit
theorem qap{P:Program}{fn:Func}{p u:Tmp}{ty:TypeId}(h:fn.results=#[.cell p ty,.tmp u])(a:Array Value)(w:World)(g:Nat)(t:TypeId)(cs:Array Value)(b:Nat×Nat)(d:TypeDesc)(f:a.getD p undef=.pointer (some ⟨g,0,none⟩))(e:w.heap[g]?=some (.cells cs t b))(i:P.underlying ty=some d)(c:(match d with|.struct _|.array _ _=>true|_=>false)=true)(hi:(P.info? ty).map (·.size)=some cs.size)(v:Value)(j:a.getD u undef=v):(results fn a).run P w=.ok (.tuple #[.agg cs,v]) w:=by
 subst j;rw[results_cell_tmp h,f];simp only[asAddr,kby,kaJ,kbZ w g t ty cs b d e i c hi]
structure qaZ(w:World)(a:Option Addr)(L:List (Int×Int)):Prop where
 at_:∀i (h:i<L.length),∃b off,a=some ⟨b,off,none⟩/\b<w.heap.size/\w.cell? ⟨b,off+i*2,none⟩=some (.int .i64 L[i].1)/\w.cell? ⟨b,off+i*2+1,none⟩=some (.int .i64 L[i].2)
theorem qaZ.below{a:Option Addr}(h:qaZ w a L)(c:Below w.heap.size w w'):qaZ w' a L :=
 ⟨λi j=>by
  obtain⟨b,off,g,d,e,f⟩:=h.at_ i j;exact⟨b,off,g,kai d c.size,(c.cell (p:=⟨b,_,none⟩) d).trans e,(c.cell (p:=⟨b,_,none⟩) d).trans f⟩⟩
def qcG(n:Nat)(e:Int×Int):Bool:=qbM n e.1&&qbM n e.2 && !(e.1==e.2)
def qpz(k:Nat):Nat->Nat->Bool:=λi j=>decide (i=j/\i<k)
theorem qq8(k:Nat):upd (qpz k) k k true=qpz (k+1):=by
 funext i j;unfold upd qpz;by_cases c:i=k/\j=k
 ·obtain⟨rfl,rfl⟩:=c;simp
 rw[kac c];exact kbn.2 (by omega)
theorem qrt:qpz 0=λ_ _=>false:=by funext i j;simp[qpz]
def qpb(m:Nat->Nat->Bool)(e:Int×Int):Nat->Nat->Bool:=upd m e.1.toNat e.2.toNat true
def qe8(n:Nat)(L:List (Int×Int)):Nat->Nat->Bool:=L.foldl qpb (qpz n)
theorem qo0(n:Nat)(L:List (Int×Int))(k:Nat)(h:k<L.length):qe8 n (L.take (k+1))=qpb (qe8 n (L.take k)) L[k]:=by
 unfold qe8;rw[kcj h,kcG];rfl
def qaU(n:Nat)(L:List (Int×Int)):Bool:=L.all (qcG n)
theorem qcJ(h:k<L.length)(e:qcG n L[k]=false):qaU n L=false:=by
 unfold qaU;rw[kaS];exact⟨L[k],kbC h,by rw[e];decide⟩
theorem qi5(h:∀k (h:k<L.length),qcG n L[k]=true):qaU n L=true:=by
 unfold qaU;rw[ka3];intro x b;obtain⟨k,a,rfl⟩:=kbv b;exact h k a
def qbC(c:Int)(L:List (Int×Int)):Bool:=decide (1<=c/\c<=6/\L.length<=30)&&qaU c.toNat L
def qc1(n:Nat)(L:List (Int×Int)):Nat->Nat->Bool:=qiX n n (qe8 n L)
def qyh(n:Nat)(L:List (Int×Int)):Value:=if qaU n L then .tuple #[.agg (qaq n (qc1 n L)),.bool true]else .tuple #[.agg qaF,.bool false]
theorem qjB(h:qaU n L=false):qyh n L=.tuple #[.agg qaF,.bool false]:=by unfold qyh;rw[h];rfl
theorem qn4(h:qaU n L=true):qyh n L=.tuple #[.agg (qaq n (qc1 n L)),.bool true]:=by unfold qyh;rw[h];rfl
theorem qbp.trans(h:qbp w W b n M)(k:Below W.heap.size W W'):qbp w W' b n M:=by
 have a:b<W.heap.size:=ltA h.own;exact⟨h.below.trans (k.mono (by omega)),(k.block b a).trans h.own⟩
theorem qbp.lt(h:qbp w W b n M):b<W.heap.size:=ltA h.own
theorem qbp.alloc(h:qbp w W b n M)(o:Obj):qbp w (W.alloc o) b n M:=h.trans ((kam _ _).alloc (kaf _) o)
theorem qxc(c:Int)(L:List (Int×Int))(a:Option Addr)(f:Nat)(i:L.length<=maxLen)(w:World)(j:¬(1<=c/\c<=6/\L.length<=30)):Calls prog 77 #[.int .i64 c,.slice a L.length f] w λe l=>e=.returned (.tuple #[.agg qaF,.bool false])/\Below w.heap.size w l:=by
 unfold maxLen at i;have b:Hid ((w.alloc (.cells qaF 84)).heap[w.heap.size]?=some (.cells qaF 84)):=qac _ _;have d:Hid (qaF.size=qaF.size):=rfl;have k:c<1\/(1<=c/\6<c)\/(1<=c/\c<=6/\(30:Int)<L.length):=by omega
 clear j;rcases k with h|⟨h,g⟩|⟨h,g,m⟩
 all_goals
  go_enter func77,ntmps77
  go_wp2_with(first
   |(refine qat rfl rfl _ rfl w.heap.size rfl ?_)
   |(refine qal rfl 84 _ rfl _ rfl _ [] ?hl qbN ?_;case hl=>simp)
   |(refine kan rfl 84 _ _ rfl _ _ rfl rfl 84 qaF b.out (qas (qae _ _)) d.out (qa9 _ _) ?_;rw[kaB]))
  refine kaw (qap results77 _ _ w.heap.size 84 qaF (0,0) _ rfl b.out underlying84 rfl (qas (qae _ _)) (.bool false) rfl) rfl ⟨rfl,bwA⟩
theorem qsQ(w:World)(n:Nat):qbp (w.alloc (.cells qaF 84)) (((w.alloc (.cells qaF 84)).alloc (.cells qaF 84)).setRow (w.heap.size+1) (qaq n λ_ _=>false)) (w.heap.size+1) n (qpz 0):=by
 refine⟨qai ((kam _ _).alloc (by simp) _) (kaf _) _,?_⟩;rw[qrt];refine kaA _ _ qaF _ 84 (0,0) ?_;have:=qac (w.alloc (.cells qaF 84)) (.cells qaF 84);rwa[kad]at this
theorem quV(n:Nat)(h1:1<=n)(hn:n<=6)(L:List (Int×Int))(a:Option Addr)(ab:Nat)(hL:L.length<=30)(w:World)(U:qaZ w a L):Calls prog 77 #[.int .i64 n,.slice a L.length ab] w λe w'=>e=.returned (qyh n L)/\Below w.heap.size w w':=by
 have HE:Hid (qaZ w a L):=U;clear U;have d:Hid ((w.alloc (.cells qaF 84)).heap[w.heap.size]?=some (.cells qaF 84)):=qac _ _;have P:Hid (((w.alloc (.cells qaF 84)).alloc (.cells qaF 84)).heap[w.heap.size+1]?=some (.cells qaF 84)):=by
  have:=qac (w.alloc (.cells qaF 84)) (.cells qaF 84);rw[kad]at this;exact this
 have S:Hid (qaF.size=(qaq n λ_ _=>false).size):=by rw[qae];exact qae _ _
 have H:=qsQ w n;have m:Hid (Below w.heap.size w (w.alloc (.cells qaF 84))):=bwA;have ag:Hid ((w.alloc (.cells qaF 84)).heap.size=w.heap.size+1):=by show _=_;simp
 generalize hW:((w.alloc (.cells qaF 84)).alloc (.cells qaF 84)).setRow (w.heap.size+1) (qaq n λ_ _=>false)=W at H;have O:Hid (_=W):=hW;clear hW;have R:Hid (qbp (w.alloc (.cells qaF 84)) W (w.heap.size+1) n (qpz 0)):=H;clear H;go_enter func77,ntmps77
 go_wp2_with(first
  |(refine qat rfl rfl _ rfl w.heap.size rfl ?_)
  |(refine qat rfl rfl _ rfl (w.heap.size+1) ?hN ?_;case hN=>(simp only[kad];done))
  |(refine qal rfl 84 _ rfl _ rfl _ [(0,.int .i64 n)] ?hl (qki n) ?_;case hl=>simp[go_sem])
  |(refine kan rfl 84 _ _ rfl _ _ rfl rfl 84 qaF P.out (qas (qae _ _)) S.out (qa9 _ _) ?_;rw[O.out]))
 clear O P S;generalize w.alloc (.cells qaF 84)=W0 at *
 go_loopg[25,7] n (λg x y wr=>∃k:Nat,Hid (k+g=n)/\x=.int .i64 k/\Hid (qbp W0 wr (w.heap.size+1) n (qpz k)))
 case atStart=>exact⟨0,by show _=_;omega,rfl,R⟩
 case round =>
  clear R;obtain⟨k,C,rfl,o⟩:=hrel
  cases gk with
  |succ g =>
   have b:(k:Int)<n:=by have:=C.out;omega
   have D:k<6:=by omega
   have A:=o.out.at_ D D;have c2:=o.out.frozen (1+k*6+k);generalize qpz k k k=v0 at A;go_wp2;go_roundg g
   case measure=>omega
   case rel=>exact⟨k+1,by show _=_;have:=C.out;omega,by go_num,by have:=o.out.set D D true;rw[qq8]at this;exact this⟩
  |zero =>
   have b:¬(k:Int)<n:=by have:=C.out;omega
   have e:k=n:=by have:=C.out;omega
   subst e;go_wp2
   go_loopg[36,9] L.length (λg x y wr=>∃q:Nat,Hid (q+g=L.length)/\x=.int .i64 q/\Hid (qbp W0 wr (w.heap.size+1) k (qe8 k (L.take q)))/\Hid (∀i (h:i<L.length),i<q->qcG k L[i]=true))
   case atStart=>exact⟨0,by show _=_;omega,rfl,o,λi h hi=>by omega⟩
   case round =>
    clear o;obtain⟨q,r,rfl,u,G⟩:=hrel
    cases gk with
    |zero =>
     have ad:¬(q:Int)<L.length:=by have:=r.out;omega
     have HY:Hid (qaU k L=true):=qi5 (λi h=>G.out i h (by have:=r.out;omega));have Q:Hid (qbp W0 wr (w.heap.size+1) k (qe8 k L)):=by
      have:=u.out;rw[kaU (by have:=r.out;omega)]at this;exact this
     clear u G;have T:=qoz (w.heap.size+1) k (qe8 k L) hn wr Q.out.own
     go_wp2_with(first
      |(go_at_call 94;refine T.mono ?_;clear T;rintro e s ⟨rfl,N⟩;have c:Hid (qbp W0 s (w.heap.size+1) k (qc1 k L)):=⟨Q.out.below.trans N.below,N.own⟩;clear N)
      |(refine kak rfl 84 _ rfl _ rfl _ _ _ _ c.out.own underlying84 rfl (qas (qae _ _)) ?_)
      |(refine kan rfl 84 _ _ rfl _ _ rfl rfl 84 qaF ((c.out.below.block _ (by omega)).trans d.out) (qas (qae _ _)) (by rw[qae];exact qae _ _) (qa9 _ _) ?_))
     refine kaw (qap results77 _ _ w.heap.size 84 (qaq k (qc1 k L)) (0,0) _ rfl (kaA _ _ qaF _ _ _ ((c.out.below.block _ (by omega)).trans d.out)) underlying84 rfl (qas (qae _ _)) (.bool true) rfl) rfl ⟨by rw[qn4 HY.out],qai (m.out.trans (c.out.below.mono (by omega))) (kaf _) _⟩
    |succ g =>
     have ad:(q:Int)<L.length:=by have:=r.out;omega
     obtain⟨ah,off,rfl,b,e1,e2⟩:=(HE.out.below (m.out.trans ((u.out.below.mono (by omega))))).at_ q (by omega);have I:Hid ((wr.alloc (.cells #[.int .i64 L[q].1,.int .i64 L[q].2] 42)).heap[wr.heap.size]?=some (.cells #[.int .i64 L[q].1,.int .i64 L[q].2] 42)):=qac _ _;have c:Hid (qbp W0 (wr.alloc (.cells #[.int .i64 L[q].1,.int .i64 L[q].2] 42)) (w.heap.size+1) k (qe8 k (L.take q))):=u.out.alloc _;have f:Hid (qcG k L[q]=qcG k (L[q].1,L[q].2)):=rfl;have t:Hid (qe8 k (L.take (q+1))=qpb (qe8 k (L.take q)) (L[q].1,L[q].2)):=qo0 k L q (by omega);have A:=qfn _ k (qay k (qe8 k (L.take q))).count L[q].1 (wr.alloc (.cells #[.int .i64 L[q].1,.int .i64 L[q].2] 42));generalize L[q].1=x at *;generalize L[q].2=y at *;generalize qe8 k (L.take q)=M at *
     go_wp2_with(first
      |(refine kak rfl 84 _ rfl _ rfl _ _ _ _ c.out.own underlying84 rfl (qas (qae _ _)) ?_)
      |(refine qaf 84 _ rfl rfl _ rfl _ _ _ _ c.out.own underlying84 rfl (qas (qae _ _)) ?_))
     refine A.mono ?_;clear A;rintro e s ⟨rfl,B⟩;have p:Hid (qbp W0 s (w.heap.size+1) k M):=c.out.trans B;clear c;have c:=p;clear p;have V:=(qaa ((B.block _ (by simp)).trans I.out) 0)
     have X:=(qaa ((B.block _ (by simp)).trans I.out) 1)
     have v:Hid (s.heap[wr.heap.size]?=some (.cells #[.int .i64 x,.int .i64 y] 42)):=(B.block _ (by simp)).trans I.out;have c2:=qfn _ k (qay k M).count y s;cases E:qbM k x
     ·have l:Hid (qaU k L=false):=qcJ (k:=q) (by omega) (by rw[f.out];unfold qcG;rw[E];rfl);clear E t f
      go_wp2_with(first
       |(refine qal rfl 84 _ rfl _ rfl _ [] ?hl qbN ?_;case hl=>simp)
       |(refine kan rfl 84 _ _ rfl _ _ rfl rfl 84 qaF ((c.out.below.block _ (by omega)).trans d.out) (qas (qae _ _)) rfl (qa9 _ _) ?_))
      refine kaw (qap results77 _ _ w.heap.size 84 qaF (0,0) _ rfl (kaA _ _ qaF _ _ _ ((c.out.below.block _ (by omega)).trans d.out)) underlying84 rfl (qas (qae _ _)) (.bool false) rfl) rfl ⟨by rw[qjB l.out],qai (m.out.trans (c.out.below.mono (by omega))) (kaf _) _⟩
     have z:=qab E;clear E
     go_wp2_with(first
      |(refine kak rfl 84 _ rfl _ rfl _ _ _ _ c.out.own underlying84 rfl (qas (qae _ _)) ?_)
      |(refine qaf 84 _ rfl rfl _ rfl _ _ _ _ c.out.own underlying84 rfl (qas (qae _ _)) ?_))
     refine c2.mono ?_;clear c2;rintro e w3 ⟨rfl,K⟩;have p:Hid (qbp W0 w3 (w.heap.size+1) k M):=c.out.trans K;clear c;have c:=p;clear p;clear V X;have V:=(qaa ((K.block _ (ltA v.out)).trans v.out) 0)
     have X:=(qaa ((K.block _ (ltA v.out)).trans v.out) 1)
     cases F:qbM k y
     ·have l:Hid (qaU k L=false):=qcJ (k:=q) (by omega) (by rw[f.out];unfold qcG;rw[F,z.out];rfl);clear F t f
      go_wp2_with(first
       |(refine qal rfl 84 _ rfl _ rfl _ [] ?hl qbN ?_;case hl=>simp)
       |(refine kan rfl 84 _ _ rfl _ _ rfl rfl 84 qaF ((c.out.below.block _ (by omega)).trans d.out) (qas (qae _ _)) rfl (qa9 _ _) ?_))
      refine kaw (qap results77 _ _ w.heap.size 84 qaF (0,0) _ rfl (kaA _ _ qaF _ _ _ ((c.out.below.block _ (by omega)).trans d.out)) underlying84 rfl (qas (qae _ _)) (.bool false) rfl) rfl ⟨by rw[qjB l.out],qai (m.out.trans (c.out.below.mono (by omega))) (kaf _) _⟩
     ·have J:Hid (qbM k y=true):=F;clear F;cases aa:(x==y)
      ·have l:Hid (qcG k L[q]=true):=by show _=_;rw[f.out];unfold qcG;rw[J.out,z.out,aa];rfl
       clear f;obtain⟨ae,ak⟩:0<=x/\x<k:=kaq z.out;obtain⟨af,al⟩:0<=y/\y<k:=kaq J.out
       go_wp2_with(first
     |(refine kak rfl 84 _ rfl _ rfl _ _ _ _ c.out.own underlying84 rfl (qas (qae _ _)) ?_)
     |(refine qaf 84 _ rfl rfl _ rfl _ _ _ _ c.out.own underlying84 rfl (qas (qae _ _)) ?_)
     |(refine qal rfl 84 _ rfl _ rfl _ [] ?hl qbN ?_;case hl=>simp)
     |(refine kan rfl 84 _ _ rfl _ _ rfl rfl 84 qaF ((c.out.below.block _ (by omega)).trans d.out) (qas (qae _ _)) rfl (qa9 _ _) ?_))
       obtain⟨i,rfl⟩:=kbH ae;obtain⟨j,rfl⟩:=kbH af;have Y:i<6:=by omega
       have Z:j<6:=by omega
       have ac:=c.out.at_ Y Z;have ai:=c.out.frozen (1+i*6+j);generalize M i j=v0 at ac
       go_region
       all_goals go_wp2
       go_roundg g
       case measure=>omega
       case rel =>
        refine⟨q+1,by show _=_;have:=r.out;omega,by go_num,?_,?_⟩
        ·have:=(c.out.set Y Z true).drew;show qbp _ _ _ _ _;rw[t.out];exact this
        intro i' h' aj;by_cases e:i'=q
        ·subst e;exact l.out
        exact G.out i' h' (by omega)
      ·have l:Hid (qaU k L=false):=qcJ (k:=q) (by omega) (by rw[f.out];unfold qcG;rw[J.out,z.out,aa];rfl);clear t f
       go_wp2_with(first
     |(refine kak rfl 84 _ rfl _ rfl _ _ _ _ c.out.own underlying84 rfl (qas (qae _ _)) ?_)
     |(refine qaf 84 _ rfl rfl _ rfl _ _ _ _ c.out.own underlying84 rfl (qas (qae _ _)) ?_)
     |(refine qal rfl 84 _ rfl _ rfl _ [] ?hl qbN ?_;case hl=>simp)
     |(refine kan rfl 84 _ _ rfl _ _ rfl rfl 84 qaF ((c.out.below.block _ (by omega)).trans d.out) (qas (qae _ _)) rfl (qa9 _ _) ?_))
       refine kaw (qap results77 _ _ w.heap.size 84 qaF (0,0) _ rfl (kaA _ _ qaF _ _ _ ((c.out.below.block _ (by omega)).trans d.out)) underlying84 rfl (qas (qae _ _)) (.bool false) rfl) rfl ⟨by rw[qjB l.out],qai (m.out.trans (c.out.below.mono (by omega))) (kaf _) _⟩

end
section
open Go.RowKit Go.Deep
structure q0q(arr:Array Value)(n:Nat)(L:List (Int×Int))(ea:Option Addr)(ecap:Nat):Prop where
 size:arr.size=11
 f0:arr[0]?=some (.int .i64 n)
 f1:arr[1]?=some (.slice ea L.length ecap)
theorem qaD{arr:Array Value}(h:arr.size=11):(prog.info? 25).map (·.size)=some arr.size:=by rw[h];kernel_rfl
theorem qcP(arr:Array Value)(n:Nat)(h:arr[0]?=some (.int .i64 n))(a:Int)(w:World):Calls prog 25 #[.agg arr,.int .i64 a] w λe c=>e=.returned (.bool (qbM n a))/\Below w.heap.size w c:=by
 go_enter func25,ntmps25;go_wp2
 all_goals go_ret
 ·exact⟨by simp[qbM, *],bwA⟩
 exact⟨(by have b:¬0<=a:=(by omega);simp[qbM,b]),bwA⟩
def qbK(n:Nat)(S:Nat->Bool):Array Value:=((List.range n).map λk=>.bool (S k)).toArray
theorem qbT(n:Nat)(S:Nat->Bool):(qbK n S).size=n:=by simp[qbK]
theorem qcO(n:Nat)(S:Nat->Bool)(k:Nat)(h:k<n):(qbK n S)[k]?=some (.bool (S k)):=by
 simp only[qbK,kd1,kbx];rw[kdH h];rfl
def qld(S:Nat->Bool)(k:Nat):Nat->Bool:=λx=>if x=k then true else S x
theorem qhb(n:Nat)(S:Nat->Bool)(k:Nat):(qbK n S).setIfInBounds k (.bool true)=qbK n (qld S k):=by
 apply kdf;intro i;rw[kcs];by_cases b:i<n
 ·rw[qcO n (qld S k) i b];by_cases a:k=i
  ·subst a;rw[kag rfl,kag (by rw[qbT];exact b)];simp[qld]
  rw[kac a,qcO n S i b];have:¬i=k:=λe=>a e.symm;simp[qld,this]
 have c:(qbK n (qld S k))[i]?=none:=kbO (by rw[qbT];omega);have d:(qbK n S)[i]?=none:=kbO (by rw[qbT];omega);rw[c,d];by_cases a:k=i
 ·subst a;rw[kag rfl,kac (by rw[qbT];omega)]
 rw[kac a]
theorem qkH(n:Nat):madeCells #[.bool false] n=qbK n λ_=>false:=by
 apply kdf;intro i;by_cases a:i<n
 ·rw[qcO _ _ _ a];simp[madeCells,a,Nat.mod_one]
 have b:(qbK n λ_=>false)[i]?=none:=kbO (by rw[qbT];omega);rw[b,kbO (by rw[size_madeCells];omega)]
def qh7(S:Nat->Bool)(e:Int×Int):Nat->Bool:=if S e.1.toNat then qld S e.2.toNat else S
def qbi(L:List (Int×Int))(S:Nat->Bool):Nat->Bool:=L.foldl qh7 S
theorem qlC(L:List (Int×Int))(S:Nat->Bool)(k:Nat)(h:k<L.length):qbi (L.take (k+1)) S=qh7 (qbi (L.take k) S) L[k]:=by
 unfold qbi;rw[kcj h,kcG];rfl
def qa3(L:List (Int×Int)):Nat->(Nat->Bool)->Nat->Bool
 |0,S=>S
 |k+1,S=>qbi L (qa3 L k S)
def qaB(a:Nat):Nat->Bool:=qld (λ_=>false) a
def qbe(n:Nat)(L:List (Int×Int))(a b:Nat):Bool:=qa3 L n (qaB a) b
structure qfU(w W:World)(b n:Nat)(S:Nat->Bool):Prop where
 below:Below b w W
 own:W.heap[b]?=some (.cells (qbK n S) 4)
theorem qfU.set(h:qfU w W b n S)(k:Nat):qfU w (W.setCell ⟨b,k,none⟩ (.bool true)) b n (qld S k) :=
 ⟨h.below.setCell (kaf _) _,by rw[kaO W _ _ _ _ _ h.own,qhb]⟩
theorem qfU.at_(h:qfU w W b n S)(a:k<n):W.cell? ⟨b,k,none⟩=some (.bool (S k)):=(qaa h.own k).trans (qcO n S k a)
theorem qfU.frozen(h:qfU w W b n S)(k:Nat):W.frozen? ⟨b,k,none⟩=false:=kaK W b k _ _ h.own
theorem qwT(h:qaU n L=true)(c:k<L.length):∃i j:Nat,i<n/\j<n/\L[k].1=(i:Int)/\L[k].2=(j:Int):=by
 have:=ka3.1 h L[k] (kbC c);unfold qcG at this;simp only[ka2]at this;obtain⟨⟨a,b⟩,_⟩:=this;have d:=kaq a;have e:=kaq b;exact⟨L[k].1.toNat,L[k].2.toNat,by omega,by omega,by omega,by omega⟩
theorem qx3(arr:Array Value)(n:Nat)(L:List (Int×Int))(t:Option Addr)(F:Nat)(H:q0q arr n L t F)(hn:n<=6)(Y:L.length<=30)(J:qaU n L=true)(a b:Nat)(K:a<n)(M:b<n)(w:World)(I:qaZ w t L):Calls prog 43 #[.agg arr,.int .i64 a,.int .i64 b] w λe U=>e=.returned (.bool (qbe n L a b))/\Below w.heap.size w U:=by
 have G:=H.f0;have f1:=H.f1;have A:=qab J;have z:=qab I;have S:=λw=>run_make_row' (P:=prog) 146 4 (.bool false) 1 underlying146 (by kernel_rfl) rfl .i64 .i64 n (by omega) (by omega) w;rw[qkH]at S;have r:Hid ((w.alloc (.cells arr 25)).heap[w.heap.size]?=some (.cells arr 25)):=qac _ _;have o:Hid (Below w.heap.size w (w.alloc (.cells arr 25))):=bwA;have V:Hid ((w.alloc (.cells arr 25)).heap.size=w.heap.size+1):=by show _=_;simp
 have B:Hid (qfU (w.alloc (.cells arr 25)) ((w.alloc (.cells arr 25)).alloc (.cells ((qbK n λ_=>false).setIfInBounds a (.bool true)) 4)) (w.heap.size+1) n (qaB a)):=by
  refine⟨(kam _ _).alloc (by simp) _,?_⟩;have:=qac (w.alloc (.cells arr 25)) (.cells ((qbK n λ_=>false).setIfInBounds a (.bool true)) 4);rw[kad]at this;rw[this,qhb];rfl
 have Z:=qcO n (λ_=>false) a K;go_enter func43,ntmps43;go_wp2;generalize(w.alloc (.cells arr 25)).alloc (.cells ((qbK n λ_=>false).setIfInBounds a (.bool true)) 4)=W1 at *;generalize w.alloc (.cells arr 25)=W0 at *
 go_loopg[8] n (λg x wr=>∃k:Nat,Hid (k+g=n)/\x=.int .i64 k/\Hid (qfU W0 wr (w.heap.size+1) n (qa3 L k (qaB a))))
 case atStart=>exact⟨0,by show _=_;omega,rfl,B⟩
 case round =>
  obtain⟨k,m,rfl,h⟩:=hrel;have ab:=(qaa ((h.out.below.block _ (by omega)).trans r.out) 0).trans G
  cases gk with
  |zero =>
   have R:¬(k:Int)<n:=by have:=m.out;omega
   have e:k=n:=by have:=m.out;omega
   subst e;have N:=h.out.at_ M;have d:Hid (qa3 L k (qaB a) b=qbe k L a b):=rfl;generalize qa3 L k (qaB a) b=v0 at N d;go_wp2;go_ret;exact⟨by rw[<-d.out];rfl,o.out.trans (h.out.below.mono (by omega))⟩
  |succ g =>
   have R:(k:Int)<n:=by have:=m.out;omega
   go_wp2
   go_loopg[9] L.length (λg x wr=>∃q:Nat,Hid (q+g=L.length)/\x=.int .i64 q/\Hid (qfU W0 wr (w.heap.size+1) n (qbi (L.take q) (qa3 L k (qaB a)))))
   case atStart=>exact⟨0,by show _=_;omega,rfl,h⟩
   case round =>
    obtain⟨q,f,rfl,c⟩:=hrel;have ac:=(qaa ((c.out.below.block _ (by omega)).trans r.out) 1).trans f1
    cases gk with
    |zero =>
     have T:¬(q:Int)<L.length:=by have:=f.out;omega
     go_wp2;go_roundg g
     case measure=>omega
     case rel =>
      refine⟨k+1,by show _=_;have:=m.out;omega,by go_num,?_⟩;have:=c.out;rw[kaU (by have:=f.out;omega)]at this;exact this
    |succ y =>
     have T:(q:Int)<L.length:=by have:=f.out;omega
     obtain⟨i,j,O,Q,u,v⟩:=qwT A.out (k:=q) (by omega);obtain⟨W,off,rfl,aa,D,E⟩:=(z.out.below (o.out.trans (c.out.below.mono (by omega)))).at_ q (by omega);have p:Hid (qbi (L.take (q+1)) (qa3 L k (qaB a))=if qbi (L.take q) (qa3 L k (qaB a)) i then qld (qbi (L.take q) (qa3 L k (qaB a))) j else qbi (L.take q) (qa3 L k (qaB a))):=by
      show _=_;rw[qlC L _ q (by omega)];unfold qh7;rw[u,v];rfl
     rw[u]at D;rw[v]at E;have s:=c.out.at_ O;have C:=c.out.at_ Q;have X:=c.out.frozen j;cases l:qbi (L.take q) (qa3 L k (qaB a)) i
     ·rw[l]at s;have d:Hid (qbi (L.take (q+1)) (qa3 L k (qaB a))=qbi (L.take q) (qa3 L k (qaB a))):=by show _=_;rw[p.out,l];rfl
      go_wp2;go_roundg y
      case measure=>omega
      case rel=>exact⟨q+1,by show _=_;have:=f.out;omega,by go_num,by show qfU _ _ _ _ _;rw[d.out];exact c.out⟩
     rw[l]at s;have d:Hid (qbi (L.take (q+1)) (qa3 L k (qaB a))=qld (qbi (L.take q) (qa3 L k (qaB a))) j):=by show _=_;rw[p.out,l];rfl
     generalize qbi (L.take q) (qa3 L k (qaB a)) j=v0 at C;go_wp2;go_roundg y
     case measure=>omega
     case rel=>exact⟨q+1,by show _=_;have:=f.out;omega,by go_num,by show qfU _ _ _ _ _;rw[d.out];exact c.out.set j⟩

end
section
open Go.RowKit
structure qc9(w:World)(a:Option Addr)(B:List Int):Prop where
 at_:∀i,i<B.length->∃b off,a=some ⟨b,off,none⟩/\b<w.heap.size/\∀j (h':j<B.length),w.cell? ⟨b,off+j,none⟩=some (.int .i64 B[j])
theorem qc9.below{a:Option Addr}{B:List Int}(h:qc9 w a B)(c:Below w.heap.size w w'):qc9 w' a B :=
 ⟨λi g=>by
  obtain⟨b,off,f,d,e⟩:=h.at_ i g;exact⟨b,off,f,kai d c.size,λj k=>(c.cell (p:=⟨b,_,none⟩) d).trans (e j k)⟩⟩
theorem qco{B:Nat}{a:World}(h:Below B a w)(n:Nat):Below B a (w.drewN n):=h.trans ⟨rfl,rfl,rfl,kaf _,λ_ _=>rfl⟩
def qhC(B:List Int)(i:Nat):Int:=if i=0 then 0 else B.getD (i-1) 0
def pOk(B:List Int)(i:Nat):Bool:=decide (qhC B i<B.getD i 0/\B.getD i 0<=65536)
def rOk(B:List Int)(i:Nat):Bool:=decide (1<=B.getD i 0/\B.getD i 0<=65536/\(0<i->B.getD (i-1) 0<B.getD i 0))
def qaL(B:List Int):Bool:=decide (B.length<=8)&&(List.range B.length).all (pOk B)
def qaG(B:List Int):Bool:=(List.range B.length).all (rOk B)&&decide (B.length<=8)
theorem qoO(B:List Int):qaL B=qaG B:=by
 unfold qaL qaG;rw[kdM];congr 1;rw[kcA,ka3,ka3];constructor
 ·intro h i c;have d:∀k,k<B.length->pOk B k=true:=λk b=>h k (kav.2 b);have pos:∀k,k<B.length->1<=B.getD k 0:=by
   intro k
   induction k with
   |zero=>intro b;have:=kaq (d 0 b);unfold qhC at this;simp only[kag]at this;omega
   |succ k g =>
    intro b;have:=kaq (d (k+1) b);unfold qhC at this;rw[kac (by omega)]at this;have:=g (by omega);simp only[kct]at *;omega
  have e:=kav.1 c;have a:=kaq (d i e);have f:=pos i e;refine kax ⟨f,a.2,λj=>?_⟩;unfold qhC at a;rw[kac (by omega)]at a;exact a.1
 intro h i c;have a:=kaq (h i c);refine kax ⟨?_,a.2.1⟩;unfold qhC;split
 ·omega
 exact a.2.2 (by omega)
theorem qjd(a:Option Addr)(q:Nat)(B:List Int)(t:B.length<=maxLen)(w:World)(s:qc9 w a B):Calls prog 54 #[.slice a B.length q] w λe A=>e=.returned (.bool (qaL B))/\A=w:=by
 unfold maxLen at t;have n:=qab s;by_cases m:B.length<=8
 ·have r:¬(8:Int)<B.length:=by omega
  go_enter func54,ntmps54;go_wp2
  go_loopg[11,3,5] B.length (λg x y z wr=>∃k:Nat,Hid (k+g=B.length)/\x=.int .i64 k/\y=.int .i64 (qhC B k)/\w=wr/\Hid (∀i,i<k->pOk B i=true))
  case atStart=>exact⟨0,by show _=_;omega,rfl,rfl,rfl,λi h=>by omega⟩
  case round =>
   obtain⟨k,d,rfl,rfl,rfl,l⟩:=hrel
   cases gk with
   |zero =>
    have v:¬(k:Int)<B.length:=by have:=d.out;omega
    have c:Hid (qaL B=true):=by
     show _=_;unfold qaL;rw[kax m,kbB,ka3];exact λi h=>l.out i (by have:=kav.1 h;have:=d.out;omega)
    go_wp2;go_ret;exact⟨by rw[c.out];rfl,rfl⟩
   |succ g =>
    have v:(k:Int)<B.length:=by have:=d.out;omega
    obtain⟨b,off,rfl,E,u⟩:=n.out.at_ k (by omega);have F:=u k (by omega);have j:Hid (B.getD k 0=B[k]):=by show _=_;rw[kbh,kab (by omega)];rfl
    have o:Hid (qhC B (k+1)=B[k]):=by show _=_;unfold qhC;rw[kac (by omega)];exact j.out
    have f:Hid (pOk B k=decide (qhC B k<B[k]/\B[k]<=65536)):=by show _=_;unfold pOk;rw[j.out]
    generalize B[k]=x at *;generalize qhC B k=p at *;by_cases C:x<=p
    ·have c:Hid (qaL B=false):=by
      show _=_;unfold qaL;rw[kbt];right;rw[kaS];exact⟨k,kav.2 (by omega),by rw[f.out,kaz (by omega)];decide⟩
     go_wp2;go_ret;exact⟨by rw[c.out];rfl,rfl⟩
    by_cases D:65536<x
    ·have c:Hid (qaL B=false):=by
      show _=_;unfold qaL;rw[kbt];right;rw[kaS];exact⟨k,kav.2 (by omega),by rw[f.out,kaz (by omega)];decide⟩
     go_wp2;go_ret;exact⟨by rw[c.out];rfl,rfl⟩
    go_wp2;go_roundg g
    case measure=>omega
    case rel =>
     refine⟨k+1,by show _=_;have:=d.out;omega,by go_num,by rw[o.out],rfl,λi h=>?_⟩;by_cases e:i=k
     ·subst e;rw[f.out];exact kax (by omega)
     exact l.out i (by omega)
 have r:(8:Int)<B.length:=by omega
 have c:Hid (qaL B=false):=by show _=_;unfold qaL;rw[kaz m];rfl
 go_enter func54,ntmps54;go_wp2;go_ret;exact⟨by rw[c.out];rfl,rfl⟩
theorem qhP(a:Option Addr)(t:Nat)(B:List Int)(D:B.length<=maxLen)(w:World)(C:qc9 w a B):Calls prog 29 #[.slice a B.length t] w λe G=>e=.returned (.bool (qaG B))/\Below w.heap.size w G:=by
 unfold maxLen at D;have s:=qab C;go_enter func29,ntmps29;go_wp2
 go_loopg[3] B.length (λg x wr=>∃k:Nat,Hid (k+g=B.length)/\x=.int .i64 k/\Below w.heap.size w wr/\Hid (∀i,i<k->rOk B i=true))
 case atStart=>exact⟨0,by show _=_;omega,rfl,kam _ _,λi l=>by omega⟩
 case round =>
  obtain⟨k,h,rfl,d,m⟩:=hrel
  cases gk with
  |zero =>
   have F:¬(k:Int)<B.length:=by have:=h.out;omega
   have c:Hid (qaG B=decide ((B.length:Int)<=8)):=by
    show _=_;unfold qaG;have:(List.range B.length).all (rOk B)=true:=by
     rw[ka3];exact λi l=>m.out i (by have:=kav.1 l;have:=h.out;omega)
    rw[this,kbB];exact kbn.2 (by omega)
   go_wp2;go_ret;exact⟨by rw[c.out];rfl,d⟩
  |succ g =>
   have F:(k:Int)<B.length:=by have:=h.out;omega
   obtain⟨b,off,rfl,I,q⟩:=(s.out.below d).at_ k (by omega);have E:=q k (by omega);have p:Hid (B.getD k 0=B[k]):=by show _=_;rw[kbh,kab (by omega)];rfl
   have L:(0:Int)<=k:=by omega
   rcases kdN k with r|r
   ·subst r;rw[Nat.add_zero]at E;have f:Hid (rOk B 0=decide (1<=B[0]/\B[0]<=65536)):=by show _=_;unfold rOk;rw[p.out];exact kbn.2 (by omega)
    generalize B[0]=x at *;have K:decide ((0:Int)<0)=false:=rfl;by_cases n:x<1
    ·have c:Hid (qaG B=false):=by
      show _=_;unfold qaG;rw[kbt];left;rw[kaS];exact⟨0,kav.2 (by omega),by rw[f.out,kaz (by omega)];decide⟩
     go_wp2
     go_quiet (fail)
     go_wp2;go_ret;exact⟨by rw[c.out];rfl,qco d _⟩
    have v:=kaz n;by_cases o:65536<x
    ·have c:Hid (qaG B=false):=by
      show _=_;unfold qaG;rw[kbt];left;rw[kaS];exact⟨0,kav.2 (by omega),by rw[f.out,kaz (by omega)];decide⟩
     go_wp2
     go_quiet (fail)
     go_wp2;go_ret;exact⟨by rw[c.out];rfl,qco d _⟩
    have z:=kaz o;go_wp2
    go_quiet (fail)
    go_wp2;go_roundg g
    case measure=>omega
    case rel =>
     refine⟨0+1,by show _=_;have:=h.out;omega,by go_num,qco d _,λi l=>?_⟩;by_cases e:i=0
     ·subst e;rw[f.out];exact kax (by omega)
     exact m.out i (by omega)
   obtain⟨j,rfl⟩:∃j,k=j+1:=⟨k-1,by omega⟩
   have J:=q j (by omega);have f:Hid (rOk B (j+1)=decide (1<=B[j+1]/\B[j+1]<=65536/\B[j]<B[j+1])):=by
    show _=_;unfold rOk;rw[p.out];have u:B.getD (j+1-1) 0=B[j]:=by rw[kbh,kct,kab (by omega)];rfl
    rw[u];exact kbn.2 (by omega)
   generalize B[j+1]=x at *;generalize B[j]=y at *;have M:(0:Int)<((j+1:Nat):Int):=by omega
   by_cases n:x<1
   ·have c:Hid (qaG B=false):=by
     show _=_;unfold qaG;rw[kbt];left;rw[kaS];exact⟨j+1,kav.2 (by omega),by rw[f.out,kaz (by omega)];decide⟩
    go_wp2
    go_quiet (fail)
    go_wp2;go_ret;exact⟨by rw[c.out];rfl,qco d _⟩
   have v:=kaz n;by_cases o:65536<x
   ·have c:Hid (qaG B=false):=by
     show _=_;unfold qaG;rw[kbt];left;rw[kaS];exact⟨j+1,kav.2 (by omega),by rw[f.out,kaz (by omega)];decide⟩
    go_wp2
    go_quiet (fail)
    go_wp2;go_ret;exact⟨by rw[c.out];rfl,qco d _⟩
   have z:=kaz o;by_cases A:x<=y
   ·have c:Hid (qaG B=false):=by
     show _=_;unfold qaG;rw[kbt];left;rw[kaS];exact⟨j+1,kav.2 (by omega),by rw[f.out,kaz (by omega)];decide⟩
    go_wp2
    go_quiet (fail)
    go_wp2;go_ret;exact⟨by rw[c.out];rfl,qco d _⟩
   have H:=kaz A;go_wp2
   go_quiet (fail)
   go_wp2;go_roundg g
   case measure=>omega
   case rel =>
    refine⟨j+1+1,by show _=_;have:=h.out;omega,by go_num,qco d _,λi l=>?_⟩;by_cases e:i=j+1
    ·subst e;rw[f.out];exact kax (by omega)
    exact m.out i (by omega)

end
section
open Go.RowKit Go.Deep
theorem qoo(arr:Array Value)(c:Int)(L:List (Int×Int))(a:Option Addr)(b:Nat)(k:arr[0]?=some (.int .i64 c))(f1:arr[1]?=some (.slice a L.length b))(f:L.length<=maxLen)(w:World)(g:¬(1<=c/\c<=6/\L.length<=30)):Calls prog 24 #[.agg arr] w λe j=>e=.returned (.bool false)/\Below w.heap.size w j:=by
 unfold maxLen at f;have i:c<1\/(1<=c/\6<c)\/(1<=c/\c<=6/\(30:Int)<L.length):=by omega
 clear g;rcases i with h|⟨h,d⟩|⟨h,d,l⟩
 all_goals
  go_enter func24,ntmps24;go_wp2;go_ret;exact⟨rfl,bwA⟩
theorem qqd(arr:Array Value)(n:Nat)(L:List (Int×Int))(M:Option Addr)(W:Nat)(H:q0q arr n L M W)(h1:1<=n)(hn:n<=6)(hL:L.length<=30)(w:World)(N:qaZ w M L):Calls prog 24 #[.agg arr] w λe Z=>e=.returned (.bool (qaU n L))/\Below w.heap.size w Z:=by
 have E:=H.f0;have f1:=H.f1;have s:=qab (qaD H.size);have S:=qab N;clear H N;have U:Hid ((w.alloc (.cells arr 25)).heap[w.heap.size]?=some (.cells arr 25)):=qac _ _;have A:Hid (Below w.heap.size w (w.alloc (.cells arr 25))):=bwA;have T:Hid ((w.alloc (.cells arr 25)).heap.size=w.heap.size+1):=by show _=_;simp
 go_enter func24,ntmps24;go_wp2;generalize w.alloc (.cells arr 25)=W0 at *
 go_loopg[3,4] L.length (λg x y wr=>∃q:Nat,Hid (q+g=L.length)/\x=.int .i64 q/\Below (w.heap.size+1) W0 wr/\Hid (∀i (h:i<L.length),i<q->qcG n L[i]=true))
 case atStart=>exact⟨0,by show _=_;omega,rfl,kam _ _,λi h hi=>by omega⟩
 case round =>
  obtain⟨q,F,rfl,u,K⟩:=hrel;have G:=qab ((u.block _ (by omega)).trans U.out);have aa:=(qaa G.out 1).trans f1;have P:=u.size;rw[T.out]at P
  cases gk with
  |zero =>
   have Y:¬(q:Int)<L.length:=by have:=F.out;omega
   have V:=qab (qi5 (λi h=>K.out i h (by have:=F.out;omega)));go_wp2;go_ret;exact⟨by rw[V.out];rfl,A.out.trans (u.mono (by omega))⟩
  |succ g =>
   have Y:(q:Int)<L.length:=by have:=F.out;omega
   obtain⟨b,off,rfl,ac,e1,e2⟩:=(S.out.below (A.out.trans (u.mono (by omega)))).at_ q (by omega);have I:Hid ((wr.alloc (.cells #[.int .i64 L[q].1,.int .i64 L[q].2] 42)).heap[wr.heap.size]?=some (.cells #[.int .i64 L[q].1,.int .i64 L[q].2] 42)):=qac _ _;have c:Hid ((wr.alloc (.cells #[.int .i64 L[q].1,.int .i64 L[q].2] 42)).heap[w.heap.size]?=some (.cells arr 25)):=(kae _ _ _ (by omega)).trans G.out;have m:Hid (qcG n L[q]=qcG n (L[q].1,L[q].2)):=rfl;have j:=qcP arr n E L[q].1 (wr.alloc (.cells #[.int .i64 L[q].1,.int .i64 L[q].2] 42));generalize L[q].1=x at *;generalize L[q].2=y at *;have D:Hid (Below (w.heap.size+1) W0 (wr.alloc (.cells #[.int .i64 x,.int .i64 y] 42))):=u.alloc P _;clear G u;cases v:qbM n x
   ·rw[v]at j;have r:Hid (qaU n L=false):=qcJ (k:=q) (by omega) (by rw[m.out];unfold qcG;rw[v];rfl);clear v m
    go_wp2_with(first
     |(refine kak rfl 25 _ rfl _ rfl _ _ _ _ c.out underlying25 rfl s.out ?_)
     |(go_at_call 25;refine j.mono ?_;clear j;rintro e z ⟨rfl,d⟩))
    go_ret;exact⟨by rw[r.out];rfl,(A.out.trans (D.out.mono (by omega))).trans (d.mono (by simp;omega))⟩
   rw[v]at j;have J:=qab v;clear v;cases B:qbM n y
   ·have r:Hid (qaU n L=false):=qcJ (k:=q) (by omega) (by rw[m.out];unfold qcG;rw[B,J.out];rfl);have t:=qab B;clear B m
    go_wp2_with(first
     |(refine kak rfl 25 _ rfl _ rfl _ _ _ _ c.out underlying25 rfl s.out ?_)
     |(refine qaf 25 _ rfl rfl _ rfl _ _ _ _ c.out underlying25 rfl s.out ?_)
     |(go_at_call 25;refine j.mono ?_;clear j;rintro e z ⟨rfl,d⟩;have l:=qab ((d.block _ (by simp;omega)).trans c.out);clear c;have c:=l;clear l;have a:=qab ((d.block _ (by simp)).trans I.out);have o:=qaa a.out 0;have p:=qaa a.out 1;have c2:=qcP arr n E y z;rw[t.out]at c2)
     |(go_at_call 25;refine c2.mono ?_;clear c2;rintro e R ⟨rfl,f⟩;clear o p;have o:=(qaa ((f.block _ (ltA a.out)).trans a.out) 0);have p:=(qaa ((f.block _ (ltA a.out)).trans a.out) 1)))
    have C:=d.size;rw[kad]at C;go_ret;exact⟨by rw[r.out];rfl,((A.out.trans (D.out.mono (by omega))).trans (d.mono (by simp;omega))).trans (f.mono (by omega))⟩
   have t:=qab B;clear B;cases O:(x==y)
   ·have r:Hid (qcG n L[q]=true):=by show _=_;rw[m.out];unfold qcG;rw[t.out,J.out,O];rfl
    clear m
    go_wp2_with(first
    |(refine kak rfl 25 _ rfl _ rfl _ _ _ _ c.out underlying25 rfl s.out ?_)
    |(refine qaf 25 _ rfl rfl _ rfl _ _ _ _ c.out underlying25 rfl s.out ?_)
    |(go_at_call 25;refine j.mono ?_;clear j;rintro e z ⟨rfl,d⟩;have l:=qab ((d.block _ (by simp;omega)).trans c.out);clear c;have c:=l;clear l;have a:=qab ((d.block _ (by simp)).trans I.out);have o:=qaa a.out 0;have p:=qaa a.out 1;have c2:=qcP arr n E y z;rw[t.out]at c2)
    |(go_at_call 25;refine c2.mono ?_;clear c2;rintro e R ⟨rfl,f⟩;clear o p;have o:=(qaa ((f.block _ (ltA a.out)).trans a.out) 0);have p:=(qaa ((f.block _ (ltA a.out)).trans a.out) 1)))
    have C:=d.size;rw[kad]at C;go_roundg g
    case measure=>omega
    case rel =>
     refine⟨q+1,by show _=_;have:=F.out;omega,by go_num,(D.out.trans (d.mono (by simp;omega))).trans (f.mono (by omega)),?_⟩;intro Q X ab;by_cases e:Q=q
     ·subst e;exact r.out
     exact K.out Q X (by omega)
   have r:Hid (qaU n L=false):=qcJ (k:=q) (by omega) (by rw[m.out];unfold qcG;rw[t.out,J.out,O];rfl);clear m
   go_wp2_with(first
   |(refine kak rfl 25 _ rfl _ rfl _ _ _ _ c.out underlying25 rfl s.out ?_)
   |(refine qaf 25 _ rfl rfl _ rfl _ _ _ _ c.out underlying25 rfl s.out ?_)
   |(go_at_call 25;refine j.mono ?_;clear j;rintro e z ⟨rfl,d⟩;have l:=qab ((d.block _ (by simp;omega)).trans c.out);clear c;have c:=l;clear l;have a:=qab ((d.block _ (by simp)).trans I.out);have o:=qaa a.out 0;have p:=qaa a.out 1;have c2:=qcP arr n E y z;rw[t.out]at c2)
   |(go_at_call 25;refine c2.mono ?_;clear c2;rintro e R ⟨rfl,f⟩;clear o p;have o:=(qaa ((f.block _ (ltA a.out)).trans a.out) 0);have p:=(qaa ((f.block _ (ltA a.out)).trans a.out) 1)))
   have C:=d.size;rw[kad]at C;go_ret;exact⟨by rw[r.out];rfl,((A.out.trans (D.out.mono (by omega))).trans (d.mono (by simp;omega))).trans (f.mono (by omega))⟩

end
section
open Go.RowKit
structure qcE(lo hi:Nat)(W W':World):Prop where
 size:W.heap.size<=W'.heap.size
 same:∀k,lo<=k->k<hi->W'.heap[k]?=W.heap[k]?
theorem qcE.refl(lo hi:Nat)(W:World):qcE lo hi W W:=⟨kaf _,λ_ _ _=>rfl⟩
theorem qcE.trans{A B C:World}(h:qcE lo hi A B)(k:qcE lo hi B C):qcE lo hi A C :=
 ⟨kaj h.size k.size,λi a b=>(k.same i a b).trans (h.same i a b)⟩
theorem qcE.put(W:World)(r:Nat)(o:Obj)(h:hi<=r):qcE lo hi W (W.putObj r o) :=
 ⟨by simp,λk _ a=>World.putObj_heap_other (by omega)⟩
theorem qcE.below(h:Below hi W W'):qcE lo hi W W':=⟨h.size,λk _ a=>h.block k a⟩
def qj7{β:Type}(st:Nat)(I:β->World->Prop):Prop:=∀s W W',I s W->W.grownBy W' (some st)->I s W'
def qnA{β:Type}(B:Nat)(I:β->World->Prop):Prop:=∀s W k (o o':Obj),I s W->B<=k->W.heap[k]?=some o->o.isCells=false->I s (W.putObj k o')
def qys{α:Type}(F:Fence)(n:Nat)(P:Program)(g:Nat)(lb:Array Value)(encs:α->Array Value)(lo hi st:Nat)(S Sp:List α->Prop)(w:World):Prop :=
 ∀(l:Nat) (J Jx:List α->World->Prop) (W:World),Below w.heap.size w W->qj7 st J->qj7 st Jx ->
  (∀pre x W1,J pre W1->YieldAt F (n-1) P l (encs x) W1 λe W' =>
   (e=.returned (.bool true)/\J (pre++[x]) W'/\qcE lo hi W1 W')\/(e=.returned (.bool false)/\Jx (pre++[x]) W')) ->
  J [] W ->
  CallsIn F n P g (#[.func (.yield l) #[] #[]]++lb) W λe W'=>(∃v,e=.returned v)/\((∃xs,S xs/\J xs W')\/(∃pre,Sp pre/\Jx pre W'))
def qxZ{α:Type}(lo hi:Nat)(I:List α->World->Prop)(Ix:Code->List α->World->Prop)(xs:List α)(W:World)(e:Exit)(_:Act)(W':World):Prop :=
 match e with
 |.normal=>KeepsOthers W W'/\qcE lo hi W W'/\I xs W'
 |.ret=>KeepsOthers W W'/\Ix .ret xs W'
 |.exit id=>KeepsOthers W W'/\Ix (.exit id) xs W'
 |_=>False
variable{F:Fence} {n:Nat} {P:Program}
theorem qcR{α:Type}{g:Operand}{ps:Array Tmp}{assign body:Code}{Q:Exit->Act->World->Prop}{a:Act}(al:F.round=none)(h1:1<=n){gf:Nat}{lb:Array Value}(hg:a.eval g=.func (.func gf) #[] lb)(ac:F.fn gf)(eg:∀args w,(callFunc gf args).run P w=.ok (.enter gf args) w){encs:α->Array Value}{st:Nat}(ar:st<w.heap.size)(aq:hi<=w.heap.size){S Sp:List α->Prop}{w0:World}(am:qys F (n-1) P gf lb encs lo hi st S Sp w0)(V:Below w0.heap.size w0 w)(ak:∀x,(encs x).size=ps.size)(I:List α->World->Prop)(z:Code->List α->World->Prop)(U:qj7 st I)(ad:∀c,qj7 st (z c))(L:qnA w.heap.size I)(M:∀c,qnA w.heap.size (z c))(h0:I [] w)(R:α->Act)(af:∀(l:Nat) (x:α) (W:World) (K:Act->World->Prop),K (R x) W ->
   assign.wpIn (F.inRound l) (n-1-1) P (Exit.then K (λ_ _ _=>False)) {tmps:=(ps.zip (encs x)).foldl (λap (p,v)=>ap.setIfInBounds p v) a.tmps,defers:=[]} W)(ag:∀(l:Nat) (pre:List α) (x:α) (W:World),I pre W->w.heap.size<W.heap.size->body.wpIn (F.inRound l) (n-1-1) P (qxZ lo hi I z (pre++[x]) W) (R x) W)(ah:∀(D:Nat) (H:List α) (W:World),w.heap.size<=D->S H->I H W->W.heap[D]?=some (.deferred (some []))->Q .normal {a with defers:={target:=.collected D,args:=#[]}::a.defers} W)(an:∀(D:Nat) (c:Code) (pre:List α) (W:World),w.heap.size<=D->Sp pre->z c pre W->W.heap[D]?=some (.deferred (some []))->c.wpIn F n P Q {a with defers:={target:=.collected D,args:=#[]}::a.defers} W):(Code.rangeFunc g ps assign body).wpIn F n P Q a w:=by
 refine wpIn_rangeFunc λfn ai=>?_;rw[al];generalize hD:w.heap.size=D at *;obtain⟨b,u⟩:∃b:LoopState->Option Code->Loop,b=λs p=>{state:=s,pending:=p,fn,tmps:=a.tmps,params:=ps,assign,body,defers:=D}:=⟨_,rfl⟩
 have N:=run_enterLoop_outer (P:=P) (w:=w) fn a.tmps ps assign body;rw[hD]at N;have ab:(w.alloc (.deferred (some []))).alloc (.loop {state:=.ready,pending:=none,fn,tmps:=a.tmps,params:=ps,assign,body,defers:=D})=(w.alloc (.deferred (some []))).alloc (.loop (b .ready none)):=by rw[u]
 rw[ab]at N;have T:Below D w ((w.alloc (.deferred (some []))).alloc (.loop (b .ready none))):=by
  rw[<-hD];exact((kam _ w).alloc (kaf _) _).alloc (by simp) _
 have l1:((w.alloc (.deferred (some []))).alloc (.loop (b .ready none))).heap[D+1]?=some (.loop (b .ready none)):=by
  have:=World.alloc_heap_new (w.alloc (.deferred (some []))) (.loop (b .ready none));rwa[kad,hD]at this
 have d1:((w.alloc (.deferred (some []))).alloc (.loop (b .ready none))).heap[D]?=some (.deferred (some [])):=by
  have:=World.alloc_heap_new w (.deferred (some []));rw[hD]at this;exact(kae _ _ _ (by simp;omega)).trans this
 have i1:I [] ((w.alloc (.deferred (some []))).alloc (.loop (b .ready none))):=by
  refine U _ w _ h0 ⟨rfl,rfl,rfl,by simp;omega,λk m _=>?_⟩;exact T.block k (by omega)
 generalize(w.alloc (.deferred (some []))).alloc (.loop (b .ready none))=W1 at *;refine⟨D+1,[{target:=.collected D,args:=#[]}],W1,{target:=.fn (.func gf) lb,args:=#[.func (.yield (D+1)) #[] #[]]},W1,gf,#[.func (.yield (D+1)) #[] #[]]++lb,W1,N,?_,?_,?_,λ_=>h1,?_⟩
 ·simp only[resolve,hg];simp[go_sem]
 ·intro f' X;simp[Target.leads]at X;subst X;exact ac
 ·simp[invoke,go_sem,eg]
 have keep:∀{A B:World} {k:Nat} {o:Obj},D<=k->A.grownBy B (some st)->A.heap[k]?=some o->B.heap[k]?=some o:=by
  intro A B k o m q Y;exact(q.block k (ltA Y) (by simp;omega)).trans Y
 refine(am (D+1) (λpre W=>I pre W/\W.heap[D+1]?=some (.loop (b .ready none))/\W.heap[D]?=some (.deferred (some [])))
  (λpre W=>∃c,z c pre W/\W.heap[D+1]?=some (.loop (b .done (some c)))/\W.heap[D]?=some (.deferred (some [])))
  W1 (V.trans (T.mono (by have:=V.size;omega))) (λs A B h q=>⟨U s A B h.1 q,keep (by omega) q h.2.1,keep (kaf _) q h.2.2⟩)
  (λs A B h q=>by
   obtain⟨c,hc,f,y⟩:=h;exact⟨c,ad c s A B hc q,keep (by omega) q f,keep (kaf _) q y⟩) ?_ ⟨i1,l1,d1⟩).mono ?_
 ·rintro pre x W ⟨E,f,y⟩;have aj:D+1<W.heap.size:=ltA f;have Z:=run_yield (P:=P) (args:=encs x) f (by rw[u];exact ak x);rw[u]at Z;refine⟨fn,_,assign,body,Z,roundIn_of_wpIn ai (af _ x W _ ⟨_,run_beginRound f (by rw[u]),?_⟩)⟩;generalize hWb:W.putObj (D+1) (.loop {b .ready none with state:=.busy})=Wb;have t:Wb.heap[D+1]?=some (.loop {b .ready none with state:=.busy}):=by rw[<-hWb];exact World.putObj_heap_same aj
  have aa:Wb.heap[D]?=some (.deferred (some [])):=by rw[<-hWb];exact(World.putObj_heap_other (by omega)).trans y
  have ao:I pre Wb:=by rw[<-hWb];exact L pre W (D+1) _ _ E (by omega) f rfl
  have kW:qcE lo hi W Wb:=by rw[<-hWb];exact qcE.put W (D+1) _ (by omega)
  refine wpIn_mono (ag _ pre x Wb ao (by have:=ltA t;omega)) ?_;have J:∀(i:Option Code) (d:World),KeepsOthers Wb d ->
    (Instr.endRound (D+1) i).run P d=.ok (.bool i.isNone) (d.putObj (D+1) (.loop (b (if i.isNone then .ready else .done) i)))/\d.heap[D+1]?=some (.loop {b .ready none with state:=.busy}) /\
    (d.putObj (D+1) (.loop (b (if i.isNone then .ready else .done) i))).heap[D+1]?=some (.loop (b (if i.isNone then .ready else .done) i)) /\
    (d.putObj (D+1) (.loop (b (if i.isNone then .ready else .done) i))).heap[D]?=some (.deferred (some [])):=by
   intro i d m;have r:=m.same _ _ t rfl;refine⟨?_,r,World.putObj_heap_same (ltA r),(World.putObj_heap_other (by omega)).trans (m.same _ _ aa rfl)⟩;have:=run_endRound (P:=P) i r;rw[u]at this ⊢;exact this
  intro e a3 d hp
  match e,hp with
  |.normal,⟨m,hr,hi3⟩ =>
   obtain⟨j,r,G,C⟩:=J none d m;exact⟨_,_,j,.inl ⟨rfl,⟨L _ d (D+1) _ _ hi3 (by omega) r rfl,G,C⟩,(kW.trans hr).trans (qcE.put d (D+1) _ (by omega))⟩⟩
  |.ret,⟨m,hi3⟩ =>
   obtain⟨j,r,G,C⟩:=J (some .ret) d m;exact⟨_,_,j,.inr ⟨rfl,.ret,M _ _ d (D+1) _ _ hi3 (by omega) r rfl,G,C⟩⟩
  |.exit id,⟨m,hi3⟩ =>
   obtain⟨j,r,G,C⟩:=J (some (.exit id)) d m;exact⟨_,_,j,.inr ⟨rfl,.exit id,M _ _ d (D+1) _ _ hi3 (by omega) r rfl,G,C⟩⟩
 rintro e O ⟨⟨v,rfl⟩,h⟩;rcases h with⟨H,hS,E,f,y⟩|⟨pre,ae,c,E,f,y⟩
 ·have j:=run_endLoop (P:=P) f (by rw[u];simp);rw[u]at j;exact⟨none,_,j,ah D H _ (kaf _) hS (L _ O (D+1) _ _ E (by omega) f rfl) ((World.putObj_heap_other (by omega)).trans y)⟩
 have j:=run_endLoop (P:=P) f (by rw[u];simp);rw[u]at j;exact⟨some c,_,j,an D c pre _ (kaf _) ae (M c _ O (D+1) _ _ E (by omega) f rfl) ((World.putObj_heap_other (by omega)).trans y)⟩

end
section
open Go.RowKit Go.Deep
def Rch(L:List (Int×Int))(a b:Nat):Prop:=∀S:Nat->Prop,S a->(∀e,e∈L->S e.1.toNat->S e.2.toNat)->S b
theorem Rch.refl(L:List (Int×Int))(a:Nat):Rch L a a:=λ_ h _=>h
theorem Rch.trans{c:Nat}(h:Rch L a b)(k:Rch L b c):Rch L a c:=λS e d=>k S (h S e d) d
theorem Rch.edge(h:e∈L):Rch L e.1.toNat e.2.toNat:=λ_ a b=>b e h a
theorem qrg(h:m i j=true):qpb m e i j=true:=by
 unfold qpb upd;split<;>simp_all
theorem qqc(m:Nat->Nat->Bool)(e:Int×Int):qpb m e e.1.toNat e.2.toNat=true:=by simp[qpb,upd]
theorem qiz(L:List (Int×Int)):∀(m:Nat->Nat->Bool) (i j:Nat),m i j=true->L.foldl qpb m i j=true:=by
 induction L with
 |nil=>intro m i j h;exact h
 |cons e L a=>intro m i j h;exact a _ i j (qrg h)
theorem qqp(L:List (Int×Int)):∀(m:Nat->Nat->Bool) (e:Int×Int),e∈L->L.foldl qpb m e.1.toNat e.2.toNat=true:=by
 induction L with
 |nil=>intro m e h;cases h
 |cons x L a =>
  intro m e h
  cases kbR.1 h with
  |inl h=>subst h;exact qiz L _ _ _ (qqc m e)
  |inr h=>exact a _ e h
theorem qlX(P:Nat->Nat->Prop)(L:List (Int×Int)):∀(m:Nat->Nat->Bool),(∀i j,m i j=true->P i j)->(∀e,e∈L->P e.1.toNat e.2.toNat)->∀i j,L.foldl qpb m i j=true->P i j:=by
 induction L with
 |nil=>intro m h _;exact h
 |cons x L f =>
  intro m h b;refine f (qpb m x) (λi j a=>?_) (λe d=>b e (ka9 _ d));unfold qpb upd at a;split at a
  ·rename_i c
   obtain⟨rfl,rfl⟩:=c;exact b x (ka5 ..)
  exact h i j a
theorem ql8(h:qe8 n L i j=true):Rch L i j :=
 qlX (Rch L) L (qpz n) (λi j b=>by have:=kaq b;rw[this.1];exact Rch.refl _ _) (λ_ a=>Rch.edge a) i j h
theorem qeB(H:fst n k m l h i j=true):m i j=true\/(m i k=true/\m k j=true):=by
 unfold fst at H;simp only[kcw,ka2]at H;rcases H with H|⟨_,H⟩
 ·exact .inl H
 exact .inr H
theorem qnq(H:m i j=true):fst n k m l h i j=true:=by
 unfold fst;rw[H];rfl
theorem qgz(hi:i<n)(c:j<n)(a:m i k=true)(b:m k j=true):fst n k m n 0 i j=true:=by
 unfold fst;rw[a,b,kax (by omega)];simp
theorem qoy:∀(k i j:Nat),qiX n k (qe8 n L) i j=true->Rch L i j:=by
 intro k
 induction k with
 |zero=>intro i j h;exact ql8 h
 |succ k a =>
  intro i j h;rcases qeB h with h|⟨b,c⟩
  ·exact a i j h
  exact(a i k b).trans (a k j c)
theorem qjU(h:m i j=true):∀k,qiX n k m i j=true:=by
 intro k
 induction k with
 |zero=>exact h
 |succ k a=>exact qnq a
theorem qoR:∀(k:Nat),k<=n->∀c i j,c<k->i<n->j<n->qiX n k m i c=true->qiX n k m c j=true->qiX n k m i j=true:=by
 intro k
 induction k with
 |zero=>intro _ c i j h;omega
 |succ k g =>
  intro v c i j t d f b a;have g:=g (by omega);have q:∀x,qiX n (k+1) m x k=qiX n k m x k:=λx=>qrO n k (qiX n k m) n 0 x;have s:∀x,qiX n (k+1) m k x=qiX n k m k x:=λx=>qn6 n k (qiX n k m) n 0 x;by_cases e:c=k
  ·subst e;rw[q]at b;rw[s]at a;exact qgz d f b a
  have o:c<k:=by omega
  have u:c<n:=by omega
  have p:k<n:=by omega
  rcases qeB b with b|⟨b,r⟩
  ·rcases qeB a with a|⟨a,l⟩
   ·exact qnq (g c i j o d f b a)
   exact qgz d f (g c i k o d p b a) l
  rcases qeB a with a|⟨a,l⟩
  ·exact qgz d f b (g c k j o p f r a)
  exact qgz d f b l
theorem qmh(c:qaU n L=true)(d:e∈L):e.1.toNat<n/\e.2.toNat<n:=by
 have:=ka3.1 c e d;unfold qcG at this;simp only[ka2]at this;obtain⟨⟨a,b⟩,_⟩:=this;have f:=kaq a;have g:=kaq b;omega
theorem qtt(d:qaU n L=true)(f:a<n)(j:b<n):qc1 n L a b=true↔Rch L a b:=by
 constructor
 ·exact qoy n a b
 intro h;have:=h (λx=>x<n->qc1 n L a x=true) (λ_=>qjU (qiz L _ _ _ (kax ⟨rfl,f⟩)) n)
  (λe c g i=>qoR n (kaf _) e.1.toNat a e.2.toNat (qmh d c).1 f i (g (qmh d c).1) (qjU (qqp L _ e c) n))
 exact this j
theorem qpE(h:S x=true):qld S k x=true:=by unfold qld;split<;>simp_all
theorem qi0(h:S x=true):qh7 S e x=true:=by
 unfold qh7;split
 ·exact qpE h
 exact h
theorem qdg(L:List (Int×Int)):∀{S:Nat->Bool} {x:Nat},S x=true->qbi L S x=true:=by
 unfold qbi
 induction L with
 |nil=>intro S x h;exact h
 |cons e L a=>intro S x h;exact a (qi0 h)
theorem ql9(L:List (Int×Int)):∀{S:Nat->Bool} {e:Int×Int},e∈L->S e.1.toNat=true->qbi L S e.2.toNat=true:=by
 induction L with
 |nil=>intro S e h;cases h
 |cons x L b =>
  intro S e h a
  cases kbR.1 h with
  |inl h =>
   subst h;refine qdg L (S:=qh7 S e) ?_;unfold qh7;rw[kag a];simp[qld]
  |inr h=>exact b (S:=qh7 S x) h (qi0 a)
theorem qf9(P:Nat->Prop)(L:List (Int×Int)):∀{S:Nat->Bool},(∀x,S x=true->P x)->(∀e,e∈L->P e.1.toNat->P e.2.toNat)->∀x,qbi L S x=true->P x:=by
 induction L with
 |nil=>intro S h _;exact h
 |cons e L g =>
  intro S h b;refine g (S:=qh7 S e) (λx a=>?_) (λd f=>b d (ka9 _ f));unfold qh7 at a;split at a
  ·rename_i hs
   unfold qld at a;split at a
   ·rename_i c;subst c;exact b e (ka5 ..) (h _ hs)
   exact h x a
  exact h x a
def qoU(L:List (Int×Int))(S:Nat->Bool):Prop:=∀e,e∈L->S e.1.toNat=true->S e.2.toNat=true
theorem qg5(h:qoU L S):qbi L S=S:=by
 funext x;cases a:S x
 ·cases b:qbi L S x
  ·rfl
  have:=qf9 (λx=>S x=true) L (S:=S) (λ_ h=>h) h x b;rw[a]at this;cases this
 exact qdg L a
def cnt(n:Nat)(S:Nat->Bool):Nat:=((List.range n).filter S).length
theorem qyE(n:Nat)(S:Nat->Bool):cnt n S<=n:=by
 have:=List.length_filter_le S (List.range n);simpa[cnt]using this
theorem qpK{T:Nat->Bool}(f:∀x,S x=true->T x=true):∀(l:List Nat) (y:Nat),y∈l->S y=false->T y=true->(l.filter S).length<(l.filter T).length:=by
 have g:∀l:List Nat,(l.filter S).length<=(l.filter T).length:=by
  intro l
  induction l with
  |nil=>simp
  |cons x l c =>
   cases a:S x
   ·rw[kcE (by simp[a])];exact kaj c (by rw[ken];split<;>simp)
   rw[kbX a,kbX (f x a)];simp only[kah];omega
 intro l
 induction l with
 |nil=>intro y b;cases b
 |cons x l c =>
  intro y b d e
  cases kbR.1 b with
  |inl h =>
   subst h;rw[kcE (by simp[d]),kbX e];have:=g l;simp only[kah];omega
  |inr h =>
   have:=c y h d e;cases a:S x
   ·rw[kcE (by simp[a])];exact kai this (by rw[ken];split<;>simp)
   rw[kbX a,kbX (f x a)];simp only[kah];omega
theorem qmp(g:qaU n L=true)(i:a<n):∀k,qoU L (qa3 L k (qaB a))\/k+1<=cnt n (qa3 L k (qaB a)):=by
 intro k
 induction k with
 |zero =>
  right;have:0<((List.range n).filter (qaB a)).length:=List.length_pos_of_mem (a:=a) (List.mem_filter.2 ⟨kav.2 i,by simp[qaB,qld]⟩);exact this
 |succ k m =>
  rcases m with h|h
  ·left;show qoU L (qbi L (qa3 L k (qaB a)));rw[qg5 h];exact h
  by_cases f:qoU L (qa3 L k (qaB a))
  ·left;show qoU L (qbi L (qa3 L k (qaB a)));rw[qg5 f];exact f
  right;have:∃e,e∈L/\qa3 L k (qaB a) e.1.toNat=true/\qa3 L k (qaB a) e.2.toNat=false:=by
   apply kc4;intro j;refine f (λe b c=>?_);cases d:qa3 L k (qaB a) e.2.toNat
   ·exact absurd ⟨e,b,c,d⟩ j
   rfl
  obtain⟨e,b,c,d⟩:=this;have o:=qpK (S:=qa3 L k (qaB a)) (T:=qbi L (qa3 L k (qaB a))) (λx l=>qdg L l) (List.range n) e.2.toNat (kav.2 (qmh g b).2) d (ql9 L b c);show k+1+1<=((List.range n).filter (qbi L (qa3 L k (qaB a)))).length;unfold cnt at h;omega
theorem qk1:∀k x,qa3 L k (qaB a) x=true->Rch L a x:=by
 intro k
 induction k with
 |zero =>
  intro x h;have h:qaB a x=true:=h;unfold qaB qld at h;split at h
  ·rename_i c;subst c;exact Rch.refl _ _
  cases h
 |succ k f =>
  intro x h;exact qf9 (λx=>Rch L a x) L (S:=qa3 L k (qaB a)) f (λe d b=>b.trans (Rch.edge d)) x h
theorem qmf(h:S x=true):∀k,qa3 L k S x=true:=by
 intro k
 induction k with
 |zero=>exact h
 |succ k a=>exact qdg L a
theorem qnK(c:qaU n L=true)(d:a<n):qbe n L a b=true↔Rch L a b:=by
 constructor
 ·exact qk1 n b
 intro h;have e:qoU L (qa3 L n (qaB a)):=by
  rcases qmp c d n with h|h
  ·exact h
  have:=qyE n (qa3 L n (qaB a));omega
 exact h (λx=>qa3 L n (qaB a) x=true) (qmf (by simp[qaB,qld]) n) e
theorem qqk(c:qaU n L=true)(d:a<n)(e:b<n):qc1 n L a b=qbe n L a b:=by
 rw[kcA,qtt c d e,qnK c d]
theorem qpC(b:qaU n L=true)(c:a<n):qbe n L a a=true:=(qnK b c).2 (Rch.refl _ _)

end
end Go.Proofs.YtmajcjammmjimaaGreatDoor
