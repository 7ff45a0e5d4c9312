import Derived.Laws.ResultCell
import Derived.Deep.OwnRows
import Derived.RangeFuncOwn
import Derived.RangeFuncFrom
import Derived.Below
import Derived.Test.YtllcbnfmihfaaaaGreatDoorCq01
set_option maxRecDepth 100000
set_option maxHeartbeats 8000000
namespace Go.Proofs.YtllcbnfmihfaaaaGreatDoor
open Go.Proofs.Tryz
variable {W W' w w':World}{a:Option Addr}{L:List (Int×Int)}{b hi k lo n:Nat}{M:Nat→Nat→Bool}{S:Nat→Bool}
section
open Go.RowKit
theorem qap {P:Program}{fn:Func}{p u:Tmp}{ty:TypeId}(h:fn.results=#[.cell p ty,.tmp u])(tmps:Array Value)(w:World)(g:Nat)(t:TypeId)(cs:Array Value)(fr:Nat×Nat)(d:TypeDesc)(hp:tmps.getD p undef=.pointer (some ⟨g,0,none⟩))(hg:w.heap[g]? = some (.cells cs t fr))(hu:P.underlying ty=some d)(hd:(match d with|.struct _|.array _ _=>true|_=>false)=true)(hi:(P.info? ty).map (·.size)=some cs.size)(v:Value)(hv:tmps.getD u undef=v):(results fn tmps).run P w=.ok (.tuple #[.agg cs,v]) w:=by
 subst hv;rw[results_cell_tmp h,hp];simp only[asAddr,Sem.run_pure,Result.andThen_ok,run_loadVar_row w g t ty cs fr d hg hu hd hi]
structure qaY (w:World)(a:Option Addr)(L:List (Int×Int)):Prop where
 at_:∀i (h:i<L.length),∃b off,a=some ⟨b,off,none⟩∧b<w.heap.size∧w.cell? ⟨b,off+i*2,none⟩=some (.int .i64 L[i].1)∧w.cell? ⟨b,off+i*2+1,none⟩=some (.int .i64 L[i].2)
theorem qaY.below (h:qaY w a L)(hb:Below w.heap.size w w'):qaY w' a L :=
 ⟨fun i hi=>by
  obtain⟨b,off,ha,hlt,h1,h2⟩:=h.at_ i hi;exact⟨b,off,ha,Nat.lt_of_lt_of_le hlt hb.size,(hb.cell (p:=⟨b,_,none⟩) hlt).trans h1,(hb.cell (p:=⟨b,_,none⟩) hlt).trans h2⟩⟩
def qcu (n:Nat)(e:Int×Int):Bool:=qbC n e.1&&qbC n e.2 && !(e.1==e.2)
def qnI (k:Nat):Nat→Nat→Bool:=fun i j=>decide (i=j∧i<k)
theorem qor (k:Nat):upd (qnI k) k k true=qnI (k+1):=by
 funext i j;unfold upd qnI;by_cases c:i=k∧j=k
 ·obtain⟨rfl,rfl⟩:=c;simp
 rw[if_neg c];exact decide_eq_decide.2 (by omega)
theorem qpd:qnI 0=fun _ _=>false:=by funext i j;simp[qnI]
def qnl (m:Nat→Nat→Bool)(e:Int×Int):Nat→Nat→Bool:=upd m e.1.toNat e.2.toNat true
def qer (n:Nat)(L:List (Int×Int)):Nat→Nat→Bool:=L.foldl qnl (qnI n)
theorem qne (n:Nat)(L:List (Int×Int))(k:Nat)(h:k<L.length):qer n (L.take (k+1))=qnl (qer n (L.take k)) L[k]:=by
 unfold qer;rw[List.take_succ_eq_append_getElem h,List.foldl_append];rfl
def qaO (n:Nat)(L:List (Int×Int)):Bool:=L.all (qcu n)
theorem qc3 (h:k<L.length)(e:qcu n L[k]=false):qaO n L=false:=by
 unfold qaO;rw[List.all_eq_false];exact⟨L[k],List.getElem_mem h,by rw[e];decide⟩
theorem qhi (h:∀k (h:k<L.length),qcu n L[k]=true):qaO n L=true:=by
 unfold qaO;rw[List.all_eq_true];intro x hx;obtain⟨k,hk,rfl⟩:=List.getElem_of_mem hx;exact h k hk
def qbx (c:Int)(L:List (Int×Int)):Bool:=decide (1≤c∧c≤6∧L.length≤30)&&qaO c.toNat L
def qcF (n:Nat)(L:List (Int×Int)):Nat→Nat→Bool:=qhY n n (qer n L)
def qwB (n:Nat)(L:List (Int×Int)):Value:=if qaO n L then .tuple #[.agg (qan n (qcF n L)),.bool true] else .tuple #[.agg qaB,.bool false]
theorem qhG (h:qaO n L=false):qwB n L=.tuple #[.agg qaB,.bool false]:=by unfold qwB;rw[h];rfl
theorem qlN (h:qaO n L=true):qwB n L=.tuple #[.agg (qan n (qcF n L)),.bool true]:=by unfold qwB;rw[h];rfl
theorem qbi.trans (h:qbi w W b n M)(k:Below W.heap.size W W'):qbi w W' b n M:=by
 have hb:b<W.heap.size:=ltA h.own;exact⟨h.below.trans (k.mono (by omega)),(k.block b hb).trans h.own⟩
theorem qbi.lt (h:qbi w W b n M):b<W.heap.size:=ltA h.own
theorem qbi.alloc (h:qbi w W b n M)(o:Obj):qbi w (W.alloc o) b n M:=h.trans ((Below.refl _ _).alloc (Nat.le_refl _) o)
theorem quQ (c:Int)(L:List (Int×Int))(a:Option Addr)(cap:Nat)(hL:L.length≤maxLen)(w:World)(hc:¬(1≤c∧c≤6∧L.length≤30)):Calls prog 131 #[.int .i64 c,.slice a L.length cap] w fun e w'=>e=.returned (.tuple #[.agg qaB,.bool false])∧Below w.heap.size w w':=by
 unfold maxLen at hL;have HH:Hid ((w.alloc (.cells qaB 107)).heap[w.heap.size]? = some (.cells qaB 107)):=qac _ _;have HZ:Hid (qaB.size=qaB.size):=rfl;have key:c<1∨(1≤c∧6<c)∨(1≤c∧c≤6∧(30:Int)<L.length):=by omega
 clear hc;rcases key with h|⟨h,h2⟩|⟨h,h2,h3⟩
 all_goals
  go_enter func131,ntmps131
  go_wp2_with (first
   |(refine qas rfl rfl _ rfl w.heap.size rfl ?_)
   |(refine qak rfl 107 _ rfl _ rfl _ [] ?hl qbE ?_;case hl=>simp)
   |(refine wpList_store_row rfl 107 _ _ rfl _ _ rfl rfl 107 qaB HH.out (qar (qae _ _)) HZ.out (qa5 _ _) ?_;rw[World.setRow_alloc_new]))
  refine bodyPost_ret (qap results131 _ _ w.heap.size 107 qaB (0,0) _ rfl HH.out underlying107 rfl (qar (qae _ _)) (.bool false) rfl) rfl ⟨rfl,bwA⟩
theorem qqK (w:World)(n:Nat):qbi (w.alloc (.cells qaB 107)) (((w.alloc (.cells qaB 107)).alloc (.cells qaB 107)).setRow (w.heap.size+1) (qan n fun _ _=>false)) (w.heap.size+1) n (qnI 0):=by
 refine⟨qah ((Below.refl _ _).alloc (by simp) _) (Nat.le_refl _) _,?_⟩;rw[qpd];refine setRow_heap _ _ qaB _ 107 (0,0) ?_;have:=qac (w.alloc (.cells qaB 107)) (.cells qaB 107);rwa [World.size_alloc] at this
theorem qsi (n:Nat)(h1:1≤n)(hn:n≤6)(L:List (Int×Int))(a:Option Addr)(cap:Nat)(hL:L.length≤30)(w:World)(hE:qaY w a L):Calls prog 131 #[.int .i64 n,.slice a L.length cap] w fun e w'=>e=.returned (qwB n L)∧Below w.heap.size w w':=by
 have HE:Hid (qaY w a L):=hE;clear hE;have HR:Hid ((w.alloc (.cells qaB 107)).heap[w.heap.size]? = some (.cells qaB 107)):=qac _ _;have HH:Hid (((w.alloc (.cells qaB 107)).alloc (.cells qaB 107)).heap[w.heap.size+1]? = some (.cells qaB 107)):=by
  have:=qac (w.alloc (.cells qaB 107)) (.cells qaB 107);rw[World.size_alloc] at this;exact this
 have HZ:Hid (qaB.size=(qan n fun _ _=>false).size):=by rw[qae];exact qae _ _
 have HT:=qqK w n;have HB0:Hid (Below w.heap.size w (w.alloc (.cells qaB 107))):=bwA;have HS0:Hid ((w.alloc (.cells qaB 107)).heap.size=w.heap.size+1):=by show _=_;simp
 generalize hW:((w.alloc (.cells qaB 107)).alloc (.cells qaB 107)).setRow (w.heap.size+1) (qan n fun _ _=>false)=W at HT;have HD:Hid (_=W):=hW;clear hW;have HTT:Hid (qbi (w.alloc (.cells qaB 107)) W (w.heap.size+1) n (qnI 0)):=HT;clear HT;go_enter func131,ntmps131
 go_wp2_with (first
  |(refine qas rfl rfl _ rfl w.heap.size rfl ?_)
  |(refine qas rfl rfl _ rfl (w.heap.size+1) ?hN ?_;case hN=>(simp only[World.size_alloc];done))
  |(refine qak rfl 107 _ rfl _ rfl _ [(0,.int .i64 n)] ?hl (qiZ n) ?_;case hl=>simp[go_sem])
  |(refine wpList_store_row rfl 107 _ _ rfl _ _ rfl rfl 107 qaB HH.out (qar (qae _ _)) HZ.out (qa5 _ _) ?_;rw[HD.out]))
 clear HD HH HZ;generalize w.alloc (.cells qaB 107)=W0 at *
 go_loopg [25,7] n (fun g x y wr=>∃k:Nat,Hid (k+g=n)∧x=.int .i64 k∧Hid (qbi W0 wr (w.heap.size+1) n (qnI k)))
 case atStart=>exact⟨0,by show _=_;omega,rfl,HTT⟩
 case round =>
  clear HTT;obtain⟨k,hk,rfl,HK⟩:=hrel
  cases gk with
  |succ g =>
   have hlt:(k:Int)<n:=by have:=hk.out;omega
   have hk6:k<6:=by omega
   have c1:=HK.out.at_ hk6 hk6;have c2:=HK.out.frozen (1+k*6+k);generalize qnI k k k=v0 at c1;go_wp2;go_roundg g
   case measure=>omega
   case rel=>exact⟨k+1,by show _=_;have:=hk.out;omega,by go_num,by have:=HK.out.set hk6 hk6 true;rw[qor] at this;exact this⟩
  |zero =>
   have hlt:¬(k:Int)<n:=by have:=hk.out;omega
   have e:k=n:=by have:=hk.out;omega
   subst e;go_wp2
   go_loopg [36,9] L.length (fun g x y wr=>∃q:Nat,Hid (q+g=L.length)∧x=.int .i64 q∧Hid (qbi W0 wr (w.heap.size+1) k (qer k (L.take q)))∧Hid (∀i (h:i<L.length),i<q→qcu k L[i]=true))
   case atStart=>exact⟨0,by show _=_;omega,rfl,HK,fun i h hi=>by omega⟩
   case round =>
    clear HK;obtain⟨q,hq,rfl,HQ,HA⟩:=hrel
    cases gk with
    |zero =>
     have hql:¬(q:Int)<L.length:=by have:=hq.out;omega
     have HY:Hid (qaO k L=true):=qhi (fun i h=>HA.out i h (by have:=hq.out;omega));have HQ2:Hid (qbi W0 wr (w.heap.size+1) k (qer k L)):=by
      have:=HQ.out;rw[List.take_of_length_le (by have:=hq.out;omega)] at this;exact this
     clear HQ HA;have cF:=qni (w.heap.size+1) k (qer k L) hn wr HQ2.out.own
     go_wp2_with (first
      |(go_at_call 180;refine cF.mono ?_;clear cF;rintro e w2 ⟨rfl,hO2⟩;have HO:Hid (qbi W0 w2 (w.heap.size+1) k (qcF k L)):=⟨HQ2.out.below.trans hO2.below,hO2.own⟩;clear hO2)
      |(refine wpList_load_row rfl 107 _ rfl _ rfl _ _ _ _ HO.out.own underlying107 rfl (qar (qae _ _)) ?_)
      |(refine wpList_store_row rfl 107 _ _ rfl _ _ rfl rfl 107 qaB ((HO.out.below.block _ (by omega)).trans HR.out) (qar (qae _ _)) (by rw[qae];exact qae _ _) (qa5 _ _) ?_))
     refine bodyPost_ret (qap results131 _ _ w.heap.size 107 (qan k (qcF k L)) (0,0) _ rfl (setRow_heap _ _ qaB _ _ _ ((HO.out.below.block _ (by omega)).trans HR.out)) underlying107 rfl (qar (qae _ _)) (.bool true) rfl) rfl ⟨by rw[qlN HY.out],qah (HB0.out.trans (HO.out.below.mono (by omega))) (Nat.le_refl _) _⟩
    |succ g =>
     have hql:(q:Int)<L.length:=by have:=hq.out;omega
     obtain⟨b,off,rfl,hlt,e1,e2⟩:=(HE.out.below (HB0.out.trans ((HQ.out.below.mono (by omega))))).at_ q (by omega);have HX:Hid ((wr.alloc (.cells #[.int .i64 L[q].1,.int .i64 L[q].2] 101)).heap[wr.heap.size]? = some (.cells #[.int .i64 L[q].1,.int .i64 L[q].2] 101)):=qac _ _;have HO:Hid (qbi W0 (wr.alloc (.cells #[.int .i64 L[q].1,.int .i64 L[q].2] 101)) (w.heap.size+1) k (qer k (L.take q))):=HQ.out.alloc _;have HV:Hid (qcu k L[q]=qcu k (L[q].1,L[q].2)):=rfl;have HM:Hid (qer k (L.take (q+1))=qnl (qer k (L.take q)) (L[q].1,L[q].2)):=qne k L q (by omega);have c1:=qe9 _ k (qaw k (qer k (L.take q))).count L[q].1 (wr.alloc (.cells #[.int .i64 L[q].1,.int .i64 L[q].2] 101));generalize L[q].1=x at *;generalize L[q].2=y at *;generalize qer k (L.take q)=M at *
     go_wp2_with (first
      |(refine wpList_load_row rfl 107 _ rfl _ rfl _ _ _ _ HO.out.own underlying107 rfl (qar (qae _ _)) ?_)
      |(refine qaf 107 _ rfl rfl _ rfl _ _ _ _ HO.out.own underlying107 rfl (qar (qae _ _)) ?_))
     refine c1.mono ?_;clear c1;rintro e w2 ⟨rfl,hB2⟩;have HP:Hid (qbi W0 w2 (w.heap.size+1) k M):=HO.out.trans hB2;clear HO;have HO:=HP;clear HP;have hf0:=(qab ((hB2.block _ (by simp)).trans HX.out) 0)
     have hf1:=(qab ((hB2.block _ (by simp)).trans HX.out) 1)
     have HX2:Hid (w2.heap[wr.heap.size]? = some (.cells #[.int .i64 x,.int .i64 y] 101)):=(hB2.block _ (by simp)).trans HX.out;have c2:=qe9 _ k (qaw k M).count y w2;cases hx:qbC k x
     ·have HF:Hid (qaO k L=false):=qc3 (k:=q) (by omega) (by rw[HV.out];unfold qcu;rw[hx];rfl);clear hx HM HV
      go_wp2_with (first
       |(refine qak rfl 107 _ rfl _ rfl _ [] ?hl qbE ?_;case hl=>simp)
       |(refine wpList_store_row rfl 107 _ _ rfl _ _ rfl rfl 107 qaB ((HO.out.below.block _ (by omega)).trans HR.out) (qar (qae _ _)) rfl (qa5 _ _) ?_))
      refine bodyPost_ret (qap results131 _ _ w.heap.size 107 qaB (0,0) _ rfl (setRow_heap _ _ qaB _ _ _ ((HO.out.below.block _ (by omega)).trans HR.out)) underlying107 rfl (qar (qae _ _)) (.bool false) rfl) rfl ⟨by rw[qhG HF.out],qah (HB0.out.trans (HO.out.below.mono (by omega))) (Nat.le_refl _) _⟩
     have HXT:=qaa hx;clear hx
     go_wp2_with (first
      |(refine wpList_load_row rfl 107 _ rfl _ rfl _ _ _ _ HO.out.own underlying107 rfl (qar (qae _ _)) ?_)
      |(refine qaf 107 _ rfl rfl _ rfl _ _ _ _ HO.out.own underlying107 rfl (qar (qae _ _)) ?_))
     refine c2.mono ?_;clear c2;rintro e w3 ⟨rfl,hB3⟩;have HP:Hid (qbi W0 w3 (w.heap.size+1) k M):=HO.out.trans hB3;clear HO;have HO:=HP;clear HP;clear hf0 hf1;have hf0:=(qab ((hB3.block _ (ltA HX2.out)).trans HX2.out) 0)
     have hf1:=(qab ((hB3.block _ (ltA HX2.out)).trans HX2.out) 1)
     cases hy:qbC k y
     ·have HF:Hid (qaO k L=false):=qc3 (k:=q) (by omega) (by rw[HV.out];unfold qcu;rw[hy,HXT.out];rfl);clear hy HM HV
      go_wp2_with (first
       |(refine qak rfl 107 _ rfl _ rfl _ [] ?hl qbE ?_;case hl=>simp)
       |(refine wpList_store_row rfl 107 _ _ rfl _ _ rfl rfl 107 qaB ((HO.out.below.block _ (by omega)).trans HR.out) (qar (qae _ _)) rfl (qa5 _ _) ?_))
      refine bodyPost_ret (qap results131 _ _ w.heap.size 107 qaB (0,0) _ rfl (setRow_heap _ _ qaB _ _ _ ((HO.out.below.block _ (by omega)).trans HR.out)) underlying107 rfl (qar (qae _ _)) (.bool false) rfl) rfl ⟨by rw[qhG HF.out],qah (HB0.out.trans (HO.out.below.mono (by omega))) (Nat.le_refl _) _⟩
     ·have HYT:Hid (qbC k y=true):=hy;clear hy;cases hxy:(x==y)
      ·have HF:Hid (qcu k L[q]=true):=by show _=_;rw[HV.out];unfold qcu;rw[HYT.out,HXT.out,hxy];rfl
       clear HV;obtain⟨hx0,hx1⟩:0≤x∧x<k:=of_decide_eq_true HXT.out;obtain⟨hy0,hy1⟩:0≤y∧y<k:=of_decide_eq_true HYT.out
       go_wp2_with (first
     |(refine wpList_load_row rfl 107 _ rfl _ rfl _ _ _ _ HO.out.own underlying107 rfl (qar (qae _ _)) ?_)
     |(refine qaf 107 _ rfl rfl _ rfl _ _ _ _ HO.out.own underlying107 rfl (qar (qae _ _)) ?_)
     |(refine qak rfl 107 _ rfl _ rfl _ [] ?hl qbE ?_;case hl=>simp)
     |(refine wpList_store_row rfl 107 _ _ rfl _ _ rfl rfl 107 qaB ((HO.out.below.block _ (by omega)).trans HR.out) (qar (qae _ _)) rfl (qa5 _ _) ?_))
       obtain⟨i,rfl⟩:=Int.eq_ofNat_of_zero_le hx0;obtain⟨j,rfl⟩:=Int.eq_ofNat_of_zero_le hy0;have hi6:i<6:=by omega
       have hj6:j<6:=by omega
       have hci:=HO.out.at_ hi6 hj6;have hcf:=HO.out.frozen (1+i*6+j);generalize M i j=v0 at hci
       go_region
       all_goals go_wp2
       go_roundg g
       case measure=>omega
       case rel =>
        refine⟨q+1,by show _=_;have:=hq.out;omega,by go_num,?_,?_⟩
        ·have:=(HO.out.set hi6 hj6 true).drew;show qbi _ _ _ _ _;rw[HM.out];exact this
        intro i' h' hi';by_cases e:i'=q
        ·subst e;exact HF.out
        exact HA.out i' h' (by omega)
      ·have HF:Hid (qaO k L=false):=qc3 (k:=q) (by omega) (by rw[HV.out];unfold qcu;rw[HYT.out,HXT.out,hxy];rfl);clear HM HV
       go_wp2_with (first
     |(refine wpList_load_row rfl 107 _ rfl _ rfl _ _ _ _ HO.out.own underlying107 rfl (qar (qae _ _)) ?_)
     |(refine qaf 107 _ rfl rfl _ rfl _ _ _ _ HO.out.own underlying107 rfl (qar (qae _ _)) ?_)
     |(refine qak rfl 107 _ rfl _ rfl _ [] ?hl qbE ?_;case hl=>simp)
     |(refine wpList_store_row rfl 107 _ _ rfl _ _ rfl rfl 107 qaB ((HO.out.below.block _ (by omega)).trans HR.out) (qar (qae _ _)) rfl (qa5 _ _) ?_))
       refine bodyPost_ret (qap results131 _ _ w.heap.size 107 qaB (0,0) _ rfl (setRow_heap _ _ qaB _ _ _ ((HO.out.below.block _ (by omega)).trans HR.out)) underlying107 rfl (qar (qae _ _)) (.bool false) rfl) rfl ⟨by rw[qhG HF.out],qah (HB0.out.trans (HO.out.below.mono (by omega))) (Nat.le_refl _) _⟩
end
section
open Go.RowKit Go.Deep
structure qxo (arr:Array Value)(n:Nat)(L:List (Int×Int))(ea:Option Addr)(ecap:Nat):Prop where
 size:arr.size=11
 f0:arr[0]? = some (.int .i64 n)
 f1:arr[1]? = some (.slice ea L.length ecap)
theorem qaV {arr:Array Value}(h:arr.size=11):(prog.info? 45).map (·.size)=some arr.size:=by rw[h];kernel_rfl
theorem qc4 (arr:Array Value)(n:Nat)(h:arr[0]? = some (.int .i64 n))(a:Int)(w:World):Calls prog 76 #[.agg arr,.int .i64 a] w fun e w'=>e=.returned (.bool (qbC n a))∧Below w.heap.size w w':=by
 go_enter func76,ntmps76;go_wp2
 all_goals go_ret
 ·exact⟨by simp[qbC, *],bwA⟩
 exact⟨(by have h1:¬0≤a:=(by omega);simp[qbC,h1]),bwA⟩
def qb4 (n:Nat)(S:Nat→Bool):Array Value:=((List.range n).map fun k=>.bool (S k)).toArray
theorem qbI (n:Nat)(S:Nat→Bool):(qb4 n S).size=n:=by simp[qb4]
theorem qcE (n:Nat)(S:Nat→Bool)(k:Nat)(h:k<n):(qb4 n S)[k]? = some (.bool (S k)):=by
 simp only[qb4,List.getElem?_toArray,List.getElem?_map];rw[List.getElem?_range h];rfl
def qji (S:Nat→Bool)(k:Nat):Nat→Bool:=fun x=>if x=k then true else S x
theorem qgx (n:Nat)(S:Nat→Bool)(k:Nat):(qb4 n S).setIfInBounds k (.bool true)=qb4 n (qji S k):=by
 apply Array.ext_getElem?;intro i;rw[Array.getElem?_setIfInBounds];by_cases hi:i<n
 ·rw[qcE n (qji S k) i hi];by_cases hk:k=i
  ·subst hk;rw[if_pos rfl,if_pos (by rw[qbI];exact hi)];simp[qji]
  rw[if_neg hk,qcE n S i hi];have:¬i=k:=fun e=>hk e.symm;simp[qji,this]
 have e1:(qb4 n (qji S k))[i]? = none:=Array.getElem?_eq_none (by rw[qbI];omega);have e2:(qb4 n S)[i]? = none:=Array.getElem?_eq_none (by rw[qbI];omega);rw[e1,e2];by_cases hk:k=i
 ·subst hk;rw[if_pos rfl,if_neg (by rw[qbI];omega)]
 rw[if_neg hk]
theorem qjh (n:Nat):madeCells #[.bool false] n=qb4 n fun _=>false:=by
 apply Array.ext_getElem?;intro i;by_cases hi:i<n
 ·rw[qcE _ _ _ hi];simp[madeCells,hi,Nat.mod_one]
 have e1:(qb4 n fun _=>false)[i]? = none:=Array.getElem?_eq_none (by rw[qbI];omega);rw[e1,Array.getElem?_eq_none (by rw[size_madeCells];omega)]
def qgS (S:Nat→Bool)(e:Int×Int):Nat→Bool:=if S e.1.toNat then qji S e.2.toNat else S
def qbb (L:List (Int×Int))(S:Nat→Bool):Nat→Bool:=L.foldl qgS S
theorem qlm (L:List (Int×Int))(S:Nat→Bool)(k:Nat)(h:k<L.length):qbb (L.take (k+1)) S=qgS (qbb (L.take k) S) L[k]:=by
 unfold qbb;rw[List.take_succ_eq_append_getElem h,List.foldl_append];rfl
def qa0 (L:List (Int×Int)):Nat→(Nat→Bool)→Nat→Bool
 |0,S=>S
 |k+1,S=>qbb L (qa0 L k S)
def qa8 (a:Nat):Nat→Bool:=qji (fun _=>false) a
def qaZ (n:Nat)(L:List (Int×Int))(a b:Nat):Bool:=qa0 L n (qa8 a) b
structure qfl (w W:World)(b n:Nat)(S:Nat→Bool):Prop where
 below:Below b w W
 own:W.heap[b]? = some (.cells (qb4 n S) 4)
theorem qfl.set (h:qfl w W b n S)(k:Nat):qfl w (W.setCell ⟨b,k,none⟩ (.bool true)) b n (qji S k) :=
 ⟨h.below.setCell (Nat.le_refl _) _,by rw[heap_setCell_same W _ _ _ _ _ h.own,qgx]⟩
theorem qfl.at_ (h:qfl w W b n S)(hk:k<n):W.cell? ⟨b,k,none⟩=some (.bool (S k)):=(qab h.own k).trans (qcE n S k hk)
theorem qfl.frozen (h:qfl w W b n S)(k:Nat):W.frozen? ⟨b,k,none⟩=false:=frozen_of_row W b k _ _ h.own
theorem qtM (h:qaO n L=true)(hk:k<L.length):∃i j:Nat,i<n∧j<n∧L[k].1=(i:Int)∧L[k].2=(j:Int):=by
 have:=List.all_eq_true.1 h L[k] (List.getElem_mem hk);unfold qcu at this;simp only[Bool.and_eq_true] at this;obtain⟨⟨h1,h2⟩,_⟩:=this;have g1:=of_decide_eq_true h1;have g2:=of_decide_eq_true h2;exact⟨L[k].1.toNat,L[k].2.toNat,by omega,by omega,by omega,by omega⟩
theorem quL (arr:Array Value)(n:Nat)(L:List (Int×Int))(ea:Option Addr)(ecap:Nat)(H:qxo arr n L ea ecap)(hn:n≤6)(hL:L.length≤30)(hE:qaO n L=true)(a b:Nat)(ha:a<n)(hb:b<n)(w:World)(hA:qaY w ea L):Calls prog 126 #[.agg arr,.int .i64 a,.int .i64 b] w fun e w'=>e=.returned (.bool (qaZ n L a b))∧Below w.heap.size w w':=by
 have f0:=H.f0;have f1:=H.f1;have HE:=qaa hE;have HA:=qaa hA;have hmk:=fun w=>run_make_row' (P:=prog) 299 4 (.bool false) 1 underlying299 (by kernel_rfl) rfl .i64 .i64 n (by omega) (by omega) w;rw[qjh] at hmk;have HW0:Hid ((w.alloc (.cells arr 45)).heap[w.heap.size]? = some (.cells arr 45)):=qac _ _;have HB0:Hid (Below w.heap.size w (w.alloc (.cells arr 45))):=bwA;have HS0:Hid ((w.alloc (.cells arr 45)).heap.size=w.heap.size+1):=by show _=_;simp
 have HT:Hid (qfl (w.alloc (.cells arr 45)) ((w.alloc (.cells arr 45)).alloc (.cells ((qb4 n fun _=>false).setIfInBounds a (.bool true)) 4)) (w.heap.size+1) n (qa8 a)):=by
  refine⟨(Below.refl _ _).alloc (by simp) _,?_⟩;have:=qac (w.alloc (.cells arr 45)) (.cells ((qb4 n fun _=>false).setIfInBounds a (.bool true)) 4);rw[World.size_alloc] at this;rw[this,qgx];rfl
 have hba:=qcE n (fun _=>false) a ha;go_enter func126,ntmps126;go_wp2;generalize (w.alloc (.cells arr 45)).alloc (.cells ((qb4 n fun _=>false).setIfInBounds a (.bool true)) 4)=W1 at *;generalize w.alloc (.cells arr 45)=W0 at *
 go_loopg [8] n (fun g x wr=>∃k:Nat,Hid (k+g=n)∧x=.int .i64 k∧Hid (qfl W0 wr (w.heap.size+1) n (qa0 L k (qa8 a))))
 case atStart=>exact⟨0,by show _=_;omega,rfl,HT⟩
 case round =>
  obtain⟨k,hk,rfl,HK⟩:=hrel;have hc0:=(qab ((HK.out.below.block _ (by omega)).trans HW0.out) 0).trans f0
  cases gk with
  |zero =>
   have hlt:¬(k:Int)<n:=by have:=hk.out;omega
   have e:k=n:=by have:=hk.out;omega
   subst e;have hcb:=HK.out.at_ hb;have HF:Hid (qa0 L k (qa8 a) b=qaZ k L a b):=rfl;generalize qa0 L k (qa8 a) b=v0 at hcb HF;go_wp2;go_ret;exact⟨by rw[←HF.out];rfl,HB0.out.trans (HK.out.below.mono (by omega))⟩
  |succ g =>
   have hlt:(k:Int)<n:=by have:=hk.out;omega
   go_wp2
   go_loopg [9] L.length (fun g x wr=>∃q:Nat,Hid (q+g=L.length)∧x=.int .i64 q∧Hid (qfl W0 wr (w.heap.size+1) n (qbb (L.take q) (qa0 L k (qa8 a)))))
   case atStart=>exact⟨0,by show _=_;omega,rfl,HK⟩
   case round =>
    obtain⟨q,hq,rfl,HQ⟩:=hrel;have hc1:=(qab ((HQ.out.below.block _ (by omega)).trans HW0.out) 1).trans f1
    cases gk with
    |zero =>
     have hql:¬(q:Int)<L.length:=by have:=hq.out;omega
     go_wp2;go_roundg g
     case measure=>omega
     case rel =>
      refine⟨k+1,by show _=_;have:=hk.out;omega,by go_num,?_⟩;have:=HQ.out;rw[List.take_of_length_le (by have:=hq.out;omega)] at this;exact this
    |succ g2 =>
     have hql:(q:Int)<L.length:=by have:=hq.out;omega
     obtain⟨i,j,hi,hj,ei,ej⟩:=qtM HE.out (k:=q) (by omega);obtain⟨bb,off,rfl,hbb,e1,e2⟩:=(HA.out.below (HB0.out.trans (HQ.out.below.mono (by omega)))).at_ q (by omega);have HM:Hid (qbb (L.take (q+1)) (qa0 L k (qa8 a))=if qbb (L.take q) (qa0 L k (qa8 a)) i then qji (qbb (L.take q) (qa0 L k (qa8 a))) j else qbb (L.take q) (qa0 L k (qa8 a))):=by
      show _=_;rw[qlm L _ q (by omega)];unfold qgS;rw[ei,ej];rfl
     rw[ei] at e1;rw[ej] at e2;have ci:=HQ.out.at_ hi;have cj:=HQ.out.at_ hj;have cf:=HQ.out.frozen j;cases es:qbb (L.take q) (qa0 L k (qa8 a)) i
     ·rw[es] at ci;have HF:Hid (qbb (L.take (q+1)) (qa0 L k (qa8 a))=qbb (L.take q) (qa0 L k (qa8 a))):=by show _=_;rw[HM.out,es];rfl
      go_wp2;go_roundg g2
      case measure=>omega
      case rel=>exact⟨q+1,by show _=_;have:=hq.out;omega,by go_num,by show qfl _ _ _ _ _;rw[HF.out];exact HQ.out⟩
     rw[es] at ci;have HF:Hid (qbb (L.take (q+1)) (qa0 L k (qa8 a))=qji (qbb (L.take q) (qa0 L k (qa8 a))) j):=by show _=_;rw[HM.out,es];rfl
     generalize qbb (L.take q) (qa0 L k (qa8 a)) j=v0 at cj;go_wp2;go_roundg g2
     case measure=>omega
     case rel=>exact⟨q+1,by show _=_;have:=hq.out;omega,by go_num,by show qfl _ _ _ _ _;rw[HF.out];exact HQ.out.set j⟩
end
section
open Go.RowKit
structure qbV (w:World)(a:Option Addr)(B:List Int):Prop where
 at_:∀i,i<B.length→∃b off,a=some ⟨b,off,none⟩∧b<w.heap.size∧∀j (h':j<B.length),w.cell? ⟨b,off+j,none⟩=some (.int .i64 B[j])
theorem qbV.below {B:List Int}(h:qbV w a B)(hb:Below w.heap.size w w'):qbV w' a B :=
 ⟨fun i hi=>by
  obtain⟨b,off,ha,hlt,h1⟩:=h.at_ i hi;exact⟨b,off,ha,Nat.lt_of_lt_of_le hlt hb.size,fun j hj=>(hb.cell (p:=⟨b,_,none⟩) hlt).trans (h1 j hj)⟩⟩
theorem qbY {B:Nat}{a:World}(h:Below B a w)(n:Nat):Below B a (w.drewN n):=h.trans ⟨rfl,rfl,rfl,Nat.le_refl _,fun _ _=>rfl⟩
def qgK (B:List Int)(i:Nat):Int:=if i=0 then 0 else B.getD (i-1) 0
def pOk (B:List Int)(i:Nat):Bool:=decide (qgK B i<B.getD i 0∧B.getD i 0≤65536)
def rOk (B:List Int)(i:Nat):Bool:=decide (1≤B.getD i 0∧B.getD i 0≤65536∧(0<i→B.getD (i-1) 0<B.getD i 0))
def qaG (B:List Int):Bool:=decide (B.length≤8)&&(List.range B.length).all (pOk B)
def qaH (B:List Int):Bool:=(List.range B.length).all (rOk B)&&decide (B.length≤8)
theorem qm8 (B:List Int):qaG B=qaH B:=by
 unfold qaG qaH;rw[Bool.and_comm];congr 1;rw[Bool.eq_iff_iff,List.all_eq_true,List.all_eq_true];constructor
 ·intro h i hi;have hp:∀k,k<B.length→pOk B k=true:=fun k hk=>h k (List.mem_range.2 hk);have pos:∀k,k<B.length→1≤B.getD k 0:=by
   intro k
   induction k with
   |zero=>intro hk;have:=of_decide_eq_true (hp 0 hk);unfold qgK at this;simp only[if_pos] at this;omega
   |succ k ih =>
    intro hk;have:=of_decide_eq_true (hp (k+1) hk);unfold qgK at this;rw[if_neg (by omega)] at this;have:=ih (by omega);simp only[Nat.add_sub_cancel] at *;omega
  have hi':=List.mem_range.1 hi;have h1:=of_decide_eq_true (hp i hi');have h2:=pos i hi';refine decide_eq_true ⟨h2,h1.2,fun h0 => ?_⟩;unfold qgK at h1;rw[if_neg (by omega)] at h1;exact h1.1
 intro h i hi;have h1:=of_decide_eq_true (h i hi);refine decide_eq_true ⟨?_,h1.2.1⟩;unfold qgK;split
 ·omega
 exact h1.2.2 (by omega)
theorem qhL (a:Option Addr)(cap:Nat)(B:List Int)(hB:B.length≤maxLen)(w:World)(hA:qbV w a B):Calls prog 82 #[.slice a B.length cap] w fun e w'=>e=.returned (.bool (qaG B))∧w'=w:=by
 unfold maxLen at hB;have HA:=qaa hA;by_cases h8:B.length≤8
 ·have h8':¬(8:Int)<B.length:=by omega
  go_enter func82,ntmps82;go_wp2
  go_loopg [11,3,5] B.length (fun g x y z wr=>∃k:Nat,Hid (k+g=B.length)∧x=.int .i64 k∧y=.int .i64 (qgK B k)∧w=wr∧Hid (∀i,i<k→pOk B i=true))
  case atStart=>exact⟨0,by show _=_;omega,rfl,rfl,rfl,fun i hi=>by omega⟩
  case round =>
   obtain⟨k,hk,rfl,rfl,rfl,HL⟩:=hrel
   cases gk with
   |zero =>
    have hlt:¬(k:Int)<B.length:=by have:=hk.out;omega
    have HF:Hid (qaG B=true):=by
     show _=_;unfold qaG;rw[decide_eq_true h8,Bool.true_and,List.all_eq_true];exact fun i hi=>HL.out i (by have:=List.mem_range.1 hi;have:=hk.out;omega)
    go_wp2;go_ret;exact⟨by rw[HF.out];rfl,rfl⟩
   |succ g =>
    have hlt:(k:Int)<B.length:=by have:=hk.out;omega
    obtain⟨b,off,rfl,hbl,hcs⟩:=HA.out.at_ k (by omega);have hc:=hcs k (by omega);have HG:Hid (B.getD k 0=B[k]):=by show _=_;rw[List.getD_eq_getElem?_getD,List.getElem?_eq_getElem (by omega)];rfl
    have HP:Hid (qgK B (k+1)=B[k]):=by show _=_;unfold qgK;rw[if_neg (by omega)];exact HG.out
    have HO:Hid (pOk B k=decide (qgK B k<B[k]∧B[k]≤65536)):=by show _=_;unfold pOk;rw[HG.out]
    generalize B[k]=x at *;generalize qgK B k=p at *;by_cases h1:x≤p
    ·have HF:Hid (qaG B=false):=by
      show _=_;unfold qaG;rw[Bool.and_eq_false_iff];right;rw[List.all_eq_false];exact⟨k,List.mem_range.2 (by omega),by rw[HO.out,decide_eq_false (by omega)];decide⟩
     go_wp2;go_ret;exact⟨by rw[HF.out];rfl,rfl⟩
    by_cases h2:65536<x
    ·have HF:Hid (qaG B=false):=by
      show _=_;unfold qaG;rw[Bool.and_eq_false_iff];right;rw[List.all_eq_false];exact⟨k,List.mem_range.2 (by omega),by rw[HO.out,decide_eq_false (by omega)];decide⟩
     go_wp2;go_ret;exact⟨by rw[HF.out];rfl,rfl⟩
    go_wp2;go_roundg g
    case measure=>omega
    case rel =>
     refine⟨k+1,by show _=_;have:=hk.out;omega,by go_num,by rw[HP.out],rfl,fun i hi => ?_⟩;by_cases e:i=k
     ·subst e;rw[HO.out];exact decide_eq_true (by omega)
     exact HL.out i (by omega)
 have h8':(8:Int)<B.length:=by omega
 have HF:Hid (qaG B=false):=by show _=_;unfold qaG;rw[decide_eq_false h8];rfl
 go_enter func82,ntmps82;go_wp2;go_ret;exact⟨by rw[HF.out];rfl,rfl⟩
theorem qgD (a:Option Addr)(cap:Nat)(B:List Int)(hB:B.length≤maxLen)(w:World)(hA:qbV w a B):Calls prog 79 #[.slice a B.length cap] w fun e w'=>e=.returned (.bool (qaH B))∧Below w.heap.size w w':=by
 unfold maxLen at hB;have HA:=qaa hA;go_enter func79,ntmps79;go_wp2
 go_loopg [3] B.length (fun g x wr=>∃k:Nat,Hid (k+g=B.length)∧x=.int .i64 k∧Below w.heap.size w wr∧Hid (∀i,i<k→rOk B i=true))
 case atStart=>exact⟨0,by show _=_;omega,rfl,Below.refl _ _,fun i hi=>by omega⟩
 case round =>
  obtain⟨k,hk,rfl,hb,HL⟩:=hrel
  cases gk with
  |zero =>
   have hlt:¬(k:Int)<B.length:=by have:=hk.out;omega
   have HF:Hid (qaH B=decide ((B.length:Int)≤8)):=by
    show _=_;unfold qaH;have:(List.range B.length).all (rOk B)=true:=by
     rw[List.all_eq_true];exact fun i hi=>HL.out i (by have:=List.mem_range.1 hi;have:=hk.out;omega)
    rw[this,Bool.true_and];exact decide_eq_decide.2 (by omega)
   go_wp2;go_ret;exact⟨by rw[HF.out];rfl,hb⟩
  |succ g =>
   have hlt:(k:Int)<B.length:=by have:=hk.out;omega
   obtain⟨b,off,rfl,hbl,hcs⟩:=(HA.out.below hb).at_ k (by omega);have hc:=hcs k (by omega);have HG:Hid (B.getD k 0=B[k]):=by show _=_;rw[List.getD_eq_getElem?_getD,List.getElem?_eq_getElem (by omega)];rfl
   have hlo:(0:Int)≤k:=by omega
   rcases Nat.eq_zero_or_pos k with hk0|hk0
   ·subst hk0;rw[Nat.add_zero] at hc;have HO:Hid (rOk B 0=decide (1≤B[0]∧B[0]≤65536)):=by show _=_;unfold rOk;rw[HG.out];exact decide_eq_decide.2 (by omega)
    generalize B[0]=x at *;have hd0:decide ((0:Int)<0)=false:=rfl;by_cases h1:x<1
    ·have HF:Hid (qaH B=false):=by
      show _=_;unfold qaH;rw[Bool.and_eq_false_iff];left;rw[List.all_eq_false];exact⟨0,List.mem_range.2 (by omega),by rw[HO.out,decide_eq_false (by omega)];decide⟩
     go_wp2
     go_quiet (fail)
     go_wp2;go_ret;exact⟨by rw[HF.out];rfl,qbY hb _⟩
    have h1d:=decide_eq_false h1;by_cases h2:65536<x
    ·have HF:Hid (qaH B=false):=by
      show _=_;unfold qaH;rw[Bool.and_eq_false_iff];left;rw[List.all_eq_false];exact⟨0,List.mem_range.2 (by omega),by rw[HO.out,decide_eq_false (by omega)];decide⟩
     go_wp2
     go_quiet (fail)
     go_wp2;go_ret;exact⟨by rw[HF.out];rfl,qbY hb _⟩
    have h2d:=decide_eq_false h2;go_wp2
    go_quiet (fail)
    go_wp2;go_roundg g
    case measure=>omega
    case rel =>
     refine⟨0+1,by show _=_;have:=hk.out;omega,by go_num,qbY hb _,fun i hi => ?_⟩;by_cases e:i=0
     ·subst e;rw[HO.out];exact decide_eq_true (by omega)
     exact HL.out i (by omega)
   obtain⟨j,rfl⟩:∃j,k=j+1:=⟨k-1,by omega⟩
   have hc2:=hcs j (by omega);have HO:Hid (rOk B (j+1)=decide (1≤B[j+1]∧B[j+1]≤65536∧B[j]<B[j+1])):=by
    show _=_;unfold rOk;rw[HG.out];have e2:B.getD (j+1-1) 0=B[j]:=by rw[List.getD_eq_getElem?_getD,Nat.add_sub_cancel,List.getElem?_eq_getElem (by omega)];rfl
    rw[e2];exact decide_eq_decide.2 (by omega)
   generalize B[j+1]=x at *;generalize B[j]=y at *;have hpos:(0:Int)<((j+1:Nat):Int):=by omega
   by_cases h1:x<1
   ·have HF:Hid (qaH B=false):=by
     show _=_;unfold qaH;rw[Bool.and_eq_false_iff];left;rw[List.all_eq_false];exact⟨j+1,List.mem_range.2 (by omega),by rw[HO.out,decide_eq_false (by omega)];decide⟩
    go_wp2
    go_quiet (fail)
    go_wp2;go_ret;exact⟨by rw[HF.out];rfl,qbY hb _⟩
   have h1d:=decide_eq_false h1;by_cases h2:65536<x
   ·have HF:Hid (qaH B=false):=by
     show _=_;unfold qaH;rw[Bool.and_eq_false_iff];left;rw[List.all_eq_false];exact⟨j+1,List.mem_range.2 (by omega),by rw[HO.out,decide_eq_false (by omega)];decide⟩
    go_wp2
    go_quiet (fail)
    go_wp2;go_ret;exact⟨by rw[HF.out];rfl,qbY hb _⟩
   have h2d:=decide_eq_false h2;by_cases h3:x≤y
   ·have HF:Hid (qaH B=false):=by
     show _=_;unfold qaH;rw[Bool.and_eq_false_iff];left;rw[List.all_eq_false];exact⟨j+1,List.mem_range.2 (by omega),by rw[HO.out,decide_eq_false (by omega)];decide⟩
    go_wp2
    go_quiet (fail)
    go_wp2;go_ret;exact⟨by rw[HF.out];rfl,qbY hb _⟩
   have h3d:=decide_eq_false h3;go_wp2
   go_quiet (fail)
   go_wp2;go_roundg g
   case measure=>omega
   case rel =>
    refine⟨j+1+1,by show _=_;have:=hk.out;omega,by go_num,qbY hb _,fun i hi => ?_⟩;by_cases e:i=j+1
    ·subst e;rw[HO.out];exact decide_eq_true (by omega)
    exact HL.out i (by omega)
structure qc0 (lo hi:Nat)(W W':World):Prop where
 size:W.heap.size≤W'.heap.size
 same:∀k,lo≤k→k<hi→W'.heap[k]? = W.heap[k]?
theorem qc0.refl (lo hi:Nat)(W:World):qc0 lo hi W W:=⟨Nat.le_refl _,fun _ _ _=>rfl⟩
theorem qc0.trans {A B C:World}(h:qc0 lo hi A B)(k:qc0 lo hi B C):qc0 lo hi A C :=
 ⟨Nat.le_trans h.size k.size,fun i h1 h2=>(k.same i h1 h2).trans (h.same i h1 h2)⟩
theorem qc0.put (W:World)(r:Nat)(o:Obj)(h:hi≤r):qc0 lo hi W (W.putObj r o) :=
 ⟨by simp,fun k _ h2=>World.putObj_heap_other (by omega)⟩
theorem qc0.below (h:Below hi W W'):qc0 lo hi W W':=⟨h.size,fun k _ h2=>h.block k h2⟩
def qiu {β:Type}(st:Nat)(I:β→World→Prop):Prop:=∀s W W',I s W→W.grownBy W' (some st)→I s W'
def qme {β:Type}(B:Nat)(I:β→World→Prop):Prop:=∀s W k (o o':Obj),I s W→B≤k→W.heap[k]? = some o→o.isCells=false→I s (W.putObj k o')
def qw1 {α:Type}(F:Fence)(n:Nat)(P:Program)(g:Nat)(lb:Array Value)(encs:α→Array Value)(lo hi st:Nat)(S Sp:List α→Prop)(w:World):Prop :=
 ∀(l:Nat) (J Jx:List α→World→Prop) (W:World),Below w.heap.size w W→qiu st J→qiu st Jx →
  (∀pre x W1,J pre W1→YieldAt F (n-1) P l (encs x) W1 fun e W' =>
   (e=.returned (.bool true)∧J (pre++[x]) W'∧qc0 lo hi W1 W')∨(e=.returned (.bool false)∧Jx (pre++[x]) W')) →
  J [] W →
  CallsIn F n P g (#[.func (.yield l) #[] #[]]++lb) W fun e W'=>(∃v,e=.returned v)∧((∃xs,S xs∧J xs W')∨(∃pre,Sp pre∧Jx pre W'))
def qvA {α:Type}(lo hi:Nat)(I:List α→World→Prop)(Ix:Code→List α→World→Prop)(xs:List α)(W:World)(e:Exit)(_:Act)(W':World):Prop :=
 match e with
 |.normal=>KeepsOthers W W'∧qc0 lo hi W W'∧I xs W'
 |.ret=>KeepsOthers W W'∧Ix .ret xs W'
 |.exit id=>KeepsOthers W W'∧Ix (.exit id) xs W'
 |_=>False
variable {F:Fence} {n:Nat} {P:Program}
theorem qc6 {α:Type}{g:Operand}{ps:Array Tmp}{assign body:Code}{Q:Exit→Act→World→Prop}{a:Act}(hro:F.round=none)(h1:1≤n){gf:Nat}{lb:Array Value}(hg:a.eval g=.func (.func gf) #[] lb)(hFg:F.fn gf)(eg:∀args w,(callFunc gf args).run P w=.ok (.enter gf args) w){encs:α→Array Value}{st:Nat}(hst:st<w.heap.size)(hhi:hi≤w.heap.size){S Sp:List α→Prop}{w0:World}(hseq:qw1 F (n-1) P gf lb encs lo hi st S Sp w0)(hb0:Below w0.heap.size w0 w)(hps:∀x,(encs x).size=ps.size)(I:List α→World→Prop)(Ix:Code→List α→World→Prop)(hI:qiu st I)(hIx:∀c,qiu st (Ix c))(hP:qme w.heap.size I)(hPx:∀c,qme w.heap.size (Ix c))(h0:I [] w)(a₁:α→Act)(hassign:∀(l:Nat) (x:α) (W:World) (K:Act→World→Prop),K (a₁ x) W →
   assign.wpIn (F.inRound l) (n-1-1) P (Exit.then K (fun _ _ _=>False)) {tmps:=(ps.zip (encs x)).foldl (fun t (p,v)=>t.setIfInBounds p v) a.tmps,defers:=[]} W)(hbody:∀(l:Nat) (pre:List α) (x:α) (W:World),I pre W→w.heap.size<W.heap.size→body.wpIn (F.inRound l) (n-1-1) P (qvA lo hi I Ix (pre++[x]) W) (a₁ x) W)(hdone:∀(D:Nat) (xs:List α) (W:World),w.heap.size≤D→S xs→I xs W→W.heap[D]? = some (.deferred (some []))→Q .normal {a with defers:={target:=.collected D,args:=#[]}::a.defers} W)(hstop:∀(D:Nat) (c:Code) (pre:List α) (W:World),w.heap.size≤D→Sp pre→Ix c pre W→W.heap[D]? = some (.deferred (some []))→c.wpIn F n P Q {a with defers:={target:=.collected D,args:=#[]}::a.defers} W):(Code.rangeFunc g ps assign body).wpIn F n P Q a w:=by
 refine wpIn_rangeFunc fun fn hfn => ?_;rw[hro];generalize hD:w.heap.size=D at *;obtain⟨rd,hrd⟩:∃rd:LoopState→Option Code→Loop,rd=fun s p=>{state:=s,pending:=p,fn,tmps:=a.tmps,params:=ps,assign,body,defers:=D}:=⟨_,rfl⟩
 have hen:=run_enterLoop_outer (P:=P) (w:=w) fn a.tmps ps assign body;rw[hD] at hen;have eqW:(w.alloc (.deferred (some []))).alloc (.loop {state:=.ready,pending:=none,fn,tmps:=a.tmps,params:=ps,assign,body,defers:=D})=(w.alloc (.deferred (some []))).alloc (.loop (rd .ready none)):=by rw[hrd]
 rw[eqW] at hen;have b1:Below D w ((w.alloc (.deferred (some []))).alloc (.loop (rd .ready none))):=by
  rw[←hD];exact((Below.refl _ w).alloc (Nat.le_refl _) _).alloc (by simp) _
 have l1:((w.alloc (.deferred (some []))).alloc (.loop (rd .ready none))).heap[D+1]? = some (.loop (rd .ready none)):=by
  have:=World.alloc_heap_new (w.alloc (.deferred (some []))) (.loop (rd .ready none));rwa [World.size_alloc,hD] at this
 have d1:((w.alloc (.deferred (some []))).alloc (.loop (rd .ready none))).heap[D]? = some (.deferred (some [])):=by
  have:=World.alloc_heap_new w (.deferred (some []));rw[hD] at this;exact(Below.heap_alloc _ _ _ (by simp;omega)).trans this
 have i1:I [] ((w.alloc (.deferred (some []))).alloc (.loop (rd .ready none))):=by
  refine hI _ w _ h0 ⟨rfl,rfl,rfl,by simp;omega,fun k hk _ => ?_⟩;exact b1.block k (by omega)
 generalize (w.alloc (.deferred (some []))).alloc (.loop (rd .ready none))=W1 at *;refine⟨D+1,[{target:=.collected D,args:=#[]}],W1,{target:=.fn (.func gf) lb,args:=#[.func (.yield (D+1)) #[] #[]]},W1,gf,#[.func (.yield (D+1)) #[] #[]]++lb,W1,hen,?_,?_,?_,fun _=>h1,?_⟩
 ·simp only[resolve,hg];simp[go_sem]
 ·intro f' hf';simp[Target.leads] at hf';subst hf';exact hFg
 ·simp[invoke,go_sem,eg]
 have keep:∀{A B:World} {k:Nat} {o:Obj},D≤k→A.grownBy B (some st)→A.heap[k]? = some o→B.heap[k]? = some o:=by
  intro A B k o hk hgr ho;exact(hgr.block k (ltA ho) (by simp;omega)).trans ho
 refine(hseq (D+1) (fun pre W=>I pre W∧W.heap[D+1]? = some (.loop (rd .ready none))∧W.heap[D]? = some (.deferred (some [])))
  (fun pre W=>∃c,Ix c pre W∧W.heap[D+1]? = some (.loop (rd .done (some c)))∧W.heap[D]? = some (.deferred (some [])))
  W1 (hb0.trans (b1.mono (by have:=hb0.size;omega))) (fun s A B h hgr=>⟨hI s A B h.1 hgr,keep (by omega) hgr h.2.1,keep (Nat.le_refl _) hgr h.2.2⟩)
  (fun s A B h hgr=>by
   obtain⟨c,hc,hl,hd⟩:=h;exact⟨c,hIx c s A B hc hgr,keep (by omega) hgr hl,keep (Nat.le_refl _) hgr hd⟩) ?_ ⟨i1,l1,d1⟩).mono ?_
 ·rintro pre x W ⟨hin,hl,hd⟩;have hlt:D+1<W.heap.size:=ltA hl;have hy:=run_yield (P:=P) (args:=encs x) hl (by rw[hrd];exact hps x);rw[hrd] at hy;refine⟨fn,_,assign,body,hy,roundIn_of_wpIn hfn (hassign _ x W _ ⟨_,run_beginRound hl (by rw[hrd]),?_⟩)⟩;generalize hWb:W.putObj (D+1) (.loop {rd .ready none with state:=.busy})=Wb;have lb2:Wb.heap[D+1]? = some (.loop {rd .ready none with state:=.busy}):=by rw[←hWb];exact World.putObj_heap_same hlt
  have db2:Wb.heap[D]? = some (.deferred (some [])):=by rw[←hWb];exact(World.putObj_heap_other (by omega)).trans hd
  have ib2:I pre Wb:=by rw[←hWb];exact hP pre W (D+1) _ _ hin (by omega) hl rfl
  have kW:qc0 lo hi W Wb:=by rw[←hWb];exact qc0.put W (D+1) _ (by omega)
  refine wpIn_mono (hbody _ pre x Wb ib2 (by have:=ltA lb2;omega)) ?_;have fin:∀(jump:Option Code) (W3:World),KeepsOthers Wb W3 →
    (Instr.endRound (D+1) jump).run P W3=.ok (.bool jump.isNone) (W3.putObj (D+1) (.loop (rd (if jump.isNone then .ready else .done) jump)))∧W3.heap[D+1]? = some (.loop {rd .ready none with state:=.busy}) ∧
    (W3.putObj (D+1) (.loop (rd (if jump.isNone then .ready else .done) jump))).heap[D+1]? = some (.loop (rd (if jump.isNone then .ready else .done) jump)) ∧
    (W3.putObj (D+1) (.loop (rd (if jump.isNone then .ready else .done) jump))).heap[D]? = some (.deferred (some [])):=by
   intro jump W3 hk;have hl3:=hk.same _ _ lb2 rfl;refine⟨?_,hl3,World.putObj_heap_same (ltA hl3),(World.putObj_heap_other (by omega)).trans (hk.same _ _ db2 rfl)⟩;have:=run_endRound (P:=P) jump hl3;rw[hrd] at this ⊢;exact this
  intro e a3 W3 hp
  match e,hp with
  |.normal,⟨hk,hr,hi3⟩ =>
   obtain⟨hrun,hl3,hl4,hd4⟩:=fin none W3 hk;exact⟨_,_,hrun,.inl ⟨rfl,⟨hP _ W3 (D+1) _ _ hi3 (by omega) hl3 rfl,hl4,hd4⟩,(kW.trans hr).trans (qc0.put W3 (D+1) _ (by omega))⟩⟩
  |.ret,⟨hk,hi3⟩ =>
   obtain⟨hrun,hl3,hl4,hd4⟩:=fin (some .ret) W3 hk;exact⟨_,_,hrun,.inr ⟨rfl,.ret,hPx _ _ W3 (D+1) _ _ hi3 (by omega) hl3 rfl,hl4,hd4⟩⟩
  |.exit id,⟨hk,hi3⟩ =>
   obtain⟨hrun,hl3,hl4,hd4⟩:=fin (some (.exit id)) W3 hk;exact⟨_,_,hrun,.inr ⟨rfl,.exit id,hPx _ _ W3 (D+1) _ _ hi3 (by omega) hl3 rfl,hl4,hd4⟩⟩
 rintro e W2 ⟨⟨v,rfl⟩,h⟩;rcases h with ⟨xs,hS,hin,hl,hd⟩|⟨pre,hSp,c,hin,hl,hd⟩
 ·have hrun:=run_endLoop (P:=P) hl (by rw[hrd];simp);rw[hrd] at hrun;exact⟨none,_,hrun,hdone D xs _ (Nat.le_refl _) hS (hP _ W2 (D+1) _ _ hin (by omega) hl rfl) ((World.putObj_heap_other (by omega)).trans hd)⟩
 have hrun:=run_endLoop (P:=P) hl (by rw[hrd];simp);rw[hrd] at hrun;exact⟨some c,_,hrun,hstop D c pre _ (Nat.le_refl _) hSp (hPx c _ W2 (D+1) _ _ hin (by omega) hl rfl) ((World.putObj_heap_other (by omega)).trans hd)⟩
end
end Go.Proofs.YtllcbnfmihfaaaaGreatDoor
