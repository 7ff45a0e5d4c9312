import Derived.Laws.ResultCell
import Derived.Deep.OwnRows
import Derived.Test.YtoegnhgofkhbnaaGreatDoorHq02
import Derived.Test.YtoegnhgofkhbnaaGreatDoorHq01
set_option maxRecDepth 100000
set_option maxHeartbeats 8000000
set_option linter.all false
namespace Go.Proofs.YtoegnhgofkhbnaaGreatDoor
open Go.Proofs.Tryz
open Go.Value renaming int->A7,slice->A8,pointer->A9,string->Aa,tuple->Ab,agg->Ac,bool->Ad
open Go.Obj renaming cells->Af
open Go.Ending renaming returned->Ag
open Go.IntKind renaming i64->Ah
open Option renaming some->Aj,none->Ak
open Go renaming World->Al,Value->Am,Calls->An
open Go.Proofs.Tryz renaming prog->Ao
variable{W w:Al}{L:List (Int×Int)}{b k n:Nat}{M:Nat->Nat->Bool}{S:Nat->Bool}{hi lo:Int}{l:A2}
section
open Go.RowKit
theorem FN{P:Program}{fn:Func}{p u:Tmp}{ty:TypeId}(h:fn.results=#[.cell p ty,.tmp u])(a:A4)(w:Al)(g:Nat)(t:TypeId)(cs:A4)(b:Nat×Nat)(d:TypeDesc)(f:a.getD p undef=A9 (Aj ⟨g,0,Ak⟩))(e:w.heap[g]?=Aj (Af cs t b))(i:P.underlying ty=Aj d)(c:(match d with|.struct _|.array _ _=>true|_=>false)=true)(hi:(P.info? ty).map (·.size)=Aj cs.size)(v:Am)(j:a.getD u undef=v):(results fn a).run P w=.ok (Ab #[.agg cs,v]) w:=by
 subst j;rw[results_cell_tmp h,f];simp only[asAddr,E4,Dl,FZ w g t ty cs b d e i c hi]
structure Es(w:World)(a:A5)(L:List (Int×Int)):Prop where
 at_:∀i (h:i<L.length),∃b off,a=some ⟨b,off,none⟩/\b<w.heap.size/\w.cell? ⟨b,off+i*2,none⟩=some (.int .i64 L[i].1)/\w.cell? ⟨b,off+i*2+1,none⟩=some (.int .i64 L[i].2)
theorem Es.below{w':Al}{a:A5}(h:Es w a L)(c:A1 w w'):Es w' a L :=
 ⟨λi j=>by
  obtain⟨b,off,g,d,e,f⟩:=h.at_ i j;exact⟨b,off,g,Br d c.size,(c.cell (p:=⟨b,_,Ak⟩) d).trans e,(c.cell (p:=⟨b,_,Ak⟩) d).trans f⟩⟩
def Ei(n:Nat)(e:Int×Int):Bool:=Bv n e.1&&Bv n e.2 && !(e.1==e.2)
def Ib(k:Nat):Nat->Nat->Bool:=λi j=>decide (i=j/\i<k)
theorem aC(k:Nat):F9 (Ib k) k k true=Ib (k+1):=by
 funext i j;unfold F9 Ib;by_cases c:i=k/\j=k
 ·obtain⟨rfl,rfl⟩:=c;simp
 rw[Aq c];exact GI.2 (by omega)
theorem aD:Ib 0=λ_ _=>false:=by funext i j;simp[Ib]
def Ho(m:Nat->Nat->Bool)(e:Int×Int):Nat->Nat->Bool:=F9 m e.1.toNat e.2.toNat true
def Gn(n:Nat)(L:List (Int×Int)):Nat->Nat->Bool:=L.foldl Ho (Ib n)
theorem aE(n:Nat)(L:List (Int×Int))(k:Nat)(h:k<L.length):Gn n (L.take (k+1))=Ho (Gn n (L.take k)) L[k]:=by
 unfold Gn;rw[Qu h,OB];rfl
def Da(n:Nat)(L:List (Int×Int)):Bool:=L.all (Ei n)
theorem LT(h:k<L.length)(e:Ei n L[k]=false):Da n L=false:=by
 unfold Da;rw[F7];exact⟨L[k],Iz h,by rw[e];decide⟩
theorem UO(h:∀k (h:k<L.length),Ei n L[k]=true):Da n L=true:=by
 unfold Da;rw[D7];intro x b;obtain⟨k,a,rfl⟩:=Iy b;exact h k a
def CU(c:Int)(L:List (Int×Int)):Bool:=decide (1<=c/\c<=6/\L.length<=30)&&Da c.toNat L
def BK(n:Nat)(L:List (Int×Int)):Nat->Nat->Bool:=EL n n (Gn n L)
def Nf(n:Nat)(L:List (Int×Int)):Am:=if Da n L then Ab #[.agg (Bh n (BK n L)),Ad true]else Ab #[.agg AU,Ad false]
theorem OR(h:Da n L=false):Nf n L=Ab #[.agg AU,Ad false]:=by unfold Nf;rw[h];rfl
theorem UP(h:Da n L=true):Nf n L=Ab #[.agg (Bh n (BK n L)),Ad true]:=by unfold Nf;rw[h];rfl
theorem Cs.trans{W':Al}(h:Cs w W b n M)(k:A1 W W'):Cs w W' b n M:=by
 have a:b<W.heap.size:=At h.own;exact⟨h.below.trans (k.mono (by omega)),(k.block b a).trans h.own⟩
theorem Cs.lt(h:Cs w W b n M):b<W.heap.size:=At h.own
theorem Cs.alloc(h:Cs w W b n M)(o:Obj):Cs w (W.alloc o) b n M:=h.trans ((AT _ _).alloc (AB _) o)
theorem aF(c:Int)(L:List (Int×Int))(a:A5)(f:Nat)(i:L.length<=maxLen)(w:Al)(j:¬(1<=c/\c<=6/\L.length<=30)):An Ao 70 #[A7 Ah c,A8 a L.length f] w λe k=>e=Ag (Ab #[.agg AU,Ad false])/\A1 w k:=by
 unfold maxLen at i;have b:Hid ((w.alloc (Af AU 72)).heap[w.heap.size]?=Aj (Af AU 72)):=Ay _ _;have d:Hid (AU.size=AU.size):=rfl;have key:c<1\/(1<=c/\6<c)\/(1<=c/\c<=6/\(30:Int)<L.length):=by omega
 clear j;rcases key with h|⟨h,g⟩|⟨h,g,l⟩
 all_goals
  go_enter func70,ntmps70
  go_wp2_with(first
   |(refine G1 rfl rfl _ rfl w.heap.size rfl ?_)
   |(refine EK rfl 72 _ rfl _ rfl _ [] ?hl KN ?_;case hl=>simp)
   |(refine Bg rfl 72 _ _ rfl _ _ rfl rfl 72 AU b (BP (Bj _ _)) d (FL _ _) ?_;rw[F6]))
  refine Bd (FN results70 _ _ w.heap.size 72 AU (0,0) _ rfl b underlying72 rfl (BP (Bj _ _)) (Ad false) rfl) rfl ⟨rfl,AH⟩
theorem aG(w:Al)(n:Nat):Cs (w.alloc (Af AU 72)) (((w.alloc (Af AU 72)).alloc (Af AU 72)).setRow (w.heap.size+1) (Bh n λ_ _=>false)) (w.heap.size+1) n (Ib 0):=by
 refine⟨Bu ((AT _ _).alloc (by simp) _) (AB _) _,?_⟩;rw[aD];refine B4 _ _ AU _ 72 (0,0) ?_;have:=Ay (w.alloc (Af AU 72)) (Af AU 72);rwa[AM]at this
theorem UQ(n:Nat)(h1:1<=n)(hn:n<=6)(L:List (Int×Int))(a:A5)(ab:Nat)(hL:L.length<=30)(w:Al)(U:Es w a L):An Ao 70 #[A7 Ah n,A8 a L.length ab] w λe w'=>e=Ag (Nf n L)/\A1 w w':=by
 have HE:Hid (Es w a L):=U;clear U;have d:Hid ((w.alloc (Af AU 72)).heap[w.heap.size]?=Aj (Af AU 72)):=Ay _ _;have P:Hid (((w.alloc (Af AU 72)).alloc (Af AU 72)).heap[w.heap.size+1]?=Aj (Af AU 72)):=by
  have:=Ay (w.alloc (Af AU 72)) (Af AU 72);rw[AM]at this;exact this
 have S:Hid (AU.size=(Bh n λ_ _=>false).size):=by rw[Bj];exact Bj _ _
 have H:=aG w n;have m:Hid (A1 w (w.alloc (Af AU 72))):=AH;have ag:Hid ((w.alloc (Af AU 72)).heap.size=w.heap.size+1):=by show _=_;simp
 generalize hW:((w.alloc (Af AU 72)).alloc (Af AU 72)).setRow (w.heap.size+1) (Bh n λ_ _=>false)=W at H;have O:Hid (_=W):=hW;clear hW;have R:Hid (Cs (w.alloc (Af AU 72)) W (w.heap.size+1) n (Ib 0)):=H;clear H;go_enter func70,ntmps70
 go_wp2_with(first
  |(refine G1 rfl rfl _ rfl w.heap.size rfl ?_)
  |(refine G1 rfl rfl _ rfl (w.heap.size+1) ?hN ?_;case hN=>(simp only[AM,A1];done))
  |(refine EK rfl 72 _ rfl _ rfl _ [(0,A7 Ah n)] ?hl (UG n) ?_;case hl=>simp[go_sem])
  |(refine Bg rfl 72 _ _ rfl _ _ rfl rfl 72 AU P (BP (Bj _ _)) S (FL _ _) ?_;rw[O.out]))
 clear O P S;generalize w.alloc (Af AU 72)=W0 at *
 go_loopg[25,7] n (λg x y wr=>∃k:Nat,Hid (k+g=n)/\x=A7 Ah k/\Hid (Cs W0 wr (w.heap.size+1) n (Ib k)))
 case atStart=>exact⟨0,by show _=_;omega,rfl,R⟩
 case round =>
  clear R;obtain⟨k,C,rfl,o⟩:=hrel
  cases gk with
  |succ g =>
   have b:(k:Int)<n:=by have:=C.out;omega
   have D:k<6:=by omega
   have A:=o.at_ D D;have c2:=o.frozen (1+k*6+k);generalize Ib k k k=v0 at A;go_wp2;go_roundg g
   case measure=>omega
   case rel=>exact⟨k+1,by show _=_;have:=C.out;omega,by go_num,by have:=o.set D D true;rw[aC]at this;exact this⟩
  |zero =>
   have b:¬(k:Int)<n:=by have:=C.out;omega
   have e:k=n:=by have:=C.out;omega
   subst e;go_wp2
   go_loopg[36,9] L.length (λg x y wr=>∃q:Nat,Hid (q+g=L.length)/\x=A7 Ah q/\Hid (Cs W0 wr (w.heap.size+1) k (Gn k (L.take q)))/\Hid (∀i (h:i<L.length),i<q->Ei k L[i]=true))
   case atStart=>exact⟨0,by show _=_;omega,rfl,o,λi h hi=>by omega⟩
   case round =>
    clear o;obtain⟨q,r,rfl,u,G⟩:=hrel
    cases gk with
    |zero =>
     have ad:¬(q:Int)<L.length:=by have:=r.out;omega
     have HY:Hid (Da k L=true):=UO (λi h=>G.out i h (by have:=r.out;omega));have Q:Hid (Cs W0 wr (w.heap.size+1) k (Gn k L)):=by
      have:=u.out;rw[FJ (by have:=r.out;omega)]at this;exact this
     clear u G;have T:=aB (w.heap.size+1) k (Gn k L) hn wr Q.own
     go_wp2_with(first
      |(go_at_call 96;refine T.mono ?_;clear T;rintro e s ⟨rfl,N⟩;have c:Hid (Cs W0 s (w.heap.size+1) k (BK k L)):=⟨Q.below.trans N.below,N.own⟩;clear N)
      |(refine B3 rfl 72 _ rfl _ rfl _ _ _ _ c.own underlying72 rfl (BP (Bj _ _)) ?_)
      |(refine Bg rfl 72 _ _ rfl _ _ rfl rfl 72 AU ((c.below.block _ (by omega)).trans d) (BP (Bj _ _)) (by rw[Bj];exact Bj _ _) (FL _ _) ?_))
     refine Bd (FN results70 _ _ w.heap.size 72 (Bh k (BK k L)) (0,0) _ rfl (B4 _ _ AU _ _ _ ((c.below.block _ (by omega)).trans d)) underlying72 rfl (BP (Bj _ _)) (Ad true) rfl) rfl ⟨by rw[UP HY.out],Bu (m.trans (c.below.mono (by omega))) (AB _) _⟩
    |succ g =>
     have ad:(q:Int)<L.length:=by have:=r.out;omega
     obtain⟨ah,off,rfl,b,e1,e2⟩:=(HE.below (m.trans ((u.below.mono (by omega))))).at_ q (by omega);have I:Hid ((wr.alloc (Af #[A7 Ah L[q].1,A7 Ah L[q].2] 40)).heap[wr.heap.size]?=Aj (Af #[A7 Ah L[q].1,A7 Ah L[q].2] 40)):=Ay _ _;have c:Hid (Cs W0 (wr.alloc (Af #[A7 Ah L[q].1,A7 Ah L[q].2] 40)) (w.heap.size+1) k (Gn k (L.take q))):=u.alloc _;have f:Hid (Ei k L[q]=Ei k (L[q].1,L[q].2)):=rfl;have t:Hid (Gn k (L.take (q+1))=Ho (Gn k (L.take q)) (L[q].1,L[q].2)):=aE k L q (by omega);have A:=LS _ k (Fv k (Gn k (L.take q))).count L[q].1 (wr.alloc (Af #[A7 Ah L[q].1,A7 Ah L[q].2] 40));generalize L[q].1=x at *;generalize L[q].2=y at *;generalize Gn k (L.take q)=M at *
     go_wp2_with(first
      |(refine B3 rfl 72 _ rfl _ rfl _ _ _ _ c.own underlying72 rfl (BP (Bj _ _)) ?_)
      |(refine CA 72 _ rfl rfl _ rfl _ _ _ _ c.own underlying72 rfl (BP (Bj _ _)) ?_))
     refine A.mono ?_;clear A;rintro e s ⟨rfl,B⟩;have p:Hid (Cs W0 s (w.heap.size+1) k M):=c.trans B;clear c;have c:=p;clear p;have V:=(Ar ((B.block _ (by simp)).trans I) 0)
     have X:=(Ar ((B.block _ (by simp)).trans I) 1)
     have v:Hid (s.heap[wr.heap.size]?=Aj (Af #[A7 Ah x,A7 Ah y] 40)):=(B.block _ (by simp)).trans I;have c2:=LS _ k (Fv k M).count y s;cases E:Bv k x
     ·have l:Hid (Da k L=false):=LT (k:=q) (by omega) (by rw[f.out];unfold Ei;rw[E];rfl);clear E t f
      go_wp2_with(first
       |(refine EK rfl 72 _ rfl _ rfl _ [] ?hl KN ?_;case hl=>simp)
       |(refine Bg rfl 72 _ _ rfl _ _ rfl rfl 72 AU ((c.below.block _ (by omega)).trans d) (BP (Bj _ _)) rfl (FL _ _) ?_))
      refine Bd (FN results70 _ _ w.heap.size 72 AU (0,0) _ rfl (B4 _ _ AU _ _ _ ((c.below.block _ (by omega)).trans d)) underlying72 rfl (BP (Bj _ _)) (Ad false) rfl) rfl ⟨by rw[OR l.out],Bu (m.trans (c.below.mono (by omega))) (AB _) _⟩
     have z:=Ap E;clear E
     go_wp2_with(first
      |(refine B3 rfl 72 _ rfl _ rfl _ _ _ _ c.own underlying72 rfl (BP (Bj _ _)) ?_)
      |(refine CA 72 _ rfl rfl _ rfl _ _ _ _ c.own underlying72 rfl (BP (Bj _ _)) ?_))
     refine c2.mono ?_;clear c2;rintro e w3 ⟨rfl,K⟩;have p:Hid (Cs W0 w3 (w.heap.size+1) k M):=c.trans K;clear c;have c:=p;clear p;clear V X;have V:=(Ar ((K.block _ (At v)).trans v) 0)
     have X:=(Ar ((K.block _ (At v)).trans v) 1)
     cases F:Bv k y
     ·have l:Hid (Da k L=false):=LT (k:=q) (by omega) (by rw[f.out];unfold Ei;rw[F,z.out];rfl);clear F t f
      go_wp2_with(first
       |(refine EK rfl 72 _ rfl _ rfl _ [] ?hl KN ?_;case hl=>simp)
       |(refine Bg rfl 72 _ _ rfl _ _ rfl rfl 72 AU ((c.below.block _ (by omega)).trans d) (BP (Bj _ _)) rfl (FL _ _) ?_))
      refine Bd (FN results70 _ _ w.heap.size 72 AU (0,0) _ rfl (B4 _ _ AU _ _ _ ((c.below.block _ (by omega)).trans d)) underlying72 rfl (BP (Bj _ _)) (Ad false) rfl) rfl ⟨by rw[OR l.out],Bu (m.trans (c.below.mono (by omega))) (AB _) _⟩
     ·have J:Hid (Bv k y=true):=F;clear F;cases aa:(x==y)
      ·have l:Hid (Ei k L[q]=true):=by show _=_;rw[f.out];unfold Ei;rw[J.out,z.out,aa];rfl
       clear f;obtain⟨ae,ak⟩:0<=x/\x<k:=By z;obtain⟨af,al⟩:0<=y/\y<k:=By J
       go_wp2_with(first
     |(refine B3 rfl 72 _ rfl _ rfl _ _ _ _ c.own underlying72 rfl (BP (Bj _ _)) ?_)
     |(refine CA 72 _ rfl rfl _ rfl _ _ _ _ c.own underlying72 rfl (BP (Bj _ _)) ?_)
     |(refine EK rfl 72 _ rfl _ rfl _ [] ?hl KN ?_;case hl=>simp)
     |(refine Bg rfl 72 _ _ rfl _ _ rfl rfl 72 AU ((c.below.block _ (by omega)).trans d) (BP (Bj _ _)) rfl (FL _ _) ?_))
       obtain⟨i,rfl⟩:=Lt ae;obtain⟨j,rfl⟩:=Lt af;have Y:i<6:=by omega
       have Z:j<6:=by omega
       have ac:=c.at_ Y Z;have ai:=c.frozen (1+i*6+j);generalize M i j=v0 at ac
       go_region
       all_goals go_wp2
       go_roundg g
       case measure=>omega
       case rel =>
        refine⟨q+1,by show _=_;have:=r.out;omega,by go_num,?_,?_⟩
        ·have:=(c.set Y Z true).drew;show Cs _ _ _ _ _;rw[t.out];exact this
        intro i' h' aj;by_cases e:i'=q
        ·subst e;exact l
        exact G i' h' (by omega)
      ·have l:Hid (Da k L=false):=LT (k:=q) (by omega) (by rw[f.out];unfold Ei;rw[J.out,z.out,aa];rfl);clear t f
       go_wp2_with(first
     |(refine B3 rfl 72 _ rfl _ rfl _ _ _ _ c.own underlying72 rfl (BP (Bj _ _)) ?_)
     |(refine CA 72 _ rfl rfl _ rfl _ _ _ _ c.own underlying72 rfl (BP (Bj _ _)) ?_)
     |(refine EK rfl 72 _ rfl _ rfl _ [] ?hl KN ?_;case hl=>simp)
     |(refine Bg rfl 72 _ _ rfl _ _ rfl rfl 72 AU ((c.below.block _ (by omega)).trans d) (BP (Bj _ _)) rfl (FL _ _) ?_))
       refine Bd (FN results70 _ _ w.heap.size 72 AU (0,0) _ rfl (B4 _ _ AU _ _ _ ((c.below.block _ (by omega)).trans d)) underlying72 rfl (BP (Bj _ _)) (Ad false) rfl) rfl ⟨by rw[OR l.out],Bu (m.trans (c.below.mono (by omega))) (AB _) _⟩
end
section
open Go.RowKit Go.Deep
structure Rg(arr:A4)(n:Nat)(L:List (Int×Int))(ea:A5)(ecap:Nat):Prop where
 size:arr.size=11
 f0:arr[0]?=some (.int .i64 n)
 f1:arr[1]?=some (.slice ea L.length ecap)
theorem Dg{arr:A4}(h:arr.size=11):(prog.info? 25).map (·.size)=Aj arr.size:=by rw[h];kernel_rfl
theorem LU(arr:A4)(n:Nat)(h:arr[0]?=Aj (A7 Ah n))(a:Int)(w:Al):An Ao 16 #[.agg arr,A7 Ah a] w λe c=>e=Ag (Ad (Bv n a))/\A1 w c:=by
 go_enter func16,ntmps16;go_wp2
 all_goals go_ret
 ·exact⟨by simp[Bv, *],AH⟩
 exact⟨(by have b:¬0<=a:=(by omega);simp[Bv,b]),AH⟩
def Gp(n:Nat)(S:Nat->Bool):A4:=((List.range n).map λk=>Ad (S k)).toArray
theorem Ng(n:Nat)(S:Nat->Bool):(Gp n S).size=n:=by simp[Gp]
theorem Nh(n:Nat)(S:Nat->Bool)(k:Nat)(h:k<n):(Gp n S)[k]?=Aj (Ad (S k)):=by
 simp only[Gp,Ub,GH];rw[Uk h];rfl
def Fw(S:Nat->Bool)(k:Nat):Nat->Bool:=λx=>if x=k then true else S x
theorem UR(n:Nat)(S:Nat->Bool)(k:Nat):(Gp n S).setIfInBounds k (Ad true)=Gp n (Fw S k):=by
 apply QE;intro i;rw[Qv];by_cases b:i<n
 ·rw[Nh n (Fw S k) i b];by_cases a:k=i
  ·subst a;rw[As rfl,As (by rw[Ng];exact b)];simp[Fw]
  rw[Aq a,Nh n S i b];have:¬i=k:=λe=>a e.symm;simp[Fw,this]
 have c:(Gp n (Fw S k))[i]?=Ak:=Lu (by rw[Ng];omega);have d:(Gp n S)[i]?=Ak:=Lu (by rw[Ng];omega);rw[c,d];by_cases a:k=i
 ·subst a;rw[As rfl,Aq (by rw[Ng];omega)]
 rw[Aq a]
theorem aH(n:Nat):madeCells #[Ad false] n=Gp n λ_=>false:=by
 apply QE;intro i;by_cases a:i<n
 ·rw[Nh _ _ _ a];simp[madeCells,a,Nat.mod_one]
 have b:(Gp n λ_=>false)[i]?=Ak:=Lu (by rw[Ng];omega);rw[b,Lu (by rw[size_madeCells];omega)]
def ID(S:Nat->Bool)(e:Int×Int):Nat->Bool:=if S e.1.toNat then Fw S e.2.toNat else S
def Du(L:List (Int×Int))(S:Nat->Bool):Nat->Bool:=L.foldl ID S
theorem aI(L:List (Int×Int))(S:Nat->Bool)(k:Nat)(h:k<L.length):Du (L.take (k+1)) S=ID (Du (L.take k) S) L[k]:=by
 unfold Du;rw[Qu h,OB];rfl
def CG(L:List (Int×Int)):Nat->(Nat->Bool)->Nat->Bool
 |0,S=>S
 |k+1,S=>Du L (CG L k S)
def Cl(a:Nat):Nat->Bool:=Fw (λ_=>false) a
def B5(n:Nat)(L:List (Int×Int))(a b:Nat):Bool:=CG L n (Cl a) b
structure Hp(w W:World)(b n:Nat)(S:Nat->Bool):Prop where
 below:Below b w W
 own:W.heap[b]?=some (.cells (Gp n S) 4)
theorem Hp.set(h:Hp w W b n S)(k:Nat):Hp w (W.setCell ⟨b,k,Ak⟩ (Ad true)) b n (Fw S k) :=
 ⟨h.below.setCell (AB _) _,by rw[DJ W _ _ _ _ _ h.own,UR]⟩
theorem Hp.at_(h:Hp w W b n S)(a:k<n):W.cell? ⟨b,k,Ak⟩=Aj (Ad (S k)):=(Ar h.own k).trans (Nh n S k a)
theorem Hp.frozen(h:Hp w W b n S)(k:Nat):W.frozen? ⟨b,k,Ak⟩=false:=Cx W b k _ _ h.own
theorem aJ(h:Da n L=true)(c:k<L.length):∃i j:Nat,i<n/\j<n/\L[k].1=(i:Int)/\L[k].2=(j:Int):=by
 have:=D7.1 h L[k] (Iz c);unfold Ei at this;simp only[Ch]at this;obtain⟨⟨a,b⟩,_⟩:=this;have d:=By a;have e:=By b;exact⟨L[k].1.toNat,L[k].2.toNat,by omega,by omega,by omega,by omega⟩
theorem aK(arr:A4)(n:Nat)(L:List (Int×Int))(t:A5)(F:Nat)(H:Rg arr n L t F)(hn:n<=6)(Y:L.length<=30)(J:Da n L=true)(a b:Nat)(K:a<n)(M:b<n)(w:Al)(I:Es w t L):An Ao 30 #[.agg arr,A7 Ah a,A7 Ah b] w λe U=>e=Ag (Ad (B5 n L a b))/\A1 w U:=by
 have G:=H.f0;have f1:=H.f1;have A:=Ap J;have z:=Ap I;have S:=λw=>run_make_row' (P:=Ao) 135 4 (Ad false) 1 underlying135 (by kernel_rfl) rfl Ah Ah n (by omega) (by omega) w;rw[aH]at S;have r:Hid ((w.alloc (Af arr 25)).heap[w.heap.size]?=Aj (Af arr 25)):=Ay _ _;have o:Hid (A1 w (w.alloc (Af arr 25))):=AH;have V:Hid ((w.alloc (Af arr 25)).heap.size=w.heap.size+1):=by show _=_;simp
 have B:Hid (Hp (w.alloc (Af arr 25)) ((w.alloc (Af arr 25)).alloc (Af ((Gp n λ_=>false).setIfInBounds a (Ad true)) 4)) (w.heap.size+1) n (Cl a)):=by
  refine⟨(AT _ _).alloc (by simp) _,?_⟩;have:=Ay (w.alloc (Af arr 25)) (Af ((Gp n λ_=>false).setIfInBounds a (Ad true)) 4);rw[AM]at this;rw[this,UR];rfl
 have Z:=Nh n (λ_=>false) a K;go_enter func30,ntmps30;go_wp2;generalize(w.alloc (Af arr 25)).alloc (Af ((Gp n λ_=>false).setIfInBounds a (Ad true)) 4)=W1 at *;generalize w.alloc (Af arr 25)=W0 at *
 go_loopg[8] n (λg x wr=>∃k:Nat,Hid (k+g=n)/\x=A7 Ah k/\Hid (Hp W0 wr (w.heap.size+1) n (CG L k (Cl a))))
 case atStart=>exact⟨0,by show _=_;omega,rfl,B⟩
 case round =>
  obtain⟨k,m,rfl,h⟩:=hrel;have ab:=(Ar ((h.below.block _ (by omega)).trans r) 0).trans G
  cases gk with
  |zero =>
   have R:¬(k:Int)<n:=by have:=m.out;omega
   have e:k=n:=by have:=m.out;omega
   subst e;have N:=h.at_ M;have d:Hid (CG L k (Cl a) b=B5 k L a b):=rfl;generalize CG L k (Cl a) b=v0 at N d;go_wp2;go_ret;exact⟨by rw[<-d.out];rfl,o.trans (h.below.mono (by omega))⟩
  |succ g =>
   have R:(k:Int)<n:=by have:=m.out;omega
   go_wp2
   go_loopg[9] L.length (λg x wr=>∃q:Nat,Hid (q+g=L.length)/\x=A7 Ah q/\Hid (Hp W0 wr (w.heap.size+1) n (Du (L.take q) (CG L k (Cl a)))))
   case atStart=>exact⟨0,by show _=_;omega,rfl,h⟩
   case round =>
    obtain⟨q,f,rfl,c⟩:=hrel;have ac:=(Ar ((c.below.block _ (by omega)).trans r) 1).trans f1
    cases gk with
    |zero =>
     have T:¬(q:Int)<L.length:=by have:=f.out;omega
     go_wp2;go_roundg g
     case measure=>omega
     case rel =>
      refine⟨k+1,by show _=_;have:=m.out;omega,by go_num,?_⟩;have:=c.out;rw[FJ (by have:=f.out;omega)]at this;exact this
    |succ y =>
     have T:(q:Int)<L.length:=by have:=f.out;omega
     obtain⟨i,j,O,Q,u,v⟩:=aJ A (k:=q) (by omega);obtain⟨W,off,rfl,aa,D,E⟩:=(z.below (o.trans (c.below.mono (by omega)))).at_ q (by omega);have p:Hid (Du (L.take (q+1)) (CG L k (Cl a))=if Du (L.take q) (CG L k (Cl a)) i then Fw (Du (L.take q) (CG L k (Cl a))) j else Du (L.take q) (CG L k (Cl a))):=by
      show _=_;rw[aI L _ q (by omega)];unfold ID;rw[u,v];rfl
     rw[u]at D;rw[v]at E;have s:=c.at_ O;have C:=c.at_ Q;have X:=c.frozen j;cases l:Du (L.take q) (CG L k (Cl a)) i
     ·rw[l]at s;have d:Hid (Du (L.take (q+1)) (CG L k (Cl a))=Du (L.take q) (CG L k (Cl a))):=by show _=_;rw[p.out,l];rfl
      go_wp2;go_roundg y
      case measure=>omega
      case rel=>exact⟨q+1,by show _=_;have:=f.out;omega,by go_num,by show Hp _ _ _ _ _;rw[d.out];exact c⟩
     rw[l]at s;have d:Hid (Du (L.take (q+1)) (CG L k (Cl a))=Fw (Du (L.take q) (CG L k (Cl a))) j):=by show _=_;rw[p.out,l];rfl
     generalize Du (L.take q) (CG L k (Cl a)) j=v0 at C;go_wp2;go_roundg y
     case measure=>omega
     case rel=>exact⟨q+1,by show _=_;have:=f.out;omega,by go_num,by show Hp _ _ _ _ _;rw[d.out];exact c.set j⟩
end
section
open Go.RowKit
theorem eW{j:Nat}(h:EP lo hi l j=true):j<l.length:=by
 unfold EP at h;rw[Ch]at h;exact By h.1
theorem VU:∀{g j:Nat},(Ej lo hi l g j).2=true->j<=l.length->(Ej lo hi l g j).1<=l.length
 |0,_,_,hj=>hj
 |g+1,j,h,_=>by
  unfold Ej at h ⊢;by_cases a:EP lo hi l j=true
  ·rw[As a]at h ⊢;exact VU h (eW a)
  rw[Aq a]at h;exact absurd h (by simp)
theorem eX(l:A2)(b:0<l.length):Ea l<=l.length:=by
 unfold Ea;by_cases h:(Fi l).2=true
 ·rw[As h];unfold Fi at h ⊢;by_cases a:(CH (l.getD 0 0).toNat).2.2=0
  ·rw[As a];exact Cy _
  rw[Aq a]at h ⊢;exact VU h b
 rw[Aq h];exact Cy _
def IK(b:UInt8):Bool:=decide (b.toNat<=32)||(b.toNat==42||(b.toNat==91||(b.toNat==93||(b.toNat==47||b.toNat==46))))
def Gr:Nat->A2->Option Nat
 |_,[]=>Aj 0
 |0,_::_=>Ak
 |g+1,b::t=>if Ea (b::t)=0\/IK b=true then Ak else(Gr g ((b::t).drop (Ea (b::t)))).map (·+1)
def P9:Option Nat->Bool
 |some n=>decide (1<=n/\n<=16)
 |none=>false
def DR(l:A2):Bool:=P9 (Gr l.length l)
theorem Nv(s:ByteArray)(w:Al)(F:s.size<=4611686018427387904):An Ao 87 #[.string s] w λe G=>e=Ag (Ad (DR s.data.toList))/\G=w:=by
 have t:s.data.toList.length=s.size:=DB;obtain⟨A,o⟩:∃A,Hid (Gr s.data.toList.length s.data.toList=A):=⟨_,show _=_ from rfl⟩
 have p:Hid (DR s.data.toList=P9 A):=by show _=_;unfold DR;rw[o.out]
 go_enter func87,ntmps87;go_wp2
 go_loopg[3,4] s.size (λg x y wr=>∃n i:Nat,x=A7 Ah n/\y=A7 Ah i/\w=wr/\Hid (n<=i)/\Hid (i<=s.size)/\Hid (s.size<=i+g)/\Hid (A=(Gr g (s.data.toList.drop i)).map (·+n)))
 case atStart =>
  refine⟨0,0,rfl,rfl,rfl,AB _,Cy _,by show _<=_;omega,?_⟩;show _=_;rw[<-o.out,t,N5];cases Gr s.size s.data.toList<;>rfl
 case round =>
  obtain⟨n,i,rfl,rfl,rfl,u,m,r,b⟩:=hrel;by_cases B:i=s.size
  ·have D:¬(i:Int)<s.size:=by omega
   have f:Hid (DR s.data.toList=decide (1<=n/\n<=16)):=by
    show _=_;have l:A=Aj n:=by
     rw[b.out,B,<-t,LD];cases gk<;>simp[Gr]
    rw[p.out,l];rfl
   by_cases H:(1:Int)<=n
   ·by_cases I:(n:Int)<=16
    ·have a:Hid (DR s.data.toList=true):=by show _=_;rw[f.out,Bs (by omega)]
     go_wp2;go_ret;exact⟨by rw[a.out];rfl,rfl⟩
    have a:Hid (DR s.data.toList=false):=by show _=_;rw[f.out,BJ (by omega)]
    go_wp2;go_ret;exact⟨by rw[a.out];rfl,rfl⟩
   have a:Hid (DR s.data.toList=false):=by show _=_;rw[f.out,BJ (by omega)]
   go_wp2;go_ret;exact⟨by rw[a.out];rfl,rfl⟩
  have D:(i:Int)<s.size:=by have:=m.out;omega
  have E:i<s.size:=by omega
  obtain⟨g,rfl⟩:∃g,gk=g+1:=⟨gk-1,by have:=r.out;omega⟩
  obtain⟨k,j⟩:∃k,Hid (Ea (s.data.toList.drop i)=k):=⟨_,show _=_ from rfl⟩
  have d:Hid (s.data.toList.drop i=s[i]::s.data.toList.drop (i+1)):=by show _=_;rw[F5 (by omega)];rfl
  have c:Hid (Gr (g+1) (s.data.toList.drop i)=if k=0\/IK s[i]=true then Ak else(Gr g (s.data.toList.drop (i+k))).map (·+1)):=by
   show _=_;have:=j.out;rw[d.out]at this ⊢;rw[Gr,this,<-d.out,LH]
  have J:k<=s.size-i:=by
   have:=eX (s.data.toList.drop i) (by rw[DK];omega);rw[j.out,DK]at this;omega
  have v:Hid (k=0\/IK s[i]=true->DR s.data.toList=false):=λh=>by
   have l:A=Ak:=by rw[b.out,c.out,As h];rfl
   rw[p.out,l];rfl
  have z:Hid (¬(k=0\/IK s[i]=true)->A=(Gr g (s.data.toList.drop (i+k))).map (·+(n+1))):=λh=>by
   rw[b.out,c.out,Aq h,Option.map_map];congr 1;funext x;simp only[Function.comp];omega
  have q:Hid (IK s[i]=true↔((s[i].toNat:Int)<=32\/(s[i].toNat:Int)=42\/(s[i].toNat:Int)=91\/(s[i].toNat:Int)=93\/(s[i].toNat:Int)=47\/(s[i].toNat:Int)=46)):=by
   show _↔_;unfold IK;simp only[KI,Jc,Je];omega
  clear d c b;have K:n<=4611686018427387904:=by have:=u.out;have:=m.out;omega
  go_wp2_with(first
   |(go_at_call 116;refine(eV s i _ E F).mono ?_;rintro e L ⟨rfl,rfl⟩;rw[j.out]))
  all_goals first
   |(go_ret;have hF:=v.out (by rw[q.out];first|omega|(simp only[Je]at *;omega));exact⟨by rw[hF];rfl,rfl⟩)
   |go_roundg g
    case measure=>omega
    case rel =>
     have C:=z.out (by rw[q.out];first|omega|(simp only[Dq]at *;omega));refine⟨n+1,i+k,by go_num,by go_num,rfl,?_,?_,?_,C⟩
     all_goals(show _<=_;have:=u.out;have:=m.out;have:=r.out;omega)
   |skip
def G4(c:UInt8):Option Nat:=if Cm c=true then Aj (c.toNat-48)else if 97<=c.toNat/\c.toNat<=102 then Aj (c.toNat-87)else if 65<=c.toNat/\c.toNat<=70 then Aj (c.toNat-55)else Ak
theorem Pc{c:UInt8}{d:Nat}(h:G4 c=Aj d):d<16:=by
 unfold G4 at h;split at h
 ·next hd=>have:=By hd;cases h;omega
 split at h
 ·cases h;omega
 split at h
 ·cases h;omega
 cases h
def IN(c:UInt8):Am:=match G4 c with
 |some d=>Ab #[A7 .i32 d,Ad true]
 |none=>Ab #[A7 .i32 0,Ad false]
theorem fN(c:UInt8)(w:Al):An Ao 256 #[A7 .u8 c.toNat] w λe l=>e=Ag (IN c)/\l=w:=by
 have b:=K8 c w;have p:=c.toNat_lt;by_cases g:48<=(c.toNat:Int)/\(c.toNat:Int)<=57
 ·have a:Hid (IN c=Ab #[A7 .i32 ((c.toNat:Int)-48),Ad true]):=by
   show _=_;unfold IN G4;rw[As (show Cm c=true from Bs g)];simp only[];rw[show((c.toNat-48:Nat):Int)=(c.toNat:Int)-48 by omega]
  have d:=Bs g;rw[d]at b;go_enter func256,ntmps256
  go_wp2_with(first|(go_at_call 234;refine b.mono ?_;rintro e i ⟨rfl,rfl⟩))
  go_ret2
  rw[a.out];exact⟨rfl,rfl⟩
 have d:=BJ g;have h:Cm c=false:=d;rw[d]at b;by_cases f:97<=c.toNat/\c.toNat<=102
 ·have a:Hid (IN c=Ab #[A7 .i32 ((c.toNat:Int)-97+10),Ad true]):=by
   show _=_;unfold IN G4;rw[Aq (by rw[h];simp),As f];simp only[];rw[show((c.toNat-87:Nat):Int)=(c.toNat:Int)-97+10 by omega]
  have k:decide (97<=(c.toNat:Int))=true:=by simp;omega
  have m:decide ((c.toNat:Int)<=102)=true:=by simp;omega
  go_enter func256,ntmps256
  go_wp2_with(first|(go_at_call 234;refine b.mono ?_;rintro e i ⟨rfl,rfl⟩))
  go_ret2
  rw[a.out];exact⟨rfl,rfl⟩
 by_cases j:65<=c.toNat/\c.toNat<=70
 ·have a:Hid (IN c=Ab #[A7 .i32 ((c.toNat:Int)-65+10),Ad true]):=by
   show _=_;unfold IN G4;rw[Aq (by rw[h];simp),Aq f,As j];simp only[];rw[show((c.toNat-55:Nat):Int)=(c.toNat:Int)-65+10 by omega]
  have k:decide (97<=(c.toNat:Int))=false:=by simp;omega
  have n:decide (65<=(c.toNat:Int))=true:=by simp;omega
  have o:decide ((c.toNat:Int)<=70)=true:=by simp;omega
  go_enter func256,ntmps256
  go_wp2_with(first|(go_at_call 234;refine b.mono ?_;rintro e i ⟨rfl,rfl⟩))
  go_ret2
  rw[a.out];exact⟨rfl,rfl⟩
 have a:Hid (IN c=Ab #[A7 .i32 0,Ad false]):=by
  show _=_;unfold IN G4;rw[Aq (by rw[h];simp),Aq f,Aq j]
 go_enter func256,ntmps256
 go_wp2_with(first|(go_at_call 234;refine b.mono ?_;rintro e i ⟨rfl,rfl⟩))
 all_goals first
  |(exfalso;omega)
  |(go_ret2;rw[a.out];exact⟨rfl,rfl⟩)
def Ce(bs:A2)(lim:Int):Nat->Nat->Nat->A6 Nat
 |0,p,a=>.ok (a,p)
 |k+1,p,a=>match bs[p]? with
  |none=>.error (9,p)
  |some c=>if(p:Int)=lim then .error (8,p)else match G4 c with
   |none=>.error (9,p)
   |some d=>Ce bs lim k (p+1) (a*16+d)
theorem Wd(W:Al)(b:Nat)(s:AQ)(h:Az W b s):An Ao 252 #[Ac #[A9 (Aj ⟨b,0,Ak⟩)]] W (DD W b s (λx:Nat=>A7 .i32 x) (Ce s.bs s.lim 4 s.pos 0)):=by
 have D:=Ap (Eu h);obtain⟨R,j⟩:∃R,Hid (Ce s.bs s.lim 4 s.pos 0=R):=⟨_,show _=_ from rfl⟩
 rw[j.out];go_enter func252,ntmps252;go_wp2;generalize W.alloc (Af #[A9 (Aj ⟨b,0,Ak⟩)] 207)=W0 at *
 go_loopg[3,6] 4 (λm y z wr=>∃(k g:Nat),y=A7 .i32 g/\z=A7 Ah k/\Hid (m+k=4)/\Hid (g<16^k)/\Hid (Hq W b W.heap.size {s with pos:=s.pos+k} wr)/\Hid (Ce s.bs s.lim m (s.pos+k) g=R))
 case atStart=>exact⟨0,0,rfl,rfl,rfl,by show 0<1;decide,D,j⟩
 case round =>
  obtain⟨k,g,rfl,rfl,t,A,a,j⟩:=hrel;have I:=a.cell
  cases gk with
  |zero =>
   have e:k=4:=by have:=t.out;omega
   subst e;have i:Hid (R=.ok (g,s.pos+4)):=j.symm;go_wp2;go_ret;rw[i.out];exact⟨a.but,rfl,a.src⟩
  |succ m =>
   have M:k<4:=by have:=t.out;omega
   have N:decide ((k:Int)<4)=true:=by simp;omega
   have K:g<4096:=Br A.out (AW (QB (by decide) (show k<=3 from by omega)) (by decide));rcases Ji a.src with f|f|⟨c,f⟩
   ·have i:Hid (R=.error (9,((s.pos+k:Nat):Int))):=by
     show _=_;rw[<-j.out,Ce,DI (by have:s.pos+k=s.bs.length:=f;omega)]
    have o:=K6 _ b {s with pos:=s.pos+k} a.src f
    go_wp2_with(first
     |(go_at_call 226;refine o.mono ?_;rintro e u ⟨hF,l⟩;obtain rfl:=hF))
    rw[i.out];exact⟨rfl,a.but.trans (AE.of_below l),rfl⟩
   ·have i:Hid (R=.error (8,((s.pos+k:Nat):Int))):=by
     show _=_;have E:((s.pos+k:Nat):Int)=s.lim:=f.2;have F:s.pos+k<s.bs.length:=f.1;rw[<-j.out,Ce,AY F];simp only[];rw[As E]
    have o:=K7 _ b {s with pos:=s.pos+k} a.src f
    go_wp2_with(first
     |(go_at_call 226;refine o.mono ?_;rintro e u ⟨hF,l⟩;obtain rfl:=hF))
    rw[i.out];exact⟨rfl,a.but.trans (AE.of_below l),rfl⟩
   have G:s.bs[s.pos+k]?=Aj c:=f.1;have H:¬((s.pos+k:Nat):Int)=s.lim:=f.2;have n:=j.out;rw[Ce,G]at n;simp only[]at n;rw[Aq H]at n;have q:=λw=>fN c w;unfold IN at q;have o:An Ao 226 #[A9 (Aj ⟨b,0,Ak⟩)] wr λe v=>e=Ag (A7 .u8 c.toNat)/\Az v b {s with pos:=s.pos+(k+1)}/\AE b wr v:=E6 _ b {s with pos:=s.pos+k} c a.src f;rcases hv:G4 c with _|d
   ·rw[hv]at n q;have i:Hid (R=.error (9,((s.pos+k:Nat):Int))):=n.symm
    go_wp2_with(first
     |(go_at_call 226;refine o.mono ?_;rintro e u ⟨rfl,r,l⟩;have p:=Ap (a.step r l);have I:=p.cell)
     |(go_at_call 256;refine(q _).mono ?_;rintro e J ⟨rfl,rfl⟩)
     |(go_at_call 227;refine(Fd _ b {s with pos:=s.pos+(k+1)} _ p.src).mono ?_;rintro e O ⟨hF,rfl⟩;obtain rfl:=hF))
    rw[i.out];exact⟨rfl,p.but,by show B7 _ _ _;unfold B7 GO;simp;omega⟩
   rw[hv]at n q;have C:Hid (Ce s.bs s.lim m (s.pos+(k+1)) (g*16+d)=R):=n;have L:=Pc hv;have B:Hid (g*16+d<16^(k+1)):=by show _<_;rw[LL];have:=A.out;omega
   go_wp2_with(first
    |(go_at_call 226;refine o.mono ?_;rintro e u ⟨rfl,r,l⟩;have p:=Ap (a.step r l))
    |(go_at_call 256;refine(q _).mono ?_;rintro e J ⟨rfl,rfl⟩))
   go_roundg m
   case measure=>omega
   case rel=>exact⟨k+1,g*16+d,by simp,by go_num,by show _=_;have:=t.out;omega,B,p,C⟩
def Ba(bs:A2)(lim:Int):A2->Nat->A6 Unit
 |[],p=>.ok ((),p)
 |x::xs,p=>match bs[p]? with
  |none=>.error (9,p)
  |some c=>if(p:Int)=lim then .error (8,p)else if c=x then Ba bs lim xs (p+1)else .error (9,p)
theorem Ma(W:Al)(b:Nat)(s:AQ)(l:A2)(hl:l.length<=100)(h:Az W b s):An Ao 230 #[Ac #[A9 (Aj ⟨b,0,Ak⟩)],Aa ⟨l.toArray⟩] W (DD W b s (λ_:Unit=>Ab #[]) (Ba s.bs s.lim l s.pos)):=by
 have H:=Ap (Eu h);obtain⟨R,p⟩:∃R,Hid (Ba s.bs s.lim l s.pos=R):=⟨_,show _=_ from rfl⟩
 rw[p.out];go_enter func230,ntmps230;go_wp2;generalize W.alloc (Af #[A9 (Aj ⟨b,0,Ak⟩)] 207)=W0 at *
 go_loopg[4,7] l.length (λm _ z wr=>∃(k:Nat),z=A7 Ah k/\Hid (m+k=l.length)/\Hid (Hq W b W.heap.size {s with pos:=s.pos+k} wr)/\Hid (Ba s.bs s.lim (l.drop k) (s.pos+k)=R))
 case atStart=>exact⟨0,rfl,rfl,H,p⟩
 case round =>
  obtain⟨k,rfl,A,g,p⟩:=hrel;have Z:=g.cell
  cases gk with
  |zero =>
   have e:k=l.length:=by have:=A.out;omega
   have f:Hid (R=.ok ((),s.pos+k)):=by
    show _=_;rw[<-p.out,J9 (by omega)];rfl
   have I:decide ((k:Int)<(l.length:Int))=false:=by simp;omega
   have J:decide (k<l.length)=false:=by simp;omega
   go_wp2;go_end0;rw[f.out];exact⟨g.but,rfl,g.src⟩
  |succ m =>
   have w:k<l.length:=by have:=A.out;omega
   have I:decide ((k:Int)<(l.length:Int))=true:=by simp;omega
   have J:decide (k<l.length)=true:=by simp;omega
   obtain⟨x,D⟩:∃x,l[k]=x:=⟨_,rfl⟩
   have X:l.drop k=x::l.drop (k+1):=by rw[F5 w,D]
   have F:Hid (l[k]?=Aj x):=by show _=_;rw[AY w,D]
   have t:{wr with drawn:=wr.drawn+1}.cell? ⟨W.heap.size,0,Ak⟩=Aj (A9 (Aj ⟨b,0,Ak⟩)):=Z;have u:Hid (Az {wr with drawn:=wr.drawn+1} b {s with pos:=s.pos+k}):=g.src.drewN 1;have y:Hid (AE b wr {wr with drawn:=wr.drawn+1}):=AE.of_below (DN wr 1);have d:=p.out;rw[X,Ba]at d;go_wp2;refine Dr (S:=λV=>V.cell? ⟨W.heap.size,0,Ak⟩=Aj (A9 (Aj ⟨b,0,Ak⟩))) (by kernel_rfl) ?_;refine Ds (i:=0) (v:=A9 (Aj ⟨W.heap.size,0,Ak⟩)) rfl (by kernel_rfl) (by kernel_rfl) (by kernel_rfl) (λ_ _ _ h=>h) (.inl ⟨rfl,λV n=>rfl⟩) t ?_;refine Ds (i:=1) (v:=A9 (Aj ⟨b,0,Ak⟩)) rfl (by kernel_rfl) (by kernel_rfl) (by kernel_rfl) (λ_ _ _ h=>h) (.inl ⟨rfl,λV n=>?y1⟩) t ?_
   case y1=>go_simp
   refine Ds (i:=3) (v:=Aa ⟨l.toArray⟩) rfl (by kernel_rfl) (by kernel_rfl) (by kernel_rfl) (λ_ _ _ h=>h) (.inl ⟨rfl,λV n=>rfl⟩) t ?_;refine Ds (i:=4) (v:=A7 Ah k) rfl (by kernel_rfl) (by kernel_rfl) (by kernel_rfl) (λ_ _ _ h=>h) (.inl ⟨rfl,λV n=>rfl⟩) t ?_;refine Ds (i:=5) (v:=A7 .u8 x.toNat) rfl (by kernel_rfl) (by kernel_rfl) (by kernel_rfl) (λ_ _ _ h=>h) (.inl ⟨rfl,λV n=>?y5⟩) t ?_
   case y5 =>
    have Y:=CX ((AY w).symm.trans F);go_simp;show(((l.toArray)[k]'(by simpa using w)).toNat:Int)=_;rw[Ug,Y]
   refine Bc 2 (λK N=>?_);rcases Ji u with a|a|⟨c,a⟩
   ·have f:Hid (R=.error (9,((s.pos+k:Nat):Int))):=by
     show _=_;rw[<-d,DI (by have:s.pos+k=s.bs.length:=a;omega)]
    have q:=K6 _ b {s with pos:=s.pos+k} u a;go_simp;refine q.mono ?_;rintro e E ⟨hF,r⟩;obtain rfl:=hF;exact⟨rfl,(g.but.trans y).trans (AE.of_below r),by rw[f.out];rfl⟩
   ·have f:Hid (R=.error (8,((s.pos+k:Nat):Int))):=by
     show _=_;have L:((s.pos+k:Nat):Int)=s.lim:=a.2;have M:s.pos+k<s.bs.length:=a.1;rw[<-d,AY M];simp only[];rw[As L]
    have q:=K7 _ b {s with pos:=s.pos+k} u a;go_simp;refine q.mono ?_;rintro e E ⟨hF,r⟩;obtain rfl:=hF;exact⟨rfl,(g.but.trans y).trans (AE.of_below r),by rw[f.out];rfl⟩
   have P:s.bs[s.pos+k]?=Aj c:=a.1;have Q:¬((s.pos+k:Nat):Int)=s.lim:=a.2;rw[P]at d;simp only[]at d;rw[Aq Q]at d;have q:An Ao 226 #[A9 (Aj ⟨b,0,Ak⟩)] {wr with drawn:=wr.drawn+1} λe B=>e=Ag (A7 .u8 c.toNat)/\Az B b {s with pos:=s.pos+(k+1)}/\AE b {wr with drawn:=wr.drawn+1} B:=E6 _ b {s with pos:=s.pos+k} c u a;go_simp;refine q.mono ?_;rintro e E ⟨rfl,O,r⟩;simp only[];have j:=Ap (g.step O (y.trans r));refine N.out _ _ j.cell (λ_=>?_);have aa:=j.cell;by_cases o:c=x
   ·have T:((c.toNat:Int)==(x.toNat:Int))=true:=by rw[o];simp
    have U:c.toNat=x.toNat:=by rw[o]
    have G:Hid (Ba s.bs s.lim (l.drop (k+1)) (s.pos+(k+1))=R):=by show _=_;rw[<-d,As o];rfl
    refine Ds (i:=6) (v:=Ad false) rfl (by kernel_rfl) (by kernel_rfl) (by kernel_rfl) (λ_ _ _ h=>h) (.inl ⟨rfl,λV n=>?y6⟩) j.cell ?_
    case y6=>(go_simp;first|done|omega|assumption|trace_state)
    refine Bw ?_;go_wp2;go_roundg m
    case measure=>omega
    case rel=>exact⟨k+1,by go_num,by show _=_;have:=A.out;omega,j,G⟩
   have T:((c.toNat:Int)==(x.toNat:Int))=false:=by
    simp only[Dq,ne_eq];intro C;exact o (K1.1 (by omega))
   have U:¬c.toNat=x.toNat:=λC=>o (K1.1 C);have f:Hid (R=.error (9,((s.pos+k:Nat):Int))):=by show _=_;rw[<-d,Aq o]
   refine Ds (i:=6) (v:=Ad true) rfl (by kernel_rfl) (by kernel_rfl) (by kernel_rfl) (λ_ _ _ h=>h) (.inl ⟨rfl,λV n=>?y6⟩) j.cell ?_
   case y6=>(go_simp;first|done|omega|assumption|trace_state)
   refine Bw ?_
   go_wp2_with(first
    |(go_at_call 227;refine(Fd _ b {s with pos:=s.pos+(k+1)} _ j.src).mono ?_;rintro e w7 ⟨hF,rfl⟩;obtain rfl:=hF))
   rw[f.out];exact⟨rfl,j.but,by show B7 _ _ _;unfold B7 GO;simp;omega⟩
end
section
open Go.RowKit Go.Deep
theorem j0(arr:A4)(c:Int)(L:List (Int×Int))(a:A5)(b:Nat)(j:arr[0]?=Aj (A7 Ah c))(f1:arr[1]?=Aj (A8 a L.length b))(f:L.length<=maxLen)(w:Al)(g:¬(1<=c/\c<=6/\L.length<=30)):An Ao 15 #[.agg arr] w λe i=>e=Ag (Ad false)/\A1 w i:=by
 unfold maxLen at f;have key:c<1\/(1<=c/\6<c)\/(1<=c/\c<=6/\(30:Int)<L.length):=by omega
 clear g;rcases key with h|⟨h,d⟩|⟨h,d,k⟩
 all_goals
  go_enter func15,ntmps15;go_wp2;go_ret;exact⟨rfl,AH⟩
theorem j2(arr:A4)(n:Nat)(L:List (Int×Int))(M:A5)(W:Nat)(H:Rg arr n L M W)(h1:1<=n)(hn:n<=6)(hL:L.length<=30)(w:Al)(N:Es w M L):An Ao 15 #[.agg arr] w λe Z=>e=Ag (Ad (Da n L))/\A1 w Z:=by
 have E:=H.f0;have f1:=H.f1;have s:=Ap (Dg H.size);have S:=Ap N;clear H N;have U:Hid ((w.alloc (Af arr 25)).heap[w.heap.size]?=Aj (Af arr 25)):=Ay _ _;have A:Hid (A1 w (w.alloc (Af arr 25))):=AH;have T:Hid ((w.alloc (Af arr 25)).heap.size=w.heap.size+1):=by show _=_;simp
 go_enter func15,ntmps15;go_wp2;generalize w.alloc (Af arr 25)=W0 at *
 go_loopg[3,4] L.length (λg x y wr=>∃q:Nat,Hid (q+g=L.length)/\x=A7 Ah q/\Below (w.heap.size+1) W0 wr/\Hid (∀i (h:i<L.length),i<q->Ei n L[i]=true))
 case atStart=>exact⟨0,by show _=_;omega,rfl,AT _ _,λi h hi=>by omega⟩
 case round =>
  obtain⟨q,F,rfl,u,K⟩:=hrel;have G:=Ap ((u.block _ (by omega)).trans U);have aa:=(Ar G 1).trans f1;have P:=u.size;rw[T.out]at P
  cases gk with
  |zero =>
   have Y:¬(q:Int)<L.length:=by have:=F.out;omega
   have V:=Ap (UO (λi h=>K.out i h (by have:=F.out;omega)));go_wp2;go_ret;exact⟨by rw[V.out];rfl,A.trans (u.mono (by omega))⟩
  |succ g =>
   have Y:(q:Int)<L.length:=by have:=F.out;omega
   obtain⟨b,off,rfl,ac,e1,e2⟩:=(S.below (A.trans (u.mono (by omega)))).at_ q (by omega);have I:Hid ((wr.alloc (Af #[A7 Ah L[q].1,A7 Ah L[q].2] 40)).heap[wr.heap.size]?=Aj (Af #[A7 Ah L[q].1,A7 Ah L[q].2] 40)):=Ay _ _;have c:Hid ((wr.alloc (Af #[A7 Ah L[q].1,A7 Ah L[q].2] 40)).heap[w.heap.size]?=Aj (Af arr 25)):=(AL _ _ _ (by omega)).trans G;have m:Hid (Ei n L[q]=Ei n (L[q].1,L[q].2)):=rfl;have j:=LU arr n E L[q].1 (wr.alloc (Af #[A7 Ah L[q].1,A7 Ah L[q].2] 40));generalize L[q].1=x at *;generalize L[q].2=y at *;have D:Hid (Below (w.heap.size+1) W0 (wr.alloc (Af #[A7 Ah x,A7 Ah y] 40))):=u.alloc P _;clear G u;cases v:Bv n x
   ·rw[v]at j;have r:Hid (Da n L=false):=LT (k:=q) (by omega) (by rw[m.out];unfold Ei;rw[v];rfl);clear v m
    go_wp2_with(first
     |(refine B3 rfl 25 _ rfl _ rfl _ _ _ _ c underlying25 rfl s ?_)
     |(go_at_call 16;refine j.mono ?_;clear j;rintro e z ⟨rfl,d⟩))
    go_ret;exact⟨by rw[r.out];rfl,(A.trans (D.mono (by omega))).trans (d.mono (by simp;omega))⟩
   rw[v]at j;have J:=Ap v;clear v;cases B:Bv n y
   ·have r:Hid (Da n L=false):=LT (k:=q) (by omega) (by rw[m.out];unfold Ei;rw[B,J.out];rfl);have t:=Ap B;clear B m
    go_wp2_with(first
     |(refine B3 rfl 25 _ rfl _ rfl _ _ _ _ c underlying25 rfl s ?_)
     |(refine CA 25 _ rfl rfl _ rfl _ _ _ _ c underlying25 rfl s ?_)
     |(go_at_call 16;refine j.mono ?_;clear j;rintro e z ⟨rfl,d⟩;have l:=Ap ((d.block _ (by simp;omega)).trans c);clear c;have c:=l;clear l;have a:=Ap ((d.block _ (by simp)).trans I);have o:=Ar a 0;have p:=Ar a 1;have c2:=LU arr n E y z;rw[t.out]at c2)
     |(go_at_call 16;refine c2.mono ?_;clear c2;rintro e R ⟨rfl,f⟩;clear o p;have o:=(Ar ((f.block _ (At a)).trans a) 0);have p:=(Ar ((f.block _ (At a)).trans a) 1)))
    have C:=d.size;rw[AM]at C;go_ret;exact⟨by rw[r.out];rfl,((A.trans (D.mono (by omega))).trans (d.mono (by simp;omega))).trans (f.mono (by omega))⟩
   have t:=Ap B;clear B;cases O:(x==y)
   ·have r:Hid (Ei n L[q]=true):=by show _=_;rw[m.out];unfold Ei;rw[t.out,J.out,O];rfl
    clear m
    go_wp2_with(first
    |(refine B3 rfl 25 _ rfl _ rfl _ _ _ _ c underlying25 rfl s ?_)
    |(refine CA 25 _ rfl rfl _ rfl _ _ _ _ c underlying25 rfl s ?_)
    |(go_at_call 16;refine j.mono ?_;clear j;rintro e z ⟨rfl,d⟩;have l:=Ap ((d.block _ (by simp;omega)).trans c);clear c;have c:=l;clear l;have a:=Ap ((d.block _ (by simp)).trans I);have o:=Ar a 0;have p:=Ar a 1;have c2:=LU arr n E y z;rw[t.out]at c2)
    |(go_at_call 16;refine c2.mono ?_;clear c2;rintro e R ⟨rfl,f⟩;clear o p;have o:=(Ar ((f.block _ (At a)).trans a) 0);have p:=(Ar ((f.block _ (At a)).trans a) 1)))
    have C:=d.size;rw[AM]at C;go_roundg g
    case measure=>omega
    case rel =>
     refine⟨q+1,by show _=_;have:=F.out;omega,by go_num,(D.trans (d.mono (by simp;omega))).trans (f.mono (by omega)),?_⟩;intro Q X ab;by_cases e:Q=q
     ·subst e;exact r
     exact K Q X (by omega)
   have r:Hid (Da n L=false):=LT (k:=q) (by omega) (by rw[m.out];unfold Ei;rw[t.out,J.out,O];rfl);clear m
   go_wp2_with(first
   |(refine B3 rfl 25 _ rfl _ rfl _ _ _ _ c underlying25 rfl s ?_)
   |(refine CA 25 _ rfl rfl _ rfl _ _ _ _ c underlying25 rfl s ?_)
   |(go_at_call 16;refine j.mono ?_;clear j;rintro e z ⟨rfl,d⟩;have l:=Ap ((d.block _ (by simp;omega)).trans c);clear c;have c:=l;clear l;have a:=Ap ((d.block _ (by simp)).trans I);have o:=Ar a 0;have p:=Ar a 1;have c2:=LU arr n E y z;rw[t.out]at c2)
   |(go_at_call 16;refine c2.mono ?_;clear c2;rintro e R ⟨rfl,f⟩;clear o p;have o:=(Ar ((f.block _ (At a)).trans a) 0);have p:=(Ar ((f.block _ (At a)).trans a) 1)))
   have C:=d.size;rw[AM]at C;go_ret;exact⟨by rw[r.out];rfl,((A.trans (D.mono (by omega))).trans (d.mono (by simp;omega))).trans (f.mono (by omega))⟩
end
section
open Go.RowKit
def Kr(bs:A2)(fm d l:Int):Am:=Ac #[Aa ⟨bs.toArray⟩,A7 Ah fm,A7 Ah d,A7 Ah l]
def Bo(bs:A2)(l:Int)(i:Nat):Bool:=decide (i<bs.length)&&decide ((i:Int)<l)
def BM(bs:A2)(l:Int)(i:Nat)(e:Int):Int×Int:=if l<=i/\i<bs.length then(8,i)else if bs.length<=i then(9,bs.length)else(e,i)
def YP(x:Int×Int):Am:=Ac #[A7 Ah x.1,A7 Ah x.2]
theorem Ks(bs:A2):(⟨bs.toArray⟩:ByteArray).size=bs.length:=by
 show bs.toArray.size=_;simp
theorem Q6(W:Al)(bs:A2)(fm d l:Int)(i:Nat):An Ao 57 #[Kr bs fm d l,A7 Ah i] W λe g=>e=Ag (Ad (Bo bs l i))/\A1 W g:=by
 have m:=Ks bs;obtain⟨R,c⟩:∃R,Hid (Bo bs l i=R):=⟨_,show _=_ from rfl⟩
 rw[c.out];have a:=c.out;unfold Bo at a;unfold Kr;by_cases f:i<bs.length
 ·have h:decide ((i:Int)<(bs.length:Int))=true:=by simp;omega
  have j:(i:Int)<(bs.length:Int):=by omega
  rw[Bs f,Gj]at a;cases b:decide ((i:Int)<l)
  ·rw[b]at a;subst a;have k:=of_decide_eq_false b;go_enter func57,ntmps57;go_wp2;go_ret;exact⟨rfl,AH⟩
  rw[b]at a;subst a;have k:=By b;go_enter func57,ntmps57;go_wp2;go_ret;exact⟨rfl,AH⟩
 have h:decide ((i:Int)<(bs.length:Int))=false:=by simp;omega
 have j:¬(i:Int)<(bs.length:Int):=by omega
 rw[BJ f,QQ]at a;subst a;go_enter func57,ntmps57;go_wp2;go_ret;exact⟨rfl,AH⟩
theorem YQ:(prog.info? 64).map (·.size)=Aj 2:=by kernel_rfl
theorem Q7(V:Al)(B s:Nat)(b:V.heap.size=B)(cs:A4)(c:cs.size=2)(a:A4)(d:a.getD s undef=A9 (Aj ⟨B,0,Ak⟩)){fn:Func}(h:fn.results=#[.cell s 64]):(results fn a).run Ao (V.alloc (Af cs 64))=.ok (.agg cs) (V.alloc (Af cs 64)) :=
 KG h a _ B 64 cs (0,0) _ d (by rw[<-b];exact Ay _ _) underlying64 rfl (by rw[c];exact YQ)
theorem Q8(W:Al)(o a:Obj):A1 W ((W.alloc o).alloc a):=(AH).alloc (by simp) _
theorem Lk(W:Al)(bs:A2)(fm d l:Int)(i:Nat)(f:Int):An Ao 37 #[Kr bs fm d l,A7 Ah i,A7 Ah f] W λe m=>e=Ag (YP (BM bs l i f))/\A1 W m:=by
 have p:=Ks bs;obtain⟨R,h⟩:∃R,Hid (BM bs l i f=R):=⟨_,show _=_ from rfl⟩
 rw[h.out];have a:=h.out;unfold BM at a;unfold Kr;by_cases b:l<=(i:Int)
 ·by_cases g:i<bs.length
  ·rw[As ⟨b,g⟩]at a;subst a;have j:decide (l<=(i:Int))=true:=by simpa using b
   have n:(i:Int)<(bs.length:Int):=by omega
   have o:decide ((i:Int)<(bs.length:Int))=true:=by simp;omega
   go_enter func37,ntmps37;go_wp2;exact Bd (Q7 _ _ _ (by simp) _ rfl _ rfl results37) rfl ⟨rfl,Q8 _ _ _⟩
  rw[Aq (λc=>g c.2),As (by omega)]at a;subst a;have j:decide (l<=(i:Int))=true:=by simpa using b
  have n:¬(i:Int)<(bs.length:Int):=by omega
  have o:decide ((i:Int)<(bs.length:Int))=false:=by simp;omega
  have k:(bs.length:Int)<=(i:Int):=by omega
  go_enter func37,ntmps37;go_wp2;exact Bd (Q7 _ _ _ (by simp) _ rfl _ rfl results37) rfl ⟨rfl,Q8 _ _ _⟩
 have j:decide (l<=(i:Int))=false:=by simpa using b
 by_cases g:i<bs.length
 ·rw[Aq (λc=>b c.1),Aq (by omega)]at a;subst a;have k:¬(bs.length:Int)<=(i:Int):=by omega
  go_enter func37,ntmps37;go_wp2;exact Bd (Q7 _ _ _ (by simp) _ rfl _ rfl results37) rfl ⟨rfl,Q8 _ _ _⟩
 rw[Aq (λc=>b c.1),As (by omega)]at a;subst a;have k:(bs.length:Int)<=(i:Int):=by omega
 go_enter func37,ntmps37;go_wp2;exact Bd (Q7 _ _ _ (by simp) _ rfl _ rfl results37) rfl ⟨rfl,Q8 _ _ _⟩
theorem pw(W:Al)(c:UInt8):An Ao 58 #[A7 .u8 c.toNat] W λe j=>e=Ag (Ad (IF c))/\j=W:=by
 obtain⟨R,i⟩:∃R,Hid (IF c=R):=⟨_,show _=_ from rfl⟩
 rw[i.out];have a:=i.out;unfold IF at a;have k:((c.toNat:Int)==32)=(c.toNat==32):=by cases h:(c.toNat==32)with|true=>simp at h;simp[h]|false=>simp at h;simp;omega
 have l:((c.toNat:Int)==9)=(c.toNat==9):=by cases h:(c.toNat==9)with|true=>simp at h;simp[h]|false=>simp at h;simp;omega
 have m:((c.toNat:Int)==10)=(c.toNat==10):=by cases h:(c.toNat==10)with|true=>simp at h;simp[h]|false=>simp at h;simp;omega
 have n:((c.toNat:Int)==13)=(c.toNat==13):=by cases h:(c.toNat==13)with|true=>simp at h;simp[h]|false=>simp at h;simp;omega
 cases b:(c.toNat==32)<;>cases d:(c.toNat==9)<;>cases f:(c.toNat==10)<;>cases g:(c.toNat==13)<;>rw[b,d,f,g]at a<;>rw[b]at k<;>rw[d]at l<;>rw[f]at m<;>rw[g]at n<;>clear b d f g
 all_goals have a:_=R:=a
 all_goals subst a
 all_goals go_enter func58,ntmps58
 all_goals go_wp2
 all_goals go_ret
 all_goals exact⟨rfl,rfl⟩
def CI(bs:A2)(l:Int):Nat->Nat->Nat
 |0,p=>p
 |g+1,p=>match bs[p]? with
  |none=>p
  |some c=>if(p:Int)<l then(if IF c=true then CI bs l g (p+1)else p)else p
theorem D6(bs:A2)(k:Nat)(c:UInt8)(a:bs[k]?=Aj c)(V:Al):(Instr.index 9 (Aa ⟨bs.toArray⟩) (A7 Ah (k:Int))).run Ao V=.ok (A7 .u8 c.toNat) V:=by
 have g:=B9 a;have b:=Ks bs;have f:(0:Int)<=(k:Int)/\(k:Int)<((⟨bs.toArray⟩:ByteArray).size:Int):=by rw[b];omega
 rw[run_index_string (h:=underlying9),dif_pos f];have d:(⟨bs.toArray⟩:ByteArray)[(k:Int).toNat]'(by rw[b];omega)=c:=by
  show bs.toArray[(k:Int).toNat]'(by simp;omega)=c;have e:=(J8.1 a).2;simp only[Gh,Ug];exact e
 rw[d]
theorem Mx(W:Al)(bs:A2)(fm d l:Int)(i:Nat)(I:bs.length<=281474976710656)(hi:i<=bs.length):An Ao 35 #[Kr bs fm d l,A7 Ah i] W λe v=>e=Ag (A7 Ah (CI bs l (bs.length+1-i) i))/\A1 W v:=by
 obtain⟨R,o⟩:∃R,Hid (CI bs l (bs.length+1-i) i=R):=⟨_,show _=_ from rfl⟩
 rw[o.out];have h:Hid ((W.alloc (Af #[Aa ⟨bs.toArray⟩,A7 Ah fm,A7 Ah d,A7 Ah l] 102)).heap[W.heap.size]?=Aj (Af #[Aa ⟨bs.toArray⟩,A7 Ah fm,A7 Ah d,A7 Ah l] 102)):=Ay _ _;have b:Hid (A1 W (W.alloc (Af #[Aa ⟨bs.toArray⟩,A7 Ah fm,A7 Ah d,A7 Ah l] 102))):=AH;have A:∀(V:Al) (k:Nat),An Ao 57 #[Ac #[Aa ⟨bs.toArray⟩,A7 Ah fm,A7 Ah d,A7 Ah l],A7 Ah k] V λe v=>e=Ag (Ad (Bo bs l k))/\A1 V v:=λV k=>Q6 V bs fm d l k;unfold Kr;go_enter func35,ntmps35;go_wp2;generalize W.alloc (Af #[Aa ⟨bs.toArray⟩,A7 Ah fm,A7 Ah d,A7 Ah l] 102)=W0 at *
 go_loopg[1] (bs.length+1-i) (λg z wr=>∃k:Nat,z=A7 Ah k/\Hid (bs.length+1<=k+g)/\Hid (k<=bs.length)/\Hid (wr.heap[W.heap.size]?=Aj (Af #[Aa ⟨bs.toArray⟩,A7 Ah fm,A7 Ah d,A7 Ah l] 102))/\Hid (A1 W wr)/\Hid (CI bs l g k=R))
 case atStart=>exact⟨i,rfl,by show _<=_;omega,hi,h,b,o⟩
 case round =>
  clear h b o;obtain⟨k,rfl,B,C,h,b,o⟩:=hrel;obtain⟨g,rfl⟩:∃g,gk=g+1:=⟨gk-1,by have:=B.out;have:=C.out;omega⟩
  have K:=C.out;have s:=Ar h 0;have x:=Ar h 1;have c2:=Ar h 2;have y:=Ar h 3;have E:=At h;have a:=o.out;rw[CI]at a;have f:=A wr k;clear o A
  cases m:bs[k]? with
  |none =>
   rw[m]at a;simp only[]at a;have n:Bo bs l k=false:=by
    unfold Bo;rw[BJ (by have:=JV.1 m;omega)];rfl
   rw[n]at f;have q:=Ap a.symm;clear a m n
   go_wp2_with(first
    |(go_at_call 57;refine f.mono ?_;clear f;rintro e w ⟨rfl,j⟩))
   go_ret;rw[q.out];exact⟨rfl,b.trans (j.mono b.size)⟩
  |some c =>
   rw[m]at a;simp only[]at a;have D:=B9 m;have F:Hid (∀V,(Instr.index 9 (Aa ⟨bs.toArray⟩) (A7 Ah (k:Int))).run Ao V=.ok (A7 .u8 c.toNat) V):=λV=>D6 bs k c m V;by_cases t:(k:Int)<l
   ·rw[As t]at a;have n:Bo bs l k=true:=by
     unfold Bo;rw[Bs D,Bs t];rfl
    rw[n]at f;have p:=λV=>pw V c;have J:=F.out;cases u:IF c
    ·rw[u]at a p;have q:Hid (R=k):=a.symm;clear a m n u
     go_wp2_with(first
      |(go_at_call 57;refine f.mono ?_;clear f s x c2 y;rintro e w ⟨rfl,j⟩;have r:=(j.block _ E).trans h;have s:=Ar r 0)
      |(go_at_call 58;refine(p _).mono ?_;clear p;rintro e H ⟨rfl,rfl⟩))
     go_ret;rw[q.out];exact⟨rfl,b.trans (j.mono b.size)⟩
    rw[u]at a p;have G:Hid (CI bs l g (k+1)=R):=a;clear a m n u
    go_wp2_with(first
     |(go_at_call 57;refine f.mono ?_;clear f s x c2 y;rintro e w ⟨rfl,j⟩;have r:=Ap ((j.block _ E).trans h);have s:=Ar r 0)
     |(go_at_call 58;refine(p _).mono ?_;clear p;rintro e H ⟨rfl,rfl⟩))
    go_roundg g
    case measure=>omega
    case rel=>exact⟨k+1,by go_num,by show _<=_;have:=B.out;omega,D,r,b.trans (j.mono b.size),G⟩
   rw[Aq t]at a;have n:Bo bs l k=false:=by
    unfold Bo;rw[BJ t,OI]
   rw[n]at f;have q:=Ap a.symm;clear a m n
   go_wp2_with(first
    |(go_at_call 57;refine f.mono ?_;clear f;rintro e w ⟨rfl,j⟩))
   go_ret;rw[q.out];exact⟨rfl,b.trans (j.mono b.size)⟩
end
end Go.Proofs.YtoegnhgofkhbnaaGreatDoor
