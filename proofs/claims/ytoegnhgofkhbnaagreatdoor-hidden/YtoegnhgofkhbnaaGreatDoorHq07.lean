import Derived.Lib.LaidU8T
import Derived.PinnedBridge
import Derived.Maps.OwnSet
import Derived.Test.YtoegnhgofkhbnaaGreatDoorHq05
import Derived.Test.YtoegnhgofkhbnaaGreatDoorHq06
set_option maxRecDepth 100000
set_option maxHeartbeats 8000000
set_option linter.all false
namespace Go.Proofs.YtoegnhgofkhbnaaGreatDoor
open Go.Proofs.Tryz
open Go.Value renaming int->A7,slice->A8,pointer->A9,string->Aa,tuple->Ab,bool->Ad
open Go.Obj renaming cells->Af
open Go.IntKind renaming i64->Ah
open Option renaming some->Aj,none->Ak
open Go renaming World->Al,Value->Am,Calls->An
open Go.Proofs.Tryz renaming prog->Ao
variable{V V' W W':Al}{sp:Nat->Bool}{A fuel m n rc:Nat}{cs:List Am}{P:Program}{key:Am}{X st:Nat->Nat}{f:Lit->Option Nat}{kl:Lit}{m':Nat->Nat->Bool}
section
open Go.RowKit Go.Deep Go.Shelf Go.Lib
def aZ:AN:=⟨0,[],Ak,0,0,ByteArray.empty,0,0,0,0,0,0,[],Ak,0⟩
section
variable{H:Type} {enc:TypeId×Am->H} {w:Al}
end
theorem Tryz.gSignsT:(prog.globals[0]?).map (·.type)=Aj 239:=by kernel_rfl
theorem Tryz.x8:U8Extra Ao Tryz.lays196_ren:=⟨by kernel_rfl,by kernel_rfl,by kernel_rfl,by kernel_rfl,by kernel_rfl,by kernel_rfl,by kernel_rfl⟩
theorem UV:prog.cellsOf 238=2:=by kernel_rfl
theorem b9:prog.cellsOf 156=1:=by kernel_rfl
theorem bd:prog.cellsOf 239=6:=by kernel_rfl
theorem Rh{held:Bool}{b:A2}{k:Int}{p:List MemPlace}(h:DataW.trod (λ_=>()) Ao W 0 sp held fuel 238 cs=Aj (.agg [.lit (.string b),.lit (.int Ah k)],p)):cs=[Aa ⟨b.toArray⟩,A7 Ah k]:=by
 obtain⟨s,n,_,f,e,m,d⟩:=OC underlying238 h;rw[UV]at e;have o:s.length=2:=m;obtain⟨j,l,rfl⟩:=OS e;obtain⟨t,u,rfl⟩:=OS o;have g:DataW.trod (λ_=>()) Ao W 0 sp held n 9 (([j,l].drop 0).take (prog.cellsOf 9))=Aj t:=d 0 _ rfl;have i:DataW.trod (λ_=>()) Ao W 0 sp held n 156 (([j,l].drop 1).take (prog.cellsOf 156))=Aj u:=d 1 _ rfl;rw[UT]at g;rw[b9]at i;obtain⟨v,a,q⟩:=Uv underlying9 g;obtain⟨w,c,r⟩:=G0 underlying156 i;simp at a c;subst a c;obtain⟨rfl,_⟩:=q;obtain⟨rfl,_⟩:=r;simp only[CT,GJ,N7,DataW.agg.injEq,List.cons.injEq,DataW.lit.injEq,Lit.string.injEq,Lit.int.injEq,and_true,true_and]at f;obtain⟨⟨rfl,rfl⟩,_⟩:=f;simp
theorem be{H:Type}{enc:TypeId×Am->H}{w:Al}{base:Nat}{held:Bool}{t e:TypeId}{x:DataW H×List MemPlace}(a:P.underlying t=Aj (.array n e))(h:DataW.trod enc P w base sp held fuel t cs=Aj x):cs.length=P.cellsOf t:=by
 cases fuel with
 |zero=>simp[DataW.trod]at h
 |succ fuel =>
  simp only[DataW.trod,a]at h;split at h
  ·next hh=>simpa using hh
  cases h
theorem bf(d:cs.length=6){a0 a1 b0 b1 c0 c1:Am}(a:(cs.drop (0*2)).take 2=[a0,a1])(b:(cs.drop (1*2)).take 2=[b0,b1])(c:(cs.drop (2*2)).take 2=[c0,c1]):cs=[a0,a1,b0,b1,c0,c1]:=by
 match cs,d with
 |[x0,x1,x2,x3,x4,x5],_ =>
  simp at a b c;obtain⟨rfl,rfl⟩:=a;obtain⟨rfl,rfl⟩:=b;obtain⟨rfl,rfl⟩:=c;rfl
theorem UW(q:laidMetH Ao Rows.hiddenRow.laid W)(r:W.ShapedOpen Ao):Gq W:=by
 have c:laidMet Ao Rows.hiddenRow.laid W:=q;refine⟨?_,?_,Tryz.laysM145.s1_3 W r⟩
 ·obtain⟨g,t,cs,l,p,f,z,a,v⟩:=laidMet.reads c (d:=Rows.laid_redact_policy_signs) (.tail _ (.tail _ (.tail _ (.tail _ (.tail _ (.tail _ (.head _)))))));obtain rfl:g=0:=CX (f.symm.trans (by kernel_rfl));obtain rfl:=CX (Tryz.gSignsT.symm.trans z);have b:DataW.trod (λ_=>()) Ao W 0 (λ_=>true) false l 239 cs.toList=Aj (.agg [.agg [.lit (.string [42]),.lit (.int Ah 0)],.agg [.lit (.string [42,42]),.lit (.int Ah 1)],.agg [.lit (.string [91,93]),.lit (.int Ah 2)]],p):=v;obtain⟨D,A,q0,w,m⟩:=array_elem underlying239 b 0 (by omega);obtain⟨f1,B,q1,x,n⟩:=array_elem underlying239 b 1 (by omega);obtain⟨E,C,F,y,o⟩:=array_elem underlying239 b 2 (by omega);cases w;cases x;cases y;have i:=Rh m;have j:=Rh n;have k:=Rh o;rw[UV]at i j k;have s:=(be underlying239 b).trans bd;have u:=bf s i j k;unfold World.var? at a;rw[f]at a;simp only[UB]at a;split at a
  ·next cs' t fr hh =>
   cases a;refine⟨t,fr,?_⟩;rw[hh];have:cs=[Value.string ⟨[42].toArray⟩,A7 Ah 0,Aa ⟨[42,42].toArray⟩,A7 Ah 1,Aa ⟨[91,93].toArray⟩,A7 Ah 2].toArray:=by rw[<-u]
   rw[this]
  cases a
 refine utf8Tabs_of_readsT (U8Types.of196 Tryz.lays196) Tryz.x8 ?_ ?_
 ·rw[<-Pinned.utf8First_eq];exact laidMet.reads c (.tail _ (.tail _ (.tail _ (.tail _ (.tail _ (.tail _ (.tail _ (.head _))))))))
 have e:(Rows.laid_unicode_utf8_acceptRanges:A3)=acceptData:=by kernel_rfl
 have h:=laidMet.reads c (d:=Rows.laid_unicode_utf8_acceptRanges) (.tail _ (.tail _ (.tail _ (.head _))));rw[e]at h;exact h
end
section
open Go.RowKit
def C1:Nat->Nat:=λ_=>0
structure EQ(W:World)(X:Nat->Nat)(V:World):Prop where
 box:V.heap[W.heap.size]?=some (.cells (AG X) 119)
 ret:V.heap[W.heap.size+1]?=some (.cells (AG C1) 119)
 below:A1 W V
theorem EQ.next(h:EQ W X V)(a:A1 V V'):EQ W X V' :=
 ⟨(a.block _ (At h.box)).trans h.box,(a.block _ (At h.ret)).trans h.ret,h.below.trans (a.mono h.below.size)⟩
theorem iH(W:Al)(X:Nat->Nat):EQ W X ((W.alloc (Af (AG X) 119)).alloc (Af (AG C1) 119)) :=
 ⟨(AL _ _ _ (by simp)).trans (Ay _ _),by have:=Ay (W.alloc (Af (AG X) 119)) (Af (AG C1) 119);simpa using this,(AH).alloc (by simp) _⟩
theorem ND(X:Nat->Nat):(AG X).all (·.oneCell')=true:=by
 rw[Array.all_eq_true];intro i h;simp[AG,Value.oneCell']
theorem NF(X Y:Nat->Nat):(AG X).size=(AG Y).size:=by rw[Ju,Ju]
theorem EQ.set(h:EQ W X V)(g:Nat)(a:W.heap.size+1<g)(cs:A4):EQ W X (V.setRow g cs) :=
 ⟨sx (by omega) h.box,sx (by omega) h.ret,Bu h.below (by omega) _⟩
theorem EQ.cell(h:EQ W X V)(g j:Nat)(a:W.heap.size+1<g)(v:Am):EQ W X (V.setCell ⟨g,j,Ak⟩ v) :=
 ⟨(Ef _ _ _ _ (by simp;omega)).trans h.box,(Ef _ _ _ _ (by simp;omega)).trans h.ret,h.below.setCell (by simp;omega) _⟩
theorem EQ.drew(h:EQ W X V):EQ W X V.drew:=⟨h.box,h.ret,h.below.drew⟩
theorem iI(st X:Nat->Nat)(k:Nat):(λi=>if i=k then w1 (st k) (X k)else D4 st X k i)=D4 st X (k+1):=by
 funext r;unfold D4;by_cases h:r=k
 ·subst h;rw[As rfl,As (by omega)]
 rw[Aq h];by_cases a:r<k
 ·rw[As a,As (by omega)]
 rw[Aq a,Aq (by omega)]
theorem WL(y:Nat)(h:y<256):IntKind.u16.wrap ((y:Int)*2)=((y<<<1:Nat):Int):=by
 have:=WA (y*2) (by omega);rw[MV];rw[show((y:Int)*2)=((y*2:Nat):Int) by simp,this]
theorem iJ(st X:Nat->Nat):D4 st X 0=X:=by
 funext r;unfold D4;rw[Aq (by omega)]
theorem iK(W:Al)(A:Nat)(ra:A5)(rc n:Nat)(st:Nat->Nat)(P:Nat->Nat)(C:∀r,P r<512)(u:∀r,st r<256)(hn:n<=16)(m:A<W.heap.size)(x:W.cell? ⟨A,0,Ak⟩=Aj (A8 ra n rc))(cs:∀r,r<16->W.cell? ⟨A,3+r,Ak⟩=Aj (A7 .u16 (st r))):An Ao 79 #[A9 (Aj ⟨A,0,Ak⟩),.agg (AG P)] W λe R=>(∃Y,e=.returned (.agg (AG Y))/\(∀r,r<n->∀k,(Y r).testBit k=GV (st r) (P r) k)/\(∀r,n<=r->Y r=P r)/\∀r,Y r<512)/\A1 W R:=by
 have L:Hid (EQ W P ((W.alloc (Af (AG P) 119)).alloc (Af #[A7 .u16 0,A7 .u16 0,A7 .u16 0,A7 .u16 0,A7 .u16 0,A7 .u16 0,A7 .u16 0,A7 .u16 0,A7 .u16 0,A7 .u16 0,A7 .u16 0,A7 .u16 0,A7 .u16 0,A7 .u16 0,A7 .u16 0,A7 .u16 0] 119))):=iH W P;have H:=Ap (i6 P st n C);go_enter func79,ntmps79;go_wp2
 go_loopg[] (8192-Gv P 16) (λg wr=>∃X,Hid (EQ W X wr)/\Hid (L2 P st n X)/\Hid (Gv X 16+g=8192))
 case atStart=>exact⟨P,L,H,by show _=_;have:=Pm C 16;omega⟩
 case round =>
  obtain⟨X,l,d,G⟩:=hrel;have T:=(l.below.cell (p:=⟨A,_,Ak⟩) m).trans x
  go_wp2_with(first
   |(refine B3 rfl 119 (.tmp 3) rfl W.heap.size rfl _ _ _ _ l.box underlying119 rfl (DU X) ?_)
   |(refine Bg rfl 119 (.tmp 5) (.tmp 7) rfl wr.heap.size (AG X) rfl rfl 119 (AG C1) (Ay wr _) (DU X) (NF _ _) (ND X) ?_;have v:=Ap (At l.ret);have w:Hid (EQ W X ((wr.alloc (Af #[A7 .u16 0,A7 .u16 0,A7 .u16 0,A7 .u16 0,A7 .u16 0,A7 .u16 0,A7 .u16 0,A7 .u16 0,A7 .u16 0,A7 .u16 0,A7 .u16 0,A7 .u16 0,A7 .u16 0,A7 .u16 0,A7 .u16 0,A7 .u16 0] 119)).setRow wr.heap.size (AG X))):=(l.next AH).set _ v _;have O:Hid (((wr.alloc (Af #[A7 .u16 0,A7 .u16 0,A7 .u16 0,A7 .u16 0,A7 .u16 0,A7 .u16 0,A7 .u16 0,A7 .u16 0,A7 .u16 0,A7 .u16 0,A7 .u16 0,A7 .u16 0,A7 .u16 0,A7 .u16 0,A7 .u16 0,A7 .u16 0] 119)).setRow wr.heap.size (AG X)).heap[wr.heap.size]?=Aj (Af (AG (D4 st X 0)) 119)):=(by rw[iJ];exact B4 _ _ _ _ _ _ (Ay wr _));generalize(wr.alloc (Af #[A7 .u16 0,A7 .u16 0,A7 .u16 0,A7 .u16 0,A7 .u16 0,A7 .u16 0,A7 .u16 0,A7 .u16 0,A7 .u16 0,A7 .u16 0,A7 .u16 0,A7 .u16 0,A7 .u16 0,A7 .u16 0,A7 .u16 0,A7 .u16 0] 119)).setRow wr.heap.size (AG X)=V1 at *;generalize wr.heap.size=M at *;have T:=(w.below.cell (p:=⟨A,_,Ak⟩) m).trans x))
  go_loopg[13] n (λg ai V=>∃k:Nat,ai=A7 Ah k/\Hid (k+g=n)/\Hid (EQ W X V)/\Hid (V.heap[M]?=Aj (Af (AG (D4 st X k)) 119)))
  case atStart=>exact⟨0,rfl,by show _=_;omega,w,O⟩
  case round =>
   obtain⟨k,rfl,o,b,i⟩:=hrel
   cases gk with
   |zero =>
    have af:¬(k:Int)<(n:Int):=by have:=o.out;omega
    have ae:k=n:=by have:=o.out;omega
    subst ae;have z:∀r,X r<65536:=λr=>by have:=d.lt r;omega
    have ab:∀r,D4 st X k r<65536:=λr=>by have:=(d.step u).lt r;omega
    have E:=iG (D4 st X k) X ab z wr
    cases j:L4 (D4 st X k) X with
    |true =>
     rw[j]at E;have he:∀r,r<k->w1 (st r) (X r)=X r:=λr f=>by
      have h:=WJ j r (by omega);unfold D4 at h;rwa[As f]at h
     have F:=Ap (d.done he)
     go_wp2_with(first
      |(refine B3 rfl 119 (.tmp 5) rfl M rfl _ _ _ _ i underlying119 rfl (DU _) ?_)
      |(refine B3 rfl 119 (.tmp 3) rfl W.heap.size rfl _ _ _ _ b.box underlying119 rfl (DU X) ?_)
      |(refine Bg rfl 119 (.tmp 4) (.tmp 36) rfl (W.heap.size+1) (AG X) rfl rfl 119 (AG C1) b.ret (DU X) (NF _ _) (ND X) ?_))
     refine Bd (KG results79 _ _ (W.heap.size+1) 119 (AG X) (0,0) _ rfl (B4 _ _ _ _ _ _ b.ret) underlying119 rfl (DU X)) rfl ⟨⟨X,rfl,F,d.off,d.lt⟩,Bu b.below (by omega) _⟩
    |false =>
     rw[j]at E;have I:Hid (Gv X 16<Gv (D4 st X k) 16):=by
      show _<_;have D:∀r,X r<=D4 st X k r:=λr=>by
       unfold D4;by_cases f:r<k
       ·rw[As f];exact i4 _ _
       rw[Aq f];exact AB _
      have ad:∃r,r<16/\X r<D4 st X k r:=by
       refine Qw λhh=>?_;have:L4 (D4 st X k) X=true:=WK λr f=>by
        have y:=D r;have B:¬X r<D4 st X k r:=λh=>hh ⟨r,f,h⟩;omega
       rw[this]at j;cases j
      obtain⟨r,y,B⟩:=ad;exact WE D 16 r y B
     have q:=Ap (d.step u)
     go_wp2_with(first
      |(refine B3 rfl 119 (.tmp 5) rfl M rfl _ _ _ _ i underlying119 rfl (DU _) ?_)
      |(refine B3 rfl 119 (.tmp 3) rfl W.heap.size rfl _ _ _ _ b.box underlying119 rfl (DU X) ?_)
      |(refine Bg rfl 119 (.tmp 3) (.tmp 37) rfl W.heap.size (AG (D4 st X k)) rfl rfl 119 (AG X) b.box (DU _) (NF _ _) (ND _) ?_))
     have N:Hid (EQ W (D4 st X k) (wr.setRow W.heap.size (AG (D4 st X k)))):=⟨B4 _ _ _ _ _ _ b.box,sx (by omega) b.ret,Bu b.below (AB _) _⟩
     go_roundg (8192-Gv (D4 st X k) 16)
     case measure=>have:=G.out;have:=I.out;have:=Pm q.lt 16;omega
     case rel=>exact⟨D4 st X k,N,q,by show _=_;have:=Pm q.lt 16;omega⟩
   |succ g =>
    have am:k<n:=by have:=o.out;omega
    have af:(k:Int)<(n:Int):=by omega
    have al:(k:Int)<16:=by omega
    have aa:=d.lt k;have ah:=u k;have ha:=Pj (X k) (st k) (by omega) (by omega);have ac:X k&&&st k<256:=KE (n:=8) _ (by omega);have an:=WL (X k&&&st k) ac;have ao:=WC ah aa;have ag:bits .or .u16 (X k:Int) (((X k&&&st k)<<<1:Nat):Int)=((w1 (st k) (X k):Nat):Int):=S4 _ _ (by omega) (by rw[MV];omega);have aj:wr.cell? ⟨M,k,Ak⟩=Aj (A7 .u16 (X k)):=by
     have h:=Ar i k;rw[Hv _ k (by omega)]at h;rw[h];unfold D4;rw[Aq (by omega)]
    have ak:=Cx wr M k _ _ i;have J:Hid (wr.cell? ⟨W.heap.size,k,Ak⟩=Aj (A7 .u16 (X k))/\wr.cell? ⟨A,3+k,Ak⟩=Aj (A7 .u16 (st k))):=⟨by have h:=Ar b.box k;rwa[Hv _ k (by omega)]at h,(b.below.cell (p:=⟨A,_,Ak⟩) m).trans (cs k (by omega))⟩
    have s:Hid (EQ W X (wr.drew.setCell ⟨M,k,Ak⟩ (A7 .u16 ((w1 (st k) (X k):Nat):Int)))):=b.drew.cell _ _ v _;have Q:Hid ((wr.drew.setCell ⟨M,k,Ak⟩ (A7 .u16 ((w1 (st k) (X k):Nat):Int))).heap[M]?=Aj (Af (AG (D4 st X (k+1))) 119)):=by
     have h:=DJ wr.drew M k _ _ (A7 .u16 ((w1 (st k) (X k):Nat):Int)) i;rw[Pk,iI]at h;exact h
    go_wp2;have a:(λZ:Al=>Z.cell? ⟨W.heap.size,k,Ak⟩=Aj (A7 .u16 (X k))/\Z.cell? ⟨A,3+k,Ak⟩=Aj (A7 .u16 (st k))) {wr with drawn:=wr.drawn+1}:=J.out;have U:(λZ:Al=>Z.cell? ⟨W.heap.size,k,Ak⟩=Aj (A7 .u16 (X k))/\Z.cell? ⟨A,3+k,Ak⟩=Aj (A7 .u16 (st k))) (wr.drew.setCell ⟨M,k,Ak⟩ (A7 .u16 ((w1 (st k) (X k):Nat):Int))):=⟨by have h:=Ar s.box k;rwa[Hv _ k (by omega)]at h,(s.below.cell (p:=⟨A,_,Ak⟩) m).trans (cs k (by omega))⟩
    refine Dr (S:=λZ=>Z.cell? ⟨W.heap.size,k,Ak⟩=Aj (A7 .u16 (X k))/\Z.cell? ⟨A,3+k,Ak⟩=Aj (A7 .u16 (st k))) (by kernel_rfl) ?_;refine Au 0 16 (A7 Ah k) a ?_;refine AD 1 17 (A9 (Aj ⟨M,k,Ak⟩)) rfl (λZ c=>?y1) a ?_
    case y1=>go_simp
    refine Au 3 19 (A7 Ah k) a ?_;refine AD 4 20 (A9 (Aj ⟨W.heap.size,k,Ak⟩)) rfl (λZ c=>?y4) a ?_
    case y4=>go_simp
    refine AD 5 21 (A7 .u16 (X k)) rfl (λZ c=>?y5) a ?_
    case y5=>(have z1:=c.1;go_simp)
    refine Au 6 22 (A9 (Aj ⟨A,0,Ak⟩)) a ?_;refine Au 7 23 (A7 Ah k) a ?_;refine Au 8 24 (A9 (Aj ⟨A,0,Ak⟩)) a ?_;refine Au 9 25 (A9 (Aj ⟨A,3,Ak⟩)) a ?_;refine AD 10 26 (A9 (Aj ⟨A,3+k,Ak⟩)) rfl (λZ c=>?y10) a ?_
    case y10=>go_simp
    refine AD 11 27 (A7 .u16 (st k)) rfl (λZ c=>?y11) a ?_
    case y11=>(have z2:=c.2;go_simp)
    refine AD 12 28 (A7 .u16 ((X k&&&st k:Nat):Int)) rfl (λZ c=>?y12) a ?_
    case y12=>go_simp
    refine AD 13 29 (A7 .u16 (((X k&&&st k)<<<1:Nat):Int)) rfl (λZ c=>?y13) a ?_
    case y13=>go_simp
    refine Bc 2 (λK t=>?_);go_simp;refine t.out _ _ a (λ_=>?_);refine AD 14 30 (A7 .u16 ((w1 (st k) (X k):Nat):Int)) rfl (λZ c=>?y14) a ?_
    case y14=>(go_simp;exact ag)
    refine AD 15 31 (A9 (Aj ⟨M,k,Ak⟩)) rfl (λZ c=>?y15) a ?_
    case y15=>go_simp
    refine Bc 16 (λK t=>?_);go_simp;refine t.out _ _ U (λ_=>?_);refine Bw ?_;go_simp;go_wp2;go_roundg g
    case measure=>omega
    case rel=>exact⟨k+1,by go_num,by show _=_;have:=o.out;omega,s,Q⟩
structure Kh(W:World)(A:Nat)(ra:A5)(rc n:Nat)(st:Nat->Nat):Prop where
 lt:A<W.heap.size
 rules:W.cell? ⟨A,0,none⟩=some (.slice ra n rc)
 stays:∀r,r<16->W.cell? ⟨A,3+r,none⟩=some (.int .u16 (st r))
theorem Kh.below{ra:A5}(h:Kh W A ra rc n st)(a:A1 W W'):Kh W' A ra rc n st :=
 ⟨Br h.lt a.size,(a.cell (p:=⟨A,_,Ak⟩) h.lt).trans h.rules,λr b=>(a.cell (p:=⟨A,_,Ak⟩) h.lt).trans (h.stays r b)⟩
def Mi(n:Nat)(st P Y:Nat->Nat):Prop:=(∀r,r<n->∀k,(Y r).testBit k=GV (st r) (P r) k)/\(∀r,n<=r->Y r=P r)/\∀r,Y r<512
def S9(n:Nat)(st P:Nat->Nat)(e:Ending):Prop:=∃Y,e=.returned (.agg (AG Y))/\Mi n st P Y
theorem WM{ra:A5}(h:Kh W A ra rc n st)(P:Nat->Nat)(b:∀r,P r<512)(d:∀r,st r<256)(c:n<=16):An Ao 79 #[A9 (Aj ⟨A,0,Ak⟩),.agg (AG P)] W λe a=>S9 n st P e/\A1 W a :=
 iK W A ra rc n st P b d c h.lt h.rules h.stays
def one(k:Nat):Nat->Nat:=λr=>if r<k then 1 else 0
theorem iL:one 0=C1:=by funext r;rfl
theorem iM(k:Nat):(λi=>if i=k then(one k k|||2^0:Nat)else one k i)=one (k+1):=by
 funext r;unfold one;by_cases h:r=k
 ·subst h;rw[As rfl,Aq (by omega),As (by omega)];rfl
 rw[Aq h];by_cases a:r<k
 ·rw[As a,As (by omega)]
 rw[Aq a,Aq (by omega)]
theorem WN(k r:Nat):one k r<512:=by unfold one;split<;>omega
structure L5(W:World)(X:Nat->Nat)(V:World):Prop where
 ret:V.heap[W.heap.size]?=some (.cells (AG C1) 119)
 p:V.heap[W.heap.size+1]?=some (.cells (AG X) 119)
 below:A1 W V
theorem L5.next(h:L5 W X V)(a:A1 V V'):L5 W X V' :=
 ⟨(a.block _ (At h.ret)).trans h.ret,(a.block _ (At h.p)).trans h.p,h.below.trans (a.mono h.below.size)⟩
theorem iN(W:Al):L5 W C1 ((W.alloc (Af (AG C1) 119)).alloc (Af (AG C1) 119)) :=
 ⟨(AL _ _ _ (by simp)).trans (Ay _ _),by have:=Ay (W.alloc (Af (AG C1) 119)) (Af (AG C1) 119);simpa using this,(AH).alloc (by simp) _⟩
theorem iO(W:Al)(A:Nat)(B:A5)(C n:Nat)(st:Nat->Nat)(y:∀r,st r<256)(x:n<=16)(h:Kh W A B C n st):An Ao 48 #[A9 (Aj ⟨A,0,Ak⟩)] W λe W'=>S9 n st (one n) e/\A1 W W':=by
 have d:=Ap h;have i:Hid (L5 W C1 ((W.alloc (Af #[A7 .u16 0,A7 .u16 0,A7 .u16 0,A7 .u16 0,A7 .u16 0,A7 .u16 0,A7 .u16 0,A7 .u16 0,A7 .u16 0,A7 .u16 0,A7 .u16 0,A7 .u16 0,A7 .u16 0,A7 .u16 0,A7 .u16 0,A7 .u16 0] 119)).alloc (Af #[A7 .u16 0,A7 .u16 0,A7 .u16 0,A7 .u16 0,A7 .u16 0,A7 .u16 0,A7 .u16 0,A7 .u16 0,A7 .u16 0,A7 .u16 0,A7 .u16 0,A7 .u16 0,A7 .u16 0,A7 .u16 0,A7 .u16 0,A7 .u16 0] 119))):=iN W;have E:=h.rules;have G:=h.lt;go_enter func48,ntmps48;go_wp2
 go_loopg[10] n (λg z V=>∃k:Nat,z=A7 Ah k/\Hid (k+g=n)/\Hid (L5 W (one k) V))
 case atStart=>exact⟨0,rfl,by show _=_;omega,by rw[iL];exact i⟩
 case round =>
  obtain⟨k,rfl,b,a⟩:=hrel
  cases gk with
  |zero =>
   have w:¬(k:Int)<(n:Int):=by have:=b.out;omega
   have v:k=n:=by have:=b.out;omega
   subst v;have m:=λV s=>WM (d.below (W':=V) s) (one k) (WN k) y x
   go_wp2_with(first
    |(go_at_call 79;refine(m _ a.below).mono ?_;rintro e D ⟨⟨Y,rfl,q⟩,o⟩;have c:=Ap (a.next o);have j:=Ap q)
    |(refine B3 rfl 119 (.tmp 3) rfl (W.heap.size+1) rfl _ _ _ _ a.p underlying119 rfl (DU _) ?_)
    |(refine Bg rfl 119 (.tmp 2) (.tmp 18) rfl W.heap.size (AG Y) rfl rfl 119 (AG C1) c.ret (DU Y) (NF _ _) (ND Y) ?_))
   refine Bd (KG results48 _ _ W.heap.size 119 (AG Y) (0,0) _ rfl (B4 _ _ _ _ _ _ c.ret) underlying119 rfl (DU Y)) rfl ⟨⟨Y,rfl,j⟩,Bu c.below (AB _) _⟩
  |succ g =>
   have F:k<n:=by have:=b.out;omega
   have w:(k:Int)<(n:Int):=by omega
   have t:wr.cell? ⟨W.heap.size+1,0+k,Ak⟩=Aj (A7 .u16 (one k k)):=by
    have h:=Ar a.p (0+k);rw[Hv _ (0+k) (by omega)]at h;rw[h,Df]
   have u:=Cx wr (W.heap.size+1) (0+k) _ _ a.p;have l:=NB wr (W.heap.size+1) 0 (one k k) k 0 (by omega) (by omega) (by have:=WN k k;omega) t u;have f:Hid (L5 W (one (k+1)) (wr.setCell ⟨W.heap.size+1,k,Ak⟩ (A7 .u16 ((one k k|||1:Nat):Int))).drew):=by
    refine⟨(Ef wr _ _ _ (by simp)).trans a.ret,?_,(a.below.setCell (by simp) _).drew⟩;have h:=DJ wr (W.heap.size+1) k _ _ (A7 .u16 ((one k k|||1:Nat):Int)) a.p;rw[Pk,show(1:Nat)=2^0 from rfl,iM]at h;exact h
   go_wp2_with(first
    |(go_at_call 77;refine l.mono ?_;rintro e D ⟨rfl,rfl⟩))
   go_roundg g
   case measure=>omega
   case rel=>exact⟨k+1,by go_num,by show _=_;have:=b.out;omega,f⟩
structure NG(W:World)(A tb L tc:Nat)(tk:Nat->Nat->Nat):Prop where
 lt:A<W.heap.size
 tlt:tb<W.heap.size
 takes:W.cell? ⟨A,19,none⟩=some (.slice (some ⟨tb,0,none⟩) L tc)
 at_:∀x r,x<L->r<16->W.cell? ⟨tb,x*16+r,none⟩=some (.int .u16 (tk x r))
theorem NG.below{tb L tc:Nat}{tk:Nat->Nat->Nat}(h:NG W A tb L tc tk)(a:A1 W W'):NG W' A tb L tc tk :=
 ⟨Br h.lt a.size,Br h.tlt a.size,(a.cell (p:=⟨A,_,Ak⟩) h.lt).trans h.takes,λx r c b=>(a.cell (p:=⟨tb,_,Ak⟩) h.tlt).trans (h.at_ x r c b)⟩
def IS(st tk x:Nat):Nat:=(x&&&st)|||((x&&&tk)<<<1)
def ER(st tk P:Nat->Nat)(k:Nat):Nat->Nat:=λr=>if r<k then IS (st r) (tk r) (P r)else 0
theorem iP{st tk x:Nat}(d:st<256)(e:tk<256):IS st tk x<512:=by
 have b:x&&&st<2^8:=KE _ (by omega);have c:x&&&tk<2^8:=KE _ (by omega);have a:(x&&&tk)<<<1<2^9:=by rw[MV];omega
 exact QK (n:=9) (by omega) a
theorem iQ(st tk P:Nat->Nat):ER st tk P 0=C1:=by funext r;unfold ER C1;rw[Aq (by omega)]
theorem iR(st tk P:Nat->Nat)(k:Nat):(λi=>if i=k then IS (st k) (tk k) (P k)else ER st tk P k i)=ER st tk P (k+1):=by
 funext r;unfold ER;by_cases h:r=k
 ·subst h;rw[As rfl,As (by omega)]
 rw[Aq h];by_cases a:r<k
 ·rw[As a,As (by omega)]
 rw[Aq a,Aq (by omega)]
theorem iS{tk:Nat->Nat}(a:∀r,st r<256)(b:∀r,tk r<256)(P:Nat->Nat)(k r:Nat):ER st tk P k r<512:=by
 unfold ER;split
 ·exact iP (a r) (b r)
 omega
structure Jy(W:World)(P X:Nat->Nat)(V:World):Prop where
 box:V.heap[W.heap.size]?=some (.cells (AG P) 119)
 ret:V.heap[W.heap.size+1]?=some (.cells (AG C1) 119)
 nx:V.heap[W.heap.size+2]?=some (.cells (AG X) 119)
 below:A1 W V
theorem Jy.next{P:Nat->Nat}(h:Jy W P X V)(a:A1 V V'):Jy W P X V' :=
 ⟨(a.block _ (At h.box)).trans h.box,(a.block _ (At h.ret)).trans h.ret,(a.block _ (At h.nx)).trans h.nx,h.below.trans (a.mono h.below.size)⟩
theorem iT(W:Al)(P:Nat->Nat):Jy W P C1 (((W.alloc (Af (AG P) 119)).alloc (Af (AG C1) 119)).alloc (Af (AG C1) 119)) :=
 ⟨((AL _ _ _ (by simp;omega)).trans (AL _ _ _ (by simp))).trans (Ay _ _),(AL _ _ _ (by simp)).trans (by have:=Ay (W.alloc (Af (AG P) 119)) (Af (AG C1) 119);simpa using this),by have:=Ay ((W.alloc (Af (AG P) 119)).alloc (Af (AG C1) 119)) (Af (AG C1) 119);simpa using this,((AH).alloc (by simp) _).alloc (by simp;omega) _⟩
theorem iU(W:Al)(A:Nat)(R:A5)(T n:Nat)(st:Nat->Nat)(c L i:Nat)(tk:Nat->Nat->Nat)(o:∀r,st r<256)(u:∀x r,tk x r<256)(N:n<=16)(h:Kh W A R T n st)(B:NG W A c L i tk)(P:Nat->Nat)(E:∀r,P r<512)(x:Nat)(Q:x<L):An Ao 177 #[A9 (Aj ⟨A,0,Ak⟩),.agg (AG P),A7 Ah x] W λe W'=>S9 n st (ER st (tk x) P n) e/\A1 W W':=by
 have p:=Ap h;have t:=Ap B;have l:Hid (Jy W P C1 (((W.alloc (Af (AG P) 119)).alloc (Af #[A7 .u16 0,A7 .u16 0,A7 .u16 0,A7 .u16 0,A7 .u16 0,A7 .u16 0,A7 .u16 0,A7 .u16 0,A7 .u16 0,A7 .u16 0,A7 .u16 0,A7 .u16 0,A7 .u16 0,A7 .u16 0,A7 .u16 0,A7 .u16 0] 119)).alloc (Af #[A7 .u16 0,A7 .u16 0,A7 .u16 0,A7 .u16 0,A7 .u16 0,A7 .u16 0,A7 .u16 0,A7 .u16 0,A7 .u16 0,A7 .u16 0,A7 .u16 0,A7 .u16 0,A7 .u16 0,A7 .u16 0,A7 .u16 0,A7 .u16 0] 119))):=iT W P;have X:=h.rules;have ah:=h.lt;have ai:A<W.heap.size+1:=by omega
 have aj:A<W.heap.size+1+1:=by omega
 go_enter func177,ntmps177;go_wp2
 go_loopg[14] n (λg z V=>∃k:Nat,z=A7 Ah k/\Hid (k+g=n)/\Hid (Jy W P (ER st (tk x) P k) V))
 case atStart=>exact⟨0,rfl,by show _=_;omega,by rw[iQ];exact l⟩
 case round =>
  obtain⟨k,rfl,j,d⟩:=hrel
  cases gk with
  |zero =>
   have M:¬(k:Int)<(n:Int):=by have:=j.out;omega
   have J:k=n:=by have:=j.out;omega
   subst J;have y:=λV f=>WM (p.below (W':=V) f) (ER st (tk x) P k) (iS o (u x) P k) o N
   go_wp2_with(first
    |(go_at_call 79;refine(y _ d.below).mono ?_;rintro e w2 ⟨⟨Y,rfl,H⟩,C⟩;have m:=Ap (d.next C);have w:=Ap H)
    |(refine B3 rfl 119 (.tmp 7) rfl (W.heap.size+1+1) rfl _ _ _ _ d.nx underlying119 rfl (DU _) ?_)
    |(refine Bg rfl 119 (.tmp 6) (.tmp 47) rfl (W.heap.size+1) (AG Y) rfl rfl 119 (AG C1) m.ret (DU Y) (NF _ _) (ND Y) ?_))
   refine Bd (KG results177 _ _ (W.heap.size+1) 119 (AG Y) (0,0) _ rfl (B4 _ _ _ _ _ _ m.ret) underlying119 rfl (DU Y)) rfl ⟨⟨Y,rfl,w⟩,Bu m.below (by omega) _⟩
  |succ g =>
   have ag:k<n:=by have:=j.out;omega
   have M:(k:Int)<(n:Int):=by omega
   have af:(k:Int)<16:=by omega
   have Dn:(x:Int)<(L:Int):=by omega
   have aa:=E k;have al:=o k;have am:=u x k;have ha:=Pj (P k) (st k) (by omega) (by omega);have ac:=Pj (P k) (tk x k) (by omega) (by omega);have ab:P k&&&st k<256:=KE (n:=8) _ (by omega);have I:P k&&&tk x k<256:=KE (n:=8) _ (by omega);have ak:=WL (P k&&&tk x k) I;have O:bits .or .u16 ((P k&&&st k:Nat):Int) (((P k&&&tk x k)<<<1:Nat):Int)=((IS (st k) (tk x k) (P k):Nat):Int):=S4 _ _ (by omega) (by rw[MV];omega);have ad:wr.cell? ⟨W.heap.size+1+1,k,Ak⟩=Aj (A7 .u16 (ER st (tk x) P k k)):=by
    have h:=Ar d.nx k;rwa[Hv _ k (by omega)]at h
   have ae:=Cx wr (W.heap.size+1+1) k _ _ d.nx;have s:Hid (Jy W P (ER st (tk x) P (k+1)) (wr.drew.setCell ⟨W.heap.size+1+1,k,Ak⟩ (A7 .u16 ((IS (st k) (tk x k) (P k):Nat):Int)))):=by
    refine⟨(Ef wr.drew _ _ _ (by simp;omega)).trans d.box,(Ef wr.drew _ _ _ (by simp)).trans d.ret,?_,d.below.drew.setCell (by simp;omega) _⟩;have h:=DJ wr.drew (W.heap.size+1+1) k _ _ (A7 .u16 ((IS (st k) (tk x k) (P k):Nat):Int)) d.nx;rw[Pk,iR]at h;exact h
   have q:∀V,Jy W P (ER st (tk x) P k) V\/Jy W P (ER st (tk x) P (k+1)) V->V.cell? ⟨W.heap.size,k,Ak⟩=Aj (A7 .u16 (P k))/\V.cell? ⟨A,3+k,Ak⟩=Aj (A7 .u16 (st k))/\V.cell? ⟨A,19,Ak⟩=Aj (A8 (Aj ⟨c,0,Ak⟩) L i)/\V.cell? ⟨c,x*16+k,Ak⟩=Aj (A7 .u16 (tk x k)):=by
    intro V G;have f:V.heap[W.heap.size]?=Aj (Af (AG P) 119)/\A1 W V:=by rcases G with h|h<;>exact⟨h.box,h.below⟩
    exact⟨by have h:=Ar f.1 k;rwa[Hv _ k (by omega)]at h,(p.below f.2).stays k (by omega),(t.below f.2).takes,(t.below f.2).at_ x k Q (by omega)⟩
   have l:Hid (_):=q wr (.inl d);have v:Hid (_):=q _ (.inr s);go_wp2;have a:(λZ:Al=>Z.cell? ⟨W.heap.size,k,Ak⟩=Aj (A7 .u16 (P k))/\Z.cell? ⟨A,3+k,Ak⟩=Aj (A7 .u16 (st k))/\Z.cell? ⟨A,19,Ak⟩=Aj (A8 (Aj ⟨c,0,Ak⟩) L i)/\Z.cell? ⟨c,x*16+k,Ak⟩=Aj (A7 .u16 (tk x k))) {wr with drawn:=wr.drawn+1}:=l.out;have F:(λZ:Al=>Z.cell? ⟨W.heap.size,k,Ak⟩=Aj (A7 .u16 (P k))/\Z.cell? ⟨A,3+k,Ak⟩=Aj (A7 .u16 (st k))/\Z.cell? ⟨A,19,Ak⟩=Aj (A8 (Aj ⟨c,0,Ak⟩) L i)/\Z.cell? ⟨c,x*16+k,Ak⟩=Aj (A7 .u16 (tk x k))) (wr.drew.setCell ⟨W.heap.size+1+1,k,Ak⟩ (A7 .u16 ((IS (st k) (tk x k) (P k):Nat):Int))):=v.out;refine Dr (S:=λZ=>Z.cell? ⟨W.heap.size,k,Ak⟩=Aj (A7 .u16 (P k))/\Z.cell? ⟨A,3+k,Ak⟩=Aj (A7 .u16 (st k))/\Z.cell? ⟨A,19,Ak⟩=Aj (A8 (Aj ⟨c,0,Ak⟩) L i)/\Z.cell? ⟨c,x*16+k,Ak⟩=Aj (A7 .u16 (tk x k))) (by kernel_rfl) ?_;refine Au 0 17 (A7 Ah k) a ?_;refine Au 1 18 (A7 Ah k) a ?_;refine AD 2 19 (A9 (Aj ⟨W.heap.size,k,Ak⟩)) rfl (λZ b=>?y2) a ?_
   case y2=>go_simp
   refine AD 3 20 (A7 .u16 (P k)) rfl (λZ b=>?y3) a ?_
   case y3=>(have U:=b.1;go_simp)
   refine Au 4 21 (A9 (Aj ⟨A,0,Ak⟩)) a ?_;refine Au 5 22 (A7 Ah k) a ?_;refine Au 6 23 (A9 (Aj ⟨A,0,Ak⟩)) a ?_;refine Au 7 24 (A9 (Aj ⟨A,3,Ak⟩)) a ?_;refine AD 8 25 (A9 (Aj ⟨A,3+k,Ak⟩)) rfl (λZ b=>?y8) a ?_
   case y8=>go_simp
   refine AD 9 26 (A7 .u16 (st k)) rfl (λZ b=>?y9) a ?_
   case y9=>(have z2:=b.2.1;go_simp)
   refine AD 10 27 (A7 .u16 ((P k&&&st k:Nat):Int)) rfl (λZ b=>?y10) a ?_
   case y10=>go_simp
   refine Au 11 28 (A7 Ah k) a ?_;refine AD 12 29 (A9 (Aj ⟨W.heap.size,k,Ak⟩)) rfl (λZ b=>?y12) a ?_
   case y12=>go_simp
   refine AD 13 30 (A7 .u16 (P k)) rfl (λZ b=>?y13) a ?_
   case y13=>(have U:=b.1;go_simp)
   refine Au 14 31 (A9 (Aj ⟨A,0,Ak⟩)) a ?_;refine Au 15 32 (A9 (Aj ⟨A,0,Ak⟩)) a ?_;refine Au 16 33 (A9 (Aj ⟨A,19,Ak⟩)) a ?_;refine AD 17 34 (A8 (Aj ⟨c,0,Ak⟩) L i) rfl (λZ b=>?y17) a ?_
   case y17=>(have z3:=b.2.2.1;go_simp)
   refine Au 18 35 (A7 Ah x) a ?_;refine Au 19 36 (A7 Ah k) a ?_;refine AD 20 37 (A9 (Aj ⟨c,x*16,Ak⟩)) rfl (λZ b=>?y20) a ?_
   case y20=>go_simp
   refine AD 21 38 (A9 (Aj ⟨c,x*16+k,Ak⟩)) rfl (λZ b=>?y21) a ?_
   case y21=>go_simp
   refine AD 22 39 (A7 .u16 (tk x k)) rfl (λZ b=>?y22) a ?_
   case y22=>(have z4:=b.2.2.2;go_simp)
   refine AD 23 40 (A7 .u16 ((P k&&&tk x k:Nat):Int)) rfl (λZ b=>?y23) a ?_
   case y23=>go_simp
   refine AD 24 41 (A7 .u16 (((P k&&&tk x k)<<<1:Nat):Int)) rfl (λZ b=>?y24) a ?_
   case y24=>go_simp
   refine AD 25 42 (A7 .u16 ((IS (st k) (tk x k) (P k):Nat):Int)) rfl (λZ b=>?y25) a ?_
   case y25=>(go_simp;exact O)
   refine AD 26 43 (A9 (Aj ⟨W.heap.size+1+1,k,Ak⟩)) rfl (λZ b=>?y26) a ?_
   case y26=>go_simp
   refine Bc 27 (λK D=>?_);go_simp;refine D.out _ _ F (λ_=>?_);refine Bw ?_;go_simp;go_wp2;go_roundg g
   case measure=>omega
   case rel=>exact⟨k+1,by go_num,by show _=_;have:=j.out;omega,s⟩
def Cn(W:Al)(kt:TypeId)(m n:Nat)(f:Lit->Option Nat):Prop :=
 ∃D:A3,W.ownsMap Ao kt (plainElem Ao 3) m n D/\∀l,Maps.has D l=(f l).isSome/\∀v:Nat,f l=Aj v->D.atKey l (.lit (.int Ah 0))=.lit (.int Ah v)
theorem Cn.kept{kt:TypeId}{row:Option Nat}(h:Cn W kt m n f)(c:W.grownBy W' row)(d:Aj m≠row):Cn W' kt m n f:=by
 obtain⟨D,a,b⟩:=h;exact⟨D,a.kept c d,b⟩
theorem Cn.lt{kt:TypeId}(h:Cn W kt m n f):m<W.heap.size:=by
 obtain⟨D,a,_⟩:=h;exact a.lt
theorem Sa(W:Al)(a:TypeId):Cn (W.alloc (.map #[] 0)) a W.heap.size 0 (λ_=>Ak) :=
 ⟨_,QG W Ao a _,λl=>⟨by simp[Maps.has],λv h=>by cases h⟩⟩
theorem WO(W:Al):(zeroValue 3).run Ao W=.ok (A7 Ah 0) W:=by kernel_rfl
theorem WP{kt:TypeId}{D:A3}(_h1:W.ownsMap Ao kt (plainElem Ao 3) m n D)(a:∀l,Maps.has D l=(f l).isSome/\∀v:Nat,f l=Aj v->D.atKey l (.lit (.int Ah 0))=.lit (.int Ah v))(kl:Lit):D.atKey kl (.lit (.int Ah 0))=.lit (.int Ah (((f kl).getD 0:Nat):Int)):=by
 cases b:f kl with
 |some v=>exact(a kl).2 v b
 |none =>
  have:=(a kl).1;rw[b]at this;exact Maps.atKey_of_not_has this _
theorem NH{kt t:TypeId}(h:Cn W kt m n f)(K:Maps.Keyed Ao kt)(j:prog.underlying t=Aj (.map kt 3))(g:keyOf Ao kt key=Aj kl):(Instr.lookup t (.map (Aj m)) key false).run Ao W=.ok (A7 Ah (((f kl).getD 0:Nat):Int)) W:=by
 obtain⟨D,a,d⟩:=h;obtain⟨c,i,b,_⟩:=a.lookup_int K j underlying3 (WO W) g;rw[WP a d kl]at b;have e:(((f kl).getD 0:Nat):Int)=c:=by simpa using b
 rw[i,e]
theorem Pn{kt t:TypeId}(h:Cn W kt m n f)(K:Maps.Keyed Ao kt)(k:prog.underlying t=Aj (.map kt 3))(i:keyOf Ao kt key=Aj kl):(Instr.lookup t (.map (Aj m)) key true).run Ao W=.ok (Ab #[A7 Ah (((f kl).getD 0:Nat):Int),Ad (f kl).isSome]) W:=by
 obtain⟨D,a,b⟩:=h;obtain⟨v,l,j,d⟩:=a.look_ok K k (WO W) (QW underlying3 (by decide)) i;rw[WP a b kl]at d;obtain⟨c,rfl,g,_⟩:=plainElem_int_inv underlying3 d;have e:(((f kl).getD 0:Nat):Int)=c:=by
  have:=congrArg Prod.fst g;simpa using this
 rw[j,(b kl).1,e]
theorem WQ{kt t:TypeId}(h:Cn W kt m n f)(K:Maps.Keyed Ao kt)(r:prog.underlying t=Aj (.map kt 3))(x:n<1000000000)(i:keyOf Ao kt key=Aj kl)(v:Nat)(y:v<1000000000):∃a,(Instr.mapUpdate t (.map (Aj m)) key (A7 Ah v)).run Ao W=.ok () a/\(∀c:Lit->Option Nat,c kl=Aj v->(∀l,l≠kl->c l=f l)->Cn a kt m (n+1) c)/\W.grownBy a (Aj m):=by
 obtain⟨D,g,k⟩:=h;have w:(Lit.int Ah (v:Int)).wf=true:=by
  have b:IntKind.i64.min = -9223372036854775808:=by kernel_rfl
  have d:IntKind.i64.max=9223372036854775807:=by kernel_rfl
  simp[Lit.wf,b,d];omega
 obtain⟨a,q,p,o⟩:=g.store K r (by unfold maxLen;omega) i (QW underlying3 w);refine⟨a,q,λc b d=>⟨_,p,λl=>?_⟩,o.grown⟩;by_cases e:l=kl
 ·subst e;refine⟨(QJ g.isMap (K.key i) _).trans (by rw[b];rfl),λu j=>?_⟩;have s:=CX (b.symm.trans j);rw[<-s];exact Un g.isMap (K.key i) _ _
 rw[d l e];exact⟨(QF e _).trans (k l).1,λu j=>(Ui e _ _).trans ((k l).2 u j)⟩
theorem Sb:Maps.Keyed Ao 119:=Ux S7
theorem Sc:Maps.Keyed Ao 293:=Ux WG
structure Bi where
 ra:A5
 rc:Nat
 rs:List (List (Nat×A2)×Int×Int)
 dflt:Int
 lm:Nat
 ln:Nat
 lf:Lit->Option Nat
 st:Nat->Nat
 tb:Nat
 L:Nat
 tc:Nat
 tk:Nat->Nat->Nat
 nb:Nat
 mb:Nat
def NI(q:Bi)(sv:Am):A4:=#[A8 q.ra q.rs.length q.rc,A7 Ah q.dflt,.map (Aj q.lm),A7 .u16 (q.st 0),A7 .u16 (q.st 1),A7 .u16 (q.st 2),A7 .u16 (q.st 3),A7 .u16 (q.st 4),A7 .u16 (q.st 5),A7 .u16 (q.st 6),A7 .u16 (q.st 7),A7 .u16 (q.st 8),A7 .u16 (q.st 9),A7 .u16 (q.st 10),A7 .u16 (q.st 11),A7 .u16 (q.st 12),A7 .u16 (q.st 13),A7 .u16 (q.st 14),A7 .u16 (q.st 15),A8 (Aj ⟨q.tb,0,Ak⟩) q.L q.tc,sv,.map (Aj q.nb),.map (Aj q.mb)]
def Jz(x:(Nat->Nat)×Int×Int):List Am:=(AG x.1).toList++[A7 Ah x.2.1,A7 Ah x.2.2]
structure BQ(W0:World)(A:Nat)(q:Bi)(sts:List ((Nat->Nat)×Int×Int))(sv:Value)(nf:Lit->Option Nat)(mn:Nat)(mf:Lit->Option Nat)(W:World):Prop where
 row:W.heap[A]?=some (.cells (NI q sv) 123)
 rules:G5 W0 q.ra q.rs
 few:q.rs.length<=16/\∀i (h:i<q.rs.length),q.rs[i].1.length<=8
 below:A1 W0 W
 letters:Cn W 9 q.lm q.ln q.lf
 takes:∃cur,W.heap[q.tb]?=some (.cells cur 119)/\∀(x r:Nat),x<q.L->r<16->cur[x*16+r]?=some (.int .u16 (q.tk x r))
 states:W.ownsRow W0.heap.size 164 18 sv sts.length (sts.flatMap Jz)
 numbers:Cn W 119 q.nb sts.length nf
 moves:Cn W 293 q.mb mn mf
 high:W0.heap.size<=A/\W0.heap.size<=q.lm/\W0.heap.size<=q.tb/\W0.heap.size<=q.nb/\W0.heap.size<=q.mb
 apart:A≠q.lm/\A≠q.tb/\A≠q.nb/\A≠q.mb/\q.lm≠q.tb/\q.lm≠q.nb/\q.lm≠q.mb/\q.tb≠q.nb/\q.tb≠q.mb/\q.nb≠q.mb
 own:∀g,sv.ownBlock=some g->g≠A/\g≠q.lm/\g≠q.tb/\g≠q.nb/\g≠q.mb
 bits:(∀r,q.st r<256)/\∀x r,q.tk x r<256
 here:∀(i:Nat) (x:(Nat->Nat)×Int×Int),sts[i]?=some x->x.2=Cw q.dflt q.rs x.1 0/\∀r,x.1 r<512
 num:∀(i:Nat) (x:(Nat->Nat)×Int×Int),sts[i]?=some x->∀l,keyOf prog 119 (.agg (AG x.1))=some l->nf l=some i
 num':∀(l:Lit) (i:Nat),nf l=some i->∃x,sts[i]?=some x/\keyOf prog 119 (.agg (AG x.1))=some l
theorem JA{ev:Operand->Am}{o:Oper}(a:TypeId)(x:Operand)(f:o.op=.load a x)(g:Nat)(i:ev x=A9 (Aj ⟨g,0,Ak⟩))(t:TypeId)(cs:A4)(b:Nat×Nat)(d:TypeDesc)(e:W.heap[g]?=Aj (Af cs t b))(h:P.underlying a=Aj d)(c:(match d with|.struct _|.array _ _=>true|_=>false)=true)(hi:(P.info? a).map (·.size)=Aj cs.size):(execOp ev o).run P W=.ok (.value (.agg cs)) W:=by
 unfold execOp;simp only[f,i,Instr.loadAt,Instr.sureAddr,D8,E4,Dl,FZ W g t a cs b d e h c hi]
theorem iV(k:Al)(A:Nat)(q:Bi)(d:List ((Nat->Nat)×Int×Int))(t:Am)(c:Lit->Option Nat)(s:Nat)(r:Lit->Option Nat)(W:Al)(h:BQ k A q d t c s r W)(Y:Nat->Nat)(l:Lit)(o:keyOf Ao 119 (.agg (AG Y))=Aj l)(i:Nat)(hi:c l=Aj i):An Ao 47 #[A9 (Aj ⟨A,0,Ak⟩),.agg (AG Y)] W λe j=>e=.returned (A7 Ah i)/\A1 W j:=by
 have f:Hid ((W.alloc (Af (AG Y) 119)).heap[W.heap.size]?=Aj (Af (AG Y) 119)):=Ay _ _;have n:=At h.row;have m:W.cell? ⟨A,21,Ak⟩=Aj (.map (Aj q.nb)):=Ar h.row 21;have g:=Ap (h.numbers.kept (Hh W (Af (AG Y) 119) Ak) (by simp));go_enter func47,ntmps47;go_wp2;have a:(λZ:Al=>Z.cell? ⟨A,21,Ak⟩=Aj (.map (Aj q.nb))/\Z.heap[W.heap.size]?=Aj (Af (AG Y) 119)/\Cn Z 119 q.nb d.length c) {W.alloc (Af (AG Y) 119)with drawn:=(W.alloc (Af (AG Y) 119)).drawn+1}:=⟨((((AT W.heap.size W).alloc (AB _) (Af (AG Y) 119)).cell (p:=⟨A,21,Ak⟩) n).trans m :),f,g⟩
 refine Dr (S:=λZ=>Z.cell? ⟨A,21,Ak⟩=Aj (.map (Aj q.nb))/\Z.heap[W.heap.size]?=Aj (Af (AG Y) 119)/\Cn Z 119 q.nb d.length c) (by kernel_rfl) ?_;refine Au 0 10 (A9 (Aj ⟨A,0,Ak⟩)) a ?_;refine Au 1 11 (A9 (Aj ⟨A,0,Ak⟩)) a ?_;refine Au 2 12 (A9 (Aj ⟨A,21,Ak⟩)) a ?_;refine AD 3 13 (.map (Aj q.nb)) rfl (λZ b=>?y3) a ?_
 case y3=>(have v:=b.1;go_simp)
 refine AD 4 14 (.agg (AG Y)) rfl (λZ b=>?y4) a ?_
 case y4=>exact JA 119 (.tmp 3) rfl W.heap.size rfl _ _ _ _ b.2.1 underlying119 rfl (DU Y)
 refine AD 5 15 (Ab #[A7 Ah i,Ad true]) rfl (λZ b=>?y5) a ?_
 case y5=>(have u:=Pn b.2.2 Sb underlying115 o;rw[hi]at u;go_simp)
 refine Au 6 9 (Ab #[A7 Ah i,Ad true]) a ?_;refine Au 7 16 (A7 Ah i) a ?_;refine Au 8 17 (Ad true) a ?_;refine Au 9 5 (A7 Ah i) a ?_;refine Au 10 6 (Ad true) a ?_;refine Bw ?_;go_simp;go_wp2;go_ret;exact⟨rfl,(AH).drew⟩
theorem X5(c:UInt8):∀l:A2,(Lib.index l [c] = -1/\B8 c l=[l])\/∃a r,l=a++c::r/\Lib.index l [c]=a.length/\B8 c l=a::B8 c r
 |[]=>LQ ⟨rfl,rfl⟩
 |x::r=>by
  by_cases e:x=c
  ·subst e;right;exact⟨[],r,rfl,by simp[Lib.index],by simp[B8]⟩
  have g:([c].isPrefixOf (x::r))=false:=by simp[List.isPrefixOf,Ne.symm e]
  have f:(x==c)=false:=by simp[e]
  rcases X5 c r with⟨b,d⟩|⟨a,q,b,d,h⟩
  ·left;refine⟨?_,?_⟩
   ·unfold Lib.index;rw[g,b];rfl
   unfold B8;rw[f,d];rfl
  right;refine⟨x::a,q,by rw[b];rfl,?_,?_⟩
  ·unfold Lib.index;rw[g,d];have:((a.length:Int) == -1)=false:=by rw[Dq];omega
   rw[this];simp
  rw[B8,f,h];rfl
theorem JD(c:UInt8)(l:A2):(Lib.cut l [c]=(l,[],false)/\B8 c l=[l])\/∃a r,Lib.cut l [c]=(a,r,true)/\l=a++c::r/\B8 c l=a::B8 c r:=by
 rcases X5 c l with⟨b,d⟩|⟨a,r,b,d,e⟩
 ·left;refine⟨?_,d⟩;unfold Lib.cut;rw[b,Aq (by omega)]
 right;refine⟨a,r,?_,b,e⟩;unfold Lib.cut;rw[d,As (by omega)];simp[b]
def Pv(n:Nat)(l:A2):Bool :=
 Dh (Lib.cut l [32]).1&&(EO (Lib.cut (Lib.cut l [32]).2.1 [32]).1 n&&CZ ⟨(Lib.cut (Lib.cut l [32]).2.1 [32]).2.1.toArray⟩ != 0)
theorem Sm(l:A2):CZ ⟨l.toArray⟩=if l==[100,114,111,112]then 1 else if l==[109,97,115,107]then 2 else if l==[116,97,103]then 3 else 0:=by
 unfold CZ;rw[EJ]
theorem X6(a r:A2):CZ ⟨(a++32::r).toArray⟩=0:=by
 have b:(32:UInt8)∈a++32::r:=by simp
 rw[Sm];generalize a++32::r=l at *;rw[Aq (by intro h;rw[KM h]at b;revert b;decide),Aq (by intro h;rw[KM h]at b;revert b;decide),Aq (by intro h;rw[KM h]at b;revert b;decide)]
theorem X7(n:Nat)(l:A2):Pv n l=BA n l:=by
 unfold Pv BA;rcases JD 32 l with⟨g,h⟩|⟨a,r,g,_,h⟩
 ·rw[g,h];rcases JD 32 []with⟨c,f⟩|⟨a,r,_,c,_⟩
  ·simp[c,EO,Ki]
  simp at c
 rw[g,h];rcases JD 32 r with⟨c,f⟩|⟨b,q,c,_,f⟩
 ·rw[c,f];have:CZ ⟨([]:A2).toArray⟩=0:=by rw[Sm];rfl
  simp[this,Ki]
 rw[c,f];rcases JD 32 q with⟨j,i⟩|⟨d,e,j,i,k⟩
 ·rw[i];rfl
 rw[k,WR (by have:=Um.2 (Sd 32 e);simp only[Bq];omega),i];simp[X6]
end
section
open Go.RowKit Go.Deep
theorem ky{m:Nat->Nat->Bool}(h:∀i j,i<n->j<n->m i j=m' i j):Fa n m = !GW n m':=by
 cases c:Fa n m
 ·symm;rw[Bool.not_eq_false'];refine Xt (λa b d e=>?_);cases l:FR n m' a b
  ·rfl
  exfalso;unfold FR at l;simp only[Ch,OD,Dq]at l;obtain⟨_,⟨r,f⟩,g⟩:=l;rw[<-h a b d e]at f;rw[<-h b a e d]at g;rcases Nat.lt_or_ge b a with o|q
  ·have:=Rd (m:=m) d o (by unfold Ia;rw[f,g];rfl);rw[c]at this;cases this
  have:=Rd (m:=m) e (show a<b by omega) (by unfold Ia;rw[f,g];rfl);rw[c]at this;cases this
 symm;rw[OD];unfold Fa at c;rw[I6]at c;obtain⟨a,d,c⟩:=c;rw[I6]at c;obtain⟨b,e,c⟩:=c;have k:=BT.1 d;have p:=BT.1 e;unfold Ia at c;simp only[Ch]at c;refine Xs (a:=a) (b:=b) k (by omega) ?_;unfold FR;rw[<-h a b k (by omega),<-h b a (by omega) k,c.1,c.2,Dq.2 (show a≠b by omega)];simp
theorem Xw(m:Nat->Nat->Bool)(a b k:Nat):C5 m a b k=C5 m b a k:=by unfold C5;exact QU _ _
theorem Xx(n:Nat)(m:Nat->Nat->Bool)(a b:Nat):Dm n m a b=Dm n m b a:=by
 unfold Dm;congr 1;funext j;unfold CY;rw[Xw];congr 2;funext k;rw[Xw]
theorem Xy{m:Nat->Nat->Bool}{a:Nat}(c:a<n)(d:m a a=true):Dm n m a a=true:=by
 refine OQ c (OP (by unfold C5;rw[d];rfl) (λk _ b=>?_));unfold C5 at b;simp only[Ch]at b;exact b.1
theorem kz{m:Nat->Nat->Bool}(h:∀i j,i<n->j<n->m i j=m' i j)(l:∀i,i<n->m' i i=true):FM n m=GX n m':=by
 have k:∀a b,a<n->b<n->GK n m a b=ES n m' a b:=λa b c e=>by
  unfold GK ES;rw[Rf h c e,Rf (λi j q r=>h j i r q) c e]
 have t:∀a b,ES n m' a b=ES n m' b a:=λa b=>by
  unfold ES;rw[Xx,Xx n (λi j=>m' j i)]
 have u:∀a,a<n->ES n m' a a=true:=λa c=>by
  unfold ES;rw[Xy c (l a c),Xy (m:=λi j=>m' j i) c (l a c)];rfl
 cases d:FM n m
 ·symm;unfold FM at d;rw[F7]at d;obtain⟨a,c,d⟩:=d;rw[KH,F7]at d;obtain⟨b,e,d⟩:=d;have f:=BT.1 c;have v:=BT.1 e;exact Sr (a:=a) (b:=b) f (by omega) (by rw[<-k a b f (by omega)];exact KH _▸d)
 symm;refine Xu (λa b c e=>?_);have g:∀a b,a<n->b<a->ES n m' a b=true:=λa b c e=>by
  rw[<-k a b c (by omega)];exact D7.1 (D7.1 d a (BT.2 c)) b (BT.2 e)
 rcases Nat.lt_trichotomy a b with s|o|p
 ·rw[t];exact g b a e s
 ·subst o;exact u a c
 exact g a b c p
end
end Go.Proofs.YtoegnhgofkhbnaaGreatDoor
