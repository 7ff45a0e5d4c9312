import Derived.Laws.ResultCell
import Derived.Deep.OwnRows
import Derived.Defers
import Derived.DeepKeys5
import Derived.Maps.Keyed
import Derived.Test.YtnlnjkggkbbdhaaGreatDoorTq02
import Derived.Test.YtnlnjkggkbbdhaaGreatDoorTq01
set_option maxRecDepth 100000
set_option maxHeartbeats 8000000
set_option linter.all false
namespace Go.Proofs.YtnlnjkggkbbdhaaGreatDoor
open Go.Proofs.Tryz
open Go.Value renaming int->I,slice->G
open Option renaming some->U,none->Y
open Go.IntKind renaming i64->K
open Go renaming World->O
open Go.Obj renaming cells->E
open Go.Proofs.Tryz renaming prog->X
open Go.Value renaming pointer->A8,string->A9,tuple->Aa,agg->Ab,bool->Ac
open Go.Ending renaming returned->Af
open Go renaming World->Ak,Value->Al,Calls->Am
variable{P:Program}{fn:Func}{V W W' W0 w:O}{a:Act}{L:List (Int×Int)}{N b fuel g k n so st x:Nat}{S:Nat->Bool}{fv:Al}{s s':BO}{R:Ending->O->Prop}{ops:Array Oper}{Q:Exit->Act->O->Prop}{md:Region.Mode}
section
open Go.RowKit
def Ht{p u:Tmp}{ty:TypeId}(h:fn.results=#[.cell p ty,.tmp u])(a:A3)(w:O)(g:Nat)(t:TypeId)(cs:A3)(b:Nat×Nat)(d:TypeDesc)(f:a.getD p undef=A8 (U ⟨g,0,Y⟩))(e:w.heap[g]?=U (E cs t b))(i:P.underlying ty=U d)(c:(match d with|.struct _|.array _ _=>true|_=>false)=true)(hi:(P.info? ty).map (·.size)=U cs.size)(v:Al)(j:a.getD u undef=v):(results fn a).run P w=.ok (Aa #[.agg cs,v]) w:=by
 subst j;rw[results_cell_tmp h,f];simp only[asAddr,Fq,EA,I5 w g t ty cs b d e i c hi]
structure FR(w:World)(a:A4)(L:List (Int×Int)):Prop where
 at_:∀i (h:i<L.length),∃b off,a=some ⟨b,off,none⟩/\b<w.heap.size/\w.cell? ⟨b,off+i*2,none⟩=some (.int .i64 L[i].1)/\w.cell? ⟨b,off+i*2+1,none⟩=some (.int .i64 L[i].2)
def FR.below{w':O}{a:A4}(h:FR w a L)(hb:A0 w w'):FR w' a L :=
 ⟨λi g=>by
  obtain⟨b,off,f,c,d,e⟩:=h.at_ i g;exact⟨b,off,f,CA c hb.size,(hb.cell (p:=⟨b,_,Y⟩) c).trans d,(hb.cell (p:=⟨b,_,Y⟩) c).trans e⟩⟩
def FE(n:Nat)(e:Int×Int):Bool:=CE n e.1&&CE n e.2 && !(e.1==e.2)
def JM(k:Nat):Nat->Nat->Bool:=λi j=>decide (i=j/\i<k)
def f9(k:Nat):Gw (JM k) k k true=JM (k+1):=by
 funext i j;unfold Gw JM;by_cases c:i=k/\j=k
 ·obtain⟨rfl,rfl⟩:=c;simp
 rw[Bz c];exact IJ.2 J
def fb:JM 0=λ_ _=>false:=by funext i j;simp[JM]
def Ji(m:Nat->Nat->Bool)(e:Int×Int):Nat->Nat->Bool:=Gw m e.1.toNat e.2.toNat true
def Io(n:Nat)(L:List (Int×Int)):Nat->Nat->Bool:=L.foldl Ji (JM n)
def ff(n:Nat)(L:List (Int×Int))(k:Nat)(h:k<L.length):Io n (L.take (k+1))=Ji (Io n (L.take k)) L[k]:=by
 unfold Io;rw[So h,SF];rfl
def Ek(n:Nat)(L:List (Int×Int)):Bool:=L.all (FE n)
def Nw(h:k<L.length)(e:FE n L[k]=false):Ek n L=false:=by
 unfold Ek;rw[Gv];exact⟨L[k],Kd h,by rw[e];decide⟩
def WX(h:∀k (h:k<L.length),FE n L[k]=true):Ek n L=true:=by
 unfold Ek;rw[E8];intro x b;obtain⟨k,a,rfl⟩:=KO b;exact h k a
def E9(c:Int)(L:List (Int×Int)):Bool:=decide (1<=c/\c<=6/\L.length<=30)&&Ek c.toNat L
def CU(n:Nat)(L:List (Int×Int)):Nat->Nat->Bool:=Gc n n (Io n L)
def OR(n:Nat)(L:List (Int×Int)):Al:=if Ek n L then Aa #[.agg (Cp n (CU n L)),Ac true]else Aa #[.agg C2,Ac false]
def Qx(h:Ek n L=false):OR n L=Aa #[.agg C2,Ac false]:=by unfold OR;rw[h];rfl
def WY(h:Ek n L=true):OR n L=Aa #[.agg (Cp n (CU n L)),Ac true]:=by unfold OR;rw[h];rfl
def DB.trans{M:Nat->Nat->Bool}(h:DB w W b n M)(k:A0 W W'):DB w W' b n M:=by
 have a:b<W.heap.size:=BC h.own;exact⟨h.below.trans (k.mono J),(k.block b a).trans h.own⟩
def DB.lt{M:Nat->Nat->Bool}(h:DB w W b n M):b<W.heap.size:=BC h.own
def DB.alloc{M:Nat->Nat->Bool}(h:DB w W b n M)(o:Obj):DB w (W.alloc o) b n M:=h.trans ((C5 _ _).alloc (BM _) o)
def fg(c:Int)(L:List (Int×Int))(a:A4)(f:Nat)(i:L.length<=maxLen)(w:O)(j:¬(1<=c/\c<=6/\L.length<=30)):Am X 81 #[I K c,G a L.length f] w λe k=>e=Af (Aa #[.agg C2,Ac false])/\A0 w k:=by
 unfold maxLen at i;have b:Hid ((w.alloc (E C2 84)).heap[w.heap.size]?=U (E C2 84)):=BI _ _;have d:Hid (C2.size=C2.size):=rfl;have key:c<1\/(1<=c/\6<c)\/(1<=c/\c<=6/\(30:Int)<L.length):=J
 clear j;rcases key with h|⟨h,g⟩|⟨h,g,l⟩
 all_goals
  go_enter func81,ntmps81
  go_wp2_with(first
   |(refine I9 Z Z _ Z w.heap.size Z ?_)
   |(refine Gb Z 84 _ Z _ Z _ [] ?hl Mx ?_;case hl=>simp)
   |(refine Co Z 84 _ _ Z _ _ Z Z 84 C2 b (CW (Cr _ _)) d (Hr _ _) ?_;rw[FP]))
  refine Cc (Ht results81 _ _ w.heap.size 84 C2 (0,0) _ Z b underlying84 Z (CW (Cr _ _)) (Ac false) Z) Z ⟨Z,BN⟩
def fh(w:O)(n:Nat):DB (w.alloc (E C2 84)) (((w.alloc (E C2 84)).alloc (E C2 84)).setRow (w.heap.size+1) (Cp n λ_ _=>false)) (w.heap.size+1) n (JM 0):=by
 refine⟨CF ((C5 _ _).alloc Az _) (BM _) _,?_⟩;rw[fb];refine Ca _ _ C2 _ 84 (0,0) ?_;have:=BI (w.alloc (E C2 84)) (E C2 84);rwa[BU]at this
def WZ(n:Nat)(h1:1<=n)(hn:n<=6)(L:List (Int×Int))(a:A4)(ai:Nat)(hL:L.length<=30)(w:O)(hE:FR w a L):Am X 81 #[I K n,G a L.length ai] w λe w'=>e=Af (OR n L)/\A0 w w':=by
 have HE:Hid (FR w a L):=hE;clear hE;have d:Hid ((w.alloc (E C2 84)).heap[w.heap.size]?=U (E C2 84)):=BI _ _;have HH:Hid (((w.alloc (E C2 84)).alloc (E C2 84)).heap[w.heap.size+1]?=U (E C2 84)):=by
  have:=BI (w.alloc (E C2 84)) (E C2 84);rw[BU]at this;exact this
 have HZ:Hid (C2.size=(Cp n λ_ _=>false).size):=Bf
 have P:=fh w n;have m:Hid (A0 w (w.alloc (E C2 84))):=BN;have an:Hid ((w.alloc (E C2 84)).heap.size=w.heap.size+1):=ke1
 generalize hW:((w.alloc (E C2 84)).alloc (E C2 84)).setRow (w.heap.size+1) (Cp n λ_ _=>false)=W at P;have b:Hid (_=W):=hW;clear hW;have ab:Hid (DB (w.alloc (E C2 84)) W (w.heap.size+1) n (JM 0)):=P;clear P;go_enter func81,ntmps81
 go_wp2_with(first
  |(refine I9 Z Z _ Z w.heap.size Z ?_)
  |(refine I9 Z Z _ Z (w.heap.size+1) ?hN ?_;case hN=>(simp only[BU,A0];done))
  |(refine Gb Z 84 _ Z _ Z _ [(0,I K n)] ?hl (WP n) ?_;case hl=>simp[go_sem])
  |(refine Co Z 84 _ _ Z _ _ Z Z 84 C2 HH (CW (Cr _ _)) HZ (Hr _ _) ?_;rw[b.out]))
 clear b HH HZ;generalize w.alloc (E C2 84)=W0 at *
 go_loopg[25,7] n (λg x y wr=>∃k:Nat,Hid (k+g=n)/\x=I K k/\Hid (DB W0 wr (w.heap.size+1) n (JM k)))
 case atStart=>exact⟨0,AD,rfl,ab⟩
 case round =>
  clear ab;obtain⟨k,C,rfl,o⟩:=hrel
  cases gk with
  |succ g =>
   have ag:(k:Int)<n:=Ao C.out
   have D:k<6:=J
   have A:=o.at_ D D;have c2:=o.frozen (1+k*6+k);generalize JM k k k=v0 at A;go_wp2;go_roundg g
   case measure=>omega
   case rel=>exact⟨k+1,Ap C.out,AE,by have:=o.set D D true;rw[f9]at this;exact this⟩
  |zero =>
   have ag:¬(k:Int)<n:=Ao C.out
   have e:k=n:=Ao C.out
   subst e;go_wp2
   go_loopg[36,9] L.length (λg x y wr=>∃q:Nat,Hid (q+g=L.length)/\x=I K q/\Hid (DB W0 wr (w.heap.size+1) k (Io k (L.take q)))/\Hid (∀i (h:i<L.length),i<q->FE k L[i]=true))
   case atStart=>exact⟨0,AD,rfl,o,λi h hi=>J⟩
   case round =>
    clear o;obtain⟨q,r,rfl,u,N⟩:=hrel
    cases gk with
    |zero =>
     have ak:¬(q:Int)<L.length:=Ao r.out
     have HY:Hid (Ek k L=true):=WX (λi h=>N.out i h (Ao r.out));have aa:Hid (DB W0 wr (w.heap.size+1) k (Io k L)):=by
      have:=u.out;rw[II (Ao r.out)]at this;exact this
     clear u N;have cF:=f8 (w.heap.size+1) k (Io k L) hn wr aa.own
     go_wp2_with(first
      |(go_at_call 114;refine cF.mono ?_;clear cF;rintro e s ⟨rfl,V⟩;have c:Hid (DB W0 s (w.heap.size+1) k (CU k L)):=⟨aa.below.trans V.below,V.own⟩;clear V)
      |(refine C8 Z 84 _ Z _ Z _ _ _ _ c.own underlying84 Z (CW (Cr _ _)) ?_)
      |(refine Co Z 84 _ _ Z _ _ Z Z 84 C2 ((c.below.block _ J).trans d) (CW (Cr _ _)) Bf (Hr _ _) ?_))
     refine Cc (Ht results81 _ _ w.heap.size 84 (Cp k (CU k L)) (0,0) _ Z (Ca _ _ C2 _ _ _ ((c.below.block _ J).trans d)) underlying84 Z (CW (Cr _ _)) (Ac true) Z) Z ⟨by rw[WY HY.out],CF (m.trans (c.below.mono J)) (BM _) _⟩
    |succ g =>
     have ak:(q:Int)<L.length:=Ao r.out
     obtain⟨ao,off,rfl,ag,e1,e2⟩:=(HE.below (m.trans ((u.below.mono J)))).at_ q J;have Q:Hid ((wr.alloc (E #[I K L[q].1,I K L[q].2] 43)).heap[wr.heap.size]?=U (E #[I K L[q].1,I K L[q].2] 43)):=BI _ _;have c:Hid (DB W0 (wr.alloc (E #[I K L[q].1,I K L[q].2] 43)) (w.heap.size+1) k (Io k (L.take q))):=u.alloc _;have f:Hid (FE k L[q]=FE k (L[q].1,L[q].2)):=rfl;have t:Hid (Io k (L.take (q+1))=Ji (Io k (L.take q)) (L[q].1,L[q].2)):=ff k L q J;have A:=Nv _ k (GU k (Io k (L.take q))).count L[q].1 (wr.alloc (E #[I K L[q].1,I K L[q].2] 43));generalize L[q].1=x at *;generalize L[q].2=y at *;generalize Io k (L.take q)=M at *
     go_wp2_with(first
      |(refine C8 Z 84 _ Z _ Z _ _ _ _ c.own underlying84 Z (CW (Cr _ _)) ?_)
      |(refine DL 84 _ Z Z _ Z _ _ _ _ c.own underlying84 Z (CW (Cr _ _)) ?_))
     refine A.mono ?_;clear A;rintro e s ⟨rfl,B⟩;have p:Hid (DB W0 s (w.heap.size+1) k M):=c.trans B;clear c;have c:=p;clear p;have ac:=(BB ((B.block _ Az).trans Q) 0)
     have ad:=(BB ((B.block _ Az).trans Q) 1)
     have v:Hid (s.heap[wr.heap.size]?=U (E #[I K x,I K y] 43)):=(B.block _ Az).trans Q;have c2:=Nv _ k (GU k M).count y s;cases F:CE k x
     ·have l:Hid (Ek k L=false):=Nw (k:=q) J (by rw[f.out];unfold FE;rw[F];rfl);clear F t f
      go_wp2_with(first
       |(refine Gb Z 84 _ Z _ Z _ [] ?hl Mx ?_;case hl=>simp)
       |(refine Co Z 84 _ _ Z _ _ Z Z 84 C2 ((c.below.block _ J).trans d) (CW (Cr _ _)) Z (Hr _ _) ?_))
      refine Cc (Ht results81 _ _ w.heap.size 84 C2 (0,0) _ Z (Ca _ _ C2 _ _ _ ((c.below.block _ J).trans d)) underlying84 Z (CW (Cr _ _)) (Ac false) Z) Z ⟨by rw[Qx l.out],CF (m.trans (c.below.mono J)) (BM _) _⟩
     have z:=T F;clear F
     go_wp2_with(first
      |(refine C8 Z 84 _ Z _ Z _ _ _ _ c.own underlying84 Z (CW (Cr _ _)) ?_)
      |(refine DL 84 _ Z Z _ Z _ _ _ _ c.own underlying84 Z (CW (Cr _ _)) ?_))
     refine c2.mono ?_;clear c2;rintro e w3 ⟨rfl,S⟩;have p:Hid (DB W0 w3 (w.heap.size+1) k M):=c.trans S;clear c;have c:=p;clear p;clear ac ad;have ac:=(BB ((S.block _ (BC v)).trans v) 0)
     have ad:=(BB ((S.block _ (BC v)).trans v) 1)
     cases H:CE k y
     ·have l:Hid (Ek k L=false):=Nw (k:=q) J (by rw[f.out];unfold FE;rw[H,z.out];rfl);clear H t f
      go_wp2_with(first
       |(refine Gb Z 84 _ Z _ Z _ [] ?hl Mx ?_;case hl=>simp)
       |(refine Co Z 84 _ _ Z _ _ Z Z 84 C2 ((c.below.block _ J).trans d) (CW (Cr _ _)) Z (Hr _ _) ?_))
      refine Cc (Ht results81 _ _ w.heap.size 84 C2 (0,0) _ Z (Ca _ _ C2 _ _ _ ((c.below.block _ J).trans d)) underlying84 Z (CW (Cr _ _)) (Ac false) Z) Z ⟨by rw[Qx l.out],CF (m.trans (c.below.mono J)) (BM _) _⟩
     ·have R:Hid (CE k y=true):=H;clear H;cases ah:(x==y)
      ·have l:Hid (FE k L[q]=true):=by show _=_;rw[f.out];unfold FE;rw[R.out,z.out,ah];rfl
       clear f;obtain⟨al,ar⟩:0<=x/\x<k:=CD z;obtain⟨am,au⟩:0<=y/\y<k:=CD R
       go_wp2_with(first
     |(refine C8 Z 84 _ Z _ Z _ _ _ _ c.own underlying84 Z (CW (Cr _ _)) ?_)
     |(refine DL 84 _ Z Z _ Z _ _ _ _ c.own underlying84 Z (CW (Cr _ _)) ?_)
     |(refine Gb Z 84 _ Z _ Z _ [] ?hl Mx ?_;case hl=>simp)
     |(refine Co Z 84 _ _ Z _ _ Z Z 84 C2 ((c.below.block _ J).trans d) (CW (Cr _ _)) Z (Hr _ _) ?_))
       obtain⟨i,rfl⟩:=Nh al;obtain⟨j,rfl⟩:=Nh am;have ae:i<6:=J
       have af:j<6:=J
       have aj:=c.at_ ae af;have ap:=c.frozen (1+i*6+j);generalize M i j=v0 at aj
       go_region
       all_goals go_wp2
       go_roundg g
       case measure=>omega
       case rel =>
        refine⟨q+1,Ap r.out,AE,?_,?_⟩
        ·have:=(c.set ae af true).drew;show DB _ _ _ _ _;rw[t.out];exact this
        intro i' h' aq;by_cases e:i'=q
        ·subst e;exact l
        exact N i' h' J
      ·have l:Hid (Ek k L=false):=Nw (k:=q) J (by rw[f.out];unfold FE;rw[R.out,z.out,ah];rfl);clear t f
       go_wp2_with(first
     |(refine C8 Z 84 _ Z _ Z _ _ _ _ c.own underlying84 Z (CW (Cr _ _)) ?_)
     |(refine DL 84 _ Z Z _ Z _ _ _ _ c.own underlying84 Z (CW (Cr _ _)) ?_)
     |(refine Gb Z 84 _ Z _ Z _ [] ?hl Mx ?_;case hl=>simp)
     |(refine Co Z 84 _ _ Z _ _ Z Z 84 C2 ((c.below.block _ J).trans d) (CW (Cr _ _)) Z (Hr _ _) ?_))
       refine Cc (Ht results81 _ _ w.heap.size 84 C2 (0,0) _ Z (Ca _ _ C2 _ _ _ ((c.below.block _ J).trans d)) underlying84 Z (CW (Cr _ _)) (Ac false) Z) Z ⟨by rw[Qx l.out],CF (m.trans (c.below.mono J)) (BM _) _⟩
end
section
open Go.RowKit Go.Deep
structure Te(arr:A3)(n:Nat)(L:List (Int×Int))(ea:A4)(ecap:Nat):Prop where
 size:arr.size=11
 f0:arr[0]?=some (.int .i64 n)
 f1:arr[1]?=some (.slice ea L.length ecap)
def El{arr:A3}(h:arr.size=11):(prog.info? 25).map (·.size)=U arr.size:=keX
def Nx(arr:A3)(n:Nat)(h:arr[0]?=U (I K n))(a:Int)(w:O):Am X 21 #[.agg arr,I K a] w λe c=>e=Af (Ac (CE n a))/\A0 w c:=by
 go_enter func21,ntmps21;go_wp2
 all_goals go_ret
 ·exact⟨by simp[CE, *],BN⟩
 exact⟨(by have b:¬0<=a:=J;simp[CE,b]),BN⟩
def Ip(n:Nat)(S:Nat->Bool):A3:=((List.range n).map λk=>Ac (S k)).toArray
def OS(n:Nat)(S:Nat->Bool):(Ip n S).size=n:=by simp[Ip]
def OT(n:Nat)(S:Nat->Bool)(k:Nat)(h:k<n):(Ip n S)[k]?=U (Ac (S k)):=by
 simp only[Ip,Wn,Jc];rw[Wt h];rfl
def GV(S:Nat->Bool)(k:Nat):Nat->Bool:=λx=>if x=k then true else S x
def X0(n:Nat)(S:Nat->Bool)(k:Nat):(Ip n S).setIfInBounds k (Ac true)=Ip n (GV S k):=by
 apply SD;intro i;rw[Sq];by_cases b:i<n
 ·rw[OT n (GV S k) i b];by_cases a:k=i
  ·subst a;rw[BA rfl,BA (by rw[OS];exact b)];simp[GV]
  rw[Bz a,OT n S i b];have:¬i=k:=λe=>a e.symm;simp[GV,this]
 have c:(Ip n (GV S k))[i]?=Y:=Ni kfx;have d:(Ip n S)[i]?=Y:=Ni kfx;rw[c,d];by_cases a:k=i
 ·subst a;rw[BA rfl,Bz kfx]
 rw[Bz a]
def fj(n:Nat):madeCells #[Ac false] n=Ip n λ_=>false:=by
 apply SD;intro i;by_cases a:i<n
 ·rw[OT _ _ _ a];simp[madeCells,a,Nat.mod_one]
 have b:(Ip n λ_=>false)[i]?=Y:=Ni kfx;rw[b,Ni (by rw[size_madeCells];omega)]
def Kf(S:Nat->Bool)(e:Int×Int):Nat->Bool:=if S e.1.toNat then GV S e.2.toNat else S
def EL(L:List (Int×Int))(S:Nat->Bool):Nat->Bool:=L.foldl Kf S
def fk(L:List (Int×Int))(S:Nat->Bool)(k:Nat)(h:k<L.length):EL (L.take (k+1)) S=Kf (EL (L.take k) S) L[k]:=by
 unfold EL;rw[So h,SF];rfl
def DM(L:List (Int×Int)):Nat->(Nat->Bool)->Nat->Bool
 |0,S=>S
 |k+1,S=>EL L (DM L k S)
def Dt(a:Nat):Nat->Bool:=GV (λ_=>false) a
def Cb(n:Nat)(L:List (Int×Int))(a b:Nat):Bool:=DM L n (Dt a) b
structure Jj(w W:World)(b n:Nat)(S:Nat->Bool):Prop where
 below:Below b w W
 own:W.heap[b]?=some (.cells (Ip n S) 4)
def Jj.set(h:Jj w W b n S)(k:Nat):Jj w (W.setCell ⟨b,k,Y⟩ (Ac true)) b n (GV S k) :=
 ⟨h.below.setCell (BM _) _,by rw[ET W _ _ _ _ _ h.own,X0]⟩
def Jj.at_(h:Jj w W b n S)(a:k<n):W.cell? ⟨b,k,Y⟩=U (Ac (S k)):=(BB h.own k).trans (OT n S k a)
def Jj.frozen(h:Jj w W b n S)(k:Nat):W.frozen? ⟨b,k,Y⟩=false:=Dx W b k _ _ h.own
def fo(h:Ek n L=true)(c:k<L.length):∃i j:Nat,i<n/\j<n/\L[k].1=(i:Int)/\L[k].2=(j:Int):=by
 have:=E8.1 h L[k] (Kd c);unfold FE at this;simp only[Dw]at this;obtain⟨⟨a,b⟩,_⟩:=this;have d:=CD a;have e:=CD b;exact⟨L[k].1.toNat,L[k].2.toNat,J,J,J,J⟩
def ft(arr:A3)(n:Nat)(L:List (Int×Int))(t:A4)(N:Nat)(H:Te arr n L t N)(hn:n<=6)(hL:L.length<=30)(S:Ek n L=true)(a b:Nat)(V:a<n)(hb:b<n)(w:O)(R:FR w t L):Am X 40 #[.agg arr,I K a,I K b] w λe w'=>e=Af (Ac (Cb n L a b))/\A0 w w':=by
 have Q:=H.f0;have f1:=H.f1;have A:=T S;have z:=T R;have ab:=λw=>run_make_row' (P:=X) 159 4 (Ac false) 1 underlying159 M Z K K n J J w;rw[fj]at ab;have r:Hid ((w.alloc (E arr 25)).heap[w.heap.size]?=U (E arr 25)):=BI _ _;have o:Hid (A0 w (w.alloc (E arr 25))):=BN;have ad:Hid ((w.alloc (E arr 25)).heap.size=w.heap.size+1):=ke1
 have B:Hid (Jj (w.alloc (E arr 25)) ((w.alloc (E arr 25)).alloc (E ((Ip n λ_=>false).setIfInBounds a (Ac true)) 4)) (w.heap.size+1) n (Dt a)):=by
  refine⟨(C5 _ _).alloc Az _,?_⟩;have:=BI (w.alloc (E arr 25)) (E ((Ip n λ_=>false).setIfInBounds a (Ac true)) 4);rw[BU]at this;rw[this,X0];rfl
 have ae:=OT n (λ_=>false) a V;go_enter func40,ntmps40;go_wp2;generalize(w.alloc (E arr 25)).alloc (E ((Ip n λ_=>false).setIfInBounds a (Ac true)) 4)=W1 at *;generalize w.alloc (E arr 25)=W0 at *
 go_loopg[8] n (λg x wr=>∃k:Nat,Hid (k+g=n)/\x=I K k/\Hid (Jj W0 wr (w.heap.size+1) n (DM L k (Dt a))))
 case atStart=>exact⟨0,AD,rfl,B⟩
 case round =>
  obtain⟨k,m,rfl,h⟩:=hrel;have ag:=(BB ((h.below.block _ J).trans r) 0).trans Q
  cases gk with
  |zero =>
   have aa:¬(k:Int)<n:=Ao m.out
   have e:k=n:=Ao m.out
   subst e;have W:=h.at_ hb;have d:Hid (DM L k (Dt a) b=Cb k L a b):=rfl;generalize DM L k (Dt a) b=v0 at W d;go_wp2;go_ret;exact⟨by rw[<-d.out];rfl,o.trans (h.below.mono J)⟩
  |succ g =>
   have aa:(k:Int)<n:=Ao m.out
   go_wp2
   go_loopg[9] L.length (λg x wr=>∃q:Nat,Hid (q+g=L.length)/\x=I K q/\Hid (Jj W0 wr (w.heap.size+1) n (EL (L.take q) (DM L k (Dt a)))))
   case atStart=>exact⟨0,AD,rfl,h⟩
   case round =>
    obtain⟨q,f,rfl,c⟩:=hrel;have ah:=(BB ((c.below.block _ J).trans r) 1).trans f1
    cases gk with
    |zero =>
     have ac:¬(q:Int)<L.length:=Ao f.out
     go_wp2;go_roundg g
     case measure=>omega
     case rel =>
      refine⟨k+1,Ap m.out,AE,?_⟩;have:=c.out;rw[II (Ao f.out)]at this;exact this
    |succ y =>
     have ac:(q:Int)<L.length:=Ao f.out
     obtain⟨i,j,hi,hj,u,v⟩:=fo A (k:=q) J;obtain⟨bb,off,rfl,af,D,F⟩:=(z.below (o.trans (c.below.mono J))).at_ q J;have p:Hid (EL (L.take (q+1)) (DM L k (Dt a))=if EL (L.take q) (DM L k (Dt a)) i then GV (EL (L.take q) (DM L k (Dt a))) j else EL (L.take q) (DM L k (Dt a))):=by
      show _=_;rw[fk L _ q J];unfold Kf;rw[u,v];rfl
     rw[u]at D;rw[v]at F;have s:=c.at_ hi;have C:=c.at_ hj;have cf:=c.frozen j;cases l:EL (L.take q) (DM L k (Dt a)) i
     ·rw[l]at s;have d:Hid (EL (L.take (q+1)) (DM L k (Dt a))=EL (L.take q) (DM L k (Dt a))):=by show _=_;rw[p.out,l];rfl
      go_wp2;go_roundg y
      case measure=>omega
      case rel=>exact⟨q+1,Ap f.out,AE,by show Jj _ _ _ _ _;rw[d.out];exact c⟩
     rw[l]at s;have d:Hid (EL (L.take (q+1)) (DM L k (Dt a))=GV (EL (L.take q) (DM L k (Dt a))) j):=by show _=_;rw[p.out,l];rfl
     generalize EL (L.take q) (DM L k (Dt a)) j=v0 at C;go_wp2;go_roundg y
     case measure=>omega
     case rel=>exact⟨q+1,Ap f.out,AE,by show Jj _ _ _ _ _;rw[d.out];exact c.set j⟩
end
section
open Go.RowKit
def GX(x:Nat)(w:Int):Int:=if(w==1)=true then wrap64 (IntKind.i8.wrap x)else if(w==2)=true then wrap64 (IntKind.i16.wrap x)else if(w==4)=true then wrap64 (wrap32 x)else wrap64 x
def gc(x:Nat)(w:Int)(_hx:x<18446744073709551616)(W:O):Am X 264 #[I .u64 x,I K w] W λe g=>e=Af (I K (GX x w))/\g=W:=by
 obtain⟨R,b⟩:∃R,Hid (GX x w=R):=⟨_,show _=_ from rfl⟩
 rw[b.out];have a:=b.out;unfold GX at a;cases c:(w==1)
 ·rw[c,Bz Ay]at a;cases d:(w==2)
  ·rw[d,Bz Ay]at a;cases f:(w==4)
   ·rw[f,Bz Ay]at a;have b:=T a;go_enter func264,ntmps264;go_wp2;go_ret;rw[<-b.out];exact⟨Z,Z⟩
   rw[f,BA rfl]at a;have b:=T a;go_enter func264,ntmps264;go_wp2;go_ret;rw[<-b.out];exact⟨Z,Z⟩
  rw[d,BA rfl]at a;have b:=T a;go_enter func264,ntmps264;go_wp2;go_ret;rw[<-b.out];exact⟨Z,Z⟩
 rw[c,BA rfl]at a;have b:=T a;go_enter func264,ntmps264;go_wp2;go_ret;rw[<-b.out];exact⟨Z,Z⟩
def DC(so w:Int)(x:Nat)(pos:Int):Except (Int×Int) Int :=
 if(so==5)=true then .ok (GX x w)else if 9223372036854775807<x then .error (10,pos-1)else if(so==6)=true then .ok (-1-(x:Int))else .ok x
def MB{α:Type}(W:Ak)(b:Nat)(s:BO)(val:α->Al)(r:A5 α)(e:Ending)(W':Ak):Prop :=
 BF b W W'/\match r with
 |.ok (x,p)=>e=Af (val x)/\BD W' b {s with pos:=p}
 |.error (en,pl)=>C0 en pl e/\∃p,BD W' b {s with pos:=p}
def X9(W:Ak)(b:Nat)(s:BO)(r:Except (Int×Int) Int)(e:Ending)(W':Ak):Prop :=
 BF b W W'/\match r with
 |.ok z=>e=Af (.int .i64 z)/\BD W' b s
 |.error (en,pl)=>C0 en pl e/\∃p,BD W' b {s with pos:=p}
structure MC(W0:World)(b N:Nat)(fv:Value)(so w:Int)(g:Nat)(s:BO)(W:World):Prop where
 src:BD W b s
 but:BF b W0 W
 box:W.heap[N]?=some (.cells #[.pointer (some ⟨b,0,none⟩),fv] 150)
 hd:W.heap[N+1]?=some (.cells #[.int .i64 so,.int .i64 w,.int .u64 g] 201)
 ne:b<N
def MC.step{so w:Int}(h:MC W0 b N fv so w g s W)(a:BD W' b s')(hb:BF b W W'):MC W0 b N fv so w g s' W' :=
 ⟨a,h.but.trans hb,(hb.block _ (BC h.box) (Ao h.ne)).trans h.box,(hb.block _ (BC h.hd) (Ao h.ne)).trans h.hd,h.ne⟩
def Xa(a:Al)(c w:Int)(g:Nat)(h:BD W b s):MC W b W.heap.size a c w g s ((W.alloc (E #[A8 (U ⟨b,0,Y⟩),a] 150)).alloc (E #[I K c,I K w,I .u64 g] 201)):=by
 have d:A0 W ((W.alloc (E #[A8 (U ⟨b,0,Y⟩),a] 150)).alloc (E #[I K c,I K w,I .u64 g] 201)):=(BN).alloc Az _;refine⟨h.below d,BF.of_below d,?_,?_,(BC h.row)⟩
 ·have:=BI W (E #[A8 (U ⟨b,0,Y⟩),a] 150);rw[<-this];exact(((C5 (W.heap.size+1) (W.alloc (E #[A8 (U ⟨b,0,Y⟩),a] 150))).alloc Az _).block _ J)
 have:=BI (W.alloc (E #[A8 (U ⟨b,0,Y⟩),a] 150)) (E #[I K c,I K w,I .u64 g] 201);rw[BU]at this;exact this
def gd(W:O)(b:Nat)(s:BO)(f:Nat)(d w:Int)(g x:Nat)(p:x<18446744073709551616)(h:BD W b s):Am X 259 #[Ab #[A8 (U ⟨b,0,Y⟩),.func (.func f) #[] #[]],Ab #[I K d,I K w,I .u64 g],I .u64 x] W (X9 W b s (DC d w x s.pos)):=by
 have a:Hid (MC W b W.heap.size (.func (.func f) #[] #[]) d w g s ((W.alloc (E #[A8 (U ⟨b,0,Y⟩),.func (.func f) #[] #[]] 150)).alloc (E #[I K d,I K w,I .u64 g] 201))):=Xa _ d w g h;obtain⟨R,i⟩:∃R,Hid (DC d w x s.pos=R):=⟨_,show _=_ from rfl⟩
 rw[i.out];have c:=i.out;unfold DC at c;have r:=BB a.box 0;have t:=BB a.hd 0;have u:=BB a.hd 1;cases j:(d==5)
 ·rw[j,Bz Ay]at c;by_cases l:9223372036854775807<x
  ·rw[BA l]at c;subst c;have n:=EX _ b s 10 a.src;have o:decide ((9223372036854775807:Int)<x)=true:=Ax
   go_enter func259,ntmps259
   go_wp2_with(first
    |(go_at_call 227;refine n.mono ?_;rintro e q ⟨hF,rfl⟩;obtain rfl:=hF))
   exact⟨Z,a.but,Z,_,a.src⟩
  rw[Bz l]at c;have o:decide ((9223372036854775807:Int)<x)=false:=Ax
  cases k:(d==6)
  ·rw[k,Bz Ay]at c;subst c;go_enter func259,ntmps259;go_wp2;go_ret;exact⟨a.but,Z,a.src⟩
  rw[k,BA rfl]at c;subst c;go_enter func259,ntmps259;go_wp2;go_ret;exact⟨a.but,Z,a.src⟩
 rw[j,BA rfl]at c;subst c;have m:=λV=>gc x w p V;go_enter func259,ntmps259
 go_wp2_with(first
  |(go_at_call 264;refine(m _).mono ?_;rintro e q ⟨rfl,rfl⟩))
 go_ret;exact⟨a.but,Z,a.src⟩
def D4(bs:A1)(lim:Int):Nat->Nat->Nat->A5 Nat
 |0,p,a=>.ok (a,p)
 |k+1,p,a=>match bs[p]? with
  |none=>.error (9,p)
  |some c=>if(p:Int)=lim then .error (8,p)else D4 bs lim k (p+1) (a*256+c.toNat)
def ge(a c:Nat)(g:a<72057594037927936)(h:c<256):bits .or .u64 ((a:Int)*256) (c:Int)=((a*256+c:Nat):Int):=by
 have d:BitVec.ofInt 64 ((a:Int)*256)=BitVec.ofNat 64 (a*256):=by
  rw[show((a:Int)*256)=((a*256:Nat):Int) by simp];exact Mi ..
 have e:BitVec.ofInt 64 (c:Int)=BitVec.ofNat 64 c:=Mi ..;have f:(BitVec.ofNat 64 (a*256)|||BitVec.ofNat 64 c).toNat=a*256+c:=by
  rw[BitVec.toNat_or,JE,JE,FC J,FC J];have:=Nat.shiftLeft_add_eq_or_of_lt (b:=c) (i:=8) J a;rw[Nk]at this;exact this.symm
 show IntKind.u64.wrap ((BitVec.ofInt 64 ((a:Int)*256)|||BitVec.ofInt 64 (c:Int)).toNat:Int)=_;rw[d,e,f];unfold IntKind.wrap;simp[IntKind.bits,IntKind.signed];omega
def Tj(W:O)(b:Nat)(s:BO)(f:Nat)(q:Int)(w g:Nat)(hw:w<=8)(B:w=0\/g=0)(h:BD W b s):Am X 258 #[Ab #[A8 (U ⟨b,0,Y⟩),.func (.func f) #[] #[]],Ab #[I K q,I K w,I .u64 g]] W (MB W b s (λx:Nat=>I .u64 x) (D4 s.bs s.lim w s.pos g)):=by
 have r:Hid (MC W b W.heap.size (.func (.func f) #[] #[]) q w g s ((W.alloc (E #[A8 (U ⟨b,0,Y⟩),.func (.func f) #[] #[]] 150)).alloc (E #[I K q,I K w,I .u64 g] 201))):=Xa _ q w g h;obtain⟨R,j⟩:∃R,Hid (D4 s.bs s.lim w s.pos g=R):=⟨_,show _=_ from rfl⟩
 rw[j.out];have k1:=BB r.hd 1;have k2:=BB r.hd 2;have u:=T B;clear B h;go_enter func258,ntmps258;go_wp2;clear k1 k2
 go_loopg[5,10] w (λm z aa wr=>∃(k d:Nat),z=I .u64 d/\aa=I K k/\Hid (m+k=w)/\Hid (m=0\/d<256^k)/\Hid (MC W b W.heap.size (.func (.func f) #[] #[]) q w g {s with pos:=s.pos+k} wr)/\Hid (D4 s.bs s.lim m (s.pos+k) d=R))
 case atStart=>exact⟨0,g,rfl,rfl,rfl,by show _\/_;rcases u.out with h|h;exact .inl h;exact .inr J,r,j⟩
 case round =>
  clear r j u;obtain⟨k,d,rfl,rfl,p,t,a,j⟩:=hrel;have kb:=BB a.box 0
  cases gk with
  |zero =>
   have e:k=w:=Ao p.out
   subst e;have n:Hid (R=.ok (d,s.pos+k)):=j.symm;clear j p t kb;go_wp2;go_ret;rw[n.out];exact⟨a.but,Z,a.src⟩
  |succ m =>
   have ab:k<w:=Ao p.out
   have ac:decide ((k:Int)<w)=true:=Ax
   have A:d<256^k:=by rcases t.out with h|h;exact absurd h J;exact h
   have Q:d<72057594037927936:=CA A (C7 (Oy Ay (show k<=7 from J)) Ay);rcases Is a.src with i|i|⟨c,i⟩
   ·have n:Hid (R=.error (9,((s.pos+k:Nat):Int))):=by
     show _=_;rw[<-j.out,D4,Dz (by have:s.pos+k=s.bs.length:=i;omega)]
    have o:=IQ _ b {s with pos:=s.pos+k} a.src i;clear j t p i A
    go_wp2_with(first
     |(go_at_call 226;refine o.mono ?_;rintro e C ⟨hF,l⟩;obtain rfl:=hF))
    rw[n.out];exact⟨Z,a.but.trans (BF.of_below l),Z,_,a.src.below l⟩
   ·have n:Hid (R=.error (8,((s.pos+k:Nat):Int))):=by
     show _=_;have L:((s.pos+k:Nat):Int)=s.lim:=i.2;have N:s.pos+k<s.bs.length:=i.1;rw[<-j.out,D4,C6 N];simp only[];rw[BA L]
    have o:=IR _ b {s with pos:=s.pos+k} a.src i
    go_wp2_with(first
     |(go_at_call 226;refine o.mono ?_;rintro e C ⟨hF,l⟩;obtain rfl:=hF))
    rw[n.out];exact⟨Z,a.but.trans (BF.of_below l),Z,_,a.src.below l⟩
   have S:s.bs[s.pos+k]?=U c:=i.1;have V:¬((s.pos+k:Nat):Int)=s.lim:=i.2;have F:Hid (D4 s.bs s.lim m (s.pos+(k+1)) (d*256+c.toNat)=R):=by
    show _=_;have:=j.out;rw[D4,S]at this;simp only[]at this;rw[Bz V]at this;exact this
   have y:c.toNat<256:=c.toNat_lt;have ho:=ge d c.toNat Q y;have D:Hid (d*256+c.toNat<256^(k+1)):=by show _<_;rw[Jf];omega
   have o:Am X 226 #[A8 (U ⟨b,0,Y⟩)] wr λe v=>e=Af (I .u8 c.toNat)/\BD v b {s with pos:=s.pos+(k+1)}/\BF b wr v:=Ep _ b {s with pos:=s.pos+k} c a.src i
   go_wp2_with(first
    |(go_at_call 226;refine o.mono ?_;rintro e C ⟨rfl,P,l⟩;have H:=T (a.step P l)))
   go_roundg m
   case measure=>omega
   case rel=>exact⟨k+1,d*256+c.toNat,Az,AE,Ap p.out,.inr D,H,F⟩
def It(u:Nat):Nat:=if u=0 then 4 else if u=1 then 6 else if u=2 then 7 else if u=3 then 8 else if u=4 then 9 else if u=5 then 10 else 0
def DT(c:Nat):Nat×Nat×Nat :=
 if c=244 then(2,0,0)else if c=245 then(3,0,0)else if c=246 then(1,0,0)else
 if It (c/32)=0\/27<c%32 then(0,0,0)else if 24<=c%32 then(It (c/32),2^(c%32-24),0)else(It (c/32),0,c%32)
def Ki:List (Nat×Nat):=[(1,0),(0,0),(2,0),(3,0),(7,1),(7,2),(7,4),(0,0),(0,0),(0,0),(0,0),(0,0),(4,1),(4,2),(4,4),(4,8),(5,1),(5,2),(5,4),(5,8),(0,0),(0,0),(0,0),(0,0),(0,0),(8,1),(8,2),(8,4),(9,2),(9,4),(10,2),(10,4)]
def CX(c:Nat):Nat×Nat×Nat :=
 if c<128 then(4,0,c)else if c<144 then(10,0,c-128)else if c<160 then(9,0,c-144)else if c<192 then(8,0,c-160)else
 if c<224 then((Ki.getD (c-192) (0,0)).1,(Ki.getD (c-192) (0,0)).2,0)else(5,0,18446744073709551360+c)
structure GY(W:World):Prop where
 cb:∀u,u<8->W.cell? ⟨0,u,none⟩=some (.int .i64 (It u))
 pk:∀u,u<32->W.cell? ⟨1,u*3,none⟩=some (.int .i64 (Ki.getD u (0,0)).1)/\W.cell? ⟨1,u*3+1,none⟩=some (.int .i64 (Ki.getD u (0,0)).2)/\W.cell? ⟨1,u*3+2,none⟩=some (.int .u64 0)
def Tk(x:Nat×Nat×Nat):A3:=#[.int .i64 x.1,.int .i64 x.2.1,.int .u64 x.2.2]
def MD:(prog.info? 201).map (·.size)=U 3:=M
def Kj(W:O)(cs:A3)(b:cs.size=3)(a:A3)(c:a.getD 2 undef=A8 (U ⟨W.heap.size,0,Y⟩))(h:fn.results=#[.cell 2 201]):(results fn a).run X (W.alloc (E cs 201))=.ok (.agg cs) (W.alloc (E cs 201)) :=
 LF h a _ W.heap.size 201 cs (0,0) _ c (BI _ _) underlying201 rfl (by rw[b];exact MD)
def gh(x:Nat)(c:x<256):bits .and .u8 (x:Int) 31=((x%32:Nat):Int):=by
 have a:BitVec.ofInt 8 (x:Int)=BitVec.ofNat 8 x:=Mi ..;have b:(BitVec.ofNat 8 x&&&BitVec.ofInt 8 31).toNat=x%32:=by
  rw[SK,JE,FC J];exact Wf x 5
 show IntKind.u8.wrap ((BitVec.ofInt 8 (x:Int)&&&BitVec.ofInt 8 31).toNat:Int)=_;rw[a,b];unfold IntKind.wrap;simp[IntKind.bits,IntKind.signed];omega
def gi{u:Nat}(b:¬u=0)(a:((u:Int)==0)=true\/(27:Int)<(x:Int)%32):27<x%32:=by
 rcases a with a|a
 ·exact absurd AO b
 omega
def Kl(W:O)(cs:A3):A0 W (W.alloc (E cs 201)):=BN
def gj(W:O)(x:Nat)(j:x<256)(h:GY W):Am X 61 #[I .u8 x] W λe g=>e=Af (.agg (Tk (DT x)))/\A0 W g:=by
 by_cases b:x=244
 ·subst b;go_enter func61,ntmps61;go_wp2;exact Cc (Kj W _ Z _ Z results61) Z ⟨Z,Kl _ _⟩
 by_cases c:x=245
 ·subst c;go_enter func61,ntmps61;go_wp2;exact Cc (Kj W _ Z _ Z results61) Z ⟨Z,Kl _ _⟩
 by_cases c2:x=246
 ·subst c2;go_enter func61,ntmps61;go_wp2;exact Cc (Kj W _ Z _ Z results61) Z ⟨Z,Kl _ _⟩
 have k:((x:Int)==244)=false:=Ax
 have l:((x:Int)==245)=false:=Ax
 have m:((x:Int)==246)=false:=Ax
 have n:=gh x j;have i:x/32<8:=J
 have d:=h.cb (x/32) i;have o:(W.alloc (E #[I K 0,I K 0,I .u64 0] 201)).cell? ⟨0,x/32,Y⟩=U (I K (It (x/32))):=(Df W _ _ (by rw[d];rfl)).trans d;have f:Hid (DT x=if It (x/32)=0\/27<x%32 then(0,0,0)else if 24<=x%32 then(It (x/32),2^(x%32-24),0)else(It (x/32),0,x%32)):=by
  show _=_;unfold DT;rw[Bz b,Bz c,Bz c2]
 go_enter func61,ntmps61;go_wp2
 all_goals refine Cc (Kj W _ rfl _ rfl results61) rfl ⟨?_,Kl _ _⟩
 all_goals rw[f.out]
 ·rename_i h0
  rw[BA (.inl h0)];rfl
 ·rename_i h0 h1
  rw[BA (.inr (gi h0 h1))];rfl
 ·rename_i h0 h1 h2
  rw[Bz (Ao h1.2),BA J];have e:wrap64 (2^(x%32-24))=((2^(x%32-24):Nat):Int):=by
   have a:x%32-24=0\/x%32-24=1\/x%32-24=2\/x%32-24=3:=Ao h1.2
   rcases a with a|a|a|a<;>rw[a]<;>simp[wrap64]
  rw[e];rfl
 rename_i h0 h1 h2
 rw[Bz (Ao h1.2),Bz J];unfold Tk;simp
def gm(x:Nat)(h:224<=x)(a:x<256):IntKind.u64.wrap (IntKind.i8.wrap (x:Int))=((18446744073709551360+x:Nat):Int):=by
 have e:IntKind.i8.wrap (x:Int)=(x:Int)-256:=by
  unfold IntKind.wrap;simp only[IntKind.bits,IntKind.signed,GS];split<;>rename_i h<;>simp at h<;>omega
 rw[e];unfold IntKind.wrap;simp only[IntKind.bits,IntKind.signed,Qk];rw[Bz Ay];omega
def gn(W:O)(x:Nat)(d:x<256)(h:GY W):Am X 62 #[I .u8 x] W λe w=>e=Af (.agg (Tk (CX x)))/\A0 W w:=by
 by_cases c:x<128
 ·have b:Hid (CX x=(4,0,x)):=by show _=_;unfold CX;rw[BA c]
  have p:decide ((x:Int)<128)=true:=Ax
  have C:IntKind.u64.wrap (x:Int)=x:=Bs
  clear h c d;go_enter func62,ntmps62;go_wp2;refine Cc (Kj W _ Z _ Z results62) Z ⟨?_,Kl _ _⟩;rw[b.out];rfl
 by_cases g:192<=x/\x<224
 ·have b:Hid (CX x=((Ki.getD (x-192) (0,0)).1,(Ki.getD (x-192) (0,0)).2,0)):=by
   show _=_;unfold CX;rw[Bz J,Bz J,Bz J,Bz J,BA J]
  obtain⟨l,m,n⟩:=h.pk (x-192) J;obtain⟨u,z⟩:∃u:Nat,x=192+u:=⟨x-192,J⟩
  subst z;have s:192+u-192=u:=J
  rw[s]at l m n;have D:(W.alloc (E #[I K 0,I K 0,I .u64 0] 201)).cell? ⟨1,u*3,Y⟩=_:=(Df W _ _ (by rw[l];rfl)).trans l;have F:(W.alloc (E #[I K 0,I K 0,I .u64 0] 201)).cell? ⟨1,u*3+1,Y⟩=_:=(Df W _ _ (by rw[m];rfl)).trans m;have H:(W.alloc (E #[I K 0,I K 0,I .u64 0] 201)).cell? ⟨1,u*3+2,Y⟩=_:=(Df W _ _ (by rw[n];rfl)).trans n;have B:u<32:=J
  clear h l m n d c g;go_enter func62,ntmps62;go_wp2
  all_goals refine Cc (Kj W _ rfl _ rfl results62) rfl ⟨?_,Kl _ _⟩
  all_goals rw[b.out,s]
  all_goals rfl
 by_cases c2:x<192
 ·obtain⟨R,b⟩:∃R,Hid (CX x=R):=⟨_,show _=_ from rfl⟩
  rw[b.out];have a:=b.out;unfold CX at a;rw[Bz c]at a;have j:Hid (128<=x/\x<192):=⟨J,c2⟩
  have p:decide ((x:Int)<128)=false:=Ax
  by_cases i:x<144
  ·rw[BA i]at a;have q:decide ((x:Int)<144)=true:=Ax
   have f:=T a.symm;clear a b h d c g c2 i;go_enter func62,ntmps62;go_wp2;refine Cc (Kj W _ Z _ Z results62) Z ⟨?_,Kl _ _⟩;rw[f.out,show((x:Int)-128)%256=((x-128:Nat):Int) by have:=j.1;have:=j.2;omega];rfl
  rw[Bz i]at a;have q:decide ((x:Int)<144)=false:=Ax
  by_cases k:x<160
  ·rw[BA k]at a;have r:decide ((x:Int)<160)=true:=Ax
   have f:=T a.symm;have o:Hid (144<=x):=AL
   clear a b h d c g c2 i k;go_enter func62,ntmps62;go_wp2;refine Cc (Kj W _ Z _ Z results62) Z ⟨?_,Kl _ _⟩;rw[f.out,show((x:Int)-144)%256=((x-144:Nat):Int) by have:=o.out;have:=j.2;omega];rfl
  rw[Bz k,BA c2]at a;have r:decide ((x:Int)<160)=false:=Ax
  have y:decide ((x:Int)<192)=true:=Ax
  have f:=T a.symm;have o:Hid (160<=x):=AL
  clear a b h d c g c2 i k;go_enter func62,ntmps62;go_wp2;refine Cc (Kj W _ Z _ Z results62) Z ⟨?_,Kl _ _⟩;rw[f.out,show((x:Int)-160)%256=((x-160:Nat):Int) by have:=o.out;have:=j.2;omega];rfl
 have b:Hid (CX x=(5,0,18446744073709551360+x)):=by
  show _=_;unfold CX;rw[Bz J,Bz J,Bz J,Bz J,Bz J]
 have p:decide ((x:Int)<128)=false:=Ax
 have q:decide ((x:Int)<144)=false:=Ax
 have r:decide ((x:Int)<160)=false:=Ax
 have y:decide ((x:Int)<192)=false:=Ax
 have A:decide ((x:Int)<224)=false:=Ax
 have t:=gm x J d;have v:=T t;clear h d c g c2 t;go_enter func62,ntmps62;go_wp2;refine Cc (Kj W _ Z _ Z results62) Z ⟨?_,Kl _ _⟩;rw[b.out,v.out];rfl
def BD.same{V':O}{s0:BO}(c:BD W b s0)(q:s.ia=s0.ia)(o:s.bs=s0.bs)(h:BD V b s)(e:∀k,k<W.heap.size->V'.heap[k]?=V.heap[k]?):BD V' b s:=by
 have n:=BC c.row;refine⟨(e b n).trans h.row,λi d=>?_,h.len,h.le⟩;obtain⟨g,off,a,f,j⟩:=h.inp i d;obtain⟨m,t,f1,r,l⟩:=c.inp i (by rw[<-o];exact d);have p:g=m:=by
  rw[q,f1]at a;injection a with a;injection a with a;exact a.symm
 refine⟨g,off,a,f,?_⟩;rw[Im (w:=V) (e g (by rw[p];exact G8 l))];exact j
def To{t t':A3}(h:results fn t=results fn t'):∀(a:List Deferred) (u:FrameMode) (w:O),Leaves P fn t R a u w->Leaves P fn t' R a u w
 |[],.returning,_,H=>by
  unfold Leaves at *;rw[<-h];exact H
 |[],.panicking _,_,H=>H
 |[],.run,_,H=>H
 |_::a,_,_,H=>by
  obtain⟨j,i,g,f,d,k,l,m⟩:=H;refine⟨j,i,g,f,d,k,l,m.mono λe n o b=>?_⟩
  cases e with
  |returned v=>exact To h a _ _ b
  |panicked c=>exact To h a _ _ b
  |outgrown=>exact b
def LQ(f:fn.results=#[.tmp 2])(d:Tmp)(b:d≠2)(v:Al)(c:List PanicEntry)(a:Act)(w:O)(h:bodyPostD P fn R (.panic c) (a.put (U d) v) w):bodyPostD P fn R (.panic c) a w:=by
 refine To (t:=(a.put (U d) v).tmps) ?_ _ _ _ h;unfold results;rw[f];have e:(a.put (U d) v).tmps[2]?.getD undef=a.tmps[2]?.getD undef:=by
  show(a.tmps.setIfInBounds d v)[2]?.getD undef=_;rw[Array.getElem?_setIfInBounds_ne b]
 simp[e]
def OY(a:fn.results=#[.tmp 2])(t:A3)(w:O):(results fn t).run P w=.ok (t.getD 2 undef) w:=by
 unfold results;rw[a];simp
structure Jm(W0:World)(b N M:Nat)(fv:Value)(so w g:Nat)(s:BO)(W:World):Prop where
 src:BD W b s
 but:BF b W0 W
 box:W.heap[N]?=some (.cells #[.pointer (some ⟨b,0,none⟩),fv] 150)
 hd:W.heap[M]?=some (.cells #[.int .i64 so,.int .i64 w,.int .u64 g] 201)
 ne:b<N
 nm:b<M
def Jm.step{M:Nat}{w:Nat}(h:Jm W0 b N M fv so w g s W)(a:BD W' b s')(hb:BF b W W'):Jm W0 b N M fv so w g s' W' :=
 ⟨a,h.but.trans hb,(hb.block _ (BC h.box) (Ao h.ne)).trans h.box,(hb.block _ (BC h.hd) (Ao h.nm)).trans h.hd,h.ne,h.nm⟩
def NG{w:Nat}(c:Nat)(d:BD W b s)(f:BD V b s.next)(a:BF b W V)(i:V.heap[W.heap.size]?=U (E #[A8 (U ⟨b,0,Y⟩),fv] 150))(m:W.heap.size<c)(l:V.heap[c]?=U (E #[I K 0,I K 0,I .u64 0] 201)):Jm W b W.heap.size c fv so w g s.next (V.setRow c #[I K so,I K w,I .u64 g]):=by
 have h:=BC d.row;refine⟨d.same Z Z f (λk e=>CQ _ _ _ _ J),⟨a.os,a.tape,a.output,by simpa using a.size,λk e j=>sx J (a.block k e j)⟩,sx J i,Ca _ _ _ _ _ _ l,h,J⟩
def MN{S:O->Prop}{listed:Array Bool}{o:Oper}(i:Nat)(hi:ops[i]?=U o)(c:Region.ready md ops listed=[i])(h:∀b:Act->O->Prop,Shut (∀a w,S w->(S w->wpAnyH P md ops Q S fuel (listed.setIfInBounds i true) a w)->b a w)->if Region.wanted o (yielded ops a.tmps)=true then Oper.wp P o a w b Q else b (a.put o.dst undef) w):wpAnyH P md ops Q S (fuel+1) listed a w :=
 OI c Az (Np hi h OG)
def Cx{S:O->Prop}{oi:Oper}{listed:Array Bool}(i d:Nat)(v:Al)(hi:ops[i]?=U oi)(b:(Region.noSelect ops&&Region.free md ops listed i&&(Region.ready md ops listed).contains i&&oi.dst==U d&&Region.wanted oi (yielded ops a.tmps))=true)(f:∀c a w,Q (.panic c) (a.put (U d) v) w->Q (.panic c) a w)(k:∀e,S e->(execOp a.eval oi).run P e=.ok (.value v) e)(g:S w)(h:wpAnyH P md ops Q S fuel (listed.setIfInBounds i true) (a.put (U d) v) w):wpAnyH P md ops Q S (fuel+1) listed a w:=by
 simp only[Dw]at b;have j:oi.dst=U d:=ke0
 rw[<-j]at f h;exact D3 hi b.1.1.1.1 b.1.1.1.2 b.1.1.2 f (.inl ⟨b.2,k⟩) g h
def w1(st x:Nat):Nat:=x|||((x&&&st)<<<1)
def IX(st x:Nat):Nat->Bool
 |0=>x.testBit 0
 |k+1=>x.testBit (k+1)||(st.testBit k&&IX st x k)
def U3(st x k:Nat):(w1 st x).testBit k=(x.testBit k||(decide (1<=k)&&(x.testBit (k-1)&&st.testBit (k-1)))):=by
 unfold w1;rw[SO,Wq,SN]
def YN(c:st<256)(d:x<512):w1 st x<512:=by
 have b:x&&&st<2^8:=Mn _ J;have a:(x&&&st)<<<1<2^9:=kf1
 exact SI (n:=9) J a
def lQ(st x:Nat):x<=w1 st x:=Nat.left_le_or
structure MO(P st:Nat->Nat)(n:Nat)(X:Nat->Nat):Prop where
 lo:∀r,r<n->∀k,(P r).testBit k=true->(X r).testBit k=true
 hi:∀r,r<n->∀k,(X r).testBit k=true->IX (st r) (P r) k=true
 off:∀r,n<=r->X r=P r
 lt:∀r,X r<512
def lR(h:x.testBit k=true):IX st x k=true:=by
 cases k with
 |zero=>exact h
 |succ k=>rw[IX,h];rfl
def lS(P st:Nat->Nat)(n:Nat)(a:∀r,P r<512):MO P st n P:=⟨λ_ _ _ h=>h,λ_ _ _ h=>lR h,λ_ _=>rfl,a⟩
def Eg(st X:Nat->Nat)(n:Nat):Nat->Nat:=λr=>if r<n then w1 (st r) (X r)else X r
def MO.step{P st:Nat->Nat}{X:Nat->Nat}(h:MO P st n X)(d:∀r,st r<256):MO P st n (Eg st X n):=by
 refine⟨λr b k a=>?_,λr b k a=>?_,λr b=>?_,λr=>?_⟩
 ·unfold Eg;rw[BA b,U3,h.lo r b k a];rfl
 ·unfold Eg at a;rw[BA b,U3,Mq]at a;rcases a with a|a
  ·exact h.hi r b k a
  simp only[Dw,KQ]at a;obtain⟨c,rfl⟩:∃c,k=c+1:=⟨k-1,J⟩
  rw[Nj]at a;rw[IX,a.2.2,h.hi r b c a.2.1];simp
 ·unfold Eg;rw[Bz J];exact h.off r b
 unfold Eg;by_cases b:r<n
 ·rw[BA b];exact YN (d r) (h.lt r)
 rw[Bz b];exact h.lt r
def MO.done{P st:Nat->Nat}{X:Nat->Nat}(h:MO P st n X)(e:∀r,r<n->w1 (st r) (X r)=X r):∀r,r<n->∀k,(X r).testBit k=IX (st r) (P r) k:=by
 intro r b k;have key:∀k,IX (st r) (P r) k=true->(X r).testBit k=true:=by
  intro k
  induction k with
  |zero=>exact λa=>h.lo r b 0 a
  |succ k g =>
   intro a;rw[IX,Mq]at a;rcases a with a|a
   ·exact h.lo r b _ a
   rw[Dw]at a;have d:(w1 (st r) (X r)).testBit (k+1)=(X r).testBit (k+1):=by rw[e r b]
   rw[U3,Nj,g a.2,a.1]at d;rw[<-d];simp
 cases c:(X r).testBit k with
 |true=>exact(h.hi r b k c).symm
 |false =>
  cases f:IX (st r) (P r) k with
  |true=>rw[key k f]at c;cases c
  |false=>rfl
def Iw(X:Nat->Nat):Nat->Nat
 |0=>0
 |n+1=>Iw X n+X n
def Rb{X:Nat->Nat}(h:∀r,X r<512):∀n,Iw X n<=n*512
 |0=>BM _
 |n+1=>by have:=Rb h n;have:=h n;unfold Iw;omega
def YO{X Y:Nat->Nat}(h:∀r,X r<=Y r):∀n,Iw X n<=Iw Y n
 |0=>BM _
 |n+1=>by have:=YO h n;have:=h n;unfold Iw;omega
def YP{X Y:Nat->Nat}(h:∀r,X r<=Y r):∀n r,r<n->X r<Y r->Iw X n<Iw Y n
 |0,_,hr,_=>absurd hr J
 |n+1,r,hr,hl=>by
  unfold Iw;by_cases e:r=n
  ·subst e;have:=YO h r;omega
  have:=YP h n r J hl;have:=h n;omega
def lT{X Y:Nat->Nat}(h:∀r,r<16->X r=Y r):BR X=BR Y:=by
 unfold BR;congr 1;apply Wu;intro r a;rw[h r AO]
def YR:laidOutB X=true:=M
def few:prog.types.size+2<=10000:=Ox M
def U5:WideMaps.KeyLaw X 132:=deep_law_gate YR few (Ox M) M M
def YS:WideMaps.KeyLaw X 299:=deep_law_gate YR few (Ox M) M M
def m8(x:Nat)(h:x<65536):(Lit.int .u16 (x:Int)).wf=true:=by
 have a:IntKind.u16.min=0:=M
 have b:IntKind.u16.max=65535:=M
 simp[Lit.wf,a,b];omega
def YT{α β:Type}(f:α->Option β)(g:α->β):∀(l:List α),(∀x∈l,f x=U (g x))->l.mapM f=U (l.map g)
 |[],_=>rfl
 |x::l,h=>by
  rw[List.mapM_cons,h x Az,YT f g l (λy a=>h y (by simp[a]))];rfl
def U6(X:Nat->Nat)(j:∀r,X r<65536):∃l,keyOf prog 132 (.agg (BR X))=U l:=by
 obtain⟨d,k⟩:∃d,prog.types.size+1=d+2:=⟨prog.types.size-1,by have:1<=prog.types.size:=Ox M;omega⟩
 have f:prog.keyType 132=true:=M
 have b:prog.cellsOf 132=16:=M
 have g:prog.cellsOf 130=1:=M
 have m:(Value.agg (BR X)).formed prog 132=true:=by
  simp only[Value.formed,underlying132];rw[La,b];rfl
 have n:prog.keyLits (d+2) 132 (BR X).toList=U ((List.range 16).map λi=>[Lit.int .u16 (X i)]).flatten:=by
  have e:(BR X).toList.length=16:=Au (La X)
  unfold Program.keyLits;simp only[underlying132];rw[BA (by rw[e,b]),g];rw[YT _ (λi=>[Lit.int .u16 (X i)]) _ (λi a=>?_)]
  ·rfl
  have a:i<16:=AO
  have c:((BR X).toList.drop (i*1)).take 1=[I .u16 (X i)]:=by
   have h:=Jq X i a;rw[Qr];rw[<-Ka]at h;obtain⟨o,p⟩:=Ja.1 h;rw[G7 o,p];rfl
  rw[c];unfold Program.keyLits;simp only[underlying130];rw[BA ⟨trivial,m8 _ (j i)⟩]
 refine⟨.string (keyBytes ((List.range 16).map λi=>[Lit.int .u16 (X i)]).flatten),?_⟩;unfold keyOf;simp only[underlying132];have e:(Value.agg (BR X)).cells=BR X:=rfl;rw[f,m,k,BA Bk,e,n,Qj]
def YU{X Y:Nat->Nat}(h:BR X=BR Y):∀r,r<16->X r=Y r:=by
 intro r b;have a:=Jq X r b;rw[h,Jq Y r b]at a;injection a with a;injection a with _ a;omega
def MP(X Y:Nat->Nat):Bool:=(List.range 16).all λr=>X r==Y r
def YV{X Y:Nat->Nat}(h:MP X Y=true):∀r,r<16->X r=Y r:=by
 intro r a;have:=E8.1 h r AO;simpa using this
def YW{X Y:Nat->Nat}(h:∀r,r<16->X r=Y r):MP X Y=true:=E8.2 λr a=>by simpa using h r AO
def m9(X a:Nat->Nat)(j:∀r,X r<65536)(l:∀r,a r<65536)(w:O):(Op.equalIn 10000 132 (.agg (BR X)) (.agg (BR a))).run prog w=.ok (MP X a) w:=by
 obtain⟨n,c⟩:=U6 X j;obtain⟨o,g⟩:=U6 a l;obtain⟨b,f,h⟩:=run_equal_deep w (m:=prog.types.size+1) (Ao few) (k:=132) M M c g;have f:(Op.equalIn 10000 132 (.agg (BR X)) (.agg (BR a))).run prog w=.ok b w:=f;have e:b=MP X a:=by
  cases d:MP X a with
  |true =>
   refine h.2 ?_;rw[lT (YV d),g]at c;exact(EB c).symm
  |false =>
   cases b with
   |false=>rfl
   |true =>
    have e:=h.1 Z;subst e;have i:=U5.inj c g;rw[YW (YU (Value.agg.inj i))]at d;cases d
 rw[f,e]
end
section
open Go.RowKit Go.Deep
def mB(arr:A3)(c:Int)(L:List (Int×Int))(a:A4)(b:Nat)(j:arr[0]?=U (I K c))(f1:arr[1]?=U (G a L.length b))(f:L.length<=maxLen)(w:O)(g:¬(1<=c/\c<=6/\L.length<=30)):Am X 20 #[.agg arr] w λe i=>e=Af (Ac false)/\A0 w i:=by
 unfold maxLen at f;have key:c<1\/(1<=c/\6<c)\/(1<=c/\c<=6/\(30:Int)<L.length):=J
 clear g;rcases key with h|⟨h,d⟩|⟨h,d,k⟩
 all_goals
  go_enter func20,ntmps20;go_wp2;go_ret;exact⟨Z,BN⟩
def mC(arr:A3)(n:Nat)(L:List (Int×Int))(V:A4)(ac:Nat)(H:Te arr n L V ac)(h1:1<=n)(hn:n<=6)(hL:L.length<=30)(w:O)(W:FR w V L):Am X 20 #[.agg arr] w λe w'=>e=Af (Ac (Ek n L))/\A0 w w':=by
 have F:=H.f0;have f1:=H.f1;have s:=T (El H.size);have HE:=T W;clear H W;have ab:Hid ((w.alloc (E arr 25)).heap[w.heap.size]?=U (E arr 25)):=BI _ _;have A:Hid (A0 w (w.alloc (E arr 25))):=BN;have aa:Hid ((w.alloc (E arr 25)).heap.size=w.heap.size+1):=ke1
 go_enter func20,ntmps20;go_wp2;generalize w.alloc (E arr 25)=W0 at *
 go_loopg[3,4] L.length (λg x y wr=>∃q:Nat,Hid (q+g=L.length)/\x=I K q/\Below (w.heap.size+1) W0 wr/\Hid (∀i (h:i<L.length),i<q->FE n L[i]=true))
 case atStart=>exact⟨0,AD,rfl,C5 _ _,λi h hi=>J⟩
 case round =>
  obtain⟨q,N,rfl,u,S⟩:=hrel;have P:=T ((u.block _ J).trans ab);have af:=(BB P 1).trans f1;have hz:=u.size;rw[aa.out]at hz
  cases gk with
  |zero =>
   have ad:¬(q:Int)<L.length:=Ao N.out
   have HY:=T (WX (λi h=>S.out i h (Ao N.out)));go_wp2;go_ret;exact⟨by rw[HY.out];rfl,A.trans (u.mono J)⟩
  |succ g =>
   have ad:(q:Int)<L.length:=Ao N.out
   obtain⟨ae,off,rfl,ah,e1,e2⟩:=(HE.below (A.trans (u.mono J))).at_ q J;have Q:Hid ((wr.alloc (E #[I K L[q].1,I K L[q].2] 43)).heap[wr.heap.size]?=U (E #[I K L[q].1,I K L[q].2] 43)):=BI _ _;have c:Hid ((wr.alloc (E #[I K L[q].1,I K L[q].2] 43)).heap[w.heap.size]?=U (E arr 25)):=(BT _ _ _ J).trans P;have m:Hid (FE n L[q]=FE n (L[q].1,L[q].2)):=rfl;have j:=Nx arr n F L[q].1 (wr.alloc (E #[I K L[q].1,I K L[q].2] 43));generalize L[q].1=x at *;generalize L[q].2=y at *;have D:Hid (Below (w.heap.size+1) W0 (wr.alloc (E #[I K x,I K y] 43))):=u.alloc hz _;clear P u;cases v:CE n x
   ·rw[v]at j;have r:Hid (Ek n L=false):=Nw (k:=q) J (by rw[m.out];unfold FE;rw[v];rfl);clear v m
    go_wp2_with(first
     |(refine C8 Z 25 _ Z _ Z _ _ _ _ c underlying25 Z s ?_)
     |(go_at_call 21;refine j.mono ?_;clear j;rintro e z ⟨rfl,d⟩))
    go_ret;exact⟨by rw[r.out];rfl,(A.trans (D.mono J)).trans (d.mono Ax)⟩
   rw[v]at j;have R:=T v;clear v;cases B:CE n y
   ·have r:Hid (Ek n L=false):=Nw (k:=q) J (by rw[m.out];unfold FE;rw[B,R.out];rfl);have t:=T B;clear B m
    go_wp2_with(first
     |(refine C8 Z 25 _ Z _ Z _ _ _ _ c underlying25 Z s ?_)
     |(refine DL 25 _ Z Z _ Z _ _ _ _ c underlying25 Z s ?_)
     |(go_at_call 21;refine j.mono ?_;clear j;rintro e z ⟨rfl,d⟩;have l:=T ((d.block _ Ax).trans c);clear c;have c:=l;clear l;have a:=T ((d.block _ Az).trans Q);have o:=BB a 0;have p:=BB a 1;have c2:=Nx arr n F y z;rw[t.out]at c2)
     |(go_at_call 21;refine c2.mono ?_;clear c2;rintro e w3 ⟨rfl,f⟩;clear o p;have o:=(BB ((f.block _ (BC a)).trans a) 0);have p:=(BB ((f.block _ (BC a)).trans a) 1)))
    have C:=d.size;rw[BU]at C;go_ret;exact⟨by rw[r.out];rfl,((A.trans (D.mono J)).trans (d.mono Ax)).trans (f.mono J)⟩
   have t:=T B;clear B;cases b:(x==y)
   ·have r:Hid (FE n L[q]=true):=by show _=_;rw[m.out];unfold FE;rw[t.out,R.out,b];rfl
    clear m
    go_wp2_with(first
    |(refine C8 Z 25 _ Z _ Z _ _ _ _ c underlying25 Z s ?_)
    |(refine DL 25 _ Z Z _ Z _ _ _ _ c underlying25 Z s ?_)
    |(go_at_call 21;refine j.mono ?_;clear j;rintro e z ⟨rfl,d⟩;have l:=T ((d.block _ Ax).trans c);clear c;have c:=l;clear l;have a:=T ((d.block _ Az).trans Q);have o:=BB a 0;have p:=BB a 1;have c2:=Nx arr n F y z;rw[t.out]at c2)
    |(go_at_call 21;refine c2.mono ?_;clear c2;rintro e w3 ⟨rfl,f⟩;clear o p;have o:=(BB ((f.block _ (BC a)).trans a) 0);have p:=(BB ((f.block _ (BC a)).trans a) 1)))
    have C:=d.size;rw[BU]at C;go_roundg g
    case measure=>omega
    case rel =>
     refine⟨q+1,Ap N.out,AE,(D.trans (d.mono Ax)).trans (f.mono J),?_⟩;intro i' h' ag;by_cases e:i'=q
     ·subst e;exact r
     exact S i' h' J
   have r:Hid (Ek n L=false):=Nw (k:=q) J (by rw[m.out];unfold FE;rw[t.out,R.out,b];rfl);clear m
   go_wp2_with(first
   |(refine C8 Z 25 _ Z _ Z _ _ _ _ c underlying25 Z s ?_)
   |(refine DL 25 _ Z Z _ Z _ _ _ _ c underlying25 Z s ?_)
   |(go_at_call 21;refine j.mono ?_;clear j;rintro e z ⟨rfl,d⟩;have l:=T ((d.block _ Ax).trans c);clear c;have c:=l;clear l;have a:=T ((d.block _ Az).trans Q);have o:=BB a 0;have p:=BB a 1;have c2:=Nx arr n F y z;rw[t.out]at c2)
   |(go_at_call 21;refine c2.mono ?_;clear c2;rintro e w3 ⟨rfl,f⟩;clear o p;have o:=(BB ((f.block _ (BC a)).trans a) 0);have p:=(BB ((f.block _ (BC a)).trans a) 1)))
   have C:=d.size;rw[BU]at C;go_ret;exact⟨by rw[r.out];rfl,((A.trans (D.mono J)).trans (d.mono Ax)).trans (f.mono J)⟩
end
section
open Go.RowKit
def DR(bs:A1)(l:Int):Nat->Nat->Nat
 |0,p=>p
 |g+1,p=>match bs[p]? with
  |none=>p
  |some c=>if(p:Int)<l then(if GW c=true then DR bs l g (p+1)else p)else p
def DI(bs:A1)(k:Nat)(c:UInt8)(a:bs[k]?=U c)(V:O):(Instr.index 9 (A9 ⟨bs.toArray⟩) (I K (k:Int))).run X V=.ok (I .u8 c.toNat) V:=by
 have g:=Cf a;have b:=M5 bs;have f:(0:Int)<=(k:Int)/\(k:Int)<((⟨bs.toArray⟩:ByteArray).size:Int):=by rw[b];omega
 rw[run_index_string (h:=underlying9),dif_pos f];have d:(⟨bs.toArray⟩:ByteArray)[(k:Int).toNat]'(by rw[b];omega)=c:=by
  show bs.toArray[(k:Int).toNat]'Ax=c;have e:=(Ja.1 a).2;simp only[I3,Wr];exact e
 rw[d]
def Oa(W:O)(bs:A1)(fm d l:Int)(i:Nat)(hb:bs.length<=281474976710656)(hi:i<=bs.length):Am X 45 #[M4 bs fm d l,I K i] W λe v=>e=Af (I K (DR bs l (bs.length+1-i) i))/\A0 W v:=by
 obtain⟨R,o⟩:∃R,Hid (DR bs l (bs.length+1-i) i=R):=⟨_,show _=_ from rfl⟩
 rw[o.out];have h:Hid ((W.alloc (E #[A9 ⟨bs.toArray⟩,I K fm,I K d,I K l] 116)).heap[W.heap.size]?=U (E #[A9 ⟨bs.toArray⟩,I K fm,I K d,I K l] 116)):=BI _ _;have b:Hid (A0 W (W.alloc (E #[A9 ⟨bs.toArray⟩,I K fm,I K d,I K l] 116))):=BN;have A:∀(V:O) (k:Nat),Am X 68 #[Ab #[A9 ⟨bs.toArray⟩,I K fm,I K d,I K l],I K k] V λe v=>e=Af (Ac (Cy bs l k))/\A0 V v:=λV k=>RR V bs fm d l k;unfold M4;go_enter func45,ntmps45;go_wp2;generalize W.alloc (E #[A9 ⟨bs.toArray⟩,I K fm,I K d,I K l] 116)=W0 at *
 go_loopg[1] (bs.length+1-i) (λg z wr=>∃k:Nat,z=I K k/\Hid (bs.length+1<=k+g)/\Hid (k<=bs.length)/\Hid (wr.heap[W.heap.size]?=U (E #[A9 ⟨bs.toArray⟩,I K fm,I K d,I K l] 116))/\Hid (A0 W wr)/\Hid (DR bs l g k=R))
 case atStart=>exact⟨i,rfl,AL,hi,h,b,o⟩
 case round =>
  clear h b o;obtain⟨k,rfl,B,C,h,b,o⟩:=hrel;obtain⟨g,rfl⟩:∃g,gk=g+1:=⟨gk-1,Aq B.out C.out⟩
  have Q:=C.out;have s:=BB h 0;have x:=BB h 1;have c2:=BB h 2;have y:=BB h 3;have F:=BC h;have a:=o.out;rw[DR]at a;have f:=A wr k;clear o A
  cases m:bs[k]? with
  |none =>
   rw[m]at a;simp only[]at a;have n:Cy bs l k=false:=by
    unfold Cy;rw[CO (Ao (LC.1 m))];rfl
   rw[n]at f;have q:=T a.symm;clear a m n
   go_wp2_with(first
    |(go_at_call 68;refine f.mono ?_;clear f;rintro e w ⟨rfl,j⟩))
   go_ret;rw[q.out];exact⟨Z,b.trans (j.mono b.size)⟩
  |some c =>
   rw[m]at a;simp only[]at a;have D:=Cf m;have H:Hid (∀V,(Instr.index 9 (A9 ⟨bs.toArray⟩) (I K (k:Int))).run X V=.ok (I .u8 c.toNat) V):=λV=>DI bs k c m V;by_cases t:(k:Int)<l
   ·rw[BA t]at a;have n:Cy bs l k=true:=by
     unfold Cy;rw[CH D,CH t];rfl
    rw[n]at f;have p:=λV=>sd V c;have P:=H.out;cases u:GW c
    ·rw[u]at a p;have q:Hid (R=k):=a.symm;clear a m n u
     go_wp2_with(first
      |(go_at_call 68;refine f.mono ?_;clear f s x c2 y;rintro e w ⟨rfl,j⟩;have r:=(j.block _ F).trans h;have s:=BB r 0)
      |(go_at_call 69;refine(p _).mono ?_;clear p;rintro e N ⟨rfl,rfl⟩))
     go_ret;rw[q.out];exact⟨Z,b.trans (j.mono b.size)⟩
    rw[u]at a p;have L:Hid (DR bs l g (k+1)=R):=a;clear a m n u
    go_wp2_with(first
     |(go_at_call 68;refine f.mono ?_;clear f s x c2 y;rintro e w ⟨rfl,j⟩;have r:=T ((j.block _ F).trans h);have s:=BB r 0)
     |(go_at_call 69;refine(p _).mono ?_;clear p;rintro e N ⟨rfl,rfl⟩))
    go_roundg g
    case measure=>omega
    case rel=>exact⟨k+1,AE,by show _<=_;have:=B.out;omega,D,r,b.trans (j.mono b.size),L⟩
   rw[Bz t]at a;have n:Cy bs l k=false:=by
    unfold Cy;rw[CO t,Qm]
   rw[n]at f;have q:=T a.symm;clear a m n
   go_wp2_with(first
    |(go_at_call 68;refine f.mono ?_;clear f;rintro e w ⟨rfl,j⟩))
   go_ret;rw[q.out];exact⟨Z,b.trans (j.mono b.size)⟩
end
end Go.Proofs.YtnlnjkggkbbdhaaGreatDoor
