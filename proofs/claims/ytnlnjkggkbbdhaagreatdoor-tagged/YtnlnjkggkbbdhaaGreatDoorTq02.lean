import Derived.Lib.ValidLaws
import Derived.Test.YtnlnjkggkbbdhaaGreatDoorTq00
set_option maxRecDepth 100000
set_option maxHeartbeats 8000000
set_option linter.all false
namespace Go.Proofs.YtnlnjkggkbbdhaaGreatDoor
open Go.Proofs.Tryz
open Go.Value renaming int->I,slice->G
open Option renaming some->U,none->Y
open Go.IntKind renaming i64->K
open Go renaming World->O
open Go.Obj renaming cells->E
open Go.Proofs.Tryz renaming prog->X
open Go.Value renaming pointer->A8,tuple->Aa,bool->Ac
open Go.Ending renaming returned->Af
open Go renaming Calls->Am
variable{B a b fuel i j k n:Nat}{m m':Nat->Nat->Bool}{W w w':O}{l:A1}{hi lo:Int}{ss:List (Nat×A1)}{P:Program}{ops:Array Oper}{Q:Exit->Act->O->Prop}{md:Region.Mode}
section
open Go.RowKit
def JL(m:Nat->Nat->Bool)(a b:Nat):Bool:=m a b&&m b a
def Gx(n:Nat)(m:Nat->Nat->Bool):Bool:=(List.range n).any λa=>(List.range a).any λb=>JL m a b
def Tb(c:a<n)(hb:b<a)(h:JL m a b=true):Gx n m=true:=by
 unfold Gx;rw[JI];refine⟨a,CV.2 c,?_⟩;rw[JI];exact⟨b,CV.2 hb,h⟩
def eN(h:∀a b,a<n->b<a->JL m a b=false):Gx n m=false:=by
 unfold Gx;rw[WE];intro a d;rw[JI];rintro⟨b,e,c⟩;rw[h a b (CV.1 d) (CV.1 e)]at c;cases c
def eO(arr:A3)(n:Nat)(m:Nat->Nat->Bool)(H:LK arr n m)(L:n<=6)(w:O):Am X 83 #[.agg arr] w λe D=>e=Af (Ac (Gx n m))/\A0 w D:=by
 have p:=T H.at_;have F:=H.count;clear H;go_enter func83,ntmps83;go_wp2
 go_loopg[7,3] n (λg x y wr=>∃k:Nat,Hid (k+g=n)/\x=I K k/\w.alloc (E arr 84)=wr/\Hid (∀a b,a<k->b<a->JL m a b=false))
 case atStart=>exact⟨0,AD,rfl,rfl,λa b v=>J⟩
 case round =>
  obtain⟨k,j,rfl,rfl,r⟩:=hrel
  cases gk with
  |zero =>
   have B:¬(k:Int)<n:=Ao j.out
   go_wp2;go_ret;exact⟨by rw[eN (λa b v f=>r.out a b (Ao j.out) f)];rfl,BN⟩
  |succ g =>
   have B:(k:Int)<n:=Ao j.out
   have z:k<6:=J
   go_wp2
   go_loopg[11,4] k (λg x y wr=>∃q:Nat,Hid (q+g=k)/\x=I K q/\w.alloc (E arr 84)=wr/\Hid (∀b,b<q->JL m k b=false))
   case atStart=>exact⟨0,AD,rfl,rfl,λb f=>J⟩
   case round =>
    obtain⟨q,h,rfl,rfl,o⟩:=hrel
    cases gk with
    |zero =>
     have C:¬(q:Int)<k:=Ao h.out
     go_wp2;go_roundg g
     case measure=>omega
     case rel =>
      refine⟨k+1,Ap j.out,AE,Z,λa b v f=>?_⟩;by_cases e:a=k
      ·subst e;exact o b (Ao h.out)
      exact r a b J f
    |succ s =>
     have C:(q:Int)<k:=Ao h.out
     have A:q<6:=J
     have t:=p.out k q z A;have u:=p.out q k A z;cases c:m k q
     ·rw[c]at t;have i:=T c;clear c;go_wp2;go_roundg s
      case measure=>omega
      case rel =>
       refine⟨q+1,Ap h.out,AE,Z,λb f=>?_⟩;by_cases e:b=q
       ·subst e;unfold JL;rw[i.out];rfl
       exact o b J
     rw[c]at t;have i:=T c;clear c;cases d:m q k
     ·rw[d]at u;have l:=T d;clear d;go_wp2;go_roundg s
      case measure=>omega
      case rel =>
       refine⟨q+1,Ap h.out,AE,Z,λb f=>?_⟩;by_cases e:b=q
       ·subst e;unfold JL;rw[i.out,l.out];rfl
       exact o b J
     rw[d]at u;have l:=T d;clear d;go_wp2;go_ret;exact⟨by rw[Tb (a:=k) (b:=q) J J (by unfold JL;rw[i.out,l.out];rfl)];rfl,BN⟩
def eP(arr:A3)(n:Nat)(m:Nat->Nat->Bool)(H:LK arr n m)(v:n<=6)(a b:Nat)(t:a<n)(hb:b<n)(w:O):Am X 124 #[.agg arr,I K a,I K b] w λe r=>e=Af (Ac (m a b))/\A0 w r:=by
 have h:=H.at_ a b J J;have j:=H.count;have g:=T (CW H.size);clear H;have o:CE n a=true:=by unfold CE;exact CH J
 have p:CE n b=true:=by unfold CE;exact CH J
 go_enter func124,ntmps124;have l:=BI w (E arr 84);have c:=T l;clear l;have d:=Nv arr n j a (w.alloc (E arr 84));rw[o]at d
 go_wp2_with(first
  |(refine C8 Z 84 _ Z _ Z _ arr _ _ c underlying84 Z g ?_)
  |(refine DL 84 _ Z Z _ Z _ arr _ _ c underlying84 Z g ?_)
  |(go_at_call 82;refine d.mono ?_;clear d;rintro e s ⟨rfl,f⟩;have i:=T ((f.block _ Az).trans c);clear c;have c:=i;clear i;have c2:=Nv arr n j b s;rw[p]at c2;have q:=f.size;rw[BU]at q)
  |(go_at_call 82;refine c2.mono ?_;clear c2;rintro e x ⟨rfl,k⟩;have u:=(BB ((k.block _ J).trans c) (1+a*6+b)).trans h))
 go_ret;exact⟨Z,((BN).trans (f.mono Az)).trans (k.mono J)⟩
def WR(w:O)(g i:Nat)(cs:A3)(h:i≠g):(w.setRow g cs).heap[i]?=w.heap[i]?:=CQ w g i cs h
def CF{a:O}(h:Below B a w){g:Nat}(b:B<=g)(cs:A3):Below B a (w.setRow g cs) :=
 h.trans ⟨rfl,rfl,rfl,Az,λk c=>CQ w g k cs J⟩
structure KV(w W:World)(arr:A3)(n:Nat)(M:Nat->Nat->Bool):Prop where
 below:A0 w W
 box:W.heap[w.heap.size]?=some (.cells arr 84)
 res:W.heap[w.heap.size+1]?=some (.cells C2 84)
 own:W.heap[w.heap.size+1+1]?=some (.cells (Cp n M) 84)
def eQ(w:O)(arr:A3)(n:Nat):KV w ((((w.alloc (E arr 84)).alloc (E C2 84)).alloc (E C2 84)).setRow (w.heap.size+1+1) (Cp n λ_ _=>false)) arr n (λ_ _=>false):=by
 refine⟨CF (((BN).alloc Az _).alloc Ax _) J _,?_,?_,?_⟩
 ·rw[WR _ _ _ _ J,BT _ _ _ Ax,BT _ _ _ Az];exact BI w _
 ·rw[WR _ _ _ _ J,BT _ _ _ Az];have:=BI (w.alloc (E arr 84)) (E C2 84);rwa[BU]at this
 refine Ca _ _ C2 _ 84 (0,0) ?_;have:=BI ((w.alloc (E arr 84)).alloc (E C2 84)) (E C2 84);rwa[BU,BU]at this
def KV.set{arr:A3}{M:Nat->Nat->Bool}(h:KV w W arr n M)(hi:i<6)(a:j<6)(b:Bool):KV w (W.setCell ⟨w.heap.size+1+1,1+i*6+j,Y⟩ (Ac b)) arr n (Gw M i j b) :=
 ⟨h.below.setCell Ax _,(CP W _ _ _ Ax).trans h.box,(CP W _ _ _ Az).trans h.res,
  by rw[ET W _ _ _ _ _ h.own,WO n M i j b hi a]⟩
def KV.drew{arr:A3}{M:Nat->Nat->Bool}(h:KV w W arr n M):KV w W.drew arr n M:=⟨h.below.drew,h.box,h.res,h.own⟩
def EK(n:Nat)(m:Nat->Nat->Bool)(k q:Nat):Nat->Nat->Bool:=λi j=>decide (j<n/\(i<k\/(i=k/\j<q)))&&m j i
def eR(n:Nat)(m:Nat->Nat->Bool):EK n m 0 0=λ_ _=>false:=by
 funext i j;simp[EK]
def eS(n:Nat)(m:Nat->Nat->Bool)(k q:Nat)(a:q<n):Gw (EK n m k q) k q (m q k)=EK n m k (q+1):=by
 funext i j;unfold Gw EK;by_cases h:i=k/\j=q
 ·obtain⟨rfl,rfl⟩:=h;simp[a]
 rw[Bz h];congr 1;exact IJ.2 J
def eT(n:Nat)(m:Nat->Nat->Bool)(k:Nat):EK n m k n=EK n m (k+1) 0:=by
 funext i j;unfold EK;congr 1;exact IJ.2 J
def eU(n:Nat)(m:Nat->Nat->Bool)(i j:Nat)(hi:i<n)(a:j<n):EK n m n 0 i j=m j i:=by
 unfold EK;rw[CH J,GS]
def eV(arr:A3)(n:Nat)(m:Nat->Nat->Bool)(H:LK arr n m)(F:n<=6)(w:O):Am X 115 #[.agg arr] w λe A=>e=Af (.agg (Cp n (EK n m n 0)))/\A0 w A:=by
 have l:=T H.at_;have j:=H.count;have f:=eQ w arr n;have p:Hid ((((w.alloc (E arr 84)).alloc (E C2 84)).alloc (E C2 84)).heap[w.heap.size+1+1]?=U (E C2 84)):=by
  have:=BI ((w.alloc (E arr 84)).alloc (E C2 84)) (E C2 84);rw[BU,BU]at this;exact this
 have s:Hid (C2.size=(Cp n λ_ _=>false).size):=Bf
 generalize hW:(((w.alloc (E arr 84)).alloc (E C2 84)).alloc (E C2 84)).setRow (w.heap.size+1+1) (Cp n λ_ _=>false)=W at f;have o:Hid (_=W):=hW;have u:=(BB f.box 0).trans j;have r:=T f;go_enter func115,ntmps115
 go_wp2_with(first
  |(refine I9 Z Z _ Z (w.heap.size+1) ?hN ?_;case hN=>(simp only[BU,A0];done))
  |(refine I9 Z Z _ Z (w.heap.size+1+1) ?hN ?_;case hN=>(simp only[BU,A0];done))
  |(refine Gb Z 84 _ Z _ Z _ [(0,I K n)] ?hl (WP n) ?_;case hl=>simp[go_sem])
  |(refine Co Z 84 _ _ Z _ _ Z Z 84 C2 p (CW (Cr _ _)) s (Hr _ _) ?_;rw[o.out]))
 go_loopg[11,4] n (λg x y wr=>∃k:Nat,Hid (k+g=n)/\x=I K k/\Hid (KV w wr arr n (EK n m k 0)))
 case atStart=>exact⟨0,AD,rfl,by rw[eR];exact r⟩
 case round =>
  obtain⟨k,c,rfl,a⟩:=hrel;have u:=(BB a.box 0).trans j
  cases gk with
  |zero =>
   have v:¬(k:Int)<n:=Ao c.out
   have e:k=n:=Ao c.out
   subst e
   go_wp2_with(first
    |(refine C8 Z 84 _ Z _ Z _ _ _ _ a.own underlying84 Z (CW (Cr _ _)) ?_)
    |(refine Co Z 84 _ _ Z _ _ Z Z 84 C2 a.res (CW (Cr _ _)) Bf (Hr _ _) ?_))
   refine Cc (LF results115 _ _ (w.heap.size+1) 84 (Cp k (EK k m k 0)) (0,0) _ Z (Ca _ _ C2 _ _ _ a.res) underlying84 Z (CW (Cr _ _))) Z ⟨Z,CF a.below J _⟩
  |succ g =>
   have v:(k:Int)<n:=Ao c.out
   have h:k<6:=J
   go_wp2
   go_loopg[16,5] n (λg x y wr=>∃q:Nat,Hid (q+g=n)/\x=I K q/\Hid (KV w wr arr n (EK n m k q)))
   case atStart=>exact⟨0,AD,rfl,a⟩
   case round =>
    obtain⟨q,d,rfl,b⟩:=hrel
    cases gk with
    |zero =>
     have z:¬(q:Int)<n:=Ao d.out
     go_wp2;go_roundg g
     case measure=>omega
     case rel =>
      have e:q=n:=Ao d.out
      exact⟨k+1,Ap c.out,AE,by have:=b.out;rw[e,eT]at this;exact this⟩
    |succ t =>
     have z:(q:Int)<n:=Ao d.out
     have i:q<6:=J
     have B:=(BB b.box _).trans (l q k i h);have C:=(BB b.own _).trans ((GU n (EK n m k q)).at_ k q h i);have D:=Dx wr (w.heap.size+1+1) (1+k*6+q) _ _ b.own;go_wp2
     go_region
     all_goals go_wp2
     go_roundg t
     case measure=>omega
     case rel=>exact⟨q+1,Ap d.out,AE,by have:=(b.set h i (m q k)).drew;rw[eS n m k q J]at this;exact this⟩
def IM(n:Nat)(m:Nat->Nat->Bool)(a b:Nat):Bool:=EC n m a b&&EC n (λi j=>m j i) a b
def Hs(n:Nat)(m:Nat->Nat->Bool):Bool:=(List.range n).all λa=>(List.range a).all λb=>IM n m a b
def WS(c:a<n)(hb:b<a)(h:IM n m a b=false):Hs n m=false:=by
 unfold Hs;rw[Gv];refine⟨a,CV.2 c,?_⟩;rw[Mp,Gv];exact⟨b,CV.2 hb,kfo⟩
def eW(h:∀a b,a<n->b<a->IM n m a b=true):Hs n m=true:=by
 unfold Hs;rw[E8];intro a c;rw[E8];intro b d;exact h a b (CV.1 c) (CV.1 d)
def Tc(h:∀i j,i<n->j<n->m i j=m' i j)(d:a<n)(hb:b<n)(c:k<n):Dg m a b k=Dg m' a b k:=by
 unfold Dg;rw[h a k d c,h b k hb c]
def WT(h:∀i j,i<n->j<n->m i j=m' i j)(e:a<n)(hb:b<n)(f:k<n):Ed n m a b k=Ed n m' a b k:=by
 unfold Ed;rw[Tc h e hb f];congr 1;rw[OD,E8,E8];constructor
 ·intro g j c;have d:=CV.1 c;rw[<-Tc h e hb d,<-h k j f d];exact g j c
 intro g j c;have d:=CV.1 c;rw[Tc h e hb d,h k j f d];exact g j c
def Td(h:∀i j,i<n->j<n->m i j=m' i j)(d:a<n)(hb:b<n):EC n m a b=EC n m' a b:=by
 unfold EC;rw[OD,JI,JI];constructor
 ·rintro⟨k,c,g⟩;exact⟨k,c,by rw[<-WT h d hb (CV.1 c)];exact g⟩
 rintro⟨k,c,g⟩;exact⟨k,c,by rw[WT h d hb (CV.1 c)];exact g⟩
def eX(arr:A3)(n:Nat)(m:Nat->Nat->Bool)(H:LK arr n m)(B:n<=6)(w:O):Am X 84 #[.agg arr] w λe w'=>e=Af (Ac (Hs n m))/\A0 w w':=by
 have h0:=H.count;have HO:=T H;have v:=T (CW H.size);clear H;have z:=T (BI w (E arr 84));have W:=T ((C5 w.heap.size w).alloc (BM _) (E arr 84));have cT:=eV arr n m HO B (w.alloc (E arr 84));go_enter func84,ntmps84
 go_wp2_with(first
  |(refine C8 Z 84 _ Z _ Z _ arr _ _ z underlying84 Z v ?_)
  |(go_at_call 115;refine cT.mono ?_;clear cT;rintro e c ⟨rfl,s⟩;have D:=s.size;rw[BU]at D)
  |(refine I9 Z Z _ Z c.heap.size Z ?_)
  |(refine Co Z 84 _ _ Z _ _ Z Z 84 C2 (BI c _) (CW (Cr _ _)) Bf (Hr _ _) ?_;rw[FP];have ab:(c.alloc (E (Cp n (EK n m n 0)) 84)).cell? ⟨w.heap.size,0,Y⟩=U (I K n):=(BB ((BT _ _ _ J).trans ((s.block _ Az).trans z)) 0).trans h0))
 have HX:Hid ((c.alloc (E (Cp n (EK n m n 0)) 84)).heap[w.heap.size]?=U (E arr 84)):=(BT _ _ _ J).trans ((s.block _ Az).trans z);have HY:Hid ((c.alloc (E (Cp n (EK n m n 0)) 84)).heap[c.heap.size]?=U (E (Cp n (EK n m n 0)) 84)):=BI _ _;have HZ:Hid ((c.alloc (E (Cp n (EK n m n 0)) 84)).heap.size=c.heap.size+1):=ke1
 have L:Hid (A0 w (c.alloc (E (Cp n (EK n m n 0)) 84))):=(W.trans (s.mono Az)).alloc J _;clear ab s z W;generalize c.alloc (E (Cp n (EK n m n 0)) 84)=W3 at *;have l:Hid (w.heap.size<c.heap.size):=by show _<_;omega
 generalize c.heap.size=N3 at *
 go_loopg[10,4] n (λg x af wr=>∃k:Nat,Hid (k+g=n)/\x=I K k/\Below (N3+1) W3 wr/\Hid (∀a b,a<k->b<a->IM n m a b=true))
 case atStart=>exact⟨0,AD,rfl,C5 _ _,λa b ha=>J⟩
 case round =>
  obtain⟨k,A,rfl,d,HL⟩:=hrel
  cases gk with
  |zero =>
   have ac:¬(k:Int)<n:=Ao A.out
   go_wp2;go_ret;exact⟨by rw[eW (λa b ha t=>HL.out a b (Ao A.out) t)];rfl,L.trans (d.mono (Ao l.out))⟩
  |succ g =>
   have ac:(k:Int)<n:=Ao A.out
   have S:k<6:=J
   go_wp2
   go_loopg[14,5] k (λg x af wr=>∃q:Nat,Hid (q+g=k)/\x=I K q/\Below (N3+1) W3 wr/\Hid (∀b,b<q->IM n m k b=true))
   case atStart=>exact⟨0,AD,rfl,d,λb t=>J⟩
   case round =>
    clear d;obtain⟨q,C,rfl,d,HQ⟩:=hrel
    cases gk with
    |zero =>
     have ad:¬(q:Int)<k:=Ao C.out
     go_wp2;go_roundg g
     case measure=>omega
     case rel =>
      refine⟨k+1,Ap A.out,AE,d,λa b ha t=>?_⟩;by_cases e:a=k
      ·subst e;exact HQ b (Ao C.out)
      exact HL a b J t
    |succ g2 =>
     have ad:(q:Int)<k:=Ao C.out
     have V:q<6:=J
     have P:=T ((d.block _ (Ao l.out)).trans HX);have aa:=T ((d.block _ J).trans HY);have D:=d.size;rw[HZ.out]at D;have h:=Ta arr n m HO B k q S V wr;have u:Hid (EC n (EK n m n 0) k q=EC n (λi j=>m j i) k q):=Td (λi j hi hj=>eU n m i j hi hj) J J;cases o:EC n m k q
     ·rw[o]at h;have r:Hid (IM n m k q=false):=by show _=_;unfold IM;rw[o];rfl
      clear o
      go_wp2_with(first
       |(refine C8 Z 84 _ Z _ Z _ arr _ _ P underlying84 Z v ?_)
       |(go_at_call 116;refine h.mono ?_;clear h;rintro e F ⟨rfl,f⟩))
      go_ret;exact⟨keD,L.trans ((d.mono (Ao l.out)).trans (f.mono (Ao l.out)))⟩
     rw[o]at h;have y:=T o;clear o;cases p:EC n (λi j=>m j i) k q
     ·have r:Hid (IM n m k q=false):=by show _=_;unfold IM;rw[p,y.out];rfl
      have N:=T (u.trans p);clear p u
      go_wp2_with(first
       |(refine C8 Z 84 _ Z _ Z _ arr _ _ P underlying84 Z v ?_)
       |(go_at_call 116;refine h.mono ?_;clear h;rintro e F ⟨rfl,f⟩;have c2:=Ta _ n _ (GU n (EK n m n 0)) B k q S V F;rw[N.out]at c2;have Q:=T ((f.block _ J).trans aa))
       |(refine DL 84 _ Z Z _ Z _ _ _ _ Q underlying84 Z (CW (Cr _ _)) ?_)
       |(go_at_call 116;refine c2.mono ?_;clear c2;rintro e w5 ⟨rfl,R⟩))
      go_ret;have ae:=f.size;exact⟨keD,L.trans ((d.mono (Ao l.out)).trans ((f.mono (Ao l.out)).trans (R.mono (Ao l.out))))⟩
     have r:Hid (IM n m k q=true):=by show _=_;unfold IM;rw[p,y.out];rfl
     have N:=T (u.trans p);clear p u
     go_wp2_with(first
      |(refine C8 Z 84 _ Z _ Z _ arr _ _ P underlying84 Z v ?_)
      |(go_at_call 116;refine h.mono ?_;clear h;rintro e F ⟨rfl,f⟩;have c2:=Ta _ n _ (GU n (EK n m n 0)) B k q S V F;rw[N.out]at c2;have Q:=T ((f.block _ J).trans aa))
      |(refine DL 84 _ Z Z _ Z _ _ _ _ Q underlying84 Z (CW (Cr _ _)) ?_)
      |(go_at_call 116;refine c2.mono ?_;clear c2;rintro e w5 ⟨rfl,R⟩))
     have ae:=f.size;go_roundg g2
     case measure=>omega
     case rel =>
      refine⟨q+1,Ap C.out,AE,d.trans ((f.mono D).trans (R.mono J)),λb t=>?_⟩;by_cases e:b=q
      ·subst e;exact r
      exact HQ b J
def fst(n k:Nat)(m:Nat->Nat->Bool)(l h:Nat):Nat->Nat->Bool:=λi j=>m i j||(decide (j<n/\(i<l\/(i=l/\j<h)))&&(m i k&&m k j))
def Gc(n:Nat):Nat->(Nat->Nat->Bool)->Nat->Nat->Bool
 |0,m=>m
 |k+1,m=>fst n k (Gc n k m) n 0
def eY(n k:Nat)(m:Nat->Nat->Bool):fst n k m 0 0=m:=by
 funext i j;simp[fst]
def eZ(n k:Nat)(m:Nat->Nat->Bool)(l:Nat):fst n k m l n=fst n k m (l+1) 0:=by
 funext i j;unfold fst;congr 2;exact IJ.2 J
def WU(n k:Nat)(m:Nat->Nat->Bool)(l h i:Nat):fst n k m l h i k=m i k:=by
 unfold fst;cases m i k<;>simp
def WV(n k:Nat)(m:Nat->Nat->Bool)(l h j:Nat):fst n k m l h k j=m k j:=by
 unfold fst;cases m k j<;>simp
def f7(n k:Nat)(m:Nat->Nat->Bool)(l h:Nat)(d:h<n)(a:m l k=true)(b:m k h=true):Gw (fst n k m l h) l h true=fst n k m l (h+1):=by
 funext i j;unfold Gw fst;by_cases c:i=l/\j=h
 ·obtain⟨rfl,rfl⟩:=c;simp[d,a,b]
 rw[Bz c];congr 2;exact IJ.2 J
def WW(n k:Nat)(m:Nat->Nat->Bool)(l h:Nat)(e:(m l k&&m k h)=false):fst n k m l h=fst n k m l (h+1):=by
 funext i j;unfold fst;by_cases c:i=l/\j=h
 ·obtain⟨rfl,rfl⟩:=c;rw[e];simp
 congr 2;exact IJ.2 J
structure DB(w W:World)(b n:Nat)(M:Nat->Nat->Bool):Prop where
 below:Below b w W
 own:W.heap[b]?=some (.cells (Cp n M) 84)
def DB.set{M:Nat->Nat->Bool}(h:DB w W b n M)(hi:i<6)(a:j<6)(v:Bool):DB w (W.setCell ⟨b,1+i*6+j,Y⟩ (Ac v)) b n (Gw M i j v) :=
 ⟨h.below.setCell (BM _) _,by rw[ET W _ _ _ _ _ h.own,WO n M i j v hi a]⟩
def DB.count{M:Nat->Nat->Bool}(h:DB w W b n M):W.cell? ⟨b,0,Y⟩=U (I K n):=(BB h.own 0).trans (GU n M).count
def DB.at_{M:Nat->Nat->Bool}(h:DB w W b n M)(hi:i<6)(a:j<6):W.cell? ⟨b,1+i*6+j,Y⟩=U (Ac (M i j)):=(BB h.own _).trans ((GU n M).at_ i j hi a)
def DB.frozen{M:Nat->Nat->Bool}(h:DB w W b n M)(j:Nat):W.frozen? ⟨b,j,Y⟩=false:=Dx W b j _ _ h.own
def DB.drew{M:Nat->Nat->Bool}(h:DB w W b n M):DB w W.drew b n M:=⟨h.below.drew,h.own⟩
def f8(b n:Nat)(m:Nat->Nat->Bool)(S:n<=6)(w:O)(P:w.heap[b]?=U (E (Cp n m) 84)):Am X 114 #[A8 (U ⟨b,0,Y⟩)] w λe Q=>e=Af (Aa #[])/\DB w Q b n (Gc n n m):=by
 have v:Hid (DB w w b n (Gc n 0 m)):=⟨C5 _ _,P⟩
 have z:=v.count;go_enter func114,ntmps114;go_wp2
 go_loopg[9,2] n (λg x y wr=>∃k:Nat,Hid (k+g=n)/\x=I K k/\Hid (DB w wr b n (Gc n k m)))
 case atStart=>exact⟨0,AD,rfl,v⟩
 case round =>
  obtain⟨k,i,rfl,p⟩:=hrel;have z:=p.count
  cases gk with
  |zero =>
   have N:¬(k:Int)<n:=Ao i.out
   go_wp2;go_end0;have e:k=n:=Ao i.out
   exact⟨Z,by have:=p.out;rw[e]at this;exact this⟩
  |succ g =>
   have N:(k:Int)<n:=Ao i.out
   have A:k<6:=J
   go_wp2
   go_loopg[16,3] n (λg x y wr=>∃l:Nat,Hid (l+g=n)/\x=I K l/\Hid (DB w wr b n (fst n k (Gc n k m) l 0)))
   case atStart=>exact⟨0,AD,rfl,by rw[eY];exact p⟩
   case round =>
    obtain⟨l,j,rfl,q⟩:=hrel;have z:=q.count
    cases gk with
    |zero =>
     have L:¬(l:Int)<n:=Ao j.out
     go_wp2;go_roundg g
     case measure=>omega
     case rel =>
      have e:l=n:=Ao j.out
      exact⟨k+1,Ap i.out,AE,by have:=q.out;rw[e]at this;exact this⟩
    |succ F =>
     have L:(l:Int)<n:=Ao j.out
     have u:l<6:=J
     go_wp2
     go_loopg[23,4] n (λg x y wr=>∃h:Nat,Hid (h+g=n)/\x=I K h/\Hid (DB w wr b n (fst n k (Gc n k m) l h)))
     case atStart=>exact⟨0,AD,rfl,q⟩
     case round =>
      obtain⟨h,c,rfl,a⟩:=hrel
      cases gk with
      |zero =>
       have H:¬(h:Int)<n:=Ao c.out
       go_wp2;go_roundg F
       case measure=>omega
       case rel =>
        have e:h=n:=Ao c.out
        exact⟨l+1,Ap j.out,AE,by have:=a.out;rw[e,eZ]at this;exact this⟩
      |succ s =>
       have H:(h:Int)<n:=Ao c.out
       have t:h<6:=J
       have r:=a.at_ u A;have c2:=a.at_ A t;have D:=a.at_ u t;have R:=a.frozen (1+l*6+h);rw[WU]at r;rw[WV]at c2;generalize hM:Gc n k m=M at *;cases d:M l k
       ·rw[d]at r;have o:Hid ((M l k&&M k h)=false):=by show _=_;rw[d];rfl
        go_wp2;go_roundg s
        case measure=>omega
        case rel=>exact⟨h+1,Ap c.out,AE,ke8⟩
       rw[d]at r;cases f:M k h
       ·rw[f]at c2;have o:Hid ((M l k&&M k h)=false):=by show _=_;rw[d,f];rfl
        go_wp2;go_roundg s
        case measure=>omega
        case rel=>exact⟨h+1,Ap c.out,AE,ke8⟩
       rw[f]at c2;have B:=T d;have C:=T f;generalize hV:fst n k M l h l h=v0 at D;go_wp2;go_roundg s
       case measure=>omega
       case rel=>exact⟨h+1,Ap c.out,AE,by have:=a.set u t true;rw[f7 n k M l h J B C.out]at this;exact this⟩
structure IN(w:World)(a:A4)(B:List Int):Prop where
 at_:∀i,i<B.length->∃b off,a=some ⟨b,off,none⟩/\b<w.heap.size/\∀j (h':j<B.length),w.cell? ⟨b,off+j,none⟩=some (.int .i64 B[j])
def IN.below{a:A4}{B:List Int}(h:IN w a B)(hb:A0 w w'):IN w' a B :=
 ⟨λi f=>by
  obtain⟨b,off,e,c,d⟩:=h.at_ i f;exact⟨b,off,e,CA c hb.size,λj g=>(hb.cell (p:=⟨b,_,Y⟩) c).trans (d j g)⟩⟩
def My{a:O}(h:Below B a w)(n:Nat):Below B a (w.drewN n):=h.trans ⟨rfl,rfl,rfl,BM _,λ_ _=>rfl⟩
def Kg(B:List Int)(i:Nat):Int:=if i=0 then 0 else B.getD (i-1) 0
def OU(B:List Int)(i:Nat):Bool:=decide (Kg B i<B.getD i 0/\B.getD i 0<=65536)
def Mz(B:List Int)(i:Nat):Bool:=decide (1<=B.getD i 0/\B.getD i 0<=65536/\(0<i->B.getD (i-1) 0<B.getD i 0))
def Gy(B:List Int):Bool:=decide (B.length<=8)&&(List.range B.length).all (OU B)
def Ge(B:List Int):Bool:=(List.range B.length).all (Mz B)&&decide (B.length<=8)
def fw(B:List Int):Gy B=Ge B:=by
 unfold Gy Ge;rw[SP];congr 1;rw[OD,E8,E8];constructor
 ·intro h i c;have d:∀k,k<B.length->OU B k=true:=λk b=>h k (CV.2 b);have pos:∀k,k<B.length->1<=B.getD k 0:=by
   intro k
   induction k with
   |zero=>intro b;have:=CD (d 0 b);unfold Kg at this;simp only[BA]at this;omega
   |succ k g =>
    intro b;have:=CD (d (k+1) b);unfold Kg at this;rw[Bz J]at this;have:=g J;simp only[Nj]at *;omega
  have e:=CV.1 c;have a:=CD (d i e);have f:=pos i e;refine CH ⟨f,a.2,λj=>?_⟩;unfold Kg at a;rw[Bz J]at a;exact a.1
 intro h i c;have a:=CD (h i c);refine CH ⟨?_,a.2.1⟩;unfold Kg;split
 ·omega
 exact a.2.2 J
def fy(a:A4)(q:Nat)(B:List Int)(t:B.length<=maxLen)(w:O)(s:IN w a B):Am X 52 #[G a B.length q] w λe A=>e=Af (Ac (Gy B))/\A=w:=by
 unfold maxLen at t;have n:=T s;by_cases m:B.length<=8
 ·have r:¬(8:Int)<B.length:=J
  go_enter func52,ntmps52;go_wp2
  go_loopg[11,3,5] B.length (λg x y z wr=>∃k:Nat,Hid (k+g=B.length)/\x=I K k/\y=I K (Kg B k)/\w=wr/\Hid (∀i,i<k->OU B i=true))
  case atStart=>exact⟨0,AD,rfl,rfl,rfl,λi h=>J⟩
  case round =>
   obtain⟨k,d,rfl,rfl,rfl,l⟩:=hrel
   cases gk with
   |zero =>
    have v:¬(k:Int)<B.length:=Ao d.out
    have c:Hid (Gy B=true):=by
     show _=_;unfold Gy;rw[CH m,GS,E8];exact λi h=>l.out i (Aq (CV.1 h) d.out)
    go_wp2;go_ret;exact⟨AV,Z⟩
   |succ g =>
    have v:(k:Int)<B.length:=Ao d.out
    obtain⟨b,off,rfl,F,u⟩:=n.at_ k J;have H:=u k J;have j:Hid (B.getD k 0=B[k]):=by show _=_;rw[Mh,C6 J];rfl
    have o:Hid (Kg B (k+1)=B[k]):=by show _=_;unfold Kg;rw[Bz J];exact j
    have f:Hid (OU B k=decide (Kg B k<B[k]/\B[k]<=65536)):=by show _=_;unfold OU;rw[j.out]
    generalize B[k]=x at *;generalize Kg B k=p at *;by_cases C:x<=p
    ·have c:Hid (Gy B=false):=by
      show _=_;unfold Gy;rw[KN];right;rw[Gv];exact⟨k,CV.2 J,AS⟩
     go_wp2;go_ret;exact⟨AV,Z⟩
    by_cases D:65536<x
    ·have c:Hid (Gy B=false):=by
      show _=_;unfold Gy;rw[KN];right;rw[Gv];exact⟨k,CV.2 J,AS⟩
     go_wp2;go_ret;exact⟨AV,Z⟩
    go_wp2;go_roundg g
    case measure=>omega
    case rel =>
     refine⟨k+1,Ap d.out,AE,by rw[o.out],Z,λi h=>?_⟩;by_cases e:i=k
     ·subst e;rw[f.out];exact CH J
     exact l i J
 have r:(8:Int)<B.length:=J
 have c:Hid (Gy B=false):=by show _=_;unfold Gy;rw[CO m];rfl
 go_enter func52,ntmps52;go_wp2;go_ret;exact⟨AV,Z⟩
def fz(a:A4)(t:Nat)(B:List Int)(D:B.length<=maxLen)(w:O)(C:IN w a B):Am X 25 #[G a B.length t] w λe L=>e=Af (Ac (Ge B))/\A0 w L:=by
 unfold maxLen at D;have s:=T C;go_enter func25,ntmps25;go_wp2
 go_loopg[3] B.length (λg x wr=>∃k:Nat,Hid (k+g=B.length)/\x=I K k/\A0 w wr/\Hid (∀i,i<k->Mz B i=true))
 case atStart=>exact⟨0,AD,rfl,C5 _ _,λi l=>J⟩
 case round =>
  obtain⟨k,h,rfl,d,m⟩:=hrel
  cases gk with
  |zero =>
   have H:¬(k:Int)<B.length:=Ao h.out
   have c:Hid (Ge B=decide ((B.length:Int)<=8)):=by
    show _=_;unfold Ge;have:(List.range B.length).all (Mz B)=true:=by
     rw[E8];exact λi l=>m.out i (Aq (CV.1 l) h.out)
    rw[this,GS];exact IJ.2 J
   go_wp2;go_ret;exact⟨AV,d⟩
  |succ g =>
   have H:(k:Int)<B.length:=Ao h.out
   obtain⟨b,off,rfl,P,q⟩:=(s.below d).at_ k J;have F:=q k J;have p:Hid (B.getD k 0=B[k]):=by show _=_;rw[Mh,C6 J];rfl
   have S:(0:Int)<=k:=J
   rcases Wy k with r|r
   ·subst r;rw[LI]at F;have f:Hid (Mz B 0=decide (1<=B[0]/\B[0]<=65536)):=by show _=_;unfold Mz;rw[p.out];exact IJ.2 J
    generalize B[0]=x at *;have R:decide ((0:Int)<0)=false:=rfl;by_cases n:x<1
    ·have c:Hid (Ge B=false):=by
      show _=_;unfold Ge;rw[KN];left;rw[Gv];exact⟨0,CV.2 J,AS⟩
     go_wp2
     go_quiet (fail)
     go_wp2;go_ret;exact⟨AV,My d _⟩
    have v:=CO n;by_cases o:65536<x
    ·have c:Hid (Ge B=false):=by
      show _=_;unfold Ge;rw[KN];left;rw[Gv];exact⟨0,CV.2 J,AS⟩
     go_wp2
     go_quiet (fail)
     go_wp2;go_ret;exact⟨AV,My d _⟩
    have z:=CO o;go_wp2
    go_quiet (fail)
    go_wp2;go_roundg g
    case measure=>omega
    case rel =>
     refine⟨0+1,Ap h.out,AE,My d _,λi l=>?_⟩;by_cases e:i=0
     ·subst e;rw[f.out];exact CH J
     exact m i J
   obtain⟨j,rfl⟩:∃j,k=j+1:=⟨k-1,J⟩
   have Q:=q j J;have f:Hid (Mz B (j+1)=decide (1<=B[j+1]/\B[j+1]<=65536/\B[j]<B[j+1])):=by
    show _=_;unfold Mz;rw[p.out];have u:B.getD (j+1-1) 0=B[j]:=by rw[Mh,Nj,C6 J];rfl
    rw[u];exact IJ.2 J
   generalize B[j+1]=x at *;generalize B[j]=y at *;have V:(0:Int)<((j+1:Nat):Int):=J
   by_cases n:x<1
   ·have c:Hid (Ge B=false):=by
     show _=_;unfold Ge;rw[KN];left;rw[Gv];exact⟨j+1,CV.2 J,AS⟩
    go_wp2
    go_quiet (fail)
    go_wp2;go_ret;exact⟨AV,My d _⟩
   have v:=CO n;by_cases o:65536<x
   ·have c:Hid (Ge B=false):=by
     show _=_;unfold Ge;rw[KN];left;rw[Gv];exact⟨j+1,CV.2 J,AS⟩
    go_wp2
    go_quiet (fail)
    go_wp2;go_ret;exact⟨AV,My d _⟩
   have z:=CO o;by_cases A:x<=y
   ·have c:Hid (Ge B=false):=by
     show _=_;unfold Ge;rw[KN];left;rw[Gv];exact⟨j+1,CV.2 J,AS⟩
    go_wp2
    go_quiet (fail)
    go_wp2;go_ret;exact⟨AV,My d _⟩
   have N:=CO A;go_wp2
   go_quiet (fail)
   go_wp2;go_roundg g
   case measure=>omega
   case rel =>
    refine⟨j+1+1,Ap h.out,AE,My d _,λi l=>?_⟩;by_cases e:i=j+1
    ·subst e;rw[f.out];exact CH J
    exact m i J
def DN(c:Int):Int×Int×Int :=
 if c<128 then(0,0,1)else if 194<=c/\c<=223 then(128,191,2)else if c=224 then(160,191,3)else if c=237 then(128,159,3)
 else if 225<=c/\c<=239 then(128,191,3)else if c=240 then(144,191,4)else if 241<=c/\c<=243 then(128,191,4)else if c=244 then(128,143,4)else(0,0,0)
def XP(c:Int)(w:O):Am X 159 #[I .u8 c] w λe a=>e=Af (Aa #[I .u8 (DN c).1,I .u8 (DN c).2.1,I K (DN c).2.2])/\a=w:=by
 go_enter func159,ntmps159;go_wp2
 all_goals go_ret3
 all_goals refine⟨?_,rfl⟩
 all_goals simp only[KU,EJ]at *
 all_goals unfold DN
 all_goals(repeat(first|rw[BA J]|rw[Bz J]))
 all_goals rfl
def Ee(s:ByteArray):Int:=if s.toList==[100,114,111,112]then 1 else if s.toList==[109,97,115,107]then 2 else if s.toList==[116,97,103]then 3 else 0
def TF(s:ByteArray)(w:O):Am X 67 #[.string s] w λe a=>e=Af (I K (Ee s))/\a=w:=by
 go_enter func67,ntmps67;go_wp2
 all_goals go_ret
 all_goals refine⟨?_,rfl⟩
 all_goals unfold Ee
 all_goals(repeat(first|rw[BA (by assumption)]|rw[Bz (by rw[Mp];assumption)]))
 all_goals rfl
def TG(s:ByteArray)(w:O):Am X 121 #[.string s] w λe a=>e=Af (Aa #[I K (Ee s),Ac (Ee s != 0)])/\a=w:=by
 go_enter func121,ntmps121;go_wp2
 all_goals go_ret2
 all_goals refine⟨?_,rfl⟩
 all_goals unfold Ee
 all_goals(repeat(first|rw[BA (by assumption)]|rw[Bz (by rw[Mp];assumption)]))
 all_goals rfl
def Km(l:A1):Int:=match l with
 |[b]=>if 48<=b.toNat/\b.toNat<=57 then(b.toNat:Int)-48 else 0
 |_=>0
def Gh(l:A1)(n:Int):Bool:=match l with
 |[b]=>decide (48<=b.toNat/\b.toNat<=57)&&decide ((b.toNat:Int)-48<n)
 |_=>false
def XQ{s:ByteArray}(h:s.size=1):s.data.toList=[s[0]]:=by
 obtain⟨⟨l⟩⟩:=s
 match l,h with
 |[b],_=>rfl
def XR(n:Int)(h:l.length≠1):Km l=0/\Gh l n=false:=by
 match l,h with
 |[],_=>exact⟨rfl,rfl⟩
 |_::_::_,_=>exact⟨rfl,rfl⟩
def TH(s:ByteArray)(n:Int)(w:O):Am X 120 #[.string s,I K n] w λe d=>e=Af (Aa #[I K (Km s.data.toList),Ac (Gh s.data.toList n)])/\d=w:=by
 by_cases c:s.size=1
 ·have f:(s.size:Int)=1:=J
  have b:=T (XQ c);by_cases g:(s[0].toNat:Int)<48
  ·have a:Hid (Km [s[0]]=0/\Gh [s[0]] n=false):=⟨Bz J,by simp only[Gh];rw[CO J];rfl⟩
   go_enter func120,ntmps120;go_wp2
   all_goals go_ret2
   all_goals exact⟨kfp,rfl⟩
  have h:(48:Int)<=s[0].toNat:=J
  by_cases i:(57:Int)<s[0].toNat
  ·have a:Hid (Km [s[0]]=0/\Gh [s[0]] n=false):=⟨Bz J,by simp only[Gh];rw[CO J];rfl⟩
   go_enter func120,ntmps120;go_wp2
   all_goals go_ret2
   all_goals exact⟨kfp,rfl⟩
  have j:(s[0].toNat:Int)<=57:=J
  have a:Hid (Km [s[0]]=(s[0].toNat:Int)-48/\Gh [s[0]] n=decide ((s[0].toNat:Int)-48<n)):=⟨BA J,by simp only[Gh];rw[CH J];rfl⟩
  go_enter func120,ntmps120;go_wp2
  all_goals go_ret2
  all_goals exact⟨kfp,rfl⟩
 have:(s.size:Int)≠1:=J
 have a:=T (XR n (by rw[ES];exact c));go_enter func120,ntmps120;go_wp2
 all_goals go_ret2
 all_goals exact⟨by rw[a.1,a.2];rfl,rfl⟩
def Gi(lo hi:Int)(l:A1)(j:Nat):Bool :=
 decide (j<l.length)&&(if j=1 then decide (lo<=((l.getD j 0).toNat:Int)/\((l.getD j 0).toNat:Int)<=hi)else decide (128<=(l.getD j 0).toNat/\(l.getD j 0).toNat<=191))
def FG(lo hi:Int)(l:A1):Nat->Nat->Nat×Bool
 |0,j=>(j,true)
 |g+1,j=>if Gi lo hi l j then FG lo hi l g (j+1)else(j,false)
def GE(l:A1):Nat×Bool :=
 if(DN (l.getD 0 0).toNat).2.2=0 then(0,false)else FG (DN (l.getD 0 0).toNat).1 (DN (l.getD 0 0).toNat).2.1 l ((DN (l.getD 0 0).toNat).2.2.toNat-1) 1
def jm(c:Int):(DN c).2.2=0\/(DN c).2.2=1\/(DN c).2.2=2\/(DN c).2.2=3\/(DN c).2.2=4:=by
 unfold DN
 repeat(first|(split;simp)|simp)
def Ff(s:ByteArray)(i n:Nat):A1:=(s.data.toList.take n).drop i
def XS(s:ByteArray)(i n:Nat)(h:n<=s.size):(Ff s i n).length=n-i:=by
 unfold Ff;rw[Eb,In];have:s.data.toList.length=s.size:=ES;omega
def XT(s:ByteArray)(i n j:Nat)(h:n<=s.size)(a:i+j<n):(Ff s i n).getD j 0=s[i+j]'Av:=by
 unfold Ff;rw[Mh,Mm,OA,BA a];have:i+j<s.data.toList.length:=by
  have:s.data.toList.length=s.size:=ES;omega
 rw[C6 this];rfl
def XU(s:ByteArray)(i n:Nat)(w:O)(m:n<=s.size)(hi:i<n)(V:s.size<=4611686018427387904):Am X 136 #[.string s,I K i,I K n] w λe D=>e=Af (Aa #[I K (GE (Ff s i n)).1,Ac (GE (Ff s i n)).2])/\D=w:=by
 have P:(i:Int)<s.size:=J
 have Q:i<s.size:=J
 have r:Hid (((Ff s i n).getD 0 0)=s[i]):=XT s i n 0 m J;obtain⟨c,b,k,d⟩:∃c b k,Hid (DN (s[i].toNat:Int)=(c,b,k)):=⟨_,_,_,show DN _=(_,_,_)from rfl⟩
 have q:=jm (s[i].toNat:Int);rw[d.out]at q;simp only[]at q;have u:Hid (GE (Ff s i n)=if k=0 then(0,false)else FG c b (Ff s i n) (k.toNat-1) 1):=by
  show _=_;unfold GE;rw[r.out,d.out]
 clear r;by_cases v:k=0
 ·subst v;have p:Hid (GE (Ff s i n)=(0,false)):=by show _=_;rw[u.out,BA rfl]
  go_enter func136,ntmps136
  go_wp2_with(first
   |(go_at_call 159;refine(XP _ _).mono ?_;rintro e z ⟨rfl,rfl⟩;rw[d.out]))
  go_ret2
  exact⟨by rw[p.out];rfl,rfl⟩
 obtain⟨a,rfl⟩:∃a:Nat,k=a:=⟨k.toNat,J⟩
 have S:1<=a/\a<=4:=by simp at q;omega
 have R:((a:Int)==0)=false:=by rw[EJ];omega
 have p:Hid (GE (Ff s i n)=FG c b (Ff s i n) (a-1) 1):=by show _=_;rw[u.out,Bz v];rfl
 go_enter func136,ntmps136
 go_wp2_with(first
  |(go_at_call 159;refine(XP _ _).mono ?_;rintro e z ⟨rfl,rfl⟩;rw[d.out]))
 go_loopg[11] (a-1) (λg x wr=>∃j:Nat,Hid (j+g=a)/\x=I K j/\z=wr/\Hid (1<=j)/\Hid (GE (Ff s i n)=FG c b (Ff s i n) g j))
 case atStart=>exact⟨1,AD,rfl,rfl,BM 1,p⟩
 case round =>
  obtain⟨j,l,rfl,rfl,y,f⟩:=hrel
  cases gk with
  |zero =>
   have C:¬(j:Int)<a:=Ao l.out
   go_wp2
   go_ret2
   exact⟨(by rw[f.out];have:j=a:=(Ao l.out);subst this;rfl),rfl⟩
  |succ g =>
   have C:(j:Int)<a:=Ao l.out
   by_cases F:(n:Int)<=(i:Int)+j
   ·have o:Hid (GE (Ff s i n)=(j,false)):=by
     show _=_;rw[f.out,FG,Gi,XS _ _ _ m,CO J];rfl
    go_wp2
    go_ret2
    exact⟨by rw[o.out];rfl,rfl⟩
   have H:(i:Int)+j<n:=J
   have N:(i:Int)+j<s.size:=J
   have L:i+j<s.size:=J
   have t:Hid (Gi c b (Ff s i n) j=if j=1 then decide (c<=(s[i+j].toNat:Int)/\(s[i+j].toNat:Int)<=b)else decide (128<=s[i+j].toNat/\s[i+j].toNat<=191)):=by
    show _=_;unfold Gi;rw[XT s i n j m J,XS _ _ _ m,CH J,GS]
   have A:Hid (Gi c b (Ff s i n) j=true->GE (Ff s i n)=FG c b (Ff s i n) g (j+1)):=λh=>by rw[f.out,FG,BA h]
   have o:Hid (Gi c b (Ff s i n) j=false->GE (Ff s i n)=(j,false)):=λh=>by rw[f.out,FG,Bz kfo]
   go_wp2
   all_goals first
    |(go_ret2;have hF:=o.out (by rw[t.out];have:=y.out;split<;>(apply CO;omega));exact⟨by rw[hF];simp[*],rfl⟩)
    |go_roundg g
     case measure=>omega
     case rel =>
      have B:=A.out (by rw[t.out];have:=y.out;split<;>(apply CH;omega));refine⟨j+1,Ap l.out,?_,Z,AL,B⟩
      first|go_num|(simp[*];done)
def jn{α β:Type}(p:α×β):p=(p.1,p.2):=rfl
def Fv(l:A1):Nat:=if(GE l).2 then(GE l).1 else 0
def jo(s:ByteArray)(i:Nat)(w:O)(hi:i<s.size)(f:s.size<=4611686018427387904):Am X 134 #[.string s,I K i] w λe h=>e=Af (I K (Fv (s.data.toList.drop i)))/\h=w:=by
 have d:Hid (Ff s i s.size=s.data.toList.drop i):=by
  show _=_;unfold Ff;have g:s.data.toList.length=s.size:=ES;rw[<-g,LG]
 obtain⟨k,b,a⟩:∃k b,Hid (GE (s.data.toList.drop i)=(k,b)):=⟨_,_,jn _⟩
 cases b
 ·have c:Hid (Fv (s.data.toList.drop i)=0):=by show _=_;unfold Fv;rw[a.out];rfl
  go_enter func134,ntmps134
  go_wp2_with(first
   |(go_at_call 136;refine(XU s i s.size _ (BM _) hi f).mono ?_;rintro e j ⟨rfl,rfl⟩;rw[d.out,a.out]))
  go_ret;exact⟨AV,Z⟩
 have c:Hid (Fv (s.data.toList.drop i)=k):=by show _=_;unfold Fv;rw[a.out];rfl
 go_enter func134,ntmps134
 go_wp2_with(first
  |(go_at_call 136;refine(XU s i s.size _ (BM _) hi f).mono ?_;rintro e j ⟨rfl,rfl⟩;rw[d.out,a.out]))
 go_ret;exact⟨AV,Z⟩
def jp(h:Gi lo hi l j=true):j<l.length:=by
 unfold Gi at h;rw[Dw]at h;exact CD h.1
def XV:∀{g j:Nat},(FG lo hi l g j).2=true->j<=l.length->(FG lo hi l g j).1<=l.length
 |0,_,_,hj=>hj
 |g+1,j,h,_=>by
  unfold FG at h ⊢;by_cases a:Gi lo hi l j=true
  ·rw[BA a]at h ⊢;exact XV h (jp a)
  rw[Bz a]at h;exact absurd h Az
def jq(l:A1)(b:0<l.length):Fv l<=l.length:=by
 unfold Fv;by_cases h:(GE l).2=true
 ·rw[BA h];unfold GE at h ⊢;by_cases a:(DN (l.getD 0 0).toNat).2.2=0
  ·rw[BA a];exact DK _
  rw[Bz a]at h ⊢;exact XV h b
 rw[Bz h];exact DK _
def Kn(b:UInt8):Bool:=decide (b.toNat<=32)||(b.toNat==42||(b.toNat==91||(b.toNat==93||(b.toNat==47||b.toNat==46))))
def Iu:Nat->A1->Option Nat
 |_,[]=>some 0
 |0,_::_=>none
 |g+1,b::t=>if Fv (b::t)=0\/Kn b=true then none else(Iu g ((b::t).drop (Fv (b::t)))).map (·+1)
def QS:Option Nat->Bool
 |some n=>decide (1<=n/\n<=16)
 |none=>false
def Fg(l:A1):Bool:=QS (Iu l.length l)
def P2(s:ByteArray)(w:O)(H:s.size<=4611686018427387904):Am X 105 #[.string s] w λe L=>e=Af (Ac (Fg s.data.toList))/\L=w:=by
 have t:s.data.toList.length=s.size:=ES;obtain⟨A,o⟩:∃A,Hid (Iu s.data.toList.length s.data.toList=A):=⟨_,show _=_ from rfl⟩
 have p:Hid (Fg s.data.toList=QS A):=by show _=_;unfold Fg;rw[o.out]
 go_enter func105,ntmps105;go_wp2
 go_loopg[3,4] s.size (λg x y wr=>∃n i:Nat,x=I K n/\y=I K i/\w=wr/\Hid (n<=i)/\Hid (i<=s.size)/\Hid (s.size<=i+g)/\Hid (A=(Iu g (s.data.toList.drop i)).map (·+n)))
 case atStart =>
  refine⟨0,0,Z,Z,Z,BM _,DK _,AL,?_⟩;show _=_;rw[<-o.out,t,Nq];cases Iu s.size s.data.toList<;>rfl
 case round =>
  obtain⟨n,i,rfl,rfl,rfl,u,m,r,b⟩:=hrel;by_cases B:i=s.size
  ·have D:¬(i:Int)<s.size:=J
   have f:Hid (Fg s.data.toList=decide (1<=n/\n<=16)):=by
    show _=_;have l:A=U n:=by
     rw[b.out,B,<-t,KR];cases gk<;>simp[Iu]
    rw[p.out,l];rfl
   by_cases N:(1:Int)<=n
   ·by_cases P:(n:Int)<=16
    ·have a:Hid (Fg s.data.toList=true):=by show _=_;rw[f.out,CH J]
     go_wp2;go_ret;exact⟨Bb,Z⟩
    have a:Hid (Fg s.data.toList=false):=by show _=_;rw[f.out,CO J]
    go_wp2;go_ret;exact⟨Bb,Z⟩
   have a:Hid (Fg s.data.toList=false):=by show _=_;rw[f.out,CO J]
   go_wp2;go_ret;exact⟨Bb,Z⟩
  have D:(i:Int)<s.size:=Ao m.out
  have F:i<s.size:=J
  obtain⟨g,rfl⟩:∃g,gk=g+1:=⟨gk-1,Ao r.out⟩
  obtain⟨k,j⟩:∃k,Hid (Fv (s.data.toList.drop i)=k):=⟨_,show _=_ from rfl⟩
  have d:Hid (s.data.toList.drop i=s[i]::s.data.toList.drop (i+1)):=by show _=_;rw[G7 J];rfl
  have c:Hid (Iu (g+1) (s.data.toList.drop i)=if k=0\/Kn s[i]=true then Y else(Iu g (s.data.toList.drop (i+k))).map (·+1)):=by
   show _=_;have:=j.out;rw[d.out]at this ⊢;rw[Iu,this,<-d.out,Hn]
  have Q:k<=s.size-i:=by
   have:=jq (s.data.toList.drop i) (by rw[Eb];omega);rw[j.out,Eb]at this;omega
  have v:Hid (k=0\/Kn s[i]=true->Fg s.data.toList=false):=λh=>by
   have l:A=Y:=by rw[b.out,c.out,BA h];rfl
   rw[p.out,l];rfl
  have z:Hid (¬(k=0\/Kn s[i]=true)->A=(Iu g (s.data.toList.drop (i+k))).map (·+(n+1))):=λh=>by
   rw[b.out,c.out,Bz h,Option.map_map];congr 1;funext x;simp only[Function.comp];omega
  have q:Hid (Kn s[i]=true↔((s[i].toNat:Int)<=32\/(s[i].toNat:Int)=42\/(s[i].toNat:Int)=91\/(s[i].toNat:Int)=93\/(s[i].toNat:Int)=47\/(s[i].toNat:Int)=46)):=by
   show _↔_;unfold Kn;simp only[Mq,KQ,KU];omega
  clear d c b;have R:n<=4611686018427387904:=Aq u.out m.out
  go_wp2_with(first
   |(go_at_call 134;refine(jo s i _ F H).mono ?_;rintro e S ⟨rfl,rfl⟩;rw[j.out]))
  all_goals first
   |(go_ret;have hF:=v.out (by rw[q.out];first|omega|(simp only[KU]at *;omega));exact⟨by rw[hF];rfl,rfl⟩)
   |go_roundg g
    case measure=>omega
    case rel =>
     have C:=z.out (by rw[q.out];first|omega|(simp only[EJ]at *;omega));refine⟨n+1,i+k,AE,AE,Z,?_,?_,?_,C⟩
     all_goals(show _<=_;have:=u.out;have:=m.out;have:=r.out;omega)
   |skip
def MK(s:Nat×A1)(t:A1×Bool):Bool:=if s.1=0 then true else if s.1=1 then false else if s.1=2 then t.2 else !t.2&&t.1==s.2
def Pa(s:Nat×A1)(p:List (A1×Bool))(f:Nat->Bool):Nat->Bool
 |0=>if s.1=1 then f 0 else false
 |k+1=>if s.1=1 then(List.range (k+2)).any f else f k&&(match p[k]? with|some t=>MK s t|none=>false)
def NU:List (Nat×A1)->List (A1×Bool)->(Nat->Bool)->Nat->Bool
 |[],_,f=>f
 |s::ss,p,f=>NU ss p (Pa s p f)
def R7(ss:List (Nat×A1))(p:List (A1×Bool)):Bool:=NU ss p (λk=>k==0) p.length
def YH(s:Nat×A1)(p:List (A1×Bool)):∀(ss:List (Nat×A1)) (f:Nat->Bool),NU (ss++[s]) p f=Pa s p (NU ss p f)
 |[],_=>rfl
 |x::ss,f=>by show NU (ss++[s]) p _=_;rw[YH s p ss];rfl
def Fh(ss:List (Nat×A1))(k:Nat):Bool:=match ss[k]? with
 |some s=>s.1==1
 |none=>false
def LU(ss:List (Nat×A1))(t:A1×Bool)(k:Nat):Bool:=match ss[k]? with
 |some s=>MK s t
 |none=>false
def L8(ss:List (Nat×A1))(P:Nat->Bool):Nat->Bool
 |0=>P 0
 |k+1=>P (k+1)||(Fh ss k&&L8 ss P k)
def ML(ss:List (Nat×A1))(t:A1×Bool)(P:Nat->Bool):Nat->Bool
 |0=>P 0&&Fh ss 0
 |k+1=>(P (k+1)&&Fh ss (k+1))||(P k&&LU ss t k)
def L9(ss:List (Nat×A1)):List (A1×Bool)->Nat->Bool
 |[]=>L8 ss (λk=>k==0)
 |t::r=>L8 ss (ML ss t (L9 ss r))
def rF(ss:List (Nat×A1))(p:List (A1×Bool))(k:Nat):Nat->Bool:=NU (ss.take k) p (λn=>n==0)
def YI(a:List (Nat×A1))(p:List (A1×Bool))(n:Nat):rF a p 0 n=(n==0):=rfl
def YJ{s:Nat×A1}(h:ss[k]?=U s)(p:List (A1×Bool)):rF ss p (k+1)=Pa s p (rF ss p k):=by
 unfold rF;rw[JH,h];exact YH s p _ _
def gF(ss:List (Nat×A1))(p:List (A1×Bool))(k j:Nat):Bool:=if Fh ss k then(List.range (j+1)).any (rF ss p k)else rF ss p k j
def lK(f:Nat->Bool)(j:Nat):(List.range (j+1)).any f=((List.range j).any f||f j):=by
 rw[List.range_succ,List.any_append];simp
def YK(a:List (Nat×A1))(p:List (A1×Bool)):∀(j:Nat),j<=p.length->∀k,k<=a.length->L9 a (p.take j).reverse k=gF a p k j
 |0,_,k,hk=>by
  rw[List.take_zero,List.reverse_nil,L9]
  induction k with
  |zero=>unfold gF;cases Fh a 0<;>simp[L8,YI]
  |succ k d =>
   have d:=d J;rw[L8,d];obtain⟨s,f⟩:∃s,a[k]?=U s:=⟨a[k],C6 J⟩
   have o:gF a p k 0=rF a p k 0:=by unfold gF;cases Fh a k<;>simp
   have q:gF a p (k+1) 0=rF a p (k+1) 0:=by unfold gF;cases Fh a (k+1)<;>simp
   have c:Fh a k=(s.1==1):=by unfold Fh;rw[f]
   rw[o,q,YJ f,Pa,c];by_cases b:s.1=1
   ·simp[b]
   simp[b]
 |j+1,hj,k,hk=>by
  obtain⟨t,i⟩:∃t,p[j]?=U t:=⟨p[j],C6 J⟩
  have u:(p.take (j+1)).reverse=t::(p.take j).reverse:=by rw[JH,i];simp
  rw[u,L9];have g:=YK a p j J;generalize hP:L9 a (p.take j).reverse=P;rw[hP]at g
  induction k with
  |zero =>
   rw[L8,ML,g 0 J];unfold gF
   cases c:Fh a 0 with
   |true =>
    rw[BA rfl,BA rfl];have h:rF a p 0 0=true:=rfl;have m:(List.range (j+1)).any (rF a p 0)=true:=JI.2 ⟨0,Az,h⟩;have n:(List.range (j+1+1)).any (rF a p 0)=true:=JI.2 ⟨0,Az,h⟩;rw[m,n];rfl
   |false=>simp[YI]
  |succ k d =>
   have d:=d J;obtain⟨s,f⟩:∃s,a[k]?=U s:=⟨a[k],C6 J⟩
   have c:Fh a k=(s.1==1):=by unfold Fh;rw[f]
   have l:LU a t k=MK s t:=by unfold LU;rw[f]
   rw[L8,ML,d,g (k+1) hk,g k J];have key:((gF a p k j&&LU a t k)||(Fh a k&&gF a p k (j+1)))=rF a p (k+1) (j+1):=by
    rw[YJ f,Pa,i];by_cases b:s.1=1
    ·have e:gF a p k (j+1)=(List.range (j+1+1)).any (rF a p k):=by unfold gF;rw[c];simp[b]
     have v:MK s t=false:=by unfold MK;simp[b]
     rw[l,v,c,e];simp[b]
    have e:gF a p k j=rF a p k j:=by unfold gF;rw[c];simp[b]
    rw[l,c,e];simp[b]
   have r:((gF a p (k+1) j&&Fh a (k+1))||rF a p (k+1) (j+1))=gF a p (k+1) (j+1):=by
    unfold gF
    cases Fh a (k+1)with
    |true=>rw[BA rfl,BA rfl,Bool.and_true,<-lK]
    |false=>simp
   rw[Bool.or_assoc,key,r]
def lL(a:List (Nat×A1))(p:List (A1×Bool)):L9 a p.reverse a.length=R7 a p:=by
 have h:=YK a p p.length (BM _) a.length (BM _);rw[LG]at h;rw[h];unfold gF;have e:Fh a a.length=false:=by unfold Fh;rw[Dz (BM _)]
 rw[e,Bz Az];unfold rF R7;rw[LG]
def BR(P:Nat->Nat):A3:=((List.range 16).map λi=>Value.int .u16 (P i)).toArray
def La(P:Nat->Nat):(BR P).size=16:=by simp[BR]
def Jq(P:Nat->Nat)(r:Nat)(a:r<16):(BR P)[r]?=U (I .u16 (P r)):=by simp[BR,a]
def R8(a:Nat):BitVec.ofInt 16 (a:Int)=BitVec.ofNat 16 a:=Mi ..
def R9(a b:Nat)(c:a<65536)(hb:b<65536):bits .and .u16 (a:Int) (b:Int)=((a&&&b:Nat):Int):=by
 have h:(BitVec.ofNat 16 a&&&BitVec.ofNat 16 b).toNat=a&&&b:=by
  rw[SK,JE,JE,FC J,FC J]
 show IntKind.u16.wrap ((BitVec.ofInt 16 (a:Int)&&&BitVec.ofInt 16 (b:Int)).toNat:Int)=_;have d:a&&&b<2^16:=Mn _ J;rw[R8,R8,h];unfold IntKind.wrap;simp[IntKind.bits,IntKind.signed];omega
def U2(a b:Nat)(c:a<65536)(hb:b<65536):bits .or .u16 (a:Int) (b:Int)=((a|||b:Nat):Int):=by
 have h:(BitVec.ofNat 16 a|||BitVec.ofNat 16 b).toNat=a|||b:=by
  rw[BitVec.toNat_or,JE,JE,FC J,FC J]
 show IntKind.u16.wrap ((BitVec.ofInt 16 (a:Int)|||BitVec.ofInt 16 (b:Int)).toNat:Int)=_;have d:a|||b<2^16:=SI J J;rw[R8,R8,h];unfold IntKind.wrap;simp[IntKind.bits,IntKind.signed];omega
def YL(x:Nat)(h:x<65536):IntKind.u16.wrap (x:Int)=(x:Int):=by
 unfold IntKind.wrap;simp[IntKind.bits,IntKind.signed];omega
def lM(x k:Nat)(c:x<65536):(bits .and .u16 ((x:Int)/2^k) 1==1)=x.testBit k:=by
 have e:((x:Int)/2^k)=((x/2^k:Nat):Int):=Az
 have b:x/2^k<65536:=Nat.lt_of_le_of_lt (Nat.div_le_self _ _) c;have:=R9 (x/2^k) 1 b J;rw[e,show(1:Int)=((1:Nat):Int)from rfl,this,Nat.testBit,Nat.shiftRight_eq_div_pow,Nat.and_comm 1];cases h:(x/2^k&&&1 != 0)
 ·simp at h;simp[h]
 have a:x/2^k&&&1=1:=by
  rw[Nat.and_one_is_mod]at h ⊢;simp at h;omega
 rw[a];rfl
def lN(W:O)(P:Nat->Nat)(r k:Nat)(c:r<16)(g:k<16)(b:P r<65536):Am X 122 #[.agg (BR P),I K r,I K k] W λe a=>e=Af (Ac ((P r).testBit k))/\A0 W a:=by
 have d:=Jq P r c;have f:=lM (P r) k b;go_enter func122,ntmps122;go_wp2;go_ret;exact⟨Z,BN⟩
def Ra(P:Nat->Nat)(r:Nat)(x:Nat):(BR P).setIfInBounds r (I .u16 x)=BR (λi=>if i=r then x else P i):=by
 apply Array.ext
 ·simp[BR]
 intro i a c;simp[BR]at a;rw[Array.getElem_setIfInBounds (by simp[BR];exact a)];by_cases h:r=i
 ·subst h;simp[BR]
 have b:¬i=r:=λe=>h e.symm;simp[BR,h,b]
def YM{listed:Array Bool}{a:Act}{o:Oper}(i:Nat)(hi:ops[i]?=U o)(c:Region.ready md ops listed=[i])(h:(∀b:Act->O->Prop,(∀a w,wpAny P md ops Q fuel (listed.setIfInBounds i true) a w->b a w)->if Region.wanted o (yielded ops a.tmps)=true then Oper.wp P o a w b Q else b (a.put o.dst undef) w)):wpAny P md ops Q (fuel+1) listed a w:=SY c Az (Qn hi h SS)
def Lb{listed:Array Bool}{a:Act}{oi:Oper}(i d:Nat)(v:Value)(hi:ops[i]?=U oi)(b:(Region.noSelect ops&&Region.free md ops listed i&&(Region.ready md ops listed).contains i&&oi.dst==U d&&Region.wanted oi (yielded ops a.tmps))=true)(f:∀c a w,Q (.panic c) (a.put (U d) v) w->Q (.panic c) a w)(j:∀e,(execOp a.eval oi).run P e=.ok (.value v) e)(h:wpAny P md ops Q fuel (listed.setIfInBounds i true) (a.put (U d) v) w):wpAny P md ops Q (fuel+1) listed a w:=by
 simp only[Dw]at b;have g:oi.dst=U d:=ke0
 rw[<-g]at f h;exact wpAny_take hi b.1.1.1.1 b.1.1.1.2 b.1.1.2 f (.inl ⟨b.2,j⟩) h
def Pb(W:O)(g o:Nat)(x r k:Nat)(n:r<16)(l:k<16)(f:x<65536)(j:W.cell? ⟨g,o+r,Y⟩=U (I .u16 x))(i:W.frozen? ⟨g,o+r,Y⟩=false):Am X 87 #[A8 (U ⟨g,o,Y⟩),I K r,I K k] W λe d=>e=Af (Aa #[])/\d=W.drew.setCell ⟨g,o+r,Y⟩ (I .u16 ((x|||2^k:Nat):Int)):=by
 have p:(r:Int)<16:=J
 have b:(2^k:Nat)<65536:=by
  have:(2^k:Nat)<=2^15:=Oy Ay J;omega
 have q:IntKind.u16.wrap (2^k)=2^k:=by
  have:=YL (2^k) b;simpa using this
 have m:bits .or .u16 (x:Int) (2^k)=((x|||2^k:Nat):Int):=by
  have:=U2 x (2^k) f b;rwa[show(((2^k:Nat):Int))=2^k by simp]at this
 go_enter func87,ntmps87;go_wp2;refine Qp M ?_;change wpAny _ _ _ _ _ _ _ (World.drew W);refine Lb 0 6 (A8 (U ⟨g,o,Y⟩)) Z M (λ_ _ _ h=>h) (λ_=>M) ?_;refine Lb 1 7 (I K r) Z M (λ_ _ _ h=>h) (λ_=>M) ?_;refine Lb 2 8 (A8 (U ⟨g,o,Y⟩)) Z M (λ_ _ _ h=>h) (λ_=>M) ?_;refine Lb 3 9 (A8 (U ⟨g,o+r,Y⟩)) Z M (λ_ _ _ h=>h) (λ_=>?y3) ?_
 case y3=>go_simp
 refine Lb 5 11 (I K k) Z M (λ_ _ _ h=>h) (λ_=>M) ?_;refine Lb 6 12 (I .u16 ((2^k:Nat):Int)) Z M (λ_ _ _ h=>h) (λ_=>?y6) ?_
 case y6=>go_simp
 refine Lb 8 14 (A8 (U ⟨g,o,Y⟩)) Z M (λ_ _ _ h=>h) (λ_=>M) ?_;refine YM 4 Z M (λc a=>?_);go_simp;refine a _ _ ?_;refine Lb 7 13 (I .u16 ((x|||2^k:Nat):Int)) Z M (λ_ _ _ h=>h) (λ_=>?y7) ?_
 case y7=>go_simp
 refine Lb 9 15 (A8 (U ⟨g,o+r,Y⟩)) Z M (λ_ _ _ h=>h) (λ_=>?y9) ?_
 case y9=>go_simp
 refine YM 10 Z M (λc a=>?_);go_simp;refine a _ _ ?_;refine T6 M ?_ _;go_simp;go_wp2;go_end0;exact⟨Z,Z⟩
structure MM(w:World)(a:A4)(ss:List (Nat×A1)):Prop where
 at_:∀i (h:i<ss.length),∃b off,a=some ⟨b,off,none⟩/\b<w.heap.size/\w.cell? ⟨b,off+i*2,none⟩=some (.int .i64 ss[i].1)/\w.cell? ⟨b,off+i*2+1,none⟩=some (.string ⟨ss[i].2.toArray⟩)
def MM.below{a:A4}(h:MM w a ss)(hb:A0 w w'):MM w' a ss :=
 ⟨λi g=>by
  obtain⟨b,off,f,c,d,e⟩:=h.at_ i g;exact⟨b,off,f,CA c hb.size,(hb.cell (p:=⟨b,_,Y⟩) c).trans d,(hb.cell (p:=⟨b,_,Y⟩) c).trans e⟩⟩
structure Ib(w:World)(a:A4)(rs:List (List (Nat×A1)×Int×Int)):Prop where
 at_:∀i (h:i<rs.length),∃b off pa pc,a=some ⟨b,off,none⟩/\b<w.heap.size/\w.cell? ⟨b,off+i*3,none⟩=some (.slice pa rs[i].1.length pc)/\w.cell? ⟨b,off+i*3+1,none⟩=some (.int .i64 rs[i].2.1)/\w.cell? ⟨b,off+i*3+2,none⟩=some (.int .i64 rs[i].2.2)/\MM w pa rs[i].1
def Ib.below{a:A4}{rs:List (List (Nat×A1)×Int×Int)}(h:Ib w a rs)(hb:A0 w w'):Ib w' a rs :=
 ⟨λi k=>by
  obtain⟨b,off,l,m,j,c,d,e,f,g⟩:=h.at_ i k;exact⟨b,off,l,m,j,CA c hb.size,(hb.cell (p:=⟨b,_,Y⟩) c).trans d,(hb.cell (p:=⟨b,_,Y⟩) c).trans e,(hb.cell (p:=⟨b,_,Y⟩) c).trans f,g.below hb⟩⟩
def DE(dflt:Int):List (List (Nat×A1)×Int×Int)->(Nat->Nat)->Nat->Int×Int
 |[],_,_=>(dflt,1)
 |x::rs,P,r=>if(P r).testBit x.1.length then x.2 else DE dflt rs P (r+1)
def Fi(P:Nat->Nat):(prog.info? 132).map (·.size)=U (BR P).size:=by rw[La];kernel_rfl
structure NV(W:World)(P:Nat->Nat)(V:World):Prop where
 box:V.heap[W.heap.size]?=some (.cells (BR P) 132)
 below:A0 W V
def NV.next{V V':O}{P:Nat->Nat}(h:NV W P V)(hb:A0 V V'):NV W P V' :=
 ⟨(hb.block _ (BC h.box)).trans h.box,h.below.trans (hb.mono h.below.size)⟩
def lO(W:O)(P:Nat->Nat):NV W P (W.alloc (E (BR P) 132)):=⟨BI _ _,BN⟩
def lP(W:O)(A:Nat)(x:A4)(Q:Nat)(a:Int)(rs:List (List (Nat×A1)×Int×Int))(P:Nat->Nat)(H:∀r,P r<65536)(hn:rs.length<=16)(D:∀i (h:i<rs.length),rs[i].1.length<=8)(F:A<W.heap.size)(R:W.cell? ⟨A,0,Y⟩=U (G x rs.length Q))(C:W.cell? ⟨A,1,Y⟩=U (I K a))(N:Ib W x rs):Am X 88 #[A8 (U ⟨A,0,Y⟩),.agg (BR P)] W λe B=>e=Af (Aa #[I K (DE a rs P 0).1,I K (DE a rs P 0).2])/\A0 W B:=by
 have y:=T N;go_enter func88,ntmps88;go_wp2
 go_loopg[13] rs.length (λg z wr=>∃k:Nat,z=I K k/\Hid (k+g=rs.length)/\Hid (NV W P wr)/\Hid (DE a rs P 0=DE a (rs.drop k) P k))
 case atStart=>exact⟨0,rfl,AD,lO _ _,rfl⟩
 case round =>
  obtain⟨k,rfl,m,d,q⟩:=hrel;have S:=(d.below.cell (p:=⟨A,_,Y⟩) F).trans C
  cases gk with
  |zero =>
   have L:¬(k:Int)<(rs.length:Int):=Ao m.out
   have f:Hid (DE a rs P 0=(a,1)):=by
    have h:=q.out;rw[K9 (Ao m.out)]at h;exact h
   go_wp2;refine Cc (KT results88 _ _ _) Z ⟨?_,d.below⟩;rw[f.out];rfl
  |succ g =>
   have t:k<rs.length:=Ao m.out
   have L:(k:Int)<(rs.length:Int):=J
   obtain⟨b,off,v,w,rfl,hb,e0,e1,e2,_⟩:=(y.below d.below).at_ k t;have aa:=D k t;have l:=λV=>lN V P k rs[k].1.length J J (H k);have u:Hid (DE a (rs.drop k) P k=if(P k).testBit rs[k].1.length then rs[k].2 else DE a (rs.drop (k+1)) P (k+1)):=by
    show _=_;rw[G7 t,DE]
   have j:Hid (NV W P (wr.alloc (E #[G v rs[k].1.length w,I K rs[k].2.1,I K rs[k].2.2] 177))):=d.next BN
   have ab:=BC d.box
   cases n:(P k).testBit rs[k].1.length with
   |true =>
    rw[n]at l;have f:Hid (DE a rs P 0=rs[k].2):=by have h:=q.out;rw[u.out,n]at h;exact h
    go_wp2_with(first
     |(refine C8 Z 132 (.tmp 3) Z W.heap.size Z _ _ _ _ j.box underlying132 Z (Fi P) ?_)
     |(go_at_call 122;refine(l _).mono ?_;rintro e o ⟨rfl,c⟩;have s:=T (j.next c);have r0:o.cell? ⟨wr.heap.size,0,Y⟩=U (G v rs[k].1.length w):=BB ((c.block _ Az).trans (BI _ _)) 0;have r1:o.cell? ⟨wr.heap.size,1,Y⟩=U (I K rs[k].2.1):=BB ((c.block _ Az).trans (BI _ _)) 1;have r2:o.cell? ⟨wr.heap.size,2,Y⟩=U (I K rs[k].2.2):=BB ((c.block _ Az).trans (BI _ _)) 2))
    go_quiet (fail)
    go_wp2;refine Cc (KT results88 _ _ _) Z ⟨?_,s.below.trans ⟨Z,Z,Z,BM _,λ_ _=>rfl⟩⟩;rw[f.out];rfl
   |false =>
    rw[n]at l;have f:Hid (DE a rs P 0=DE a (rs.drop (k+1)) P (k+1)):=by have h:=q.out;rw[u.out,n]at h;exact h
    go_wp2_with(first
     |(refine C8 Z 132 (.tmp 3) Z W.heap.size Z _ _ _ _ j.box underlying132 Z (Fi P) ?_)
     |(go_at_call 122;refine(l _).mono ?_;rintro e o ⟨rfl,c⟩;have s:=T (j.next c)))
    go_roundg g
    case measure=>omega
    case rel=>exact⟨k+1,AE,Ap m.out,s,f⟩
end
end Go.Proofs.YtnlnjkggkbbdhaaGreatDoor
