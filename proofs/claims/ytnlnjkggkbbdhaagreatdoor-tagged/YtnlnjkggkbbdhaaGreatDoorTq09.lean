import Derived.Lib.TrimUEq
import Derived.Shelf.Unicode.ValidAny
import Derived.Recover
import Derived.RangeFuncBound
import Derived.RangeFuncCalls
import Derived.RangeFuncLeaves
import Derived.Shelf.Abstract
import Derived.OwnWalkIn
import Derived.TacticsInMore
import Derived.LoopNIn
import Derived.LoopIn
import Derived.Sort.LoopGhostIn
import Derived.Lib.Strings
import Derived.Lib.IndexBytes
import Derived.Test.YtnlnjkggkbbdhaaGreatDoorTq06
import Derived.Test.YtnlnjkggkbbdhaaGreatDoorTq08
import Derived.Test.YtnlnjkggkbbdhaaGreatDoorTq07
set_option maxRecDepth 100000
set_option maxHeartbeats 8000000
set_option linter.all false
namespace Go.Proofs.YtnlnjkggkbbdhaaGreatDoor
open Go.Proofs.Tryz
open Go.Value renaming int->I,slice->G
open Option renaming some->U,none->Y
open Go.IntKind renaming i64->K
open Go renaming World->O
open Go.Obj renaming cells->E
open Go.Proofs.Tryz renaming prog->X
open Go.Value renaming int->A6,slice->A7,pointer->A8,string->A9,tuple->Aa,agg->Ab,bool->Ac,iface->Ad
open Go.Ending renaming returned->Af
open Go renaming Value->Al,Calls->Am
variable{V W W' w:O}{N base g i k lo lo' m n size:Nat}{key v:Al}{bs l:A1}{F:Nat->Prop}{d:A2}{P:Program}{a:Act}{r s:ByteArray}{f:Lit->Option Nat}{kl:Lit}{o:Oper}{c:UInt8}{cs xs:List Al}{Q:Exit->Act->O->Prop}{pa:A4}{es:List (List Al×Nat×Int×Int)}
section
open Go.RowKit Go.Lib
def Cq:Lit->A1
 |.string l=>l
 |_=>[]
def iF(h:BG W base v bs):v.ownBlock≠U W.heap.size:=by
 obtain⟨b,_,_⟩:=h;rcases b.2 with⟨rfl,_⟩|⟨g,c,d,rfl,_,a,_⟩
 ·intro e;cases e
 have:=BC a;intro e;simp[Value.ownBlock]at e;omega
def XB(h:BG W base v bs)(o:Obj):Fb (W.alloc o) base W.heap.size v bs:=⟨⟨h.1.alloc _,As h.2.1,h.2.2⟩,iF h,Az⟩
def iG(T:A2->A1)(W:O)(f:Nat)(v u:Al)(F:Nat->Prop)(hF:∀k,F k->k<f)(bs:A1)(b:List (Lit×DataW Unit))(xs:List Al)(hl:bs.length+((BW 5 b.length)++b.flatMap (λe:Lit×DataW Unit=>(BW 3 (Cq e.1).length++Cq e.1)++T e.2)).length<=999999999)(hn:b.length<=999999999)(hu:Dj W 157 2 F u b.length xs)(ai:∀(i:Nat) (key:Lit) (d:A2),b[i]?=U (key,d)->∃l t y,key=.string l/\xs[2*i]?=U (A9 ⟨l.toArray⟩)/\xs[2*i+1]?=U (Ad t y)/\QL W f (Ad t y) (T d))(h:BG W f v bs):Am X 64 #[v,Ad 155 u] W λe p=>∃s,e=Af s/\BG p f s (bs++(BW 5 b.length++b.flatMap (λe:Lit×DataW Unit=>(BW 3 (Cq e.1).length++Cq e.1)++T e.2)))/\Below f W p:=by
 have ak:bs.length<=999999999:=J
 obtain⟨a,n,c,rfl⟩:=h.2.2;have cH:Am X 98 #[A7 a n c,I .u8 5,I .u64 b.length] W λe p=>∃s,e=Af s/\BG p f s (bs++BW 5 b.length)/\Below f W p:=KZ W f (A7 a n c) bs 5 b.length Ay J ak h;obtain⟨q,o,rfl⟩:∃q o,u=A7 q b.length o:=by
  rcases hu.2 with⟨e,e2⟩|⟨g,o,af,e,_⟩
  ·exact⟨Y,0,by rw[e,e2]⟩
  exact⟨_,_,e⟩
 have HU:=By hu;have HI:=By ai;obtain⟨m,x⟩:∃m:Lit×DataW Unit->A1,Hid (m=(λe:Lit×DataW Unit=>(BW 3 (Cq e.1).length++Cq e.1)++T e.2)):=⟨_,show _=_ from rfl⟩
 rw[<-x.out]at hl ⊢;have HL:=By hl;have aw:=Xo q b.length o;have ax:=Xp q b.length o;have ay:=Xq q b.length o;have az:=Xr q b.length o;have a0:=Xs q b.length o;have a1:=Xt q b.length o;go_enter func64,ntmps64
 go_wp2_with(first
  |(go_at_call 98;refine cH.mono ?_;rintro e w2 ⟨v2,rfl,B,ag⟩;obtain⟨o2,b2,a2,n2,c2,rfl⟩:=B;have ac:Hid (BG w2 f (A7 a2 n2 c2) (bs++BW 5 b.length)):=⟨o2,b2,_,_,_,Z⟩;have aa:=By ag))
 go_loopg[0,83,14] b.length (λg y ao a6 wr=>∃(k:Nat) (P:A4) (S Q:Nat),y=A7 P S Q/\ao=I K k/\Hid (k+g=b.length)/\Hid (BG wr f (A7 P S Q) ((bs++BW 5 b.length)++(b.take k).flatMap m))/\Hid (Below f W wr))
 case atStart=>exact⟨0,a2,n2,c2,rfl,rfl,AD,kfz,aa⟩
 case round =>
  obtain⟨k,P,S,Q,rfl,rfl,C,L,H⟩:=hrel
  cases gk with
  |zero =>
   have al:¬(k:Int)<b.length:=Ao C.out
   have A:Hid (b.take k=b):=by show _=_;exact II (Ao C.out)
   go_wp2;go_ret;have h3:=L.out;rw[A.out,CN]at h3;exact⟨_,Z,h3,H⟩
  |succ g =>
   have aj:k<b.length:=Ao C.out
   have al:(k:Int)<b.length:=J
   have N:=HU.same (V':=wr) (G:=F) (λ_ h=>h) (λj hj=>H.block j (hF j hj));obtain⟨q0,rfl⟩:∃q0,q=U ⟨q0,0,Y⟩:=by
    rcases N.2 with⟨_,e⟩|⟨g,ap,af,e,_⟩
    ·omega
    injection e with e1 e2 e3;exact⟨g,e1⟩
   obtain⟨⟨key,d⟩,hd⟩:∃d,b[k]?=U d:=⟨b[k],C6 aj⟩
   obtain⟨l,r,w,rfl,am,an,hI⟩:=HI.out k key d hd;have aq:wr.cell? ⟨q0,k*2,Y⟩=U (A9 ⟨l.toArray⟩):=by
    have:=N.cell (2*k) _ am;have e:(⟨q0,0,Y⟩:Addr).add (2*k)=⟨q0,k*2,Y⟩:=Bp
    rwa[e]at this
   have ar:wr.cell? ⟨q0,k*2+1,Y⟩=U (Ad r w):=by
    have:=N.cell (2*k+1) _ an;have e:(⟨q0,0,Y⟩:Addr).add (2*k+1)=⟨q0,k*2+1,Y⟩:=by simp[Addr.add,JJ]
    rwa[e]at this
   have A:Hid ((b.take (k+1)).flatMap m=(b.take k).flatMap m++((BW 3 l.length++l)++T d)):=by
    show _=_;rw[JH,hd,x.out];simp[Cq]
   have D:Hid (((bs++BW 5 b.length)++(b.take k).flatMap m).length+((BW 3 l.length++l)++T d).length<=999999999):=by
    show _<=_;have h1:=HL.out;have B:(b.flatMap m).length=((b.take (k+1)).flatMap m).length+((b.drop (k+1)).flatMap m).length:=by
     rw[<-BK,<-LD,Kb]
    rw[A.out]at B;simp only[BK]at h1 B ⊢;omega
   have HV:Hid (Below f W (wr.alloc (E #[A9 ⟨l.toArray⟩,Ad r w] 157))):=H.trans ((C5 f wr).alloc L.2.1 _);have cT:=gR _ f wr.heap.size _ _ l (Ao D.out) (by have:=D.out;simp only[BK]at this;omega) (XB L (E #[A9 ⟨l.toArray⟩,Ad r w] 157));have z:Hid ((wr.alloc (E #[A9 ⟨l.toArray⟩,Ad r w] 157)).heap[wr.heap.size]?=U (E #[A9 ⟨l.toArray⟩,Ad r w] 157)):=BI _ _;have HJ:=By hI
   go_wp2_with(first
    |(go_at_call 99;refine cT.mono ?_;rintro e w4 ⟨v4,rfl,h4,R⟩;obtain⟨o4,b4,a4,n4,c4,rfl⟩:=h4;have ad:Hid (BG w4 f (A7 a4 n4 c4) (((bs++BW 5 b.length)++(b.take k).flatMap m)++(BW 3 l.length++l))):=⟨o4,b4,_,_,_,Z⟩;have V:=By (HV.trans R.1);have au:=BB (R.2.trans z) 0;have av:=BB (R.2.trans z) 1)
    |(go_at_call 64;refine(HJ w4 _ _ V ad (by have:=D.out;simp only[BK]at this ⊢;omega)).mono ?_;rintro e w5 ⟨v5,rfl,h5,ah⟩;obtain⟨o5,b5,a5,n5,c5,rfl⟩:=h5;have ae:Hid (BG w5 f (A7 a5 n5 c5) ((((bs++BW 5 b.length)++(b.take k).flatMap m)++(BW 3 l.length++l))++T d)):=⟨o5,b5,_,_,_,Z⟩;have ab:=By (V.trans ah)))
   go_roundg g
   case measure=>omega
   case rel=>exact⟨k+1,a5,n5,c5,rfl,AE,Ap C.out,by show BG _ _ _ _;rw[A.out,<-CN,<-CN];exact ae,ab⟩
def iH(T:A2->A1)(W:O)(f:Nat)(v u:Al)(F:Nat->Prop)(hF:∀k,F k->k<f)(bs:A1)(b:List (Lit×DataW Unit))(xs:List Al)(hl:bs.length+((EY b.length)++b.flatMap (λe:Lit×DataW Unit=>(CY (Cq e.1).length++Cq e.1)++T e.2)).length<=999999999)(hn:b.length<=999999999)(hu:Dj W 157 2 F u b.length xs)(ak:∀(i:Nat) (key:Lit) (d:A2),b[i]?=U (key,d)->∃l t y,key=.string l/\xs[2*i]?=U (A9 ⟨l.toArray⟩)/\xs[2*i+1]?=U (Ad t y)/\QM W f (Ad t y) (T d))(h:BG W f v bs):Am X 65 #[v,Ad 155 u] W λe x=>∃v',e=Af v'/\BG x f v' (bs++(EY b.length++b.flatMap (λe:Lit×DataW Unit=>(CY (Cq e.1).length++Cq e.1)++T e.2)))/\Below f W x:=by
 have am:bs.length<=999999999:=J
 obtain⟨af,aq,ag,rfl⟩:=h.2.2;have cH:=gX W f (A7 af aq ag) bs b.length J am h;obtain⟨q,o,rfl⟩:∃q o,u=A7 q b.length o:=by
  rcases hu.2 with⟨e,z⟩|⟨g,o,ah,e,_⟩
  ·exact⟨Y,0,by rw[e,z]⟩
  exact⟨_,_,e⟩
 have HU:=By hu;have HI:=By ak;obtain⟨m,S⟩:∃m:Lit×DataW Unit->A1,Hid (m=(λe:Lit×DataW Unit=>(CY (Cq e.1).length++Cq e.1)++T e.2)):=⟨_,show _=_ from rfl⟩
 rw[<-S.out]at hl ⊢;have HL:=By hl;have az:=Xo q b.length o;have a0:=Xp q b.length o;have a1:=Xq q b.length o;have a6:=Xr q b.length o;have a7:=Xs q b.length o;have a8:=Xt q b.length o;go_enter func65,ntmps65
 go_wp2_with(first
  |(go_at_call 104;refine cH.mono ?_;rintro e w2 ⟨v2,rfl,w,ai⟩;obtain⟨o2,b2,a,n2,c2,rfl⟩:=w;have ac:Hid (BG w2 f (A7 a n2 c2) (bs++EY b.length)):=⟨o2,b2,_,_,_,Z⟩;have aa:=By ai))
 go_loopg[0,83,14] b.length (λg y ar a9 wr=>∃(k:Nat) (L:A4) (Q N:Nat),y=A7 L Q N/\ar=I K k/\Hid (k+g=b.length)/\Hid (BG wr f (A7 L Q N) ((bs++EY b.length)++(b.take k).flatMap m))/\Hid (Below f W wr))
 case atStart=>exact⟨0,a,n2,c2,rfl,rfl,AD,kfz,aa⟩
 case round =>
  obtain⟨k,L,Q,N,rfl,rfl,A,D,C⟩:=hrel
  cases gk with
  |zero =>
   have an:¬(k:Int)<b.length:=Ao A.out
   have s:Hid (b.take k=b):=by show _=_;exact II (Ao A.out)
   go_wp2;go_ret;have h3:=D.out;rw[s.out,CN]at h3;exact⟨_,Z,h3,C⟩
  |succ g =>
   have al:k<b.length:=Ao A.out
   have an:(k:Int)<b.length:=J
   have H:=HU.same (V':=wr) (G:=F) (λ_ h=>h) (λj hj=>C.block j (hF j hj));obtain⟨q0,rfl⟩:∃q0,q=U ⟨q0,0,Y⟩:=by
    rcases H.2 with⟨_,e⟩|⟨g,au,ah,e,_⟩
    ·omega
    injection e with e1 z e3;exact⟨g,e1⟩
   obtain⟨⟨key,d⟩,hd⟩:∃d,b[k]?=U d:=⟨b[k],C6 al⟩
   obtain⟨l,p,r,rfl,ao,ap,hI⟩:=HI.out k key d hd;have av:wr.cell? ⟨q0,k*2,Y⟩=U (A9 ⟨l.toArray⟩):=by
    have:=H.cell (2*k) _ ao;have e:(⟨q0,0,Y⟩:Addr).add (2*k)=⟨q0,k*2,Y⟩:=Bp
    rwa[e]at this
   have aw:wr.cell? ⟨q0,k*2+1,Y⟩=U (Ad p r):=by
    have:=H.cell (2*k+1) _ ap;have e:(⟨q0,0,Y⟩:Addr).add (2*k+1)=⟨q0,k*2+1,Y⟩:=by simp[Addr.add,JJ]
    rwa[e]at this
   have s:Hid ((b.take (k+1)).flatMap m=(b.take k).flatMap m++((CY l.length++l)++T d)):=by
    show _=_;rw[JH,hd,S.out];simp[Cq]
   have B:Hid (((bs++EY b.length)++(b.take k).flatMap m).length+((CY l.length++l)++T d).length<=999999999):=by
    show _<=_;have h1:=HL.out;have w:(b.flatMap m).length=((b.take (k+1)).flatMap m).length+((b.drop (k+1)).flatMap m).length:=by
     rw[<-BK,<-LD,Kb]
    rw[s.out]at w;simp only[BK]at h1 w ⊢;omega
   have HV:Hid (Below f W (wr.alloc (E #[A9 ⟨l.toArray⟩,Ad p r] 157))):=C.trans ((C5 f wr).alloc D.2.1 _);have cT:=gS _ f wr.heap.size _ _ l (Ao B.out) (by have:=B.out;simp only[BK]at this;omega) (XB D (E #[A9 ⟨l.toArray⟩,Ad p r] 157));have V:Hid ((wr.alloc (E #[A9 ⟨l.toArray⟩,Ad p r] 157)).heap[wr.heap.size]?=U (E #[A9 ⟨l.toArray⟩,Ad p r] 157)):=BI _ _;have HJ:=By hI
   go_wp2_with(first
    |(go_at_call 102;refine cT.mono ?_;rintro e w4 ⟨v4,rfl,h4,P⟩;obtain⟨o4,b4,a4,n4,c4,rfl⟩:=h4;have ad:Hid (BG w4 f (A7 a4 n4 c4) (((bs++EY b.length)++(b.take k).flatMap m)++(CY l.length++l))):=⟨o4,b4,_,_,_,Z⟩;have R:=By (HV.trans P.1);have ax:=BB (P.2.trans V) 0;have ay:=BB (P.2.trans V) 1)
    |(go_at_call 65;refine(HJ w4 _ _ R ad (by have:=B.out;simp only[BK]at this ⊢;omega)).mono ?_;rintro e w5 ⟨v5,rfl,h5,aj⟩;obtain⟨o5,b5,c,n5,n,rfl⟩:=h5;have ae:Hid (BG w5 f (A7 c n5 n) ((((bs++EY b.length)++(b.take k).flatMap m)++(CY l.length++l))++T d)):=⟨o5,b5,_,_,_,Z⟩;have ab:=By (R.trans aj)))
   go_roundg g
   case measure=>omega
   case rel=>exact⟨k+1,c,n5,n,rfl,AE,Ap A.out,by show BG _ _ _ _;rw[s.out,<-CN,<-CN];exact ae,ab⟩
def GC(hB hL hM hT:Nat->A1)(nt:Bool->A1)(no:A1)(nm:Int->A1):Nat->A2->A1
 |0,_=>[]
 |k+1,d=>match d with
  |.nil=>no
  |.lit (.bool b)=>nt b
  |.lit (.int .i64 z)=>nm z
  |.lit (.string l)=>hT l.length++l
  |.ptr (.lit (.string l))=>hB l.length++l
  |.agg ds=>hL ds.length++ds.flatMap (GC hB hL hM hT nt no nm k)
  |.map es=>hM es.length++es.flatMap λe=>(hT (Cq e.1).length++Cq e.1)++GC hB hL hM hT nt no nm k e.2
  |_=>[]
def Tx(b:Bool):A1:=bif b then BW 7 21 else BW 7 20
def Ty(b:Bool):A1:=bif b then[195]else[194]
def CC:Nat->A2->A1:=GC (BW 2) (BW 4) (BW 5) (BW 3) Tx (BW 7 22) Hb
def GD:Nat->A2->A1:=GC Fc Fd EY CY Ty [192] IT
def ME{α:Type}(f:α->A1):∀(l:List α),(∀a,a∈l->1<=(f a).length)->l.length<=(l.flatMap f).length
 |[],_=>DK _
 |a::l,h=>by
  have d:=h a (Hl ..);have e:=ME f l λb c=>h b (I2 _ c);rw[Kc,BK,Cu];omega
def L1(s x:Nat):1<=(BW s x).length:=by
 unfold BW
 repeat' split
 all_goals simp
def iI(z:Int):1<=(Hb z).length:=by
 unfold Hb;split<;>exact L1 _ _
def XC(x:Nat):1<=(CY x).length:=by
 unfold CY
 repeat' split
 all_goals simp
def iJ(x:Nat):1<=(Fc x).length:=by
 unfold Fc
 repeat' split
 all_goals simp
def iK(x:Nat):1<=(Fd x).length:=by
 unfold Fd
 repeat' split
 all_goals simp
def iL(x:Nat):1<=(EY x).length:=by
 unfold EY
 repeat' split
 all_goals simp
def iM(z:Int):1<=(IT z).length:=by
 unfold IT Ha GB
 repeat' split
 all_goals simp
def XD{hB hL hM hT:Nat->A1}{nt:Bool->A1}{no:A1}{nm:Int->A1}(a:∀x,1<=(hB x).length)(c:∀x,1<=(hL x).length)(e:∀x,1<=(hM x).length)(f:∀x,1<=(hT x).length)(j:∀b,1<=(nt b).length)(i:1<=no.length)(g:∀z,1<=(nm z).length):∀{k:Nat} {v:Al} {d:A2},BQ k V F v d->1<=(GC hB hL hM hT nt no nm k d).length
 |0,_,_,h=>h.elim
 |k+1,v,d,h=>by
  unfold BQ at h;unfold GC;split at h
  ·exact i
  ·exact j _
  ·exact g _
  ·rw[BK];exact C7 (f _) (Nm ..)
  ·rw[BK];exact C7 (a _) (Nm ..)
  ·rw[BK];exact C7 (c _) (Nm ..)
  ·rw[BK];exact C7 (e _) (Nm ..)
  exact h.elim
def iN(h:BQ k V F v d):1<=(CC k d).length:=XD (L1 2) (L1 4) (L1 5) (L1 3) (λb=>by cases b;exact L1 7 20;exact L1 7 21) (L1 _ _) iI h
def XE:∀(k:Nat) (W:O) (c:Nat) (F:Nat->Prop) (x:Al) (d:A2),(∀j,F j->j<c)->BQ k W F x d->QL W c x (CC k d)
 |0,_,_,_,_,_,_,h=>h.elim
 |k+1,W0,c,F,x,d,hF,h0=>by
  intro W v g P n B;have h:=h0.same (λ_ h=>h) (λj R=>P.block j (hF j R));have o:g.length<=999999999:=J
  have D:∀y a,BQ k W F y a->QL W c y (CC k a):=λy a S=>XE k W c F y a hF S;unfold BQ at h;split at h
  ·subst h;exact ie W c v g o n
  ·rename_i b
   subst h;cases b
   ·exact ii W c v g o n
   exact ig W c v g o n
  ·obtain⟨rfl,f,m⟩:=h;exact i6 W c v g _ f m o n
  ·rename_i l
   subst h;have e:(CC (k+1) (.lit (.string l))).length=_:=BK;exact ij W c v g l o J n
  ·rename_i l
   obtain⟨u,rfl,p⟩:=h;have e:(CC (k+1) (.ptr (.lit (.string l)))).length=_:=BK;exact ip W c v u F hF g l o J p n
  ·rename_i ds
   obtain⟨u,r,rfl,p,s⟩:=h;have aa:r.length=ds.length:=Ao p.1
   have at_:∀i,i<ds.length->∃x a,r[i]?=U x/\ds[i]?=U a/\BQ k W F x a:=λi q =>
    ⟨_,_,C6 J,C6 q,s i _ _ (C6 J) (C6 q)⟩
   have Q:=ME (CC k) ds λa A=>by
    obtain⟨i,q,rfl⟩:=KO A;obtain⟨x,V,f,m,w⟩:=at_ i q;rw[C6 q]at m;injection m with m;rw[m];exact iN w
   have e:(CC (k+1) (.agg ds)).length=_+(ds.flatMap (CC k)).length:=BK;exact ir (CC k) W c v u F hF g ds r B J p (λi x a f m=>D x a (s i x a f m)) (λi x C=>by
    obtain⟨x2,a,f,m,w⟩:=at_ i (Ao (Cf C));rw[C]at f;injection f with f;rw[f];exact w.iface) n
  ·rename_i es
   obtain⟨u,r,rfl,p,s⟩:=h;have Q:=ME (λe:Lit×DataW Unit=>(BW 3 (Cq e.1).length++Cq e.1)++CC k e.2) es λa A=>by
    rw[BK,BK];have:=L1 3 (Cq a.1).length;omega
   have e:(CC (k+1) (.map es)).length=_+(es.flatMap λe:Lit×DataW Unit=>(BW 3 (Cq e.1).length++Cq e.1)++CC k e.2).length:=BK;exact iG (CC k) W c v u F hF g es r B J p (λi key a f=>by
    obtain⟨l,x,H,L,N,z⟩:=s i key a f;obtain⟨t,y,rfl⟩:=z.iface;exact⟨l,t,y,H,L,N,D _ a z⟩) n
  exact h.elim
def iO(h:BQ k V F v d):1<=(GD k d).length:=XD iJ iK iL XC (λb=>by cases b<;>exact BM _) (BM _) iM h
def XF:∀(k:Nat) (W:O) (c:Nat) (F:Nat->Prop) (x:Al) (d:A2),(∀j,F j->j<c)->BQ k W F x d->QM W c x (GD k d)
 |0,_,_,_,_,_,_,h=>h.elim
 |k+1,W0,c,F,x,d,hF,h0=>by
  intro W v g P n B;have h:=h0.same (λ_ h=>h) (λj R=>P.block j (hF j R));have o:g.length<=999999999:=J
  have D:∀y a,BQ k W F y a->QM W c y (GD k a):=λy a S=>XF k W c F y a hF S;unfold BQ at h;split at h
  ·subst h;exact i7 W c v g o n
  ·rename_i b
   subst h;cases b
   ·exact ib W c v g o n
   exact i9 W c v g o n
  ·obtain⟨rfl,f,m⟩:=h;exact i5 W c v g _ f m o n
  ·rename_i l
   subst h;have e:(GD (k+1) (.lit (.string l))).length=_:=BK;exact ic W c v g l o J n
  ·rename_i l
   obtain⟨u,rfl,p⟩:=h;have e:(GD (k+1) (.ptr (.lit (.string l)))).length=_:=BK;exact iq W c v u F hF g l o J p n
  ·rename_i ds
   obtain⟨u,r,rfl,p,s⟩:=h;have aa:r.length=ds.length:=Ao p.1
   have at_:∀i,i<ds.length->∃x a,r[i]?=U x/\ds[i]?=U a/\BQ k W F x a:=λi q =>
    ⟨_,_,C6 J,C6 q,s i _ _ (C6 J) (C6 q)⟩
   have Q:=ME (GD k) ds λa A=>by
    obtain⟨i,q,rfl⟩:=KO A;obtain⟨x,V,f,m,w⟩:=at_ i q;rw[C6 q]at m;injection m with m;rw[m];exact iO w
   have e:(GD (k+1) (.agg ds)).length=_+(ds.flatMap (GD k)).length:=BK;exact iu (GD k) W c v u F hF g ds r B J p (λi x a f m=>D x a (s i x a f m)) (λi x C=>by
    obtain⟨x2,a,f,m,w⟩:=at_ i (Ao (Cf C));rw[C]at f;injection f with f;rw[f];exact w.iface) n
  ·rename_i es
   obtain⟨u,r,rfl,p,s⟩:=h;have Q:=ME (λe:Lit×DataW Unit=>(CY (Cq e.1).length++Cq e.1)++GD k e.2) es λa A=>by
    rw[BK,BK];have:=XC (Cq a.1).length;omega
   have e:(GD (k+1) (.map es)).length=_+(es.flatMap λe:Lit×DataW Unit=>(CY (Cq e.1).length++Cq e.1)++GD k e.2).length:=BK;exact iH (GD k) W c v u F hF g es r B J p (λi key a f=>by
    obtain⟨l,x,H,L,N,z⟩:=s i key a f;obtain⟨t,y,rfl⟩:=z.iface;exact⟨l,t,y,H,L,N,D _ a z⟩) n
  exact h.elim
end
section
open Go.RowKit Go.Shelf
def XZ(W:O)(N:Nat)(s:ByteArray)(pos:Nat)(b:TypeId)(a:W.heap[N]?=U (.stringIter s pos))(h:pos<s.size):(Instr.next (A8 (U ⟨N,0,Y⟩)) true b).run P W =
   .ok (Aa #[Ac true,I K pos,I .i32 (Utf8.decode s pos).1]) (W.putObj N (.stringIter s (pos+(Utf8.decode s pos).2))):=by
 simp only[Instr.next,getObj,setObj,Ei,Sem.run,a,Result.andThen,h,OO,World.putObj];simp[goInt]
def Y0(W:O)(N:Nat)(s:ByteArray)(pos:Nat)(b:TypeId)(a:W.heap[N]?=U (.stringIter s pos))(h:¬pos<s.size):(Instr.next (A8 (U ⟨N,0,Y⟩)) true b).run P W=.ok (Aa #[Ac false]) W:=by
 simp[Instr.next,getObj,Sem.run,a,h]
def NL{B:Nat}{a:O}(h:Below B a w)(b:B<=g)(o:Obj):Below B a (w.putObj g o) :=
 h.trans ⟨rfl,rfl,rfl,by simp[World.putObj],λk c=>World.putObj_heap_other J⟩
structure L6(w:World)(N:Nat)(s:ByteArray)(i:Nat)(W:World):Prop where
 below:A0 w W
 it:W.heap[N]?=some (.stringIter s i)
def L6.step(h:L6 w N s i W)(hb:A0 W W'):L6 w N s i W' :=
 ⟨h.below.trans (hb.mono h.below.size),(hb.block _ (BC h.it)).trans h.it⟩
def L6.next(h:L6 w N s i W)(a:w.heap.size<=N)(j:Nat):L6 w N s j (W.putObj N (.stringIter s j)) :=
 ⟨NL h.below a _,World.putObj_heap_same (BC h.it)⟩
def jz(r:Nat):L5 r=(decide ((r:Int)<=32)||MF (r:Int)):=by
 unfold L5 MF;rw[OD];simp only[Mq,KQ,KU];omega
def jA(s:ByteArray)(w:O)(hs:s.size<=2000)(hg:Iq w):Am X 148 #[.string s] w λe L=>e=Af (Ac (Fg s.data.toList))/\A0 w L:=by
 have hl:s.data.toList.length=s.size:=ES;have o:Am X 165 #[.string s] w λe L=>e=Af (Ac (Lib.validD s.data.toList))/\A0 w L :=
  Any.utf8_ValidString Tryz.lays196 s w J hg.tabs
 cases v:Lib.validD s.data.toList
 ·have j:Hid (Fg s.data.toList=false):=by show _=_;rw[XY,v];rfl
  rw[v]at o;go_enter func148,ntmps148
  go_wp2_with(first|(go_at_call 165;refine o.mono ?_;rintro e f ⟨rfl,d⟩))
  go_ret;exact⟨by rw[j.out];rfl,d⟩
 obtain⟨A,Q⟩:∃A,Hid (IU s.data.toList.length s.data.toList=A):=⟨_,show _=_ from rfl⟩
 have j:Hid (Fg s.data.toList=QS A):=by show _=_;rw[XY,v,Q.out];rfl
 rw[v]at o;go_enter func148,ntmps148
 go_wp2_with(first|(go_at_call 165;refine o.mono ?_;rintro e f ⟨rfl,d⟩))
 have b:Hid (L6 w f.heap.size s 0 (f.iter s 0)):=⟨d.alloc d.size _,World.iter_heap _ _ _⟩
 have hN:=d.size;generalize f.iter s 0=W0 at *;generalize f.heap.size=N at *
 go_loopg[3,5] s.size (λg ad _ wr=>∃n i:Nat,ad=I K n/\Hid (n<=i)/\Hid (i<=s.size)/\Hid (s.size<=i+g)/\Hid (L6 w N s i wr)/\Hid (A=(IU g (s.data.toList.drop i)).map (·+n)))
 case atStart =>
  refine⟨0,0,Z,BM _,DK _,AL,b,?_⟩;show _=_;rw[<-Q.out,hl,Nq];cases IU s.size s.data.toList<;>rfl
 case round =>
  obtain⟨n,i,rfl,ab,F,aa,b,B⟩:=hrel;by_cases p:i=s.size
  ·have c:Hid (Fg s.data.toList=decide (1<=n/\n<=16)):=by
    show _=_;have C:A=U n:=by
     rw[B.out,p,<-hl,KR];cases gk<;>simp[IU]
    rw[j.out,C];rfl
   have ac:=λH=>Y0 (P:=X) wr N s i H b.it J;by_cases ha:(1:Int)<=n
   ·by_cases hb:(n:Int)<=16
    ·have a:Hid (Fg s.data.toList=true):=by show _=_;rw[c.out,CH J]
     go_wp2;go_ret;exact⟨Bb,b.below⟩
    have a:Hid (Fg s.data.toList=false):=by show _=_;rw[c.out,CO J]
    go_wp2;go_ret;exact⟨Bb,b.below⟩
   have a:Hid (Fg s.data.toList=false):=by show _=_;rw[c.out,CO J]
   go_wp2;go_ret;exact⟨Bb,b.below⟩
  have hn:i<s.size:=Ao F.out
  obtain⟨g,rfl⟩:∃g,gk=g+1:=⟨gk-1,keI⟩
  have ac:=λH=>XZ (P:=X) wr N s i H b.it hn;obtain⟨r,hr⟩:∃r,(Utf8.decode s i).1=r:=⟨_,rfl⟩
  obtain⟨k,t⟩:∃k,(Utf8.decode s i).2=k:=⟨_,rfl⟩
  rw[hr,t]at ac;have S:Hid (s.data.toList.drop i=s[i]::s.data.toList.drop (i+1)):=by show _=_;rw[G7 J];rfl
  have q:=Lib.decodeL_drop s i;have R:Hid (IU (g+1) (s.data.toList.drop i)=if L5 r=true then Y else(IU g (s.data.toList.drop (i+k))).map (·+1)):=by
   show _=_;have W:(Lib.decodeL (s.data.toList.drop i)).1=r:=by rw[q];exact hr
   have p:(Lib.decodeL (s.data.toList.drop i)).2=k:=by rw[q];exact t
   rw[S.out]at W p ⊢;rw[IU,W,p,<-S.out,Hn]
  have ae:1<=k:=by have:=Lib.decodeL_width (s.data.toList.drop i);rw[q,t]at this;exact this
  have af:k<=s.size-i:=by
   have:=Lib.decodeL_le (s.data.toList.drop i) (by intro h;have:=congrArg List.length h;rw[Eb]at this;simp at this;omega);rw[q,t,Eb]at this;omega
  have V:Hid (L5 r=true->Fg s.data.toList=false):=λh=>by
   have C:A=Y:=by rw[B.out,R.out,BA h];rfl
   rw[j.out,C];rfl
  have HY:Hid (L5 r=false->A=(IU g (s.data.toList.drop (i+k))).map (·+(n+1))):=λh=>by
   rw[B.out,R.out,Bz (by rw[h];simp),Option.map_map];congr 1;funext ad;simp only[Function.comp];omega
  have y:Hid (L6 w N s (i+k) (wr.putObj N (.stringIter s (i+k)))):=b.next hN _
  have ag:n<=2000:=Aq ab.out F.out
  have l:=jz r;generalize wr.putObj N (.stringIter s (i+k))=W2 at *;by_cases x:(r:Int)<=32
  ·have c:=V.out (by rw[l,CH x];rfl);have a:=T c;go_wp2;go_ret;exact⟨Bb,y.below⟩
  have m:=jl (r:Int) J W2;rw[CO x,SQ]at l;cases u:MF (r:Int)
  ·have HT:=T (HY (by rw[l,u]));rw[u]at m
   go_wp2_with(first|(go_at_call 166;refine m.mono ?_;rintro e w3 ⟨rfl,D⟩;have z:=T (y.step D)))
   go_roundg g
   case measure=>omega
   case rel =>
    refine⟨n+1,i+k,AE,?_,?_,?_,z,HT⟩
    all_goals(show _<=_;have:=ab.out;have:=F.out;have:=aa.out;omega)
  have a:=T (V (by rw[l,u]));rw[u]at m
  go_wp2_with(first|(go_at_call 166;refine m.mono ?_;rintro e w3 ⟨rfl,D⟩;have z:=T (y.step D)))
  go_ret;exact⟨Bb,z.below⟩
end
section
open Go.RowKit
def YD(p q:Addr)(w:O):CallsD X 36 #[A8 (U p),A8 (U q)] .returning w λe c d=>e=Af (Aa #[])/\c=.returning/\d=w:=by
 refine callsD_of_wpS func36 rfl λa cs b=>?_;simp only[ntmps36,Hm,Cu,DX,Nat.reduceAdd,Nat.reduceSub,Mj,Mk,Mo,Ml,Jd,I4];apply wpS_seq;apply wpS_region;simp[wpOpsS,go_sem,recoverD,b,Exit.thenS];refine wpS_of_wp ?_;go_wp2;cases a
 simp_all[bodyPostS,results,results36]
def YE(p q:Nat)(a b x y:Int)(w:O)(c:w.cell? ⟨p,0,Y⟩=U (I K x))(d:w.cell? ⟨q,0,Y⟩=U (I K y))(o:w.frozen? ⟨p,0,Y⟩=false)(r:w.frozen? ⟨q,0,Y⟩=false)(j:p≠q):CallsD prog 36 #[A8 (U ⟨p,0,Y⟩),A8 (U ⟨q,0,Y⟩)] (.panicking [{v:=Ir a b,recovered:=false}]) w λe D g=>e=Af (Aa #[])/\D=.panicking [{v:=Ir a b,recovered:=true}] /\
   (g.cell? ⟨p,0,Y⟩=U (I K a)/\g.cell? ⟨q,0,Y⟩=U (I K b)/\∀B,B<=p->B<=q->B<=w.heap.size->Below B w g):=by
 refine callsD_of_wpS func36 rfl λL cs u=>?_;simp only[ntmps36,Hm,Cu,DX,Nat.reduceAdd,Nat.reduceSub,Mj,Mk,Mo,Ml,Jd,I4];apply wpS_seq;apply wpS_region;simp[wpOpsS,go_sem,recoverD,u,Exit.thenS,Ir];refine wpS_of_wp ?_;have k:∀w:O,(Instr.typeAssert (Ad 102 (Ab #[I K a,I K b])) 20 102 true).run prog w=.ok (Aa #[Ab #[I K a,I K b],Ac true]) w:=λw=>M
 go_wp2;have i:w.heap.size≠p/\w.heap.size≠q:=⟨by have h:p<w.heap.size:=G8 c;omega,by have h:q<w.heap.size:=G8 d;omega⟩
 have m:(w.alloc (E #[I K a,I K b] 102)).cell? ⟨p,0,Y⟩=U (I K x):=(Df w _ _ (by rw[c];rfl)).trans c;have n:(w.alloc (E #[I K a,I K b] 102)).cell? ⟨q,0,Y⟩=U (I K y):=(Df w _ _ (by rw[d];rfl)).trans d;have f:A0 w (w.alloc (E #[I K a,I K b] 102)):=BN;have N:=(f.frozen (p:=⟨p,0,Y⟩) (G8 c)).trans o;have P:=(f.frozen (p:=⟨q,0,Y⟩) (G8 d)).trans r;have F:(w.alloc (E #[I K a,I K b] 102)).cell? ⟨w.heap.size,0,Y⟩=U (I K a):=BB (BI _ _) 0;have H:(w.alloc (E #[I K a,I K b] 102)).cell? ⟨w.heap.size,1,Y⟩=U (I K b):=BB (BI _ _) 1;have l:=T f;have S:=i.1;have W:=i.2;have t:q≠p:=λe=>j e.symm;generalize w.alloc (E #[I K a,I K b] 102)=V at *
 go_region
 have z:((V.setCell ⟨p,0,Y⟩ (I K a)).setCell ⟨q,0,Y⟩ (I K b)).drew.cell? ⟨p,0,Y⟩=U (I K a):=by
  show((V.setCell ⟨p,0,Y⟩ (I K a)).setCell ⟨q,0,Y⟩ (I K b)).cell? ⟨p,0,Y⟩=_;rw[Im (w:=V.setCell ⟨p,0,Y⟩ (I K a)) (CP _ _ _ _ (by simpa using j))];exact Wj _ _ _ (by rw[m];rfl)
 have A:((V.setCell ⟨p,0,Y⟩ (I K a)).setCell ⟨q,0,Y⟩ (I K b)).drew.cell? ⟨q,0,Y⟩=U (I K b):=by
  show((V.setCell ⟨p,0,Y⟩ (I K a)).setCell ⟨q,0,Y⟩ (I K b)).cell? ⟨q,0,Y⟩=_;refine Wj _ _ _ ?_;rw[Im (w:=V) (CP _ _ _ _ Bm),n];rfl
 have C:∀B,B<=p->B<=q->B<=w.heap.size->Below B w ((V.setCell ⟨p,0,Y⟩ (I K a)).setCell ⟨q,0,Y⟩ (I K b)).drew:=λB h Q s =>
  (l.mono s).trans ⟨rfl,rfl,rfl,Bi,λaa R=>(CP _ _ _ _ Ax).trans (CP V _ _ _ Ax)⟩
 generalize((V.setCell ⟨p,0,Y⟩ (I K a)).setCell ⟨q,0,Y⟩ (I K b)).drew=X at *;exact⟨Z,_,Z,_,results_none Z _ _ _,Z,Z,z,A,C⟩
def Dv(W:World)(kt:TypeId)(m n:Nat)(f:Lit->Option Nat):Prop :=
 ∃D:A2,W.ownsMap prog kt (plainElem prog 3) m n D/\∀l,Maps.has D l=(f l).isSome/\∀v:Nat,f l=some v->D.atKey l (.lit (.int .i64 0))=.lit (.int .i64 v)
def Dv.kept{kt:TypeId}{row:Option Nat}(h:Dv W kt m n f)(c:W.grownBy W' row)(d:U m≠row):Dv W' kt m n f:=by
 obtain⟨D,a,b⟩:=h;exact⟨D,a.kept c d,b⟩
def Dv.lt{kt:TypeId}(h:Dv W kt m n f):m<W.heap.size:=by
 obtain⟨D,a,_⟩:=h;exact a.lt
def U9(W:O)(a:TypeId):Dv (W.alloc (.map #[] 0)) a W.heap.size 0 (λ_=>Y) :=
 ⟨_,Qc W X a _,λl=>⟨by simp[Maps.has],λv h=>AU⟩⟩
def Z0(W:O):(zeroValue 3).run X W=.ok (I K 0) W:=M
def Z1{kt:TypeId}{D:A2}(_h1:W.ownsMap X kt (plainElem X 3) m n D)(a:∀l,Maps.has D l=(f l).isSome/\∀v:Nat,f l=U v->D.atKey l (.lit (.int K 0))=.lit (.int K v))(kl:Lit):D.atKey kl (.lit (.int K 0))=.lit (.int K (((f kl).getD 0:Nat):Int)):=by
 cases b:f kl with
 |some v=>exact(a kl).2 v b
 |none =>
  have:=(a kl).1;rw[b]at this;exact Maps.atKey_of_not_has this _
def Pg{kt t:TypeId}(h:Dv W kt m n f)(d:Maps.Keyed X kt)(k:prog.underlying t=U (.map kt 3))(i:keyOf X kt key=U kl):(Instr.lookup t (.map (U m)) key false).run X W=.ok (I K (((f kl).getD 0:Nat):Int)) W:=by
 obtain⟨D,a,g⟩:=h;obtain⟨c,j,b,_⟩:=a.lookup_int d k underlying3 (Z0 W) i;rw[Z1 a g kl]at b;have e:(((f kl).getD 0:Nat):Int)=c:=Bj
 rw[j,e]
def Rd{kt t:TypeId}(h:Dv W kt m n f)(g:Maps.Keyed X kt)(l:prog.underlying t=U (.map kt 3))(j:keyOf X kt key=U kl):(Instr.lookup t (.map (U m)) key true).run X W=.ok (Aa #[I K (((f kl).getD 0:Nat):Int),Ac (f kl).isSome]) W:=by
 obtain⟨D,a,b⟩:=h;obtain⟨v,o,k,d⟩:=a.look_ok g l (Z0 W) (SR underlying3 Ay) j;rw[Z1 a b kl]at d;obtain⟨c,rfl,i,_⟩:=plainElem_int_inv underlying3 d;have e:(((f kl).getD 0:Nat):Int)=c:=by
  have:=congrArg Prod.fst i;simpa using this
 rw[k,(b kl).1,e]
def Z2{kt t:TypeId}(h:Dv W kt m n f)(d:Maps.Keyed X kt)(s:prog.underlying t=U (.map kt 3))(y:n<1000000000)(j:keyOf X kt key=U kl)(v:Nat)(z:v<1000000000):∃a,(Instr.mapUpdate t (.map (U m)) key (I K v)).run X W=.ok () a/\(∀c:Lit->Option Nat,c kl=U v->(∀l,l≠kl->c l=f l)->Dv a kt m (n+1) c)/\W.grownBy a (U m):=by
 obtain⟨D,i,o⟩:=h;have x:(Lit.int K (v:Int)).wf=true:=by
  have b:IntKind.i64.min = -9223372036854775808:=M
  have g:IntKind.i64.max=9223372036854775807:=M
  simp[Lit.wf,b,g];omega
 obtain⟨a,r,q,p⟩:=i.store d s AC j (SR underlying3 x);refine⟨a,r,λc b g=>⟨_,q,λl=>?_⟩,p.grown⟩;by_cases e:l=kl
 ·subst e;refine⟨(SH i.isMap (d.key j) _).trans (by rw[b];rfl),λu k=>?_⟩;have w:=EB (b.symm.trans k);rw[<-w];exact Ww i.isMap (d.key j) _ _
 rw[g l e];exact⟨(SE e _).trans (o l).1,λu k=>(Ws e _ _).trans ((o l).2 u k)⟩
def Ua:Maps.Keyed X 132:=WH U5
def Ub:Maps.Keyed X 299:=WH YS
structure Cs where
 ra:A4
 rc:Nat
 rs:List (List (Nat×A1)×Int×Int)
 dflt:Int
 lm:Nat
 ln:Nat
 lf:Lit->Option Nat
 st:Nat->Nat
 tb:Nat
 L:Nat
 tc:Nat
 tk:Nat->Nat->Nat
 nb:Nat
 mb:Nat
def Ph(q:Cs)(sv:Al):A3:=#[A7 q.ra q.rs.length q.rc,A6 .i64 q.dflt,.map (some q.lm),A6 .u16 (q.st 0),A6 .u16 (q.st 1),A6 .u16 (q.st 2),A6 .u16 (q.st 3),A6 .u16 (q.st 4),A6 .u16 (q.st 5),A6 .u16 (q.st 6),A6 .u16 (q.st 7),A6 .u16 (q.st 8),A6 .u16 (q.st 9),A6 .u16 (q.st 10),A6 .u16 (q.st 11),A6 .u16 (q.st 12),A6 .u16 (q.st 13),A6 .u16 (q.st 14),A6 .u16 (q.st 15),A7 (some ⟨q.tb,0,none⟩) q.L q.tc,sv,.map (some q.nb),.map (some q.mb)]
def Ld(x:(Nat->Nat)×Int×Int):List Al:=(BR x.1).toList++[A6 .i64 x.2.1,A6 .i64 x.2.2]
structure CZ(W0:World)(A:Nat)(q:Cs)(sts:List ((Nat->Nat)×Int×Int))(sv:Value)(nf:Lit->Option Nat)(mn:Nat)(mf:Lit->Option Nat)(W:World):Prop where
 row:W.heap[A]?=some (.cells (Ph q sv) 136)
 rules:Ib W0 q.ra q.rs
 few:q.rs.length<=16/\∀i (h:i<q.rs.length),q.rs[i].1.length<=8
 below:A0 W0 W
 letters:Dv W 9 q.lm q.ln q.lf
 takes:∃cur,W.heap[q.tb]?=some (.cells cur 132)/\∀(x r:Nat),x<q.L->r<16->cur[x*16+r]?=some (.int .u16 (q.tk x r))
 states:W.ownsRow W0.heap.size 188 18 sv sts.length (sts.flatMap Ld)
 numbers:Dv W 132 q.nb sts.length nf
 moves:Dv W 299 q.mb mn mf
 high:W0.heap.size<=A/\W0.heap.size<=q.lm/\W0.heap.size<=q.tb/\W0.heap.size<=q.nb/\W0.heap.size<=q.mb
 apart:A≠q.lm/\A≠q.tb/\A≠q.nb/\A≠q.mb/\q.lm≠q.tb/\q.lm≠q.nb/\q.lm≠q.mb/\q.tb≠q.nb/\q.tb≠q.mb/\q.nb≠q.mb
 own:∀g,sv.ownBlock=some g->g≠A/\g≠q.lm/\g≠q.tb/\g≠q.nb/\g≠q.mb
 bits:(∀r,q.st r<256)/\∀x r,q.tk x r<256
 here:∀(i:Nat) (x:(Nat->Nat)×Int×Int),sts[i]?=some x->x.2=DE q.dflt q.rs x.1 0/\∀r,x.1 r<512
 num:∀(i:Nat) (x:(Nat->Nat)×Int×Int),sts[i]?=some x->∀l,keyOf prog 132 (.agg (BR x.1))=some l->nf l=some i
 num':∀(l:Lit) (i:Nat),nf l=some i->∃x,sts[i]?=some x/\keyOf prog 132 (.agg (BR x.1))=some l
def Le{ev:Operand->Al}(a:TypeId)(x:Operand)(f:o.op=.load a x)(g:Nat)(i:ev x=A8 (U ⟨g,0,Y⟩))(t:TypeId)(cs:A3)(b:Nat×Nat)(d:TypeDesc)(e:W.heap[g]?=U (E cs t b))(h:P.underlying a=U d)(c:(match d with|.struct _|.array _ _=>true|_=>false)=true)(hi:(P.info? a).map (·.size)=U cs.size):(execOp ev o).run P W=.ok (.value (.agg cs)) W:=by
 unfold execOp;simp only[f,i,Instr.loadAt,Instr.sureAddr,Ei,Fq,EA,I5 W g t a cs b d e h c hi]
def mw(n:O)(A:Nat)(q:Cs)(g:List ((Nat->Nat)×Int×Int))(v:Al)(f:Lit->Option Nat)(u:Nat)(t:Lit->Option Nat)(W:O)(h:CZ n A q g v f u t W)(a:Nat->Nat)(l:Lit)(s:keyOf X 132 (.agg (BR a))=U l)(i:Nat)(hi:f l=U i):Am X 56 #[A8 (U ⟨A,0,Y⟩),.agg (BR a)] W λe m=>e=Af (I K i)/\A0 W m:=by
 have j:Hid ((W.alloc (E (BR a) 132)).heap[W.heap.size]?=U (E (BR a) 132)):=BI _ _;have r:=BC h.row;have o:W.cell? ⟨A,21,Y⟩=U (.map (U q.nb)):=BB h.row 21;have k:=T (h.numbers.kept (Jb W (E (BR a) 132) Y) Az);go_enter func56,ntmps56;go_wp2;have b:(λc:O=>c.cell? ⟨A,21,Y⟩=U (.map (U q.nb))/\c.heap[W.heap.size]?=U (E (BR a) 132)/\Dv c 132 q.nb g.length f) {W.alloc (E (BR a) 132)with drawn:=(W.alloc (E (BR a) 132)).drawn+1}:=⟨((((C5 W.heap.size W).alloc (BM _) (E (BR a) 132)).cell (p:=⟨A,21,Y⟩) r).trans o :),j,k⟩
 refine Ec (S:=λc=>c.cell? ⟨A,21,Y⟩=U (.map (U q.nb))/\c.heap[W.heap.size]?=U (E (BR a) 132)/\Dv c 132 q.nb g.length f) M ?_;refine BE 0 10 (A8 (U ⟨A,0,Y⟩)) b ?_;refine BE 1 11 (A8 (U ⟨A,0,Y⟩)) b ?_;refine BE 2 12 (A8 (U ⟨A,21,Y⟩)) b ?_;refine BL 3 13 (.map (U q.nb)) Z (λc d=>?y3) b ?_
 case y3=>(have x:=d.1;go_simp)
 refine BL 4 14 (.agg (BR a)) Z (λc d=>?y4) b ?_
 case y4=>exact Le 132 (.tmp 3) rfl W.heap.size rfl _ _ _ _ d.2.1 underlying132 rfl (Fi a)
 refine BL 5 15 (Aa #[I K i,Ac true]) Z (λc d=>?y5) b ?_
 case y5=>(have w:=Rd d.2.2 Ua underlying128 s;rw[hi]at w;go_simp)
 refine BE 6 9 (Aa #[I K i,Ac true]) b ?_;refine BE 7 16 (I K i) b ?_;refine BE 8 17 (Ac true) b ?_;refine BE 9 5 (I K i) b ?_;refine BE 10 6 (Ac true) b ?_;refine Cv ?_;go_simp;go_wp2;go_ret;exact⟨Z,(BN).drew⟩
end
section
open Go.RowKit Go.Shelf
section
attribute[local go_sem] Oper.semAt_some
def Z7(s c:ByteArray)(w:O):Am X 85 #[.string s,.string c] w λe a =>
   e=Af (.func (.func 144) #[] #[A8 (U ⟨w.heap.size+1,0,Y⟩),A8 (U ⟨w.heap.size,0,Y⟩),A8 (U ⟨w.heap.size+1+1,0,Y⟩)]) /\
   a=((w.alloc (E #[.string s] 9)).alloc (E #[.string c] 9)).alloc (E #[I K 0] 3):=by
 go_enter func85,ntmps85;go_wp2;go_ret;exact⟨Z,Z⟩
abbrev Dk:={s:ByteArray // s.size<=2000}
def C3(x:Dk):A1:=x.1.data.toList
structure JV(k:Nat)(c:UInt8)(W:World)(r:ByteArray):Prop where
 rest:W.heap[k]?=some (.cells #[.string r] 9)
 sep:W.heap[k+1]?=some (.cells #[.string ⟨#[c]⟩] 9)
 save:W.heap[k+1+1]?=some (.cells #[.int .i64 0] 3)
def JV.keep(h:JV k c W r)(a:FJ k (k+3) W W'):JV k c W' r :=
 ⟨(a.same _ J J).trans h.rest,(a.same _ J J).trans h.sep,(a.same _ J J).trans h.save⟩
def JV.store(h:JV k c W r)(r':ByteArray):JV k c (W.setCell ⟨k,0,Y⟩ (.string r')) r' :=
 ⟨by rw[ET W _ _ _ _ _ h.rest];rfl,(CP W _ _ _ Az).trans h.sep,(CP W _ _ _ Ax).trans h.save⟩
def mO(W:O)(k o:Nat)(v:Al):W.grownBy (W.setCell ⟨k,o,Y⟩ v) (U k) :=
 ⟨rfl,rfl,rfl,AJ,λi _ a=>CP W _ _ _ (by intro e;exact a (by rw[e]))⟩
def mP(s:ByteArray)(o:Nat):(s.extract 0 o).data.toList=s.data.toList.take o:=by
 rw[SL];simp
def mQ(s:ByteArray)(o:Nat):(s.extract o s.size).data.toList=s.data.toList.drop o:=by
 exact Wz s o
def mR(s:ByteArray)(o:Nat)(h:o<=s.size):(s.extract 0 o).size=o:=by simp[Wm];omega
def Z8(s:ByteArray)(o:Nat):(s.extract o s.size).size=s.size-o:=by simp[Wm]
def Z9(n:Nat)(k:Nat)(c:UInt8)(s:Dk)(w:World)(d:JV k c w s.1):Z5 Fence.wide n prog 144 #[.pointer (some ⟨k+1,0,none⟩),.pointer (some ⟨k,0,none⟩),.pointer (some ⟨k+1+1,0,none⟩)]
   (λx:Dk=>#[.string x.1]) k (k+3) k (λxs=>xs.map C3=Cn c (C3 s)) (λpre=>∃r,Cn c (C3 s)=pre.map C3++r) w:=by
 intro ai i y W v hJ ab hY h0;have ao:=BC d.save;have a:Hid (JV k c W s.1):=⟨(v.block _ J).trans d.rest,(v.block _ J).trans d.sep,(v.block _ J).trans d.save⟩
 have S:=T hJ;have ak:=T ab;have F:Hid (∀pre x m,i pre m->YieldAt Fence.wide (n-1) prog ai #[.string x.1] m λe j =>
   (e=.returned (.bool true)/\i (pre++[x]) j/\FJ k (k+3) m j)\/(e=.returned (.bool false)/\y (pre++[x]) j)):=hY
 have R:=T h0;have al:=BB a.out.sep 0;refine callsIn_of_wp func144 Z trivial ?_ Z;simp only[ntmps144,Hm,Cu,DX,Nat.reduceAdd,Nat.reduceSub,Mj,Mk,Mo,Ml,Jd,I4]
 gi_wp2
 gi_loopg[7,8] 2001 (λaa x av wr=>∃(pre:List Dk) (r:Dk),r.1.size<aa/\Hid (Cn c (C3 s)=pre.map C3++Cn c (C3 r))/\Hid (JV k c wr r.1)/\Hid (i pre wr))
 case atStart=>exact⟨[],s,Ao s.2,rfl,a,R⟩
 case round =>
  obtain⟨pre,r,hg,A,a,D⟩:=hrel;have ac:=BB a.out.rest 0;have ad:=BB a.out.sep 0;have am:=BB a.out.save 0;rcases Int.lt_or_le (Lib.indexByte (C3 r) c) 0 with ap|ag
  ·have L:Lib.indexByte (C3 r) c = -1:=Ao (Lib.indexByte_ge (C3 r) c)
   have B:Hid (Cn c (C3 s)=pre.map C3++[C3 r]):=by show _=_;rw[A.out,mx L]
   have ae:Lib.indexByte r.1.data.toList c = -1:=L;obtain⟨fn,aj,g,l,Q,u⟩:=F.out pre r wr D.out
   gi_wp2_with fail
   refine⟨trivial,(λh=>AU),?_⟩;refine(Jg.2 (Tryz.strings_Index_one r.1 c _)).mono ?_;rintro e w2 ⟨rfl,rfl⟩
   gi_wp2
   refine⟨(λh=>AU),u.mono ?_⟩;rintro e p (⟨rfl,q,H⟩|⟨rfl,t⟩)
   ·gi_wp2
    go_end0;exact⟨⟨_,Z⟩,.inl ⟨pre++[r],by rw[B.out];simp,q⟩⟩
   gi_wp2
   go_end0;exact⟨⟨_,Z⟩,.inr ⟨pre++[r],⟨[],by rw[B.out];simp⟩,t⟩⟩
  obtain⟨o,N⟩:=Nh ag;obtain⟨af,ah⟩:=my N;have ae:Lib.indexByte r.1.data.toList c=o:=N;have aq:o<r.1.size:=by simpa[C3]using af
  have ar:=r.2;have V:Hid (Cn c (C3 s)=pre.map C3++((C3 r).take o::Cn c ((C3 r).drop (o+1)))):=by show _=_;rw[A.out,ah]
  have z:(r.1.extract 0 o).size<=2000:=by rw[mR _ _ J];omega
  have P:(r.1.extract (o+1) r.1.size).size<=2000:=by rw[Z8];omega
  have C:Hid (Cn c (C3 s)=(pre++[(⟨r.1.extract 0 o,z⟩:Dk)]).map C3++Cn c (C3 (⟨r.1.extract (o+1) r.1.size,P⟩:Dk))):=by
   show _=_;rw[V.out];simp only[G9,EU,Je,C3];rw[mP,mQ,CN];rfl
  have au:(r.1.extract (o+1) r.1.size).size<r.1.size:=by rw[Z8];omega
  obtain⟨fn,aj,g,l,Q,u⟩:=F.out pre ⟨r.1.extract 0 o,z⟩ wr D.out;dsimp only at Q
  gi_wp2_with fail
  refine⟨trivial,(λh=>AU),?_⟩;refine(Jg.2 (Tryz.strings_Index_one r.1 c _)).mono ?_;rintro e w2 ⟨rfl,rfl⟩
  gi_wp2
  refine⟨(λh=>AU),u.mono ?_⟩;rintro e p (⟨rfl,q,H⟩|⟨rfl,t⟩)
  ·have b:=T (a.out.keep H);have ac:=BB b.out.rest 0;have ad:=BB b.out.sep 0;have an:=Dx p k 0 _ _ b.out.rest;have f:=T q
   gi_wp2
   gi_roundg ((r.1.extract (o+1) r.1.size).size+1)
   case measure=>omega
   case rel=>exact⟨pre++[⟨r.1.extract 0 o,z⟩],⟨r.1.extract (o+1) r.1.size,P⟩,Qh _,C,b.out.store _,S.out _ _ _ f.out (mO p k 0 _)⟩
  have f:=T t
  gi_wp2
  refine Cc (results_none Z _ _ _) Z ?_;exact⟨⟨_,Z⟩,.inr ⟨_,⟨_,C.out⟩,f.out⟩⟩
end
section
attribute[local go_sem] Oper.semAt_some
structure Tr(N k:Nat)(W W':World):Prop where
 below:Below N W W'
 keep:KeepsOthers W W'
 mid:FJ k (k+3) W W'
def Tr.refl(N k:Nat)(W:O):Tr N k W W:=⟨C5 _ _,KeepsOthers.refl _,FJ.refl _ _ _⟩
def Tr.trans{A B C:O}(h:Tr N k A B)(g:Tr N k B C):Tr N k A C:=⟨h.below.trans g.below,h.keep.trans g.keep,h.mid.trans g.mid⟩
def Tr.alloc(N k:Nat)(W:O)(o:Obj)(a:N<=W.heap.size)(b:k+3<=W.heap.size):Tr N k W (W.alloc o) :=
 ⟨(C5 _ _).alloc a _,KeepsOthers.alloc _ _,⟨Az,λi _ h=>BT _ _ _ J⟩⟩
def Tr.set(N k:Nat)(W:O)(p:Nat)(v:Al)(c:N<=p)(e:p<k\/k+3<=p):Tr N k W (W.setCell ⟨p,0,Y⟩ v) :=
 ⟨(C5 _ _).trans ⟨rfl,rfl,rfl,AJ,λi d=>CP W _ _ _ Ax⟩,KeepsOthers.setCell _ _ _,⟨AJ,λi a b=>CP W _ _ _ Ax⟩⟩
def Tr.below'(h:A0 W W')(b:N<=W.heap.size)(d:k+3<=W.heap.size):Tr N k W W' :=
 ⟨h.mono b,⟨h.size,λi o a _=>(h.block i (BC a)).trans a⟩,⟨h.size,λi _ c=>h.block i J⟩⟩
def Tr.grown{e:TypeId}(l:W.ownsRow base e size v n xs)(a:W.grownBy W' v.ownBlock)(hb:base<=W.heap.size)(t:N<=base)(w:k+3<=base):Tr N k W W':=by
 have key:∀g,v.ownBlock=U g->base<=g:=λg h=>by
  rcases l.2 with⟨b,_⟩|⟨q,m,p,rfl,c,_⟩
  ·subst b;cases h
  cases h;exact c
 refine⟨⟨a.os,a.tape,a.output,a.size,λi u=>a.block i J (λh=>Ao (key i h.symm))⟩,KeepsOthers.of_grownBy a (λj o d f=>?_),⟨a.size,λi _ s=>a.block i J (λh=>Ao (key i h.symm))⟩⟩;rcases l.2 with⟨b,_⟩|⟨q,m,p,rfl,c,r,_⟩
 ·subst b;cases d
 cases d;rw[r]at f;cases f;rfl
structure Pi(w:World)(pre:List Dk)(c:Code)(W:World):Prop where
 ret:c=.ret
 below:A0 w W
 r0:Boxed W w.heap.size 175 (.slice none 0 0)
 r1:Boxed W (w.heap.size+1) 4 (.bool false)
 bad:8<pre.length\/pre.all (λx=>Fj (C3 x))=false
 size:w.heap.size+6<=W.heap.size
def Pi.own{pre:List Dk}{c:Code}{row:Nat}(h:Pi w pre c W)(a:W.grownBy W' (U row))(b:w.heap.size+2<=row):Pi w pre c W' :=
 ⟨h.ret,h.below.trans ⟨a.os,a.tape,a.output,a.size,λi d=>a.block i B1 B7⟩,h.r0.kept a B7,h.r1.kept a B7,h.bad,C7 h.size a.size⟩
def Za(w W:O):Tr w.heap.size (w.heap.size+3) W ((W.setCell ⟨w.heap.size,0,Y⟩ (G Y 0 0)).setCell ⟨w.heap.size+1,0,Y⟩ (Ac false)) :=
 (Tr.set _ _ W w.heap.size _ (BM _) J).trans (Tr.set _ _ _ (w.heap.size+1) _ J J)
def Id:Nat->A1
 |0=>[42]
 |1=>[42,42]
 |_=>[91,93]
def Tryz.infoSeg:(prog.info? 182).map (λi=>(i.zero,i.size,i.bytes))=U (U (Ab #[I K 0,.string ByteArray.empty]),2,24):=M
def mS(w:O)(s:ByteArray)(a:O)(b:((((((w.alloc (E #[G Y 0 0] 175)).alloc (E #[Ac false] 4)).alloc (E #[G Y 0 0] 175)).alloc (E #[.string s] 9)).alloc (E #[A9 ⟨#[47]⟩] 9)).alloc (E #[I K 0] 3))=a):JV (w.heap.size+3) 47 a s:=by
 subst b;generalize hA:((w.alloc (E #[G Y 0 0] 175)).alloc (E #[Ac false] 4)).alloc (E #[G Y 0 0] 175)=A;have c:w.heap.size+3=A.heap.size:=by rw[<-hA];simp
 rw[c];refine⟨?_,?_,?_⟩
 ·exact((BT _ _ _ Ax).trans (BT _ _ _ Az)).trans (BI A _)
 ·refine(BT _ _ _ Az).trans ?_;have:=BI (A.alloc (E #[.string s] 9)) (E #[A9 ⟨#[47]⟩] 9);rwa[BU]at this
 have:=BI ((A.alloc (E #[.string s] 9)).alloc (E #[A9 ⟨#[47]⟩] 9)) (E #[I K 0] 3);rwa[BU,BU]at this
def Kv{e:TypeId}(c:W.ownsRow base e size v n xs)(h:v.ownBlock=U g):base<=g:=by
 rcases c.2 with⟨a,_⟩|⟨i,d,f,rfl,b,_⟩
 ·subst a;cases h
 cases h;exact b
def Uj{x:Dk}(h:(x.1.toList==Id i)=true):Fj (C3 x)=true:=by
 have e:C3 x=Id i:=by unfold C3;rw[<-Ga];exact Mw h
 rw[e];unfold Fj
 match i with
 |0=>simp[Id]
 |1=>simp[Id]
 |_+2=>simp[Id]
def mT{x:Dk}(h:∀i,i<3->(x.1.toList==Id i)=false):Fj (C3 x)=Fg x.1.data.toList:=by
 have e:C3 x=x.1.toList:=by unfold C3;rw[<-Ga]
 have a:=h 0 J;have b:=h 1 J;have c:=h 2 J;simp only[Id]at a b c;unfold Fj;rw[e,a,b,c,Ga];simp
def Rl(w:O)(o:Obj)(cs:A3)(t:TypeId):∀(j:Nat) (u:Al),cs.toList[j]?=U u->((w.alloc o).alloc (E cs t)).cell? ((⟨w.heap.size+1,0,Y⟩:Addr).add j)=U u:=λj u a=>by
 have:=F7 ((w.alloc o).alloc (E cs t)) (w.heap.size+1) j cs t (0,0) (by have:=BI (w.alloc o) (E cs t);rwa[BU]at this);rw[MA,DY,this];simpa using a
def mU(w:O)(cs:A3)(t:TypeId):∀(j:Nat) (u:Al),cs.toList[j]?=U u->(w.alloc (E cs t)).cell? ((⟨w.heap.size,0,Y⟩:Addr).add j)=U u:=λj u a=>by
 rw[MA,DY,F7 _ _ _ _ _ _ (BI _ _)];simpa using a
def mV{hs:s.size<=2000}{xs:List Dk}(d:(s.toList==[46])=false)(h:xs.map C3=Cn 47 (C3 ⟨s,hs⟩))(b:xs.length<=8)(c:xs.all (λx=>Fj (C3 x))=true):Et s.data.toList=true:=by
 have a:Cn 47 s.data.toList=xs.map C3:=h.symm;unfold Et;rw[a,<-Ga,d,Eo,CH b,SV];simpa[Function.comp]using c
def mW{hs:s.size<=2000}{pre:List Dk}{r:List A1}(b:(s.toList==[46])=false)(h:Cn 47 (C3 ⟨s,hs⟩)=pre.map C3++r)(hb:8<pre.length\/pre.all (λx=>Fj (C3 x))=false):Et s.data.toList=false:=by
 have a:Cn 47 s.data.toList=pre.map C3++r:=h;unfold Et;rw[a,<-Ga,b,No,SV];rcases hb with hb|hb
 ·rw[CO (by rw[BK,Eo];omega)];simp
 have:(pre.all (Fj∘C3))=false:=hb;rw[this];simp
def mX(V:O):(Instr.index 260 (Ab #[A9 ⟨#[42]⟩,I K 0,A9 ⟨#[42,42]⟩,I K 1,A9 ⟨#[91,93]⟩,I K 2]) (I K 0)).run X V=.ok (Ab #[A9 ⟨#[42]⟩,I K 0]) V:=M
def mY(V:O):(Instr.index 260 (Ab #[A9 ⟨#[42]⟩,I K 0,A9 ⟨#[42,42]⟩,I K 1,A9 ⟨#[91,93]⟩,I K 2]) (I K 1)).run X V=.ok (Ab #[A9 ⟨#[42,42]⟩,I K 1]) V:=M
def mZ(V:O):(Instr.index 260 (Ab #[A9 ⟨#[42]⟩,I K 0,A9 ⟨#[42,42]⟩,I K 1,A9 ⟨#[91,93]⟩,I K 2]) (I K 2)).run X V=.ok (Ab #[A9 ⟨#[91,93]⟩,I K 2]) V:=M
def n7{F:Fence}{md:Region.Mode}{ops:Array Oper}{fuel:Nat}{listed:Array Bool}(L:Array Bool)(b:Nat)(c:O->List (Nat×Al))(T:O->Prop)(d:O->O)(e:(∀V,T V->wpAnyIn F n P md ops Q b L ((c V).foldl (λa p=>a.put (U p.1) p.2) a) (d V))->wpAnyIn F n P md ops Q fuel listed a w)(f:∀V,T V->wpAnyIn F n P md ops Q b L ((c V).foldl (λa p=>a.put (U p.1) p.2) a) (d V)):wpAnyIn F n P md ops Q fuel listed a w:=e f
def n8{F:Fence}{nF:Nat}{K:Act->O->Prop}(s x:Operand)(t:TypeId)(p:o.op=.call {callee:=.builtin .append,args:=#[s,x],argTypes:=#[t,t]})(f:Nat)(e:TypeId)(i:TypeInfo)(z:Al)(size l:Nat)(ht:P.underlying t=U (.slice e))(hi:P.info? e=U i)(hz:i.zero=U z)(W:i.size=size)(C:i.bytes=l)(ab:z.cells.size=size)(aa:0<size)(v:Al)(n:Nat)(xs:List Al)(V:a.eval s=v)(R:w.ownsRow f e size v n xs)(k:Addr)(m c:Nat)(b:List Al)(hx:a.eval x=G (U k) m c)(L:b.length=m*size)(N:∀j u,b[j]?=U u->w.cell? (k.add j)=U u)(q:∀u∈b,u.oneCell'=true)(A:n+m<=maxLen)(D:(n+m)*l<=140737488355328)(B:f<=w.heap.size)(h:∀g d,d.ownsRow f e size g (n+m) (xs++b)->w.grownBy d v.ownBlock->K (a.put o.dst g) d):o.wpIn F nF P a w K Q:=by
 obtain⟨g,d,S,r,y,_⟩:=OF (P:=P) w f t o.type e i z size l ht hi hz W C ab aa v n xs R k m c b L N q A D B;unfold Oper.wpIn;refine⟨by simp[Oper.about,p,resolve,Target.leads,Fq],?_⟩;rw[Oper.semAt_plain F _ _ (by rw[p];intro c H;cases H)];simp[execOp,p,resolve,invoke,builtin,V,hx,S,Result.andThen];exact h g d r y
end
end
section
open Go.RowKit
def Ew(l:A1):Nat×A1:=if l==[42]then(0,[])else if l==[42,42]then(1,[])else if l==[91,93]then(2,[])else(3,l)
def FK(s:Nat×A1):List Al:=[A6 .i64 s.1,A9 ⟨s.2.toArray⟩]
def GJ(l:A1):List A1:=if l==[46]then[]else Cn 47 l
def DU(l:A1):List A1×Int×Int:=match Cn 32 l with
 |[p,b,c]=>(GJ p,Km b,Ee ⟨c.toArray⟩)
 |_=>([],0,0)
def Dd(l:A1):List (List A1×Int×Int):=if l.length=0 then[]else(Cn 10 l).map DU
def DP(r:List A1×Int×Int):List (Nat×A1)×Int×Int:=(r.1.map Ew,r.2)
def ow(l:A1):(Ew l).1<=3:=by
 unfold Ew;split
 ·exact DK _
 split
 ·show(1:Nat)<=3;omega
 split
 ·show(2:Nat)<=3;omega
 exact BM _
def ox(l:A1):(Ew l).2.length<=l.length:=by
 unfold Ew;split
 ·simp
 split
 ·simp
 split
 ·simp
 exact BM _
def ZJ(h:CG n l=true):Cn 32 l=[(Lib.cut l [32]).1,(Lib.cut (Lib.cut l [32]).2.1 [32]).1,(Lib.cut (Lib.cut l [32]).2.1 [32]).2.1]:=by
 rw[<-Zh]at h;unfold Rm at h;rcases Lh 32 l with⟨f,j⟩|⟨a,r,f,_,j⟩
 ·rw[f]at h;rcases Lh 32 []with⟨c,g⟩|⟨a,r,_,c,_⟩
  ·simp[c,Gh]at h
  simp at c
 rw[f]at h ⊢;rw[j];rcases Lh 32 r with⟨c,g⟩|⟨b,q,c,_,g⟩
 ·rw[c]at h;have:Ee ⟨([]:A1).toArray⟩=0:=by rw[Uk];rfl
  simp[this]at h
 rw[c]at h ⊢;rw[g];rcases Lh 32 q with⟨k,i⟩|⟨d,e,k,i,m⟩
 ·rw[i]
 rw[i]at h;simp[Zg]at h
def ZK{p b c:A1}(h:Cn 32 l=[p,b,c]):DU l=(GJ p,Km b,Ee ⟨c.toArray⟩):=by
 unfold DU;rw[h]
def Hy(W:World)(lo:Nat)(t:TypeId)(pa:A4)(cs:List Al):Prop :=
 cs=[]\/∃b off cur fr,pa=some ⟨b,off,none⟩/\lo<=b/\W.heap[b]?=some (.cells cur t fr)/\∀j (h:j<cs.length),cur[off+j]?=some cs[j]
def Hy.kept{t:TypeId}(h:Hy W lo t pa cs)(i:∀b a c,lo<=b->W.heap[b]?=U (E a t c)->lo'<=b/\W'.heap[b]?=U (E a t c)):Hy W' lo' t pa cs:=by
 rcases h with h|⟨b,off,a,c,d,e,f,g⟩
 ·exact .inl h
 obtain⟨j,k⟩:=i b a c e f;exact .inr ⟨b,off,a,c,d,j,k,g⟩
def Hy.below{t:TypeId}(h:Hy W lo t pa cs)(hb:A0 W W'):Hy W' lo t pa cs :=
 h.kept λb _ _ c a=>⟨c,(hb.block b (BC a)).trans a⟩
def oy{e:TypeId}(h:W.ownsRow base e size v n xs)(p:lo<=base):∃f c,v=G f n c/\Hy W lo e f xs:=by
 obtain⟨o,⟨b,d⟩|⟨g,c,i,b,d,k,_,_,_,l⟩⟩:=h
 ·subst d;exact⟨Y,0,b,.inl (J9 J)⟩
 refine⟨_,_,b,.inr ⟨g,0,i,_,Z,J,k,λj m=>?_⟩⟩;have a:=congrArg (·[j]?) l;simp only[OA]at a;rw[BA J,C6 m]at a;rw[DY];simpa using a
def GK(W:World)(lo:Nat)(t:TypeId)(xs:List Al)(es:List (List Al×Nat×Int×Int)):Prop :=
 xs.length=es.length*3/\∀i (h:i<es.length),∃pa pc,xs[i*3]?=some (A7 pa es[i].2.1 pc)/\xs[i*3+1]?=some (A6 .i64 es[i].2.2.1)/\xs[i*3+2]?=some (A6 .i64 es[i].2.2.2)/\Hy W lo t pa es[i].1
def ZL(W:O)(lo:Nat)(t:TypeId):GK W lo t [] []:=⟨rfl,λi h=>keT⟩
def GK.kept{t:TypeId}(h:GK W lo t xs es)(k:∀b a c,lo<=b->W.heap[b]?=U (E a t c)->lo'<=b/\W'.heap[b]?=U (E a t c)):GK W' lo' t xs es:=by
 refine⟨h.1,λi j=>?_⟩;obtain⟨l,m,d,e,f,g⟩:=h.2 i j;exact⟨l,m,d,e,f,g.kept k⟩
def GK.below{t:TypeId}(h:GK W lo t xs es)(hb:A0 W W'):GK W' lo t xs es :=
 h.kept λb _ _ c a=>⟨c,(hb.block b (BC a)).trans a⟩
def GK.push{t:TypeId}(h:GK W lo t xs es){e:List Al×Nat×Int×Int}{pc:Nat}(j:Hy W lo t pa e.1):GK W lo t (xs++[G pa e.2.1 pc,I K e.2.2.1,I K e.2.2.2]) (es++[e]):=by
 have a:=h.1;refine⟨by simp[a];omega,λi k=>?_⟩;by_cases b:i<es.length
 ·obtain⟨m,n,c,d,f,g⟩:=h.2 i b;rw[List.getElem_append_left b];refine⟨m,n,?_,?_,?_,g⟩
  ·rw[F6 J];exact c
  ·rw[F6 J];exact d
  rw[F6 J];exact f
 have l:i=es.length:=by simp at k;omega
 subst l;rw[List.getElem_append_right (BM _)];simp only[LJ,List.getElem_cons_zero];refine⟨pa,pc,?_,?_,?_,j⟩
 ·rw[Ez J,a,LJ];rfl
 ·rw[Ez J,a,show es.length*3+1-es.length*3=1 by omega];rfl
 rw[Ez J,a,show es.length*3+2-es.length*3=2 by omega];rfl
def ZM:∀(ss:List (Nat×A1)) (j:Nat) (h:j<ss.length),(ss.flatMap FK)[j*2]?=U (I K ss[j].1)/\(ss.flatMap FK)[j*2+1]?=U (A9 ⟨ss[j].2.toArray⟩)
 |x::ss,0,_=>⟨rfl,rfl⟩
 |x::ss,j+1,h=>by
  have a:=ZM ss j B3;rw[Kc,show(j+1)*2=j*2+2 by omega];exact a
def oz(a:List (Nat×A1)):(a.flatMap FK).length=a.length*2:=by
 induction a with
 |nil=>rfl
 |cons x a b =>
  rw[Kc,BK,b,Cu];show 2+_=_;omega
def Ih(r:List (Nat×A1)×Int×Int):List Al×Nat×Int×Int:=(r.1.flatMap FK,r.1.length,r.2.1,r.2.2)
def oA{t:TypeId}{ss:List (Nat×A1)}(h:Hy W lo t pa (ss.flatMap FK)):MM W pa ss:=by
 refine⟨λi n=>?_⟩;have j:=oz ss;rcases h with h|⟨b,off,e,f,m,o,a,g⟩
 ·rw[h]at j;simp at j;omega
 obtain⟨k,l⟩:=ZM ss i n;have c:=g (i*2) J;have d:=g (i*2+1) J;rw[<-C6]at c d;refine⟨b,off,m,(BC a),?_,?_⟩
 ·rw[F7 W b _ e _ f a,c,k]
 rw[Ke,F7 W b _ e _ f a,d,l]
def oB{t:TypeId}{rs:List (List (Nat×A1)×Int×Int)}(h:W.ownsRow base 177 3 v rs.length xs)(w:GK W lo t xs (rs.map Ih)):∃a e,v=G a rs.length e/\Ib W a rs:=by
 obtain⟨z,⟨c,f⟩|⟨g,e,q,c,f,k,_,_,_,s⟩⟩:=h
 ·exact⟨Y,0,by rw[c,f],⟨λi d=>J⟩⟩
 refine⟨_,_,c,⟨λi d=>?_⟩⟩;obtain⟨x,y,m,n,o,p⟩:=w.2 i keB;have key:∀j u,xs[j]?=U u->W.cell? ⟨g,0+j,Y⟩=U u:=by
  intro j u l;have A:=Cf l;have b:=congrArg (·[j]?) s;simp only[OA]at b;rw[BA J,l]at b;rw[DY,F7 W g j q _ _ k];simpa using b
 have r:(rs.map Ih)[i]'keB=Ih rs[i]:=Az
 rw[r]at m n o p;exact⟨g,0,x,y,Z,(BC k),key _ _ m,by have:=key _ _ n;rwa[DY]at this ⊢,by have:=key _ _ o;rwa[DY]at this ⊢,oA p⟩
end
end Go.Proofs.YtnlnjkggkbbdhaaGreatDoor
