import Derived.DeepKeys5
import Derived.RangeFuncBound
import Derived.RangeFuncCalls
import Derived.OwnWalkIn
import Derived.TacticsInMore
import Derived.LoopNIn
import Derived.Sort.LoopGhostIn
import Derived.Test.YtaehkdnabiccnaaGreatDoorGr00
set_option maxRecDepth 100000
set_option maxHeartbeats 8000000
set_option linter.all false
namespace Go.Proofs.YtaehkdnabiccnaaGreatDoor
open Go.Proofs.Tryz
open _root_ renaming Nat->I,Int->J,Nat->AH,Int->AI,List->AJ,Bool->AK,ByteArray->AT,UInt8->AU
open Go.Value renaming int->C,slice->G,int->Ab,slice->Ac,string->Ae,tuple->Af,agg->Ag,bool->Ah,ownBlock->Ax
open Go.World renaming heap->U,setCell->AB,cell?->AC,setRow->AD,heap->Av,alloc->Az
open _root_.Array renaming size->O,size->Au,setIfInBounds->Ay
open _root_.List renaming length->K,replicate->AV,length->At,toArray->Aw
open Go.IntKind renaming i64->Y,i64->Al
open Go.RowKit renaming Hid->D
open Go renaming World->X,TypeId->AN,World->Ap,Value->Aq,Calls->Ar
open Option renaming some->H,some->An,none->Ao
open Go.Obj renaming cells->M,cells->Aj
open Go.Ending renaming returned->Ak
open Go.Proofs.Tryz renaming prog->As
open Go.RowKit.Hid renaming out->AE
open _root_.Bool renaming true->AP,false->AQ
open _root_.Decidable renaming decide->AR
variable{P:Program}{A BE N b base bcap bytes cap ecap fuel g i j k m mn n pos r rc sc tb tc x:I}{l:A1}{W W' W0 w w' w0 w2 wr:X}{p:AJ (A1×AK)}{e kt t ty:AN}{cs oarr:A3}{fr:I×I}{a ba ea ra sa:A4}{L:AJ (J×J)}{S:I->AK}{B:AJ J}{hi lo y:J}{ops:Array Oper}{rest:AJ Oper}{o:Oper}{Q:Exit->Act->X->Prop}{s:AT}{ev:Operand->Aq}{key sv v z:Aq}{st:I->I}{c:AU}{ss:AJ (I×A1)}{md:Region.Mode}{rs:AJ (AJ (I×A1)×J×J)}{V V':Ap}{f mf nf:Lit->Option I}{kl:Lit}{sts:AJ ((I->I)×J×J)}{ps:AJ AT}{news xs:AJ Aq}{F:Fence}
section
open Go.RowKit Go.Deep Go.Shelf
def FC(n k:AH)(m:AH->AH->AK)(l h:AH):AH->AH->AK:=λi j=>m i j||(AR (j<n/\(i<l\/(i=l/\j<h)))&&(m i k&&m k j))
def Hn(n:AH):AH->(AH->AH->AK)->AH->AH->AK
 |0,m=>m
 |k+1,m=>FC n k (Hn n k m) n 0
theorem nP(n k:I)(m:I->I->AK):FC n k m 0 0=m:=by funext i j;simp[FC]
theorem nQ(n k:I)(m:I->I->AK)(l:I):FC n k m l n=FC n k m (l+1) 0:=keO
theorem aR(m:I->I->AK){l:I}(h:I):FC n k m l h i k=m i k:=keO
theorem aS(m:I->I->AK){l:I}(h:I):FC n k m l h k j=m k j:=keO
theorem nS(n k:I)(m:I->I->AK)(l h:I)(c:h<n)(a:m l k=AP)(b:m k h=AP):upd (FC n k m l h) l h AP=FC n k m l (h+1):=by grind [upd,FC]
theorem aT(n k:I)(m:I->I->AK)(l h:I)(e:(m l k&&m k h)=AQ):FC n k m l h=FC n k m l (h+1):=keO
structure ED(w W:Ap)(b n:AH)(M:AH->AH->AK):Prop where
 ac:Below b w W
 a0:W.heap[b]?=An (Aj (Dp n M) 123)
def ED.set{M:I->I->AK}(h:ED w W b n M)(hi:i<6)(a:j<6)(v:AK):ED w (AB W ⟨b,1+i*6+j,Ao⟩<|Ah v) b n (upd M i j v) :=
 ⟨h.ac.setCell (Cr _) _,by rw[DX W _ _ _ _ _ h.a0,aJ M hi a]⟩
def ED.ad{M:I->I->AK}(h:ED w W b n M):A6 W b 0<|C Y n:=Ca (Cc h.a0 0) (Hl n M).ad
def ED.aq{M:I->I->AK}(h:ED w W b n M)(hi:i<6)(a:j<6):A6 W b (1+i*6+j)<|Ah<|M i j:=Ca (Cc h.a0 _)<|(Hl n M).aq i j hi a
def ED.frozen{M:I->I->AK}(h:ED w W b n M)(j:I):W.frozen? ⟨b,j,Ao⟩=AQ:=Dy W b j _ _ h.a0
theorem ED.drew{M:I->I->AK}(h:ED w W b n M):ED w W.drew b n M:=⟨h.ac.drew,h.a0⟩
theorem nT{m:I->I->AK}(hn:n<=6)(Q:A7 w b (Dp n m) 123):Ar As 170 #[A8 b] w λe R=>e=Ak (Af #[])/\ED w R b n (Hn n n m):=by
 have A:D<|ED w w b n<|Hn n 0 m:=⟨Cu _ _,Q⟩
 have s:=A.ad;go_enter func170,ntmps170;go_wp2
 go_loopg[9,2] n (λg x y wr=>∃k:I,D (k+g=n)/\x=C Y k/\D (ED w wr b n<|Hn n k m))
 grind [D];obtain⟨k,t,rfl,z⟩:=hrel;have s:=z.ad;obtain _|g:=gk
 .have P:¬(k:J)<n:=AY<|AE t;go_wp2;go_end0;grind [D]
 have P:(k:J)<n:=AY<|AE t;have u:k<6:=E;go_wp2
 go_loopg[16,3] n (λg x y wr=>∃l:I,D (l+g=n)/\x=C Y l/\D (ED w wr b n<|FC n k (Hn n k m) l 0))
 grind [D,nP];obtain⟨l,p,rfl,r⟩:=hrel;have s:=r.ad;obtain _|F:=gk
 .have N:¬(l:J)<n:=AY<|AE p;go_wp2;go_roundg g
  .have e:l=n:=AY<|AE p;exact⟨k+1,B9,Bb,by have:=AE r;rw[e]at this;exact this⟩
  omega
 have N:(l:J)<n:=AY<|AE p;have q:l<6:=E;go_wp2
 go_loopg[23,4] n (λg x y wr=>∃h:I,D (h+g=n)/\x=C Y h/\D (ED w wr b n<|FC n k (Hn n k m) l h))
 grind [D];obtain⟨h,j,rfl,a⟩:=hrel;obtain _|i:=gk
 .have L:¬(h:J)<n:=AY<|AE j;go_wp2;go_roundg F
  .have e:h=n:=AY<|AE j;exact⟨l+1,B9,Bb,by grind [nQ]⟩
  omega
 have L:(h:J)<n:=AY<|AE j;have o:h<6:=E;have c:=a.aq q u;have c2:=a.aq u o;have B:=a.aq q o;have W:=a.frozen<|1+l*6+h;rw[aR]at c;rw[aS]at c2;generalize hM:Hn n k m=M at *;cases d:M l k
 .rw[d]at c;have v:D<|(M l k&&M k h)=AQ:=by grind [D]
  go_wp2;go_roundg i;exact⟨h+1,B9,Bb,by grind [aT]⟩;omega
 rw[d]at c;cases f:M k h
 .rw[f]at c2;have v:D<|(M l k&&M k h)=AQ:=by grind [D]
  go_wp2;go_roundg i;exact⟨h+1,B9,Bb,by grind [aT]⟩;omega
 rw[f]at c2;have S:=T d;have V:=T f;generalize hV:FC n k M l h l h=v0 at B;go_wp2;go_roundg i;exact⟨h+1,B9,Bb,by have:=a.set q o AP;grind [nS]⟩;omega
def IE{P:Program}{fn:Func}{p u:Tmp}{ty:AN}(h:fn.results=#[.cell p ty,.tmp u]){tmps:A3}{w:X}{g:I}{t:AN}{cs:A3}{fr:I×I}{d:TypeDesc}(c:tmps.getD p Go.undef=A8 g)(b:w.heap[g]?=H (M cs t fr))(e:P.underlying ty=H d)(a:(match d with|.struct _|.array _ _=>AP|_=>AQ)=AP)(hi:(P.info? ty).map (·.size)=H cs.size)(v:Aq)(f:tmps.getD u Go.undef=v):(results fn tmps).run P w=.ok (Af #[.agg cs,v]) w:=by subst f;rw[results_cell_tmp h,c];simp only[asAddr,Gf,G0,Jz w g t ty cs fr d b e a hi]
structure G3(w:Ap)(a:A4)(L:AJ (AI×AI)):Prop where
 aq:∀i (h:i<At L),∃b off,a=An ⟨b,off,Ao⟩/\b<Au (Av w)/\AC w ⟨b,off+i*2,Ao⟩=An (Ab Al L[i].1)/\AC w ⟨b,off+i*2+1,Ao⟩=An (Ab Al L[i].2)
def G3.ac(h:G3 w a L)(hb:A0 w w'):G3 w' a L :=
 ⟨λi g=>by obtain⟨b,off,f,c,d,e⟩:=h.aq i g;exact⟨b,off,f,CQ c hb.size,Ca (hb.cell c) d,Ca (hb.cell c) e⟩⟩
def GE(n:AH)(e:AI×AI):AK:=Dg n e.1&&Dg n e.2 && !(e.1==e.2)
def LR(k:AH):AH->AH->AK:=λi j=>AR<|i=j/\i<k
def nU(k:I):upd (LR k) k k AP=LR (k+1):=by
 funext i j;unfold upd LR;by_cases c:i=k/\j=k
 .obtain⟨rfl,rfl⟩:=c;simp
 rw[Cl c];exact decide_eq_decide.2 E
def nV:LR 0=λ_ _=>AQ:=by funext i j;simp[LR]
def KA(m:AH->AH->AK)(e:AI×AI):AH->AH->AK:=upd m e.1.toNat e.2.toNat AP
def Kd(n:AH)(L:AJ<|AI×AI):AH->AH->AK:=L.foldl KA<|LR n
def nW(n:I)(L:AJ<|J×J)(h:k<K L):Kd n (L.take<|k+1)=KA (Kd n<|L.take k) L[k]:=by unfold Kd;rw[VA h,List.foldl_append];rfl
def Fv(n:AH)(L:AJ<|AI×AI):AK:=L.all<|GE n
def PV(h:k<K L)(e:GE n L[k]=AQ):Fv n L=AQ:=by unfold Fv;rw[VC];exact⟨_,PR h,by rw[e];decide⟩
def aU(h:∀k (h:k<K L),GE n L[k]=AP):Fv n L=AP:=by unfold Fv;rw[Hi];intro x b;obtain⟨k,a,rfl⟩:=QZ b;exact h k a
def F9(c:AI)(L:AJ<|AI×AI):AK:=AR (1<=c/\c<=6/\At L<=30)&&Fv c.toNat L
def DY(n:AH)(L:AJ<|AI×AI):AH->AH->AK:=Hn n n<|Kd n L
def Rh(n:AH)(L:AJ<|AI×AI):Aq:=if Fv n L then Af #[.agg<|Dp n<|DY n L,Ah AP]else Af #[.agg CU,Ah AQ]
theorem Ta(h:Fv n L=AQ):Rh n L=Af #[.agg CU,Ah AQ]:=by unfold Rh;rw[h];rfl
theorem aV(h:Fv n L=AP):Rh n L=Af #[.agg<|Dp n<|DY n L,Ah AP]:=by unfold Rh;rw[h];rfl
def ED.trans{M:I->I->AK}(h:ED w W b n M)(k:A0 W W'):ED w W' b n M:=by have a:=Cd h.a0;exact⟨Cs h.ac<|CG k E,Ca (Co k b a) h.a0⟩
def ED.lt{M:I->I->AK}(h:ED w W b n M):b<O (U W):=Cd h.a0
def ED.alloc{M:I->I->AK}(h:ED w W b n M)(o:Obj):ED w (Az W o) b n M:=h.trans<|(Cu _ _).alloc (Cr _) o
theorem nX(c:J)(L:AJ<|J×J)(a:A4)(cap:I)(g:K L<=maxLen)(w:X)(k:¬(1<=c/\c<=6/\K L<=30)):Ar As 135 #[C Y c,G a (K L) cap] w λe i=>e=Ak (Af #[.agg CU,Ah AQ])/\A0 w i:=by
 unfold maxLen at g;have b:D<|(Az w _).heap[O<|U w]?=H (M CU 123):=Cj _;have d:D<|CU.size=CU.size:=rfl;have key:c<1\/(1<=c/\6<c)\/(1<=c/\c<=6/\(30:J)<K L):=E;rcases key with h|⟨h,f⟩|⟨h,f,j⟩
 all_goals
  go_enter func135,ntmps135
  go_wp2_with(first
   |(refine Kz Z Z Z (O<|U w) Z ?_)
   |(refine Jh Z Z Z ?hl OM ?_;case hl=>simp)
   |(refine D8 Z 123 _ _ Z _ _ Z Z 123 CU b (DM<|Dc) d (Hm) ?_;rw[Ge]))
  refine CS (IE results135 Z b underlying123 Z (DM<|Dc) _ Z) Z ⟨Z,Cm⟩
def nY(w:X)(n:I):ED (Az w<|M CU 123) ((Az (Az w<|M CU 123)<|M CU 123).setRow (O (U w)+1)<|Dp n λ_ _=>AQ) (O (U w)+1) n<|LR 0:=by refine⟨Dq ((Cu _ _).alloc Ba _)<|Cr _,?_⟩;rw[nV];apply CR _ _ CU _ _ _;have:=Cj (Az w<|M CU 123) (o:=(M CU 123));rwa[CL]at this
def aW(h1:1<=n)(hn:n<=6)(hL:K L<=30)(hE:G3 w a L):Ar As 135 #[C Y n,G a (K L) cap] w λe w'=>e=Ak (Rh n L)/\A0 w w':=by
 have HE:=T hE;have d:D<|(Az w<|Aj CU 123).heap[O<|U w]?=H (Aj CU 123):=Cj _;have HH:D<|(Az (Az w<|Aj CU 123)<|Aj CU 123).heap[O (U w)+1]?=H (Aj CU 123):=by have:=Cj (Az w<|Aj CU 123) (o:=(Aj CU 123));rw[CL]at this;exact this
 have HZ:D<|CU.size=(Dp n λ_ _=>AQ).size:=ke0;have HT:=nY w n;have m:D<|A0 w<|Az w<|Aj CU 123:=Cm;have ao:D<|O (U<|Az w<|Aj CU 123)=O (U w)+1:=BR;generalize hW:(Az (Az w<|Aj CU 123)<|Aj CU 123).setRow (O (U w)+1) (Dp n λ_ _=>AQ)=W at HT;have HD:=T hW;have aj:=T HT;go_enter func135,ntmps135
 go_wp2_with(first
  |(refine Kz Z Z Z (O<|U w) Z ?_)
  |(refine Kz Z Z Z (O (U w)+1) ?hN ?_;case hN=>(simp only[CL,A0];done))
  |(refine Jh Z Z Z ?hl (aK n) ?_;case hl=>simp[go_sem])
  |(refine D8 Z 123 _ _ Z _ _ Z Z 123 CU HH (DM<|Dc) HZ (Hm) ?_;rw[AE HD]))
 generalize Az w (Aj CU 123)=W0 at *
 go_loopg[25,7] n (λg x y wr=>∃k:I,D (k+g=n)/\x=C Y k/\D (ED W0 wr (O (U w)+1) n<|LR k))
 exact⟨0,Bg,Z,aj⟩;obtain⟨k,N,rfl,p⟩:=hrel;obtain _|g:=gk
 .have ah:¬(k:J)<n:=AY<|AE N;have e:k=n:=AY<|AE N;subst e;go_wp2
  go_loopg[36,9] (K L) (λg x y wr=>∃q:I,D (q+g=K L)/\x=C Y q/\D (ED W0 wr (O (U w)+1) k<|Kd k<|L.take q)/\D (∀i (h:i<K L),i<q->GE k L[i]=AP))
  exact⟨0,Bg,Z,p,λi h hi=>E⟩;clear p;obtain⟨q,s,rfl,v,S⟩:=hrel;obtain _|g:=gk
  .have al:¬(q:J)<K L:=AY<|AE s;have HY:=T<|aU λi h=>S.out i h<|AY<|AE s;have ac:D<|ED W0 wr (O (U w)+1) k<|Kd k L:=by have:=AE v;rw[Nt<|AY<|AE s]at this;exact this
   clear v S;have cF:=nT hn ac.a0
   go_wp2_with(first
    |(go_at_call 170;refine Ce cF ?_;clear cF;rintro e w2 ⟨rfl,aa⟩;have c:D<|ED W0 w2 (O (U w)+1) k<|DY k L:=⟨Cs ac.ac aa.ac,aa.a0⟩;clear aa)
    |(refine CO Z 123 _ Z _ Z _ _ _ _ c.a0 underlying123 Z (DM<|Dc) ?_)
    |(refine D8 Z 123 _ _ Z _ _ Z Z 123 CU (Ca (Co c.ac _ E) d) (DM<|Dc) ke0 (Hm) ?_))
   refine CS (IE results135 Z (CR _ _ CU _ _ _<|Ca (Co c.ac _ E) d) underlying123 Z (DM<|Dc) (Ah AP) Z) Z ⟨by rw[aV HY.out],Dq (Cs m<|CG c.ac E)<|Cr _⟩
  have al:(q:J)<K L:=AY<|AE s;obtain⟨ap,off,rfl,ah,e1,e2⟩:=(HE.ac<|Cs m<|(CG v.ac E)).aq q E;have V:D<|(Az wr<|Aj #[C Y L[q].1,C Y L[q].2] 119).heap[O<|U wr]?=H (Aj #[C Y L[q].1,C Y L[q].2] 119):=Cj _;have c:D<|ED W0 (Az wr<|Aj #[C Y L[q].1,C Y L[q].2] 119) (O (U w)+1) k<|Kd k<|L.take q:=v.alloc _;have f:D<|GE k L[q]=GE k (L[q].1,L[q].2):=rfl;have u:D<|Kd k (L.take<|q+1)=KA (Kd k<|L.take q) (L[q].1,L[q].2):=nW k L E;have B:=ON (Hl k<|Kd k<|L.take q).ad L[q].1<|Az wr<|Aj #[C Y L[q].1,C Y L[q].2] 119;generalize L[q].1=x at *;generalize L[q].2=y at *;generalize Kd k (L.take q)=M at *
  go_wp2_with(first
   |(refine CO Z 123 _ Z _ Z _ _ _ _ c.a0 underlying123 Z (DM<|Dc) ?_)
   |(refine F0 Z Z Z c.a0 underlying123 Z (DM<|Dc) ?_))
  refine Ce B ?_;clear B;rintro e w2 ⟨rfl,F⟩;have r:=T<|c.trans F;clear c;have c:=r;clear r;have ad:=(Cc (Ca (Co F _ Ba) V) 0)
  have ae:=(Cc (Ca (Co F _ Ba) V) 1)
  have z:=T<|Ca (Co F _ Ba) V;have c2:=ON (Hl k M).ad y w2;cases Q:Dg k x
  .have l:D<|Fv k L=AQ:=PV (k:=q) E (by rw[AE f];unfold GE;rw[Q];rfl);clear Q u f
   go_wp2_with(first
    |(refine Jh Z Z Z ?hl OM ?_;case hl=>simp)
    |(refine D8 Z 123 _ _ Z _ _ Z Z 123 CU (Ca (Co c.ac _ E) d) (DM<|Dc) Z (Hm) ?_))
   refine CS (IE results135 (g:=O<|U w) (t:=123) (cs:=CU) Z (CR _ _ CU _ _ _<|Ca (Co c.ac _ E) d) underlying123 Z (DM<|Dc) (Ah AQ) Z) Z ⟨by rw[Ta l.out],Dq (Cs m<|CG c.ac E)<|Cr _⟩
  have A:=T Q;clear Q
  go_wp2_with(first
   |(refine CO Z 123 _ Z _ Z _ _ _ _ c.a0 underlying123 Z (DM<|Dc) ?_)
   |(refine F0 Z Z Z c.a0 underlying123 Z (DM<|Dc) ?_))
  refine Ce c2 ?_;clear c2;rintro e w3 ⟨rfl,j⟩;have r:=T<|c.trans j;clear c;have c:=r;clear r;clear ad ae;have ad:=(Cc (Ca (Co j _<|Cd z) z) 0)
  have ae:=(Cc (Ca (Co j _<|Cd z) z) 1)
  cases R:Dg k y
  .have l:D<|Fv k L=AQ:=PV (k:=q) E (by rw[AE f];unfold GE;rw[R,AE A];rfl);clear R u f
   go_wp2_with(first
    |(refine Jh Z Z Z ?hl OM ?_;case hl=>simp)
    |(refine D8 Z 123 _ _ Z _ _ Z Z 123 CU (Ca (Co c.ac _ E) d) (DM<|Dc) Z (Hm) ?_))
   refine CS (IE results135 (g:=O<|U w) (t:=123) (cs:=CU) Z (CR _ _ CU _ _ _<|Ca (Co c.ac _ E) d) underlying123 Z (DM<|Dc) (Ah AQ) Z) Z ⟨by rw[Ta l.out],Dq (Cs m<|CG c.ac E)<|Cr _⟩
  .have b:=T R;clear R;cases ai:(x==y)
   .have l:D<|GE k L[q]=AP:=by show _=_;rw[AE f];unfold GE;rw[AE b,AE A,ai];rfl
    clear f;obtain⟨am,au⟩:0<=x/\x<k:=Dr A;obtain⟨an,av⟩:0<=y/\y<k:=Dr b
    go_wp2_with(first
  |(refine CO Z 123 _ Z _ Z _ _ _ _ c.a0 underlying123 Z (DM<|Dc) ?_)
  |(refine F0 Z Z Z c.a0 underlying123 Z (DM<|Dc) ?_)
  |(refine Jh Z Z Z ?hl OM ?_;case hl=>simp)
  |(refine D8 Z 123 _ _ Z _ _ Z Z 123 CU (Ca (Co c.ac _ E) d) (DM<|Dc) Z (Hm) ?_))
    obtain⟨i,rfl⟩:=PM am;obtain⟨ab,rfl⟩:=PM an;have af:i<6:=E;have ag:ab<6:=E;have ak:=c.aq af ag;have aq:=c.frozen<|1+i*6+ab;generalize M i ab=v0 at ak
    go_region
    all_goals go_wp2
    go_roundg g
    .refine⟨q+1,AZ<|AE s,Bb,?_,?_⟩
     .have:=(c.set af ag AP).drew;show ED _ _ _ _ _;rw[AE u];exact this
     intro i' h' ar;by_cases e:i'=q
     .subst e;exact l
     exact S i' h' E
    omega
   .have l:D<|Fv k L=AQ:=PV (k:=q) E (by rw[AE f];unfold GE;rw[AE b,AE A,ai];rfl);clear u f
    go_wp2_with(first
  |(refine CO Z 123 _ Z _ Z _ _ _ _ c.a0 underlying123 Z (DM<|Dc) ?_)
  |(refine F0 Z Z Z c.a0 underlying123 Z (DM<|Dc) ?_)
  |(refine Jh Z Z Z ?hl OM ?_;case hl=>simp)
  |(refine D8 Z 123 _ _ Z _ _ Z Z 123 CU (Ca (Co c.ac _ E) d) (DM<|Dc) Z (Hm) ?_))
    refine CS (IE results135 (g:=O<|U w) (t:=123) (cs:=CU) Z (CR _ _ CU _ _ _<|Ca (Co c.ac _ E) d) underlying123 Z (DM<|Dc) (Ah AQ) Z) Z ⟨by rw[Ta l.out],Dq (Cs m<|CG c.ac E)<|Cr _⟩
 have ah:(k:J)<n:=AY<|AE N;have P:k<6:=E;have B:=p.aq P P;have c2:=p.frozen<|1+k*6+k;generalize LR k k k=v0 at B;go_wp2;go_roundg g;exact⟨k+1,AZ<|AE N,Bb,by have:=p.set P P AP;rw[nU]at this;exact this⟩;omega
structure Wt(arr:A3)(n:AH)(L:AJ (AI×AI))(ea:A4)(ecap:AH):Prop where
 size:arr.size=11
 f0:arr[0]?=An (Ab Al n)
 f1:arr[1]?=An (Ac ea (At L) ecap)
def DC{arr:A3}(h:arr.size=11):(prog.info? 40).map (·.size)=H arr.size:=ke1
def OO{arr:A3}(h:arr[0]?=H (C Y n))(a:J)(w:X):Ar As 60 #[.agg arr,C Y a] w λe c=>e=Ak (Ah<|Dg n a)/\A0 w c:=by
 go_enter func60,ntmps60;go_wp2
 all_goals go_ret
 .exact⟨by simp[Dg, *],Cm⟩
 exact⟨keG,Cm⟩
def Gi(n:AH)(S:AH->AK):A3:=Aw<|(List.range n).map λk=>Ah<|S k
theorem nZ(n:I)(S:I->AK):(Gi n S).size=n:=by simp[Gi]
theorem OP(S:I->AK)(h:k<n):(Gi n S)[k]?=H (Ah<|S k):=by grind [Gi]
def GV(S:AH->AK)(k:AH):AH->AK:=λx=>if x=k then AP else S x
theorem Tb(n:I)(S:I->AK)(k:I):Ay (Gi n S) k (Ah AP)=Gi n (GV S k):=by grind [GV,Gi]
theorem aX(n:I):madeCells #[Ah AQ] n=Gi n λ_=>AQ:=by grind [madeCells,Gi]
def LS(S:AH->AK)(e:AI×AI):AH->AK:=if S e.1.toNat then GV S e.2.toNat else S
def GF(L:AJ<|AI×AI)(S:AH->AK):AH->AK:=L.foldl LS S
theorem o8(L:AJ<|J×J)(S:I->AK)(k:I)(h:k<K L):GF (L.take<|k+1) S=LS (GF (L.take k) S) L[k]:=by grind [GF,List.take_succ_eq_append_getElem]
def F2(L:AJ<|AI×AI):AH->(AH->AK)->AH->AK
 |0,S=>S
 |k+1,S=>GF L<|F2 L k S
def ES(a:AH):AH->AK:=GV (λ_=>AQ) a
def DZ(n:AH)(L:AJ<|AI×AI)(a b:AH):AK:=F2 L n (ES a) b
structure Lg(w W:Ap)(b n:AH)(S:AH->AK):Prop where
 ac:Below b w W
 a0:W.heap[b]?=An (Aj (Gi n S) 4)
def Lg.set(h:Lg w W b n S)(k:I):Lg w (AB W ⟨b,k,Ao⟩<|Ah AP) b n (GV S k) :=
 ⟨h.ac.setCell (Cr _) _,by rw[DX W _ _ _ _ _ h.a0,Tb]⟩
def Lg.aq(h:Lg w W b n S)(a:k<n):A6 W b k<|Ah<|S k:=Ca (Cc h.a0 k)<|OP S a
def Lg.frozen(h:Lg w W b n S)(k:I):W.frozen? ⟨b,k,Ao⟩=AQ:=Dy W b k _ _ h.a0
def od(h:Fv n L=AP)(c:k<K L):∃i j:I,i<n/\j<n/\L[k].1=(i:J)/\L[k].2=(j:J):=by have:=Hi.1 h _<|PR c;unfold GE at this;simp only[Fj]at this;obtain⟨⟨a,b⟩,_⟩:=this;have d:=Dr a;have e:=Dr b;exact⟨L[k].1.toNat,L[k].2.toNat,E,E,E,E⟩
theorem Wu{arr:A3}(H:Wt arr n L ea ecap)(hn:n<=6)(hL:K L<=30)(S:Fv n L=AP){a:I}(V:a<n)(hb:b<n)(R:G3 w ea L):Ar As 69 #[.agg arr,C Y a,C Y b] w λe w'=>e=Ak (Ah<|DZ n L a b)/\A0 w w':=by
 have Q:=H.f0;have f1:=H.f1;have v:=T S;have u:=T R;have ab:=λw=>run_make_row' (P:=As) 196 4 (Ah AQ) 1 underlying196 B6 Z Y Y n E E w;rw[aX]at ab;have p:D<|(Az w<|M arr 40).heap[O<|U w]?=An (M arr 40):=Cj _;have m:D<|A0 w<|Az w<|M arr 40:=Cm;have y:D<|Lg (Az w<|M arr 40) (Az (Az w<|M arr 40)<|M (Ay (Gi n λ_=>AQ) a<|Ah AP) 4) (O (U w)+1) n<|ES a:=by refine⟨(Cu _ _).alloc Ba _,?_⟩;have:=Cj (Az w<|M arr 40) (o:=(M (Ay (Gi n λ_=>AQ) a<|Ah AP) 4));rw[CL]at this;rw[this,Tb];rfl
 have ad:=OP (λ_=>AQ) V;go_enter func69,ntmps69;go_wp2;generalize Az (Az w<|M arr 40) (M (Ay (Gi n λ_=>AQ) a<|Ah AP) 4)=W1 at *;generalize Az w (M arr 40)=W0 at *
 go_loopg[8] n (λg x wr=>∃k:I,D (k+g=n)/\x=C Y k/\D (Lg W0 wr (O (U w)+1) n<|F2 L k<|ES a))
 exact⟨0,Bg,Z,y⟩;obtain⟨k,h,rfl,f⟩:=hrel;have af:=Ca (Cc (Ca (Co f.ac _ E) p) 0) Q;obtain _|g:=gk
 .have aa:¬(k:J)<n:=AY<|AE h;have e:k=n:=AY<|AE h;subst e;have W:=f.aq hb;have d:D<|F2 L k (ES a) b=DZ k L a b:=rfl;generalize F2 L k (ES a) b=v0 at W d;go_wp2;go_ret;exact⟨by rw[<-AE d];rfl,Cs m<|CG f.ac E⟩
 have aa:(k:J)<n:=AY<|AE h;go_wp2
 go_loopg[9] (K L) (λg x wr=>∃q:I,D (q+g=K L)/\x=C Y q/\D (Lg W0 wr (O (U w)+1) n<|GF (L.take q)<|F2 L k<|ES a))
 exact⟨0,Bg,Z,f⟩;obtain⟨q,l,rfl,c⟩:=hrel;have ag:=Ca (Cc (Ca (Co c.ac _ E) p) 1) f1;obtain _|t:=gk
 .have ac:¬(q:J)<K L:=AY<|AE l;go_wp2;go_roundg g
  .refine⟨k+1,B9,Bb,?_⟩;have:=AE c;rw[Nt<|AY<|AE l]at this;exact this
  omega
 have ac:(q:J)<K L:=AY<|AE l;obtain⟨i,j,hi,hj,F,N⟩:=od v (k:=q) E;obtain⟨bb,off,rfl,ae,A,B⟩:=(u.ac<|Cs m<|CG c.ac E).aq q E;have HM:D<|GF (L.take<|q+1) (F2 L k<|ES a)=if GF (L.take q) (F2 L k<|ES a) i then GV (GF (L.take q)<|F2 L k<|ES a) j else GF (L.take q) (F2 L k<|ES a):=by grind [o8,LS]
 rw[F]at A;rw[N]at B;have r:=c.aq hi;have z:=c.aq hj;have cf:=c.frozen j;cases s:GF (L.take q) (F2 L k<|ES a) i
 .rw[s]at r;have d:D<|GF (L.take<|q+1) (F2 L k<|ES a)=GF (L.take q) (F2 L k<|ES a):=B9;go_wp2;go_roundg t;exact⟨q+1,B9,Bb,by grind [D]⟩;omega
 rw[s]at r;have d:D<|GF (L.take<|q+1) (F2 L k<|ES a)=GV (GF (L.take q)<|F2 L k<|ES a) j:=B9;generalize GF (L.take q) (F2 L k<|ES a) j=v0 at z;go_wp2;go_roundg t;exact⟨q+1,B9,Bb,by show Lg _ _ _ _ _;rw[AE d];exact c.set j⟩;omega
structure G4(w:Ap)(a:A4)(B:AJ AI):Prop where
 aq:∀i,i<At B->∃b off,a=An ⟨b,off,Ao⟩/\b<Au (Av w)/\∀j (h':j<At B),AC w ⟨b,off+j,Ao⟩=An (Ab Al B[j])
def G4.ac(h:G4 w a B)(hb:A0 w w'):G4 w' a B :=
 ⟨λi f=>by obtain⟨b,off,e,c,d⟩:=h.aq i f;exact⟨b,off,e,CQ c hb.size,λj g=>Ca (hb.cell c)<|d j g⟩⟩
theorem Nz{B:I}{a:X}(h:Below B a w):Below B a<|w.drewN n:=Cs h ⟨rfl,rfl,rfl,Cr _,λ_ _=>rfl⟩
def LT(B:AJ AI)(i:AH):AI:=if i=0 then 0 else B.getD (i-1) 0
def Tc(B:AJ AI)(i:AH):AK:=AR<|LT B i<B.getD i 0/\B.getD i 0<=65536
def PW(B:AJ AI)(i:AH):AK:=AR<|1<=B.getD i 0/\B.getD i 0<=65536/\(0<i->B.getD (i-1) 0<B.getD i 0)
def I9(B:AJ AI):AK:=AR (At B<=8)&&(List.range<|At B).all (Tc B)
def IF(B:AJ AI):AK:=(List.range<|At B).all (PW B)&&AR (At B<=8)
theorem oe(B:AJ J):I9 B=IF B:=by
 unfold I9 IF;rw[Bool.and_comm];congr 1;rw[Bool.eq_iff_iff,Hi,Hi];constructor
 .intro h i c;have d:=λk a=>h k<|Hj.2 a;have g:∀k,k<K B->1<=B.getD k 0:=by
   intro k
   induction k with
   |zero=>intro a;have:=Dr<|d 0 a;grind [LT]
   |succ k l =>
    intro a;have:=Dr<|d _ a;grind [LT]
  have e:=Hj.1 c;have b:=Dr<|d i e;have f:=g i e;refine Fm ⟨f,b.2,λj=>?_⟩;grind [LT]
 intro h i c;have b:=Dr<|h i c;refine Fm ⟨?_,b.2.1⟩;grind [LT]
theorem og(cap:I)(m:K B<=maxLen)(l:G4 w a B):Ar As 93 #[G a (K B) cap] w λe r=>e=Ak (Ah<|I9 B)/\r=w:=by
 unfold maxLen at m;have f:=T l;by_cases F:K B<=8
 .have j:¬(8:J)<K B:=E;go_enter func93,ntmps93;go_wp2
  go_loopg[11,3,5] (K B) (λg x y z wr=>∃k:I,D (k+g=K B)/\x=C Y k/\y=C Y (LT B k)/\w=wr/\D (∀i,i<k->Tc B i=AP))
  exact⟨0,Bg,Z,Z,Z,λi o=>E⟩;obtain⟨k,d,rfl,rfl,rfl,t⟩:=hrel;obtain _|g:=gk
  .have q:¬(k:J)<K B:=AY<|AE d;have c:D<|I9 B=AP:=by grind [D,I9]
   go_wp2;go_ret;exact⟨by rw[AE c];rfl,rfl⟩
  have q:(k:J)<K B:=AY<|AE d;obtain⟨b,off,rfl,L,n⟩:=f.aq k E;have N:=n k E;have s:D<|B.getD k 0=B[k]:=B9;have h:D<|LT B (k+1)=B[k]:=by grind [LT]
  have u:D<|Tc B k=AR (LT B k<B[k]/\B[k]<=65536):=by grind [Tc]
  generalize B[k]=x at *;generalize LT B k=p at *;by_cases v:x<=p
  .have c:D<|I9 B=AQ:=by grind [I9]
   go_wp2;go_ret;exact⟨by rw[AE c];rfl,rfl⟩
  by_cases A:65536<x
  .have c:D<|I9 B=AQ:=by grind [I9]
   go_wp2;go_ret;exact⟨by rw[AE c];rfl,rfl⟩
  go_wp2;go_roundg g
  .refine⟨k+1,B9,Bb,by rw[AE h],Z,λi o=>?_⟩;grind [D]
  omega
 have j:(8:J)<K B:=E;have c:D<|I9 B=AQ:=by grind [I9]
 go_enter func93,ntmps93;go_wp2;go_ret;exact⟨by rw[AE c];rfl,rfl⟩
theorem oh(cap:I)(v:K B<=maxLen)(u:G4 w a B):Ar As 63 #[G a (K B) cap] w λe F=>e=Ak (Ah<|IF B)/\A0 w F:=by
 unfold maxLen at v;have p:=T u;go_enter func63,ntmps63;go_wp2
 go_loopg[3] (K B) (λg x wr=>∃k:I,D (k+g=K B)/\x=C Y k/\A0 w wr/\D (∀i,i<k->PW B i=AP))
 exact⟨0,Bg,Z,Cu _ _,λi m=>E⟩;obtain⟨k,n,rfl,d,N⟩:=hrel;obtain _|g:=gk
 .have A:¬(k:J)<K B:=AY<|AE n;have c:D<|IF B=AR ((K B:J)<=8):=by grind [D,IF]
  go_wp2;go_ret;exact⟨by rw[AE c];rfl,d⟩
 have A:(k:J)<K B:=AY<|AE n;obtain⟨b,off,rfl,Q,l⟩:=(p.ac d).aq k E;have z:=l k E;have L:D<|B.getD k 0=B[k]:=B9;have S:(0:J)<=k:=E;rcases VO k with o|o
 .subst o;rw[Nat.add_zero]at z;have q:D<|PW B 0=AR (1<=B[0]/\B[0]<=65536):=by grind [PW]
  generalize B[0]=x at *;by_cases f:x<1
  .have c:D<|IF B=AQ:=kft;go_wp2
   go_quiet (fail)
   go_wp2;go_ret;exact⟨by rw[AE c];rfl,Nz d⟩
  have r:=FO f;by_cases h:65536<x
  .have c:D<|IF B=AQ:=kft;go_wp2
   go_quiet (fail)
   go_wp2;go_ret;exact⟨by rw[AE c];rfl,Nz d⟩
  have s:=FO h;go_wp2
  go_quiet (fail)
  go_wp2;go_roundg g
  .refine⟨0+1,B9,Bb,Nz d,λi m=>?_⟩;grind [D]
  omega
 obtain⟨j,rfl⟩:∃j,k=j+1:=⟨k-1,E⟩
 have R:=l j E;have q:D<|PW B (j+1)=AR (1<=B[j+1]/\B[j+1]<=65536/\B[j]<B[j+1]):=by grind [PW]
 generalize B[j+1]=x at *;generalize B[j]=y at *;by_cases f:x<1
 .have c:D<|IF B=AQ:=kft;go_wp2
  go_quiet (fail)
  go_wp2;go_ret;exact⟨by rw[AE c];rfl,Nz d⟩
 have r:=FO f;by_cases h:65536<x
 .have c:D<|IF B=AQ:=kft;go_wp2
  go_quiet (fail)
  go_wp2;go_ret;exact⟨by rw[AE c];rfl,Nz d⟩
 have s:=FO h;by_cases t:x<=y
 .have c:D<|IF B=AQ:=kft;go_wp2
  go_quiet (fail)
  go_wp2;go_ret;exact⟨by rw[AE c];rfl,Nz d⟩
 have P:=FO t;go_wp2
 go_quiet (fail)
 go_wp2;go_roundg g
 .refine⟨j+1+1,B9,Bb,Nz d,λi m=>?_⟩;grind [D]
 omega
def IG(L:AJ<|AI×AI):AJ Aq:=L.flatMap λe=>[Ab Al e.1,Ab Al e.2]
def Es(L:AJ<|AI×AI):A3:=Aw<|IG L
theorem Ri(L:AJ<|J×J):K (IG L)=K L*2:=by induction L<;>grind [IG]
theorem Td(L:AJ<|J×J):(Es L).size=K L*2:=by simp[Es,Ri]
theorem Wv:∀(L:AJ<|J×J) (i:I) (h:i<K L),(IG L)[i*2]?=H (C Y L[i].1)/\(IG L)[i*2+1]?=H (C Y L[i].2)
 |[],i,h=>BB
 |e::L,0,_=>⟨rfl,rfl⟩
 |e::L,i+1,h=>by have a:=Wv L i Bu;grind [IG]
theorem NA(L:AJ<|J×J)(i:I)(h:i<K L):(Es L)[i*2]?=H (C Y L[i].1)/\(Es L)[i*2+1]?=H (C Y L[i].2):=by grind [Es,Wv]
theorem aY{x:J}(h:i<K L):Ay (Ay (Es L) (i*2)<|C Y x) (i*2+1) (C Y y)=Es (L.set i (x,y)):=by
 apply OC;intro k;rw[PK,PK];simp only[VD,Td];have key:k=(k/2)*2\/k=(k/2)*2+1:=E;by_cases a:k/2<K L
 .have b:=NA L _ a;have c:=NA (L.set i (x,y)) _ Bl;grind
 grind [Td]
theorem oj(n:I):madeCells #[C Y 0,C Y 0] (n*2)=Es (AV n (0,0)):=by
 apply OC;intro k;by_cases a:k<n*2
 .have g:=NA (AV n (0,0)) (k/2) B7;grind [madeCells]
 grind [size_madeCells,Td]
theorem om(A B:AJ<|J×J):IG (A++B)=IG A++IG B:=by simp[IG]
def oo(L:AJ<|J×J):∀v,v∈IG L->v.oneCell'=AP:=by intro v b;simp only[IG,aA]at b;obtain⟨e,_,a⟩:=b;simp only[IA,Mt,My]at a;rcases a with rfl|rfl<;>rfl
def ET(B:AJ AI):A3:=Aw<|B.map λx=>Ab Al x
theorem aZ(B:AJ J):(ET B).size=K B:=by simp[ET]
theorem Te(h:i<K B):(ET B)[i]?=H (C Y B[i]):=by simp[ET,h]
def be(B:AJ J)(i:I)(x:J):Ay (ET B) i (C Y x)=ET (B.set i x):=by apply PS;simp[ET,List.map_set]
theorem oq(n:I):madeCells #[C Y 0] n=ET (AV n 0):=by apply OC;grind [Te,madeCells,aZ]
theorem Ww{a:Act}{d s:Operand}{dT:AN}(p:AN)(S:o.op=.call {callee:=.builtin .copy,args:=#[d,s],argTypes:=#[dT,p]})(F:o.guard=Ao){elem:AN}(m:P.underlying dT=H (.slice elem))(z:I)(l:(P.info? elem).map (·.size)=H z)(b k:I){sp:A4}(c n:I)(y:a.eval d=G (Aa g) b k)(W:a.eval s=G sp c n){cur:A3}(B:w.heap[g]?=H (M cur t (0,0))){cs:AJ Aq}(R:K cs=Nat.min c b*z)(i:sp=Ao->Nat.min c b=0)(aa:∀e,sp=H e->∀j v,cs[j]?=H v->AC w (e.add j)=H v)(A:K cs<=cur.size)(r:∀v∈cs,v.oneCell'=AP)(h:wpList P ops Q rest (a.put o.dst<|goInt<|Nat.min c b)<|AD w g<|Aw<|cs++cur.toList.drop (K cs)):wpList P ops Q (o::rest) a w:=by
 refine LQ F λac u=>?_;have f:=run_storeCells_at P g 0 t cs 0 cur w B keH r;simp only[Gg,SU,Ka]at f;have V:(Builtin.copy_ #[dT,p] o.type #[G (Aa g) b k,G sp c n]).run P w=.ok (goInt<|Nat.min c b) (AD w g<|Aw<|cs++cur.toList.drop (K cs)):=by
  rcases hq:P.info? elem with _|ab
  .simp[hq]at l
  have L:ab.size=z:=by simpa[hq]using l
  obtain _|e:=sp
  .have q:=i Z;have x:cs=[]:=Bv;subst x;simp[Builtin.copy_,Mv m,Builtin.lenOf,Builtin.firstCells,sizeOf,typeInfo,hq,q,f]
  have N:=VP (P:=P) w e cs<|aa e Z;simp[Builtin.copy_,Mv m,Builtin.lenOf,Builtin.firstCells,sizeOf,typeInfo,hq,L,<-R,N,f]
 unfold Oper.wp;simp[execOp,S,resolve,invoke,builtin,y,W,V,Result.andThen];exact u _ _ h
def Ej(k:AH):AJ<|AI×AI:=AV k (77,77)++AV (8-k) (0,0)
def F3(k:AH):AJ AI:=AV k 77++AV (8-k) 0
theorem ot:Ej 0=AV 8 (0,0):=rfl
theorem bf(k:I)(h:k<=8):K (Ej k)=8:=by simp[Ej];omega
theorem bg(k:I)(h:k<=8):K (F3 k)=8:=by simp[F3];omega
theorem ou(k:I)(h:k<8):(Ej k).set k (77,77)=Ej (k+1):=by have:k=0\/k=1\/k=2\/k=3\/k=4\/k=5\/k=6\/k=7:=E;rcases this with rfl|rfl|rfl|rfl|rfl|rfl|rfl|rfl<;>rfl
theorem ox(k:I)(h:k<8):(F3 k).set k 77=F3 (k+1):=by have:k=0\/k=1\/k=2\/k=3\/k=4\/k=5\/k=6\/k=7:=E;rcases this with rfl|rfl|rfl|rfl|rfl|rfl|rfl|rfl<;>rfl
theorem oy{α:Type}(L R:AJ α)(k:I)(x:α):(L++R).set (K L+k) x=L++R.set k x:=B9
def FQ:A3:=#[Ab Al 0,Ac Ao 0 0,Ab Al 0,.string ByteArray.empty,Ab Al 0,Ab Al 0,Ab Al 0,Ab Al 0,Ab Al 0,Ab Al 0,Ac Ao 0 0]
def oz{ρ:Operand->Aq}(a:o.op=.alloc 40):(execOp ρ o).run As w=.ok (.value<|A8<|O<|U w) (Az w<|M FQ 40):=BL
def Wx{a:Act}(e:o.guard=Ao)(f:o.op=.alloc 40){d:Option Tmp}(c:o.dst=d)(N:I)(b:O (U w)=N)(h:wpList As ops Q rest (a.put d<|A8 N)<|Az w<|M FQ 40):wpList As ops Q (o::rest) a w:=by subst b;exact R8 e d c _ _ (oz f) h
def oA(h:(n+8)*16<=281474976710656)(w:X):(Instr.makeSlice 38 (C Y<|(n:J)+8)<|C Y<|(n:J)+8).run As w=.ok (G (Aa<|O<|U w) (n+8)<|n+8) (Az w<|M (Es<|AV (n+8) (0,0)) 119):=by obtain⟨i,c,a⟩:=Ox.1 (show(prog.info? 119).map (λi=>(i.zero,i.size,i.bytes))=H (H<|Ag #[C Y 0,C Y 0],2,16) by kernel_rfl);simp only[LP]at a;obtain⟨f,d,b⟩:=a;have:=T9 w 38 119 i _ underlying38 c f Y Y _ (n+8) E (OI _) kfN E;rw[this,d];have e:((n:J)+8).toNat=n+8:=E;rw[e];show Result.ok _ (Az w<|M (madeCells #[C Y 0,C Y 0]<|(n+8)*2) _)=_;rw[oj]
def oB(h:(n+8)*8<=281474976710656)(w:X):(Instr.makeSlice 25 (C Y<|(n:J)+8)<|C Y<|(n:J)+8).run As w=.ok (G (Aa<|O<|U w) (n+8)<|n+8) (Az w<|M (ET<|AV (n+8) 0) 3):=by obtain⟨i,c,a⟩:=Ox.1 (show(prog.info? 3).map (λi=>(i.zero,i.size,i.bytes))=H (H<|C Y 0,1,8) by kernel_rfl);simp only[LP]at a;obtain⟨f,d,b⟩:=a;have:=T9 w 25 3 i _ underlying25 c f Y Y _ (n+8) E (OI _) kfN E;rw[this,d];have e:((n:J)+8).toNat=n+8:=E;rw[e,T5];show Result.ok _ (Az w<|M (madeCells #[C Y 0]<|n+8) _)=_;rw[oq]
structure J3(w W:Ap)(arr:A3)(E:AJ (AI×AI))(I:AJ AI):Prop where
 ac:A0 w W
 h:W.heap[Au (Av w)]?=An (Aj arr 40)
 a:W.heap[Au (Av w)+1]?=An (Aj FQ 40)
 e:W.heap[Au (Av w)+1+1]?=An (Aj (Es E) 119)
 b:W.heap[Au (Av w)+1+1+1]?=An (Aj (ET I) 3)
theorem J3.setE{arr:A3}{E:AJ<|J×J}{I:AJ J}(h:J3 w W arr E I)(i:AH)(x y:J)(hi:i<K E):J3 w (AB (AB W ⟨O (U w)+1+1,i*2,Ao⟩<|C Y x) ⟨O (U w)+1+1,i*2+1,Ao⟩<|C Y y) arr (E.set i (x,y)) I:=by
 refine⟨(h.ac.setCell B9 _).setCell B9 _,?_,?_,?_,?_⟩
 .rw[CY _ _ _ _ B9,CY _ _ _ _ B9];exact h.h
 .rw[CY _ _ _ _ Ba,CY _ _ _ _ Ba];exact h.a
 .rw[DX _ _ _ _ _ _<|DX _ _ _ _ _ _ h.e,aY hi]
 rw[CY _ _ _ _ Ba,CY _ _ _ _ Ba];exact h.b
theorem JB(b off j:I):(⟨b,off,Ao⟩:Addr).add j=⟨b,off+j,Ao⟩:=C2
theorem oC(h:G3 W ea L):∀a,ea=H a->∀j v,(IG L)[j]?=H v->AC W (a.add j)=H v:=by intro a d j v e;have f:=Dk e;rw[Ri]at f;obtain⟨b,off,c,_,i,k⟩:=h.aq (j/2) E;rw[d]at c;cases c;rw[JB];have g:=Wv L (j/2) E;grind
theorem oD(h:G4 W ba B):∀a,ba=H a->∀j v,(B.map λx=>Value.int Y x)[j]?=H v->AC W (a.add j)=H v:=by intro a f j v g;have c:j<K B:=B9;obtain⟨b,off,e,_,d⟩:=h.aq j c;grind [JB]
theorem oE(L:AJ<|J×J):Aw (IG L++(Es<|AV (K L+8) (0,0)).toList.drop (K<|IG L))=Es (L++Ej 0):=by
 have e:AV (K L+8) ((0,0):J×J)=AV (K L) (0,0)++AV 8 (0,0):=by rw[VB]
 grind [Es,om,ot,Ri]
theorem oF(B:AJ J):Aw ((B.map λx=>Value.int Y x)++(ET<|AV (K B+8) 0).toList.drop (K<|B.map λx=>Value.int Y x))=ET (B++F3 0):=by grind [ET,F3]
theorem J3.setI{arr:A3}{E:AJ<|J×J}{I:AJ J}(h:J3 w W arr E I)(i:AH)(x:J):J3 w (AB W ⟨O (U w)+1+1+1,i,Ao⟩<|C Y x) arr E<|I.set i x:=by
 refine⟨h.ac.setCell B9 _,?_,?_,?_,?_⟩
 .rw[CY _ _ _ _ B9];exact h.h
 .rw[CY _ _ _ _ B9];exact h.a
 .rw[CY _ _ _ _ Ba];exact h.e
 rw[DX _ _ _ _ _ _ h.b,be]
theorem oG(w:X)(arr:A3)(a:AJ<|J×J)(b:AJ J):J3 w (Az (Az (Az (Az w<|M arr 40)<|M FQ 40)<|M (Es a) 119)<|M (ET b) 3) arr a b:=by refine⟨(((Cm).alloc Ba _).alloc BH _).alloc BH _,?_,?_,?_,?_⟩<;>grind [Below.heap_alloc,Cj,World.size_alloc]
def J3.ad{arr:A3}{E:AJ<|J×J}{I:AJ J}(h:J3 w W arr E I)(j:AH)(v:Aq):J3 w (AB W ⟨O<|U w,j,Ao⟩ v) (Ay arr j v) E I :=
 ⟨h.ac.setCell (Cr _) _,DX _ _ _ _ _ _ h.h,Ca (CY _ _ _ _ Ba) h.a,Ca (CY _ _ _ _ B7) h.e,Ca (CY _ _ _ _ B7) h.b⟩
structure PX(w W:Ap)(E:AJ (AI×AI))(I:AJ AI):Prop where
 ac:A0 w W
 e:W.heap[Au (Av w)+1+1]?=An (Aj (Es E) 119)
 b:W.heap[Au (Av w)+1+1+1]?=An (Aj (ET I) 3)
def J3.ai{w W:Ap}{arr:A3}{E:AJ<|J×J}{I:AJ J}(h:J3 w W arr E I)(X:A3):PX w (AD W (O (U w)+1) X) E I :=
 ⟨Dq h.ac B5,Ca (Ws B5) h.e,Ca (Ws B5) h.b⟩
theorem Tf{arr:A3}(h:arr.all (·.oneCell')=AP)(j:I)(a:v.oneCell'=AP):(Ay arr j v).all (·.oneCell')=AP:=B9
def PY{X:A3}(h:X.size=11):FQ.size=X.size:=keS
def Wy(arr:A3)(w:Ap)(ea ba:A4)(n m:AH):A3 :=
 (if ba.isSome then Ay (if ea.isSome then Ay arr 1 (Ac (Aa<|Au (Av w)+1+1) n<|n+8)else arr) 10 (Ac (Aa<|Au (Av w)+1+1+1) m<|m+8)
 else(if ea.isSome then Ay arr 1 (Ac (Aa<|Au (Av w)+1+1) n<|n+8)else arr))
theorem oH{arr:A3}(F:arr.size=11)(A:arr.all (·.oneCell')=AP)(f1:arr[1]?=H (G ea (K L) ecap))(f10:arr[10]?=H (G ba (K B) bcap))(y:ea=Ao->K L=0/\ecap=0)(u:ba=Ao->K B=0/\bcap=0)(hL:(K L+8)*16<=281474976710656)(hB:(K B+8)*8<=281474976710656)(s:G3 w ea L)(t:G4 w ba B):Ar As 25 #[.agg arr] w λe w'=>e=Ak (.agg<|Wy arr w ea ba (K L)<|K B)/\PX w w' (L++Ej 8) (B++F3 8):=by
 have q:D<|G3 (Az (Az (Az w<|M arr 40)<|M FQ 40)<|M (Es<|AV (K L+8) (0,0)) 119) ea L:=s.ac<|((Cm).alloc Ba _).alloc BH _;have r:D<|G4 (Az (Az (Az (Az w<|M arr 40)<|M FQ 40)<|M (Es<|L++Ej 0) 119)<|M (ET<|AV (K B+8) 0) 3) ba B:=t.ac<|(((Cm).alloc Ba _).alloc BH _).alloc BH _;clear s t;have ac:=oA hL;have ad:=oB hB;have S:=T F;have h:=T A;have af:=T y;have ae:=T u;clear F A y u;have o:D<|(Az (Az (Az w<|M arr 40)<|M FQ 40)<|M (Es<|AV (K L+8) (0,0)) 119).heap[O (U w)+1+1]?=H (M (Es<|AV (K L+8) (0,0)) 119):=by grind [D,Cj,World.size_alloc]
 have p:D<|(Az (Az (Az (Az w<|M arr 40)<|M FQ 40)<|M (Es<|L++Ej 0) 119)<|M (ET<|AV (K B+8) 0) 3).heap[O (U w)+1+1+1]?=H (M (ET<|AV (K B+8) 0) 3):=kfo;have m:D ((Az (Az (Az w<|M arr 40)<|M FQ 40)<|M (Es<|AV (K L+8) (0,0)) 119).setRow (O (U w)+1+1) (Aw<|IG L++(Es<|AV (K L+8) (0,0)).toList.drop (K<|IG L)) =
   Az (Az (Az w<|M arr 40)<|M FQ 40) (M (Es<|L++Ej 0) 119)):=by
  grind [D,oE,World.setRow_alloc_new,World.size_alloc]
 have n:D ((Az (Az (Az (Az w<|M arr 40)<|M FQ 40)<|M (Es<|L++Ej 0) 119)<|M (ET<|AV (K B+8) 0) 3).setRow (O (U w)+1+1+1) (Aw<|(B.map λx=>Value.int Y x)++(ET<|AV (K B+8) 0).toList.drop (K<|B.map λx=>Value.int Y x)) =
   Az (Az (Az (Az w<|M arr 40)<|M FQ 40)<|M (Es<|L++Ej 0) 119) (M (ET<|B++F3 0) 3)):=by
  show _=_;rw[oF];grind [World.setRow_alloc_new,World.size_alloc]
 have V:=T<|oG w arr (L++Ej 0)<|B++F3 0;go_enter func25,ntmps25
 go_wp2_with(first
  |(refine Wx Z Z Z (O (U w)+1) ?hN ?_;case hN=>grind [World.size_alloc])
  |(refine Ww 38 Z Z underlying38 2 B6 (K L+8) (K L+8) (K L) ecap Z Z o.out ?hn ?h1 (oC q) ?h2 (oo L) ?_;(case hn=>grind [Ri]);(case h1=>grind [D]);(case h2=>grind [Ri,Td]);rw[AE m])
  |(refine Ww 25 Z Z underlying25 1 B6 (K B+8) (K B+8) (K B) bcap Z Z p.out ?hn ?h1 (oD r) ?h2 ?h3 ?_;(case hn=>grind);(case h1=>grind [D]);(case h2=>(rw[LO,aZ];simp));(case h3=>(intro aq hv;obtain⟨x,_,rfl⟩:=Kx.1 hv;rfl));rw[AE n]))
 clear ac ad o p m n q r;generalize Az (Az (Az (Az w<|M arr 40)<|M FQ 40)<|M (Es<|L++Ej 0) 119) (M (ET<|B++F3 0) 3)=W0 at *
 go_loopg[7] 8 (λg x wr=>∃k:I,D (k+g=8)/\x=C Y k/\D (J3 w wr arr (L++Ej k)<|B++F3 k))
 grind [D];clear V;obtain⟨k,l,rfl,d⟩:=hrel;obtain _|g:=gk
 .have ab:¬(k:J)<8:=AY<|AE l;have v:k=8:=AY<|AE l;subst v;have aa:=Ca (Cc d.h 1) f1;have ah:=Ca (Cc d.h 10) f10;have ao:=λw=>ZY w 38 _ ea (K L) ecap 0 0 underlying38;have ap:=λw=>ZY w 25 3 ba (K B) bcap 0 0 underlying25;have am:=λj=>Dy wr _ j _ _ d.h;obtain _|ag:=ea
  .obtain _|W:=ba
   .have a:=T d.out;have c:D _:=S;have f:D _:=h
    go_wp2_with(first
     |(refine CO Z 40 _ Z _ Z _ _ _ _ a.h underlying40 Z (DC c) ?_)
     |(refine D8 Z 40 _ _ Z (O (U w)+1) _ Z Z 40 FQ a.a (DC c) (PY c) f ?_))
    exact CS (Lb results25 _ _ _ 40 _ _ _ Z (CR _ _ FQ _ _ _ a.a) underlying40 Z<|DC c) Z ⟨Z,a.ai _⟩
   have a:D<|J3 w _ (Ay arr 10<|G (Aa<|O (U w)+1+1+1) (K B)<|K B+8) _ _:=d.ad 10 _;have c:D<|Array.size ((Ay arr 10<|G (Aa<|O (U w)+1+1+1) (K B)<|K B+8))=11:=B9;have f:D<|Array.all ((Ay arr 10<|G (Aa<|O (U w)+1+1+1) (K B)<|K B+8)) _=AP:=Tf h 10 Z
   go_wp2_with(first
    |(refine CO Z 40 _ Z _ Z _ _ _ _ a.h underlying40 Z (DC c) ?_)
    |(refine D8 Z 40 _ _ Z (O (U w)+1) _ Z Z 40 FQ a.a (DC c) (PY c) f ?_))
   exact CS (Lb results25 _ _ _ 40 _ _ _ Z (CR _ _ FQ _ _ _ a.a) underlying40 Z<|DC c) Z ⟨Z,a.ai _⟩
  obtain _|W:=ba
  .have a:D<|J3 w _ (Ay arr 1<|G (Aa<|O (U w)+1+1) (K L)<|K L+8) _ _:=d.ad 1 _;have c:D<|Array.size ((Ay arr 1<|G (Aa<|O (U w)+1+1) (K L)<|K L+8))=11:=B9;have f:D<|Array.all ((Ay arr 1<|G (Aa<|O (U w)+1+1) (K L)<|K L+8)) _=AP:=Tf h 1 Z
   go_wp2_with(first
    |(refine CO Z 40 _ Z _ Z _ _ _ _ a.h underlying40 Z (DC c) ?_)
    |(refine D8 Z 40 _ _ Z (O (U w)+1) _ Z Z 40 FQ a.a (DC c) (PY c) f ?_))
   exact CS (Lb results25 _ _ _ 40 _ _ _ Z (CR _ _ FQ _ _ _ a.a) underlying40 Z<|DC c) Z ⟨Z,a.ai _⟩
  have a:D<|J3 w _ (Ay (Ay arr 1<|G (Aa<|O (U w)+1+1) (K L)<|K L+8) 10<|G (Aa<|O (U w)+1+1+1) (K B)<|K B+8) _ _:=(d.ad 1 _).ad 10 _;have c:D<|Array.size ((Ay (Ay arr 1<|G (Aa<|O (U w)+1+1) (K L)<|K L+8) 10<|G (Aa<|O (U w)+1+1+1) (K B)<|K B+8))=11:=B9;have f:D<|Array.all ((Ay (Ay arr 1<|G (Aa<|O (U w)+1+1) (K L)<|K L+8) 10<|G (Aa<|O (U w)+1+1+1) (K B)<|K B+8)) _=AP:=Tf (Tf h 1 Z) 10 Z
  go_wp2_with(first
   |(refine CO Z 40 _ Z _ Z _ _ _ _ a.h underlying40 Z (DC c) ?_)
   |(refine D8 Z 40 _ _ Z (O (U w)+1) _ Z Z 40 FQ a.a (DC c) (PY c) f ?_))
  exact CS (Lb results25 _ _ _ 40 _ _ _ Z (CR _ _ FQ _ _ _ a.a) underlying40 Z<|DC c) Z ⟨Z,a.ai _⟩
 have an:k<8:=AY<|AE l;have ab:(k:J)<8:=E;have i:K L+k<K (L++Ej k):=by grind [bf]
 have z:K B+k<K (B++F3 k):=by grind [bg]
 obtain⟨N,aa⟩:∃N,AC wr _=H N:=⟨_,Ca (Cc d.e _) (NA _ _ i).1⟩
 obtain⟨P,ai⟩:∃P,AC wr _=H P:=⟨_,Ca (Cc d.e _) (NA _ _ i).2⟩
 obtain⟨Q,aj⟩:∃Q,AC wr _=H Q:=⟨_,Ca (Cc d.b _)<|Te z⟩
 have ak:=λj=>Dy wr _ j _ _ d.e;have al:=λj=>Dy wr _ j _ _ d.b;have R:=T i;clear i z;go_wp2;go_roundg g
 .refine⟨k+1,B9,Bb,?_⟩;have h1:=(d.setE _ 77 77 R).setI (K B+k) 77;grind [D,ou,ox]
 omega
def Lh(D:AJ<|AI×AI)(k:AH):AJ<|AI×AI:=AV k (0,0)++D.drop k
theorem Wz(D:AJ<|J×J)(k:I)(h:k<=K D):K (Lh D k)=K D:=by simp[Lh];omega
theorem oI{D:AJ<|J×J}(h:k<K D):(Lh D k)[k]'(by grind [Wz])=D[k]:=by grind [Lh]
theorem oJ{D:AJ<|J×J}(h:k<K D):(Lh D k).set k (0,0)=Lh D (k+1):=by unfold Lh;have a:(AV k (0,0)++D.drop k).set k (0,0)=AV k (0,0)++(D.drop k).set 0 (0,0):=Ba;grind [List.drop_eq_getElem_cons,List.replicate_succ']
theorem oK:F3 8=AV 8 77:=rfl
theorem oL:Ej 8=AV 8 (77,77):=rfl
def LU(D:AJ AI)(k:AH):AJ AI:=AV k 1++D.drop k
theorem bh(D:AJ J)(k:I)(h:k<=K D):K (LU D k)=K D:=by simp[LU];omega
theorem oM{D:AJ J}(h:k<K D):(LU D k)[k]'(by grind [bh])=D[k]:=by grind [LU]
theorem oN{D:AJ J}(h:k<K D):(LU D k).set k 1=LU D (k+1):=by unfold LU;have a:(AV k 1++D.drop k).set k 1=AV k 1++(D.drop k).set 0 1:=Ba;grind [List.drop_eq_getElem_cons,List.replicate_succ']
theorem Tg(w:X)(b:I):w.grownBy w<|H b:=⟨rfl,rfl,rfl,Cr _,λ_ _ _=>rfl⟩
def WA{a:X}(h:a.grownBy w<|H b)(k:w.grownBy w'<|H b):a.grownBy w' (H b) :=
 ⟨Ca k.os h.os,Ca k.tape h.tape,Ca k.output h.output,CE h.size k.size,λi c d=>Ca (k.block i (CQ c h.size) d)<|h.block i c d⟩
def bj{a:X}(h:a.grownBy w<|H b){o:Obj}:a.grownBy (Az w o) (H b) :=
 WA h ⟨rfl,rfl,rfl,Ba,λk c _=>CB _ _ _ c⟩
def bm{a:X}(h:a.grownBy w<|H b):a.grownBy (w.drewN n)<|H b:=WA h ⟨rfl,rfl,rfl,Cr _,λ_ _ _=>rfl⟩
def PZ{a:X}(h:a.grownBy w<|H b){o:I}:a.grownBy (AB w ⟨b,o,Ao⟩ v) (H b) :=
 WA h ⟨rfl,rfl,rfl,Bd,λk _ c=>CY _ _ _ _ λe=>c<|by rw[e]⟩
def Rj{a:X}(h:a.grownBy w<|H b){B:I}(c:B<=b)(e:B<=O (U a)):Below B a w :=
 ⟨h.os,h.tape,h.output,h.size,λk d=>h.block k E B7⟩
theorem oO(B:AJ J)(ba:A4)(n:I)(a:I)(W:K B+8<=9223372036854775807)(j w:X)(u:G4 j ba B)(hb:A0 j w)(R:O (U j)<=a)(A:ba.isSome=AP)(S:A7 w a (ET<|B++F3 8) 3):Ar As 66 #[G (Aa a) (K B)<|K B+8,G ba (K B) n] w λe V=>e=Ak (Ah AP)/\w.grownBy V (H a):=by
 have q:=T u;have l:=T hb;have d:D<|A7 w a (ET<|LU (B++F3 8) 0) 3:=S;obtain⟨s,rfl⟩:=ZW.1 A;have aa:=λw=>Mo w 25 3 (H s) (K B) n 0 0 underlying25;have Q:K (B++F3 8)=K B+8:=by grind [bg]
 have r:=T Q;go_enter func66,ntmps66;go_wp2
 go_loopg[8,7,9] (K B+8) (λg x y ab wr=>∃k:I,D (k+g=K B+8)/\x=C Y k/\y=Ah AP/\D (w.grownBy wr<|H a)/\D (A7 wr a (ET<|LU (B++F3 8) k) 3))
 grind [D,Tg];obtain⟨k,p,rfl,rfl,c,d⟩:=hrel;obtain _|g:=gk
 .have P:¬(k:J)<K B+8:=AY<|AE p;go_wp2;go_ret;exact⟨Z,c⟩
 have P:(k:J)<K B+8:=AY<|AE p;have h:k<K (B++F3 8):=by rw[AE r];omega
 have f:=Ca (Cc d k) (Te<|by grind [bh]);rw[oM h]at f;have hf:=Dy wr a k _ _ d;have m:D<|(AB wr ⟨a,k,Ao⟩<|C Y 1).heap[a]?=H (M (ET<|LU (B++F3 8)<|k+1) 3):=by show _=_;rw[DX _ _ _ _ _ _ d,be,oN h]
 by_cases i:k<K B
 .have N:(k:J)<K B:=E;obtain⟨b,off,L,z,o⟩:=(q.ac<|Cs l<|Rj c R l.size).aq k i;cases L;have F:=o k i;rw[Ov i]at f;generalize B[k]=v at f F;clear o h;go_wp2;go_roundg g;exact⟨_,B9,Bb,Ba,PZ c,m⟩;omega
 have N:¬(k:J)<K B:=E;have t:(B++F3 8)[k]=77:=by grind [oK]
 rw[t]at f;go_wp2;go_roundg g;exact⟨_,B9,Bb,Ba,PZ c,m⟩;omega
theorem oP(L:AJ<|J×J)(f:A4)(r:I)(a:I)(hB:K L+8<=9223372036854775807)(m w:X)(Q:G3 m f L)(hb:A0 m w)(j:O (U m)<=a)(R:f.isSome=AP)(x:A7 w a (Es<|L++Ej 8) 119):Ar As 65 #[G (Aa a) (K L)<|K L+8,G f (K L) r] w λe w'=>e=Ak (Ah AP)/\w.grownBy w' (H a):=by
 have B:=T Q;have n:=T hb;have c:D<|A7 w a (Es<|Lh (L++Ej 8) 0) _:=x;obtain⟨N,rfl⟩:=ZW.1 R;have ah:=λw=>Mo w 38 _ (H N) (K L) r 0 0 underlying38;have z:K (L++Ej 8)=K L+8:=by grind [bf]
 have F:=T z;go_enter func65,ntmps65;go_wp2
 go_loopg[8,7,9] (K L+8) (λg aa ab ai wr=>∃k:I,D (k+g=K L+8)/\aa=C Y k/\ab=Ah AP/\D (w.grownBy wr<|H a)/\D (A7 wr a (Es<|Lh (L++Ej 8) k) 119))
 grind [D,Tg];obtain⟨k,s,rfl,rfl,d,c⟩:=hrel;have S:=Cd c;obtain _|g:=gk
 .have b:¬(k:J)<K L+8:=AY<|AE s;go_wp2;go_ret;exact⟨Z,d⟩
 have b:(k:J)<K L+8:=AY<|AE s;have t:k<K (L++Ej 8):=by rw[AE F];omega
 have h:=NA (Lh (L++Ej 8) k) k (by grind [Wz]);rw[oI t]at h;have i:=Ca (Cc c _) h.1;have l:=Ca (Cc c _) h.2;have hf:=λy=>Dy wr a y _ _ c;have p:D (∀o q,((((Az wr o).drewN q).setCell ⟨a,k*2,Ao⟩<|C Y 0).setCell ⟨a,k*2+1,Ao⟩<|C Y 0).heap[a]?=H (M (Es<|Lh (L++Ej 8)<|k+1) 119)):=by intro o q;rw[DX _ _ _ _ _ _<|DX ((Az wr o).drewN q) _ _ _ _ _<|Ca (CB wr o _ S) c,aY<|by grind [Wz],oJ t]
 by_cases A:k<K L
 .have W:(k:J)<K L:=E;obtain⟨ac,off,V,ae,af,ag⟩:=(B.ac<|Cs n<|Rj d j n.size).aq k A;cases V;rw[Ov A]at i l;generalize L[k].1=v at *;generalize L[k].2=u at *;go_wp2
  go_quiet (fail)
  go_wp2;go_roundg g;exact⟨_,B9,Bb,Z,PZ<|PZ<|bm<|bj d,p _ _⟩;omega
 have W:¬(k:J)<K L:=E;have P:(L++Ej 8)[k]=(77,77):=by grind [oL]
 rw[P]at i l;dsimp only at i l;go_wp2
 go_quiet (fail)
 go_wp2;go_roundg g;exact⟨_,B9,Bb,Z,PZ<|PZ<|bm<|bj d,p _ _⟩;omega
def oQ:Ar As 65 #[v,G Ao n cap] w λe a=>e=Ak (Ah AP)/\a=w:=by have b:=λw=>Mo w 38 _ Ao n cap 0 0 underlying38;go_enter func65,ntmps65;go_wp2;go_ret;exact⟨Z,Z⟩
def oR:Ar As 66 #[v,G Ao n cap] w λe a=>e=Ak (Ah AP)/\a=w:=by have b:=λw=>Mo w 25 3 Ao n cap 0 0 underlying25;go_enter func66,ntmps66;go_wp2;go_ret;exact⟨Z,Z⟩
theorem oS(a:I)(f:K L+8<=9223372036854775807)(d:G3 w0 ea L)(hb:A0 w0 w)(g:O (U w0)<=BE)(i:ea.isSome=AP->v=G (Aa BE) (K L) (K L+8))(h:A7 w BE (Es<|L++Ej 8) 119):Ar As 65 #[v,G ea (K L) a] w λe b=>e=Ak (Ah AP)/\w.grownBy b (H BE):=by
 obtain _|c:=ea
 .apply (oQ).mono;grind [Tg]
 grind [oP]
theorem oT(a:I)(f:K B+8<=9223372036854775807)(d:G4 w0 ba B)(hb:A0 w0 w)(g:O (U w0)<=BE)(i:ba.isSome=AP->v=G (Aa BE) (K B) (K B+8))(h:A7 w BE (ET<|B++F3 8) 3):Ar As 66 #[v,G ba (K B) a] w λe b=>e=Ak (Ah AP)/\w.grownBy b (H BE):=by
 obtain _|c:=ba
 .apply (oR).mono;grind [Tg]
 grind [oO]
theorem oU{arr:A3}{v1 v10:Aq}(f1:arr[1]?=H (G ea (K L) ecap))(f10:arr[10]?=H (G ba (K B) bcap))(R:oarr[1]?=H v1)(r:oarr[10]?=H v10)(y:K L+8<=9223372036854775807)(v:K B+8<=9223372036854775807)(u:G3 w0 ea L)(x:G4 w0 ba B)(hb:A0 w0 w)(A:ea.isSome=AP->v1=G (Aa<|O (U w0)+1+1) (K L) (K L+8))(F:ba.isSome=AP->v10=G (Aa<|O (U w0)+1+1+1) (K B) (K B+8))(h:A7 w (O (U w0)+1+1) (Es<|L++Ej 8) 119)(i:A7 w (O (U w0)+1+1+1) (ET<|B++F3 8) 3):Ar As 28 #[.agg oarr,.agg arr] w λe k=>e=Ak (Ah AP)/\Below (O<|U w0) w k/\∀j,j<O (U w)->j≠O (U w0)+1+1->j≠O (U w0)+1+1+1->k.heap[j]?=w.heap[j]?:=by
 have P:=Cd h;have Q:=Cd i;have f:Below _ w<|Az (Az w<|M oarr 40)<|M arr 40:=(Cm).alloc Ba _;have q:=oS ecap y u (Cs hb<|CG f hb.size) E A<|Ca (Co f _ P) h;have b:D<|O (U<|Az (Az w<|M oarr 40)<|M arr 40)=O (U w)+1+1:=BR;have o:D<|(Az (Az w _)<|M arr 40).heap[O<|U w]?=H (M oarr 40):=Ca (CB _ _ _ Ba)<|Cj _;have p:D<|(Az (Az w<|M oarr 40)<|M arr 40).heap[O (U w)+1]?=H (M arr 40):=kfo;have d:=T hb;have c:=T f;have l:=T x;have n:=T F;have m:=T i;go_enter func28,ntmps28
 go_wp2_with(first
  |(go_at_call 65;apply q.mono;rintro e W ⟨rfl,a⟩;have N:=a.size;rw[AE b]at N;have S:=Ca (Cc (Ca (a.block _ (by rw[AE b];omega) B7) o.out) 10) r;have V:=Ca (Cc (Ca (a.block _ (by rw[AE b];omega) B7) p.out) 10) f10;have c2:=oT bcap v l (Cs (Cs d<|CG c d.size)<|Rj a E<|by grind [D]) E n<|Ca (a.block _ (by rw[AE b];omega) Ba)<|Ca (Co c _ Q) m)
  |(go_at_call 66;apply c2.mono;rintro e w3 ⟨rfl,g⟩))
 go_ret;exact⟨Z,Cs (Cs (CG c d.size)<|Rj a E<|by grind [D])<|Rj g E E,λj z s t=>Ca (g.block j E kf5)<|Ca (a.block j (by rw[AE b];omega) keX)<|Co c j z⟩
def NB(B:AJ AI)(k:AI):AK:=B.any λx=>x==k
theorem oV{k:J}(n:K B<=maxLen)(m:G4 w a B):Ar As 5 #[G a (K B) cap,C Y k] w λe r=>e=Ak (Ah<|NB B k)/\r=w:=by
 unfold maxLen at n;have l:=T m;go_enter func5,ntmps5;go_wp2
 go_loopg[5] (K B) (λg x wr=>∃i:I,D (i+g=K B)/\x=C Y i/\w=wr/\D (∀j (h:j<K B),j<i->(B[j]==k)=AQ))
 grind [D];obtain⟨i,f,rfl,rfl,t⟩:=hrel;obtain _|g:=gk
 .have q:¬(i:J)<K B:=AY<|AE f;have d:D<|NB B k=AQ:=by grind [D,NB,List.getElem_of_mem]
  go_wp2;go_ret;exact⟨by rw[AE d];rfl,rfl⟩
 have q:(i:J)<K B:=AY<|AE f;obtain⟨b,off,rfl,z,p⟩:=l.aq i E;have o:=p i E;have u:D<|B[i]∈B:=PR _;have s:D (∀x,x=B[i]->∀(h:i<K B),(B[i]==k)=(x==k)):=λx c h=>by rw[c]
 obtain⟨x,c⟩:=IB<|B[i];have y:=T c;rw[<-c]at o;cases e:(x==k)
 .have v:=T e;go_wp2;go_roundg g
  .refine⟨i+1,B9,Bb,Z,λj h A=>?_⟩;grind [D]
  omega
 have d:D<|NB B k=AP:=by grind [NB]
 go_wp2;go_ret;exact⟨by rw[AE d];rfl,rfl⟩
structure CF where
 a:AI
 L:AJ (AI×AI)
 j:A4
 h:AH
 c:AI
 e:AT
 d:AI
 key:AI
 f:AI
 out:AI
 b:AI
 bytes:AI
 B:AJ AI
 i:A4
 g:AH
def CF.ad(c:CF):A3:=#[Ab Al c.a,Ac c.j (At c.L) c.h,Ab Al c.c,.string c.e,Ab Al c.d,Ab Al c.key,Ab Al c.f,Ab Al c.out,Ab Al c.b,Ab Al c.bytes,Ac c.i (At c.B) c.g]
def CF.size(c:CF):c.ad.size=11:=rfl
theorem CF.aq(c:CF):c.ad.all (·.oneCell')=AP:=by simp[CF.ad,Value.oneCell']
structure Fa(w:Ap)(c:CF):Prop where
 a:G3 w c.j c.L
 b:G4 w c.i c.B
 en:c.j=Ao->At c.L=0/\c.h=0
 bn:c.i=Ao->At c.B=0/\c.g=0
 eb:(At c.L+8)*16<=281474976710656
 bb:(At c.B+8)*8<=281474976710656
def Fa.ac{c:CF}(h:Fa w c)(hb:A0 w w'):Fa w' c:=⟨h.a.ac hb,h.b.ac hb,h.en,h.bn,h.eb,h.bb⟩
def CF.ai(c:CF)(w:Ap):CF :=
 {c with
  j:=if c.j.isSome then Aa (Au (Av w)+1+1)else c.j
  h:=if c.j.isSome then At c.L+8 else c.h
  i:=if c.i.isSome then Aa (Au (Av w)+1+1+1)else c.i
  g:=if c.i.isSome then At c.B+8 else c.g}
def CF.ac(c:CF)(w:X):(c.ai w).ad=Wy c.ad w c.j c.i (K c.L) (K c.B):=by unfold CF.ai CF.ad Wy;cases c.j<;>cases c.i<;>rfl
theorem bo{c:CF}(d:Fa w c)(h:PX w W (c.L++Ej 8)<|c.B++F3 8):Fa W<|c.ai w:=by
 have m:=Cd h.e;have n:=Cd h.b;refine⟨⟨λi a=>?_⟩,⟨λi a=>?_⟩,λf=>?_,λf=>?_,d.eb,d.bb⟩
 .have a:i<K c.L:=a;rcases he:c.j with _|k
  .have:=(d.en he).1;omega
  refine⟨_,0,by simp[CF.ai,he],m,?_,?_⟩
  .have g:=(NA (c.L++Ej 8) i B9).1;rw[Ov a]at g;rw[Gg];exact Ca (Cc h.e _) g
  have g:=(NA (c.L++Ej 8) i B9).2;rw[Ov a]at g;rw[Gg];exact Ca (Cc h.e _) g
 .have a:i<K c.B:=a;rcases he:c.i with _|k
  .have:=(d.bn he).1;omega
  refine⟨_,0,by simp[CF.ai,he],n,λj l=>?_⟩;have l:j<K c.B:=l;have g:=Te (B:=(c.B++F3 8)) (i:=j) B9;rw[Ov l]at g;rw[Gg];exact Ca (Cc h.b _) g
 .rcases he:c.j with _|k
  .have:=d.en he;refine⟨this.1,?_⟩;show(if c.j.isSome then K c.L+8 else c.h)=0;rw[he];exact this.2
  exfalso;have f:(if c.j.isSome then H _ else c.j)=Ao:=f;grind
 rcases he:c.i with _|k
 .have:=d.bn he;refine⟨this.1,?_⟩;show(if c.i.isSome then K c.B+8 else c.g)=0;rw[he];exact this.2
 exfalso;have f:(if c.i.isSome then H _ else c.i)=Ao:=f;grind
structure Ho(w:Ap):Prop where
 b:∃t fr,w.heap[2]?=An (Aj #[Ae ⟨#[42]⟩,Ab Al 0,Ae ⟨#[42,42]⟩,Ab Al 1,Ae ⟨#[91,93]⟩,Ab Al 2] t fr)
 a:Lib.Utf8Tabs 4 5 w
 c:∃m,AC w ⟨3,0,Ao⟩=An (Ab Al m)
def Ho.ac(h:Ho w)(hb:A0 w w'):Ho w':=by obtain⟨t,fr,a⟩:=h.b;obtain⟨m,b⟩:=h.c;exact⟨⟨t,fr,Ca (Co hb _<|Cd a) a⟩,Utf8Tabs_below h.a hb,⟨m,Ca (hb.cell<|Fk b) b⟩⟩
def bq(f:AH)(E N:CF->AI):Prop:=∀(c:CF) (w:Ap),Fa w c->Ho w->Ar As f #[.agg c.ad] w λe w'=>e=Ak (Af #[Ab Al<|E c,Ab Al<|N c])/\A0 w w'
def br(E:CF->AI):Prop:=∀(c:CF) (w:Ap),E (c.ai w)=E c
def CF.f1(c:CF):c.ad[1]?=H (G c.j (K c.L) c.h):=rfl
def CF.a0(c:CF):c.ad[10]?=H (G c.i (K c.B) c.g):=rfl
def bu{c:CF}(h:Fa w c):Ar As 25 #[.agg c.ad] w λe a=>e=Ak (.agg (c.ai w).ad)/\PX w a (c.L++Ej 8) (c.B++F3 8):=by rw[CF.ac];exact oH c.size c.aq c.f1 c.a0 h.en h.bn h.eb h.bb h.a h.b
def bw{c:CF}(h:Fa w0 c)(hb:A0 w0 w)(d:A7 w (O (U w0)+1+1) (Es<|c.L++Ej 8) 119)(f:A7 w (O (U w0)+1+1+1) (ET<|c.B++F3 8) 3):Ar As 28 #[.agg (c.ai w0).ad,.agg c.ad] w λe b=>e=Ak (Ah AP)/\Below (O<|U w0) w b/\∀j,j<O (U w)->j≠O (U w0)+1+1->j≠O (U w0)+1+1+1->b.heap[j]?=w.heap[j]?:=by
 refine oU c.f1 c.a0 (c.ai w0).f1 (c.ai w0).a0 (AY h.eb) (AY h.bb) h.a h.b hb ?_ ?_ d f
 .intro a;show Go.Value.slice (if c.j.isSome then _ else _) (K c.L) (if c.j.isSome then _ else _)=_;rw[a];rfl
 intro a;show Go.Value.slice (if c.i.isSome then _ else _) (K c.B) (if c.i.isSome then _ else _)=_;rw[a];rfl
structure FR where
 f:AI
 a:AI
 b:AI
 c:AI
 d:AI
 s:AT
 g:A4
 e:AH
 h:AH
def FR.ad(o:FR):A3:=#[Ab Al o.f,Ab Al o.a,Ab Al o.b,Ab Al o.c,Ab Al o.d,.string o.s,Ac o.g o.e o.h]
structure Rk(w W:Ap)(c:CF)(oarr:A3)(N:AH)(W0:Ap):Prop where
 ac:A0 w W
 h:W.heap[Au (Av w)]?=An (Aj c.ad 40)
 op:W.heap[Au (Av w)+1]?=An (Aj oarr 34)
 ai:W.heap[N]?=An (Aj (c.ai W0).ad 40)
 e:W.heap[Au (Av W0)+1+1]?=An (Aj (Es (c.L++Ej 8)) 119)
 b:W.heap[Au (Av W0)+1+1+1]?=An (Aj (ET (c.B++F3 8)) 3)
 ad:A0 W0 W
 d:Au (Av w)+1<Au (Av W0)
def Rk.aq{c:CF}(h:Rk w W c oarr N W0)(hb:A0 W W'):Rk w W' c oarr N W0:=by have a:=Cd h.h;have d:=Cd h.op;have f:=Cd h.ai;have g:=Cd h.e;have i:=Cd h.b;exact⟨Cs h.ac<|CG hb h.ac.size,Ca (Co hb _ a) h.h,Ca (Co hb _ d) h.op,Ca (Co hb _ f) h.ai,Ca (Co hb _ g) h.e,Ca (Co hb _ i) h.b,Cs h.ad<|CG hb h.ad.size,h.d⟩
theorem oW{c:CF}(h:PX (Az (Az w<|M c.ad 40)<|M oarr 34) w2 (c.L++Ej 8)<|c.B++F3 8):Rk w (Az w2<|M (c.ai<|Az (Az w<|M c.ad 40)<|M oarr 34).ad 40) c oarr (O<|U w2)<|Az (Az w<|M c.ad 40)<|M oarr 34:=by
 have d:=h.ac.size;have i:=Cd h.e;have j:=Cd h.b;have a:Below _ w<|Az (Az w<|M c.ad 40)<|M oarr 34:=(Cm).alloc Ba _;have k:O (U<|Az (Az w<|M c.ad 40)<|M oarr 34)=O (U w)+1+1:=Ba;have f:(Az (Az w _)<|M oarr 34).heap[O<|U w]?=H (M c.ad 40):=Ca (CB _ _ _ Ba)<|Cj _;have g:(Az (Az w<|M c.ad 40)<|M oarr 34).heap[O (U w)+1]?=H (M oarr 34):=by grind [Cj]
 generalize Az (Az w<|M c.ad 40) (M oarr 34)=W0 at *;refine⟨(Cs a<|CG h.ac E).alloc E _,?_,?_,Cj _,Ca (CB _ _ _ i) h.e,Ca (CB _ _ _ j) h.b,h.ac.alloc d _,E⟩
 .rw[CB _ _ _ E,Co h.ac _ E];exact f
 rw[CB _ _ _ E,Co h.ac _ E];exact g
def bz{l:AJ Oper}{a:Act}(b:w'=w)(h:wpList P ops Q l a w'):wpList P ops Q l a w:=b▸h
def oX{c:CF}(h:Fa w c){x y:Obj}:Fa (Az (Az w x) y) c:=h.ac<|(Cm).alloc Ba _
def bB(f:AH)(T:CF->AI->AI->AK)(E:CF->AI->AI->AI):Prop:=∀(c:CF) (a b:AI) (w:Ap),Fa w c->Ho w->Ar As f #[.agg c.ad,Ab Al a,Ab Al b] w λe w'=>e=Ak (Af #[Ah<|T c a b,Ab Al<|E c a b])/\A0 w w'
def bC{α:Type}(E:CF->AI->AI->α):Prop:=∀(c:CF) (w:Ap) (a b:AI),E (c.ai w) a b=E c a b
structure OQ(w:Ap)(a:A4)(n:AH)(g:AH->CF):Prop where
 aq:∀k,k<n->∃b off,a=An ⟨b,off,Ao⟩/\b<Au (Av w)/\∀k j,k<n->j<11->AC w ⟨b,off+k*11+j,Ao⟩=(g k).ad[j]?
 each:∀k,k<n->Fa w (g k)
def OQ.ac{g:I->CF}(h:OQ w a n g)(hb:A0 w w'):OQ w' a n g :=
 ⟨λk c=>by obtain⟨b,off,f,d,e⟩:=h.aq k c;exact⟨b,off,f,CQ d hb.size,λk j c i=>Ca (hb.cell d)<|e k j c i⟩,
 λk c=>(h.each k c).ac hb⟩
def MA(c:AI)(n:AH):AH:=((if c<0 then -(c+1)else c)%(n:AI)).toNat
def bD(c:J)(h:1<=n):MA c n<n:=by unfold MA;have a:=nk (if c<0 then -(c+1)else c) (show(n:J)≠0 by omega);have b:=Int.emod_lt_of_pos (if c<0 then -(c+1)else c) (show(0:J)<n by omega);omega
theorem bE{c:J}(w:X)(g:1<=n)(d:n<=maxLen)(i : -9223372036854775808<=c)(j:c<=9223372036854775807):Ar As 11 #[C Y c,C Y n] w λe f=>e=Ak (C Y<|MA c n)/\f=w:=by
 unfold maxLen at d;by_cases h:c<0
 .have a:D<|(MA c n)=(-(c+1))%n:=by grind [D,Int.emod_nonneg,MA,Int.toNat_of_nonneg]
  go_enter func11,ntmps11;go_wp2;go_ret;have b : -((c+1).tmod n)=(-(c+1))%n:=by rw[<-Int.neg_tmod,ZS E]
  exact⟨by rw[AE a,<-b];rfl,rfl⟩
 have a:D<|(MA c n)=c%n:=by grind [D,Int.emod_nonneg,MA,Int.toNat_of_nonneg]
 go_enter func11,ntmps11;go_wp2;go_ret;exact⟨by rw[AE a];rfl,rfl⟩
theorem wI(h:JN lo hi l j=AP):j<K l:=by grind [JN]
theorem io:∀{g j:I},(J6 lo hi l g j).2=AP->j<=K l->(J6 lo hi l g j).1<=K l
 |0,_,_,hj=>hj
 |g+1,j,h,_=>by
  unfold J6 at h ⊢;by_cases a:JN lo hi l j=AP
  .rw[Cp a]at h ⊢;exact io h<|wI a
  rw[Cl a]at h;exact absurd h Ba
theorem wJ(l:A1)(hl:0<K l):Gq l<=K l:=by grind [Gq,Hx,Em,io]
def MV(b:AU):AK:=AR (b.toNat<=32)||(b.toNat==42||(b.toNat==91||(b.toNat==93||(b.toNat==47||b.toNat==46))))
def Kp:AH->A1->Option AH
 |_,[]=>An 0
 |0,_::_=>Ao
 |g+1,b::t=>if Gq (b::t)=0\/MV b=AP then Ao else(Kp g<|(b::t).drop<|Gq (b::t)).map (·+1)
def Uj:Option AH->AK
 |some n=>AR<|1<=n/\n<=16
 |none=>AQ
def G9(l:A1):AK:=Uj<|Kp (At l) l
theorem Sa(B:s.size<=4611686018427387904):Ar As 179 #[.string s] w λe F=>e=Ak (Ah<|G9 s.data.toList)/\F=w:=by
 have u:K s.data.toList=s.size:=Fz;obtain⟨A,j⟩:=CC<|Kp (K s.data.toList) s.data.toList;have c:D<|G9 s.data.toList=Uj A:=by grind [D,G9]
 go_enter func179,ntmps179;go_wp2
 go_loopg[3,4] s.size (λg x y wr=>∃n i:I,x=C Y n/\y=C Y i/\w=wr/\D (n<=i)/\D (i<=s.size)/\D (s.size<=i+g)/\D (A=(Kp g<|s.data.toList.drop i).map (·+n)))
 .refine⟨0,0,Z,Z,Z,Cr _,Ex _,Bp,?_⟩;show _=_;rw[<-AE j,u,List.drop_zero];simp_all
 obtain⟨n,i,rfl,rfl,rfl,W,t,r,f⟩:=hrel;by_cases P:i=s.size
 .have v:¬(i:J)<s.size:=E;have N:D<|G9 s.data.toList=AR (1<=n/\n<=16):=by
   show _=_;have b:A=H n:=by grind [D,List.drop_length,Kp]
   rw[AE c,b];rfl
  by_cases Q:(1:J)<=n
  .by_cases R:(n:J)<=16
   .have a:D<|G9 s.data.toList=AP:=by grind [D]
    go_wp2;go_ret;exact⟨by rw[AE a];rfl,rfl⟩
   have a:D<|G9 s.data.toList=AQ:=by grind [D]
   go_wp2;go_ret;exact⟨by rw[AE a];rfl,rfl⟩
  have a:D<|G9 s.data.toList=AQ:=by grind [D]
  go_wp2;go_ret;exact⟨by rw[AE a];rfl,rfl⟩
 have v:(i:J)<s.size:=AY<|AE t;have z:i<s.size:=E;obtain⟨g,rfl⟩:∃g,gk=g+1:=⟨gk-1,AY<|AE r⟩
 obtain⟨k,m⟩:=CC<|Gq<|s.data.toList.drop i;have l:D (s.data.toList.drop i=s[i]::s.data.toList.drop (i+1)):=keW;have d:D (Kp (g+1) (s.data.toList.drop i)=if k=0\/MV s[i]=AP then Ao else(Kp g<|s.data.toList.drop<|i+k).map (·+1)):=by grind [D,Kp,List.drop_drop]
 have S:k<=s.size-i:=by grind [D,wJ,List.length_drop]
 have o:D<|k=0\/MV s[i]=AP->G9 s.data.toList=AQ:=λh=>by
  have b:A=Ao:=by grind [D]
  rw[AE c,b];rfl
 have p:D (¬(k=0\/MV s[i]=AP)->A=(Kp g<|s.data.toList.drop<|i+k).map (·+(n+1))):=λh=>by rw[AE f,AE d,Cl h,Option.map_map];congr 1;grind [D]
 have L:D<|MV s[i]=AP↔((s[i].toNat:J)<=32\/(s[i].toNat:J)=42\/(s[i].toNat:J)=91\/(s[i].toNat:J)=93\/(s[i].toNat:J)=47\/(s[i].toNat:J)=46):=by grind [D,MV]
 clear l d f;have V:n<=4611686018427387904:=by grind [D]
 go_wp2_with(first
  |(go_at_call 201;refine Ce (sJ z B) ?_;rintro e w2 ⟨rfl,rfl⟩;rw[AE m]))
 all_goals first
  |(go_ret;have hF:=o.out (by grind [D]);exact⟨kfH,Z⟩)
  |go_roundg g
   case measure=>omega
   case rel =>
    have q:=p.out (by grind [D]);refine⟨n+1,i+k,Bb,Bb,Z,?_,?_,?_,q⟩
    all_goals grind [D]
  |skip
theorem wK(l:A1)(lo hi:I):JN lo hi l 1=AP↔(1<K l/\lo<=(l.getD 1 0).toNat/\(l.getD 1 0).toNat<=hi):=by grind [JN]
theorem ip(l:A1)(lo hi:J)(j:I)(a:j≠1):JN lo hi l j=AP↔(j<K l/\128<=(l.getD j 0).toNat/\(l.getD j 0).toNat<=191):=by grind [JN]
theorem wL(l:A1)(k lo hi:I)(a:k=2\/k=3\/k=4)(h:Em ((l.getD 0 0).toNat:J)=((lo:J),(hi:J),(k:J))):Gq l=(Lib.checkN (K l) (l.getD 1 0).toNat (l.getD 2 0).toNat (l.getD 3 0).toNat k lo hi).getD 0:=by unfold Gq Hx;rw[h];simp only[];rw[Cl<|show¬((k:I):J)=0 by omega];have b:=wK l lo hi;have c:=ip l lo hi 2 E;have d:=ip l lo hi 3 E;generalize(l.getD 0 0)=b0 at *;generalize(l.getD 1 0)=b1 at *;generalize(l.getD 2 0)=b2 at *;generalize(l.getD 3 0)=b3 at *;rcases a with rfl|rfl|rfl<;>grind [J6,Lib.checkN]
theorem wM(h:(Em ((l.getD 0 0).toNat:J)).2.2=0):Gq l=0:=by grind [Gq,Hx]
theorem wN(l:A1)(h:(l.getD 0 0).toNat<128):Gq l=1:=by
 have e:Em ((l.getD 0 0).toNat:J)=(0,0,1):=by grind [Em]
 unfold Gq Hx;rw[e];rfl
set_option linter.unusedSimpArgs false in
theorem wO{l:List UInt8}(r:128<=(l.getD 0 0).toNat):Gq l=(Lib.checkN l.length (l.getD 1 0).toNat (l.getD 2 0).toNat (l.getD 3 0).toNat (Lib.firstT (l.getD 0 0).toNat%8) (Lib.accLo<|Lib.firstT (l.getD 0 0).toNat/16)<|Lib.accHi<|Lib.firstT (l.getD 0 0).toNat/16).getD 0:=by
 have s:=(l.getD 0 0).toNat_lt
 have key:∀k b a,Lib.firstT (l.getD 0 0).toNat%8=k->Lib.accLo (Lib.firstT (l.getD 0 0).toNat/16)=b->Lib.accHi (Lib.firstT (l.getD 0 0).toNat/16)=a->(k=2\/k=3\/k=4)->Em ((l.getD 0 0).toNat:Int)=((b:Int),(a:Int),(k:Int)) ->
   Gq l=(Lib.checkN l.length (l.getD 1 0).toNat (l.getD 2 0).toNat (l.getD 3 0).toNat (Lib.firstT (l.getD 0 0).toNat%8) (Lib.accLo<|Lib.firstT (l.getD 0 0).toNat/16)<|Lib.accHi<|Lib.firstT (l.getD 0 0).toNat/16).getD 0:=λk b a o p q t c=>by
  grind [wL]
 have u:Lib.firstT (l.getD 0 0).toNat=241->(Em ((l.getD 0 0).toNat:Int)).2.2=0 ->
   Gq l=(Lib.checkN l.length (l.getD 1 0).toNat (l.getD 2 0).toNat (l.getD 3 0).toNat (Lib.firstT (l.getD 0 0).toNat%8) (Lib.accLo<|Lib.firstT (l.getD 0 0).toNat/16)<|Lib.accHi<|Lib.firstT (l.getD 0 0).toNat/16).getD 0:=λe c=>by
  rw[e,wM c]
  rfl
 generalize hb:(l.getD 0 0).toNat=b0 at *
 by_cases d:b0<194
 .grind [Lib.firstT,Em]
 by_cases f:b0<224
 .grind [Lib.firstT,Lib.accLo,Lib.accHi,Em]
 by_cases c2:b0=224
 .grind [Lib.firstT,Lib.accLo,Lib.accHi,Em]
 by_cases g:b0<237
 .grind [Lib.firstT,Lib.accLo,Lib.accHi,Em]
 by_cases h:b0=237
 .grind [Lib.firstT,Lib.accLo,Lib.accHi,Em]
 by_cases i:b0<240
 .grind [Lib.firstT,Lib.accLo,Lib.accHi,Em]
 by_cases j:b0=240
 .grind [Lib.firstT,Lib.accLo,Lib.accHi,Em]
 by_cases m:b0<244
 .grind [Lib.firstT,Lib.accLo,Lib.accHi,Em]
 by_cases n:b0=244
 .exact key 4 128 143 (by grind [Lib.firstT]) (by grind [Lib.firstT,Lib.accLo]) (by grind [Lib.firstT,Lib.accHi]) E (by grind [Em])
 grind [Lib.firstT,Em]
theorem wP(l:A1)(a:l≠[]):(Gq l=0/\Lib.decodeL l=(65533,1))\/(1<=Gq l/\(Lib.decodeL l).2=Gq l/\¬((Lib.decodeL l).1=65533/\(Lib.decodeL l).2=1)):=by
 have e:=nr.2 a;by_cases h:(l.getD 0 0).toNat<128
 .right;obtain⟨b,t,rfl⟩:∃b t,l=b::t:=List.exists_cons_of_ne_nil a;grind [wN,Lib.decodeL_ascii]
 rw[wO E,Lib.decodeL_N];rcases Lib.check_decode (K l) (l.getD 0 0).toNat (l.getD 1 0).toNat (l.getD 2 0).toNat (l.getD 3 0).toNat e E (l.getD 0 0).toNat_lt (l.getD 1 0).toNat_lt (l.getD 2 0).toNat_lt (l.getD 3 0).toNat_lt with⟨c,d⟩|⟨k,f,c,d⟩<;>grind
theorem wQ(n a b1 b2 b3:I)(b:128<=a):128<=(Lib.decodeN n a b1 b2 b3).1:=by grind [Lib.decodeN]
def O7(r:AH):AK:=AR (r<=32)||(r==42||(r==91||(r==93||(r==47||r==46))))
def KR:AH->A1->Option AH
 |_,[]=>An 0
 |0,_::_=>Ao
 |g+1,b::t=>if O7 (Lib.decodeL (b::t)).1=AP then Ao else(KR g<|(b::t).drop (Lib.decodeL (b::t)).2).map (·+1)
theorem wR(b:AU)(t:A1):O7 (Lib.decodeL (b::t)).1=MV b:=by
 by_cases h:b.toNat<128
 .rw[Lib.decodeL_ascii b t h];rfl
 grind [Lib.decodeL,Lib.decodeL_N,wQ,O7,Bool.or_eq_false_iff,decide_eq_false_iff_not,beq_eq_false_iff_ne,MV]
theorem iq:∀(g:I) (l:A1),K l<=g->Kp g l=if Lib.validD l then KR g l else Ao
 |g,[],_=>by grind [Kp,KR,Lib.validD_nil]
 |0,b::t,h=>BB
 |g+1,b::t,h=>by
  rw[Lib.validD_step (b::t) Ba];rcases wP (b::t) Ba with⟨c,a⟩|⟨c,a,e⟩
  .simp[Kp,c,a]
  rw[Cl e,Kp,KR,wR,a];by_cases d:MV b=AP
  .grind
  rw[Cl B9,Cl d,iq g _ B9];split<;>rfl
theorem ir(l:A1):G9 l=(Lib.validD l&&Uj (KR (K l) l)):=by
 unfold G9;rw[iq (K l) l<|Cr _];cases Lib.validD l
 .rfl
 rfl
def iu(b:AN)(a:W.heap[N]?=H (.stringIter s pos))(h:pos<s.size):(Instr.next (A8 N) AP b).run P W =
   .ok (Af #[Ah AP,C Y pos,C .i32 (Utf8.decode s pos).1]) (W.putObj N<|.stringIter s<|pos+(Utf8.decode s pos).2):=by
 simp only[Instr.next,getObj,setObj,GU,Sem.run,a,Result.andThen,h,if_true,World.putObj];simp[goInt]
def iv(b:AN)(a:W.heap[N]?=H (.stringIter s pos))(h:¬pos<s.size):(Instr.next (A8 N) AP b).run P W=.ok (Af #[Ah AQ]) W:=by simp[Instr.next,getObj,Sem.run,a,h]
def Qw{B:I}{a:X}(h:Below B a w)(b:B<=g){o:Obj}:Below B a (w.putObj g o) :=
 Cs h ⟨rfl,rfl,rfl,by simp[World.putObj],λk c=>World.putObj_heap_other E⟩
structure MW(w:Ap)(N:AH)(s:AT)(i:AH)(W:Ap):Prop where
 ac:A0 w W
 b:W.heap[N]?=An (.stringIter s i)
def MW.aq(h:MW w N s i W)(hb:A0 W W'):MW w N s i W' :=
 ⟨Cs h.ac<|CG hb h.ac.size,Ca (Co hb _<|Cd h.b) h.b⟩
theorem MW.next(h:MW w N s i W)(a:O (U w)<=N)(j:I):MW w N s j (W.putObj N<|.stringIter s j) :=
 ⟨Qw h.ac a,World.putObj_heap_same<|Cd h.b⟩
theorem wS(r:I):O7 r=(AR ((r:J)<=32)||Pe (r:J)):=by grind [O7,Pe]
theorem wT(hs:s.size<=2000)(hg:Ho w):Ar As 199 #[.string s] w λe y=>e=Ak (Ah<|G9 s.data.toList)/\A0 w y:=by
 have hl:K s.data.toList=s.size:=Fz;have l:Ar As 214 #[.string s] w λe y=>e=Ak (Ah<|Lib.validD s.data.toList)/\A0 w y :=
  Any.utf8_ValidString Tryz.lays196 s w E hg.a
 cases L:Lib.validD s.data.toList
 .have f:D<|G9 s.data.toList=AQ:=by grind [D,ir]
  rw[L]at l;go_enter func199,ntmps199
  go_wp2_with(first|(go_at_call 214;refine Ce l ?_;rintro e d ⟨rfl,c⟩))
  go_ret;exact⟨by rw[AE f];rfl,c⟩
 obtain⟨A,Q⟩:=CC<|KR (K s.data.toList) s.data.toList;have f:D<|G9 s.data.toList=Uj A:=by grind [D,ir]
 rw[L]at l;go_enter func199,ntmps199
 go_wp2_with(first|(go_at_call 214;refine Ce l ?_;rintro e d ⟨rfl,c⟩))
 have b:D<|MW w (O<|U d) s 0<|d.iter s 0:=⟨c.alloc c.size _,World.iter_heap _ _ _⟩
 have hN:=c.size;generalize d.iter s 0=W0 at *;generalize O (U d)=N at *
 go_loopg[3,5] s.size (λg ac _ wr=>∃n i:I,ac=C Y n/\D (n<=i)/\D (i<=s.size)/\D (s.size<=i+g)/\D (MW w N s i wr)/\D (A=(KR g<|s.data.toList.drop i).map (·+n)))
 .refine⟨0,0,Z,Cr _,Ex _,Bp,b,?_⟩;show _=_;rw[<-AE Q,hl,List.drop_zero];simp_all
 obtain⟨n,i,rfl,ah,ab,aa,b,S⟩:=hrel;by_cases h1:i=s.size
 .have z:D<|G9 s.data.toList=AR (1<=n/\n<=16):=by
   show _=_;have t:A=H n:=by grind [D,KR]
   rw[AE f,t];rfl
  have F:=λv=>iv (P:=As) v b.b E;by_cases ha:(1:J)<=n
  .by_cases hb:(n:J)<=16
   .have a:D<|G9 s.data.toList=AP:=B9;go_wp2;go_ret;exact⟨by rw[AE a];rfl,b.ac⟩
   have a:D<|G9 s.data.toList=AQ:=by grind [D]
   go_wp2;go_ret;exact⟨by rw[AE a];rfl,b.ac⟩
  have a:D<|G9 s.data.toList=AQ:=by grind [D]
  go_wp2;go_ret;exact⟨by rw[AE a];rfl,b.ac⟩
 have hn:i<s.size:=AY<|AE ab;obtain⟨g,rfl⟩:∃g,gk=g+1:=⟨gk-1,AY<|AE aa⟩
 have F:=λv=>iu (P:=As) v b.b hn;obtain⟨r,hr⟩:=DF<|(Utf8.decode s i).1;obtain⟨k,hk⟩:=DF<|(Utf8.decode s i).2;rw[hr,hk]at F;have HD:D (s.data.toList.drop i=s[i]::s.data.toList.drop (i+1)):=keW;have ad:=Lib.decodeL_drop s i;have R:D (KR (g+1) (s.data.toList.drop i)=if O7 r=AP then Ao else(KR g<|s.data.toList.drop<|i+k).map (·+1)):=by grind [D,KR,List.drop_drop]
 have ae:1<=k:=by grind [Lib.decodeL_width]
 have af:k<=s.size-i:=by grind [Lib.decodeL_le]
 have B:D<|O7 r=AP->G9 s.data.toList=AQ:=λh=>by
  have t:A=Ao:=by grind [D]
  rw[AE f,t];rfl
 have W:D (O7 r=AQ->A=(KR g<|s.data.toList.drop<|i+k).map (·+(n+1))):=λh=>by rw[AE S,AE R,Cl<|by rw[h];simp,Option.map_map];congr 1;grind
 have p:D<|MW w N s (i+k)<|wr.putObj N<|.stringIter s<|i+k:=b.next hN _
 have ag:n<=2000:=by grind [D]
 have o:=wS r;generalize wr.putObj N (.stringIter s<|i+k)=W2 at *;by_cases x:(r:J)<=32
 .have z:=B.out B9;have a:=T z;go_wp2;go_ret;exact⟨by rw[AE a];rfl,p.ac⟩
 have j:=wH (r:J) E W2;rw[FO x,Bool.false_or]at o;cases m:Pe (r:J)
 .have V:=T (W<|by rw[o,m]);rw[m]at j
  go_wp2_with(first|(go_at_call 215;refine Ce j ?_;rintro e w3 ⟨rfl,u⟩;have q:=T<|p.aq u))
  go_roundg g
  .refine⟨n+1,i+k,Bb,?_,?_,?_,q,V⟩
   all_goals grind [D]
  omega
 have a:=T (B<|by rw[o,m]);rw[m]at j
 go_wp2_with(first|(go_at_call 215;refine Ce j ?_;rintro e w3 ⟨rfl,u⟩;have q:=T<|p.aq u))
 go_ret;exact⟨by rw[AE a];rfl,q.ac⟩
def Ir(s:AH×A1)(t:A1×AK):AK:=if s.1=0 then AP else if s.1=1 then AQ else if s.1=2 then t.2 else !t.2&&t.1==s.2
def Md(s:AH×A1)(p:AJ<|A1×AK)(f:AH->AK):AH->AK
 |0=>if s.1=1 then f 0 else AQ
 |k+1=>if s.1=1 then(List.range<|k+2).any f else f k&&(match p[k]? with|some t=>Ir s t|none=>AQ)
def Jo:AJ (AH×A1)->AJ (A1×AK)->(AH->AK)->AH->AK
 |[],_,f=>f
 |s::ss,p,f=>Jo ss p<|Md s p f
def O9(ss:AJ<|AH×A1)(p:AJ<|A1×AK):AK:=Jo ss p (λk=>k==0)<|At p
theorem Yk{s:I×A1}:∀(ss:AJ<|I×A1) (f:I->AK),Jo (ss++[s]) p f=Md s p (Jo ss p f)
 |[],_=>rfl
 |x::ss,f=>by show Jo (ss++[s]) p _=_;rw[Yk ss];rfl
def Is(ss:AJ<|AH×A1)(k:AH):AK:=match ss[k]? with
 |some s=>s.1==1
 |none=>AQ
def Pg(ss:AJ<|AH×A1)(t:A1×AK)(k:AH):AK:=match ss[k]? with
 |some s=>Ir s t
 |none=>AQ
def MY(ss:AJ<|AH×A1)(P:AH->AK):AH->AK
 |0=>P 0
 |k+1=>P (k+1)||(Is ss k&&MY ss P k)
def QB(ss:AJ<|AH×A1)(t:A1×AK)(P:AH->AK):AH->AK
 |0=>P 0&&Is ss 0
 |k+1=>(P (k+1)&&Is ss (k+1))||(P k&&Pg ss t k)
def Me(ss:AJ<|AH×A1):AJ (A1×AK)->AH->AK
 |[]=>MY ss λk=>k==0
 |t::r=>MY ss<|QB ss t<|Me ss r
def rF(ss:AJ<|AH×A1)(p:AJ<|A1×AK)(k:AH):AH->AK:=Jo (ss.take k) p λn=>n==0
theorem j4(a:AJ<|I×A1)(p:AJ<|A1×AK)(n:I):rF a p 0 n=(n==0):=rfl
theorem j5{s:I×A1}(h:ss[k]?=H s)(p:AJ<|A1×AK):rF ss p (k+1)=Md s p (rF ss p k):=by grind [rF,List.take_add_one,Yk]
def gF(ss:AJ<|AH×A1)(p:AJ<|A1×AK)(k j:AH):AK:=if Is ss k then(List.range<|j+1).any (rF ss p k)else rF ss p k j
theorem xC(f:I->AK)(j:I):(List.range<|j+1).any f=((List.range j).any f||f j):=B9
theorem j6:∀(j:I),j<=K p->∀k,k<=K ss->Me ss (p.take j).reverse k=gF ss p k j
 |0,_,k,hk=>by
  rw[SU,nj,Me]
  induction k with
  |zero=>grind [gF,Is,MY,j4]
  |succ k a =>
   have a:=a E;rw[MY,a];obtain⟨s,b⟩:∃s,ss[k]?=H s:=⟨ss[k],D7 E⟩
   have e:gF ss p k 0=rF ss p k 0:=by grind [gF,Is]
   have f:gF ss p (k+1) 0=rF ss p (k+1) 0:=by grind [gF,Is]
   have d:Is ss k=(s.1==1):=by unfold Is;rw[b]
   rw[e,f,j5 b,Md,d];grind
 |j+1,hj,k,hk=>by
  obtain⟨t,h⟩:∃t,p[j]?=H t:=⟨p[j],D7 E⟩
  have g:(p.take<|j+1).reverse=t::(p.take j).reverse:=BV;rw[g,Me];have c:∀k,k<=K ss->Me ss (p.take j).reverse k=gF ss p k j:=j6 j E;generalize hP:Me ss (p.take j).reverse=P;rw[hP]at c
  induction k with
  |zero =>
   grind [MY,QB,gF,j4]
  |succ k a =>
   have a:=a E;obtain⟨s,b⟩:∃s,ss[k]?=H s:=⟨ss[k],D7 E⟩
   have d:Is ss k=(s.1==1):=by unfold Is;rw[b]
   have i:Pg ss t k=Ir s t:=by unfold Pg;rw[b]
   rw[MY,QB,a,c (k+1) hk,c k E];have key:((gF ss p k j&&Pg ss t k)||(Is ss k&&gF ss p k (j+1)))=rF ss p (k+1) (j+1):=by rw[j5 b,Md,h];grind [gF]
   grind [gF]
theorem xD:Me ss p.reverse (K ss)=O9 ss p:=by
 have h:=j6 (K p) (Cr _) (K ss)<|Cr _;rw[LN]at h;rw[h];unfold gF;have e:Is ss (K ss)=AQ:=by grind [Is,List.getElem?_eq_none]
 rw[e,Cl Ba];unfold rF O9;rw[LN]
def CD(P:AH->AH):A3:=Aw<|(List.range 16).map λi=>Value.int .u16<|P i
theorem MZ(P:I->I):(CD P).size=16:=by simp[CD]
theorem Lz(P:I->I)(a:r<16):(CD P)[r]?=H (C .u16<|P r):=by simp[CD,a]
theorem j7(a:I):BitVec.ofInt 16 (a:J)=BitVec.ofNat 16 a:=OA ..
theorem Ur(a b:I)(c:a<65536)(hb:b<65536):bits .and .u16 (a:J) (b:J)=((a&&&b:I):J):=by have h:(BitVec.ofNat 16 a&&&BitVec.ofNat 16 b).toNat=a&&&b:=B9;show IntKind.u16.wrap ((BitVec.ofInt 16 (a:J)&&&BitVec.ofInt 16 (b:J)).toNat:J)=_;grind [j7,IntKind.wrap,IntKind.bits,IntKind.signed]
theorem Yl{a:I}(c:a<65536)(hb:b<65536):bits .or .u16 (a:J) (b:J)=((a|||b:I):J):=by have h:(BitVec.ofNat 16 a|||BitVec.ofNat 16 b).toNat=a|||b:=B9;show IntKind.u16.wrap ((BitVec.ofInt 16 (a:J)|||BitVec.ofInt 16 (b:J)).toNat:J)=_;grind [j7,IntKind.wrap,IntKind.bits,IntKind.signed]
theorem N0(x:I)(h:x<65536):IntKind.u16.wrap (x:J)=(x:J):=Bj
theorem xE(k:I)(hx:x<65536):(bits .and .u16 ((x:J)/2^k) 1==1)=x.testBit k:=by have e:((x:J)/2^k)=((x/2^k:I):J):=Ba;have a:x/2^k<65536:=Nat.lt_of_le_of_lt (Nat.div_le_self _ _) hx;have:=Ur (x/2^k) 1 a E;grind
def xF(W:X){P:I->I}(k:I)(c:r<16)(g:k<16)(b:P r<65536):Ar As 178 #[.agg<|CD P,C Y r,C Y k] W λe a=>e=Ak (Ah<|(P r).testBit k)/\A0 W a:=by have d:=Lz P c;have f:=xE k b;go_enter func178,ntmps178;go_wp2;go_ret;exact⟨Z,Cm⟩
theorem Us(P:I->I)(r:I)(x:I):Ay (CD P) r (C .u16 x)=CD λi=>if i=r then x else P i:=by grind [CD]
def N2{listed:Array AK}{a:Act}{oi:Oper}(i dst:I)(v:Aq)(hi:ops[i]?=H oi)(b:(Region.noSelect ops&&Region.free md ops listed i&&(Region.ready md ops listed).contains i&&oi.dst==H dst&&Region.wanted oi (yielded ops a.tmps))=AP)(e:∀c a w,Q (.panic c) (a.put (H dst) v) w->Q (.panic c) a w)(hy:∀d,(execOp a.eval oi).run P d=.ok (.value v) d)(h:wpAny P md ops Q fuel (Ay listed i AP) (a.put (H dst) v) w):wpAny P md ops Q (fuel+1) listed a w:=by simp only[Fj]at b;have f:oi.dst=H dst:=C7;rw[<-f]at e h;exact wpAny_take hi b.1.1.1.1 b.1.1.1.2 b.1.1.2 e (.inl ⟨b.2,hy⟩) h
theorem Sf{o:I}(n:r<16)(l:k<16)(f:x<65536)(j:A6 W g (o+r)<|C .u16 x)(i:W.frozen? ⟨g,o+r,Ao⟩=AQ):Ar As 140 #[A9 g o,C Y r,C Y k] W λe c=>e=Ak (Af #[])/\c=W.drew.setCell ⟨g,o+r,Ao⟩ (C .u16 ((x|||2^k:I):J)):=by
 have p:(r:J)<16:=E;have d:(2^k:I)<65536:=by have:(2^k:I)<=2^15:=OB B8 E;omega
 have q:IntKind.u16.wrap (2^k)=2^k:=by grind [N0]
 have m:bits .or .u16 (x:J) (2^k)=((x|||2^k:I):J):=by have:=Yl f d;grind
 go_enter func140,ntmps140;go_wp2;refine SX B6 ?_;change wpAny _ _ _ _ _ _ _ (World.drew W);refine N2 0 6 (A9 g o) Z B6 (λ_ _ _ h=>h) (λ_=>B6) ?_;refine N2 1 7 (C Y r) Z B6 (λ_ _ _ h=>h) (λ_=>B6) ?_;refine N2 2 8 (A9 g o) Z B6 (λ_ _ _ h=>h) (λ_=>B6) ?_;refine N2 3 9 (A9 g<|o+r) Z B6 (λ_ _ _ h=>h) (λ_=>Bh) ?_;refine N2 5 11 (C Y k) Z B6 (λ_ _ _ h=>h) (λ_=>B6) ?_;refine N2 6 12 (C .u16 ((2^k:I):J)) Z B6 (λ_ _ _ h=>h) (λ_=>Bh) ?_;refine N2 8 14 (A9 g o) Z B6 (λ_ _ _ h=>h) (λ_=>B6) ?_;refine ER 4 Z B6 λb a=>?_;go_simp;refine a _ _ ?_;refine N2 7 13 (C .u16 ((x|||2^k:I):J)) Z B6 (λ_ _ _ h=>h) (λ_=>Bh) ?_;refine N2 9 15 (A9 g<|o+r) Z B6 (λ_ _ _ h=>h) (λ_=>Bh) ?_;refine ER 10 Z B6 λb a=>?_;go_simp;refine a _ _ ?_;refine Wm B6 ?_ _;go_simp;go_wp2;go_end0;exact⟨Z,Z⟩
structure Ph(w:Ap)(a:A4)(ss:AJ (AH×A1)):Prop where
 aq:∀i (h:i<At ss),∃b off,a=An ⟨b,off,Ao⟩/\b<Au (Av w)/\AC w ⟨b,off+i*2,Ao⟩=An (Ab Al ss[i].1)/\AC w ⟨b,off+i*2+1,Ao⟩=An (Ae ⟨ss[i].2.toArray⟩)
def Ph.ac(h:Ph w a ss)(hb:A0 w w'):Ph w' a ss :=
 ⟨λi g=>by obtain⟨b,off,f,c,d,e⟩:=h.aq i g;exact⟨b,off,f,CQ c hb.size,Ca (hb.cell (p:=⟨b,_,Ao⟩) c) d,Ca (hb.cell (p:=⟨b,_,Ao⟩) c) e⟩⟩
structure J8(w:Ap)(a:A4)(rs:AJ (AJ (AH×A1)×AI×AI)):Prop where
 aq:∀i (h:i<At rs),∃b off pa pc,a=An ⟨b,off,Ao⟩/\b<Au (Av w)/\AC w ⟨b,off+i*3,Ao⟩=An (Ac pa rs[i].1.length pc)/\AC w ⟨b,off+i*3+1,Ao⟩=An (Ab Al rs[i].2.1)/\AC w ⟨b,off+i*3+2,Ao⟩=An (Ab Al rs[i].2.2)/\Ph w pa rs[i].1
def J8.ac(h:J8 w a rs)(hb:A0 w w'):J8 w' a rs :=
 ⟨λi k=>by obtain⟨b,off,l,m,j,c,d,e,f,g⟩:=h.aq i k;exact⟨b,off,l,m,j,CQ c hb.size,Ca (hb.cell (p:=⟨b,_,Ao⟩) c) d,Ca (hb.cell (p:=⟨b,_,Ao⟩) c) e,Ca (hb.cell (p:=⟨b,_,Ao⟩) c) f,g.ac hb⟩⟩
def EI(dflt:AI):AJ (AJ (AH×A1)×AI×AI)->(AH->AH)->AH->AI×AI
 |[],_,_=>(dflt,1)
 |x::rs,P,r=>if(P r).testBit (At x.1)then x.2 else EI dflt rs P (r+1)
def FW(P:I->I):(prog.info? 183).map (·.size)=H (CD P).size:=by rw[MZ];kernel_rfl
structure QC(W:Ap)(P:AH->AH)(V:Ap):Prop where
 h:V.heap[Au (Av W)]?=An (Aj (CD P) 183)
 ac:A0 W V
theorem QC.next{V V':X}{P:I->I}(h:QC W P V)(hb:A0 V V'):QC W P V' :=
 ⟨Ca (Co hb _<|Cd h.h) h.h,Cs h.ac<|CG hb h.ac.size⟩
theorem xG(W:X)(P:I->I):QC W P<|Az W<|M (CD P) 183:=⟨Cj _,Cm⟩
theorem xH{dflt:J}(P:I->I)(y:∀r,P r<65536)(hn:K rs<=16)(w:∀i (h:i<K rs),rs[i].1.length<=8)(x:A<O (U W))(R:A6 W A 0<|G ra (K rs) rc)(v:A6 W A 1<|C Y dflt)(F:J8 W ra rs):Ar As 141 #[A8 A,.agg<|CD P] W λe u=>e=Ak (Af #[C Y (EI dflt rs P 0).1,C Y (EI dflt rs P 0).2])/\A0 W u:=by
 have t:=T F;go_enter func141,ntmps141;go_wp2
 go_loopg[13] (K rs) (λg z wr=>∃k:I,z=C Y k/\D (k+g=K rs)/\D (QC W P wr)/\D (EI dflt rs P 0=EI dflt (rs.drop k) P k))
 grind [xG];obtain⟨k,rfl,m,d,s⟩:=hrel;have S:=Ca (d.ac.cell (p:=⟨A,_,Ao⟩) x) v;obtain _|g:=gk
 .have B:¬(k:J)<(K rs:J):=AY<|AE m;have a:D<|EI dflt rs P 0=(dflt,1):=by have h:=AE s;rw[Oy<|AY<|AE m]at h;exact h
  go_wp2;refine CS (FP results141 _ _ _) Z ⟨?_,d.ac⟩;rw[AE a];rfl
 have o:k<K rs:=AY<|AE m;have B:(k:J)<(K rs:J):=E;obtain⟨b,off,L,N,rfl,hb,e0,e1,e2,_⟩:=(t.ac d.ac).aq k o;have aa:=w k o;have j:=λV=>xF V rs[k].1.length E E<|y k;have Q:D<|EI dflt (rs.drop k) P k=if(P k).testBit rs[k].1.length then rs[k].2 else EI dflt (rs.drop<|k+1) P (k+1):=by grind [List.drop_eq_getElem_cons,EI]
 have f:D<|QC W P<|Az wr<|M #[G L rs[k].1.length N,C Y rs[k].2.1,C Y rs[k].2.2] 249:=d.next Cm
 cases q:(P k).testBit rs[k].1.length
 .rw[q]at j;have a:D<|EI dflt rs P 0=EI dflt (rs.drop<|k+1) P (k+1):=by grind [D]
  go_wp2_with(first
   |(refine CO Z 183 (.tmp 3) Z (O<|U W) Z _ _ _ _ f.h underlying183 Z (FW P) ?_)
   |(go_at_call 178;refine Ce (j _) ?_;rintro e n ⟨rfl,c⟩;have l:=T<|f.next c))
  go_roundg g;exact⟨k+1,Bb,B9,l,a⟩;omega
 rw[q]at j;have a:D<|EI dflt rs P 0=rs[k].2:=by grind [D]
 go_wp2_with(first
  |(refine CO Z 183 (.tmp 3) Z (O<|U W) Z _ _ _ _ f.h underlying183 Z (FW P) ?_)
  |(go_at_call 178;refine Ce (j _) ?_;rintro e n ⟨rfl,c⟩;have l:=T<|f.next c;have r1:A6 n (O<|U wr) 1<|C Y rs[k].2.1:=Cc (Ca (Co c _ Ba)<|Cj _) 1;have r2:A6 n (O<|U wr) 2<|C Y rs[k].2.2:=Cc (Ca (Co c _ Ba)<|Cj _) 2))
 go_quiet (fail)
 go_wp2;refine CS (FP results141 _ _ _) Z ⟨?_,Cs l.ac ⟨Z,Z,Z,Cr _,λ_ _=>rfl⟩⟩;rw[AE a];rfl
def w1(st x:AH):AH:=x|||((x&&&st)<<<1)
def KS(st x:AH):AH->AK
 |0=>x.testBit 0
 |k+1=>x.testBit (k+1)||(st.testBit k&&KS st x k)
theorem Ym(st x k:I):(w1 st x).testBit k=(x.testBit k||(AR (1<=k)&&(x.testBit (k-1)&&st.testBit (k-1)))):=by unfold w1;grind
def xI{st:I}(c:st<256)(hx:x<512):w1 st x<512:=by have b:x&&&st<2^8:=PP _ E;have a:(x&&&st)<<<1<2^9:=E;exact ap (n:=9) E a
theorem xJ(st x:I):x<=w1 st x:=Nat.left_le_or
structure Pi(P st:AH->AH)(n:AH)(X:AH->AH):Prop where
 d:∀r,r<n->∀k,(P r).testBit k=AP->(X r).testBit k=AP
 hi:∀r,r<n->∀k,(X r).testBit k=AP->KS (st r) (P r) k=AP
 a2:∀r,n<=r->X r=P r
 lt:∀r,X r<512
theorem xK{st:I}(h:x.testBit k=AP):KS st x k=AP:=by cases k<;>grind [KS]
def xL{P:I->I}(st:I->I)(n:I)(a:∀r,P r<512):Pi P st n P:=⟨λ_ _ _ h=>h,λ_ _ _ h=>xK h,λ_ _=>rfl,a⟩
def Fy(st X:AH->AH)(n:AH):AH->AH:=λr=>if r<n then w1 (st r) (X r)else X r
def Pi.aq{P:I->I}{X:I->I}(h:Pi P st n X)(d:∀r,st r<256):Pi P st n<|Fy st X n:=by
 refine⟨λr b k a=>?_,λr b k a=>?_,λr b=>?_,λr=>?_⟩
 .unfold Fy;rw[Cp b,Ym,h.d r b k a];rfl
 .unfold Fy at a;rw[Cp b,Ym,W5]at a;rcases a with a|a
  .exact h.hi r b k a
  simp only[Fj,VV]at a;obtain⟨c,rfl⟩:∃c,k=c+1:=⟨k-1,E⟩
  rw[nu]at a;rw[KS,a.2.2,h.hi r b c a.2.1];simp
 .unfold Fy;rw[Cl E];exact h.a2 r b
 unfold Fy;by_cases b:r<n
 .rw[Cp b];exact xI (d r)<|h.lt r
 rw[Cl b];exact h.lt r
theorem Pi.done{P:I->I}{X:I->I}(h:Pi P st n X)(d:∀r,r<n->w1 (st r) (X r)=X r):∀r,r<n->∀k,(X r).testBit k=KS (st r) (P r) k:=by
 intro r b k;have key:∀k,KS (st r) (P r) k=AP->(X r).testBit k=AP:=by
  intro k
  induction k with
  |zero=>exact λa=>h.d r b 0 a
  |succ k e =>
   intro a;rw[KS,W5]at a;rcases a with a|a
   .exact h.d r b _ a
   grind [w1,Ym,Nat.add_sub_cancel]
 cases c:(X r).testBit k
 .grind
 exact(h.hi r b k c).symm
def JU(X:AH->AH):AH->AH
 |0=>0
 |n+1=>JU X n+X n
theorem Ut{X:I->I}(h:∀r,X r<512):∀n,JU X n<=n*512
 |0=>Cr _
 |n+1=>by have:=Ut h n;have:=h n;unfold JU;omega
theorem j8{X Y:I->I}(h:∀r,X r<=Y r):∀n,JU X n<=JU Y n
 |0=>Cr _
 |n+1=>by have:=j8 h n;grind [JU]
def j9{X Y:I->I}(h:∀r,X r<=Y r):∀n r,r<n->X r<Y r->JU X n<JU Y n
 |0,_,hr,_=>absurd hr E
 |n+1,r,hr,hl=>by
  unfold JU;by_cases e:r=n
  .subst e;have:=j8 h r;omega
  have:=j9 h n r E hl;have:=h n;omega
theorem xM{X Y:I->I}(h:∀r,r<16->X r=Y r):CD X=CD Y:=by grind [CD,List.map_congr_left]
def ja:laidOutB As=AP:=B6
def few:prog.types.size+2<=10000:=VI B6
def Yn:WideMaps.KeyLaw As 183:=deep_law_gate ja few (VI B6) B6 B6
def Yo:WideMaps.KeyLaw As 199:=deep_law_gate ja few (VI B6) B6 B6
theorem xN(x:I)(h:x<65536):(Lit.int .u16 (x:J)).wf=AP:=by have a:IntKind.u16.min=0:=B6;have b:IntKind.u16.max=65535:=B6;grind [Lit.wf]
def jb{α β:Type}(f:α->Option β)(g:α->β):∀(l:AJ α),(∀x∈l,f x=H (g x))->l.mapM f=H (l.map g)
 |[],_=>rfl
 |x::l,h=>by rw[List.mapM_cons,h x Ba,jb f g l λy a=>h y kf3];rfl
theorem Yp{X:I->I}(j:∀r,X r<65536):∃l,keyOf As 183 (.agg<|CD X)=H l:=by
 obtain⟨d,k⟩:∃d,prog.types.size+1=d+2:=⟨prog.types.size-1,Bv⟩
 have g:prog.keyType 183=AP:=B6;have c:prog.cellsOf 183=16:=B6;have f:prog.cellsOf 181=1:=B6;have m:(Value.agg<|CD X).formed As 183=AP:=by grind [Value.formed,underlying183,MZ]
 have n:prog.keyLits (d+2) 183 (CD X).toList=H ((List.range 16).map λi=>[Lit.int .u16<|X i]).flatten:=by
  have e:(CD X).toList.length=16:=by grind [MZ]
  unfold Program.keyLits;simp only[underlying183];rw[Cp<|by rw[e,c],f];rw[jb _ (λi=>[Lit.int .u16<|X i]) _ λi a=>?_]
  .rfl
  have a:i<16:=Bl;have b:((CD X).toList.drop<|i*1).take 1=[C .u16<|X i]:=by have h:=Lz X a;grind [List.getElem?_eq_some_iff,List.drop_eq_getElem_cons]
  rw[b];unfold Program.keyLits;grind [underlying181,xN]
 refine⟨.string<|keyBytes ((List.range 16).map λi=>[Lit.int .u16<|X i]).flatten,?_⟩;unfold keyOf;simp only[underlying183];have e:(Value.agg<|CD X).cells=CD X:=rfl;grind
theorem jc{X Y:I->I}(h:CD X=CD Y):∀r,r<16->X r=Y r:=by intro r a;have b:=Lz X a;grind [Lz]
def QD(X Y:AH->AH):AK:=(List.range 16).all λr=>X r==Y r
theorem jd{X Y:I->I}(h:QD X Y=AP):∀r,r<16->X r=Y r:=by intro r a;have:=Hi.1 h r Bl;simpa using this
theorem je{X Y:I->I}(h:∀r,r<16->X r=Y r):QD X Y=AP:=Hi.2 λr a=>B9
theorem xO{X Y:I->I}(f:∀r,X r<65536)(g:∀r,Y r<65536)(w:Ap):(Op.equalIn 10000 183 (.agg<|CD X)<|.agg<|CD Y).run As w=.ok (QD X Y) w:=by
 obtain⟨l,c⟩:=Yp f;obtain⟨n,d⟩:=Yp g;obtain⟨b,a,h⟩:=run_equal_deep w (m:=prog.types.size+1) (AY few) (k:=183) B6 B6 c d;have a:(Op.equalIn 10000 183 (.agg<|CD X)<|.agg<|CD Y).run As w=.ok b w:=a;have e:b=QD X Y:=by
  cases j:QD X Y
  .cases b
   .rfl
   have e:=h.1 Z;subst e;have i:=Yn.inj c d;grind [je,jc,Value.agg.inj]
  grind [xM,jd,Option.some.inj]
 rw[a,e]
def E8:AH->AH:=λ_=>0
structure I0(W:Ap)(X:AH->AH)(V:Ap):Prop where
 h:V.heap[Au (Av W)]?=An (Aj (CD X) 183)
 ret:V.heap[Au (Av W)+1]?=An (Aj (CD E8) 183)
 ac:A0 W V
theorem I0.next{W:Ap}{X:I->I}(h:I0 W X V)(hb:A0 V V'):I0 W X V' :=
 ⟨(hb.block _<|Cd h.h).trans h.h,(hb.block _<|Cd h.ret).trans h.ret,h.ac.trans<|hb.mono h.ac.size⟩
def xP(W:Ap)(X:I->I):I0 W X (Az (Az W<|M (CD X) 183)<|M (CD E8) 183) :=
 ⟨(CB _ _ _ Ba).trans<|Cj _,B2<|Cj (Az W<|M (CD X) 183) (o:=(M (CD E8) 183)),(Cm).alloc Ba _⟩
theorem Sg(X:I->I):(CD X).all (·.oneCell')=AP:=by grind [CD,Value.oneCell']
def Sh{X Y:I->I}:(CD X).size=(CD Y).size:=by rw[MZ,MZ]
def I0.set{W:Ap}{X:I->I}(h:I0 W X V)(g:I)(a:O (U W)+1<g)(cs:A3):I0 W X (AD V g cs) :=
 ⟨sx E h.h,sx E h.ret,Dq h.ac E⟩
def I0.cell{W:Ap}{X:I->I}(h:I0 W X V)(g j:I)(a:O (U W)+1<g)(v:Aq):I0 W X (AB V ⟨g,j,Ao⟩ v) :=
 ⟨(GB _ _ _ _ B7).trans h.h,(GB _ _ _ _ B7).trans h.ret,h.ac.setCell B7 _⟩
theorem I0.drew{W:Ap}{X:I->I}(h:I0 W X V):I0 W X V.drew:=⟨h.h,h.ret,h.ac.drew⟩
theorem xQ(st X:I->I)(k:I):(λi=>if i=k then w1 (st k) (X k)else Fy st X k i)=Fy st X (k+1):=by grind [Fy]
theorem jf{y:I}(h:y<256):IntKind.u16.wrap ((y:J)*2)=((y<<<1:I):J):=by grind [N0,Nat.shiftLeft_eq]
theorem xR(st X:I->I):Fy st X 0=X:=by grind [Fy]
theorem xS{P:I->I}(hP:∀r,P r<512)(v:∀r,st r<256)(hn:n<=16)(o:A<O (U W))(x:A6 W A 0<|G ra n rc)(cs:∀r,r<16->A6 W A (3+r) (C .u16<|st r)):Ar As 142 #[A8 A,.agg<|CD P] W λab W'=>(∃m,ab=Ak (.agg<|CD m)/\(∀r,r<n->∀k,(m r).testBit k=KS (st r) (P r) k)/\(∀r,n<=r->m r=P r)/\∀r,m r<512)/\A0 W W':=by
 have an:D<|I0 W P<|Az (Az W<|Aj (CD P) 183)<|Aj #[C .u16 0,C .u16 0,C .u16 0,C .u16 0,C .u16 0,C .u16 0,C .u16 0,C .u16 0,C .u16 0,C .u16 0,C .u16 0,C .u16 0,C .u16 0,C .u16 0,C .u16 0,C .u16 0] 183:=xP W P;have am:=T<|xL st n hP;go_enter func142,ntmps142;go_wp2
 go_loopg[] (8192-JU P 16) (λg wr=>∃a,D (I0 W a wr)/\D (Pi P st n a)/\D (JU a 16+g=8192))
 grind [D,Ut];obtain⟨a,l,i,L⟩:=hrel;have d0:=(l.ac.cell (p:=⟨A,_,Ao⟩) o).trans x
 go_wp2_with(first
  |(refine CO Z 183 (.tmp 3) Z (O<|U W) Z _ _ _ _ l.h underlying183 Z (FW a) ?_)
  |(refine D8 Z 183 (.tmp 5) (.tmp 7) Z (O<|U wr) (CD a) Z Z 183 (CD E8) (Cj wr) (FW a) (Sh) (Sg a) ?_;have w:=T<|Cd l.ret;have R:D<|I0 W a<|(Az wr<|Aj #[C .u16 0,C .u16 0,C .u16 0,C .u16 0,C .u16 0,C .u16 0,C .u16 0,C .u16 0,C .u16 0,C .u16 0,C .u16 0,C .u16 0,C .u16 0,C .u16 0,C .u16 0,C .u16 0] 183).setRow (O<|U wr)<|CD a:=(l.next Cm).set _ w _;have ao:D<|((Az wr<|Aj #[C .u16 0,C .u16 0,C .u16 0,C .u16 0,C .u16 0,C .u16 0,C .u16 0,C .u16 0,C .u16 0,C .u16 0,C .u16 0,C .u16 0,C .u16 0,C .u16 0,C .u16 0,C .u16 0] 183).setRow (O<|U wr)<|CD a).heap[O<|U wr]?=H (Aj (CD<|Fy st a 0) 183):=(by grind [D,xR,setRow_heap,Cj]);generalize(Az wr<|Aj #[C .u16 0,C .u16 0,C .u16 0,C .u16 0,C .u16 0,C .u16 0,C .u16 0,C .u16 0,C .u16 0,C .u16 0,C .u16 0,C .u16 0,C .u16 0,C .u16 0,C .u16 0,C .u16 0] 183).setRow (O<|U wr) (CD a)=V1 at *;generalize O (U wr)=M at *;have d0:=(R.ac.cell (p:=⟨A,_,Ao⟩) o).trans x))
 go_loopg[13] n (λg al V=>∃k:I,al=C Y k/\D (k+g=n)/\D (I0 W a V)/\D (A7 V M (CD<|Fy st a k) 183))
 grind [D];obtain⟨k,rfl,u,d,j⟩:=hrel;obtain _|g:=gk
 .have aj:¬(k:J)<(n:J):=AY<|AE u;have ai:k=n:=AY<|AE u;subst ai;have ad:∀r,a r<65536:=λr=>AY<|i.lt r;have ae:∀r,Fy st a k r<65536:=λr=>AY<|(i.aq v).lt r;have B:=xO ae ad wr;cases y:QD (Fy st a k) a
  .rw[y]at B;have N:D<|JU a 16<JU (Fy st a k) 16:=by
    show _<_;have ah:∀r,a r<=Fy st a k r:=λr=>by grind [Fy,xJ]
    have ag:∃r,r<16/\a r<Fy st a k r:=by grind [je]
    obtain⟨r,h1,h2⟩:=ag;exact j9 ah 16 r h1 h2
   have q:=T<|i.aq v
   go_wp2_with(first
    |(refine CO Z 183 (.tmp 5) Z M Z _ _ _ _ j underlying183 Z (FW _) ?_)
    |(refine CO Z 183 (.tmp 3) Z (O<|U W) Z _ _ _ _ d.h underlying183 Z (FW a) ?_)
    |(refine D8 Z 183 (.tmp 3) (.tmp 37) Z (O<|U W) (CD<|Fy st a k) Z Z 183 (CD a) d.h (FW _) (Sh) (Sg _) ?_))
   have e:D<|I0 W (Fy st a k)<|AD wr (O<|U W)<|CD<|Fy st a k:=⟨CR _ _ _ _ _ _ d.h,sx E d.ret,Dq d.ac<|Cr _⟩
   go_roundg (8192-JU (Fy st a k) 16);exact⟨Fy st a k,e,q,AZ<|Ut q.lt 16⟩;have:=AE L;have:=AE N;have:=Ut q.lt 16;omega
  rw[y]at B;have he:∀r,r<k->w1 (st r) (a r)=a r:=λr hr=>by grind [jd,Fy]
  have F:=T<|i.done he
  go_wp2_with(first
   |(refine CO Z 183 (.tmp 5) Z M Z _ _ _ _ j underlying183 Z (FW _) ?_)
   |(refine CO Z 183 (.tmp 3) Z (O<|U W) Z _ _ _ _ d.h underlying183 Z (FW a) ?_)
   |(refine D8 Z 183 (.tmp 4) (.tmp 36) Z (O (U W)+1) (CD a) Z Z 183 (CD E8) d.ret (FW a) (Sh) (Sg a) ?_))
  refine CS (Lb results142 _ _ (O (U W)+1) 183 (CD a) (0,0) _ Z (CR _ _ _ _ _ _ d.ret) underlying183 Z<|FW a) Z ⟨⟨a,Z,F,i.a2,i.lt⟩,Dq d.ac E⟩
 have av:k<n:=AY<|AE u;have aj:(k:J)<(n:J):=E;have au:(k:J)<16:=E;have ap:=i.lt k;have ax:=v k;have ha:=Ur (a k) (st k) E E;have af:a k&&&st k<256:=PP (n:=8) _ E;have aw:=jf af;have ak:bits .or .u16 (a k:J) (((a k&&&st k)<<<1:I):J)=((w1 (st k) (a k):I):J):=Yl E E;have aq:A6 wr M k<|C .u16<|a k:=by have h:=Cc j k;grind [Lz,Fy]
 have ar:=Dy wr M k _ _ j;have Q:D<|A6 wr (O<|U W) k (C .u16<|a k)/\A6 wr A (3+k) (C .u16<|st k):=⟨by have h:=Cc d.h k;grind [Lz],(d.ac.cell (p:=⟨A,_,Ao⟩) o).trans<|cs k E⟩
 have s:D<|I0 W a<|wr.drew.setCell ⟨M,k,Ao⟩<|C .u16 ((w1 (st k) (a k):I):J):=d.drew.cell _ _ w _;have z:D<|(wr.drew.setCell ⟨M,k,Ao⟩<|C .u16 ((w1 (st k) (a k):I):J)).heap[M]?=H (Aj (CD<|Fy st a<|k+1) 183):=by have h:=DX wr.drew M k _ _ (C .u16 ((w1 (st k) (a k):I):J)) j;grind [D,Us,xQ]
 go_wp2;have c:(λb:X=>A6 b (O<|U W) k (C .u16<|a k)/\A6 b A (3+k) (C .u16<|st k)) {wr with drawn:=wr.drawn+1}:=AE Q;have ac:(λb:X=>A6 b (O<|U W) k (C .u16<|a k)/\A6 b A (3+k) (C .u16<|st k))<|wr.drew.setCell ⟨M,k,Ao⟩<|C .u16 ((w1 (st k) (a k):I):J):=⟨by have h:=Cc s.h k;grind [Lz],(s.ac.cell (p:=⟨A,_,Ao⟩) o).trans<|cs k E⟩
 refine Ei (S:=λb=>A6 b (O<|U W) k (C .u16<|a k)/\A6 b A (3+k) (C .u16<|st k)) B6 ?_;refine Cb 0 16 (C Y k) c <| Ch 1 17 (A9 M k) Z (λb f=>Bh) c <| Cb 3 19 (C Y k) c <| Ch 4 20 (A9 (O<|U W) k) Z (λb f=>Bh) c <| Ch 5 21 (C .u16<|a k) Z (λb f=>Bh) c <| Cb 6 22 (A8 A) c <| Cb 7 23 (C Y k) c <| Cb 8 24 (A8 A) c <| Cb 9 25 (A9 A 3) c <| Ch 10 26 (A9 A<|3+k) Z (λb f=>Bh) c <| Ch 11 27 (C .u16<|st k) Z (λb f=>Bh) c <| Ch 12 28 (C .u16 ((a k&&&st k:I):J)) Z (λb f=>Bh) c <| Ch 13 29 (C .u16 (((a k&&&st k)<<<1:I):J)) Z (λb f=>Bh) c ?_;refine CH 2 λaa t=>?_;go_simp;refine t.out _ _ c λ_=>?_;refine Ch 14 30 (C .u16 ((w1 (st k) (a k):I):J)) Z (λb f=>by go_simp;exact ak) c <| Ch 15 31 (A9 M k) Z (λb f=>Bh) c <| CH 16 λaa t=>?_;go_simp;refine t.out _ _ ac λ_=>?_;refine CK ?_;go_simp;go_wp2;go_roundg g;exact⟨k+1,Bb,B9,s,z⟩;omega
structure Oa(W:Ap)(A:AH)(ra:A4)(rc n:AH)(st:AH->AH):Prop where
 lt:A<Au (Av W)
 f:AC W ⟨A,0,Ao⟩=An (Ac ra n rc)
 ai:∀r,r<16->AC W ⟨A,3+r,Ao⟩=An (Ab .u16 (st r))
def Oa.ac(h:Oa W A ra rc n st)(hb:A0 W W'):Oa W' A ra rc n st :=
 ⟨CQ h.lt hb.size,Ca (hb.cell (p:=⟨A,_,Ao⟩) h.lt) h.f,λr a=>Ca (hb.cell (p:=⟨A,_,Ao⟩) h.lt)<|h.ai r a⟩
def Pj(n:AH)(st P Y:AH->AH):Prop:=(∀r,r<n->∀k,(Y r).testBit k=KS (st r) (P r) k)/\(∀r,n<=r->Y r=P r)/\∀r,Y r<512
def Yq(n:AH)(st P:AH->AH)(e:Ending):Prop:=∃Y,e=Ak (.agg<|CD Y)/\Pj n st P Y
def jg(h:Oa W A ra rc n st){P:I->I}(b:∀r,P r<512)(d:∀r,st r<256)(c:n<=16):Ar As 142 #[A8 A,.agg<|CD P] W λe a=>Yq n st P e/\A0 W a :=
 xS b d c h.lt h.f h.ai
def one(k:AH):AH->AH:=λr=>if r<k then 1 else 0
theorem xT:one 0=E8:=by funext r;rfl
theorem xU(k:I):(λi=>if i=k then(one k k|||2^0:I)else one k i)=one (k+1):=by grind [one]
theorem jh(k r:I):one k r<512:=by grind [one]
structure Pk(W:Ap)(X:AH->AH)(V:Ap):Prop where
 ret:V.heap[Au (Av W)]?=An (Aj (CD E8) 183)
 p:V.heap[Au (Av W)+1]?=An (Aj (CD X) 183)
 ac:A0 W V
theorem Pk.next{W:Ap}{X:I->I}(h:Pk W X V)(hb:A0 V V'):Pk W X V' :=
 ⟨Ca (Co hb _<|Cd h.ret) h.ret,Ca (Co hb _<|Cd h.p) h.p,Cs h.ac<|CG hb h.ac.size⟩
def xV(W:X):Pk W E8 (Az (Az W<|M (CD E8) 183)<|M (CD E8) 183) :=
 ⟨Ca (CB _ _ _ Ba)<|Cj _,B2<|Cj (Az W<|M (CD E8) 183) (o:=(M (CD E8) 183)),(Cm).alloc Ba _⟩
theorem xW(y:∀r,st r<256)(x:n<=16)(h:Oa W A ra rc n st):Ar As 98 #[A8 A] W λe W'=>Yq n st (one n) e/\A0 W W':=by
 have f:=T h;have F:D<|Pk W E8<|Az (Az W<|M #[C .u16 0,C .u16 0,C .u16 0,C .u16 0,C .u16 0,C .u16 0,C .u16 0,C .u16 0,C .u16 0,C .u16 0,C .u16 0,C .u16 0,C .u16 0,C .u16 0,C .u16 0,C .u16 0] 183)<|M #[C .u16 0,C .u16 0,C .u16 0,C .u16 0,C .u16 0,C .u16 0,C .u16 0,C .u16 0,C .u16 0,C .u16 0,C .u16 0,C .u16 0,C .u16 0,C .u16 0,C .u16 0,C .u16 0] 183:=xV W;have L:=h.f;have P:=h.lt;go_enter func98,ntmps98;go_wp2
 go_loopg[10] n (λg z V=>∃k:I,z=C Y k/\D (k+g=n)/\D (Pk W (one k) V))
 grind [xT];obtain⟨k,rfl,d,a⟩:=hrel;obtain _|g:=gk
 .have w:¬(k:J)<(n:J):=AY<|AE d;have v:k=n:=AY<|AE d;subst v;have m:=λV s=>jg (f.ac (W':=V) s) (jh k) y x
  go_wp2_with(first
   |(go_at_call 142;refine Ce (m _ a.ac) ?_;rintro e B ⟨⟨b,rfl,q⟩,o⟩;have c:=T<|a.next o;have j:=T q)
   |(refine CO Z 183 (.tmp 3) Z (O (U W)+1) Z _ _ _ _ a.p underlying183 Z (FW _) ?_)
   |(refine D8 Z 183 (.tmp 2) (.tmp 18) Z (O<|U W) (CD b) Z Z 183 (CD E8) c.ret (FW b) (Sh) (Sg b) ?_))
  refine CS (Lb results98 _ _ (O<|U W) 183 (CD b) (0,0) _ Z (CR _ _ _ _ _ _ c.ret) underlying183 Z<|FW b) Z ⟨⟨b,Z,j⟩,Dq c.ac<|Cr _⟩
 have N:k<n:=AY<|AE d;have w:(k:J)<(n:J):=E;have t:A6 wr (O (U W)+1) (0+k)<|C .u16<|one k k:=by have h:=Cc a.p<|0+k;grind [Lz]
 have u:=Dy wr (O (U W)+1) (0+k) _ _ a.p;have l:=Sf (k:=0) E E (AY<|jh k k) t u;have i:D<|Pk W (one<|k+1) (AB wr ⟨O (U W)+1,k,Ao⟩<|C .u16 ((one k k|||1:I):J)).drew:=by refine⟨Ca (GB wr _ _ _ Ba) a.ret,?_,(a.ac.setCell Ba _).drew⟩;have h:=DX wr (O (U W)+1) k _ _ (C .u16 ((one k k|||1:I):J)) a.p;rw[Us,show(1:I)=2^0 from rfl,xU]at h;exact h
 go_wp2_with(first
  |(go_at_call 140;refine Ce l ?_;rintro e B ⟨rfl,rfl⟩))
 go_roundg g;exact⟨k+1,Bb,B9,i⟩;omega
structure Si(W:Ap)(A tb L tc:AH)(tk:AH->AH->AH):Prop where
 lt:A<Au (Av W)
 tlt:tb<Au (Av W)
 k:AC W ⟨A,19,Ao⟩=An (Ac (Aa tb) L tc)
 aq:∀x r,x<L->r<16->AC W ⟨tb,x*16+r,Ao⟩=An (Ab .u16 (tk x r))
def Si.ac{L:I}{tk:I->I->I}(h:Si W A tb L tc tk)(hb:A0 W W'):Si W' A tb L tc tk :=
 ⟨CQ h.lt hb.size,CQ h.tlt hb.size,(hb.cell (p:=⟨A,_,Ao⟩) h.lt).trans h.k,λx r b a=>(hb.cell (p:=⟨tb,_,Ao⟩) h.tlt).trans<|h.aq x r b a⟩
def N5(st tk x:AH):AH:=(x&&&st)|||((x&&&tk)<<<1)
def I1(st tk P:AH->AH)(k:AH):AH->AH:=λr=>if r<k then N5 (st r) (tk r) (P r)else 0
theorem xX{st tk:I}(d:st<256)(e:tk<256):N5 st tk x<512:=by have b:x&&&st<2^8:=PP _ E;have c:x&&&tk<2^8:=PP _ E;have a:(x&&&tk)<<<1<2^9:=E;exact ap (n:=9) E a
theorem xY(st tk P:I->I):I1 st tk P 0=E8:=by grind [I1,E8]
theorem xZ(st tk P:I->I)(k:I):(λi=>if i=k then N5 (st k) (tk k) (P k)else I1 st tk P k i)=I1 st tk P (k+1):=by grind [I1]
theorem ya{tk:I->I}(a:∀r,st r<256)(b:∀r,tk r<256)(P:I->I)(k r:I):I1 st tk P k r<512:=by grind [I1,xX]
structure N6(W:Ap)(P X:AH->AH)(V:Ap):Prop where
 h:V.heap[Au (Av W)]?=An (Aj (CD P) 183)
 ret:V.heap[Au (Av W)+1]?=An (Aj (CD E8) 183)
 a:V.heap[Au (Av W)+2]?=An (Aj (CD X) 183)
 ac:A0 W V
theorem N6.next{W:Ap}{P X:I->I}(h:N6 W P X V)(hb:A0 V V'):N6 W P X V' :=
 ⟨(hb.block _<|Cd h.h).trans h.h,(hb.block _<|Cd h.ret).trans h.ret,(hb.block _<|Cd h.a).trans h.a,h.ac.trans<|hb.mono h.ac.size⟩
def yb(P:I->I):N6 W P E8 (Az (Az (Az W<|M (CD P) 183)<|M (CD E8) 183)<|M (CD E8) 183) :=
 ⟨((CB _ _ _ B7).trans<|CB _ _ _ Ba).trans<|Cj _,(CB _ _ _ Ba).trans<|B2<|Cj (Az W<|M (CD P) 183) (o:=(M (CD E8) 183)),B2<|Cj (Az (Az W<|M (CD P) 183)<|M (CD E8) 183) (o:=(M (CD E8) 183)),((Cm).alloc Ba _).alloc B7 _⟩
theorem ji{L:I}{tk:I->I->I}(m:∀r,st r<256)(u:∀x r,tk x r<256)(hn:n<=16)(h:Oa W A ra rc n st)(B:Si W A tb L tc tk){P:I->I}(Q:∀r,P r<512)(hx:x<L):Ar As 104 #[A8 A,.agg<|CD P,C Y x] W λe W'=>Yq n st (I1 st (tk x) P n) e/\A0 W W':=by
 have o:=T h;have t:=T B;have q:D<|N6 W P E8<|Az (Az (Az W<|M (CD P) 183)<|M #[C .u16 0,C .u16 0,C .u16 0,C .u16 0,C .u16 0,C .u16 0,C .u16 0,C .u16 0,C .u16 0,C .u16 0,C .u16 0,C .u16 0,C .u16 0,C .u16 0,C .u16 0,C .u16 0] 183)<|M #[C .u16 0,C .u16 0,C .u16 0,C .u16 0,C .u16 0,C .u16 0,C .u16 0,C .u16 0,C .u16 0,C .u16 0,C .u16 0,C .u16 0,C .u16 0,C .u16 0,C .u16 0,C .u16 0] 183:=yb P;have c0:=h.f;have al:=h.lt;have am:A<O (U W)+1:=E;have an:A<O (U W)+1+1:=E;go_enter func104,ntmps104;go_wp2
 go_loopg[14] n (λg ac V=>∃k:I,ac=C Y k/\D (k+g=n)/\D (N6 W P (I1 st (tk x) P k) V))
 grind [xY];obtain⟨k,rfl,l,d⟩:=hrel;obtain _|g:=gk
 .have hl:¬(k:J)<(n:J):=AY<|AE l;have aa:k=n:=AY<|AE l;subst aa;have y:=λV i=>jg (o.ac (W':=V) i) (ya m (u x) P k) m hn
  go_wp2_with(first
   |(go_at_call 142;refine(y _ d.ac).mono ?_;rintro e w2 ⟨⟨f,rfl,hY⟩,F⟩;have j:=T<|d.next F;have w:=T hY)
   |(refine CO Z 183 (.tmp 7) Z (O (U W)+1+1) Z _ _ _ _ d.a underlying183 Z (FW _) ?_)
   |(refine D8 Z 183 (.tmp 6) (.tmp 47) Z (O (U W)+1) (CD f) Z Z 183 (CD E8) j.ret (FW f) (Sh) (Sg f) ?_))
  refine CS (Lb results104 _ _ (O (U W)+1) 183 (CD f) (0,0) _ Z (CR _ _ _ _ _ _ j.ret) underlying183 Z<|FW f) Z ⟨⟨f,Z,w⟩,Dq j.ac E⟩
 have ak:k<n:=AY<|AE l;have hl:(k:J)<(n:J):=E;have aj:(k:J)<16:=E;have hxL:(x:J)<(L:J):=E;have ae:=Q k;have ap:=m k;have aq:=u x k;have ha:=Ur (P k) (st k) E E;have ag:=Ur (P k) (tk x k) E E;have af:P k&&&st k<256:=PP (n:=8) _ E;have z:P k&&&tk x k<256:=PP (n:=8) _ E;have ao:=jf z;have ab:bits .or .u16 ((P k&&&st k:I):J) (((P k&&&tk x k)<<<1:I):J)=((N5 (st k) (tk x k) (P k):I):J):=Yl E E;have ah:A6 wr (O (U W)+1+1) k<|C .u16<|I1 st (tk x) P k k:=by have h:=Cc d.a k;grind [Lz]
 have ai:=Dy wr (O (U W)+1+1) k _ _ d.a;have s:D<|N6 W P (I1 st (tk x) P<|k+1)<|wr.drew.setCell ⟨O (U W)+1+1,k,Ao⟩<|C .u16 ((N5 (st k) (tk x k) (P k):I):J):=by refine⟨(GB wr.drew _ _ _ B7).trans d.h,(GB wr.drew _ _ _ Ba).trans d.ret,?_,d.ac.drew.setCell B7 _⟩;have h:=DX wr.drew (O (U W)+1+1) k _ _ (C .u16 ((N5 (st k) (tk x k) (P k):I):J)) d.a;grind [Us,xZ]
 have p:∀V,N6 W P (I1 st (tk x) P k) V\/N6 W P (I1 st (tk x) P<|k+1) V->A6 V (O<|U W) k (C .u16<|P k)/\A6 V A (3+k) (C .u16<|st k)/\A6 V A 19 (G (Aa tb) L tc)/\A6 V tb (x*16+k) (C .u16<|tk x k):=by
  intro V hV;have i:A7 V (O<|U W) (CD P) 183/\A0 W V:=by rcases hV with h|h<;>exact⟨h.h,h.ac⟩
  exact⟨by have h:=Cc i.1 k;grind [Lz],(o.ac i.2).ai k E,(t.ac i.2).k,(t.ac i.2).aq x k hx E⟩
 have q:D<|_:=p wr<|.inl d;have v:D<|_:=p _<|.inr s;go_wp2;have a:(λb:X=>A6 b (O<|U W) k (C .u16<|P k)/\A6 b A (3+k) (C .u16<|st k)/\A6 b A 19 (G (Aa tb) L tc)/\A6 b tb (x*16+k) (C .u16<|tk x k)) {wr with drawn:=wr.drawn+1}:=AE q;have R:=AE v;refine Ei (S:=λb=>A6 b (O<|U W) k (C .u16<|P k)/\A6 b A (3+k) (C .u16<|st k)/\A6 b A 19 (G (Aa tb) L tc)/\A6 b tb (x*16+k) (C .u16<|tk x k)) B6 ?_;refine Cb 0 17 (C Y k) a <| Cb 1 18 (C Y k) a <| Ch 2 19 (A9 (O<|U W) k) Z (λb c=>Bh) a <| Ch 3 20 (C .u16<|P k) Z (λb c=>by have z1:=c.1;go_simp) a <| Cb 4 21 (A8 A) a <| Cb 5 22 (C Y k) a <| Cb 6 23 (A8 A) a <| Cb 7 24 (A9 A 3) a <| Ch 8 25 (A9 A<|3+k) rfl (λb c=>Bh) a <| Ch 9 26 (C .u16<|st k) rfl (λb c=>Bh) a <| Ch 10 27 (C .u16 ((P k&&&st k:I):J)) rfl (λb c=>Bh) a <| Cb 11 28 (C Y k) a <| Ch 12 29 (A9 (O<|U W) k) rfl (λb c=>Bh) a <| Ch 13 30 (C .u16<|P k) rfl (λb c=>by have z1:=c.1;go_simp) a <| Cb 14 31 (A8 A) a <| Cb 15 32 (A8 A) a <| Cb 16 33 (A9 A 19) a <| Ch 17 34 (G (Aa tb) L tc) rfl (λb c=>Bh) a <| Cb 18 35 (C Y x) a <| Cb 19 36 (C Y k) a <| Ch 20 37 (A9 tb<|x*16) rfl (λb c=>Bh) a <| Ch 21 38 (A9 tb<|x*16+k) rfl (λb c=>Bh) a <| Ch 22 39 (C .u16<|tk x k) rfl (λb c=>Bh) a <| Ch 23 40 (C .u16 ((P k&&&tk x k:I):J)) rfl (λb c=>Bh) a <| Ch 24 41 (C .u16 (((P k&&&tk x k)<<<1:I):J)) rfl (λb c=>Bh) a ?_;refine Ch 25 42 (C .u16 ((N5 (st k) (tk x k) (P k):I):J)) Z (λb c=>by go_simp;exact ab) a <| Ch 26 43 (A9 (O (U W)+1+1) k) Z (λb c=>Bh) a <| CH 27 λad N=>?_;go_simp;refine N.out _ _ R λ_=>?_;refine CK ?_;go_simp;go_wp2;go_roundg g;exact⟨k+1,Bb,B9,s⟩;omega
def Ed(W:Ap)(kt:AN)(m n:AH)(f:Lit->Option AH):Prop :=
 ∃D:A2,W.ownsMap As kt (plainElem As 3) m n D/\∀l,Maps.has D l=(f l).isSome/\∀v:AH,f l=An v->D.atKey l (.lit<|.int Al 0)=.lit (.int Al v)
def Ed.kept{row:Option I}(h:Ed W kt m n f)(d:W.grownBy W' row)(e:H m≠row):Ed W' kt m n f:=C5
def Ed.lt(h:Ed W kt m n f):m<O (U W):=by obtain⟨b,a,_⟩:=h;exact a.lt
def Yr(W:X)(a:AN):Ed (Az W<|.map #[] 0) a (O<|U W) 0 (λ_=>Ao) :=
 ⟨_,ZP W As a _,λl=>⟨kfC,λv h=>Bs⟩⟩
def jj:(zeroValue 3).run As W=.ok (C Y 0) W:=B6
theorem jk{D:A2}(_h1:W.ownsMap As kt (plainElem As 3) m n D)(a:∀l,Maps.has D l=(f l).isSome/\∀v:I,f l=H v->D.atKey l (.lit<|.int Y 0)=.lit (.int Y v)):D.atKey kl (.lit<|.int Y 0)=.lit (.int Y (((f kl).getD 0:I):J)):=by cases b:f kl<;>grind [Maps.atKey_of_not_has]
theorem Sj(h:Ed W kt m n f)(K:Maps.Keyed As kt)(g:prog.underlying t=H (.map kt 3))(e:keyOf As kt key=H kl):(Instr.lookup t (.map<|H m) key AQ).run As W=.ok (C Y (((f kl).getD 0:I):J)) W:=by obtain⟨i,a,b⟩:=h;obtain⟨c,j,d,_⟩:=a.lookup_int K g underlying3 (jj) e;rw[jk a b]at d;grind
theorem Sk(h:Ed W kt m n f)(K:Maps.Keyed As kt)(d:prog.underlying t=H (.map kt 3))(c:keyOf As kt key=H kl):(Instr.lookup t (.map<|H m) key AP).run As W=.ok (Af #[C Y (((f kl).getD 0:I):J),Ah (f kl).isSome]) W:=by obtain⟨g,a,b⟩:=h;obtain⟨v,j,i,e⟩:=a.look_ok K d (jj) (Wd underlying3 B8) c;rw[jk a b]at e;grind [plainElem_int_inv,underlying3]
theorem Ys(h:Ed W kt m n f)(K:Maps.Keyed As kt)(p:prog.underlying t=H (.map kt 3))(y:n<1000000000)(g:keyOf As kt key=H kl)(v:I)(z:v<1000000000):∃a,(Instr.mapUpdate t (.map<|H m) key<|C Y v).run As W=.ok () a/\(∀b:Lit->Option I,b kl=H v->(∀l,l≠kl->b l=f l)->Ed a kt m (n+1) b)/\W.grownBy a (H m):=by
 obtain⟨w,d,x⟩:=h;have s:(Lit.int Y (v:J)).wf=AP:=by have c:IntKind.i64.min = -9223372036854775808:=B6;have i:IntKind.i64.max=9223372036854775807:=B6;grind [Lit.wf]
 obtain⟨a,o,k,j⟩:=d.store K p Bc g<|Wd underlying3 s;refine⟨a,o,λb c i=>⟨_,k,λl=>?_⟩,j.grown⟩;by_cases e:l=kl
 .subst e;refine⟨Ca (VU d.isMap (K.key g) _) kfm,λu q=>?_⟩;have r:=Fl<|Ca c.symm q;rw[<-r];exact af d.isMap (K.key g) _ _
 grind [Maps.has_put_other,Maps.atKey_put_other]
def Yt:Maps.Keyed As 183:=av Yn
def Sl:Maps.Keyed As 199:=av Yo
structure D0 where
 h:A4
 e:AH
 a:AJ (AJ (AH×A1)×AI×AI)
 c:AI
 f:AH
 ln:AH
 i:Lit->Option AH
 st:AH->AH
 g:AH
 L:AH
 tc:AH
 j:AH->AH->AH
 d:AH
 b:AH
def Sm(q:D0)(sv:Aq):A3:=#[Ac q.h (At q.a) q.e,Ab Al q.c,.map<|An q.f,Ab .u16<|q.st 0,Ab .u16<|q.st 1,Ab .u16<|q.st 2,Ab .u16<|q.st 3,Ab .u16<|q.st 4,Ab .u16<|q.st 5,Ab .u16<|q.st 6,Ab .u16<|q.st 7,Ab .u16<|q.st 8,Ab .u16<|q.st 9,Ab .u16<|q.st 10,Ab .u16<|q.st 11,Ab .u16<|q.st 12,Ab .u16<|q.st 13,Ab .u16<|q.st 14,Ab .u16<|q.st 15,Ac (Aa q.g) q.L q.tc,sv,.map<|An q.d,.map<|An q.b]
def Ob(x:(AH->AH)×AI×AI):AJ Aq:=(CD x.1).toList++[Ab Al x.2.1,Ab Al x.2.2]
structure Dv(W0:Ap)(A:AH)(q:D0)(sts:AJ ((AH->AH)×AI×AI))(sv:Aq)(nf:Lit->Option AH)(mn:AH)(mf:Lit->Option AH)(W:Ap):Prop where
 ad:W.heap[A]?=An (Aj (Sm q sv) 187)
 f:J8 W0 q.h q.a
 m:At q.a<=16/\∀i (h:i<At q.a),q.a[i].1.length<=8
 ac:A0 W0 W
 d:Ed W 9 q.f q.ln q.i
 k:∃cur,W.heap[q.g]?=An (Aj cur 183)/\∀(x r:AH),x<q.L->r<16->cur[x*16+r]?=An (Ab .u16 (q.j x r))
 b:W.ownsRow (Au (Av W0)) 203 18 sv (At sts) (sts.flatMap Ob)
 a:Ed W 183 q.d (At sts) nf
 c:Ed W 199 q.b mn mf
 n:Au (Av W0)<=A/\Au (Av W0)<=q.f/\Au (Av W0)<=q.g/\Au (Av W0)<=q.d/\Au (Av W0)<=q.b
 e:A≠q.f/\A≠q.g/\A≠q.d/\A≠q.b/\q.f≠q.g/\q.f≠q.d/\q.f≠q.b/\q.g≠q.d/\q.g≠q.b/\q.d≠q.b
 a0:∀g,Ax sv=An g->g≠A/\g≠q.f/\g≠q.g/\g≠q.d/\g≠q.b
 bits:(∀r,q.st r<256)/\∀x r,q.j x r<256
 j:∀(i:AH) (x:(AH->AH)×AI×AI),sts[i]?=An x->x.2=EI q.c q.a x.1 0/\∀r,x.1 r<512
 num:∀(i:AH) (x:(AH->AH)×AI×AI),sts[i]?=An x->∀l,keyOf As 183 (.agg (CD x.1))=An l->nf l=An i
 num':∀(l:Lit) (i:AH),nf l=An i->∃x,sts[i]?=An x/\keyOf As 183 (.agg (CD x.1))=An l
def KU{P:Program}{ev:Operand->Aq}{W:X}{o:Oper}{ty:AN}(x:Operand)(c:o.op=.load ty x){g:I}(hx:ev x=A8 g){t:AN}{cs:A3}{fr:I×I}{d:TypeDesc}(b:W.heap[g]?=H (M cs t fr))(e:P.underlying ty=H d)(a:(match d with|.struct _|.array _ _=>AP|_=>AQ)=AP)(hi:(P.info? ty).map (·.size)=H cs.size):(execOp ev o).run P W=.ok (.value<|.agg cs) W:=Bk
def yc{q:D0}(h:Dv W0 A q sts sv nf mn mf W){Y:I->I}{l:Lit}(hl:keyOf As 183 (.agg<|CD Y)=H l)(hi:nf l=H i):Ar As 97 #[A8 A,.agg<|CD Y] W λe g=>e=Ak (C Al i)/\A0 W g:=by
 have d:D<|(Az W<|M (CD Y) 183).heap[O<|U W]?=H (M (CD Y) 183):=Cj _;have k:=Cd h.ad;have j:A6 W A 21<|.map<|H q.d:=Cc h.ad 21;have f:=T<|h.a.kept (L8 W (M (CD Y) 183) Ao) Ba;go_enter func97,ntmps97;go_wp2;have a:(λb:X=>A6 b A 21 (.map<|H q.d)/\A7 b (O<|U W) (CD Y) 183/\Ed b 183 q.d (K sts) nf) {Az W (M (CD Y) 183)with drawn:=(Az W<|M (CD Y) 183).drawn+1}:=⟨((((Cu (O<|U W) W).alloc (Cr _)<|M (CD Y) 183).cell (p:=⟨A,21,Ao⟩) k).trans j :),d,f⟩
 refine Ei (S:=λb=>A6 b A 21 (.map<|H q.d)/\A7 b (O<|U W) (CD Y) 183/\Ed b 183 q.d (K sts) nf) B6 ?_;refine Cb 0 10 (A8 A) a <| Cb 1 11 (A8 A) a <| Cb 2 12 (A9 A 21) a <| Ch 3 13 (.map<|H q.d) Z (λb c=>Bh) a <| Ch 4 14 (.agg<|CD Y) Z (λb c=>by exact KU (.tmp 3) Z Z c.2.1 underlying183 Z<|FW Y) a <| Ch 5 15 (Af #[C Al i,Ah AP]) Z (λb c=>by have m:=Sk c.2.2 Yt underlying179 hl;rw[hi]at m;go_simp) a <| Cb 6 9 (Af #[C Al i,Ah AP]) a <| Cb 7 16 (C Al i) a <| Cb 8 17 (Ah AP) a <| Cb 9 5 (C Al i) a <| Cb 10 6 (Ah AP) a <| CK ?_;go_simp;go_wp2;go_ret;exact⟨Z,(Cm).drew⟩
def Db(c:AU):A1->AJ A1
 |[]=>[[]]
 |x::r=>if x==c then[]::Db c r else match Db c r with
  |h::t=>(x::h)::t
  |[]=>[[x]]
theorem Yu(c:AU)(l:A1):Db c l≠[]:=by cases l<;>grind [Db]
theorem Yv:∀l:A1,(∀x,x∈l->(x==c)=AQ)->Db c l=[l]
 |[],_=>rfl
 |x::r,h=>by have b:=h x<|Mn ..;have d:=Yv r λy a=>h y<|LM _ a;grind [Db]
theorem Yw:∀(a b:A1),(∀x,x∈a->(x==c)=AQ)->Db c (a++c::b)=a::Db c b
 |[],b,_=>by simp[Db]
 |x::a,b,h=>by have e:=h x<|Mn ..;have f:=Yw a b λy d=>h y<|LM _ d;grind [Db]
theorem yd(h:Lib.indexByte l c = -1):Db c l=[l]:=by refine Yv l λx a=>?_;obtain⟨k,b,rfl⟩:=QZ a;have:=Lib.indexByte_none h k;grind
theorem ye{o:I}(h:Lib.indexByte l c=o):o<K l/\Db c l=l.take o::Db c (l.drop<|o+1):=by
 obtain⟨a,f⟩:=Lib.indexByte_some h;have d:=Dk a;refine⟨d,?_⟩;have e:l=l.take o++c::l.drop (o+1):=by have b:=(Nu.1 a).2;rw[<-b];simp
 grind [Yw,List.getElem_of_mem,beq_eq_false_iff_ne,List.getElem?_eq_getElem]
def Tryz.infoStr:(prog.info? 9).map (λi=>(i.zero,i.size,i.bytes))=H (H<|.string ByteArray.empty,1,16):=B6
def yf{a:I}:(s.extract a b).data.toList=(s.data.toList.take b).drop a:=by rw[nw];simp[List.drop_take]
structure N7(c:AU)(l:A1)(ps:AJ AT)(f i:AH):Prop where
 fi:f<=i
 il:i<=At l
 len:At ps<=i
 eq:Db c l=ps.map (·.data.toList)++Db c (l.drop f)
 no:∀x,x∈(l.take i).drop f->(x==c)=AQ
theorem N7.next{f:I}(h:N7 c l ps f i)(hi:i<K l)(hx:(l[i]==c)=AQ):N7 c l ps f<|i+1:=by
 refine⟨AY h.fi,hi,AY h.len,h.eq,λx b=>?_⟩;rw[VA hi,SN kfz,Rb]at b;rcases b with a|a
 .exact h.no x a
 grind
theorem N7.found{f:I}(h:N7 c l ps f i)(hi:i<K l)(hx:l[i]=c)(p:AT)(a:p.data.toList=(l.take i).drop f):N7 c l (ps++[p]) (i+1)<|i+1:=by
 refine⟨Cr _,hi,by rw[Dj];have:=h.len;simp;omega,?_,λx b=>?_⟩
 .rw[h.eq,Kb,La];congr 1;have e:l.drop f=(l.take i).drop f++c::l.drop (i+1):=by
   conv=>lhs;rw[<-ZK i l]
   rw[SN kfz,K7 hi,hx]
  rw[e,Yw _ _ h.no,<-a];rfl
 grind
theorem N7.a7{f:I}(h:N7 c l ps f<|K l)(p:AT)(a:p.data.toList=l.drop f):Db c l=(ps++[p]).map (·.data.toList):=by rw[h.eq,Kb];congr 1;have:=h.no;grind [Yv]
theorem Yx(c:AU)(k:J)(B:k=c.toNat)(hs:s.size<=100000):Ar As 101 #[.string s,C .u8 k] w λe V =>
   ∃(v:Aq) (a:AJ AT),e=Ak v/\V.ownsRow (O<|U w) 9 1 v (K a) (a.map Value.string)/\A0 w V/\a.map (·.data.toList)=Db c s.data.toList:=by
 obtain⟨S,F,P,Q,R⟩:=DL Tryz.infoStr;have hl:K s.data.toList=s.size:=Fz;have A:=T B;clear B;go_enter func101,ntmps101;go_wp2
 go_loopg[5,6,7] s.size (λg v x ad wr=>∃(a:AJ AT) (f i:I) (p:A4) (r:I),D (i+g=s.size)/\v=G p (K a) r/\x=C Y f/\ad=C Y i/\D (wr.ownsRow (O<|U w) 9 1 v (K a)<|a.map Value.string)/\D (A0 w wr)/\D (N7 c s.data.toList a f i))
 exact⟨[],0,0,Ao,0,Bg,Z,Z,Z,Fi _ _ _ _,Cu _ _,⟨Cr _,Ex _,Cr _,Ba,λx b=>by simp at b⟩⟩;obtain⟨a,f,i,p,r,o,rfl,rfl,rfl,j,l,d⟩:=hrel;have ae:=d.fi;have ah:=d.len;have N:=l.size;have ag:i<=s.size:=AY<|AE o;obtain _|g:=gk
 .have ab:¬(i:J)<s.size:=AY<|AE o;have af:f<=s.size:=E
  go_wp2_with(first
   |(at_builtin;refine K8 _ Z _ _ 98 Z (O<|U w) 9 S (.string ByteArray.empty) 1 16 underlying98 F P Q R Z B8 _ _ _ Z (j.alloc _) ⟨O<|U wr,0,Ao⟩ 1 1 [.string<|s.extract f s.size] Z Z (cell_one_new _ _ _) (λx b=>by simp at b;subst b;rfl) Bc E B7 ?_;intro z w3 L t ac))
  go_ret;have aa:i=K s.data.toList:=AY<|AE o;have W:=AE d;subst aa;exact⟨z,Z,a++[s.extract f s.size],B9,(l.alloc N _).grown t B7 λq u=>(j.lt q u).1,(W.a7 _<|aj s f).symm⟩
 have ab:(i:J)<s.size:=AY<|AE o;have hn:i<s.size:=E;by_cases hc:(s[i].toNat:J)=k
 .have y:((s[i].toNat:J)==k)=AP:=B9
  go_wp2_with(first
   |(at_builtin;refine K8 _ Z _ _ 98 Z (O<|U w) 9 S (.string ByteArray.empty) 1 16 underlying98 F P Q R Z B8 _ _ _ Z (j.alloc _) ⟨O<|U wr,0,Ao⟩ 1 1 [.string<|s.extract f i] Z Z (cell_one_new _ _ _) (λx b=>by simp at b;subst b;rfl) Bc E B7 ?_;intro z w3 L t ac))
  go_roundg g
  .obtain⟨n,m,ai⟩:∃n m,z=G (Aa n) (K a+1) m:=by rcases L.2 with⟨_,h⟩|⟨n,m,_,h,_⟩<;>grind
   have b:s.data.toList[i]=c:=by have e:s[i].toNat=c.toNat:=AY<|AE A;exact PO.1 e
   exact⟨a++[s.extract f i],i+1,i+1,Aa n,m,B9,B9,Bb,Bb,by grind [D],(l.alloc N _).grown t B7 λq u=>(j.lt q u).1,d.found E b _<|yf⟩
  omega
 have y:((s[i].toNat:J)==k)=AQ:=B9;go_wp2;go_roundg g
 .refine⟨a,f,i+1,p,r,B9,rfl,rfl,Bb,j,l,d.next E ?_⟩;rw[Nw];intro e;exact hc (by rw[AE A,<-e];rfl)
 omega
theorem Yy(h:w.ownsRow base 9 1 v (K ps)<|ps.map Value.string)(o:0<K ps):∃g a,v=G (Aa g) (K ps) a/\base<=g/\g<O (U w)/\∀j (f:j<K ps),A6 w g j<|.string ps[j]:=by
 obtain⟨_,⟨_,l⟩|⟨g,a,b,k,c,d,n,_,m,i⟩⟩:=h
 .omega
 refine⟨g,a,k,c,(Cd d),λj f=>?_⟩;have e:b.toList[j]?=H (.string ps[j]):=by have:=congrArg (·[j]?) i;grind
 grind [cell_of_row]
def jl(c:AU):∀l:A1,K (Db c l)<=K l+1
 |[]=>by simp[Db]
 |x::r=>by
  have d:=jl c r;unfold Db;split
  .simp only[FN];omega
  rcases h:Db c r with _|⟨a,b⟩
  .simp
  rw[h]at d;simp only[FN]at *;omega
theorem Pm(c:AU):∀(l p:A1),p∈Db c l->K p<=K l
 |[],p,h=>by grind [Db]
 |x::r,p,h=>by have a:=λq=>Pm c r q;grind [Db,Nat.le_succ_of_le,absurd,Yu,Nat.succ_le_succ,List.mem_cons_self,List.mem_cons_of_mem]
theorem Uu(h:ps.map (·.data.toList)=Db c l):0<K ps:=by grind [absurd,Yu]
def GM(l:A1):AK:=G9 l||(l==[42]||(l==[42,42]||l==[91,93]))
def Fd(l:A1):AK:=l==[46]||((Db 47 l).all GM&&AR (At (Db 47 l)<=8))
def yg{arr:A3}{c:J}(f:arr[0]?=H (C Y c))(f1:arr[1]?=H (G ea (K L) ecap))(b:K L<=maxLen)(i:¬(1<=c/\c<=6/\K L<=30)):Ar As 59 #[.agg arr] w λe d=>e=Ak (Ah AQ)/\A0 w d:=by
 unfold maxLen at b;have key:c<1\/(1<=c/\6<c)\/(1<=c/\c<=6/\(30:J)<K L):=E;rcases key with h|⟨h,a⟩|⟨h,a,g⟩
 all_goals
  go_enter func59,ntmps59;go_wp2;go_ret;exact⟨Z,Cm⟩
theorem yh{arr:A3}(H:Wt arr n L ea ecap)(h1:1<=n)(hn:n<=6)(hL:K L<=30)(hA:G3 w ea L):Ar As 59 #[.agg arr] w λe w'=>e=Ak (Ah<|Fv n L)/\A0 w w':=by
 have B:=H.f0;have f1:=H.f1;have p:=T<|DC H.size;have HE:=T hA;have ab:D<|(Az w<|M arr 40).heap[O<|U w]?=An (M arr 40):=Cj _;have t:D<|A0 w<|Az w<|M arr 40:=Cm;have aa:D<|O (U<|Az w<|M arr 40)=O (U w)+1:=BR;go_enter func59,ntmps59;go_wp2;generalize Az w (M arr 40)=W0 at *
 go_loopg[3,4] (K L) (λg x y wr=>∃q:I,D (q+g=K L)/\x=C Y q/\Below (O (U w)+1) W0 wr/\D (∀i (h:i<K L),i<q->GE n L[i]=AP))
 grind [D,Below.refl];obtain⟨q,N,rfl,u,b⟩:=hrel;have S:=T<|Ca (Co u _ E) ab;have af:=Ca (Cc S 1) f1;have V:=u.size;rw[AE aa]at V;obtain _|g:=gk
 .have ac:¬(q:J)<K L:=AY<|AE N;have HY:=T<|aU λi h=>b.out i h<|AY<|AE N;go_wp2;go_ret;exact⟨by rw[AE HY];rfl,Cs t<|CG u E⟩
 have ac:(q:J)<K L:=AY<|AE N;obtain⟨ae,off,rfl,ag,e1,e2⟩:=(HE.ac<|Cs t<|CG u E).aq q E;have F:D<|(Az wr<|M #[C Y L[q].1,C Y L[q].2] 119).heap[O<|U wr]?=An (M #[C Y L[q].1,C Y L[q].2] 119):=Cj _;have c:D<|(Az wr<|M #[C Y L[q].1,C Y L[q].2] 119).heap[O<|U w]?=An (M arr 40):=Ca (CB _ _ _ E) S;have R:D<|GE n L[q]=GE n (L[q].1,L[q].2):=rfl;have j:=OO B L[q].1<|Az wr<|M #[C Y L[q].1,C Y L[q].2] 119;generalize L[q].1=x at *;generalize L[q].2=y at *;have z:D<|Below (O (U w)+1) W0<|Az wr<|M #[C Y x,C Y y] 119:=u.alloc V _;cases P:Dg n x
 .rw[P]at j;have r:D<|Fv n L=AQ:=PV (k:=q) E (by grind [D,GE])
  go_wp2_with(first
   |(refine CO Z 40 _ Z _ Z _ _ _ _ c underlying40 Z p ?_)
   |(go_at_call 60;refine Ce j ?_;rintro e s ⟨rfl,d⟩))
  go_ret;exact⟨by rw[AE r];rfl,Cs (Cs t<|CG z E)<|CG d B7⟩
 rw[P]at j;have ad:=T P;cases Q:Dg n y
 .have r:D<|Fv n L=AQ:=PV (k:=q) E (by grind [D,GE]);have A:=T Q
  go_wp2_with(first
   |(refine CO Z 40 _ Z _ Z _ _ _ _ c underlying40 Z p ?_)
   |(refine F0 Z Z Z c underlying40 Z p ?_)
   |(go_at_call 60;refine Ce j ?_;clear j;rintro e s ⟨rfl,d⟩;have l:=T<|Ca (Co d _ B7) c;clear c;have c:=l;clear l;have a:=T<|Ca (Co d _ Ba) F;have m:=Cc a 0;have o:=Cc a 1;have c2:=OO B y s;rw[AE A]at c2)
   |(go_at_call 60;refine Ce c2 ?_;clear c2;rintro e W ⟨rfl,f⟩;clear m o;have m:=(Cc (Ca (Co f _<|Cd a) a) 0);have o:=(Cc (Ca (Co f _<|Cd a) a) 1)))
  have v:=d.size;rw[CL]at v;go_ret;exact⟨by rw[AE r];rfl,Cs (Cs (Cs t<|CG z E)<|CG d B7)<|CG f E⟩
 have A:=T Q;clear Q;cases ah:(x==y)
 .have r:D<|GE n L[q]=AP:=by grind [D,GE]
  clear R
  go_wp2_with(first
  |(refine CO Z 40 _ Z _ Z _ _ _ _ c underlying40 Z p ?_)
  |(refine F0 Z Z Z c underlying40 Z p ?_)
  |(go_at_call 60;refine Ce j ?_;clear j;rintro e s ⟨rfl,d⟩;have l:=T<|Ca (Co d _ B7) c;clear c;have c:=l;clear l;have a:=T<|Ca (Co d _ Ba) F;have m:=Cc a 0;have o:=Cc a 1;have c2:=OO B y s;rw[AE A]at c2)
  |(go_at_call 60;refine Ce c2 ?_;clear c2;rintro e W ⟨rfl,f⟩;clear m o;have m:=(Cc (Ca (Co f _<|Cd a) a) 0);have o:=(Cc (Ca (Co f _<|Cd a) a) 1)))
  have v:=d.size;rw[CL]at v;go_roundg g
  .refine⟨q+1,B9,Bb,Cs (Cs z<|CG d B7)<|CG f E,?_⟩;grind [D]
  omega
 have r:D<|Fv n L=AQ:=PV (k:=q) E (by grind [D,GE]);clear R
 go_wp2_with(first
 |(refine CO Z 40 _ Z _ Z _ _ _ _ c underlying40 Z p ?_)
 |(refine F0 Z Z Z c underlying40 Z p ?_)
 |(go_at_call 60;refine Ce j ?_;clear j;rintro e s ⟨rfl,d⟩;have l:=T<|Ca (Co d _ B7) c;clear c;have c:=l;clear l;have a:=T<|Ca (Co d _ Ba) F;have m:=Cc a 0;have o:=Cc a 1;have c2:=OO B y s;rw[AE A]at c2)
 |(go_at_call 60;refine Ce c2 ?_;clear c2;rintro e W ⟨rfl,f⟩;clear m o;have m:=(Cc (Ca (Co f _<|Cd a) a) 0);have o:=(Cc (Ca (Co f _<|Cd a) a) 1)))
 have v:=d.size;rw[CL]at v;go_ret;exact⟨by rw[AE r];rfl,Cs (Cs (Cs t<|CG z E)<|CG d B7)<|CG f E⟩
def E3:A3:=#[Ac Ao 0 0,Ab Al 0,Ab Al 0]
def Fp(a:A4)(n cap:AH)(x y:AI):A3:=#[Ac a n cap,Ab Al x,Ab Al y]
def Pn{x:J}:(Fp a n cap x y).all (·.oneCell')=AP:=by simp[Fp,Value.oneCell']
def Uv:E3.all (·.oneCell')=AP:=Pn
def Oc:(prog.info? 193).map (·.size)=H 3:=B6
def Od(n:AH):AJ A1->AK
 |[a,b,c]=>Fd a&&(IQ b n&&F6 ⟨Aw c⟩ != 0)
 |_=>AQ
def Dn(n:AH)(l:A1):AK:=Od n<|Db 32 l
theorem jm{q:AJ A1}(h:K q≠3):Od n q=AQ:=by
 match q,h with
 |[],_=>rfl
 |[_],_=>rfl
 |[_,_],_=>rfl
 |_::_::_::_::_,_=>rfl
structure Uw(w:Ap)(arr:A3)(W:Ap):Prop where
 ac:A0 w W
 h:W.heap[Au (Av w)]?=An (Aj arr 40)
 a:W.heap[Au (Av w)+1]?=An (Aj E3 193)
 d:Au (Av w)+1<Au (Av W)
def Uw.aq{arr:A3}(h:Uw w arr W)(hb:A0 W W'):Uw w arr W':=by have:=h.d;exact⟨Cs h.ac<|CG hb h.ac.size,Ca (Co hb _ E) h.h,Ca (Co hb _ E) h.a,CQ this hb.size⟩
theorem yi(w:X)(arr:A3)(hb:Below (O (U w)+1+1) (Az (Az w<|M arr 40)<|M E3 193) w2):Uw w arr w2:=by
 have a:=hb.size;simp only[CL,A0]at a;refine⟨Cs ((Cm).alloc Ba _)<|CG hb E,?_,?_,E⟩
 .rw[Co hb _ E,CB _ _ _ Ba];exact Cj _
 rw[Co hb _ E];grind [Cj,World.size_alloc]
theorem yj(h:K ps=3):∃d e f,ps=[d,e,f]:=by
 match ps,h with
 |[a,b,c],_=>grind
def Sn(p:AT):(⟨Aw p.data.toList⟩:AT)=p:=by cases p;rfl
theorem yk(d:ps.map (·.data.toList)=Db 32 l):(K ps≠3/\Dn n l=AQ)\/∃b a c,ps=[b,a,c]/\((a.size≠1/\Dn n l=AQ)\/∃h:a.size=1,
   ((a[0].toNat:J)<48/\Dn n l=AQ)\/((57:J)<a[0].toNat/\Dn n l=AQ) \/
   ((48:J)<=a[0].toNat/\(a[0].toNat:J)<=57/\Dn n l=(Fd b.data.toList&&(F6 c != 0&&Dg n ((a[0].toNat:J)-48))))):=by
 by_cases g:K ps=3
 .right;obtain⟨b,a,c,rfl⟩:=yj g;refine⟨b,a,c,Z,?_⟩;have e:Dn n l=(Fd b.data.toList&&(IQ a.data.toList n&&F6 c != 0)):=by unfold Dn;rw[<-d];simp only[I8,Mw,Od,Sn]
  by_cases f:a.size=1
  .grind [Xr,IQ,Dg]
  left;refine⟨f,?_⟩;rw[e,(eB (n:=n) Bv).2];simp
 left;grind [Dn,jm]
def yl{n g:Nat}{s:ByteArray}{ps:List ByteArray}{w2:World}(hs:s.size<=100000)(HE:ps.map (·.data.toList)=Db 32 s.data.toList)(hcs:∀j (hj:j<ps.length),w2.cell? ⟨g,j,none⟩=some (.string ps[j])):(¬(ps.length:Int)=3/\Hid (Dn n s.data.toList=false)) \/
  (∃p0 p1 p2,ps=[p0,p1,p2]/\w2.cell? ⟨g,1,none⟩=some (.string p1)/\¬(p1.size:Int)=1/\Hid (Dn n s.data.toList=false)) \/
  (∃p0 p1 p2,ps=[p0,p1,p2]/\w2.cell? ⟨g,1,none⟩=some (.string p1)/\∃h:p1.size=1,(p1.size:Int)=1/\(p1[0].toNat:Int)<48/\Hid (Dn n s.data.toList=false)) \/
  (∃p0 p1 p2,ps=[p0,p1,p2]/\w2.cell? ⟨g,1,none⟩=some (.string p1)/\∃h:p1.size=1,(p1.size:Int)=1/\(48:Int)<=p1[0].toNat/\(57:Int)<p1[0].toNat/\Hid (Dn n s.data.toList=false)) \/
  (∃p0 p1 p2,ps=[p0,p1,p2]/\w2.cell? ⟨g,0,none⟩=some (.string p0)/\w2.cell? ⟨g,1,none⟩=some (.string p1)/\w2.cell? ⟨g,2,none⟩=some (.string p2)/\∃h:p1.size=1,(p1.size:Int)=1/\(48:Int)<=p1[0].toNat/\(p1[0].toNat:Int)<=57/\Hid (p0.size<=100000) /\
   Hid (Dn n s.data.toList=(Fd p0.data.toList&&(F6 p2 != 0&&Dg n ((p1[0].toNat:Int)-48))))):=by
 rcases yk HE with⟨h3,HF⟩|⟨p0,p1,p2,rfl,⟨h1,HF⟩|⟨h1,⟨h48,HF⟩|⟨h57,HF⟩|⟨h48,h57,HF⟩⟩⟩
 .exact PU ⟨by omega,HF⟩
 .exact Ld (PU ⟨p0,p1,p2,rfl,hcs 1<|by simp,by omega,HF⟩)
 .exact Ld (Ld<|PU ⟨p0,p1,p2,rfl,hcs 1<|by simp,h1,by omega,h48,HF⟩)
 .exact Ld (Ld<|Ld<|PU ⟨p0,p1,p2,rfl,hcs 1<|by simp,h1,by omega,by omega,h57,HF⟩)
 refine Ld (Ld<|Ld<|Ld ⟨p0,p1,p2,rfl,hcs 0<|by simp,hcs 1<|by simp,hcs 2<|by simp,h1,by omega,h48,h57,?_,HF⟩);show _<=_;have:=Pm 32 s.data.toList p0.data.toList (by rw[<-HE];simp);have h3:s.data.toList.length=s.size:=Fz;have h4:p0.data.toList.length=p0.size:=Fz;omega
def JV(n:AH):AJ A1->AH->AI
 |[],_=>-1
 |p::q,i=>if Dn n p=AP/\i<16 then JV n q (i+1)else i
def E5(n:AH)(l:A1):AI:=if 2000<At l then 0 else if At l=0 then -1 else JV n (Db 10 l) 0
def Tryz.infoRule:(prog.info? 193).map (λi=>(i.zero,i.size,i.bytes))=H (H<|.agg E3,3,40):=B6
def jn{size:I}(h:W.ownsRow base e size v n xs)(m:∀i,i<O (U W)->W'.heap[i]?=W.heap[i]?):W'.ownsRow base e size v n xs:=by
 obtain⟨l,f⟩:=h;refine⟨l,?_⟩;rcases f with f|⟨g,j,k,a,b,c,d⟩
 .exact PU f
 exact Ld ⟨g,j,k,a,b,(m g<|Cd c).trans c,d⟩
structure Ux(w2 wr:Ap)(N:AH)(A:A3)(W:Ap):Prop where
 ac:A0 w2 W
 same:∀i,i<Au (Av wr)->W.heap[i]?=wr.heap[i]?
 ad:W.heap[N]?=An (Aj A 193)
 d:Au (Av wr)<=N
def ym{A:A3}(h:A0 w2 wr)(a:Below (O<|U wr) wr.drew w'):Ux w2 wr (O<|U w') A<|Az w'<|M A 193:=by have b:=h.size;have c:O (U wr)<=O (U w'):=a.size;refine⟨(h.drew.trans<|a.mono b).alloc E _,λi d=>?_,Cj _,c⟩;rw[CB _ _ _ E];exact a.block _ d
def yn{A:A3}(h:A0 w2 wr)(a:Below (O (U wr)+1) (Az wr<|M E3 193).drew w'):Ux w2 wr (O<|U wr) A<|AD w' (O<|U wr) A:=by have b:=h.size;refine⟨Dq (((h.alloc b _).drew).trans<|a.mono E) b,λi c=>?_,CR _ _ E3 _ _ _<|(a.block _ E).trans<|Cj _,Cr _⟩;rw[Do _ _ _ _ E,a.block _ E];exact CB _ _ _ c
def yo{P:Program}{ev:Operand->Aq}{W:X}{o:Oper}{ty:AN}(x:Operand)(c:o.op=.load ty x){g:I}(hx:ev x=A8 g){t:AN}{cs:A3}{fr:I×I}{d:TypeDesc}(b:W.heap[g]?=H (M cs t fr))(e:P.underlying ty=H d)(a:(match d with|.struct _|.array _ _=>AP|_=>AQ)=AP)(hi:(P.info? ty).map (·.size)=H cs.size):(execOp ev o).run P W=.ok (.value<|.agg cs) W:=Bk
section
attribute[local go_sem] Oper.semAt_some
def jr(s c:AT):Ar As 138 #[.string s,.string c] w λe a =>
   e=Ak (.func (.func 195) #[] #[A8<|O (U w)+1,A8<|O<|U w,A8<|O (U w)+1+1]) /\
   a=Az (Az (Az w<|M #[.string s] 9)<|M #[.string c] 9) (M #[C Y 0] 3):=by
 go_enter func138,ntmps138;go_wp2;go_ret;exact⟨Z,Z⟩
abbrev E4:={s:AT // s.size<=2000}
def CM(x:E4):A1:=x.1.data.toList
structure LA(k:AH)(c:AU)(W:Ap)(r:AT):Prop where
 a:W.heap[k]?=An (Aj #[.string r] 9)
 d:W.heap[k+1]?=An (Aj #[Ae ⟨#[c]⟩] 9)
 b:W.heap[k+1+1]?=An (Aj #[Ab Al 0] 3)
def LA.aq{r:AT}(h:LA k c W r)(a:Hc k (k+3) W W'):LA k c W' r :=
 ⟨Ca (a.same _ E E) h.a,Ca (a.same _ E E) h.d,Ca (a.same _ E E) h.b⟩
def LA.store{r:AT}(h:LA k c W r)(r':AT):LA k c (AB W ⟨k,0,Ao⟩<|.string r') r' :=
 ⟨by rw[DX W _ _ _ _ _ h.a];rfl,Ca (CY W _ _ _ Ba) h.d,Ca (CY W _ _ _ B7) h.b⟩
theorem yr(o:I):W.grownBy (AB W ⟨k,o,Ao⟩ v) (H k) :=
 ⟨rfl,rfl,rfl,Bd,λi _ a=>CY W _ _ _ B9⟩
theorem yt(s:AT)(o:I):(s.extract 0 o).data.toList=s.data.toList.take o:=Bv
theorem yu(s:AT)(o:I):(s.extract o s.size).data.toList=s.data.toList.drop o:=by exact aj s o
theorem yv(s:AT)(o:I)(h:o<=s.size):(s.extract 0 o).size=o:=Bv
theorem jt(s:AT)(o:I):(s.extract o s.size).size=s.size-o:=Bv
theorem ju(n:Nat){k:Nat}{c:UInt8}{s:E4}{w:World}(d:LA k c w s.1):jp Fence.wide n prog 195 #[A8<|k+1,A8 k,A8<|k+1+1]
   (λx:E4=>#[.string x.1]) k (k+3) k (λxs=>xs.map CM=Db c (CM s)) (λpre=>∃r,Db c (CM s)=pre.map CM++r) w:=by
 intro aq R Jx W j hJ ah hY y;have al:=Cd d.b;have a:Hid<|LA k c W s.1:=⟨Ca (Co j _ E) d.a,Ca (Co j _ E) d.d,Ca (Co j _ E) d.b⟩
 have P:=T hJ;have t:=T hY;have L:=T y;have ai:=Cc a.out.d 0;refine callsIn_of_wp func195 Z trivial ?_ Z;simp only[ntmps195,K9,FN,J2,Nat.reduceAdd,Nat.reduceSub,Mp,Mq,Ms,Mr,Ka,Kw]
 gi_wp2
 gi_loopg[7,8] 2001 (λg x ar wr=>∃(pre:List E4) (r:E4),r.1.size<g/\Hid (Db c (CM s)=pre.map CM++Db c (CM r))/\Hid (LA k c wr r.1)/\Hid (R pre wr))
 case atStart=>exact⟨[],s,AY s.2,rfl,a,L⟩
 case round =>
  obtain⟨pre,r,hg,HE,a,q⟩:=hrel;have aa:=Cc a.out.a 0;have ab:=Cc a.out.d 0;have aj:=Cc a.out.b 0;rcases Int.lt_or_le (Lib.indexByte (CM r) c) 0 with am|af
  .have ac:Lib.indexByte (CM r) c = -1:=AY<|Lib.indexByte_ge (CM r) c;have N:Hid<|Db c (CM s)=pre.map CM++[CM r]:=by grind [yd]
   have ad:Lib.indexByte r.1.data.toList c = -1:=ac;obtain⟨l,ag,S,V,F,i⟩:=t.out pre r wr q.out
   gi_wp2_with fail
   refine⟨trivial,(λh=>Bs),?_⟩;refine(Ky.2<|Tryz.strings_Index_one r.1 c _).mono ?_;rintro e w2 ⟨rfl,rfl⟩
   gi_wp2
   refine⟨(λh=>Bs),i.mono ?_⟩;rintro e u (⟨rfl,v,z⟩|⟨rfl,f⟩)
   .gi_wp2
    go_end0;grind [Hid]
   gi_wp2
   go_end0;exact⟨⟨_,Z⟩,.inr ⟨pre++[r],⟨[],by rw[N.out];simp⟩,f⟩⟩
  obtain⟨o,A⟩:=PM af;obtain⟨ae,ao⟩:=ye A;have ad:Lib.indexByte r.1.data.toList c=o:=A;have an:o<r.1.size:=by simpa[CM]using ae
  have HM:Hid<|Db c (CM s)=pre.map CM++((CM r).take o::Db c ((CM r).drop<|o+1)):=B9;have m:(r.1.extract 0 o).size<=2000:=by grind [yv]
  have B:(r.1.extract (o+1) r.1.size).size<=2000:=by rw[jt];omega
  have Q:Hid<|Db c (CM s)=(pre++[(⟨r.1.extract 0 o,m⟩:E4)]).map CM++Db c (CM (⟨r.1.extract (o+1) r.1.size,B⟩:E4)):=by grind [CM,yt,yu]
  have ap:(r.1.extract (o+1) r.1.size).size<r.1.size:=by rw[jt];omega
  obtain⟨l,ag,S,V,F,i⟩:=t.out pre ⟨r.1.extract 0 o,m⟩ wr q.out;dsimp only at F
  gi_wp2_with fail
  refine⟨trivial,(λh=>Bs),?_⟩;refine(Ky.2<|Tryz.strings_Index_one r.1 c _).mono ?_;rintro e w2 ⟨rfl,rfl⟩
  gi_wp2
  refine⟨(λh=>Bs),i.mono ?_⟩;rintro e u (⟨rfl,v,z⟩|⟨rfl,f⟩)
  .have b:=T<|a.out.aq z;have aa:=Cc b.out.a 0;have ab:=Cc b.out.d 0;have ak:=Dy u k 0 _ _ b.out.a;have p:=T v
   gi_wp2
   gi_roundg ((r.1.extract (o+1) r.1.size).size+1)
   case measure=>omega
   case rel=>exact⟨pre++[⟨r.1.extract 0 o,m⟩],⟨r.1.extract (o+1) r.1.size,B⟩,VY _,Q,b.out.store _,P.out _ _ _ p.out<|yr 0⟩
  have p:=T f
  gi_wp2
  refine CS (Wi Z _ _ _) Z ?_;grind [Hid]
end
section
attribute[local go_sem] Oper.semAt_some
structure Tr(N k:AH)(W W':Ap):Prop where
 ac:Below N W W'
 aq:KeepsOthers W W'
 a:Hc k (k+3) W W'
theorem Tr.refl(N k:I)(W:X):Tr N k W W:=⟨Cu _ _,KeepsOthers.refl _,Hc.refl _ _ _⟩
def Tr.trans{A B C:X}(h:Tr N k A B)(g:Tr N k B C):Tr N k A C:=⟨Cs h.ac g.ac,h.aq.trans g.aq,h.a.trans g.a⟩
def Tr.alloc(N k:I)(W:X)(o:Obj)(a:N<=O (U W))(b:k+3<=O (U W)):Tr N k W (Az W o) :=
 ⟨(Cu _ _).alloc a _,KeepsOthers.alloc _ _,⟨Ba,λi _ h=>CB _ _ _ E⟩⟩
def Tr.set(N k:I)(W:X)(p:I)(v:Aq)(c:N<=p)(e:p<k\/k+3<=p):Tr N k W (AB W ⟨p,0,Ao⟩ v) :=
 ⟨Cs (Cu _ _) ⟨rfl,rfl,rfl,Bd,λi d=>CY W _ _ _ B7⟩,KeepsOthers.setCell _ _ _,⟨Bd,λi a b=>CY W _ _ _ B7⟩⟩
def Tr.ad(h:A0 W W')(b:N<=O (U W))(d:k+3<=O (U W)):Tr N k W W' :=
 ⟨CG h b,⟨h.size,λi o a _=>Ca (Co h i<|Cd a) a⟩,⟨h.size,λi _ c=>Co h i E⟩⟩
theorem Tr.grown{size:I}(l:W.ownsRow base e size v n xs)(a:W.grownBy W'<|Ax v)(hb:base<=O (U W))(t:N<=base)(w:k+3<=base):Tr N k W W':=by
 have key:∀g,Ax v=H g->base<=g:=λg h=>by
  rcases l.2 with⟨b,_⟩|⟨q,m,p,rfl,c,_⟩
  .subst b;cases h
  cases h;exact c
 refine⟨⟨a.os,a.tape,a.output,a.size,λi u=>a.block i E λh=>B9⟩,KeepsOthers.of_grownBy a λj o d f=>?_,⟨a.size,λi _ s=>a.block i E λh=>B9⟩⟩;rcases l.2 with⟨b,_⟩|⟨q,m,p,rfl,c,r,_⟩
 .subst b;cases d
 cases d;rw[r]at f;cases f;rfl
structure So(w:Ap)(pre:AJ E4)(c:Code)(W:Ap):Prop where
 ret:c=.ret
 ac:A0 w W
 d:Boxed W (Au (Av w)) 247 (Ac Ao 0 0)
 b:Boxed W (Au (Av w)+1) 4 (Ah AQ)
 a:8<At pre\/pre.all (λx=>GM (CM x))=AQ
 size:Au (Av w)+6<=Au (Av W)
theorem So.a0{pre:AJ E4}{c:Code}{row:I}(h:So w pre c W)(a:W.grownBy W'<|H row)(b:O (U w)+2<=row):So w pre c W' :=
 ⟨h.ret,Cs h.ac ⟨a.os,a.tape,a.output,a.size,λi d=>a.block i Bn BF⟩,h.d.kept a BF,h.b.kept a BF,h.a,CE h.size a.size⟩
def jv(w:X):Tr (O<|U w) (O (U w)+3) W (AB (AB W ⟨O<|U w,0,Ao⟩<|G Ao 0 0) ⟨O (U w)+1,0,Ao⟩<|Ah AQ) :=
 (Tr.set _ _ W (O<|U w) _ (Cr _) E).trans<|Tr.set _ _ _ (O (U w)+1) _ E E
def Jp:AH->A1
 |0=>[42]
 |1=>[42,42]
 |_=>[91,93]
def Tryz.infoSeg:(prog.info? 254).map (λi=>(i.zero,i.size,i.bytes))=H (H<|Ag #[C Y 0,.string ByteArray.empty],2,24):=B6
theorem yw(a:(Az (Az (Az (Az (Az (Az w<|M #[G Ao 0 0] 247)<|M #[Ah AQ] 4)<|M #[G Ao 0 0] 247)<|M #[.string s] 9)<|M #[Ae ⟨#[47]⟩] 9)<|M #[C Y 0] 3)=W0):LA (O (U w)+3) 47 W0 s:=by
 subst a;generalize hA:Az (Az (Az w<|M #[G Ao 0 0] 247)<|M #[Ah AQ] 4) (M #[G Ao 0 0] 247)=A;have b:O (U w)+3=O (U A):=by rw[<-hA];simp
 rw[b];refine⟨?_,?_,?_⟩<;>grind [Below.heap_alloc,Cj,World.size_alloc]
theorem Yz{x:E4}(h:(x.1.toList==Jp i)=AP):GM (CM x)=AP:=by
 have e:CM x=Jp i:=kem;rw[e];unfold GM
 match i with
 |0=>simp[Jp]
 |1=>simp[Jp]
 |_+2=>simp[Jp]
theorem yy{x:E4}(h:∀i,i<3->(x.1.toList==Jp i)=AQ):GM (CM x)=G9 x.1.data.toList:=by have e:CM x=x.1.toList:=kem;have a:=h 0 E;have b:=h 1 E;have c:=h 2 E;grind [Jp,GM,Lib.toList_data]
theorem Uz{o:Obj}:∀(j:I) (u:Aq),cs.toList[j]?=H u->(Az (Az w o)<|M cs t).cell? ((⟨O (U w)+1,0,Ao⟩:Addr).add j)=H u:=λj u a=>by grind [cell_of_row,Cj,World.size_alloc,JB]
def yz{hs:s.size<=2000}{xs:AJ E4}(d:(s.toList==[46])=AQ)(h:xs.map CM=Db 47 (CM ⟨s,hs⟩))(b:K xs<=8)(c:xs.all (λx=>GM<|CM x)=AP):Fd s.data.toList=AP:=by have a:Db 47 s.data.toList=xs.map CM:=h.symm;unfold Fd;rw[a,<-SM,d,LO,Fm b,List.all_map];simpa[Function.comp]using c
theorem yA{hs:s.size<=2000}{pre:AJ E4}{r:AJ A1}(a:(s.toList==[46])=AQ)(h:Db 47 (CM ⟨s,hs⟩)=pre.map CM++r)(hb:8<K pre\/pre.all (λx=>GM<|CM x)=AQ):Fd s.data.toList=AQ:=by grind [CM,Fd,Lib.toList_data]
def yB(V:X):(Instr.index 326 (Ag #[Ae ⟨#[42]⟩,C Y 0,Ae ⟨#[42,42]⟩,C Y 1,Ae ⟨#[91,93]⟩,C Y 2])<|C Y 0).run As V=.ok (Ag #[Ae ⟨#[42]⟩,C Y 0]) V:=B6
def yC(V:X):(Instr.index 326 (Ag #[Ae ⟨#[42]⟩,C Y 0,Ae ⟨#[42,42]⟩,C Y 1,Ae ⟨#[91,93]⟩,C Y 2])<|C Y 1).run As V=.ok (Ag #[Ae ⟨#[42,42]⟩,C Y 1]) V:=B6
def yD(V:X):(Instr.index 326 (Ag #[Ae ⟨#[42]⟩,C Y 0,Ae ⟨#[42,42]⟩,C Y 1,Ae ⟨#[91,93]⟩,C Y 2])<|C Y 2).run As V=.ok (Ag #[Ae ⟨#[91,93]⟩,C Y 2]) V:=B6
def yE{listed:Array AK}{a:Act}(L:Array AK)(b:I)(c:X->AJ (I×Aq))(T:X->Prop)(d:X->X)(e:(∀V,T V->wpAnyIn F n P md ops Q b L ((c V).foldl (λa p=>a.put (H p.1) p.2) a) (d V))->wpAnyIn F n P md ops Q fuel listed a w)(f:∀V,T V->wpAnyIn F n P md ops Q b L ((c V).foldl (λa p=>a.put (H p.1) p.2) a) (d V)):wpAnyIn F n P md ops Q fuel listed a w:=e f
theorem yG{nF:I}{a:Act}{K:Act->X->Prop}{s x:Operand}(f:o.op=.call {callee:=.builtin .append,args:=#[s,x],argTypes:=#[t,t]}){i:TypeInfo}{size:I}(V:P.underlying t=H (.slice e))(hi:P.info? e=H i)(W:i.zero=H z)(R:i.size=size)(r:i.bytes=bytes)(aa:z.cells.size=size)(S:0<size)(N:a.eval s=v)(B:w.ownsRow base e size v n xs){ad:Addr}(m c:I)(hx:a.eval x=G (H ad) m c)(hl:At news=m*size)(A:∀j u,news[j]?=H u->AC w (ad.add j)=H u)(g:∀u∈news,u.oneCell'=AP)(p:n+m<=maxLen)(y:(n+m)*bytes<=140737488355328)(q:base<=O (U w))(h:∀d b,b.ownsRow base e size d (n+m) (xs++news)->w.grownBy b (Ax v)->K (a.put o.dst d) b):o.wpIn F nF P a w K Q:=by obtain⟨d,b,L,k,l,_⟩:=Re (P:=P) w base t o.type e i z size bytes V hi W R r aa S v n xs B ad m c news hl A g p y q;unfold Oper.wpIn;refine⟨by simp[Oper.about,f,resolve,Target.leads,Gf],?_⟩;rw[Oper.semAt_plain F _ _ B9];simp[execOp,f,resolve,invoke,builtin,N,hx,L,Result.andThen];exact h d b k l
end
def EA(Y:AH->AH)(x:AI×AI):A3:=CD Y++#[Ab Al x.1,Ab Al x.2]
def Ks{c:Prop}[Decidable c]{A B:Prop}(h:c)(a:A):if c then A else B:=by rw[Cp h];exact a
def yH(a:I->I)(x:J×J)(V:X):(Instr.buildSlice 185 1 #[(0,.agg<|EA a x)]).run As V=.ok (G (Aa<|O<|U V) 1 1) (Az V<|M (EA a x) 203):=B6
def jw{a:Act}{K:Act->X->Prop}(x:Operand)(c:o.op=.buildSlice 185 1 #[(0,x)])(b:I->I)(z:J×J)(hx:a.eval x=.agg (EA b z))(h:K (a.put o.dst<|G (Aa<|O<|U w) 1 1)<|Az w<|M (EA b z) 203):o.wp As a w K Q:=by
 have e:(#[(0,x)].map λ(i,y)=>(i,a.eval y))=#[((0:I),Value.agg<|EA b z)]:=by simp[hx]
 unfold Oper.wp execOp;simp only[c,GU,e,yH,G0];exact h
def jx{a:Act}{K:Act->X->Prop}(s x:Operand)(B:o.op=.call {callee:=.builtin .append,args:=#[s,x],argTypes:=#[t,t]}){i:TypeInfo}{size:I}(V:P.underlying t=H (.slice e))(hi:P.info? e=H i)(W:i.zero=H z)(R:i.size=size)(r:i.bytes=bytes)(aa:z.cells.size=size)(S:0<size)(N:a.eval s=v)(F:w.ownsRow base e size v n xs){ad:Addr}(m c:I)(hx:a.eval x=G (H ad) m c)(hl:At news=m*size)(A:∀j u,news[j]?=H u->AC w (ad.add j)=H u)(f:∀u∈news,u.oneCell'=AP)(p:n+m<=maxLen)(y:(n+m)*bytes<=140737488355328)(q:base<=O (U w))(h:∀b d,d.ownsRow base e size b (n+m) (xs++news)->w.grownBy d (Ax v)->(Ax b=Ax v\/Ax b=H (O<|U w))->K (a.put o.dst b) d):o.wp P a w K Q:=by obtain⟨b,d,L,g,k,_,l⟩:=aw (P:=P) w base t o.type e i z size bytes V hi W R r aa S v n xs F ad m c news hl A f p y q;unfold Oper.wp execOp;simp only[B,resolve,invoke,builtin,GU,Gf,G0,OF,I8,Mw,N,hx,L];exact h b d g k l
theorem QE{size:I}(b:W.ownsRow base e size v n xs)(h:Ax v=H g):g<O (U W):=by rcases b.2 with⟨a,_⟩|⟨f,c,d,a,_,i,_⟩<;>grind [Value.ownBlock]
def Tryz.infoSt:(prog.info? 203).map (λi=>(i.zero,i.size,i.bytes))=H (H<|.agg<|EA E8 (0,0),18,48):=B6
theorem jy{Y:I->I}{x:J×J}:∀u∈(EA Y x).toList,u.oneCell'=AP:=by intro u a;simp[EA,CD]at a;rcases a with⟨i,_,rfl⟩|rfl|rfl<;>rfl
theorem Dv.next{q:D0}(h:Dv W0 A q sts sv nf mn mf W)(hb:A0 W W'):Dv W0 A q sts sv nf mn mf W':=by
 have a:W.grownBy W' Ao:=⟨hb.os,hb.tape,hb.output,hb.size,λi b _=>hb.block i b⟩
 obtain⟨d,c,e⟩:=h.k;exact{h with
  ad:=(hb.block _<|Cd h.ad).trans h.ad
  ac:=h.ac.trans (hb.mono h.ac.size)
  d:=h.d.kept a Ba
  k:=⟨d,(hb.block _<|Cd c).trans c,e⟩
  b:=jn h.b (λi b=>hb.block i b)
  a:=h.a.kept a Ba
  c:=h.c.kept a Ba}
def yJ(c:AJ<|(I->I)×J×J)(b:I->I)(a:J×J):(c++[(b,a)]).flatMap Ob=c.flatMap Ob++(EA b a).toList:=by simp[Ob,EA]
def yK(q:D0)(b a:Aq):Ay (Sm q b) 20 a=Sm q a:=rfl
def Ed.cell(h:Ed W kt m n f)(A j:I)(v:Aq)(d:m≠A):Ed (AB W ⟨A,j,Ao⟩ v) kt m n f:=by obtain⟨a,b,c⟩:=h;exact⟨a,b.setCell keo v,c⟩
theorem Ed.drew(h:Ed W kt m n f):Ed W.drew kt m n f:=h
def QF{size:I}(h:W.ownsRow base e size v n xs)(k:∀g,Ax v=H g->W'.heap[g]?=W.heap[g]?):W'.ownsRow base e size v n xs:=by
 refine⟨h.1,?_⟩;rcases h.2 with a|⟨b,c,d,a,f,j,i⟩
 .exact .inl a
 exact .inr ⟨b,c,d,a,f,(k b kfr).trans j,i⟩
structure Jq(A:AH)(q:D0)(sv:Aq)(W W':Ap):Prop where
 size:Au (Av W)<=Au (Av W')
 block:∀i,i<Au (Av W)->An i≠Ax sv->i≠A->i≠q.d->i≠q.b->W'.heap[i]?=W.heap[i]?
theorem yL{W0:Ap}{q:D0}{X:Ap}(h:Dv W0 A q sts sv nf mn mf X){Y:I->I}(W:∀ab,Y ab<512){l:Lit}(hl:keyOf As 183 (.agg<|CD Y)=H l)(hi:nf l=Ao)(ac:K sts<100000){v':Aq}{w4:Ap}(t:w4.ownsRow (O<|U W0) 203 18 v' (K sts+1)<|sts.flatMap Ob++(EA Y<|EI q.c q.a Y 0).toList)(c:X.grownBy w4<|Ax sv)(ad:Ax v'=Ax sv\/Ax v'=H (O<|U X)):∃d,(Instr.mapUpdate 179 (.map<|H q.d) (.agg<|CD Y)<|C Al<|K sts).run As (AB w4 ⟨A,20,Ao⟩ v').drew=.ok () d/\(AB w4 ⟨A,20,Ao⟩ v').drew.grownBy d (H q.d)/\(∀i,i<O (U X)->H i≠Ax sv->i≠A->i≠q.d->d.heap[i]?=X.heap[i]?)/\O (U X)<=O (U d)/\∃j,Dv W0 A q (sts++[(Y,EI q.c q.a Y 0)]) v' j mn mf d:=by
 obtain⟨y,B,s,F,a5,L,a7,N,a9,z⟩:=h.e;obtain⟨u1,u2,u3,u4,u5⟩:=h.n;have nA:H A≠Ax sv:=λe=>(h.a0 A e.symm).1 Z;have nl:H q.f≠Ax sv:=λe=>(h.a0 _ e.symm).2.1 Z;have nt:H q.g≠Ax sv:=λe=>(h.a0 _ e.symm).2.2.1 Z;have nn:H q.d≠Ax sv:=λe=>(h.a0 _ e.symm).2.2.2.1 Z;have nm:H q.b≠Ax sv:=λe=>(h.a0 _ e.symm).2.2.2.2 Z;obtain⟨P,w,t2⟩:=h.k;have lA:=Cd h.ad;have lt:=Cd w;have ll:=h.d.lt;have ln:=h.a.lt;have lm:=h.c.lt;have V:=((h.a.kept c nn).cell A 20 v' s.symm).drew;obtain⟨d,hr,hf,b⟩:=Ys V Yt underlying179 E hl (K sts) E;have aa:∀g,Ax v'=H g->g≠A/\g≠q.f/\g≠q.g/\g≠q.d/\g≠q.b:=B9;have n:∀i,i<O (U X)->H i≠Ax sv->i≠A->i≠q.d->d.heap[i]?=X.heap[i]?:=by intro i h1 m R S;have s4:=CQ h1 c.size;have p:(AB w4 ⟨A,20,Ao⟩ v').drew.heap.size=O (U w4):=Bv;exact(b.block i (by rw[p];exact s4)<|by simpa using S).trans<|(GB w4 _ _ _ kf7).trans<|c.block i h1 m
 obtain⟨j,e1,Q⟩:∃j:Lit->Option I,j l=H (K sts)/\∀a,a≠l->j a=nf a:=by have:=Classical.propDecidable;exact⟨λa=>if a=l then H (K sts)else nf a,Cp Z,λa k=>Cl k⟩
 have v:O (U X)<=O (U d):=by have:=c.size;have m:=b.size;grind [World.setCell,World.drew]
 refine⟨d,hr,b,n,v,j,?_⟩;exact{
  ad:=by
   have r4:=(c.block A lA nA).trans h.ad;have u:(AB w4 ⟨A,20,Ao⟩ v').drew.heap[A]?=H (M (Sm q v') 187):=by have:=DX w4 A 20 _ _ v' r4;rw[yK]at this;exact this
   exact(b.block A (Cd u) keX).trans u
  f:=h.f
  m:=h.m
  ac:=⟨by rw[b.os];exact c.os.trans h.ac.os,by rw[b.tape];exact c.tape.trans h.ac.tape,by rw[b.output];exact c.output.trans h.ac.output,CE h.ac.size v,λi hi=>(n i (CQ hi h.ac.size) (λe=>AY<|DK h.b e.symm) E E).trans<|h.ac.block i hi⟩
  d:=(((h.d.kept c nl).cell A 20 v' y.symm).drew).kept b kfl
  k:=⟨P,(n _ lt nt B.symm N).trans w,t2⟩
  b:=by rw[yJ,Dj];refine QF t λg e=>?_;have p:(AB w4 ⟨A,20,Ao⟩ v').drew.heap.size=O (U w4):=Bv;exact(b.block g (by rw[p];exact QE t e) B9).trans (GB w4 _ _ _ B9)
  a:=Bv
  c:=(((h.c.kept c nm).cell A 20 v' F.symm).drew).kept b (by simpa using z.symm)
  n:=h.n
  e:=h.e
  a0:=aa
  bits:=h.bits
  j:=λi x f=>by
   by_cases o:i<K sts
   .rw[Hh o]at f;exact h.j i x f
   rw[Jd E]at f;obtain⟨_,rfl⟩:i-K sts=0/\(Y,EI q.c q.a Y 0)=x:=B9;exact⟨Z,W⟩
  num:=λi x f a r=>by
   by_cases o:i<K sts
   .rw[Hh o]at f;have:=h.num i x f a r;grind
   grind
  num':=λa i k=>by
   by_cases e:a=l
   .simp_all
   rw[Q a e]at k;obtain⟨x,h1,m⟩:=h.num' a i k;grind}
def Po(sv sv':Aq)(W:Ap):Prop:=Ax sv'=Ax sv\/∃g,Ax sv'=An g/\Au (Av W)<=g
def Po.mono{sv':Aq}{V:X}(h:Po sv sv' V)(a:O (U W)<=O (U V)):Po sv sv' W:=h.imp id λ⟨g,e,h⟩=>⟨g,e,CE a h⟩
theorem yM{q:D0}(h:Dv W0 A q sts (G sa (K sts) sc) nf mn mf W){Y:I->I}(hY:∀r,Y r<512){l:Lit}(hl:keyOf As 183 (.agg<|CD Y)=H l)(hi:nf l=Ao)(az:K sts<100000):Ar As 97 #[A8 A,.agg<|CD Y] W λe W'=>e=Ak (C Al<|K sts)/\Jq A q (G sa (K sts) sc) W W'/\∃ad ae R,Po (G sa (K sts) sc) (G ad (K sts+1) ae) W/\Dv W0 A q (sts++[(Y,EI q.c q.a Y 0)]) (G ad (K sts+1) ae) R mn mf W':=by
 have HB:D<|(Az W<|M (CD Y) 183).heap[O<|U W]?=H (M (CD Y) 183):=Cj _;have y:D<|Dv W0 A q sts (G sa (K sts) sc) nf mn mf<|Az W<|M (CD Y) 183:=h.next Cm
 have a5:A≠O (U W):=AY<|Cd h.ad;have a0:=T h.a.lt;have a1:D (∀g,Ax (Go.Value.slice sa (K sts) sc)=H g->g<O (U W)):=λg e=>QE h.b e;go_enter func97,ntmps97;go_wp2;have HW:D<|A0 W<|Az W<|M (CD Y) 183:=Cm;generalize Az W (M (CD Y) 183)=V at *;refine Dl (S:=λa=>A6 a A 21 (.map<|H q.d)/\A7 a (O<|U W) (CD Y) 183/\Ed a 183 q.d (K sts) nf) (⟨Cc y.ad 21,HB,y.a⟩) B6 λb=>Cb 0 10 (A8 A) b <| Cb 1 11 (A8 A) b <| Cb 2 12 (A9 A 21) b <| Ch 3 13 (.map<|H q.d) Z (λa d=>by have z1:=d.1;go_simp) b <| Ch 4 14 (.agg<|CD Y) rfl (λa d=>by exact KU (.tmp 3) rfl rfl d.2.1 underlying183 rfl<|FW Y) b <| Ch 5 15 (Af #[C Al 0,Ah AQ]) rfl (λa d=>by have z2:=Sk d.2.2 Yt underlying179 hl;rw[hi]at z2;go_simp) b <| Cb 6 9 (Af #[C Al 0,Ah AQ]) b <| Cb 7 16 (C Al 0) b <| Cb 8 17 (Ah AQ) b <| Cb 9 5 (C Al 0) b <| Cb 10 6 (Ah AQ) b <| CK ?_;go_simp;have i:=T<|y.next (Cu _ _).drew;have B:D<|(World.drew V).heap[O<|U W]?=H (M (CD Y) 183):=AE HB;have aa:=T<|HW.drew;generalize World.drew V=V1 at *;have al:A6 V1 A 20<|G sa (K sts) sc:=Cc i.ad 20;have cJ:=xH Y (λr=>AY<|hY r) i.m.1 i.m.2 (Cd i.ad) (Cc i.ad 0) (Cc i.ad 1)<|i.f.ac i.ac
 go_wp2_with(first
  |(go_at_call 141;refine cJ.mono ?_;rintro e f ⟨rfl,Q⟩;have z:=T<|i.next Q;have F:=T<|(Q.block _<|Cd B).trans B;have P:=T<|aa.trans<|Q.mono aa.size;have al:A6 f A 20<|G sa (K sts) sc:=Cc z.ad 20)
  |(refine CO Z 183 (.tmp 3) Z (O<|U W) Z _ _ _ _ B underlying183 Z (FW Y) ?_))
 obtain⟨si,ay,au,av,aw⟩:=DL Tryz.infoSt;have a4:=Cd z.ad;have o:D<|Dv W0 A q sts (G sa (K sts) sc) nf mn mf<|f.drew.alloc<|M (EA Y<|EI q.c q.a Y 0) 203:=(z.next (Cu _ _).drew).next Cm
 have t:(λa:X=>A7 a (O<|U W) (CD Y) 183)<|f.drew.alloc<|M (EA Y<|EI q.c q.a Y 0) 203:=(CB f.drew _ _<|Cd F).trans F;have ah:D (∀(j:I) (af:Aq),(EA Y<|EI q.c q.a Y 0).toList[j]?=H af->(f.drew.alloc<|M (EA Y<|EI q.c q.a Y 0) 203).cell? ((⟨O<|U f,0,Ao⟩:Addr).add j)=H af):=EU (w:=f.drew);refine Dl (S:=λa=>A7 a (O<|U W) (CD Y) 183) (F) B6 λb=>Cb 0 31 (A8 A) b <| Cb 1 32 (A8 A) b <| Cb 2 33 (A8 A) b <| Cb 3 34 (A9 A 20) b <| Ch 5 36 (.agg<|CD Y) Z (λa d=>by exact KU (.tmp 3) Z Z d underlying183 Z<|FW Y) b <| Cb 6 37 (C Al (EI q.c q.a Y 0).1) b <| Cb 7 38 (C Al (EI q.c q.a Y 0).2) b <| Ch 8 39 (.agg<|EA Y<|EI q.c q.a Y 0) Z (λa d=>B6) b <| Hk 4 9 (λp c=>?_) (λp c=>?_)
 focus
  go_simp;refine c.out _ _ b λ_=>?_;refine CH 9 λp c=>?_;refine Ks B6 ?_;refine jw (.tmp 39) Z Y (EI q.c q.a Y 0) B6 ?_;refine c.out _ _ t λ_=>?_
 rotate_left
 focus
  refine Ks B6 ?_;refine jw (.tmp 39) Z Y (EI q.c q.a Y 0) B6 ?_;refine c.out _ _ t λ_=>?_;refine CH 4 λp c=>?_;go_simp;refine c.out _ _ t λ_=>?_
 all_goals
  refine CH 10 λp c=>?_;refine Ks B6 ?_;refine jx (.tmp 35) (.tmp 40) Z underlying185 ay au av aw Z B8 B6 o.b 1 1 B6 ?hln ah (jy) Bc E o.ac.size ?_
  case hln=>simp[EA,CD]
  intro v' k ab ar ac;obtain⟨n,m,rfl⟩:=ownsRow_succ ab;have aj:=T ab;have L:=T ar;have ak:=T ac;have ai:D<|Po (G sa (K sts) sc) (G (Aa n) (K sts+1) m) W:=ac.imp id λe=>⟨_,e,B9⟩;have an:=Cd o.ad;have N:=T<|(L.block A an λe=>(o.a0 A e.symm).1 Z).trans o.ad;have v:=(L.block (O<|U W) (Cd t) λe=>by grind [D]).trans t;have a2:A6 k A 20<|G sa (K sts) sc:=Cc N 20;have a3:=Dy k A 20 _ _ N;have x:(λa:X=>A7 a (O<|U W) (CD Y) 183)<|AB k ⟨A,20,Ao⟩<|G (Aa n) (K sts+1) m:=(GB k _ _ _ B7).trans v;refine c.out _ _ v λ_=>?_;refine Cb 11 42 (A8 A) v <| Cb 12 43 (A9 A 20) v <| CH 13 λp c=>?_;go_simp;refine c.out _ _ x λ_=>?_;refine CK ?_;go_simp;obtain⟨w6,a6,aq,ap,ax,R,am⟩:=yL o hY hl hi az aj L ak;have u:=T am;have ag:D<|Jq A q (G sa (K sts) sc) W w6:=by have s3:O (U f)<=O (U<|f.drew.alloc<|M (EA Y<|EI q.c q.a Y 0) 203):=Bv;refine⟨CE P.size<|CE s3 ax,λj h1 h2 h3 h4 _=>?_⟩;have hj:=CQ h1 P.size;exact(ap j (CQ hj s3) h2 h3 h4).trans<|(CB f.drew _ _ hj).trans<|P.block j h1
  have s:(λa:X=>A6 a A 21 (.map<|H q.d)/\A7 a (O<|U W) (CD Y) 183) { (AB k ⟨A,20,Ao⟩<|G (Aa n) (K sts+1) m)with drawn:=(AB k ⟨A,20,Ao⟩<|G (Aa n) (K sts+1) m).drawn+1}:=⟨by have h:=DX k A 20 _ _ (G (Aa n) (K sts+1) m) N;exact Cc h 21,x⟩
  have ao:(λa:X=>A6 a A 21 (.map<|H q.d)/\A7 a (O<|U W) (CD Y) 183) w6:=⟨Cc u.ad 21,(aq.block (O<|U W) (Cd x)<|by grind [D]).trans x⟩
  generalize AB k ⟨A,20,Ao⟩ (G (Aa n) (K sts+1) m)=V5 at *;go_wp2;refine Ei (S:=λa=>A6 a A 21 (.map<|H q.d)/\A7 a (O<|U W) (CD Y) 183) B6 ?_;refine Cb 0 44 (A8 A) s <| Cb 1 45 (A8 A) s <| Cb 2 46 (A9 A 21) s <| Ch 3 47 (.map<|H q.d) Z (λa d=>by have z1:=d.1;go_simp) s <| Ch 4 48 (.agg<|CD Y) rfl (λa d=>by exact KU (.tmp 3) rfl rfl d.2 underlying183 rfl<|FW Y) s <| Cb 5 49 (C Al<|K sts) s <| CH 6 λp c=>?_;go_simp;refine c.out _ _ ao λ_=>?_;refine CK ?_;go_simp;go_wp2;go_ret;exact⟨Z,ag,Aa n,m,R,ai,u⟩
def zU(W0:Ap)(A:AH)(q:D0)(sts:AJ<|(AH->AH)×AI×AI)(sv:Aq)(mn:AH)(mf:Lit->Option AH)(Y:AH->AH)(W:Ap)(e:Ending)(W':Ap):Prop :=
 ∃(i:AH) (sts':AJ<|(AH->AH)×AI×AI) (sa':A4) (sc':AH) (nf':Lit->Option AH),e=Ak (Ab Al i)/\Jq A q sv W W'/\Dv W0 A q sts' (Ac sa' (At sts') sc') nf' mn mf W'/\(∀(j:AH) (x:(AH->AH)×AI×AI),sts[j]?=An x->sts'[j]?=An x)/\At sts'<=At sts+1/\∃x,sts'[i]?=An x/\∀r,r<16->x.1 r=Y r
def zV(W0:Ap)(A:AH)(q:D0)(sts:AJ<|(AH->AH)×AI×AI)(sv:Aq)(mn:AH)(mf:Lit->Option AH)(Y:AH->AH)(W:Ap)(e:Ending)(W':Ap):Prop :=
 ∃(i:AH) (sts':AJ<|(AH->AH)×AI×AI) (sa':A4) (sc':AH) (nf':Lit->Option AH),e=Ak (Ab Al i)/\Jq A q sv W W'/\Po sv (Ac sa' (At sts') sc') W/\Dv W0 A q sts' (Ac sa' (At sts') sc') nf' mn mf W'/\(∀(j:AH) (x:(AH->AH)×AI×AI),sts[j]?=An x->sts'[j]?=An x)/\At sts'<=At sts+1/\∃x,sts'[i]?=An x/\∀r,r<16->x.1 r=Y r
theorem YI{W0:Ap}{q:D0}{W:Ap}(h:Dv W0 A q sts (G sa (K sts) sc) nf mn mf W){Y:I->I}(c:∀r,Y r<512)(m:K sts<100000):Ar As 97 #[A8 A,.agg<|CD Y] W<|zV W0 A q sts (G sa (K sts) sc) mn mf Y W:=by
 obtain⟨l,b⟩:=Yp (X:=Y) λr=>AY<|c r;rcases hi:nf l with _|i
 .refine Ce (yM h c b hi m) ?_;rintro e f ⟨rfl,hF,p,s,o,u,t⟩;refine⟨K sts,sts++[(Y,EI q.c q.a Y 0)],p,s,o,Z,hF,?_,?_,λj x d=>?_,?_,(Y,EI q.c q.a Y 0),Ba,λ_ _=>rfl⟩<;>grind
 refine Ce (yc h b hi) ?_;rintro e f ⟨rfl,a⟩;obtain⟨x,n,k⟩:=h.num' l i hi;exact⟨i,sts,sa,sc,nf,rfl,⟨a.size,λj d _ _ _ _=>Co a j d⟩,.inl rfl,h.next a,λ_ _ g=>g,OK _,x,n,jc<|Value.agg.inj<|Yn.inj k b⟩
def zW{q:D0}(h:Dv W0 A q sts (G sa (K sts) sc) nf mn mf W){Y:I->I}(f:∀r,Y r<512)(g:K sts<100000):Ar As 97 #[A8 A,.agg<|CD Y] W (zU W0 A q sts (G sa (K sts) sc) mn mf Y W) :=
 Ce (YI h f g) λ_ _ ⟨i,s,a,c,n,b,d,_,e⟩=>⟨i,s,a,c,n,b,d,e⟩
theorem jN(c:AU):∀l:A1,(Lib.index l [c] = -1/\Db c l=[l])\/∃a r,l=a++c::r/\Lib.index l [c]=K a/\Db c l=a::Db c r
 |[]=>PU ⟨rfl,rfl⟩
 |x::r=>by
  by_cases e:x=c
  .grind [Lib.index,Db]
  have h:([c].isPrefixOf (x::r))=AQ:=B9;have g:(x==c)=AQ:=by simp[e]
  rcases jN c r with⟨b,d⟩|⟨a,q,b,d,f⟩<;>grind [Lib.index,Db]
theorem Nc(c:AU)(l:A1):(Lib.cut l [c]=(l,[],AQ)/\Db c l=[l])\/∃a r,Lib.cut l [c]=(a,r,AP)/\l=a++c::r/\Db c l=a::Db c r:=by
 rcases jN c l with⟨b,d⟩|⟨a,r,b,d,e⟩
 .grind [Lib.cut]
 right;refine⟨a,r,?_,b,e⟩;unfold Lib.cut;simp_all
def UF(n:AH)(l:A1):AK :=
 Fd (Lib.cut l [32]).1&&(IQ (Lib.cut (Lib.cut l [32]).2.1 [32]).1 n&&F6 ⟨(Lib.cut (Lib.cut l [32]).2.1 [32]).2.1.toArray⟩ != 0)
theorem YJ(l:A1):F6 ⟨Aw l⟩=if l==[100,114,111,112]then 1 else if l==[109,97,115,107]then 2 else if l==[116,97,103]then 3 else 0:=by unfold F6;rw[SM]
theorem jO(a r:A1):F6 ⟨Aw (a++32::r)⟩=0:=by have b:(32:AU)∈a++32::r:=Ba;grind [YJ]
theorem jP(n:I)(l:A1):UF n l=Dn n l:=by
 unfold UF Dn;rcases Nc 32 l with⟨f,g⟩|⟨a,r,f,_,g⟩
 .rw[f,g];rcases Nc 32 []with⟨c,h⟩|⟨a,r,_,c,_⟩
  .simp[c,IQ,Od]
  simp at c
 rw[f,g];rcases Nc 32 r with⟨c,h⟩|⟨b,q,c,_,h⟩
 .grind [F6,YJ,Od]
 rw[c,h];rcases Nc 32 q with⟨j,i⟩|⟨d,e,j,i,k⟩
 .rw[i];rfl
 grind [jm,List.length_pos_iff,Yu,List.length_cons,jO]
def Nd:Maps.Keyed As 9:=Ra underlying9
def jQ(hb:K l<=maxLen):keyOf As 9 (Ae ⟨Aw l⟩)=H (.string l):=by
 have a:(⟨Aw l⟩:AT).size<=maxLen:=by show(Aw l).size<=maxLen;omega
 simp[keyOf,mapKey,underlying9,a]
def Js(lf:Lit->Option AH)(key:A1)(ix:AK):AH:=if ix=AP then 1 else(lf<|.string key).getD 0
def YK{q:D0}(h:Dv W0 A q sts sv nf mn mf W){key:A1}(c:AK)(hb:K key<=maxLen):Ar As 103 #[A8 A,Ag #[Ae ⟨Aw key⟩,Ah c]] W λe k=>e=Ak (C Y<|Js q.i key c)/\A0 W k:=by
 have l:=Cd h.ad;have c2:A6 W A 2<|.map<|H q.f:=Cc h.ad 2;have f:D<|Ed (Az W<|M #[Ae ⟨Aw key⟩,Ah c] 146) 9 q.f q.ln q.i:=h.d.kept (L8 W _ Ao) Ba;have n:=Sj f Nd underlying178<|jQ hb;cases c
 .obtain⟨x,g⟩:=IB<|(q.i<|.string key).getD 0;have j:D<|Js q.i key AQ=x:=by rw[g];rfl
  have i:=T g.symm;rw[AE j];go_enter func103,ntmps103;go_wp2;have b:(λa:X=>A6 a A 2 (.map<|H q.f)/\A6 a (O<|U W) 0 (Ae ⟨Aw key⟩)/\Ed a 9 q.f q.ln q.i) { (Az W<|M #[Ae ⟨Aw key⟩,Ah AQ] 146)with drawn:=(Az W<|M #[Ae ⟨Aw key⟩,Ah AQ] 146).drawn+1}:=⟨((((Cu (O<|U W) W).alloc (Cr _)<|M #[Ae ⟨Aw key⟩,Ah AQ] 146).cell (p:=⟨A,2,Ao⟩) l).trans c2 :),Cc (Cj W) 0,f⟩
  refine Ei (S:=λa=>A6 a A 2 (.map<|H q.f)/\A6 a (O<|U W) 0 (Ae ⟨Aw key⟩)/\Ed a 9 q.f q.ln q.i) B6 ?_;refine Cb 0 7 (A8 A) b <| Cb 1 8 (A8 A) b <| Cb 2 9 (A9 A 2) b <| Ch 3 10 (.map<|H q.f) Z (λa d=>Bh) b <| Cb 4 11 (A8<|O<|U W) b <| Ch 5 12 (Ae ⟨Aw key⟩) Z (λa d=>Bh) b <| Ch 6 13 (C Y x) Z (λa d=>by have m:=Sj d.2.2 Nd underlying178<|jQ hb;rw[AE i]at m;go_simp) b <| Cb 7 4 (C Y x) b <| CK ?_;go_simp;go_wp2;go_ret;exact⟨Z,(Cm).drew⟩
 go_enter func103,ntmps103;go_wp2;go_ret;exact⟨Z,Cm⟩
theorem jR{P:Program}{w:X}{g o:I}{ty:AN}{O:A3}{d:TypeDesc}(f:∀(j:I) (u:Aq),O[j]?=H u->A6 w g (o+j) u)(e:P.underlying ty=H d)(h:(match d with|.struct _|.array _ _=>AP|_=>AQ)=AP)(hi:(P.info? ty).map (·.size)=H O.size):(loadVar ty ⟨g,o,Ao⟩).run P w=.ok (.agg O) w:=by
 have a:=VP (P:=P) w ⟨g,o,Ao⟩ O.toList λj u k=>C2;rcases hq:P.info? ty with _|i
 .simp[hq]at hi
 have c:i.size=O.size:=by simpa[hq]using hi
 have b:(isAgg ty).run P w=.ok AP w:=by unfold isAgg;rw[GU,Mv e w];cases d<;>simp_all
 simp only[Fz,VM]at a;simp[loadVar,GU,b,sizeOf,typeInfo,hq,c,a]
def YL{P:Program}{o:Oper}{a:Act}{w:X}{K:Act->X->Prop}{Q:Exit->Act->X->Prop}{ty:AN}{x:Operand}(e:o.op=.load ty x){g k:I}(hx:a.eval x=A9 g k){O:A3}{d:TypeDesc}(b:∀(j:I) (u:Aq),O[j]?=H u->A6 w g (k+j) u)(f:P.underlying ty=H d)(c:(match d with|.struct _|.array _ _=>AP|_=>AQ)=AP)(hi:(P.info? ty).map (·.size)=H O.size)(h:K (a.put o.dst<|.agg O) w):o.wp P a w K Q:=by unfold Oper.wp execOp;simp only[e,hx,Instr.loadAt,Instr.sureAddr,GU,Gf,G0,jR b f c hi];exact h
def QI{P:Program}{ops:Array Oper}{rest:AJ Oper}{o:Oper}{a:Act}{w:X}{Q:Exit->Act->X->Prop}{ty:AN}(x:Operand)(i:o.op=.load ty x)(f:Region.wanted o (yielded ops a.tmps)=AP){g k:I}(hx:a.eval x=A9 g k){O:A3}{d:TypeDesc}(c:∀(j:I) (u:Aq),O[j]?=H u->A6 w g (k+j) u)(l:P.underlying ty=H d)(e:(match d with|.struct _|.array _ _=>AP|_=>AQ)=AP)(hi:(P.info? ty).map (·.size)=H O.size)(h:wpList P ops Q rest (a.put o.dst<|.agg O) w):wpList P ops Q (o::rest) a w :=
 Wj λm b=>by rw[Cp f];exact YL i hx c l e hi<|b _ _ h
theorem Oe{P:Program}{ev:Operand->Aq}{W:X}{o:Oper}{ty:AN}(x:Operand)(c:o.op=.load ty x){g k:I}(hx:ev x=A9 g k){O:A3}{d:TypeDesc}(a:∀(j:I) (u:Aq),O[j]?=H u->A6 W g (k+j) u)(e:P.underlying ty=H d)(b:(match d with|.struct _|.array _ _=>AP|_=>AQ)=AP)(hi:(P.info? ty).map (·.size)=H O.size):(execOp ev o).run P W=.ok (.value<|.agg O) W:=by grind [execOp,Instr.loadAt,Instr.sureAddr,Sem.run_bind,Sem.run_pure,Result.andThen_ok,jR]
theorem zX(x:(I->I)×J×J):Ob x=(EA x.1 x.2).toList:=by simp[Ob,EA]
theorem UG(a:I->I)(x:J×J):(EA a x).size=18:=by simp[EA,MZ]
theorem zY(a:I->I){x:J×J}:(EA a x).all (·.oneCell')=AP:=by grind [jy]
theorem zZ(a:AJ<|(I->I)×J×J):∀(i j:I) (x:(I->I)×J×J),a[i]?=H x->j<18->(a.flatMap Ob)[i*18+j]?=(EA x.1 x.2)[j]?:=by induction a<;>grind [zX,UG]
theorem Dv.ai{q:D0}(h:Dv W0 A q sts sv nf mn mf W){x:(I->I)×J×J}(hx:sts[i]?=H x):∃g a,sv=G (H ⟨g,0,Ao⟩) (K sts) a/\g<O (U W)/\g≠A/\∀(j:I) (u:Aq),(EA x.1 x.2)[j]?=H u->AC W ⟨g,i*18+j,Ao⟩=H u:=by
 have m:=Dk hx;rcases h.b.2 with⟨_,k⟩|⟨g,a,d,c,l,b,o,n,p,r⟩
 .omega
 refine⟨g,a,c,(Cd b),(h.a0 g kfm).1,λj u s=>?_⟩;have f:j<18:=by grind [UG]
 rw[Iz W g (i*18+j) d _ _ b];have e:=zZ sts i j x hx f;grind
def jS(a:I->I){x:J×J}:(prog.info? 203).map (·.size)=H (EA a x).size:=by rw[UG];kernel_rfl
def jT{q:D0}(h:Dv W0 A q sts sv nf mn mf W){x:(I->I)×J×J}(hx:sts[i]?=H x):Ar As 72 #[A8 A,C Y i] W λe c=>e=Ak (Af #[C Y x.2.1,C Y x.2.2])/\A0 W c:=by
 obtain⟨g,d,rfl,l,k,f⟩:=h.ai hx;have j:A6 W A 20<|G (Aa g) (K sts) d:=Cc h.ad 20;have m:(i:J)<(K sts:J):=AY<|Dk hx;have b:=T f;go_enter func72,ntmps72
 go_wp2_with(first
  |(refine QI (.tmp 12) Z C1 Z b underlying203 Z (jS x.1) ?_)
  |(refine D8 Z 203 _ _ Z (O<|U W) (EA x.1 x.2) Z Z 203 #[C .u16 0,C .u16 0,C .u16 0,C .u16 0,C .u16 0,C .u16 0,C .u16 0,C .u16 0,C .u16 0,C .u16 0,C .u16 0,C .u16 0,C .u16 0,C .u16 0,C .u16 0,C .u16 0,C Y 0,C Y 0] (Cj W) (jS x.1) (by rw[UG];rfl) (zY x.1) ?_;rw[Ge]))
 have a:D<|A0 W<|Az W<|M (EA x.1 x.2) 203:=Cm;have n:(Az W<|M (EA x.1 x.2) 203).cell? ⟨O<|U W,16,Ao⟩=H (C Y x.2.1):=Cc (Cj W) 16;have o:(Az W<|M (EA x.1 x.2) 203).cell? ⟨O<|U W,17,Ao⟩=H (C Y x.2.2):=Cc (Cj W) 17;generalize Az W (M (EA x.1 x.2) 203)=V at *
 go_quiet (fail)
 go_wp2;refine CS (FP results72 _ _ _) Z ⟨Z,Cs a ⟨Z,Z,Z,Cr _,λ_ _=>rfl⟩⟩
theorem jU(x:I)(h:x<1000000000):(Lit.int Y (x:J)).wf=AP:=by have a:IntKind.i64.min = -9223372036854775808:=B6;have b:IntKind.i64.max=9223372036854775807:=B6;grind [Lit.wf]
def DN(f x:AH):A3:=#[Ab Al f,Ab Al x]
theorem jV(f x:Nat)(h:f<1000000000)(hx:x<1000000000):∃l,keyOf prog 199 (.agg<|DN f x)=some l:=by
 obtain⟨d,g⟩:∃d,prog.types.size+1=d+2:=⟨prog.types.size-1,Bv⟩
 have c:prog.keyType 199=true:=B6;have a:prog.cellsOf 199=2:=B6;have b:prog.cellsOf 3=1:=B6;have i:(Value.agg<|DN f x).formed prog 199=true:=by simp only[Value.formed,underlying199];rw[a];rfl
 have k:∀y:Nat,y<1000000000->prog.keyLits (d+1) 3 [.int .i64 y]=some [.int .i64 y]:=by intro y m;unfold Program.keyLits;grind [underlying3,jU]
 have j:prog.keyLits (d+2) 199 (DN f x).toList=some [.int .i64 f,.int .i64 x]:=by unfold Program.keyLits;simp only[underlying199];rw[Cp ⟨kfr,B6⟩];simp only[List.mapM_cons,List.mapM_nil,b,DN];simp_all
 refine⟨.string<|keyBytes [.int .i64 f,.int .i64 x],?_⟩;unfold keyOf;simp only[underlying199];have e:(Value.agg<|DN f x).cells=DN f x:=rfl;grind
def KW(q:D0)(sts:AJ<|(AH->AH)×AI×AI)(mf:Lit->Option AH):Prop :=
 ∀(f x:AH) (l:Lit) (k:AH),keyOf As 199 (.agg<|DN f x)=An l->mf l=An k->∃s t Y,sts[f]?=An s/\sts[k]?=An t/\Pj (At q.a) q.st (I1 q.st (q.j x) s.1<|At q.a) Y/\∀r,r<16->t.1 r=Y r
def jW(W0:Ap)(A:AH)(q:D0)(sts:AJ<|(AH->AH)×AI×AI)(P:AH->AH)(x mn:AH)(e:Ending)(W':Ap):Prop :=
 ∃(i:AH) (sts':AJ<|(AH->AH)×AI×AI) (sa':A4) (sc':AH) (nf':Lit->Option AH) (mn':AH) (mf':Lit->Option AH),e=Ak (Ab Al i)/\Dv W0 A q sts' (Ac sa' (At sts') sc') nf' mn' mf' W'/\KW q sts' mf'/\mn'<=mn+1/\(∀(j:AH) (x:(AH->AH)×AI×AI),sts[j]?=An x->sts'[j]?=An x)/\At sts'<=At sts+1/\∃t Y,sts'[i]?=An t/\Pj (At q.a) q.st (I1 q.st (q.j x) P<|At q.a) Y/\∀r,r<16->t.1 r=Y r
def jX{q:D0}(h:Dv W0 A q sts sv nf mn mf W){f:I}{key:A1}{ix:AK}(hb:K key<=maxLen)(hx:Js q.i key ix=x){l:Lit}(hl:keyOf As 199 (.agg<|DN f x)=H l)(hi:mf l=H i):Ar As 71 #[A8 A,C Y f,Ag #[Ae ⟨Aw key⟩,Ah ix]] W λe t=>e=Ak (C Y i)/\A0 W t:=by
 have g:D<|Dv W0 A q sts sv nf mn mf<|Az W<|M #[Ae ⟨Aw key⟩,Ah ix] 146:=h.next Cm
 have k:D<|A0 W<|Az W<|M #[Ae ⟨Aw key⟩,Ah ix] 146:=Cm;have n:=YK g ix hb;rw[hx]at n;go_enter func71,ntmps71
 go_wp2_with(first
  |(go_at_call 103;refine n.mono ?_;rintro e c ⟨rfl,o⟩;have p:=T<|g.next o;have m:=T<|k.trans<|o.mono k.size))
 have j:D<|Dv W0 A q sts sv nf mn mf<|Az c<|M (DN f x) 199:=p.next Cm
 have s:D<|A0 W<|Az c<|M (DN f x) 199:=m.alloc m.size _;have r:D<|(Az c<|M (DN f x) 199).heap[O<|U c]?=H (M (DN f x) 199):=Cj _;have a:(λb:X=>A6 b A 22 (.map<|H q.b)/\A7 b (O<|U c) (DN f x) 199/\Ed b 199 q.b mn mf) { (Az c<|M (DN f x) 199)with drawn:=(Az c<|M (DN f x) 199).drawn+1}:=⟨Cc j.ad 22,r,j.c⟩
 refine Ei (S:=λb=>A6 b A 22 (.map<|H q.b)/\A7 b (O<|U c) (DN f x) 199/\Ed b 199 q.b mn mf) B6 ?_;refine Cb 0 16 (A8 A) a <| Cb 1 17 (A8 A) a <| Cb 2 18 (A9 A 22) a <| Ch 3 19 (.map<|H q.b) Z (λb d=>Bh) a <| Ch 4 20 (.agg<|DN f x) Z (λb d=>by exact KU (.tmp 7) Z Z d.2.1 underlying199 Z B6) a <| Ch 5 21 (Af #[C Y i,Ah AP]) Z (λb d=>by have u:=Sk d.2.2 Sl underlying180 hl;rw[hi]at u;go_simp) a <| Cb 6 15 (Af #[C Y i,Ah AP]) a <| Cb 7 22 (C Y i) a <| Cb 8 23 (Ah AP) a <| Cb 9 8 (C Y i) a <| Cb 10 9 (Ah AP) a <| CK ?_;go_simp;go_wp2;go_ret;exact⟨Z,s.drew⟩
end
end Go.Proofs.YtaehkdnabiccnaaGreatDoor


