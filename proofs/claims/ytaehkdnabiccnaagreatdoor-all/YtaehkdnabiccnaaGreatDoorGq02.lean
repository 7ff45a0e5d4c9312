import Derived.Shelf.Unicode.ValidAny
import Derived.DeepKeys5
import Derived.Lib.IndexMore
import Derived.RangeFuncBound
import Derived.RangeFuncCalls
import Derived.OwnWalkIn
import Derived.TacticsInMore
import Derived.LoopNIn
import Derived.Sort.LoopGhostIn
import Derived.Test.YtaehkdnabiccnaaGreatDoorGq00
set_option maxRecDepth 100000
set_option maxHeartbeats 8000000
set_option linter.all false
namespace Go.Proofs.YtaehkdnabiccnaaGreatDoor
open Go.Proofs.Tryz
open _root_ renaming Nat->I,Int->J
open Go.Value renaming int->C,slice->G
open Go.World renaming heap->U
open _root_.Array renaming size->O
open _root_.List renaming length->K
open Go.IntKind renaming i64->Y
open Go.RowKit renaming Hid->D
open Go renaming World->X
open Option renaming some->H
open Go.Obj renaming cells->M
open Go.Value renaming slice->AX,int->Ab,slice->Ac,string->Ae,tuple->Af,agg->Ag,bool->Ah,ownBlock->Ax
open Go.Obj renaming cells->Aj
open Go.Ending renaming returned->Ak
open Go.IntKind renaming i64->Al
open Option renaming some->An,none->Ao
open Go renaming TypeId->AN,undef->AO,World->Ap,Value->Aq,Calls->Ar
open Go.Proofs.Tryz renaming prog->As
open _root_.List renaming replicate->AV,length->At,toArray->Aw
open _root_.Array renaming size->Au,setIfInBounds->Ay
open Go.World renaming setCell->AB,cell?->AC,setRow->AD,heap->Av,alloc->Az
open Go.RowKit.Hid renaming out->AE
open Or renaming inl->AF,inr->AG
open _root_ renaming Nat->AH,Int->AI,List->AJ,Bool->AK,ByteArray->AT,UInt8->AU
open _root_.Bool renaming true->AP,false->AQ
open _root_.Decidable renaming decide->AR
variable{P:Program}{A BE N b base bcap bytes cap ecap f fuel g h i j k lm lo lo' mn n pc pos r rc row sc tb tc x:I}{key l:A1}{V V' W W' W0 w w' w0 w2 w5 wr:X}{m m':I->I->AK}{p:AJ (A1×AK)}{u:Tmp}{e kt t ty:AN}{cur oarr tmps:A3}{fr:I×I}{a ao ba ea pa ra sa:A4}{L:AJ (J×J)}{S:I->AK}{B:AJ J}{d dflt hi y:J}{ops:Array Oper}{rest:AJ Oper}{o oi:Oper}{Q:Exit->Act->X->Prop}{s:AT}{ev ρ:Operand->Aq}{sv tv v v' z:Aq}{st:I->I}{c:AU}{ss:AJ (I×A1)}{md:Region.Mode}{listed:Array AK}{rs:AJ (AJ (I×A1)×J×J)}{kl:Lit}{sts:AJ ((I->I)×J×J)}{mf nf:Lit->Option I}{ps:AJ AT}{ks:AJ A1}{news xs ys:AJ Aq}{F:Fence}{ix:AK}{es:AJ (AJ Aq×I×J×J)}{R:AJ (I×A1)×J×J}
section
open Go.RowKit Go.RowKit Go.Deep Go.RowKit Go.Shelf
def FC(n k:AH)(m:AH->AH->AK)(l h:AH):AH->AH->AK:=λi j=>m i j||(AR (j<n/\(i<l\/(i=l/\j<h)))&&(m i k&&m k j))
def Hm(n:AH):AH->(AH->AH->AK)->AH->AH->AK
 |0,m=>m
 |k+1,m=>FC n k (Hm n k m) n 0
theorem nO(n k:I)(m:I->I->AK):FC n k m 0 0=m:=by funext i j;simp[FC]
theorem nP(n k:I)(m:I->I->AK)(l:I):FC n k m l n=FC n k m (l+1) 0:=keO
theorem aQ(m:I->I->AK){l:I}(h:I):FC n k m l h i k=m i k:=keO
theorem aR(m:I->I->AK){l:I}(h:I):FC n k m l h k j=m k j:=keO
theorem nQ(n k:I)(m:I->I->AK)(l h:I)(c:h<n)(a:m l k=AP)(b:m k h=AP):upd (FC n k m l h) l h AP=FC n k m l (h+1):=by grind [upd,FC]
theorem aS(n k:I)(m:I->I->AK)(l h:I)(e:(m l k&&m k h)=AQ):FC n k m l h=FC n k m l (h+1):=keO
structure ED(w W:Ap)(b n:AH)(M:AH->AH->AK):Prop where
 ac:Below b w W
 a2:W.heap[b]?=An (Aj (Dp n M) 123)
def ED.set{M:I->I->AK}(h:ED w W b n M)(hi:i<6)(a:j<6)(v:AK):ED w (AB W ⟨b,1+i*6+j,Ao⟩<|Ah v) b n (upd M i j v) :=
 ⟨h.ac.setCell (Cr _) _,by rw[DX W _ _ _ _ _ h.a2,aI M hi a]⟩
def ED.aq{M:I->I->AK}(h:ED w W b n M):A6 W b 0<|C Y n:=Ca (Cc h.a2 0) (Hk n M).aq
def ED.a0{M:I->I->AK}(h:ED w W b n M)(hi:i<6)(a:j<6):A6 W b (1+i*6+j)<|Ah<|M i j:=Ca (Cc h.a2 _)<|(Hk n M).a0 i j hi a
def ED.frozen{M:I->I->AK}(h:ED w W b n M)(j:I):W.frozen? ⟨b,j,Ao⟩=AQ:=Dy W b j _ _ h.a2
theorem ED.drew{M:I->I->AK}(h:ED w W b n M):ED w W.drew b n M:=⟨h.ac.drew,h.a2⟩
theorem nS(hn:n<=6)(Q:A7 w b (Dp n m) 123):Ar As 170 #[A8 b] w λe R=>e=Ak (Af #[])/\ED w R b n (Hm n n m):=by
 have A:D<|ED w w b n<|Hm n 0 m:=⟨Cu _ _,Q⟩
 have s:=A.aq;go_enter func170,ntmps170;go_wp2
 go_loopg[9,2] n (λg x y wr=>∃k:I,D (k+g=n)/\x=C Y k/\D (ED w wr b n<|Hm n k m))
 grind [D];obtain⟨k,t,rfl,z⟩:=hrel;have s:=z.aq;obtain _|g:=gk
 .have P:¬(k:J)<n:=AY<|AE t;go_wp2;go_end0;grind [D]
 have P:(k:J)<n:=AY<|AE t;have u:k<6:=E;go_wp2
 go_loopg[16,3] n (λg x y wr=>∃l:I,D (l+g=n)/\x=C Y l/\D (ED w wr b n<|FC n k (Hm n k m) l 0))
 grind [D,nO];obtain⟨l,p,rfl,r⟩:=hrel;have s:=r.aq;obtain _|F:=gk
 .have N:¬(l:J)<n:=AY<|AE p;go_wp2;go_roundg g
  .have e:l=n:=AY<|AE p;exact⟨k+1,B9,Bb,by have:=AE r;rw[e]at this;exact this⟩
  omega
 have N:(l:J)<n:=AY<|AE p;have q:l<6:=E;go_wp2
 go_loopg[23,4] n (λg x y wr=>∃h:I,D (h+g=n)/\x=C Y h/\D (ED w wr b n<|FC n k (Hm n k m) l h))
 grind [D];obtain⟨h,j,rfl,a⟩:=hrel;obtain _|i:=gk
 .have L:¬(h:J)<n:=AY<|AE j;go_wp2;go_roundg F
  .have e:h=n:=AY<|AE j;exact⟨l+1,B9,Bb,by grind [nP]⟩
  omega
 have L:(h:J)<n:=AY<|AE j;have o:h<6:=E;have c:=a.a0 q u;have c2:=a.a0 u o;have B:=a.a0 q o;have W:=a.frozen<|1+l*6+h;rw[aQ]at c;rw[aR]at c2;generalize hM:Hm n k m=M at *;cases d:M l k
 .rw[d]at c;have v:D<|(M l k&&M k h)=AQ:=by grind [D]
  go_wp2;go_roundg i;exact⟨h+1,B9,Bb,by grind [aS]⟩;omega
 rw[d]at c;cases f:M k h
 .rw[f]at c2;have v:D<|(M l k&&M k h)=AQ:=by grind [D]
  go_wp2;go_roundg i;exact⟨h+1,B9,Bb,by grind [aS]⟩;omega
 rw[f]at c2;have S:=T d;have V:=T f;generalize hV:FC n k M l h l h=v0 at B;go_wp2;go_roundg i;exact⟨h+1,B9,Bb,by have:=a.set q o AP;grind [nQ]⟩;omega
def ID{P:Program}{fn:Func}{p u:Tmp}{ty:AN}(h:fn.results=#[.cell p ty,.tmp u]){tmps:A3}{w:X}{g:I}{t:AN}{cs:A3}{fr:I×I}{d:TypeDesc}(c:tmps.getD p AO=A8 g)(b:w.heap[g]?=H (M cs t fr))(e:P.underlying ty=H d)(a:(match d with|.struct _|.array _ _=>AP|_=>AQ)=AP)(hi:(P.info? ty).map (·.size)=H cs.size)(v:Aq)(f:tmps.getD u AO=v):(results fn tmps).run P w=.ok (Af #[.agg cs,v]) w:=by subst f;rw[results_cell_tmp h,c];simp only[asAddr,Ge,FZ,Jy w g t ty cs fr d b e a hi]
structure G0(w:Ap)(a:A4)(L:AJ (AI×AI)):Prop where
 a0:∀i (h:i<At L),∃b off,a=An ⟨b,off,Ao⟩/\b<Au (Av w)/\AC w ⟨b,off+i*2,Ao⟩=An (Ab Al L[i].1)/\AC w ⟨b,off+i*2+1,Ao⟩=An (Ab Al L[i].2)
def G0.ac(h:G0 w a L)(hb:A0 w w'):G0 w' a L :=
 ⟨λi g=>by obtain⟨b,off,f,c,d,e⟩:=h.a0 i g;exact⟨b,off,f,CQ c hb.size,Ca (hb.cell c) d,Ca (hb.cell c) e⟩⟩
def GD(n:AH)(e:AI×AI):AK:=Dg n e.1&&Dg n e.2 && !(e.1==e.2)
def LQ(k:AH):AH->AH->AK:=λi j=>AR<|i=j/\i<k
def nT(k:I):upd (LQ k) k k AP=LQ (k+1):=by
 funext i j;unfold upd LQ;by_cases c:i=k/\j=k
 .obtain⟨rfl,rfl⟩:=c;simp
 rw[Cl c];exact decide_eq_decide.2 E
def nU:LQ 0=λ_ _=>AQ:=by funext i j;simp[LQ]
def Kz(m:AH->AH->AK)(e:AI×AI):AH->AH->AK:=upd m e.1.toNat e.2.toNat AP
def Kc(n:AH)(L:AJ<|AI×AI):AH->AH->AK:=L.foldl Kz<|LQ n
def nV(n:I)(L:AJ<|J×J)(h:k<K L):Kc n (L.take<|k+1)=Kz (Kc n<|L.take k) L[k]:=by unfold Kc;rw[Vz h,List.foldl_append];rfl
def Fv(n:AH)(L:AJ<|AI×AI):AK:=L.all<|GD n
def PU(h:k<K L)(e:GD n L[k]=AQ):Fv n L=AQ:=by unfold Fv;rw[VB];exact⟨_,PQ h,by rw[e];decide⟩
def aT(h:∀k (h:k<K L),GD n L[k]=AP):Fv n L=AP:=by unfold Fv;rw[Hh];intro x b;obtain⟨k,a,rfl⟩:=QY b;exact h k a
def F9(c:AI)(L:AJ<|AI×AI):AK:=AR (1<=c/\c<=6/\At L<=30)&&Fv c.toNat L
def DY(n:AH)(L:AJ<|AI×AI):AH->AH->AK:=Hm n n<|Kc n L
def Rg(n:AH)(L:AJ<|AI×AI):Aq:=if Fv n L then Af #[.agg<|Dp n<|DY n L,Ah AP]else Af #[.agg CU,Ah AQ]
theorem T9(h:Fv n L=AQ):Rg n L=Af #[.agg CU,Ah AQ]:=by unfold Rg;rw[h];rfl
theorem aU(h:Fv n L=AP):Rg n L=Af #[.agg<|Dp n<|DY n L,Ah AP]:=by unfold Rg;rw[h];rfl
def ED.trans{M:I->I->AK}(h:ED w W b n M)(k:A0 W W'):ED w W' b n M:=by have a:=Cd h.a2;exact⟨Cs h.ac<|CG k E,Ca (Co k b a) h.a2⟩
def ED.lt{M:I->I->AK}(h:ED w W b n M):b<O (U W):=Cd h.a2
def ED.alloc{M:I->I->AK}(h:ED w W b n M)(o:Obj):ED w (Az W o) b n M:=h.trans<|(Cu _ _).alloc (Cr _) o
theorem nW(c:J)(L:AJ<|J×J)(a:A4)(cap:I)(g:K L<=maxLen)(w:X)(k:¬(1<=c/\c<=6/\K L<=30)):Ar As 135 #[C Y c,G a (K L) cap] w λe i=>e=Ak (Af #[.agg CU,Ah AQ])/\A0 w i:=by
 unfold maxLen at g;have b:D<|(Az w _).heap[O<|U w]?=H (M CU 123):=Cj _;have d:D<|CU.size=CU.size:=rfl;have key:c<1\/(1<=c/\6<c)\/(1<=c/\c<=6/\(30:J)<K L):=E;rcases key with h|⟨h,f⟩|⟨h,f,j⟩
 all_goals
  go_enter func135,ntmps135
  go_wp2_with(first
   |(refine Ky Z Z Z (O<|U w) Z ?_)
   |(refine Jg Z Z Z ?hl OL ?_;case hl=>simp)
   |(refine D8 Z 123 _ _ Z _ _ Z Z 123 CU b (DM<|Dc) d (Hl) ?_;rw[Gd]))
  refine CS (ID results135 Z b underlying123 Z (DM<|Dc) _ Z) Z ⟨Z,Cm⟩
def nX(w:X)(n:I):ED (Az w<|M CU 123) ((Az (Az w<|M CU 123)<|M CU 123).setRow (O (U w)+1)<|Dp n λ_ _=>AQ) (O (U w)+1) n<|LQ 0:=by refine⟨Dq ((Cu _ _).alloc Ba _)<|Cr _,?_⟩;rw[nU];apply CR _ _ CU _ _ _;have:=Cj (Az w<|M CU 123) (o:=(M CU 123));rwa[CL]at this
def aV(h1:1<=n)(hn:n<=6)(hL:K L<=30)(hE:G0 w a L):Ar As 135 #[C Y n,G a (K L) cap] w λe w'=>e=Ak (Rg n L)/\A0 w w':=by
 have HE:=T hE;have d:D<|(Az w<|Aj CU 123).heap[O<|U w]?=H (Aj CU 123):=Cj _;have HH:D<|(Az (Az w<|Aj CU 123)<|Aj CU 123).heap[O (U w)+1]?=H (Aj CU 123):=by have:=Cj (Az w<|Aj CU 123) (o:=(Aj CU 123));rw[CL]at this;exact this
 have HZ:D<|CU.size=(Dp n λ_ _=>AQ).size:=ke0;have HT:=nX w n;have m:D<|A0 w<|Az w<|Aj CU 123:=Cm;have ao:D<|O (U<|Az w<|Aj CU 123)=O (U w)+1:=BR;generalize hW:(Az (Az w<|Aj CU 123)<|Aj CU 123).setRow (O (U w)+1) (Dp n λ_ _=>AQ)=W at HT;have HD:=T hW;have aj:=T HT;go_enter func135,ntmps135
 go_wp2_with(first
  |(refine Ky Z Z Z (O<|U w) Z ?_)
  |(refine Ky Z Z Z (O (U w)+1) ?hN ?_;case hN=>(simp only[CL,A0];done))
  |(refine Jg Z Z Z ?hl (aJ n) ?_;case hl=>simp[go_sem])
  |(refine D8 Z 123 _ _ Z _ _ Z Z 123 CU HH (DM<|Dc) HZ (Hl) ?_;rw[AE HD]))
 generalize Az w (Aj CU 123)=W0 at *
 go_loopg[25,7] n (λg x y wr=>∃k:I,D (k+g=n)/\x=C Y k/\D (ED W0 wr (O (U w)+1) n<|LQ k))
 exact⟨0,Bg,Z,aj⟩;obtain⟨k,N,rfl,p⟩:=hrel;obtain _|g:=gk
 .have ah:¬(k:J)<n:=AY<|AE N;have e:k=n:=AY<|AE N;subst e;go_wp2
  go_loopg[36,9] (K L) (λg x y wr=>∃q:I,D (q+g=K L)/\x=C Y q/\D (ED W0 wr (O (U w)+1) k<|Kc k<|L.take q)/\D (∀i (h:i<K L),i<q->GD k L[i]=AP))
  exact⟨0,Bg,Z,p,λi h hi=>E⟩;clear p;obtain⟨q,s,rfl,v,S⟩:=hrel;obtain _|g:=gk
  .have al:¬(q:J)<K L:=AY<|AE s;have HY:=T<|aT λi h=>S.out i h<|AY<|AE s;have ac:D<|ED W0 wr (O (U w)+1) k<|Kc k L:=by have:=AE v;rw[Ns<|AY<|AE s]at this;exact this
   clear v S;have cF:=nS hn ac.a2
   go_wp2_with(first
    |(go_at_call 170;refine Ce cF ?_;clear cF;rintro e w2 ⟨rfl,aa⟩;have c:D<|ED W0 w2 (O (U w)+1) k<|DY k L:=⟨Cs ac.ac aa.ac,aa.a2⟩;clear aa)
    |(refine CO Z 123 _ Z _ Z _ _ _ _ c.a2 underlying123 Z (DM<|Dc) ?_)
    |(refine D8 Z 123 _ _ Z _ _ Z Z 123 CU (Ca (Co c.ac _ E) d) (DM<|Dc) ke0 (Hl) ?_))
   refine CS (ID results135 Z (CR _ _ CU _ _ _<|Ca (Co c.ac _ E) d) underlying123 Z (DM<|Dc) (Ah AP) Z) Z ⟨by rw[aU HY.out],Dq (Cs m<|CG c.ac E)<|Cr _⟩
  have al:(q:J)<K L:=AY<|AE s;obtain⟨ap,off,rfl,ah,e1,e2⟩:=(HE.ac<|Cs m<|(CG v.ac E)).a0 q E;have V:D<|(Az wr<|Aj #[C Y L[q].1,C Y L[q].2] 119).heap[O<|U wr]?=H (Aj #[C Y L[q].1,C Y L[q].2] 119):=Cj _;have c:D<|ED W0 (Az wr<|Aj #[C Y L[q].1,C Y L[q].2] 119) (O (U w)+1) k<|Kc k<|L.take q:=v.alloc _;have f:D<|GD k L[q]=GD k (L[q].1,L[q].2):=rfl;have u:D<|Kc k (L.take<|q+1)=Kz (Kc k<|L.take q) (L[q].1,L[q].2):=nV k L E;have B:=OM (Hk k<|Kc k<|L.take q).aq L[q].1<|Az wr<|Aj #[C Y L[q].1,C Y L[q].2] 119;generalize L[q].1=x at *;generalize L[q].2=y at *;generalize Kc k (L.take q)=M at *
  go_wp2_with(first
   |(refine CO Z 123 _ Z _ Z _ _ _ _ c.a2 underlying123 Z (DM<|Dc) ?_)
   |(refine F0 Z Z Z c.a2 underlying123 Z (DM<|Dc) ?_))
  refine Ce B ?_;clear B;rintro e w2 ⟨rfl,F⟩;have r:=T<|c.trans F;clear c;have c:=r;clear r;have ad:=(Cc (Ca (Co F _ Ba) V) 0)
  have ae:=(Cc (Ca (Co F _ Ba) V) 1)
  have z:=T<|Ca (Co F _ Ba) V;have c2:=OM (Hk k M).aq y w2;cases Q:Dg k x
  .have l:D<|Fv k L=AQ:=PU (k:=q) E (by rw[AE f];unfold GD;rw[Q];rfl);clear Q u f
   go_wp2_with(first
    |(refine Jg Z Z Z ?hl OL ?_;case hl=>simp)
    |(refine D8 Z 123 _ _ Z _ _ Z Z 123 CU (Ca (Co c.ac _ E) d) (DM<|Dc) Z (Hl) ?_))
   refine CS (ID results135 (g:=O<|U w) (t:=123) (cs:=CU) Z (CR _ _ CU _ _ _<|Ca (Co c.ac _ E) d) underlying123 Z (DM<|Dc) (Ah AQ) Z) Z ⟨by rw[T9 l.out],Dq (Cs m<|CG c.ac E)<|Cr _⟩
  have A:=T Q;clear Q
  go_wp2_with(first
   |(refine CO Z 123 _ Z _ Z _ _ _ _ c.a2 underlying123 Z (DM<|Dc) ?_)
   |(refine F0 Z Z Z c.a2 underlying123 Z (DM<|Dc) ?_))
  refine Ce c2 ?_;clear c2;rintro e w3 ⟨rfl,j⟩;have r:=T<|c.trans j;clear c;have c:=r;clear r;clear ad ae;have ad:=(Cc (Ca (Co j _<|Cd z) z) 0)
  have ae:=(Cc (Ca (Co j _<|Cd z) z) 1)
  cases R:Dg k y
  .have l:D<|Fv k L=AQ:=PU (k:=q) E (by rw[AE f];unfold GD;rw[R,AE A];rfl);clear R u f
   go_wp2_with(first
    |(refine Jg Z Z Z ?hl OL ?_;case hl=>simp)
    |(refine D8 Z 123 _ _ Z _ _ Z Z 123 CU (Ca (Co c.ac _ E) d) (DM<|Dc) Z (Hl) ?_))
   refine CS (ID results135 (g:=O<|U w) (t:=123) (cs:=CU) Z (CR _ _ CU _ _ _<|Ca (Co c.ac _ E) d) underlying123 Z (DM<|Dc) (Ah AQ) Z) Z ⟨by rw[T9 l.out],Dq (Cs m<|CG c.ac E)<|Cr _⟩
  .have b:=T R;clear R;cases ai:(x==y)
   .have l:D<|GD k L[q]=AP:=by show _=_;rw[AE f];unfold GD;rw[AE b,AE A,ai];rfl
    clear f;obtain⟨am,au⟩:0<=x/\x<k:=Dr A;obtain⟨an,av⟩:0<=y/\y<k:=Dr b
    go_wp2_with(first
  |(refine CO Z 123 _ Z _ Z _ _ _ _ c.a2 underlying123 Z (DM<|Dc) ?_)
  |(refine F0 Z Z Z c.a2 underlying123 Z (DM<|Dc) ?_)
  |(refine Jg Z Z Z ?hl OL ?_;case hl=>simp)
  |(refine D8 Z 123 _ _ Z _ _ Z Z 123 CU (Ca (Co c.ac _ E) d) (DM<|Dc) Z (Hl) ?_))
    obtain⟨i,rfl⟩:=PL am;obtain⟨ab,rfl⟩:=PL an;have af:i<6:=E;have ag:ab<6:=E;have ak:=c.a0 af ag;have aq:=c.frozen<|1+i*6+ab;generalize M i ab=v0 at ak
    go_region
    all_goals go_wp2
    go_roundg g
    .refine⟨q+1,AZ<|AE s,Bb,?_,?_⟩
     .have:=(c.set af ag AP).drew;show ED _ _ _ _ _;rw[AE u];exact this
     intro i' h' ar;by_cases e:i'=q
     .subst e;exact l
     exact S i' h' E
    omega
   .have l:D<|Fv k L=AQ:=PU (k:=q) E (by rw[AE f];unfold GD;rw[AE b,AE A,ai];rfl);clear u f
    go_wp2_with(first
  |(refine CO Z 123 _ Z _ Z _ _ _ _ c.a2 underlying123 Z (DM<|Dc) ?_)
  |(refine F0 Z Z Z c.a2 underlying123 Z (DM<|Dc) ?_)
  |(refine Jg Z Z Z ?hl OL ?_;case hl=>simp)
  |(refine D8 Z 123 _ _ Z _ _ Z Z 123 CU (Ca (Co c.ac _ E) d) (DM<|Dc) Z (Hl) ?_))
    refine CS (ID results135 (g:=O<|U w) (t:=123) (cs:=CU) Z (CR _ _ CU _ _ _<|Ca (Co c.ac _ E) d) underlying123 Z (DM<|Dc) (Ah AQ) Z) Z ⟨by rw[T9 l.out],Dq (Cs m<|CG c.ac E)<|Cr _⟩
 have ah:(k:J)<n:=AY<|AE N;have P:k<6:=E;have B:=p.a0 P P;have c2:=p.frozen<|1+k*6+k;generalize LQ k k k=v0 at B;go_wp2;go_roundg g;exact⟨k+1,AZ<|AE N,Bb,by have:=p.set P P AP;rw[nT]at this;exact this⟩;omega
structure Ws(arr:A3)(n:AH)(L:AJ (AI×AI))(ea:A4)(ecap:AH):Prop where
 size:arr.size=11
 f0:arr[0]?=An (Ab Al n)
 f1:arr[1]?=An (Ac ea (At L) ecap)
def DC{arr:A3}(h:arr.size=11):(prog.info? 40).map (·.size)=H arr.size:=ke1
def ON{arr:A3}(h:arr[0]?=H (C Y n))(a:J)(w:X):Ar As 60 #[.agg arr,C Y a] w λe c=>e=Ak (Ah<|Dg n a)/\A0 w c:=by
 go_enter func60,ntmps60;go_wp2
 all_goals go_ret
 .exact⟨by simp[Dg, *],Cm⟩
 exact⟨keG,Cm⟩
def Gh(n:AH)(S:AH->AK):A3:=Aw<|(List.range n).map λk=>Ah<|S k
theorem nY(n:I)(S:I->AK):(Gh n S).size=n:=by simp[Gh]
theorem OO(S:I->AK)(h:k<n):(Gh n S)[k]?=H (Ah<|S k):=by grind [Gh]
def GU(S:AH->AK)(k:AH):AH->AK:=λx=>if x=k then AP else S x
theorem Ta(n:I)(S:I->AK)(k:I):Ay (Gh n S) k (Ah AP)=Gh n (GU S k):=by grind [GU,Gh]
theorem aW(n:I):madeCells #[Ah AQ] n=Gh n λ_=>AQ:=by grind [madeCells,Gh]
def LR(S:AH->AK)(e:AI×AI):AH->AK:=if S e.1.toNat then GU S e.2.toNat else S
def GE(L:AJ<|AI×AI)(S:AH->AK):AH->AK:=L.foldl LR S
theorem nZ(L:AJ<|J×J)(S:I->AK)(k:I)(h:k<K L):GE (L.take<|k+1) S=LR (GE (L.take k) S) L[k]:=by grind [GE,List.take_succ_eq_append_getElem]
def F2(L:AJ<|AI×AI):AH->(AH->AK)->AH->AK
 |0,S=>S
 |k+1,S=>GE L<|F2 L k S
def ES(a:AH):AH->AK:=GU (λ_=>AQ) a
def DZ(n:AH)(L:AJ<|AI×AI)(a b:AH):AK:=F2 L n (ES a) b
structure Lf(w W:Ap)(b n:AH)(S:AH->AK):Prop where
 ac:Below b w W
 a2:W.heap[b]?=An (Aj (Gh n S) 4)
def Lf.set(h:Lf w W b n S)(k:I):Lf w (AB W ⟨b,k,Ao⟩<|Ah AP) b n (GU S k) :=
 ⟨h.ac.setCell (Cr _) _,by rw[DX W _ _ _ _ _ h.a2,Ta]⟩
def Lf.a0(h:Lf w W b n S)(a:k<n):A6 W b k<|Ah<|S k:=Ca (Cc h.a2 k)<|OO S a
def Lf.frozen(h:Lf w W b n S)(k:I):W.frozen? ⟨b,k,Ao⟩=AQ:=Dy W b k _ _ h.a2
def o8(h:Fv n L=AP)(c:k<K L):∃i j:I,i<n/\j<n/\L[k].1=(i:J)/\L[k].2=(j:J):=by have:=Hh.1 h _<|PQ c;unfold GD at this;simp only[Fj]at this;obtain⟨⟨a,b⟩,_⟩:=this;have d:=Dr a;have e:=Dr b;exact⟨L[k].1.toNat,L[k].2.toNat,E,E,E,E⟩
theorem Wt{arr:A3}(H:Ws arr n L ea ecap)(hn:n<=6)(hL:K L<=30)(S:Fv n L=AP){a:I}(V:a<n)(hb:b<n)(R:G0 w ea L):Ar As 69 #[.agg arr,C Y a,C Y b] w λe w'=>e=Ak (Ah<|DZ n L a b)/\A0 w w':=by
 have Q:=H.f0;have f1:=H.f1;have v:=T S;have u:=T R;have ab:=λw=>run_make_row' (P:=As) 196 4 (Ah AQ) 1 underlying196 B6 Z Y Y n E E w;rw[aW]at ab;have p:D<|(Az w<|M arr 40).heap[O<|U w]?=An (M arr 40):=Cj _;have m:D<|A0 w<|Az w<|M arr 40:=Cm;have y:D<|Lf (Az w<|M arr 40) (Az (Az w<|M arr 40)<|M (Ay (Gh n λ_=>AQ) a<|Ah AP) 4) (O (U w)+1) n<|ES a:=by refine⟨(Cu _ _).alloc Ba _,?_⟩;have:=Cj (Az w<|M arr 40) (o:=(M (Ay (Gh n λ_=>AQ) a<|Ah AP) 4));rw[CL]at this;rw[this,Ta];rfl
 have ad:=OO (λ_=>AQ) V;go_enter func69,ntmps69;go_wp2;generalize Az (Az w<|M arr 40) (M (Ay (Gh n λ_=>AQ) a<|Ah AP) 4)=W1 at *;generalize Az w (M arr 40)=W0 at *
 go_loopg[8] n (λg x wr=>∃k:I,D (k+g=n)/\x=C Y k/\D (Lf W0 wr (O (U w)+1) n<|F2 L k<|ES a))
 exact⟨0,Bg,Z,y⟩;obtain⟨k,h,rfl,f⟩:=hrel;have af:=Ca (Cc (Ca (Co f.ac _ E) p) 0) Q;obtain _|g:=gk
 .have aa:¬(k:J)<n:=AY<|AE h;have e:k=n:=AY<|AE h;subst e;have W:=f.a0 hb;have d:D<|F2 L k (ES a) b=DZ k L a b:=rfl;generalize F2 L k (ES a) b=v0 at W d;go_wp2;go_ret;exact⟨by rw[<-AE d];rfl,Cs m<|CG f.ac E⟩
 have aa:(k:J)<n:=AY<|AE h;go_wp2
 go_loopg[9] (K L) (λg x wr=>∃q:I,D (q+g=K L)/\x=C Y q/\D (Lf W0 wr (O (U w)+1) n<|GE (L.take q)<|F2 L k<|ES a))
 exact⟨0,Bg,Z,f⟩;obtain⟨q,l,rfl,c⟩:=hrel;have ag:=Ca (Cc (Ca (Co c.ac _ E) p) 1) f1;obtain _|t:=gk
 .have ac:¬(q:J)<K L:=AY<|AE l;go_wp2;go_roundg g
  .refine⟨k+1,B9,Bb,?_⟩;have:=AE c;rw[Ns<|AY<|AE l]at this;exact this
  omega
 have ac:(q:J)<K L:=AY<|AE l;obtain⟨i,j,hi,hj,F,N⟩:=o8 v (k:=q) E;obtain⟨bb,off,rfl,ae,A,B⟩:=(u.ac<|Cs m<|CG c.ac E).a0 q E;have HM:D<|GE (L.take<|q+1) (F2 L k<|ES a)=if GE (L.take q) (F2 L k<|ES a) i then GU (GE (L.take q)<|F2 L k<|ES a) j else GE (L.take q) (F2 L k<|ES a):=by grind [nZ,LR]
 rw[F]at A;rw[N]at B;have r:=c.a0 hi;have z:=c.a0 hj;have cf:=c.frozen j;cases s:GE (L.take q) (F2 L k<|ES a) i
 .rw[s]at r;have d:D<|GE (L.take<|q+1) (F2 L k<|ES a)=GE (L.take q) (F2 L k<|ES a):=B9;go_wp2;go_roundg t;exact⟨q+1,B9,Bb,by grind [D]⟩;omega
 rw[s]at r;have d:D<|GE (L.take<|q+1) (F2 L k<|ES a)=GU (GE (L.take q)<|F2 L k<|ES a) j:=B9;generalize GE (L.take q) (F2 L k<|ES a) j=v0 at z;go_wp2;go_roundg t;exact⟨q+1,B9,Bb,by show Lf _ _ _ _ _;rw[AE d];exact c.set j⟩;omega
structure G3(w:Ap)(a:A4)(B:AJ AI):Prop where
 a0:∀i,i<At B->∃b off,a=An ⟨b,off,Ao⟩/\b<Au (Av w)/\∀j (h':j<At B),AC w ⟨b,off+j,Ao⟩=An (Ab Al B[j])
def G3.ac(h:G3 w a B)(hb:A0 w w'):G3 w' a B :=
 ⟨λi f=>by obtain⟨b,off,e,c,d⟩:=h.a0 i f;exact⟨b,off,e,CQ c hb.size,λj g=>Ca (hb.cell c)<|d j g⟩⟩
theorem Ny{B:I}{a:X}(h:Below B a w):Below B a<|w.drewN n:=Cs h ⟨rfl,rfl,rfl,Cr _,λ_ _=>rfl⟩
def LS(B:AJ AI)(i:AH):AI:=if i=0 then 0 else B.getD (i-1) 0
def Tb(B:AJ AI)(i:AH):AK:=AR<|LS B i<B.getD i 0/\B.getD i 0<=65536
def PV(B:AJ AI)(i:AH):AK:=AR<|1<=B.getD i 0/\B.getD i 0<=65536/\(0<i->B.getD (i-1) 0<B.getD i 0)
def I8(B:AJ AI):AK:=AR (At B<=8)&&(List.range<|At B).all (Tb B)
def IE(B:AJ AI):AK:=(List.range<|At B).all (PV B)&&AR (At B<=8)
theorem od(B:AJ J):I8 B=IE B:=by
 unfold I8 IE;rw[Bool.and_comm];congr 1;rw[Bool.eq_iff_iff,Hh,Hh];constructor
 .intro h i c;have d:=λk a=>h k<|Hi.2 a;have g:∀k,k<K B->1<=B.getD k 0:=by
   intro k
   induction k with
   |zero=>intro a;have:=Dr<|d 0 a;grind [LS]
   |succ k l =>
    intro a;have:=Dr<|d _ a;grind [LS]
  have e:=Hi.1 c;have b:=Dr<|d i e;have f:=g i e;refine Fm ⟨f,b.2,λj=>?_⟩;grind [LS]
 intro h i c;have b:=Dr<|h i c;refine Fm ⟨?_,b.2.1⟩;grind [LS]
theorem oe(cap:I)(m:K B<=maxLen)(l:G3 w a B):Ar As 93 #[G a (K B) cap] w λe r=>e=Ak (Ah<|I8 B)/\r=w:=by
 unfold maxLen at m;have f:=T l;by_cases F:K B<=8
 .have j:¬(8:J)<K B:=E;go_enter func93,ntmps93;go_wp2
  go_loopg[11,3,5] (K B) (λg x y z wr=>∃k:I,D (k+g=K B)/\x=C Y k/\y=C Y (LS B k)/\w=wr/\D (∀i,i<k->Tb B i=AP))
  exact⟨0,Bg,Z,Z,Z,λi o=>E⟩;obtain⟨k,d,rfl,rfl,rfl,t⟩:=hrel;obtain _|g:=gk
  .have q:¬(k:J)<K B:=AY<|AE d;have c:D<|I8 B=AP:=by grind [D,I8]
   go_wp2;go_ret;exact⟨by rw[AE c];rfl,rfl⟩
  have q:(k:J)<K B:=AY<|AE d;obtain⟨b,off,rfl,L,n⟩:=f.a0 k E;have N:=n k E;have s:D<|B.getD k 0=B[k]:=B9;have h:D<|LS B (k+1)=B[k]:=by grind [LS]
  have u:D<|Tb B k=AR (LS B k<B[k]/\B[k]<=65536):=by grind [Tb]
  generalize B[k]=x at *;generalize LS B k=p at *;by_cases v:x<=p
  .have c:D<|I8 B=AQ:=by grind [I8]
   go_wp2;go_ret;exact⟨by rw[AE c];rfl,rfl⟩
  by_cases A:65536<x
  .have c:D<|I8 B=AQ:=by grind [I8]
   go_wp2;go_ret;exact⟨by rw[AE c];rfl,rfl⟩
  go_wp2;go_roundg g
  .refine⟨k+1,B9,Bb,by rw[AE h],Z,λi o=>?_⟩;grind [D]
  omega
 have j:(8:J)<K B:=E;have c:D<|I8 B=AQ:=by grind [I8]
 go_enter func93,ntmps93;go_wp2;go_ret;exact⟨by rw[AE c];rfl,rfl⟩
theorem og(cap:I)(v:K B<=maxLen)(u:G3 w a B):Ar As 63 #[G a (K B) cap] w λe F=>e=Ak (Ah<|IE B)/\A0 w F:=by
 unfold maxLen at v;have p:=T u;go_enter func63,ntmps63;go_wp2
 go_loopg[3] (K B) (λg x wr=>∃k:I,D (k+g=K B)/\x=C Y k/\A0 w wr/\D (∀i,i<k->PV B i=AP))
 exact⟨0,Bg,Z,Cu _ _,λi m=>E⟩;obtain⟨k,n,rfl,d,N⟩:=hrel;obtain _|g:=gk
 .have A:¬(k:J)<K B:=AY<|AE n;have c:D<|IE B=AR ((K B:J)<=8):=by grind [D,IE]
  go_wp2;go_ret;exact⟨by rw[AE c];rfl,d⟩
 have A:(k:J)<K B:=AY<|AE n;obtain⟨b,off,rfl,Q,l⟩:=(p.ac d).a0 k E;have z:=l k E;have L:D<|B.getD k 0=B[k]:=B9;have S:(0:J)<=k:=E;rcases VN k with o|o
 .subst o;rw[Nat.add_zero]at z;have q:D<|PV B 0=AR (1<=B[0]/\B[0]<=65536):=by grind [PV]
  generalize B[0]=x at *;by_cases f:x<1
  .have c:D<|IE B=AQ:=kft;go_wp2
   go_quiet (fail)
   go_wp2;go_ret;exact⟨by rw[AE c];rfl,Ny d⟩
  have r:=FO f;by_cases h:65536<x
  .have c:D<|IE B=AQ:=kft;go_wp2
   go_quiet (fail)
   go_wp2;go_ret;exact⟨by rw[AE c];rfl,Ny d⟩
  have s:=FO h;go_wp2
  go_quiet (fail)
  go_wp2;go_roundg g
  .refine⟨0+1,B9,Bb,Ny d,λi m=>?_⟩;grind [D]
  omega
 obtain⟨j,rfl⟩:∃j,k=j+1:=⟨k-1,E⟩
 have R:=l j E;have q:D<|PV B (j+1)=AR (1<=B[j+1]/\B[j+1]<=65536/\B[j]<B[j+1]):=by grind [PV]
 generalize B[j+1]=x at *;generalize B[j]=y at *;by_cases f:x<1
 .have c:D<|IE B=AQ:=kft;go_wp2
  go_quiet (fail)
  go_wp2;go_ret;exact⟨by rw[AE c];rfl,Ny d⟩
 have r:=FO f;by_cases h:65536<x
 .have c:D<|IE B=AQ:=kft;go_wp2
  go_quiet (fail)
  go_wp2;go_ret;exact⟨by rw[AE c];rfl,Ny d⟩
 have s:=FO h;by_cases t:x<=y
 .have c:D<|IE B=AQ:=kft;go_wp2
  go_quiet (fail)
  go_wp2;go_ret;exact⟨by rw[AE c];rfl,Ny d⟩
 have P:=FO t;go_wp2
 go_quiet (fail)
 go_wp2;go_roundg g
 .refine⟨j+1+1,B9,Bb,Ny d,λi m=>?_⟩;grind [D]
 omega
def IF(L:AJ<|AI×AI):AJ Aq:=L.flatMap λe=>[Ab Al e.1,Ab Al e.2]
def Es(L:AJ<|AI×AI):A3:=Aw<|IF L
theorem Rh(L:AJ<|J×J):K (IF L)=K L*2:=by induction L<;>grind [IF]
theorem Tc(L:AJ<|J×J):(Es L).size=K L*2:=by simp[Es,Rh]
theorem Wu:∀(L:AJ<|J×J) (i:I) (h:i<K L),(IF L)[i*2]?=H (C Y L[i].1)/\(IF L)[i*2+1]?=H (C Y L[i].2)
 |[],i,h=>BB
 |e::L,0,_=>⟨rfl,rfl⟩
 |e::L,i+1,h=>by have a:=Wu L i Bu;grind [IF]
theorem Nz(L:AJ<|J×J)(i:I)(h:i<K L):(Es L)[i*2]?=H (C Y L[i].1)/\(Es L)[i*2+1]?=H (C Y L[i].2):=by grind [Es,Wu]
theorem aX{x:J}(h:i<K L):Ay (Ay (Es L) (i*2)<|C Y x) (i*2+1) (C Y y)=Es (L.set i (x,y)):=by
 apply OB;intro k;rw[PJ,PJ];simp only[VC,Tc];have key:k=(k/2)*2\/k=(k/2)*2+1:=E;by_cases a:k/2<K L
 .have b:=Nz L _ a;have c:=Nz (L.set i (x,y)) _ Bl;grind
 grind [Tc]
theorem oh(n:I):madeCells #[C Y 0,C Y 0] (n*2)=Es (AV n (0,0)):=by
 apply OB;intro k;by_cases a:k<n*2
 .have g:=Nz (AV n (0,0)) (k/2) B7;grind [madeCells]
 grind [size_madeCells,Tc]
theorem oj(A B:AJ<|J×J):IF (A++B)=IF A++IF B:=by simp[IF]
def om(L:AJ<|J×J):∀v,v∈IF L->v.oneCell'=AP:=by intro v b;simp only[IF,az]at b;obtain⟨e,_,a⟩:=b;simp only[Iz,Ms,Mx]at a;rcases a with rfl|rfl<;>rfl
def ET(B:AJ AI):A3:=Aw<|B.map λx=>Ab Al x
theorem aY(B:AJ J):(ET B).size=K B:=by simp[ET]
theorem Td(h:i<K B):(ET B)[i]?=H (C Y B[i]):=by simp[ET,h]
def aZ(B:AJ J)(i:I)(x:J):Ay (ET B) i (C Y x)=ET (B.set i x):=by apply PR;simp[ET,List.map_set]
theorem oo(n:I):madeCells #[C Y 0] n=ET (AV n 0):=by apply OB;grind [Td,madeCells,aY]
theorem Wv{a:Act}{d s:Operand}{dT:AN}(p:AN)(S:o.op=.call {callee:=.builtin .copy,args:=#[d,s],argTypes:=#[dT,p]})(F:o.guard=Ao){elem:AN}(m:P.underlying dT=H (.slice elem))(z:I)(l:(P.info? elem).map (·.size)=H z)(b k:I){sp:A4}(c n:I)(y:a.eval d=G (Aa g) b k)(W:a.eval s=G sp c n)(B:w.heap[g]?=H (M cur t (0,0))){cs:AJ Aq}(R:K cs=Nat.min c b*z)(i:sp=Ao->Nat.min c b=0)(aa:∀e,sp=H e->∀j v,cs[j]?=H v->AC w (e.add j)=H v)(A:K cs<=cur.size)(r:∀v∈cs,v.oneCell'=AP)(h:wpList P ops Q rest (a.put o.dst<|goInt<|Nat.min c b)<|AD w g<|Aw<|cs++cur.toList.drop (K cs)):wpList P ops Q (o::rest) a w:=by
 refine LP F λac u=>?_;have f:=run_storeCells_at P g 0 t cs 0 cur w B keH r;simp only[Gf,ST,K9]at f;have V:(Builtin.copy_ #[dT,p] o.type #[G (Aa g) b k,G sp c n]).run P w=.ok (goInt<|Nat.min c b) (AD w g<|Aw<|cs++cur.toList.drop (K cs)):=by
  rcases hq:P.info? elem with _|ab
  .simp[hq]at l
  have L:ab.size=z:=by simpa[hq]using l
  obtain _|e:=sp
  .have q:=i Z;have x:cs=[]:=Bv;subst x;simp[Builtin.copy_,Mu m,Builtin.lenOf,Builtin.firstCells,sizeOf,typeInfo,hq,q,f]
  have N:=VO (P:=P) w e cs<|aa e Z;simp[Builtin.copy_,Mu m,Builtin.lenOf,Builtin.firstCells,sizeOf,typeInfo,hq,L,<-R,N,f]
 unfold Oper.wp;simp[execOp,S,resolve,invoke,builtin,y,W,V,Result.andThen];exact u _ _ h
def Ej(k:AH):AJ<|AI×AI:=AV k (77,77)++AV (8-k) (0,0)
def F3(k:AH):AJ AI:=AV k 77++AV (8-k) 0
theorem oq:Ej 0=AV 8 (0,0):=rfl
theorem be(k:I)(h:k<=8):K (Ej k)=8:=by simp[Ej];omega
theorem bf(k:I)(h:k<=8):K (F3 k)=8:=by simp[F3];omega
theorem ot(k:I)(h:k<8):(Ej k).set k (77,77)=Ej (k+1):=by have:k=0\/k=1\/k=2\/k=3\/k=4\/k=5\/k=6\/k=7:=E;rcases this with rfl|rfl|rfl|rfl|rfl|rfl|rfl|rfl<;>rfl
theorem ou(k:I)(h:k<8):(F3 k).set k 77=F3 (k+1):=by have:k=0\/k=1\/k=2\/k=3\/k=4\/k=5\/k=6\/k=7:=E;rcases this with rfl|rfl|rfl|rfl|rfl|rfl|rfl|rfl<;>rfl
theorem ox{α:Type}(L R:AJ α)(k:I)(x:α):(L++R).set (K L+k) x=L++R.set k x:=B9
def FQ:A3:=#[Ab Al 0,Ac Ao 0 0,Ab Al 0,.string ByteArray.empty,Ab Al 0,Ab Al 0,Ab Al 0,Ab Al 0,Ab Al 0,Ab Al 0,Ac Ao 0 0]
def oy(a:o.op=.alloc 40):(execOp ρ o).run As w=.ok (.value<|A8<|O<|U w) (Az w<|M FQ 40):=BL
def Ww{a:Act}(e:o.guard=Ao)(f:o.op=.alloc 40){d:Option Tmp}(c:o.dst=d)(N:I)(b:O (U w)=N)(h:wpList As ops Q rest (a.put d<|A8 N)<|Az w<|M FQ 40):wpList As ops Q (o::rest) a w:=by subst b;exact R7 e d c _ _ (oy f) h
def oz(h:(n+8)*16<=281474976710656)(w:X):(Instr.makeSlice 38 (C Y<|(n:J)+8)<|C Y<|(n:J)+8).run As w=.ok (G (Aa<|O<|U w) (n+8)<|n+8) (Az w<|M (Es<|AV (n+8) (0,0)) 119):=by obtain⟨i,c,a⟩:=Ov.1 (show(prog.info? 119).map (λi=>(i.zero,i.size,i.bytes))=H (H<|Ag #[C Y 0,C Y 0],2,16) by kernel_rfl);simp only[LO]at a;obtain⟨f,d,b⟩:=a;have:=T8 w 38 119 i _ underlying38 c f Y Y _ (n+8) E (OH _) kfN E;rw[this,d];have e:((n:J)+8).toNat=n+8:=E;rw[e];show Result.ok _ (Az w<|M (madeCells #[C Y 0,C Y 0]<|(n+8)*2) _)=_;rw[oh]
def oA(h:(n+8)*8<=281474976710656)(w:X):(Instr.makeSlice 25 (C Y<|(n:J)+8)<|C Y<|(n:J)+8).run As w=.ok (G (Aa<|O<|U w) (n+8)<|n+8) (Az w<|M (ET<|AV (n+8) 0) 3):=by obtain⟨i,c,a⟩:=Ov.1 (show(prog.info? 3).map (λi=>(i.zero,i.size,i.bytes))=H (H<|C Y 0,1,8) by kernel_rfl);simp only[LO]at a;obtain⟨f,d,b⟩:=a;have:=T8 w 25 3 i _ underlying25 c f Y Y _ (n+8) E (OH _) kfN E;rw[this,d];have e:((n:J)+8).toNat=n+8:=E;rw[e,T0];show Result.ok _ (Az w<|M (madeCells #[C Y 0]<|n+8) _)=_;rw[oo]
structure J2(w W:Ap)(arr:A3)(E:AJ (AI×AI))(I:AJ AI):Prop where
 ac:A0 w W
 h:W.heap[Au (Av w)]?=An (Aj arr 40)
 a:W.heap[Au (Av w)+1]?=An (Aj FQ 40)
 e:W.heap[Au (Av w)+1+1]?=An (Aj (Es E) 119)
 b:W.heap[Au (Av w)+1+1+1]?=An (Aj (ET I) 3)
theorem J2.setE{arr:A3}{E:AJ<|J×J}{I:AJ J}(h:J2 w W arr E I)(i:AH)(x y:J)(hi:i<K E):J2 w (AB (AB W ⟨O (U w)+1+1,i*2,Ao⟩<|C Y x) ⟨O (U w)+1+1,i*2+1,Ao⟩<|C Y y) arr (E.set i (x,y)) I:=by
 refine⟨(h.ac.setCell B9 _).setCell B9 _,?_,?_,?_,?_⟩
 .rw[CY _ _ _ _ B9,CY _ _ _ _ B9];exact h.h
 .rw[CY _ _ _ _ Ba,CY _ _ _ _ Ba];exact h.a
 .rw[DX _ _ _ _ _ _<|DX _ _ _ _ _ _ h.e,aX hi]
 rw[CY _ _ _ _ Ba,CY _ _ _ _ Ba];exact h.b
theorem JA(b off j:I):(⟨b,off,Ao⟩:Addr).add j=⟨b,off+j,Ao⟩:=C2
theorem oB(h:G0 W ea L):∀a,ea=H a->∀j v,(IF L)[j]?=H v->AC W (a.add j)=H v:=by intro a d j v e;have f:=Dk e;rw[Rh]at f;obtain⟨b,off,c,_,i,k⟩:=h.a0 (j/2) E;rw[d]at c;cases c;rw[JA];have g:=Wu L (j/2) E;grind
theorem oC(h:G3 W ba B):∀a,ba=H a->∀j v,(B.map λx=>Value.int Y x)[j]?=H v->AC W (a.add j)=H v:=by intro a f j v g;have c:j<K B:=B9;obtain⟨b,off,e,_,d⟩:=h.a0 j c;grind [JA]
theorem oD(L:AJ<|J×J):Aw (IF L++(Es<|AV (K L+8) (0,0)).toList.drop (K<|IF L))=Es (L++Ej 0):=by
 have e:AV (K L+8) ((0,0):J×J)=AV (K L) (0,0)++AV 8 (0,0):=by rw[VA]
 grind [Es,oj,oq,Rh]
theorem oE(B:AJ J):Aw ((B.map λx=>Value.int Y x)++(ET<|AV (K B+8) 0).toList.drop (K<|B.map λx=>Value.int Y x))=ET (B++F3 0):=by grind [ET,F3]
theorem J2.setI{arr:A3}{E:AJ<|J×J}{I:AJ J}(h:J2 w W arr E I)(i:AH)(x:J):J2 w (AB W ⟨O (U w)+1+1+1,i,Ao⟩<|C Y x) arr E<|I.set i x:=by
 refine⟨h.ac.setCell B9 _,?_,?_,?_,?_⟩
 .rw[CY _ _ _ _ B9];exact h.h
 .rw[CY _ _ _ _ B9];exact h.a
 .rw[CY _ _ _ _ Ba];exact h.e
 rw[DX _ _ _ _ _ _ h.b,aZ]
theorem oF(w:X)(arr:A3)(a:AJ<|J×J)(b:AJ J):J2 w (Az (Az (Az (Az w<|M arr 40)<|M FQ 40)<|M (Es a) 119)<|M (ET b) 3) arr a b:=by refine⟨(((Cm).alloc Ba _).alloc BH _).alloc BH _,?_,?_,?_,?_⟩<;>grind [Below.heap_alloc,Cj,World.size_alloc]
def J2.aq{arr:A3}{E:AJ<|J×J}{I:AJ J}(h:J2 w W arr E I)(j:AH)(v:Aq):J2 w (AB W ⟨O<|U w,j,Ao⟩ v) (Ay arr j v) E I :=
 ⟨h.ac.setCell (Cr _) _,DX _ _ _ _ _ _ h.h,Ca (CY _ _ _ _ Ba) h.a,Ca (CY _ _ _ _ B7) h.e,Ca (CY _ _ _ _ B7) h.b⟩
structure PW(w W:Ap)(E:AJ (AI×AI))(I:AJ AI):Prop where
 ac:A0 w W
 e:W.heap[Au (Av w)+1+1]?=An (Aj (Es E) 119)
 b:W.heap[Au (Av w)+1+1+1]?=An (Aj (ET I) 3)
def J2.ai{w W:Ap}{arr:A3}{E:AJ<|J×J}{I:AJ J}(h:J2 w W arr E I)(X:A3):PW w (AD W (O (U w)+1) X) E I :=
 ⟨Dq h.ac B5,Ca (Wr B5) h.e,Ca (Wr B5) h.b⟩
theorem Te{arr:A3}(h:arr.all (·.oneCell')=AP)(j:I)(a:v.oneCell'=AP):(Ay arr j v).all (·.oneCell')=AP:=B9
def PX{X:A3}(h:X.size=11):FQ.size=X.size:=keS
def Wx(arr:A3)(w:Ap)(ea ba:A4)(n m:AH):A3 :=
 (if ba.isSome then Ay (if ea.isSome then Ay arr 1 (Ac (Aa<|Au (Av w)+1+1) n<|n+8)else arr) 10 (Ac (Aa<|Au (Av w)+1+1+1) m<|m+8)
 else(if ea.isSome then Ay arr 1 (Ac (Aa<|Au (Av w)+1+1) n<|n+8)else arr))
theorem oG{arr:A3}(F:arr.size=11)(A:arr.all (·.oneCell')=AP)(f1:arr[1]?=H (G ea (K L) ecap))(f10:arr[10]?=H (G ba (K B) bcap))(y:ea=Ao->K L=0/\ecap=0)(u:ba=Ao->K B=0/\bcap=0)(hL:(K L+8)*16<=281474976710656)(hB:(K B+8)*8<=281474976710656)(s:G0 w ea L)(t:G3 w ba B):Ar As 25 #[.agg arr] w λe w'=>e=Ak (.agg<|Wx arr w ea ba (K L)<|K B)/\PW w w' (L++Ej 8) (B++F3 8):=by
 have q:D<|G0 (Az (Az (Az w<|M arr 40)<|M FQ 40)<|M (Es<|AV (K L+8) (0,0)) 119) ea L:=s.ac<|((Cm).alloc Ba _).alloc BH _;have r:D<|G3 (Az (Az (Az (Az w<|M arr 40)<|M FQ 40)<|M (Es<|L++Ej 0) 119)<|M (ET<|AV (K B+8) 0) 3) ba B:=t.ac<|(((Cm).alloc Ba _).alloc BH _).alloc BH _;clear s t;have ac:=oz hL;have ad:=oA hB;have S:=T F;have h:=T A;have af:=T y;have ae:=T u;clear F A y u;have o:D<|(Az (Az (Az w<|M arr 40)<|M FQ 40)<|M (Es<|AV (K L+8) (0,0)) 119).heap[O (U w)+1+1]?=H (M (Es<|AV (K L+8) (0,0)) 119):=by grind [D,Cj,World.size_alloc]
 have p:D<|(Az (Az (Az (Az w<|M arr 40)<|M FQ 40)<|M (Es<|L++Ej 0) 119)<|M (ET<|AV (K B+8) 0) 3).heap[O (U w)+1+1+1]?=H (M (ET<|AV (K B+8) 0) 3):=kfo;have m:D ((Az (Az (Az w<|M arr 40)<|M FQ 40)<|M (Es<|AV (K L+8) (0,0)) 119).setRow (O (U w)+1+1) (Aw<|IF L++(Es<|AV (K L+8) (0,0)).toList.drop (K<|IF L)) =
   Az (Az (Az w<|M arr 40)<|M FQ 40) (M (Es<|L++Ej 0) 119)):=by
  grind [D,oD,World.setRow_alloc_new,World.size_alloc]
 have n:D ((Az (Az (Az (Az w<|M arr 40)<|M FQ 40)<|M (Es<|L++Ej 0) 119)<|M (ET<|AV (K B+8) 0) 3).setRow (O (U w)+1+1+1) (Aw<|(B.map λx=>Value.int Y x)++(ET<|AV (K B+8) 0).toList.drop (K<|B.map λx=>Value.int Y x)) =
   Az (Az (Az (Az w<|M arr 40)<|M FQ 40)<|M (Es<|L++Ej 0) 119) (M (ET<|B++F3 0) 3)):=by
  show _=_;rw[oE];grind [World.setRow_alloc_new,World.size_alloc]
 have V:=T<|oF w arr (L++Ej 0)<|B++F3 0;go_enter func25,ntmps25
 go_wp2_with(first
  |(refine Ww Z Z Z (O (U w)+1) ?hN ?_;case hN=>grind [World.size_alloc])
  |(refine Wv 38 Z Z underlying38 2 B6 (K L+8) (K L+8) (K L) ecap Z Z o.out ?hn ?h1 (oB q) ?h2 (om L) ?_;(case hn=>grind [Rh]);(case h1=>grind [D]);(case h2=>grind [Rh,Tc]);rw[AE m])
  |(refine Wv 25 Z Z underlying25 1 B6 (K B+8) (K B+8) (K B) bcap Z Z p.out ?hn ?h1 (oC r) ?h2 ?h3 ?_;(case hn=>grind);(case h1=>grind [D]);(case h2=>(rw[LN,aY];simp));(case h3=>(intro aq hv;obtain⟨x,_,rfl⟩:=Kw.1 hv;rfl));rw[AE n]))
 clear ac ad o p m n q r;generalize Az (Az (Az (Az w<|M arr 40)<|M FQ 40)<|M (Es<|L++Ej 0) 119) (M (ET<|B++F3 0) 3)=W0 at *
 go_loopg[7] 8 (λg x wr=>∃k:I,D (k+g=8)/\x=C Y k/\D (J2 w wr arr (L++Ej k)<|B++F3 k))
 grind [D];clear V;obtain⟨k,l,rfl,d⟩:=hrel;obtain _|g:=gk
 .have ab:¬(k:J)<8:=AY<|AE l;have v:k=8:=AY<|AE l;subst v;have aa:=Ca (Cc d.h 1) f1;have ah:=Ca (Cc d.h 10) f10;have ao:=λw=>ZX w 38 _ ea (K L) ecap 0 0 underlying38;have ap:=λw=>ZX w 25 3 ba (K B) bcap 0 0 underlying25;have am:=λj=>Dy wr _ j _ _ d.h;obtain _|ag:=ea
  .obtain _|W:=ba
   .have a:=T d.out;have c:D _:=S;have f:D _:=h
    go_wp2_with(first
     |(refine CO Z 40 _ Z _ Z _ _ _ _ a.h underlying40 Z (DC c) ?_)
     |(refine D8 Z 40 _ _ Z (O (U w)+1) _ Z Z 40 FQ a.a (DC c) (PX c) f ?_))
    exact CS (La results25 _ _ _ 40 _ _ _ Z (CR _ _ FQ _ _ _ a.a) underlying40 Z<|DC c) Z ⟨Z,a.ai _⟩
   have a:D<|J2 w _ (Ay arr 10<|G (Aa<|O (U w)+1+1+1) (K B)<|K B+8) _ _:=d.aq 10 _;have c:D<|Array.size ((Ay arr 10<|G (Aa<|O (U w)+1+1+1) (K B)<|K B+8))=11:=B9;have f:D<|Array.all ((Ay arr 10<|G (Aa<|O (U w)+1+1+1) (K B)<|K B+8)) _=AP:=Te h 10 Z
   go_wp2_with(first
    |(refine CO Z 40 _ Z _ Z _ _ _ _ a.h underlying40 Z (DC c) ?_)
    |(refine D8 Z 40 _ _ Z (O (U w)+1) _ Z Z 40 FQ a.a (DC c) (PX c) f ?_))
   exact CS (La results25 _ _ _ 40 _ _ _ Z (CR _ _ FQ _ _ _ a.a) underlying40 Z<|DC c) Z ⟨Z,a.ai _⟩
  obtain _|W:=ba
  .have a:D<|J2 w _ (Ay arr 1<|G (Aa<|O (U w)+1+1) (K L)<|K L+8) _ _:=d.aq 1 _;have c:D<|Array.size ((Ay arr 1<|G (Aa<|O (U w)+1+1) (K L)<|K L+8))=11:=B9;have f:D<|Array.all ((Ay arr 1<|G (Aa<|O (U w)+1+1) (K L)<|K L+8)) _=AP:=Te h 1 Z
   go_wp2_with(first
    |(refine CO Z 40 _ Z _ Z _ _ _ _ a.h underlying40 Z (DC c) ?_)
    |(refine D8 Z 40 _ _ Z (O (U w)+1) _ Z Z 40 FQ a.a (DC c) (PX c) f ?_))
   exact CS (La results25 _ _ _ 40 _ _ _ Z (CR _ _ FQ _ _ _ a.a) underlying40 Z<|DC c) Z ⟨Z,a.ai _⟩
  have a:D<|J2 w _ (Ay (Ay arr 1<|G (Aa<|O (U w)+1+1) (K L)<|K L+8) 10<|G (Aa<|O (U w)+1+1+1) (K B)<|K B+8) _ _:=(d.aq 1 _).aq 10 _;have c:D<|Array.size ((Ay (Ay arr 1<|G (Aa<|O (U w)+1+1) (K L)<|K L+8) 10<|G (Aa<|O (U w)+1+1+1) (K B)<|K B+8))=11:=B9;have f:D<|Array.all ((Ay (Ay arr 1<|G (Aa<|O (U w)+1+1) (K L)<|K L+8) 10<|G (Aa<|O (U w)+1+1+1) (K B)<|K B+8)) _=AP:=Te (Te h 1 Z) 10 Z
  go_wp2_with(first
   |(refine CO Z 40 _ Z _ Z _ _ _ _ a.h underlying40 Z (DC c) ?_)
   |(refine D8 Z 40 _ _ Z (O (U w)+1) _ Z Z 40 FQ a.a (DC c) (PX c) f ?_))
  exact CS (La results25 _ _ _ 40 _ _ _ Z (CR _ _ FQ _ _ _ a.a) underlying40 Z<|DC c) Z ⟨Z,a.ai _⟩
 have an:k<8:=AY<|AE l;have ab:(k:J)<8:=E;have i:K L+k<K (L++Ej k):=by grind [be]
 have z:K B+k<K (B++F3 k):=by grind [bf]
 obtain⟨N,aa⟩:∃N,AC wr _=H N:=⟨_,Ca (Cc d.e _) (Nz _ _ i).1⟩
 obtain⟨P,ai⟩:∃P,AC wr _=H P:=⟨_,Ca (Cc d.e _) (Nz _ _ i).2⟩
 obtain⟨Q,aj⟩:∃Q,AC wr _=H Q:=⟨_,Ca (Cc d.b _)<|Td z⟩
 have ak:=λj=>Dy wr _ j _ _ d.e;have al:=λj=>Dy wr _ j _ _ d.b;have R:=T i;clear i z;go_wp2;go_roundg g
 .refine⟨k+1,B9,Bb,?_⟩;have h1:=(d.setE _ 77 77 R).setI (K B+k) 77;grind [D,ot,ou]
 omega
def Lg(D:AJ<|AI×AI)(k:AH):AJ<|AI×AI:=AV k (0,0)++D.drop k
theorem Wy(D:AJ<|J×J)(k:I)(h:k<=K D):K (Lg D k)=K D:=by simp[Lg];omega
theorem oH{D:AJ<|J×J}(h:k<K D):(Lg D k)[k]'(by grind [Wy])=D[k]:=by grind [Lg]
theorem oI{D:AJ<|J×J}(h:k<K D):(Lg D k).set k (0,0)=Lg D (k+1):=by unfold Lg;have a:(AV k (0,0)++D.drop k).set k (0,0)=AV k (0,0)++(D.drop k).set 0 (0,0):=Ba;grind [List.drop_eq_getElem_cons,List.replicate_succ']
theorem oJ:F3 8=AV 8 77:=rfl
theorem oK:Ej 8=AV 8 (77,77):=rfl
def LT(D:AJ AI)(k:AH):AJ AI:=AV k 1++D.drop k
theorem bg(D:AJ J)(k:I)(h:k<=K D):K (LT D k)=K D:=by simp[LT];omega
theorem oL{D:AJ J}(h:k<K D):(LT D k)[k]'(by grind [bg])=D[k]:=by grind [LT]
theorem oM{D:AJ J}(h:k<K D):(LT D k).set k 1=LT D (k+1):=by unfold LT;have a:(AV k 1++D.drop k).set k 1=AV k 1++(D.drop k).set 0 1:=Ba;grind [List.drop_eq_getElem_cons,List.replicate_succ']
theorem Tf(w:X)(b:I):w.grownBy w<|H b:=⟨rfl,rfl,rfl,Cr _,λ_ _ _=>rfl⟩
def Wz{a:X}(h:a.grownBy w<|H b)(k:w.grownBy w'<|H b):a.grownBy w' (H b) :=
 ⟨Ca k.os h.os,Ca k.tape h.tape,Ca k.output h.output,CE h.size k.size,λi c d=>Ca (k.block i (CQ c h.size) d)<|h.block i c d⟩
def bh{a:X}(h:a.grownBy w<|H b){o:Obj}:a.grownBy (Az w o) (H b) :=
 Wz h ⟨rfl,rfl,rfl,Ba,λk c _=>CB _ _ _ c⟩
def bj{a:X}(h:a.grownBy w<|H b):a.grownBy (w.drewN n)<|H b:=Wz h ⟨rfl,rfl,rfl,Cr _,λ_ _ _=>rfl⟩
def PY{a:X}(h:a.grownBy w<|H b){o:I}:a.grownBy (AB w ⟨b,o,Ao⟩ v) (H b) :=
 Wz h ⟨rfl,rfl,rfl,Bd,λk _ c=>CY _ _ _ _ λe=>c<|by rw[e]⟩
def Ri{a:X}(h:a.grownBy w<|H b){B:I}(c:B<=b)(e:B<=O (U a)):Below B a w :=
 ⟨h.os,h.tape,h.output,h.size,λk d=>h.block k E B7⟩
theorem oN(B:AJ J)(ba:A4)(n:I)(a:I)(W:K B+8<=9223372036854775807)(j w:X)(u:G3 j ba B)(hb:A0 j w)(R:O (U j)<=a)(A:ba.isSome=AP)(S:A7 w a (ET<|B++F3 8) 3):Ar As 66 #[G (Aa a) (K B)<|K B+8,G ba (K B) n] w λe V=>e=Ak (Ah AP)/\w.grownBy V (H a):=by
 have q:=T u;have l:=T hb;have d:D<|A7 w a (ET<|LT (B++F3 8) 0) 3:=S;obtain⟨s,rfl⟩:=ZV.1 A;have aa:=λw=>Mn w 25 3 (H s) (K B) n 0 0 underlying25;have Q:K (B++F3 8)=K B+8:=by grind [bf]
 have r:=T Q;go_enter func66,ntmps66;go_wp2
 go_loopg[8,7,9] (K B+8) (λg x y ab wr=>∃k:I,D (k+g=K B+8)/\x=C Y k/\y=Ah AP/\D (w.grownBy wr<|H a)/\D (A7 wr a (ET<|LT (B++F3 8) k) 3))
 grind [D,Tf];obtain⟨k,p,rfl,rfl,c,d⟩:=hrel;obtain _|g:=gk
 .have P:¬(k:J)<K B+8:=AY<|AE p;go_wp2;go_ret;exact⟨Z,c⟩
 have P:(k:J)<K B+8:=AY<|AE p;have h:k<K (B++F3 8):=by rw[AE r];omega
 have f:=Ca (Cc d k) (Td<|by grind [bg]);rw[oL h]at f;have hf:=Dy wr a k _ _ d;have m:D<|(AB wr ⟨a,k,Ao⟩<|C Y 1).heap[a]?=H (M (ET<|LT (B++F3 8)<|k+1) 3):=by show _=_;rw[DX _ _ _ _ _ _ d,aZ,oM h]
 by_cases i:k<K B
 .have N:(k:J)<K B:=E;obtain⟨b,off,L,z,o⟩:=(q.ac<|Cs l<|Ri c R l.size).a0 k i;cases L;have F:=o k i;rw[Ou i]at f;generalize B[k]=v at f F;clear o h;go_wp2;go_roundg g;exact⟨_,B9,Bb,Ba,PY c,m⟩;omega
 have N:¬(k:J)<K B:=E;have t:(B++F3 8)[k]=77:=by grind [oJ]
 rw[t]at f;go_wp2;go_roundg g;exact⟨_,B9,Bb,Ba,PY c,m⟩;omega
theorem oO(L:AJ<|J×J)(f:A4)(r:I)(a:I)(hB:K L+8<=9223372036854775807)(m w:X)(Q:G0 m f L)(hb:A0 m w)(j:O (U m)<=a)(R:f.isSome=AP)(x:A7 w a (Es<|L++Ej 8) 119):Ar As 65 #[G (Aa a) (K L)<|K L+8,G f (K L) r] w λe w'=>e=Ak (Ah AP)/\w.grownBy w' (H a):=by
 have B:=T Q;have n:=T hb;have c:D<|A7 w a (Es<|Lg (L++Ej 8) 0) _:=x;obtain⟨N,rfl⟩:=ZV.1 R;have ah:=λw=>Mn w 38 _ (H N) (K L) r 0 0 underlying38;have z:K (L++Ej 8)=K L+8:=by grind [be]
 have F:=T z;go_enter func65,ntmps65;go_wp2
 go_loopg[8,7,9] (K L+8) (λg aa ab ai wr=>∃k:I,D (k+g=K L+8)/\aa=C Y k/\ab=Ah AP/\D (w.grownBy wr<|H a)/\D (A7 wr a (Es<|Lg (L++Ej 8) k) 119))
 grind [D,Tf];obtain⟨k,s,rfl,rfl,d,c⟩:=hrel;have S:=Cd c;obtain _|g:=gk
 .have b:¬(k:J)<K L+8:=AY<|AE s;go_wp2;go_ret;exact⟨Z,d⟩
 have b:(k:J)<K L+8:=AY<|AE s;have t:k<K (L++Ej 8):=by rw[AE F];omega
 have h:=Nz (Lg (L++Ej 8) k) k (by grind [Wy]);rw[oH t]at h;have i:=Ca (Cc c _) h.1;have l:=Ca (Cc c _) h.2;have hf:=λy=>Dy wr a y _ _ c;have p:D (∀o q,((((Az wr o).drewN q).setCell ⟨a,k*2,Ao⟩<|C Y 0).setCell ⟨a,k*2+1,Ao⟩<|C Y 0).heap[a]?=H (M (Es<|Lg (L++Ej 8)<|k+1) 119)):=by intro o q;rw[DX _ _ _ _ _ _<|DX ((Az wr o).drewN q) _ _ _ _ _<|Ca (CB wr o _ S) c,aX<|by grind [Wy],oI t]
 by_cases A:k<K L
 .have W:(k:J)<K L:=E;obtain⟨ac,off,V,ae,af,ag⟩:=(B.ac<|Cs n<|Ri d j n.size).a0 k A;cases V;rw[Ou A]at i l;generalize L[k].1=v at *;generalize L[k].2=u at *;go_wp2
  go_quiet (fail)
  go_wp2;go_roundg g;exact⟨_,B9,Bb,Z,PY<|PY<|bj<|bh d,p _ _⟩;omega
 have W:¬(k:J)<K L:=E;have P:(L++Ej 8)[k]=(77,77):=by grind [oK]
 rw[P]at i l;dsimp only at i l;go_wp2
 go_quiet (fail)
 go_wp2;go_roundg g;exact⟨_,B9,Bb,Z,PY<|PY<|bj<|bh d,p _ _⟩;omega
def oP:Ar As 65 #[v,G Ao n cap] w λe a=>e=Ak (Ah AP)/\a=w:=by have b:=λw=>Mn w 38 _ Ao n cap 0 0 underlying38;go_enter func65,ntmps65;go_wp2;go_ret;exact⟨Z,Z⟩
def oQ:Ar As 66 #[v,G Ao n cap] w λe a=>e=Ak (Ah AP)/\a=w:=by have b:=λw=>Mn w 25 3 Ao n cap 0 0 underlying25;go_enter func66,ntmps66;go_wp2;go_ret;exact⟨Z,Z⟩
theorem oR(a:I)(f:K L+8<=9223372036854775807)(d:G0 w0 ea L)(hb:A0 w0 w)(g:O (U w0)<=BE)(i:ea.isSome=AP->v=G (Aa BE) (K L) (K L+8))(h:A7 w BE (Es<|L++Ej 8) 119):Ar As 65 #[v,G ea (K L) a] w λe b=>e=Ak (Ah AP)/\w.grownBy b (H BE):=by
 obtain _|c:=ea
 .apply (oP).mono;grind [Tf]
 grind [oO]
theorem oS(a:I)(f:K B+8<=9223372036854775807)(d:G3 w0 ba B)(hb:A0 w0 w)(g:O (U w0)<=BE)(i:ba.isSome=AP->v=G (Aa BE) (K B) (K B+8))(h:A7 w BE (ET<|B++F3 8) 3):Ar As 66 #[v,G ba (K B) a] w λe b=>e=Ak (Ah AP)/\w.grownBy b (H BE):=by
 obtain _|c:=ba
 .apply (oQ).mono;grind [Tf]
 grind [oN]
theorem oT{arr:A3}{v1 v10:Aq}(f1:arr[1]?=H (G ea (K L) ecap))(f10:arr[10]?=H (G ba (K B) bcap))(R:oarr[1]?=H v1)(r:oarr[10]?=H v10)(y:K L+8<=9223372036854775807)(v:K B+8<=9223372036854775807)(u:G0 w0 ea L)(x:G3 w0 ba B)(hb:A0 w0 w)(A:ea.isSome=AP->v1=G (Aa<|O (U w0)+1+1) (K L) (K L+8))(F:ba.isSome=AP->v10=G (Aa<|O (U w0)+1+1+1) (K B) (K B+8))(h:A7 w (O (U w0)+1+1) (Es<|L++Ej 8) 119)(i:A7 w (O (U w0)+1+1+1) (ET<|B++F3 8) 3):Ar As 28 #[.agg oarr,.agg arr] w λe k=>e=Ak (Ah AP)/\Below (O<|U w0) w k/\∀j,j<O (U w)->j≠O (U w0)+1+1->j≠O (U w0)+1+1+1->k.heap[j]?=w.heap[j]?:=by
 have P:=Cd h;have Q:=Cd i;have f:Below _ w<|Az (Az w<|M oarr 40)<|M arr 40:=(Cm).alloc Ba _;have q:=oR ecap y u (Cs hb<|CG f hb.size) E A<|Ca (Co f _ P) h;have b:D<|O (U<|Az (Az w<|M oarr 40)<|M arr 40)=O (U w)+1+1:=BR;have o:D<|(Az (Az w _)<|M arr 40).heap[O<|U w]?=H (M oarr 40):=Ca (CB _ _ _ Ba)<|Cj _;have p:D<|(Az (Az w<|M oarr 40)<|M arr 40).heap[O (U w)+1]?=H (M arr 40):=kfo;have d:=T hb;have c:=T f;have l:=T x;have n:=T F;have m:=T i;go_enter func28,ntmps28
 go_wp2_with(first
  |(go_at_call 65;apply q.mono;rintro e W ⟨rfl,a⟩;have N:=a.size;rw[AE b]at N;have S:=Ca (Cc (Ca (a.block _ (by rw[AE b];omega) B7) o.out) 10) r;have V:=Ca (Cc (Ca (a.block _ (by rw[AE b];omega) B7) p.out) 10) f10;have c2:=oS bcap v l (Cs (Cs d<|CG c d.size)<|Ri a E<|by grind [D]) E n<|Ca (a.block _ (by rw[AE b];omega) Ba)<|Ca (Co c _ Q) m)
  |(go_at_call 66;apply c2.mono;rintro e w3 ⟨rfl,g⟩))
 go_ret;exact⟨Z,Cs (Cs (CG c d.size)<|Ri a E<|by grind [D])<|Ri g E E,λj z s t=>Ca (g.block j E kf5)<|Ca (a.block j (by rw[AE b];omega) keX)<|Co c j z⟩
def NA(B:AJ AI)(k:AI):AK:=B.any λx=>x==k
theorem oU{k:J}(n:K B<=maxLen)(m:G3 w a B):Ar As 5 #[G a (K B) cap,C Y k] w λe r=>e=Ak (Ah<|NA B k)/\r=w:=by
 unfold maxLen at n;have l:=T m;go_enter func5,ntmps5;go_wp2
 go_loopg[5] (K B) (λg x wr=>∃i:I,D (i+g=K B)/\x=C Y i/\w=wr/\D (∀j (h:j<K B),j<i->(B[j]==k)=AQ))
 grind [D];obtain⟨i,f,rfl,rfl,t⟩:=hrel;obtain _|g:=gk
 .have q:¬(i:J)<K B:=AY<|AE f;have d:D<|NA B k=AQ:=by grind [D,NA,List.getElem_of_mem]
  go_wp2;go_ret;exact⟨by rw[AE d];rfl,rfl⟩
 have q:(i:J)<K B:=AY<|AE f;obtain⟨b,off,rfl,z,p⟩:=l.a0 i E;have o:=p i E;have u:D<|B[i]∈B:=PQ _;have s:D (∀x,x=B[i]->∀(h:i<K B),(B[i]==k)=(x==k)):=λx c h=>by rw[c]
 obtain⟨x,c⟩:=IA<|B[i];have y:=T c;rw[<-c]at o;cases e:(x==k)
 .have v:=T e;go_wp2;go_roundg g
  .refine⟨i+1,B9,Bb,Z,λj h A=>?_⟩;grind [D]
  omega
 have d:D<|NA B k=AP:=by grind [NA]
 go_wp2;go_ret;exact⟨by rw[AE d];rfl,rfl⟩
structure CF where
 a:AI
 L:AJ (AI×AI)
 j:A4
 h:AH
 c:AI
 e:AT
 d:AI
 key:AI
 f:AI
 out:AI
 b:AI
 bytes:AI
 B:AJ AI
 i:A4
 g:AH
def CF.ai(c:CF):A3:=#[Ab Al c.a,Ac c.j (At c.L) c.h,Ab Al c.c,.string c.e,Ab Al c.d,Ab Al c.key,Ab Al c.f,Ab Al c.out,Ab Al c.b,Ab Al c.bytes,Ac c.i (At c.B) c.g]
def CF.size(c:CF):c.ai.size=11:=rfl
theorem CF.a0(c:CF):c.ai.all (·.oneCell')=AP:=by simp[CF.ai,Value.oneCell']
structure Fa(w:Ap)(c:CF):Prop where
 a:G0 w c.j c.L
 b:G3 w c.i c.B
 en:c.j=Ao->At c.L=0/\c.h=0
 bn:c.i=Ao->At c.B=0/\c.g=0
 eb:(At c.L+8)*16<=281474976710656
 bb:(At c.B+8)*8<=281474976710656
def Fa.ac{c:CF}(h:Fa w c)(hb:A0 w w'):Fa w' c:=⟨h.a.ac hb,h.b.ac hb,h.en,h.bn,h.eb,h.bb⟩
def CF.aq(c:CF)(w:Ap):CF :=
 {c with
  j:=if c.j.isSome then Aa (Au (Av w)+1+1)else c.j
  h:=if c.j.isSome then At c.L+8 else c.h
  i:=if c.i.isSome then Aa (Au (Av w)+1+1+1)else c.i
  g:=if c.i.isSome then At c.B+8 else c.g}
def CF.ac(c:CF)(w:X):(c.aq w).ai=Wx c.ai w c.j c.i (K c.L) (K c.B):=by unfold CF.aq CF.ai Wx;cases c.j<;>cases c.i<;>rfl
theorem bm{c:CF}(d:Fa w c)(h:PW w W (c.L++Ej 8)<|c.B++F3 8):Fa W<|c.aq w:=by
 have m:=Cd h.e;have n:=Cd h.b;refine⟨⟨λi a=>?_⟩,⟨λi a=>?_⟩,λf=>?_,λf=>?_,d.eb,d.bb⟩
 .have a:i<K c.L:=a;rcases he:c.j with _|k
  .have:=(d.en he).1;omega
  refine⟨_,0,by simp[CF.aq,he],m,?_,?_⟩
  .have g:=(Nz (c.L++Ej 8) i B9).1;rw[Ou a]at g;rw[Gf];exact Ca (Cc h.e _) g
  have g:=(Nz (c.L++Ej 8) i B9).2;rw[Ou a]at g;rw[Gf];exact Ca (Cc h.e _) g
 .have a:i<K c.B:=a;rcases he:c.i with _|k
  .have:=(d.bn he).1;omega
  refine⟨_,0,by simp[CF.aq,he],n,λj l=>?_⟩;have l:j<K c.B:=l;have g:=Td (B:=(c.B++F3 8)) (i:=j) B9;rw[Ou l]at g;rw[Gf];exact Ca (Cc h.b _) g
 .rcases he:c.j with _|k
  .have:=d.en he;refine⟨this.1,?_⟩;show(if c.j.isSome then K c.L+8 else c.h)=0;rw[he];exact this.2
  exfalso;have f:(if c.j.isSome then H _ else c.j)=Ao:=f;grind
 rcases he:c.i with _|k
 .have:=d.bn he;refine⟨this.1,?_⟩;show(if c.i.isSome then K c.B+8 else c.g)=0;rw[he];exact this.2
 exfalso;have f:(if c.i.isSome then H _ else c.i)=Ao:=f;grind
structure Hn(w:Ap):Prop where
 b:∃t fr,w.heap[2]?=An (Aj #[Ae ⟨#[42]⟩,Ab Al 0,Ae ⟨#[42,42]⟩,Ab Al 1,Ae ⟨#[91,93]⟩,Ab Al 2] t fr)
 a:Lib.Utf8Tabs 4 5 w
 c:∃m,AC w ⟨3,0,Ao⟩=An (Ab Al m)
def Hn.ac(h:Hn w)(hb:A0 w w'):Hn w':=by obtain⟨t,fr,a⟩:=h.b;obtain⟨m,b⟩:=h.c;exact⟨⟨t,fr,Ca (Co hb _<|Cd a) a⟩,Utf8Tabs_below h.a hb,⟨m,Ca (hb.cell<|Fk b) b⟩⟩
def bo(f:AH)(E N:CF->AI):Prop:=∀(c:CF) (w:Ap),Fa w c->Hn w->Ar As f #[.agg c.ai] w λe w'=>e=Ak (Af #[Ab Al<|E c,Ab Al<|N c])/\A0 w w'
def bq(E:CF->AI):Prop:=∀(c:CF) (w:Ap),E (c.aq w)=E c
def CF.f1(c:CF):c.ai[1]?=H (G c.j (K c.L) c.h):=rfl
def CF.a2(c:CF):c.ai[10]?=H (G c.i (K c.B) c.g):=rfl
def br{c:CF}(h:Fa w c):Ar As 25 #[.agg c.ai] w λe a=>e=Ak (.agg (c.aq w).ai)/\PW w a (c.L++Ej 8) (c.B++F3 8):=by rw[CF.ac];exact oG c.size c.a0 c.f1 c.a2 h.en h.bn h.eb h.bb h.a h.b
def bu{c:CF}(h:Fa w0 c)(hb:A0 w0 w)(d:A7 w (O (U w0)+1+1) (Es<|c.L++Ej 8) 119)(f:A7 w (O (U w0)+1+1+1) (ET<|c.B++F3 8) 3):Ar As 28 #[.agg (c.aq w0).ai,.agg c.ai] w λe b=>e=Ak (Ah AP)/\Below (O<|U w0) w b/\∀j,j<O (U w)->j≠O (U w0)+1+1->j≠O (U w0)+1+1+1->b.heap[j]?=w.heap[j]?:=by
 refine oT c.f1 c.a2 (c.aq w0).f1 (c.aq w0).a2 (AY h.eb) (AY h.bb) h.a h.b hb ?_ ?_ d f
 .intro a;show AX (if c.j.isSome then _ else _) (K c.L) (if c.j.isSome then _ else _)=_;rw[a];rfl
 intro a;show AX (if c.i.isSome then _ else _) (K c.B) (if c.i.isSome then _ else _)=_;rw[a];rfl
structure FR where
 f:AI
 a:AI
 b:AI
 c:AI
 d:AI
 s:AT
 g:A4
 e:AH
 h:AH
def FR.ai(o:FR):A3:=#[Ab Al o.f,Ab Al o.a,Ab Al o.b,Ab Al o.c,Ab Al o.d,.string o.s,Ac o.g o.e o.h]
structure Rj(w W:Ap)(c:CF)(oarr:A3)(N:AH)(W0:Ap):Prop where
 ac:A0 w W
 h:W.heap[Au (Av w)]?=An (Aj c.ai 40)
 op:W.heap[Au (Av w)+1]?=An (Aj oarr 34)
 aq:W.heap[N]?=An (Aj (c.aq W0).ai 40)
 e:W.heap[Au (Av W0)+1+1]?=An (Aj (Es (c.L++Ej 8)) 119)
 b:W.heap[Au (Av W0)+1+1+1]?=An (Aj (ET (c.B++F3 8)) 3)
 ai:A0 W0 W
 d:Au (Av w)+1<Au (Av W0)
def Rj.a0{c:CF}(h:Rj w W c oarr N W0)(hb:A0 W W'):Rj w W' c oarr N W0:=by have a:=Cd h.h;have d:=Cd h.op;have f:=Cd h.aq;have g:=Cd h.e;have i:=Cd h.b;exact⟨Cs h.ac<|CG hb h.ac.size,Ca (Co hb _ a) h.h,Ca (Co hb _ d) h.op,Ca (Co hb _ f) h.aq,Ca (Co hb _ g) h.e,Ca (Co hb _ i) h.b,Cs h.ai<|CG hb h.ai.size,h.d⟩
theorem oV{c:CF}(h:PW (Az (Az w<|M c.ai 40)<|M oarr 34) w2 (c.L++Ej 8)<|c.B++F3 8):Rj w (Az w2<|M (c.aq<|Az (Az w<|M c.ai 40)<|M oarr 34).ai 40) c oarr (O<|U w2)<|Az (Az w<|M c.ai 40)<|M oarr 34:=by
 have d:=h.ac.size;have i:=Cd h.e;have j:=Cd h.b;have a:Below _ w<|Az (Az w<|M c.ai 40)<|M oarr 34:=(Cm).alloc Ba _;have k:O (U<|Az (Az w<|M c.ai 40)<|M oarr 34)=O (U w)+1+1:=Ba;have f:(Az (Az w _)<|M oarr 34).heap[O<|U w]?=H (M c.ai 40):=Ca (CB _ _ _ Ba)<|Cj _;have g:(Az (Az w<|M c.ai 40)<|M oarr 34).heap[O (U w)+1]?=H (M oarr 34):=by grind [Cj]
 generalize Az (Az w<|M c.ai 40) (M oarr 34)=W0 at *;refine⟨(Cs a<|CG h.ac E).alloc E _,?_,?_,Cj _,Ca (CB _ _ _ i) h.e,Ca (CB _ _ _ j) h.b,h.ac.alloc d _,E⟩
 .rw[CB _ _ _ E,Co h.ac _ E];exact f
 rw[CB _ _ _ E,Co h.ac _ E];exact g
def bw{l:AJ Oper}{a:Act}(b:w'=w)(h:wpList P ops Q l a w'):wpList P ops Q l a w:=b▸h
def oW{c:CF}(h:Fa w c){x y:Obj}:Fa (Az (Az w x) y) c:=h.ac<|(Cm).alloc Ba _
def bz(f:AH)(T:CF->AI->AI->AK)(E:CF->AI->AI->AI):Prop:=∀(c:CF) (a b:AI) (w:Ap),Fa w c->Hn w->Ar As f #[.agg c.ai,Ab Al a,Ab Al b] w λe w'=>e=Ak (Af #[Ah<|T c a b,Ab Al<|E c a b])/\A0 w w'
def bB{α:Type}(E:CF->AI->AI->α):Prop:=∀(c:CF) (w:Ap) (a b:AI),E (c.aq w) a b=E c a b
structure OP(w:Ap)(a:A4)(n:AH)(g:AH->CF):Prop where
 a0:∀k,k<n->∃b off,a=An ⟨b,off,Ao⟩/\b<Au (Av w)/\∀k j,k<n->j<11->AC w ⟨b,off+k*11+j,Ao⟩=(g k).ai[j]?
 each:∀k,k<n->Fa w (g k)
def OP.ac{g:I->CF}(h:OP w a n g)(hb:A0 w w'):OP w' a n g :=
 ⟨λk c=>by obtain⟨b,off,f,d,e⟩:=h.a0 k c;exact⟨b,off,f,CQ d hb.size,λk j c i=>Ca (hb.cell d)<|e k j c i⟩,
 λk c=>(h.each k c).ac hb⟩
def Mz(c:AI)(n:AH):AH:=((if c<0 then -(c+1)else c)%(n:AI)).toNat
def bC(c:J)(h:1<=n):Mz c n<n:=by unfold Mz;have a:=nj (if c<0 then -(c+1)else c) (show(n:J)≠0 by omega);have b:=Int.emod_lt_of_pos (if c<0 then -(c+1)else c) (show(0:J)<n by omega);omega
theorem bD{c:J}(w:X)(g:1<=n)(d:n<=maxLen)(i : -9223372036854775808<=c)(j:c<=9223372036854775807):Ar As 11 #[C Y c,C Y n] w λe f=>e=Ak (C Y<|Mz c n)/\f=w:=by
 unfold maxLen at d;by_cases h:c<0
 .have a:D<|(Mz c n)=(-(c+1))%n:=by grind [D,Int.emod_nonneg,Mz,Int.toNat_of_nonneg]
  go_enter func11,ntmps11;go_wp2;go_ret;have b : -((c+1).tmod n)=(-(c+1))%n:=by rw[<-Int.neg_tmod,ZR E]
  exact⟨by rw[AE a,<-b];rfl,rfl⟩
 have a:D<|(Mz c n)=c%n:=by grind [D,Int.emod_nonneg,Mz,Int.toNat_of_nonneg]
 go_enter func11,ntmps11;go_wp2;go_ret;exact⟨by rw[AE a];rfl,rfl⟩
theorem wH{lo:J}(h:JM lo hi l j=AP):j<K l:=by grind [JM]
theorem ik{lo:J}:∀{g j:I},(J5 lo hi l g j).2=AP->j<=K l->(J5 lo hi l g j).1<=K l
 |0,_,_,hj=>hj
 |g+1,j,h,_=>by
  unfold J5 at h ⊢;by_cases a:JM lo hi l j=AP
  .rw[Cp a]at h ⊢;exact ik h<|wH a
  rw[Cl a]at h;exact absurd h Ba
theorem wI(l:A1)(hl:0<K l):Gp l<=K l:=by grind [Gp,Hw,Em,ik]
def MU(b:AU):AK:=AR (b.toNat<=32)||(b.toNat==42||(b.toNat==91||(b.toNat==93||(b.toNat==47||b.toNat==46))))
def Ko:AH->A1->Option AH
 |_,[]=>An 0
 |0,_::_=>Ao
 |g+1,b::t=>if Gp (b::t)=0\/MU b=AP then Ao else(Ko g<|(b::t).drop<|Gp (b::t)).map (·+1)
def Ui:Option AH->AK
 |some n=>AR<|1<=n/\n<=16
 |none=>AQ
def G8(l:A1):AK:=Ui<|Ko (At l) l
theorem S9(B:s.size<=4611686018427387904):Ar As 179 #[.string s] w λe F=>e=Ak (Ah<|G8 s.data.toList)/\F=w:=by
 have u:K s.data.toList=s.size:=Fz;obtain⟨A,j⟩:=CC<|Ko (K s.data.toList) s.data.toList;have c:D<|G8 s.data.toList=Ui A:=by grind [D,G8]
 go_enter func179,ntmps179;go_wp2
 go_loopg[3,4] s.size (λg x y wr=>∃n i:I,x=C Y n/\y=C Y i/\w=wr/\D (n<=i)/\D (i<=s.size)/\D (s.size<=i+g)/\D (A=(Ko g<|s.data.toList.drop i).map (·+n)))
 .refine⟨0,0,Z,Z,Z,Cr _,Ex _,Bp,?_⟩;show _=_;rw[<-AE j,u,List.drop_zero];simp_all
 obtain⟨n,i,rfl,rfl,rfl,W,t,r,f⟩:=hrel;by_cases P:i=s.size
 .have v:¬(i:J)<s.size:=E;have N:D<|G8 s.data.toList=AR (1<=n/\n<=16):=by
   show _=_;have b:A=H n:=by grind [D,List.drop_length,Ko]
   rw[AE c,b];rfl
  by_cases Q:(1:J)<=n
  .by_cases R:(n:J)<=16
   .have a:D<|G8 s.data.toList=AP:=by grind [D]
    go_wp2;go_ret;exact⟨by rw[AE a];rfl,rfl⟩
   have a:D<|G8 s.data.toList=AQ:=by grind [D]
   go_wp2;go_ret;exact⟨by rw[AE a];rfl,rfl⟩
  have a:D<|G8 s.data.toList=AQ:=by grind [D]
  go_wp2;go_ret;exact⟨by rw[AE a];rfl,rfl⟩
 have v:(i:J)<s.size:=AY<|AE t;have z:i<s.size:=E;obtain⟨g,rfl⟩:∃g,gk=g+1:=⟨gk-1,AY<|AE r⟩
 obtain⟨k,m⟩:=CC<|Gp<|s.data.toList.drop i;have l:D (s.data.toList.drop i=s[i]::s.data.toList.drop (i+1)):=keW;have d:D (Ko (g+1) (s.data.toList.drop i)=if k=0\/MU s[i]=AP then Ao else(Ko g<|s.data.toList.drop<|i+k).map (·+1)):=by grind [D,Ko,List.drop_drop]
 have S:k<=s.size-i:=by grind [D,wI,List.length_drop]
 have o:D<|k=0\/MU s[i]=AP->G8 s.data.toList=AQ:=λh=>by
  have b:A=Ao:=by grind [D]
  rw[AE c,b];rfl
 have p:D (¬(k=0\/MU s[i]=AP)->A=(Ko g<|s.data.toList.drop<|i+k).map (·+(n+1))):=λh=>by rw[AE f,AE d,Cl h,Option.map_map];congr 1;grind [D]
 have L:D<|MU s[i]=AP↔((s[i].toNat:J)<=32\/(s[i].toNat:J)=42\/(s[i].toNat:J)=91\/(s[i].toNat:J)=93\/(s[i].toNat:J)=47\/(s[i].toNat:J)=46):=by grind [D,MU]
 clear l d f;have V:n<=4611686018427387904:=by grind [D]
 go_wp2_with(first
  |(go_at_call 201;refine Ce (sG z B) ?_;rintro e w2 ⟨rfl,rfl⟩;rw[AE m]))
 all_goals first
  |(go_ret;have hF:=o.out (by grind [D]);exact⟨kfH,Z⟩)
  |go_roundg g
   case measure=>omega
   case rel =>
    have q:=p.out (by grind [D]);refine⟨n+1,i+k,Bb,Bb,Z,?_,?_,?_,q⟩
    all_goals grind [D]
  |skip
theorem wJ(l:A1)(lo hi:I):JM lo hi l 1=AP↔(1<K l/\lo<=(l.getD 1 0).toNat/\(l.getD 1 0).toNat<=hi):=by grind [JM]
theorem io(l:A1)(lo hi:J)(j:I)(a:j≠1):JM lo hi l j=AP↔(j<K l/\128<=(l.getD j 0).toNat/\(l.getD j 0).toNat<=191):=by grind [JM]
theorem wK(l:A1)(k lo hi:I)(a:k=2\/k=3\/k=4)(h:Em ((l.getD 0 0).toNat:J)=((lo:J),(hi:J),(k:J))):Gp l=(Lib.checkN (K l) (l.getD 1 0).toNat (l.getD 2 0).toNat (l.getD 3 0).toNat k lo hi).getD 0:=by unfold Gp Hw;rw[h];simp only[];rw[Cl<|show¬((k:I):J)=0 by omega];have b:=wJ l lo hi;have c:=io l lo hi 2 E;have d:=io l lo hi 3 E;generalize(l.getD 0 0)=b0 at *;generalize(l.getD 1 0)=b1 at *;generalize(l.getD 2 0)=b2 at *;generalize(l.getD 3 0)=b3 at *;rcases a with rfl|rfl|rfl<;>grind [J5,Lib.checkN]
theorem wL(h:(Em ((l.getD 0 0).toNat:J)).2.2=0):Gp l=0:=by grind [Gp,Hw]
theorem wM(l:A1)(h:(l.getD 0 0).toNat<128):Gp l=1:=by
 have e:Em ((l.getD 0 0).toNat:J)=(0,0,1):=by grind [Em]
 unfold Gp Hw;rw[e];rfl
set_option linter.unusedSimpArgs false in
theorem wN{l:List UInt8}(r:128<=(l.getD 0 0).toNat):Gp l=(Lib.checkN l.length (l.getD 1 0).toNat (l.getD 2 0).toNat (l.getD 3 0).toNat (Lib.firstT (l.getD 0 0).toNat%8) (Lib.accLo<|Lib.firstT (l.getD 0 0).toNat/16)<|Lib.accHi<|Lib.firstT (l.getD 0 0).toNat/16).getD 0:=by
 have s:=(l.getD 0 0).toNat_lt
 have key:∀k b a,Lib.firstT (l.getD 0 0).toNat%8=k->Lib.accLo (Lib.firstT (l.getD 0 0).toNat/16)=b->Lib.accHi (Lib.firstT (l.getD 0 0).toNat/16)=a->(k=2\/k=3\/k=4)->Em ((l.getD 0 0).toNat:Int)=((b:Int),(a:Int),(k:Int)) ->
   Gp l=(Lib.checkN l.length (l.getD 1 0).toNat (l.getD 2 0).toNat (l.getD 3 0).toNat (Lib.firstT (l.getD 0 0).toNat%8) (Lib.accLo<|Lib.firstT (l.getD 0 0).toNat/16)<|Lib.accHi<|Lib.firstT (l.getD 0 0).toNat/16).getD 0:=λk b a o p q t c=>by
  grind [wK]
 have u:Lib.firstT (l.getD 0 0).toNat=241->(Em ((l.getD 0 0).toNat:Int)).2.2=0 ->
   Gp l=(Lib.checkN l.length (l.getD 1 0).toNat (l.getD 2 0).toNat (l.getD 3 0).toNat (Lib.firstT (l.getD 0 0).toNat%8) (Lib.accLo<|Lib.firstT (l.getD 0 0).toNat/16)<|Lib.accHi<|Lib.firstT (l.getD 0 0).toNat/16).getD 0:=λe c=>by
  rw[e,wL c]
  rfl
 generalize hb:(l.getD 0 0).toNat=b0 at *
 by_cases d:b0<194
 .grind [Lib.firstT,Em]
 by_cases f:b0<224
 .grind [Lib.firstT,Lib.accLo,Lib.accHi,Em]
 by_cases c2:b0=224
 .grind [Lib.firstT,Lib.accLo,Lib.accHi,Em]
 by_cases g:b0<237
 .grind [Lib.firstT,Lib.accLo,Lib.accHi,Em]
 by_cases h:b0=237
 .grind [Lib.firstT,Lib.accLo,Lib.accHi,Em]
 by_cases i:b0<240
 .grind [Lib.firstT,Lib.accLo,Lib.accHi,Em]
 by_cases j:b0=240
 .grind [Lib.firstT,Lib.accLo,Lib.accHi,Em]
 by_cases m:b0<244
 .grind [Lib.firstT,Lib.accLo,Lib.accHi,Em]
 by_cases n:b0=244
 .exact key 4 128 143 (by grind [Lib.firstT]) (by grind [Lib.firstT,Lib.accLo]) (by grind [Lib.firstT,Lib.accHi]) E (by grind [Em])
 grind [Lib.firstT,Em]
theorem wO(l:A1)(a:l≠[]):(Gp l=0/\Lib.decodeL l=(65533,1))\/(1<=Gp l/\(Lib.decodeL l).2=Gp l/\¬((Lib.decodeL l).1=65533/\(Lib.decodeL l).2=1)):=by
 have e:=np.2 a;by_cases h:(l.getD 0 0).toNat<128
 .right;obtain⟨b,t,rfl⟩:∃b t,l=b::t:=List.exists_cons_of_ne_nil a;grind [wM,Lib.decodeL_ascii]
 rw[wN E,Lib.decodeL_N];rcases Lib.check_decode (K l) (l.getD 0 0).toNat (l.getD 1 0).toNat (l.getD 2 0).toNat (l.getD 3 0).toNat e E (l.getD 0 0).toNat_lt (l.getD 1 0).toNat_lt (l.getD 2 0).toNat_lt (l.getD 3 0).toNat_lt with⟨c,d⟩|⟨k,f,c,d⟩<;>grind
theorem wP(n a b1 b2 b3:I)(b:128<=a):128<=(Lib.decodeN n a b1 b2 b3).1:=by grind [Lib.decodeN]
def O6(r:AH):AK:=AR (r<=32)||(r==42||(r==91||(r==93||(r==47||r==46))))
def KQ:AH->A1->Option AH
 |_,[]=>An 0
 |0,_::_=>Ao
 |g+1,b::t=>if O6 (Lib.decodeL (b::t)).1=AP then Ao else(KQ g<|(b::t).drop (Lib.decodeL (b::t)).2).map (·+1)
theorem wQ(b:AU)(t:A1):O6 (Lib.decodeL (b::t)).1=MU b:=by
 by_cases h:b.toNat<128
 .rw[Lib.decodeL_ascii b t h];rfl
 grind [Lib.decodeL,Lib.decodeL_N,wP,O6,Bool.or_eq_false_iff,decide_eq_false_iff_not,beq_eq_false_iff_ne,MU]
theorem ip:∀(g:I) (l:A1),K l<=g->Ko g l=if Lib.validD l then KQ g l else Ao
 |g,[],_=>by grind [Ko,KQ,Lib.validD_nil]
 |0,b::t,h=>BB
 |g+1,b::t,h=>by
  rw[Lib.validD_step (b::t) Ba];rcases wO (b::t) Ba with⟨c,a⟩|⟨c,a,e⟩
  .simp[Ko,c,a]
  rw[Cl e,Ko,KQ,wQ,a];by_cases d:MU b=AP
  .grind
  rw[Cl B9,Cl d,ip g _ B9];split<;>rfl
theorem iq(l:A1):G8 l=(Lib.validD l&&Ui (KQ (K l) l)):=by
 unfold G8;rw[ip (K l) l<|Cr _];cases Lib.validD l
 .rfl
 rfl
def ir(b:AN)(a:W.heap[N]?=H (.stringIter s pos))(h:pos<s.size):(Instr.next (A8 N) AP b).run P W =
   .ok (Af #[Ah AP,C Y pos,C .i32 (Utf8.decode s pos).1]) (W.putObj N<|.stringIter s<|pos+(Utf8.decode s pos).2):=by
 simp only[Instr.next,getObj,setObj,GT,Sem.run,a,Result.andThen,h,if_true,World.putObj];simp[goInt]
def iu(b:AN)(a:W.heap[N]?=H (.stringIter s pos))(h:¬pos<s.size):(Instr.next (A8 N) AP b).run P W=.ok (Af #[Ah AQ]) W:=by simp[Instr.next,getObj,Sem.run,a,h]
def Qv{B:I}{a:X}(h:Below B a w)(b:B<=g){o:Obj}:Below B a (w.putObj g o) :=
 Cs h ⟨rfl,rfl,rfl,by simp[World.putObj],λk c=>World.putObj_heap_other E⟩
structure MV(w:Ap)(N:AH)(s:AT)(i:AH)(W:Ap):Prop where
 ac:A0 w W
 b:W.heap[N]?=An (.stringIter s i)
def MV.a0(h:MV w N s i W)(hb:A0 W W'):MV w N s i W' :=
 ⟨Cs h.ac<|CG hb h.ac.size,Ca (Co hb _<|Cd h.b) h.b⟩
theorem MV.next(h:MV w N s i W)(a:O (U w)<=N)(j:I):MV w N s j (W.putObj N<|.stringIter s j) :=
 ⟨Qv h.ac a,World.putObj_heap_same<|Cd h.b⟩
theorem wR(r:I):O6 r=(AR ((r:J)<=32)||Pd (r:J)):=by grind [O6,Pd]
theorem wS(hs:s.size<=2000)(hg:Hn w):Ar As 199 #[.string s] w λe y=>e=Ak (Ah<|G8 s.data.toList)/\A0 w y:=by
 have hl:K s.data.toList=s.size:=Fz;have l:Ar As 214 #[.string s] w λe y=>e=Ak (Ah<|Lib.validD s.data.toList)/\A0 w y :=
  Any.utf8_ValidString Tryz.lays196 s w E hg.a
 cases L:Lib.validD s.data.toList
 .have f:D<|G8 s.data.toList=AQ:=by grind [D,iq]
  rw[L]at l;go_enter func199,ntmps199
  go_wp2_with(first|(go_at_call 214;refine Ce l ?_;rintro e d ⟨rfl,c⟩))
  go_ret;exact⟨by rw[AE f];rfl,c⟩
 obtain⟨A,Q⟩:=CC<|KQ (K s.data.toList) s.data.toList;have f:D<|G8 s.data.toList=Ui A:=by grind [D,iq]
 rw[L]at l;go_enter func199,ntmps199
 go_wp2_with(first|(go_at_call 214;refine Ce l ?_;rintro e d ⟨rfl,c⟩))
 have b:D<|MV w (O<|U d) s 0<|d.iter s 0:=⟨c.alloc c.size _,World.iter_heap _ _ _⟩
 have hN:=c.size;generalize d.iter s 0=W0 at *;generalize O (U d)=N at *
 go_loopg[3,5] s.size (λg ac _ wr=>∃n i:I,ac=C Y n/\D (n<=i)/\D (i<=s.size)/\D (s.size<=i+g)/\D (MV w N s i wr)/\D (A=(KQ g<|s.data.toList.drop i).map (·+n)))
 .refine⟨0,0,Z,Cr _,Ex _,Bp,b,?_⟩;show _=_;rw[<-AE Q,hl,List.drop_zero];simp_all
 obtain⟨n,i,rfl,ah,ab,aa,b,S⟩:=hrel;by_cases h1:i=s.size
 .have z:D<|G8 s.data.toList=AR (1<=n/\n<=16):=by
   show _=_;have t:A=H n:=by grind [D,KQ]
   rw[AE f,t];rfl
  have F:=λv=>iu (P:=As) v b.b E;by_cases ha:(1:J)<=n
  .by_cases hb:(n:J)<=16
   .have a:D<|G8 s.data.toList=AP:=B9;go_wp2;go_ret;exact⟨by rw[AE a];rfl,b.ac⟩
   have a:D<|G8 s.data.toList=AQ:=by grind [D]
   go_wp2;go_ret;exact⟨by rw[AE a];rfl,b.ac⟩
  have a:D<|G8 s.data.toList=AQ:=by grind [D]
  go_wp2;go_ret;exact⟨by rw[AE a];rfl,b.ac⟩
 have hn:i<s.size:=AY<|AE ab;obtain⟨g,rfl⟩:∃g,gk=g+1:=⟨gk-1,AY<|AE aa⟩
 have F:=λv=>ir (P:=As) v b.b hn;obtain⟨r,hr⟩:=DF<|(Utf8.decode s i).1;obtain⟨k,hk⟩:=DF<|(Utf8.decode s i).2;rw[hr,hk]at F;have HD:D (s.data.toList.drop i=s[i]::s.data.toList.drop (i+1)):=keW;have ad:=Lib.decodeL_drop s i;have R:D (KQ (g+1) (s.data.toList.drop i)=if O6 r=AP then Ao else(KQ g<|s.data.toList.drop<|i+k).map (·+1)):=by grind [D,KQ,List.drop_drop]
 have ae:1<=k:=by grind [Lib.decodeL_width]
 have af:k<=s.size-i:=by grind [Lib.decodeL_le]
 have B:D<|O6 r=AP->G8 s.data.toList=AQ:=λh=>by
  have t:A=Ao:=by grind [D]
  rw[AE f,t];rfl
 have W:D (O6 r=AQ->A=(KQ g<|s.data.toList.drop<|i+k).map (·+(n+1))):=λh=>by rw[AE S,AE R,Cl<|by rw[h];simp,Option.map_map];congr 1;grind
 have p:D<|MV w N s (i+k)<|wr.putObj N<|.stringIter s<|i+k:=b.next hN _
 have ag:n<=2000:=by grind [D]
 have o:=wR r;generalize wr.putObj N (.stringIter s<|i+k)=W2 at *;by_cases x:(r:J)<=32
 .have z:=B.out B9;have a:=T z;go_wp2;go_ret;exact⟨by rw[AE a];rfl,p.ac⟩
 have j:=wG (r:J) E W2;rw[FO x,Bool.false_or]at o;cases m:Pd (r:J)
 .have V:=T (W<|by rw[o,m]);rw[m]at j
  go_wp2_with(first|(go_at_call 215;refine Ce j ?_;rintro e w3 ⟨rfl,u⟩;have q:=T<|p.a0 u))
  go_roundg g
  .refine⟨n+1,i+k,Bb,?_,?_,?_,q,V⟩
   all_goals grind [D]
  omega
 have a:=T (B<|by rw[o,m]);rw[m]at j
 go_wp2_with(first|(go_at_call 215;refine Ce j ?_;rintro e w3 ⟨rfl,u⟩;have q:=T<|p.a0 u))
 go_ret;exact⟨by rw[AE a];rfl,q.ac⟩
def Iq(s:AH×A1)(t:A1×AK):AK:=if s.1=0 then AP else if s.1=1 then AQ else if s.1=2 then t.2 else !t.2&&t.1==s.2
def Mc(s:AH×A1)(p:AJ<|A1×AK)(f:AH->AK):AH->AK
 |0=>if s.1=1 then f 0 else AQ
 |k+1=>if s.1=1 then(List.range<|k+2).any f else f k&&(match p[k]? with|some t=>Iq s t|none=>AQ)
def Jn:AJ (AH×A1)->AJ (A1×AK)->(AH->AK)->AH->AK
 |[],_,f=>f
 |s::ss,p,f=>Jn ss p<|Mc s p f
def O8(ss:AJ<|AH×A1)(p:AJ<|A1×AK):AK:=Jn ss p (λk=>k==0)<|At p
theorem Yj{s:I×A1}:∀(ss:AJ<|I×A1) (f:I->AK),Jn (ss++[s]) p f=Mc s p (Jn ss p f)
 |[],_=>rfl
 |x::ss,f=>by show Jn (ss++[s]) p _=_;rw[Yj ss];rfl
def Ir(ss:AJ<|AH×A1)(k:AH):AK:=match ss[k]? with
 |some s=>s.1==1
 |none=>AQ
def Pf(ss:AJ<|AH×A1)(t:A1×AK)(k:AH):AK:=match ss[k]? with
 |some s=>Iq s t
 |none=>AQ
def MX(ss:AJ<|AH×A1)(P:AH->AK):AH->AK
 |0=>P 0
 |k+1=>P (k+1)||(Ir ss k&&MX ss P k)
def QA(ss:AJ<|AH×A1)(t:A1×AK)(P:AH->AK):AH->AK
 |0=>P 0&&Ir ss 0
 |k+1=>(P (k+1)&&Ir ss (k+1))||(P k&&Pf ss t k)
def Md(ss:AJ<|AH×A1):AJ (A1×AK)->AH->AK
 |[]=>MX ss λk=>k==0
 |t::r=>MX ss<|QA ss t<|Md ss r
def rF(ss:AJ<|AH×A1)(p:AJ<|A1×AK)(k:AH):AH->AK:=Jn (ss.take k) p λn=>n==0
theorem j2(a:AJ<|I×A1)(p:AJ<|A1×AK)(n:I):rF a p 0 n=(n==0):=rfl
theorem j4{s:I×A1}(h:ss[k]?=H s)(p:AJ<|A1×AK):rF ss p (k+1)=Mc s p (rF ss p k):=by grind [rF,List.take_add_one,Yj]
def gF(ss:AJ<|AH×A1)(p:AJ<|A1×AK)(k j:AH):AK:=if Ir ss k then(List.range<|j+1).any (rF ss p k)else rF ss p k j
theorem xB(f:I->AK)(j:I):(List.range<|j+1).any f=((List.range j).any f||f j):=B9
theorem j5:∀(j:I),j<=K p->∀k,k<=K ss->Md ss (p.take j).reverse k=gF ss p k j
 |0,_,k,hk=>by
  rw[ST,ni,Md]
  induction k with
  |zero=>grind [gF,Ir,MX,j2]
  |succ k a =>
   have a:=a E;rw[MX,a];obtain⟨s,b⟩:∃s,ss[k]?=H s:=⟨ss[k],D7 E⟩
   have e:gF ss p k 0=rF ss p k 0:=by grind [gF,Ir]
   have f:gF ss p (k+1) 0=rF ss p (k+1) 0:=by grind [gF,Ir]
   have d:Ir ss k=(s.1==1):=by unfold Ir;rw[b]
   rw[e,f,j4 b,Mc,d];grind
 |j+1,hj,k,hk=>by
  obtain⟨t,h⟩:∃t,p[j]?=H t:=⟨p[j],D7 E⟩
  have g:(p.take<|j+1).reverse=t::(p.take j).reverse:=BV;rw[g,Md];have c:∀k,k<=K ss->Md ss (p.take j).reverse k=gF ss p k j:=j5 j E;generalize hP:Md ss (p.take j).reverse=P;rw[hP]at c
  induction k with
  |zero =>
   grind [MX,QA,gF,j2]
  |succ k a =>
   have a:=a E;obtain⟨s,b⟩:∃s,ss[k]?=H s:=⟨ss[k],D7 E⟩
   have d:Ir ss k=(s.1==1):=by unfold Ir;rw[b]
   have i:Pf ss t k=Iq s t:=by unfold Pf;rw[b]
   rw[MX,QA,a,c (k+1) hk,c k E];have key:((gF ss p k j&&Pf ss t k)||(Ir ss k&&gF ss p k (j+1)))=rF ss p (k+1) (j+1):=by rw[j4 b,Mc,h];grind [gF]
   grind [gF]
theorem xC:Md ss p.reverse (K ss)=O8 ss p:=by
 have h:=j5 (K p) (Cr _) (K ss)<|Cr _;rw[LM]at h;rw[h];unfold gF;have e:Ir ss (K ss)=AQ:=by grind [Ir,List.getElem?_eq_none]
 rw[e,Cl Ba];unfold rF O8;rw[LM]
def CD(P:AH->AH):A3:=Aw<|(List.range 16).map λi=>Value.int .u16<|P i
theorem MY(P:I->I):(CD P).size=16:=by simp[CD]
theorem Ly(P:I->I)(a:r<16):(CD P)[r]?=H (C .u16<|P r):=by simp[CD,a]
theorem j6(a:I):BitVec.ofInt 16 (a:J)=BitVec.ofNat 16 a:=Oz ..
theorem Uq(a b:I)(c:a<65536)(hb:b<65536):bits .and .u16 (a:J) (b:J)=((a&&&b:I):J):=by have h:(BitVec.ofNat 16 a&&&BitVec.ofNat 16 b).toNat=a&&&b:=B9;show IntKind.u16.wrap ((BitVec.ofInt 16 (a:J)&&&BitVec.ofInt 16 (b:J)).toNat:J)=_;grind [j6,IntKind.wrap,IntKind.bits,IntKind.signed]
theorem Yk{a:I}(c:a<65536)(hb:b<65536):bits .or .u16 (a:J) (b:J)=((a|||b:I):J):=by have h:(BitVec.ofNat 16 a|||BitVec.ofNat 16 b).toNat=a|||b:=B9;show IntKind.u16.wrap ((BitVec.ofInt 16 (a:J)|||BitVec.ofInt 16 (b:J)).toNat:J)=_;grind [j6,IntKind.wrap,IntKind.bits,IntKind.signed]
theorem MZ(x:I)(h:x<65536):IntKind.u16.wrap (x:J)=(x:J):=Bj
theorem xD(k:I)(hx:x<65536):(bits .and .u16 ((x:J)/2^k) 1==1)=x.testBit k:=by have e:((x:J)/2^k)=((x/2^k:I):J):=Ba;have a:x/2^k<65536:=Nat.lt_of_le_of_lt (Nat.div_le_self _ _) hx;have:=Uq (x/2^k) 1 a E;grind
def xE(W:X){P:I->I}(k:I)(c:r<16)(g:k<16)(b:P r<65536):Ar As 178 #[.agg<|CD P,C Y r,C Y k] W λe a=>e=Ak (Ah<|(P r).testBit k)/\A0 W a:=by have d:=Ly P c;have f:=xD k b;go_enter func178,ntmps178;go_wp2;go_ret;exact⟨Z,Cm⟩
theorem Ur(P:I->I)(r:I)(x:I):Ay (CD P) r (C .u16 x)=CD λi=>if i=r then x else P i:=by grind [CD]
def N0{a:Act}(i dst:I)(v:Aq)(hi:ops[i]?=H oi)(b:(Region.noSelect ops&&Region.free md ops listed i&&(Region.ready md ops listed).contains i&&oi.dst==H dst&&Region.wanted oi (yielded ops a.tmps))=AP)(e:∀c a w,Q (.panic c) (a.put (H dst) v) w->Q (.panic c) a w)(hy:∀d,(execOp a.eval oi).run P d=.ok (.value v) d)(h:wpAny P md ops Q fuel (Ay listed i AP) (a.put (H dst) v) w):wpAny P md ops Q (fuel+1) listed a w:=by simp only[Fj]at b;have f:oi.dst=H dst:=C7;rw[<-f]at e h;exact wpAny_take hi b.1.1.1.1 b.1.1.1.2 b.1.1.2 e (AF ⟨b.2,hy⟩) h
theorem Se{o:I}(n:r<16)(l:k<16)(f:x<65536)(j:A6 W g (o+r)<|C .u16 x)(i:W.frozen? ⟨g,o+r,Ao⟩=AQ):Ar As 140 #[A9 g o,C Y r,C Y k] W λe c=>e=Ak (Af #[])/\c=W.drew.setCell ⟨g,o+r,Ao⟩ (C .u16 ((x|||2^k:I):J)):=by
 have p:(r:J)<16:=E;have d:(2^k:I)<65536:=by have:(2^k:I)<=2^15:=OA B8 E;omega
 have q:IntKind.u16.wrap (2^k)=2^k:=by grind [MZ]
 have m:bits .or .u16 (x:J) (2^k)=((x|||2^k:I):J):=by have:=Yk f d;grind
 go_enter func140,ntmps140;go_wp2;refine SW B6 ?_;change wpAny _ _ _ _ _ _ _ (World.drew W);refine N0 0 6 (A9 g o) Z B6 (λ_ _ _ h=>h) (λ_=>B6) ?_;refine N0 1 7 (C Y r) Z B6 (λ_ _ _ h=>h) (λ_=>B6) ?_;refine N0 2 8 (A9 g o) Z B6 (λ_ _ _ h=>h) (λ_=>B6) ?_;refine N0 3 9 (A9 g<|o+r) Z B6 (λ_ _ _ h=>h) (λ_=>Bh) ?_;refine N0 5 11 (C Y k) Z B6 (λ_ _ _ h=>h) (λ_=>B6) ?_;refine N0 6 12 (C .u16 ((2^k:I):J)) Z B6 (λ_ _ _ h=>h) (λ_=>Bh) ?_;refine N0 8 14 (A9 g o) Z B6 (λ_ _ _ h=>h) (λ_=>B6) ?_;refine ER 4 Z B6 λb a=>?_;go_simp;refine a _ _ ?_;refine N0 7 13 (C .u16 ((x|||2^k:I):J)) Z B6 (λ_ _ _ h=>h) (λ_=>Bh) ?_;refine N0 9 15 (A9 g<|o+r) Z B6 (λ_ _ _ h=>h) (λ_=>Bh) ?_;refine ER 10 Z B6 λb a=>?_;go_simp;refine a _ _ ?_;refine Wl B6 ?_ _;go_simp;go_wp2;go_end0;exact⟨Z,Z⟩
structure Pg(w:Ap)(a:A4)(ss:AJ (AH×A1)):Prop where
 a0:∀i (h:i<At ss),∃b off,a=An ⟨b,off,Ao⟩/\b<Au (Av w)/\AC w ⟨b,off+i*2,Ao⟩=An (Ab Al ss[i].1)/\AC w ⟨b,off+i*2+1,Ao⟩=An (Ae ⟨ss[i].2.toArray⟩)
def Pg.ac(h:Pg w a ss)(hb:A0 w w'):Pg w' a ss :=
 ⟨λi g=>by obtain⟨b,off,f,c,d,e⟩:=h.a0 i g;exact⟨b,off,f,CQ c hb.size,Ca (hb.cell (p:=⟨b,_,Ao⟩) c) d,Ca (hb.cell (p:=⟨b,_,Ao⟩) c) e⟩⟩
structure J7(w:Ap)(a:A4)(rs:AJ (AJ (AH×A1)×AI×AI)):Prop where
 a0:∀i (h:i<At rs),∃b off pa pc,a=An ⟨b,off,Ao⟩/\b<Au (Av w)/\AC w ⟨b,off+i*3,Ao⟩=An (Ac pa rs[i].1.length pc)/\AC w ⟨b,off+i*3+1,Ao⟩=An (Ab Al rs[i].2.1)/\AC w ⟨b,off+i*3+2,Ao⟩=An (Ab Al rs[i].2.2)/\Pg w pa rs[i].1
def J7.ac(h:J7 w a rs)(hb:A0 w w'):J7 w' a rs :=
 ⟨λi k=>by obtain⟨b,off,l,m,j,c,d,e,f,g⟩:=h.a0 i k;exact⟨b,off,l,m,j,CQ c hb.size,Ca (hb.cell (p:=⟨b,_,Ao⟩) c) d,Ca (hb.cell (p:=⟨b,_,Ao⟩) c) e,Ca (hb.cell (p:=⟨b,_,Ao⟩) c) f,g.ac hb⟩⟩
def EI(dflt:AI):AJ (AJ (AH×A1)×AI×AI)->(AH->AH)->AH->AI×AI
 |[],_,_=>(dflt,1)
 |x::rs,P,r=>if(P r).testBit (At x.1)then x.2 else EI dflt rs P (r+1)
def FV(P:I->I):(prog.info? 183).map (·.size)=H (CD P).size:=by rw[MY];kernel_rfl
structure QB(W:Ap)(P:AH->AH)(V:Ap):Prop where
 h:V.heap[Au (Av W)]?=An (Aj (CD P) 183)
 ac:A0 W V
theorem QB.next{P:I->I}(h:QB W P V)(hb:A0 V V'):QB W P V' :=
 ⟨Ca (Co hb _<|Cd h.h) h.h,Cs h.ac<|CG hb h.ac.size⟩
theorem xF(W:X)(P:I->I):QB W P<|Az W<|M (CD P) 183:=⟨Cj _,Cm⟩
theorem xG(P:I->I)(y:∀r,P r<65536)(hn:K rs<=16)(w:∀i (h:i<K rs),rs[i].1.length<=8)(x:A<O (U W))(R:A6 W A 0<|G ra (K rs) rc)(v:A6 W A 1<|C Y dflt)(F:J7 W ra rs):Ar As 141 #[A8 A,.agg<|CD P] W λe u=>e=Ak (Af #[C Y (EI dflt rs P 0).1,C Y (EI dflt rs P 0).2])/\A0 W u:=by
 have t:=T F;go_enter func141,ntmps141;go_wp2
 go_loopg[13] (K rs) (λg z wr=>∃k:I,z=C Y k/\D (k+g=K rs)/\D (QB W P wr)/\D (EI dflt rs P 0=EI dflt (rs.drop k) P k))
 grind [xF];obtain⟨k,rfl,m,d,s⟩:=hrel;have S:=Ca (d.ac.cell (p:=⟨A,_,Ao⟩) x) v;obtain _|g:=gk
 .have B:¬(k:J)<(K rs:J):=AY<|AE m;have a:D<|EI dflt rs P 0=(dflt,1):=by have h:=AE s;rw[Ox<|AY<|AE m]at h;exact h
  go_wp2;refine CS (FP results141 _ _ _) Z ⟨?_,d.ac⟩;rw[AE a];rfl
 have o:k<K rs:=AY<|AE m;have B:(k:J)<(K rs:J):=E;obtain⟨b,off,L,N,rfl,hb,e0,e1,e2,_⟩:=(t.ac d.ac).a0 k o;have aa:=w k o;have j:=λV=>xE V rs[k].1.length E E<|y k;have Q:D<|EI dflt (rs.drop k) P k=if(P k).testBit rs[k].1.length then rs[k].2 else EI dflt (rs.drop<|k+1) P (k+1):=by grind [List.drop_eq_getElem_cons,EI]
 have f:D<|QB W P<|Az wr<|M #[G L rs[k].1.length N,C Y rs[k].2.1,C Y rs[k].2.2] 249:=d.next Cm
 cases q:(P k).testBit rs[k].1.length
 .rw[q]at j;have a:D<|EI dflt rs P 0=EI dflt (rs.drop<|k+1) P (k+1):=by grind [D]
  go_wp2_with(first
   |(refine CO Z 183 (.tmp 3) Z (O<|U W) Z _ _ _ _ f.h underlying183 Z (FV P) ?_)
   |(go_at_call 178;refine Ce (j _) ?_;rintro e n ⟨rfl,c⟩;have l:=T<|f.next c))
  go_roundg g;exact⟨k+1,Bb,B9,l,a⟩;omega
 rw[q]at j;have a:D<|EI dflt rs P 0=rs[k].2:=by grind [D]
 go_wp2_with(first
  |(refine CO Z 183 (.tmp 3) Z (O<|U W) Z _ _ _ _ f.h underlying183 Z (FV P) ?_)
  |(go_at_call 178;refine Ce (j _) ?_;rintro e n ⟨rfl,c⟩;have l:=T<|f.next c;have r1:A6 n (O<|U wr) 1<|C Y rs[k].2.1:=Cc (Ca (Co c _ Ba)<|Cj _) 1;have r2:A6 n (O<|U wr) 2<|C Y rs[k].2.2:=Cc (Ca (Co c _ Ba)<|Cj _) 2))
 go_quiet (fail)
 go_wp2;refine CS (FP results141 _ _ _) Z ⟨?_,Cs l.ac ⟨Z,Z,Z,Cr _,λ_ _=>rfl⟩⟩;rw[AE a];rfl
def w1(st x:AH):AH:=x|||((x&&&st)<<<1)
def KR(st x:AH):AH->AK
 |0=>x.testBit 0
 |k+1=>x.testBit (k+1)||(st.testBit k&&KR st x k)
theorem Yl(st x k:I):(w1 st x).testBit k=(x.testBit k||(AR (1<=k)&&(x.testBit (k-1)&&st.testBit (k-1)))):=by unfold w1;grind
def xH{st:I}(c:st<256)(hx:x<512):w1 st x<512:=by have b:x&&&st<2^8:=PO _ E;have a:(x&&&st)<<<1<2^9:=E;exact an (n:=9) E a
theorem xI(st x:I):x<=w1 st x:=Nat.left_le_or
structure Ph(P st:AH->AH)(n:AH)(X:AH->AH):Prop where
 d:∀r,r<n->∀k,(P r).testBit k=AP->(X r).testBit k=AP
 hi:∀r,r<n->∀k,(X r).testBit k=AP->KR (st r) (P r) k=AP
 a3:∀r,n<=r->X r=P r
 lt:∀r,X r<512
theorem xJ{st:I}(h:x.testBit k=AP):KR st x k=AP:=by cases k<;>grind [KR]
def xK{P:I->I}(st:I->I)(n:I)(a:∀r,P r<512):Ph P st n P:=⟨λ_ _ _ h=>h,λ_ _ _ h=>xJ h,λ_ _=>rfl,a⟩
def Fy(st X:AH->AH)(n:AH):AH->AH:=λr=>if r<n then w1 (st r) (X r)else X r
def Ph.a0{P:I->I}{X:I->I}(h:Ph P st n X)(d:∀r,st r<256):Ph P st n<|Fy st X n:=by
 refine⟨λr b k a=>?_,λr b k a=>?_,λr b=>?_,λr=>?_⟩
 .unfold Fy;rw[Cp b,Yl,h.d r b k a];rfl
 .unfold Fy at a;rw[Cp b,Yl,VZ]at a;rcases a with a|a
  .exact h.hi r b k a
  simp only[Fj,VU]at a;obtain⟨c,rfl⟩:∃c,k=c+1:=⟨k-1,E⟩
  rw[nr]at a;rw[KR,a.2.2,h.hi r b c a.2.1];simp
 .unfold Fy;rw[Cl E];exact h.a3 r b
 unfold Fy;by_cases b:r<n
 .rw[Cp b];exact xH (d r)<|h.lt r
 rw[Cl b];exact h.lt r
theorem Ph.done{P:I->I}{X:I->I}(h:Ph P st n X)(d:∀r,r<n->w1 (st r) (X r)=X r):∀r,r<n->∀k,(X r).testBit k=KR (st r) (P r) k:=by
 intro r b k;have key:∀k,KR (st r) (P r) k=AP->(X r).testBit k=AP:=by
  intro k
  induction k with
  |zero=>exact λa=>h.d r b 0 a
  |succ k e =>
   intro a;rw[KR,VZ]at a;rcases a with a|a
   .exact h.d r b _ a
   grind [w1,Yl,Nat.add_sub_cancel]
 cases c:(X r).testBit k
 .grind
 exact(h.hi r b k c).symm
def JT(X:AH->AH):AH->AH
 |0=>0
 |n+1=>JT X n+X n
theorem Us{X:I->I}(h:∀r,X r<512):∀n,JT X n<=n*512
 |0=>Cr _
 |n+1=>by have:=Us h n;have:=h n;unfold JT;omega
theorem j7{X Y:I->I}(h:∀r,X r<=Y r):∀n,JT X n<=JT Y n
 |0=>Cr _
 |n+1=>by have:=j7 h n;grind [JT]
def j8{X Y:I->I}(h:∀r,X r<=Y r):∀n r,r<n->X r<Y r->JT X n<JT Y n
 |0,_,hr,_=>absurd hr E
 |n+1,r,hr,hl=>by
  unfold JT;by_cases e:r=n
  .subst e;have:=j7 h r;omega
  have:=j8 h n r E hl;have:=h n;omega
theorem xL{X Y:I->I}(h:∀r,r<16->X r=Y r):CD X=CD Y:=by grind [CD,List.map_congr_left]
def j9:laidOutB As=AP:=B6
def few:prog.types.size+2<=10000:=VH B6
def Ym:WideMaps.KeyLaw As 183:=deep_law_gate j9 few (VH B6) B6 B6
def Yn:WideMaps.KeyLaw As 199:=deep_law_gate j9 few (VH B6) B6 B6
theorem xM(x:I)(h:x<65536):(Lit.int .u16 (x:J)).wf=AP:=by have a:IntKind.u16.min=0:=B6;have b:IntKind.u16.max=65535:=B6;grind [Lit.wf]
def ja{α β:Type}(f:α->Option β)(g:α->β):∀(l:AJ α),(∀x∈l,f x=H (g x))->l.mapM f=H (l.map g)
 |[],_=>rfl
 |x::l,h=>by rw[List.mapM_cons,h x Ba,ja f g l λy a=>h y kf3];rfl
theorem Yo{X:I->I}(j:∀r,X r<65536):∃l,keyOf As 183 (.agg<|CD X)=H l:=by
 obtain⟨d,k⟩:∃d,prog.types.size+1=d+2:=⟨prog.types.size-1,Bv⟩
 have g:prog.keyType 183=AP:=B6;have c:prog.cellsOf 183=16:=B6;have f:prog.cellsOf 181=1:=B6;have m:(Value.agg<|CD X).formed As 183=AP:=by grind [Value.formed,underlying183,MY]
 have n:prog.keyLits (d+2) 183 (CD X).toList=H ((List.range 16).map λi=>[Lit.int .u16<|X i]).flatten:=by
  have e:(CD X).toList.length=16:=by grind [MY]
  unfold Program.keyLits;simp only[underlying183];rw[Cp<|by rw[e,c],f];rw[ja _ (λi=>[Lit.int .u16<|X i]) _ λi a=>?_]
  .rfl
  have a:i<16:=Bl;have b:((CD X).toList.drop<|i*1).take 1=[C .u16<|X i]:=by have h:=Ly X a;grind [List.getElem?_eq_some_iff,List.drop_eq_getElem_cons]
  rw[b];unfold Program.keyLits;grind [underlying181,xM]
 refine⟨.string<|keyBytes ((List.range 16).map λi=>[Lit.int .u16<|X i]).flatten,?_⟩;unfold keyOf;simp only[underlying183];have e:(Value.agg<|CD X).cells=CD X:=rfl;grind
theorem jb{X Y:I->I}(h:CD X=CD Y):∀r,r<16->X r=Y r:=by intro r a;have b:=Ly X a;grind [Ly]
def QC(X Y:AH->AH):AK:=(List.range 16).all λr=>X r==Y r
theorem jc{X Y:I->I}(h:QC X Y=AP):∀r,r<16->X r=Y r:=by intro r a;have:=Hh.1 h r Bl;simpa using this
theorem jd{X Y:I->I}(h:∀r,r<16->X r=Y r):QC X Y=AP:=Hh.2 λr a=>B9
theorem xN{X Y:I->I}(f:∀r,X r<65536)(g:∀r,Y r<65536)(w:Ap):(Op.equalIn 10000 183 (.agg<|CD X)<|.agg<|CD Y).run As w=.ok (QC X Y) w:=by
 obtain⟨l,c⟩:=Yo f;obtain⟨n,d⟩:=Yo g;obtain⟨b,a,h⟩:=run_equal_deep w (m:=prog.types.size+1) (AY few) (k:=183) B6 B6 c d;have a:(Op.equalIn 10000 183 (.agg<|CD X)<|.agg<|CD Y).run As w=.ok b w:=a;have e:b=QC X Y:=by
  cases j:QC X Y
  .cases b
   .rfl
   have e:=h.1 Z;subst e;have i:=Ym.inj c d;grind [jd,jb,Value.agg.inj]
  grind [xL,jc,Option.some.inj]
 rw[a,e]
def E8:AH->AH:=λ_=>0
structure Hz(W:Ap)(X:AH->AH)(V:Ap):Prop where
 h:V.heap[Au (Av W)]?=An (Aj (CD X) 183)
 ret:V.heap[Au (Av W)+1]?=An (Aj (CD E8) 183)
 ac:A0 W V
theorem Hz.next{W V V':Ap}{X:I->I}(h:Hz W X V)(hb:A0 V V'):Hz W X V' :=
 ⟨(hb.block _<|Cd h.h).trans h.h,(hb.block _<|Cd h.ret).trans h.ret,h.ac.trans<|hb.mono h.ac.size⟩
def xO(W:Ap)(X:I->I):Hz W X (Az (Az W<|M (CD X) 183)<|M (CD E8) 183) :=
 ⟨(CB _ _ _ Ba).trans<|Cj _,B2<|Cj (Az W<|M (CD X) 183) (o:=(M (CD E8) 183)),(Cm).alloc Ba _⟩
theorem Sf(X:I->I):(CD X).all (·.oneCell')=AP:=by grind [CD,Value.oneCell']
def Sg{X Y:I->I}:(CD X).size=(CD Y).size:=by rw[MY,MY]
def Hz.set{W V:Ap}{X:I->I}(h:Hz W X V)(g:I)(a:O (U W)+1<g)(cs:A3):Hz W X (AD V g cs) :=
 ⟨sx E h.h,sx E h.ret,Dq h.ac E⟩
def Hz.cell{W V:Ap}{X:I->I}(h:Hz W X V)(g j:I)(a:O (U W)+1<g)(v:Aq):Hz W X (AB V ⟨g,j,Ao⟩ v) :=
 ⟨(Gz _ _ _ _ B7).trans h.h,(Gz _ _ _ _ B7).trans h.ret,h.ac.setCell B7 _⟩
theorem Hz.drew{W V:Ap}{X:I->I}(h:Hz W X V):Hz W X V.drew:=⟨h.h,h.ret,h.ac.drew⟩
theorem xP(st X:I->I)(k:I):(λi=>if i=k then w1 (st k) (X k)else Fy st X k i)=Fy st X (k+1):=by grind [Fy]
theorem je{y:I}(h:y<256):IntKind.u16.wrap ((y:J)*2)=((y<<<1:I):J):=by grind [MZ,Nat.shiftLeft_eq]
theorem xQ(st X:I->I):Fy st X 0=X:=by grind [Fy]
theorem xR{P:I->I}(hP:∀r,P r<512)(v:∀r,st r<256)(hn:n<=16)(o:A<O (U W))(x:A6 W A 0<|G ra n rc)(cs:∀r,r<16->A6 W A (3+r) (C .u16<|st r)):Ar As 142 #[A8 A,.agg<|CD P] W λab W'=>(∃m,ab=Ak (.agg<|CD m)/\(∀r,r<n->∀k,(m r).testBit k=KR (st r) (P r) k)/\(∀r,n<=r->m r=P r)/\∀r,m r<512)/\A0 W W':=by
 have an:D<|Hz W P<|Az (Az W<|Aj (CD P) 183)<|Aj #[C .u16 0,C .u16 0,C .u16 0,C .u16 0,C .u16 0,C .u16 0,C .u16 0,C .u16 0,C .u16 0,C .u16 0,C .u16 0,C .u16 0,C .u16 0,C .u16 0,C .u16 0,C .u16 0] 183:=xO W P;have am:=T<|xK st n hP;go_enter func142,ntmps142;go_wp2
 go_loopg[] (8192-JT P 16) (λg wr=>∃a,D (Hz W a wr)/\D (Ph P st n a)/\D (JT a 16+g=8192))
 grind [D,Us];obtain⟨a,l,i,L⟩:=hrel;have d0:=(l.ac.cell (p:=⟨A,_,Ao⟩) o).trans x
 go_wp2_with(first
  |(refine CO Z 183 (.tmp 3) Z (O<|U W) Z _ _ _ _ l.h underlying183 Z (FV a) ?_)
  |(refine D8 Z 183 (.tmp 5) (.tmp 7) Z (O<|U wr) (CD a) Z Z 183 (CD E8) (Cj wr) (FV a) (Sg) (Sf a) ?_;have w:=T<|Cd l.ret;have R:D<|Hz W a<|(Az wr<|Aj #[C .u16 0,C .u16 0,C .u16 0,C .u16 0,C .u16 0,C .u16 0,C .u16 0,C .u16 0,C .u16 0,C .u16 0,C .u16 0,C .u16 0,C .u16 0,C .u16 0,C .u16 0,C .u16 0] 183).setRow (O<|U wr)<|CD a:=(l.next Cm).set _ w _;have ao:D<|((Az wr<|Aj #[C .u16 0,C .u16 0,C .u16 0,C .u16 0,C .u16 0,C .u16 0,C .u16 0,C .u16 0,C .u16 0,C .u16 0,C .u16 0,C .u16 0,C .u16 0,C .u16 0,C .u16 0,C .u16 0] 183).setRow (O<|U wr)<|CD a).heap[O<|U wr]?=H (Aj (CD<|Fy st a 0) 183):=(by grind [D,xQ,setRow_heap,Cj]);generalize(Az wr<|Aj #[C .u16 0,C .u16 0,C .u16 0,C .u16 0,C .u16 0,C .u16 0,C .u16 0,C .u16 0,C .u16 0,C .u16 0,C .u16 0,C .u16 0,C .u16 0,C .u16 0,C .u16 0,C .u16 0] 183).setRow (O<|U wr) (CD a)=V1 at *;generalize O (U wr)=M at *;have d0:=(R.ac.cell (p:=⟨A,_,Ao⟩) o).trans x))
 go_loopg[13] n (λg al V=>∃k:I,al=C Y k/\D (k+g=n)/\D (Hz W a V)/\D (A7 V M (CD<|Fy st a k) 183))
 grind [D];obtain⟨k,rfl,u,d,j⟩:=hrel;obtain _|g:=gk
 .have aj:¬(k:J)<(n:J):=AY<|AE u;have ai:k=n:=AY<|AE u;subst ai;have ad:∀r,a r<65536:=λr=>AY<|i.lt r;have ae:∀r,Fy st a k r<65536:=λr=>AY<|(i.a0 v).lt r;have B:=xN ae ad wr;cases y:QC (Fy st a k) a
  .rw[y]at B;have N:D<|JT a 16<JT (Fy st a k) 16:=by
    show _<_;have ah:∀r,a r<=Fy st a k r:=λr=>by grind [Fy,xI]
    have ag:∃r,r<16/\a r<Fy st a k r:=by grind [jd]
    obtain⟨r,h1,h2⟩:=ag;exact j8 ah 16 r h1 h2
   have q:=T<|i.a0 v
   go_wp2_with(first
    |(refine CO Z 183 (.tmp 5) Z M Z _ _ _ _ j underlying183 Z (FV _) ?_)
    |(refine CO Z 183 (.tmp 3) Z (O<|U W) Z _ _ _ _ d.h underlying183 Z (FV a) ?_)
    |(refine D8 Z 183 (.tmp 3) (.tmp 37) Z (O<|U W) (CD<|Fy st a k) Z Z 183 (CD a) d.h (FV _) (Sg) (Sf _) ?_))
   have e:D<|Hz W (Fy st a k)<|AD wr (O<|U W)<|CD<|Fy st a k:=⟨CR _ _ _ _ _ _ d.h,sx E d.ret,Dq d.ac<|Cr _⟩
   go_roundg (8192-JT (Fy st a k) 16);exact⟨Fy st a k,e,q,AZ<|Us q.lt 16⟩;have:=AE L;have:=AE N;have:=Us q.lt 16;omega
  rw[y]at B;have he:∀r,r<k->w1 (st r) (a r)=a r:=λr hr=>by grind [jc,Fy]
  have F:=T<|i.done he
  go_wp2_with(first
   |(refine CO Z 183 (.tmp 5) Z M Z _ _ _ _ j underlying183 Z (FV _) ?_)
   |(refine CO Z 183 (.tmp 3) Z (O<|U W) Z _ _ _ _ d.h underlying183 Z (FV a) ?_)
   |(refine D8 Z 183 (.tmp 4) (.tmp 36) Z (O (U W)+1) (CD a) Z Z 183 (CD E8) d.ret (FV a) (Sg) (Sf a) ?_))
  refine CS (La results142 _ _ (O (U W)+1) 183 (CD a) (0,0) _ Z (CR _ _ _ _ _ _ d.ret) underlying183 Z<|FV a) Z ⟨⟨a,Z,F,i.a3,i.lt⟩,Dq d.ac E⟩
 have av:k<n:=AY<|AE u;have aj:(k:J)<(n:J):=E;have au:(k:J)<16:=E;have ap:=i.lt k;have ax:=v k;have ha:=Uq (a k) (st k) E E;have af:a k&&&st k<256:=PO (n:=8) _ E;have aw:=je af;have ak:bits .or .u16 (a k:J) (((a k&&&st k)<<<1:I):J)=((w1 (st k) (a k):I):J):=Yk E E;have aq:A6 wr M k<|C .u16<|a k:=by have h:=Cc j k;grind [Ly,Fy]
 have ar:=Dy wr M k _ _ j;have Q:D<|A6 wr (O<|U W) k (C .u16<|a k)/\A6 wr A (3+k) (C .u16<|st k):=⟨by have h:=Cc d.h k;grind [Ly],(d.ac.cell (p:=⟨A,_,Ao⟩) o).trans<|cs k E⟩
 have s:D<|Hz W a<|wr.drew.setCell ⟨M,k,Ao⟩<|C .u16 ((w1 (st k) (a k):I):J):=d.drew.cell _ _ w _;have z:D<|(wr.drew.setCell ⟨M,k,Ao⟩<|C .u16 ((w1 (st k) (a k):I):J)).heap[M]?=H (Aj (CD<|Fy st a<|k+1) 183):=by have h:=DX wr.drew M k _ _ (C .u16 ((w1 (st k) (a k):I):J)) j;grind [D,Ur,xP]
 go_wp2;have c:(λb:X=>A6 b (O<|U W) k (C .u16<|a k)/\A6 b A (3+k) (C .u16<|st k)) {wr with drawn:=wr.drawn+1}:=AE Q;have ac:(λb:X=>A6 b (O<|U W) k (C .u16<|a k)/\A6 b A (3+k) (C .u16<|st k))<|wr.drew.setCell ⟨M,k,Ao⟩<|C .u16 ((w1 (st k) (a k):I):J):=⟨by have h:=Cc s.h k;grind [Ly],(s.ac.cell (p:=⟨A,_,Ao⟩) o).trans<|cs k E⟩
 refine Ei (S:=λb=>A6 b (O<|U W) k (C .u16<|a k)/\A6 b A (3+k) (C .u16<|st k)) B6 ?_;refine Cb 0 16 (C Y k) c <| Ch 1 17 (A9 M k) Z (λb f=>Bh) c <| Cb 3 19 (C Y k) c <| Ch 4 20 (A9 (O<|U W) k) Z (λb f=>Bh) c <| Ch 5 21 (C .u16<|a k) Z (λb f=>Bh) c <| Cb 6 22 (A8 A) c <| Cb 7 23 (C Y k) c <| Cb 8 24 (A8 A) c <| Cb 9 25 (A9 A 3) c <| Ch 10 26 (A9 A<|3+k) Z (λb f=>Bh) c <| Ch 11 27 (C .u16<|st k) Z (λb f=>Bh) c <| Ch 12 28 (C .u16 ((a k&&&st k:I):J)) Z (λb f=>Bh) c <| Ch 13 29 (C .u16 (((a k&&&st k)<<<1:I):J)) Z (λb f=>Bh) c ?_;refine CH 2 λaa t=>?_;go_simp;refine t.out _ _ c λ_=>?_;refine Ch 14 30 (C .u16 ((w1 (st k) (a k):I):J)) Z (λb f=>by go_simp;exact ak) c <| Ch 15 31 (A9 M k) Z (λb f=>Bh) c <| CH 16 λaa t=>?_;go_simp;refine t.out _ _ ac λ_=>?_;refine CK ?_;go_simp;go_wp2;go_roundg g;exact⟨k+1,Bb,B9,s,z⟩;omega
structure O9(W:Ap)(A:AH)(ra:A4)(rc n:AH)(st:AH->AH):Prop where
 lt:A<Au (Av W)
 f:AC W ⟨A,0,Ao⟩=An (Ac ra n rc)
 ai:∀r,r<16->AC W ⟨A,3+r,Ao⟩=An (Ab .u16 (st r))
def O9.ac(h:O9 W A ra rc n st)(hb:A0 W W'):O9 W' A ra rc n st :=
 ⟨CQ h.lt hb.size,Ca (hb.cell (p:=⟨A,_,Ao⟩) h.lt) h.f,λr a=>Ca (hb.cell (p:=⟨A,_,Ao⟩) h.lt)<|h.ai r a⟩
def Pi(n:AH)(st P Y:AH->AH):Prop:=(∀r,r<n->∀k,(Y r).testBit k=KR (st r) (P r) k)/\(∀r,n<=r->Y r=P r)/\∀r,Y r<512
def Yp(n:AH)(st P:AH->AH)(e:Ending):Prop:=∃Y,e=Ak (.agg<|CD Y)/\Pi n st P Y
def jf(h:O9 W A ra rc n st){P:I->I}(b:∀r,P r<512)(d:∀r,st r<256)(c:n<=16):Ar As 142 #[A8 A,.agg<|CD P] W λe a=>Yp n st P e/\A0 W a :=
 xR b d c h.lt h.f h.ai
def one(k:AH):AH->AH:=λr=>if r<k then 1 else 0
theorem xS:one 0=E8:=by funext r;rfl
theorem xT(k:I):(λi=>if i=k then(one k k|||2^0:I)else one k i)=one (k+1):=by grind [one]
theorem jg(k r:I):one k r<512:=by grind [one]
structure Pj(W:Ap)(X:AH->AH)(V:Ap):Prop where
 ret:V.heap[Au (Av W)]?=An (Aj (CD E8) 183)
 p:V.heap[Au (Av W)+1]?=An (Aj (CD X) 183)
 ac:A0 W V
theorem Pj.next{W V V':Ap}{X:I->I}(h:Pj W X V)(hb:A0 V V'):Pj W X V' :=
 ⟨Ca (Co hb _<|Cd h.ret) h.ret,Ca (Co hb _<|Cd h.p) h.p,Cs h.ac<|CG hb h.ac.size⟩
def xU(W:X):Pj W E8 (Az (Az W<|M (CD E8) 183)<|M (CD E8) 183) :=
 ⟨Ca (CB _ _ _ Ba)<|Cj _,B2<|Cj (Az W<|M (CD E8) 183) (o:=(M (CD E8) 183)),(Cm).alloc Ba _⟩
theorem xV(y:∀r,st r<256)(x:n<=16)(h:O9 W A ra rc n st):Ar As 98 #[A8 A] W λe W'=>Yp n st (one n) e/\A0 W W':=by
 have f:=T h;have F:D<|Pj W E8<|Az (Az W<|M #[C .u16 0,C .u16 0,C .u16 0,C .u16 0,C .u16 0,C .u16 0,C .u16 0,C .u16 0,C .u16 0,C .u16 0,C .u16 0,C .u16 0,C .u16 0,C .u16 0,C .u16 0,C .u16 0] 183)<|M #[C .u16 0,C .u16 0,C .u16 0,C .u16 0,C .u16 0,C .u16 0,C .u16 0,C .u16 0,C .u16 0,C .u16 0,C .u16 0,C .u16 0,C .u16 0,C .u16 0,C .u16 0,C .u16 0] 183:=xU W;have L:=h.f;have P:=h.lt;go_enter func98,ntmps98;go_wp2
 go_loopg[10] n (λg z V=>∃k:I,z=C Y k/\D (k+g=n)/\D (Pj W (one k) V))
 grind [xS];obtain⟨k,rfl,d,a⟩:=hrel;obtain _|g:=gk
 .have w:¬(k:J)<(n:J):=AY<|AE d;have v:k=n:=AY<|AE d;subst v;have m:=λV s=>jf (f.ac (W':=V) s) (jg k) y x
  go_wp2_with(first
   |(go_at_call 142;refine Ce (m _ a.ac) ?_;rintro e B ⟨⟨b,rfl,q⟩,o⟩;have c:=T<|a.next o;have j:=T q)
   |(refine CO Z 183 (.tmp 3) Z (O (U W)+1) Z _ _ _ _ a.p underlying183 Z (FV _) ?_)
   |(refine D8 Z 183 (.tmp 2) (.tmp 18) Z (O<|U W) (CD b) Z Z 183 (CD E8) c.ret (FV b) (Sg) (Sf b) ?_))
  refine CS (La results98 _ _ (O<|U W) 183 (CD b) (0,0) _ Z (CR _ _ _ _ _ _ c.ret) underlying183 Z<|FV b) Z ⟨⟨b,Z,j⟩,Dq c.ac<|Cr _⟩
 have N:k<n:=AY<|AE d;have w:(k:J)<(n:J):=E;have t:A6 wr (O (U W)+1) (0+k)<|C .u16<|one k k:=by have h:=Cc a.p<|0+k;grind [Ly]
 have u:=Dy wr (O (U W)+1) (0+k) _ _ a.p;have l:=Se (k:=0) E E (AY<|jg k k) t u;have i:D<|Pj W (one<|k+1) (AB wr ⟨O (U W)+1,k,Ao⟩<|C .u16 ((one k k|||1:I):J)).drew:=by refine⟨Ca (Gz wr _ _ _ Ba) a.ret,?_,(a.ac.setCell Ba _).drew⟩;have h:=DX wr (O (U W)+1) k _ _ (C .u16 ((one k k|||1:I):J)) a.p;rw[Ur,show(1:I)=2^0 from rfl,xT]at h;exact h
 go_wp2_with(first
  |(go_at_call 140;refine Ce l ?_;rintro e B ⟨rfl,rfl⟩))
 go_roundg g;exact⟨k+1,Bb,B9,i⟩;omega
structure Sh(W:Ap)(A tb L tc:AH)(tk:AH->AH->AH):Prop where
 lt:A<Au (Av W)
 tlt:tb<Au (Av W)
 k:AC W ⟨A,19,Ao⟩=An (Ac (Aa tb) L tc)
 a0:∀x r,x<L->r<16->AC W ⟨tb,x*16+r,Ao⟩=An (Ab .u16 (tk x r))
def Sh.ac{L:I}{tk:I->I->I}(h:Sh W A tb L tc tk)(hb:A0 W W'):Sh W' A tb L tc tk :=
 ⟨CQ h.lt hb.size,CQ h.tlt hb.size,(hb.cell (p:=⟨A,_,Ao⟩) h.lt).trans h.k,λx r b a=>(hb.cell (p:=⟨tb,_,Ao⟩) h.tlt).trans<|h.a0 x r b a⟩
def N2(st tk x:AH):AH:=(x&&&st)|||((x&&&tk)<<<1)
def I0(st tk P:AH->AH)(k:AH):AH->AH:=λr=>if r<k then N2 (st r) (tk r) (P r)else 0
theorem xW{st tk:I}(d:st<256)(e:tk<256):N2 st tk x<512:=by have b:x&&&st<2^8:=PO _ E;have c:x&&&tk<2^8:=PO _ E;have a:(x&&&tk)<<<1<2^9:=E;exact an (n:=9) E a
theorem xX(st tk P:I->I):I0 st tk P 0=E8:=by grind [I0,E8]
theorem xY(st tk P:I->I)(k:I):(λi=>if i=k then N2 (st k) (tk k) (P k)else I0 st tk P k i)=I0 st tk P (k+1):=by grind [I0]
theorem xZ{tk:I->I}(a:∀r,st r<256)(b:∀r,tk r<256)(P:I->I)(k r:I):I0 st tk P k r<512:=by grind [I0,xW]
structure N5(W:Ap)(P X:AH->AH)(V:Ap):Prop where
 h:V.heap[Au (Av W)]?=An (Aj (CD P) 183)
 ret:V.heap[Au (Av W)+1]?=An (Aj (CD E8) 183)
 a:V.heap[Au (Av W)+2]?=An (Aj (CD X) 183)
 ac:A0 W V
theorem N5.next{W V V':Ap}{P X:I->I}(h:N5 W P X V)(hb:A0 V V'):N5 W P X V' :=
 ⟨(hb.block _<|Cd h.h).trans h.h,(hb.block _<|Cd h.ret).trans h.ret,(hb.block _<|Cd h.a).trans h.a,h.ac.trans<|hb.mono h.ac.size⟩
def ya(P:I->I):N5 W P E8 (Az (Az (Az W<|M (CD P) 183)<|M (CD E8) 183)<|M (CD E8) 183) :=
 ⟨((CB _ _ _ B7).trans<|CB _ _ _ Ba).trans<|Cj _,(CB _ _ _ Ba).trans<|B2<|Cj (Az W<|M (CD P) 183) (o:=(M (CD E8) 183)),B2<|Cj (Az (Az W<|M (CD P) 183)<|M (CD E8) 183) (o:=(M (CD E8) 183)),((Cm).alloc Ba _).alloc B7 _⟩
theorem jh{L:I}{tk:I->I->I}(m:∀r,st r<256)(u:∀x r,tk x r<256)(hn:n<=16)(h:O9 W A ra rc n st)(B:Sh W A tb L tc tk){P:I->I}(Q:∀r,P r<512)(hx:x<L):Ar As 104 #[A8 A,.agg<|CD P,C Y x] W λe W'=>Yp n st (I0 st (tk x) P n) e/\A0 W W':=by
 have o:=T h;have t:=T B;have q:D<|N5 W P E8<|Az (Az (Az W<|M (CD P) 183)<|M #[C .u16 0,C .u16 0,C .u16 0,C .u16 0,C .u16 0,C .u16 0,C .u16 0,C .u16 0,C .u16 0,C .u16 0,C .u16 0,C .u16 0,C .u16 0,C .u16 0,C .u16 0,C .u16 0] 183)<|M #[C .u16 0,C .u16 0,C .u16 0,C .u16 0,C .u16 0,C .u16 0,C .u16 0,C .u16 0,C .u16 0,C .u16 0,C .u16 0,C .u16 0,C .u16 0,C .u16 0,C .u16 0,C .u16 0] 183:=ya P;have c0:=h.f;have al:=h.lt;have am:A<O (U W)+1:=E;have an:A<O (U W)+1+1:=E;go_enter func104,ntmps104;go_wp2
 go_loopg[14] n (λg ac V=>∃k:I,ac=C Y k/\D (k+g=n)/\D (N5 W P (I0 st (tk x) P k) V))
 grind [xX];obtain⟨k,rfl,l,d⟩:=hrel;obtain _|g:=gk
 .have hl:¬(k:J)<(n:J):=AY<|AE l;have aa:k=n:=AY<|AE l;subst aa;have y:=λV i=>jf (o.ac (W':=V) i) (xZ m (u x) P k) m hn
  go_wp2_with(first
   |(go_at_call 142;refine(y _ d.ac).mono ?_;rintro e w2 ⟨⟨f,rfl,hY⟩,F⟩;have j:=T<|d.next F;have w:=T hY)
   |(refine CO Z 183 (.tmp 7) Z (O (U W)+1+1) Z _ _ _ _ d.a underlying183 Z (FV _) ?_)
   |(refine D8 Z 183 (.tmp 6) (.tmp 47) Z (O (U W)+1) (CD f) Z Z 183 (CD E8) j.ret (FV f) (Sg) (Sf f) ?_))
  refine CS (La results104 _ _ (O (U W)+1) 183 (CD f) (0,0) _ Z (CR _ _ _ _ _ _ j.ret) underlying183 Z<|FV f) Z ⟨⟨f,Z,w⟩,Dq j.ac E⟩
 have ak:k<n:=AY<|AE l;have hl:(k:J)<(n:J):=E;have aj:(k:J)<16:=E;have hxL:(x:J)<(L:J):=E;have ae:=Q k;have ap:=m k;have aq:=u x k;have ha:=Uq (P k) (st k) E E;have ag:=Uq (P k) (tk x k) E E;have af:P k&&&st k<256:=PO (n:=8) _ E;have z:P k&&&tk x k<256:=PO (n:=8) _ E;have ao:=je z;have ab:bits .or .u16 ((P k&&&st k:I):J) (((P k&&&tk x k)<<<1:I):J)=((N2 (st k) (tk x k) (P k):I):J):=Yk E E;have ah:A6 wr (O (U W)+1+1) k<|C .u16<|I0 st (tk x) P k k:=by have h:=Cc d.a k;grind [Ly]
 have ai:=Dy wr (O (U W)+1+1) k _ _ d.a;have s:D<|N5 W P (I0 st (tk x) P<|k+1)<|wr.drew.setCell ⟨O (U W)+1+1,k,Ao⟩<|C .u16 ((N2 (st k) (tk x k) (P k):I):J):=by refine⟨(Gz wr.drew _ _ _ B7).trans d.h,(Gz wr.drew _ _ _ Ba).trans d.ret,?_,d.ac.drew.setCell B7 _⟩;have h:=DX wr.drew (O (U W)+1+1) k _ _ (C .u16 ((N2 (st k) (tk x k) (P k):I):J)) d.a;grind [Ur,xY]
 have p:∀V,N5 W P (I0 st (tk x) P k) V\/N5 W P (I0 st (tk x) P<|k+1) V->A6 V (O<|U W) k (C .u16<|P k)/\A6 V A (3+k) (C .u16<|st k)/\A6 V A 19 (G (Aa tb) L tc)/\A6 V tb (x*16+k) (C .u16<|tk x k):=by
  intro V hV;have i:A7 V (O<|U W) (CD P) 183/\A0 W V:=by rcases hV with h|h<;>exact⟨h.h,h.ac⟩
  exact⟨by have h:=Cc i.1 k;grind [Ly],(o.ac i.2).ai k E,(t.ac i.2).k,(t.ac i.2).a0 x k hx E⟩
 have q:D<|_:=p wr<|AF d;have v:D<|_:=p _<|AG s;go_wp2;have a:(λb:X=>A6 b (O<|U W) k (C .u16<|P k)/\A6 b A (3+k) (C .u16<|st k)/\A6 b A 19 (G (Aa tb) L tc)/\A6 b tb (x*16+k) (C .u16<|tk x k)) {wr with drawn:=wr.drawn+1}:=AE q;have R:=AE v;refine Ei (S:=λb=>A6 b (O<|U W) k (C .u16<|P k)/\A6 b A (3+k) (C .u16<|st k)/\A6 b A 19 (G (Aa tb) L tc)/\A6 b tb (x*16+k) (C .u16<|tk x k)) B6 ?_;refine Cb 0 17 (C Y k) a <| Cb 1 18 (C Y k) a <| Ch 2 19 (A9 (O<|U W) k) Z (λb c=>Bh) a <| Ch 3 20 (C .u16<|P k) Z (λb c=>by have z1:=c.1;go_simp) a <| Cb 4 21 (A8 A) a <| Cb 5 22 (C Y k) a <| Cb 6 23 (A8 A) a <| Cb 7 24 (A9 A 3) a <| Ch 8 25 (A9 A<|3+k) rfl (λb c=>Bh) a <| Ch 9 26 (C .u16<|st k) rfl (λb c=>Bh) a <| Ch 10 27 (C .u16 ((P k&&&st k:I):J)) rfl (λb c=>Bh) a <| Cb 11 28 (C Y k) a <| Ch 12 29 (A9 (O<|U W) k) rfl (λb c=>Bh) a <| Ch 13 30 (C .u16<|P k) rfl (λb c=>by have z1:=c.1;go_simp) a <| Cb 14 31 (A8 A) a <| Cb 15 32 (A8 A) a <| Cb 16 33 (A9 A 19) a <| Ch 17 34 (G (Aa tb) L tc) rfl (λb c=>Bh) a <| Cb 18 35 (C Y x) a <| Cb 19 36 (C Y k) a <| Ch 20 37 (A9 tb<|x*16) rfl (λb c=>Bh) a <| Ch 21 38 (A9 tb<|x*16+k) rfl (λb c=>Bh) a <| Ch 22 39 (C .u16<|tk x k) rfl (λb c=>Bh) a <| Ch 23 40 (C .u16 ((P k&&&tk x k:I):J)) rfl (λb c=>Bh) a <| Ch 24 41 (C .u16 (((P k&&&tk x k)<<<1:I):J)) rfl (λb c=>Bh) a ?_;refine Ch 25 42 (C .u16 ((N2 (st k) (tk x k) (P k):I):J)) Z (λb c=>by go_simp;exact ab) a <| Ch 26 43 (A9 (O (U W)+1+1) k) Z (λb c=>Bh) a <| CH 27 λad N=>?_;go_simp;refine N.out _ _ R λ_=>?_;refine CK ?_;go_simp;go_wp2;go_roundg g;exact⟨k+1,Bb,B9,s⟩;omega
def Ed(W:Ap)(kt:AN)(m n:AH)(f:Lit->Option AH):Prop :=
 ∃D:A2,W.ownsMap As kt (plainElem As 3) m n D/\∀l,Maps.has D l=(f l).isSome/\∀v:AH,f l=An v->D.atKey l (.lit<|.int Al 0)=.lit (.int Al v)
def Ed.kept{m:I}{f:Lit->Option I}{row:Option I}(h:Ed W kt m n f)(d:W.grownBy W' row)(e:H m≠row):Ed W' kt m n f:=C5
def Ed.lt{m:I}{f:Lit->Option I}(h:Ed W kt m n f):m<O (U W):=by obtain⟨b,a,_⟩:=h;exact a.lt
def Yq(W:X)(a:AN):Ed (Az W<|.map #[] 0) a (O<|U W) 0 (λ_=>Ao) :=
 ⟨_,ZO W As a _,λl=>⟨kfC,λv h=>Bs⟩⟩
def ji:(zeroValue 3).run As W=.ok (C Y 0) W:=B6
theorem jj{m:I}{f:Lit->Option I}{D:A2}(_h1:W.ownsMap As kt (plainElem As 3) m n D)(a:∀l,Maps.has D l=(f l).isSome/\∀v:I,f l=H v->D.atKey l (.lit<|.int Y 0)=.lit (.int Y v)):D.atKey kl (.lit<|.int Y 0)=.lit (.int Y (((f kl).getD 0:I):J)):=by cases b:f kl<;>grind [Maps.atKey_of_not_has]
theorem Si{m:I}{f:Lit->Option I}(h:Ed W kt m n f)(K:Maps.Keyed As kt)(g:prog.underlying t=H (.map kt 3)){key:Aq}(e:keyOf As kt key=H kl):(Instr.lookup t (.map<|H m) key AQ).run As W=.ok (C Y (((f kl).getD 0:I):J)) W:=by obtain⟨i,a,b⟩:=h;obtain⟨c,j,d,_⟩:=a.lookup_int K g underlying3 (ji) e;rw[jj a b]at d;grind
theorem Sj{m:I}{f:Lit->Option I}(h:Ed W kt m n f)(K:Maps.Keyed As kt)(d:prog.underlying t=H (.map kt 3)){key:Aq}(c:keyOf As kt key=H kl):(Instr.lookup t (.map<|H m) key AP).run As W=.ok (Af #[C Y (((f kl).getD 0:I):J),Ah (f kl).isSome]) W:=by obtain⟨g,a,b⟩:=h;obtain⟨v,j,i,e⟩:=a.look_ok K d (ji) (Wc underlying3 B8) c;rw[jj a b]at e;grind [plainElem_int_inv,underlying3]
theorem Yr{m:I}{f:Lit->Option I}(h:Ed W kt m n f)(K:Maps.Keyed As kt)(p:prog.underlying t=H (.map kt 3))(y:n<1000000000){key:Aq}(g:keyOf As kt key=H kl)(v:I)(z:v<1000000000):∃a,(Instr.mapUpdate t (.map<|H m) key<|C Y v).run As W=.ok () a/\(∀b:Lit->Option I,b kl=H v->(∀l,l≠kl->b l=f l)->Ed a kt m (n+1) b)/\W.grownBy a (H m):=by
 obtain⟨w,d,x⟩:=h;have s:(Lit.int Y (v:J)).wf=AP:=by have c:IntKind.i64.min = -9223372036854775808:=B6;have i:IntKind.i64.max=9223372036854775807:=B6;grind [Lit.wf]
 obtain⟨a,o,k,j⟩:=d.store K p Bc g<|Wc underlying3 s;refine⟨a,o,λb c i=>⟨_,k,λl=>?_⟩,j.grown⟩;by_cases e:l=kl
 .subst e;refine⟨Ca (VT d.isMap (K.key g) _) kfm,λu q=>?_⟩;have r:=Fl<|Ca c.symm q;rw[<-r];exact ae d.isMap (K.key g) _ _
 grind [Maps.has_put_other,Maps.atKey_put_other]
def Ys:Maps.Keyed As 183:=ap Ym
def Sk:Maps.Keyed As 199:=ap Yn
structure D0 where
 h:A4
 e:AH
 a:AJ (AJ (AH×A1)×AI×AI)
 c:AI
 f:AH
 ln:AH
 i:Lit->Option AH
 st:AH->AH
 g:AH
 L:AH
 tc:AH
 j:AH->AH->AH
 d:AH
 b:AH
def Sl(q:D0)(sv:Aq):A3:=#[Ac q.h (At q.a) q.e,Ab Al q.c,.map<|An q.f,Ab .u16<|q.st 0,Ab .u16<|q.st 1,Ab .u16<|q.st 2,Ab .u16<|q.st 3,Ab .u16<|q.st 4,Ab .u16<|q.st 5,Ab .u16<|q.st 6,Ab .u16<|q.st 7,Ab .u16<|q.st 8,Ab .u16<|q.st 9,Ab .u16<|q.st 10,Ab .u16<|q.st 11,Ab .u16<|q.st 12,Ab .u16<|q.st 13,Ab .u16<|q.st 14,Ab .u16<|q.st 15,Ac (Aa q.g) q.L q.tc,sv,.map<|An q.d,.map<|An q.b]
def Oa(x:(AH->AH)×AI×AI):AJ Aq:=(CD x.1).toList++[Ab Al x.2.1,Ab Al x.2.2]
structure Dv(W0:Ap)(A:AH)(q:D0)(sts:AJ ((AH->AH)×AI×AI))(sv:Aq)(nf:Lit->Option AH)(mn:AH)(mf:Lit->Option AH)(W:Ap):Prop where
 aq:W.heap[A]?=An (Aj (Sl q sv) 187)
 f:J7 W0 q.h q.a
 m:At q.a<=16/\∀i (h:i<At q.a),q.a[i].1.length<=8
 ac:A0 W0 W
 d:Ed W 9 q.f q.ln q.i
 k:∃cur,W.heap[q.g]?=An (Aj cur 183)/\∀(x r:AH),x<q.L->r<16->cur[x*16+r]?=An (Ab .u16 (q.j x r))
 b:W.ownsRow (Au (Av W0)) 203 18 sv (At sts) (sts.flatMap Oa)
 a:Ed W 183 q.d (At sts) nf
 c:Ed W 199 q.b mn mf
 n:Au (Av W0)<=A/\Au (Av W0)<=q.f/\Au (Av W0)<=q.g/\Au (Av W0)<=q.d/\Au (Av W0)<=q.b
 e:A≠q.f/\A≠q.g/\A≠q.d/\A≠q.b/\q.f≠q.g/\q.f≠q.d/\q.f≠q.b/\q.g≠q.d/\q.g≠q.b/\q.d≠q.b
 a2:∀g,Ax sv=An g->g≠A/\g≠q.f/\g≠q.g/\g≠q.d/\g≠q.b
 bits:(∀r,q.st r<256)/\∀x r,q.j x r<256
 j:∀(i:AH) (x:(AH->AH)×AI×AI),sts[i]?=An x->x.2=EI q.c q.a x.1 0/\∀r,x.1 r<512
 num:∀(i:AH) (x:(AH->AH)×AI×AI),sts[i]?=An x->∀l,keyOf As 183 (.agg (CD x.1))=An l->nf l=An i
 num':∀(l:Lit) (i:AH),nf l=An i->∃x,sts[i]?=An x/\keyOf As 183 (.agg (CD x.1))=An l
def KS{P:Program}{ev:Operand->Aq}{W:X}{o:Oper}{ty:AN}(x:Operand)(c:o.op=.load ty x){g:I}(hx:ev x=A8 g){t:AN}{cs:A3}{fr:I×I}{d:TypeDesc}(b:W.heap[g]?=H (M cs t fr))(e:P.underlying ty=H d)(a:(match d with|.struct _|.array _ _=>AP|_=>AQ)=AP)(hi:(P.info? ty).map (·.size)=H cs.size):(execOp ev o).run P W=.ok (.value<|.agg cs) W:=Bk
def yb{q:D0}(h:Dv W0 A q sts sv nf mn mf W){Y:I->I}{l:Lit}(hl:keyOf As 183 (.agg<|CD Y)=H l)(hi:nf l=H i):Ar As 97 #[A8 A,.agg<|CD Y] W λe g=>e=Ak (C Al i)/\A0 W g:=by
 have d:D<|(Az W<|M (CD Y) 183).heap[O<|U W]?=H (M (CD Y) 183):=Cj _;have k:=Cd h.aq;have j:A6 W A 21<|.map<|H q.d:=Cc h.aq 21;have f:=T<|h.a.kept (L7 W (M (CD Y) 183) Ao) Ba;go_enter func97,ntmps97;go_wp2;have a:(λb:X=>A6 b A 21 (.map<|H q.d)/\A7 b (O<|U W) (CD Y) 183/\Ed b 183 q.d (K sts) nf) {Az W (M (CD Y) 183)with drawn:=(Az W<|M (CD Y) 183).drawn+1}:=⟨((((Cu (O<|U W) W).alloc (Cr _)<|M (CD Y) 183).cell (p:=⟨A,21,Ao⟩) k).trans j :),d,f⟩
 refine Ei (S:=λb=>A6 b A 21 (.map<|H q.d)/\A7 b (O<|U W) (CD Y) 183/\Ed b 183 q.d (K sts) nf) B6 ?_;refine Cb 0 10 (A8 A) a <| Cb 1 11 (A8 A) a <| Cb 2 12 (A9 A 21) a <| Ch 3 13 (.map<|H q.d) Z (λb c=>Bh) a <| Ch 4 14 (.agg<|CD Y) Z (λb c=>by exact KS (.tmp 3) Z Z c.2.1 underlying183 Z<|FV Y) a <| Ch 5 15 (Af #[C Al i,Ah AP]) Z (λb c=>by have m:=Sj c.2.2 Ys underlying179 hl;rw[hi]at m;go_simp) a <| Cb 6 9 (Af #[C Al i,Ah AP]) a <| Cb 7 16 (C Al i) a <| Cb 8 17 (Ah AP) a <| Cb 9 5 (C Al i) a <| Cb 10 6 (Ah AP) a <| CK ?_;go_simp;go_wp2;go_ret;exact⟨Z,(Cm).drew⟩
def Db(c:AU):A1->AJ A1
 |[]=>[[]]
 |x::r=>if x==c then[]::Db c r else match Db c r with
  |h::t=>(x::h)::t
  |[]=>[[x]]
theorem Yt(c:AU)(l:A1):Db c l≠[]:=by cases l<;>grind [Db]
theorem Yu:∀l:A1,(∀x,x∈l->(x==c)=AQ)->Db c l=[l]
 |[],_=>rfl
 |x::r,h=>by have b:=h x<|Mm ..;have d:=Yu r λy a=>h y<|LL _ a;grind [Db]
theorem Yv:∀(a b:A1),(∀x,x∈a->(x==c)=AQ)->Db c (a++c::b)=a::Db c b
 |[],b,_=>by simp[Db]
 |x::a,b,h=>by have e:=h x<|Mm ..;have f:=Yv a b λy d=>h y<|LL _ d;grind [Db]
theorem yc(h:Lib.indexByte l c = -1):Db c l=[l]:=by refine Yu l λx a=>?_;obtain⟨k,b,rfl⟩:=QY a;have:=Lib.indexByte_none h k;grind
theorem yd{o:I}(h:Lib.indexByte l c=o):o<K l/\Db c l=l.take o::Db c (l.drop<|o+1):=by
 obtain⟨a,f⟩:=Lib.indexByte_some h;have d:=Dk a;refine⟨d,?_⟩;have e:l=l.take o++c::l.drop (o+1):=by have b:=(Nt.1 a).2;rw[<-b];simp
 grind [Yv,List.getElem_of_mem,beq_eq_false_iff_ne,List.getElem?_eq_getElem]
def Tryz.infoStr:(prog.info? 9).map (λi=>(i.zero,i.size,i.bytes))=H (H<|.string ByteArray.empty,1,16):=B6
def ye{a:I}:(s.extract a b).data.toList=(s.data.toList.take b).drop a:=by rw[nu];simp[List.drop_take]
structure N6(c:AU)(l:A1)(ps:AJ AT)(f i:AH):Prop where
 fi:f<=i
 il:i<=At l
 len:At ps<=i
 eq:Db c l=ps.map (·.data.toList)++Db c (l.drop f)
 no:∀x,x∈(l.take i).drop f->(x==c)=AQ
theorem N6.next(h:N6 c l ps f i)(hi:i<K l)(hx:(l[i]==c)=AQ):N6 c l ps f<|i+1:=by
 refine⟨AY h.fi,hi,AY h.len,h.eq,λx b=>?_⟩;rw[Vz hi,SM kfz,Ra]at b;rcases b with a|a
 .exact h.no x a
 grind
theorem N6.found(h:N6 c l ps f i)(hi:i<K l)(hx:l[i]=c)(p:AT)(a:p.data.toList=(l.take i).drop f):N6 c l (ps++[p]) (i+1)<|i+1:=by
 refine⟨Cr _,hi,by rw[Dj];have:=h.len;simp;omega,?_,λx b=>?_⟩
 .rw[h.eq,Ka,L9];congr 1;have e:l.drop f=(l.take i).drop f++c::l.drop (i+1):=by
   conv=>lhs;rw[<-ZJ i l]
   rw[SM kfz,K6 hi,hx]
  rw[e,Yv _ _ h.no,<-a];rfl
 grind
theorem N6.a8(h:N6 c l ps f<|K l)(p:AT)(a:p.data.toList=l.drop f):Db c l=(ps++[p]).map (·.data.toList):=by rw[h.eq,Ka];congr 1;have:=h.no;grind [Yu]
theorem Yw(c:AU)(k:J)(B:k=c.toNat)(hs:s.size<=100000):Ar As 101 #[.string s,C .u8 k] w λe V =>
   ∃(v:Aq) (a:AJ AT),e=Ak v/\V.ownsRow (O<|U w) 9 1 v (K a) (a.map Value.string)/\A0 w V/\a.map (·.data.toList)=Db c s.data.toList:=by
 obtain⟨S,F,P,Q,R⟩:=DL Tryz.infoStr;have hl:K s.data.toList=s.size:=Fz;have A:=T B;clear B;go_enter func101,ntmps101;go_wp2
 go_loopg[5,6,7] s.size (λg v x ad wr=>∃(a:AJ AT) (f i:I) (p:A4) (r:I),D (i+g=s.size)/\v=G p (K a) r/\x=C Y f/\ad=C Y i/\D (wr.ownsRow (O<|U w) 9 1 v (K a)<|a.map Value.string)/\D (A0 w wr)/\D (N6 c s.data.toList a f i))
 exact⟨[],0,0,Ao,0,Bg,Z,Z,Z,Fi _ _ _ _,Cu _ _,⟨Cr _,Ex _,Cr _,Ba,λx b=>by simp at b⟩⟩;obtain⟨a,f,i,p,r,o,rfl,rfl,rfl,j,l,d⟩:=hrel;have ae:=d.fi;have ai:=d.len;have N:=l.size;have ag:i<=s.size:=AY<|AE o;obtain _|g:=gk
 .have ab:¬(i:J)<s.size:=AY<|AE o;have af:f<=s.size:=E
  go_wp2_with(first
   |(at_builtin;refine K7 _ Z _ _ 98 Z (O<|U w) 9 S (.string ByteArray.empty) 1 16 underlying98 F P Q R Z B8 _ _ _ Z (j.alloc _) ⟨O<|U wr,0,Ao⟩ 1 1 [.string<|s.extract f s.size] Z Z (cell_one_new _ _ _) (λx b=>by simp at b;subst b;rfl) Bc E B7 ?_;intro z w3 L t ac))
  go_ret;have aa:i=K s.data.toList:=AY<|AE o;have W:=AE d;subst aa;exact⟨z,Z,a++[s.extract f s.size],B9,(l.alloc N _).grown t B7 λq u=>(j.lt q u).1,(W.a8 _<|ah s f).symm⟩
 have ab:(i:J)<s.size:=AY<|AE o;have hn:i<s.size:=E;by_cases hc:(s[i].toNat:J)=k
 .have y:((s[i].toNat:J)==k)=AP:=B9
  go_wp2_with(first
   |(at_builtin;refine K7 _ Z _ _ 98 Z (O<|U w) 9 S (.string ByteArray.empty) 1 16 underlying98 F P Q R Z B8 _ _ _ Z (j.alloc _) ⟨O<|U wr,0,Ao⟩ 1 1 [.string<|s.extract f i] Z Z (cell_one_new _ _ _) (λx b=>by simp at b;subst b;rfl) Bc E B7 ?_;intro z w3 L t ac))
  go_roundg g
  .obtain⟨n,m,aj⟩:∃n m,z=G (Aa n) (K a+1) m:=by rcases L.2 with⟨_,h⟩|⟨n,m,_,h,_⟩<;>grind
   have b:s.data.toList[i]=c:=by have e:s[i].toNat=c.toNat:=AY<|AE A;exact PN.1 e
   exact⟨a++[s.extract f i],i+1,i+1,Aa n,m,B9,B9,Bb,Bb,by grind [D],(l.alloc N _).grown t B7 λq u=>(j.lt q u).1,d.found E b _<|ye⟩
  omega
 have y:((s[i].toNat:J)==k)=AQ:=B9;go_wp2;go_roundg g
 .refine⟨a,f,i+1,p,r,B9,rfl,rfl,Bb,j,l,d.next E ?_⟩;rw[Nv];intro e;exact hc (by rw[AE A,<-e];rfl)
 omega
theorem Yx(h:w.ownsRow base 9 1 v (K ps)<|ps.map Value.string)(o:0<K ps):∃g a,v=G (Aa g) (K ps) a/\base<=g/\g<O (U w)/\∀j (f:j<K ps),A6 w g j<|.string ps[j]:=by
 obtain⟨_,⟨_,l⟩|⟨g,a,b,k,c,d,n,_,m,i⟩⟩:=h
 .omega
 refine⟨g,a,k,c,(Cd d),λj f=>?_⟩;have e:b.toList[j]?=H (.string ps[j]):=by have:=congrArg (·[j]?) i;grind
 grind [cell_of_row]
def jk(c:AU):∀l:A1,K (Db c l)<=K l+1
 |[]=>by simp[Db]
 |x::r=>by
  have d:=jk c r;unfold Db;split
  .simp only[FN];omega
  rcases h:Db c r with _|⟨a,b⟩
  .simp
  rw[h]at d;simp only[FN]at *;omega
theorem Pk(c:AU):∀(l p:A1),p∈Db c l->K p<=K l
 |[],p,h=>by grind [Db]
 |x::r,p,h=>by have a:=λq=>Pk c r q;grind [Db,Nat.le_succ_of_le,absurd,Yt,Nat.succ_le_succ,List.mem_cons_self,List.mem_cons_of_mem]
theorem Ut(h:ps.map (·.data.toList)=Db c l):0<K ps:=by grind [absurd,Yt]
def GL(l:A1):AK:=G8 l||(l==[42]||(l==[42,42]||l==[91,93]))
def Fd(l:A1):AK:=l==[46]||((Db 47 l).all GL&&AR (At (Db 47 l)<=8))
def yf{arr:A3}{c:J}(f:arr[0]?=H (C Y c))(f1:arr[1]?=H (G ea (K L) ecap))(b:K L<=maxLen)(i:¬(1<=c/\c<=6/\K L<=30)):Ar As 59 #[.agg arr] w λe d=>e=Ak (Ah AQ)/\A0 w d:=by
 unfold maxLen at b;have key:c<1\/(1<=c/\6<c)\/(1<=c/\c<=6/\(30:J)<K L):=E;rcases key with h|⟨h,a⟩|⟨h,a,g⟩
 all_goals
  go_enter func59,ntmps59;go_wp2;go_ret;exact⟨Z,Cm⟩
theorem yg{arr:A3}(H:Ws arr n L ea ecap)(h1:1<=n)(hn:n<=6)(hL:K L<=30)(hA:G0 w ea L):Ar As 59 #[.agg arr] w λe w'=>e=Ak (Ah<|Fv n L)/\A0 w w':=by
 have B:=H.f0;have f1:=H.f1;have p:=T<|DC H.size;have HE:=T hA;have ab:D<|(Az w<|M arr 40).heap[O<|U w]?=An (M arr 40):=Cj _;have t:D<|A0 w<|Az w<|M arr 40:=Cm;have aa:D<|O (U<|Az w<|M arr 40)=O (U w)+1:=BR;go_enter func59,ntmps59;go_wp2;generalize Az w (M arr 40)=W0 at *
 go_loopg[3,4] (K L) (λg x y wr=>∃q:I,D (q+g=K L)/\x=C Y q/\Below (O (U w)+1) W0 wr/\D (∀i (h:i<K L),i<q->GD n L[i]=AP))
 grind [D,Below.refl];obtain⟨q,N,rfl,u,b⟩:=hrel;have S:=T<|Ca (Co u _ E) ab;have af:=Ca (Cc S 1) f1;have V:=u.size;rw[AE aa]at V;obtain _|g:=gk
 .have ac:¬(q:J)<K L:=AY<|AE N;have HY:=T<|aT λi h=>b.out i h<|AY<|AE N;go_wp2;go_ret;exact⟨by rw[AE HY];rfl,Cs t<|CG u E⟩
 have ac:(q:J)<K L:=AY<|AE N;obtain⟨ae,off,rfl,ag,e1,e2⟩:=(HE.ac<|Cs t<|CG u E).a0 q E;have F:D<|(Az wr<|M #[C Y L[q].1,C Y L[q].2] 119).heap[O<|U wr]?=An (M #[C Y L[q].1,C Y L[q].2] 119):=Cj _;have c:D<|(Az wr<|M #[C Y L[q].1,C Y L[q].2] 119).heap[O<|U w]?=An (M arr 40):=Ca (CB _ _ _ E) S;have R:D<|GD n L[q]=GD n (L[q].1,L[q].2):=rfl;have j:=ON B L[q].1<|Az wr<|M #[C Y L[q].1,C Y L[q].2] 119;generalize L[q].1=x at *;generalize L[q].2=y at *;have z:D<|Below (O (U w)+1) W0<|Az wr<|M #[C Y x,C Y y] 119:=u.alloc V _;cases P:Dg n x
 .rw[P]at j;have r:D<|Fv n L=AQ:=PU (k:=q) E (by grind [D,GD])
  go_wp2_with(first
   |(refine CO Z 40 _ Z _ Z _ _ _ _ c underlying40 Z p ?_)
   |(go_at_call 60;refine Ce j ?_;rintro e s ⟨rfl,d⟩))
  go_ret;exact⟨by rw[AE r];rfl,Cs (Cs t<|CG z E)<|CG d B7⟩
 rw[P]at j;have ad:=T P;cases Q:Dg n y
 .have r:D<|Fv n L=AQ:=PU (k:=q) E (by grind [D,GD]);have A:=T Q
  go_wp2_with(first
   |(refine CO Z 40 _ Z _ Z _ _ _ _ c underlying40 Z p ?_)
   |(refine F0 Z Z Z c underlying40 Z p ?_)
   |(go_at_call 60;refine Ce j ?_;clear j;rintro e s ⟨rfl,d⟩;have l:=T<|Ca (Co d _ B7) c;clear c;have c:=l;clear l;have a:=T<|Ca (Co d _ Ba) F;have m:=Cc a 0;have o:=Cc a 1;have c2:=ON B y s;rw[AE A]at c2)
   |(go_at_call 60;refine Ce c2 ?_;clear c2;rintro e W ⟨rfl,f⟩;clear m o;have m:=(Cc (Ca (Co f _<|Cd a) a) 0);have o:=(Cc (Ca (Co f _<|Cd a) a) 1)))
  have v:=d.size;rw[CL]at v;go_ret;exact⟨by rw[AE r];rfl,Cs (Cs (Cs t<|CG z E)<|CG d B7)<|CG f E⟩
 have A:=T Q;clear Q;cases ah:(x==y)
 .have r:D<|GD n L[q]=AP:=by grind [D,GD]
  clear R
  go_wp2_with(first
  |(refine CO Z 40 _ Z _ Z _ _ _ _ c underlying40 Z p ?_)
  |(refine F0 Z Z Z c underlying40 Z p ?_)
  |(go_at_call 60;refine Ce j ?_;clear j;rintro e s ⟨rfl,d⟩;have l:=T<|Ca (Co d _ B7) c;clear c;have c:=l;clear l;have a:=T<|Ca (Co d _ Ba) F;have m:=Cc a 0;have o:=Cc a 1;have c2:=ON B y s;rw[AE A]at c2)
  |(go_at_call 60;refine Ce c2 ?_;clear c2;rintro e W ⟨rfl,f⟩;clear m o;have m:=(Cc (Ca (Co f _<|Cd a) a) 0);have o:=(Cc (Ca (Co f _<|Cd a) a) 1)))
  have v:=d.size;rw[CL]at v;go_roundg g
  .refine⟨q+1,B9,Bb,Cs (Cs z<|CG d B7)<|CG f E,?_⟩;grind [D]
  omega
 have r:D<|Fv n L=AQ:=PU (k:=q) E (by grind [D,GD]);clear R
 go_wp2_with(first
 |(refine CO Z 40 _ Z _ Z _ _ _ _ c underlying40 Z p ?_)
 |(refine F0 Z Z Z c underlying40 Z p ?_)
 |(go_at_call 60;refine Ce j ?_;clear j;rintro e s ⟨rfl,d⟩;have l:=T<|Ca (Co d _ B7) c;clear c;have c:=l;clear l;have a:=T<|Ca (Co d _ Ba) F;have m:=Cc a 0;have o:=Cc a 1;have c2:=ON B y s;rw[AE A]at c2)
 |(go_at_call 60;refine Ce c2 ?_;clear c2;rintro e W ⟨rfl,f⟩;clear m o;have m:=(Cc (Ca (Co f _<|Cd a) a) 0);have o:=(Cc (Ca (Co f _<|Cd a) a) 1)))
 have v:=d.size;rw[CL]at v;go_ret;exact⟨by rw[AE r];rfl,Cs (Cs (Cs t<|CG z E)<|CG d B7)<|CG f E⟩
def E3:A3:=#[Ac Ao 0 0,Ab Al 0,Ab Al 0]
def Fp(a:A4)(n cap:AH)(x y:AI):A3:=#[Ac a n cap,Ab Al x,Ab Al y]
def Pm{x:J}:(Fp a n cap x y).all (·.oneCell')=AP:=by simp[Fp,Value.oneCell']
def Uu:E3.all (·.oneCell')=AP:=Pm
def Ob:(prog.info? 193).map (·.size)=H 3:=B6
def Oc(n:AH):AJ A1->AK
 |[a,b,c]=>Fd a&&(IP b n&&F6 ⟨Aw c⟩ != 0)
 |_=>AQ
def Dn(n:AH)(l:A1):AK:=Oc n<|Db 32 l
theorem jl{q:AJ A1}(h:K q≠3):Oc n q=AQ:=by
 match q,h with
 |[],_=>rfl
 |[_],_=>rfl
 |[_,_],_=>rfl
 |_::_::_::_::_,_=>rfl
structure Uv(w:Ap)(arr:A3)(W:Ap):Prop where
 ac:A0 w W
 h:W.heap[Au (Av w)]?=An (Aj arr 40)
 a:W.heap[Au (Av w)+1]?=An (Aj E3 193)
 d:Au (Av w)+1<Au (Av W)
def Uv.a0{arr:A3}(h:Uv w arr W)(hb:A0 W W'):Uv w arr W':=by have:=h.d;exact⟨Cs h.ac<|CG hb h.ac.size,Ca (Co hb _ E) h.h,Ca (Co hb _ E) h.a,CQ this hb.size⟩
theorem yh(w:X)(arr:A3)(hb:Below (O (U w)+1+1) (Az (Az w<|M arr 40)<|M E3 193) w2):Uv w arr w2:=by
 have a:=hb.size;simp only[CL,A0]at a;refine⟨Cs ((Cm).alloc Ba _)<|CG hb E,?_,?_,E⟩
 .rw[Co hb _ E,CB _ _ _ Ba];exact Cj _
 rw[Co hb _ E];grind [Cj,World.size_alloc]
theorem yi(h:K ps=3):∃d e f,ps=[d,e,f]:=by
 match ps,h with
 |[a,b,c],_=>grind
def Sm(p:AT):(⟨Aw p.data.toList⟩:AT)=p:=by cases p;rfl
theorem yj(d:ps.map (·.data.toList)=Db 32 l):(K ps≠3/\Dn n l=AQ)\/∃b a c,ps=[b,a,c]/\((a.size≠1/\Dn n l=AQ)\/∃h:a.size=1,
   ((a[0].toNat:J)<48/\Dn n l=AQ)\/((57:J)<a[0].toNat/\Dn n l=AQ) \/
   ((48:J)<=a[0].toNat/\(a[0].toNat:J)<=57/\Dn n l=(Fd b.data.toList&&(F6 c != 0&&Dg n ((a[0].toNat:J)-48))))):=by
 by_cases g:K ps=3
 .right;obtain⟨b,a,c,rfl⟩:=yi g;refine⟨b,a,c,Z,?_⟩;have e:Dn n l=(Fd b.data.toList&&(IP a.data.toList n&&F6 c != 0)):=by unfold Dn;rw[<-d];simp only[I7,Mv,Oc,Sm]
  by_cases f:a.size=1
  .grind [Xq,IP,Dg]
  left;refine⟨f,?_⟩;rw[e,(eA (n:=n) Bv).2];simp
 left;grind [Dn,jl]
def yk{n g:Nat}{s:ByteArray}{ps:List ByteArray}{w2:World}(hs:s.size<=100000)(HE:ps.map (·.data.toList)=Db 32 s.data.toList)(hcs:∀j (hj:j<ps.length),w2.cell? ⟨g,j,none⟩=some (.string ps[j])):(¬(ps.length:Int)=3/\Hid (Dn n s.data.toList=false)) \/
  (∃p0 p1 p2,ps=[p0,p1,p2]/\w2.cell? ⟨g,1,none⟩=some (.string p1)/\¬(p1.size:Int)=1/\Hid (Dn n s.data.toList=false)) \/
  (∃p0 p1 p2,ps=[p0,p1,p2]/\w2.cell? ⟨g,1,none⟩=some (.string p1)/\∃h:p1.size=1,(p1.size:Int)=1/\(p1[0].toNat:Int)<48/\Hid (Dn n s.data.toList=false)) \/
  (∃p0 p1 p2,ps=[p0,p1,p2]/\w2.cell? ⟨g,1,none⟩=some (.string p1)/\∃h:p1.size=1,(p1.size:Int)=1/\(48:Int)<=p1[0].toNat/\(57:Int)<p1[0].toNat/\Hid (Dn n s.data.toList=false)) \/
  (∃p0 p1 p2,ps=[p0,p1,p2]/\w2.cell? ⟨g,0,none⟩=some (.string p0)/\w2.cell? ⟨g,1,none⟩=some (.string p1)/\w2.cell? ⟨g,2,none⟩=some (.string p2)/\∃h:p1.size=1,(p1.size:Int)=1/\(48:Int)<=p1[0].toNat/\(p1[0].toNat:Int)<=57/\Hid (p0.size<=100000) /\
   Hid (Dn n s.data.toList=(Fd p0.data.toList&&(F6 p2 != 0&&Dg n ((p1[0].toNat:Int)-48))))):=by
 rcases yj HE with⟨h3,HF⟩|⟨p0,p1,p2,rfl,⟨h1,HF⟩|⟨h1,⟨h48,HF⟩|⟨h57,HF⟩|⟨h48,h57,HF⟩⟩⟩
 .exact PT ⟨by omega,HF⟩
 .exact Lc (PT ⟨p0,p1,p2,rfl,hcs 1<|by simp,by omega,HF⟩)
 .exact Lc (Lc<|PT ⟨p0,p1,p2,rfl,hcs 1<|by simp,h1,by omega,h48,HF⟩)
 .exact Lc (Lc<|Lc<|PT ⟨p0,p1,p2,rfl,hcs 1<|by simp,h1,by omega,by omega,h57,HF⟩)
 refine Lc (Lc<|Lc<|Lc ⟨p0,p1,p2,rfl,hcs 0<|by simp,hcs 1<|by simp,hcs 2<|by simp,h1,by omega,h48,h57,?_,HF⟩);show _<=_;have:=Pk 32 s.data.toList p0.data.toList (by rw[<-HE];simp);have h3:s.data.toList.length=s.size:=Fz;have h4:p0.data.toList.length=p0.size:=Fz;omega
def JU(n:AH):AJ A1->AH->AI
 |[],_=>-1
 |p::q,i=>if Dn n p=AP/\i<16 then JU n q (i+1)else i
def E5(n:AH)(l:A1):AI:=if 2000<At l then 0 else if At l=0 then -1 else JU n (Db 10 l) 0
def Tryz.infoRule:(prog.info? 193).map (λi=>(i.zero,i.size,i.bytes))=H (H<|.agg E3,3,40):=B6
def jm{size:I}(h:W.ownsRow base e size v n xs)(m:∀i,i<O (U W)->W'.heap[i]?=W.heap[i]?):W'.ownsRow base e size v n xs:=by
 obtain⟨l,f⟩:=h;refine⟨l,?_⟩;rcases f with f|⟨g,j,k,a,b,c,d⟩
 .exact PT f
 exact Lc ⟨g,j,k,a,b,(m g<|Cd c).trans c,d⟩
structure Uw(w2 wr:Ap)(N:AH)(A:A3)(W:Ap):Prop where
 ac:A0 w2 W
 same:∀i,i<Au (Av wr)->W.heap[i]?=wr.heap[i]?
 aq:W.heap[N]?=An (Aj A 193)
 d:Au (Av wr)<=N
def yl{A:A3}(h:A0 w2 wr)(a:Below (O<|U wr) wr.drew w'):Uw w2 wr (O<|U w') A<|Az w'<|M A 193:=by have b:=h.size;have c:O (U wr)<=O (U w'):=a.size;refine⟨(h.drew.trans<|a.mono b).alloc E _,λi d=>?_,Cj _,c⟩;rw[CB _ _ _ E];exact a.block _ d
def ym{A:A3}(h:A0 w2 wr)(a:Below (O (U wr)+1) (Az wr<|M E3 193).drew w'):Uw w2 wr (O<|U wr) A<|AD w' (O<|U wr) A:=by have b:=h.size;refine⟨Dq (((h.alloc b _).drew).trans<|a.mono E) b,λi c=>?_,CR _ _ E3 _ _ _<|(a.block _ E).trans<|Cj _,Cr _⟩;rw[Do _ _ _ _ E,a.block _ E];exact CB _ _ _ c
def yn{P:Program}{ev:Operand->Aq}{W:X}{o:Oper}{ty:AN}(x:Operand)(c:o.op=.load ty x){g:I}(hx:ev x=A8 g){t:AN}{cs:A3}{fr:I×I}{d:TypeDesc}(b:W.heap[g]?=H (M cs t fr))(e:P.underlying ty=H d)(a:(match d with|.struct _|.array _ _=>AP|_=>AQ)=AP)(hi:(P.info? ty).map (·.size)=H cs.size):(execOp ev o).run P W=.ok (.value<|.agg cs) W:=Bk
section
attribute[local go_sem] Oper.semAt_some
def jq(s c:AT):Ar As 138 #[.string s,.string c] w λe a =>
   e=Ak (.func (.func 195) #[] #[A8<|O (U w)+1,A8<|O<|U w,A8<|O (U w)+1+1]) /\
   a=Az (Az (Az w<|M #[.string s] 9)<|M #[.string c] 9) (M #[C Y 0] 3):=by
 go_enter func138,ntmps138;go_wp2;go_ret;exact⟨Z,Z⟩
abbrev E4:={s:AT // s.size<=2000}
def CM(x:E4):A1:=x.1.data.toList
structure Lz(k:AH)(c:AU)(W:Ap)(r:AT):Prop where
 a:W.heap[k]?=An (Aj #[.string r] 9)
 d:W.heap[k+1]?=An (Aj #[Ae ⟨#[c]⟩] 9)
 b:W.heap[k+1+1]?=An (Aj #[Ab Al 0] 3)
def Lz.a0{r:AT}(h:Lz k c W r)(a:Hb k (k+3) W W'):Lz k c W' r :=
 ⟨Ca (a.same _ E E) h.a,Ca (a.same _ E E) h.d,Ca (a.same _ E E) h.b⟩
def Lz.store{r:AT}(h:Lz k c W r)(r':AT):Lz k c (AB W ⟨k,0,Ao⟩<|.string r') r' :=
 ⟨by rw[DX W _ _ _ _ _ h.a];rfl,Ca (CY W _ _ _ Ba) h.d,Ca (CY W _ _ _ B7) h.b⟩
theorem yq(o:I):W.grownBy (AB W ⟨k,o,Ao⟩ v) (H k) :=
 ⟨rfl,rfl,rfl,Bd,λi _ a=>CY W _ _ _ B9⟩
theorem yr(s:AT)(o:I):(s.extract 0 o).data.toList=s.data.toList.take o:=Bv
theorem yt(s:AT)(o:I):(s.extract o s.size).data.toList=s.data.toList.drop o:=by exact ah s o
theorem yu(s:AT)(o:I)(h:o<=s.size):(s.extract 0 o).size=o:=Bv
theorem jr(s:AT)(o:I):(s.extract o s.size).size=s.size-o:=Bv
theorem jt(n:Nat){k:Nat}{c:UInt8}{s:E4}{w:World}(d:Lz k c w s.1):jo Fence.wide n prog 195 #[A8<|k+1,A8 k,A8<|k+1+1]
   (λx:E4=>#[.string x.1]) k (k+3) k (λxs=>xs.map CM=Db c (CM s)) (λpre=>∃r,Db c (CM s)=pre.map CM++r) w:=by
 intro aq R Jx W j hJ ah hY y;have al:=Cd d.b;have a:Hid<|Lz k c W s.1:=⟨Ca (Co j _ E) d.a,Ca (Co j _ E) d.d,Ca (Co j _ E) d.b⟩
 have P:=T hJ;have t:=T hY;have L:=T y;have ai:=Cc a.out.d 0;refine callsIn_of_wp func195 Z trivial ?_ Z;simp only[ntmps195,K8,FN,J1,Nat.reduceAdd,Nat.reduceSub,Mo,Mp,Mr,Mq,K9,Kv]
 gi_wp2
 gi_loopg[7,8] 2001 (λg x ar wr=>∃(pre:List E4) (r:E4),r.1.size<g/\Hid (Db c (CM s)=pre.map CM++Db c (CM r))/\Hid (Lz k c wr r.1)/\Hid (R pre wr))
 case atStart=>exact⟨[],s,AY s.2,rfl,a,L⟩
 case round =>
  obtain⟨pre,r,hg,HE,a,q⟩:=hrel;have aa:=Cc a.out.a 0;have ab:=Cc a.out.d 0;have aj:=Cc a.out.b 0;rcases Int.lt_or_le (Lib.indexByte (CM r) c) 0 with am|af
  .have ac:Lib.indexByte (CM r) c = -1:=AY<|Lib.indexByte_ge (CM r) c;have N:Hid<|Db c (CM s)=pre.map CM++[CM r]:=by grind [yc]
   have ad:Lib.indexByte r.1.data.toList c = -1:=ac;obtain⟨l,ag,S,V,F,i⟩:=t.out pre r wr q.out
   gi_wp2_with fail
   refine⟨trivial,(λh=>Bs),?_⟩;refine(Kx.2<|Tryz.strings_Index_one r.1 c _).mono ?_;rintro e w2 ⟨rfl,rfl⟩
   gi_wp2
   refine⟨(λh=>Bs),i.mono ?_⟩;rintro e u (⟨rfl,v,z⟩|⟨rfl,f⟩)
   .gi_wp2
    go_end0;grind [Hid]
   gi_wp2
   go_end0;exact⟨⟨_,Z⟩,.inr ⟨pre++[r],⟨[],by rw[N.out];simp⟩,f⟩⟩
  obtain⟨o,A⟩:=PL af;obtain⟨ae,ao⟩:=yd A;have ad:Lib.indexByte r.1.data.toList c=o:=A;have an:o<r.1.size:=by simpa[CM]using ae
  have HM:Hid<|Db c (CM s)=pre.map CM++((CM r).take o::Db c ((CM r).drop<|o+1)):=B9;have m:(r.1.extract 0 o).size<=2000:=by grind [yu]
  have B:(r.1.extract (o+1) r.1.size).size<=2000:=by rw[jr];omega
  have Q:Hid<|Db c (CM s)=(pre++[(⟨r.1.extract 0 o,m⟩:E4)]).map CM++Db c (CM (⟨r.1.extract (o+1) r.1.size,B⟩:E4)):=by grind [CM,yr,yt]
  have ap:(r.1.extract (o+1) r.1.size).size<r.1.size:=by rw[jr];omega
  obtain⟨l,ag,S,V,F,i⟩:=t.out pre ⟨r.1.extract 0 o,m⟩ wr q.out;dsimp only at F
  gi_wp2_with fail
  refine⟨trivial,(λh=>Bs),?_⟩;refine(Kx.2<|Tryz.strings_Index_one r.1 c _).mono ?_;rintro e w2 ⟨rfl,rfl⟩
  gi_wp2
  refine⟨(λh=>Bs),i.mono ?_⟩;rintro e u (⟨rfl,v,z⟩|⟨rfl,f⟩)
  .have b:=T<|a.out.a0 z;have aa:=Cc b.out.a 0;have ab:=Cc b.out.d 0;have ak:=Dy u k 0 _ _ b.out.a;have p:=T v
   gi_wp2
   gi_roundg ((r.1.extract (o+1) r.1.size).size+1)
   case measure=>omega
   case rel=>exact⟨pre++[⟨r.1.extract 0 o,m⟩],⟨r.1.extract (o+1) r.1.size,B⟩,VX _,Q,b.out.store _,P.out _ _ _ p.out<|yq 0⟩
  have p:=T f
  gi_wp2
  refine CS (Wh Z _ _ _) Z ?_;grind [Hid]
end
section
attribute[local go_sem] Oper.semAt_some
structure Tr(N k:AH)(W W':Ap):Prop where
 ac:Below N W W'
 a0:KeepsOthers W W'
 a:Hb k (k+3) W W'
theorem Tr.refl(N k:I)(W:X):Tr N k W W:=⟨Cu _ _,KeepsOthers.refl _,Hb.refl _ _ _⟩
def Tr.trans{A B C:X}(h:Tr N k A B)(g:Tr N k B C):Tr N k A C:=⟨Cs h.ac g.ac,h.a0.trans g.a0,h.a.trans g.a⟩
def Tr.alloc(N k:I)(W:X)(o:Obj)(a:N<=O (U W))(b:k+3<=O (U W)):Tr N k W (Az W o) :=
 ⟨(Cu _ _).alloc a _,KeepsOthers.alloc _ _,⟨Ba,λi _ h=>CB _ _ _ E⟩⟩
def Tr.set(N k:I)(W:X)(p:I)(v:Aq)(c:N<=p)(e:p<k\/k+3<=p):Tr N k W (AB W ⟨p,0,Ao⟩ v) :=
 ⟨Cs (Cu _ _) ⟨rfl,rfl,rfl,Bd,λi d=>CY W _ _ _ B7⟩,KeepsOthers.setCell _ _ _,⟨Bd,λi a b=>CY W _ _ _ B7⟩⟩
def Tr.ai(h:A0 W W')(b:N<=O (U W))(d:k+3<=O (U W)):Tr N k W W' :=
 ⟨CG h b,⟨h.size,λi o a _=>Ca (Co h i<|Cd a) a⟩,⟨h.size,λi _ c=>Co h i E⟩⟩
theorem Tr.grown{size:I}(l:W.ownsRow base e size v n xs)(a:W.grownBy W'<|Ax v)(hb:base<=O (U W))(t:N<=base)(w:k+3<=base):Tr N k W W':=by
 have key:∀g,Ax v=H g->base<=g:=λg h=>by
  rcases l.2 with⟨b,_⟩|⟨q,m,p,rfl,c,_⟩
  .subst b;cases h
  cases h;exact c
 refine⟨⟨a.os,a.tape,a.output,a.size,λi u=>a.block i E λh=>B9⟩,KeepsOthers.of_grownBy a λj o d f=>?_,⟨a.size,λi _ s=>a.block i E λh=>B9⟩⟩;rcases l.2 with⟨b,_⟩|⟨q,m,p,rfl,c,r,_⟩
 .subst b;cases d
 cases d;rw[r]at f;cases f;rfl
structure Sn(w:Ap)(pre:AJ E4)(c:Code)(W:Ap):Prop where
 ret:c=.ret
 ac:A0 w W
 d:Boxed W (Au (Av w)) 247 (Ac Ao 0 0)
 b:Boxed W (Au (Av w)+1) 4 (Ah AQ)
 a:8<At pre\/pre.all (λx=>GL (CM x))=AQ
 size:Au (Av w)+6<=Au (Av W)
theorem Sn.a2{pre:AJ E4}{c:Code}(h:Sn w pre c W)(a:W.grownBy W'<|H row)(b:O (U w)+2<=row):Sn w pre c W' :=
 ⟨h.ret,Cs h.ac ⟨a.os,a.tape,a.output,a.size,λi d=>a.block i Bn BF⟩,h.d.kept a BF,h.b.kept a BF,h.a,CE h.size a.size⟩
def ju(w:X):Tr (O<|U w) (O (U w)+3) W (AB (AB W ⟨O<|U w,0,Ao⟩<|G Ao 0 0) ⟨O (U w)+1,0,Ao⟩<|Ah AQ) :=
 (Tr.set _ _ W (O<|U w) _ (Cr _) E).trans<|Tr.set _ _ _ (O (U w)+1) _ E E
def Jo:AH->A1
 |0=>[42]
 |1=>[42,42]
 |_=>[91,93]
def Tryz.infoSeg:(prog.info? 254).map (λi=>(i.zero,i.size,i.bytes))=H (H<|Ag #[C Y 0,.string ByteArray.empty],2,24):=B6
theorem yv(a:(Az (Az (Az (Az (Az (Az w<|M #[G Ao 0 0] 247)<|M #[Ah AQ] 4)<|M #[G Ao 0 0] 247)<|M #[.string s] 9)<|M #[Ae ⟨#[47]⟩] 9)<|M #[C Y 0] 3)=W0):Lz (O (U w)+3) 47 W0 s:=by
 subst a;generalize hA:Az (Az (Az w<|M #[G Ao 0 0] 247)<|M #[Ah AQ] 4) (M #[G Ao 0 0] 247)=A;have b:O (U w)+3=O (U A):=by rw[<-hA];simp
 rw[b];refine⟨?_,?_,?_⟩<;>grind [Below.heap_alloc,Cj,World.size_alloc]
theorem Yy{x:E4}(h:(x.1.toList==Jo i)=AP):GL (CM x)=AP:=by
 have e:CM x=Jo i:=kem;rw[e];unfold GL
 match i with
 |0=>simp[Jo]
 |1=>simp[Jo]
 |_+2=>simp[Jo]
theorem yw{x:E4}(h:∀i,i<3->(x.1.toList==Jo i)=AQ):GL (CM x)=G8 x.1.data.toList:=by have e:CM x=x.1.toList:=kem;have a:=h 0 E;have b:=h 1 E;have c:=h 2 E;grind [Jo,GL,Lib.toList_data]
theorem Uy{o:Obj}{cs:A3}:∀(j:I) (u:Aq),cs.toList[j]?=H u->(Az (Az w o)<|M cs t).cell? ((⟨O (U w)+1,0,Ao⟩:Addr).add j)=H u:=λj u a=>by grind [cell_of_row,Cj,World.size_alloc,JA]
def yy{hs:s.size<=2000}{xs:AJ E4}(d:(s.toList==[46])=AQ)(h:xs.map CM=Db 47 (CM ⟨s,hs⟩))(b:K xs<=8)(c:xs.all (λx=>GL<|CM x)=AP):Fd s.data.toList=AP:=by have a:Db 47 s.data.toList=xs.map CM:=h.symm;unfold Fd;rw[a,<-SL,d,LN,Fm b,List.all_map];simpa[Function.comp]using c
theorem yz{hs:s.size<=2000}{pre:AJ E4}{r:AJ A1}(a:(s.toList==[46])=AQ)(h:Db 47 (CM ⟨s,hs⟩)=pre.map CM++r)(hb:8<K pre\/pre.all (λx=>GL<|CM x)=AQ):Fd s.data.toList=AQ:=by grind [CM,Fd,Lib.toList_data]
def yA(V:X):(Instr.index 326 (Ag #[Ae ⟨#[42]⟩,C Y 0,Ae ⟨#[42,42]⟩,C Y 1,Ae ⟨#[91,93]⟩,C Y 2])<|C Y 0).run As V=.ok (Ag #[Ae ⟨#[42]⟩,C Y 0]) V:=B6
def yB(V:X):(Instr.index 326 (Ag #[Ae ⟨#[42]⟩,C Y 0,Ae ⟨#[42,42]⟩,C Y 1,Ae ⟨#[91,93]⟩,C Y 2])<|C Y 1).run As V=.ok (Ag #[Ae ⟨#[42,42]⟩,C Y 1]) V:=B6
def yC(V:X):(Instr.index 326 (Ag #[Ae ⟨#[42]⟩,C Y 0,Ae ⟨#[42,42]⟩,C Y 1,Ae ⟨#[91,93]⟩,C Y 2])<|C Y 2).run As V=.ok (Ag #[Ae ⟨#[91,93]⟩,C Y 2]) V:=B6
def yD{a:Act}(L:Array AK)(b:I)(c:X->AJ (I×Aq))(T:X->Prop)(d:X->X)(e:(∀V,T V->wpAnyIn F n P md ops Q b L ((c V).foldl (λa p=>a.put (H p.1) p.2) a) (d V))->wpAnyIn F n P md ops Q fuel listed a w)(f:∀V,T V->wpAnyIn F n P md ops Q b L ((c V).foldl (λa p=>a.put (H p.1) p.2) a) (d V)):wpAnyIn F n P md ops Q fuel listed a w:=e f
theorem yE{nF:I}{a:Act}{K:Act->X->Prop}{s x:Operand}(f:o.op=.call {callee:=.builtin .append,args:=#[s,x],argTypes:=#[t,t]}){i:TypeInfo}{size:I}(V:P.underlying t=H (.slice e))(hi:P.info? e=H i)(W:i.zero=H z)(R:i.size=size)(r:i.bytes=bytes)(aa:z.cells.size=size)(S:0<size)(N:a.eval s=v)(B:w.ownsRow base e size v n xs){ad:Addr}(m c:I)(hx:a.eval x=G (H ad) m c)(hl:At news=m*size)(A:∀j u,news[j]?=H u->AC w (ad.add j)=H u)(g:∀u∈news,u.oneCell'=AP)(p:n+m<=maxLen)(y:(n+m)*bytes<=140737488355328)(q:base<=O (U w))(h:∀d b,b.ownsRow base e size d (n+m) (xs++news)->w.grownBy b (Ax v)->K (a.put o.dst d) b):o.wpIn F nF P a w K Q:=by obtain⟨d,b,L,k,l,_⟩:=Rd (P:=P) w base t o.type e i z size bytes V hi W R r aa S v n xs B ad m c news hl A g p y q;unfold Oper.wpIn;refine⟨by simp[Oper.about,f,resolve,Target.leads,Ge],?_⟩;rw[Oper.semAt_plain F _ _ B9];simp[execOp,f,resolve,invoke,builtin,N,hx,L,Result.andThen];exact h d b k l
end
def EA(Y:AH->AH)(x:AI×AI):A3:=CD Y++#[Ab Al x.1,Ab Al x.2]
def Kr{c:Prop}[Decidable c]{A B:Prop}(h:c)(a:A):if c then A else B:=by rw[Cp h];exact a
def yG(a:I->I)(x:J×J)(V:X):(Instr.buildSlice 185 1 #[(0,.agg<|EA a x)]).run As V=.ok (G (Aa<|O<|U V) 1 1) (Az V<|M (EA a x) 203):=B6
def jv{a:Act}{K:Act->X->Prop}(x:Operand)(c:o.op=.buildSlice 185 1 #[(0,x)])(b:I->I)(z:J×J)(hx:a.eval x=.agg (EA b z))(h:K (a.put o.dst<|G (Aa<|O<|U w) 1 1)<|Az w<|M (EA b z) 203):o.wp As a w K Q:=by
 have e:(#[(0,x)].map λ(i,y)=>(i,a.eval y))=#[((0:I),Value.agg<|EA b z)]:=by simp[hx]
 unfold Oper.wp execOp;simp only[c,GT,e,yG,FZ];exact h
def jw{a:Act}{K:Act->X->Prop}(s x:Operand)(B:o.op=.call {callee:=.builtin .append,args:=#[s,x],argTypes:=#[t,t]}){i:TypeInfo}{size:I}(V:P.underlying t=H (.slice e))(hi:P.info? e=H i)(W:i.zero=H z)(R:i.size=size)(r:i.bytes=bytes)(aa:z.cells.size=size)(S:0<size)(N:a.eval s=v)(F:w.ownsRow base e size v n xs){ad:Addr}(m c:I)(hx:a.eval x=G (H ad) m c)(hl:At news=m*size)(A:∀j u,news[j]?=H u->AC w (ad.add j)=H u)(f:∀u∈news,u.oneCell'=AP)(p:n+m<=maxLen)(y:(n+m)*bytes<=140737488355328)(q:base<=O (U w))(h:∀b d,d.ownsRow base e size b (n+m) (xs++news)->w.grownBy d (Ax v)->(Ax b=Ax v\/Ax b=H (O<|U w))->K (a.put o.dst b) d):o.wp P a w K Q:=by obtain⟨b,d,L,g,k,_,l⟩:=av (P:=P) w base t o.type e i z size bytes V hi W R r aa S v n xs F ad m c news hl A f p y q;unfold Oper.wp execOp;simp only[B,resolve,invoke,builtin,GT,Ge,FZ,OE,I7,Mv,N,hx,L];exact h b d g k l
theorem QD{size:I}(b:W.ownsRow base e size v n xs)(h:Ax v=H g):g<O (U W):=by rcases b.2 with⟨a,_⟩|⟨f,c,d,a,_,i,_⟩<;>grind [Value.ownBlock]
def Tryz.infoSt:(prog.info? 203).map (λi=>(i.zero,i.size,i.bytes))=H (H<|.agg<|EA E8 (0,0),18,48):=B6
theorem jx{Y:I->I}{x:J×J}:∀u∈(EA Y x).toList,u.oneCell'=AP:=by intro u a;simp[EA,CD]at a;rcases a with⟨i,_,rfl⟩|rfl|rfl<;>rfl
theorem Dv.next{q:D0}(h:Dv W0 A q sts sv nf mn mf W)(hb:A0 W W'):Dv W0 A q sts sv nf mn mf W':=by
 have a:W.grownBy W' Ao:=⟨hb.os,hb.tape,hb.output,hb.size,λi b _=>hb.block i b⟩
 obtain⟨d,c,e⟩:=h.k;exact{h with
  aq:=(hb.block _<|Cd h.aq).trans h.aq
  ac:=h.ac.trans (hb.mono h.ac.size)
  d:=h.d.kept a Ba
  k:=⟨d,(hb.block _<|Cd c).trans c,e⟩
  b:=jm h.b (λi b=>hb.block i b)
  a:=h.a.kept a Ba
  c:=h.c.kept a Ba}
def yH(c:AJ<|(I->I)×J×J)(b:I->I)(a:J×J):(c++[(b,a)]).flatMap Oa=c.flatMap Oa++(EA b a).toList:=by simp[Oa,EA]
def yJ(q:D0)(b a:Aq):Ay (Sl q b) 20 a=Sl q a:=rfl
def Ed.cell{m:I}{f:Lit->Option I}(h:Ed W kt m n f)(A j:I)(v:Aq)(d:m≠A):Ed (AB W ⟨A,j,Ao⟩ v) kt m n f:=by obtain⟨a,b,c⟩:=h;exact⟨a,b.setCell keo v,c⟩
theorem Ed.drew{m:I}{f:Lit->Option I}(h:Ed W kt m n f):Ed W.drew kt m n f:=h
def QE{size:I}(h:W.ownsRow base e size v n xs)(k:∀g,Ax v=H g->W'.heap[g]?=W.heap[g]?):W'.ownsRow base e size v n xs:=by
 refine⟨h.1,?_⟩;rcases h.2 with a|⟨b,c,d,a,f,j,i⟩
 .exact AF a
 exact AG ⟨b,c,d,a,f,(k b kfr).trans j,i⟩
structure Jp(A:AH)(q:D0)(sv:Aq)(W W':Ap):Prop where
 size:Au (Av W)<=Au (Av W')
 block:∀i,i<Au (Av W)->An i≠Ax sv->i≠A->i≠q.d->i≠q.b->W'.heap[i]?=W.heap[i]?
theorem yK{W0:Ap}{q:D0}{X:Ap}(h:Dv W0 A q sts sv nf mn mf X){Y:I->I}(W:∀ab,Y ab<512){l:Lit}(hl:keyOf As 183 (.agg<|CD Y)=H l)(hi:nf l=Ao)(ac:K sts<100000){w4:Ap}(t:w4.ownsRow (O<|U W0) 203 18 v' (K sts+1)<|sts.flatMap Oa++(EA Y<|EI q.c q.a Y 0).toList)(c:X.grownBy w4<|Ax sv)(ad:Ax v'=Ax sv\/Ax v'=H (O<|U X)):∃d,(Instr.mapUpdate 179 (.map<|H q.d) (.agg<|CD Y)<|C Al<|K sts).run As (AB w4 ⟨A,20,Ao⟩ v').drew=.ok () d/\(AB w4 ⟨A,20,Ao⟩ v').drew.grownBy d (H q.d)/\(∀i,i<O (U X)->H i≠Ax sv->i≠A->i≠q.d->d.heap[i]?=X.heap[i]?)/\O (U X)<=O (U d)/\∃j,Dv W0 A q (sts++[(Y,EI q.c q.a Y 0)]) v' j mn mf d:=by
 obtain⟨y,B,s,F,a5,L,a7,N,a9,z⟩:=h.e;obtain⟨u1,u2,u3,u4,u5⟩:=h.n;have nA:H A≠Ax sv:=λe=>(h.a2 A e.symm).1 Z;have nl:H q.f≠Ax sv:=λe=>(h.a2 _ e.symm).2.1 Z;have nt:H q.g≠Ax sv:=λe=>(h.a2 _ e.symm).2.2.1 Z;have nn:H q.d≠Ax sv:=λe=>(h.a2 _ e.symm).2.2.2.1 Z;have nm:H q.b≠Ax sv:=λe=>(h.a2 _ e.symm).2.2.2.2 Z;obtain⟨P,w,t2⟩:=h.k;have lA:=Cd h.aq;have lt:=Cd w;have ll:=h.d.lt;have ln:=h.a.lt;have lm:=h.c.lt;have V:=((h.a.kept c nn).cell A 20 v' s.symm).drew;obtain⟨d,hr,hf,b⟩:=Yr V Ys underlying179 E hl (K sts) E;have aa:∀g,Ax v'=H g->g≠A/\g≠q.f/\g≠q.g/\g≠q.d/\g≠q.b:=B9;have n:∀i,i<O (U X)->H i≠Ax sv->i≠A->i≠q.d->d.heap[i]?=X.heap[i]?:=by intro i h1 m R S;have s4:=CQ h1 c.size;have p:(AB w4 ⟨A,20,Ao⟩ v').drew.heap.size=O (U w4):=Bv;exact(b.block i (by rw[p];exact s4)<|by simpa using S).trans<|(Gz w4 _ _ _ kf7).trans<|c.block i h1 m
 obtain⟨j,e1,Q⟩:∃j:Lit->Option I,j l=H (K sts)/\∀a,a≠l->j a=nf a:=by have:=Classical.propDecidable;exact⟨λa=>if a=l then H (K sts)else nf a,Cp Z,λa k=>Cl k⟩
 have v:O (U X)<=O (U d):=by have:=c.size;have m:=b.size;grind [World.setCell,World.drew]
 refine⟨d,hr,b,n,v,j,?_⟩;exact{
  aq:=by
   have r4:=(c.block A lA nA).trans h.aq;have u:(AB w4 ⟨A,20,Ao⟩ v').drew.heap[A]?=H (M (Sl q v') 187):=by have:=DX w4 A 20 _ _ v' r4;rw[yJ]at this;exact this
   exact(b.block A (Cd u) keX).trans u
  f:=h.f
  m:=h.m
  ac:=⟨by rw[b.os];exact c.os.trans h.ac.os,by rw[b.tape];exact c.tape.trans h.ac.tape,by rw[b.output];exact c.output.trans h.ac.output,CE h.ac.size v,λi hi=>(n i (CQ hi h.ac.size) (λe=>AY<|DK h.b e.symm) E E).trans<|h.ac.block i hi⟩
  d:=(((h.d.kept c nl).cell A 20 v' y.symm).drew).kept b kfl
  k:=⟨P,(n _ lt nt B.symm N).trans w,t2⟩
  b:=by rw[yH,Dj];refine QE t λg e=>?_;have p:(AB w4 ⟨A,20,Ao⟩ v').drew.heap.size=O (U w4):=Bv;exact(b.block g (by rw[p];exact QD t e) B9).trans (Gz w4 _ _ _ B9)
  a:=Bv
  c:=(((h.c.kept c nm).cell A 20 v' F.symm).drew).kept b (by simpa using z.symm)
  n:=h.n
  e:=h.e
  a2:=aa
  bits:=h.bits
  j:=λi x f=>by
   by_cases o:i<K sts
   .rw[Hg o]at f;exact h.j i x f
   rw[Jc E]at f;obtain⟨_,rfl⟩:i-K sts=0/\(Y,EI q.c q.a Y 0)=x:=B9;exact⟨Z,W⟩
  num:=λi x f a r=>by
   by_cases o:i<K sts
   .rw[Hg o]at f;have:=h.num i x f a r;grind
   grind
  num':=λa i k=>by
   by_cases e:a=l
   .simp_all
   rw[Q a e]at k;obtain⟨x,h1,m⟩:=h.num' a i k;grind}
def Pn(sv sv':Aq)(W:Ap):Prop:=Ax sv'=Ax sv\/∃g,Ax sv'=An g/\Au (Av W)<=g
def Pn.mono{sv':Aq}(h:Pn sv sv' V)(a:O (U W)<=O (U V)):Pn sv sv' W:=h.imp id λ⟨g,e,h⟩=>⟨g,e,CE a h⟩
theorem yL{q:D0}(h:Dv W0 A q sts (G sa (K sts) sc) nf mn mf W){Y:I->I}(hY:∀r,Y r<512){l:Lit}(hl:keyOf As 183 (.agg<|CD Y)=H l)(hi:nf l=Ao)(az:K sts<100000):Ar As 97 #[A8 A,.agg<|CD Y] W λe W'=>e=Ak (C Al<|K sts)/\Jp A q (G sa (K sts) sc) W W'/\∃ad ae R,Pn (G sa (K sts) sc) (G ad (K sts+1) ae) W/\Dv W0 A q (sts++[(Y,EI q.c q.a Y 0)]) (G ad (K sts+1) ae) R mn mf W':=by
 have HB:D<|(Az W<|M (CD Y) 183).heap[O<|U W]?=H (M (CD Y) 183):=Cj _;have y:D<|Dv W0 A q sts (G sa (K sts) sc) nf mn mf<|Az W<|M (CD Y) 183:=h.next Cm
 have a5:A≠O (U W):=AY<|Cd h.aq;have a0:=T h.a.lt;have a1:D (∀g,Ax (AX sa (K sts) sc)=H g->g<O (U W)):=λg e=>QD h.b e;go_enter func97,ntmps97;go_wp2;have HW:D<|A0 W<|Az W<|M (CD Y) 183:=Cm;generalize Az W (M (CD Y) 183)=V at *;refine Dl (S:=λa=>A6 a A 21 (.map<|H q.d)/\A7 a (O<|U W) (CD Y) 183/\Ed a 183 q.d (K sts) nf) (⟨Cc y.aq 21,HB,y.a⟩) B6 λb=>Cb 0 10 (A8 A) b <| Cb 1 11 (A8 A) b <| Cb 2 12 (A9 A 21) b <| Ch 3 13 (.map<|H q.d) Z (λa d=>by have z1:=d.1;go_simp) b <| Ch 4 14 (.agg<|CD Y) rfl (λa d=>by exact KS (.tmp 3) rfl rfl d.2.1 underlying183 rfl<|FV Y) b <| Ch 5 15 (Af #[C Al 0,Ah AQ]) rfl (λa d=>by have z2:=Sj d.2.2 Ys underlying179 hl;rw[hi]at z2;go_simp) b <| Cb 6 9 (Af #[C Al 0,Ah AQ]) b <| Cb 7 16 (C Al 0) b <| Cb 8 17 (Ah AQ) b <| Cb 9 5 (C Al 0) b <| Cb 10 6 (Ah AQ) b <| CK ?_;go_simp;have i:=T<|y.next (Cu _ _).drew;have B:D<|(World.drew V).heap[O<|U W]?=H (M (CD Y) 183):=AE HB;have aa:=T<|HW.drew;generalize World.drew V=V1 at *;have al:A6 V1 A 20<|G sa (K sts) sc:=Cc i.aq 20;have cJ:=xG Y (λr=>AY<|hY r) i.m.1 i.m.2 (Cd i.aq) (Cc i.aq 0) (Cc i.aq 1)<|i.f.ac i.ac
 go_wp2_with(first
  |(go_at_call 141;refine cJ.mono ?_;rintro e f ⟨rfl,Q⟩;have z:=T<|i.next Q;have F:=T<|(Q.block _<|Cd B).trans B;have P:=T<|aa.trans<|Q.mono aa.size;have al:A6 f A 20<|G sa (K sts) sc:=Cc z.aq 20)
  |(refine CO Z 183 (.tmp 3) Z (O<|U W) Z _ _ _ _ B underlying183 Z (FV Y) ?_))
 obtain⟨si,ay,au,av,aw⟩:=DL Tryz.infoSt;have a4:=Cd z.aq;have o:D<|Dv W0 A q sts (G sa (K sts) sc) nf mn mf<|f.drew.alloc<|M (EA Y<|EI q.c q.a Y 0) 203:=(z.next (Cu _ _).drew).next Cm
 have t:(λa:X=>A7 a (O<|U W) (CD Y) 183)<|f.drew.alloc<|M (EA Y<|EI q.c q.a Y 0) 203:=(CB f.drew _ _<|Cd F).trans F;have ah:D (∀(j:I) (af:Aq),(EA Y<|EI q.c q.a Y 0).toList[j]?=H af->(f.drew.alloc<|M (EA Y<|EI q.c q.a Y 0) 203).cell? ((⟨O<|U f,0,Ao⟩:Addr).add j)=H af):=EU (w:=f.drew);refine Dl (S:=λa=>A7 a (O<|U W) (CD Y) 183) (F) B6 λb=>Cb 0 31 (A8 A) b <| Cb 1 32 (A8 A) b <| Cb 2 33 (A8 A) b <| Cb 3 34 (A9 A 20) b <| Ch 5 36 (.agg<|CD Y) Z (λa d=>by exact KS (.tmp 3) Z Z d underlying183 Z<|FV Y) b <| Cb 6 37 (C Al (EI q.c q.a Y 0).1) b <| Cb 7 38 (C Al (EI q.c q.a Y 0).2) b <| Ch 8 39 (.agg<|EA Y<|EI q.c q.a Y 0) Z (λa d=>B6) b <| Hj 4 9 (λp c=>?_) (λp c=>?_)
 focus
  go_simp;refine c.out _ _ b λ_=>?_;refine CH 9 λp c=>?_;refine Kr B6 ?_;refine jv (.tmp 39) Z Y (EI q.c q.a Y 0) B6 ?_;refine c.out _ _ t λ_=>?_
 rotate_left
 focus
  refine Kr B6 ?_;refine jv (.tmp 39) Z Y (EI q.c q.a Y 0) B6 ?_;refine c.out _ _ t λ_=>?_;refine CH 4 λp c=>?_;go_simp;refine c.out _ _ t λ_=>?_
 all_goals
  refine CH 10 λp c=>?_;refine Kr B6 ?_;refine jw (.tmp 35) (.tmp 40) Z underlying185 ay au av aw Z B8 B6 o.b 1 1 B6 ?hln ah (jx) Bc E o.ac.size ?_
  case hln=>simp[EA,CD]
  intro v' k ab ar ac;obtain⟨n,m,rfl⟩:=ownsRow_succ ab;have aj:=T ab;have L:=T ar;have ak:=T ac;have ai:D<|Pn (G sa (K sts) sc) (G (Aa n) (K sts+1) m) W:=ac.imp id λe=>⟨_,e,B9⟩;have an:=Cd o.aq;have N:=T<|(L.block A an λe=>(o.a2 A e.symm).1 Z).trans o.aq;have v:=(L.block (O<|U W) (Cd t) λe=>by grind [D]).trans t;have a2:A6 k A 20<|G sa (K sts) sc:=Cc N 20;have a3:=Dy k A 20 _ _ N;have x:(λa:X=>A7 a (O<|U W) (CD Y) 183)<|AB k ⟨A,20,Ao⟩<|G (Aa n) (K sts+1) m:=(Gz k _ _ _ B7).trans v;refine c.out _ _ v λ_=>?_;refine Cb 11 42 (A8 A) v <| Cb 12 43 (A9 A 20) v <| CH 13 λp c=>?_;go_simp;refine c.out _ _ x λ_=>?_;refine CK ?_;go_simp;obtain⟨w6,a6,aq,ap,ax,R,am⟩:=yK o hY hl hi az aj L ak;have u:=T am;have ag:D<|Jp A q (G sa (K sts) sc) W w6:=by have s3:O (U f)<=O (U<|f.drew.alloc<|M (EA Y<|EI q.c q.a Y 0) 203):=Bv;refine⟨CE P.size<|CE s3 ax,λj h1 h2 h3 h4 _=>?_⟩;have hj:=CQ h1 P.size;exact(ap j (CQ hj s3) h2 h3 h4).trans<|(CB f.drew _ _ hj).trans<|P.block j h1
  have s:(λa:X=>A6 a A 21 (.map<|H q.d)/\A7 a (O<|U W) (CD Y) 183) { (AB k ⟨A,20,Ao⟩<|G (Aa n) (K sts+1) m)with drawn:=(AB k ⟨A,20,Ao⟩<|G (Aa n) (K sts+1) m).drawn+1}:=⟨by have h:=DX k A 20 _ _ (G (Aa n) (K sts+1) m) N;exact Cc h 21,x⟩
  have ao:(λa:X=>A6 a A 21 (.map<|H q.d)/\A7 a (O<|U W) (CD Y) 183) w6:=⟨Cc u.aq 21,(aq.block (O<|U W) (Cd x)<|by grind [D]).trans x⟩
  generalize AB k ⟨A,20,Ao⟩ (G (Aa n) (K sts+1) m)=V5 at *;go_wp2;refine Ei (S:=λa=>A6 a A 21 (.map<|H q.d)/\A7 a (O<|U W) (CD Y) 183) B6 ?_;refine Cb 0 44 (A8 A) s <| Cb 1 45 (A8 A) s <| Cb 2 46 (A9 A 21) s <| Ch 3 47 (.map<|H q.d) Z (λa d=>by have z1:=d.1;go_simp) s <| Ch 4 48 (.agg<|CD Y) rfl (λa d=>by exact KS (.tmp 3) rfl rfl d.2 underlying183 rfl<|FV Y) s <| Cb 5 49 (C Al<|K sts) s <| CH 6 λp c=>?_;go_simp;refine c.out _ _ ao λ_=>?_;refine CK ?_;go_simp;go_wp2;go_ret;exact⟨Z,ag,Aa n,m,R,ai,u⟩
def zS(W0:Ap)(A:AH)(q:D0)(sts:AJ<|(AH->AH)×AI×AI)(sv:Aq)(mn:AH)(mf:Lit->Option AH)(Y:AH->AH)(W:Ap)(e:Ending)(W':Ap):Prop :=
 ∃(i:AH) (sts':AJ<|(AH->AH)×AI×AI) (sa':A4) (sc':AH) (nf':Lit->Option AH),e=Ak (Ab Al i)/\Jp A q sv W W'/\Dv W0 A q sts' (Ac sa' (At sts') sc') nf' mn mf W'/\(∀(j:AH) (x:(AH->AH)×AI×AI),sts[j]?=An x->sts'[j]?=An x)/\At sts'<=At sts+1/\∃x,sts'[i]?=An x/\∀r,r<16->x.1 r=Y r
def zU(W0:Ap)(A:AH)(q:D0)(sts:AJ<|(AH->AH)×AI×AI)(sv:Aq)(mn:AH)(mf:Lit->Option AH)(Y:AH->AH)(W:Ap)(e:Ending)(W':Ap):Prop :=
 ∃(i:AH) (sts':AJ<|(AH->AH)×AI×AI) (sa':A4) (sc':AH) (nf':Lit->Option AH),e=Ak (Ab Al i)/\Jp A q sv W W'/\Pn sv (Ac sa' (At sts') sc') W/\Dv W0 A q sts' (Ac sa' (At sts') sc') nf' mn mf W'/\(∀(j:AH) (x:(AH->AH)×AI×AI),sts[j]?=An x->sts'[j]?=An x)/\At sts'<=At sts+1/\∃x,sts'[i]?=An x/\∀r,r<16->x.1 r=Y r
theorem YH{W0:Ap}{q:D0}{W:Ap}(h:Dv W0 A q sts (G sa (K sts) sc) nf mn mf W){Y:I->I}(c:∀r,Y r<512)(m:K sts<100000):Ar As 97 #[A8 A,.agg<|CD Y] W<|zU W0 A q sts (G sa (K sts) sc) mn mf Y W:=by
 obtain⟨l,b⟩:=Yo (X:=Y) λr=>AY<|c r;rcases hi:nf l with _|i
 .refine Ce (yL h c b hi m) ?_;rintro e f ⟨rfl,hF,p,s,o,u,t⟩;refine⟨K sts,sts++[(Y,EI q.c q.a Y 0)],p,s,o,Z,hF,?_,?_,λj x d=>?_,?_,(Y,EI q.c q.a Y 0),Ba,λ_ _=>rfl⟩<;>grind
 refine Ce (yb h b hi) ?_;rintro e f ⟨rfl,a⟩;obtain⟨x,n,k⟩:=h.num' l i hi;exact⟨i,sts,sa,sc,nf,rfl,⟨a.size,λj d _ _ _ _=>Co a j d⟩,AF rfl,h.next a,λ_ _ g=>g,OJ _,x,n,jb<|Value.agg.inj<|Ym.inj k b⟩
def zV{q:D0}(h:Dv W0 A q sts (G sa (K sts) sc) nf mn mf W){Y:I->I}(f:∀r,Y r<512)(g:K sts<100000):Ar As 97 #[A8 A,.agg<|CD Y] W (zS W0 A q sts (G sa (K sts) sc) mn mf Y W) :=
 Ce (YH h f g) λ_ _ ⟨i,s,a,c,n,b,d,_,e⟩=>⟨i,s,a,c,n,b,d,e⟩
theorem jM(c:AU):∀l:A1,(Lib.index l [c] = -1/\Db c l=[l])\/∃a r,l=a++c::r/\Lib.index l [c]=K a/\Db c l=a::Db c r
 |[]=>PT ⟨rfl,rfl⟩
 |x::r=>by
  by_cases e:x=c
  .grind [Lib.index,Db]
  have h:([c].isPrefixOf (x::r))=AQ:=B9;have g:(x==c)=AQ:=by simp[e]
  rcases jM c r with⟨b,d⟩|⟨a,q,b,d,f⟩<;>grind [Lib.index,Db]
theorem Nb(c:AU)(l:A1):(Lib.cut l [c]=(l,[],AQ)/\Db c l=[l])\/∃a r,Lib.cut l [c]=(a,r,AP)/\l=a++c::r/\Db c l=a::Db c r:=by
 rcases jM c l with⟨b,d⟩|⟨a,r,b,d,e⟩
 .grind [Lib.cut]
 right;refine⟨a,r,?_,b,e⟩;unfold Lib.cut;simp_all
def UE(n:AH)(l:A1):AK :=
 Fd (Lib.cut l [32]).1&&(IP (Lib.cut (Lib.cut l [32]).2.1 [32]).1 n&&F6 ⟨(Lib.cut (Lib.cut l [32]).2.1 [32]).2.1.toArray⟩ != 0)
theorem YI(l:A1):F6 ⟨Aw l⟩=if l==[100,114,111,112]then 1 else if l==[109,97,115,107]then 2 else if l==[116,97,103]then 3 else 0:=by unfold F6;rw[SL]
theorem jN(a r:A1):F6 ⟨Aw (a++32::r)⟩=0:=by have b:(32:AU)∈a++32::r:=Ba;grind [YI]
theorem jO(n:I)(l:A1):UE n l=Dn n l:=by
 unfold UE Dn;rcases Nb 32 l with⟨f,g⟩|⟨a,r,f,_,g⟩
 .rw[f,g];rcases Nb 32 []with⟨c,h⟩|⟨a,r,_,c,_⟩
  .simp[c,IP,Oc]
  simp at c
 rw[f,g];rcases Nb 32 r with⟨c,h⟩|⟨b,q,c,_,h⟩
 .grind [F6,YI,Oc]
 rw[c,h];rcases Nb 32 q with⟨j,i⟩|⟨d,e,j,i,k⟩
 .rw[i];rfl
 grind [jl,List.length_pos_iff,Yt,List.length_cons,jN]
def Nc:Maps.Keyed As 9:=R9 underlying9
def jP(hb:K l<=maxLen):keyOf As 9 (Ae ⟨Aw l⟩)=H (.string l):=by
 have a:(⟨Aw l⟩:AT).size<=maxLen:=by show(Aw l).size<=maxLen;omega
 simp[keyOf,mapKey,underlying9,a]
def Jr(lf:Lit->Option AH)(key:A1)(ix:AK):AH:=if ix=AP then 1 else(lf<|.string key).getD 0
def YJ{q:D0}(h:Dv W0 A q sts sv nf mn mf W)(c:AK)(hb:K key<=maxLen):Ar As 103 #[A8 A,Ag #[Ae ⟨Aw key⟩,Ah c]] W λe k=>e=Ak (C Y<|Jr q.i key c)/\A0 W k:=by
 have l:=Cd h.aq;have c2:A6 W A 2<|.map<|H q.f:=Cc h.aq 2;have f:D<|Ed (Az W<|M #[Ae ⟨Aw key⟩,Ah c] 146) 9 q.f q.ln q.i:=h.d.kept (L7 W _ Ao) Ba;have n:=Si f Nc underlying178<|jP hb;cases c
 .obtain⟨x,g⟩:=IA<|(q.i<|.string key).getD 0;have j:D<|Jr q.i key AQ=x:=by rw[g];rfl
  have i:=T g.symm;rw[AE j];go_enter func103,ntmps103;go_wp2;have b:(λa:X=>A6 a A 2 (.map<|H q.f)/\A6 a (O<|U W) 0 (Ae ⟨Aw key⟩)/\Ed a 9 q.f q.ln q.i) { (Az W<|M #[Ae ⟨Aw key⟩,Ah AQ] 146)with drawn:=(Az W<|M #[Ae ⟨Aw key⟩,Ah AQ] 146).drawn+1}:=⟨((((Cu (O<|U W) W).alloc (Cr _)<|M #[Ae ⟨Aw key⟩,Ah AQ] 146).cell (p:=⟨A,2,Ao⟩) l).trans c2 :),Cc (Cj W) 0,f⟩
  refine Ei (S:=λa=>A6 a A 2 (.map<|H q.f)/\A6 a (O<|U W) 0 (Ae ⟨Aw key⟩)/\Ed a 9 q.f q.ln q.i) B6 ?_;refine Cb 0 7 (A8 A) b <| Cb 1 8 (A8 A) b <| Cb 2 9 (A9 A 2) b <| Ch 3 10 (.map<|H q.f) Z (λa d=>Bh) b <| Cb 4 11 (A8<|O<|U W) b <| Ch 5 12 (Ae ⟨Aw key⟩) Z (λa d=>Bh) b <| Ch 6 13 (C Y x) Z (λa d=>by have m:=Si d.2.2 Nc underlying178<|jP hb;rw[AE i]at m;go_simp) b <| Cb 7 4 (C Y x) b <| CK ?_;go_simp;go_wp2;go_ret;exact⟨Z,(Cm).drew⟩
 go_enter func103,ntmps103;go_wp2;go_ret;exact⟨Z,Cm⟩
theorem jQ{P:Program}{w:X}{g o:I}{ty:AN}{O:A3}{d:TypeDesc}(f:∀(j:I) (u:Aq),O[j]?=H u->A6 w g (o+j) u)(e:P.underlying ty=H d)(h:(match d with|.struct _|.array _ _=>AP|_=>AQ)=AP)(hi:(P.info? ty).map (·.size)=H O.size):(loadVar ty ⟨g,o,Ao⟩).run P w=.ok (.agg O) w:=by
 have a:=VO (P:=P) w ⟨g,o,Ao⟩ O.toList λj u k=>C2;rcases hq:P.info? ty with _|i
 .simp[hq]at hi
 have c:i.size=O.size:=by simpa[hq]using hi
 have b:(isAgg ty).run P w=.ok AP w:=by unfold isAgg;rw[GT,Mu e w];cases d<;>simp_all
 simp only[Fz,VL]at a;simp[loadVar,GT,b,sizeOf,typeInfo,hq,c,a]
def YK{P:Program}{o:Oper}{a:Act}{w:X}{K:Act->X->Prop}{Q:Exit->Act->X->Prop}{ty:AN}{x:Operand}(e:o.op=.load ty x){g k:I}(hx:a.eval x=A9 g k){O:A3}{d:TypeDesc}(b:∀(j:I) (u:Aq),O[j]?=H u->A6 w g (k+j) u)(f:P.underlying ty=H d)(c:(match d with|.struct _|.array _ _=>AP|_=>AQ)=AP)(hi:(P.info? ty).map (·.size)=H O.size)(h:K (a.put o.dst<|.agg O) w):o.wp P a w K Q:=by unfold Oper.wp execOp;simp only[e,hx,Instr.loadAt,Instr.sureAddr,GT,Ge,FZ,jQ b f c hi];exact h
def QH{P:Program}{ops:Array Oper}{rest:AJ Oper}{o:Oper}{a:Act}{w:X}{Q:Exit->Act->X->Prop}{ty:AN}(x:Operand)(i:o.op=.load ty x)(f:Region.wanted o (yielded ops a.tmps)=AP){g k:I}(hx:a.eval x=A9 g k){O:A3}{d:TypeDesc}(c:∀(j:I) (u:Aq),O[j]?=H u->A6 w g (k+j) u)(l:P.underlying ty=H d)(e:(match d with|.struct _|.array _ _=>AP|_=>AQ)=AP)(hi:(P.info? ty).map (·.size)=H O.size)(h:wpList P ops Q rest (a.put o.dst<|.agg O) w):wpList P ops Q (o::rest) a w :=
 Wi λm b=>by rw[Cp f];exact YK i hx c l e hi<|b _ _ h
theorem Od{P:Program}{ev:Operand->Aq}{W:X}{o:Oper}{ty:AN}(x:Operand)(c:o.op=.load ty x){g k:I}(hx:ev x=A9 g k){O:A3}{d:TypeDesc}(a:∀(j:I) (u:Aq),O[j]?=H u->A6 W g (k+j) u)(e:P.underlying ty=H d)(b:(match d with|.struct _|.array _ _=>AP|_=>AQ)=AP)(hi:(P.info? ty).map (·.size)=H O.size):(execOp ev o).run P W=.ok (.value<|.agg O) W:=by grind [execOp,Instr.loadAt,Instr.sureAddr,Sem.run_bind,Sem.run_pure,Result.andThen_ok,jQ]
theorem zW(x:(I->I)×J×J):Oa x=(EA x.1 x.2).toList:=by simp[Oa,EA]
theorem UF(a:I->I)(x:J×J):(EA a x).size=18:=by simp[EA,MY]
theorem zX(a:I->I){x:J×J}:(EA a x).all (·.oneCell')=AP:=by grind [jx]
theorem zY(a:AJ<|(I->I)×J×J):∀(i j:I) (x:(I->I)×J×J),a[i]?=H x->j<18->(a.flatMap Oa)[i*18+j]?=(EA x.1 x.2)[j]?:=by induction a<;>grind [zW,UF]
theorem Dv.ai{q:D0}(h:Dv W0 A q sts sv nf mn mf W){x:(I->I)×J×J}(hx:sts[i]?=H x):∃g a,sv=G (H ⟨g,0,Ao⟩) (K sts) a/\g<O (U W)/\g≠A/\∀(j:I) (u:Aq),(EA x.1 x.2)[j]?=H u->AC W ⟨g,i*18+j,Ao⟩=H u:=by
 have m:=Dk hx;rcases h.b.2 with⟨_,k⟩|⟨g,a,d,c,l,b,o,n,p,r⟩
 .omega
 refine⟨g,a,c,(Cd b),(h.a2 g kfm).1,λj u s=>?_⟩;have f:j<18:=by grind [UF]
 rw[Iy W g (i*18+j) d _ _ b];have e:=zY sts i j x hx f;grind
def jR(a:I->I){x:J×J}:(prog.info? 203).map (·.size)=H (EA a x).size:=by rw[UF];kernel_rfl
def jS{q:D0}(h:Dv W0 A q sts sv nf mn mf W){x:(I->I)×J×J}(hx:sts[i]?=H x):Ar As 72 #[A8 A,C Y i] W λe c=>e=Ak (Af #[C Y x.2.1,C Y x.2.2])/\A0 W c:=by
 obtain⟨g,d,rfl,l,k,f⟩:=h.ai hx;have j:A6 W A 20<|G (Aa g) (K sts) d:=Cc h.aq 20;have m:(i:J)<(K sts:J):=AY<|Dk hx;have b:=T f;go_enter func72,ntmps72
 go_wp2_with(first
  |(refine QH (.tmp 12) Z C1 Z b underlying203 Z (jR x.1) ?_)
  |(refine D8 Z 203 _ _ Z (O<|U W) (EA x.1 x.2) Z Z 203 #[C .u16 0,C .u16 0,C .u16 0,C .u16 0,C .u16 0,C .u16 0,C .u16 0,C .u16 0,C .u16 0,C .u16 0,C .u16 0,C .u16 0,C .u16 0,C .u16 0,C .u16 0,C .u16 0,C Y 0,C Y 0] (Cj W) (jR x.1) (by rw[UF];rfl) (zX x.1) ?_;rw[Gd]))
 have a:D<|A0 W<|Az W<|M (EA x.1 x.2) 203:=Cm;have n:(Az W<|M (EA x.1 x.2) 203).cell? ⟨O<|U W,16,Ao⟩=H (C Y x.2.1):=Cc (Cj W) 16;have o:(Az W<|M (EA x.1 x.2) 203).cell? ⟨O<|U W,17,Ao⟩=H (C Y x.2.2):=Cc (Cj W) 17;generalize Az W (M (EA x.1 x.2) 203)=V at *
 go_quiet (fail)
 go_wp2;refine CS (FP results72 _ _ _) Z ⟨Z,Cs a ⟨Z,Z,Z,Cr _,λ_ _=>rfl⟩⟩
theorem jT(x:I)(h:x<1000000000):(Lit.int Y (x:J)).wf=AP:=by have a:IntKind.i64.min = -9223372036854775808:=B6;have b:IntKind.i64.max=9223372036854775807:=B6;grind [Lit.wf]
def DN(f x:AH):A3:=#[Ab Al f,Ab Al x]
theorem jU(f x:Nat)(h:f<1000000000)(hx:x<1000000000):∃l,keyOf prog 199 (.agg<|DN f x)=some l:=by
 obtain⟨d,g⟩:∃d,prog.types.size+1=d+2:=⟨prog.types.size-1,Bv⟩
 have c:prog.keyType 199=true:=B6;have a:prog.cellsOf 199=2:=B6;have b:prog.cellsOf 3=1:=B6;have i:(Value.agg<|DN f x).formed prog 199=true:=by simp only[Value.formed,underlying199];rw[a];rfl
 have k:∀y:Nat,y<1000000000->prog.keyLits (d+1) 3 [.int .i64 y]=some [.int .i64 y]:=by intro y m;unfold Program.keyLits;grind [underlying3,jT]
 have j:prog.keyLits (d+2) 199 (DN f x).toList=some [.int .i64 f,.int .i64 x]:=by unfold Program.keyLits;simp only[underlying199];rw[Cp ⟨kfr,B6⟩];simp only[List.mapM_cons,List.mapM_nil,b,DN];simp_all
 refine⟨.string<|keyBytes [.int .i64 f,.int .i64 x],?_⟩;unfold keyOf;simp only[underlying199];have e:(Value.agg<|DN f x).cells=DN f x:=rfl;grind
def KV(q:D0)(sts:AJ<|(AH->AH)×AI×AI)(mf:Lit->Option AH):Prop :=
 ∀(f x:AH) (l:Lit) (k:AH),keyOf As 199 (.agg<|DN f x)=An l->mf l=An k->∃s t Y,sts[f]?=An s/\sts[k]?=An t/\Pi (At q.a) q.st (I0 q.st (q.j x) s.1<|At q.a) Y/\∀r,r<16->t.1 r=Y r
def jV(W0:Ap)(A:AH)(q:D0)(sts:AJ<|(AH->AH)×AI×AI)(P:AH->AH)(x mn:AH)(e:Ending)(W':Ap):Prop :=
 ∃(i:AH) (sts':AJ<|(AH->AH)×AI×AI) (sa':A4) (sc':AH) (nf':Lit->Option AH) (mn':AH) (mf':Lit->Option AH),e=Ak (Ab Al i)/\Dv W0 A q sts' (Ac sa' (At sts') sc') nf' mn' mf' W'/\KV q sts' mf'/\mn'<=mn+1/\(∀(j:AH) (x:(AH->AH)×AI×AI),sts[j]?=An x->sts'[j]?=An x)/\At sts'<=At sts+1/\∃t Y,sts'[i]?=An t/\Pi (At q.a) q.st (I0 q.st (q.j x) P<|At q.a) Y/\∀r,r<16->t.1 r=Y r
def jW{q:D0}(h:Dv W0 A q sts sv nf mn mf W)(hb:K key<=maxLen)(hx:Jr q.i key ix=x){l:Lit}(hl:keyOf As 199 (.agg<|DN f x)=H l)(hi:mf l=H i):Ar As 71 #[A8 A,C Y f,Ag #[Ae ⟨Aw key⟩,Ah ix]] W λe t=>e=Ak (C Y i)/\A0 W t:=by
 have g:D<|Dv W0 A q sts sv nf mn mf<|Az W<|M #[Ae ⟨Aw key⟩,Ah ix] 146:=h.next Cm
 have k:D<|A0 W<|Az W<|M #[Ae ⟨Aw key⟩,Ah ix] 146:=Cm;have n:=YJ g ix hb;rw[hx]at n;go_enter func71,ntmps71
 go_wp2_with(first
  |(go_at_call 103;refine n.mono ?_;rintro e c ⟨rfl,o⟩;have p:=T<|g.next o;have m:=T<|k.trans<|o.mono k.size))
 have j:D<|Dv W0 A q sts sv nf mn mf<|Az c<|M (DN f x) 199:=p.next Cm
 have s:D<|A0 W<|Az c<|M (DN f x) 199:=m.alloc m.size _;have r:D<|(Az c<|M (DN f x) 199).heap[O<|U c]?=H (M (DN f x) 199):=Cj _;have a:(λb:X=>A6 b A 22 (.map<|H q.b)/\A7 b (O<|U c) (DN f x) 199/\Ed b 199 q.b mn mf) { (Az c<|M (DN f x) 199)with drawn:=(Az c<|M (DN f x) 199).drawn+1}:=⟨Cc j.aq 22,r,j.c⟩
 refine Ei (S:=λb=>A6 b A 22 (.map<|H q.b)/\A7 b (O<|U c) (DN f x) 199/\Ed b 199 q.b mn mf) B6 ?_;refine Cb 0 16 (A8 A) a <| Cb 1 17 (A8 A) a <| Cb 2 18 (A9 A 22) a <| Ch 3 19 (.map<|H q.b) Z (λb d=>Bh) a <| Ch 4 20 (.agg<|DN f x) Z (λb d=>by exact KS (.tmp 7) Z Z d.2.1 underlying199 Z B6) a <| Ch 5 21 (Af #[C Y i,Ah AP]) Z (λb d=>by have u:=Sj d.2.2 Sk underlying180 hl;rw[hi]at u;go_simp) a <| Cb 6 15 (Af #[C Y i,Ah AP]) a <| Cb 7 22 (C Y i) a <| Cb 8 23 (Ah AP) a <| Cb 9 8 (C Y i) a <| Cb 10 9 (Ah AP) a <| CK ?_;go_simp;go_wp2;go_ret;exact⟨Z,s.drew⟩
def Dv.auR{q:D0}(h:Dv W0 A q sts sv nf mn mf W):O9 W A q.h q.e (K q.a) q.st :=
 ⟨(Cd h.aq),Cc h.aq 0,λr a=>by
  rw[Iy W A (3+r) _ _ _ h.aq]
  match r,a with
  |0,_|1,_|2,_|3,_|4,_|5,_|6,_|7,_|8,_|9,_|10,_|11,_|12,_|13,_|14,_|15,_=>rfl
  |n+16,a=>omega⟩
def Dv.auT{q:D0}(h:Dv W0 A q sts sv nf mn mf W):Sh W A q.g q.L q.tc q.j:=by obtain⟨e,a,d⟩:=h.k;exact⟨(Cd h.aq),(Cd a),Cc h.aq 19,λx r c b=>(Iy W q.g (x*16+r) _ _ _ a).trans<|d x r c b⟩
def Dv.a6{q:D0}{mn':I}{mf':Lit->Option I}(h:Dv W0 A q sts sv nf mn mf W)(a:W.grownBy W'<|H q.b)(m:Ed W' 199 q.b mn' mf'):Dv W0 A q sts sv nf mn' mf' W':=by
 obtain⟨o,p,r,f,s,t,j,u,k,d⟩:=h.e;obtain⟨v,w,x,y,z⟩:=h.n;obtain⟨l,c,n⟩:=h.k;exact{h with
  aq:=(a.block A (Cd h.aq) keR).trans h.aq
  ac:=⟨a.os.trans h.ac.os,a.tape.trans h.ac.tape,a.output.trans h.ac.output,CE h.ac.size a.size,λi b=>(a.block i (CQ b h.ac.size) B7).trans<|h.ac.block i b⟩
  d:=h.d.kept a kf6
  k:=⟨l,(a.block _ (Cd c)<|by simpa using k).trans c,n⟩
  b:=QE h.b λg e=>a.block g (QD h.b e) (by simpa using(h.a2 g e).2.2.2.2)
  a:=h.a.kept a keo
  c:=m}
theorem zZ(P:X)(A:I)(q:D0)(k:AJ<|(I->I)×J×J)(sa:A4)(y:I)(nf:Lit->Option I)(v:I)(n:Lit->Option I)(W:X)(h:Dv P A q k (G sa (K k) y) nf v n W)(aw:KV q k n)(a9:K k<100000)(bl:v<100000)(f:I)(s:(I->I)×J×J)(hs:k[f]?=H s)(key:A1)(ix:AK)(hb:K key<=maxLen)(x:I)(hx:Jr q.i key ix=x)(hxL:x<q.L)(l:Lit)(hl:keyOf As 199 (.agg<|DN f x)=H l)(hi:n l=Ao):Ar As 71 #[A8 A,C Y f,Ag #[Ae ⟨Aw key⟩,Ah ix]] W<|jV P A q k s.1 x v:=by
 have HA:D<|Dv P A q k (G sa (K k) y) nf v n<|Az W<|M #[Ae ⟨Aw key⟩,Ah ix] 146:=h.next Cm
 have cL:=YJ HA ix hb;rw[hx]at cL;have ao:=T aw;clear h aw;go_enter func71,ntmps71
 go_wp2_with(first
  |(go_at_call 103;refine cL.mono ?_;clear cL;rintro e d ⟨rfl,F⟩;have z:=T<|HA.next F;clear F HA))
 have R:D<|Dv P A q k (G sa (K k) y) nf v n<|Az d<|M #[C Y f,C Y x] 199:=z.next Cm
 have ab:D<|(Az d<|M #[C Y f,C Y x] 199).heap[O<|U d]?=H (M (DN f x) 199):=Cj _;have bf:D (∀g,Ax (AX sa (K k) y)=H g->g<O (U d)):=λg e=>QD z.b e;have be:D<|A<O (U d)/\q.d<O (U d)/\q.b<O (U d):=⟨(Cd z.aq),z.a.lt,z.c.lt⟩
 clear z;generalize Az d (M #[C Y f,C Y x] 199)=V0 at *;refine Dl (S:=λb=>A6 b A 22 (.map<|H q.b)/\A7 b (O<|U d) (DN f x) 199/\Ed b 199 q.b v n) (⟨Cc R.aq 22,ab,R.c⟩) B6 λa=>Cb 0 16 (A8 A) a <| Cb 1 17 (A8 A) a <| Cb 2 18 (A9 A 22) a <| Ch 3 19 (.map<|H q.b) Z (λb m=>ke4) a <| Ch 4 20 (.agg<|DN f x) Z (λb m=>BU) a <| Ch 5 21 (Af #[C Y 0,Ah AQ]) Z (λb m=>C3) a <| Cb 6 15 (Af #[C Y 0,Ah AQ]) a <| Cb 7 22 (C Y 0) a <| Cb 8 23 (Ah AQ) a <| Cb 9 8 (C Y 0) a <| Cb 10 9 (Ah AQ) a <| CK ?_;go_simp;clear a;have r:=T<|R.next (Cu _ _).drew;have am:D<|(World.drew V0).heap[O<|U d]?=H (M (DN f x) 199):=AE ab;clear R ab;generalize World.drew V0=V at *;obtain⟨g,bg,ba,bi,bh,hc⟩:=r.ai hs;injection ba with Q _ e3;subst Q;subst e3;have aq:A6 V A 20<|G (Aa g) (K k) y:=Cc r.aq 20;have bj:(f:J)<(K k:J):=AY<|Dk hs;have HC:D (∀(j:I) (u:Aq),(CD s.1)[j]?=H u->A6 V g (f*18+j) u):=λj u hu=>hc j u (by grind [EA]);clear hc;go_wp2;have a:(λb:X=>A7 b (O<|U d) (DN f x) 199) {V with drawn:=V.drawn+1}:=AE am;have o:D<|Dv P A q k (G (Aa g) (K k) y) nf v n {V with drawn:=V.drawn+1}:=r.next (Cu _ _).drew
 have an:D (∀(j:I) (u:Aq),(CD s.1)[j]?=H u->({V with drawn:=V.drawn+1}:X).cell? ⟨g,f*18+j,Ao⟩=H u):=AE HC;have a5:({V with drawn:=V.drawn+1}:X).cell? ⟨A,20,Ao⟩=H (G (Aa g) (K k) y):=aq;have cA:=jh o.bits.1 o.bits.2 o.m.1 o.auR o.auT (o.j f s hs).2 hxL;refine Ei (S:=λb=>A7 b (O<|U d) (DN f x) 199) B6 ?_;clear HC r am aq;generalize({V with drawn:=V.drawn+1}:X)=V1 at *;refine Cb 0 26 (A8 A) a <| Cb 1 27 (A8 A) a <| Cb 2 28 (A8 A) a <| Cb 3 29 (A8 A) a <| Cb 4 30 (A9 A 20) a <| Cb 6 32 (C Y f) a <| Cb 10 36 (A9 (O<|U d) 1) a <| Ch 11 37 (C Y x) Z (λb m=>by have z1:A6 b (O<|U d) 1<|C Y x:=Cc m 1;go_simp) a ?_;refine CH 5 λB c=>?_;go_simp;refine c.out _ _ a λ_=>?_;clear c;refine CH 7 λB c=>?_;go_simp;refine c.out _ _ a λ_=>?_;clear c;refine CH 8 λB c=>?_;go_simp;refine c.out _ _ a λ_=>?_;clear c;refine CH 9 λB c=>?_;refine Kr B6 ?_;refine YK Z Z an underlying183 Z (FV s.1) ?_;refine c.out _ _ a λ_=>?_;clear c;refine CH 12 λB c=>?_;go_simp;refine cA.mono ?_;clear cA a5 an;rintro e w4 ⟨⟨ap,rfl,hY⟩,F⟩;simp only[];have HY:=T hY;have aj:=T<|o.next F;have t:(λb:X=>A7 b (O<|U d) (DN f x) 199) w4:=(F.block _<|Cd a).trans a;refine c.out _ _ t λ_=>?_;clear c hY F o;refine CH 13 λB c=>?_;go_simp;refine(zV aj HY.2.2 a9).mono ?_;rintro e w6 ⟨i,ah,bc,bd,bb,rfl,hF,ar,ax,a7,ai,ht,ay⟩;simp only[];have ak:=T ar;have ad:(λb:X=>A7 b (O<|U d) (DN f x) 199) w6:=(hF.block _ (Cd t) (λe=>by grind [D]) (by grind [D]) (by grind [D])<|by grind [D]).trans t;have a0:=T ax;have ac:D (ah[i]?=H ai/\∀ag,ag<16->ai.1 ag=ap ag):=⟨ht,ay⟩
 refine c.out _ _ ad λ_=>?_;clear c hF ar ax ht ay aj a t;refine Cb 14 8 (C Y i) ad <| CK ?_;go_simp;go_wp2;have aa:=T<|ak.next (Cu _ _).drew;have bk:=Dk ac.1;obtain⟨w7,a8,au,ae⟩:=Yr aa.c Sk underlying180 E hl i E;obtain⟨N,Q,e2⟩:∃N:Lit->Option I,N l=H i/\∀w,w≠l->N w=n w:=by have:=Classical.propDecidable;exact⟨λw=>if w=l then H i else n w,Cp Z,λw hh=>Cl hh⟩
 have al:=T<|aa.a6 ae<|au N Q e2;have az:D<|KV q ah N:=by
  intro f2 x2 l2 k2 av af;by_cases e:l2=l
  .subst e;have e3:=Fl<|Q.symm.trans af;have e4:=Yn.inj av hl;grind [D,DN]
  rw[e2 l2 e]at af;obtain⟨s2,t2,Y2,a1,a2,a3,a4⟩:=ao.out f2 x2 l2 k2 av af;grind [D]
 have p:(λb:X=>A6 b A 22 (.map<|H q.b)/\A7 b (O<|U d) (DN f x) 199) {w6 with drawn:=w6.drawn+1}:=⟨Cc aa.aq 22,ad⟩
 have a6:(λb:X=>A6 b A 22 (.map<|H q.b)/\A7 b (O<|U d) (DN f x) 199) w7:=⟨Cc al.aq 22,(ae.block (O<|U d) (Cd p.2)<|by grind [D]).trans p.2⟩
 clear au ae Q e2 ao ak;refine Ei (S:=λb=>A6 b A 22 (.map<|H q.b)/\A7 b (O<|U d) (DN f x) 199) B6 ?_;refine Cb 0 40 (A8 A) p <| Cb 1 41 (A8 A) p <| Cb 2 42 (A9 A 22) p <| Ch 3 43 (.map<|H q.b) Z (λb m=>ke4) p <| Ch 4 44 (.agg<|DN f x) Z (λb m=>BX) p <| Cb 5 45 (C Y i) p <| CH 6 λB c=>?_;go_simp;refine c.out _ _ a6 λ_=>?_;clear c;refine CK ?_;go_simp;clear a8;go_wp2;go_ret;exact⟨i,ah,bc,bd,bb,v+1,N,Z,al,az,Cr _,a0,a7,ai,ap,ac.1,HY,ac.2⟩
theorem q00{q:D0}(h:Dv W0 A q sts (G sa (K sts) sc) nf mn mf W)(b:KV q sts mf)(w:K sts<100000)(v:mn<100000){s:(I->I)×J×J}(c:sts[f]?=H s)(hb:K key<=maxLen)(hx:Jr q.i key ix=x)(hxL:x<q.L)(r:q.L<=100000):Ar As 71 #[A8 A,C Y f,Ag #[Ae ⟨Aw key⟩,Ah ix]] W<|jV W0 A q sts s.1 x mn:=by
 have u:=Dk c;obtain⟨l,a⟩:=jU f x E E;rcases hi:mf l with _|i
 .grind [zZ]
 refine Ce (jW h hb hx a hi) ?_;rintro e p ⟨rfl,n⟩;obtain⟨y,t,d,g,j,k,m⟩:=b f x l i a hi;have e:=Fl<|Ca c.symm g;subst e;exact⟨i,sts,sa,sc,nf,mn,mf,rfl,h.next n,b,OJ _,λ_ _ o=>o,OJ _,t,d,j,k,m⟩
def Sr:(prog.info? 249).map (·.size)=H 3:=B6
theorem jY(h:s.size<=2000):∃(p r:AT) (b:AK),p.data.toList=(Lib.cut s.data.toList [32]).1/\r.data.toList=(Lib.cut s.data.toList [32]).2.1/\p.size<=2000/\r.size<=2000 /\
  ∀w,Hn w->Ar As 174 #[.string s,Ae ⟨#[32]⟩] w λe f=>e=Ak (Af #[.string p,.string r,Ah b])/\A0 w f:=by
 have g:K s.data.toList=s.size:=Fz;have a:(Lib.cut s.data.toList [32]).1.length<=2000/\(Lib.cut s.data.toList [32]).2.1.length<=2000:=by grind [Nb]
 refine⟨⟨(Lib.cut s.data.toList [32]).1.toArray⟩,⟨(Lib.cut s.data.toList [32]).2.1.toArray⟩,(Lib.cut s.data.toList [32]).2.2,Ba,Ba,a.1,a.2,λw c=>?_⟩;obtain⟨m,d⟩:=c.c;refine Ce (Tryz.strings_Cut s ⟨#[32]⟩ m w E d) ?_;grind [Ny,CT]
structure UG(w:Ap)(W:Ap):Prop where
 ac:A0 w W
 a:W.heap[Au (Av w)]?=An (Aj E3 249)
def UG.a0(h:UG w W)(hb:A0 W W'):UG w W' :=
 ⟨Cs h.ac<|CG hb h.ac.size,Ca (Co hb _<|Cd h.a) h.a⟩
def q4Q(w:X):UG w<|Az w<|M E3 249:=⟨Cm,Cj _⟩
section
attribute[local go_sem] Oper.semAt_some
def YL:∀(q r:AJ A1) (i:I),q.all (Dn n)=AP->i+K q<=16->JU n (q++r) i=JU n r (i+K q)
 |[],r,i,_,_=>rfl
 |x::q,r,i,h,hl=>by rw[Wd,Fj]at h;rw[FN]at hl;rw[Kv,JU,Cp ⟨h.1,E⟩,YL q r (i+1) h.2 E,FN];congr 1;omega
def Fg(n:AH)(l:A1):AI:=if 0<=E5 n l then 6 else 0
def IV(n:AH)(l:A1):AI:=if 0<=E5 n l then E5 n l else 0
structure Ss(w:Ap)(n:AH)(pre:AJ E4)(c:Code)(W:Ap):Prop where
 ret:c=.ret
 ac:A0 w W
 d:Boxed W (Au (Av w)+1) 124 (Ac Ao 0 0)
 b:Boxed W (Au (Av w)+2) 54 (Ab Al 6)
 a:∃q x,pre=q++[x]/\Boxed W (Au (Av w)+3) 3 (Ab Al (At q:AH))/\(q.map CM).all (Dn n)=AP/\At q<=16/\¬(Dn n (CM x)=AP/\At q<16)
 size:Au (Av w)+8<=Au (Av W)
theorem Ss.a2{pre:AJ E4}{c:Code}(h:Ss w n pre c W)(a:W.grownBy W'<|H row)(j:O (U w)+4<=row):Ss w n pre c W':=by obtain⟨q,x,e,d,b,f,g⟩:=h.a;exact⟨h.ret,Cs h.ac ⟨a.os,a.tape,a.output,a.size,λi k=>a.block i Bn B9⟩,h.d.kept a B9,h.b.kept a B9,⟨q,x,e,d.kept a B9,b,f,g⟩,CE h.size a.size⟩
def jZ(a:N<=O (U W))(b:k+3<=O (U W)):Tr N k W W.drew:=Tr.ai (Cu _ _).drew a b
def Tryz.infoRule2:(prog.info? 249).map (λi=>(i.zero,i.size,i.bytes))=H (H<|.agg E3,3,40):=B6
theorem q7J{hs:s.size<=2000}{xs:AJ E4}(e:¬s.size=0)(h:xs.map CM=Db 10 (CM ⟨s,hs⟩))(c:K xs<=16)(b:(xs.map CM).all (Dn n)=AP):E5 n s.data.toList = -1:=by have a:Db 10 s.data.toList=xs.map CM:=h.symm;have d:K s.data.toList=s.size:=Fz;unfold E5;rw[Cl E,Cl E,a];have:=YL (xs.map CM) [] 0 b B9;rw[Rb]at this;rw[this];rfl
theorem q8o{hs:s.size<=2000}{q:AJ E4}{x:E4}{r:AJ A1}(e:¬s.size=0)(h:Db 10 (CM ⟨s,hs⟩)=(q++[x]).map CM++r)(b:(q.map CM).all (Dn n)=AP)(d:K q<=16)(hx:¬(Dn n (CM x)=AP/\K q<16)):E5 n s.data.toList=K q:=by have a:Db 10 s.data.toList=(q++[x]).map CM++r:=h;have c:K s.data.toList=s.size:=Fz;unfold E5;rw[Cl E,Cl E,a,Ka,L9,YL (q.map CM) _ 0 b B9];grind [JU]
theorem qu1(a:(Az (Az (Az (Az (Az (Az (Az (Az w<|M #[C Y n] 3)<|M #[G Ao 0 0] 124)<|M #[C Y 0] 54)<|M #[C Y 0] 3)<|M #[G Ao 0 0] 124)<|M #[.string s] 9)<|M #[Ae ⟨#[10]⟩] 9)<|M #[C Y 0] 3)=W0):Lz (O (U w)+5) 10 W0 s:=by
 subst a;generalize hA:Az (Az (Az (Az (Az w<|M #[C Y n] 3)<|M #[G Ao 0 0] 124)<|M #[C Y 0] 54)<|M #[C Y 0] 3) (M #[G Ao 0 0] 124)=A;have b:O (U w)+5=O (U A):=by rw[<-hA];simp
 rw[b];refine⟨?_,?_,?_⟩<;>grind [Below.heap_alloc,Cj,World.size_alloc]
def ke(w:X)(n:I)(e:J):(Az (Az (Az (Az w<|M #[C Y n] 3)<|M #[G Ao 0 0] 124)<|M #[C Y e] 54)<|M #[C Y 0] 3).cell? ⟨O (U w)+1,0,Ao⟩=H (G Ao 0 0) /\
  (Az (Az (Az (Az w<|M #[C Y n] 3)<|M #[G Ao 0 0] 124)<|M #[C Y e] 54)<|M #[C Y 0] 3).cell? ⟨O (U w)+1+1,0,Ao⟩=H (C Y e) /\
  (Az (Az (Az (Az w<|M #[C Y n] 3)<|M #[G Ao 0 0] 124)<|M #[C Y e] 54)<|M #[C Y 0] 3).cell? ⟨O (U w)+1+1+1,0,Ao⟩=H (C Y 0):=by
 refine⟨?_,?_,?_⟩
 .have:=Boxed.new (Az w<|M #[C Y n] 3) 124<|G Ao 0 0;rw[CL]at this;exact((this.alloc _).alloc _).cell
 .have:=Boxed.new (Az (Az w<|M #[C Y n] 3)<|M #[G Ao 0 0] 124) 54<|C Y e;rw[CL,CL]at this;exact(this.alloc _).cell
 have:=Boxed.new (Az (Az (Az w<|M #[C Y n] 3)<|M #[G Ao 0 0] 124)<|M #[C Y e] 54) 3<|C Y 0;rw[CL,CL,CL]at this;exact this.cell
end
def Hc(L:AJ<|AI×AI)(a b:AH):Prop:=∀S:AH->Prop,S a->(∀e,e∈L->S e.1.toNat->S e.2.toNat)->S b
theorem Hc.refl(L:AJ<|J×J)(a:I):Hc L a a:=λ_ h _=>h
def Hc.trans{a c:I}(h:Hc L a b)(k:Hc L b c):Hc L a c:=λS e d=>k S (h S e d) d
def Hc.ac{e:J×J}(h:e∈L):Hc L e.1.toNat e.2.toNat:=λ_ a b=>b e h a
theorem qxG{e:J×J}(h:m i j=AP):Kz m e i j=AP:=by unfold Kz upd;split<;>simp_all
def qvv(m:I->I->AK)(e:J×J):Kz m e e.1.toNat e.2.toNat=AP:=by simp[Kz,upd]
def kg:∀(m:I->I->AK) (i j:I),m i j=AP->L.foldl Kz m i j=AP:=by
 induction L with
 |nil=>intro m i j h;exact h
 |cons e L a=>intro m i j h;exact a _ i j<|qxG h
def qyj:∀(m:I->I->AK) (e:J×J),e∈L->L.foldl Kz m e.1.toNat e.2.toNat=AP:=by
 induction L with
 |nil=>intro m e h;cases h
 |cons x L a =>
  intro m e h;obtain h|h:=Iz.1 h
  .subst h;exact kg (L:=L) _ _ _<|qvv m e
  exact a _ e h
theorem qqp(P:I->I->Prop):∀(m:I->I->AK),(∀i j,m i j=AP->P i j)->(∀e,e∈L->P e.1.toNat e.2.toNat)->∀i j,L.foldl Kz m i j=AP->P i j:=by
 induction L with
 |nil=>intro m h _;exact h
 |cons x L d =>
  intro m h a;refine d (Kz m x) (λi j b=>?_) λe c=>a e<|LL _ c;unfold Kz upd at b;grind
theorem qpH(h:Kc n L i j=AP):Hc L i j :=
 qqp (Hc L) (LQ n) (λi j b=>by have:=Dr b;grind [Hc.refl]) (λ_ a=>Hc.ac a) i j h
theorem UH{l:I}(H:FC n k m l h i j=AP):m i j=AP\/(m i k=AP/\m k j=AP):=keO
def kh{l:I}(H:m i j=AP):FC n k m l h i j=AP:=by unfold FC;rw[H];rfl
theorem UI(hi:i<n)(c:j<n)(a:m i k=AP)(b:m k j=AP):FC n k m n 0 i j=AP:=keO
def qsS:∀(k i j:I),Hm n k (Kc n L) i j=AP->Hc L i j:=by
 intro k
 induction k with
 |zero=>intro i j h;exact qpH h
 |succ k a =>
  intro i j h;rcases UH h with h|⟨b,c⟩
  .exact a i j h
  exact(a i k b).trans<|a k j c
def km(h:m i j=AP):∀k,Hm n k m i j=AP:=by
 intro k
 induction k with
 |zero=>exact h
 |succ k a=>exact kh a
def qt5:∀(k:I),k<=n->∀c i j,c<k->i<n->j<n->Hm n k m i c=AP->Hm n k m c j=AP->Hm n k m i j=AP:=by
 intro k
 induction k with
 |zero=>intro _ c i j h;omega
 |succ k g =>
  intro u c i j t d f b a;have g:=g E;have q:∀x,Hm n (k+1) m x k=Hm n k m x k:=λx=>aQ (Hm n k m) 0;have s:∀x,Hm n (k+1) m k x=Hm n k m k x:=λx=>aR (Hm n k m) 0;by_cases e:c=k
  .subst e;rw[q]at b;rw[s]at a;exact UI d f b a
  have o:c<k:=E;have p:k<n:=E;rcases UH b with b|⟨b,r⟩
  .rcases UH a with a|⟨a,l⟩
   .exact kh<|g c i j o d f b a
   exact UI d f (g c i k o d p b a) l
  rcases UH a with a|⟨a,l⟩
  .exact UI d f b<|g c k j o p f r a
  exact UI d f b l
def YM(c:Fv n L=AP){e:J×J}(d:e∈L):e.1.toNat<n/\e.2.toNat<n:=by have:=Hh.1 c e d;unfold GD at this;simp only[Fj]at this;obtain⟨⟨a,b⟩,_⟩:=this;have f:=Dr a;have g:=Dr b;omega
theorem qzz(d:Fv n L=AP){a:I}(f:a<n)(hb:b<n):DY n L a b=AP↔Hc L a b:=by
 constructor
 .exact qsS n a b
 intro h;have:=h (λx=>x<n->DY n L a x=AP) (λ_=>km (kg _ _ _<|Fm ⟨Z,f⟩) n)
  (λe c g i=>qt5 n (Cr _) e.1.toNat a e.2.toNat (YM d c).1 f i (g (YM d c).1)<|km (qyj _ e c) n)
 exact this hb
theorem qvK(h:S x=AP):GU S k x=AP:=by grind [GU]
theorem ko{e:J×J}(h:S x=AP):LR S e x=AP:=by unfold LR;grind [qvK]
def UJ:∀{S:I->AK} {x:I},S x=AP->GE L S x=AP:=by
 unfold GE
 induction L with
 |nil=>intro S x h;exact h
 |cons e L a=>intro S x h;exact a<|ko h
theorem qpT:∀{S:I->AK} {e:J×J},e∈L->S e.1.toNat=AP->GE L S e.2.toNat=AP:=by
 induction L with
 |nil=>intro S e h;cases h
 |cons x L b =>
  intro S e h a;obtain h|h:=Iz.1 h
  .subst h;refine UJ (S:=LR S e) ?_;unfold LR;grind [GU]
  exact b (S:=LR S x) h<|ko a
theorem kq(P:I->Prop):∀{S:I->AK},(∀x,S x=AP->P x)->(∀e,e∈L->P e.1.toNat->P e.2.toNat)->∀x,GE L S x=AP->P x:=by
 induction L with
 |nil=>intro S h _;exact h
 |cons e L f =>
  intro S h c;refine f (S:=LR S e) (λx d=>?_) λa b=>c a<|LL _ b;unfold LR at d;grind [GU]
def UK(L:AJ<|AI×AI)(S:AH->AK):Prop:=∀e,e∈L->S e.1.toNat=AP->S e.2.toNat=AP
theorem ku(h:UK L S):GE L S=S:=by
 funext x;cases b:S x
 .cases a:GE L S x
  .rfl
  have:=kq (λx=>S x=AP) (S:=S) (λ_ h=>h) h x a;grind
 exact UJ b
def UL(n:AH)(S:AH->AK):AH:=At<|(List.range n).filter S
theorem q7D(n:I)(S:I->AK):UL n S<=n:=by grind [UL]
theorem qvJ{T:I->AK}(a:∀x,S x=AP->T x=AP):∀(l:AJ I) (y:I),y∈l->S y=AQ->T y=AP->K (l.filter S)<K (l.filter T):=by
 have b:∀l:AJ I,K (l.filter S)<=K (l.filter T):=by intro l;induction l<;>grind
 intro l;induction l<;>grind
theorem qpp(f:Fv n L=AP){a:I}(g:a<n):∀k,UK L (F2 L k<|ES a)\/k+1<=UL n (F2 L k<|ES a):=by
 intro k
 induction k with
 |zero =>
  right;have:0<K ((List.range n).filter<|ES a):=List.length_pos_of_mem (a:=a) (List.mem_filter.2 ⟨Hi.2 g,by simp[ES,GU]⟩);exact this
 |succ k l =>
  rcases l with h|h
  .grind [F2,ku]
  by_cases i:UK L<|F2 L k<|ES a
  .grind [F2,ku]
  right;have:∃e,e∈L/\F2 L k (ES a) e.1.toNat=AP/\F2 L k (ES a) e.2.toNat=AQ:=by apply ZU;intro o;refine i λe b c=>?_;grind
  obtain⟨e,b,c,d⟩:=this;have m:=qvJ (λx j=>UJ j) (List.range n) e.2.toNat (Hi.2 (YM f b).2) d<|qpT b c;grind [F2,UL]
theorem qnN{a:I}:∀k x,F2 L k (ES a) x=AP->Hc L a x:=by
 intro k
 induction k with
 |zero =>
  intro x h;have h:ES a x=AP:=h;unfold ES GU at h;grind [Hc.refl]
 |succ k d =>
  intro x h;exact kq (λx=>Hc L a x) (S:=F2 L k<|ES a) d (λe c b=>b.trans<|Hc.ac c) x h
def qp2(h:S x=AP):∀k,F2 L k S x=AP:=by
 intro k
 induction k with
 |zero=>exact h
 |succ k a=>exact UJ a
theorem kw(c:Fv n L=AP){a:I}(d:a<n):DZ n L a b=AP↔Hc L a b:=by
 constructor
 .exact qnN n b
 intro h;have e:UK L<|F2 L n<|ES a:=by rcases qpp c d n with h|h<;>grind [q7D]
 exact h (λx=>F2 L n (ES a) x=AP) (qp2 (by simp[ES,GU]) n) e
theorem YN(c:Fv n L=AP){a:I}(d:a<n)(hb:b<n):DY n L a b=DZ n L a b:=by grind [qzz,kw]
def qwj(b:Fv n L=AP){a:I}(c:a<n):DZ n L a a=AP:=(kw b c).2<|Hc.refl _ _
structure FW(s:AH)(W0:Ap)(arr:A3)(ea:A4)(L:AJ (AI×AI))(W:Ap):Prop where
 ac:Below (s+1) W0 W
 h:W.heap[s]?=An (Aj arr 40)
 a:G0 W ea L
 size:s+1<=Au (Av W)
def FW.a0{s:I}{arr:A3}(h:FW s W0 arr ea L W)(hb:A0 W W'):FW s W0 arr ea L W' :=
 ⟨Cs h.ac<|CG hb h.size,Ca (Co hb _ Bn) h.h,h.a.ac hb,CE h.size hb.size⟩
def YO(arr:A3)(h:G0 w ea L):FW (O<|U w) (Az w<|M arr 40) arr ea L (Az w<|M arr 40) :=
 ⟨Cu _ _,Cj _,h.ac Cm,Ba⟩
def FW.cell{s:I}{arr:A3}(h:FW s W0 arr ea L W)(j:I):AC W ⟨s,j,Ao⟩=arr[j]?:=Cc h.h j
def FW.ai{arr:A3}(h:FW (O<|U w) W0 arr ea L W)(a:A0 w W0):A0 w W:=Cs a<|CG h.ac E
structure Pp(arr:A3)(n:AH)(L:AJ (AI×AI))(ea:A4)(ecap:AH):Prop where
 ai:Ws arr n L ea ecap
 f:n<=6
 hL:At L<=30
 a:Fv n L=AP
theorem UM{s:I}{arr:A3}(H:Pp arr n L ea ecap){a:I}(c:a<n)(hb:b<n)(h:FW s W0 arr ea L W):Ar As 69 #[.agg arr,C Y a,C Y b] W λe g=>e=Ak (Ah<|DZ n L a b)/\FW s W0 arr ea L g :=
 Ce (Wt H.ai H.f H.hL H.a c hb h.a) λ_ _ ⟨f,d⟩=>⟨f,h.a0 d⟩
theorem ky(m:AK){arr:A3}(H:Pp arr n L ea ecap){a:I}(ha:a<n)(hb:b<n)(hA:G0 w ea L):Ar As (bif m then 100 else 99) #[.agg arr,C Y a,C Y b] w λe P=>∃aa:J,e=Ak (C Y aa)/\D (AR (aa<0) = !FB n (bif m then λi j=>DZ n L j i else DZ n L) a b)/\A0 w P:=by
 have u:=H.ai.f0;have hn:=H.f;have d:=T<|DC H.ai.size;have ae:=T<|YO arr hA;have Q:D<|A0 w<|Az w<|M arr 40:=Cm;have A:∀(x y:I) (_:x<n) (_:y<n) {s:I} {W0 W:X} (_:FW s W0 arr ea L W),Ar As 69 (bif m then#[.agg arr,C Y y,C Y x]else#[.agg arr,C Y x,C Y y]) W λe P=>e=Ak (Ah<|(bif m then λi j=>DZ n L j i else DZ n L) x y)/\FW s W0 arr ea L P:=λx y hx hy _ _ _ h=>by cases m<;>grind [UM]
 generalize(bif m then λi j=>DZ n L j i else DZ n L)=le at *;cases m
 all_goals
  dsimp only[cond]at A ⊢;have l:=T A;clear A
  first|(go_enter func99,ntmps99)|(go_enter func100,ntmps100)
  go_wp2;generalize Az w (M arr 40)=W0 at *
  go_loopg[7,8,9] n (λg x y ag wr=>∃k:I,D (k+g=n)/\x=C Y k/\D (FW (O<|U w) W0 arr ea L wr)/\D (∀j,j<k->GC n le a b j=AQ))
  grind [D];obtain⟨k,z,rfl,c,HL⟩:=hrel;have B:=Ca (c.cell 0) u;obtain _|g:=gk
  .have ac:¬(k:J)<n:=AY<|AE z;go_wp2;go_ret;exact⟨-1,Z,by grind [D,aM],c.ai Q⟩
  have ac:(k:J)<n:=AY<|AE z;cases e1:le a k
  .have t:D<|GC n le a b k=AQ:=by grind [D,GC,F1]
   go_wp2_with(first
    |(refine CO Z 40 _ Z _ Z _ _ _ _ c.h underlying40 Z d ?_)
    |(refine F0 Z Z Z c.h underlying40 Z d ?_)
    |(go_at_call 69;refine Ce (l _ _ E E c) ?_;rintro e p ⟨rfl,f⟩;have c:=T f))
   go_loopg[9,8] 0 (λg x y wr=>x=C Y 0/\y=Ah AQ/\D (FW (O<|U w) W0 arr ea L wr))
   grind;obtain⟨rfl,rfl,c⟩:=hrel;have B:=Ca (c.cell 0) u;go_wp2;go_roundg g
   .refine⟨k+1,B9,Bb,c,λj N=>?_⟩;grind [D]
   omega
  cases e2:le b k
  .have t:D<|GC n le a b k=AQ:=by grind [D,GC,F1]
   go_wp2_with(first
    |(refine CO Z 40 _ Z _ Z _ _ _ _ c.h underlying40 Z d ?_)
    |(refine F0 Z Z Z c.h underlying40 Z d ?_)
    |(go_at_call 69;refine Ce (l _ _ E E c) ?_;rintro e p ⟨rfl,f⟩;have c:=T f))
   go_loopg[9,8] 0 (λg x y wr=>x=C Y 0/\y=Ah AQ/\D (FW (O<|U w) W0 arr ea L wr))
   grind;obtain⟨rfl,rfl,c⟩:=hrel;have B:=Ca (c.cell 0) u;go_wp2;go_roundg g
   .refine⟨k+1,B9,Bb,c,λj N=>?_⟩;grind [D]
   omega
  have HU:D<|F1 le a b k=AP:=by grind [D,F1]
  go_wp2_with(first
   |(refine CO Z 40 _ Z _ Z _ _ _ _ c.h underlying40 Z d ?_)
   |(refine F0 Z Z Z c.h underlying40 Z d ?_)
   |(go_at_call 69;refine Ce (l _ _ E E c) ?_;rintro e p ⟨rfl,f⟩;have c:=T f))
  go_loopg[9,8] (n+1) (λg x y wr=>∃(q:I) (o:AK),D (q+g=n+1)/\x=C Y q/\y=Ah o/\D (FW (O<|U w) W0 arr ea L wr)/\D (o=AP->q<=n/\∀i,i<q->F1 le a b i=AP->le k i=AP)/\D (o=AQ->GC n le a b k=AQ))
  grind [D];obtain⟨q,o,hq,rfl,rfl,c,R,HN⟩:=hrel;have B:=Ca (c.cell 0) u;cases o
  .have t:=T<|HN Z;by_cases r:(q:J)<n
   .go_wp2;go_roundg g
    .refine⟨k+1,B9,Bb,c,λj N=>?_⟩;grind [D]
    omega
   go_wp2;go_roundg g
   .refine⟨k+1,B9,Bb,c,λj N=>?_⟩;grind [D]
   omega
  have af:=(R Z).1;have ab:=T<|(R Z).2;by_cases ad:q<n
  .have r:(q:J)<n:=E;obtain _|v:=gk
   .have:=AE hq;omega
   cases e1:le a q
   .have S:D<|F1 le a b q=AP->le k q=AP:=λh=>kfn
    go_wp2_with(first
     |(refine CO Z 40 _ Z _ Z _ _ _ _ c.h underlying40 Z d ?_)
     |(refine F0 Z Z Z c.h underlying40 Z d ?_)
     |(go_at_call 69;refine Ce (l _ _ E E c) ?_;rintro e p ⟨rfl,f⟩;have c:=T f))
    go_roundg v;exact⟨q+1,AP,B9,Bb,Z,c,(λ_=>⟨E,λi F hu=>by grind [D]⟩),(λh=>Bs)⟩;omega
   cases e2:le b q
   .have S:D<|F1 le a b q=AP->le k q=AP:=λh=>kfn
    go_wp2_with(first
     |(refine CO Z 40 _ Z _ Z _ _ _ _ c.h underlying40 Z d ?_)
     |(refine F0 Z Z Z c.h underlying40 Z d ?_)
     |(go_at_call 69;refine Ce (l _ _ E E c) ?_;rintro e p ⟨rfl,f⟩;have c:=T f))
    go_roundg v;exact⟨q+1,AP,B9,Bb,Z,c,(λ_=>⟨E,λi F hu=>by grind [D]⟩),(λh=>Bs)⟩;omega
   cases V:le k q
   .have t:D<|GC n le a b k=AQ:=aL (k:=q) ad kfn V
    go_wp2_with(first
     |(refine CO Z 40 _ Z _ Z _ _ _ _ c.h underlying40 Z d ?_)
     |(refine F0 Z Z Z c.h underlying40 Z d ?_)
     |(go_at_call 69;refine Ce (l _ _ E E c) ?_;rintro e p ⟨rfl,f⟩;have c:=T f))
    go_roundg v;exact⟨q+1,AQ,B9,Bb,Z,c,(λh=>Bs),(λ_=>AE t)⟩;omega
   have S:D<|F1 le a b q=AP->le k q=AP:=λ_=>V
   go_wp2_with(first
    |(refine CO Z 40 _ Z _ Z _ _ _ _ c.h underlying40 Z d ?_)
    |(refine F0 Z Z Z c.h underlying40 Z d ?_)
    |(go_at_call 69;refine Ce (l _ _ E E c) ?_;rintro e p ⟨rfl,f⟩;have c:=T f))
   go_roundg v;exact⟨q+1,AP,B9,Bb,Z,c,(λ_=>⟨E,λi F hu=>by grind [D]⟩),(λh=>Bs)⟩;omega
  have r:¬(q:J)<n:=E;have t:D<|GC n le a b k=AP:=Wn HU λi F=>ab.out i E;go_wp2;go_ret;exact⟨k,Z,by grind [D,Wo],c.ai Q⟩
def J8(n:AH)(m:AH->AH->AK)(a b:AH):AK:=AR (n=n)&&(!(a==b)&&m a b&&m b a)
def Nd(n:AH)(m:AH->AH->AK):AK:=(List.range n).all λa=>(List.range n).all λb=>!J8 n m a b
theorem kz{a:I}(c:a<n)(hb:b<n)(h:J8 n m a b=AP):Nd n m=AQ:=by unfold Nd;rw[VB];refine⟨a,Hi.2 c,?_⟩;grind
theorem kA(h:∀a b,a<n->b<n->J8 n m a b=AQ):Nd n m=AP:=by grind [Nd]
def JX(n:AH)(m:AH->AH->AK)(a b:AH):AK:=FB n m a b&&FB n (λi j=>m j i) a b
def Nf(n:AH)(m:AH->AH->AK):AK:=(List.range n).all λa=>(List.range n).all λb=>JX n m a b
theorem YP{a:I}(c:a<n)(hb:b<n)(h:JX n m a b=AQ):Nf n m=AQ:=by grind [Nf]
theorem kB(h:∀a b,a<n->b<n->JX n m a b=AP):Nf n m=AP:=by grind [Nf]
def YQ{s:I}{arr:A3}(H:Pp arr n L ea ecap)(a:I)(c:a<n)(hb:b<n)(h:FW s W0 arr ea L W):Ar As 99 #[.agg arr,C Y a,C Y b] W λe i=>∃r:J,e=Ak (C Y r)/\D (AR (r<0) = !FB n (DZ n L) a b)/\FW s W0 arr ea L i :=
 Ce (ky AQ H c hb h.a) λ_ _ ⟨r,f,g,d⟩=>⟨r,f,g,h.a0 d⟩
def kD{s:I}{arr:A3}(H:Pp arr n L ea ecap)(a:I)(c:a<n)(hb:b<n)(h:FW s W0 arr ea L W):Ar As 100 #[.agg arr,C Y a,C Y b] W λe k=>∃r:J,e=Ak (C Y r)/\D (AR (r<0) = !FB n (λi j=>DZ n L j i) a b)/\FW s W0 arr ea L k :=
 Ce (ky AP H c hb h.a) λ_ _ ⟨r,f,g,d⟩=>⟨r,f,g,h.a0 d⟩
theorem qpf{arr:A3}(H:Pp arr n L ea ecap)(u:G0 w ea L):Ar As 61 #[.agg arr] w λe Q=>e=Ak (Ah<|Nd n<|DZ n L)/\A0 w Q:=by
 have p:=H.ai.f0;have hn:=H.f;have d:=T<|DC H.ai.size;have j:=T H;have V:=T<|YO arr u;have o:D<|A0 w<|Az w<|M arr 40:=Cm;go_enter func61,ntmps61;go_wp2;generalize Az w (M arr 40)=W0 at *
 go_loopg[3,4] n (λg x y wr=>∃k:I,D (k+g=n)/\x=C Y k/\D (FW (O<|U w) W0 arr ea L wr)/\D (∀a b,a<k->b<n->J8 n (DZ n L) a b=AQ))
 grind [D];obtain⟨k,m,rfl,c,t⟩:=hrel;have z:=Ca (c.cell 0) p;obtain _|g:=gk
 .have B:¬(k:J)<n:=AY<|AE m;go_wp2;go_ret;exact⟨by rw[kA λa b v h=>t.out a b (AY<|AE m) h];rfl,c.ai o⟩
 have B:(k:J)<n:=AY<|AE m;go_wp2
 go_loopg[4] n (λg x wr=>∃q:I,D (q+g=n)/\x=C Y q/\D (FW (O<|U w) W0 arr ea L wr)/\D (∀b,b<q->J8 n (DZ n L) k b=AQ))
 grind [D];obtain⟨q,r,rfl,c,S⟩:=hrel;have z:=Ca (c.cell 0) p;obtain _|l:=gk
 .have P:¬(q:J)<n:=AY<|AE r;go_wp2;go_roundg g
  .refine⟨k+1,B9,Bb,c,λa b v h=>?_⟩;grind [D]
  omega
 have P:(q:J)<n:=AY<|AE r;by_cases A:k=q
 .have i:D<|J8 n (DZ n L) k q=AQ:=kfJ;have F:((k:J)==q)=AP:=Wm.2 E;have N:((k:J) != q)=AQ:=B9;go_wp2;go_roundg l
  .refine⟨q+1,B9,Bb,c,λb h=>?_⟩;grind [D]
  omega
 have F:((k:J)==q)=AQ:=Nv.2 E;have N:((k:J) != q)=AP:=by rw[bne_iff_ne];omega
 have R:=T<|Nv.2 A;cases W:DZ n L k q
 .have i:D<|J8 n (DZ n L) k q=AQ:=kfJ
  go_wp2_with(first
   |(refine CO Z 40 _ Z _ Z _ _ _ _ c.h underlying40 Z d ?_)
   |(refine F0 Z Z Z c.h underlying40 Z d ?_)
   |(go_at_call 69;refine Ce (UM j E E c) ?_;rintro e s ⟨rfl,f⟩;have c:=T f))
  go_roundg l
  .refine⟨q+1,B9,Bb,c,λb h=>?_⟩;grind [D]
  omega
 cases e2:DZ n L q k
 .have i:D<|J8 n (DZ n L) k q=AQ:=kfJ
  go_wp2_with(first
   |(refine CO Z 40 _ Z _ Z _ _ _ _ c.h underlying40 Z d ?_)
   |(refine F0 Z Z Z c.h underlying40 Z d ?_)
   |(go_at_call 69;refine Ce (UM j E E c) ?_;rintro e s ⟨rfl,f⟩;have c:=T f))
  go_roundg l
  .refine⟨q+1,B9,Bb,c,λb h=>?_⟩;grind [D]
  omega
 have i:D<|J8 n (DZ n L) k q=AP:=kfJ
 go_wp2_with(first
  |(refine CO Z 40 _ Z _ Z _ _ _ _ c.h underlying40 Z d ?_)
  |(refine F0 Z Z Z c.h underlying40 Z d ?_)
  |(go_at_call 69;refine Ce (UM j E E c) ?_;rintro e s ⟨rfl,f⟩;have c:=T f))
 go_ret;exact⟨by rw[kz (a:=k) E E i.out];rfl,c.ai o⟩
theorem qq2{arr:A3}(H:Pp arr n L ea ecap)(R:G0 w ea L):Ar As 62 #[.agg arr] w λe w'=>e=Ak (Ah<|Nf n<|DZ n L)/\A0 w w':=by
 have A:=H.ai.f0;have hn:=H.f;have f:=T<|DC H.ai.size;have h:=T H;have ab:=T<|YO arr R;have p:D<|A0 w<|Az w<|M arr 40:=Cm;go_enter func62,ntmps62;go_wp2;generalize Az w (M arr 40)=W0 at *
 go_loopg[3,4] n (λg x ac wr=>∃k:I,D (k+g=n)/\x=C Y k/\D (FW (O<|U w) W0 arr ea L wr)/\D (∀a b,a<k->b<n->JX n (DZ n L) a b=AP))
 grind [D];obtain⟨k,u,rfl,c,P⟩:=hrel;have V:=Ca (c.cell 0) A;obtain _|g:=gk
 .have W:¬(k:J)<n:=AY<|AE u;go_wp2;go_ret;exact⟨by rw[kB λa b S t=>P.out a b (AY<|AE u) t];rfl,c.ai p⟩
 have W:(k:J)<n:=AY<|AE u;go_wp2
 go_loopg[4] n (λg x wr=>∃q:I,D (q+g=n)/\x=C Y q/\D (FW (O<|U w) W0 arr ea L wr)/\D (∀b,b<q->JX n (DZ n L) k b=AP))
 grind [D];obtain⟨q,F,rfl,c,HQ⟩:=hrel;have V:=Ca (c.cell 0) A;obtain _|Q:=gk
 .have i:¬(q:J)<n:=AY<|AE F;go_wp2;go_roundg g
  .refine⟨k+1,B9,Bb,c,λa b S t=>?_⟩;grind [D]
  omega
 have i:(q:J)<n:=AY<|AE F;cases s:FB n (DZ n L) k q
 .have l:D<|JX n (DZ n L) k q=AQ:=by grind [JX]
  have v:=T s
  go_wp2_with(first
   |(refine CO Z 40 _ Z _ Z _ _ _ _ c.h underlying40 Z f ?_)
   |(refine F0 Z Z Z c.h underlying40 Z f ?_)
   |(go_at_call 99;refine Ce (YQ h k E E c) ?_;rintro e o ⟨r,rfl,m,d⟩;have c:=T d;have y:AR (r<0)=AP:=(by grind [D])))
  go_ret;exact⟨kes,c.ai p⟩
 cases z:FB n (λj aa=>DZ n L aa j) k q
 .have l:D<|JX n (DZ n L) k q=AQ:=by grind [JX]
  have v:=T s;have N:=T z
  go_wp2_with(first
   |(refine CO Z 40 _ Z _ Z _ _ _ _ c.h underlying40 Z f ?_)
   |(refine F0 Z Z Z c.h underlying40 Z f ?_)
   |(go_at_call 99;refine Ce (YQ h k E E c) ?_;rintro e o ⟨r,rfl,m,d⟩;have c:=T d;have B:AR (r<0)=AQ:=(by grind [D]))
   |(go_at_call 100;refine Ce (kD h k E E c) ?_;rintro e o ⟨r,rfl,m,d⟩;have c:=T d;have y:AR (r<0)=AP:=(by grind [D])))
  go_ret;exact⟨kes,c.ai p⟩
 have l:D<|JX n (DZ n L) k q=AP:=by grind [JX]
 have v:=T s;have N:=T z
 go_wp2_with(first
  |(refine CO Z 40 _ Z _ Z _ _ _ _ c.h underlying40 Z f ?_)
  |(refine F0 Z Z Z c.h underlying40 Z f ?_)
  |(go_at_call 99;refine Ce (YQ h k E E c) ?_;rintro e o ⟨r,rfl,m,d⟩;have c:=T d;have B:AR (r<0)=AQ:=(by grind [D]))
  |(go_at_call 100;refine Ce (kD h k E E c) ?_;rintro e o ⟨r,rfl,m,d⟩;have c:=T d;have B:AR (r<0)=AQ:=(by grind [D])))
 go_roundg Q
 .refine⟨q+1,B9,Bb,c,λb t=>?_⟩;grind [D]
 omega
theorem qpP(h:∀i j,i<n->j<n->m i j=m' i j):IC n m = !Nd n m':=by
 cases k:IC n m
 .symm;rw[Bool.not_eq_false'];refine kA λa b e c=>?_;cases d:J8 n m' a b
  .rfl
  exfalso;unfold J8 at d;simp only[Fj,VS,Nv]at d;obtain⟨_,⟨p,f⟩,g⟩:=d;rw[<-h a b e c]at f;rw[<-h b a c e]at g;rcases Nat.lt_or_ge b a with o|l
  .grind [Wq,Le]
  have:=Wq (m:=m) c (show a<b by omega) (by grind [Le]);grind
 grind [IC,Le,kz,J8]
theorem q0I(m:I->I->AK)(a b k:I):F1 m a b k=F1 m b a k:=kfn
theorem qlU(n:I)(m:I->I->AK)(a b:I):FB n m a b=FB n m b a:=by grind [FB,GC,q0I]
theorem qlx{a:I}(b:a<n)(c:m a a=AP):FB n m a a=AP:=by grind [Wo,Wn,F1]
theorem quc(h:∀i j,i<n->j<n->m i j=m' i j)(f:∀i,i<n->m' i i=AP):Jz n m=Nf n m':=by
 have e:∀a b,a<n->b<n->Kb n m a b=JX n m' a b:=λa b c d=>by grind [Kb,JX,aP]
 grind [JX,qlU,qlx,Jz,List.all_eq_false,YP,kB]
theorem q6P{c:J}(cap:I)(g:K L<=maxLen)(b:G0 w a L)(h:F9 c L=AQ):Ar As 135 #[C Y c,G a (K L) cap] w λe f=>e=Ak (Af #[.agg CU,Ah AQ])/\A0 w f:=by
 by_cases d:1<=c/\c<=6/\K L<=30
 .obtain⟨n,rfl⟩:=PL (show 0<=c by omega);have i:Fv n L=AQ:=by grind [F9]
  refine Ce (aV E E d.2.2 b) ?_;grind [T9]
 grind [nW]
theorem q4z{c:J}(cap:I)(b:G0 w a L)(h:F9 c L=AP):Ar As 135 #[C Y c,G a (K L) cap] w λe f=>e=Ak (Af #[.agg<|Dp c.toNat<|DY c.toNat L,Ah AP])/\A0 w f:=by unfold F9 at h;rw[Fj]at h;have d:=Dr h.1;obtain⟨n,rfl⟩:=PL (show 0<=c by omega);refine Ce (aV E E d.2.2 b) ?_;grind [aU]
def G9(c:AI)(L:AJ<|AI×AI)(d k:AI):AI :=
 if F9 c L&&Dg c.toNat d&&Dg c.toNat k then(if IC c.toNat (DY c.toNat L)then 2 else if Jz c.toNat (DY c.toNat L)then 0 else 3)else 1
def Js(c:AI)(L:AJ<|AI×AI)(d k:AI):A3:=if G9 c L d k=0 then Dp c.toNat (DY c.toNat L)else CU
def Jt(c:AI)(L:AJ<|AI×AI)(d k:AI):Aq:=Af #[.agg<|Js c L d k,Ab Al<|G9 c L d k]
theorem YR{c:J}{k:J}(h:(F9 c L&&Dg c.toNat d&&Dg c.toNat k)=AQ):Jt c L d k=Af #[.agg CU,C Y 1]:=keM
theorem q8O{c:J}{k:J}(h:(F9 c L&&Dg c.toNat d&&Dg c.toNat k)=AP)(a:IC c.toNat (DY c.toNat L)=AP):Jt c L d k=Af #[.agg CU,C Y 2]:=keM
theorem q8D{c:J}{k:J}(h:(F9 c L&&Dg c.toNat d&&Dg c.toNat k)=AP)(a:IC c.toNat (DY c.toNat L)=AQ)(b:Jz c.toNat (DY c.toNat L)=AQ):Jt c L d k=Af #[.agg CU,C Y 3]:=keM
theorem q85{c:J}{k:J}(h:(F9 c L&&Dg c.toNat d&&Dg c.toNat k)=AP)(a:IC c.toNat (DY c.toNat L)=AQ)(b:Jz c.toNat (DY c.toNat L)=AP):Jt c L d k=Af #[.agg<|Dp c.toNat<|DY c.toNat L,C Y 0]:=keM
structure Su(w:Ap)(N:AH)(arr A:A3)(W:Ap):Prop where
 ac:A0 w W
 h:W.heap[Au (Av w)]?=An (Aj arr 40)
 a:W.heap[Au (Av w)+1]?=An (Aj CU 123)
 a2:W.heap[N]?=An (Aj A 123)
 d:Au (Av w)+1<N
def Su.a0{arr A:A3}(h:Su w N arr A W)(hb:A0 W W'):Su w N arr A W':=by have a:=Cd h.a2;have:=h.d;exact⟨Cs h.ac<|CG hb h.ac.size,Ca (Co hb _ E) h.h,Ca (Co hb _ E) h.a,Ca (Co hb _ a) h.a2,h.d⟩
theorem kE(w:X){arr A:A3}(hb:Below (O (U w)+1+1) (Az (Az w<|M arr 40)<|M CU 123) w2):Su w (O<|U w2) arr A<|Az w2<|M A 123:=by
 have a:=hb.size;simp only[CL,A0]at a;refine⟨(Cs ((Cm).alloc Ba _)<|CG hb E).alloc E _,?_,?_,Cj _,E⟩
 .rw[CB _ _ _ E,Co hb _ E,CB _ _ _ Ba];exact Cj _
 rw[CB _ _ _ E,Co hb _ E];grind [Cj,World.size_alloc]
theorem qmf(arr:Array Value)(c:Int){L:List<|Int×Int}{ea:Option Addr}{ecap:Nat}{d k:Int}(f0:arr[0]?=some (.int .i64 c))(f1:arr[1]?=some (.slice ea L.length ecap))(f2:arr[2]?=some (.int .i64 d))(f4:arr[4]?=some (.int .i64 k))(hL:L.length<=maxLen){w:World}(hE:G0 w ea L):Calls prog 92 #[.agg arr] w λe w'=>e=.returned (Jt c L d k)/\Below w.heap.size w w':=by
 have HE2:Hid<|G0 ((w.alloc<|.cells arr 40).alloc<|.cells CU 123) ea L:=hE.ac ((Cm).alloc (by simp) _);have HL:=C9 hL;cases hnew:F9 c L
 .have HF:Hid<|Jt c L d k=.tuple #[.agg CU,.int .i64 1]:=YR (by rw[hnew];rfl);have cN:=q6P ecap HL.out HE2.out hnew;go_enter func92,ntmps92
  go_wp2_with(first
   |(refine Ky rfl rfl rfl (w.heap.size+1) ?hN ?_;case hN=>(simp only[CL,A0];done))
   |(go_at_call 135;refine Ce cN ?_;rintro e w2 ⟨rfl,hB2⟩;have HT:=C9<|kE w (w2:=w2) (arr:=arr) (A:=CU)<|by simp only[CL,A0]at hB2;exact hB2)
   |(refine Ky rfl rfl rfl w2.heap.size rfl ?_)
   |(refine Jg rfl rfl rfl ?hl OL ?_;case hl=>simp)
   |(refine D8 rfl 123 _ _ rfl w2.heap.size CU rfl rfl 123 CU (Cj w2) (DM<|Dc) rfl (Hl) ?_;rw[Gd])
   |(refine D8 rfl 123 _ _ rfl (w.heap.size+1) CU rfl rfl 123 CU HT.out.a (DM<|Dc) rfl (Hl) ?_))
  refine CS (ID results92 (g:=(w.heap.size+1)) (t:=123) (cs:=CU) (fr:=(0,0)) rfl (CR _ _ CU _ _ _ HT.out.a) underlying123 rfl (DM<|Dc) (.int .i64 1) rfl) rfl ⟨by rw[HF.out],Dq HT.out.ac<|by omega⟩
 have cN:=q4z ecap HE2.out hnew;have HNN:=C9 hnew;have hcb:1<=c/\c<=6:=by grind [F9]
 clear hnew;obtain⟨n,rfl⟩:=PL (show 0<=c by omega);have hn:n<=6:=by omega
 rw[OD]at cN;have HT:Hid (∀x,Dg ((n:Int)).toNat x=Dg n x):=λx=>by rw[OD]
 have HC:Hid<|IC ((n:Int)).toNat (DY ((n:Int)).toNat L)=IC n (DY n L):=by grind [Hid]
 have HD:Hid<|Jz ((n:Int)).toNat (DY ((n:Int)).toNat L)=Jz n (DY n L):=by grind
 have HA:Hid<|Dp ((n:Int)).toNat (DY ((n:Int)).toNat L)=Dp n (DY n L):=by grind
 generalize DY n L=M at *;have hW:(Dg n d=false/\Hid (Jt n L d k=.tuple #[.agg CU,.int .i64 1]))\/(Dg n d=true/\Dg n k=false/\Hid (Jt n L d k=.tuple #[.agg CU,.int .i64 1]))\/(Dg n d=true/\Dg n k=true/\IC n M=true/\Hid (Jt n L d k=.tuple #[.agg CU,.int .i64 2]))\/(Dg n d=true/\Dg n k=true/\IC n M=false/\Jz n M=false/\Hid (Jt n L d k=.tuple #[.agg CU,.int .i64 3]))\/(Dg n d=true/\Dg n k=true/\IC n M=false/\Jz n M=true/\Hid (Jt n L d k=.tuple #[.agg<|Dp n M,.int .i64 0])):=by
  cases hd:Dg n d
  .grind [Hid,YR]
  cases hk:Dg n k
  .grind [Hid,YR]
  grind [Hid,q8D,q85,q8O]
 clear HT HC HD HA HNN;have T1:=trivial;rcases hW with⟨hd,HF⟩|⟨hd,hk,HF⟩|⟨hd,hk,hcy,HF⟩|⟨hd,hk,hcy,hla,HF⟩|⟨hd,hk,hcy,hla,HF⟩
 all_goals
  go_enter func92,ntmps92
  go_wp2_with(first
   |(refine Ky rfl rfl rfl (w.heap.size+1) ?hN ?_;case hN=>(simp only[CL,A0];done))
   |(go_at_call 135;refine Ce cN ?_;clear cN;rintro e w2 ⟨rfl,hB2⟩;have HX:Hid<|Su w w2.heap.size arr (Dp n M)<|w2.alloc<|.cells (Dp n M) 123:=kE w (by simp only[CL,A0]at hB2;exact hB2);have hc2:=Ca (Cc HX.out.h 2) f2)
   |(refine Ky rfl rfl rfl w2.heap.size rfl ?_)
   |(refine D8 rfl 123 _ _ rfl w2.heap.size (Dp n M) rfl rfl 123 CU (Cj w2) (DM<|Dc) (by rw[Dc];exact Dc) (Hl) ?_;rw[Gd])
   |(refine CO rfl 123 _ rfl _ rfl _ _ _ _ HX.out.a2 underlying123 rfl (DM<|Dc) ?_)
   |(refine F0 rfl rfl rfl HX.out.a2 underlying123 rfl (DM<|Dc) ?_)
   |(refine Jg rfl rfl rfl ?hl OL ?_;case hl=>simp)
   |(go_at_call 67;clear T1;refine Ce (OM (Hk n M).aq d _) ?_;rintro e w3 ⟨rfl,hB3⟩;have HX3:=HX.out.a0 hB3;clear HX hc2;have HX:=C9 HX3;clear HX3 hB3;have hc2:=Ca (Cc HX.out.h 4) f4)
   |(go_at_call 67;skip;refine Ce (OM (Hk n M).aq k _) ?_;rintro e w3 ⟨rfl,hB3⟩;have HX3:=HX.out.a0 hB3;clear HX hc2;have HX:=C9 HX3;clear HX3 hB3;have hc2:=Ca (Cc HX.out.h 4) f4)
   |(go_at_call 136;skip;refine Ce (nC (Hk n M) hn) ?_;rintro e w3 ⟨rfl,hB3⟩;have HX3:=HX.out.a0 hB3;clear HX hc2;have HX:=C9 HX3;clear HX3 hB3;have hc2:=Ca (Cc HX.out.h 4) f4)
   |(go_at_call 137;skip;refine Ce (nN (Hk n M) hn) ?_;rintro e w3 ⟨rfl,hB3⟩;have HX3:=HX.out.a0 hB3;clear HX hc2;have HX:=C9 HX3;clear HX3 hB3;have hc2:=Ca (Cc HX.out.h 4) f4)
   |(refine D8 rfl 123 _ _ rfl (w.heap.size+1) CU rfl rfl 123 CU HX.out.a (DM<|Dc) rfl (Hl) ?_)
   |(refine D8 rfl 123 _ _ rfl (w.heap.size+1) (Dp n M) rfl rfl 123 CU HX.out.a (DM<|Dc) (by rw[Dc];exact Dc) (Hl) ?_))
  first
  |refine CS (ID results92 (g:=(w.heap.size+1)) (cs:=CU) rfl (CR _ _ CU _ _ _ HX.out.a) underlying123 rfl (DM<|Dc) (.int .i64 _) rfl) rfl ⟨by rw[HF.out],Dq HX.out.ac<|by omega⟩
  |refine CS (ID results92 rfl (CR _ _ CU _ _ _ HX.out.a) underlying123 rfl (DM<|Dc) (.int .i64 0) rfl) rfl ⟨by rw[HF.out],Dq HX.out.ac<|by omega⟩
def DU(f:AI):AK:=f==1||f==2||f==3
def UN{f:J}:Ar As 48 #[C Y f] w λe a=>e=Ak (Ah<|DU f)/\a=w:=by
 go_enter func48,ntmps48;go_wp2
 all_goals go_ret
 all_goals exact⟨by simp[DU, *],rfl⟩
def UO(f:J):Ar As 45 #[C Y f] w λe a=>e=Ak (Ah<|DU f)/\a=w:=by
 go_enter func45,ntmps45;go_wp2
 all_goals go_ret
 all_goals exact⟨by simp[DU, *],rfl⟩
def EJ(i o d b:AI):AK:=DU i&&DU o&&AR (1<=d)&&AR (d<=16)&&AR (1<=b)&&AR (b<=4096)
theorem kF(i o d b:J)(w:X):Ar As 40 #[C Y i,C Y o,C Y d,C Y b] w λe f=>e=Ak (Ah<|EJ i o d b)/\f=w:=by
 cases g:DU i
 .have a:D<|EJ i o d b=AQ:=by grind [D,EJ]
  go_enter func40,ntmps40
  go_wp2_with(first
   |(go_at_call 48;skip;refine Ce (UN) ?_;rintro e c ⟨rfl,rfl⟩))
  go_ret;exact⟨by rw[AE a];rfl,rfl⟩
 cases h:DU o
 .have a:D<|EJ i o d b=AQ:=by grind [D,EJ]
  go_enter func40,ntmps40
  go_wp2_with(first
   |(go_at_call 48;refine Ce (UN) ?_;rintro e c ⟨rfl,rfl⟩))
  go_ret;exact⟨by rw[AE a];rfl,rfl⟩
 have a:D<|EJ i o d b=(AR (1<=d)&&AR (d<=16)&&AR (1<=b)&&AR (b<=4096)):=by grind [D,EJ]
 go_enter func40,ntmps40
 go_wp2_with(first
  |(go_at_call 48;refine Ce (UN) ?_;rintro e c ⟨rfl,rfl⟩))
 all_goals go_ret
 all_goals refine⟨?_,rfl⟩
 all_goals rw[AE a]
 all_goals simp[*]
 all_goals(intros;omega)
def Mf(c:CF):AK:=F9 c.a c.L&&Dg c.a.toNat c.c&&Dg c.a.toNat c.d
def CW(c:CF):AI :=
 if Mf c=AQ then 1
 else if Nd c.a.toNat (DZ c.a.toNat c.L)=AQ then 2
 else if Nf c.a.toNat (DZ c.a.toNat c.L)=AQ then 3
 else if EJ c.f c.out c.b c.bytes=AQ then 4
 else if IE c.B=AQ then 5
 else if 0<=E5 c.a.toNat c.e.data.toList then 6 else 0
def E9(c:CF):AI:=if CW c=6 then E5 c.a.toNat c.e.data.toList else 0
def qt9:bq CW:=λ_ _=>rfl
def qtP:bq E9:=λ_ _=>rfl
structure Ng(w:Ap)(c:CF)(W:Ap):Prop where
 ac:A0 w W
 h:W.heap[Au (Av w)]?=An (Aj c.ai 40)
def Ng.a0{c:CF}(h:Ng w c W)(hb:A0 W W'):Ng w c W' :=
 ⟨Cs h.ac<|CG hb h.ac.size,Ca (Co hb _<|Cd h.h) h.h⟩
def Pq(w:X)(c:CF):Ng w c<|Az w<|M c.ai 40:=⟨Cm,Cj _⟩
def Ng.cell{c:CF}(h:Ng w c W)(j:I):AC W ⟨O<|U w,j,Ao⟩=c.ai[j]?:=Cc h.h j
def Ng.ai{c:CF}(h:Ng w c W)(a:Fa w c):Fa W c:=a.ac h.ac
theorem qzn{c:CF}(h:Fa w c):Ar As 59 #[.agg c.ai] w λe d=>e=Ak (Ah<|F9 c.a c.L)/\A0 w d:=by
 by_cases a:1<=c.a/\c.a<=6/\K c.L<=30
 .have e:F9 c.a c.L=Fv c.a.toNat c.L:=by grind [F9]
  rw[e];have b:((c.a.toNat:I):J)=c.a:=PK E;exact yg ⟨c.size,by rw[b];rfl,rfl⟩ E E a.2.2 h.a
 have e:F9 c.a c.L=AQ:=by grind [F9]
 rw[e];exact yf Z Z (B4 h.eb) a
def Pr{c:CF}(h:F9 c.a c.L=AP):((c.a.toNat:I):J)=c.a/\Pp c.ai c.a.toNat c.L c.j c.h:=by unfold F9 at h;rw[Fj]at h;have b:=Dr h.1;have a:((c.a.toNat:I):J)=c.a:=PK E;exact⟨a,⟨⟨c.size,kfr,Z⟩,E,b.2.2,h.2⟩⟩
theorem kG{P:Program}{fn:Func}{p u u2:Tmp}{ty:AN}(h:fn.results=#[.cell p ty,.tmp u,.tmp u2]){tmps:A3}{w:X}{g:I}{t:AN}{cs:A3}{fr:I×I}{d:TypeDesc}(i:tmps.getD p AO=A8 g)(f:w.heap[g]?=H (M cs t fr))(j:P.underlying ty=H d)(c:(match d with|.struct _|.array _ _=>AP|_=>AQ)=AP)(hi:(P.info? ty).map (·.size)=H cs.size)(v b:Aq)(k:tmps.getD u AO=v)(l:tmps.getD u2 AO=b):(results fn tmps).run P w=.ok (Af #[.agg cs,v,b]) w:=by have e:(results fn tmps).run P w=((asAddr<|tmps.getD p AO).run P w).andThen λa m=>((loadVar ty a).run P m).andThen λv n=>.ok (Af #[v,tmps.getD u AO,tmps.getD u2 AO]) n:=Bm;subst k l;rw[e,i];simp only[asAddr,Ge,FZ,Jy w g t ty cs fr d f j c hi]
def J9(O:A3)(a:A4)(k c:AH):A3:=O.push<|Ac a k c
def EY:A3:=J9 CU Ao 0 0
def qts:prog.built 126 []=H EY:=B6
theorem qx5(n:I)(m:I->I->AK)(a:A4)(k c:I):prog.built 126 [(0,.agg<|Dp n m),(1,G a k c)]=H (J9 (Dp n m) a k c):=B6
def q2A:(prog.info? 126).map (·.size)=H 38:=B6
def qnU(a:o.op=.alloc 126):(execOp ρ o).run As w=.ok (.value<|A8<|O<|U w) (Az w<|M EY 126):=BL
def Nh{a:Act}(e:o.guard=Ao)(f:o.op=.alloc 126){d:Option Tmp}(c:o.dst=d)(N:I)(b:O (U w)=N)(h:wpList As ops Q rest (a.put d<|A8 N)<|Az w<|M EY 126):wpList As ops Q (o::rest) a w:=by subst b;exact R7 e d c _ _ (qnU f) h
def Sv{O:A3}(h:O.size=37){c:I}:(J9 O a k c).size=38:=by unfold J9;simp[h]
def YS{O:A3}(h:O.all (·.oneCell')=AP){c:I}:(J9 O a k c).all (·.oneCell')=AP:=by unfold J9;rw[Array.all_push,h];rfl
theorem Oe:EY.size=38:=Sv<|Dc
def kH:EY.all (·.oneCell')=AP:=YS<|Hl
def KW{A:A3}(h:A.size=38):(prog.info? 126).map (·.size)=H A.size:=by rw[h];exact q2A
def Hd(c:CF):AI:=if¬G9 c.a c.L c.c c.d=0 then G9 c.a c.L c.c c.d else if EJ c.f c.out c.b c.bytes=AQ then 4 else if I8 c.B=AQ then 5 else Fg c.a.toNat c.e.data.toList
def KX(c:CF):AI:=if¬G9 c.a c.L c.c c.d=0 then 0 else if EJ c.f c.out c.b c.bytes=AQ then 0 else if I8 c.B=AQ then 0 else IV c.a.toNat c.e.data.toList
theorem kI(c:CF):(F9 c.a c.L=AP->G9 c.a c.L c.c c.d=if Mf c=AQ then 1 else if Nd c.a.toNat (DZ c.a.toNat c.L)=AQ then 2 else if Nf c.a.toNat (DZ c.a.toNat c.L)=AQ then 3 else 0)/\(F9 c.a c.L=AQ->G9 c.a c.L c.c c.d=1/\Mf c=AQ):=by
 constructor
 .intro h;obtain⟨_,b⟩:=Pr h;have d:∀i j,i<c.a.toNat->j<c.a.toNat->DY c.a.toNat c.L i j=DZ c.a.toNat c.L i j:=λi j a e=>YN b.a a e;have f:=qpP d;have g:=quc d λi a=>qwj b.a a;grind [G9,Mf]
 grind [G9,Mf]
theorem QI(c:CF):Hd c=CW c/\KX c=E9 c:=by
 have key:Hd c=CW c/\KX c=if CW c=6 then E5 c.a.toNat c.e.data.toList else 0:=by unfold Hd KX CW Fg IV;grind [od,F9,kI]
 exact⟨key.1,Ca key.2 Z⟩
theorem q6T{c:CF}(h:G9 c.a c.L c.c c.d=0):F9 c.a c.L=AP/\Js c.a c.L c.c c.d=Dp c.a.toNat (DY c.a.toNat c.L):=by grind [kI,Js]
structure Ps(w:Ap)(c:CF)(W:Ap):Prop where
 ac:A0 w W
 h:W.heap[Au (Av w)]?=An (Aj c.ai 40)
 a:W.heap[Au (Av w)+1]?=An (Aj EY 126)
def Ps.a0{c:CF}(h:Ps w c W)(hb:A0 W W'):Ps w c W' :=
 ⟨Cs h.ac<|CG hb h.ac.size,Ca (Co hb _<|Cd h.h) h.h,Ca (Co hb _<|Cd h.a) h.a⟩
theorem q3N(w:X)(c:CF):Ps w c<|Az (Az w<|M c.ai 40)<|M EY 126:=by refine⟨(Cm).alloc Ba _,Ca (CB _ _ _ Ba)<|Cj _,?_⟩;grind [Cj,World.size_alloc]
def Ps.cell{c:CF}(h:Ps w c W)(j:I):AC W ⟨O<|U w,j,Ao⟩=c.ai[j]?:=Cc h.h j
theorem q8Z{c:CF}(h:¬G9 c.a c.L c.c c.d=0):Hd c=G9 c.a c.L c.c c.d/\KX c=0:=by grind [Hd,KX]
def DH(l:A1):AH×A1:=if l==[42]then(0,[])else if l==[42,42]then(1,[])else if l==[91,93]then(2,[])else(3,l)
def GM(s:AH×A1):AJ Aq:=[Ab Al s.1,Ae ⟨Aw s.2⟩]
def EZ(l:A1):AJ A1:=if l==[46]then[]else Db 47 l
def De(l:A1):AJ A1×AI×AI:=match Db 32 l with
 |[p,b,c]=>(EZ p,Lt b,F6 ⟨Aw c⟩)
 |_=>([],0,0)
def Ea(l:A1):AJ<|AJ A1×AI×AI:=if At l=0 then[]else(Db 10 l).map De
def DV(r:AJ A1×AI×AI):AJ (AH×A1)×AI×AI:=(r.1.map DH,r.2)
theorem kJ(h:Dn n l=AP):Db 32 l=[(Lib.cut l [32]).1,(Lib.cut (Lib.cut l [32]).2.1 [32]).1,(Lib.cut (Lib.cut l [32]).2.1 [32]).2.1]:=by
 rw[<-jO]at h;unfold UE at h;rcases Nb 32 l with⟨f,i⟩|⟨a,r,f,_,i⟩
 .rw[f]at h;rcases Nb 32 []with⟨c,g⟩|⟨a,r,_,c,_⟩
  .simp[c,IP]at h
  simp at c
 rw[f]at h ⊢;rw[i];rcases Nb 32 r with⟨c,g⟩|⟨b,q,c,_,g⟩
 .grind [YI]
 rw[c]at h ⊢;rw[g];rcases Nb 32 q with⟨j,k⟩|⟨d,e,j,k,m⟩<;>grind [jN]
def YT{p b c:A1}(h:Db 32 l=[p,b,c]):De l=(EZ p,Lt b,F6 ⟨Aw c⟩):=by unfold De;rw[h]
def Fq(W:Ap)(lo:AH)(t:AN)(pa:A4)(cs:AJ Aq):Prop :=
 cs=[]\/∃b off cur fr,pa=An ⟨b,off,Ao⟩/\lo<=b/\W.heap[b]?=An (Aj cur t fr)/\∀j (h:j<At cs),cur[off+j]?=An cs[j]
def Fq.kept{cs:AJ Aq}(h:Fq W lo t pa cs)(g:∀b a fr,lo<=b->W.heap[b]?=H (M a t fr)->lo'<=b/\W'.heap[b]?=H (M a t fr)):Fq W' lo' t pa cs:=by
 rcases h with h|⟨b,off,a,fr,c,d,e,f⟩
 .exact AF h
 obtain⟨i,j⟩:=g b a fr d e;exact AG ⟨b,off,a,fr,c,i,j,f⟩
def Fq.ac{cs:AJ Aq}(h:Fq W lo t pa cs)(hb:A0 W W'):Fq W' lo t pa cs :=
 h.kept λb _ _ c a=>⟨c,Ca (Co hb b<|Cd a) a⟩
theorem kK{size:I}(h:W.ownsRow base e size v n xs)(hl:lo<=base):∃d b,v=G d n b/\Fq W lo e d xs:=by
 obtain⟨k,⟨a,c⟩|⟨g,b,f,a,c,i,_,_,_,l⟩⟩:=h
 .subst c;exact⟨Ao,0,a,AF<|QZ E⟩
 refine⟨_,_,a,AG ⟨g,0,f,_,Z,E,i,λj m=>?_⟩⟩;grind
def Ga(W:Ap)(lo:AH)(t:AN)(xs:AJ Aq)(es:AJ<|AJ Aq×AH×AI×AI):Prop :=
 At xs=At es*3/\∀i (h:i<At es),∃pa pc,xs[i*3]?=An (Ac pa es[i].2.1 pc)/\xs[i*3+1]?=An (Ab Al es[i].2.2.1)/\xs[i*3+2]?=An (Ab Al es[i].2.2.2)/\Fq W lo t pa es[i].1
def UP:Ga W lo t [] []:=⟨rfl,λi h=>BB⟩
def Ga.kept(h:Ga W lo t xs es)(j:∀b a fr,lo<=b->W.heap[b]?=H (M a t fr)->lo'<=b/\W'.heap[b]?=H (M a t fr)):Ga W' lo' t xs es:=by refine⟨h.1,λi g=>?_⟩;obtain⟨k,l,c,d,e,f⟩:=h.2 i g;exact⟨k,l,c,d,e,f.kept j⟩
def Ga.ac(h:Ga W lo t xs es)(hb:A0 W W'):Ga W' lo t xs es :=
 h.kept λb _ _ c a=>⟨c,Ca (Co hb b<|Cd a) a⟩
theorem Ga.push(h:Ga W lo t xs es){e:AJ Aq×I×J×J}(k:Fq W lo t pa e.1):Ga W lo t (xs++[G pa e.2.1 pc,C Y e.2.2.1,C Y e.2.2.2])<|es++[e]:=by
 have c:=h.1;refine⟨by simp[c];omega,λi a=>?_⟩;by_cases b:i<K es
 .obtain⟨m,n,d,f,g,j⟩:=h.2 i b;grind
 have l:i=K es:=by simp at a;omega
 simp_all
def kL:∀(ss:AJ<|I×A1) (j:I) (h:j<K ss),(ss.flatMap GM)[j*2]?=H (C Y ss[j].1)/\(ss.flatMap GM)[j*2+1]?=H (Ae ⟨ss[j].2.toArray⟩)
 |x::ss,0,_=>⟨rfl,rfl⟩
 |x::ss,j+1,h=>by have a:=kL ss j Bu;rw[VV,show(j+1)*2=j*2+2 by omega];exact a
def q5C(a:AJ<|I×A1):K (a.flatMap GM)=K a*2:=by
 induction a with
 |nil=>rfl
 |cons x a b =>
  rw[VV,Dj,b,FN];show 2+_=_;omega
def JY(r:AJ (AH×A1)×AI×AI):AJ Aq×AH×AI×AI:=(r.1.flatMap GM,At r.1,r.2.1,r.2.2)
theorem q3X(h:Fq W lo t pa<|ss.flatMap GM):Pg W pa ss:=by
 refine⟨λi a=>?_⟩;have l:=q5C ss;rcases h with h|⟨b,off,e,fr,f,g,j,k⟩
 .grind
 obtain⟨c,d⟩:=kL ss i a;grind [cell_of_row]
theorem q4k(h:W.ownsRow base 249 3 v (K rs) xs)(f:Ga W lo t xs<|rs.map JY):∃a c,v=G a (K rs) c/\J7 W a rs:=by
 obtain⟨k,⟨b,d⟩|⟨g,c,j,b,d,l,_,_,_,m⟩⟩:=h
 .exact⟨Ao,0,by rw[b,d],⟨λi e=>E⟩⟩
 refine⟨_,_,b,⟨λi e=>?_⟩⟩;obtain⟨r,s,n,o,p,q⟩:=f.2 i kf8;grind [cell_of_row,JY,q3X]
section
attribute[local go_sem] Oper.semAt_some
structure I1(w:Ap)(pre:AJ E4)(W:Ap):Prop where
 ac:A0 w W
 d:Boxed W (Au (Av w)) 247 (Ac Ao 0 0)
 b:Boxed W (Au (Av w)+1) 4 (Ah AQ)
 c:∃ao cap xs,Boxed W (Au (Av w)+2) 247 (Ac ao (At pre) cap)/\W.ownsRow (Au (Av w)+6) 254 2 (Ac ao (At pre) cap) (At pre) xs/\Go.RowKit.Hid (xs=pre.flatMap λx=>GM (DH (CM x)))
 a:At pre<=8
 all:pre.all (λx=>GL (CM x))=AP
 size:Au (Av w)+6<=Au (Av W)
theorem I1.a2{pre:AJ E4}(h:I1 w pre W)(a:W.grownBy W'<|H row)(c:row=O (U w)+3\/(O (U w)+6<=row/\∃o,W.heap[row]?=H o/\o.isCells=AQ)):I1 w pre W':=by
 obtain⟨g,j,p,m,d,n⟩:=h.c;refine⟨Cs h.ac ⟨a.os,a.tape,a.output,a.size,λi u=>a.block i Bn BF⟩,h.d.kept a BF,h.b.kept a BF,⟨g,j,p,m.kept a BF,d.kept a ?_,n⟩,h.a,h.all,CE h.size a.size⟩;rcases d.2 with⟨b,_⟩|⟨s,q,r,b,t,l,_⟩
 .left;rw[b];rfl
 right;rw[b];intro e;cases e;rcases c with c|⟨_,o,f,k⟩
 .grind
 rw[l]at f;cases f;cases k
theorem I1.out{pre post:AJ E4}(h:I1 w pre W)(hb:8<K post\/post.all (λx=>GL<|CM x)=AQ):Sn w post .ret<|AB (AB W ⟨O<|U w,0,Ao⟩<|G Ao 0 0) ⟨O (U w)+1,0,Ao⟩<|Ah AQ:=by
 have a:=Tr.set (O<|U w) (O (U w)+3) W (O<|U w) (G Ao 0 0) (Cr _) E;have b:=Tr.set (O<|U w) (O (U w)+3) (AB W ⟨O<|U w,0,Ao⟩<|G Ao 0 0) (O (U w)+1) (Ah AQ) E E;refine⟨Z,Cs h.ac (a.trans b).ac,?_,?_,hb,?_⟩
 .exact(h.d.set _).kept (grownBy_setCell' _ _ _) B9
 .exact Boxed.set _<|h.b.kept (grownBy_setCell' _ _ _) B9
 simp[World.setCell];exact h.size
def I1.alloc{pre:AJ E4}(h:I1 w pre W)(o:Obj):I1 w pre<|Az W o:=h.a2 (L7 W o<|H<|O (U w)+3)<|AF rfl
def I1.ai{pre:AJ E4}(h:I1 w pre W)(hb:A0 W W'):I1 w pre W' :=
 h.a2 (row:=O (U w)+3) ⟨hb.os,hb.tape,hb.output,hb.size,λi a _=>Co hb i a⟩<|AF rfl
def q3G(a:(Az (Az (Az (Az (Az (Az w<|M #[G Ao 0 0] 247)<|M #[Ah AQ] 4)<|M #[G Ao 0 0] 247)<|M #[.string s] 9)<|M #[Ae ⟨#[47]⟩] 9)<|M #[C Y 0] 3)=W0):I1 w [] W0:=by
 subst a;refine⟨?_,?_,?_,⟨Ao,0,[],?_,Fi _ _ _ _,Z⟩,Ex _,Z,Ba⟩
 .exact(((((Cm).alloc Ba _).alloc B7 _).alloc B7 _).alloc B7 _).alloc B7 _
 .exact(((((Boxed.new w _ _).alloc _).alloc _).alloc _).alloc _).alloc _
 .have:=Boxed.new (Az w<|M #[G Ao 0 0] 247) 4<|Ah AQ;rw[CL]at this;exact(((this.alloc _).alloc _).alloc _).alloc _
 have:=Boxed.new (Az (Az w<|M #[G Ao 0 0] 247)<|M #[Ah AQ] 4) 247<|G Ao 0 0;rw[CL,CL]at this;exact((this.alloc _).alloc _).alloc _
theorem YU{x:E4}(hi:i<3)(h:(x.1.toList==Jo i)=AP):GM (DH<|CM x)=[C Y (i:I),Ae ⟨#[]⟩]:=by
 have e:CM x=Jo i:=kem;rw[e]
 match i,hi with
 |0,_=>rfl
 |1,_=>rfl
 |2,_=>rfl
theorem q5V{x:E4}(h:∀i,i<3->(x.1.toList==Jo i)=AQ):GM (DH<|CM x)=[C Y 3,.string x.1]:=by
 have e:CM x=x.1.toList:=kem;have b:=h 0 E;have c:=h 1 E;have d:=h 2 E;simp only[Jo]at b c d;have a:DH (CM x)=(3,CM x):=by grind [DH]
 rw[a];unfold GM CM;rw[Sm];rfl
def q6V(s:AT)(w:Ap)(e:Ending)(w':Ap):Prop :=
 ∃a n cap,e=Ak (Af #[Ac a n cap,Ah<|Fd s.data.toList])/\A0 w w'/\(Fd s.data.toList=AP->n=At (EZ s.data.toList)/\Fq w' (Au<|Av w) 254 a (((EZ s.data.toList).map DH).flatMap GM))
theorem q3c{hs:s.size<=2000}{xs:AJ E4}{D:I}(k:(s.toList==[46])=AQ)(h:xs.map CM=Db 47 (CM ⟨s,hs⟩))(n:W.ownsRow (O (U w)+6) 254 2 (G ao (K xs) cap) (K xs) ys)(hy:ys=xs.flatMap λx=>GM<|DH<|CM x)(r:W.heap[D]?=H (.deferred<|H []))(g:∀j,O (U w)+6<=j->V.heap[j]?=W.heap[j]?):K xs=K (EZ s.data.toList)/\Fq (V.putObj D<|.deferred Ao) (O<|U w) 254 ao (((EZ s.data.toList).map DH).flatMap GM):=by
 have o:EZ s.data.toList=xs.map CM:=by unfold EZ;rw[<-SL,k,SL];exact h.symm
 obtain⟨t,p,l,i⟩:=kK n<|Cr _;injection l with he1 _ he3;subst he1;rw[o,LN];refine⟨Z,?_⟩;rw[Mw,List.flatMap_map];have c:ys=xs.flatMap λa=>GM<|(DH∘CM) a:=hy;rw[<-c];refine i.kept λb q fr d e=>⟨E,?_⟩
 have m:b≠D:=B9;have:=grownBy_putObj' V D<|.deferred Ao;have f:=g b d;rw[this.block b B9 keA,f];exact e
theorem I1.push{pre:AJ E4}(x:E4)(h:I1 w pre W)(k:Boxed W (O (U w)+2) 247 v)(i:W.ownsRow (O (U w)+6) 254 2 v (K pre) xs)(c:w5.ownsRow (O (U w)+6) 254 2 v' (K pre+1) ys)(a:W.grownBy w5<|Ax v)(n:K pre<8)(m:GL (CM x)=AP)(o:D<|xs=pre.flatMap λx=>GM<|DH<|CM x)(p:ys=xs++GM (DH<|CM x)):I1 w (pre++[x]) (AB w5 ⟨O (U w)+1+1,0,Ao⟩ v')/\Tr (O<|U w) (O (U w)+3) W (AB w5 ⟨O (U w)+1+1,0,Ao⟩ v'):=by
 have key:=λg h=>DK i (g:=g) h;have d:Tr (O<|U w) (O (U w)+3) W w5:=Tr.grown i a h.size E E;have f:=Tr.set (O<|U w) (O (U w)+3) w5 (O (U w)+2) v' E E;have b:=grownBy_setCell' w5 (O (U w)+2) v';have l:=k.kept a λe=>B9;obtain⟨g,j,rfl⟩:=ownsRow_succ c;refine⟨⟨Cs h.ac (d.trans f).ac,?_,?_,⟨Aa g,j,ys,?_,?_,?hy⟩,?_,?_,?_⟩,d.trans f⟩
 case hy =>
  grind [D]
 .exact(h.d.kept a λe=>B9).kept b B9
 .exact(h.b.kept a λe=>B9).kept b B9
 .rw[Dj];exact l.set _
 .rw[Dj];refine c.kept b<|AG λe=>?_;have:=DK c e;omega
 .grind
 .rw[SS,h.all];simp[m]
 exact CE h.size (d.trans f).ac.size
def UQ{pre:AJ E4}{x:E4}(h:I1 w pre V)(b:Tr (O<|U w) (O (U w)+3) W V)(g:Boxed V (O (U w)+2) 247 v)(e:V.ownsRow (O (U w)+6) 254 2 v (K pre) xs)(f:w5.ownsRow (O (U w)+6) 254 2 v' (K pre+1) ys)(d:V.grownBy w5<|Ax v)(l:¬(K pre:J)=8)(i:GL (CM x)=AP)(j:D<|xs=pre.flatMap λx=>GM<|DH<|CM x)(k:ys=xs++GM (DH<|CM x)):KeepsOthers W (AB w5 ⟨O (U w)+1+1,0,Ao⟩ v')/\Hb (O (U w)+3) (O (U w)+3+3) W (AB w5 ⟨O (U w)+1+1,0,Ao⟩ v')/\I1 w (pre++[x]) (AB w5 ⟨O (U w)+1+1,0,Ao⟩ v'):=by obtain⟨c,a⟩:=h.push x g e f d (AY h.a) i j k;exact⟨(b.trans a).a0,(b.trans a).a,c⟩
theorem qjC{s:ByteArray}{w:World}(hs:s.size<=2000)(bj:Hn w):Calls prog 175 #[.string s] w λe w'=>q6V s w e w':=by
 obtain⟨i0,hi,al,am,an⟩:=DL Tryz.infoSeg;cases hd:(s.toList==[46])
 .have HG:=T bj;have HD:=T hd;refine(Kx (n:=10)).1 ?_;refine callsIn_of_wp_marks func175 Z trivial ?_ Z;simp only[ntmps175,K8,FN,J1,Nat.reduceAdd,Nat.reduceSub,Mo,Mp,Mr,Mq,K9,Kv]
  gi_wp2
  refine T6.2<|aw<|(T6 (n:=10)).1 ?_
  gi_wp2_with fail
  refine wpIn_label ?_
  gi_wp2_with fail
  refine⟨trivial,(Kx.2<|jq s ⟨#[47]⟩).mono ?_⟩;rintro e w' ⟨rfl,rfl⟩;simp only[CL,A0]
  gi_wp2
  obtain⟨W0,ak⟩:=DF<|((((((w.alloc<|.cells #[.slice none 0 0] 247).alloc<|.cells #[.bool false] 4).alloc<|.cells #[.slice none 0 0] 247).alloc<|.cells #[.string s] 9).alloc<|.cells #[.string ⟨#[47]⟩] 9).alloc<|.cells #[.int .i64 0] 3);have bv:W0.heap.size=w.heap.size+6:=by rw[<-ak];simp
  have bi:=q3G ak;have bg:=yv ak;rw[ak];refine jp Z E (gf:=195) Z trivial (enters_of func195 B6 Z)
   (st:=w.heap.size+3) E (lo:=w.heap.size+3) (hi:=w.heap.size+3+3) E (jt 9 (k:=(w.heap.size+3)) (s:=⟨s,hs⟩) bg) CT (λx=>rfl)
   (λpre W=>I1 w pre W) (λag pre W=>Sn w pre ag W)
   (λpre aa a7 h hg=>h.a2 hg<|.inl rfl) (λag pre aa a7 h hg=>h.a2 hg E)
   (λpre aa k ap o' h hB hk hc=>h.a2 (grownBy_putObj' aa k o')<|.inr ⟨E,ap,hk,hc⟩) (λag pre aa k ap o' h hB hk hc=>h.a2 (grownBy_putObj' aa k o') E)
   bi
   (λx=>{tmps:=#[.string s,undef,A8 w.heap.size,A8<|w.heap.size+1,A8<|w.heap.size+1+1,.string x.1,undef,undef,.string s,.bool false,.string s,.func (.func 195) #[] #[A8<|w.heap.size+1+1+1+1,A8<|w.heap.size+1+1+1,A8<|w.heap.size+1+1+1+1+1],.string x.1,undef,undef,undef,undef,undef,undef,undef,undef,undef,undef,undef,undef,undef,undef,undef,undef,undef,undef,undef,undef,undef,undef,undef,undef,undef,undef,undef,undef],defers:=[]}) ?assign ?body ?done ?stop
  case assign =>
   intro ae x W d a
   gi_wp2
   exact a
  case body =>
   intro ae pre x W m bu;have f:=T m;obtain⟨q,u,N,y,ho,bd⟩:=m.c;have bt:=m.a;have o:A6 W (w.heap.size+1+1) 0<|.slice q pre.length u:=y.cell;have c2:=m.d.cell;have f2:=m.d.frozen;have c3:=m.b.cell;have f3:=m.b.frozen;by_cases h8:(pre.length:Int)=8
   .clear m y ho bd
    gi_wp2
    exact⟨(ju w).a0,f.out.out<|.inl B9⟩
   have bs:=Nv.2 h8;obtain⟨b6,fr,l⟩:=(HG.out.ac m.ac).b;have s0:=Cc l 0;have s1:=Cc l 1;have s2:=Cc l 2;have s3:=Cc l 3;have s4:=Cc l 4;have s5:=Cc l 5
   gi_wp2
   gi_loopg[17] 4 (λbf aq wr=>∃j:Nat,Hid (j+bf=4)/\((j=0/\aq=.int .i64 0)\/(j=1/\aq=.int .i64 1)\/(j=2/\aq=.int .i64 2)\/(j=3/\aq=.int .i64 3))/\Hid (I1 w pre wr)/\Hid (Tr w.heap.size (w.heap.size+3) W wr)/\Hid (∀i,i<j->(x.1.toList==Jo i)=false))
   case atStart=>exact⟨0,rfl,.inl ⟨rfl,rfl⟩,f,Tr.refl _ _ _,λi hi=>E⟩
   case round =>
    obtain⟨j,hj,bk,f,t,ac⟩:=hrel;have b2:=λV=>yA V;have b3:=λV=>yB V;have b4:=λV=>yC V;obtain⟨af,ai,b7,a4,bm,au⟩:=f.out.c;have c:=T a4;have P:=T bm;have o:A6 wr (w.heap.size+1+1) 0<|.slice af pre.length ai:=a4.cell;have bw:=f.out.size;have br:=λap=>Ca (Iw wr _ ap<|by rw[o];rfl) o;rcases bk with⟨rfl,rfl⟩|⟨rfl,rfl⟩|⟨rfl,rfl⟩|⟨rfl,rfl⟩
    .cases b:(x.1.toList==[42])
     .have ab:Hid (∀i,i<1->(x.1.toList==Jo i)=false):=λi hi=>by
       rcases VD.1 hi with h|rfl
       .exact ac.out i h
       exact b
      gi_wp2
      gi_roundg 3
      case measure=>have:=hj.out;omega
      case rel=>exact⟨1,rfl,.inr<|.inl ⟨rfl,Bb⟩,f.out.alloc _,t.out.trans<|Tr.alloc _ _ _ _ E E,ab⟩
     gi_wp2_with(first
      |(gi_at_builtin;refine wpListIn_append_own _ Z _ _ 247 Z (w.heap.size+6) 254 i0 (.agg #[.int .i64 0,.string ByteArray.empty]) 2 24 underlying247 hi al am an Z B8 _ _ _ Z ((P.out.alloc _).alloc _) ⟨wr.heap.size+1,0,none⟩ 1 1 [.int .i64 0,.string ⟨#[]⟩] Z Z (Uy) (λx b=>BN) Bc E B7 ?_;intro v' L z v a3;obtain⟨g5,ax,rfl⟩:=ownsRow_succ z;have F:=((c.out.alloc _).alloc _).kept v λe=>ke2;have c5:A6 L (w.heap.size+1+1) 0<|.slice af pre.length ai:=F.cell;have f5:L.frozen? ⟨w.heap.size+1+1,0,none⟩=false:=F.frozen))
     exact UQ ((f.out.alloc _).alloc _) ((t.out.trans<|Tr.alloc _ _ _ _ E E).trans<|Tr.alloc _ _ _ _ B7 B7) ((c.out.alloc _).alloc _) ((P.out.alloc _).alloc _) z v h8 (Yy (i:=0) b) au (by rw[YU (i:=0) E b];rfl)
    .cases b:(x.1.toList==[42,42])
     .have ab:Hid (∀i,i<2->(x.1.toList==Jo i)=false):=λi hi=>by
       rcases VD.1 hi with h|rfl
       .exact ac.out i h
       exact b
      gi_wp2
      gi_roundg 2
      case measure=>have:=hj.out;omega
      case rel=>exact⟨2,rfl,.inr<|.inr<|.inl ⟨rfl,Bb⟩,f.out.alloc _,t.out.trans<|Tr.alloc _ _ _ _ E E,ab⟩
     gi_wp2_with(first
      |(gi_at_builtin;refine wpListIn_append_own _ Z _ _ 247 Z (w.heap.size+6) 254 i0 (.agg #[.int .i64 0,.string ByteArray.empty]) 2 24 underlying247 hi al am an Z B8 _ _ _ Z ((P.out.alloc _).alloc _) ⟨wr.heap.size+1,0,none⟩ 1 1 [.int .i64 1,.string ⟨#[]⟩] Z Z (Uy) (λx b=>BN) Bc E B7 ?_;intro v' L z v a3;obtain⟨g5,ax,rfl⟩:=ownsRow_succ z;have F:=((c.out.alloc _).alloc _).kept v λe=>ke2;have c5:A6 L (w.heap.size+1+1) 0<|.slice af pre.length ai:=F.cell;have f5:L.frozen? ⟨w.heap.size+1+1,0,none⟩=false:=F.frozen))
     exact UQ ((f.out.alloc _).alloc _) ((t.out.trans<|Tr.alloc _ _ _ _ E E).trans<|Tr.alloc _ _ _ _ B7 B7) ((c.out.alloc _).alloc _) ((P.out.alloc _).alloc _) z v h8 (Yy (i:=1) b) au (by rw[YU (i:=1) E b];rfl)
    .cases b:(x.1.toList==[91,93])
     .have ab:Hid (∀i,i<3->(x.1.toList==Jo i)=false):=λi hi=>by
       rcases VD.1 hi with h|rfl
       .exact ac.out i h
       exact b
      gi_wp2
      gi_roundg 1
      case measure=>have:=hj.out;omega
      case rel=>exact⟨3,rfl,.inr<|.inr<|.inr ⟨rfl,Bb⟩,f.out.alloc _,t.out.trans<|Tr.alloc _ _ _ _ E E,ab⟩
     gi_wp2_with(first
      |(gi_at_builtin;refine wpListIn_append_own _ Z _ _ 247 Z (w.heap.size+6) 254 i0 (.agg #[.int .i64 0,.string ByteArray.empty]) 2 24 underlying247 hi al am an Z B8 _ _ _ Z ((P.out.alloc _).alloc _) ⟨wr.heap.size+1,0,none⟩ 1 1 [.int .i64 2,.string ⟨#[]⟩] Z Z (Uy) (λx b=>BN) Bc E B7 ?_;intro v' L z v a3;obtain⟨g5,ax,rfl⟩:=ownsRow_succ z;have F:=((c.out.alloc _).alloc _).kept v λe=>ke2;have c5:A6 L (w.heap.size+1+1) 0<|.slice af pre.length ai:=F.cell;have f5:L.frozen? ⟨w.heap.size+1+1,0,none⟩=false:=F.frozen))
     exact UQ ((f.out.alloc _).alloc _) ((t.out.trans<|Tr.alloc _ _ _ _ E E).trans<|Tr.alloc _ _ _ _ B7 B7) ((c.out.alloc _).alloc _) ((P.out.alloc _).alloc _) z v h8 (Yy (i:=2) b) au (by rw[YU (i:=2) E b];rfl)
    have cL:=wS x.2<|HG.out.ac f.out.ac
    gi_wp2_with fail
    refine⟨trivial,((Kx.2 cL).inRound ae).mono ?_⟩;rintro e R ⟨rfl,hB⟩;simp only[];have r:=T<|f.out.ai hB;have a2:=T<|t.out.trans<|Tr.ai hB E E;have bx:=r.out.size;obtain⟨g,B,bo,a5,bn,bc⟩:=r.out.c;have a9:=T a5;have a0:=T bn;have o:A6 R (w.heap.size+1+1) 0<|.slice g pre.length B:=a5.cell;have c2:=r.out.d.cell;have f2:=r.out.d.frozen;have c3:=r.out.b.cell;have f3:=r.out.b.frozen;have a6:=yw ac.out;have a8:=T<|q5V ac.out;cases bl:G8 x.1.data.toList
    .have HX:Hid<|(pre++[x]).all (λx=>GL<|CM x)=false:=B9
     gi_wp2
     exact⟨(a2.out.trans<|ju w).a0,r.out.out<|.inr HX.out⟩
    rw[bl]at a6;have ba:=T a6
    gi_wp2_with fail
    refine wpIn_region_any B6 ?_;have HC:=T λV=>yo x.1 V<|AY x.2;have ay:w.heap.size+1+1<R.heap.size:=E;have av:(World.drew R).cell? ⟨w.heap.size+1+1,0,none⟩=some (.slice g pre.length B):=o;change wpAnyIn _ _ _ _ _ _ _ _ _ (World.drew R);refine yD #[true,true,true,true,true,false,false] 2 (λV=>[(34,.slice g pre.length B),(35,.string x.1),(36,.string x.1),(37,.agg #[.int .i64 3,.string x.1]),(38,.slice (Aa V.heap.size) 1 1)]) (λV=>Below (World.drew R).heap.size (World.drew R) V) (λV=>V.alloc<|.cells #[.int .i64 3,.string x.1] 254) (λad=>?reg) ?tail
    case tail =>
     intro V bh;have aj:Below R.heap.size R V:=(Cs ((Cu _ R).drew) bh)
     have az:=T<|r.out.ai aj;have bb:=T<|a2.out.trans<|Tr.ai aj E E;have bz:=az.out.size;have a1:Hid<|Boxed V (w.heap.size+2) 247<|.slice g pre.length B:=Ca (Co aj _ E) a9.out;have ar:Hid<|V.ownsRow (w.heap.size+6) 254 2 (.slice g pre.length B) pre.length bo:=by
      refine⟨a0.out.1,?_⟩;rcases a0.out.2 with h0|⟨g',cp,be,h0,h1,hh,h2⟩
      .exact .inl h0
      exact .inr ⟨g',cp,be,h0,h1,Ca (Co aj g'<|Cd hh) hh,h2⟩
     simp only[List.foldl];refine wpAnyIn_ready (rs:=[5]) B6 Ba ?_;refine AllReadyIn.cons Z (λd a=>?_) AllReadyIn.nil;rw[Cp keJ];refine yE Z underlying247 hi al am an Z B8 Z (ar.out.alloc _) 1 1 Z Z (EU) (λx b=>BN) Bc E B7 ?_;intro v' L z v;obtain⟨g5,ax,rfl⟩:=ownsRow_succ z;have F:=(a1.out.alloc _).kept v λe=>AY<|DK ar.out e.symm;have c5:A6 L (w.heap.size+1+1) 0<|.slice g pre.length B:=F.cell;have f5:L.frozen? ⟨w.heap.size+1+1,0,none⟩=false:=F.frozen;refine a _ _ ?_;refine wpAnyIn_ready (rs:=[6]) B6 Ba ?_;refine AllReadyIn.cons Z (λd a=>?_) AllReadyIn.nil;go_simp;refine a _ _ ?_;refine wpAnyIn_done B6 ?_ _
     gi_wp2
     exact UQ (az.out.alloc _) (bb.out.trans<|Tr.alloc _ _ _ _ E E) (a1.out.alloc _) (ar.out.alloc _) z v h8 ba.out bc (by rw[a8.out])
    case reg =>
     refine wpAnyIn_ready (rs:=[0,1]) B6 Ba ?_;refine AllReadyIn.cons Z (λd a=>?_)<|AllReadyIn.cons Z (λd a=>?_) AllReadyIn.nil
     .go_simp;refine a _ _ ?_;refine wpAnyIn_ready (rs:=[1]) B6 Ba ?_;refine AllReadyIn.cons Z (λd a=>?_) AllReadyIn.nil;go_simp;refine a _ _ ?_;refine wpAnyIn_ready (rs:=[2]) B6 Ba ?_;refine AllReadyIn.cons Z (λd a=>?_) AllReadyIn.nil;go_simp;refine⟨trivial,((Kx.2<|HC.out _).inRound ae).mono ?_⟩;rintro e w3 ⟨rfl,Q⟩;simp only[];have ah:=Ca (Q.cell (p:=⟨w.heap.size+1+1,0,none⟩) ay) av;refine a _ _ ?_;refine wpAnyIn_ready (rs:=[3]) B6 Ba ?_;refine AllReadyIn.cons Z (λd a=>?_) AllReadyIn.nil;go_simp;refine a _ _ ?_;refine wpAnyIn_ready (rs:=[4]) B6 Ba ?_;refine AllReadyIn.cons Z (λd a=>?_) AllReadyIn.nil;go_simp;refine a _ _ ?_;exact ad _ Q
     go_simp;refine a _ _ ?_;refine wpAnyIn_ready (rs:=[0,2]) B6 Ba ?_;refine AllReadyIn.cons Z (λd a=>?_)<|AllReadyIn.cons Z (λd a=>?_) AllReadyIn.nil
     .go_simp;refine a _ _ ?_;refine wpAnyIn_ready (rs:=[2]) B6 Ba ?_;refine AllReadyIn.cons Z (λd a=>?_) AllReadyIn.nil;go_simp;refine⟨trivial,((Kx.2<|HC.out _).inRound ae).mono ?_⟩;rintro e w3 ⟨rfl,Q⟩;simp only[];have ah:=Ca (Q.cell (p:=⟨w.heap.size+1+1,0,none⟩) ay) av;refine a _ _ ?_;refine wpAnyIn_ready (rs:=[3]) B6 Ba ?_;refine AllReadyIn.cons Z (λd a=>?_) AllReadyIn.nil;go_simp;refine a _ _ ?_;refine wpAnyIn_ready (rs:=[4]) B6 Ba ?_;refine AllReadyIn.cons Z (λd a=>?_) AllReadyIn.nil;go_simp;refine a _ _ ?_;exact ad _ Q
     go_simp;refine⟨trivial,((Kx.2<|HC.out _).inRound ae).mono ?_⟩;rintro e w3 ⟨rfl,Q⟩;simp only[];have ah:=Ca (Q.cell (p:=⟨w.heap.size+1+1,0,none⟩) ay) av;refine a _ _ ?_;refine wpAnyIn_ready (rs:=[0,3]) B6 Ba ?_;refine AllReadyIn.cons Z (λd a=>?_)<|AllReadyIn.cons Z (λd a=>?_) AllReadyIn.nil
     .go_simp;refine a _ _ ?_;refine wpAnyIn_ready (rs:=[3]) B6 Ba ?_;refine AllReadyIn.cons Z (λd a=>?_) AllReadyIn.nil;go_simp;refine a _ _ ?_;refine wpAnyIn_ready (rs:=[4]) B6 Ba ?_;refine AllReadyIn.cons Z (λd a=>?_) AllReadyIn.nil;go_simp;refine a _ _ ?_;exact ad _ Q
     go_simp;refine a _ _ ?_;refine wpAnyIn_ready (rs:=[0,4]) B6 Ba ?_;refine AllReadyIn.cons Z (λd a=>?_)<|AllReadyIn.cons Z (λd a=>?_) AllReadyIn.nil
     .go_simp;refine a _ _ ?_;refine wpAnyIn_ready (rs:=[4]) B6 Ba ?_;refine AllReadyIn.cons Z (λd a=>?_) AllReadyIn.nil;go_simp;refine a _ _ ?_;exact ad _ Q
     go_simp;refine a _ _ ?_;refine wpAnyIn_ready (rs:=[0]) B6 Ba ?_;refine AllReadyIn.cons Z (λd a=>?_) AllReadyIn.nil;have bq:(w3.alloc<|.cells #[.int .i64 3,.string x.1] 254).cell? ⟨w.heap.size+1+1,0,none⟩=some (.slice g pre.length B):=Ca (Iw w3 _ _<|by rw[ah];rfl) ah;go_simp;refine a _ _ ?_;exact ad _ Q
  case done =>
   intro S N W hD hS m a;obtain⟨q,u,ys,y,ho,bp⟩:=m.c;have P:=T ho;have f:=T m;have HS:=T hS;have HK:=T a;have o:A6 W (w.heap.size+1+1) 0<|.slice q N.length u:=y.cell;have c2:=m.d.cell;have f2:=m.d.frozen;have c3:=m.b.cell;have f3:=m.b.frozen
   gi_wp2
   refine MF ?_;have A:=yy HD.out HS.out f.out.a f.out.all;have t1:=Tr.set w.heap.size (w.heap.size+3) W w.heap.size (.slice q N.length u) (Cr _) E;have t2:=Tr.set w.heap.size (w.heap.size+3) (W.setCell ⟨w.heap.size,0,none⟩<|.slice q N.length u) (w.heap.size+1) (.bool true) E E;have b0:Boxed ((W.setCell ⟨w.heap.size,0,none⟩<|.slice q N.length u).setCell ⟨w.heap.size+1,0,none⟩<|.bool true) w.heap.size 247<|.slice q N.length u:=(f.out.d.set _).kept (grownBy_setCell' _ _ _) B9;have b1:Boxed ((W.setCell ⟨w.heap.size,0,none⟩<|.slice q N.length u).setCell ⟨w.heap.size+1,0,none⟩<|.bool true) (w.heap.size+1) 4<|.bool true:=Boxed.set _<|f.out.b.kept (grownBy_setCell' _ _ _) B9;have hb:=Cs f.out.ac (t1.trans t2).ac;have a:=(t1.trans t2).a0.same S _ HK.out Z;have HC:Hid (∀j,w.heap.size+6<=j->((W.setCell ⟨w.heap.size,0,none⟩<|.slice q N.length u).setCell ⟨w.heap.size+1,0,none⟩<|.bool true).heap[j]?=W.heap[j]?):=λj hj=>Ca (Gz _ _ _ _ B7)<|Gz _ _ _ _ B7;generalize(W.setCell ⟨w.heap.size,0,none⟩<|.slice q N.length u).setCell ⟨w.heap.size+1,0,none⟩ (.bool true)=V at *;refine⟨Ba,.inl ⟨S,_,Z,run_takeDeferred a,?_⟩⟩;have e0:=(b0.kept (grownBy_putObj' V S<|.deferred none) B9).cell;have e1:=(b1.kept (grownBy_putObj' V S<|.deferred none) B9).cell;refine⟨.tuple #[.slice q N.length u,.bool true],?_,⟨q,N.length,u,by rw[A],Qv hb E,λ_=>?_⟩⟩
   .simp[results,f175,go_sem,e0,e1]
   grind [Hid,q3c]
  case stop =>
   intro S ag pre W hD hS hX a;obtain rfl:=hX.ret
   gi_wp2
   refine MF ?_;have A:Fd s.data.toList=false:=by obtain⟨b5,hr⟩:=hS;exact yz HD.out hr hX.a
   refine⟨Ba,.inl ⟨S,_,Z,run_takeDeferred a,?_⟩⟩;have e0:=(hX.d.kept (grownBy_putObj' W S<|.deferred none) B9).cell;have e1:=(hX.b.kept (grownBy_putObj' W S<|.deferred none) B9).cell;refine⟨.tuple #[.slice none 0 0,.bool false],?_,⟨none,0,0,by rw[A],Qv hX.ac E,λe=>by rw[A]at e;cases e⟩⟩;simp[results,f175,go_sem,e0,e1]
 have A:Fd s.data.toList=true:=by grind [Fd,Lib.toList_data]
 have HY:=T A;refine(Kx (n:=10)).1 ?_;refine callsIn_of_wp_marks func175 Z trivial ?_ Z;simp only[ntmps175,K8,FN,J1,Nat.reduceAdd,Nat.reduceSub,Mo,Mp,Mr,Mq,K9,Kv]
 gi_wp2
 refine T6.2<|aw<|(T6 (n:=10)).1 ?_
 gi_wp2
 repeat(first|refine Uh ?_|refine MF ?_)
 have e0:((w.alloc<|.cells #[.slice none 0 0] 247).alloc<|.cells #[.bool true] 4).cell? ⟨w.heap.size,0,none⟩=some (.slice none 0 0):=((Boxed.new w 247<|.slice none 0 0).alloc _).cell;have e1:((w.alloc<|.cells #[.slice none 0 0] 247).alloc<|.cells #[.bool true] 4).cell? ⟨w.heap.size+1,0,none⟩=some (.bool true):=Bv;refine⟨.tuple #[.slice none 0 0,.bool true],?_,⟨none,0,0,by rw[HY.out],?_,λ_=>?_⟩⟩
 .simp[results,f175,go_sem,e0,e1]
 .exact(Cm).alloc Ba _
 have y:EZ s.data.toList=[]:=ke8;rw[y];exact⟨Z,.inl Z⟩
end
def q6z(n:AH)(s:AT)(w:Ap)(e:Ending)(w':Ap):Prop :=
 ∃a m cap x y,e=Ak (Af #[.agg<|Fp a m cap x y,Ah<|Dn n s.data.toList])/\A0 w w'/\(Dn n s.data.toList=AP->m=(De s.data.toList).1.length/\x=(De s.data.toList).2.1/\y=(De s.data.toList).2.2/\Fq w' (Au<|Av w) 254 a (((De s.data.toList).1.map DH).flatMap GM))
theorem qnS(n:I)(hs:s.size<=2000)(hg:Hn w):Ar As 139 #[.string s,C Y n] w λe w'=>q6z n s w e w':=by
 have j:D ((prog.info? 249).map (·.size)=H E3.size):=Sr;have o:=T hg;obtain⟨i,r0,b0,A,B,ag,ah,W⟩:=jY hs;obtain⟨d,f,b1,F,L,al,am,aa⟩:=jY ah;have hv:Dn n s.data.toList=(Fd i.data.toList&&(IP d.data.toList n&&F6 f != 0)):=by rw[<-jO];unfold UE;rw[<-A,<-B,<-F,<-L,Sm]
 have HV:=T hv;have V:D<|Dn n s.data.toList=AP->De s.data.toList=(EZ i.data.toList,Lt d.data.toList,F6 f):=by intro hb;have Q:=kJ hb;rw[<-A,<-B,<-F,<-L]at Q;have:=YT Q;omega
 have y:=T<|q4Q w;have b:=W _<|o.ac y.ac;go_enter func139,ntmps139
 go_wp2_with(fail)
 refine Ce b ?_;rintro e w2 ⟨rfl,ac⟩;have z:=T<|y.a0 ac;have ab:=aa _<|o.ac z.ac
 go_wp2_with(fail)
 refine Ce ab ?_;rintro e w3 ⟨rfl,ad⟩;have p:=T<|z.a0 ad;have cP:=qjC ag<|o.ac p.ac
 go_wp2_with(fail)
 refine Ce cP ?_;rintro e w4 ⟨q,r,R,rfl,ae,af⟩;have S:=T af;have x:=T<|Cd p.a;have a:=T<|p.a0 ae;cases N:Fd i.data.toList
 .have c:D<|Dn n s.data.toList=AQ:=B9
  go_wp2_with(first
   |(go_at_call 176;refine Ce (Xr d n _) ?_;rintro e u ⟨rfl,rfl⟩)
   |(go_at_call 177;refine Ce (Xp f _) ?_;rintro e v ⟨rfl,rfl⟩)
   |(refine D8 Z 249 _ _ Z (O<|U w) E3 Z Z 249 E3 a.a j Z Uu ?_))
  refine CS (ID results139 (g:=O<|U w) (t:=249) (cs:=E3) Z (CR _ _ E3 _ _ _ a.a) underlying249 Z Sr (Ah AQ) Z) Z ⟨Ao,0,0,0,0,by rw[AE c];rfl,Dq a.ac E,λe=>B9⟩
 cases P:IP d.data.toList n
 .have c:D<|Dn n s.data.toList=AQ:=B9;have h:=λw=>Xr d n w;rw[P]at h
  go_wp2_with(first
   |(go_at_call 176;refine Ce (h _) ?_;rintro e u ⟨rfl,rfl⟩)
   |(go_at_call 177;refine Ce (Xp f _) ?_;rintro e v ⟨rfl,rfl⟩)
   |(refine D8 Z 249 _ _ Z (O<|U w) E3 Z Z 249 E3 a.a j Z Uu ?_))
  refine CS (ID results139 (g:=O<|U w) (t:=249) (cs:=E3) Z (CR _ _ E3 _ _ _ a.a) underlying249 Z Sr (Ah AQ) Z) Z ⟨Ao,0,0,0,0,by rw[AE c];rfl,Dq a.ac E,λe=>B9⟩
 have h:=λw=>Xr d n w;rw[P]at h;have k:=λw=>Xp f w;cases l:(F6 f != 0)
 .have c:D<|Dn n s.data.toList=AQ:=B9;rw[l]at k
  go_wp2_with(first
   |(go_at_call 176;refine Ce (h _) ?_;rintro e u ⟨rfl,rfl⟩)
   |(go_at_call 177;refine Ce (k _) ?_;rintro e v ⟨rfl,rfl⟩)
   |(refine D8 Z 249 _ _ Z (O<|U w) E3 Z Z 249 E3 a.a j Z Uu ?_))
  refine CS (ID results139 (g:=O<|U w) (t:=249) (cs:=E3) Z (CR _ _ E3 _ _ _ a.a) underlying249 Z Sr (Ah AQ) Z) Z ⟨Ao,0,0,0,0,by rw[AE c];rfl,Dq a.ac E,λe=>B9⟩
 have c:D<|Dn n s.data.toList=AP:=B9;rw[l]at k;have m:D<|De s.data.toList=(EZ i.data.toList,Lt d.data.toList,F6 f)/\r=K (EZ i.data.toList)/\Fq w4 (O<|U w3) 254 q (((EZ i.data.toList).map DH).flatMap GM):=⟨V c,S N⟩
 generalize Lt d.data.toList=li at *;generalize F6 f=ai at *
 go_wp2_with(first
  |(go_at_call 176;refine Ce (h _) ?_;rintro e u ⟨rfl,rfl⟩)
  |(go_at_call 177;refine Ce (k _) ?_;rintro e v ⟨rfl,rfl⟩)
  |(refine D8 Z 249 _ _ Z (O<|U w) (Fp q r R li ai) Z Z 249 E3 a.a j Z (Pm) ?_))
 refine CS (ID results139 (g:=O<|U w) (t:=249) (cs:=(Fp q r R li ai)) Z (CR _ _ E3 _ _ _ a.a) underlying249 Z Sr (Ah AP) Z) Z ⟨_,_,_,_,_,by rw[AE c],Dq a.ac E,λ_=>?_⟩;rw[m.1];exact⟨m.2.1,Z,Z,m.2.2.kept λaj ak fr N l=>⟨AY<|AE x,sx (AY<|AE x) l⟩⟩
section
attribute[local go_sem] Oper.semAt_some
structure I2(w:Ap)(n:AH)(pre:AJ E4)(W:Ap):Prop where
 ac:A0 w W
 g:Boxed W (Au (Av w)) 3 (Ab Al n)
 d:Boxed W (Au (Av w)+1) 124 (Ac Ao 0 0)
 b:Boxed W (Au (Av w)+2) 54 (Ab Al 0)
 c:Boxed W (Au (Av w)+3) 3 (Ab Al 0)
 f:∃ao cap xs,Boxed W (Au (Av w)+4) 124 (Ac ao (At pre) cap)/\W.ownsRow (Au (Av w)+8) 249 3 (Ac ao (At pre) cap) (At pre) xs/\Go.RowKit.Hid (Ga W (Au (Av w)+8) 254 xs (pre.map λx=>JY (DV (De (CM x)))))
 a:At pre<=16
 all:(pre.map CM).all (Dn n)=AP
 size:Au (Av w)+8<=Au (Av W)
theorem I2.a2{pre:AJ E4}(h:I2 w n pre W)(a:W.grownBy W'<|H row)(d:row=O (U w)+5\/(O (U w)+8<=row/\∃o,W.heap[row]?=H o/\o.isCells=AQ)):I2 w n pre W':=by
 obtain⟨l,m,u,s,k,t⟩:=h.f;refine⟨Cs h.ac ⟨a.os,a.tape,a.output,a.size,λi z=>a.block i Bn B9⟩,h.g.kept a B9,h.d.kept a B9,h.b.kept a B9,h.c.kept a B9,⟨l,m,u,s.kept a B9,k.kept a ?_,?hx⟩,h.a,h.all,CE h.size a.size⟩
 case hx =>
  refine t.out.kept λb p fr q g=>⟨q,Ca (a.block b (Cd g) ?_) g⟩
  intro e;injection e with e;subst e;rcases d with d|⟨_,o,c,j⟩
  .omega
  rw[g]at c;cases c;cases j
 rcases k.2 with⟨f,_⟩|⟨x,v,p,f,y,r,_⟩
 .left;rw[f];rfl
 right;rw[f];intro e;cases e;rcases d with d|⟨_,o,c,j⟩
 .grind
 rw[r]at c;cases c;cases j
theorem I2.out{pre:AJ E4}(x:E4)(h:I2 w n pre W)(hx:¬(Dn n (CM x)=AP/\K pre<16)):Ss w n (pre++[x]) .ret (AB (AB (AB W ⟨O (U w)+1,0,Ao⟩<|G Ao 0 0) ⟨O (U w)+1+1,0,Ao⟩<|C Y 6) ⟨O (U w)+1+1+1,0,Ao⟩<|C Y (K pre:I)) /\
  Tr (O<|U w) (O (U w)+5) W (AB (AB (AB W ⟨O (U w)+1,0,Ao⟩<|G Ao 0 0) ⟨O (U w)+1+1,0,Ao⟩<|C Y 6) ⟨O (U w)+1+1+1,0,Ao⟩<|C Y (K pre:I)):=by
 have d:=Tr.set (O<|U w) (O (U w)+5) W (O (U w)+1) (G Ao 0 0) E E;have e:=Tr.set (O<|U w) (O (U w)+5) (AB W ⟨O (U w)+1,0,Ao⟩<|G Ao 0 0) (O (U w)+1+1) (C Y 6) E E;have f:=Tr.set (O<|U w) (O (U w)+5) (AB (AB W ⟨O (U w)+1,0,Ao⟩<|G Ao 0 0) ⟨O (U w)+1+1,0,Ao⟩<|C Y 6) (O (U w)+1+1+1) (C Y (K pre:I)) E E;have a:=grownBy_setCell' W (O (U w)+1)<|G Ao 0 0;have b:=grownBy_setCell' (AB W ⟨O (U w)+1,0,Ao⟩<|G Ao 0 0) (O (U w)+1+1)<|C Y 6;have c:=grownBy_setCell' (AB (AB W ⟨O (U w)+1,0,Ao⟩<|G Ao 0 0) ⟨O (U w)+1+1,0,Ao⟩<|C Y 6) (O (U w)+1+1+1)<|C Y (K pre:I);refine⟨⟨Z,Cs h.ac ((d.trans e).trans f).ac,?_,?_,⟨pre,x,Z,?_,h.all,h.a,hx⟩,?_⟩,(d.trans e).trans f⟩
 .exact((h.d.set _).kept b B9).kept c B9
 .exact(Boxed.set _<|h.b.kept a B9).kept c B9
 .exact Boxed.set _<|(h.c.kept a B9).kept b B9
 simp[World.setCell];exact h.size
def I2.alloc{pre:AJ E4}(h:I2 w n pre W)(o:Obj):I2 w n pre<|Az W o:=h.a2 (L7 W o<|H<|O (U w)+5)<|AF rfl
def I2.ai{pre:AJ E4}(h:I2 w n pre W)(hb:A0 W W'):I2 w n pre W' :=
 h.a2 (row:=O (U w)+5) ⟨hb.os,hb.tape,hb.output,hb.size,λi a _=>Co hb i a⟩<|AF rfl
theorem q5W{pre:AJ E4}{x:E4}(h:I2 w n pre V)(o:Tr (O<|U w) (O (U w)+5) W V)(z:Boxed V (O (U w)+4) 124 v)(j:V.ownsRow (O (U w)+8) 249 3 v (K pre) xs)(k:w5.ownsRow (O (U w)+8) 249 3 v' (K pre+1) ys)(a:V.grownBy w5<|Ax v)(R:¬(K pre:J)=16)(B:Dn n (CM x)=AP)(F:D<|Ga V (O (U w)+8) 254 xs<|pre.map λx=>JY<|DV<|De<|CM x)(y:Fq V (O (U w)+8) 254 pa<|((De<|CM x).1.map DH).flatMap GM)(L:ys=xs++[G pa (De<|CM x).1.length pc,C Y (De<|CM x).2.1,C Y (De<|CM x).2.2]):KeepsOthers W (AB w5 ⟨O (U w)+1+1+1+1,0,Ao⟩ v')/\Hb (O (U w)+5) (O (U w)+5+3) W (AB w5 ⟨O (U w)+1+1+1+1,0,Ao⟩ v')/\I2 w n (pre++[x]) (AB w5 ⟨O (U w)+1+1+1+1,0,Ao⟩ v'):=by
 have key:=λg h=>DK j (g:=g) h;have d:Tr (O<|U w) (O (U w)+5) V w5:=Tr.grown j a h.size E E;have f:=Tr.set (O<|U w) (O (U w)+5) w5 (O (U w)+4) v' E E;have c:=grownBy_setCell' w5 (O (U w)+4) v';have A:=z.kept a λe=>B9;obtain⟨g,p,rfl⟩:=ownsRow_succ k;refine⟨(o.trans<|d.trans f).a0,(o.trans<|d.trans f).a,⟨Cs h.ac (d.trans f).ac,?_,?_,?_,?_,⟨Aa g,p,ys,?_,?_,?hy⟩,?_,?_,?_⟩⟩
 case hy =>
  have r:(pre++[x]).map (λx=>JY<|DV<|De<|CM x)=(pre.map λx=>JY<|DV<|De<|CM x)++[JY<|DV<|De<|CM x]:=B9;show Ga _ _ _ _ _;rw[L,r];have l:=Ga.push (pa:=pa) (pc:=pc) F.out (e:=JY<|DV<|De<|CM x) y;have s:(JY<|DV<|De<|CM x).2.1=(De<|CM x).1.length:=LN _;rw[s]at l;refine l.kept λb q fr t m=>⟨t,?_⟩
  have u:=Cd m;have k1:w5.heap[b]?=H (M q 254 fr):=by
   refine Ca (a.block b u λe=>?_) m;rcases j.2 with⟨i,_⟩|⟨Q,N,P,i,S,hh,_⟩
   .rw[i]at e;cases e
   rw[i]at e;injection e with e;grind
  grind [Below.heap_setCell]
 .exact(h.g.kept a λe=>B9).kept c B9
 .exact(h.d.kept a λe=>B9).kept c B9
 .exact(h.b.kept a λe=>B9).kept c B9
 .exact(h.c.kept a λe=>B9).kept c B9
 .rw[Dj];exact A.set _
 .rw[Dj];refine k.kept c<|AG λe=>?_;have:=DK k e;omega
 .have:=h.a;grind
 .rw[Ka,SS,h.all];simp[B]
 exact CE h.size (d.trans f).ac.size
theorem I2.drew{pre:AJ E4}(h:I2 w n pre W):I2 w n pre W.drew:=h.ai (Cu _ _).drew
def q4e(a:(Az (Az (Az (Az (Az (Az (Az (Az w<|M #[C Y n] 3)<|M #[G Ao 0 0] 124)<|M #[C Y 0] 54)<|M #[C Y 0] 3)<|M #[G Ao 0 0] 124)<|M #[.string s] 9)<|M #[Ae ⟨#[10]⟩] 9)<|M #[C Y 0] 3)=W0):I2 w n [] W0:=by
 subst a;refine⟨?_,?_,?_,?_,?_,⟨Ao,0,[],?_,Fi _ _ _ _,UP⟩,Ex _,Z,Ba⟩
 .exact(((((((Cm).alloc Ba _).alloc B7 _).alloc B7 _).alloc B7 _).alloc B7 _).alloc B7 _).alloc B7 _
 .exact(((((((Boxed.new w _ _).alloc _).alloc _).alloc _).alloc _).alloc _).alloc _).alloc _
 .have:=Boxed.new (Az w<|M #[C Y n] 3) 124<|G Ao 0 0;rw[CL]at this;exact(((((this.alloc _).alloc _).alloc _).alloc _).alloc _).alloc _
 .have:=Boxed.new (Az (Az w<|M #[C Y n] 3)<|M #[G Ao 0 0] 124) 54<|C Y 0;rw[CL,CL]at this;exact((((this.alloc _).alloc _).alloc _).alloc _).alloc _
 .have:=Boxed.new (Az (Az (Az w<|M #[C Y n] 3)<|M #[G Ao 0 0] 124)<|M #[C Y 0] 54) 3<|C Y 0;rw[CL,CL,CL]at this;exact(((this.alloc _).alloc _).alloc _).alloc _
 have:=Boxed.new (Az (Az (Az (Az w<|M #[C Y n] 3)<|M #[G Ao 0 0] 124)<|M #[C Y 0] 54)<|M #[C Y 0] 3) 124<|G Ao 0 0;rw[CL,CL,CL,CL]at this;exact((this.alloc _).alloc _).alloc _
def KY(W:Ap)(lo:AH)(v:Aq)(rs:AJ<|AJ (AH×A1)×AI×AI):Prop:=∃xs,W.ownsRow lo 249 3 v (At rs) xs/\Ga W lo 254 xs (rs.map JY)
def KY.kept(h:KY W lo v rs)(i:∀b,lo<=b->b<O (U W)->W'.heap[b]?=W.heap[b]?):KY W' lo v rs:=by
 obtain⟨m,a,d⟩:=h;refine⟨m,⟨a.1,?_⟩,d.kept λb e fr j k=>⟨j,Ca (i b j<|Cd k) k⟩⟩;rcases a.2 with c|⟨f,l,e,c,a,g,d⟩
 .exact AF c
 exact AG ⟨f,l,e,c,a,Ca (i f a<|Cd g) g,d⟩
def KY.ac(h:KY W lo v rs):∃a b,v=G a (K rs) b/\J7 W a rs:=by obtain⟨e,c,d⟩:=h;exact q4k c d
theorem kM{size:I}(h:W.ownsRow base e size v n xs)(hl:lo<=base):W.ownsRow lo e size v n xs:=by
 refine⟨h.1,?_⟩;rcases h.2 with a|⟨d,b,c,a,i,g,f⟩
 .exact AF a
 exact AG ⟨d,b,c,a,E,g,f⟩
def q6I(n:AH)(s:AT)(w:Ap)(e:Ending)(w':Ap):Prop :=
 ∃a m cap,e=Ak (Af #[Ac a m cap,Ab Al<|Fg n s.data.toList,Ab Al<|IV n s.data.toList])/\A0 w w'/\(Fg n s.data.toList=0->KY w' (Au<|Av w) (Ac a m cap) ((Ea s.data.toList).map DV))
theorem q4C{hs:s.size<=2000}{xs:AJ E4}{D:I}(l:¬s.size=0)(h:xs.map CM=Db 10 (CM ⟨s,hs⟩))(m:W.ownsRow (O (U w)+8) 249 3 (G ao (K xs) cap) (K xs) ys)(hy:Ga W (O (U w)+8) 254 ys<|xs.map λx=>JY<|DV<|De<|CM x)(y:W.heap[D]?=H (.deferred<|H []))(q:∀j,O (U w)+8<=j->V.heap[j]?=W.heap[j]?):KY (V.putObj D<|.deferred Ao) (O<|U w) (G ao (K xs) cap)<|(Ea s.data.toList).map DV:=by
 have z:K s.data.toList=s.size:=Fz;have n:Ea s.data.toList=(xs.map CM).map De:=by unfold Ea;rw[Cl E,h];rfl
 have k:∀b a t fr,O (U w)+8<=b->W.heap[b]?=H (M a t fr)->(V.putObj D<|.deferred Ao).heap[b]?=H (M a t fr):=by intro b a t fr c d;have l:b≠D:=B9;have i:=Ca (q b c) d;rw[(grownBy_putObj' V D<|.deferred Ao).block b (Cd i) kfg];exact i
 have u:(V.putObj D<|.deferred Ao).ownsRow (O (U w)+8) 249 3 (G ao (K xs) cap) (K<|(Ea s.data.toList).map DV) ys:=by
  have e:K ((Ea s.data.toList).map DV)=K xs:=by rw[n];simp
  rw[e];refine⟨m.1,?_⟩;rcases m.2 with f|⟨g,o,a,f,c,r,p⟩
  .exact AF f
  exact AG ⟨g,o,a,f,c,k g a _ _ c r,p⟩
 have v:Ga (V.putObj D<|.deferred Ao) (O (U w)+8) 254 ys<|((Ea s.data.toList).map DV).map JY:=by
  have e:((Ea s.data.toList).map DV).map JY=xs.map λx=>JY<|DV<|De<|CM x:=by rw[n,Mw,Mw,Mw];rfl
  rw[e];exact hy.kept λb a fr c d=>⟨c,k b a _ fr c d⟩
 exact⟨ys,kM u E,v.kept λb a fr c d=>⟨E,d⟩⟩
theorem qqf(am:Hn w):Ar As 94 #[.string s,C Y n] w λe w'=>q6I n s w e w':=by
 have hl:K s.data.toList=s.size:=Fz;obtain⟨i0,hi,a4,a5,a6⟩:=DL Tryz.infoRule2;have HG:=T am;clear am;by_cases bb:(2000:J)<s.size
 .have hy:E5 n s.data.toList=0:=by grind [E5]
  have HE:D<|Fg n s.data.toList=6:=by grind [D,Fg]
  have HN:D<|IV n s.data.toList=0:=by grind [D,IV]
  clear hy;go_enter func94,ntmps94;go_wp2;have e3:=ke w n 6;have c:A0 w<|Az (Az (Az (Az w<|M #[C Y n] 3)<|M #[G Ao 0 0] 124)<|M #[C Y 6] 54)<|M #[C Y 0] 3:=((((Cm).alloc Ba _).alloc B7 _).alloc B7 _)
  generalize Az (Az (Az (Az w<|M #[C Y n] 3)<|M #[G Ao 0 0] 124)<|M #[C Y 6] 54) (M #[C Y 0] 3)=V at *;obtain⟨N,P,Q⟩:=e3;refine CS (v:=Af #[G Ao 0 0,C Y 6,C Y 0]) keN Z ?_;exact⟨Ao,0,0,by rw[AE HE,AE HN],c,λe=>by grind [D]⟩
 have hs:s.size<=2000:=E;cases hd:(s.toList==[])
 .have ae:D<|¬s.size=0:=by grind [D,Lib.toList_data]
  refine(Kx (n:=10)).1 ?_;refine callsIn_of_wp_marks func94 Z trivial ?_ Z;simp only[ntmps94,K8,FN,J1,Nat.reduceAdd,Nat.reduceSub,Mo,Mp,Mr,Mq,K9,Kv]
  gi_wp2_with fail
  refine⟨trivial,(Kx.2<|jq s ⟨#[10]⟩).mono ?_⟩;rintro e w' ⟨rfl,rfl⟩;simp only[CL,A0]
  gi_wp2
  obtain⟨W0,l⟩:=DF<|(Az (Az (Az (Az (Az (Az (Az (Az w<|M #[C Y n] 3)<|M #[G Ao 0 0] 124)<|M #[C Y 0] 54)<|M #[C Y 0] 3)<|M #[G Ao 0 0] 124)<|M #[.string s] 9)<|M #[Ae ⟨#[10]⟩] 9)<|M #[C Y 0] 3);have a3:O (U W0)=O (U w)+8:=by rw[<-l];simp
  have al:=q4e l;have ak:=qu1 l;rw[l];refine jp Z E Z trivial (enters_of func195 B6 Z)
   (st:=O (U w)+5) E (lo:=O (U w)+5) (hi:=O (U w)+5+3) E (jt 9 (k:=(O (U w)+5)) (s:=⟨s,hs⟩) ak) CT (λx=>rfl)
   (λpre W=>I2 w n pre W) (λac pre W=>Ss w n pre ac W)
   (λpre A av h hg=>h.a2 hg<|AF rfl) (λac pre A av h hg=>h.a2 hg E)
   (λpre A k o o' h r hk hc=>h.a2 (grownBy_putObj' A k o')<|AG ⟨E,o,hk,hc⟩) (λac pre A k o o' h r hk hc=>h.a2 (grownBy_putObj' A k o') E)
   al
   (λx=>{tmps:=#[.string s,C Y n,AO,A8<|O<|U w,A8<|O (U w)+1,A8<|O (U w)+1+1,A8<|O (U w)+1+1+1,A8<|O (U w)+1+1+1+1,.string x.1,AO,AO,.string s,C Y s.size,Ah AQ,.string s,Ah AQ,.string s,.func (.func 195) #[] #[A8<|O (U w)+1+1+1+1+1+1,A8<|O (U w)+1+1+1+1+1,A8<|O (U w)+1+1+1+1+1+1+1],.string x.1,AO,AO,AO,AO,AO,AO,AO,AO,AO,AO,AO,AO,AO,AO,AO,AO,AO,AO,AO,AO],defers:=[]}) ?assign ?body ?done ?stop
  case assign =>
   intro au x W a7 R
   gi_wp2
   exact R
  case body =>
   clear al ak l a3;intro au pre x W p bd;have F:=T p;have c0:=p.g.cell;have cR:=qnS n x.2<|HG.ac p.ac;clear p
   gi_wp2_with fail
   refine⟨trivial,((Kx.2 cR).inRound au).mono ?_⟩;clear cR c0;rintro e i ⟨t,u,L,y,z,rfl,r,B⟩;have aw:D<|Dn n x.1.data.toList=AP->u=(De x.1.data.toList).1.length/\y=(De x.1.data.toList).2.1/\z=(De x.1.data.toList).2.2/\Fq i (O (U w)+8) 254 t (((De x.1.data.toList).1.map DH).flatMap GM):=λe=>⟨(B e).1,(B e).2.1,(B e).2.2.1,(B e).2.2.2.kept λa8 ba fr h1 h3=>⟨kfa,h3⟩⟩
   clear B;simp only[Fp];have ah:=T<|F.ai r;have az:D<|Tr (O<|U w) (O (U w)+5) W i:=Tr.ai r kfa kfa;clear r F;have bg:=ah.size;have a:D<|I2 w n pre<|Az i<|M #[G t u L,C Y y,C Y z] 249:=ah.alloc _;have af:D<|Tr (O<|U w) (O (U w)+5) W<|Az i<|M #[G t u L,C Y y,C Y z] 249:=az.trans<|Tr.alloc _ _ _ _ E E;have bc:=a.a;cases j:Dn n x.1.data.toList
   .have ap:¬(Dn n (CM x)=AP/\K pre<16):=λh=>by have h1:Dn n x.1.data.toList=AP:=h.1;rw[j]at h1;cases h1
    have ab:=T ap;clear ap
    gi_wp2
    generalize Az i (M #[G t u L,C Y y,C Y z] 249)=V at *;obtain⟨d,f,m,S,ho,ai⟩:=a.f;have c4:A6 V (O (U w)+1+1+1+1) 0<|G d (K pre) f:=S.cell;have c1:=a.d.cell;have f1:=a.d.frozen;have c2:A6 V (O (U w)+1+1) 0<|C Y 0:=a.b.cell;have f2:V.frozen? ⟨O (U w)+1+1,0,Ao⟩=AQ:=a.b.frozen;have c3:A6 V (O (U w)+1+1+1) 0<|C Y 0:=a.c.cell;have f3:V.frozen? ⟨O (U w)+1+1+1,0,Ao⟩=AQ:=a.c.frozen
    gi_region
    all_goals gi_wp2
    all_goals exact⟨((af.trans<|jZ keT keT).trans (a.drew.out x ab).2).a0,(a.drew.out x ab).1⟩
   have bf:O (U i)<O (U<|Az i<|M #[G t u L,C Y y,C Y z] 249):=Ba;obtain⟨d,f,m,S,ho,ai⟩:=a.f;have c4:(Az i<|M #[G t u L,C Y y,C Y z] 249).cell? ⟨O (U w)+1+1+1+1,0,Ao⟩=H (G d (K pre) f):=S.cell;have HP:=T S;have b:=T ho;by_cases aj:(K pre:J)=16
   .have ab:D<|¬(Dn n (CM x)=AP/\K pre<16):=λh=>E;have c1:=a.d.cell;have f1:=a.d.frozen;have c2:(Az i<|M #[G t u L,C Y y,C Y z] 249).cell? ⟨O (U w)+1+1,0,Ao⟩=H (C Y 0):=a.b.cell;have f2:(Az i<|M #[G t u L,C Y y,C Y z] 249).frozen? ⟨O (U w)+1+1,0,Ao⟩=AQ:=a.b.frozen;have c3:(Az i<|M #[G t u L,C Y y,C Y z] 249).cell? ⟨O (U w)+1+1+1,0,Ao⟩=H (C Y 0):=a.c.cell;have f3:(Az i<|M #[G t u L,C Y y,C Y z] 249).frozen? ⟨O (U w)+1+1+1,0,Ao⟩=AQ:=a.c.frozen
    gi_wp2
    generalize Az i (M #[G t u L,C Y y,C Y z] 249)=V at *
    gi_region
    all_goals gi_wp2
    all_goals
     have o:=a.drew.out x ab;rw[aj]at o;exact⟨((af.trans<|jZ E E).trans o.2).a0,o.1⟩
   have ay:D<|Dn n (CM x)=AP:=j;have aa:=T<|aw j
   gi_wp2_with(first
    |(gi_at_builtin;refine wpListIn_append_own _ Z _ _ 124 Z (O (U w)+8) 249 i0 (.agg E3) 3 40 underlying124 hi a4 a5 a6 Z B8 _ _ _ Z (b.alloc _) ⟨O (U i)+1,0,Ao⟩ 1 1 [G t u L,C Y y,C Y z] Z Z (Uy) (λx hx=>kew) Bc E B7 ?_;intro v' w5 aq an be;obtain⟨g5,a9,rfl⟩:=ownsRow_succ aq;have ar:=(HP.alloc _).kept an λe=>AY<|DK b e.symm;have c5:A6 w5 (O (U w)+1+1+1+1) 0<|G d (K pre) f:=ar.cell;have f5:w5.frozen? ⟨O (U w)+1+1+1+1,0,Ao⟩=AQ:=ar.frozen))
   exact q5W (a.alloc _) (af.trans<|Tr.alloc _ _ _ _ B7 B7) (HP.alloc _) (b.alloc _) aq an aj ay (ai.ac Cm) ((aa.2.2.2.ac Cm).ac Cm) (by show _++[AX t u L,C Y y,C Y z]=_;rw[aa.1,aa.2.1,aa.2.2.1];rfl)
  case done =>
   intro g m W hD hS p R;obtain⟨d,f,ys,S,ho,a0⟩:=p.f;have b:=T ho;have F:=T p;have HS:=T hS;have HK:=T R;have c4:A6 W (O (U w)+1+1+1+1) 0<|G d (K m) f:=S.cell;have c1:=p.d.cell;have f1:=p.d.frozen;have c2:A6 W (O (U w)+1+1) 0<|C Y 0:=p.b.cell;have f2:W.frozen? ⟨O (U w)+1+1,0,Ao⟩=AQ:=p.b.frozen;have c3:A6 W (O (U w)+1+1+1) 0<|C Y 0:=p.c.cell;have f3:W.frozen? ⟨O (U w)+1+1+1,0,Ao⟩=AQ:=p.c.frozen
   gi_wp2
   have hy:=q7J ae HS F.a F.all;have hE:Fg n s.data.toList=0:=kfK;have hN:IV n s.data.toList=0:=by grind [IV]
   have t1:=Tr.set (O<|U w) (O (U w)+5) W (O (U w)+1) (G d (K m) f) E E;have t2:=Tr.set (O<|U w) (O (U w)+5) (AB W ⟨O (U w)+1,0,Ao⟩<|G d (K m) f) (O (U w)+1+1) (C Y 0) E E;have t3:=Tr.set (O<|U w) (O (U w)+5) (AB (AB W ⟨O (U w)+1,0,Ao⟩<|G d (K m) f) ⟨O (U w)+1+1,0,Ao⟩<|C Y 0) (O (U w)+1+1+1) (C Y 0) E E;have g1:=grownBy_setCell' W (O (U w)+1)<|G d (K m) f;have g2:=grownBy_setCell' (AB W ⟨O (U w)+1,0,Ao⟩<|G d (K m) f) (O (U w)+1+1)<|C Y 0;have g3:=grownBy_setCell' (AB (AB W ⟨O (U w)+1,0,Ao⟩<|G d (K m) f) ⟨O (U w)+1+1,0,Ao⟩<|C Y 0) (O (U w)+1+1+1)<|C Y 0;have b0:=((F.d.set<|G d (K m) f).kept g2 B9).kept g3 B9;have b1:=(Boxed.set (C Y 0)<|F.b.kept g1 B9).kept g3 B9;have b2:=Boxed.set (C Y 0)<|(F.c.kept g1 B9).kept g2 B9;have c:=Cs F.ac ((t1.trans t2).trans t3).ac;have R:=((t1.trans t2).trans t3).a0.same g _ HK Z;have HC:D (∀ad,O (U w)+8<=ad->(AB (AB (AB W ⟨O (U w)+1,0,Ao⟩<|G d (K m) f) ⟨O (U w)+1+1,0,Ao⟩<|C Y 0) ⟨O (U w)+1+1+1,0,Ao⟩<|C Y 0).heap[ad]?=W.heap[ad]?):=λad hj=>Ca (Ca (Gz _ _ _ _ B7)<|Gz _ _ _ _ B7)<|Gz _ _ _ _ B7;generalize AB (AB (AB W ⟨O (U w)+1,0,Ao⟩<|G d (K m) f) ⟨O (U w)+1+1,0,Ao⟩<|C Y 0) ⟨O (U w)+1+1+1,0,Ao⟩ (C Y 0)=V at *;refine⟨Ba,AF ⟨g,_,Z,run_takeDeferred R,?_⟩⟩;have N:=(Boxed.kept b0 (grownBy_putObj' V g<|.deferred Ao) B9).cell;have P:(V.putObj g<|.deferred Ao).cell? ⟨O (U w)+1+1,0,Ao⟩=H (C Y 0):=(Boxed.kept b1 (grownBy_putObj' V g<|.deferred Ao) B9).cell;have Q:(V.putObj g<|.deferred Ao).cell? ⟨O (U w)+1+1+1,0,Ao⟩=H (C Y 0):=(Boxed.kept b2 (grownBy_putObj' V g<|.deferred Ao) B9).cell;refine⟨Af #[G d (K m) f,C Y 0,C Y 0],?_,⟨d,K m,f,by rw[hE,hN],Qv c E,λ_=>q4C ae HS b a0 HK HC⟩⟩;simp[results,f94,go_sem,N,P,Q]
  case stop =>
   intro g ac pre W hD hS q R;obtain rfl:=q.ret
   gi_wp2
   obtain⟨ag,x,rfl,a1,ha,a2,hx⟩:=q.a;obtain⟨bh,j⟩:=hS;have hy:=q8o ae j ha a2 hx;have hE:Fg n s.data.toList=6:=kfK;have hN:IV n s.data.toList=K ag:=by grind [IV]
   refine⟨Ba,AF ⟨g,_,Z,run_takeDeferred R,?_⟩⟩;have N:=(q.d.kept (grownBy_putObj' W g<|.deferred Ao) B9).cell;have P:(W.putObj g<|.deferred Ao).cell? ⟨O (U w)+1+1,0,Ao⟩=H (C Y 6):=(q.b.kept (grownBy_putObj' W g<|.deferred Ao) B9).cell;have Q:(W.putObj g<|.deferred Ao).cell? ⟨O (U w)+1+1+1,0,Ao⟩=H (C Y (K ag:I)):=(a1.kept (grownBy_putObj' W g<|.deferred Ao) B9).cell;refine⟨Af #[G Ao 0 0,C Y 6,C Y (K ag:I)],?_,⟨Ao,0,0,by rw[hE,hN],Qv q.ac E,λe=>by rw[hE]at e;cases e⟩⟩;simp[results,f94,go_sem,N,P,Q]
 have h0:s.data.toList=[]:=by grind [Lib.toList_data]
 have hy:E5 n s.data.toList = -1:=by grind [E5]
 have HE:D<|Fg n s.data.toList=0:=by grind [D,Fg]
 have HN:D<|IV n s.data.toList=0:=by grind [D,IV]
 have ax:D<|Ea s.data.toList=[]:=by grind [D,Ea]
 go_enter func94,ntmps94;go_wp2;have e3:=ke w n 0;have c:A0 w<|Az (Az (Az (Az w<|M #[C Y n] 3)<|M #[G Ao 0 0] 124)<|M #[C Y 0] 54)<|M #[C Y 0] 3:=((((Cm).alloc Ba _).alloc B7 _).alloc B7 _)
 generalize Az (Az (Az (Az w<|M #[C Y n] 3)<|M #[G Ao 0 0] 124)<|M #[C Y 0] 54) (M #[C Y 0] 3)=V at *;obtain⟨N,P,Q⟩:=e3;refine CS (v:=Af #[G Ao 0 0,C Y 0,C Y 0]) keN Z ?_;exact⟨Ao,0,0,by rw[AE HE,AE HN],c,λ_=>by rw[AE ax];exact⟨[],Fi _ _ _ _,UP⟩⟩
end
def kN(c:CF)(w:Ap)(A:A3)(w':Ap):Prop:=A.size=38/\A.all (·.oneCell')=AP/\(Hd c=0->F9 c.a c.L=AP/\∃a k cap,A=J9 (Dp c.a.toNat<|DY c.a.toNat c.L) a k cap/\∃lo',Au (Av w)<=lo'/\KY w' lo' (Ac a k cap) ((Ea c.e.data.toList).map DV))
def q6r{c:CF}(h:¬Hd c=0):kN c w EY w':=⟨Oe,kH,λe=>absurd e h⟩
def q6C(c:CF)(w:Ap)(e:Ending)(w':Ap):Prop:=∃A,e=Ak (Af #[.agg A,Ab Al<|Hd c,Ab Al<|KX c])/\kN c w A w'/\A0 w w'
def kO(n:AH)(s:AT):AI:=Fg n s.data.toList
def PoK(n:AH)(s:AT)(w:Ap)(a:A4)(m cap:AH)(w':Ap):Prop:=kO n s=0->KY w' (Au<|Av w) (Ac a m cap) ((Ea s.data.toList).map DV)
def qsQ(s:AT)(n:I)(h:Hn w):Ar As 94 #[.string s,C Y n] w λe c=>∃a m b,e=Ak (Af #[G a m b,C Y<|Fg n s.data.toList,C Y<|IV n s.data.toList])/\A0 w c/\PoK n s w a m b c:=by refine Ce (qqf h) ?_;rintro e c ⟨a,m,b,d,f,g⟩;exact⟨a,m,b,d,f,g⟩
theorem UR{c:CF}(n:Fa w c)(hg:Hn w):Ar As 56 #[.agg c.ai] w<|q6C c w:=by
 have HC:=T n;have HG:=T hg;have HS:=T c.size;have q:=T<|q3N w c;have hL:K c.L<=maxLen:=B4 n.eb;have ap:K c.B<=maxLen:=B4 n.bb;have Q:Ar As 92 #[.agg c.ai] (Az (Az w<|M c.ai 40)<|M EY 126) λe w'=>e=Ak (Af #[.agg<|Js c.a c.L c.c c.d,C Y<|G9 c.a c.L c.c c.d])/\Below (Au<|U<|Az (Az w<|M c.ai 40)<|M EY 126) (Az (Az w<|M c.ai 40)<|M EY 126) w' :=
  qmf c.ai c.a rfl rfl rfl rfl hL<|n.a.ac q.ac
 have v:(Js c.a c.L c.c c.d).size=37:=by unfold Js;split<;>exact Dc
 have h:(Js c.a c.L c.c c.d).all (·.oneCell')=AP:=by unfold Js;split<;>exact Hl
 have k:=T v;have p:=T h;have P:D<|CU.size=(Js c.a c.L c.c c.d).size:=by show _=_;rw[v];exact Dc
 have F:D<|G9 c.a c.L c.c c.d=0->F9 c.a c.L=AP/\Js c.a c.L c.c c.d=Dp c.a.toNat (DY c.a.toNat c.L):=q6T;have y:D<|¬G9 c.a c.L c.c c.d=0->Hd c=G9 c.a c.L c.c c.d/\KX c=0:=q8Z;have A:D<|G9 c.a c.L c.c c.d=0->Hd c=(if EJ c.f c.out c.b c.bytes=AQ then 4 else if I8 c.B=AQ then 5 else Fg c.a.toNat c.e.data.toList)/\KX c=(if EJ c.f c.out c.b c.bytes=AQ then 0 else if I8 c.B=AQ then 0 else IV c.a.toNat c.e.data.toList):=λao=>by grind [Hd,KX]
 clear v h n hg;generalize Js c.a c.L c.c c.d=O at *;generalize G9 c.a c.L c.c c.d=E0 at *;go_enter func56,ntmps56
 go_wp2_with(first
  |(refine Nh Z Z Z (Au (U w)+1) ?hN ?_;case hN=>grind [World.size_alloc])
  |(refine CO Z 40 _ Z _ Z _ _ _ _ q.h underlying40 Z (DC HS) ?_)
  |fail)
 refine Ce Q ?_;clear Q;rintro e a ⟨rfl,V⟩;have N:=T<|q.a0 V;clear V q;have d:D<|Ps w c<|Az a<|M O 123:=N.a0 Cm;have ai:D<|(Az a<|M O 123).heap[Au<|U a]?=H (M O 123):=Cj _;have j:=d;by_cases b:E0=0
 case' neg =>
  obtain⟨ac,ad⟩:=y.out b;have l:=T ac;have m:=T ad;have o:D<|¬Hd c=0:=B9
 case' pos =>
  subst b;obtain⟨ab,W⟩:=F.out rfl;obtain⟨ac,ad⟩:=A.out rfl;have ah:=T W;have z:=T ab;have h6:(Az a<|M O 123).cell? ⟨Au<|U w,6,Ao⟩=H (C Y c.f):=d.cell 6;have h7:(Az a<|M O 123).cell? ⟨Au<|U w,7,Ao⟩=H (C Y c.out):=d.cell 7;have h8:(Az a<|M O 123).cell? ⟨Au<|U w,8,Ao⟩=H (C Y c.b):=d.cell 8;have h9:(Az a<|M O 123).cell? ⟨Au<|U w,9,Ao⟩=H (C Y c.bytes):=d.cell 9;have av:(Az a<|M O 123).cell? ⟨Au<|U w,10,Ao⟩=H (G c.i (K c.B) c.g):=d.cell 10;have h3:(Az a<|M O 123).cell? ⟨Au<|U w,3,Ao⟩=H (.string c.e):=d.cell 3;have h0:(Az a<|M O 123).cell? ⟨Au<|U w,0,Ao⟩=H (C Y c.a):=d.cell 0;have r:=λam=>kF c.f c.out c.b c.bytes am;clear F A y W ab;cases R:EJ c.f c.out c.b c.bytes
  case' false =>
   have l:D<|Hd c=4:=by grind [D]
   have m:D<|KX c=0:=B9;have o:D<|¬Hd c=0:=by grind [D]
  case' true =>
   have t:=oe c.g ap<|HC.b.ac d.ac;cases S:I8 c.B
   case' false =>
    have l:D<|Hd c=5:=by grind [D]
    have m:D<|KX c=0:=B9;have o:D<|¬Hd c=0:=by grind [D]
   case' true =>
    have u:=qsQ c.e c.a.toNat<|HG.ac d.ac;rw[(Pr z).1]at u;have l:D<|Hd c=Fg c.a.toNat c.e.data.toList:=by grind [D]
    have m:D<|KX c=IV c.a.toNat c.e.data.toList:=B9;have ag:D<|Fg c.a.toNat c.e.data.toList=0->IV c.a.toNat c.e.data.toList=0:=λao=>by grind [Fg,IV]
    have af:D<|kO c.a.toNat c.e=Fg c.a.toNat c.e.data.toList:=rfl;generalize Fg c.a.toNat c.e.data.toList=E1 at *;generalize IV c.a.toNat c.e.data.toList=N1 at *;by_cases aq:E1=0
    case pos =>
     subst aq;rw[R]at r;rw[S]at t;have ar:=ag.out Z;subst ar;have ae:D (∀f i g,prog.built 126 [(0,.agg O),(1,G f i g)]=H (J9 O f i g)):=λf i g=>by grind [D,qx5]
     have al:D (∀f i g,EY.size=(J9 O f i g).size):=λf i g=>by rw[Sv k.out];exact Oe
     have au:Au (U a)<Au (U<|Az a<|M O 123):=Ba
     go_wp2_with(first
      |(go_at_call 40;refine Ce (r _) ?_;rintro e x ⟨rfl,rfl⟩)
      |(go_at_call 93;refine Ce t ?_;rintro e x ⟨rfl,rfl⟩)
      |(go_at_call 94;refine Ce u ?_;rintro e w4 ⟨f,i,g,rfl,s,aa⟩;have ak:=T aa;have j:=T<|d.a0 s;have aj:=T<|Ca (Co s _ au) ai)
      |(refine CO Z 123 _ Z _ Z _ _ _ _ aj underlying123 Z (DM k) ?_)
      |(refine Jg Z Z Z ?hl (ae f i g) ?_;case hl=>simp[go_sem])
      |(refine D8 Z 126 _ _ Z (Au (U w)+1) (J9 O f i g) Z Z 126 EY j.a (KW<|Sv k) (al _ _ _) (YS p) ?_)
      |(refine Ky Z Z Z (Au<|U a) Z ?_)
      |(refine D8 Z 123 _ _ Z (Au<|U a) O Z Z 123 CU (Cj a) (DM k) P p ?_;rw[Gd]))
     refine CS (kG results56 Z (CR _ _ EY _ _ _ j.a) underlying126 Z (KW<|Sv k) (C Y 0) (C Y 0) Z Z) Z ⟨J9 O f i g,by rw[AE l,AE m],?_,Dq j.ac E⟩;refine⟨Sv k,YS p,λ_=>⟨z,f,i,g,by rw[AE ah],?_⟩⟩;have hq:=ak.out af;have aw:=Cd N.a;exact⟨_,d.ac.size,hq.kept λan h1 _=>Do _ (Au (U w)+1) an _ E⟩
    have o:D<|¬Hd c=0:=B9
   rw[S]at t
  rw[R]at r
 all_goals
  go_wp2_with(first
   |(go_at_call 40;refine Ce (r _) ?_;rintro e x ⟨rfl,rfl⟩)
   |(go_at_call 93;refine Ce t ?_;rintro e x ⟨rfl,rfl⟩)
   |(go_at_call 94;refine Ce u ?_;rintro e w4 ⟨f,i,g,rfl,s,aa⟩;have j:=T<|d.a0 s)
   |(refine D8 Z 126 _ _ Z (Au (U w)+1) EY Z Z 126 EY j.a (KW Oe) Z kH ?_)
   |(refine Ky Z Z Z (Au<|U a) Z ?_)
   |(refine D8 Z 123 _ _ Z (Au<|U a) O Z Z 123 CU (Cj a) (DM k) P p ?_;rw[Gd])
   |(refine Jg Z Z Z ?hl qts ?_;case hl=>simp))
  refine CS (kG results56 Z (CR _ _ EY _ _ _ j.a) underlying126 Z (KW Oe) _ _ Z Z) Z ⟨EY,by rw[AE l,AE m];rfl,q6r o,Dq j.ac E⟩
def FL(ks:AJ A1):Lit->Option AH
 |.string b=>if b∈ks then An (2+ks.idxOf b)else Ao
 |_=>Ao
theorem Of{b:A1}(h:b∈ks):FL ks (.string b)=H (2+ks.idxOf b):=Cp h
theorem QJ{b:A1}(h:b∉ks):FL ks (.string b)=Ao:=Cl h
theorem q5j{b:A1}(h:b∉ks):FL (ks++[b]) (.string b)=H (2+K ks):=by grind [Of]
theorem q2n{b:A1}(_h:b∉ks)(l:Lit)(hl:l≠.string b):FL (ks++[b]) l=FL ks l:=by
 cases l with
 |string c =>
  grind [Of,QJ]
 |_=>rfl
def I3(W:Ap)(m:AH)(ks:AJ A1):Prop :=
 ∃D:A2,W.ownsMap As 9 (plainElem As 3) m (At ks) D/\(∀l,Maps.has D l=(FL ks l).isSome/\∀v:AH,FL ks l=An v->D.atKey l (.lit<|.int Al 0)=.lit (.int Al v))/\Maps.size D=At ks
def I3.im{m:I}(h:I3 W m ks):Ed W 9 m (K ks)<|FL ks:=by obtain⟨a,b,c,_⟩:=h;exact⟨a,b,c⟩
def I3.kept{m:I}{row:Option I}(h:I3 W m ks)(d:W.grownBy W' row)(e:H m≠row):I3 W' m ks:=C5
def YV(W:X):I3 (Az W<|.map #[] 0) (O<|U W) [] :=
 ⟨_,ZO W As _ _,λl=>⟨by cases l<;>simp[Maps.has,FL],λv h=>by cases l<;>simp[FL]at h⟩,rfl⟩
def I3.len{t m:I}(h:I3 W m ks)(d:prog.underlying t=H (.map 9 3))(a:AN):(Builtin.len_ #[t] a #[.map<|H m]).run As W=.ok (C Y<|K ks) W:=by obtain⟨e,b,_,c⟩:=h;rw[b.len d a,c]
theorem quu{t m:I}(h:I3 W m ks)(p:prog.underlying t=H (.map 9 3))(v:K ks<100000){b:A1}(hb:K b<=1000000000)(j:b∉ks):∃a,(Instr.mapUpdate t (.map<|H m) (Ae ⟨Aw b⟩)<|C Y ((2+K ks:I):J)).run As W=.ok () a/\I3 a m (ks++[b])/\W.grownBy a (H m):=by
 obtain⟨f,c,s,g⟩:=h;have d:=NM hb;obtain⟨a,o,n,i⟩:=c.store Nc p Bc d<|Wc underlying3<|jT (2+K ks) E;have k:Maps.has f (.string b)=AQ:=by grind [QJ]
 refine⟨a,o,⟨_,by rw[Dj];exact n,λl=>?_,?_⟩,i.grown⟩
 .by_cases e:l=.string b
  .subst e;rw[q5j j];refine⟨VT c.isMap (Nc.key d) _,λu q=>?_⟩;have r:=Fl q;rw[<-r];exact ae c.isMap (Nc.key d) _ _
  grind [q2n,Maps.has_put_other,Maps.atKey_put_other]
 rw[Maps.size_put<|c.tidy Nc,k,g,Dj];rfl
def He(ks:AJ A1)(s:AH×A1):AJ A1:=if s.1=3/\s.2∉ks then ks++[s.2]else ks
def Og(ks:AJ A1)(r:AJ (AH×A1)×AI×AI):AJ A1:=r.1.foldl He ks
def FX(rs:AJ<|AJ (AH×A1)×AI×AI):AJ A1:=rs.foldl Og []
theorem q4s(ks:AJ A1)(s:I×A1):K (He ks s)<=K ks+1:=by grind [He]
theorem kP:∀(ss:AJ<|I×A1) (ks:AJ A1),K (ss.foldl He ks)<=K ks+K ss
 |[],ks=>Ba
 |s::ss,ks=>by have a:=kP ss<|He ks s;grind [q4s]
def Oh{S:X->Prop}{a:Act}(i dst:I)(hi:ops[i]?=H oi)(b:(Region.noSelect ops&&Region.free md ops listed i&&(Region.ready md ops listed).contains i&&oi.dst==H dst && !Region.wanted oi (yielded ops a.tmps))=AP)(d:∀c a w,Q (.panic c) (a.put (H dst) AO) w->Q (.panic c) a w)(e:S w)(h:wpAnyH P md ops Q S fuel (Ay listed i AP) (a.put (H dst) AO) w):wpAnyH P md ops Q S (fuel+1) listed a w:=by simp only[Fj]at b;have f:oi.dst=H dst:=C7;rw[<-f]at d h;exact EN hi b.1.1.1.1 b.1.1.1.2 b.1.1.2 d (AG ⟨by simpa using b.2,Z⟩) e h
structure Bt(b:AH)(W W':Ap):Prop where
 os:W'.os=W.os
 tape:W'.tape=W.tape
 output:W'.output=W.output
 size:Au (Av W)<=Au (Av W')
 block:∀k,k<Au (Av W)->k≠b->W'.heap[k]?=W.heap[k]?
theorem Bt.refl(b:I)(W:X):Bt b W W:=⟨rfl,rfl,rfl,Cr _,λ_ _ _=>rfl⟩
def Bt.trans{A B C:X}(h:Bt b A B)(k:Bt b B C):Bt b A C :=
 ⟨k.os.trans h.os,k.tape.trans h.tape,k.output.trans h.output,CE h.size k.size,λi a c=>(k.block i (CQ a h.size) c).trans<|h.block i a c⟩
def Bt.of_below(h:A0 W W'):Bt b W W':=⟨h.os,h.tape,h.output,h.size,λk a _=>h.block k a⟩
structure Mg(W:Ap)(lm:AH)(ks:AJ A1)(V:Ap):Prop where
 ai:Bt lm W V
 ac:I3 V lm ks
theorem Mg.next(h:Mg W lm ks V)(hb:A0 V V'):Mg W lm ks V' :=
 ⟨h.ai.trans<|Bt.of_below hb,h.ac.kept (row:=Ao) ⟨hb.os,hb.tape,hb.output,hb.size,λi a _=>hb.block i a⟩ Ba⟩
def Bt.a2(h:Bt lm W V)(a:A0 W0 W)(hl:O (U W0)<=lm):A0 W0 V :=
 ⟨h.os.trans a.os,h.tape.trans a.tape,h.output.trans a.output,CE a.size h.size,λi b=>(h.block i (CQ b a.size) E).trans<|a.block i b⟩
theorem Bt.ac{u:Aq}(h:Bt lm W V)(a:A<O (U W))(b:A≠lm)(c:A6 W A j u):A6 V A j u:=by have e:=h.block A a b;grind [World.cell?]
theorem kQ(h:n<=128):wrap64 (2+(n:J))=((2+n:I):J):=by unfold wrap64;omega
theorem qiF(ar:A0 W0 W)(Q:A<O (U W))(R:A≠lm)(hl:O (U W0)<=lm)(hn:K rs<=16)(h8:∀i (h:i<K rs),rs[i].1.length<=8)(av:∀i (h:i<K rs) j (h2:j<rs[i].1.length),rs[i].1[j].2.length<=1000000000)(c0:A6 W A 0<|G ra (K rs) rc)(c2:A6 W A 2<|.map<|H lm)(hr:J7 W0 ra rs)(hm:I3 W lm []):Ar As 95 #[A8 A] W λap W'=>ap=Ak (Af #[])/\Mg W lm (FX rs) W':=by
 have HR:=T hr;have N:=T ar;have HM:=T hm;go_enter func95,ntmps95;go_wp2
 go_loopg[12] (K rs) (λg z wr=>∃(k:I) (l:AJ A1),z=C Y k/\D (k+g=K rs)/\D (Mg W lm l wr)/\D (FX rs=(rs.drop k).foldl Og l)/\D (K l<=8*k))
 exact⟨0,[],Z,Bg,⟨Bt.refl _ _,HM⟩,Z,kfV⟩;obtain⟨k,l,rfl,hg,L,HK,HL⟩:=hrel;obtain _|g:=gk
 .have ax:¬(k:J)<(K rs:J):=AY<|AE hg;have HE:D<|FX rs=l:=by grind [D]
  go_wp2;go_end0;grind [D]
 have w:k<K rs:=AY<|AE hg;have ax:(k:J)<(K rs:J):=E;obtain⟨ao,off,V,pc,rfl,hb,e0,e1,e2,bc⟩:=(HR.ac<|L.ai.a2 N hl).a0 k w;have ak:D<|Pg W0 V rs[k].1:=by obtain⟨b',be,bg,bh,b,au,f0,f1,f2,bb⟩:=HR.a0 k w;injection b with b;injection b with hab1 hab2;subst hab1;subst hab2;have e3:=((L.ai.a2 N hl).cell (p:=⟨ao,off+k*3,Ao⟩) au).trans f0;grind
 have a9:=h8 k w;have aj:=T<|av k w;have a1:D<|FX rs=(rs.drop<|k+1).foldl Og (rs[k].1.foldl He l):=by have h:=AE HK;rw[K6 w]at h;exact h
 have a5:D<|Mg W lm l<|Az wr<|Aj #[G V rs[k].1.length pc,C Y rs[k].2.1,C Y rs[k].2.2] 249:=L.next Cm
 go_wp2;generalize Az wr (Aj #[G V rs[k].1.length pc,C Y rs[k].2.1,C Y rs[k].2.2] 249)=V0 at *;generalize hss:rs[k].1=ss at *
 go_loopg[19] (K ss) (λu z an=>∃(j:I) (c:AJ A1),z=C Y j/\D (j+u=K ss)/\D (Mg W lm c an)/\D (ss.foldl He l=(ss.drop j).foldl He c)/\D (K c<=K l+j))
 grind;obtain⟨j,c,rfl,ae,t,a2,a4⟩:=hrel;obtain _|u:=gk
 .have ay:¬(j:J)<(K ss:J):=AY<|AE ae;have HE:D<|ss.foldl He l=c:=by grind [D]
  go_wp2;go_roundg g;exact⟨k+1,c,Bb,B9,t,by grind [D],by grind [D]⟩;omega
 have af:j<K ss:=AY<|AE ae;have ay:(j:J)<(K ss:J):=E;obtain⟨b2,bf,rfl,a7,s0,s1⟩:=(ak.ac<|t.ai.a2 N hl).a0 j af;have a3:D<|ss.foldl He l=(ss.drop<|j+1).foldl He (He c ss[j]):=BT;have F:=T<|aj j af;generalize ss[j]=sg at *;have s:D<|Mg W lm c<|Az wr<|Aj #[C Y sg.1,Ae ⟨Aw sg.2⟩] 254:=t.next Cm
 obtain⟨n,key⟩:=sg;have B:D<|(Az wr<|Aj #[C Y n,Ae ⟨Aw key⟩] 254).heap[O<|U wr]?=H (Aj #[C Y n,Ae ⟨Aw key⟩] 254):=Cj _;have a0:=T t.ac.im.lt;clear t;go_wp2;generalize Az wr (Aj #[C Y n,Ae ⟨Aw key⟩] 254)=V1 at *;generalize O (U wr)=M at *;refine Dl (S:=λd=>A6 d A 2 (.map<|H lm)/\A7 d M #[C Y n,Ae ⟨Aw key⟩] 254/\I3 d lm c) (⟨s.ai.ac Q R c2,B,s.ac⟩) B6 ?_;intro a;by_cases ag:n=3
 .subst ag;by_cases e:key∈c
  .obtain⟨x,hx⟩:=IA<|2+c.idxOf key;have P:D<|(FL c<|.string key).getD 0=x:=by grind [Of]
   have bd:((x:J)==0)=AQ:=B7;have aa:D<|He c (3,key)=c:=Cl λh=>h.2 e;clear hx;refine Cb 0 23 (A8 M) a <| Ch 1 24 (C Y 3) Z (λd f=>ke9) a <| Cb 2 25 (Ah AP) a <| Cb 3 26 (Ah AP) a <| Cb 4 27 (A8 A) a <| Cb 5 28 (A8 A) a <| Cb 6 29 (A9 A 2) a <| Ch 7 30 (.map<|H lm) Z (λd f=>kfe) a <| Cb 8 31 (A9 M 1) a <| Ch 9 32 (Ae ⟨Aw key⟩) Z (λd f=>kfS) a <| Ch 10 33 (C Y x) Z (λd f=>by have v:=Si f.2.2.im Nc underlying178<|NM F;rw[AE P]at v;go_simp) a <| Ch 11 34 (Ah AQ) rfl (λd f=>Bh) a <| Cb 12 35 (Ah AQ) a <| CK ?_;go_simp;have m:=T<|s.next (Cu _ _).drew;go_wp2;go_roundg u;exact⟨j+1,c,Bb,B9,m,by grind [D],by grind [D]⟩;omega
  have P:D<|(FL c<|.string key).getD 0=0:=by grind [QJ]
  have aa:D<|He c (3,key)=c++[key]:=Cp ⟨Z,e⟩;refine Cb 0 23 (A8 M) a <| Ch 1 24 (C Y 3) Z (λd f=>ke9) a <| Cb 2 25 (Ah AP) a <| Cb 3 26 (Ah AP) a <| Cb 4 27 (A8 A) a <| Cb 5 28 (A8 A) a <| Cb 6 29 (A9 A 2) a <| Ch 7 30 (.map<|H lm) Z (λd f=>kfe) a <| Cb 8 31 (A9 M 1) a <| Ch 9 32 (Ae ⟨Aw key⟩) Z (λd f=>kfS) a <| Ch 10 33 (C Y 0) Z (λd f=>by have v:=Si f.2.2.im Nc underlying178<|NM F;rw[AE P]at v;go_simp) a <| Cb 11 34 (Ah AP) a <| Cb 12 35 (Ah AP) a <| CK ?_;go_simp;have m:=T<|s.next (Cu _ _).drew;have y:D<|(World.drew V1).heap[M]?=H (Aj #[C Y 3,Ae ⟨Aw key⟩] 254):=AE B;clear a s B;generalize World.drew V1=V2 at *;have d2:=m.ai.ac Q R c2;have ba:=m.ac.len underlying178;have aw:K c<=8*16:=by grind [D]
  obtain⟨ai,hv⟩:=IA<|2+K c;have am:D<|wrap64 (2+(K c:J))=(ai:J):=by grind [D,kQ]
  have al:=T hv;clear hv aw;go_wp2;rw[AE am];have ab:=T<|m.next (Cu _ _).drew;obtain⟨w7,ah,ad,r⟩:=quu ab.ac underlying178 (by grind [D]) F e;rw[<-AE al]at ah;have ac:D<|Mg W lm (c++[key]) w7:=⟨ab.ai.trans ⟨r.os,r.tape,r.output,r.size,λi hi az=>r.block i hi<|by simpa using az⟩,ad⟩
  have q:(λd:X=>A6 d A 2 (.map<|H lm)/\A7 d M #[C Y 3,Ae ⟨Aw key⟩] 254) {V2 with drawn:=V2.drawn+1}:=⟨d2,y⟩
  have aq:(λd:X=>A6 d A 2 (.map<|H lm)/\A7 d M #[C Y 3,Ae ⟨Aw key⟩] 254) w7:=⟨ac.ai.ac Q R c2,(r.block M (Cd y)<|by grind [D]).trans y⟩
  clear ad r m y;refine Ei (S:=λd=>A6 d A 2 (.map<|H lm)/\A7 d M #[C Y 3,Ae ⟨Aw key⟩] 254) B6 ?_;refine Cb 0 42 (A8 A) q <| Cb 1 43 (A8 A) q <| Cb 2 44 (A9 A 2) q <| Ch 3 45 (.map<|H lm) Z (λd f=>kfe) q <| Cb 4 46 (A9 M 1) q <| Ch 5 47 (Ae ⟨Aw key⟩) Z (λd f=>by have o:=Cc f.2 1;go_simp) q <| Cb 6 48 (C Y ai) q <| CH 7 λa6 hK=>?_;go_simp;refine hK.out _ _ aq λ_=>?_;clear hK;refine CK ?_;go_simp;clear ah;go_wp2;go_roundg u;exact⟨j+1,c++[key],Bb,B9,ac,by grind [D],by grind [D]⟩;omega
 have a8:((n:J)==3)=AQ:=B7;have aa:D<|He c (n,key)=c:=Cl λh=>ag h.1;refine Cb 0 23 (A8 M) a <| Ch 1 24 (C Y n) Z (λd f=>ke9) a <| Ch 2 25 (Ah AQ) Z (λd f=>Bh) a <| Cb 3 26 (Ah AQ) a <| Oh 4 27 Z B6 (λ_ _ _ h=>h) a ?_;refine Oh 5 28 Z B6 (λ_ _ _ h=>h) a ?_;refine Oh 6 29 Z B6 (λ_ _ _ h=>h) a ?_;refine Oh 7 30 Z B6 (λ_ _ _ h=>h) a ?_;refine Oh 8 31 Z B6 (λ_ _ _ h=>h) a ?_;refine Oh 9 32 Z B6 (λ_ _ _ h=>h) a ?_;refine Oh 10 33 Z B6 (λ_ _ _ h=>h) a ?_;refine Oh 11 34 Z B6 (λ_ _ _ h=>h) a ?_;refine Cb 12 35 (Ah AQ) a <| CK ?_;go_simp;have m:=T<|s.next (Cu _ _).drew;go_wp2;go_roundg u;exact⟨j+1,c,Bb,B9,m,by grind [D],by grind [D]⟩;omega
def Ni(ks:AJ A1)(s:AH×A1)(x:AH):AK:=if s.1=0 then AP else if s.1=1 then AQ else if s.1=2 then x==1 else x==(FL ks<|.string s.2).getD 0
def gB(rs:AJ<|AJ (AH×A1)×AI×AI)(r p:AH)(f:AH×A1->AK):AK:=match rs[r]? with
 |some R=>(match R.1[p]? with|some s=>f s|none=>AQ)
 |none=>AQ
theorem q8w{p:I}{s:I×A1}(a:rs[r]?=H R)(b:R.1[p]?=H s)(f:I×A1->AK):gB rs r p f=f s:=by grind [gB]
theorem kR{p:I}(a:rs[r]?=H R)(b:K R.1<=p)(f:I×A1->AK):gB rs r p f=AQ:=by grind [gB]
theorem kS(a:K rs<=r)(p:I)(f:I×A1->AK):gB rs r p f=AQ:=by grind [gB]
structure IW(rs:AJ (AJ (AH×A1)×AI×AI))(ks:AJ A1)(i j:AH)(st:AH->AH)(tk:AH->AH->AH):Prop where
 s:∀r p,(st r).testBit p=(AR (r<i\/(r=i/\p<j))&&gB rs r p (λs=>s.1==1))
 t:∀x r p,(tk x r).testBit p=(AR (r<i\/(r=i/\p<j))&&gB rs r p (λs=>Ni ks s x))
def qxX:IW rs ks 0 0 (λ_=>0) (λ_ _=>0) :=
 ⟨λr p=>Ba,λx r p=>Ba⟩
def GN(st:AH->AH)(i j:AH)(b:AK):AH->AH:=λr=>if r=i/\b=AP then st r|||2^j else st r
theorem kT{f:I×A1->AK}{s:I×A1}(a:rs[i]?=H R)(b:R.1[j]?=H s)(h:∀r p,(st r).testBit p=(AR (r<i\/(r=i/\p<j))&&gB rs r p f))(r p:I):(GN st i j (f s) r).testBit p=(AR (r<i\/(r=i/\p<j+1))&&gB rs r p f):=by grind [GN,q8w]
def IW.place{tk:I->I->I}{s:I×A1}(h:IW rs ks i j st tk)(a:rs[i]?=H R)(b:R.1[j]?=H s):IW rs ks i (j+1) (GN st i j<|s.1==1) (λx=>GN (tk x) i j<|Ni ks s x) :=
 ⟨λr p=>kT a b h.s r p,λx r p=>kT a b (h.t x) r p⟩
theorem IW.rule{tk:I->I->I}(h:IW rs ks i j st tk)(a:rs[i]?=H R)(b:K R.1<=j):IW rs ks (i+1) 0 st tk:=by
 have key:∀(f:I×A1->AK) (r p:I),(AR (r<i\/(r=i/\p<j))&&gB rs r p f)=(AR (r<i+1\/(r=i+1/\p<0))&&gB rs r p f):=by grind [kR]
 exact⟨λr p=>Ca (h.s r p)<|key _ r p,λx r p=>Ca (h.t x r p)<|key _ r p⟩
structure LA(rs:AJ (AJ (AH×A1)×AI×AI))(ks:AJ A1)(st:AH->AH)(tk:AH->AH->AH):Prop where
 s:∀r p,(st r).testBit p=gB rs r p (λs=>s.1==1)
 t:∀x r p,(tk x r).testBit p=gB rs r p (λs=>Ni ks s x)
theorem IW.done{tk:I->I->I}(h:IW rs ks i 0 st tk)(hi:K rs<=i):LA rs ks st tk:=by
 have key:∀(f:I×A1->AK) (r p:I),(AR (r<i\/(r=i/\p<0))&&gB rs r p f)=gB rs r p f:=by grind [kS]
 exact⟨λr p=>Ca (h.s r p)<|key _ r p,λx r p=>Ca (h.t x r p)<|key _ r p⟩
def US(h:∀p,8<=p->x.testBit p=AQ):x<256:=Nat.lt_pow_two_of_testBit (n:=8) x λp a=>h p a
theorem UT(b:∀i (h:i<K rs),rs[i].1.length<=8){p:I}(c:8<=p)(f:I×A1->AK):gB rs r p f=AQ:=by
 by_cases a:r<K rs
 .exact kR (D7 a) (CE (b r a) c) f
 grind [kS]
def IW.lt{tk:I->I->I}(h:IW rs ks i j st tk)(b:∀i (h:i<K rs),rs[i].1.length<=8):(∀r,st r<256)/\∀x r,tk x r<256 :=
 ⟨λr=>US λp a=>by rw[h.s,UT b a];simp,λx r=>US λp a=>by rw[h.t,UT b a];simp⟩
def It(q:D0)(st:AH->AH)(tv sv:Aq):A3:=#[Ac q.h (At q.a) q.e,Ab Al q.c,.map<|An q.f]++CD st++#[tv,sv,.map<|An q.d,.map<|An q.b]
def qzu(q:D0)(a:Aq):Sl q a=It q q.st (G (Aa q.g) q.L q.tc) a:=B6
def qxt(q:D0)(st:I->I)(c a b:Aq):Ay (It q st c a) 19 b=It q st b a:=B6
theorem qxz{q:D0}(st:I->I){v:I}(a:r<16):Ay (It q st tv sv) (3+r) (C .u16 v)=It q (λi=>if i=r then v else st i) tv sv:=by have h:=congrArg Array.toList<|Ur st r v;rw[R0]at h;apply PR;unfold It;rw[R0];simp only[R8];grind [MY]
theorem q2U{q:D0}(a:r<16):(It q st tv sv)[3+r]?=H (C .u16<|st r):=by have b:=MY st;unfold It;rw[ZT B7,Nu Ba];grind [Ly]
structure Sw(cur:A3)(L:AH)(tk:AH->AH->AH):Prop where
 size:cur.size=L*16
 a0:∀x r,x<L->r<16->cur[x*16+r]?=An (Ab .u16 (tk x r))
def Sw.set{L:I}{tk:I->I->I}(h:Sw cur L tk)(x r v:I)(hx:x<L)(c:r<16):Sw (Ay cur (x*16+r)<|C .u16 v) L λy i=>if y=x/\i=r then v else tk y i:=by
 refine⟨by rw[VC,h.size],λy i b a=>?_⟩;rw[PJ];by_cases e:y=x/\i=r
 .rw[Cp<|by rw[e.1,e.2],Cp<|by rw[h.size];omega,Cp e]
 rw[Cl E,Cl e];exact h.a0 y i b a
structure DO(W:Ap)(A tb L:AH)(q:D0)(sv:Aq)(st:AH->AH)(tk:AH->AH->AH)(V:Ap):Prop where
 aq:V.heap[A]?=An (Aj (It q st (Ac (Aa tb) L L) sv) 187)
 a:∃cur,V.heap[tb]?=An (Aj cur 183)/\Sw cur L tk
 os:V.os=W.os
 tape:V.tape=W.tape
 output:V.output=W.output
 size:Au (Av W)<=Au (Av V)
 block:∀k,k<Au (Av W)->k≠A->V.heap[k]?=W.heap[k]?
theorem DO.next{L:I}{q:D0}{tk:I->I->I}(h:DO W A tb L q sv st tk V)(hb:A0 V V'):DO W A tb L q sv st tk V':=by obtain⟨c,b,e⟩:=h.a;exact⟨Ca (Co hb _<|Cd h.aq) h.aq,⟨c,Ca (Co hb _<|Cd b) b,e⟩,Ca hb.os h.os,Ca hb.tape h.tape,Ca hb.output h.output,CE h.size hb.size,λk a d=>Ca (Co hb k<|CQ a h.size)<|h.block k a d⟩
theorem kU(V:X)(p:Addr)(v:Aq):O (U<|V.drew.setCell p v)=O (U V):=Bv
def DO.ai{L:I}{q:D0}{tk:I->I->I}(h:DO W A tb L q sv st tk V)(e:A≠tb)(r v:I)(f:r<16):DO W A tb L q sv (λi=>if i=r then v else st i) tk<|V.drew.setCell ⟨A,3+r,Ao⟩<|C .u16 v:=by obtain⟨c,g,j⟩:=h.a;have a:=DX V.drew A (3+r) _ _ (C .u16 v) h.aq;rw[qxz st f]at a;refine⟨a,⟨c,Ca (Gz V.drew _ _ _<|by simpa using e.symm) g,j⟩,h.os,h.tape,h.output,by rw[kU];exact h.size,λk d b=>Ca (Gz V.drew _ _ _ BG)<|h.block k d b⟩
theorem DO.took{L:I}{q:D0}{tk:I->I->I}(h:DO W A tb L q sv st tk V)(c:A≠tb)(j:O (U W)<=tb)(x r v:I)(hx:x<L)(d:r<16):DO W A tb L q sv st (λy i=>if y=x/\i=r then v else tk y i)<|V.drew.setCell ⟨tb,x*16+r,Ao⟩<|C .u16 v:=by obtain⟨g,e,f⟩:=h.a;exact⟨Ca (Gz V.drew _ _ _ BO) h.aq,⟨_,DX V.drew tb (x*16+r) _ _ (C .u16 v) e,f.set x r v hx d⟩,h.os,h.tape,h.output,by grind [kU],λk a b=>Ca (Gz V.drew _ _ _ B7)<|h.block k a b⟩
def YW{q:D0}:(It q st tv sv)[2]?=H (.map<|H q.f):=B6
def kV{q:D0}:(It q st tv sv)[19]?=H tv:=B6
def Tryz.infoPlc:(prog.info? 183).map (λi=>(i.zero,i.size,i.bytes))=H (H<|.agg<|CD E8,16,32):=B6
def q8y(h:n<=128)(w:X):(Instr.makeSlice 184 (C Y<|wrap64<|2+(n:J))<|C Y<|wrap64<|2+(n:J)).run As w=.ok (G (Aa<|O<|U w) (2+n)<|2+n) (Az w<|M (madeCells (CD E8)<|(2+n)*16) 183):=by obtain⟨i,f,c,a,d⟩:=DL Tryz.infoPlc;have e:((2+n:I):J).toNat=2+n:=OD _;have b:=run_makeSlice (P:=As) (w:=w) 184 183 i (.agg<|CD E8) underlying184 f c Y Y ((2+n:I):J) ((2+n:I):J) E (OH _) (by rw[e,a];omega) (by rw[d];omega) E;rw[e,a]at b;rw[kQ h];exact b
theorem q4A{L:I}:Sw (madeCells (CD E8)<|L*16) L λ_ _=>0:=by refine⟨nk _ _,λx r b a=>?_⟩;grind [E8,CD,MY,madeCells]
theorem qtb{L:I}{q:D0}(b:A7 W A (It q (λ_=>0) (G Ao 0 0) sv) 187):DO W A (O<|U W) L q sv (λ_=>0) (λ_ _=>0)<|(Az W<|M (madeCells (CD E8)<|L*16) 183).setCell ⟨A,19,Ao⟩<|G (Aa<|O<|U W) L L:=by have e:=Cd b;have a:=DX (Az W<|M (madeCells (CD E8)<|L*16) 183) A 19 _ _ (G (Aa<|O<|U W) L L)<|Ca (CB W _ A e) b;rw[qxt]at a;refine⟨a,⟨_,Ca (Gz _ _ _ _ B7)<|Cj W,q4A⟩,Z,Z,Z,?_,λk c d=>Ca (Gz _ _ _ _ keo)<|CB W _ k c⟩;grind [World.setCell,World.size_alloc]
def YX{q:D0}:(It q st tv sv)[0]?=H (G q.h (K q.a) q.e):=B6
def DO.a2{L:I}{q:D0}{tk:I->I->I}(h:DO W A tb L q sv st tk V)(a:A0 W0 W)(c:O (U W0)<=A):A0 W0 V :=
 ⟨Ca h.os a.os,Ca h.tape a.tape,Ca h.output a.output,CE a.size h.size,λi b=>Ca (h.block i (CQ b a.size) E)<|Co a i b⟩
def DO.ac{L:I}{q:D0}{tk:I->I->I}(h:DO W A tb L q sv st tk V)(b:I3 W lm ks)(d:A≠lm):I3 V lm ks :=
 b.kept (row:=H A) ⟨h.os,h.tape,h.output,h.size,λi a c=>h.block i a BO⟩ (by simpa using d.symm)
def DO.c2{L:I}{q:D0}{tk:I->I->I}(h:DO W A tb L q sv st tk V):A6 V A 2<|.map<|H q.f:=Ca (Iy V A 2 _ _ _ h.aq)<|YW
def DO.a3{L:I}{q:D0}{tk:I->I->I}(h:DO W A tb L q sv st tk V):A6 V A 19<|G (Aa tb) L L:=Ca (Iy V A 19 _ _ _ h.aq)<|kV
def DO.cs{L:I}{q:D0}{tk:I->I->I}(h:DO W A tb L q sv st tk V)(r:I)(a:r<16):A6 V A (3+r) (C .u16<|st r)/\V.frozen? ⟨A,3+r,Ao⟩=AQ :=
 ⟨Ca (Iy V A (3+r) _ _ _ h.aq)<|q2U a,Dy V A (3+r) _ _ h.aq⟩
def DO.ct{L:I}{q:D0}{tk:I->I->I}(h:DO W A tb L q sv st tk V)(x r:I)(hx:x<L)(c:r<16):A6 V tb (x*16+r) (C .u16<|tk x r)/\V.frozen? ⟨tb,x*16+r,Ao⟩=AQ:=by obtain⟨d,a,b⟩:=h.a;exact⟨Ca (Iy V tb (x*16+r) _ _ _ a)<|b.a0 x r hx c,Dy V tb (x*16+r) _ _ a⟩
theorem qy9(st:I->I)(k j:I):(λi=>if i=k then st k|||2^j else st i)=GN st k j AP:=by grind [GN]
theorem UU(st:I->I):GN st k j AQ=st:=by grind [GN]
theorem DO.alike{L:I}{q:D0}{tk tk':I->I->I}(h:DO W A tb L q sv st tk V)(e:∀x r,x<L->tk' x r=tk x r):DO W A tb L q sv st tk' V:=by obtain⟨a,b,c,d⟩:=h.a;exact⟨h.aq,⟨a,b,c,λx r g f=>B9⟩,h.os,h.tape,h.output,h.size,h.block⟩
def LB(tk:AH->AH->AH)(x k j:AH):AH->AH->AH:=λy i=>if y=x/\i=k then tk x k|||2^j else tk y i
theorem DO.a0{L:I}{q:D0}{tk:I->I->I}(h:DO W A tb L q sv st tk V)(b:A≠tb)(c:O (U W)<=tb)(x k j:I)(hx:x<L)(a:k<16):DO W A tb L q sv st (LB tk x k j)<|V.drew.setCell ⟨tb,x*16+k,Ao⟩<|C .u16 ((tk x k|||2^j:I):J):=h.took b c x k (tk x k|||2^j) hx a
def Nj(tk:AH->AH->AH)(m k j:AH):AH->AH->AH:=λy=>if y<m then GN (tk y) k j AP else tk y
theorem qz3(tk:I->I->I)(k j:I):Nj tk 0 k j=tk:=by grind [Nj]
theorem q0X(tk:I->I->I)(m k j:I):LB (Nj tk m k j) m k j=Nj tk (m+1) k j:=by funext y i;unfold LB Nj;grind [GN]
theorem kX(tk:I->I->I)(x:I){y:I}:LB tk x k j y=GN (tk y) k j (y==x):=by grind [LB,GN]
def q26{L:I}{q:D0}{tk:I->I->I}(h:DO W A tb L q sv st tk V)(b:A≠tb)(a:k<16)(c:w2=V.drew.setCell ⟨A,3+k,Ao⟩ (C .u16 ((st k|||2^j:I):J))):DO W A tb L q sv (GN st k j AP) tk w2:=by rw[c,<-qy9];exact h.ai b k (st k|||2^j) a
def YY{L:I}{q:D0}{tk:I->I->I}(h:DO W A tb L q sv st tk V)(b:A≠tb)(d:O (U W)<=tb){o:I}(hx:x<L)(a:k<16)(c:o=x*16)(e:w2=V.drew.setCell ⟨tb,o+k,Ao⟩ (C .u16 ((tk x k|||2^j:I):J))):DO W A tb L q sv st (LB tk x k j) w2:=by rw[e,c];exact h.a0 b d x k j hx a
def q6L(W:Ap)(A:AH)(q:D0)(sv:Aq)(ks:AJ A1)(e:Ending)(W':Ap):Prop :=
 e=Ak (Af #[])/\∃tb st tk,Au (Av W)<=tb/\DO W A tb (2+At ks) q sv st tk W'/\LA q.a ks st tk
theorem qj0{q:D0}(a3:A0 W0 W)(g:A7 W A (It q (λ_=>0) (G Ao 0 0) sv) 187)(an:O (U W0)<=A)(hn:K q.a<=16)(h8:∀i (h:i<K q.a),q.a[i].1.length<=8)(a6:∀i (h:i<K q.a) j (r:j<q.a[i].1.length),q.a[i].1[j].1<=3/\q.a[i].1[j].2.length<=1000000000)(hr:J7 W0 q.h q.a)(hm:I3 W q.f ks)(aq:K ks<=128)(a5:∀i (h:i<K q.a) j (r:j<q.a[i].1.length),q.a[i].1[j].1=3->q.a[i].1[j].2∈ks)(bl:A≠q.f):Ar As 96 #[A8 A] W<|q6L W A q sv ks:=by
 have c2:=(Iy W A 2 _ _ _ g).trans<|YW;have b6:=hm.len underlying178;have ai:=T g;have b0:=Dy W A 19 _ _ g;have c19:=(Iy W A 19 _ _ _ g).trans<|kV;have HR:=T hr;have ak:=T a3;have HM:=T hm;have bb:=T a6;have ba:=T a5;have H8:=T h8;have be:=T<|q8y aq;have bc:=T aq;clear g hr a3 hm a6 a5 h8 aq;go_enter func96,ntmps96;have b7:=AE be;have lA:=Cd ai;have bu:D<|(Az W<|Aj (madeCells (CD E8)<|(2+K ks)*16) 183).setCell ⟨A,19,Ao⟩ (G (Aa<|O<|U W) (2+K ks)<|2+K ks)=(AB W ⟨A,19,Ao⟩<|G (Aa<|O<|U W) (2+K ks)<|2+K ks).alloc (Aj (madeCells (CD E8)<|(2+K ks)*16) 183):=by show _=_;go_simp
 have bv:D<|DO W A (O<|U W) (2+K ks) q sv (λ_=>0) (λ_ _=>0)<|(AB W ⟨A,19,Ao⟩<|G (Aa<|O<|U W) (2+K ks)<|2+K ks).alloc<|Aj (madeCells (CD E8)<|(2+K ks)*16) 183:=by have h:=qtb (L:=2+K ks) ai;grind [D]
 have c0:=(Iy _ A 0 _ _ _ ai).trans<|YX;obtain⟨ra,bf⟩:=CC q.h;rw[AE bf]at c0;have a0:D<|J7 W0 ra q.a:=by grind [D]
 go_wp2;obtain⟨L,HL⟩:∃L,D<|L=2+K ks:=⟨_,rfl⟩
 obtain⟨a,aa⟩:∃a,D<|O (U W)<=a/\a=O (U W):=⟨_,Cr _,rfl⟩
 have ad:A≠a:=by grind [D]
 have bd:D<|DO W A a L q sv (λ_=>0) (λ_ _=>0)<|(AB W ⟨A,19,Ao⟩<|G (Aa<|O<|U W) (2+K ks)<|2+K ks).alloc<|Aj (madeCells (CD E8)<|(2+K ks)*16) 183:=by grind [D]
 generalize(AB W ⟨A,19,Ao⟩<|G (Aa<|O<|U W) (2+K ks)<|2+K ks).alloc (Aj (madeCells (CD E8)<|(2+K ks)*16) 183)=V00 at *
 go_loopg[22] (K q.a) (λam z wr=>∃(k:I) (st:I->I) (tk:I->I->I),z=C Y k/\D (k+am=K q.a)/\D (DO W A a L q sv st tk wr)/\D (IW q.a ks k 0 st tk))
 exact⟨0,_,_,Z,Bg,bd,qxX⟩;obtain⟨k,st,tk,rfl,hg,HN,HK⟩:=hrel;obtain _|am:=gk
 .have bq:¬(k:J)<(K q.a:J):=AY<|AE hg;go_wp2;go_end0;refine⟨Z,a,st,tk,aa.1,?_,HK.done<|AY<|AE hg⟩;grind [D]
 have N:k<K q.a:=AY<|AE hg;have bq:(k:J)<(K q.a:J):=E;obtain⟨bk,off,pa,pc,rfl,hb,e0,e1,e2,b9⟩:=(a0.ac<|HN.a2 ak an).a0 k N;have a1:D<|Pg W0 pa q.a[k].1:=by obtain⟨b',cb,cd,ce,ao,bm,f0,f1,f2,b8⟩:=a0.a0 k N;injection ao with ao;injection ao with hab1 hab2;subst hab1;subst hab2;have e3:=((HN.a2 ak an).cell (p:=⟨bk,off+k*3,Ao⟩) bm).trans f0;grind [D]
 have bn:=H8.out k N;have d:k<16:=E;have av:D (∀j (r:j<q.a[k].1.length),(q.a[k].1[j].1<=3/\q.a[k].1[j].2.length<=1000000000)/\(q.a[k].1[j].1=3->q.a[k].1[j].2∈ks)):=λj r=>⟨bb k N j r,ba k N j r⟩
 have az:=T<|D7 N;have bw:D<|DO W A a L q sv st tk<|Az wr<|Aj #[G pa q.a[k].1.length pc,C Y q.a[k].2.1,C Y q.a[k].2.2] 249:=HN.next Cm
 go_wp2;generalize Az wr (Aj #[G pa q.a[k].1.length pc,C Y q.a[k].2.1,C Y q.a[k].2.2] 249)=V0 at *;generalize q.a[k]=R at *;obtain⟨Q,lb,ac⟩:=R;dsimp only at a1 bn av
 go_loopg[30] (K Q) (λF z al=>∃(j:I) (st:I->I) (tk:I->I->I),z=C Y j/\D (j+F=K Q)/\D (DO W A a L q sv st tk al)/\D (IW q.a ks k j st tk))
 grind [D];obtain⟨j,st,tk,rfl,a4,B,ah⟩:=hrel;obtain _|F:=gk
 .have br:¬(j:J)<(K Q:J):=AY<|AE a4;go_wp2;go_roundg am;exact⟨k+1,st,tk,Bb,B9,B,ah.rule az B9⟩;omega
 have ap:j<K Q:=AY<|AE a4;have br:(j:J)<(K Q:J):=E;obtain⟨b2,cc,rfl,b5,s0,s1⟩:=(a1.ac<|B.a2 ak an).a0 j ap;obtain⟨⟨bo,bp⟩,bt⟩:=av.out j ap;have bg:=T<|D7 ap;have aw:=T bp;have ay:=T bt;have au:=T bo;have af:j<16:=E;generalize Q[j]=sg at *;have l:D<|DO W A a L q sv st tk<|Az wr<|Aj #[C Y sg.1,Ae ⟨Aw sg.2⟩] 254:=B.next Cm
 have ax:=ah.lt H8;have bh:=T ax.1;have aj:=T ax.2;have v:=T<|ah.place az bg;have bi:D<|a<O (U wr):=by obtain⟨bz,h1,_⟩:=B.a;exact Cd h1
 obtain⟨P,key⟩:=sg;have ag:D<|(Az wr<|Aj #[C Y P,Ae ⟨Aw key⟩] 254).heap[O<|U wr]?=H (Aj #[C Y P,Ae ⟨Aw key⟩] 254):=Cj _;dsimp only at aw ay au;have ab:=B.a3;have b1:=Cd B.aq;have b3:(1:J)<(L:J):=AY<|AE HL;have b4:L<=130:=B3 (AE HL)<|AE bc;rcases(by have:=AE au;omega:P=0\/P=1\/P=2\/P=3)with rfl|rfl|rfl|rfl
 .have w:D<|IW q.a ks k (j+1) st λx=>GN (tk x) k j AP:=by have h:=AE v;have e:GN st k j (((0,key):I×A1).1==1)=st:=UU st;rw[e]at h;exact h
  go_wp2;generalize Az wr (Aj #[C Y ((0:I):J),Ae ⟨Aw key⟩] 254)=V1 at *
  go_loopg[44] L (λg3 z al=>∃m:I,z=C Y m/\D (m+g3=L)/\D (DO W A a L q sv st (Nj tk m k j) al))
  exact⟨0,Z,Bg,by rw[qz3];exact l⟩;obtain⟨m,rfl,ae,V⟩:=hrel;obtain _|g3:=gk
  .have bs:¬(m:J)<(L:J):=AY<|AE ae;have s:=T (V.alike λx cg hx=>by unfold Nj;rw[Cp<|AY<|AE ae]);go_wp2;go_roundg F;exact⟨j+1,st,_,Bb,B9,s,w⟩;omega
  have a8:m<L:=AY<|AE ae;have bs:(m:J)<(L:J):=E;have ab:=V.a3;obtain⟨ct,o⟩:=V.ct m k a8 d;have a7:Nj tk m k j m k<65536:=by unfold Nj;rw[Cl E];have:=aj.out m k;omega
  have n:=Se d af a7 ct o;clear ct o a7
  go_wp2_with(first
   |(go_at_call 140;refine n.mono ?_;clear n;rintro e y ⟨rfl,f⟩;have s:=T<|YY V ad aa.1 a8 d Z f;clear f ab))
  go_roundg g3;exact⟨m+1,Bb,AZ<|AE ae,by rw[<-q0X];exact s⟩;omega
 .have w:D<|IW q.a ks k (j+1) (GN st k j AP) tk:=by
   have h:=AE v;have e:(λx=>GN (tk x) k j<|Ni ks (1,key) x)=tk:=by funext x;exact UU<|tk x
   rw[e]at h;exact h
  obtain⟨ct,o⟩:=l.cs k d;have n:=Se d af (AY<|bh.out k) ct o;clear v ct o
  go_wp2_with(first
   |(go_at_call 140;refine n.mono ?_;clear n;rintro e y ⟨rfl,f⟩;have s:=T<|q26 l ad d f;clear f ab l))
  go_roundg F;exact⟨j+1,_,tk,Bb,B9,s,w⟩;omega
 .have w:D<|IW q.a ks k (j+1) st<|LB tk 1 k j:=by
   have h:=AE v;have e:(λx=>GN (tk x) k j<|Ni ks (2,key) x)=LB tk 1 k j:=by funext x;exact(kX tk 1).symm
   have e2:GN st k j (((2,key):I×A1).1==1)=st:=UU st;rw[e,e2]at h;exact h
  obtain⟨ct,o⟩:=l.ct 1 k E d;have n:=Se d af (AY<|aj.out 1 k) ct o;clear v ct o
  go_wp2_with(first
   |(go_at_call 140;refine n.mono ?_;clear n;rintro e y ⟨rfl,f⟩;have s:D<|DO W A a L q sv st (LB tk 1 k j) y:=YY l ad aa.1 E d Z f;clear f ab l))
  go_roundg F;exact⟨j+1,st,_,Bb,B9,s,w⟩;omega
 obtain⟨x,HX⟩:∃x,D<|x=(FL ks<|.string key).getD 0:=⟨_,rfl⟩
 have bj:D<|x<L:=by have h:=ay.out Z;show x<L;rw[AE HX,Of h,AE HL];have:=VE.2 h;show 2+ks.idxOf key<_;omega
 have w:D<|IW q.a ks k (j+1) st<|LB tk x k j:=by
  have h:=AE v;have e:(λar=>GN (tk ar) k j<|Ni ks (3,key) ar)=LB tk x k j:=by funext ar;rw[kX,AE HX];rfl
  have e2:GN st k j (((3,key):I×A1).1==1)=st:=UU st;rw[e,e2]at h;exact h
 have hxL:=AE bj;have ca:(x:J)<(L:J):=E;clear v;go_wp2;generalize Az wr (Aj #[C Y ((3:I):J),Ae ⟨Aw key⟩] 254)=V1 at *;generalize O (U wr)=M at *;refine Dl (S:=λt=>(∃tk,DO W A a L q sv st tk t)/\A7 t M #[C Y ((3:I):J),Ae ⟨Aw key⟩] 254) (⟨⟨tk,l.next (Cu _ _).drew⟩,ag⟩) B6 λc=>Cb 0 77 (A8 A) c <| Cb 1 78 (A8 A) c <| Cb 2 79 (A9 A 19) c <| Ch 3 80 (G (Aa a) L L) rfl (λt u=>by obtain⟨a9,b⟩:=u.1;have z1:=b.a3;go_simp) c <| Cb 4 81 (A8 A) c <| Cb 5 82 (A8 A) c <| Cb 6 83 (A9 A 2) c <| Ch 7 84 (.map<|H q.f) rfl (λt u=>by obtain⟨a9,b⟩:=u.1;have z1:=b.c2;go_simp) c <| Cb 8 85 (A9 M 1) c <| Ch 9 86 (Ae ⟨Aw key⟩) rfl (λt u=>by have z1:=Cc u.2 1;go_simp) c <| Ch 10 87 (C Y x) rfl (λt u=>by obtain⟨a9,b⟩:=u.1;have z3:=Si (b.ac HM bl).im Nc underlying178<|NM aw;rw[<-AE HX]at z3;go_simp) c <| Ch 11 88 (A9 a<|x*16) rfl (λt u=>Bh) c <| Cb 12 89 (C Y k) c <| Cb 13 90 (C Y j) c ?_;obtain⟨ct,o⟩:=(l.next (Cu _ _).drew).ct x k hxL d;have n:=Se d af (AY<|aj.out x k) ct o;clear ct o;refine CH 14 λbx hK=>?_;go_simp;refine n.mono ?_;clear n;rintro e y ⟨rfl,f⟩;have s:=T<|YY (l.next (Cu _ _).drew) ad aa.1 hxL d rfl f;have a2:(λt:X=>(∃tk,DO W A a L q sv st tk t)/\A7 t M #[C Y ((3:I):J),Ae ⟨Aw key⟩] 254) y:=⟨⟨_,s⟩,by rw[f];exact(Gz _ _ _ _<|B0<|AE bi).trans ag⟩
 clear f l ag;refine hK.out _ _ a2 λ_=>?_;clear hK c a2;refine CK ?_;go_simp;go_wp2;go_roundg F;exact⟨j+1,st,_,Bb,B9,s,w⟩;omega
def Dz(dflt:AI):AJ (AJ (AH×A1)×AI×AI)->AJ (A1×AK)->AI×AI
 |[],_=>(dflt,1)
 |x::rs,p=>if O8 x.1 p then x.2 else Dz dflt rs p
def Oi(rs:AJ<|AJ (AH×A1)×AI×AI)(p:AJ<|A1×AK)(Y:AH->AH):Prop:=∀r (h:r<At rs),∀k,(Y r).testBit k=Md rs[r].1 p k
def YZ{st:I}{P:I->AK}(a:∀k,st.testBit k=Ir ss k)(hx:∀k,x.testBit k=P k):∀k,KR st x k=MX ss P k
 |0=>hx 0
 |k+1=>by rw[KR,MX,hx,a,YZ a hx k]
theorem q3T{st tk:I}{t:A1×AK}{P:I->AK}(a:∀k,st.testBit k=Ir ss k)(b:∀k,tk.testBit k=Pf ss t k)(hx:∀k,x.testBit k=P k)(k:I):(N2 st tk x).testBit k=QA ss t P k:=by unfold N2;rw[Nat.testBit_or,Nat.testBit_and,Nat.testBit_shiftLeft,Nat.testBit_and,hx,a];cases k<;>grind [QA]
theorem kY(h:r<K rs)(k:I):gB rs r k (λs=>s.1==1)=Ir rs[r].1 k:=by grind [gB,Ir]
theorem q4r{a b:A1}(d:a∈ks)(hb:b∈ks)(e:ks.idxOf a=ks.idxOf b):a=b:=by have c:=VE.2 d;have g:=VE.2 hb;have f:=List.getElem_idxOf c;grind
theorem q4d{s:I×A1}(h:s.1=3->s.2∈ks)(d:s.1<=3)(key:A1)(a:AK):Ni ks s (Jr (FL ks) key a)=Iq s (key,a):=by
 unfold Ni Iq;split
 .rfl
 split
 .rfl
 split
 .cases a
  .show(((FL ks<|.string key).getD 0)==1)=AQ;by_cases b:key∈ks<;>grind [Of,QJ]
  rfl
 have c:=h E;rw[Of c];cases a
 .show(((FL ks<|.string key).getD 0)==2+ks.idxOf s.2)=(!AQ&&key==s.2)
  by_cases b:key∈ks<;>grind [Of,q4r,QJ]
 show((1:I)==2+ks.idxOf s.2)=AQ;simp;omega
theorem kZ:Jr (FL ks) key ix<2+K ks:=by grind [Jr,Of,QJ]
theorem q5o(h:r<K rs)(b:∀s∈rs[r].1,s.1<=3/\(s.1=3->s.2∈ks))(key:A1)(a:AK):gB rs r k (λs=>Ni ks s<|Jr (FL ks) key a)=Pf rs[r].1 (key,a) k:=by grind [gB,Pf,q4d]
theorem l5{tk:I->I->I}(b:LA rs ks st tk){Y:I->I}(a:Pi (K rs) st (one<|K rs) Y):Oi rs [] Y:=by
 intro r h k;rw[a.1 r h k];have c:=λk=>Ca (b.s r k)<|kY h k;have d:∀k,(one (K rs) r).testBit k=(k==0):=by intro k;unfold one;rw[Cp h];cases k<;>grind
 rw[YZ c d k];rfl
def l6{tk:I->I->I}(a:LA rs ks st tk)(c:∀r (h:r<K rs),∀s∈rs[r].1,s.1<=3/\(s.1=3->s.2∈ks)){P Y:I->I}(d:Oi rs p P)(e:Pi (K rs) st (I0 st (tk<|Jr (FL ks) key ix) P<|K rs) Y):Oi rs ((key,ix)::p) Y:=by
 intro r h k;rw[e.1 r h k];have b:=λk=>Ca (a.s r k)<|kY h k;have f:=λk=>Ca (a.t _ r k)<|q5o h (c r h) key ix;have g:∀k,(I0 st (tk<|Jr (FL ks) key ix) P (K rs) r).testBit k=QA rs[r].1 (key,ix) (Md rs[r].1 p) k:=by intro k;unfold I0;rw[Cp h];exact q3T b f (d r h) k
 rw[YZ b g k];rfl
def UV{X Y:I->I}(h:Oi rs p Y)(c:K rs<=16)(a:∀r,r<16->X r=Y r):Oi rs p X:=by intro r b k;rw[a r E];exact h r b k
def l7(a:I->I):∀(rs:AJ<|AJ (I×A1)×J×J) (o:I),(∀r (h:r<K rs),∀k,(a<|o+r).testBit k=Md rs[r].1 p.reverse k)->EI dflt rs a o=Dz dflt rs p
 |[],_,_=>rfl
 |x::rs,o,h=>by have b:=h 0 Ba<|K x.1;rw[EI,Dz];have e:(a o).testBit (K x.1)=O8 x.1 p:=Ca b<|xC;rw[e,l7 a rs (o+1) λr c k=>by have:=h (r+1) BO k;rw[show o+1+r=o+(r+1) by omega,this];rfl]
def l8{Y:I->I}(h:Oi rs p.reverse Y)(dflt:J):EI dflt rs Y 0=Dz dflt rs p :=
 l7 Y rs 0 (λr a k=>by rw[Gf];exact h r a k)
theorem qzx{s:I×A1}{b:A1}(h:b∈ks):b∈He ks s:=by grind [He]
def Z0{b:A1}:∀(ss:AJ<|I×A1) (ks:AJ A1),b∈ks->b∈ss.foldl He ks
 |[],_,h=>h
 |_::ss,_,h=>Z0 ss _<|qzx h
def l9:∀(ss:AJ<|I×A1) (ks:AJ A1) (s:I×A1),s∈ss->s.1=3->s.2∈ss.foldl He ks
 |x::ss,ks,s,b,h3=>by
  rcases Iz.1 b with rfl|b
  .refine Z0 ss _ ?_;unfold He;by_cases a:s.2∈ks
   .rw[Cl λh=>h.2 a];exact a
   rw[Cp ⟨h3,a⟩];simp
  exact l9 ss _ s b h3
def lc{b:A1}:∀(rs:AJ<|AJ (I×A1)×J×J) (ks:AJ A1),b∈ks->b∈rs.foldl Og ks
 |[],_,h=>h
 |r::rs,_,h=>lc rs _<|Z0 r.1 _ h
def ld:∀(rs:AJ<|AJ (I×A1)×J×J) (ks:AJ A1) (r:AJ (I×A1)×J×J),r∈rs->∀s∈r.1,s.1=3->s.2∈rs.foldl Og ks
 |x::rs,ks,r,a,s,hs,h3=>by
  rcases Iz.1 a with rfl|a
  .exact lc rs _<|l9 r.1 ks s hs h3
  exact ld rs _ r a s hs h3
theorem Z1(h:i<K rs)(a:j<rs[i].1.length)(b:rs[i].1[j].1=3):rs[i].1[j].2∈FX rs :=
 ld rs [] rs[i] (PQ h) _ (PQ a) b
theorem lg:∀(rs:AJ<|AJ (I×A1)×J×J) (ks:AJ A1),(∀r∈rs,K r.1<=8)->K (rs.foldl Og ks)<=K ks+8*K rs
 |[],_,_=>Ba
 |r::rs,ks,h=>by have b:=lg rs (Og ks r) λx a=>h x<|LL _ a;have c:K (Og ks r)<=K ks+K r.1:=kP r.1 ks;have d:=h r Ba;rw[W5,FN];omega
theorem Z2(b:K rs<=16)(a:∀i (h:i<K rs),rs[i].1.length<=8):K (FX rs)<=128:=by grind [lg,List.getElem_of_mem,FX]
structure Z3(W:Ap)(rs:AJ (AJ (AH×A1)×AI×AI))(dflt:AI)(A:AH)(q:D0)(sts:AJ ((AH->AH)×AI×AI))(sa:A4)(sc:AH)(nf:Lit->Option AH)(mf:Lit->Option AH)(W':Ap):Prop where
 a:Dv W A q sts (Ac sa (At sts) sc) nf 0 mf W'
 b:q.a=rs
 k:q.c=dflt
 e:q.i=FL (FX rs)
 n:q.L=2+At (FX rs)
 o:LA rs (FX rs) q.st q.j
 d:KV q sts mf
 m:At sts<=1
 first:∃t Y,sts[0]?=An t/\Pi (At rs) q.st (one (At rs)) Y/\∀r,r<16->t.1 r=Y r
def lh(W:Ap)(ra:A4)(rs:AJ<|AJ (AH×A1)×AI×AI)(dflt:AI)(e:Ending)(W':Ap):Prop :=
 ∃A q sts sa sc nf mf,e=Ak (A8 A)/\q.h=ra/\Z3 W rs dflt A q sts sa sc nf mf W'
def Pt(W:Ap):Ap:=Az (Az (Az W<|.map #[] 0)<|.map #[] 0)<|.map #[] 0
theorem lj(W:X):O (U<|Pt W)=O (U W)+3:=by simp[Pt]
def q95(a:AN)(e:O (U W)<=b)(f:b<O (U W)+3):Ed (Pt W) a b 0 λ_=>Ao:=by
 have c:O (U<|Az W<|.map #[] 0)=O (U W)+1:=Ba;have d:O (U<|Az (Az W<|.map #[] 0)<|.map #[] 0)=O (U W)+2:=Ba;rcases(by omega:b=O (U W)\/b=O (U W)+1\/b=O (U W)+2)with rfl|rfl|rfl
 .exact((Yq W a).kept (L7 _ _ Ao) Ba).kept (L7 _ _ Ao) Ba
 .have h:=(Yq (Az W<|.map #[] 0) a).kept (L7 _ (.map #[] 0) Ao) Ba;rw[c]at h;exact h
 have h:=Yq (Az (Az W<|.map #[] 0)<|.map #[] 0) a;rw[d]at h;exact h
def q8l(d:O (U W)<=b)(e:b<O (U W)+3):I3 (Pt W) b []:=by
 have a:O (U<|Az W<|.map #[] 0)=O (U W)+1:=Ba;have c:O (U<|Az (Az W<|.map #[] 0)<|.map #[] 0)=O (U W)+2:=Ba;rcases(by omega:b=O (U W)\/b=O (U W)+1\/b=O (U W)+2)with rfl|rfl|rfl
 .exact((YV W).kept (L7 _ _ Ao) Ba).kept (L7 _ _ Ao) Ba
 .have h:=(YV<|Az W<|.map #[] 0).kept (L7 _ (.map #[] 0) Ao) Ba;rw[a]at h;exact h
 have h:=YV<|Az (Az W<|.map #[] 0)<|.map #[] 0;rw[c]at h;exact h
def q0(ra:A4)(rc:AH)(rs:AJ<|AJ (AH×A1)×AI×AI)(dflt:AI)(lm nb mb:AH):D0 :=
 {h:=ra,e:=rc,a:=rs,c:=dflt,f:=lm,ln:=0,i:=λ_=>Ao,st:=λ_=>0,g:=0,L:=0,tc:=0,j:=λ_ _=>0,d:=nb,b:=mb}
def q1(ra:A4)(rc:AH)(rs:AJ<|AJ (AH×A1)×AI×AI)(dflt:AI)(lm nb mb:AH)(st:AH->AH)(tb:AH)(tk:AH->AH->AH):D0 :=
 {h:=ra,e:=rc,a:=rs,c:=dflt,f:=lm,ln:=At<|FX rs,i:=FL<|FX rs,st:=st,g:=tb,L:=2+At (FX rs),tc:=2+At (FX rs),j:=tk,d:=nb,b:=mb}
def LA.lt{tk:I->I->I}(h:LA rs ks st tk)(b:∀i (h:i<K rs),rs[i].1.length<=8):(∀r,st r<256)/\∀x r,tk x r<256 :=
 ⟨λr=>US λp a=>by rw[h.s,UT b a],λx r=>US λp a=>by rw[h.t,UT b a]⟩
theorem q2I{V0 V1 V2 V3:X}{nb mb:I}{tk:I->I->I}(N:J7 W ra rs)(L:K rs<=16)(o:∀i (h:i<K rs),rs[i].1.length<=8)(hA:A=O (U W)+3)(n:O (U W)<=lm/\lm<O (U W)+3)(d:O (U W)<=nb/\nb<O (U W)+3)(e:O (U W)<=mb/\mb<O (U W)+3)(k:lm≠nb)(m:lm≠mb)(v:nb≠mb)(p:V0=(Pt W).alloc (M (It (q0 ra rc rs dflt lm nb mb) (λ_=>0) (G Ao 0 0)<|G Ao 0 0) 187))(c:Mg V0 lm (FX rs) V1)(ac:O (U V1)<=tb)(y:DO V1 A tb (2+K (FX rs)) (q0 ra rc rs dflt lm nb mb) (G Ao 0 0) st tk V2)(x:LA rs (FX rs) st tk)(w:A0 V2 V3):Dv W A (q1 ra rc rs dflt lm nb mb st tb tk) [] (G Ao 0 0) (λ_=>Ao) 0 (λ_=>Ao) V3:=by
 have aa:O (U V0)=O (U W)+4:=by rw[p,CL,lj]
 have ab:=c.ai.size;have a:=y.next w
 have r:A0 W V0:=by rw[p];exact(((Cm).alloc Ba _).alloc B7 _).alloc B7 _
 have s:=c.ai.a2 r n.1;have t:=a.a2 s E;have B:(Pt W).grownBy V0 Ao:=by grind [World.grownBy_alloc]
 have F:V0.grownBy V1<|H lm:=⟨c.ai.os,c.ai.tape,c.ai.output,c.ai.size,λi f j=>c.ai.block i f kf6⟩
 have q:V1.grownBy V3<|H A:=⟨a.os,a.tape,a.output,a.size,λi f j=>a.block i f kf6⟩
 have key:=λS b P Q R =>
  (((q95 S (b:=b) P Q).kept B Ba).kept F kf7).kept q B7
 obtain⟨u,V,g⟩:=a.a;refine⟨?_,N,⟨L,o⟩,t,?_,⟨u,V,g.a0⟩,Fi _ _ _ _,key _ nb d.1 d.2 k.symm,key _ mb e.1 e.2 m.symm,?_,?_,?_,x.lt o,?_,?_,λad i h=>Bs⟩
 .rw[qzu];exact a.aq
 .exact(c.ac.kept q B7).im
 .exact⟨E,n.1,show O (U W)<=tb by omega,d.1,e.1⟩
 .refine⟨show A≠lm by omega,show A≠tb by omega,show A≠nb by omega,show A≠mb by omega,show lm≠tb by omega,k,m,show tb≠nb by omega,show tb≠mb by omega,v⟩
 .intro l z;cases z
 .grind
 grind
def q6S{L:I}{q:D0}{tk:I->I->I}(h:DO W A tb L q sv st tk V):O9 V A q.h q.e (K q.a) st :=
 ⟨(Cd h.aq),Ca (Iy V A 0 _ _ _ h.aq)<|YX,λr a=>(h.cs r a).1⟩
def q2M(d:A4)(rc:I)(rs:AJ<|AJ (I×A1)×J×J)(dflt:J)(a c b:I):It (q0 d rc rs dflt a c b) (λ_=>0) (G Ao 0 0) (G Ao 0 0)=#[G d (K rs) rc,C Y dflt,.map<|H a,C .u16 0,C .u16 0,C .u16 0,C .u16 0,C .u16 0,C .u16 0,C .u16 0,C .u16 0,C .u16 0,C .u16 0,C .u16 0,C .u16 0,C .u16 0,C .u16 0,C .u16 0,C .u16 0,G Ao 0 0,G Ao 0 0,.map<|H c,.map<|H b]:=B6
def q8H(V:X):(Instr.makeMap 178 Ao).run As V=.ok (.map<|H<|O<|U V) (Az V<|.map #[] 0):=B6
def q86(V:X):(Instr.makeMap 179 Ao).run As V=.ok (.map<|H<|O<|U V) (Az V<|.map #[] 0):=B6
def q8L(V:X):(Instr.makeMap 180 Ao).run As V=.ok (.map<|H<|O<|U V) (Az V<|.map #[] 0):=B6
theorem lp(rc:I)(dflt:J)(hr:J7 W ra rs)(c:K rs<=16)(k:∀i (h:i<K rs),rs[i].1.length<=8)(af:∀i (h:i<K rs) j (d:j<rs[i].1.length),rs[i].1[j].1<=3/\rs[i].1[j].2.length<=1000000000):Ar As 57 #[G ra (K rs) rc,C Y dflt] W<|lh W ra rs dflt:=by
 have m:=T hr;have b:=T k;have r:=T af;have m1:=q8H;have m2:=q86;have m3:=q8L;have F:D (∃a,a=(Az (Az (Az (Az W<|.map #[] 0)<|.map #[] 0)<|.map #[] 0)<|M #[G ra (K rs) rc,C Y dflt,.map<|H<|O<|U W,C .u16 0,C .u16 0,C .u16 0,C .u16 0,C .u16 0,C .u16 0,C .u16 0,C .u16 0,C .u16 0,C .u16 0,C .u16 0,C .u16 0,C .u16 0,C .u16 0,C .u16 0,C .u16 0,G Ao 0 0,G Ao 0 0,.map<|H<|O (U W)+1,.map<|H<|O (U W)+1+1] 187)/\a=(Pt W).alloc (M (It (q0 ra rc rs dflt (O<|U W) (O (U W)+1)<|O (U W)+1+1) (λ_=>0) (G Ao 0 0)<|G Ao 0 0) 187)):=⟨_,Z,by rw[q2M];rfl⟩
 obtain⟨a,ac,ad⟩:=AE F;have o:=T ad;have s:D<|O (U a)=O (U W)+4:=Bx;have p:D<|A0 W a:=by show Below _ _ _;rw[AE o];exact(((Cm).alloc Ba _).alloc B7 _).alloc B7 _
 have n:D<|A7 a (O (U W)+3) (It (q0 ra rc rs dflt (O<|U W) (O (U W)+1)<|O (U W)+1+1) (λ_=>0) (G Ao 0 0)<|G Ao 0 0) 187:=by grind [Cj,lj]
 have A:D<|I3 a (O<|U W) []:=by show I3 _ _ _;rw[AE o];exact(q8l (Cr _) E).kept (L7 _ _ Ao) Ba
 have R:=qiF p (AY<|AE s) E (Cr _) c b (λi h j d=>(r i h j d).2) (Ca (Iy a _ 0 _ _ _ n)<|YX) (Ca (Iy a _ 2 _ _ _ n)<|YW) m A;go_enter func57,ntmps57
 go_wp2_with(fail)
 rw[<-ac];refine Ce R ?_;rintro e V1 ⟨rfl,g⟩;have z:=T g;have aa:=g.ai.a2 p<|Cr _;have ah:=Ca (g.ai.block (O (U W)+3) (AY<|AE s) E) n;have Q:=qj0 aa ah E c b r m g.ac (Z2 c b) (λi h j d f=>Z1 h d f) (by show O (U W)+1+1+1≠O (U W);omega)
 go_wp2_with(fail)
 refine Ce Q ?_;rintro e V2 ⟨rfl,tb,st,tk,ai,u,t⟩;have y:=T u;have B:=T ai;have q:D<|LA rs (FX rs) st tk:=t;have S:=xV (t.lt b).1 c<|q6S u
 go_wp2_with(fail)
 refine Ce S ?_;rintro e V3 ⟨⟨P,rfl,v⟩,ab⟩;have L:=T v;have ae:=q2I m c b Z ⟨Cr _,E⟩ ⟨E,E⟩ ⟨E,E⟩ E E E o z B y q ab;have V:=YH ae v.2.2 Ba
 go_wp2_with(fail)
 refine Ce V ?_;rintro e N ⟨i,an,sa,sc,nf,rfl,_,_,l,_,ag,x,hx,aj⟩;have w:D<|lh W ra rs dflt (Ak<|A8<|O (U W)+1+1+1) N:=by
  refine⟨_,_,_,_,_,_,_,Z,Z,⟨l,Z,Z,Z,Z,q,?_,by simpa using ag,x,P,?_,L,aj⟩⟩
  .intro ak x am al _ h;cases h
  grind
 go_wp2;go_ret;exact w
theorem Z4:∀(q:AJ A1) (i:I),JU n q i<0->i<=16->(∀x∈q,Dn n x=AP)/\i+K q<=16
 |[],i,_,hi=>⟨λx a=>absurd a Ba,kf4⟩
 |x::q,i,h,_=>by
  unfold JU at h;split at h
  .next hc =>
   obtain⟨b,c⟩:=Z4 q (i+1) h E;grind
  omega
theorem qwJ(h:Fd l=AP):K (EZ l)<=8:=by grind [Fd,EZ]
def qvM{s:A1}(h:s∈EZ l):K s<=K l:=by
 unfold EZ at h;split at h
 .cases h
 exact Pk 47 l s h
def quA(h:Dn n l=AP):(De l).1.length<=8/\∀s∈(De l).1,K s<=K l:=by
 have b:=kJ h;have c:=YT b;have a:Oc n [(Lib.cut l [32]).1,(Lib.cut (Lib.cut l [32]).2.1 [32]).1,(Lib.cut (Lib.cut l [32]).2.1 [32]).2.1]=AP:=by rw[<-b];exact h
 unfold Oc at a;rw[Fj]at a;rw[c];have e:(Lib.cut l [32]).1.length<=K l:=Pk 32 l _ (by rw[b];simp);exact⟨qwJ a.1,λs d=>CE (qvM d) e⟩
theorem Z5(h:Fg n l=0):K (Ea l)<=16/\∀r∈Ea l,K r.1<=8/\∀s∈r.1,K s<=2000:=by
 have a:E5 n l<0:=kfK;unfold E5 at a;unfold Ea;split at a
 .omega
 next hb =>
 split at a
 .grind
 next h0 =>
 rw[Cl h0];obtain⟨c,i⟩:=Z4 (Db 10 l) 0 a E;refine⟨B9,λr d=>?_⟩;obtain⟨x,b,rfl⟩:=Kw.1 d;obtain⟨f,g⟩:=quA<|c x b;refine⟨f,λs e=>?_⟩;have:=g s e;have:=Pk 10 l x b;omega
theorem UW(h:Fg n l=0):K ((Ea l).map DV)<=16/\(∀i (h:i<K ((Ea l).map DV)),((Ea l).map DV)[i].1.length<=8)/\∀i (h:i<K ((Ea l).map DV)) j (h2:j<((Ea l).map DV)[i].1.length),((Ea l).map DV)[i].1[j].1<=3/\((Ea l).map DV)[i].1[j].2.length<=1000000000:=by grind [Z5,DH,DV]
structure Gb(w:Ap)(a:A4)(ps:AJ (A1×AK)):Prop where
 a0:∀i (h:i<At ps),∃b off,a=An ⟨b,off,Ao⟩/\b<Au (Av w)/\AC w ⟨b,off+i*2,Ao⟩=An (Ae ⟨ps[i].1.toArray⟩)/\AC w ⟨b,off+i*2+1,Ao⟩=An (Ah ps[i].2)
def Gb.ac{ps:AJ<|A1×AK}(h:Gb w a ps)(hb:A0 w w'):Gb w' a ps :=
 ⟨λi g=>by obtain⟨b,off,d,c,e,f⟩:=h.a0 i g;exact⟨b,off,d,CQ c hb.size,Ca (hb.cell (p:=⟨b,_,Ao⟩) c) e,Ca (hb.cell (p:=⟨b,_,Ao⟩) c) f⟩⟩
def GO(t:A1×AK):AK := !t.2||t.1.isEmpty
def Ja(ps:AJ<|A1×AK):AK:=AR (At ps<=4096)&&ps.all GO
theorem lu(cap:I){ps:AJ<|A1×AK}(h:Gb w a ps):Ar As 70 #[G a (K ps) cap] w λe s=>e=Ak (Ah<|Ja ps)/\A0 w s:=by
 have p:=T h;clear h;by_cases y:(4096:J)<K ps
 .have d:D<|Ja ps=AQ:=by grind [D,Ja]
  go_enter func70,ntmps70;go_wp2;go_ret;rw[AE d];exact⟨Z,Cu _ _⟩
 have d:D<|Ja ps=ps.all GO:=by grind [D,Ja]
 go_enter func70,ntmps70;go_wp2
 go_loopg[10] (K ps) (λg z V=>∃k:I,z=C Y k/\D (k+g=K ps)/\D (A0 w V)/\D (ps.all GO=(ps.drop k).all GO))
 grind [D,Below.refl];obtain⟨k,rfl,m,c,l⟩:=hrel;obtain _|g:=gk
 .have r:¬(k:J)<(K ps:J):=AY<|AE m;have i:D<|Ja ps=AP:=by grind [D]
  clear d l;go_wp2;go_ret;rw[AE i];exact⟨Z,c⟩
 have q:k<K ps:=AY<|AE m;have r:(k:J)<(K ps:J):=E;obtain⟨b,off,rfl,x,u,v⟩:=(p.ac c).a0 k q;have j:D<|ps.all GO=(GO ps[k]&&(ps.drop<|k+1).all GO):=BT;clear l;generalize ps[k]=t at *;obtain⟨key,n⟩:=t;have f:D<|A0 w<|Az wr<|M #[Ae ⟨Aw key⟩,Ah n] 146:=c.alloc c.size _;cases n
 .go_wp2;go_roundg g;exact⟨k+1,Bb,B9,f,by have h:=AE j;exact h⟩;omega
 cases A:key.isEmpty
 .have i:D<|Ja ps=AQ:=by grind [D,GO]
  clear j d;go_wp2;go_ret;rw[AE i];exact⟨Z,f⟩
 have o:D<|ps.all GO=(ps.drop<|k+1).all GO:=by grind [GO]
 clear j;go_wp2;go_roundg g;exact⟨k+1,Bb,B9,f,o⟩;omega
def LC(c:CF)(ps:AJ<|A1×AK):AI:=if¬CW c=0 then CW c else if Ja ps=AQ then 7 else 0
def Ks(c:CF)(ps:AJ<|A1×AK):AI×AI:=if¬CW c=0 then(0,0)else if Ja ps=AQ then(0,0)else Dz c.c ((Ea c.e.data.toList).map DV) ps
structure LD(W:Ap)(A:AH)(q:D0)(rs:AJ (AJ (AH×A1)×AI×AI))(dflt:AI)(ps:AJ (A1×AK))(i f:AH)(V:Ap):Prop where
 b:q.a=rs
 k:q.c=dflt
 e:q.i=FL (FX rs)
 n:q.L=2+At (FX rs)
 o:LA rs (FX rs) q.st q.j
 j:∃sts sa sc nf mn mf s,Dv W A q sts (Ac sa (At sts) sc) nf mn mf V/\KV q sts mf/\mn<=i/\At sts<=i+1/\sts[f]?=An s/\Oi rs (ps.take i).reverse s.1
def q0V{q:D0}(h:Z3 W rs dflt A q sts sa sc nf mf V)(d:K rs<=16)(ps:AJ<|A1×AK):LD W A q rs dflt ps 0 0 V:=by
 obtain⟨t,e,a,b,c⟩:=h.first
 exact⟨h.b,h.k,h.e,h.n,h.o,sts,sa,sc,nf,0,mf,t,h.a,h.d,Cr _,h.m,a,UV (l5 h.o b) d c⟩
theorem q2V{q:D0}{ps:AJ<|A1×AK}{h:LD W A q rs dflt ps i f V}(d:K rs<=16)(o:∀i (h:i<K rs),rs[i].1.length<=8)(hk:∀i (h:i<K rs) j (c:j<rs[i].1.length),rs[i].1[j].1<=3/\rs[i].1[j].2.length<=1000000000)(hi:i<K ps)(aa:K ps<=4096)(hb:ps[i].1.length<=maxLen):Ar As 71 #[A8 A,C Y f,Ag #[Ae ⟨ps[i].1.toArray⟩,Ah ps[i].2]] V λe b=>∃a,e=Ak (C Y (a:I))/\LD W A q rs dflt ps (i+1) a b:=by
 obtain⟨ac,sa,sc,nf,mn,mf,s,l,c,R,S,m,n⟩:=h.j;have r:=Z2 d o;have p:Jr q.i ps[i].1 ps[i].2<q.L:=by rw[h.e,h.n];exact kZ
 refine Ce (q00 l c E E m hb Z p<|by rw[h.n];omega) ?_;rintro e b ⟨a,P,F,N,B,z,y,rfl,u,v,k3,k4,k5,t,Q,w,g,x⟩;refine⟨a,Z,h.b,h.k,h.e,h.n,h.o,P,F,N,B,z,y,t,u,v,E,E,w,?_⟩;have k:(ps.take<|i+1).reverse=(ps[i].1,ps[i].2)::(ps.take i).reverse:=by rw[Vz hi,SO];rfl
 rw[k];rw[h.e,h.b]at g;refine UV (l6 h.o (λab hr s hs=>?_) n g) d x;grind [List.getElem_of_mem,Z1]
def q8a{q:D0}{ps:AJ<|A1×AK}(h:LD W A q rs dflt ps (K ps) f V):Ar As 72 #[A8 A,C Y f] V λe b=>e=Ak (Af #[C Y (Dz dflt rs ps).1,C Y (Dz dflt rs ps).2])/\A0 W b:=by obtain⟨t,p,r,o,n,m,s,a,j,k,l,c,d⟩:=h.j;have g:=(a.j f s c).1;rw[LM]at d;rw[h.k,h.b,l8 d]at g;refine Ce (jS a c) ?_;rintro e b ⟨rfl,i⟩;rw[g];exact⟨Z,Cs a.ac<|CG i a.ac.size⟩
def LD.a0{q:D0}{ps:AJ<|A1×AK}(h:LD W A q rs dflt ps i f V)(hb:A0 V V'):LD W A q rs dflt ps i f V':=by obtain⟨k,g,j,e,d,c,s,a,b⟩:=h.j;exact⟨h.b,h.k,h.e,h.n,h.o,k,g,j,e,d,c,s,a.next hb,b⟩
def LD.ac{q:D0}{ps:AJ<|A1×AK}(h:LD W A q rs dflt ps i f V):A0 W V:=by obtain⟨k,g,j,e,d,c,s,a,b⟩:=h.j;exact a.ac
end
end Go.Proofs.YtaehkdnabiccnaaGreatDoor


