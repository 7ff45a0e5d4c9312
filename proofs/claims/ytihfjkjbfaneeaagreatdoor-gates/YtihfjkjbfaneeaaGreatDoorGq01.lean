import Derived.Deep.OwnRows
import Derived.Laws.CopyRow
import Derived.Laws.MakeOwn
import Derived.BigCall
import Derived.Maps.AppendAt
import Derived.RangeFuncBox
import Derived.Defers
import Derived.Lib.ValidLaws
import Derived.Lib.AppendStr
import Derived.RangeFuncOwn
import Derived.RangeFuncFrom
import Derived.Below
import Derived.Test.YtihfjkjbfaneeaaGreatDoorGq00
set_option maxRecDepth 100000
set_option maxHeartbeats 8000000
set_option linter.all false
namespace Go.Proofs.YtihfjkjbfaneeaaGreatDoor
open Go.Proofs.Tryz
open _root_ renaming Nat->I,Int->J
open Go.Value renaming int->C,slice->T
open _root_.List renaming length->O
open Go.World renaming heap->U
open _root_.Array renaming size->K
open Go.IntKind renaming i64->Y
open Go.RowKit renaming Hid->D
open Go renaming World->X
open Option renaming some->H
open Go.Obj renaming cells->M
open Go.Value renaming int->Ab,slice->Ac,string->Ae,tuple->Af,agg->Ag,bool->Ah,ownBlock->Ax
open Go.Ending renaming returned->Ak
open Go.IntKind renaming i64->Al,u8->Am
open Option renaming some->An,none->Ao
open Go renaming TypeId->AN,undef->AO,World->Ap,Value->Aq,Calls->Ar
open Go.Proofs.Tryz renaming prog->As
open _root_.List renaming replicate->AV,length->At,toArray->Aw
open _root_.Array renaming setIfInBounds->Ay
open Go.World renaming cell?->AC,setRow->AD,alloc->Az
open Go.RowKit.Hid renaming out->AE
open Or renaming inl->AF,inr->AG
open _root_ renaming Nat->AH,Int->AI,List->AJ,Bool->AK,ByteArray->AT,UInt8->AU
open _root_.Bool renaming true->AP,false->AQ
open _root_.Decidable renaming decide->AR
open _root_.UInt8 renaming ofNat->AW
variable{A args arr cs tmps:A3}{B N b base dst ecap fuel g g2 hi i j k lo n num p q so x:I}{V V' W W' W0 w:X}{S:X->Prop}{L:AJ (J×J)}{ea:A4}{a:Act}{d fm l lim z:J}{P:I->Prop}{ops:Array Oper}{rest:AJ Oper}{o oi:Oper}{Q:Exit->Act->X->Prop}{s:Cs}{t ty:AN}{c ch:AU}{acc bs zs:A1}{fv ks v v' vs:Aq}{xs:AJ Aq}{u:Tmp}{fn:Func}{R:Ending->X->Prop}{fr:I×I}{ev:Operand->Aq}{f:FuncId}{r:Ending}{md:Region.Mode}{listed:Array AK}{F:J×J}{m:AK}
section
open Go.RowKit Go.Deep
structure Vf(arr:A3)(n:Nat)(L:List (Int×Int))(ea:A4)(ecap:Nat):Prop where
 size:arr.size=11
 f0:arr[0]?=some (.int .i64 n)
 f1:arr[1]?=some (.slice ea L.length ecap)
theorem Ec(h:arr.size=11):(prog.info? 40).map (·.size)=H arr.size:=C8
theorem Pd(h:arr[0]?=H (C Y n))(a:J)(w:X):Ar As 60 #[.agg arr,C Y a] w λe c=>e=Ak (Ah (Dt n a))/\A0 w c:=by
 go_enter func60,ntmps60;go_wp2
 all_goals go_ret
 .exact⟨by simp[Dt, *],Cl⟩
 exact⟨keg,Cl⟩
def FW(n:AH)(S:AH->AK):A3:=Aw ((List.range n).map λk=>Ah (S k))
theorem lF(n:I)(S:I->AK):(FW n S).size=n:=by simp[FW]
theorem O1(S:I->AK)(h:k<n):(FW n S)[k]?=H (Ah (S k)):=by grind [FW]
def Gy(S:AH->AK)(k:AH):AH->AK:=λx=>if x=k then AP else S x
theorem S6(n:I)(S:I->AK)(k:I):Ay (FW n S) k (Ah AP)=FW n (Gy S k):=by grind [Gy,FW]
theorem Zk(n:I):madeCells #[Ah AQ] n=FW n λ_=>AQ:=by grind [madeCells,FW]
def Lj(S:AH->AK)(e:AI×AI):AH->AK:=if S e.1.toNat then Gy S e.2.toNat else S
def Ge(L:AJ (AI×AI))(S:AH->AK):AH->AK:=L.foldl Lj S
theorem lG(L:AJ (J×J))(S:I->AK)(k:I)(h:k<O L):Ge (L.take (k+1)) S=Lj (Ge (L.take k) S) L[k]:=by grind [Ge,List.take_succ_eq_append_getElem]
def EP(L:AJ (AI×AI)):AH->(AH->AK)->AH->AK
 |0,S=>S
 |k+1,S=>Ge L (EP L k S)
def EH(a:AH):AH->AK:=Gy (λ_=>AQ) a
def DS(n:AH)(L:AJ (AI×AI))(a b:AH):AK:=EP L n (EH a) b
structure KO(w W:World)(b n:Nat)(S:Nat->Bool):Prop where
 below:Below b w W
 own:W.heap[b]?=some (.cells (FW n S) 4)
theorem KO.set{S:I->AK}(h:KO w W b n S)(k:I):KO w (Go.World.setCell W ⟨b,k,Ao⟩ (Ah AP)) b n (Gy S k) :=
 ⟨h.below.setCell (Co _) _,by rw[DQ W _ _ _ _ _ h.own,S6]⟩
theorem KO.at_{S:I->AK}(h:KO w W b n S)(a:k<n):A6 W b k (Ah (S k)):=(Cb h.own k).trans (O1 S a)
theorem KO.frozen{S:I->AK}(h:KO w W b n S)(k:I):W.frozen? ⟨b,k,Ao⟩=AQ:=Dq W b k _ _ h.own
theorem lH(h:Fb n L=AP)(c:k<O L):∃i j:I,i<n/\j<n/\L[k].1=(i:J)/\L[k].2=(j:J):=by have:=GN.1 h _ (P5 c);unfold Gd at this;simp only[F3]at this;obtain⟨⟨a,b⟩,_⟩:=this;have d:=Dk a;have e:=Dk b;exact⟨L[k].1.toNat,L[k].2.toNat,E,E,E,E⟩
theorem Zl(H:Vf arr n L ea ecap)(hn:n<=6)(hL:O L<=30)(S:Fb n L=AP){a:I}(V:a<n)(hb:b<n)(R:FG w ea L):Ar As 69 #[.agg arr,C Y a,C Y b] w λe w'=>e=Ak (Ah (DS n L a b))/\A0 w w':=by
 have Q:=H.f0;have f1:=H.f1;have v:=G S;have u:=G R;have ab:=λw=>run_make_row' (P:=As) 196 4 (Ah AQ) 1 underlying196 B6 Z Y Y n E E w;rw[Zk]at ab;have p:D ((Az w (M arr 40)).heap[K (U w)]?=An (M arr 40)):=Cj _;have m:D (A0 w (Az w (M arr 40))):=Cl;have y:D (KO (Az w (M arr 40)) (Az (Az w (M arr 40)) (M (Ay (FW n λ_=>AQ) a (Ah AP)) 4)) (K (U w)+1) n (EH a)):=by refine⟨(Cq _ _).alloc Ba _,?_⟩;have:=Cj (Az w (M arr 40)) (o:=(M (Ay (FW n λ_=>AQ) a (Ah AP)) 4));rw[CI]at this;rw[this,S6];rfl
 have ad:=O1 (λ_=>AQ) V;go_enter func69,ntmps69;go_wp2;generalize Az (Az w (M arr 40)) (M (Ay (FW n λ_=>AQ) a (Ah AP)) 4)=W1 at *;generalize Az w (M arr 40)=W0 at *
 go_loopg[8] n (λg x wr=>∃k:I,D (k+g=n)/\x=C Y k/\D (KO W0 wr (K (U w)+1) n (EP L k (EH a))))
 case atStart=>exact⟨0,Bg,rfl,y⟩
 case round =>
  obtain⟨k,h,rfl,f⟩:=hrel;have af:=(Cb ((f.below.block _ E).trans p) 0).trans Q;obtain _|g:=gk
  .have aa:¬(k:J)<n:=AY (AE h);have e:k=n:=AY (AE h);subst e;have W:=f.at_ hb;have d:D (EP L k (EH a) b=DS k L a b):=rfl;generalize EP L k (EH a) b=v0 at W d;go_wp2;go_ret;exact⟨by rw[<-AE d];rfl,m.trans (f.below.mono E)⟩
  have aa:(k:J)<n:=AY (AE h);go_wp2
  go_loopg[9] (O L) (λg x wr=>∃q:I,D (q+g=O L)/\x=C Y q/\D (KO W0 wr (K (U w)+1) n (Ge (L.take q) (EP L k (EH a)))))
  case atStart=>exact⟨0,Bg,rfl,f⟩
  case round =>
   obtain⟨q,l,rfl,c⟩:=hrel;have ag:=(Cb ((c.below.block _ E).trans p) 1).trans f1;obtain _|t:=gk
   .have ac:¬(q:J)<O L:=AY (AE l);go_wp2;go_roundg g
    case measure=>omega
    case rel =>
     refine⟨k+1,B9,Bb,?_⟩;have:=AE c;rw[ML (AY (AE l))]at this;exact this
   have ac:(q:J)<O L:=AY (AE l);obtain⟨i,j,hi,hj,F,N⟩:=lH v (k:=q) E;obtain⟨bb,off,rfl,ae,A,B⟩:=(u.below (m.trans (c.below.mono E))).at_ q E;have HM:D (Ge (L.take (q+1)) (EP L k (EH a))=if Ge (L.take q) (EP L k (EH a)) i then Gy (Ge (L.take q) (EP L k (EH a))) j else Ge (L.take q) (EP L k (EH a))):=by grind [lG,Lj]
   rw[F]at A;rw[N]at B;have r:=c.at_ hi;have z:=c.at_ hj;have cf:=c.frozen j;cases s:Ge (L.take q) (EP L k (EH a)) i
   .rw[s]at r;have d:D (Ge (L.take (q+1)) (EP L k (EH a))=Ge (L.take q) (EP L k (EH a))):=B9;go_wp2;go_roundg t
    case measure=>omega
    case rel=>exact⟨q+1,B9,Bb,by grind [D]⟩
   rw[s]at r;have d:D (Ge (L.take (q+1)) (EP L k (EH a))=Gy (Ge (L.take q) (EP L k (EH a))) j):=B9;generalize Ge (L.take q) (EP L k (EH a)) j=v0 at z;go_wp2;go_roundg t
   case measure=>omega
   case rel=>exact⟨q+1,B9,Bb,by show KO _ _ _ _ _;rw[AE d];exact c.set j⟩
end
section
open Go.RowKit
def Im(L:AJ (AI×AI)):AJ Aq:=L.flatMap λe=>[Ab Al e.1,Ab Al e.2]
def Eg(L:AJ (AI×AI)):A3:=Aw (Im L)
theorem Qo(L:AJ (J×J)):O (Im L)=O L*2:=by induction L<;>grind [Im]
theorem S8(L:AJ (J×J)):(Eg L).size=O L*2:=by simp[Eg,Qo]
theorem Vg:∀(L:AJ (J×J)) (i:I) (h:i<O L),(Im L)[i*2]?=H (C Y L[i].1)/\(Im L)[i*2+1]?=H (C Y L[i].2)
 |[],i,h=>Bx
 |e::L,0,_=>⟨rfl,rfl⟩
 |e::L,i+1,h=>by have a:=Vg L i Bw;grind [Im]
theorem MT(L:AJ (J×J))(i:I)(h:i<O L):(Eg L)[i*2]?=H (C Y L[i].1)/\(Eg L)[i*2+1]?=H (C Y L[i].2):=by grind [Eg,Vg]
theorem Zm{x y:J}(h:i<O L):Ay (Ay (Eg L) (i*2) (C Y x)) (i*2+1) (C Y y)=Eg (L.set i (x,y)):=by
 apply Qf;intro k;rw[RS,RS];simp only[YB,S8];have key:k=(k/2)*2\/k=(k/2)*2+1:=E;by_cases a:k/2<O L
 .have b:=MT L _ a;have c:=MT (L.set i (x,y)) _ Bl;grind
 grind [S8]
theorem lL(n:I):madeCells #[C Y 0,C Y 0] (n*2)=Eg (AV n (0,0)):=by
 apply Qf;intro k;by_cases a:k<n*2
 .have g:=MT (AV n (0,0)) (k/2) B7;grind [madeCells]
 grind [size_madeCells,S8]
theorem lM(A B:AJ (J×J)):Im (A++B)=Im A++Im B:=by simp[Im]
theorem lN(L:AJ (J×J)):∀v,v∈Im L->v.oneCell'=AP:=by intro v b;simp only[Im,YY]at b;obtain⟨e,_,a⟩:=b;simp only[If,LT,LY]at a;rcases a with rfl|rfl<;>rfl
def EQ(B:AJ AI):A3:=Aw (B.map λx=>Ab Al x)
theorem Zn(B:AJ J):(EQ B).size=O B:=by simp[EQ]
theorem S9{B:AJ J}(h:i<O B):(EQ B)[i]?=H (C Y B[i]):=by simp[EQ,h]
theorem Zo(B:AJ J)(i:I)(x:J):Ay (EQ B) i (C Y x)=EQ (B.set i x):=by apply P7;simp[EQ,List.map_set]
theorem lO(n:I):madeCells #[C Y 0] n=EQ (AV n 0):=by apply Qf;grind [S9,madeCells,Zn]
theorem Zp{P:Program}{d s:Operand}{dT:AN}(p:AN)(S:o.op=.call {callee:=.builtin .copy,args:=#[d,s],argTypes:=#[dT,p]})(F:o.guard=Ao){elem:AN}(m:P.underlying dT=H (.slice elem))(z:I)(l:(P.info? elem).map (·.size)=H z)(b k:I){sp:A4}(c n:I)(y:a.eval d=T (Aa g) b k)(W:a.eval s=T sp c n){cur:A3}(B:w.heap[g]?=H (M cur t (0,0))){cs:AJ Aq}(R:O cs=Nat.min c b*z)(i:sp=Ao->Nat.min c b=0)(aa:∀e,sp=H e->∀j v,cs[j]?=H v->AC w (e.add j)=H v)(A:O cs<=cur.size)(r:∀v∈cs,v.oneCell'=AP)(h:wpList P ops Q rest (a.put o.dst (goInt (Nat.min c b))) (AD w g (Aw (cs++cur.toList.drop (O cs))))):wpList P ops Q (o::rest) a w:=by
 refine Lg F λac u=>?_;have f:=run_storeCells_at P g 0 t cs 0 cur w B C4 r;simp only[Gw,RX,KG]at f;have V:(Builtin.copy_ #[dT,p] o.type #[T (Aa g) b k,T sp c n]).run P w=.ok (goInt (Nat.min c b)) (AD w g (Aw (cs++cur.toList.drop (O cs)))):=by
  rcases hq:P.info? elem with _|ab
  .simp[hq]at l
  have L:ab.size=z:=by simpa[hq]using l
  obtain _|e:=sp
  .have q:=i Z;have x:cs=[]:=Br;subst x;simp[Builtin.copy_,MO m,Builtin.lenOf,Builtin.firstCells,sizeOf,typeInfo,hq,q,f]
  have N:=YN (P:=P) w e cs (aa e Z);simp[Builtin.copy_,MO m,Builtin.lenOf,Builtin.firstCells,sizeOf,typeInfo,hq,L,<-R,N,f]
 unfold Oper.wp;simp[execOp,S,resolve,invoke,builtin,y,W,V,Result.andThen];exact u _ _ h
def Ep(k:AH):AJ (AI×AI):=AV k (77,77)++AV (8-k) (0,0)
def Fc(k:AH):AJ AI:=AV k 77++AV (8-k) 0
theorem lP:Ep 0=AV 8 (0,0):=rfl
theorem Zq(k:I)(h:k<=8):O (Ep k)=8:=by simp[Ep];omega
theorem Zr(k:I)(h:k<=8):O (Fc k)=8:=by simp[Fc];omega
theorem lQ(k:I)(h:k<8):(Ep k).set k (77,77)=Ep (k+1):=by have:k=0\/k=1\/k=2\/k=3\/k=4\/k=5\/k=6\/k=7:=E;rcases this with rfl|rfl|rfl|rfl|rfl|rfl|rfl|rfl<;>rfl
theorem lR(k:I)(h:k<8):(Fc k).set k 77=Fc (k+1):=by have:k=0\/k=1\/k=2\/k=3\/k=4\/k=5\/k=6\/k=7:=E;rcases this with rfl|rfl|rfl|rfl|rfl|rfl|rfl|rfl<;>rfl
def Jj(c:AU):Option AH:=if Eh c=AP then An (c.toNat-48)else if 97<=c.toNat/\c.toNat<=102 then An (c.toNat-87)else if 65<=c.toNat/\c.toNat<=70 then An (c.toNat-55)else Ao
theorem Sm{d:I}(h:Jj c=H d):d<16:=by
 unfold Jj at h;split at h
 .next hd=>have:=Dk hd;cases h;omega
 grind
def Lp(c:AU):Aq:=match Jj c with
 |some d=>Af #[Ab .i32 d,Ah AP]
 |none=>Af #[Ab .i32 0,Ah AQ]
theorem nD(c:AU)(w:X):Ar As 300 #[C Am c.toNat] w λe i=>e=Ak (Lp c)/\i=w:=by
 have b:=Pi (c:=c) (w:=w);have p:=c.toNat_lt;by_cases g:48<=(c.toNat:J)/\(c.toNat:J)<=57
 .have a:D (Lp c=Af #[C .i32 (c.toNat-48),Ah AP]):=by grind [D,Lp,Jj,Eh]
  have d:=F4 g;rw[d]at b;go_enter func300,ntmps300
  go_wp2_with(first|(go_at_call 278;apply b.mono;rintro e f ⟨rfl,rfl⟩))
  go_ret2
  rw[AE a];exact⟨Z,Z⟩
 have d:=Fv g;have o:Eh c=AQ:=d;rw[d]at b;by_cases m:97<=c.toNat/\c.toNat<=102
 .have a:D (Lp c=Af #[C .i32 (c.toNat-97+10),Ah AP]):=by grind [D,Lp,Jj]
  have h:AR (97<=(c.toNat:J))=AP:=B7;have j:AR ((c.toNat:J)<=102)=AP:=B7;go_enter func300,ntmps300
  go_wp2_with(first|(go_at_call 278;apply b.mono;rintro e f ⟨rfl,rfl⟩))
  go_ret2
  rw[AE a];exact⟨Z,Z⟩
 by_cases n:65<=c.toNat/\c.toNat<=70
 .have a:D (Lp c=Af #[C .i32 (c.toNat-65+10),Ah AP]):=by grind [D,Lp,Jj]
  have h:AR (97<=(c.toNat:J))=AQ:=B7;have k:AR (65<=(c.toNat:J))=AP:=B7;have l:AR ((c.toNat:J)<=70)=AP:=B7;go_enter func300,ntmps300
  go_wp2_with(first|(go_at_call 278;apply b.mono;rintro e f ⟨rfl,rfl⟩))
  go_ret2
  rw[AE a];exact⟨Z,Z⟩
 have a:D (Lp c=Af #[C .i32 0,Ah AQ]):=by grind [D,Lp,Jj]
 go_enter func300,ntmps300
 go_wp2_with(first|(go_at_call 278;apply b.mono;rintro e f ⟨rfl,rfl⟩))
 all_goals first
  |(exfalso;omega)
  |(go_ret2;rw[AE a];exact⟨Z,Z⟩)
def E3(bs:A1)(lim:AI):AH->AH->AH->A5 AH
 |0,p,a=>.ok (a,p)
 |k+1,p,a=>match bs[p]? with
  |none=>.error (9,p)
  |some c=>if(p:AI)=lim then .error (8,p)else match Jj c with
   |none=>.error (9,p)
   |some d=>E3 bs lim k (p+1) (a*16+d)
theorem ZL(h:Ch W b s):Ar As 296 #[Ag #[A8 b]] W (GS W b s (λx:I=>C .i32 x) (E3 s.bs s.lim 4 s.pos 0)):=by
 have F:=G (KR h);obtain⟨R,l⟩:=CA (E3 s.bs s.lim 4 s.pos 0);rw[AE l];go_enter func296,ntmps296;go_wp2;generalize Az W (M #[A8 b] 215)=W0 at *
 go_loopg[3,6] 4 (λm y z wr=>∃(k n:I),y=C .i32 n/\z=C Y k/\D (m+k=4)/\D (n<16^k)/\D (Kc W b (K (U W)) {s with pos:=s.pos+k} wr)/\D (E3 s.bs s.lim m (s.pos+k) n=R))
 case atStart=>exact⟨0,0,rfl,rfl,rfl,by show 0<1;decide,F,l⟩
 case round =>
  obtain⟨k,n,rfl,rfl,v,L,a,l⟩:=hrel;have Q:=a.cell;obtain _|m:=gk
  .have e:k=4:=AY (AE v);subst e;have g:D (R=.ok _):=l.symm;go_wp2;go_ret;rw[AE g];exact⟨a.but,Z,a.src⟩
  have ab:k<4:=AY (AE v);have ac:AR ((k:J)<4)=AP:=B7;have aa:n<4096:=CK L.out (Cy (NP B8 (show k<=3 from E)) B8);rcases Ji a.src with f|f|⟨c,f⟩
  .have g:D (R=.error (9,(s.pos+k:I))):=by show _=_;rw[<-AE l,E3,Hm (by have:s.pos+k=O s.bs:=f;omega)]
   have o:=Ka a.src f
   go_wp2_with(first
    |(go_at_call 270;apply o.mono;rintro e t ⟨hF,i⟩;obtain rfl:=hF))
   rw[AE g];exact⟨Z,a.but.trans (Cg.of_below i),Z⟩
  .have g:D (R=.error (8,(s.pos+k:I))):=by show _=_;have V:=f.2;have h3:=f.1;grind [D,E3]
   have o:=Kb a.src f
   go_wp2_with(first
    |(go_at_call 270;apply o.mono;rintro e t ⟨hF,i⟩;obtain rfl:=hF))
   rw[AE g];exact⟨Z,a.but.trans (Cg.of_below i),Z⟩
  have N:=f.1;have P:=f.2;have j:=AE l;rw[E3,N]at j;simp only[]at j;rw[Ci P]at j;have q:=λw=>nD c w;unfold Lp at q;have o:Ar _ _ _ wr λe u=>e=Ak _/\Ch u b {s with pos:=s.pos+(k+1)}/\Cg b wr u:=IL a.src f;rcases hv:Jj c with _|d
  .rw[hv]at j q;have g:=G j.symm
   go_wp2_with(first
    |(go_at_call 270;apply o.mono;rintro e t ⟨rfl,r,i⟩;have p:=G (a.step r i);have Q:=p.cell)
    |(go_at_call 300;apply (q _).mono;rintro e S ⟨rfl,rfl⟩)
    |(go_at_call 271;apply (FJ _ p.src).mono;rintro e w7 ⟨hF,rfl⟩;obtain rfl:=hF))
   rw[AE g];exact⟨Z,p.but,C6⟩
  rw[hv]at j q;have B:D (E3 _ _ m (s.pos+(k+1)) _=R):=j;have hd:=Sm hv;have A:D (n*16+d<16^(k+1)):=by grind [D]
  go_wp2_with(first
   |(go_at_call 270;apply o.mono;rintro e t ⟨rfl,r,i⟩;have p:=G (a.step r i))
   |(go_at_call 300;apply (q _).mono;rintro e S ⟨rfl,rfl⟩))
  go_roundg m
  case measure=>omega
  case rel=>exact⟨_,_,Ba,Bb,B9,A,p,B⟩
def Dn(bs:A1)(lim:AI):A1->AH->A5 Unit
 |[],p=>.ok ((),p)
 |x::xs,p=>match bs[p]? with
  |none=>.error (9,p)
  |some c=>if(p:AI)=lim then .error (8,p)else if c=x then Dn bs lim xs (p+1)else .error (9,p)
theorem Pk(l:A1)(hl:O l<=100)(h:Ch W b s):Ar As 274 #[Ag #[A8 b],Ae ⟨Aw l⟩] W (GS W b s (λ_:Unit=>Af #[]) (Dn s.bs s.lim l s.pos)):=by
 have P:=G (KR h);obtain⟨R,n⟩:=CA (Dn s.bs s.lim l s.pos);rw[AE n];go_enter func274,ntmps274;go_wp2;generalize Az W (M #[A8 b] 215)=W0 at *
 go_loopg[4,7] (O l) (λm _ ae wr=>∃(k:I),ae=C Y k/\D (m+k=O l)/\D (Kc W b (K (U W)) {s with pos:=s.pos+k} wr)/\D (Dn s.bs s.lim (l.drop k) (s.pos+k)=R))
 case atStart=>exact⟨0,rfl,rfl,P,n⟩
 case round =>
  obtain⟨k,rfl,B,f,n⟩:=hrel;have kb:=f.cell;obtain _|m:=gk
  .have e:k=O l:=AY (AE B);have d:D (R=.ok ((),s.pos+k)):=by show _=_;rw[<-AE n,OZ E];rfl
   have Q:AR (k<(O l:J))=AQ:=B7;have e3:AR (k<O l)=AQ:=B7;go_wp2;go_end0;rw[AE d];exact⟨f.but,Z,f.src⟩
  have y:k<O l:=AY (AE B);have Q:AR (k<(O l:J))=AP:=B7;have e3:AR (k<O l)=AP:=B7;obtain⟨x,hx⟩:=Dx (l[k]);have ad:l.drop k=x::l.drop (k+1):=by rw[KA y,hx]
  have L:D (l[k]?=H x):=by grind [D]
  have q:{wr with drawn:=wr.drawn+1}.cell? _=H _:=kb;have t:D (Ch {wr with drawn:=wr.drawn+1} b _):=f.src.drewN 1;have u:D (Cg b wr {wr with drawn:=wr.drawn+1}):=Cg.of_below (Ip);have r:=AE n;rw[ad,Dn]at r;go_wp2;refine Ef (S:=λV=>A6 V (K (U W)) 0 (A8 b)) B6 <| EA (i:=0) (v:=A8 _) Z B6 B6 B6 (λ_ _ _ h=>h) (AF ⟨Z,λV j=>rfl⟩) q <| EA (i:=1) (v:=A8 b) Z B6 B6 B6 (λ_ _ _ h=>h) (AF ⟨Z,λV j=>?y1⟩) q ?_
  case y1=>go_simp
  refine EA (i:=3) (v:=.string _) Z B6 B6 B6 (λ_ _ _ h=>h) (AF ⟨Z,λV j=>rfl⟩) q <| EA (i:=4) (v:=C Y k) Z B6 B6 B6 (λ_ _ _ h=>h) (AF ⟨Z,λV j=>rfl⟩) q <| EA (i:=5) (v:=C Am x.toNat) Z B6 B6 B6 (λ_ _ _ h=>h) (AF ⟨Z,λV j=>?y5⟩) q ?_
  case y5 =>
   have ag:=Fg ((D3 y).symm.trans L);go_simp;show(((Aw l)[k]'ke9).toNat:J)=_;grind
  refine CC 2 (λaf hK=>?_);rcases Ji t with a|a|⟨c,a⟩
  .have d:D (R=.error (9,(s.pos+k:I))):=by show _=_;rw[<-r,Hm (by have:s.pos+k=O s.bs:=a;omega)]
   have o:=Ka t a;go_simp;apply o.mono;rintro e F ⟨hF,p⟩;obtain rfl:=hF;exact⟨Z,(f.but.trans u).trans (Cg.of_below p),by rw[AE d];rfl⟩
  .have d:D (R=.error (8,(s.pos+k:I))):=by show _=_;have h2:(s.pos+k:I)=s.lim:=a.2;have h3:s.pos+k<O s.bs:=a.1;grind
   have o:=Kb t a;go_simp;apply o.mono;rintro e F ⟨hF,p⟩;obtain rfl:=hF;exact⟨Z,(f.but.trans u).trans (Cg.of_below p),by rw[AE d];rfl⟩
  have z:s.bs[s.pos+k]?=H c:=a.1;have aa:¬(s.pos+k:I)=s.lim:=a.2;rw[z]at r;simp only[]at r;rw[Ci aa]at r;have o:Ar _ _ _ _ λe A=>e=Ak _/\Ch A b {s with pos:=s.pos+(k+1)}/\Cg b _ A:=IL t a;go_simp;apply o.mono;rintro e F ⟨rfl,hS,p⟩;simp only[];have g:=G (f.step hS (u.trans p));refine hK.out _ _ g.cell (λ_=>?_);have ah:=g.cell;by_cases w:c=x
  .have ab:(c.toNat==(x.toNat:J))=AP:=by rw[w];simp
   have ac:c.toNat=x.toNat:=by rw[w]
   have N:D (Dn s.bs s.lim (l.drop (k+1)) (s.pos+(k+1))=R):=B9;refine EA (i:=6) (v:=Ah AQ) Z B6 B6 B6 (λ_ _ _ h=>h) (AF ⟨Z,λV j=>?y6⟩) g.cell ?_
   case y6=>(go_simp;first|done|omega|assumption|trace_state)
   refine CG ?_;go_wp2;go_roundg m
   case measure=>omega
   case rel=>exact⟨_,Bb,B9,g,N⟩
  have ab:(c.toNat==(x.toNat:J))=AQ:=by grind [UInt8.toNat_inj]
  have ac:¬c.toNat=x.toNat:=λhh=>w (P3.1 hh);have d:D (R=.error (9,(s.pos+k:I))):=B9;refine EA (i:=6) (v:=Ah AP) Z B6 B6 B6 (λ_ _ _ h=>h) (AF ⟨Z,λV j=>?y6⟩) g.cell ?_
  case y6=>(go_simp;omega)
  refine CG ?_
  go_wp2_with(first
   |(go_at_call 271;apply (FJ _ g.src).mono;rintro e w7 ⟨hF,rfl⟩;obtain rfl:=hF))
  rw[AE d];exact⟨Z,g.but,C6⟩
def Lq(x:AH):AK:=AR (56320<=x/\x<=57343)
def Pm(x:AH):AK:=AR (55296<=x/\x<=56319)
theorem ZM:Ar As 297 #[C .i32 x] w λe d=>e=Ak (Ah (Lq x))/\d=w:=by
 unfold Lq;by_cases b:56320<=x
 .by_cases c:x<=57343
  .have a:AR ((x:J)<=57343)=AP:=B7;rw[F4 ⟨b,c⟩];go_enter func297,ntmps297;go_wp2;go_ret;exact⟨Z,Z⟩
  have a:AR ((x:J)<=57343)=AQ:=B7;rw[Fv E];go_enter func297,ntmps297;go_wp2;go_ret;exact⟨Z,Z⟩
 rw[Fv E];go_enter func297,ntmps297;go_wp2;go_ret;exact⟨Z,Z⟩
theorem nE:Ar As 298 #[C .i32 x] w λe d=>e=Ak (Ah (Pm x))/\d=w:=by
 unfold Pm;by_cases b:55296<=x
 .by_cases c:x<=56319
  .have a:AR ((x:J)<=56319)=AP:=B7;rw[F4 ⟨b,c⟩];go_enter func298,ntmps298;go_wp2;go_ret;exact⟨Z,Z⟩
  have a:AR ((x:J)<=56319)=AQ:=B7;rw[Fv E];go_enter func298,ntmps298;go_wp2;go_ret;exact⟨Z,Z⟩
 rw[Fv E];go_enter func298,ntmps298;go_wp2;go_ret;exact⟨Z,Z⟩
theorem Sn:∀{k p a x q:I},E3 bs lim k p a=.ok (x,q)->x<(a+1)*16^k/\q=p+k
 |0,p,a,x,q,h=>by grind [E3]
 |k+1,p,a,x,q,h=>by
  rw[E3]at h;split at h
  .cases h
  split at h
  .cases h
  split at h
  .cases h
  next d hd =>
  obtain⟨b,c⟩:=Sn h;have e:=Sm hd;have f:(a*16+d+1)*16^k<=((a+1)*16)*16^k:=P2 _ E;grind
def Ir(bs:A1)(lim:AI)(p:AH):A5 AI:=match E3 bs lim 4 p 0 with
 |.error e=>.error e
 |.ok (x,q)=>if Lq x=AP then .error (9,(q:AI)-1)else if Pm x=AP then(match Dn bs lim [92,117] q with
  |.error e=>.error e
  |.ok (_,q2)=>match E3 bs lim 4 q2 0 with
   |.error e=>.error e
   |.ok (y,q3)=>if Lq y=AP then .ok (65536+((x:AI)-55296)*1024+((y:AI)-56320),q3)else .error (9,(q3:AI)-1))else .ok (x,q)
theorem nG(h:Ch W b s):Ar As 290 #[Ag #[A8 b]] W (GS W b s (λx:J=>C .i32 x) (Ir s.bs s.lim s.pos)):=by
 have j:=G (KR h);obtain⟨R,p⟩:=CA (Ir s.bs s.lim s.pos);rw[AE p];have a:=AE p;unfold Ir at a;have o:=j.cell;have t:=ZL j.src;go_enter func290,ntmps290
 go_wp2_with fail
 apply t.mono;rintro e L ⟨c,hF⟩;rcases hx:E3 s.bs s.lim 4 s.pos 0 with⟨f,i⟩|⟨x,q⟩
 .simp only[hx]at a hF;subst a;obtain rfl:=(show CV f i e from hF)
  go_wp2;exact⟨Z,j.but.trans c,Z⟩
 simp only[hx]at a hF;have B:=(Sn hx).1;obtain⟨rfl,g⟩:=hF;obtain⟨d,o⟩:=Er j g c
 go_wp2_with fail
 apply (ZM).mono;rintro e v ⟨rfl,rfl⟩;cases r:Lq x
 .rw[r,Ci B8]at a
  go_wp2_with fail
  apply (nE).mono;rintro e v ⟨rfl,rfl⟩;cases m:Pm x
  .rw[m,Ci B8]at a;subst a;go_wp2;go_ret;exact⟨d.but,Z,d.src⟩
  rw[m,Cn rfl]at a;have z:=Dk (show decide _=AP from m)
  go_wp2_with fail
  apply (Pk _ B8 d.src).mono;rintro e N ⟨c,hF⟩;rcases hq:Dn s.bs s.lim [92,117] q with⟨f,i⟩|⟨_,u⟩
  .simp only[hq]at a hF;subst a;obtain rfl:=(show CV f i e from hF)
   go_wp2;exact⟨Z,d.but.trans c,Z⟩
  simp only[hq]at a hF;obtain⟨rfl,g⟩:=hF;obtain⟨l,o⟩:=Er d g c
  go_wp2_with fail
  apply (ZL l.src).mono;rintro e P ⟨c,hF⟩;rcases hy:E3 s.bs s.lim 4 u 0 with⟨f,i⟩|⟨y,F⟩
  .simp only[hy]at a hF;subst a;obtain rfl:=(show CV f i e from hF)
   go_wp2;exact⟨Z,l.but.trans c,Z⟩
  simp only[hy]at a hF;obtain⟨rfl,g⟩:=hF;obtain⟨k,o⟩:=Er l g c
  go_wp2_with fail
  apply (ZM).mono;rintro e Q ⟨rfl,rfl⟩;cases n:Lq y
  .rw[n,Ci B8]at a;subst a
   go_wp2_with fail
   apply (FJ _ k.src).mono;rintro e w ⟨rfl,rfl⟩;go_wp2;exact⟨Z,k.but,Z⟩
  rw[n,Cn rfl]at a;have A:=Dk (show decide _=AP from n);subst a;go_wp2;go_ret;exact⟨k.but,Br,k.src⟩
 rw[r,Cn rfl]at a;subst a
 go_wp2_with fail
 apply (FJ _ d.src).mono;rintro e w ⟨rfl,rfl⟩;go_wp2;exact⟨Z,d.but,Z⟩
def Hp(bs:A1)(lim:AI)(p:AH):A5 AI:=match bs[p]? with
 |none=>.error (9,p)
 |some c=>if(p:AI)=lim then .error (8,p)else if c.toNat=34 then .ok (34,p+1)else if c.toNat=92 then .ok (92,p+1)else if c.toNat=47 then .ok (47,p+1)else if c.toNat=98 then .ok (8,p+1)else if c.toNat=102 then .ok (12,p+1)else if c.toNat=110 then .ok (10,p+1)else if c.toNat=114 then .ok (13,p+1)else if c.toNat=116 then .ok (9,p+1)else if c.toNat=117 then Ir bs lim (p+1)else .error (9,p)
theorem nH(h:Ch W b s):Ar As 283 #[Ag #[A8 b]] W (GS W b s (λx:J=>C .i32 x) (Hp s.bs s.lim s.pos)):=by
 have l:=G (KR h);obtain⟨R,B⟩:=CA (Hp s.bs s.lim s.pos);rw[AE B];have a:=AE B;unfold Hp at a;have A:=l.cell;rcases Ji l.src with g|g|⟨c,g⟩
 .rw[Hm (by have:s.pos=O s.bs:=g;omega)]at a;subst a;have o:=Ka l.src g;go_enter func283,ntmps283
  go_wp2_with(first
   |(go_at_call 270;apply o.mono;rintro e q ⟨hF,k⟩;obtain rfl:=hF))
  exact⟨Z,l.but.trans (Cg.of_below k),Z⟩
 .have N:=g.2;have P:=g.1;rw[D3 P]at a;simp only[]at a;rw[Cn N]at a;subst a;have o:=Kb l.src g;clear g N P;go_enter func283,ntmps283
  go_wp2_with(first
   |(go_at_call 270;apply o.mono;clear o;rintro e q ⟨hF,k⟩;obtain rfl:=hF))
  exact⟨Z,l.but.trans (Cg.of_below k),Z⟩
 have Q:=g.1;have S:=g.2;rw[Q]at a;simp only[]at a;rw[Ci S]at a;have o:Ar _ _ _ _ λe F=>e=Ak _/\Ch F b {s with pos:=s.pos+1}/\Cg b _ F:=IL l.src g;clear g Q S;go_enter func283,ntmps283
 go_wp2_with fail
 apply o.mono;clear o A;rintro e q ⟨rfl,y,k⟩;obtain⟨d,A⟩:=Er l y k;clear l y k;by_cases f:c.toNat=34
 .rw[Cn f]at a;subst a;have ae:((c.toNat:J)==34)=AP:=B7;have t:D (wrap32 c.toNat=34):=by grind [D,wrap32]
  clear f;go_wp2;go_ret;exact⟨d.but,by show Ending.returned (C .i32 (wrap32 (c.toNat:J)))=_;rw[AE t],d.src⟩
 rw[Ci f]at a;have ae:=D7 (c:=c) 34 E;by_cases i:c.toNat=92
 .rw[Cn i]at a;subst a;have ag:((c.toNat:J)==92)=AP:=B7;have t:D (wrap32 c.toNat=92):=by grind [D,wrap32]
  clear f i;go_wp2;go_ret;exact⟨d.but,by show Ending.returned (C .i32 (wrap32 (c.toNat:J)))=_;rw[AE t],d.src⟩
 rw[Ci i]at a;have ag:=D7 (c:=c) 92 E;by_cases j:c.toNat=47
 .rw[Cn j]at a;subst a;have af:((c.toNat:J)==47)=AP:=B7;have t:D (wrap32 c.toNat=47):=by grind [D,wrap32]
  clear f i j;go_wp2;go_ret;exact⟨d.but,by show Ending.returned (C .i32 (wrap32 (c.toNat:J)))=_;rw[AE t],d.src⟩
 rw[Ci j]at a;have af:=D7 (c:=c) 47 E;by_cases m:c.toNat=98
 .rw[Cn m]at a;subst a;have ah:((c.toNat:J)==98)=AP:=B7;clear f i j m;go_wp2;go_ret;exact⟨d.but,Z,d.src⟩
 rw[Ci m]at a;have ah:=D7 (c:=c) 98 E;by_cases n:c.toNat=102
 .rw[Cn n]at a;subst a;have z:((c.toNat:J)==102)=AP:=B7;clear f i j m n;go_wp2;go_ret;exact⟨d.but,Z,d.src⟩
 rw[Ci n]at a;have z:=D7 (c:=c) 102 E;by_cases p:c.toNat=110
 .rw[Cn p]at a;subst a;have aa:((c.toNat:J)==110)=AP:=B7;clear f i j m n p;go_wp2;go_ret;exact⟨d.but,Z,d.src⟩
 rw[Ci p]at a;have aa:=D7 (c:=c) 110 E;by_cases r:c.toNat=114
 .rw[Cn r]at a;subst a;have ab:((c.toNat:J)==114)=AP:=B7;clear f i j m n p r;go_wp2;go_ret;exact⟨d.but,Z,d.src⟩
 rw[Ci r]at a;have ab:=D7 (c:=c) 114 E;by_cases u:c.toNat=116
 .rw[Cn u]at a;subst a;have ac:((c.toNat:J)==116)=AP:=B7;clear f i j m n p r u;go_wp2;go_ret;exact⟨d.but,Z,d.src⟩
 rw[Ci u]at a;have ac:=D7 (c:=c) 116 E;by_cases w:c.toNat=117
 .rw[Cn w]at a;have ad:((c.toNat:J)==117)=AP:=B7;clear f i j m n p r u w;have L:=λV (hV:Ch V b {s with pos:=s.pos+1})=>nG hV;have v:∀V,Ch V b {s with pos:=s.pos+1}->Ar As 290 #[Ag #[A8 b]] V (GS V b {s with pos:=s.pos+1} (λx:J=>C .i32 x) R):=by rw[<-a];exact L
  clear L a;rcases R with⟨en,pl⟩|⟨aj,ai⟩
  .go_wp2_with(first
    |(go_at_call 290;apply (v _ d.src).mono;clear v A;rintro e w3 ⟨k,hF⟩;obtain rfl:=hF))
   exact⟨Z,d.but.trans k,Z⟩
  go_wp2_with(first
   |(go_at_call 290;apply (v _ d.src).mono;clear v A;rintro e w3 ⟨k,rfl,y⟩))
  go_ret;exact⟨d.but.trans k,Z,y⟩
 rw[Ci w]at a;have ad:=D7 (c:=c) 117 E;subst a;clear f i j m n p r u w
 go_wp2_with(first
  |(go_at_call 271;apply (FJ _ d.src).mono;rintro e w7 ⟨hF,rfl⟩;obtain rfl:=hF))
 exact⟨Z,d.but,C6⟩
theorem Tryz.infoU8:(prog.info? 5).map (λi=>(i.zero,i.size,i.bytes))=H (H (C Am 0),1,1):=B6
def CJ(b:AU):Aq:=Ab Am b.toNat
theorem DK{e:AN}{size:I}(c:W.ownsRow base e size v n xs)(h:Ax v=H g):base<=g:=by
 rcases c.2 with⟨a,_⟩|⟨i,d,f,rfl,b,_⟩
 .subst a;cases h
 cases h;exact b
theorem EI:∀(j:I) (u:Aq),cs.toList[j]?=H u->(Az w (M cs t)).cell? ((⟨K (U w),0,Ao⟩:Addr).add j)=H u:=λj u a=>by
 have e:(⟨K (U w),0,Ao⟩:Addr).add j=⟨K (U w),j,Ao⟩:=by by_cases h:j=0<;>simp[Addr.add,h]
 rw[e,IJ _ _ _ _ _ _ (Cj _)];simpa using a
theorem JS{s x:Operand}(z:J)(own:w.ownsRow base 5 1 v n xs)(h:∀b c,c.ownsRow base 5 1 b (n+1) (xs++[C Am z])->(Az w (M #[C Am z] 5)).grownBy c (Ax v)->(b=T Ao 0 0↔v=T Ao 0 0/\1=0)->wpList As ops Q rest (a.put o.dst b) c)(hl:n+1<=maxLen:=by unfold maxLen;omega)(hy:(n+1)*1<=140737488355328:=by omega)(hb:base<=K (U (Az w (M #[C Am z] 5))):=by simp;omega)(e:o.guard=Ao:=by rfl)(g:o.op=.call {callee:=.builtin .append,args:=#[s,x],argTypes:=#[50,50]}:=by rfl)(i:a.eval s=v:=by rfl)(hx:a.eval x=T (Aa (K (U w))) 1 1:=by rfl):wpList As ops Q (o::rest) a (Az w (M #[C Am z] 5)):=by obtain⟨m,f,j,k,l⟩:=DD Tryz.infoU8;exact JO _ e s x 50 g base 5 m _ 1 1 underlying50 f j k l Z B8 v n xs i (own.alloc _) _ 1 1 _ hx Z (EI) (λu d=>by simp at d;subst d;rfl) hl hy hb h
def Ck(W:Ap)(base:AH)(v:Aq)(bs:A1):Prop:=W.ownsRow base 5 1 v (At bs) (bs.map CJ)/\base<=_root_.Array.size (Go.World.heap W)/\∃a n c,v=Ac a n c
def CE(x:AH):AH->A1
 |0=>[]
 |k+1=>AW (x/2^(8*k)%256)::CE x k
theorem nO:CJ (AW (x/2^(8*k)%256))=C Am ((x:J)/2^(8*k)%256):=by
 unfold CJ;have e:(AW (x/2^(8*k)%256)).toNat=x/2^(8*k)%256:=by rw[Yt];have:x/2^(8*k)%256<256:=UX _ B8;omega
 rw[e];congr 1
theorem M6{ys:A1}{b:AU}{u:Aq}(h:W'.ownsRow base 5 1 v' (O ys+1) (ys.map CJ++[u]))(a:CJ b=u):W'.ownsRow base 5 1 v' (O (ys++[b])) ((ys++[b]).map CJ):=by rw[Dc,JP];subst a;exact h
theorem GC{z:I}(hb:Below base W V)(b:V.ownsRow base t z v n xs)(a:V.grownBy W' (Ax v))(d:base<=K (U V)):Below base W W' :=
 hb.trans ⟨a.os,a.tape,a.output,a.size,λi c=>a.block i E (λe=>AY (DK b e.symm))⟩
theorem Ch.same{s0:Cs}(a:Ch W b s0)(r:s.ia=s0.ia)(o:s.bs=s0.bs)(h:Ch V b s)(d:∀k,k<K (U W)->V'.heap[k]?=V.heap[k]?):Ch V' b s:=by have n:=Cc a.row;refine⟨(d b n).trans h.row,λi c=>?_,h.len,h.le⟩;obtain⟨g,off,e,f,j⟩:=h.inp i c;obtain⟨m,t,f1,q,l⟩:=a.inp i (by rw[<-o];exact c);have p:g=m:=B9;refine⟨g,off,e,f,?_⟩;rw[JN (w:=V) (d g (by rw[p];exact FF l))];exact j
theorem Vz{P:Program}{t t':A3}(h:results fn t=results fn t'):∀(a:AJ Deferred) (u:FrameMode) (w:X),Leaves P fn t R a u w->Leaves P fn t' R a u w
 |[],.returning,_,k9=>by grind [Leaves]
 |[],.panicking _,_,k9=>k9
 |[],.run,_,k9=>k9
 |_::a,_,_,k9=>by
  obtain⟨j,i,g,f,d,k,l,m⟩:=k9;refine⟨j,i,g,f,d,k,l,m.mono λe n o b=>?_⟩
  cases e with
  |returned v=>exact Vz h a _ _ b
  |panicked c=>exact Vz h a _ _ b
  |outgrown=>exact b
theorem MZ{P:Program}(b:fn.results=#[.tmp 2]){d:Tmp}(f:d≠2){c:AJ PanicEntry}(h:bodyPostD P fn R (.panic c) (a.put (H d) v) w):bodyPostD P fn R (.panic c) a w:=by
 refine Vz ?_ _ _ _ h;unfold results;rw[b];have e:(a.put (H d) v).tmps[2]?.getD AO=a.tmps[2]?.getD AO:=by show(Ay a.tmps d v)[2]?.getD AO=_;grind
 simp[e]
theorem Qw{P:Program}(a:fn.results=#[.tmp 2]){t:A3}:(results fn t).run P w=.ok (t.getD 2 AO) w:=by unfold results;rw[a];simp
structure Kd(W0:World)(b N M:Nat)(fv:Value)(so w g:Nat)(s:Cs)(W:World):Prop where
 src:Ch W b s
 but:Cg b W0 W
 box:W.heap[N]?=some (.cells #[A8 b,fv] 218)
 hd:W.heap[M]?=some (.cells #[.int .i64 so,.int .i64 w,.int .u64 g] 275)
 ne:b<N
 nm:b<M
theorem Kd.step{M:I}{w:I}{s':Cs}(h:Kd W0 b N M fv so w g s W)(a:Ch W' b s')(hb:Cg b W W'):Kd W0 b N M fv so w g s' W' :=
 ⟨a,h.but.trans hb,(hb.block _ (Cc h.box) (AY h.ne)).trans h.box,(hb.block _ (Cc h.hd) (AY h.nm)).trans h.hd,h.ne,h.nm⟩
theorem Pp{w:I}{M:I}(c:Ch W b s)(e:Ch V b s.next)(a:Cg b W V)(h:A7 V (K (U W)) #[A8 b,fv] 218)(l:K (U W)<M)(j:A7 V M #[C Y 0,C Y 0,C .u64 0] 275):Kd W b (K (U W)) M fv so w g s.next (AD V M #[C Y so,C Y w,C .u64 g]):=by have f:=Cc c.row;refine⟨c.same Z Z e (λk d=>Dg _ _ _ _ E),⟨a.os,a.tape,a.output,by simpa using a.size,λk d i=>sx E (a.block k d i)⟩,sx E h,CM _ _ _ _ _ _ j,f,E⟩
def EJ(bs:A1)(lim:AI):AH->AH->A1->A5 A1
 |0,p,acc=>.ok (acc,p)
 |k+1,p,acc=>match bs[p]? with
  |none=>.error (9,p)
  |some c=>if(p:AI)=lim then .error (8,p)else EJ bs lim k (p+1) (acc++[c])
def Qz{α:Type}(W:Ap)(b:AH)(s:Cs)(val:Ap->Aq->α->Prop)(r:A5 α)(e:Ending)(W':Ap):Prop :=
 Cg b W W'/\match r with
 |.ok (x,p)=>(∃v,e=Ak v/\val W' v x)/\Ch W' b {s with pos:=p}
 |.error (en,pl)=>CV en pl e/\∃p,Ch W' b {s with pos:=p}
structure M8(W:World)(b:Nat)(fv:Value)(s:Cs)(p:Nat)(v:Value)(acc:A1)(V:World):Prop where
 src:Ch V b {s with pos:=p}
 but:Cg b W V
 box:V.heap[W.heap.size]?=some (.cells #[A8 b,fv] 218)
 own:Ck V (W.heap.size+1) v acc
theorem oo(h:Ck W base v bs)(c:Cg b W W')(o:b<base):Ck W' base v bs:=by
 obtain⟨⟨j,a⟩,k,l⟩:=h;refine⟨⟨j,?_⟩,Cy k c.size,l⟩;rcases a with a|⟨g,f,i,e,n,d,m⟩
 .exact AF a
 exact AG ⟨g,f,i,e,n,(c.block g (Cc d) E).trans d,m⟩
theorem M8.take(h:M8 W b fv s p v acc V)(hb:b<K (U W))(c:Ch V' b {s with pos:=q})(a:Cg b V V'):M8 W b fv s q v acc V' :=
 ⟨c,h.but.trans a,(a.block _ (Cc h.box) E).trans h.box,oo h.own a E⟩
theorem M8.grow{acc':A1}(h:M8 W b fv s p v acc V)(d:Ch W b s)(a:Below (K (U W)+1) V V')(f:Ck V' (K (U W)+1) v' acc'):M8 W b fv s p v' acc' V' :=
 ⟨d.same rfl rfl h.src (λk c=>a.block k E),⟨a.os.trans h.but.os,a.tape.trans h.but.tape,a.output.trans h.but.output,Cy h.but.size a.size,λk c e=>(a.block k E).trans (h.but.block k c e)⟩,(a.block _ E).trans h.box,f⟩
theorem oq(h:Ch W b s):M8 W b fv s s.pos (T Ao 0 0) [] (Az W (M #[A8 b,fv] 218)):=by have a:Below _ W (Az W (M #[A8 b,fv] 218)):=Cl;refine⟨h.below a,Cg.of_below a,Cj W,Fa _ _ _ _,?_,Ao,0,0,Z⟩;simp
theorem ot(f:I)(hn:n<18446744073709551616)(h:Ch W b s)(ap:O s.bs<=200000000):Ar As 304 #[Ag #[A8 b,.func (.func f) #[] #[]],C .u64 n] W (Qz W b s (λV ai ah=>Ck V (K (U W)+1) ai ah) (EJ s.bs s.lim n s.pos [])):=by
 obtain⟨i0,hi,ae,af,ag⟩:=DD Tryz.infoU8;have y:D (M8 W b _ s _ _ [] (Az W (M #[.pointer _,.func (.func f) #[] #[]] _))):=oq h;have v:=G h;have aa:=Cc h.row;have ao:=h.le;obtain⟨R,o⟩:=CA (EJ s.bs s.lim n s.pos []);rw[AE o];go_enter func304,ntmps304;go_wp2;generalize Az W (M #[A8 b,.func (.func f) #[] #[]] 218)=W0 at *
 go_loopg[5,7] n (λg aj ak wr=>∃(k p:I) (a:A4) (m c:I) (r:A1),aj=T a m c/\ak=C .u64 k/\D (k+g=n)/\D (p<=O s.bs)/\D (O r<=p)/\D (M8 W b (.func (.func f) #[] #[]) s p (T a m c) r wr)/\D (EJ s.bs s.lim g p r=R))
 case atStart=>grind [D]
 case round =>
  clear y o;obtain⟨k,p,a,m,c0,r,rfl,rfl,P,hp,ha,d,o⟩:=hrel;have kb:=Cb d.box 0;obtain _|g:=gk
  .have hk:k=n:=AY (AE P);subst hk;have q:D (R=.ok _):=o.symm;go_wp2;go_ret;rw[AE q];exact⟨d.but,⟨_,Z,d.own⟩,d.src⟩
  have an:k<n:=AY (AE P);rcases Ji d.src with i|i|⟨c,i⟩
  .have q:D (R=.error (9,p)):=by show _=_;rw[<-AE o,EJ,Hm (by have:p=O s.bs:=i;omega)]
   have t:=Ka d.src i
   go_wp2_with(first
    |(go_at_call 270;apply t.mono;rintro e B ⟨hF,j⟩;obtain rfl:=hF))
   rw[AE q];exact⟨Z,d.but.trans (Cg.of_below j),Z,_,d.src.below j⟩
  .have q:D (R=.error (8,p)):=by show _=_;have h2:=i.2;have h3:=i.1;grind [D,EJ]
   have t:=Kb d.src i
   go_wp2_with(first
    |(go_at_call 270;apply t.mono;rintro e B ⟨hF,j⟩;obtain rfl:=hF))
   rw[AE q];exact⟨Z,d.but.trans (Cg.of_below j),Z,_,d.src.below j⟩
  have ab:=i.1;have ac:=i.2;have l:=G i.lt;have x:=AE o;rw[EJ,ab]at x;simp only[]at x;rw[Ci ac]at x;have u:=G x;have t:Ar _ _ _ wr λe N=>e=Ak _/\Ch N b {s with pos:=p+1}/\Cg b wr N:=IL d.src i;have am:O r<=999999999:=by grind [D]
  go_wp2_with(first
   |(go_at_call 270;apply t.mono;rintro e B ⟨rfl,hS,j⟩;have A:=G (d.take aa hS j);have L:=G A.own.1;have w:=G A.own.2.1)
   |(at_builtin;refine JO _ Z _ _ _ Z _ 5 i0 _ 1 1 underlying219 hi ae af ag Z B8 _ _ _ Z (L.alloc _) _ 1 1 [.int _ _] Z Z (EI) (λar S=>by simp at S;subst S;rfl) Bc E (B1 (AE w)) ?_;intro v' w5 Q ad aq;obtain⟨g5,al,rfl⟩:=ownsRow_succ Q;have F:=G (GC ((Cq _ B).alloc w _) (L.alloc _) ad (B1 (AE w)));have z:=G (A.grow v F ⟨M6 Q Z,Cy w F.size,_,_,_,Z⟩)))
  go_roundg g
  case measure=>omega
  case rel=>exact⟨_,_,_,_,_,_,rfl,Bb,B9,l,by grind [D],z,u⟩
def N0(bs:A1)(fm d l:AI):Aq:=Ag #[Ae ⟨Aw bs⟩,Ab Al fm,Ab Al d,Ab Al l]
def CH(bs:A1)(l:AI)(i:AH):AK:=AR (i<At bs)&&AR ((i:AI)<l)
def CU(bs:A1)(l:AI)(i:AH)(e:AI):AI×AI:=if l<=i/\i<At bs then(8,i)else if At bs<=i then(9,At bs)else(e,i)
def ox(x:AI×AI):Aq:=Ag #[Ab Al x.1,Ab Al x.2]
theorem O8(bs:A1):(⟨Aw bs⟩:AT).size=O bs:=by show(Aw bs).size=_;simp
theorem Su:Ar As 116 #[N0 bs fm d l,C Y i] W λe g=>e=Ak (Ah (CH bs l i))/\A0 W g:=by
 have m:=O8 bs;obtain⟨R,c⟩:=CA (CH bs l i);rw[AE c];have a:=AE c;unfold CH at a;unfold N0;by_cases f:i<O bs
 .have h:AR (i<(O bs:J))=AP:=B7;have j:i<(O bs:J):=E;rw[F4 f,UR]at a;cases b:AR ((i:J)<l)
  .rw[b]at a;subst a;have k:=of_decide_eq_false b;go_enter func116,ntmps116;go_wp2;go_ret;exact⟨Z,Cl⟩
  rw[b]at a;subst a;have k:=Dk b;go_enter func116,ntmps116;go_wp2;go_ret;exact⟨Z,Cl⟩
 have h:AR (i<(O bs:J))=AQ:=B7;have j:¬i<(O bs:J):=E;rw[Fv f,Bool.false_and]at a;subst a;go_enter func116,ntmps116;go_wp2;go_ret;exact⟨Z,Cl⟩
theorem ZY:(prog.info? 103).map (·.size)=H 2:=B6
theorem Sv{s:I}(a:K (U V)=B)(b:cs.size=2)(c:tmps.getD s AO=A8 B)(h:fn.results=#[.cell s 103]):(results fn tmps).run As (Az V (M cs 103))=.ok (.agg cs) (Az V (M cs 103)) :=
 KE h tmps _ B 103 cs (0,0) _ c (by rw[<-a];exact Cj _) underlying103 Z (by rw[b];exact ZY)
theorem Sw{o o':Obj}:A0 W (Az (Az W o) o'):=(Cl).alloc Ba _
theorem Lt(W:X)(bs:A1)(fm d l:J)(i:I)(f:J):Ar As 84 #[N0 bs fm d l,C Y i,C Y f] W λe m=>e=Ak (ox (CU bs l i f))/\A0 W m:=by
 have p:=O8 bs;obtain⟨R,h⟩:=CA (CU bs l i f);rw[AE h];have a:=AE h;unfold CU at a;unfold N0;by_cases b:l<=(i:J)
 .by_cases g:i<O bs
  .rw[Cn ⟨b,g⟩]at a;subst a;have j:AR (l<=i)=AP:=BB;have n:i<(O bs:J):=E;have o:AR (i<(O bs:J))=AP:=B7;go_enter func84,ntmps84;go_wp2;exact CL (Sv Ba Z Z results84) Z ⟨Z,Sw⟩
  rw[Ci (λc=>g c.2),Cn E]at a;subst a;have j:AR (l<=i)=AP:=BB;have n:¬i<(O bs:J):=E;have o:AR (i<(O bs:J))=AQ:=B7;have k:O bs<=(i:J):=E;go_enter func84,ntmps84;go_wp2;exact CL (Sv Ba Z Z results84) Z ⟨Z,Sw⟩
 have j:AR (l<=i)=AQ:=BB;by_cases g:i<O bs
 .rw[Ci (λc=>b c.1),Ci E]at a;subst a;have k:¬(O bs)<=(i:J):=E;go_enter func84,ntmps84;go_wp2;exact CL (Sv Ba Z Z results84) Z ⟨Z,Sw⟩
 rw[Ci (λc=>b c.1),Cn E]at a;subst a;have k:O bs<=(i:J):=E;go_enter func84,ntmps84;go_wp2;exact CL (Sv Ba Z Z results84) Z ⟨Z,Sw⟩
theorem oy(W:X)(c:AU):Ar As 117 #[C Am c.toNat] W λe j=>e=Ak (Ah (M3 c))/\j=W:=by
 obtain⟨R,i⟩:=CA (M3 c);rw[AE i];have a:=AE i;unfold M3 at a;have k:((c.toNat:J)==32)=(c.toNat==32):=by cases h:(c.toNat==32)with|true=>simp at h;simp[h]|false=>simp at h;simp;omega
 have l:((c.toNat:J)==9)=(c.toNat==9):=by cases h:(c.toNat==9)with|true=>simp at h;simp[h]|false=>simp at h;simp;omega
 have m:((c.toNat:J)==10)=(c.toNat==10):=by cases h:(c.toNat==10)with|true=>simp at h;simp[h]|false=>simp at h;simp;omega
 have n:((c.toNat:J)==13)=(c.toNat==13):=by cases h:(c.toNat==13)with|true=>simp at h;simp[h]|false=>simp at h;simp;omega
 cases b:(c.toNat==32)<;>cases d:(c.toNat==9)<;>cases f:(c.toNat==10)<;>cases g:(c.toNat==13)<;>rw[b,d,f,g]at a<;>rw[b]at k<;>rw[d]at l<;>rw[f]at m<;>rw[g]at n<;>clear b d f g
 all_goals have a:_=R:=a
 all_goals subst a
 all_goals go_enter func117,ntmps117
 all_goals go_wp2
 all_goals go_ret
 all_goals exact⟨rfl,rfl⟩
theorem QC(k:I):(bs[k]?=Ao\/∃c,bs[k]?=H c/\(k:J)=lim)\/∃c,bs[k]?=H c/\¬(k:J)=lim:=by
 rcases hc:bs[k]? with _|c
 .exact AF (AF Z)
 by_cases a:(k:J)=lim
 .exact AF (AG ⟨c,Z,a⟩)
 exact AG ⟨c,Z,a⟩
def Es(bs:A1)(l:AI):AH->AH->AH
 |0,p=>p
 |g+1,p=>match bs[p]? with
  |none=>p
  |some c=>if(p:AI)<l then(if M3 c=AP then Es bs l g (p+1)else p)else p
theorem Ej(d:bs[k]?=H c)(V:X):(Instr.index 9 (Ae ⟨Aw bs⟩) (C Y (k:J))).run As V=.ok (C Am c.toNat) V:=by
 have f:=Dh d;have a:=O8 bs;have e:0<=(k:J)/\k<((⟨Aw bs⟩:AT).size:J):=kfp;rw[run_index_string (h:=underlying9),dif_pos e];have b:(⟨_⟩:AT)[(k:J).toNat]'kfp=c:=by show(Aw bs)[(k:J).toNat]'B7=c;grind
 rw[b]
theorem Sx(W:X)(fm d l:J)(hb:O bs<=281474976710656)(hi:i<=O bs):Ar As 83 #[N0 bs fm d l,C Y i] W λe r=>e=Ak (C Y (Es bs l (O bs+1-i) i))/\A0 W r:=by
 obtain⟨R,q⟩:=CA (Es bs l (O bs+1-i) i);rw[AE q];have h:D ((Az W _).heap[K (U W)]?=H (M #[Ae ⟨Aw bs⟩,C Y fm,C Y d,C Y l] 115)):=Cj _;have b:D (Below _ W (Az W (M #[Ae ⟨Aw bs⟩,C Y fm,C Y d,C Y l] 115))):=Cl;have A:∀(V:X) (k:I),Ar _ _ #[Ag #[.string _,.int _ fm,.int _ d,.int _ l],.int _ k] V λe r=>e=Ak (Ah (CH bs l k))/\Below _ V r:=λV k=>Su;unfold N0;go_enter func83,ntmps83;go_wp2;generalize Az W (M #[Ae ⟨Aw bs⟩,C Y fm,C Y d,C Y l] 115)=W0 at *
 go_loopg[1] (O bs+1-i) (λg z wr=>∃k:I,z=C Y k/\D (O bs+1<=k+g)/\D (k<=O bs)/\D (A7 wr (K (U W)) #[Ae ⟨Aw bs⟩,C Y fm,C Y d,C Y l] 115)/\D (A0 W wr)/\D (Es bs l g k=R))
 case atStart=>grind [D]
 case round =>
  obtain⟨k,rfl,Q,B,h,b,q⟩:=hrel;obtain⟨g,rfl⟩:∃g,gk=g+1:=⟨gk-1,by grind [D]⟩
  have aa:=AE B;have t:=Cb h 0;have N:=Cb h 1;have c2:=Cb h 2;have P:=Cb h 3;have v:=Cc h;have a:=AE q;rw[Es]at a;have j:=A wr k;rcases hc:bs[k]? with _|c
  .rw[hc]at a;simp only[]at a;have m:CH bs l k=AQ:=keJ;rw[m]at j;have n:=G a.symm;clear a hc m
   go_wp2_with(first
    |(go_at_call 116;apply j.mono;rintro e s ⟨rfl,f⟩))
   go_ret;rw[AE n];exact⟨Z,b.trans (f.mono b.size)⟩
  rw[hc]at a;simp only[]at a;have F:=Dh hc;have x:=G (λV=>Ej hc V);by_cases u:(k:J)<l
  .rw[Cn u]at a;have m:CH bs l k=AP:=keJ;rw[m]at j;have o:=λV=>oy V c;have S:=AE x;cases w:M3 c
   .rw[w]at a o;have n:D (R=k):=a.symm
    go_wp2_with(first
     |(go_at_call 116;apply j.mono;rintro e s ⟨rfl,f⟩;have p:=(f.block _ v).trans h;have t:=Cb p 0)
     |(go_at_call 117;apply (o _).mono;rintro e L ⟨rfl,rfl⟩))
    go_ret;rw[AE n];exact⟨Z,b.trans (f.mono b.size)⟩
   rw[w]at a o;have y:D (Es bs l g _=R):=a
   go_wp2_with(first
    |(go_at_call 116;apply j.mono;rintro e s ⟨rfl,f⟩;have p:=G ((f.block _ v).trans h);have t:=Cb p 0)
    |(go_at_call 117;apply (o _).mono;clear o;rintro e L ⟨rfl,rfl⟩))
   go_roundg g
   case measure=>omega
   case rel=>exact⟨_,Bb,B9,F,p,b.trans (f.mono b.size),y⟩
  rw[Ci u]at a;have m:CH bs l k=AQ:=keJ;rw[m]at j;have n:=G a.symm;clear a hc m
  go_wp2_with(first
   |(go_at_call 116;apply j.mono;clear j;rintro e s ⟨rfl,f⟩))
  go_ret;rw[AE n];exact⟨Z,b.trans (f.mono b.size)⟩
def Gg(bs:A1)(l:AI)(i:AH):AK:=match bs[i]? with
 |none=>AQ
 |some c=>AR ((i:AI)<l)&&Eh c
theorem ZZ(W:X)(bs:A1)(fm d l:J):Ar As 165 #[N0 bs fm d l,C Y i] W λe m=>e=Ak (Ah (Gg bs l i))/\A0 W m:=by
 obtain⟨R,p⟩:=CA (Gg bs l i);rw[AE p];have j:=AE p;unfold Gg at j;have k:D ((Az W _).heap[K (U W)]?=H (M #[Ae ⟨Aw bs⟩,C Y fm,C Y d,C Y l] 115)):=Cj _;have b:D (Below _ W (Az W (M #[Ae ⟨Aw bs⟩,C Y fm,C Y d,C Y l] 115))):=Cl;have h:Ar _ _ #[Ag #[.string _,.int _ fm,.int _ d,.int _ l],.int _ i] _ λe m=>e=Ak (Ah (CH bs l i))/\Below _ (Az W (M #[Ae ⟨Aw bs⟩,C Y fm,C Y d,C Y l] 115)) m:=Su;have n:=Cc k;unfold N0;have u:CH bs l i=AQ->R=AQ:=λf=>keJ;cases f:CH bs l i
 .have g:=G (u f);rw[f]at h;go_enter func165,ntmps165
  go_wp2_with(first
   |(go_at_call 116;apply h.mono;rintro e o ⟨rfl,a⟩))
  go_ret;rw[AE g];exact⟨Z,b.trans (a.mono b.size)⟩
 rw[f]at h;unfold CH at f;rw[F3]at f;have t:=Dk f.1;obtain⟨c,r⟩:∃c,bs[i]?=H c:=⟨_,D3 t⟩
 rw[r]at j;simp only[]at j;rw[f.2,UR]at j;have x:=Ej r;unfold Eh at j;by_cases v:(48:J)<=(c.toNat:J)
 .by_cases w:(c.toNat:J)<=57
  .have g:D (R=AP):=by grind [D]
   go_enter func165,ntmps165
   go_wp2_with(first
    |(go_at_call 116;apply h.mono;rintro e o ⟨rfl,a⟩;have q:=Cb ((a.block _ n).trans k) 0))
   go_ret;rw[AE g];exact⟨Z,b.trans (a.mono b.size)⟩
  have g:D (R=AQ):=by grind [D]
  go_enter func165,ntmps165
  go_wp2_with(first
   |(go_at_call 116;apply h.mono;rintro e o ⟨rfl,a⟩;have q:=Cb ((a.block _ n).trans k) 0))
  go_ret;rw[AE g];have s:AR ((c.toNat:J)<=57)=AQ:=Fv E;exact⟨by rw[s];rfl,b.trans (a.mono b.size)⟩
 have g:D (R=AQ):=by grind [D]
 go_enter func165,ntmps165
 go_wp2_with(first
  |(go_at_call 116;apply h.mono;rintro e o ⟨rfl,a⟩;have q:=Cb ((a.block _ n).trans k) 0))
 go_ret;rw[AE g];exact⟨Z,b.trans (a.mono b.size)⟩
def Lm(bs:A1)(l lim:AI):Prop:=∀p:AH,p<At bs->((p:AI)<l↔(p:AI)<lim)
def Ct(bs:A1)(lim:AI)(p:AH):Prop:=p<=At bs/\(p:AI)<=lim
theorem Hs(h:bs[p]?=Ao):CH bs l p=AQ:=keJ
theorem It(a:p<=O bs)(h:bs[p]?=Ao)(e:J):CU bs l p e=(9,(p:J)):=by grind [CU]
theorem GW(hl:Lm bs l lim)(h:bs[p]?=H c)(d:(p:J)=lim):CH bs l p=AQ:=by have a:=Dh h;have b:=hl p a;grind [CH]
theorem FY(hl:Lm bs l lim)(h:bs[p]?=H c)(d:(p:J)=lim)(e:J):CU bs l p e=(8,(p:J)):=by have a:=Dh h;have b:=hl p a;grind [CU]
theorem IM(hl:Lm bs l lim)(hi:Ct bs lim p)(h:bs[p]?=H c)(e:¬(p:J)=lim):CH bs l p=AP:=by have a:=Dh h;have b:=hl p a;have d:=hi.2;grind [CH]
theorem Ht(hl:Lm bs l lim)(hi:Ct bs lim p)(h:bs[p]?=H c)(f:¬(p:J)=lim)(e:J):CU bs l p e=(e,(p:J)):=by have a:=Dh h;have b:=hl p a;have d:=hi.2;grind [CU]
theorem Ed(hi:Ct bs lim p)(h:bs[p]?=H c)(d:¬(p:J)=lim):Ct bs lim (p+1):=by have a:=Dh h;have b:=hi.2;exact⟨E,E⟩
def Gh{α:Type}(bs:A1)(lim:AI)(r r':A5 α):Prop:=r=r'\/∃q:AH,r=.error (8,(q:AI))/\(q:AI)=lim/\q<At bs/\∃x,r'=.ok (x,q)
theorem Ma(hl:Lm bs l lim):∀(g p:I),Ct bs lim p->(∃q,DL bs lim g p=.ok ((),q)/\Es bs l g p=q/\Ct bs lim q/\p<=q/\(O bs+1<=p+g->∀f,DL bs lim f q=.ok ((),q)))\/(∃q:I,DL bs lim g p=.error (8,(q:J))/\Es bs l g p=q/\(q:J)=lim/\q<O bs)
 |0,p,hi=>AF ⟨p,rfl,rfl,hi,Co _,λh=>absurd h (AY hi.1)⟩
 |g+1,p,hi=>by
  rw[DL,Es];rcases hc:bs[p]? with _|c
  .refine AF ⟨p,Z,Z,hi,Co _,λ_ f=>?_⟩;cases f<;>grind [DL]
  simp only[];by_cases k:(p:J)=lim
  .rw[Cn k];have j:=Dh hc;rw[Ci (show¬p<l by have:=hl p j;omega)];grind
  rw[Ci k];have j:=Dh hc;rw[Cn (show p<l by have:=hl p j;have:=hi.2;omega)];by_cases i:M3 c=AP
  .rw[Cn i,Cn i];rcases Ma hl g _ (Ed hi hc k)with⟨q,a,b,c,d,e⟩|h<;>grind
  rw[Ci i,Ci i];refine AF ⟨p,Z,Z,hi,Co _,λ_ f=>?_⟩;cases f<;>grind [DL]
theorem oz{P:Program}{fn:Func}{p u:Tmp}{ty:AN}(h:fn.results=#[.tmp u,.cell p ty]){tmps:A3}{w:X}{g:I}{t:AN}{cs:A3}{fr:I×I}{d:TypeDesc}(f:tmps.getD p AO=A8 g)(c:w.heap[g]?=H (M cs t fr))(i:P.underlying ty=H d)(b:(match d with|.struct _|.array _ _=>AP|_=>AQ)=AP)(hi:(P.info? ty).map (·.size)=H cs.size){v:Aq}(j:tmps.getD u AO=v):(results fn tmps).run P w=.ok (Af #[v,.agg cs]) w:=by have e:(results fn tmps).run P w=((asAddr (tmps.getD p AO)).run P w).andThen λa k=>((loadVar ty a).run P k).andThen λv l=>.ok (Af #[tmps.getD u AO,v]) l:=Bk;subst j;rw[e,f];simp only[asAddr,Ga,FT,Jd w g t ty cs fr d c i b hi]
def Cp(bs:A1)(fm d l:AI):A3:=#[Ae ⟨Aw bs⟩,Ab Al fm,Ab Al d,Ab Al l]
def Cd(x:AI×AI):A3:=#[Ab Al x.1,Ab Al x.2]
theorem Pr{x:J×J}:(Cd x).all (·.oneCell')=AP:=by simp[Cd,Value.oneCell']
structure Iu(W:World)(A:A3)(N:Nat)(V:World):Prop where
 box:V.heap[W.heap.size]?=some (.cells A 115)
 flt:V.heap[N]?=some (.cells (Cd (0,0)) 103)
 below:A0 W V
 lt:W.heap.size<N
theorem Iu.next(h:Iu W A N V)(hb:A0 V V'):Iu W A N V' :=
 ⟨(hb.block _ (Cc h.box)).trans h.box,(hb.block _ (Cc h.flt)).trans h.flt,h.below.trans (hb.mono h.below.size),h.lt⟩
theorem Iu.drew(h:Iu W A N V):Iu W A N V.drew:=⟨h.box,h.flt,h.below.drew,h.lt⟩
theorem O9{W:World}{A:Array Value}:Iu W A (W.heap.size+1) ((W.alloc (.cells A 115)).alloc (.cells (Cd (0,0)) 103)) :=
 ⟨(Cx _ _ _ (by simp)).trans (Cj _),by have:=Cj (W.alloc (.cells A 115)) (o:=(.cells (Cd (0,0)) 103));simpa using this,(Cl).alloc (by simp) _,by omega⟩
theorem VE{P:Program}{ev:Operand->Aq}{W:X}{o:Oper}{ty:AN}{x:Operand}(c:o.op=.load ty x){g:I}(hx:ev x=A8 g){t:AN}{cs:A3}{fr:I×I}{d:TypeDesc}(b:W.heap[g]?=H (M cs t fr))(e:P.underlying ty=H d)(a:(match d with|.struct _|.array _ _=>AP|_=>AQ)=AP)(hi:(P.info? ty).map (·.size)=H cs.size):(execOp ev o).run P W=.ok (.value (.agg cs)) W:=Bj
theorem Hu{x:J}(h : -9223372036854775808<=x/\x<=9223372036854775807):IntKind.i64.wrap x=x:=(Yr x).trans E
theorem VF:(prog.info? 115).map (·.size)=H (Cp bs fm d l).size:=by show _=H 4;kernel_rfl
def Sy(r:A5 Unit):Aq:=match r with
 |.ok (_,q)=>Af #[Ab Al q,.agg (Cd (0,0))]
 |.error f=>Af #[Ab Al 0,.agg (Cd f)]
theorem GX(h:Iu W A N V)(hb:A0 V V')(x:J×J):(AD V' N (Cd x)).heap[N]?=H (M (Cd x) 103)/\A0 W (AD V' N (Cd x)) :=
 ⟨CM _ _ _ _ _ _ (h.next hb).flt,Dj (h.next hb).below (Nat.le_of_lt h.lt)⟩
theorem Ke{x:J×J}:(prog.info? 103).map (·.size)=H (Cd x).size:=ZY
theorem DV(h:V.heap[g]?=H (M (Cp bs fm d l) t fr)):AC V ⟨g,0,Ao⟩=(#[Ae ⟨Aw bs⟩,C Y fm,C Y d,C Y l]:A3)[0]?/\AC V ⟨g,1,Ao⟩=(#[Ae ⟨Aw bs⟩,C Y fm,C Y d,C Y l]:A3)[1]?/\AC V ⟨g,2,Ao⟩=(#[Ae ⟨Aw bs⟩,C Y fm,C Y d,C Y l]:A3)[2]?/\AC V ⟨g,3,Ao⟩=(#[Ae ⟨Aw bs⟩,C Y fm,C Y d,C Y l]:A3)[3]? :=
 ⟨Cb h 0,Cb h 1,Cb h 2,Cb h 3⟩
theorem ck{P:Program}{Q:Ending->X->Prop}(c:Ar P f args V λe a=>e=r/\A0 V a)(b:∀{V':X},A0 V V'->S V')(k:∀w,D (S w)->Q r w):Ar P f args V Q :=
 c.mono λ_ _ h=>h.1▸k _ (b h.2)
theorem Mb{P:Program}{Q:Ending->X->Prop}(c:Ar P f args V λe a=>e=r/\A0 V a)(b:∀{V':X},A0 V V'->S V')(k:∀w,A0 V w->D (S w)->Q r w):Ar P f args V Q :=
 c.mono λ_ _ h=>h.1▸k _ h.2 (b h.2)
theorem DW{P:Program}{Q:Ending->X->Prop}(c:Ar P f args V λe a=>e=r/\A0 V a)(b:∀{V':X},A0 V V'->S V')(hb:∀w,S w->w.heap[g]?=H (M (Cp bs fm d l) t fr))(k:∀w,D (S w)->AC w ⟨g,0,Ao⟩=(#[Ae ⟨Aw bs⟩,C Y fm,C Y d,C Y l]:A3)[0]?->AC w ⟨g,1,Ao⟩=(#[Ae ⟨Aw bs⟩,C Y fm,C Y d,C Y l]:A3)[1]?->AC w ⟨g,2,Ao⟩=(#[Ae ⟨Aw bs⟩,C Y fm,C Y d,C Y l]:A3)[2]?->AC w ⟨g,3,Ao⟩=(#[Ae ⟨Aw bs⟩,C Y fm,C Y d,C Y l]:A3)[3]?->Q r w):Ar P f args V Q :=
 ck c b λw h=>let z:=DV (hb w h);k w h z.1 z.2.1 z.2.2.1 z.2.2.2
theorem Gi{b:AK}(fm d:J)(h:CH bs l i=b)(V:X):Ar As 116 #[Ag #[Ae ⟨Aw bs⟩,C Y fm,C Y d,C Y l],C Y i] V λe a=>e=Ak (Ah b)/\A0 V a:=h▸Su
theorem N2{en:J}{x:J×J}(fm d:J)(h:CU bs l i en=x)(V:X):Ar As 84 #[Ag #[Ae ⟨Aw bs⟩,C Y fm,C Y d,C Y l],C Y i,C Y en] V λe a=>e=Ak (.agg (Cd x))/\A0 V a:=h▸Lt V bs fm d l i en
theorem N5(bs:A1)(fm d l:J)(V:X)(k:I):Ar As 116 #[Ag #[Ae ⟨Aw bs⟩,C Y fm,C Y d,C Y l],C Y k] V λe a=>e=Ak (Ah (CH bs l k))/\A0 V a:=Su
theorem Oa(bs:A1)(fm d l:J)(V:X)(k:I)(a:J):Ar As 84 #[Ag #[Ae ⟨Aw bs⟩,C Y fm,C Y d,C Y l],C Y k,C Y a] V λe b=>e=Ak (.agg (Cd (CU bs l k a)))/\A0 V b:=Lt V bs fm d l k a
theorem EW(x y:I)(c:o.guard=Ao)(d:o.op=.store 103 (.tmp x) (.tmp y))(g:I)(F:J×J)(hx:a.eval (.tmp x)=A8 g)(hy:a.eval (.tmp y)=.agg (Cd F))(b:A7 w g (Cd (0,0)) 103)(h:wpList As ops Q rest (a.put o.dst AO) (AD w g (Cd F))):wpList As ops Q (o::rest) a w :=
 Db c _ _ _ d g _ hx hy _ _ b (Ke) rfl (Pr) h
theorem tk{P:Program}(i dst:I)(v:Aq)(hi:ops[i]?=H oi)(b:(Region.noSelect ops&&Region.free md ops listed i&&(Region.ready md ops listed).contains i&&oi.dst==H dst&&Region.wanted oi (yielded ops a.tmps))=AP)(e:∀c a w,Q (.panic c) (a.put (H dst) v) w->Q (.panic c) a w)(hy:∀d,S d->(execOp a.eval oi).run P d=.ok (.value v) d)(f:S w)(h:wpAnyH P md ops Q S fuel (Ay listed i AP) (a.put (H dst) v) w):wpAnyH P md ops Q S (fuel+1) listed a w:=by simp only[F3]at b;exact Ih _ hi b.1.1.1.1 b.1.1.1.2 b.1.1.2 e BU (AF ⟨b.2,hy⟩) f h
theorem Ob{P:Program}(i:I)(m:(Region.noSelect ops&&Region.free md ops listed i&&(Region.ready md ops listed).contains i,ops[i]?.map λo=>(o.dst,Region.wanted o (yielded ops a.tmps),λb=>(execOp a.eval o).run P b))=(AP,H (H dst,AP,λb=>.ok (.value v) b)))(k:∀c a w,Q (.panic c) (a.put (H dst) v) w->Q (.panic c) a w)(l:S w)(h:wpAnyH P md ops Q S fuel (Ay listed i AP) (a.put (H dst) v) w):wpAnyH P md ops Q S (fuel+1) listed a w:=by obtain⟨d,g⟩:=KJ m;obtain⟨o,n,e⟩:=OY.1 g;obtain⟨e,f⟩:=KJ e;obtain⟨f,j⟩:=KJ f;simp only[F3]at d;exact Ih _ n d.1.1 d.1.2 d.2 k e (AF ⟨f,λb _=>congrFun j b⟩) l h
theorem Lu{P:Program}(i:I)(hi:ops[i]?=H oi)(b:(Region.noSelect ops&&Region.free md ops listed i&&(Region.ready md ops listed).contains i&&oi.dst==H dst && !Region.wanted oi (yielded ops a.tmps))=AP)(d:∀c a w,Q (.panic c) (a.put (H dst) AO) w->Q (.panic c) a w)(e:S w)(h:wpAnyH P md ops Q S fuel (Ay listed i AP) (a.put (H dst) AO) w):wpAnyH P md ops Q S (fuel+1) listed a w:=by simp only[F3,UE]at b;exact Ih _ hi b.1.1.1.1 b.1.1.1.2 b.1.1.2 d BU (AG ⟨b.2,Z⟩) e h
theorem yF(x:I)(a:A7 W g (Cd F) 103)(b:o.op=.load 103 (.tmp x))(hx:ev (.tmp x)=A8 g):(execOp ev o).run As W=.ok (.value (.agg (Cd F))) W :=
 VE b hx a underlying103 rfl (Ke)
theorem yI(x:I)(a:A7 W g (Cp bs fm d l) 115)(b:o.op=.load 115 (.tmp x))(hx:ev (.tmp x)=A8 g):(execOp ev o).run As W=.ok (.value (Ag #[Ae ⟨Aw bs⟩,C Y fm,C Y d,C Y l])) W :=
 VE b hx a underlying115 rfl VF
theorem oA{p:Tmp}(h:fn.results=#[.tmp u,.cell p 103])(a:A7 w g (Cd F) 103)(b:tmps.getD p AO=A8 g)(c:tmps.getD u AO=v):(results fn tmps).run As w=.ok (Af #[v,.agg (Cd F)]) w :=
 oz h b a underlying103 rfl (Ke) c
theorem Sz{p:Tmp}{A:Act}{B:Prop}(h:fn.results=#[.tmp u,.cell p 103])(b:A7 w g (Cd F) 103/\B)(c:A.tmps.getD p AO=A8 g)(d:A.tmps.getD u AO=v)(a:A.defers=[])(k:R (Ak (Af #[v,.agg (Cd F)])) w):bodyPost As fn R .ret A w:=CL (oA h b.1 c d) a k
theorem QD(W:X)(bs:A1)(fm d l:J):D (Iu W (Cp bs fm d l) (K (U W)+1) (Az (Az W (M #[Ae ⟨Aw bs⟩,C Y fm,C Y d,C Y l] 115)) (M #[C Y 0,C Y 0] 103))):=O9
theorem Lv{v:I}(a:bs[i]?=H c)(b:c.toNat=v)(V:X):(Instr.index 9 (Ae ⟨Aw bs⟩) (C Y (i:J))).run As V=.ok (C Am v) V:=b▸Ej a V
theorem VG(W:X)(fm d:J)(w:A1)(p:O w<=100)(hl:Lm bs l lim)(hi:Ct bs lim i)(hb:O bs<=281474976710656):Ar As 127 #[.agg (Cp bs fm d l),C Y i,Ae ⟨Aw w⟩] W λe W'=>e=Ak (Sy (Dn bs lim w i))/\A0 W W':=by
 have ak:=O8 w;obtain⟨R,h⟩:=CA (Dn bs lim w i);rw[AE h];have ai:=hi.1;have HL:=G hl;have t:=G hi;have N:=N5 bs fm d l;have B:∀(V:X) (k:I) (P:J),Ar _ 84 #[.agg _,.int _ k,.int _ P] V _:=λV k P=>Lt V bs fm d l k P;clear hl hi;unfold Cp;go_enter func127,ntmps127;go_wp2
 go_loopg[8] (O w) (λg af wr=>∃k:I,af=C Y k/\D (k+g=O w)/\D (Iu W (Cp bs fm d l) (K (U W)+1) wr)/\D (Dn bs lim (w.drop k) (i+k)=R)/\D (Ct bs lim (i+k)))
 case atStart=>exact⟨0,rfl,Bg,O9,h,t⟩
 case round =>
  clear h t;obtain⟨k,rfl,y,j,h,t⟩:=hrel;have aj:=t.1;obtain⟨c0,c1,c2,c3⟩:=DV j.box;have u:=λV=>N V (i+k);have r:(i+k:I)=i+(k:J):=E;rw[r]at u;obtain _|g:=gk
  .have q:D (R=.ok ((),i+O w)):=by grind [D,Dn]
   have ab:¬k<(O w:J):=AY (AE y);have s:=GX j CO (0,0);clear h N u B
   go_wp2_with(first
    |(refine Db Z 103 _ _ Z (K (U W)+1) (Cd (0,0)) Z Z 103 (Cd (0,0)) j.flt (Ke) Z (Pr) ?_))
   refine Sz results127 s Z Z Z ⟨?_,s.2⟩;rw[AE q];simp[Sy]
  have ad:k<O w:=AY (AE y);have ab:k<(O w:J):=E;obtain⟨x,hx⟩:=IX (w[k]);have ae:w[k]?=H x:=B9;have z:=λV=>Ej ae V;have hr:=AE h;rw[KA ad,<-hx,Dn]at hr;clear h hx N;have b:=j.box;have L:=λV=>B V (i+k) 9;rw[r]at L;have p:(CH bs l (i+k)=AQ/\R=.error (CU bs l (i+k) 9))\/∃c,CH bs l (i+k)=AP/\bs[i+k]?=H c/\Ct bs lim (i+(k+1))/\((((c.toNat:J)==(x.toNat:J))=AQ/\R=.error (CU bs l (i+k) 9))\/(((c.toNat:J)==(x.toNat:J))=AP/\Dn bs lim (w.drop (k+1)) (i+(k+1))=R)):=by grind [D,Hs,It,GW,FY,IM,Ed,Ht,UInt8.toNat_inj]
  generalize CU bs l (i+k) 9=F at *;generalize CH bs l (i+k)=hh at *;have n:=G p;clear p hr B ae;go_wp2;refine Ef (S:=λV=>A7 V (K (U W)) (Cp bs fm d l) 115) B6 <| Cf 0 15 (.agg (Cp bs fm d l)) Z (λo f=>yI 3 f Z Z) b <| Ca 1 16 (C Y i) b <| Ca 2 17 (C Y k) b <| Cf 3 18 (C Y (i+k)) Z (λo f=>?y3) b ?_
  case y3=>(go_simp;exact Hu E)
  refine CC 4 (λag hK=>?_);go_simp;apply (u _).mono;rintro e w2 ⟨rfl,v⟩;simp only[];have a:=(v.block _ (Cc b)).trans b;refine hK.out _ _ a (λ_=>?_);clear hK u;rcases AE n with⟨rfl,m⟩|⟨c,rfl,Q,hN,p⟩
  case' inl =>
   have q:=G m;clear m n r z;refine Ca 5 20 (Ah AP) a <| Ca 6 21 (Ah AP) a <| Lu 7 (dst:=22) Z B6 Gb a <| Lu 8 (dst:=23) Z B6 Gb a <| Lu 9 (dst:=24) Z B6 Gb a <| Lu 10 (dst:=25) Z B6 Gb a <| Lu 11 (dst:=26) Z B6 Gb a <| Lu 12 (dst:=27) Z B6 Gb a <| Lu 13 (dst:=28) Z B6 Gb a <| Lu 14 (dst:=29) Z B6 Gb a <| Lu 15 (dst:=30) Z B6 Gb a <| Lu 16 (dst:=31) Z B6 Gb a <| Ca 17 32 (Ah AP) a ?_
  case' inr =>
   have aa:=λV=>Ej Q V;rw[r]at aa;have ah:=Dh Q;have HN:=G hN;have n:=G p;clear hN Q p r;refine Ca 5 20 (Ah AQ) a <| Ca 6 21 (Ah AQ) a <| Ca 7 22 (A8 (K (U W))) a <| Cf 8 23 (Ae ⟨Aw bs⟩) Z (λo f=>?y8) a ?_
   case y8=>(have h2:=Cb f 0;unfold Cp at h2;go_simp)
   refine Ca 9 24 (C Y i) a <| Ca 10 25 (C Y k) a <| Cf 11 26 (C Y (i+k)) Z (λo f=>?y11) a ?_
   case y11=>(go_simp;exact Hu E)
   refine Cf 12 27 (C Am c.toNat) Z (λo f=>?y12) a ?_
   case y12=>(go_simp)
   refine Ca 13 28 (Ae ⟨Aw w⟩) a <| Ca 14 29 (C Y k) a <| Cf 15 30 (C Am x.toNat) Z (λo f=>?y15) a ?_
   case y15=>(go_simp)
   refine Cf 16 31 (Ah (!(c.toNat==(x.toNat:J)))) Z (λo f=>?y16) a ?_
   case y16=>(go_simp;rfl)
   apply Ca 17 32 (Ah (!(c.toNat==(x.toNat:J)))) a;rcases AE n with⟨A,m⟩|⟨A,m⟩<;>rw[A]<;>have q:=G m
   rotate_left
   .refine CG ?_;go_simp;have HG:D ((k+1)+g=O w):=B9;clear b y ab HL c0 c1 c2 c3 aa z A m n;go_wp2;go_roundg g
    case measure=>omega
    case rel=>exact⟨_,Bb,HG,j.drew.next v,q,HN⟩
   clear aa A m n z
  all_goals
   refine CG ?_;go_simp;clear b y ad ab HL c0 c1 c2 c3
   go_wp2_with(first
    |(go_at_call 84;apply (L _).mono;clear L;rintro e w3 ⟨rfl,ac⟩)
    |(refine Db rfl 103 _ _ rfl (K (U W)+1) (Cd F) rfl rfl 103 (Cd (0,0)) ((j.drew.next v).next ac).flt (Ke) rfl (Pr) ?_)
    |(refine CT Z 115 _ Z (K (U W)) Z _ _ _ _ a underlying115 Z VF ?_))
   have s:=GX (j.drew.next v) ac F;refine Sz results127 s Z Z Z ⟨?_,s.2⟩;rw[AE q];rfl
theorem oB{P:Program}{fn:Func}{p q u:Tmp}{ty ty2:AN}(h:fn.results=#[.cell p ty,.tmp u,.cell q ty2]){tmps:A3}{w:X}{g g2:I}{t t2:AN}{cs cs2:A3}{fr fr2:I×I}{d d2:TypeDesc}(l:tmps.getD p AO=A8 g)(i:w.heap[g]?=H (M cs t fr))(n:P.underlying ty=H d)(c:(match d with|.struct _|.array _ _=>AP|_=>AQ)=AP)(hi:(P.info? ty).map (·.size)=H cs.size)(m:tmps.getD q AO=A8 g2)(j:w.heap[g2]?=H (M cs2 t2 fr2))(o:P.underlying ty2=H d2)(f:(match d2 with|.struct _|.array _ _=>AP|_=>AQ)=AP)(k:(P.info? ty2).map (·.size)=H cs2.size){v:Aq}(r:tmps.getD u AO=v):(results fn tmps).run P w=.ok (Af #[.agg cs,v,.agg cs2]) w:=by have e:(results fn tmps).run P w=((asAddr (tmps.getD p AO)).run P w).andThen λa x=>((loadVar ty a).run P x).andThen λv y=>((asAddr (tmps.getD q AO)).run P y).andThen λb z=>((loadVar ty2 b).run P z).andThen λs A=>.ok (Af #[v,tmps.getD u AO,s]) A:=Bk;subst r;rw[e,l,m];simp only[asAddr,Ga,FT,Jd w g t ty cs fr d i n c hi,Jd w g2 t2 ty2 cs2 fr2 d2 j o f k]
def Cm:Aq:=Ac Ao 0 0
def Ce(kind n:AI)(s:AT)(ks vs:Aq):A3:=#[Ab Al kind,Ab Al n,.string s,ks,vs]
def Cr:A3:=Ce 0 0 ⟨#[]⟩ Cm Cm
theorem Kf:(prog.info? 101).map (·.size)=H 5:=B6
theorem Oc{k n:J}{s:AT}:(prog.info? 101).map (·.size)=H (Ce k n s ks vs).size:=Kf
structure J1(W:World)(A:A3)(V:World):Prop where
 box:V.heap[W.heap.size]?=some (.cells A 115)
 th:V.heap[W.heap.size+1]?=some (.cells Cr 101)
 flt:V.heap[W.heap.size+2]?=some (.cells (Cd (0,0)) 103)
 below:A0 W V
theorem J1.next(h:J1 W A V)(hb:A0 V V'):J1 W A V' :=
 ⟨(hb.block _ (Cc h.box)).trans h.box,(hb.block _ (Cc h.th)).trans h.th,(hb.block _ (Cc h.flt)).trans h.flt,h.below.trans (hb.mono h.below.size)⟩
theorem J1.drew(h:J1 W A V):J1 W A V.drew:=⟨h.box,h.th,h.flt,h.below.drew⟩
theorem aa:J1 W A (Az (Az (Az W (M A 115)) (M Cr 101)) (M (Cd (0,0)) 103)) :=
 ⟨((Cx _ _ _ B7).trans (Cx _ _ _ Ba)).trans (Cj _),(Cx _ _ _ Ba).trans (B2 (Cj (Az W (M A 115)) (o:=(M Cr 101)))),B2 (Cj (Az (Az W (M A 115)) (M Cr 101)) (o:=(M (Cd (0,0)) 103))),((Cl).alloc Ba _).alloc B7 _⟩
theorem EB(h:J1 W A V)(hb:A0 V V')(y:A3)(x:J×J):(AD (AD V' (K (U W)+1) y) (K (U W)+2) (Cd x)).heap[K (U W)+1]?=H (M y 101)/\(AD (AD V' (K (U W)+1) y) (K (U W)+2) (Cd x)).heap[K (U W)+2]?=H (M (Cd x) 103)/\A0 W (AD (AD V' (K (U W)+1) y) (K (U W)+2) (Cd x)):=by
 have a:=h.next hb
 refine⟨?_,?_,Dj (Dj a.below E) E⟩
 .rw[Dg _ _ _ _ E];exact CM _ _ _ _ _ _ a.th
 exact CM _ _ _ _ _ _ (sx E a.flt)
theorem FZ(h:J1 W A V)(hb:A0 V V'){y:A3}:(AD V' (K (U W)+1) y).heap[K (U W)+2]?=H (M (Cd (0,0)) 103):=sx E (h.next hb).flt
theorem ab{k n:J}{s:AT}{a b:A4}:(Ce k n s (T a i j) (T b p q)).all (·.oneCell')=AP:=by simp[Ce,Value.oneCell']
def ae(r:A5 AI)(e:Ending):Prop:=match r with
 |.ok (z,q)=>e=Ak (Af #[.agg (Ce 3 z ⟨#[]⟩ Cm Cm),Ab Al q,.agg (Cd (0,0))])
 |.error f=>e=Ak (Af #[.agg Cr,Ab Al 0,.agg (Cd f)])
theorem oC(num d:I)(a:d<=9):(-(num:J)<(-9223372036854775808+(d:J)).tdiv 10)↔(9223372036854775808-d)/10<num:=B9
def SA(T:A3):Prop:=T.size=5/\T.all (·.oneCell')=AP
theorem thg{k n:J}{s:AT}{a b:A4}:SA (Ce k n s (T a i j) (T b p q)):=⟨rfl,ab⟩
theorem QE(x:I){y:I}(d:o.guard=Ao)(e:o.op=.store 101 (.tmp x) (.tmp y))(g:I)(T:A3)(hx:a.eval (.tmp x)=A8 g)(hy:a.eval (.tmp y)=.agg T)(c:A7 w g Cr 101)(b:SA T)(h:wpList As ops Q rest (a.put o.dst AO) (AD w g T)):wpList As ops Q (o::rest) a w :=
 Db d _ _ _ e g _ hx hy _ _ c (by rw[b.1];exact Kf) (by rw[b.1];rfl) b.2 h
theorem oD{p q:Tmp}{k n:J}{s:AT}(h:fn.results=#[.cell p 101,.tmp u,.cell q 103])(a:A7 w g (Ce k n s ks vs) 101)(b:A7 w g2 (Cd F) 103)(c:tmps.getD p AO=A8 g)(d:tmps.getD q AO=A8 g2)(e:tmps.getD u AO=v):(results fn tmps).run As w=.ok (Af #[.agg (Ce k n s ks vs),v,.agg (Cd F)]) w :=
 oB h c a underlying101 rfl (Oc) d b underlying103 rfl (Ke) e
theorem ER{p q:Tmp}{A:Act}{k n:J}{s:AT}{B:Prop}(h:fn.results=#[.cell p 101,.tmp u,.cell q 103])(a:A7 w g (Ce k n s ks vs) 101/\A7 w g2 (Cd F) 103/\B)(v:Aq)(c:A.tmps.getD p AO=A8 g)(d:A.tmps.getD q AO=A8 g2)(e:A.tmps.getD u AO=v)(b:A.defers=[])(f:R (Ak (Af #[.agg (Ce k n s ks vs),v,.agg (Cd F)])) w):bodyPost As fn R .ret A w:=CL (oD h a.1 a.2.1 c d e) b f
theorem KV(W:X)(bs:A1)(fm d l:J):D (J1 W (Cp bs fm d l) (Az (Az (Az W (M #[Ae ⟨Aw bs⟩,C Y fm,C Y d,C Y l] 115)) (M Cr 101)) (M (Cd (0,0)) 103))):=aa
theorem yT(x:I){k n:J}{s:AT}(a:A7 W g (Ce k n s ks vs) 101)(b:o.op=.load 101 (.tmp x))(hx:ev (.tmp x)=A8 g):(execOp ev o).run As W=.ok (.value (.agg (Ce k n s ks vs))) W :=
 VE b hx a underlying101 rfl (Oc)
def pO(r:A5 AH):Aq:=match r with
 |.ok (x,_)=>Af #[Ab Al x,.agg (Cd (0,0))]
 |.error f=>Af #[Ab Al 0,.agg (Cd f)]
theorem aW(W:X)(fm d:J)(hl:Lm bs l lim)(hi:Ct bs lim i)(hb:O bs<=281474976710656):Ar As 210 #[.agg (Cp bs fm d l),C Y i] W λab W'=>ab=Ak (pO (E3 bs lim 4 i 0))/\A0 W W':=by
 obtain⟨R,q⟩:=CA (E3 bs lim 4 i 0);rw[AE q];have ag:=hi.1;have Q:=G hl;have n:=G hi;have cH:=N5 bs fm d l;have cB:=Oa bs fm d l;unfold Cp;go_enter func210,ntmps210;go_wp2
 go_loopg[6,7] 4 (λg zn zk wr=>∃k a:I,zk=C Y k/\zn=C Y a/\D (k+g=i+4/\i<=k)/\D (a<=65535/\(1<=g->a*16+15<=65535)/\(2<=g->a*256+255<=65535)/\(3<=g->a*4096+4095<=65535)/\(4<=g->a=0))/\D (Iu W (Cp bs fm d l) (K (U W)+1) wr)/\D (E3 bs lim g k a=R)/\D (Ct bs lim k))
 case atStart=>exact⟨i,0,rfl,rfl,⟨rfl,Co _⟩,⟨E,E,E,E,λ_=>rfl⟩,O9,q,n⟩
 case round =>
  obtain⟨k,a,rfl,rfl,s,hm,o,q,n⟩:=hrel;have ah:=n.1;have ai:=hm.out.1;obtain⟨v,w,c2,x⟩:=DV o.box;have L:=λV=>cH V k;obtain _|g:=gk
  .have ae:¬k<(i:J)+4:=AY (AE s);have t:D (R=.ok (a,k)):=by grind [E3]
   go_wp2_with(first
    |(refine EW 5 72 Z Z (K (U W)+1) (0,0) Z Z ?_ ?_;exact o.flt))
   have p:=GX o CO (0,0);refine Sz results210 p Z Z Z ⟨?_,p.2⟩;rw[AE t];rfl
  have ae:k<(i:J)+4:=AY (AE s);have j:=AE q;rw[E3]at j;have A:(R=.error (CU bs l k 9)/\(CH bs l k=AQ\/CH bs l k=AP/\∃c,bs[k]?=H c/\((c.toNat:J)<48\/(57<(c.toNat:J)/\(c.toNat:J)<65)\/(70<(c.toNat:J)/\(c.toNat:J)<97)\/102<(c.toNat:J))))\/∃c b,CH bs l k=AP/\bs[k]?=H c/\Ct bs lim (k+1)/\E3 bs lim g (k+1) (a*16+b)=R/\b<16/\((48<=(c.toNat:J)/\(c.toNat:J)<=57/\(b:J)=(c.toNat:J)-48)\/(97<=(c.toNat:J)/\(c.toNat:J)<=102/\(b:J)=(c.toNat:J)-87)\/(65<=(c.toNat:J)/\(c.toNat:J)<=70/\(b:J)=(c.toNat:J)-55)):=by
   rcases QC (bs:=bs) (lim:=lim) k with aj|⟨c,f,z⟩
   .grind [D,It,Hs,FY,GW]
   rw[f]at j;simp only[]at j;rw[Ci z]at j;have N:=IM Q n f z;rcases hv:Jj c with _|b
   .grind [D,Ht,Jj,Eh]
   rw[hv]at j;refine AG ⟨c,b,N,f,Ed n f z,j,Sm hv,?_⟩;grind [Jj,Eh]
  have aa:=λV=>cB V k 9;generalize CU bs l k 9=F at *;generalize CH bs l k=N at *;rcases A with⟨hE,A⟩|⟨c,b,rfl,f,hN,j,af,h3⟩
  .have t:=G hE;rcases A with rfl|⟨rfl,c,f,m|⟨m,r⟩|⟨m,r⟩|m⟩
   all_goals
    try have ac:=λV=>Ej f V
    try have ad:=Dh f
    try clear f
    go_wp2_with(first
     |(go_at_call 116;refine DW (L _) o.next (λ_ h=>h.box) ?_;intro w2 u v w c2 x)
     |(go_at_call 84;refine DW (aa _) u.next (λ_ h=>h.box) ?_;intro w3 B v w c2 x)
     |(refine EW _ _ Z Z (K (U W)+1) F Z Z ?_ ?_;exact B.flt))
    have p:=GX B CO F;refine Sz results210 p Z Z Z ⟨?_,p.2⟩;rw[AE t];rfl
  have HN:=G j;have e:=G hN;have ac:=λV=>Ej f V;have ad:=Dh f;have S:D (a*16+b<=65535/\(1<=g->(a*16+b)*16+15<=65535)/\(2<=g->(a*16+b)*256+255<=65535)/\(3<=g->(a*16+b)*4096+4095<=65535)/\(4<=g->a*16+b=0)):=by grind [D]
  rcases h3 with⟨m,r,y⟩|⟨m,r,y⟩|⟨m,r,y⟩
  all_goals
   have P:D _:=y
   go_wp2_with(first
    |(go_at_call 116;apply DW (L _) o.next (λ_ h=>h.box);intro w2 u v w c2 x))
   go_roundg g
   case measure=>omega
   case rel=>exact⟨_,_,Bb,congrArg _ (AY (AE P)),⟨AY (AE s),AY (AE s)⟩,S,u,HN,e⟩
def E9(c:AI):AI×AI×AI :=
 if c<128 then(0,0,1)else if 194<=c/\c<=223 then(128,191,2)else if c=224 then(160,191,3)else if c=237 then(128,159,3)
 else if 225<=c/\c<=239 then(128,191,3)else if c=240 then(144,191,4)else if 241<=c/\c<=243 then(128,191,4)else if c=244 then(128,143,4)else(0,0,0)
theorem bq{c:J}:Ar As 190 #[C Am c] w λe a=>e=Ak (Af #[C Am (E9 c).1,C Am (E9 c).2.1,C Y (E9 c).2.2])/\a=w:=by
 go_enter func190,ntmps190;go_wp2
 all_goals go_ret3
 all_goals refine⟨?_,rfl⟩
 all_goals simp only[UZ,MN]at *
 all_goals unfold E9
 all_goals(repeat(first|rw[Cn E]|rw[Ci E]))
 all_goals rfl
def ET(s:AT):AI:=if s.toList==[100,114,111,112]then 1 else if s.toList==[109,97,115,107]then 2 else if s.toList==[116,97,103]then 3 else 0
theorem Wc{s:AT}:Ar As 144 #[.string s] w λe a=>e=Ak (C Y (ET s))/\a=w:=by
 go_enter func144,ntmps144;go_wp2
 all_goals go_ret
 all_goals refine⟨?_,rfl⟩
 all_goals unfold ET
 all_goals(repeat(first|rw[Cn (by assumption)]|rw[Ci B9]))
 all_goals rfl
theorem Wd(s:AT)(w:X):Ar As 177 #[.string s] w λe a=>e=Ak (Af #[C Y (ET s),Ah (ET s != 0)])/\a=w:=by
 go_enter func177,ntmps177;go_wp2
 all_goals go_ret2
 all_goals refine⟨?_,rfl⟩
 all_goals unfold ET
 all_goals(repeat(first|rw[Cn (by assumption)]|rw[Ci B9]))
 all_goals rfl
def L2(l:A1):AI:=match l with
 |[b]=>if 48<=b.toNat/\b.toNat<=57 then(b.toNat:AI)-48 else 0
 |_=>0
def Iv(l:A1)(n:AI):AK:=match l with
 |[b]=>AR (48<=b.toNat/\b.toNat<=57)&&AR ((b.toNat:AI)-48<n)
 |_=>AQ
theorem We{s:AT}(h:s.size=1):s.data.toList=[s[0]]:=by
 obtain⟨⟨l⟩⟩:=s
 match l,h with
 |[b],_=>rfl
theorem br{l:A1}(n:J)(h:O l≠1):L2 l=0/\Iv l n=AQ:=by
 match l,h with
 |[],_=>exact⟨rfl,rfl⟩
 |_::_::_,_=>exact⟨rfl,rfl⟩
theorem Wf(s:AT)(n:J)(w:X):Ar As 176 #[.string s,C Y n] w λe d=>e=Ak (Af #[C Y (L2 s.data.toList),Ah (Iv s.data.toList n)])/\d=w:=by
 by_cases c:s.size=1
 .have f:(s.size:J)=1:=E;have b:=G (We c);by_cases g:(s[0].toNat:J)<48
  .have a:D (L2 [s[0]]=0/\Iv [s[0]] n=AQ):=⟨Ci E,by grind [Iv]⟩
   go_enter func176,ntmps176;go_wp2
   all_goals go_ret2
   all_goals exact⟨by rw[AE b,a.1,a.2];rfl,rfl⟩
  have h:(48:J)<=s[0].toNat:=E;by_cases i:(57:J)<s[0].toNat
  .have a:D (L2 [s[0]]=0/\Iv [s[0]] n=AQ):=⟨Ci E,by grind [Iv]⟩
   go_enter func176,ntmps176;go_wp2
   all_goals go_ret2
   all_goals exact⟨by rw[AE b,a.1,a.2];rfl,rfl⟩
  have j:(s[0].toNat:J)<=57:=E;have a:D (L2 [s[0]]=s[0].toNat-48/\Iv [s[0]] n=AR (s[0].toNat-48<n)):=⟨Cn E,by grind [Iv]⟩
  go_enter func176,ntmps176;go_wp2
  all_goals go_ret2
  all_goals exact⟨by rw[AE b,a.1,a.2];rfl,rfl⟩
 have:(s.size:J)≠1:=E;have a:=G (br n (by rw[FE];exact c));go_enter func176,ntmps176;go_wp2
 all_goals go_ret2
 all_goals exact⟨by rw[a.1,a.2];rfl,rfl⟩
def Jp(lo hi:AI)(l:A1)(j:AH):AK :=
 AR (j<At l)&&(if j=1 then AR (lo<=((l.getD j 0).toNat:AI)/\((l.getD j 0).toNat:AI)<=hi)else AR (128<=(l.getD j 0).toNat/\(l.getD j 0).toNat<=191))
def IN(lo hi:AI)(l:A1):AH->AH->AH×AK
 |0,j=>(j,AP)
 |g+1,j=>if Jp lo hi l j then IN lo hi l g (j+1)else(j,AQ)
def Hd(l:A1):AH×AK :=
 if(E9 (l.getD 0 0).toNat).2.2=0 then(0,AQ)else IN (E9 (l.getD 0 0).toNat).1 (E9 (l.getD 0 0).toNat).2.1 l ((E9 (l.getD 0 0).toNat).2.2.toNat-1) 1
theorem q9(c:J):(E9 c).2.2=0\/(E9 c).2.2=1\/(E9 c).2.2=2\/(E9 c).2.2=3\/(E9 c).2.2=4:=by grind [E9]
def Fm(s:AT)(i n:AH):A1:=(s.data.toList.take n).drop i
theorem bu(s:AT)(i n:I)(h:n<=s.size):O (Fm s i n)=n-i:=by unfold Fm;simp_all
theorem bw{s:AT}(j:I)(h:n<=s.size)(a:i+j<n):(Fm s i n).getD j 0=s[i+j]'B5:=by
 unfold Fm;rw[List.getD_eq_getElem?_getD,YO,List.getElem?_take,Cn a];have:i+j<O s.data.toList:=by have:O s.data.toList=s.size:=FE;omega
 rw[D3 this];rfl
theorem Wg{s:AT}(z:n<=s.size)(hi:i<n)(hs:s.size<=4611686018427387904):Ar As 163 #[.string s,C Y i,C Y n] w λe A=>e=Ak (Af #[C Y (Hd (Fm s i n)).1,Ah (Hd (Fm s i n)).2])/\A=w:=by
 have R:(i:J)<s.size:=E;have S:i<s.size:=E;have q:D (((Fm s i n).getD 0 0)=s[i]):=bw 0 z E;obtain⟨c,b,k,f⟩:∃c b k,D (E9 s[i].toNat=(c,b,k)):=⟨_,_,_,show E9 _=(_,_,_)from rfl⟩
 have m:=q9 s[i].toNat;rw[AE f]at m;simp only[]at m;have F:D (Hd (Fm s i n)=if k=0 then(0,AQ)else IN c b (Fm s i n) (k.toNat-1) 1):=by grind [D,Hd]
 clear q;by_cases u:k=0
 .subst u;have o:D (Hd (Fm s i n)=(0,AQ)):=B9;go_enter func163,ntmps163
  go_wp2_with(first
   |(go_at_call 190;apply (bq).mono;rintro e p ⟨rfl,rfl⟩;rw[AE f]))
  go_ret2
  exact⟨by rw[AE o];rfl,rfl⟩
 obtain⟨a,rfl⟩:∃a:I,k=a:=⟨k.toNat,E⟩
 have aa:1<=a/\a<=4:=by simp at m;omega
 have W:((a:J)==0)=AQ:=B9;have o:D (Hd (Fm s i n)=IN c b (Fm s i n) (a-1) 1):=B9;go_enter func163,ntmps163
 go_wp2_with(first
  |(go_at_call 190;apply (bq).mono;rintro e p ⟨rfl,rfl⟩;rw[AE f]))
 go_loopg[11] (a-1) (λg x wr=>∃j:I,D (j+g=a)/\x=C Y j/\p=wr/\D (1<=j)/\D (Hd (Fm s i n)=IN c b (Fm s i n) g j))
 case atStart=>grind [D]
 case round =>
  obtain⟨j,l,rfl,rfl,V,r⟩:=hrel;obtain _|g:=gk
  .have y:¬(j:J)<a:=AY (AE l);go_wp2
   go_ret2
   exact⟨(by rw[AE r];have:j=a:=(AY (AE l));subst this;rfl),rfl⟩
  have y:(j:J)<a:=AY (AE l);by_cases L:(n:J)<=(i:J)+j
  .have d:D (Hd (Fm s i n)=(j,AQ)):=by grind [IN,Jp,bu]
   go_wp2
   go_ret2
   exact⟨by rw[AE d];rfl,rfl⟩
  have N:(i:J)+j<n:=E;have Q:(i:J)+j<s.size:=E;have P:i+j<s.size:=E;have B:D (Jp c b (Fm s i n) j=if j=1 then AR (c<=(s[i+j].toNat:J)/\(s[i+j].toNat:J)<=b)else AR (128<=s[i+j].toNat/\s[i+j].toNat<=191)):=by grind [D,Jp,bw,bu]
  have t:D (Jp c b (Fm s i n) j=AP->Hd (Fm s i n)=IN c b (Fm s i n) g (j+1)):=λh=>by grind [D,IN]
  have d:D (Jp c b (Fm s i n) j=AQ->Hd (Fm s i n)=(j,AQ)):=λh=>by grind [D,IN]
  go_wp2
  all_goals first
   |(go_ret2;have hF:=d.out (by grind [D]);exact⟨by rw[hF];simp[*],rfl⟩)
   |go_roundg g
    case measure=>omega
    case rel =>
     have v:=t.out (by grind [D]);refine⟨_,B9,?_,Z,Bp,v⟩
     first|go_num|(simp[*];done)
theorem qb{α β:Type}{p:α×β}:p=(p.1,p.2):=rfl
def G4(l:A1):AH:=if(Hd l).2 then(Hd l).1 else 0
theorem qd{s:AT}(hi:i<s.size)(f:s.size<=4611686018427387904):Ar As 201 #[.string s,C Y i] w λe g=>e=Ak (C Y (G4 (s.data.toList.drop i)))/\g=w:=by
 have c:D (Fm s i s.size=s.data.toList.drop i):=by show _=_;unfold Fm;have j:O s.data.toList=s.size:=FE;grind
 obtain⟨k,b,d⟩:∃k b,D (Hd (s.data.toList.drop i)=(k,b)):=⟨_,_,qb⟩
 cases b
 .have a:D (G4 (s.data.toList.drop i)=0):=by grind [D,G4]
  go_enter func201,ntmps201
  go_wp2_with(first
   |(go_at_call 163;apply (Wg (Co _) hi f).mono;rintro e h ⟨rfl,rfl⟩;rw[AE c,AE d]))
  go_ret;exact⟨by rw[AE a];rfl,rfl⟩
 have a:D (G4 (s.data.toList.drop i)=k):=by grind [D,G4]
 go_enter func201,ntmps201
 go_wp2_with(first
  |(go_at_call 163;apply (Wg (Co _) hi f).mono;rintro e h ⟨rfl,rfl⟩;rw[AE c,AE d]))
 go_ret;exact⟨by rw[AE a];rfl,rfl⟩
end
section
open Go.RowKit Go.Lib
def GE(x:AH):A1 :=
 if x<128 then[AW x]else if x<=255 then 204::CE x 1 else if x<=65535 then 205::CE x 2 else if x<=4294967295 then 206::CE x 4 else 207::CE x 8
def He(z:AI):A1 :=
 if -32<=z then[AW (z%256).toNat]else if -128<=z then 208::CE (z%18446744073709551616).toNat 1 else if -32768<=z then 209::CE (z%18446744073709551616).toNat 2 else if -2147483648<=z then 210::CE (z%18446744073709551616).toNat 4 else 211::CE (z%18446744073709551616).toNat 8
def D4(s x:AH):A1 :=
 if x<24 then[AW (32*s+x)]else if x<=255 then AW (32*s+24)::CE x 1 else if x<=65535 then AW (32*s+25)::CE x 2 else if x<=4294967295 then AW (32*s+26)::CE x 4 else AW (32*s+27)::CE x 8
theorem SN(h:x<256):CJ (AW x)=C Am (x:J):=ke1
def EC(x:AH):A1:=if x<32 then[AW (160+x)]else if x<=255 then 217::CE x 1 else if x<=65535 then 218::CE x 2 else 219::CE x 4
def G5(x:AH):A1:=if x<=255 then 196::CE x 1 else if x<=65535 then 197::CE x 2 else 198::CE x 4
def Kh(x:AH):A1:=if x<16 then[AW (144+x)]else if x<=65535 then 220::CE x 2 else 221::CE x 4
def Ki(x:AH):A1:=if x<16 then[AW (128+x)]else if x<=65535 then 222::CE x 2 else 223::CE x 4
theorem SO{a:A4}{c:I}{b:AU}{u:Aq}(hb:base<=K (U W))(g:W.ownsRow base 5 1 (T a n c) (O bs) (bs.map CJ))(h:CJ b=u)(e:W'.ownsRow base 5 1 v' (O bs+1) (bs.map CJ++[u]))(d:(Az W (Obj.cells #[u] 5)).grownBy W' (Ax (Go.Value.slice a n c))):Ck W' base v' (bs++[b])/\Below base W W':=by have f:=M6 e h;obtain⟨j,i,rfl⟩:=ownsRow_succ e;refine⟨⟨f,?_,_,_,_,Z⟩,GC ((Cq base W).alloc hb _) (g.alloc _) d B7⟩;have:=d.size;simp at this;omega
theorem qg(l:A1):strCells ⟨Aw l⟩=l.map CJ:=by unfold strCells;simp[CJ]
theorem Nb{l:A1}(h:Ck W base v bs)(c:W'.ownsRow base 5 1 v' (O bs+(⟨Aw l⟩:AT).size) (bs.map CJ++strCells ⟨Aw l⟩))(d:W.grownBy W' (Ax v)):Ck W' base v' (bs++l)/\Below base W W':=by obtain⟨f,b,_⟩:=h;have a:=GC (Cq base W) f d b;have i:(⟨Aw l⟩:AT).size=O l:=KC ..;rw[i,qg]at c;refine⟨⟨B9,Cy b a.size,?_⟩,a⟩;rcases c.2 with⟨e,_⟩|⟨g,j,k,e,_⟩<;>grind
def Ow(P:AH->Prop)(W:Ap)(base:AH)(v:Aq)(bs:A1):Prop:=Ck W base v bs/\∀e,P e->Ax v≠An e/\e<_root_.Array.size (Go.World.heap W)
def Be(P:AH->Prop)(base:AH)(W W':Ap):Prop:=Below base W W'/\∀e,P e->W'.heap[e]?=W.heap[e]?
theorem Be.trans{A B C:X}(h:Be P base A B)(k:Be P base B C):Be P base A C:=⟨h.1.trans k.1,λe a=>(k.2 e a).trans (h.2 e a)⟩
def Kj(P:AH->Prop)(W:Ap)(base:AH)(bs zs:A1)(e:Ending)(W':Ap):Prop:=∃a n c,e=Ak (Ac a n c)/\Go.RowKit.Hid (Ow P W' base (Ac a n c) (bs++zs)/\Be P base W W')
theorem Pw(h:Ar As f args W (Kj (λ_=>False) W base bs zs)):Ar As f args W λe a=>∃c,e=Ak c/\Ck a base c (bs++zs)/\Below base W a:=h.mono λ_ _ ⟨_,_,_,d,b⟩=>⟨_,d,b.out.1.1,b.out.2.1⟩
theorem Nc(h:Ck W base v bs):Ow (λ_=>False) W base v bs:=⟨h,λ_ h=>h.elim⟩
theorem qh(h:Ow P W base v bs)(a:A0 W V)(c:V.grownBy W' (Ax v))(d:Ck W' base v' zs/\Below base W W')(i:Ax v'=Ax v\/Ax v'=H (K (U V))):Ow P W' base v' zs/\Be P base W W':=by
 have j:=a.size;have k:=c.size;refine⟨⟨d.1,λe b=>?_⟩,d.2,λe b=>?_⟩<;>obtain⟨f,g⟩:=h.2 e b
 .grind
 exact(c.block e E (λx=>f x.symm)).trans (a.block e g)
theorem Et{A:Act}{c:I}{a:A4}{s x:Operand}(b:AU)(own:D (Ow P W base (T a n c) bs))(v:CJ b=C Am z)(h:∀g f e,D (Ow P e base (T (Aa g) (O bs+1) f) (bs++[b])/\Be P base W e)->wpList As ops Q rest (A.put o.dst (T (Aa g) (O bs+1) f)) e)(hl:O bs<=1000000008:=by omega)(m:o.guard=Ao:=by rfl)(q:o.op=.call {callee:=.builtin .append,args:=#[s,x],argTypes:=#[50,50]}:=by rfl)(t:A.eval s=T a n c:=by rfl)(hx:A.eval x=T (Aa (K (U W))) 1 1:=by rfl):wpList As ops Q (o::rest) A (Az W (M #[C Am z] 5)):=by obtain⟨F,p,w,y,B⟩:=DD Tryz.infoU8;obtain⟨d,r⟩:=own.out;refine wpList_append_own_at _ m s x 50 q base 5 F (C Am 0) 1 1 underlying50 p w y B Z B8 _ _ _ t (d.1.alloc _) ⟨K (U W),0,Ao⟩ 1 1 [C Am z] hx Z (EI) (λu j=>by simp at j;subst j;rfl) Bc E (B0 d.2.1) λN e k i _ l=>?_;have L:=qh ⟨d,r⟩ Cl i (SO d.2.1 d.1 v k i) l;grind [D,ownsRow_succ]
theorem Ok{a:A4}{c:I}{b:AU}{w:I}(d:D (Ow P W base (T a n c) (bs++[b])/\Be P base W0 W))(j:D (zs=b::CE x w))(r:w<=8:=by decide)(hl:O bs<=999999999:=by omega):Ar As 187 #[T a n c,C .u64 x,C Y w] W (Kj P W0 base bs zs):=by
 have h:D ((bs++[b])++CE x w=bs++zs):=by grind [D]
 have q:O (bs++[b])<=1000000000:=B7;clear j;generalize bs++[b]=bt at *;go_enter func187,ntmps187;go_wp2
 go_loopg[0,7] w (λg y z wr=>∃(e:A1) (a n c:_),y=T a n c/\z=C Y ((g:J)-1)/\g<=w/\O e<=1000000000+(w-g)/\D (Ow P wr base (T a n c) e)/\D (Be P base W0 wr)/\D (e++CE x g=bs++zs))
 case atStart=>exact⟨bt,a,n,c,rfl,Bb,Co _,E,d.1,d.2,h⟩
 case round =>
  clear d h;obtain⟨e,a,n,c,rfl,rfl,p,s,d,f,l⟩:=hrel;obtain _|k:=gk
  .go_wp2;go_ret;have k:e=bs++zs:=by grind [D,CE]
   subst k;exact⟨_,_,_,Z,d,f⟩
  go_wp2_with(first
   |(at_builtin;refine Et _ d (nO) ?_;intro o m t i))
  go_roundg k
  case measure=>omega
  case rel =>
   refine⟨e++[AW (x/2^(8*k)%256)],_,_,_,Z,Bb,E,B9,i.1,f.trans i.2,?_⟩;grind [CE]
theorem Ol{a:A4}{c:I}{b:AU}(d:D (zs=[b]))(h:D (Ow P W' base (T a n c) (bs++[b])/\Be P base W W')):Kj P W base bs zs (Ak (T a n c)) W':=⟨_,_,_,rfl,by rw[AE d];exact h⟩
theorem qi:∀(s:Fin 8) (x:Fin 32),bits .or Am ((s.val:J)*32) (x.val:J)=((32*s.val+x.val:I):J):=B8
theorem QS{s:I}(x:I)(a:s<8)(hx:x<32):CJ (AW (32*s+x))=C Am (bits .or Am ((s:J)*32) (x:J)):=by rw[SN E];have:=qi ⟨s,a⟩ ⟨x,hx⟩;grind
theorem qj:∀(s:Fin 3) (x:Fin 32),x.val<16\/s.val=2->bits .or Am (128+16*s.val:I) (x.val:J)=((128+16*s.val+x.val:I):J):=B8
theorem Px(s:I)(a:s<3)(hx:x<16\/s=2/\x<32):CJ (AW (128+16*s+x))=C Am (bits .or Am (128+16*s:I) (x:J))/\CJ (AW (128+16*s+x))=C Am ((128+16*s:I)+(x:J)):=by rw[SN E];have:=qj ⟨s,a⟩ ⟨x,E⟩ (by simp only[];omega);grind
theorem qk(hx:x<18446744073709551616)(hl:O bs<=999999999)(h:Ow P W base v bs):Ar As 158 #[v,C .u64 x] W (Kj P W base bs (GE x)):=by
 obtain⟨a,n,c,rfl⟩:=h.1.2.2;have d:=G h;clear h;have l:(x<128/\D (GE x=[AW x]))\/(¬x<128/\x<=255/\D (GE x=204::CE x 1))\/(¬x<128/\¬x<=255/\x<=65535/\D (GE x=205::CE x 2))\/(¬x<128/\¬x<=255/\¬x<=65535/\x<=4294967295/\D (GE x=206::CE x 4))\/(¬x<128/\¬x<=255/\¬x<=65535/\¬x<=4294967295/\D (GE x=207::CE x 8)):=by grind (splits:=25) [GE,D]
 rcases l with⟨f,b⟩|⟨f,g,b⟩|⟨f,g,c2,b⟩|⟨f,g,c2,k,b⟩|⟨f,g,c2,k,b⟩
 all_goals
  go_enter func158,ntmps158
  go_wp2_with(first
   |(at_builtin;(first|refine Et _ d (SN E) ?_|refine Et 204 d rfl ?_|refine Et 205 d rfl ?_|refine Et 206 d rfl ?_|refine Et 207 d rfl ?_);intro q p s i)
   |(go_at_call 187;refine(Ok i b).mono ?_;rintro e t ⟨m,r,o,rfl,j⟩))
  go_ret
  first|exact⟨_,_,_,rfl,j⟩|exact Ol b i
theorem ql{a:A4}{c:I}{b:AU}{w:I}(d:D (Ow P W base (T a n c) (bs++[b])/\Be P base W0 W))(f:D (zs=b::CE (z%18446744073709551616).toNat w))(g:w<=8:=by decide)(hl:O bs<=999999999:=by omega):Ar As 187 #[T a n c,C .u64 (IntKind.u64.wrap z),C Y w] W (Kj P W0 base bs zs):=by have e:IntKind.u64.wrap z=(((z%18446744073709551616).toNat:I):J):=Bi;grind [Ok]
theorem qm(r : -9223372036854775808<=z)(s:z<0)(hl:O bs<=999999999)(h:Ow P W base v bs):Ar As 157 #[v,C Y z] W (Kj P W base bs (He z)):=by
 obtain⟨a,n,c,rfl⟩:=h.1.2.2;have d:=G h;clear h;have l:(-32<=z/\D (He z=[AW (z%256).toNat]))\/(¬-32<=z /\ -128<=z/\D (He z=208::CE (z%18446744073709551616).toNat 1))\/(¬-32<=z/\¬-128<=z /\ -32768<=z/\D (He z=209::CE (z%18446744073709551616).toNat 2))\/(¬-32<=z/\¬-128<=z/\¬-32768<=z /\ -2147483648<=z/\D (He z=210::CE (z%18446744073709551616).toNat 4))\/(¬-32<=z/\¬-128<=z/\¬-32768<=z/\¬-2147483648<=z/\D (He z=211::CE (z%18446744073709551616).toNat 8)):=by grind (splits:=25) [He,D]
 rcases l with⟨f,b⟩|⟨f,g,b⟩|⟨f,g,c2,b⟩|⟨f,g,c2,k,b⟩|⟨f,g,c2,k,b⟩
 all_goals
  go_enter func157,ntmps157
  go_wp2_with(first
   |(at_builtin;(first|refine Et _ d ((SN (x:=(z%256).toNat) E).trans (by congr 1;omega)) ?_|refine Et 208 d rfl ?_|refine Et 209 d rfl ?_|refine Et 210 d rfl ?_|refine Et 211 d rfl ?_);intro q p u i)
   |(go_at_call 187;refine(ql i b).mono ?_;rintro e w ⟨m,t,o,rfl,j⟩))
  go_ret
  first|exact⟨_,_,_,rfl,j⟩|exact Ol b i
theorem bC{s:I}(f:s<8)(hx:x<18446744073709551616)(hl:O bs<=999999999)(h:Ow P W base v bs):Ar As 155 #[v,C Am s,C .u64 x] W (Kj P W base bs (D4 s x)):=by
 obtain⟨a,n,c,rfl⟩:=h.1.2.2;have d:=G h;clear h;have m:(x<24/\D (D4 s x=[AW (32*s+x)]))\/(¬x<24/\x<=255/\D (D4 s x=AW (32*s+24)::CE x 1))\/(¬x<24/\¬x<=255/\x<=65535/\D (D4 s x=AW (32*s+25)::CE x 2))\/(¬x<24/\¬x<=255/\¬x<=65535/\x<=4294967295/\D (D4 s x=AW (32*s+26)::CE x 4))\/(¬x<24/\¬x<=255/\¬x<=65535/\¬x<=4294967295/\D (D4 s x=AW (32*s+27)::CE x 8)):=by grind (splits:=25) [D4,D]
 rcases m with⟨g,b⟩|⟨g,i,b⟩|⟨g,i,c2,b⟩|⟨g,i,c2,l,b⟩|⟨g,i,c2,l,b⟩
 all_goals
  go_enter func155,ntmps155
  go_wp2_with(first
   |(at_builtin;(first|refine Et _ d (QS x f E) ?_|refine Et _ d (QS 24 f E) ?_|refine Et _ d (QS 25 f E) ?_|refine Et _ d (QS 26 f E) ?_|refine Et _ d (QS 27 f E) ?_);intro r q u j)
   |(go_at_call 187;refine(Ok j b).mono ?_;rintro e w ⟨o,t,p,rfl,k⟩))
  go_ret
  first|exact⟨_,_,_,rfl,k⟩|exact Ol b j
theorem qo(x:I)(hx:x<4294967296)(hl:O bs<=999999999)(h:Ow P W base v bs):Ar As 188 #[v,C .u64 x] W (Kj P W base bs (EC x)):=by
 obtain⟨a,n,c,rfl⟩:=h.1.2.2;have b:=G h;clear h;have k:(x<32/\D (EC x=[AW (160+x)]))\/(¬x<32/\x<=255/\D (EC x=217::CE x 1))\/(¬x<32/\¬x<=255/\x<=65535/\D (EC x=218::CE x 2))\/(¬x<32/\¬x<=255/\¬x<=65535/\D (EC x=219::CE x 4)):=by grind (splits:=25) [EC,D]
 rcases k with⟨f,d⟩|⟨f,i,d⟩|⟨f,i,c2,d⟩|⟨f,i,c2,d⟩
 all_goals
  go_enter func188,ntmps188
  go_wp2_with(first
   |(at_builtin;(first|refine Et (AW (160+x)) b (Px 2 B8 E).1 ?_|refine Et (AW (160+x)) b (Px 2 B8 E).2 ?_|refine Et 217 b rfl ?_|refine Et 218 b rfl ?_|refine Et 219 b rfl ?_);intro p o r g)
   |(go_at_call 187;refine(Ok g d).mono ?_;rintro e s ⟨l,q,m,rfl,j⟩))
  go_ret
  first|exact⟨_,_,_,rfl,j⟩|exact Ol d g
theorem qp(hx:x<4294967296)(hl:O bs<=999999999)(h:Ow P W base v bs):Ar As 160 #[v,C .u64 x] W (Kj P W base bs (G5 x)):=by
 obtain⟨a,n,c,rfl⟩:=h.1.2.2;have d:=G h;clear h;have k:(x<=255/\D (G5 x=196::CE x 1))\/(¬x<=255/\x<=65535/\D (G5 x=197::CE x 2))\/(¬x<=255/\¬x<=65535/\D (G5 x=198::CE x 4)):=by grind [D,G5]
 rcases k with⟨g,b⟩|⟨g,j,b⟩|⟨g,j,b⟩
 all_goals
  go_enter func160,ntmps160
  go_wp2_with(first
   |(at_builtin;(first|refine Et 196 d rfl ?_|refine Et 197 d rfl ?_|refine Et 198 d rfl ?_);intro p o r f)
   |(go_at_call 187;refine(Ok f b).mono ?_;rintro e s ⟨l,q,m,rfl,i⟩))
  go_ret
  first|exact⟨_,_,_,rfl,i⟩|exact Ol b f
theorem qq(hx:x<4294967296)(hl:O bs<=999999999)(h:Ow P W base v bs):Ar As 161 #[v,C Am 144,C Am 220,C .u64 x] W (Kj P W base bs (Kh x)):=by
 obtain⟨a,n,c,rfl⟩:=h.1.2.2;have b:=G h;clear h;have k:(x<16/\D (Kh x=[AW (144+x)]))\/(¬x<16/\x<=65535/\D (Kh x=220::CE x 2))\/(¬x<16/\¬x<=65535/\D (Kh x=221::CE x 4)):=by grind [D,Kh]
 rcases k with⟨g,d⟩|⟨g,j,d⟩|⟨g,j,d⟩
 all_goals
  go_enter func161,ntmps161
  go_wp2_with(first
   |(at_builtin;(first|refine Et (AW (144+x)) b (Px 1 B8 E).1 ?_|refine Et (AW (144+x)) b (Px 1 B8 E).2 ?_|refine Et 220 b rfl ?_|refine Et 221 b rfl ?_);intro p o r f)
   |(go_at_call 187;refine(Ok f d).mono ?_;rintro e s ⟨l,q,m,rfl,i⟩))
  go_ret
  first|exact⟨_,_,_,rfl,i⟩|exact Ol d f
theorem qr(hx:x<4294967296)(hl:O bs<=999999999)(h:Ow P W base v bs):Ar As 161 #[v,C Am 128,C Am 222,C .u64 x] W (Kj P W base bs (Ki x)):=by
 obtain⟨a,n,c,rfl⟩:=h.1.2.2;have b:=G h;clear h;have k:(x<16/\D (Ki x=[AW (128+x)]))\/(¬x<16/\x<=65535/\D (Ki x=222::CE x 2))\/(¬x<16/\¬x<=65535/\D (Ki x=223::CE x 4)):=by grind [D,Ki]
 rcases k with⟨g,d⟩|⟨g,j,d⟩|⟨g,j,d⟩
 all_goals
  go_enter func161,ntmps161
  go_wp2_with(first
   |(at_builtin;(first|refine Et (AW (128+x)) b (Px 0 B8 E).1 ?_|refine Et (AW (128+x)) b (Px 0 B8 E).2 ?_|refine Et 222 b rfl ?_|refine Et 223 b rfl ?_);intro p o r f)
   |(go_at_call 187;refine(Ok f d).mono ?_;rintro e s ⟨l,q,m,rfl,i⟩))
  go_ret
  first|exact⟨_,_,_,rfl,i⟩|exact Ol d f
theorem I1:∀k,O (CE x k)=k
 |0=>rfl
 |k+1=>by rw[CE,FU,I1 k]
theorem bD{l:A1}(hl:O bs<=999999999)(y:O l<=999999999)(h:Ow P W base v bs):Ar As 156 #[v,Ae ⟨Aw l⟩] W λe g=>∃f,e=Ak f/\Ck g base f (bs++(D4 3 (O l)++l))/\Be P base W g:=by
 obtain⟨t,o,q,r,s⟩:=DD Tryz.infoU8;have m:Ar As 155 #[v,C Am 3,C .u64 (O l)] W (Kj P W base bs (D4 3 (O l))):=bC B8 E hl h;have w:O (D4 3 (O l))<=9:=kfn;have A:(⟨Aw l⟩:AT).size=O l:=KC ..;obtain⟨a,n,c,rfl⟩:=h.1.2.2;go_enter func156,ntmps156
 go_wp2_with(first
  |(go_at_call 155;refine m.mono ?_;rintro e F ⟨u,B,c2,rfl,b⟩)
  |(at_builtin;refine wpList_append_own_string _ Z _ _ 50 9 Z base 5 t underlying50 underlying9 o q r s _ _ _ Z b.1.1.1 ⟨Aw l⟩ Z By B9 b.1.1.2.1 ?_;intro f L p j z;have d:=G (Nb b.1.1 p j);have k:=G (λe i=>j.block e (b.1.2 e i).2 (λx=>(b.1.2 e i).1 x.symm))))
 go_ret;rw[KD]at d;exact⟨_,Z,d.1,b.2.trans ⟨d.2,k⟩⟩
theorem bE{l:A1}(hl:O bs<=999999999)(y:O l<=999999999)(h:Ow P W base v bs):Ar As 159 #[v,Ae ⟨Aw l⟩] W λe g=>∃f,e=Ak f/\Ck g base f (bs++(EC (O l)++l))/\Be P base W g:=by
 obtain⟨t,o,q,r,s⟩:=DD Tryz.infoU8;have m:=qo (O l) E hl h;have w:O (EC (O l))<=9:=by grind [EC,I1]
 have A:(⟨Aw l⟩:AT).size=O l:=KC ..;obtain⟨a,n,c,rfl⟩:=h.1.2.2;go_enter func159,ntmps159
 go_wp2_with(first
  |(go_at_call 188;refine m.mono ?_;rintro e F ⟨u,B,c2,rfl,b⟩)
  |(at_builtin;refine wpList_append_own_string _ Z _ _ 50 9 Z base 5 t underlying50 underlying9 o q r s _ _ _ Z b.1.1.1 ⟨Aw l⟩ Z By B9 b.1.1.2.1 ?_;intro f L p j z;have d:=G (Nb b.1.1 p j);have k:=G (λe i=>j.block e (b.1.2 e i).2 (λx=>(b.1.2 e i).1 x.symm))))
 go_ret;rw[KD]at d;exact⟨_,Z,d.1,b.2.trans ⟨d.2,k⟩⟩
theorem qs(x:I)(hx:x<18446744073709551616)(hl:O bs<=999999999)(h:Ck W base v bs):Ar As 158 #[v,C .u64 x] W λe a=>∃b,e=Ak b/\Ck a base b (bs++(GE x))/\Below base W a:=Pw (qk hx hl (Nc h))
theorem qt(c : -9223372036854775808<=z)(d:z<0)(hl:O bs<=999999999)(h:Ck W base v bs):Ar As 157 #[v,C Y z] W λe a=>∃b,e=Ak b/\Ck a base b (bs++(He z))/\Below base W a:=Pw (qm c d hl (Nc h))
theorem Nd(s x:I)(c:s<8)(hx:x<18446744073709551616)(hl:O bs<=999999999)(h:Ck W base v bs):Ar As 155 #[v,C Am s,C .u64 x] W λe a=>∃b,e=Ak b/\Ck a base b (bs++(D4 s x))/\Below base W a:=Pw (bC c hx hl (Nc h))
theorem qu(x:I)(hx:x<4294967296)(hl:O bs<=999999999)(h:Ck W base v bs):Ar As 160 #[v,C .u64 x] W λe a=>∃b,e=Ak b/\Ck a base b (bs++(G5 x))/\Below base W a:=Pw (qp hx hl (Nc h))
theorem qv(x:I)(hx:x<4294967296)(hl:O bs<=999999999)(h:Ck W base v bs):Ar As 161 #[v,C Am 144,C Am 220,C .u64 x] W λe a=>∃b,e=Ak b/\Ck a base b (bs++(Kh x))/\Below base W a:=Pw (qq hx hl (Nc h))
theorem qw(x:I)(hx:x<4294967296)(hl:O bs<=999999999)(h:Ck W base v bs):Ar As 161 #[v,C Am 128,C Am 222,C .u64 x] W λe a=>∃b,e=Ak b/\Ck a base b (bs++(Ki x))/\Below base W a:=Pw (qr hx hl (Nc h))
theorem qx{l:A1}(hl:O bs<=999999999)(f:O l<=999999999)(h:Ck W base v bs):Ar As 156 #[v,Ae ⟨Aw l⟩] W λe a=>∃b,e=Ak b/\Ck a base b (bs++(D4 3 (O l)++l))/\Below base W a:=(bD hl f (Nc h)).mono λ_ _ ⟨v,d,g,c⟩=>⟨v,d,g,c.1⟩
theorem qy{l:A1}(hl:O bs<=999999999)(f:O l<=999999999)(h:Ck W base v bs):Ar As 159 #[v,Ae ⟨Aw l⟩] W λe a=>∃b,e=Ak b/\Ck a base b (bs++(EC (O l)++l))/\Below base W a:=(bE hl f (Nc h)).mono λ_ _ ⟨v,d,g,c⟩=>⟨v,d,g,c.1⟩
end
section
open Go.RowKit
def Jr(m:AK)(r:A5 AH):A5 AI:=match r with
 |.ok (x,p)=>.ok (if m=AP then -(x:AI)else(x:AI),p)
 |.error e=>.error e
def Js(bs:A1)(lim:AI)(r:A5 AI)(e:Ending):Prop:=∃r',Gh bs lim r r'/\(∀z q,r'=.ok (z,q)->Ct bs lim q /\ -9223372036854775808<=z/\z<=9223372036854775807)/\ae r' e
theorem Wi{R:A5 I}{f:J×J}(h:R=.error f):Js bs lim (Jr m R) (Ak (Af #[.agg Cr,C Y 0,.agg (Cd f)])):=⟨.error f,AF kes,(λz q e=>kec),rfl⟩
theorem bK{R:A5 I}(h:R=.ok (num,k))(hi:Ct bs lim k)(a:z=if m=AP then -(num:J)else(num:J))(b : -9223372036854775808<=z)(c:z<=9223372036854775807):Js bs lim (Jr m R) (Ak (Af #[.agg (Ce 3 z ⟨#[]⟩ Cm Cm),C Y k,.agg (Cd (0,0))])) :=
 ⟨.ok (z,k),AF (by rw[h,a];rfl),(λd q e=>B9),rfl⟩
theorem qF{R:A5 I}(h:R=.error (8,(k:J)))(d:(k:J)=lim)(c:k<O bs)(a : -9223372036854775808<=z)(b:z<=9223372036854775807):Js bs lim (Jr m R) (Ak (Af #[.agg (Ce 3 z ⟨#[]⟩ Cm Cm),C Y k,.agg (Cd (0,0))])) :=
 ⟨.ok (z,k),AG ⟨k,kes,d,c,_,rfl⟩,(λf q e=>by injection e with e;injection e with e1 e2;subst e1;subst e2;exact⟨⟨E,E⟩,a,b⟩),Z⟩
theorem SP(h:CH bs l p=AQ):Gg bs l p=AQ:=by grind [CH,Gg]
theorem qG{most:I}(z:AK)(b:k<=O bs):DZ bs lim most z (O bs+1-k) k num=match bs[k]? with
  |none=>.ok (num,k)
  |some c=>if(k:J)=lim then .error (8,(k:J))else
   if Eh c=AP then(if z=AP then .error (9,(k:J))else if(most-(c.toNat-48))/10<num then .error (10,(k:J))else DZ bs lim most z (O bs+1-(k+1)) (k+1) (num*10+(c.toNat-48)))
   else if c.toNat=46\/c.toNat=101\/c.toNat=69 then .error (10,(k:J))else .ok (num,k):=by
 obtain⟨g,a⟩:∃g,O bs+1-k=g+1:=⟨O bs-k,E⟩
 grind [DZ]
theorem bL(hl:Lm bs l lim)(hi:Ct bs lim p)(h:bs[p]?=H c)(e:¬(p:J)=lim):Gg bs l p=Eh c:=by have a:=Dh h;have b:=hl p a;have d:=hi.2;grind [Gg]
theorem qH(f:bs[i]?=H c)(r:c.toNat=45)(hb:O bs<=281474976710656){x:J×J}(o:Gg bs l (i+1)=AQ)(p:CU bs l (i+1) 9=x):Ar As 130 #[.agg (Cp bs fm d l),C Y i] W λe b=>ae (.error x) e/\A0 W b:=by
 have v:=Dh f;have w:=Ej f;have u:((c.toNat:J)==45)=AP:=by rw[r];rfl
 have n:∀V,Ar _ _ #[.agg _,.int _ (i+1)] V _:=λV=>by have:=ZZ V bs fm d l (i:=(i+1));rw[o]at this;exact this
 have m:∀V,Ar _ 84 #[.agg _,.int _ (i+1),.int _ 9] V λe b=>e=Ak (.agg (Cd x))/\Below _ V b:=λV=>by have:=Lt V bs fm d l (i+1) 9;rw[p]at this;exact this
 have s:=KV W bs fm d l;clear f r o p;unfold Cp;go_enter func130,ntmps130
 go_wp2_with(first
  |(go_at_call 165;apply DW (n _) s.next (λ_ h=>h.box);clear n;intro z t g j c2 k)
  |(go_at_call 84;apply DW (m _) t.next (λ_ h=>h.box);clear m g j c2 k;intro A a g j c2 k)
  |((with_reducible refine QE 4 (y:=23) rfl rfl (K (U W)+1) (Cr) ?_ ?_ ?_ ?_ ?_);exact Z;exact Z;exact a.th;exact thg)
  |((with_reducible refine EW 6 26 rfl rfl (K (U W)+2) (x) ?_ ?_ ?_ ?_);exact Z;exact Z;exact FZ a CO))
 have q:=EB a CO (Cr) (x);refine ER results130 q _ Z Z Z Z ⟨?_,q.2.2⟩;rfl
def qI(bs:A1)(l lim:AI)(m:AK)(B f k num:AH)(ch:AU)(R:A5 AH):Prop :=
 (Gg bs l k=AQ/\CH bs l k=AQ/\(∀z:AI,z=(if m=AP then -(num:AI)else(num:AI)) -> -9223372036854775808<=z->z<=9223372036854775807->Js bs lim (Jr m R) (Ak (Af #[.agg (Ce 3 z ⟨#[]⟩ Cm Cm),Ab Al k,.agg (Cd (0,0))]))))\/(Gg bs l k=AQ/\CH bs l k=AP/\∃cc,bs[k]?=An cc/\((cc.toNat:AI)==46)=AQ/\((cc.toNat:AI)==101)=AQ/\((cc.toNat:AI)==69)=AQ/\(∀z:AI,z=(if m=AP then -(num:AI)else(num:AI)) -> -9223372036854775808<=z->z<=9223372036854775807->Js bs lim (Jr m R) (Ak (Af #[.agg (Ce 3 z ⟨#[]⟩ Cm Cm),Ab Al k,.agg (Cd (0,0))]))))\/(Gg bs l k=AQ/\CH bs l k=AP/\∃cc,bs[k]?=An cc/\((cc.toNat:AI)==46)=AP/\CU bs l k 10=(10,(k:AI))/\Js bs lim (Jr m R) (Ak (Af #[.agg Cr,Ab Al 0,.agg (Cd (10,(k:AI)))])))\/(Gg bs l k=AQ/\CH bs l k=AP/\∃cc,bs[k]?=An cc/\((cc.toNat:AI)==46)=AQ/\((cc.toNat:AI)==101)=AP/\CU bs l k 10=(10,(k:AI))/\Js bs lim (Jr m R) (Ak (Af #[.agg Cr,Ab Al 0,.agg (Cd (10,(k:AI)))])))\/(Gg bs l k=AQ/\CH bs l k=AP/\∃cc,bs[k]?=An cc/\((cc.toNat:AI)==46)=AQ/\((cc.toNat:AI)==101)=AQ/\((cc.toNat:AI)==69)=AP/\CU bs l k 10=(10,(k:AI))/\Js bs lim (Jr m R) (Ak (Af #[.agg Cr,Ab Al 0,.agg (Cd (10,(k:AI)))])))\/(Gg bs l k=AP/\∃cc,bs[k]?=An cc/\48<=(cc.toNat:AI)/\(cc.toNat:AI)<=57/\(f:AI)<(k:AI)/\((ch.toNat:AI)==48)=AP/\CU bs l k 9=(9,(k:AI))/\Js bs lim (Jr m R) (Ak (Af #[.agg Cr,Ab Al 0,.agg (Cd (9,(k:AI)))])))\/(Gg bs l k=AP/\∃cc,bs[k]?=An cc/\48<=(cc.toNat:AI)/\(cc.toNat:AI)<=57/\(f:AI)<(k:AI)/\((ch.toNat:AI)==48)=AQ /\ -(num:AI)<(-9223372036854775808+((cc.toNat:AI)-48)).tdiv 10/\CU bs l k 10=(10,(k:AI))/\Js bs lim (Jr m R) (Ak (Af #[.agg Cr,Ab Al 0,.agg (Cd (10,(k:AI)))])))\/(Gg bs l k=AP/\∃cc,bs[k]?=An cc/\48<=(cc.toNat:AI)/\(cc.toNat:AI)<=57/\(f:AI)<(k:AI)/\((ch.toNat:AI)==48)=AQ/\¬-(num:AI)<(-9223372036854775808+((cc.toNat:AI)-48)).tdiv 10/\m=AQ/\(-(num:AI)*10-((cc.toNat:AI)-48) == -9223372036854775808)=AP /\ -9223372036854775808 <= -(num:AI)*10 /\ -9223372036854775808 <= -(num:AI)*10-((cc.toNat:AI)-48)/\CU bs l k 10=(10,(k:AI))/\Js bs lim (Jr m R) (Ak (Af #[.agg Cr,Ab Al 0,.agg (Cd (10,(k:AI)))])))\/(Gg bs l k=AP/\∃cc,bs[k]?=An cc/\48<=(cc.toNat:AI)/\(cc.toNat:AI)<=57/\AR ((f:AI)<(k:AI))=AQ/\(k:AI)<=(f:AI)/\¬-(num:AI)<(-9223372036854775808+((cc.toNat:AI)-48)).tdiv 10 /\ -9223372036854775808 <= -(num:AI)*10 /\ -9223372036854775808 <= -(num:AI)*10-((cc.toNat:AI)-48)/\(m=AQ->(-(num:AI)*10-((cc.toNat:AI)-48) == -9223372036854775808)=AQ)/\num*10+(cc.toNat-48)<=B/\Ct bs lim (k+1)/\DZ bs lim B (ch.toNat==48) (At bs+1-(k+1)) (k+1) (num*10+(cc.toNat-48))=R)\/(Gg bs l k=AP/\∃cc,bs[k]?=An cc/\48<=(cc.toNat:AI)/\(cc.toNat:AI)<=57/\(f:AI)<(k:AI)/\((ch.toNat:AI)==48)=AQ/\¬-(num:AI)<(-9223372036854775808+((cc.toNat:AI)-48)).tdiv 10 /\ -9223372036854775808 <= -(num:AI)*10 /\ -9223372036854775808 <= -(num:AI)*10-((cc.toNat:AI)-48)/\(m=AQ->(-(num:AI)*10-((cc.toNat:AI)-48) == -9223372036854775808)=AQ)/\num*10+(cc.toNat-48)<=B/\Ct bs lim (k+1)/\DZ bs lim B (ch.toNat==48) (At bs+1-(k+1)) (k+1) (num*10+(cc.toNat-48))=R)
theorem qJ{f:I}{R:A5 I}(v:(m=AP/\B=9223372036854775808)\/(m=AQ/\B=9223372036854775807))(hn:num<=B)(hl:Lm bs l lim)(hi:Ct bs lim k)(L:bs[f]?=H ch)(hd:Eh ch=AP)(P:¬(f:J)=lim)(ab:f<=k)(hR:DZ bs lim B (ch.toNat==48) (O bs+1-(f+1)) (f+1) (ch.toNat-48)=R)(S:(k=f/\num=0)\/(f<k/\DZ bs lim B (ch.toNat==48) (O bs+1-k) k num=R)):qI bs l lim m B f k num ch R:=by
 have ac:k=f->bs[k]?=H ch:=λh=>by rw[h];exact L
 have j:¬k=f->R=_:=λh=>by
  rcases S with b|b
  .omega
  exact b.2.symm.trans (qG _ hi.1)
 rcases hck:bs[k]? with _|a
 .have d:=j λh=>B9;rw[hck]at d;exact AF ⟨SP (Hs hck),Hs hck,λz h b n=>bK d hi h b n⟩
 rw[hck]at j;simp only[]at j;by_cases g:(k:J)=lim
 .have d:=j λh=>P (by rw[<-h];exact g);rw[Cn g]at d;exact AF ⟨SP (GW hl hck g),GW hl hck g,λz h b n=>qF d g (Dh hck) b n⟩
 have i:=bL hl hi hck g;have p:=λe=>Ht hl hi hck g e;have t:=IM hl hi hck g;rw[Ci g]at j;cases c:Eh a
 .have d:=j λh=>B9;rw[Ci (by rw[c];decide)]at d;by_cases y:a.toNat=46\/a.toNat=101\/a.toNat=69
  .rw[Cn y]at d;have q:=Wi (bs:=bs) (lim:=lim) (m:=m) d;by_cases aa:a.toNat=46
   .exact AG (AG (AF ⟨i.trans c,t,a,hck,B7,p 10,q⟩))
   by_cases W:a.toNat=101
   .exact AG (AG (AG (AF ⟨i.trans c,t,a,hck,B7,B7,p 10,q⟩)))
   exact AG (AG (AG (AG (AF ⟨i.trans c,t,a,hck,B7,B7,B7,p 10,q⟩))))
  rw[Ci y]at d;exact AG (AF ⟨i.trans c,t,a,hck,B7,B7,B7,λz h b n=>bK d hi h b n⟩)
 rw[Cn c]at j;obtain⟨r,s⟩:=Dk (by unfold Eh at c;exact c);have u:=oC num (a.toNat-48) E;rw[show(a.toNat-48:I)=(a.toNat:J)-48 by omega]at u;by_cases F:f<k/\ch.toNat=48
 .have b:=j E;rw[Cn (by simp[F.2])]at b;exact AG (AG (AG (AG (AG (AF ⟨i.trans c,a,hck,r,s,E,B7,p 9,Wi b⟩)))))
 have V:f<k->¬(ch.toNat==48)=AP:=λh b=>F ⟨h,BB⟩;by_cases Q:(B-(a.toNat-48))/10<num
 .have N:f<k:=E;have b:=j E;rw[Ci (V N),Cn Q]at b;have q:=Wi (bs:=bs) (lim:=lim) (m:=m) b;by_cases o : -(num:J)<(-9223372036854775808+((a.toNat:J)-48)).tdiv 10
  .exact AG (AG (AG (AG (AG (AG (AF ⟨i.trans c,a,hck,r,s,E,B7,o,p 10,q⟩))))))
  have n:=λh=>o (u.2 h);exact AG (AG (AG (AG (AG (AG (AG (AF ⟨i.trans c,a,hck,r,s,E,B7,o,v.elim (λh=>E) (λh=>h.1),B7,E,E,p 10,q⟩)))))))
 have n:¬(9223372036854775808-(a.toNat-48))/10<num:=E;have o:=λh=>n (u.1 h);have x:DZ bs lim B (ch.toNat==48) (O bs+1-(k+1)) (k+1) (num*10+(a.toNat-48))=R:=B9;have w:m=AQ->(-num*10-((a.toNat:J)-48) == -9223372036854775808)=AQ:=λh=>v.elim (λb=>B9) (λb=>B7);have A:=Ed hi hck g;by_cases h:f<k
 .exact AG (AG (AG (AG (AG (AG (AG (AG (AG (⟨i.trans c,a,hck,r,s,E,B7,o,E,E,w,E,A,x⟩)))))))))
 exact AG (AG (AG (AG (AG (AG (AG (AG (AF ⟨i.trans c,a,hck,r,s,B7,E,o,E,E,w,E,A,x⟩))))))))
theorem bM(W:X)(fm d:J){f:I}(hc:bs[i]?=H c)(u:(m=AP/\c.toNat=45/\f=i+1/\B=9223372036854775808)\/(m=AQ/\¬c.toNat=45/\f=i/\B=9223372036854775807))(L:bs[f]?=H ch)(hd:Eh ch=AP)(ak:¬(f:J)=lim)(hl:Lm bs l lim)(hi:Ct bs lim f)(hb:O bs<=281474976710656):Ar As 130 #[.agg (Cp bs fm d l),C Y i] W λaa g=>Js bs lim (Jr m (DZ bs lim B (ch.toNat==48) (O bs+1-(f+1)) (f+1) (ch.toNat-48))) aa/\A0 W g:=by
 obtain⟨an,S⟩:=CA (DZ bs lim B (ch.toNat==48) (O bs+1-(f+1)) (f+1) (ch.toNat-48));rw[AE S];have a1:=Dh hc;have ay:=Dh L;have av:=Ej hc;have a2:=λV=>Ej L V;have P:=G hi;have ae:=G (λk num N hn hi h=>qJ (k:=k) (num:=num) (u.imp (λh=>⟨h.1,h.2.2.2⟩) (λh=>⟨h.1,h.2.2.2⟩)) hn hl hi L hd ak N S h);have cD:∀V (k:I),Ar _ _ #[.agg _,.int _ k] V _:=λV k=>ZZ V bs fm d l;have cH:=N5 bs fm d l;have ag:∀V,Ar As 165 #[Ag #[Ae ⟨Aw bs⟩,C Y fm,C Y d,C Y l],C Y f] V λaa g=>aa=Ak (Ah AP)/\A0 V g:=λV=>by grind [bL]
 have v:=KV W bs fm d l;clear hc L hd ak hl hi S;unfold Cp;rcases u with⟨rfl,u,hf,hB⟩|⟨rfl,u,hf,hB⟩
 have ap:((c.toNat:J)==45)=AP:=(by rw[u];rfl);rotate_left
 have ap:=D7 (c:=c) 45 E;rotate_left
 all_goals
  have HB:=G hB;have ad:=G (show _=(f:J)from(congrArg _ hf).symm);clear u hf hB;go_enter func130,ntmps130
  go_wp2_with fail
  first
   |rw[show(i:J)+1=(f:J)from AE ad]
   |rw[show i=(f:J)from AE ad]
  refine Mb (ag _) v.next ?_
  clear ag;intro w2 ar p;obtain⟨q,r,c2,s⟩:=DV p.box
  go_wp2_with fail
  clear q r c2 s ar v
  go_loopg[1,9] (O bs+1-f) (λao zi zn wr=>∃k num:I,zi=C Y k/\zn=C Y (-(num:J))/\D (O bs+1<=k+ao)/\D (f<=k)/\D (num<=B)/\D (J1 W (Cp bs fm d l) wr)/\D (Ct bs lim k)/\D ((k=f/\num=0)\/(f<k/\DZ bs lim B (ch.toNat==48) (O bs+1-k) k num=an)))
  case atStart=>grind [D]
  case round =>
   clear p P;obtain⟨k,num,rfl,rfl,hg,N,al,v,P,HP⟩:=hrel;have a5:=AE al;have ax:=AE HB;obtain⟨q,r,c2,s⟩:=DV v.box;have R:=λV=>cD V k;have e:=λV=>cH V k;rcases ae.out k num N.out al.out P HP with⟨j,w,o⟩|⟨j,w,n,b,ab,ah,aq,o⟩|⟨j,w,n,b,ab,t,o⟩|⟨j,w,n,b,ab,ah,t,o⟩|⟨j,w,n,b,ab,ah,aq,t,o⟩|⟨j,n,b,z,A,ac,hz,t,o⟩|⟨j,n,b,z,A,ac,hz,hA,t,o⟩|⟨j,n,b,z,A,ac,hz,hA,aw,F,ai,aj,t,o⟩|⟨j,n,b,z,A,az,a0,hA,ai,aj,F,x,y,Q⟩|⟨j,n,b,z,A,ac,hz,hA,ai,aj,F,x,y,Q⟩
   all_goals
    rw[j]at R
    try rw[w]at e
    try(have a3:=Ej b;have a4:=Dh b)
    try(have af:=N2 fm d t)
    try have HV:=G o
    try have am:=G Q
    try have y:=G y
    try have x:=G x
    try have F:=F rfl
    try clear o
    try clear Q b
    clear cD cH HP av j ae
    try cases aw
   all_goals
    go_wp2_with(first
     |(go_at_call 165;refine DW (R _) v.next (λ_ h=>h.box) ?_;clear R q r c2 s;intro w2 p q r c2 s;have a:=p)
     |(go_at_call 116;refine DW (e _) p.next (λ_ h=>h.box) ?_;clear e q r c2 s a;intro w3 a q r c2 s;have p:=a)
     |(go_at_call 84;refine DW (af _) p.next (λ_ h=>h.box) ?_;clear af q r c2 s a;intro w4 a q r c2 s)
     |((with_reducible refine QE 4 rfl rfl (K (U W)+1) (Cr) ?_ ?_ ?_ ?_ ?_);exact Z;exact Z;exact a.th;exact thg)
     |((with_reducible refine QE 4 rfl rfl (K (U W)+1) (Ce 3 (-(num:J)) ⟨#[]⟩ Cm Cm) ?_ ?_ ?_ ?_ ?_);exact Z;exact Z;exact a.th;exact thg)
     |((with_reducible refine QE 4 rfl rfl (K (U W)+1) (Ce 3 (num:J) ⟨#[]⟩ Cm Cm) ?_ ?_ ?_ ?_ ?_);exact Z;exact Z;exact a.th;exact thg)
     |((with_reducible refine EW 6 _ rfl rfl (K (U W)+2) (0,0) ?_ ?_ ?_ ?_);exact Z;exact Z;exact FZ a CO)
     |((with_reducible refine EW 6 _ rfl rfl (K (U W)+2) (9,(k:J)) ?_ ?_ ?_ ?_);exact Z;exact Z;exact FZ a CO)
     |((with_reducible refine EW 6 _ rfl rfl (K (U W)+2) (10,(k:J)) ?_ ?_ ?_ ?_);exact Z;exact Z;exact FZ a CO))
    try exact ER results130 (EB a CO _ _) _ rfl rfl rfl rfl ⟨HV,(EB a CO _ _).2.2⟩
    try exact ER results130 (EB a CO _ _) _ rfl rfl rfl rfl ⟨HV _ rfl E E,(EB a CO _ _).2.2⟩
   all_goals
    obtain⟨gg,au⟩:∃gg,gk=gg+1:=⟨gk-1,AY (AE hg)⟩
    subst au;go_roundg gg
    case measure=>omega
    case rel=>exact⟨k+1,num*10+(n.toNat-48),Bb,congrArg (Value.int Y) E,B9,by grind [D],x,p,y,AG ⟨AY (AE N),am⟩⟩
theorem R0(z:J):∀w:X,(Instr.typeAssert (.iface 281 (C Y z)) 89 279 AP).run As w=.ok (Af #[Ah AQ,Ah AQ]) w:=λw=>B6
theorem R2(z:J):∀w:X,(Instr.typeAssert (.iface 281 (C Y z)) 89 281 AP).run As w=.ok (Af #[C Y z,Ah AP]) w:=λw=>B6
def JZ(z:AI):A1:=if z<0 then He z else GE z.toNat
def K0(z:AI):A1:=if z<0 then D4 1 (-1-z).toNat else D4 0 z.toNat
theorem tp(s : -9223372036854775808<=z)(L:z<=9223372036854775807)(hl:O bs<=999999999)(h:Ck W base v bs):Ar As 115 #[v,Sk z] W λe k=>∃m,e=Ak m/\Ck k base m (bs++JZ z)/\Below base W k:=by
 unfold Sk;obtain⟨t,r,a,n,c,rfl⟩:=h;have j:D (Ck W base (T a n c) bs):=⟨t,r,a,n,c,Z⟩
 have F:D (JZ z=if z<0 then He z else GE z.toNat):=rfl;by_cases l:z<0
 .have i:D (JZ z=He z):=B9;have p:AR (z<0)=AP:=by simp;exact l
  have w:=R0 z;have y:=R2 z;go_enter func115,ntmps115
  go_wp2_with(first
   |(go_at_call 157;refine(qt s l hl j).mono ?_;rintro e B ⟨A,rfl,b,g⟩;obtain⟨d,f,o,u,q,rfl⟩:=b))
  go_ret;rw[AE i];exact⟨_,Z,⟨d,f,_,_,_,Z⟩,g⟩
 have i:D (JZ z=GE z.toNat):=B9;obtain⟨x,rfl⟩:∃x:I,z=x:=⟨z.toNat,E⟩
 have p:AR ((x:J)<0)=AQ:=Ba;have w:=R0 (x:J);have y:=R2 (x:J);go_enter func115,ntmps115
 go_wp2_with(first
  |(go_at_call 158;refine(qs x E hl j).mono ?_;rintro e B ⟨A,rfl,b,g⟩;obtain⟨d,f,o,u,q,rfl⟩:=b))
 go_ret;rw[AE i];exact⟨_,Z,⟨d,f,_,_,_,Z⟩,g⟩
theorem tq(L : -9223372036854775808<=z)(N:z<=9223372036854775807)(hl:O bs<=999999999)(h:Ck W base v bs):Ar As 114 #[v,Sk z] W λe b=>∃d,e=Ak d/\Ck b base d (bs++K0 z)/\Below base W b:=by
 unfold Sk;obtain⟨r,q,a,n,c,rfl⟩:=h;have l:D (Ck W base (T a n c) bs):=⟨r,q,a,n,c,Z⟩
 have F:D (K0 z=if z<0 then D4 1 (-1-z).toNat else D4 0 z.toNat):=rfl;by_cases A:z<0
 .have f:D (K0 z=D4 1 (-1-z).toNat):=B9;obtain⟨x,rfl⟩:∃x:I,z = -1-(x:J):=⟨(-1-z).toNat,E⟩
  have B:=λV h=>Nd (W:=V) (base:=base) (v:=(T a n c)) 1 x E E hl h;have p:∀V,Ck V base (T a n c) bs->Ar As 155 #[T a n c,C Am 1,C .u64 (-1-(-1-(x:J)))] V λe b=>∃d,e=Ak d/\Ck b base d (bs++D4 1 x)/\Below base V b:=B9;rw[show(-1-(-1-(x:J))).toNat=x by omega]at f;have t:=R0 (-1-(x:J));have u:=R2 (-1-(x:J));go_enter func114,ntmps114
  go_wp2_with(first
   |(go_at_call 155;refine(p _ l).mono ?_;rintro e y ⟨w,rfl,g,k⟩;obtain⟨i,j,m,s,o,rfl⟩:=g))
  go_ret;rw[AE f];exact⟨_,Z,⟨i,j,_,_,_,Z⟩,k⟩
 have f:D (K0 z=D4 0 z.toNat):=B9;obtain⟨x,rfl⟩:∃x:I,z=x:=⟨z.toNat,E⟩
 have t:=R0 (x:J);have u:=R2 (x:J);go_enter func114,ntmps114
 go_wp2_with(first
  |(go_at_call 155;refine(Nd 0 x E E hl l).mono ?_;rintro e y ⟨w,rfl,g,k⟩;obtain⟨i,j,m,s,o,rfl⟩:=g))
 go_ret;rw[AE f];exact⟨_,Z,⟨i,j,_,_,_,Z⟩,k⟩
end
section
open Go.RowKit Go.Deep
theorem wb{c:J}(f:arr[0]?=H (C Y c))(f1:arr[1]?=H (T ea (O L) ecap))(b:O L<=maxLen)(i:¬(1<=c/\c<=6/\O L<=30)):Ar As 59 #[.agg arr] w λe d=>e=Ak (Ah AQ)/\A0 w d:=by
 unfold maxLen at b;have key:c<1\/(1<=c/\6<c)\/(1<=c/\c<=6/\(30:J)<O L):=E;rcases key with h|⟨h,a⟩|⟨h,a,g⟩
 all_goals
  go_enter func59,ntmps59;go_wp2;go_ret;exact⟨Z,Cl⟩
theorem we(H:Vf arr n L ea ecap)(h1:1<=n)(hn:n<=6)(hL:O L<=30)(hA:FG w ea L):Ar As 59 #[.agg arr] w λe w'=>e=Ak (Ah (Fb n L))/\A0 w w':=by
 have B:=H.f0;have f1:=H.f1;have p:=G (Ec H.size);have HE:=G hA;have ab:D ((Az w (M arr 40)).heap[K (U w)]?=An (M arr 40)):=Cj _;have t:D (A0 w (Az w (M arr 40))):=Cl;have aa:D (K (U (Az w (M arr 40)))=K (U w)+1):=BL;go_enter func59,ntmps59;go_wp2;generalize Az w (M arr 40)=W0 at *
 go_loopg[3,4] (O L) (λg x y wr=>∃q:I,D (q+g=O L)/\x=C Y q/\Below (K (U w)+1) W0 wr/\D (∀i (h:i<O L),i<q->Gd n L[i]=AP))
 case atStart=>grind [D,Below.refl]
 case round =>
  obtain⟨q,N,rfl,u,b⟩:=hrel;have S:=G ((u.block _ E).trans ab);have af:=(Cb S 1).trans f1;have V:=u.size;rw[AE aa]at V;obtain _|g:=gk
  .have ac:¬(q:J)<O L:=AY (AE N);have HY:=G (Zh (λi h=>b.out i h (AY (AE N))));go_wp2;go_ret;exact⟨by rw[AE HY];rfl,t.trans (u.mono E)⟩
  have ac:(q:J)<O L:=AY (AE N);obtain⟨ae,off,rfl,ag,e1,e2⟩:=(HE.below (t.trans (u.mono E))).at_ q E;have F:D ((Az wr (M #[C Y L[q].1,C Y L[q].2] 119)).heap[K (U wr)]?=An (M #[C Y L[q].1,C Y L[q].2] 119)):=Cj _;have c:D ((Az wr (M #[C Y L[q].1,C Y L[q].2] 119)).heap[K (U w)]?=An (M arr 40)):=(Cx _ _ _ E).trans S;have R:D (Gd n L[q]=Gd n (L[q].1,L[q].2)):=rfl;have j:=Pd B L[q].1 (Az wr (M #[C Y L[q].1,C Y L[q].2] 119));generalize L[q].1=x at *;generalize L[q].2=y at *;have z:D (Below (K (U w)+1) W0 (Az wr (M #[C Y x,C Y y] 119))):=u.alloc V _;cases P:Dt n x
  .rw[P]at j;have r:D (Fb n L=AQ):=Pc (k:=q) E (by grind [D,Gd])
   go_wp2_with(first
    |(refine CT Z 40 _ Z _ Z _ _ _ _ c underlying40 Z p ?_)
    |(go_at_call 60;refine j.mono ?_;rintro e s ⟨rfl,d⟩))
   go_ret;exact⟨by rw[AE r];rfl,(t.trans (z.mono E)).trans (d.mono B7)⟩
  rw[P]at j;have ad:=G P;cases Q:Dt n y
  .have r:D (Fb n L=AQ):=Pc (k:=q) E (by grind [D,Gd]);have A:=G Q
   go_wp2_with(first
    |(refine CT Z 40 _ Z _ Z _ _ _ _ c underlying40 Z p ?_)
    |(refine EU Z Z Z c underlying40 Z p ?_)
    |(go_at_call 60;refine j.mono ?_;clear j;rintro e s ⟨rfl,d⟩;have l:=G ((d.block _ B7).trans c);clear c;have c:=l;clear l;have a:=G ((d.block _ Ba).trans F);have m:=Cb a 0;have o:=Cb a 1;have c2:=Pd B y s;rw[AE A]at c2)
    |(go_at_call 60;refine c2.mono ?_;clear c2;rintro e W ⟨rfl,f⟩;clear m o;have m:=(Cb ((f.block _ (Cc a)).trans a) 0);have o:=(Cb ((f.block _ (Cc a)).trans a) 1)))
   have v:=d.size;rw[CI]at v;go_ret;exact⟨by rw[AE r];rfl,((t.trans (z.mono E)).trans (d.mono B7)).trans (f.mono E)⟩
  have A:=G Q;clear Q;cases ah:(x==y)
  .have r:D (Gd n L[q]=AP):=by grind [D,Gd]
   clear R
   go_wp2_with(first
   |(refine CT Z 40 _ Z _ Z _ _ _ _ c underlying40 Z p ?_)
   |(refine EU Z Z Z c underlying40 Z p ?_)
   |(go_at_call 60;refine j.mono ?_;clear j;rintro e s ⟨rfl,d⟩;have l:=G ((d.block _ B7).trans c);clear c;have c:=l;clear l;have a:=G ((d.block _ Ba).trans F);have m:=Cb a 0;have o:=Cb a 1;have c2:=Pd B y s;rw[AE A]at c2)
   |(go_at_call 60;refine c2.mono ?_;clear c2;rintro e W ⟨rfl,f⟩;clear m o;have m:=(Cb ((f.block _ (Cc a)).trans a) 0);have o:=(Cb ((f.block _ (Cc a)).trans a) 1)))
   have v:=d.size;rw[CI]at v;go_roundg g
   case measure=>omega
   case rel =>
    refine⟨q+1,B9,Bb,(z.trans (d.mono B7)).trans (f.mono E),?_⟩;grind [D]
  have r:D (Fb n L=AQ):=Pc (k:=q) E (by grind [D,Gd]);clear R
  go_wp2_with(first
  |(refine CT Z 40 _ Z _ Z _ _ _ _ c underlying40 Z p ?_)
  |(refine EU Z Z Z c underlying40 Z p ?_)
  |(go_at_call 60;refine j.mono ?_;clear j;rintro e s ⟨rfl,d⟩;have l:=G ((d.block _ B7).trans c);clear c;have c:=l;clear l;have a:=G ((d.block _ Ba).trans F);have m:=Cb a 0;have o:=Cb a 1;have c2:=Pd B y s;rw[AE A]at c2)
  |(go_at_call 60;refine c2.mono ?_;clear c2;rintro e W ⟨rfl,f⟩;clear m o;have m:=(Cb ((f.block _ (Cc a)).trans a) 0);have o:=(Cb ((f.block _ (Cc a)).trans a) 1)))
  have v:=d.size;rw[CI]at v;go_ret;exact⟨by rw[AE r];rfl,((t.trans (z.mono E)).trans (d.mono B7)).trans (f.mono E)⟩
end
section
open Go.RowKit
structure GG(lo hi:Nat)(W W':World):Prop where
 size:W.heap.size<=W'.heap.size
 same:∀k,lo<=k->k<hi->W'.heap[k]?=W.heap[k]?
theorem GG.refl(lo hi:I)(W:X):GG lo hi W W:=⟨Co _,λ_ _ _=>rfl⟩
theorem GG.trans{A B C:X}(h:GG lo hi A B)(k:GG lo hi B C):GG lo hi A C :=
 ⟨Cy h.size k.size,λi a b=>(k.same i a b).trans (h.same i a b)⟩
theorem GG.put(W:X)(r:I)(o:Obj)(h:hi<=r):GG lo hi W (W.putObj r o) :=
 ⟨Ba,λk _ a=>World.putObj_heap_other E⟩
theorem GG.below(h:Below hi W W'):GG lo hi W W':=⟨h.size,λk _ a=>h.block k a⟩
def TF{β:Type}(st:AH)(I:β->Ap->Prop):Prop:=∀s W W',I s W->W.grownBy W' (An st)->I s W'
def gz{β:Type}(B:AH)(I:β->Ap->Prop):Prop:=∀s W k (o o':Obj),I s W->B<=k->W.heap[k]?=An o->o.isCells=AQ->I s (W.putObj k o')
def gA{α:Type}(F:Fence)(n:AH)(P:Program)(g:AH)(lb:A3)(encs:α->A3)(lo hi st:AH)(S Sp:AJ α->Prop)(w:Ap):Prop :=
 ∀(l:AH) (J Jx:AJ α->Ap->Prop) (W:Ap),A0 w W->TF st J->TF st Jx ->
  (∀pre x W1,J pre W1->YieldAt F (n-1) P l (encs x) W1 λe W' =>
   (e=Ak (Ah AP)/\J (pre++[x]) W'/\GG lo hi W1 W')\/(e=Ak (Ah AQ)/\Jx (pre++[x]) W')) ->
  J [] W ->
  CallsIn F n P g (#[.func (.yield l) #[] #[]]++lb) W λe W'=>(∃v,e=Ak v)/\((∃xs,S xs/\J xs W')\/(∃pre,Sp pre/\Jx pre W'))
def ww{α:Type}(lo hi:AH)(I:AJ α->Ap->Prop)(Ix:Code->AJ α->Ap->Prop)(xs:AJ α)(W:Ap)(e:Exit)(_:Act)(W':Ap):Prop :=
 match e with
 |.normal=>KeepsOthers W W'/\GG lo hi W W'/\I xs W'
 |.ret=>KeepsOthers W W'/\Ix .ret xs W'
 |.exit id=>KeepsOthers W W'/\Ix (.exit id) xs W'
 |_=>False
variable{F:Fence} {n:Nat} {P:Program}
theorem gC{α:Type}{g:Operand}{ps:Array Tmp}{assign body:Code}(ap:F.round=Ao)(h1:1<=n){gf:I}{lb:A3}(hg:a.eval g=.func (.func gf) #[] lb)(aw:F.fn gf)(eg:∀args w,(callFunc gf args).run P w=.ok (.enter gf args) w){encs:α->A3}{st:I}(az:st<K (U w))(ax:hi<=K (U w)){S Sp:AJ α->Prop}{w0:X}(aq:gA F (n-1) P gf lb encs lo hi st S Sp w0)(ad:A0 w0 w)(ao:∀x,(encs x).size=ps.size)(q:AJ α->X->Prop)(L:Code->AJ α->X->Prop)(hI:TF st q)(ai:∀c,TF st (L c))(e:gz (K (U w)) q)(v:∀c,gz (K (U w)) (L c))(h0:q [] w)(a₁:α->Act)(ak:∀(p:I) (x:α) (W:X) (ab:Act->X->Prop),ab (a₁ x) W ->
   assign.wpIn (F.inRound p) (n-1-1) P (Exit.then ab (λ_ _ _=>False)) {tmps:=(ps.zip (encs x)).foldl (λav (aa,af)=>Ay av aa af) a.tmps,defers:=[]} W)(al:∀(p:I) (pre:AJ α) (x:α) (W:X),q pre W->K (U w)<K (U W)->body.wpIn (F.inRound p) (n-1-1) P (ww lo hi q L (pre++[x]) W) (a₁ x) W)(am:∀(b:I) (t:AJ α) (W:X),K (U w)<=b->S t->q t W->W.heap[b]?=H (.deferred (H []))->Q .normal {a with defers:={target:=.collected b,args:=#[]}::a.defers} W)(ar:∀(b:I) (c:Code) (pre:AJ α) (W:X),K (U w)<=b->Sp pre->L c pre W->W.heap[b]?=H (.deferred (H []))->c.wpIn F n P Q {a with defers:={target:=.collected b,args:=#[]}::a.defers} W):(Code.rangeFunc g ps assign body).wpIn F n P Q a w:=by
 refine wpIn_rangeFunc λfn an=>?_;rw[ap];generalize hD:K (U w)=b at *;obtain⟨rd,y⟩:∃rd:LoopState->Option Code->Loop,rd=λs aa=>{state:=s,pending:=aa,fn,tmps:=a.tmps,params:=ps,assign,body,defers:=b}:=⟨_,rfl⟩
 have l:=run_enterLoop_outer (P:=P) (w:=w) fn a.tmps ps assign body;rw[hD]at l;have ah:Az (Az w (.deferred (H []))) (.loop {state:=.ready,pending:=Ao,fn,tmps:=a.tmps,params:=ps,assign,body,defers:=b})=Az (Az w (.deferred (H []))) (.loop (rd .ready Ao)):=by rw[y]
 rw[ah]at l;have b1:Below b w (Az (Az w (.deferred (H []))) (.loop (rd .ready Ao))):=by rw[<-hD];exact((Cq _ w).alloc (Co _) _).alloc Ba _
 have l1:(Az (Az w (.deferred (H []))) (.loop (rd .ready Ao))).heap[b+1]?=H (.loop (rd .ready Ao)):=by grind [World.alloc_heap_new,World.size_alloc]
 have d1:(Az (Az w (.deferred (H []))) (.loop (rd .ready Ao))).heap[b]?=H (.deferred (H [])):=by grind [World.alloc_heap_new,Below.heap_alloc]
 have i1:q [] (Az (Az w (.deferred (H []))) (.loop (rd .ready Ao))):=by refine hI _ w _ h0 ⟨Z,Z,Z,B7,λk m _=>?_⟩;exact b1.block k E
 generalize Az (Az w (.deferred (H []))) (.loop (rd .ready Ao))=W1 at *;refine⟨b+1,[{target:=.collected b,args:=#[]}],W1,{target:=.fn (.func gf) lb,args:=#[.func (.yield (b+1)) #[] #[]]},W1,gf,#[.func (.yield (b+1)) #[] #[]]++lb,W1,l,?_,?_,?_,λ_=>h1,?_⟩
 .simp only[resolve,hg];simp[go_sem]
 .grind [Target.leads]
 .simp[invoke,go_sem,eg]
 have keep:∀{A B:X} {k:I} {o:Obj},b<=k->A.grownBy B (H st)->A.heap[k]?=H o->B.heap[k]?=H o:=by intro A B k o m r ho;exact(r.block k (Cc ho) B7).trans ho
 refine(aq (b+1) (λpre W=>q pre W/\W.heap[b+1]?=H (.loop (rd .ready Ao))/\W.heap[b]?=H (.deferred (H [])))
  (λpre W=>∃c,L c pre W/\W.heap[b+1]?=H (.loop (rd .done (H c)))/\W.heap[b]?=H (.deferred (H [])))
  W1 (ad.trans (b1.mono (AY ad.size))) (λs A B h r=>⟨hI s A B h.1 r,keep E r h.2.1,keep (Co _) r h.2.2⟩)
  (λs A B h r=>by obtain⟨c,hc,f,z⟩:=h;exact⟨c,ai c s A B hc r,keep E r f,keep (Co _) r z⟩) ?_ ⟨i1,l1,d1⟩).mono ?_
 .rintro pre x W ⟨R,f,z⟩;have ay:=Cc f;have hy:=run_yield (P:=P) (args:=encs x) f (by rw[y];exact ao x);rw[y]at hy;refine⟨fn,_,assign,body,hy,roundIn_of_wpIn an (ak _ x W _ ⟨_,run_beginRound f (by rw[y]),?_⟩)⟩;generalize hWb:W.putObj (b+1) (.loop {rd .ready Ao with state:=.busy})=Wb;have ae:Wb.heap[b+1]?=H (.loop {rd .ready Ao with state:=.busy}):=by grind [World.putObj_heap_same]
  have ag:Wb.heap[b]?=H (.deferred (H [])):=by grind [World.putObj_heap_other]
  have au:q pre Wb:=by rw[<-hWb];exact e pre W (b+1) _ _ R E f Z
  have kW:GG lo hi W Wb:=by grind [GG.put]
  refine wpIn_mono (al _ pre x Wb au (AY (Cc ae))) ?_;have fin:∀(i:Option Code) (d:X),KeepsOthers Wb d ->
    (Instr.endRound (b+1) i).run P d=.ok (Ah i.isNone) (d.putObj (b+1) (.loop (rd (if i.isNone then .ready else .done) i)))/\d.heap[b+1]?=H (.loop {rd .ready Ao with state:=.busy}) /\
    (d.putObj (b+1) (.loop (rd (if i.isNone then .ready else .done) i))).heap[b+1]?=H (.loop (rd (if i.isNone then .ready else .done) i)) /\
    (d.putObj (b+1) (.loop (rd (if i.isNone then .ready else .done) i))).heap[b]?=H (.deferred (H [])):=by
   intro i d m;have u:=m.same _ _ ae Z;refine⟨?_,u,World.putObj_heap_same (Cc u),(World.putObj_heap_other E).trans (m.same _ _ ag Z)⟩;have:=run_endRound (P:=P) i u;grind
  intro ac a3 d hp
  match ac,hp with
  |.normal,⟨m,hr,hi3⟩ =>
   obtain⟨j,u,V,N⟩:=fin Ao d m;exact⟨_,_,j,AF ⟨Z,⟨e _ d (b+1) _ _ hi3 E u Z,V,N⟩,(kW.trans hr).trans (GG.put d (b+1) _ E)⟩⟩
  |.ret,⟨m,hi3⟩ =>
   obtain⟨j,u,V,N⟩:=fin (H .ret) d m;exact⟨_,_,j,AG ⟨Z,.ret,v _ _ d (b+1) _ _ hi3 E u Z,V,N⟩⟩
  |.exit id,⟨m,hi3⟩ =>
   obtain⟨j,u,V,N⟩:=fin (H (.exit id)) d m;exact⟨_,_,j,AG ⟨Z,.exit id,v _ _ d (b+1) _ _ hi3 E u Z,V,N⟩⟩
 rintro ac W2 ⟨⟨af,rfl⟩,h⟩;rcases h with⟨t,hS,R,f,z⟩|⟨pre,aj,c,R,f,z⟩
 .have j:=run_endLoop (P:=P) f (by rw[y];simp);rw[y]at j;exact⟨Ao,_,j,am b t _ (Co _) hS (e _ W2 (b+1) _ _ R E f Z) ((World.putObj_heap_other E).trans z)⟩
 have j:=run_endLoop (P:=P) f (by rw[y];simp);rw[y]at j;exact⟨H c,_,j,ar b c pre _ (Co _) aj (v c _ W2 (b+1) _ _ R E f Z) ((World.putObj_heap_other E).trans z)⟩
end
section
open Go.RowKit Go.Deep
structure FA(s:Nat)(W0:World)(arr:A3)(ea:A4)(L:List (Int×Int))(W:World):Prop where
 below:Below (s+1) W0 W
 box:W.heap[s]?=some (.cells arr 40)
 edges:FG W ea L
 size:s+1<=W.heap.size
theorem FA.step{s:I}(h:FA s W0 arr ea L W)(hb:A0 W W'):FA s W0 arr ea L W' :=
 ⟨h.below.trans (hb.mono h.size),(hb.block _ Bm).trans h.box,h.edges.below hb,Cy h.size hb.size⟩
theorem Xy(arr:A3)(h:FG w ea L):FA (K (U w)) (Az w (M arr 40)) arr ea L (Az w (M arr 40)) :=
 ⟨Cq _ _,Cj _,h.below Cl,Ba⟩
theorem FA.cell{s:I}(h:FA s W0 arr ea L W)(j:I):AC W ⟨s,j,Ao⟩=arr[j]?:=Cb h.box j
theorem FA.from_(h:FA (K (U w)) W0 arr ea L W)(a:A0 w W0):A0 w W:=a.trans (h.below.mono E)
structure OH(arr:A3)(n:Nat)(L:List (Int×Int))(ea:A4)(ecap:Nat):Prop where
 cfg:Vf arr n L ea ecap
 hn:n<=6
 hL:L.length<=30
 hE:Fb n L=true
theorem TU{s:I}(H:OH arr n L ea ecap){a:I}(c:a<n)(hb:b<n)(h:FA s W0 arr ea L W):Ar As 69 #[.agg arr,C Y a,C Y b] W λe g=>e=Ak (Ah (DS n L a b))/\FA s W0 arr ea L g :=
 (Zl H.cfg H.hn H.hL H.hE c hb h.edges).mono λ_ _ ⟨f,d⟩=>⟨f,h.step d⟩
theorem iA(m:AK)(H:OH arr n L ea ecap){a:I}(ha:a<n)(hb:b<n)(hA:FG w ea L):Ar As (bif m then 100 else 99) #[.agg arr,C Y a,C Y b] w λe P=>∃aa:J,e=Ak (C Y aa)/\D (AR (aa<0) = !Fh n (bif m then λi j=>DS n L j i else DS n L) a b)/\A0 w P:=by
 have u:=H.cfg.f0;have hn:=H.hn;have d:=G (Ec H.cfg.size);have ae:=G (Xy arr hA);have Q:D (A0 w (Az w (M arr 40))):=Cl;have A:∀(x y:I) (_:x<n) (_:y<n) {s:I} {W0 W:X} (_:FA s W0 arr ea L W),Ar As 69 (bif m then#[.agg arr,C Y y,C Y x]else#[.agg arr,C Y x,C Y y]) W λe P=>e=Ak (Ah ((bif m then λi j=>DS n L j i else DS n L) x y))/\FA s W0 arr ea L P:=λx y hx hy _ _ _ h=>by cases m<;>grind [TU]
 generalize(bif m then λi j=>DS n L j i else DS n L)=le at *;cases m
 all_goals
  dsimp only[cond]at A ⊢;have l:=G A;clear A
  first|(go_enter func99,ntmps99)|(go_enter func100,ntmps100)
  go_wp2;generalize Az w (M arr 40)=W0 at *
  go_loopg[7,8,9] n (λg x y ag wr=>∃k:I,D (k+g=n)/\x=C Y k/\D (FA (K (U w)) W0 arr ea L wr)/\D (∀j,j<k->Gc n le a b j=AQ))
  case atStart=>grind [D]
  case round =>
   obtain⟨k,z,rfl,c,HL⟩:=hrel;have B:=(c.cell 0).trans u;obtain _|g:=gk
   .have ac:¬(k:J)<n:=AY (AE z);go_wp2;go_ret;exact⟨-1,Z,by grind [D,Zb],c.from_ Q⟩
   have ac:(k:J)<n:=AY (AE z);cases e1:le a k
   .have t:D (Gc n le a b k=AQ):=by grind [D,Gc,EO]
    go_wp2_with(first
     |(refine CT Z 40 _ Z _ Z _ _ _ _ c.box underlying40 Z d ?_)
     |(refine EU Z Z Z c.box underlying40 Z d ?_)
     |(go_at_call 69;refine(l _ _ E E c).mono ?_;rintro e p ⟨rfl,f⟩;have c:=G f))
    go_loopg[9,8] 0 (λg x y wr=>x=C Y 0/\y=Ah AQ/\D (FA (K (U w)) W0 arr ea L wr))
    case atStart=>grind
    case round =>
     obtain⟨rfl,rfl,c⟩:=hrel;have B:=(c.cell 0).trans u;go_wp2;go_roundg g
     case measure=>omega
     case rel =>
      refine⟨k+1,B9,Bb,c,λj N=>?_⟩;grind [D]
   cases e2:le b k
   .have t:D (Gc n le a b k=AQ):=by grind [D,Gc,EO]
    go_wp2_with(first
     |(refine CT Z 40 _ Z _ Z _ _ _ _ c.box underlying40 Z d ?_)
     |(refine EU Z Z Z c.box underlying40 Z d ?_)
     |(go_at_call 69;refine(l _ _ E E c).mono ?_;rintro e p ⟨rfl,f⟩;have c:=G f))
    go_loopg[9,8] 0 (λg x y wr=>x=C Y 0/\y=Ah AQ/\D (FA (K (U w)) W0 arr ea L wr))
    case atStart=>grind
    case round =>
     obtain⟨rfl,rfl,c⟩:=hrel;have B:=(c.cell 0).trans u;go_wp2;go_roundg g
     case measure=>omega
     case rel =>
      refine⟨k+1,B9,Bb,c,λj N=>?_⟩;grind [D]
   have HU:D (EO le a b k=AP):=by grind [D,EO]
   go_wp2_with(first
    |(refine CT Z 40 _ Z _ Z _ _ _ _ c.box underlying40 Z d ?_)
    |(refine EU Z Z Z c.box underlying40 Z d ?_)
    |(go_at_call 69;refine(l _ _ E E c).mono ?_;rintro e p ⟨rfl,f⟩;have c:=G f))
   go_loopg[9,8] (n+1) (λg x y wr=>∃(q:I) (o:AK),D (q+g=n+1)/\x=C Y q/\y=Ah o/\D (FA (K (U w)) W0 arr ea L wr)/\D (o=AP->q<=n/\∀i,i<q->EO le a b i=AP->le k i=AP)/\D (o=AQ->Gc n le a b k=AQ))
   case atStart=>grind [D]
   case round =>
    obtain⟨q,o,hq,rfl,rfl,c,R,HN⟩:=hrel;have B:=(c.cell 0).trans u;cases o
    .have t:=G (HN Z);by_cases r:(q:J)<n
     .go_wp2;go_roundg g
      case measure=>omega
      case rel =>
       refine⟨k+1,B9,Bb,c,λj N=>?_⟩;grind [D]
     go_wp2;go_roundg g
     case measure=>omega
     case rel =>
      refine⟨k+1,B9,Bb,c,λj N=>?_⟩;grind [D]
    have af:=(R Z).1;have ab:=G ((R Z).2);by_cases ad:q<n
    .have r:(q:J)<n:=E;obtain _|v:=gk
     .have:=AE hq;omega
     cases e1:le a q
     .have S:D (EO le a b q=AP->le k q=AP):=λh=>keB
      go_wp2_with(first
       |(refine CT Z 40 _ Z _ Z _ _ _ _ c.box underlying40 Z d ?_)
       |(refine EU Z Z Z c.box underlying40 Z d ?_)
       |(go_at_call 69;refine(l _ _ E E c).mono ?_;rintro e p ⟨rfl,f⟩;have c:=G f))
      go_roundg v
      case measure=>omega
      case rel=>exact⟨q+1,AP,B9,Bb,rfl,c,(λ_=>⟨E,λi F hu=>by grind [D]⟩),(λh=>Bo)⟩
     cases e2:le b q
     .have S:D (EO le a b q=AP->le k q=AP):=λh=>keB
      go_wp2_with(first
       |(refine CT Z 40 _ Z _ Z _ _ _ _ c.box underlying40 Z d ?_)
       |(refine EU Z Z Z c.box underlying40 Z d ?_)
       |(go_at_call 69;refine(l _ _ E E c).mono ?_;rintro e p ⟨rfl,f⟩;have c:=G f))
      go_roundg v
      case measure=>omega
      case rel=>exact⟨q+1,AP,B9,Bb,rfl,c,(λ_=>⟨E,λi F hu=>by grind [D]⟩),(λh=>Bo)⟩
     cases V:le k q
     .have t:D (Gc n le a b k=AQ):=Za (k:=q) ad keB V
      go_wp2_with(first
       |(refine CT Z 40 _ Z _ Z _ _ _ _ c.box underlying40 Z d ?_)
       |(refine EU Z Z Z c.box underlying40 Z d ?_)
       |(go_at_call 69;refine(l _ _ E E c).mono ?_;rintro e p ⟨rfl,f⟩;have c:=G f))
      go_roundg v
      case measure=>omega
      case rel=>exact⟨q+1,AQ,B9,Bb,rfl,c,(λh=>Bo),(λ_=>AE t)⟩
     have S:D (EO le a b q=AP->le k q=AP):=λ_=>V
     go_wp2_with(first
      |(refine CT Z 40 _ Z _ Z _ _ _ _ c.box underlying40 Z d ?_)
      |(refine EU Z Z Z c.box underlying40 Z d ?_)
      |(go_at_call 69;refine(l _ _ E E c).mono ?_;rintro e p ⟨rfl,f⟩;have c:=G f))
     go_roundg v
     case measure=>omega
     case rel=>exact⟨q+1,AP,B9,Bb,rfl,c,(λ_=>⟨E,λi F hu=>by grind [D]⟩),(λh=>Bo)⟩
    have r:¬(q:J)<n:=E;have t:D (Gc n le a b k=AP):=V8 HU (λi F=>ab.out i E);go_wp2;go_ret;exact⟨k,Z,by grind [D,Vb],c.from_ Q⟩
def IQ(n:AH)(m:AH->AH->AK)(a b:AH):AK:=AR (n=n)&&(!(a==b)&&m a b&&m b a)
def MA(n:AH)(m:AH->AH->AK):AK:=(List.range n).all λa=>(List.range n).all λb=>!IQ n m a b
theorem iB{m:I->I->AK}{a:I}(c:a<n)(hb:b<n)(h:IQ n m a b=AP):MA n m=AQ:=by unfold MA;rw[Up];refine⟨a,Hn.2 c,?_⟩;grind
theorem iC{m:I->I->AK}(h:∀a b,a<n->b<n->IQ n m a b=AQ):MA n m=AP:=by grind [MA]
def JD(n:AH)(m:AH->AH->AK)(a b:AH):AK:=Fh n m a b&&Fh n (λi j=>m j i) a b
def MB(n:AH)(m:AH->AH->AK):AK:=(List.range n).all λa=>(List.range n).all λb=>JD n m a b
theorem Xz{m:I->I->AK}{a:I}(c:a<n)(hb:b<n)(h:JD n m a b=AQ):MB n m=AQ:=by grind [MB]
theorem iD{m:I->I->AK}(h:∀a b,a<n->b<n->JD n m a b=AP):MB n m=AP:=by grind [MB]
theorem XA{s:I}(H:OH arr n L ea ecap)(a:I)(c:a<n)(hb:b<n)(h:FA s W0 arr ea L W):Ar As 99 #[.agg arr,C Y a,C Y b] W λe i=>∃r:J,e=Ak (C Y r)/\D (AR (r<0) = !Fh n (DS n L) a b)/\FA s W0 arr ea L i :=
 (iA AQ H c hb h.edges).mono λ_ _ ⟨r,f,g,d⟩=>⟨r,f,g,h.step d⟩
theorem iE{s:I}(H:OH arr n L ea ecap)(a:I)(c:a<n)(hb:b<n)(h:FA s W0 arr ea L W):Ar As 100 #[.agg arr,C Y a,C Y b] W λe k=>∃r:J,e=Ak (C Y r)/\D (AR (r<0) = !Fh n (λi j=>DS n L j i) a b)/\FA s W0 arr ea L k :=
 (iA AP H c hb h.edges).mono λ_ _ ⟨r,f,g,d⟩=>⟨r,f,g,h.step d⟩
theorem yl(H:OH arr n L ea ecap)(u:FG w ea L):Ar As 61 #[.agg arr] w λe Q=>e=Ak (Ah (MA n (DS n L)))/\A0 w Q:=by
 have p:=H.cfg.f0;have hn:=H.hn;have d:=G (Ec H.cfg.size);have j:=G H;have V:=G (Xy arr u);have o:D (A0 w (Az w (M arr 40))):=Cl;go_enter func61,ntmps61;go_wp2;generalize Az w (M arr 40)=W0 at *
 go_loopg[3,4] n (λg x y wr=>∃k:I,D (k+g=n)/\x=C Y k/\D (FA (K (U w)) W0 arr ea L wr)/\D (∀a b,a<k->b<n->IQ n (DS n L) a b=AQ))
 case atStart=>grind [D]
 case round =>
  obtain⟨k,m,rfl,c,t⟩:=hrel;have z:=(c.cell 0).trans p;obtain _|g:=gk
  .have B:¬(k:J)<n:=AY (AE m);go_wp2;go_ret;exact⟨by rw[iC (λa b v h=>t.out a b (AY (AE m)) h)];rfl,c.from_ o⟩
  have B:(k:J)<n:=AY (AE m);go_wp2
  go_loopg[4] n (λg x wr=>∃q:I,D (q+g=n)/\x=C Y q/\D (FA (K (U w)) W0 arr ea L wr)/\D (∀b,b<q->IQ n (DS n L) k b=AQ))
  case atStart=>grind [D]
  case round =>
   obtain⟨q,r,rfl,c,S⟩:=hrel;have z:=(c.cell 0).trans p;obtain _|l:=gk
   .have P:¬(q:J)<n:=AY (AE r);go_wp2;go_roundg g
    case measure=>omega
    case rel =>
     refine⟨k+1,B9,Bb,c,λa b v h=>?_⟩;grind [D]
   have P:(q:J)<n:=AY (AE r);by_cases A:k=q
   .have i:D (IQ n (DS n L) k q=AQ):=kfg;have F:((k:J)==q)=AP:=UZ.2 E;have N:((k:J) != q)=AQ:=B9;go_wp2;go_roundg l
    case measure=>omega
    case rel =>
     refine⟨q+1,B9,Bb,c,λb h=>?_⟩;grind [D]
   have F:((k:J)==q)=AQ:=MN.2 E;have N:((k:J) != q)=AP:=by rw[bne_iff_ne];omega
   have R:=G (MN.2 A);cases W:DS n L k q
   .have i:D (IQ n (DS n L) k q=AQ):=kfg
    go_wp2_with(first
     |(refine CT Z 40 _ Z _ Z _ _ _ _ c.box underlying40 Z d ?_)
     |(refine EU Z Z Z c.box underlying40 Z d ?_)
     |(go_at_call 69;refine(TU j E E c).mono ?_;rintro e s ⟨rfl,f⟩;have c:=G f))
    go_roundg l
    case measure=>omega
    case rel =>
     refine⟨q+1,B9,Bb,c,λb h=>?_⟩;grind [D]
   cases e2:DS n L q k
   .have i:D (IQ n (DS n L) k q=AQ):=kfg
    go_wp2_with(first
     |(refine CT Z 40 _ Z _ Z _ _ _ _ c.box underlying40 Z d ?_)
     |(refine EU Z Z Z c.box underlying40 Z d ?_)
     |(go_at_call 69;refine(TU j E E c).mono ?_;rintro e s ⟨rfl,f⟩;have c:=G f))
    go_roundg l
    case measure=>omega
    case rel =>
     refine⟨q+1,B9,Bb,c,λb h=>?_⟩;grind [D]
   have i:D (IQ n (DS n L) k q=AP):=kfg
   go_wp2_with(first
    |(refine CT Z 40 _ Z _ Z _ _ _ _ c.box underlying40 Z d ?_)
    |(refine EU Z Z Z c.box underlying40 Z d ?_)
    |(go_at_call 69;refine(TU j E E c).mono ?_;rintro e s ⟨rfl,f⟩;have c:=G f))
   go_ret;exact⟨by rw[iB (a:=k) E E i.out];rfl,c.from_ o⟩
theorem ym(H:OH arr n L ea ecap)(R:FG w ea L):Ar As 62 #[.agg arr] w λe w'=>e=Ak (Ah (MB n (DS n L)))/\A0 w w':=by
 have A:=H.cfg.f0;have hn:=H.hn;have f:=G (Ec H.cfg.size);have h:=G H;have ab:=G (Xy arr R);have p:D (A0 w (Az w (M arr 40))):=Cl;go_enter func62,ntmps62;go_wp2;generalize Az w (M arr 40)=W0 at *
 go_loopg[3,4] n (λg x ac wr=>∃k:I,D (k+g=n)/\x=C Y k/\D (FA (K (U w)) W0 arr ea L wr)/\D (∀a b,a<k->b<n->JD n (DS n L) a b=AP))
 case atStart=>grind [D]
 case round =>
  obtain⟨k,u,rfl,c,P⟩:=hrel;have V:=(c.cell 0).trans A;obtain _|g:=gk
  .have W:¬(k:J)<n:=AY (AE u);go_wp2;go_ret;exact⟨by rw[iD (λa b S t=>P.out a b (AY (AE u)) t)];rfl,c.from_ p⟩
  have W:(k:J)<n:=AY (AE u);go_wp2
  go_loopg[4] n (λg x wr=>∃q:I,D (q+g=n)/\x=C Y q/\D (FA (K (U w)) W0 arr ea L wr)/\D (∀b,b<q->JD n (DS n L) k b=AP))
  case atStart=>grind [D]
  case round =>
   obtain⟨q,F,rfl,c,HQ⟩:=hrel;have V:=(c.cell 0).trans A;obtain _|Q:=gk
   .have i:¬(q:J)<n:=AY (AE F);go_wp2;go_roundg g
    case measure=>omega
    case rel =>
     refine⟨k+1,B9,Bb,c,λa b S t=>?_⟩;grind [D]
   have i:(q:J)<n:=AY (AE F);cases s:Fh n (DS n L) k q
   .have l:D (JD n (DS n L) k q=AQ):=by grind [JD]
    have v:=G s
    go_wp2_with(first
     |(refine CT Z 40 _ Z _ Z _ _ _ _ c.box underlying40 Z f ?_)
     |(refine EU Z Z Z c.box underlying40 Z f ?_)
     |(go_at_call 99;refine(XA h k E E c).mono ?_;rintro e o ⟨r,rfl,m,d⟩;have c:=G d;have y:AR (r<0)=AP:=(by grind [D])))
    go_ret;exact⟨C0,c.from_ p⟩
   cases z:Fh n (λj aa=>DS n L aa j) k q
   .have l:D (JD n (DS n L) k q=AQ):=by grind [JD]
    have v:=G s;have N:=G z
    go_wp2_with(first
     |(refine CT Z 40 _ Z _ Z _ _ _ _ c.box underlying40 Z f ?_)
     |(refine EU Z Z Z c.box underlying40 Z f ?_)
     |(go_at_call 99;refine(XA h k E E c).mono ?_;rintro e o ⟨r,rfl,m,d⟩;have c:=G d;have B:AR (r<0)=AQ:=(by grind [D]))
     |(go_at_call 100;refine(iE h k E E c).mono ?_;rintro e o ⟨r,rfl,m,d⟩;have c:=G d;have y:AR (r<0)=AP:=(by grind [D])))
    go_ret;exact⟨C0,c.from_ p⟩
   have l:D (JD n (DS n L) k q=AP):=by grind [JD]
   have v:=G s;have N:=G z
   go_wp2_with(first
    |(refine CT Z 40 _ Z _ Z _ _ _ _ c.box underlying40 Z f ?_)
    |(refine EU Z Z Z c.box underlying40 Z f ?_)
    |(go_at_call 99;refine(XA h k E E c).mono ?_;rintro e o ⟨r,rfl,m,d⟩;have c:=G d;have B:AR (r<0)=AQ:=(by grind [D]))
    |(go_at_call 100;refine(iE h k E E c).mono ?_;rintro e o ⟨r,rfl,m,d⟩;have c:=G d;have B:AR (r<0)=AQ:=(by grind [D])))
   go_roundg Q
   case measure=>omega
   case rel =>
    refine⟨q+1,B9,Bb,c,λb t=>?_⟩;grind [D]
end
end Go.Proofs.YtihfjkjbfaneeaaGreatDoor
