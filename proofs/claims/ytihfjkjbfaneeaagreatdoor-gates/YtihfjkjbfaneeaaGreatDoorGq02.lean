import Derived.Shelf.Unicode.DecodeSlow
import Derived.Test.YtihfjkjbfaneeaaGreatDoorShelf
import Derived.Lib.RuneBytes
import Derived.Lib.ValidU
import Derived.DeepKeys5
import Derived.Maps.Keyed
import Derived.Lib.IndexLaws
import Derived.Lib.IndexMore
import Derived.Test.YtihfjkjbfaneeaaGreatDoorGq01
set_option maxRecDepth 100000
set_option maxHeartbeats 8000000
set_option linter.all false
namespace Go.Proofs.YtihfjkjbfaneeaaGreatDoor
open Go.Proofs.Tryz
open _root_ renaming Nat->I,Int->J
open Go.Value renaming int->C,slice->T
open _root_.List renaming length->O
open Go.World renaming heap->U
open _root_.Array renaming size->K
open Go.IntKind renaming i64->Y
open Go.RowKit renaming Hid->D
open Go renaming World->X
open Option renaming some->H
open Go.Obj renaming cells->M
open Go.Value renaming int->Ab,slice->Ac,string->Ae,tuple->Af,agg->Ag,bool->Ah,iface->Ai,ownBlock->Ax
open Go.Obj renaming cells->Aj
open Go.Ending renaming returned->Ak
open Go.IntKind renaming i64->Al,u8->Am
open Option renaming some->An,none->Ao
open Go renaming DataW->AM,World->Ap,Value->Aq,Calls->Ar
open Go.Proofs.Tryz renaming prog->As
open _root_.List renaming replicate->AV,length->At,toArray->Aw
open _root_.Array renaming size->Au,setIfInBounds->Ay
open Go.World renaming setCell->AB,cell?->AC,setRow->AD,heap->Av,alloc->Az
open Go.RowKit.Hid renaming out->AE
open _root_ renaming Nat->AH,Int->AI,List->AJ,Bool->AK,ByteArray->AT,UInt8->AU
open _root_.Bool renaming true->AP,false->AQ
open _root_.Decidable renaming decide->AR
variable{P:Program}{o:Oper}{V V' W W' w w' w0 w5:X}{ops:Array Oper}{rest:AJ Oper}{A BE a b b0 b1 b2 b3 base bcap bytes cap cap5 ecap f g h hi i j k lo n off p rc sz wh x:I}{Q:Exit->Act->X->Prop}{d:A2}{L:AJ (J×J)}{B:AJ J}{ba ea ra:A4}{u v v' z:Aq}{st:I->I}{F:I->Prop}{bs l:A1}{c:AU}{e t t' ty:Go.TypeId}{news xs:AJ Aq}{m:I->I->AK}{s:AT}{ds:AJ (AM Unit)}{ps:AJ AT}{S:I->AK}
section
open Go.RowKit
def FI:A3:=#[Ab Al 0,Ac Ao 0 0,Ab Al 0,.string ByteArray.empty,Ab Al 0,Ab Al 0,Ab Al 0,Ab Al 0,Ab Al 0,Ab Al 0,Ac Ao 0 0]
theorem lS{ρ:Operand->Aq}(a:o.op=.alloc 40):(execOp ρ o).run As w=.ok (.value (A8 (K (U w)))) (Az w (M FI 40)):=BG
theorem Zs{a:Act}(e:o.guard=Ao)(f:o.op=.alloc 40){d:Option Tmp}(c:o.dst=d)(N:I)(b:K (U w)=N)(h:wpList As ops Q rest (a.put d (A8 N)) (Az w (M FI 40))):wpList As ops Q (o::rest) a w:=by subst b;exact Qd e d c _ _ (lS f) h
theorem lT(h:(n+8)*16<=281474976710656)(w:X):(Instr.makeSlice 38 (C Y ((n:J)+8)) (C Y ((n:J)+8))).run As w=.ok (T (Aa (K (U w))) (n+8) (n+8)) (Az w (M (Eg (AV (n+8) (0,0))) 119)):=by obtain⟨i,c,a⟩:=OY.1 (show(prog.info? 119).map (λi=>(i.zero,i.size,i.bytes))=H (H (Ag #[C Y 0,C Y 0]),2,16) by kernel_rfl);simp only[LX]at a;obtain⟨f,d,b⟩:=a;have:=run_make w 38 119 i _ underlying38 c f Y Y _ (n+8) E (P6 _) (by rw[b];omega) E;rw[this,d];have e:((n:J)+8).toNat=n+8:=E;rw[e];show Result.ok _ (Az w (M (madeCells #[C Y 0,C Y 0] ((n+8)*2)) _))=_;rw[lL]
theorem lU(h:(n+8)*8<=281474976710656)(w:X):(Instr.makeSlice 25 (C Y ((n:J)+8)) (C Y ((n:J)+8))).run As w=.ok (T (Aa (K (U w))) (n+8) (n+8)) (Az w (M (EQ (AV (n+8) 0)) 3)):=by obtain⟨i,c,a⟩:=OY.1 (show(prog.info? 3).map (λi=>(i.zero,i.size,i.bytes))=H (H (C Y 0),1,8) by kernel_rfl);simp only[LX]at a;obtain⟨f,d,b⟩:=a;have:=run_make w 25 3 i _ underlying25 c f Y Y _ (n+8) E (P6 _) (by rw[b];omega) E;rw[this,d];have e:((n:J)+8).toNat=n+8:=E;rw[e,S3];show Result.ok _ (Az w (M (madeCells #[C Y 0] (n+8)) _))=_;rw[lO]
structure IK(w W:World)(arr:A3)(E:List (Int×Int))(I:List Int):Prop where
 below:A0 w W
 box:W.heap[w.heap.size]?=some (.cells arr 40)
 res:W.heap[w.heap.size+1]?=some (.cells FI 40)
 e:W.heap[w.heap.size+1+1]?=some (.cells (Eg E) 119)
 b:W.heap[w.heap.size+1+1+1]?=some (.cells (EQ I) 3)
theorem IK.setE{arr:A3}{E:AJ (J×J)}{I:AJ J}(h:IK w W arr E I)(i:AH)(x y:J)(hi:i<O E):IK w (AB (AB W ⟨K (U w)+1+1,i*2,Ao⟩ (C Y x)) ⟨K (U w)+1+1,i*2+1,Ao⟩ (C Y y)) arr (E.set i (x,y)) I:=by
 refine⟨(h.below.setCell B9 _).setCell B9 _,?_,?_,?_,?_⟩
 .rw[CY _ _ _ _ B9,CY _ _ _ _ B9];exact h.box
 .rw[CY _ _ _ _ Ba,CY _ _ _ _ Ba];exact h.res
 .rw[DQ _ _ _ _ _ _ (DQ _ _ _ _ _ _ h.e),Zm hi]
 rw[CY _ _ _ _ Ba,CY _ _ _ _ Ba];exact h.b
theorem KP(b off j:I):(⟨b,off,Ao⟩:Addr).add j=⟨b,off+j,Ao⟩:=BR
theorem lV(h:FG W ea L):∀a,ea=H a->∀j v,(Im L)[j]?=H v->AC W (a.add j)=H v:=by intro a d j v e;have f:=Dh e;rw[Qo]at f;obtain⟨b,off,c,_,i,k⟩:=h.at_ (j/2) E;rw[d]at c;cases c;rw[KP];have g:=Vg L (j/2) E;grind
theorem lW(h:FH W ba B):∀a,ba=H a->∀j v,(B.map λx=>Value.int Y x)[j]?=H v->AC W (a.add j)=H v:=by intro a f j v g;have c:j<O B:=B9;obtain⟨b,off,e,_,d⟩:=h.at_ j c;grind [KP]
theorem lX(L:AJ (J×J)):Aw (Im L++(Eg (AV (O L+8) (0,0))).toList.drop (O (Im L)))=Eg (L++Ep 0):=by
 have e:AV (O L+8) ((0,0):J×J)=AV (O L) (0,0)++AV 8 (0,0):=by rw[Yv]
 grind [Eg,lM,lP,Qo]
theorem lY(B:AJ J):Aw ((B.map λx=>Value.int Y x)++(EQ (AV (O B+8) 0)).toList.drop (O (B.map λx=>Value.int Y x)))=EQ (B++Fc 0):=by grind [EQ,Fc]
theorem IK.setI{arr:A3}{E:AJ (J×J)}{I:AJ J}(h:IK w W arr E I)(i:AH)(x:J):IK w (AB W ⟨K (U w)+1+1+1,i,Ao⟩ (C Y x)) arr E (I.set i x):=by
 refine⟨h.below.setCell B9 _,?_,?_,?_,?_⟩
 .rw[CY _ _ _ _ B9];exact h.box
 .rw[CY _ _ _ _ B9];exact h.res
 .rw[CY _ _ _ _ Ba];exact h.e
 rw[DQ _ _ _ _ _ _ h.b,Zo]
theorem lZ(w:X)(arr:A3)(a:AJ (J×J))(b:AJ J):IK w (Az (Az (Az (Az w (M arr 40)) (M FI 40)) (M (Eg a) 119)) (M (EQ b) 3)) arr a b:=by refine⟨(((Cl).alloc Ba _).alloc BC _).alloc BC _,?_,?_,?_,?_⟩<;>grind [Below.heap_alloc,Cj,World.size_alloc]
theorem IK.setBox{arr:A3}{E:AJ (J×J)}{I:AJ J}(h:IK w W arr E I)(j:AH)(v:Aq):IK w (AB W ⟨K (U w),j,Ao⟩ v) (Ay arr j v) E I :=
 ⟨h.below.setCell (Co _) _,DQ _ _ _ _ _ _ h.box,(CY _ _ _ _ Ba).trans h.res,(CY _ _ _ _ B7).trans h.e,(CY _ _ _ _ B7).trans h.b⟩
structure Sa(w W:World)(E:List (Int×Int))(I:List Int):Prop where
 below:A0 w W
 e:W.heap[w.heap.size+1+1]?=some (.cells (Eg E) 119)
 b:W.heap[w.heap.size+1+1+1]?=some (.cells (EQ I) 3)
theorem IK.fin{w W:Ap}{arr:A3}{E:AJ (J×J)}{I:AJ J}(h:IK w W arr E I)(X:A3):Sa w (AD W (K (U w)+1) X) E I :=
 ⟨Dj h.below B5,(Ve B5).trans h.e,(Ve B5).trans h.b⟩
theorem Sb{arr:A3}(h:arr.all (·.oneCell')=AP)(j:I)(a:v.oneCell'=AP):(Ay arr j v).all (·.oneCell')=AP:=B9
theorem Qp{X:A3}(h:X.size=11):FI.size=X.size:=kes
def Vh(arr:A3)(w:Ap)(ea ba:A4)(n m:AH):A3 :=
 (if ba.isSome then Ay (if ea.isSome then Ay arr 1 (Ac (Aa (Au (Av w)+1+1)) n (n+8))else arr) 10 (Ac (Aa (Au (Av w)+1+1+1)) m (m+8))
 else(if ea.isSome then Ay arr 1 (Ac (Aa (Au (Av w)+1+1)) n (n+8))else arr))
theorem m4{arr:A3}(F:arr.size=11)(A:arr.all (·.oneCell')=AP)(f1:arr[1]?=H (T ea (O L) ecap))(f10:arr[10]?=H (T ba (O B) bcap))(y:ea=Ao->O L=0/\ecap=0)(u:ba=Ao->O B=0/\bcap=0)(hL:(O L+8)*16<=281474976710656)(hB:(O B+8)*8<=281474976710656)(s:FG w ea L)(t:FH w ba B):Ar As 25 #[.agg arr] w λe w'=>e=Ak (.agg (Vh arr w ea ba (O L) (O B)))/\Sa w w' (L++Ep 8) (B++Fc 8):=by
 have q:D (FG (Az (Az (Az w (M arr 40)) (M FI 40)) (M (Eg (AV (O L+8) (0,0))) 119)) ea L):=s.below (((Cl).alloc Ba _).alloc BC _);have r:D (FH (Az (Az (Az (Az w (M arr 40)) (M FI 40)) (M (Eg (L++Ep 0)) 119)) (M (EQ (AV (O B+8) 0)) 3)) ba B):=t.below ((((Cl).alloc Ba _).alloc BC _).alloc BC _);clear s t;have ac:=lT hL;have ad:=lU hB;have S:=G F;have h:=G A;have af:=G y;have ae:=G u;clear F A y u;have o:D ((Az (Az (Az w (M arr 40)) (M FI 40)) (M (Eg (AV (O L+8) (0,0))) 119)).heap[K (U w)+1+1]?=H (M (Eg (AV (O L+8) (0,0))) 119)):=by grind [D,Cj,World.size_alloc]
 have p:D ((Az (Az (Az (Az w (M arr 40)) (M FI 40)) (M (Eg (L++Ep 0)) 119)) (M (EQ (AV (O B+8) 0)) 3)).heap[K (U w)+1+1+1]?=H (M (EQ (AV (O B+8) 0)) 3)):=keC;have m:D ((Az (Az (Az w (M arr 40)) (M FI 40)) (M (Eg (AV (O L+8) (0,0))) 119)).setRow (K (U w)+1+1) (Aw (Im L++(Eg (AV (O L+8) (0,0))).toList.drop (O (Im L)))) =
   Az (Az (Az w (M arr 40)) (M FI 40)) (M (Eg (L++Ep 0)) 119)):=by
  grind [D,lX,World.setRow_alloc_new,World.size_alloc]
 have n:D ((Az (Az (Az (Az w (M arr 40)) (M FI 40)) (M (Eg (L++Ep 0)) 119)) (M (EQ (AV (O B+8) 0)) 3)).setRow (K (U w)+1+1+1) (Aw ((B.map λx=>Value.int Y x)++(EQ (AV (O B+8) 0)).toList.drop (O (B.map λx=>Value.int Y x)))) =
   Az (Az (Az (Az w (M arr 40)) (M FI 40)) (M (Eg (L++Ep 0)) 119)) (M (EQ (B++Fc 0)) 3)):=by
  show _=_;rw[lY];grind [World.setRow_alloc_new,World.size_alloc]
 have V:=G (lZ w arr (L++Ep 0) (B++Fc 0));go_enter func25,ntmps25
 go_wp2_with(first
  |(refine Zs Z Z Z (K (U w)+1) ?hN ?_;case hN=>grind [World.size_alloc])
  |(refine Zp 38 Z Z underlying38 2 B6 (O L+8) (O L+8) (O L) ecap Z Z o.out ?hn ?h1 (lV q) ?h2 (lN L) ?_;(case hn=>grind [Qo]);(case h1=>grind [D]);(case h2=>grind [Qo,S8]);rw[AE m])
  |(refine Zp 25 Z Z underlying25 1 B6 (O B+8) (O B+8) (O B) bcap Z Z p.out ?hn ?h1 (lW r) ?h2 ?h3 ?_;(case hn=>grind);(case h1=>grind [D]);(case h2=>(rw[LW,Zn];simp));(case h3=>(intro aq hv;obtain⟨x,_,rfl⟩:=KI.1 hv;rfl));rw[AE n]))
 clear ac ad o p m n q r;generalize Az (Az (Az (Az w (M arr 40)) (M FI 40)) (M (Eg (L++Ep 0)) 119)) (M (EQ (B++Fc 0)) 3)=W0 at *
 go_loopg[7] 8 (λg x wr=>∃k:I,D (k+g=8)/\x=C Y k/\D (IK w wr arr (L++Ep k) (B++Fc k)))
 case atStart=>grind [D]
 case round =>
  clear V;obtain⟨k,l,rfl,d⟩:=hrel;obtain _|g:=gk
  .have ab:¬(k:J)<8:=AY (AE l);have v:k=8:=AY (AE l);subst v;have aa:=(Cb d.box 1).trans f1;have ah:=(Cb d.box 10).trans f10;have ao:=λw=>YF w 38 _ ea (O L) ecap 0 0 underlying38;have ap:=λw=>YF w 25 3 ba (O B) bcap 0 0 underlying25;have am:=λj=>Dq wr _ j _ _ d.box;obtain _|ag:=ea
   .obtain _|W:=ba
    .have a:=G d.out;have c:D _:=S;have f:D _:=h
     go_wp2_with(first
      |(refine CT Z 40 _ Z _ Z _ _ _ _ a.box underlying40 Z (Ec c) ?_)
      |(refine Db Z 40 _ _ Z (K (U w)+1) _ Z Z 40 FI a.res (Ec c) (Qp c) f ?_))
     exact CL (KE results25 _ _ _ 40 _ _ _ Z (CM _ _ FI _ _ _ a.res) underlying40 Z (Ec c)) Z ⟨Z,a.fin _⟩
    have a:D (IK w _ (Ay arr 10 (T (Aa (K (U w)+1+1+1)) (O B) (O B+8))) _ _):=d.setBox 10 _;have c:D (Array.size ((Ay arr 10 (T (Aa (K (U w)+1+1+1)) (O B) (O B+8))))=11):=B9;have f:D (Array.all ((Ay arr 10 (T (Aa (K (U w)+1+1+1)) (O B) (O B+8)))) _=AP):=Sb h 10 Z
    go_wp2_with(first
     |(refine CT Z 40 _ Z _ Z _ _ _ _ a.box underlying40 Z (Ec c) ?_)
     |(refine Db Z 40 _ _ Z (K (U w)+1) _ Z Z 40 FI a.res (Ec c) (Qp c) f ?_))
    exact CL (KE results25 _ _ _ 40 _ _ _ Z (CM _ _ FI _ _ _ a.res) underlying40 Z (Ec c)) Z ⟨Z,a.fin _⟩
   obtain _|W:=ba
   .have a:D (IK w _ (Ay arr 1 (T (Aa (K (U w)+1+1)) (O L) (O L+8))) _ _):=d.setBox 1 _;have c:D (Array.size ((Ay arr 1 (T (Aa (K (U w)+1+1)) (O L) (O L+8))))=11):=B9;have f:D (Array.all ((Ay arr 1 (T (Aa (K (U w)+1+1)) (O L) (O L+8)))) _=AP):=Sb h 1 Z
    go_wp2_with(first
     |(refine CT Z 40 _ Z _ Z _ _ _ _ a.box underlying40 Z (Ec c) ?_)
     |(refine Db Z 40 _ _ Z (K (U w)+1) _ Z Z 40 FI a.res (Ec c) (Qp c) f ?_))
    exact CL (KE results25 _ _ _ 40 _ _ _ Z (CM _ _ FI _ _ _ a.res) underlying40 Z (Ec c)) Z ⟨Z,a.fin _⟩
   have a:D (IK w _ (Ay (Ay arr 1 (T (Aa (K (U w)+1+1)) (O L) (O L+8))) 10 (T (Aa (K (U w)+1+1+1)) (O B) (O B+8))) _ _):=(d.setBox 1 _).setBox 10 _;have c:D (Array.size ((Ay (Ay arr 1 (T (Aa (K (U w)+1+1)) (O L) (O L+8))) 10 (T (Aa (K (U w)+1+1+1)) (O B) (O B+8))))=11):=B9;have f:D (Array.all ((Ay (Ay arr 1 (T (Aa (K (U w)+1+1)) (O L) (O L+8))) 10 (T (Aa (K (U w)+1+1+1)) (O B) (O B+8)))) _=AP):=Sb (Sb h 1 Z) 10 Z
   go_wp2_with(first
    |(refine CT Z 40 _ Z _ Z _ _ _ _ a.box underlying40 Z (Ec c) ?_)
    |(refine Db Z 40 _ _ Z (K (U w)+1) _ Z Z 40 FI a.res (Ec c) (Qp c) f ?_))
   exact CL (KE results25 _ _ _ 40 _ _ _ Z (CM _ _ FI _ _ _ a.res) underlying40 Z (Ec c)) Z ⟨Z,a.fin _⟩
  have an:k<8:=AY (AE l);have ab:(k:J)<8:=E;have i:O L+k<O (L++Ep k):=by grind [Zq]
  have z:O B+k<O (B++Fc k):=by grind [Zr]
  obtain⟨N,aa⟩:∃N,AC wr _=H N:=⟨_,(Cb d.e _).trans (MT _ _ i).1⟩
  obtain⟨P,ai⟩:∃P,AC wr _=H P:=⟨_,(Cb d.e _).trans (MT _ _ i).2⟩
  obtain⟨Q,aj⟩:∃Q,AC wr _=H Q:=⟨_,(Cb d.b _).trans (S9 z)⟩
  have ak:=λj=>Dq wr _ j _ _ d.e;have al:=λj=>Dq wr _ j _ _ d.b;have R:=G i;clear i z;go_wp2;go_roundg g
  case measure=>omega
  case rel =>
   refine⟨k+1,B9,Bb,?_⟩;have h1:=(d.setE _ 77 77 R).setI (O B+k) 77;grind [D,lQ,lR]
def KQ(D:AJ (AI×AI))(k:AH):AJ (AI×AI):=AV k (0,0)++D.drop k
theorem Vi(D:AJ (J×J))(k:I)(h:k<=O D):O (KQ D k)=O D:=by simp[KQ];omega
theorem m5{D:AJ (J×J)}(h:k<O D):(KQ D k)[k]'(by grind [Vi])=D[k]:=by grind [KQ]
theorem m6{D:AJ (J×J)}(h:k<O D):(KQ D k).set k (0,0)=KQ D (k+1):=by unfold KQ;have a:(AV k (0,0)++D.drop k).set k (0,0)=AV k (0,0)++(D.drop k).set 0 (0,0):=Ba;grind [List.drop_eq_getElem_cons,List.replicate_succ']
theorem m7:Fc 8=AV 8 77:=rfl
theorem m8:Ep 8=AV 8 (77,77):=rfl
def Ll(D:AJ AI)(k:AH):AJ AI:=AV k 1++D.drop k
theorem Zt(D:AJ J)(k:I)(h:k<=O D):O (Ll D k)=O D:=by simp[Ll];omega
theorem m9{D:AJ J}(h:k<O D):(Ll D k)[k]'(by grind [Zt])=D[k]:=by grind [Ll]
theorem me{D:AJ J}(h:k<O D):(Ll D k).set k 1=Ll D (k+1):=by unfold Ll;have a:(AV k 1++D.drop k).set k 1=AV k 1++(D.drop k).set 0 1:=Ba;grind [List.drop_eq_getElem_cons,List.replicate_succ']
theorem Sc(w:X)(b:I):w.grownBy w (H b):=⟨rfl,rfl,rfl,Co _,λ_ _ _=>rfl⟩
theorem Vj{a:X}(h:a.grownBy w (H b))(k:w.grownBy w' (H b)):a.grownBy w' (H b) :=
 ⟨k.os.trans h.os,k.tape.trans h.tape,k.output.trans h.output,Cy h.size k.size,λi c d=>(k.block i (CK c h.size) d).trans (h.block i c d)⟩
theorem Zu{a:X}(h:a.grownBy w (H b)){o:Obj}:a.grownBy (Az w o) (H b) :=
 Vj h ⟨rfl,rfl,rfl,Ba,λk c _=>Cx _ _ _ c⟩
theorem Zv{a:X}(h:a.grownBy w (H b)):a.grownBy (w.drewN n) (H b):=Vj h ⟨rfl,rfl,rfl,Co _,λ_ _ _=>rfl⟩
theorem Pf{a:X}(h:a.grownBy w (H b)){o:I}:a.grownBy (AB w ⟨b,o,Ao⟩ v) (H b) :=
 Vj h ⟨rfl,rfl,rfl,Bd,λk _ c=>CY _ _ _ _ (λe=>c (by rw[e]))⟩
theorem Qq{a:X}(h:a.grownBy w (H b)){B:I}(c:B<=b)(e:B<=K (U a)):Below B a w :=
 ⟨h.os,h.tape,h.output,h.size,λk d=>h.block k E B7⟩
theorem mg(B:AJ J)(ba:A4)(n:I)(a:I)(W:O B+8<=9223372036854775807)(j w:X)(u:FH j ba B)(hb:A0 j w)(R:K (U j)<=a)(A:ba.isSome=AP)(S:A7 w a (EQ (B++Fc 8)) 3):Ar As 66 #[T (Aa a) (O B) (O B+8),T ba (O B) n] w λe V=>e=Ak (Ah AP)/\w.grownBy V (H a):=by
 have q:=G u;have l:=G hb;have d:D (A7 w a (EQ (Ll (B++Fc 8) 0)) 3):=S;obtain⟨s,rfl⟩:=YC.1 A;have aa:=λw=>Qc w 25 3 (H s) (O B) n 0 0 underlying25;have Q:O (B++Fc 8)=O B+8:=by grind [Zr]
 have r:=G Q;go_enter func66,ntmps66;go_wp2
 go_loopg[8,7,9] (O B+8) (λg x y ab wr=>∃k:I,D (k+g=O B+8)/\x=C Y k/\y=Ah AP/\D (w.grownBy wr (H a))/\D (A7 wr a (EQ (Ll (B++Fc 8) k)) 3))
 case atStart=>grind [D,Sc]
 case round =>
  obtain⟨k,p,rfl,rfl,c,d⟩:=hrel;obtain _|g:=gk
  .have P:¬(k:J)<O B+8:=AY (AE p);go_wp2;go_ret;exact⟨Z,c⟩
  have P:(k:J)<O B+8:=AY (AE p);have h:k<O (B++Fc 8):=by rw[AE r];omega
  have f:=(Cb d k).trans (S9 (by grind [Zt]));rw[m9 h]at f;have hf:=Dq wr a k _ _ d;have m:D ((AB wr ⟨a,k,Ao⟩ (C Y 1)).heap[a]?=H (M (EQ (Ll (B++Fc 8) (k+1))) 3)):=by show _=_;rw[DQ _ _ _ _ _ _ d,Zo,me h]
  by_cases i:k<O B
  .have N:(k:J)<O B:=E;obtain⟨b,off,L,z,o⟩:=(q.below (l.trans (Qq c R l.size))).at_ k i;cases L;have F:=o k i;rw[Qa i]at f;generalize B[k]=v at f F;clear o h;go_wp2;go_roundg g
   case measure=>omega
   case rel=>exact⟨_,B9,Bb,Ba,Pf c,m⟩
  have N:¬(k:J)<O B:=E;have t:(B++Fc 8)[k]=77:=by grind [m7]
  rw[t]at f;go_wp2;go_roundg g
  case measure=>omega
  case rel=>exact⟨_,B9,Bb,Ba,Pf c,m⟩
theorem mh(L:AJ (J×J))(f:A4)(r:I)(a:I)(hB:O L+8<=9223372036854775807)(m w:X)(Q:FG m f L)(hb:A0 m w)(j:K (U m)<=a)(R:f.isSome=AP)(x:A7 w a (Eg (L++Ep 8)) 119):Ar As 65 #[T (Aa a) (O L) (O L+8),T f (O L) r] w λe w'=>e=Ak (Ah AP)/\w.grownBy w' (H a):=by
 have B:=G Q;have n:=G hb;have c:D (A7 w a (Eg (KQ (L++Ep 8) 0)) _):=x;obtain⟨N,rfl⟩:=YC.1 R;have ah:=λw=>Qc w 38 _ (H N) (O L) r 0 0 underlying38;have z:O (L++Ep 8)=O L+8:=by grind [Zq]
 have F:=G z;go_enter func65,ntmps65;go_wp2
 go_loopg[8,7,9] (O L+8) (λg aa ab ai wr=>∃k:I,D (k+g=O L+8)/\aa=C Y k/\ab=Ah AP/\D (w.grownBy wr (H a))/\D (A7 wr a (Eg (KQ (L++Ep 8) k)) 119))
 case atStart=>grind [D,Sc]
 case round =>
  obtain⟨k,s,rfl,rfl,d,c⟩:=hrel;have S:=Cc c;obtain _|g:=gk
  .have b:¬(k:J)<O L+8:=AY (AE s);go_wp2;go_ret;exact⟨Z,d⟩
  have b:(k:J)<O L+8:=AY (AE s);have t:k<O (L++Ep 8):=by rw[AE F];omega
  have h:=MT (KQ (L++Ep 8) k) k (by grind [Vi]);rw[m5 t]at h;have i:=(Cb c _).trans h.1;have l:=(Cb c _).trans h.2;have hf:=λy=>Dq wr a y _ _ c;have p:D (∀o q,((((Az wr o).drewN q).setCell ⟨a,k*2,Ao⟩ (C Y 0)).setCell ⟨a,k*2+1,Ao⟩ (C Y 0)).heap[a]?=H (M (Eg (KQ (L++Ep 8) (k+1))) 119)):=by intro o q;rw[DQ _ _ _ _ _ _ (DQ ((Az wr o).drewN q) _ _ _ _ _ ((Cx wr o _ S).trans c)),Zm (by grind [Vi]),m6 t]
  by_cases A:k<O L
  .have W:(k:J)<O L:=E;obtain⟨ac,off,V,ae,af,ag⟩:=(B.below (n.trans (Qq d j n.size))).at_ k A;cases V;rw[Qa A]at i l;generalize L[k].1=v at *;generalize L[k].2=u at *;go_wp2
   go_quiet (fail)
   go_wp2;go_roundg g
   case measure=>omega
   case rel=>exact⟨_,B9,Bb,rfl,Pf (Pf (Zv (Zu d))),p _ _⟩
  have W:¬(k:J)<O L:=E;have P:(L++Ep 8)[k]=(77,77):=by grind [m8]
  rw[P]at i l;dsimp only at i l;go_wp2
  go_quiet (fail)
  go_wp2;go_roundg g
  case measure=>omega
  case rel=>exact⟨_,B9,Bb,rfl,Pf (Pf (Zv (Zu d))),p _ _⟩
theorem mi:Ar As 65 #[v,T Ao n cap] w λe a=>e=Ak (Ah AP)/\a=w:=by have b:=λw=>Qc w 38 _ Ao n cap 0 0 underlying38;go_enter func65,ntmps65;go_wp2;go_ret;exact⟨Z,Z⟩
theorem mj:Ar As 66 #[v,T Ao n cap] w λe a=>e=Ak (Ah AP)/\a=w:=by have b:=λw=>Qc w 25 3 Ao n cap 0 0 underlying25;go_enter func66,ntmps66;go_wp2;go_ret;exact⟨Z,Z⟩
theorem ml(a:I)(f:O L+8<=9223372036854775807)(d:FG w0 ea L)(hb:A0 w0 w)(g:K (U w0)<=BE)(i:ea.isSome=AP->v=T (Aa BE) (O L) (O L+8))(h:A7 w BE (Eg (L++Ep 8)) 119):Ar As 65 #[v,T ea (O L) a] w λe b=>e=Ak (Ah AP)/\w.grownBy b (H BE):=by
 obtain _|c:=ea
 .apply (mi).mono;grind [Sc]
 grind [mh]
theorem mm(a:I)(f:O B+8<=9223372036854775807)(d:FH w0 ba B)(hb:A0 w0 w)(g:K (U w0)<=BE)(i:ba.isSome=AP->v=T (Aa BE) (O B) (O B+8))(h:A7 w BE (EQ (B++Fc 8)) 3):Ar As 66 #[v,T ba (O B) a] w λe b=>e=Ak (Ah AP)/\w.grownBy b (H BE):=by
 obtain _|c:=ba
 .apply (mj).mono;grind [Sc]
 grind [mg]
theorem mo{arr oarr:A3}{v1 v10:Aq}(f1:arr[1]?=H (T ea (O L) ecap))(f10:arr[10]?=H (T ba (O B) bcap))(R:oarr[1]?=H v1)(r:oarr[10]?=H v10)(y:O L+8<=9223372036854775807)(v:O B+8<=9223372036854775807)(u:FG w0 ea L)(x:FH w0 ba B)(hb:A0 w0 w)(A:ea.isSome=AP->v1=T (Aa (K (U w0)+1+1)) (O L) (O L+8))(F:ba.isSome=AP->v10=T (Aa (K (U w0)+1+1+1)) (O B) (O B+8))(h:A7 w (K (U w0)+1+1) (Eg (L++Ep 8)) 119)(i:A7 w (K (U w0)+1+1+1) (EQ (B++Fc 8)) 3):Ar As 28 #[.agg oarr,.agg arr] w λe k=>e=Ak (Ah AP)/\Below (K (U w0)) w k/\∀j,j<K (U w)->j≠K (U w0)+1+1->j≠K (U w0)+1+1+1->k.heap[j]?=w.heap[j]?:=by
 have P:=Cc h;have Q:=Cc i;have f:Below _ w (Az (Az w (M oarr 40)) (M arr 40)):=(Cl).alloc Ba _;have q:=ml ecap y u (hb.trans (f.mono hb.size)) E A ((f.block _ P).trans h);have b:D (K (U (Az (Az w (M oarr 40)) (M arr 40)))=K (U w)+1+1):=BL;have o:D ((Az (Az w _) (M arr 40)).heap[K (U w)]?=H (M oarr 40)):=(Cx _ _ _ Ba).trans (Cj _);have p:D ((Az (Az w (M oarr 40)) (M arr 40)).heap[K (U w)+1]?=H (M arr 40)):=keC;have d:=G hb;have c:=G f;have l:=G x;have n:=G F;have m:=G i;go_enter func28,ntmps28
 go_wp2_with(first
  |(go_at_call 65;apply q.mono;rintro e W ⟨rfl,a⟩;have N:=a.size;rw[AE b]at N;have S:=(Cb ((a.block _ (by rw[AE b];omega) B7).trans o.out) 10).trans r;have V:=(Cb ((a.block _ (by rw[AE b];omega) B7).trans p.out) 10).trans f10;have c2:=mm bcap v l ((d.trans (c.mono d.size)).trans (Qq a E (by grind [D]))) E n ((a.block _ (by rw[AE b];omega) Ba).trans ((c.block _ Q).trans m)))
  |(go_at_call 66;apply c2.mono;rintro e w3 ⟨rfl,g⟩))
 go_ret;exact⟨Z,((c.mono d.size).trans (Qq a E (by grind [D]))).trans (Qq g E E),λj z s t=>(g.block j E keR).trans ((a.block j (by rw[AE b];omega) keT).trans (c.block j z))⟩
def O2(B:AJ AI)(k:AI):AK:=B.any λx=>x==k
theorem mq{a:A4}{k:J}(n:O B<=maxLen)(m:FH w a B):Ar As 5 #[T a (O B) cap,C Y k] w λe r=>e=Ak (Ah (O2 B k))/\r=w:=by
 unfold maxLen at n;have l:=G m;go_enter func5,ntmps5;go_wp2
 go_loopg[5] (O B) (λg x wr=>∃i:I,D (i+g=O B)/\x=C Y i/\w=wr/\D (∀j (h:j<O B),j<i->(B[j]==k)=AQ))
 case atStart=>grind [D]
 case round =>
  obtain⟨i,f,rfl,rfl,t⟩:=hrel;obtain _|g:=gk
  .have q:¬(i:J)<O B:=AY (AE f);have d:D (O2 B k=AQ):=by grind [D,O2,List.getElem_of_mem]
   go_wp2;go_ret;exact⟨by rw[AE d];rfl,rfl⟩
  have q:(i:J)<O B:=AY (AE f);obtain⟨b,off,rfl,z,p⟩:=l.at_ i E;have o:=p i E;have u:D (B[i]∈B):=P5 _;have s:D (∀x,x=B[i]->∀(h:i<O B),(B[i]==k)=(x==k)):=λx c h=>by rw[c]
  obtain⟨x,c⟩:=IX (B[i]);have y:=G c;rw[<-c]at o;cases e:(x==k)
  .have v:=G e;go_wp2;go_roundg g
   case measure=>omega
   case rel =>
    refine⟨i+1,B9,Bb,Z,λj h A=>?_⟩;grind [D]
  have d:D (O2 B k=AP):=by grind [O2]
  go_wp2;go_ret;exact⟨by rw[AE d];rfl,rfl⟩
structure CD where
 labels:Int
 L:List (Int×Int)
 ea:A4
 ecap:Nat
 dflt:Int
 pol:ByteArray
 clr:Int
 key:Int
 inn:Int
 out:Int
 depth:Int
 bytes:Int
 B:List Int
 ba:A4
 bcap:Nat
def CD.arr(c:CD):A3:=#[Ab Al c.labels,Ac c.ea (At c.L) c.ecap,Ab Al c.dflt,.string c.pol,Ab Al c.clr,Ab Al c.key,Ab Al c.inn,Ab Al c.out,Ab Al c.depth,Ab Al c.bytes,Ac c.ba (At c.B) c.bcap]
theorem CD.size(c:CD):c.arr.size=11:=rfl
theorem CD.one(c:CD):c.arr.all (·.oneCell')=AP:=by simp[CD.arr,Value.oneCell']
structure Gz(w:World)(c:CD):Prop where
 edges:FG w c.ea c.L
 ints:FH w c.ba c.B
 en:c.ea=none->c.L.length=0/\c.ecap=0
 bn:c.ba=none->c.B.length=0/\c.bcap=0
 eb:(c.L.length+8)*16<=281474976710656
 bb:(c.B.length+8)*8<=281474976710656
theorem Gz.below{c:CD}(h:Gz w c)(hb:A0 w w'):Gz w' c:=⟨h.edges.below hb,h.ints.below hb,h.en,h.bn,h.eb,h.bb⟩
def CD.lent(c:CD)(w:Ap):CD :=
 {c with
  ea:=if c.ea.isSome then Aa (Au (Av w)+1+1)else c.ea
  ecap:=if c.ea.isSome then At c.L+8 else c.ecap
  ba:=if c.ba.isSome then Aa (Au (Av w)+1+1+1)else c.ba
  bcap:=if c.ba.isSome then At c.B+8 else c.bcap}
theorem CD.lent_arr(c:CD)(w:X):(c.lent w).arr=Vh c.arr w c.ea c.ba (O c.L) (O c.B):=by unfold CD.lent CD.arr Vh;cases c.ea<;>cases c.ba<;>rfl
theorem mr{c:CD}(d:Gz w c)(h:Sa w W (c.L++Ep 8) (c.B++Fc 8)):Gz W (c.lent w):=by
 have m:=Cc h.e;have n:=Cc h.b;refine⟨⟨λi a=>?_⟩,⟨λi a=>?_⟩,λf=>?_,λf=>?_,d.eb,d.bb⟩
 .have a:i<O c.L:=a;rcases he:c.ea with _|k
  .have:=(d.en he).1;omega
  refine⟨_,0,by simp[CD.lent,he],m,?_,?_⟩
  .have g:=(MT (c.L++Ep 8) i B9).1;rw[Qa a]at g;rw[Gw];exact(Cb h.e _).trans g
  have g:=(MT (c.L++Ep 8) i B9).2;rw[Qa a]at g;rw[Gw];exact(Cb h.e _).trans g
 .have a:i<O c.B:=a;rcases he:c.ba with _|k
  .have:=(d.bn he).1;omega
  refine⟨_,0,by simp[CD.lent,he],n,λj l=>?_⟩;have l:j<O c.B:=l;have g:=S9 (B:=(c.B++Fc 8)) (i:=j) B9;rw[Qa l]at g;rw[Gw];exact(Cb h.b _).trans g
 .rcases he:c.ea with _|k
  .have:=d.en he;refine⟨this.1,?_⟩;show(if c.ea.isSome then O c.L+8 else c.ecap)=0;rw[he];exact this.2
  exfalso;have f:(if c.ea.isSome then H _ else c.ea)=Ao:=f;grind
 rcases he:c.ba with _|k
 .have:=d.bn he;refine⟨this.1,?_⟩;show(if c.ba.isSome then O c.B+8 else c.bcap)=0;rw[he];exact this.2
 exfalso;have f:(if c.ba.isSome then H _ else c.ba)=Ao:=f;grind
structure Jg(w:World):Prop where
 signs:∃t fr,w.heap[2]?=some (.cells #[.string ⟨#[42]⟩,.int .i64 0,.string ⟨#[42,42]⟩,.int .i64 1,.string ⟨#[91,93]⟩,.int .i64 2] t fr)
 tabs:Lib.Utf8Tabs 4 5 w
 mlen:∃m,w.cell? ⟨3,0,none⟩=some (.int .i64 m)
theorem Jg.below(h:Jg w)(hb:A0 w w'):Jg w':=by obtain⟨t,fr,a⟩:=h.signs;obtain⟨m,b⟩:=h.mlen;exact⟨⟨t,fr,(hb.block _ (Cc a)).trans a⟩,Utf8Tabs_below h.tabs hb,⟨m,(hb.cell (FF b)).trans b⟩⟩
def ms(f:AH)(E N:CD->AI):Prop:=∀(c:CD) (w:Ap),Gz w c->Jg w->Ar As f #[.agg c.arr] w λe w'=>e=Ak (Af #[Ab Al (E c),Ab Al (N c)])/\A0 w w'
end
section
open Go.RowKit Go.Lib
def U8(W:Ap):Prop:=Utf8Tabs 4 5 W
theorem U8.below(h:U8 W)(hb:A0 W V):U8 V:=by
 refine⟨λc b=>?_,λi a=>⟨?_,?_⟩⟩
 .have:=h.1 c b;exact(hb.cell (p:=⟨_,c,Ao⟩) (FF this)).trans this
 .have:=(h.2 i a).1;exact(hb.cell (p:=⟨_,_,Ao⟩) (FF this)).trans this
 have:=(h.2 i a).2;exact(hb.cell (p:=⟨_,_,Ao⟩) (FF this)).trans this
theorem ZN:∀v:Fin 256,bits .and Am (v.val:J) 7=((v.val%8:I):J):=B8
structure O6(b0 x sz i lo hi:Nat):Prop where
 fx:firstT b0=x
 fsz:bits .and .u8 (x:Int) 7=(sz:Int)
 fi:x/16=i
 flt:i<16
 fxb:x<256
 flo:accLo i=lo
 fhi:accHi i=hi
theorem O6.szlt(h:O6 b0 x sz i lo hi):sz<8:=by have a:=ZN ⟨x,h.fxb⟩;have b:=h.fsz;rw[a]at b;omega
theorem nI(h:firstT b0=x)(hx:x<256):O6 b0 x (x%8) (x/16) (accLo (x/16)) (accHi (x/16)):=by refine⟨h,?_,rfl,E,hx,rfl,rfl⟩;exact ZN ⟨x,hx⟩
theorem ZO(a:O6 b0 x sz i lo hi)(d:U8 W):A6 W 5 (i*2) (C Am lo)/\A6 W 5 (i*2+1) (C Am hi):=by obtain⟨b,c⟩:=d.2 i a.flt;rw[a.flo]at b;rw[a.fhi]at c;grind
def Lr(n sz lo hi b1 b2:AH):AK:=AR (sz<=n)||decide (1<n)&&(AR (b1<lo)||decide (hi<b1))||decide (2<n)&&(AR (b2<128)||decide (191<b2))
theorem Qu{p:Addr}{o:Obj}(h:AC W p=H v):(Az W o).cell? p=H v:=(IV W p o kes).trans h
theorem Pn(a b:I):AR ((a:J)<b)=AR (a<b):=Ba
theorem ZP(a:O6 b0 x sz i lo hi)(hb:b0<256)(F:1<=n)(B:n<=3\/sz<=n/\n<=4)(y:A6 W g off (C Am b0))(d:1<n->A6 W g (off+1) (C Am b1))(f:2<n->A6 W g (off+2) (C Am b2))(h:U8 W):Ar As 291 #[T (H ⟨g,off,Ao⟩) n cap] W λe j=>e=Ak (Ah (Lr n sz lo hi b1 b2))/\A0 W j:=by
 have m:=h.1 b0 hb;rw[a.fx]at m;have z:=a.fsz;have L:wrap64 (sz:J)=sz:=by have:=a.szlt;unfold wrap64;omega
 obtain⟨k,l⟩:=ZO a h;have A:x/16<16:=by rw[a.fi];exact a.flt
 rw[<-a.fi]at k l;have c:D (A0 W (Az W (M #[C Am lo,C Am hi] 349))):=Cl;have c2:=Cb (Cj W (o:=(M #[C Am lo,C Am hi] 349))) 0;have u:=Cb (Cj W (o:=(M #[C Am lo,C Am hi] 349))) 1;have s:AR ((b2:J)<128)=AR (b2<128):=Pn b2 128;have t:AR ((191:J)<b2)=AR (191<b2):=Pn 191 b2;by_cases w:sz<=n
 .have v:((n:J)==0)=AQ:=B7;have b:AR (sz<=n)=AP:=B7;go_enter func291,ntmps291;go_wp2;go_ret;exact⟨by rw[Lr,b];rfl,Cq _ _⟩
 have b:AR (sz<=n)=AQ:=B7;obtain rfl|rfl|rfl:n=1\/n=2\/n=3:=E
 all_goals(try replace d:=Qu (o:=(M #[C Am lo,C Am hi] 349)) (d B8));(try replace f:=Qu (o:=(M #[C Am lo,C Am hi] 349)) (f B8))
 rotate_left
 cases q1:AR (b1<lo)<;>cases p:AR (hi<b1)
 rotate_left 4
 cases q1:AR (b1<lo)<;>cases p:AR (hi<b1)<;>cases q:AR (b2<128)<;>cases r:AR (191<b2)<;>rw[q]at s<;>rw[r]at t
 all_goals(go_enter func291,ntmps291;go_wp2;go_quiet (fail);go_wp2;go_ret;exact⟨by rw[Lr,b];simp[*],c.trans ((Ip (n:=nq)).mono c.size)⟩)
def MY(n sz lo hi b1 b2 b3:AH):AK:=AR (n<sz)||(n==2&&(AR (b1<lo)||decide (hi<b1)))||(n==3&&(AR (b2<128)||decide (191<b2)))||(n==4&&(AR (b3<128)||decide (191<b3)))
theorem nJ(c:O6 b0 x sz i lo hi)(hb:b0<256)(hx:x<240)(hn:1<=n)(F:2<=sz/\n<=sz/\sz<=4)(V:A6 W g off (C Am b0))(q:1<n->A6 W g (off+1) (C Am b1))(r:2<n->A6 W g (off+2) (C Am b2))(s:3<n->A6 W g (off+3) (C Am b3))(t:U8 W)(L:2<n->lo<=b1/\b1<=hi)(N:3<n->128<=b2/\b2<=191):Ar As 299 #[T (H ⟨g,off,Ao⟩) n cap] W λe w=>∃m k,e=Ak (Af #[C .i32 m,C Y k])/\(m==65533&&k==1)=MY n sz lo hi b1 b2 b3/\A0 W w:=by
 have A:=t.1 b0 hb;rw[c.fx]at A;have h2:=c.fsz;have aa:wrap64 (sz:J)=sz:=keZ;obtain⟨y,z⟩:=ZO c t;have h3:x/16<16:=E;rw[<-c.fi]at y z;have x1:AR (240<=(x:J))=AQ:=B7;have l:D (A0 W (Az W (M #[C Am lo,C Am hi] 349))):=Cl;have c2:=Cb (Cj W (o:=(M #[C Am lo,C Am hi] 349))) 0;have R:=Cb (Cj W (o:=(M #[C Am lo,C Am hi] 349))) 1;have u:AR ((b2:J)<128)=AR (b2<128):=Pn b2 128;have v:AR ((191:J)<b2)=AR (191<b2):=Pn 191 b2;have P:AR ((b3:J)<128)=AR (b3<128):=Pn b3 128;have Q:AR ((191:J)<b3)=AR (191<b3):=Pn 191 b3;have f1:2<n->AR (b1<lo)=AQ:=λh=>B9;have p:2<n->AR (hi<b1)=AQ:=λh=>B9;have f:3<n->AR (b2<128)=AQ:=λh=>B9;have j:3<n->AR (191<b2)=AQ:=λh=>B9;have a:MY n sz lo hi b1 b2 b3=MY n sz lo hi b1 b2 b3:=rfl
 conv at a=>rhs;unfold MY
 by_cases B:n<sz
 .have S:AR ((n:J)<1)=AQ:=B7;have d:AR (n<sz)=AP:=B7;rw[d]at a;go_enter func299,ntmps299;go_wp2
  go_ret2
  exact⟨_,_,Z,a.symm,l⟩
 obtain rfl:n=sz:=E;clear B;have d:AR (n<n)=AQ:=Ba;rw[d]at a;obtain rfl|rfl|rfl:n=2\/n=3\/n=4:=E
 all_goals(try replace q:=Qu (o:=(M #[C Am lo,C Am hi] 349)) (q B8));(try replace r:=Qu (o:=(M #[C Am lo,C Am hi] 349)) (r B8));(try replace s:=Qu (o:=(M #[C Am lo,C Am hi] 349)) (s B8));(try replace f1:=f1 B8);(try replace p:=p B8);(try replace f:=f B8);(try replace j:=j B8)
 cases q1:AR (b1<lo)<;>cases b:AR (hi<b1)<;>rw[q1,b]at a
 rotate_left 4
 cases q1:AR (b2<128)<;>cases b:AR (191<b2)<;>rw[q1,b]at a<;>rw[q1]at u<;>rw[b]at v
 rotate_left 4
 rw[f]at u;rw[j]at v;cases q1:AR (b3<128)<;>cases b:AR (191<b3)<;>rw[q1,b]at a<;>rw[q1]at P<;>rw[b]at Q
 all_goals clear L N F
 all_goals(go_enter func299,ntmps299;go_wp2;go_ret2;exact⟨_,_,Z,by rw[a];simp,l⟩)
theorem nK(n:I)(hx:firstT b0=241)(hb:b0<256)(k:1<=n)(j:A6 W g off (C Am b0))(h:U8 W):Ar As 299 #[T (H ⟨g,off,Ao⟩) n cap] W λe c=>e=Ak (Af #[C .i32 65533,C Y 1])/\c=W:=by
 have d:=h.1 b0 hb;rw[hx]at d;have f:=Utf8W.drop_byte ⟨b0,hb⟩;have a:=G f;have i:AR ((n:J)<1)=AQ:=B7;have b:D (wrap32 517543559168/2147483648 = -1):=by grind [D,wrap32]
 go_enter func299,ntmps299;go_wp2
 go_ret2
 refine⟨?_,Z⟩;show Ending.returned (Af #[C .i32 (bits .or .i32 (bits .andNot .i32 (b0:J) (wrap32 517543559168/2147483648)) (bits .and .i32 65533 (wrap32 517543559168/2147483648))),C Y 1])=_;rw[AE b,AE a]
theorem nL(cap n:I)(hb:b0<128)(f:1<=n)(d:A6 W g off (C Am b0)):Ar As 292 #[T (H ⟨g,off,Ao⟩) n cap] W λe a=>e=Ak (Af #[C .i32 b0,C Y 1])/\a=W:=by
 have b:AR (0<n)=AP:=B7;have c:AR ((b0:J)<128)=AP:=B7;go_enter func292,ntmps292;go_wp2;refine wp_loop_rounds 1 ?_;rw[rounds_succ];go_wp2
 go_ret2
 exact⟨Z,Z⟩
theorem nM(hb:128<=b0)(k:1<=n)(j:A6 W g off (C Am b0)){R:J->J->X->Prop}(d:Ar As 299 #[T (H ⟨g,off,Ao⟩) n cap] W λe c=>∃a b,e=Ak (Af #[C .i32 a,C Y b])/\R a b c):Ar As 292 #[T (H ⟨g,off,Ao⟩) n cap] W λe c=>∃a b,e=Ak (Af #[C .i32 a,C Y b])/\R a b c:=by
 have h:AR (0<n)=AP:=B7;have i:AR ((b0:J)<128)=AQ:=B7;go_enter func292,ntmps292;go_wp2;refine wp_loop_rounds 1 ?_;rw[rounds_succ]
 go_wp2_with(first
  |(go_at_call 299;refine d.mono ?_;rintro e l ⟨a,b,rfl,f⟩))
 go_ret2
 exact⟨a,b,Z,f⟩
def Fx(b:AU):AH:=firstT b.toNat%8
def M4(b:AU):AH:=accLo (firstT b.toNat/16)
def M5(b:AU):AH:=accHi (firstT b.toNat/16)
def GU:A1->AK
 |[]=>AP
 |[b0]=>AR (2<=Fx b0)
 |[b0,b1]=>AR (3<=Fx b0/\M4 b0<=b1.toNat/\b1.toNat<=M5 b0)
 |[b0,b1,b2]=>AR (4<=Fx b0/\(M4 b0<=b1.toNat/\b1.toNat<=M5 b0)/\128<=b2.toNat/\b2.toNat<=191)
 |_=>AQ
def D9(l:A1)(b:AU):AH:=match l with
 |[]=>if Fx b=0 then 2 else if Fx b=1 then 0 else 1
 |[b0]=>if b.toNat<M4 b0\/M5 b0<b.toNat then 0 else if Fx b0=2 then 2 else 1
 |[b0,_]=>if b.toNat<128\/191<b.toNat then 0 else if Fx b0=3 then 2 else 1
 |_=>if b.toNat<128\/191<b.toNat then 0 else 2
theorem Vr{b:AU}:(Fx b=0/\firstT b.toNat=240/\b.toNat<128)\/(Fx b=1/\firstT b.toNat=241/\128<=b.toNat)\/(2<=Fx b/\Fx b<=4/\firstT b.toNat<240/\128<=b.toNat):=by
 unfold Fx;have f:=firstT_cases b.toNat;have c:b.toNat<128->firstT _=240:=λh=>by unfold firstT;rw[Cn h]
 have d:128<=b.toNat->firstT b.toNat≠240:=λh=>by
  unfold firstT;rw[Ci E]
  repeat' split
  all_goals decide
 by_cases a:b.toNat<128
 .left;have:=c a;exact⟨by rw[this],this,a⟩
 have e:=d E;rcases f with h|h|h|h|h|h|h|h|h
 .exact absurd h e
 .right;left;exact⟨by rw[h],h,E⟩
 all_goals(right;right;rw[h];exact⟨B8,B8,B8,E⟩)
theorem Vs{b:AU}(h:2<=Fx b):Fx b<=4/\firstT b.toNat<240/\128<=b.toNat:=by
 rcases Vr (b:=b)with a|a|a
 .omega
 .omega
 exact a.2
theorem Vt{b:AU}:O6 b.toNat (firstT b.toNat) (Fx b) (firstT b.toNat/16) (M4 b) (M5 b):=nI rfl (by rcases firstT_cases b.toNat with h|h|h|h|h|h|h|h|h<;>rw[h]<;>decide)
def Jk(V:Ap)(g off n cap:AH)(r:AK):Prop:=Ar As 291 #[Ac (An ⟨g,off,Ao⟩) n cap] V λe W'=>e=Ak (Ah r)/\A0 V W'
def KU(V:Ap)(g off n cap:AH)(bad:AK):Prop:=Ar As 292 #[Ac (An ⟨g,off,Ao⟩) n cap] V λe W'=>∃ch sz,e=Ak (Af #[Ab .i32 ch,Ab Al sz])/\(ch==65533&&sz==1)=bad/\A0 V W'
theorem ZQ{r:AK}(hb:128<=b0)(d:1<=n)(c:A6 V g off (C Am b0))(h:Ar As 299 #[T (H ⟨g,off,Ao⟩) n cap] V λe b=>∃a k,e=Ak (Af #[C .i32 a,C Y k])/\(a==65533&&k==1)=r/\A0 V b):KU V g off n cap r :=
 nM hb d c h
theorem Po{F D:AK}(hF:Jk V g off n cap F)(a:k≠1->KU V g off n cap D)(h:F=(k != 1)/\(k≠1->D=(k==0))):(k=1->Jk V g off n cap AQ)/\(k=0->Jk V g off n cap AP/\KU V g off n cap AP)/\(k=2->Jk V g off n cap AP/\KU V g off n cap AQ):=by
 obtain⟨rfl,h⟩:=h;refine⟨?_,?_,?_⟩
 all_goals rintro rfl
 .exact hF
 all_goals(obtain rfl:=h B8;exact⟨hF,a B8⟩)
theorem Vu{b0:AU}(l:2<=n/\n<=Fx b0)(a:A6 V g off (C Am b0.toNat))(c:A6 V g (off+1) (C Am b1))(d:2<n->A6 V g (off+2) (C Am b2))(f:3<n->A6 V g (off+3) (C Am b3))(e:U8 V)(h:2<n->M4 b0<=b1/\b1<=M5 b0)(i:3<n->128<=b2/\b2<=191):Jk V g off n cap (Lr n (Fx b0) (M4 b0) (M5 b0) b1 b2)/\KU V g off n cap (MY n (Fx b0) (M4 b0) (M5 b0) b1 b2 b3):=by obtain⟨m,j,k⟩:=Vs (b:=b0) E;exact⟨ZP (Vt) b0.toNat_lt E E a (λ_=>c) d e,ZQ k E a (nJ (Vt) b0.toNat_lt j E E a (λ_=>c) d f e h i)⟩
theorem nN(g off cap:I){b:AU}(c:GU l=AP)(a:∀i (hi:i<O (l++[b])),A6 V g (off+i) (C Am ((l++[b])[i]'hi).toNat))(e:U8 V):(D9 l b=1->Jk V g off (O l+1) cap AQ)/\(D9 l b=0->Jk V g off (O l+1) cap AP/\KU V g off (O l+1) cap AP)/\(D9 l b=2->Jk V g off (O l+1) cap AP/\KU V g off (O l+1) cap AQ):=by
 match l,c with
 |[],_ =>
  have j:A6 V g off (C Am b.toNat):=a 0 Ba;have hF:=ZP (cap:=cap) (n:=1) (b1:=0) (b2:=0) (Vt (b:=b)) b.toNat_lt B8 (.inl B8) j Ba Ba e;rcases Vr with⟨k,m,f⟩|⟨k,m,f⟩|⟨k,m,f,t⟩
  .exact Po (D:=AQ) hF (λ_=>(nL cap 1 f B8 j).mono λ_ _ ⟨o,r⟩=>⟨b.toNat,1,o,B7,r▸Cq _ _⟩) (by simp[D9,Lr,k])
  .exact Po hF (λ_=>ZQ f B8 j ((nK 1 m b.toNat_lt B8 j e).mono λ_ _ ⟨o,r⟩=>⟨_,_,o,Z,r▸Cq _ _⟩)) (by simp[D9,Lr,k])
  exact Po (D:=AP) hF (λh=>by grind [D9]) (by grind [D9,Lr])
 |[b0],c =>
  obtain⟨hF,d⟩:=Vu (b2:=0) (b3:=0) ⟨B8,Dk c⟩ (a 0 Ba) (a 1 Ba) Ba Ba e Ba Ba;exact Po hF (λ_=>d) (by grind [D9,Lr,MY,GU])
 |[b0,b1],c =>
  obtain⟨q,p⟩:=Dk c;obtain⟨hF,d⟩:=Vu (b3:=0) (cap:=cap) ⟨B8,q⟩ (a 0 Ba) (a 1 Ba) (λ_=>a 2 Ba) Ba e (λ_=>p) Ba;exact Po hF (λ_=>d) (by grind [D9,Lr,MY])
 |[b0,b1,b2],c =>
  obtain⟨q,p,s⟩:=Dk c;obtain⟨m,f,t⟩:=Vs (b:=b0) E;obtain⟨hF,d⟩:=Vu (cap:=cap) ⟨B8,q⟩ (a 0 Ba) (a 1 Ba) (λ_=>a 2 Ba) (λ_=>a 3 Ba) e (λ_=>p) (λ_=>s);exact Po hF (λ_=>d) (by grind [D9,Lr,MY])
structure FX(W:World)(p base:Nat)(bs:A1)(wh:Nat):Prop where
 row:∃v,W.heap[p]?=some (.cells #[v,.int .i64 wh] 394)/\Ck W base v bs
 lt:p<base
 le:wh<=bs.length
structure GV(p base:Nat)(W W':World):Prop where
 os:W'.os=W.os
 tape:W'.tape=W.tape
 output:W'.output=W.output
 size:W.heap.size<=W'.heap.size
 block:∀k,k<base->k≠p->W'.heap[k]?=W.heap[k]?
theorem GV.refl(p base:I)(W:X):GV p base W W:=⟨rfl,rfl,rfl,Co _,λ_ _ _=>rfl⟩
theorem GV.trans{a b c:X}(h:GV p base a b)(d:GV p base b c):GV p base a c :=
 ⟨d.os.trans h.os,d.tape.trans h.tape,d.output.trans h.output,Cy h.size d.size,λk e f=>(d.block k e f).trans (h.block k e f)⟩
theorem GV.of_below(h:A0 W W')(hb:base<=K (U W)):GV p base W W' :=
 ⟨h.os,h.tape,h.output,h.size,λk a _=>h.block k E⟩
theorem Vv{a b:Aq}(c:A7 w g #[a,b] t):(AB w ⟨g,0,Ao⟩ v).heap[g]?=H (M #[v,b] t)/\(AB w ⟨g,1,Ao⟩ v).heap[g]?=H (M #[a,v] t):=by
 constructor
 .rw[UC w g 0 _ _ _ v c,CM _ _ _ _ _ _ c];rfl
 rw[UC w g 1 _ _ _ v c,CM _ _ _ _ _ _ c];rfl
theorem ZR:GV p base w (AB w ⟨p,j,Ao⟩ v) :=
 ⟨rfl,rfl,rfl,Bd,λk _ a=>CY _ _ _ _ Bl⟩
theorem Vw(h:Ck w base v bs)(n:p<base):Ck (AB w ⟨p,j,Ao⟩ u) base v bs:=by
 obtain⟨⟨d,a⟩,m,f⟩:=h;refine⟨⟨d,?_⟩,by grind [World.setCell],f⟩;rcases a with a|⟨g,b,c,e,k,l,i⟩
 .exact .inl a
 exact .inr ⟨g,b,c,e,k,(CY _ _ _ _ B7).trans l,i⟩
theorem FX.same(h:FX W p base bs wh)(d:∀k,k<K (U W)->k=p\/base<=k->W'.heap[k]?=W.heap[k]?)(q:K (U W)<=K (U W')):FX W' p base bs wh:=by
 obtain⟨v,f,⟨l,a⟩,o,m⟩:=h.row;refine⟨⟨v,(d p (Cc f) (.inl Z)).trans f,⟨l,?_⟩,E,m⟩,h.lt,h.le⟩;rcases a with a|⟨g,i,j,e,b,c,n⟩
 .exact .inl a
 exact .inr ⟨g,i,j,e,b,(d g (Cc c) (.inr b)).trans c,n⟩
theorem FX.below(h:FX W p base bs wh)(hb:A0 W W'):FX W' p base bs wh:=h.same (λk a _=>hb.block k a) hb.size
theorem FX.but(h:FX W p base bs wh)(hb:Cg b W W')(c:b<base)(e:b≠p):FX W' p base bs wh:=h.same (λk a d=>hb.block k a E) hb.size
theorem ZS(h:FX W p base bs wh):Ar As 281 #[A8 p] W λe f=>e=Ak (Ah (AR (wh=O bs)))/\A0 W f:=by
 obtain⟨v,b,⟨i,j⟩,_,a,n,c,rfl⟩:=h.row;have g:n=O bs:=B9;subst g;have k:=Cb b 0;have l:=Cb b 1;have d:D ((wh==(O bs:J))=AR (wh=O bs)):=by grind [D]
 go_enter func281,ntmps281;go_wp2
 go_quiet (fail)
 go_wp2;go_ret;refine⟨?_,Ip⟩;show Ending.returned (Ah _)=_;rw[AE d]
theorem O7(h:Ck W base (T (H ⟨g,0,Ao⟩) n cap) bs):(n=O bs/\O bs<=cap/\cap<=maxLen/\base<=g)/\∀j (a:j<O bs),AC W ⟨g,j,Ao⟩=H (C Am ((bs[j]'a).toNat:J)):=by
 obtain⟨⟨r,b⟩,_,_⟩:=h;rcases b with⟨b,_⟩|⟨q,o,p,e,k,m,d,f,s,i⟩
 .cases b
 cases e;refine⟨⟨Z,d,f,k⟩,λj a=>?_⟩;rw[Cb m j,<-NN];have c:=congrArg (λl=>l[j]?) i;simp only[S3]at c;rw[Qb a,LS,D3 a]at c;exact c
theorem U8.keep(h:U8 W)(e:GV p base W V)(j:7<p)(l:p<base):U8 V:=by have a:∀(g off:I) (v:Aq),g<=7->AC W _=H v->A6 V g off v:=λg off v k f=>(JN (e.block g E E)).trans f;exact⟨λc d=>a _ _ _ B8 (h.1 c d),λi b=>⟨a _ _ _ B8 (h.2 i b).1,a _ _ _ B8 (h.2 i b).2⟩⟩
theorem ZT(h:FX W p base bs wh):FX (AB W ⟨p,1,Ao⟩ (C Y (O bs))) p base bs (O bs):=by obtain⟨v,b,a⟩:=h.row;exact⟨⟨v,(Vv b).2,Vw a h.lt⟩,h.lt,Co _⟩
structure Vx(W:World)(p base g cap:Nat)(bs:A1)(wh:Nat)(V:World):Prop where
 keep:GV p base W V
 gat:FX V p base bs wh
 row:V.heap[p]?=some (.cells #[.slice (Aa g) bs.length cap,.int .i64 wh] 394)
 cells:∀j (hj:j<bs.length),V.cell? ⟨g,j,none⟩=some (.int .u8 ((bs[j]'hj).toNat:Int))
 cap:bs.length<=cap/\cap<=maxLen
theorem nP{c:I}{a:A4}{b:AU}(hb:base<=K (U W))(e:p<base)(A:wh<=O bs)(o:W.ownsRow base 5 1 (T a n c) (O bs) (bs.map CJ))(x:CJ b=u)(w:w5.ownsRow base 5 1 (T (Aa g) (O bs+1) cap5) (O bs+1) (bs.map CJ++[u]))(q:(Az W (M #[u] 5)).grownBy w5 (Ax (Go.Value.slice a n c)))(l:A7 w5 p #[T a n c,C Y wh] 394):Vx W p base g cap5 (bs++[b]) wh (AB w5 ⟨p,0,Ao⟩ (T (Aa g) (O bs+1) cap5)):=by
 have d:=GC ((Cq base W).alloc hb _) (o.alloc _) q B7;have f:Ck w5 base _ _:=⟨M6 w x,kex,_,_,_,Z⟩
 obtain⟨⟨y,c2,m,z⟩,cs⟩:=O7 f;have h:=Vw (j:=0) (u:=T (Aa g) (O bs+1) cap5) f e;have s:O (bs++[b])=O bs+1:=Ba;have i:=(Vv (v:=T (Aa g) (O bs+1) cap5) l).1;refine⟨⟨d.os,d.tape,d.output,by simpa[World.setCell]using d.size,λk r t=>(CY _ _ _ _ keR).trans (d.block k r)⟩,⟨⟨_,i,h⟩,e,E⟩,by rw[s];exact i,(O7 h).2,⟨c2,m⟩⟩
theorem ZU{W:World}{p base:Nat}{bs:List UInt8}{wh:Nat}(b:UInt8)(h:FX W p base bs wh)(hp:GU (bs.drop wh)=true)(ht:U8 W)(h7:7<p)(hl:bs.length<=999999999):Calls prog 284 #[.pointer (some ⟨p,0,none⟩),.int .u8 b.toNat] W λe W'=>e=.returned (.bool (D9 (bs.drop wh) b != 0))/\GV p base W W'/\FX W' p base (bs++[b]) (if D9 (bs.drop wh) b=2 then bs.length+1 else wh):=by
 obtain⟨rb,HRB⟩:=CA ((D9 (bs.drop wh) b != 0));obtain⟨wf,HWF⟩:=CA ((if D9 (bs.drop wh) b=2 then bs.length+1 else wh));rw[HRB.out,HWF.out];obtain⟨i0,hi,hz0,hz1,hz2⟩:=DD Tryz.infoU8;obtain⟨v,hr,ho,hb,a,n,c,rfl⟩:=h.row;have hlt:=h.lt;have hle:=h.le;have hn:n=bs.length:=by rcases ho.2 with⟨h2,h3⟩|⟨g,cap,cur,e,_⟩<;>grind
 subst hn;have HO:=C9 ho;have HR:=C9 hr;have HT:=C9 ht;have k0:=Cb hr 0;go_enter func284,ntmps284
 go_wp2_with(first
  |(at_builtin;apply JS _ HO.out;intro v' w5 hown' hgrow5 hnil5;obtain⟨g5,cap5,rfl⟩:=ownsRow_succ hown';have HR5:=C9 ((hgrow5.block p (by have:=Cc HR.out;simp;omega) (λe=>by have:=DK HO.out e.symm;omega)).trans ((Cx _ _ _ (Cc HR.out)).trans HR.out));have k0:=Cb HR5.out 0;have f0:=Dq w5 p 0 _ _ HR5.out))
 have H6:=C9 (nP hb hlt hle HO.out rfl hown' hgrow5 HR5.out);generalize w5.setCell ⟨p,0,none⟩ (.slice (some ⟨g5,0,none⟩) (bs.length+1) cap5)=V at *;have k0:=Cb H6.out.row 0;have k1:=Cb H6.out.row 1;have f1:=Dq V p 1 _ _ H6.out.row;have hlen:(bs++[b]).length=bs.length+1:=by simp
 rw[hlen]at k0 k1;have hcap:=H6.out.cap;rw[hlen]at hcap;have hcap2:=hcap.2;unfold maxLen at hcap2;have hlen2:(bs.drop wh).length+1=bs.length+1-wh:=by grind
 have FD:Hid (∀X,Below V.heap.size V X->(D9 (bs.drop wh) b=1->Jk X g5 wh (bs.length+1-wh) (cap5-wh) false)/\(D9 (bs.drop wh) b=0->Jk X g5 wh (bs.length+1-wh) (cap5-wh) true/\KU X g5 wh (bs.length+1-wh) (cap5-wh) true)/\(D9 (bs.drop wh) b=2->Jk X g5 wh (bs.length+1-wh) (cap5-wh) true/\KU X g5 wh (bs.length+1-wh) (cap5-wh) false)):=by
  show∀X,_;intro X hX;have hdr:(bs++[b]).drop wh=bs.drop wh++[b]:=RR hle;have:=nN g5 wh (cap5-wh) hp (λi hi=>by
   have hi2:wh+i<(bs++[b]).length:=by grind
   have hc:=H6.out.cells (wh+i) hi2;have e:(bs.drop wh++[b])[i]'hi=(bs++[b])[wh+i]'hi2:=by grind
   rw[e];exact(hX.cell (FF hc)).trans hc) ((HT.out.keep H6.out.keep h7 hlt).below hX)
  grind
 have hk2:D9 (bs.drop wh) b=0\/D9 (bs.drop wh) b=1\/D9 (bs.drop wh) b=2:=by unfold D9;grind
 have HBV:=C9 (Cy hb H6.out.keep.size)
 go_quiet (fail)
 have HQ:=C9 (Ip (W:=V) (n:=nq));rcases hk2 with h0|h1|h2
 .have HE1:Hid (rb=false):=by grind
  have HE2:Hid (wf=wh):=by grind
  have cF:=((FD.out _ HQ.out).2.1 h0).1;have cD:=λX hX=>((FD.out X hX).2.1 h0).2;unfold Jk at cF;unfold KU at cD
  go_wp2_with(first
   |(go_at_call 291;apply cF.mono;rintro e w7 ⟨rfl,hB7⟩;have HB7:=C9 (HQ.out.trans (hB7.mono HQ.out.size));have cD1:=cD w7 HB7.out)
   |(go_at_call 292;apply cD1.mono;rintro e w8 ⟨ch,sz,rfl,hbad,hB8⟩;have HB8:=C9 (HB7.out.trans (hB8.mono HB7.out.size));rw[F3]at hbad;obtain⟨hc1,hc2⟩:=hbad))
  go_ret;rw[HE1.out,HE2.out];exact⟨rfl,H6.out.keep.trans (GV.of_below HB8.out HBV.out),H6.out.gat.below HB8.out⟩
 .have HE1:Hid (rb=true):=by grind
  have HE2:Hid (wf=wh):=by grind
  have cF:=(FD.out _ HQ.out).1 h1;unfold Jk at cF
  go_wp2_with(first
   |(go_at_call 291;apply cF.mono;rintro e w7 ⟨rfl,hB7⟩;have HB7:=C9 (HQ.out.trans (hB7.mono HQ.out.size))))
  go_ret;rw[HE1.out,HE2.out];exact⟨rfl,H6.out.keep.trans (GV.of_below HB7.out HBV.out),H6.out.gat.below HB7.out⟩
 have HE1:Hid (rb=true):=by grind
 have HE2:Hid (wf=bs.length+1):=by grind
 have cF:=((FD.out _ HQ.out).2.2 h2).1;have cD:=λX hX=>((FD.out X hX).2.2 h2).2;unfold Jk at cF;unfold KU at cD
 go_wp2_with(first
  |(go_at_call 291;apply cF.mono;rintro e w7 ⟨rfl,hB7⟩;have HB7:=C9 (HQ.out.trans (hB7.mono HQ.out.size));have cD1:=cD w7 HB7.out))
 apply cD1.mono;rintro e w8 ⟨ch,sz,rfl,hbad,hB8⟩;have HB8:=C9 (HB7.out.trans (hB8.mono HB7.out.size));have HR8:=C9 ((HB8.out.block p (Cc H6.out.row)).trans H6.out.row);have HF:Hid (GV p base W (w8.setCell ⟨p,1,none⟩ (.int .i64 (bs.length+1)))/\FX (w8.setCell ⟨p,1,none⟩ (.int .i64 (bs.length+1))) p base (bs++[b]) (bs.length+1)):=by
  have h9:=ZT (H6.out.gat.below HB8.out);rw[show(bs++[b]).length=bs.length+1 by simp]at h9;have e9:((bs.length+1:Nat))=(bs.length:Int)+1:=by omega
  rw[e9]at h9;exact⟨(H6.out.keep.trans (GV.of_below HB8.out HBV.out)).trans ZR,h9⟩
 have k0:=Cb HR8.out 0;have k1:=Cb HR8.out 1;have f1:=Dq w8 p 1 _ _ HR8.out;rw[show(bs++[b]).length=bs.length+1 by simp]at k0;cases hc1:(ch==65533)
 .clear hbad;go_wp2;go_ret;rw[HE1.out,HE2.out];exact⟨rfl,HF.out.1,HF.out.2⟩
 have hc2:(sz==1)=false:=by grind
 go_wp2;go_ret;rw[HE1.out,HE2.out];exact⟨rfl,HF.out.1,HF.out.2⟩
def Ei(r:AI):A1:=(encodeRuneZ r).map λx=>_root_.UInt8.ofNat x.toNat
theorem nQ(x:J)(a:0<=x)(b:x<=255):CJ (_root_.UInt8.ofNat x.toNat)=C Am x:=ke1
theorem Vy(r:J):runeCells r=(Ei r).map CJ:=by
 have a:∀x∈encodeRuneZ r,0<=x/\x<=255:=by grind [encodeRuneZ]
 grind [runeCells,Ei,List.map_congr_left,nQ]
theorem Qv(r:J):1<=O (Ei r)/\O (Ei r)<=4:=by grind [Ei,encodeRuneZ]
theorem nS{c:I}{a:A4}{cs:A1}{o:Obj}(hb:base<=K (U W))(d:p<base)(z:wh<=O bs)(m:W.ownsRow base 5 1 (T a n c) (O bs) (bs.map CJ))(A:w5.ownsRow base 5 1 (T (Aa g) (O bs+O cs) cap5) (O bs+O cs) (bs.map CJ++cs.map CJ))(q:(Az W o).grownBy w5 (Ax (Go.Value.slice a n c)))(i:A7 w5 p #[T a n c,C Y wh] 394):Vx W p base g cap5 (bs++cs) wh (AB w5 ⟨p,0,Ao⟩ (T (Aa g) (O bs+O cs) cap5)):=by
 have b:=GC ((Cq base W).alloc hb _) (m.alloc _) q B7;have s:O (bs++cs)=O bs+O cs:=Dc;have e:Ck w5 base (T (Aa g) (O bs+O cs) cap5) (bs++cs):=⟨B9,kez,_,_,_,Z⟩
 obtain⟨⟨w,c2,l,x⟩,y⟩:=O7 e;have f:=Vw (j:=0) (u:=T (Aa g) (O bs+O cs) cap5) e d;have h:=(Vv (v:=T (Aa g) (O bs+O cs) cap5) i).1;refine⟨⟨b.os,b.tape,b.output,by simpa[World.setCell]using b.size,λk r t=>(CY _ _ _ _ keR).trans (b.block k r)⟩,⟨⟨_,h,f⟩,d,E⟩,by rw[s];exact h,(O7 f).2,⟨c2,l⟩⟩
theorem nT(r:J)(L : -2147483648<=r)(N:r<=2147483647)(h:FX W p base bs wh)(hl:O bs<=999999999):Ar As 282 #[A8 p,C .i32 r] W λe q=>e=Ak (Af #[])/\GV p base W q/\FX q p base (bs++Ei r) (O (bs++Ei r)):=by
 obtain⟨aa,i,f,u,a,n,c,rfl⟩:=h.row;have A:=h.lt;have z:=h.le;have F:n=O bs:=by rcases f.2 with⟨h2,h3⟩|⟨g,S,y,e,_⟩<;>grind
 subst F;have s:Ar As 186 #[T a (O bs) c,C .i32 r] W λe k=>∃g b,e=Ak (T (Aa g) (O bs+O (Ei r)) b)/\D (Vx W p base g b (bs++Ei r) wh (AB k ⟨p,0,Ao⟩ (T (Aa g) (O bs+O (Ei r)) b)))/\D (A7 k p #[T a (O bs) c,C Y wh] 394):=by
  apply (Any.utf8_AppendRune_plain Tryz.lays242 B6 base _ _ _ r L N W f E u).mono;rintro e k ⟨v',rfl,j,v,w⟩;rw[Vy,LW]at j;have hk:=(Qv r).1;rcases j.2 with⟨_,h0⟩|⟨g,b,y,rfl,_⟩
  .omega
  have t:=(w.block p (B0 (Cc i)) (λe=>AY (DK f e.symm))).trans ((Cx _ _ _ (Cc i)).trans i);exact⟨g,b,Z,nS u A z f j w t,t⟩
 have P:=Cb i 0;obtain⟨m,B⟩:=Dx (O (Ei r));have x:D (O (bs++Ei r)=O bs+m/\m<=4):=⟨B9,by grind [Qv]⟩
 rw[B]at s;go_enter func282,ntmps282
 go_wp2_with(first
  |(go_at_call 186;apply s.mono;rintro e R ⟨g5,b,rfl,d,l⟩;have P:=Cb l 0;have V:=Dq R p 0 _ _ l;have Q:=Cb d.row 0;have f6:=Dq _ p 1 _ _ d.row;have o:=Cb d.row 1;rw[x.1]at Q)
  )
 go_end0;refine⟨Z,d.keep.trans ZR,?_⟩;have h9:=ZT d.gat;grind
end
section
open Go.RowKit
def DH(V:Ap)(t:Go.TypeId)(size:AH)(F:AH->Prop)(v:Aq)(n:AH)(xs:AJ Aq):Prop :=
 At xs=n*size/\((v=Ac Ao 0 0/\n=0)\/∃g cap cur,v=Ac (Aa g) n cap/\F g/\V.heap[g]?=An (Aj cur t (0,0))/\n<=cap/\cap<=maxLen/\cur.size=cap*size/\cur.toList.take (n*size)=xs)
def Cv:AH->Ap->(AH->Prop)->Aq->A2->Prop
 |0,_,_,_,_=>False
 |k+1,V,F,v,d=>match d with
  |.nil=>v=Ai 268 (Ag #[])
  |.lit (.bool b)=>v=Ai 279 (Ah b)
  |.lit (.int Al z)=>v=Ai 281 (Ab Al z) /\ -9223372036854775808<=z/\z<=9223372036854775807
  |.lit (.string l)=>v=Ai 283 (Ae ⟨Aw l⟩)
  |.ptr (.lit (.string l))=>∃u,v=Ai 219 u/\DH V 5 1 F u (At l) (l.map CJ)
  |.agg ds=>∃u xs,v=Ai 221 u/\DH V 89 1 F u (At ds) xs/\∀(i:AH) (x:Aq) (d:A2),xs[i]?=An x->ds[i]?=An d->Cv k V F x d
  |.map es=>∃u xs,v=Ai 223 u/\DH V 225 2 F u (At es) xs/\∀(i:AH) (key:Lit) (d:A2),es[i]?=An (key,d)->∃l x,key=.string l/\xs[2*i]?=An (Ae ⟨Aw l⟩)/\xs[2*i+1]?=An x/\Cv k V F x d
  |_=>False
theorem DH.same{size:I}{G:I->Prop}(h:DH V t size F v n xs)(j:∀k,F k->G k)(m:∀k,F k->V'.heap[k]?=V.heap[k]?):DH V' t size G v n xs:=by
 obtain⟨f,a⟩:=h;refine⟨f,?_⟩;rcases a with a|⟨g,c,d,e,b,l,i⟩
 .exact .inl a
 exact .inr ⟨g,c,d,e,j g b,(m g b).trans l,i⟩
theorem Cv.same{G:I->Prop}(a:∀k,F k->G k)(b:∀k,F k->V'.heap[k]?=V.heap[k]?):∀{k:I} {v:Aq} {d:A2},Cv k V F v d->Cv k V' G v d
 |0,_,_,h=>h
 |k+1,v,d,h=>by
  unfold Cv at h ⊢;split at h
  .exact h
  .exact h
  .exact h
  .exact h
  .obtain⟨u,e,c⟩:=h;exact⟨u,e,c.same a b⟩
  .obtain⟨u,j,e,c,g⟩:=h;exact⟨u,j,e,c.same a b,λi x d f q=>Cv.same a b (g i x d f q)⟩
  .obtain⟨u,j,e,c,g⟩:=h;refine⟨u,j,e,c.same a b,λi key d f=>?_⟩;obtain⟨l,x,m,n,o,p⟩:=g i key d f;exact⟨l,x,m,n,o,Cv.same a b p⟩
  exact h
theorem Cv.more:∀{k m:I} {v:Aq} {d:A2},k<=m->Cv k V F v d->Cv m V F v d
 |0,_,_,_,_,h=>h.elim
 |k+1,0,_,_,hm,_=>absurd hm E
 |k+1,m+1,v,d,hm,h=>by
  unfold Cv at h ⊢;split at h
  .exact h
  .exact h
  .exact h
  .exact h
  .exact h
  .obtain⟨u,f,e,c,b⟩:=h;exact⟨u,f,e,c,λi x d a p=>Cv.more E (b i x d a p)⟩
  .obtain⟨u,f,e,c,b⟩:=h;refine⟨u,f,e,c,λi key d a=>?_⟩;obtain⟨l,x,g,j,n,o⟩:=b i key d a;exact⟨l,x,g,j,n,Cv.more E o⟩
  exact h
theorem VB{i:TypeInfo}{size:I}(l:P.underlying t=H (.slice e))(hi:P.info? e=H i)(q:i.zero=H z)(N:i.size=size)(s:i.bytes=bytes)(k:w.ownsRow base e size v n xs){a:Addr}{m c:I}(hl:O news=m*size)(h:∀j u,news[j]?=H u->AC w (a.add j)=H u)(r:∀u∈news,u.oneCell'=AP)(F:0<m)(Q:n+m<=maxLen)(x:(n+m)*bytes<=140737488355328)(b:(Builtin.append_ #[t,t] ty #[v,T (H a) m c]).run P w=.ok v' w'):Ax v'=Ax v\/Ax v'=H (K (U w)):=by
 subst N;subst s;have W:n+m<=9223372036854775807:=By;rcases k.2 with⟨rfl,rfl⟩|⟨g,f,o,rfl,R,B,V,S,y,aa⟩
 .have d:=run_append_nil w t ty e i z l hi q a m c news hl h F E B9;rw[d]at b;injection b with e1 e2;right;rw[<-e1];rfl
 by_cases p:n+m<=f
 .have A:n*i.size+O news<=o.size:=by rw[hl,y,<-Nat.add_mul];exact P2 _ p
  have d:=run_append_room w t ty e i l hi g n f o B a m c news hl h r p A;rw[d]at b;injection b with e1 e2;left;rw[<-e1];rfl
 have L:=k.cells (g:=g) Z;have d:=run_append_grow w t ty e i z l hi q _ n f xs k.1 L a m c news hl h E E (growslice_fits E x);rw[d]at b;injection b with e1 e2;right;rw[<-e1];rfl
theorem Jl{a:Act}(V:o.guard=Ao){s x:Operand}(ho:o.op=.call {callee:=.builtin .append,args:=#[s,x],argTypes:=#[t,t]}){i:TypeInfo}{size:I}(A:P.underlying t=H (.slice e))(hi:P.info? e=H i)(B:i.zero=H z)(y:i.size=size)(k:i.bytes=bytes)(ab:z.cells.size=size)(aa:0<size)(hs:a.eval s=v)(q:w.ownsRow base e size v n xs){ad:Addr}(m c:I)(hx:a.eval x=T (H ad) m c)(hl:O news=m*size)(p:∀j u,news[j]?=H u->AC w (ad.add j)=H u)(f:∀u∈news,u.oneCell'=AP)(W:0<m)(g:n+m<=maxLen)(l:(n+m)*bytes<=140737488355328)(S:base<=K (U w))(h:∀b d,d.ownsRow base e size b (n+m) (xs++news)->w.grownBy d (Ax v)->(Ax b=Ax v\/Ax b=H (K (U w)))->wpList P ops Q rest (a.put o.dst b) d):wpList P ops Q (o::rest) a w:=by refine Lg V λac R=>?_;obtain⟨b,d,r,F,L,_⟩:=Qk w base t o.type e i z size bytes A hi B y k ab aa v n xs q ad m c news hl p f g l S;have N:=VB A hi B y k q hl p f W g l r;unfold Oper.wp execOp;simp only[ho,resolve,invoke,builtin,Ig,Ga,FT,NW,GO,Lh,hs,hx,r];exact R _ _ (h b d F L N)
def CQ(l:A1):Aq:=Ae ⟨Aw l⟩
theorem af{ks:AJ A1}(s:A1)(h:DH W 9 1 F v (O ks) (ks.map CQ))(B:O ks<=200000000):Ar As 169 #[v,Ae ⟨Aw s⟩] W λe p=>e=Ak (Ah (AR (s∈ks)))/\p=W:=by
 obtain⟨R,b⟩:=CA (AR (s∈ks));rw[AE b];obtain⟨a,d,rfl,m⟩:∃a d,v=T a (O ks) d/\D (∀(j:I) (x:A1),ks[j]?=H x->∃g,a=Aa g/\A6 W g j (CQ x)):=by obtain⟨y,A⟩:=h;grind [D,Dh,Cb]
 go_enter func169,ntmps169;go_wp2
 go_loopg[5] (O ks) (λg z wr=>wr=W/\∃k:I,z=C Y k/\D (k+g=O ks)/\D (AR (s∈ks.drop k)=R))
 case atStart=>grind [D]
 case round =>
  obtain⟨rfl,k,rfl,c,b⟩:=hrel;have i:=AE b;obtain _|g:=gk
  .rw[OZ (AY (AE c))]at i;have n:D (R=AQ):=by grind [D]
   have t:¬k<(O ks:J):=AY (AE c);go_wp2;go_ret;simp_all
  have f:k<O ks:=AY (AE c);have t:k<(O ks:J):=E;obtain⟨x,l⟩:∃x,ks[k]?=H x:=⟨_,D3 f⟩
  obtain⟨w,rfl,q⟩:=m.out k x l;unfold CQ at q;rw[KA f,(NM.1 l).2]at i;by_cases r:x=s
  .have n:D (R=AP):=B9;have u:(x==s)=AP:=B9;go_wp2;go_ret;simp_all
  have o:D (AR (s∈ks.drop (k+1))=R):=by grind [D]
  have u:(x==s)=AQ:=kei;go_wp2;go_roundg g
  case measure=>omega
  case rel=>exact⟨rfl,_,Bb,B9,o⟩
theorem VH{s:Cs}(n:I)(h:Ch W b s):Ch ((W.drewN n).setCell ⟨b,4,Ao⟩ (C Y k)) b {s with within:=k}/\Cg b W ((W.drewN n).setCell ⟨b,4,Ao⟩ (C Y k)):=by
 have c:(W.drewN n).heap[b]?=H _:=h.row;have e:∀q,q≠b->((W.drewN n).setCell ⟨b,4,Ao⟩ (C Y k)).heap[q]?=W.heap[q]?:=λq a=>CY _ _ _ _ Bl;refine⟨⟨?_,λi d=>?_,h.len,h.le⟩,⟨Z,Z,Z,Br,λq _ a=>e q a⟩⟩
 .rw[UC _ b 4 _ _ _ _ c,CM _ _ _ _ _ _ c];rfl
 obtain⟨g,off,f,j,l⟩:=h.inp i d;grind [World.cell?_of_block]
theorem ak{s:Cs}(h:Ch W b s)(c:¬(s.within:J)=s.depth)(i:s.within<=1000000):Ar As 265 #[A8 b] W λe a=>e=Ak (Af #[])/\Ch a b {s with within:=s.within+1}/\Cg b W a:=by
 have j:AC W _=H (.int _ _):=Cb h.row 1;have k:AC W _=H (.int _ _):=Cb h.row 4;have g:=Dq W b 4 _ _ h.row;have d:D (∀n,Ch ((W.drewN n).setCell _ (.int _ (s.within+1))) b {s with within:=s.within+1}/\Cg b W ((W.drewN n).setCell _ (.int _ (s.within+1)))):=λn=>VH n h;have f:(s.within==s.depth)=AQ:=BP;go_enter func265,ntmps265;go_wp2
 go_quiet (fail)
 go_wp2;go_end0;grind [D]
theorem am{s:Cs}(h:Ch W b s)(f:(s.within:J)=s.depth):Ar As 265 #[A8 b] W λe a=>CV 11 ((s.pos:J)-1) e/\Cg b W a/\∃p,Ch a b {s with pos:=p}:=by
 have g:AC W _=H (.int _ _):=Cb h.row 1;have i:AC W _=H (.int _ _):=Cb h.row 4;have d:=λn=>FJ 11 (h.drewN n);have c:=G h;go_enter func265,ntmps265;go_wp2
 go_quiet (fail)
 go_wp2_with(first
  |(go_at_call 271;apply (d nq).mono;rintro e j ⟨hF,rfl⟩;obtain rfl:=hF))
 exact⟨Z,Z,Cg.of_below (Ip),_,c.drewN nq⟩
theorem oF{s:Cs}(h:Ch W b s)(c:s.within=k+1)(g:s.within<=1000000):Ar As 293 #[.pointer (H ⟨b,0,Ao⟩)] W λe a=>e=Ak (Af #[])/\Ch a b {s with within:=k}/\Cg b W a:=by
 have i:AC W ⟨b,4,Ao⟩=H (C Y (k+1)):=by have:=Cb h.row 4;rw[this];show H (Value.int Y (s.within:J))=_;rw[c];rfl
 have f:=Dq W b 4 _ _ h.row;have d:D (Ch (AB W _ _) b _/\Cg b W (AB W _ (.int _ k))):=VH 0 h;go_enter func293,ntmps293;go_wp2;go_end0;grind [D]
end
section
open Go.RowKit Go.Lib
theorem WC  : ∀w:X,(Instr.typeAssert (Ai 268 (Ag #[])) 89 279 AP).run As w=.ok (Af #[Ah AQ,Ah AQ]) w:=λw=>B6
theorem WD  : ∀w:X,(Instr.typeAssert (Ai 268 (Ag #[])) 89 281 AP).run As w=.ok (Af #[C Y 0,Ah AQ]) w:=λw=>B6
theorem WE  : ∀w:X,(Instr.typeAssert (Ai 268 (Ag #[])) 89 283 AP).run As w=.ok (Af #[.string ByteArray.empty,Ah AQ]) w:=λw=>B6
theorem WF  : ∀w:X,(Instr.typeAssert (Ai 268 (Ag #[])) 89 219 AP).run As w=.ok (Af #[T Ao 0 0,Ah AQ]) w:=λw=>B6
theorem R5  : ∀w:X,(Instr.typeAssert (Ai 268 (Ag #[])) 89 221 AP).run As w=.ok (Af #[T Ao 0 0,Ah AQ]) w:=λw=>B6
theorem R6  : ∀w:X,(Instr.typeAssert (Ai 268 (Ag #[])) 89 223 AP).run As w=.ok (Af #[T Ao 0 0,Ah AQ]) w:=λw=>B6
theorem PG(b:AK):∀w:X,(Instr.typeAssert (Ai 279 (Ah b)) 89 279 AP).run As w=.ok (Af #[Ah b,Ah AP]) w:=λw=>B6
theorem WG(s:AT):∀w:X,(Instr.typeAssert (Ai 283 (.string s)) 89 279 AP).run As w=.ok (Af #[Ah AQ,Ah AQ]) w:=λw=>B6
theorem WH(s:AT):∀w:X,(Instr.typeAssert (Ai 283 (.string s)) 89 281 AP).run As w=.ok (Af #[C Y 0,Ah AQ]) w:=λw=>B6
theorem WI(s:AT):∀w:X,(Instr.typeAssert (Ai 283 (.string s)) 89 283 AP).run As w=.ok (Af #[.string s,Ah AP]) w:=λw=>B6
theorem R7(a:A4)(n c:I):∀w:X,(Instr.typeAssert (Ai 219 (T a n c)) 89 279 AP).run As w=.ok (Af #[Ah AQ,Ah AQ]) w:=λw=>B6
theorem R8(a:A4)(n c:I):∀w:X,(Instr.typeAssert (Ai 219 (T a n c)) 89 281 AP).run As w=.ok (Af #[C Y 0,Ah AQ]) w:=λw=>B6
theorem R9(a:A4)(n c:I):∀w:X,(Instr.typeAssert (Ai 219 (T a n c)) 89 283 AP).run As w=.ok (Af #[.string ByteArray.empty,Ah AQ]) w:=λw=>B6
theorem Ra(a:A4)(n c:I):∀w:X,(Instr.typeAssert (Ai 219 (T a n c)) 89 219 AP).run As w=.ok (Af #[T a n c,Ah AP]) w:=λw=>B6
theorem dQ(a:A4)(n c:I):∀w:X,(Instr.typeAssert (Ai 221 (T a n c)) 89 279 AP).run As w=.ok (Af #[Ah AQ,Ah AQ]) w:=λw=>B6
theorem dR(a:A4)(n c:I):∀w:X,(Instr.typeAssert (Ai 221 (T a n c)) 89 281 AP).run As w=.ok (Af #[C Y 0,Ah AQ]) w:=λw=>B6
theorem dS(a:A4)(n c:I):∀w:X,(Instr.typeAssert (Ai 221 (T a n c)) 89 283 AP).run As w=.ok (Af #[.string ByteArray.empty,Ah AQ]) w:=λw=>B6
theorem dU(a:A4)(n c:I):∀w:X,(Instr.typeAssert (Ai 221 (T a n c)) 89 219 AP).run As w=.ok (Af #[T Ao 0 0,Ah AQ]) w:=λw=>B6
theorem Tc(a:A4)(n c:I):∀w:X,(Instr.typeAssert (Ai 221 (T a n c)) 89 221 AP).run As w=.ok (Af #[T a n c,Ah AP]) w:=λw=>B6
theorem dV(a:A4)(n c:I):∀w:X,(Instr.typeAssert (Ai 223 (T a n c)) 89 279 AP).run As w=.ok (Af #[Ah AQ,Ah AQ]) w:=λw=>B6
theorem dW(a:A4)(n c:I):∀w:X,(Instr.typeAssert (Ai 223 (T a n c)) 89 281 AP).run As w=.ok (Af #[C Y 0,Ah AQ]) w:=λw=>B6
theorem dX(a:A4)(n c:I):∀w:X,(Instr.typeAssert (Ai 223 (T a n c)) 89 283 AP).run As w=.ok (Af #[.string ByteArray.empty,Ah AQ]) w:=λw=>B6
theorem dY(a:A4)(n c:I):∀w:X,(Instr.typeAssert (Ai 223 (T a n c)) 89 219 AP).run As w=.ok (Af #[T Ao 0 0,Ah AQ]) w:=λw=>B6
theorem Td(a:A4)(n c:I):∀w:X,(Instr.typeAssert (Ai 223 (T a n c)) 89 221 AP).run As w=.ok (Af #[T Ao 0 0,Ah AQ]) w:=λw=>B6
theorem Te(a:A4)(n c:I):∀w:X,(Instr.typeAssert (Ai 223 (T a n c)) 89 223 AP).run As w=.ok (Af #[T a n c,Ah AP]) w:=λw=>B6
theorem tr(hl:O bs<=999999999)(h:Ck W base v bs):Ar As 115 #[v,Ai 268 (Ag #[])] W λe f=>∃b,e=Ak b/\Ck f base b (bs++[192])/\Below base W f:=by
 obtain⟨m,k,a,n,c,rfl⟩:=h;have d:=G m;have r:=WC;have s:=WD;have t:=WE;have u:=WF;have w:=R5;have x:=R6;go_enter func115,ntmps115
 go_wp2_with(first
  |(at_builtin;refine JS 192 d ?_;intro b i g l q;have j:D (Ck i base b (bs++[192])/\Below base W i):=SO k d Z g l;obtain⟨p,o,rfl⟩:=ownsRow_succ g))
 go_ret;exact⟨_,Z,j⟩
theorem ts(hl:O bs<=999999999)(h:Ck W base v bs):Ar As 115 #[v,Ai 279 (Ah AP)] W λe f=>∃b,e=Ak b/\Ck f base b (bs++[195])/\Below base W f:=by
 obtain⟨m,k,a,n,c,rfl⟩:=h;have d:=G m;have r:=PG AP;go_enter func115,ntmps115
 go_wp2_with(first
  |(at_builtin;refine JS 195 d ?_;intro b i g l q;have j:D (Ck i base b (bs++[195])/\Below base W i):=SO k d Z g l;obtain⟨p,o,rfl⟩:=ownsRow_succ g))
 go_ret;exact⟨_,Z,j⟩
theorem tu(hl:O bs<=999999999)(h:Ck W base v bs):Ar As 115 #[v,Ai 279 (Ah AQ)] W λe f=>∃b,e=Ak b/\Ck f base b (bs++[194])/\Below base W f:=by
 obtain⟨m,k,a,n,c,rfl⟩:=h;have d:=G m;have r:=PG AQ;go_enter func115,ntmps115
 go_wp2_with(first
  |(at_builtin;refine JS 194 d ?_;intro b i g l q;have j:D (Ck i base b (bs++[194])/\Below base W i):=SO k d Z g l;obtain⟨p,o,rfl⟩:=ownsRow_succ g))
 go_ret;exact⟨_,Z,j⟩
theorem tw(l:A1)(hl:O bs<=999999999)(o:O l<=999999999)(h:Ck W base v bs):Ar As 115 #[v,Ai 283 (Ae ⟨Aw l⟩)] W λe b=>∃d,e=Ak d/\Ck b base d (bs++(EC (O l)++l))/\Below base W b:=by
 obtain⟨p,m,a,n,c,rfl⟩:=h;have f:D (Ck W base (T a n c) bs):=⟨p,m,a,n,c,Z⟩
 have t:=WG ⟨Aw l⟩;have u:=WH ⟨Aw l⟩;have w:=WI ⟨Aw l⟩;go_enter func115,ntmps115
 go_wp2_with(first
  |(go_at_call 159;refine(qy hl o f).mono ?_;rintro e y ⟨x,rfl,g,k⟩;obtain⟨i,j,q,s,r,rfl⟩:=g))
 go_ret;exact⟨_,Z,⟨i,j,_,_,_,Z⟩,k⟩
theorem tA(hl:O bs<=999999999)(h:Ck W base v bs):Ar As 114 #[v,Ai 268 (Ag #[])] W λe b=>∃d,e=Ak d/\Ck b base d (bs++D4 7 22)/\Below base W b:=by
 obtain⟨m,l,a,n,c,rfl⟩:=h;have f:D (Ck W base (T a n c) bs):=⟨m,l,a,n,c,Z⟩
 have r:=WC;have s:=WD;have t:=WE;have u:=WF;have w:=R5;have x:=R6;go_enter func114,ntmps114
 go_wp2_with(first
  |(go_at_call 155;refine(Nd 7 22 E E hl f).mono ?_;rintro e z ⟨y,rfl,g,k⟩;obtain⟨i,j,o,q,p,rfl⟩:=g))
 go_ret;exact⟨_,Z,⟨i,j,_,_,_,Z⟩,k⟩
theorem tB(hl:O bs<=999999999)(h:Ck W base v bs):Ar As 114 #[v,Ai 279 (Ah AP)] W λe b=>∃d,e=Ak d/\Ck b base d (bs++D4 7 21)/\Below base W b:=by
 obtain⟨m,l,a,n,c,rfl⟩:=h;have f:D (Ck W base (T a n c) bs):=⟨m,l,a,n,c,Z⟩
 have r:=PG AP;go_enter func114,ntmps114
 go_wp2_with(first
  |(go_at_call 155;refine(Nd 7 21 E E hl f).mono ?_;rintro e t ⟨s,rfl,g,k⟩;obtain⟨i,j,o,q,p,rfl⟩:=g))
 go_ret;exact⟨_,Z,⟨i,j,_,_,_,Z⟩,k⟩
theorem tC(hl:O bs<=999999999)(h:Ck W base v bs):Ar As 114 #[v,Ai 279 (Ah AQ)] W λe b=>∃d,e=Ak d/\Ck b base d (bs++D4 7 20)/\Below base W b:=by
 obtain⟨m,l,a,n,c,rfl⟩:=h;have f:D (Ck W base (T a n c) bs):=⟨m,l,a,n,c,Z⟩
 have r:=PG AQ;go_enter func114,ntmps114
 go_wp2_with(first
  |(go_at_call 155;refine(Nd 7 20 E E hl f).mono ?_;rintro e t ⟨s,rfl,g,k⟩;obtain⟨i,j,o,q,p,rfl⟩:=g))
 go_ret;exact⟨_,Z,⟨i,j,_,_,_,Z⟩,k⟩
theorem tD(l:A1)(hl:O bs<=999999999)(o:O l<=999999999)(h:Ck W base v bs):Ar As 114 #[v,Ai 283 (Ae ⟨Aw l⟩)] W λe b=>∃d,e=Ak d/\Ck b base d (bs++(D4 3 (O l)++l))/\Below base W b:=by
 obtain⟨p,m,a,n,c,rfl⟩:=h;have f:D (Ck W base (T a n c) bs):=⟨p,m,a,n,c,Z⟩
 have t:=WG ⟨Aw l⟩;have u:=WH ⟨Aw l⟩;have w:=WI ⟨Aw l⟩;go_enter func114,ntmps114
 go_wp2_with(first
  |(go_at_call 156;refine(qx hl o f).mono ?_;rintro e y ⟨x,rfl,g,k⟩;obtain⟨i,j,q,s,r,rfl⟩:=g))
 go_ret;exact⟨_,Z,⟨i,j,_,_,_,Z⟩,k⟩
theorem dZ(a:P.underlying t=H (.slice e))(b:P.underlying t'=H (.slice e))(s:Aq)(x:Aq):(Builtin.append_ #[t,t'] ty #[s,x]).run P w=(Builtin.append_ #[t,t] ty #[s,x]).run P w:=by cases s<;>simp[Builtin.append_,MO a,MO b]
theorem ed{a:Act}(F:o.guard=Ao){s x:Operand}(N:o.op=.call {callee:=.builtin .append,args:=#[s,x],argTypes:=#[t,t']}){i:TypeInfo}{size:I}(g:P.underlying t=H (.slice e))(aa:P.underlying t'=H (.slice e))(hi:P.info? e=H i)(hz:i.zero=H z)(V:i.size=size)(A:i.bytes=bytes)(ab:z.cells.size=size)(W:0<size)(S:a.eval s=v)(R:w.ownsRow base e size v n xs){ad:Addr}(m c:I)(hx:a.eval x=T (H ad) m c)(hl:O news=m*size)(L:∀j u,news[j]?=H u->AC w (ad.add j)=H u)(k:∀u∈news,u.oneCell'=AP)(q:n+m<=maxLen)(B:(n+m)*bytes<=140737488355328)(y:base<=K (U w))(h:∀d b,b.ownsRow base e size d (n+m) (xs++news)->w.grownBy b (Ax v)->wpList P ops Q rest (a.put o.dst d) b):wpList P ops Q (o::rest) a w:=by refine Lg F λac r=>?_;obtain⟨d,b,f,l,p,_⟩:=Qk (P:=P) w base t o.type e i z size bytes g hi hz V A ab W v n xs R ad m c news hl L k q B y;rw[<-dZ g aa]at f;unfold Oper.wp execOp;simp only[N,resolve,invoke,builtin,Ig,Ga,FT,NW,GO,Lh,S,hx,f];exact r _ _ (h d b l p)
theorem Tf{a:Act}(f:o.guard=Ao){s x:Operand}(g:o.op=.call {callee:=.builtin .append,args:=#[s,x],argTypes:=#[t,t']}){i:TypeInfo}{size:I}(c:P.underlying t=H (.slice e))(l:P.underlying t'=H (.slice e))(hi:P.info? e=H i)(k:a.eval s=v)(j:w.ownsRow base e size v n xs)(hx:a.eval x=T Ao 0 0)(h:wpList P ops Q rest (a.put o.dst v) w):wpList P ops Q (o::rest) a w:=by refine Lg f λm d=>?_;have b:=YH (P:=P) (w:=w) base t o.type e i size c hi v n xs j;rw[<-dZ c l]at b;unfold Oper.wp execOp;simp only[g,resolve,invoke,builtin,Ig,Ga,FT,NW,GO,Lh,k,hx,b];exact d _ _ h
theorem DH.cell{size:I}(h:DH V t size F (T (Aa g) n cap) n xs):∀j u,xs[j]?=H u->AC V ((⟨g,0,Ao⟩:Addr).add j)=H u:=by obtain⟨b,a⟩:=h;grind [Addr.add,cell_of_row]
theorem WJ(h:Ck W base v bs)(f:W'.ownsRow base 5 1 v' (O bs+O l) (bs.map CJ++l.map CJ))(c:W.grownBy W' (Ax v)):Ck W' base v' (bs++l)/\Below base W W':=by obtain⟨d,b,_⟩:=h;have a:=GC (Cq base W) d c b;refine⟨⟨B9,Cy b a.size,?_⟩,a⟩;rcases f.2 with⟨e,_⟩|⟨g,i,j,e,_⟩<;>grind
theorem Np{s:I}:O (D4 s x)<=9:=kfn
theorem tE:O (G5 x)<=9:=by grind [G5,I1]
theorem tF(hF:∀k,F k->k<base)(hl:O bs<=999999999)(an:O l<=999999999)(o:DH W 5 1 F u (O l) (l.map CJ))(h:Ck W base v bs):Ar As 114 #[v,Ai 219 u] W λe i=>∃f,e=Ak f/\Ck i base f (bs++(D4 2 (O l)++l))/\Below base W i:=by
 obtain⟨i0,B,ab,ac,ad⟩:=DD Tryz.infoU8;obtain⟨b,Q,a,n,c,rfl⟩:=h;have N:D (Ck W base (T a n c) bs):=⟨b,Q,a,n,c,Z⟩
 have s:Ar As 155 #[T a n c,C Am 2,C .u64 (O l)] W λe i=>∃f,e=Ak f/\Ck i base f (bs++D4 2 (O l))/\Below base W i:=Nd 2 (O l) B8 E hl N;have R:O (D4 2 (O l))<=9:=Np;rcases o.2 with⟨rfl,L⟩|⟨g,j,aj,rfl,ak,al,am⟩
 .have V:=Q7 L;rw[L]at s R;rw[V];have ae:=R7 Ao 0 0;have af:=R8 Ao 0 0;have ag:=R9 Ao 0 0;have ah:=Ra Ao 0 0;go_enter func114,ntmps114
  go_wp2_with(first
   |(go_at_call 155;refine s.mono ?_;rintro e A ⟨v2,rfl,t,w⟩;obtain⟨z,r,q,y,c2,rfl⟩:=t;have d:D (Ck A base (T q y c2) (bs++D4 2 0)):=⟨z,r,_,_,_,Z⟩;have m:=C9 w)
   |(at_builtin;refine Tf Z Z underlying50 underlying219 B Z d.1 Z ?_))
  go_ret;rw[Qj];exact⟨_,Z,d,m⟩
 have P:=C9 o;have ae:=R7 (Aa g) (O l) j;have af:=R8 (Aa g) (O l) j;have ag:=R9 (Aa g) (O l) j;have ah:=Ra (Aa g) (O l) j;go_enter func114,ntmps114
 go_wp2_with(first
  |(go_at_call 155;refine s.mono ?_;rintro e A ⟨v2,rfl,t,w⟩;obtain⟨z,r,q,y,c2,rfl⟩:=t;have d:D (Ck A base (T q y c2) (bs++D4 2 (O l))):=⟨z,r,_,_,_,Z⟩;have m:=C9 w)
  |(at_builtin;refine ed rfl rfl underlying50 underlying219 B ab ac ad rfl B8 rfl d.1 (O l) j rfl Ba (P.same (G:=F) (λk x=>x) (λk x=>m.block k (hF k x))).cell (λu o=>by obtain⟨ai,_,rfl⟩:=List.mem_map.mp o;rfl) ke6 B9 d.2.1 ?_;intro f w5 aa S;have p:=C9 (WJ d aa S)))
 go_ret;rw[KD]at p;exact⟨_,Z,p.1,m.trans p.2⟩
theorem tG(hF:∀k,F k->k<base)(hl:O bs<=999999999)(an:O l<=999999999)(j:DH W 5 1 F u (O l) (l.map CJ))(h:Ck W base v bs):Ar As 115 #[v,Ai 219 u] W λe A=>∃y,e=Ak y/\Ck A base y (bs++(G5 (O l)++l))/\Below base W A:=by
 obtain⟨i0,B,ab,ac,ad⟩:=DD Tryz.infoU8;obtain⟨b,Q,a,n,c,rfl⟩:=h;have N:D (Ck W base (T a n c) bs):=⟨b,Q,a,n,c,Z⟩
 have q:=qu (O l) E hl N;have R:O (G5 (O l))<=9:=tE;rcases j.2 with⟨rfl,L⟩|⟨g,f,aj,rfl,ak,al,am⟩
 .have V:=Q7 L;rw[L]at q R;rw[V];have ae:=R7 Ao 0 0;have af:=R8 Ao 0 0;have ag:=R9 Ao 0 0;have ah:=Ra Ao 0 0;go_enter func115,ntmps115
  go_wp2_with(first
   |(go_at_call 160;refine q.mono ?_;rintro e z ⟨v2,rfl,r,s⟩;obtain⟨x,p,o,w,c2,rfl⟩:=r;have d:D (Ck z base (T o w c2) (bs++G5 0)):=⟨x,p,_,_,_,Z⟩;have i:=C9 s)
   |(at_builtin;refine Tf Z Z underlying50 underlying219 B Z d.1 Z ?_))
  go_ret;rw[Qj];exact⟨_,Z,d,i⟩
 have P:=C9 j;have ae:=R7 (Aa g) (O l) f;have af:=R8 (Aa g) (O l) f;have ag:=R9 (Aa g) (O l) f;have ah:=Ra (Aa g) (O l) f;go_enter func115,ntmps115
 go_wp2_with(first
  |(go_at_call 160;refine q.mono ?_;rintro e z ⟨v2,rfl,r,s⟩;obtain⟨x,p,o,w,c2,rfl⟩:=r;have d:D (Ck z base (T o w c2) (bs++G5 (O l))):=⟨x,p,_,_,_,Z⟩;have i:=C9 s)
  |(at_builtin;refine ed rfl rfl underlying50 underlying219 B ab ac ad rfl B8 rfl d.1 (O l) f rfl Ba (P.same (G:=F) (λk t=>t) (λk t=>i.block k (hF k t))).cell (λu j=>by obtain⟨ai,_,rfl⟩:=List.mem_map.mp j;rfl) ke6 B9 d.2.1 ?_;intro y w5 aa S;have m:=C9 (WJ d aa S)))
 go_ret;rw[KD]at m;exact⟨_,Z,m.1,i.trans m.2⟩
def fB(pk:AK):FuncId:=bif pk then 115 else 114
def fH(pk:AK):FuncId:=bif pk then 161 else 155
def aH(pk:AK)(v:Aq)(a b s n:AI):A3:=bif pk then#[v,Ab Am a,Ab Am b,Ab .u64 n]else#[v,Ab Am s,Ab .u64 n]
def Tg(pk:AK)(W:Ap)(base:AH)(x:Aq)(ys:A1):Prop:=∀(V:Ap) (v:Aq) (bs:A1),Below base W V->Ck V base v bs->At bs+At ys<=999999999->Ar As (fB pk) #[v,x] V λe W'=>∃v',e=Ak v'/\Ck W' base v' (bs++ys)/\Below base V W'
def tH(W:Ap)(base:AH)(x:Aq)(ys:A1):Prop:=Tg AQ W base x ys
def tI(W:Ap)(base:AH)(x:Aq)(ys:A1):Prop:=Tg AP W base x ys
theorem ef(l:AK){T:A2->A1}(hF:∀k,F k->k<base){H:A1}(p:∀y,y=v->Ar As (fH l) (aH l y 144 220 4 (O ds)) W λe f=>∃m,e=Ak m/\Ck f base m (bs++H)/\Below base W f)(hl:O bs+O (H++ds.flatMap T)<=999999999)(hn:O ds<=999999999)(a:DH W 89 1 F u (O ds) xs)(ae:∀(i:I) (x:Aq) (d:A2),xs[i]?=An x->ds[i]?=An d->Tg l W base x (T d))(ad:∀(i:I) (x:Aq),xs[i]?=An x->∃ai y,x=Ai ai y)(h:Ck W base v bs):Ar As (fB l) #[v,Ai 221 u] W λe f=>∃m,e=Ak m/\Ck f base m (bs++(H++ds.flatMap T))/\Below base W f:=by
 obtain⟨ho,hb,z,ah,t,rfl⟩:=h;have p:=p (Ac z ah t) Z;obtain⟨q,b,rfl⟩:∃q b,u=Ac q (O ds) b:=by rcases a.2 with⟨e,e2⟩|⟨g,b,aa,e,_⟩<;>grind
 have HU:=C9 a;have HI:=C9 ae;have HL:=C9 hl;have HF:=C9 ad;have ap:=dQ q (O ds) b;have aq:=dR q (O ds) b;have ar:=dS q (O ds) b;have au:=dU q (O ds) b;have av:=Tc q (O ds) b;cases l
 all_goals
  dsimp only[fB,fH,aH,cond]at p ⊢
  first|(go_enter func114,ntmps114)|(go_enter func115,ntmps115)
  go_wp2_with(first
   |((first|go_at_call 155|go_at_call 161);refine p.mono ?_;rintro e w2 ⟨v2,rfl,h2,ab⟩;obtain⟨o2,b2,a2,n2,c2,rfl⟩:=h2;have al:D (Ck w2 base (Ac a2 n2 c2) (bs++H)):=⟨o2,b2,_,_,_,Z⟩;have ak:=C9 ab))
  go_loopg[0,64,11] (O ds) (λg y aj x wr=>∃(k:I) (s:A4) (B w:I),y=Ac s B w/\aj=C Y k/\D (k+g=O ds)/\D (Ck wr base (Ac s B w) ((bs++H)++(ds.take k).flatMap T))/\D (Below base W wr))
  case atStart=>grind
  case round =>
   obtain⟨k,s,B,w,rfl,rfl,V,L,o⟩:=hrel;obtain _|g:=gk
   .have ag:¬(k:J)<O ds:=AY (AE V);have N:D (ds.take k=ds):=by grind [D]
    go_wp2;go_ret;have S:=AE L;rw[AE N,KD]at S;exact⟨_,Z,S,o⟩
   have af:k<O ds:=AY (AE V);have ag:(k:J)<O ds:=E;have r:=HU.same (V':=wr) (G:=F) (λ_ h=>h) (λj hj=>o.block j (hF j hj));obtain⟨q0,rfl⟩:∃q0,q=Aa q0:=by rcases r.2 with⟨_,e⟩|⟨g,an,aa,e,_⟩<;>grind
   have ao:O xs=O ds:=AY r.1;obtain⟨x,A⟩:∃x,xs[k]?=An x:=⟨xs[k],D3 E⟩
   obtain⟨d,hd⟩:∃d,ds[k]?=An d:=⟨ds[k],D3 af⟩
   obtain⟨tx,yx,rfl⟩:=HF.out k x A;have hc:A6 wr q0 k (Ai tx yx):=by have:=r.cell k _ A;grind [Addr.add]
   have N:D ((ds.take (k+1)).flatMap T=(ds.take k).flatMap T++T d):=BM;have HB:D (O ((bs++H)++(ds.take k).flatMap T)+O (T d)<=999999999):=by grind [D,List.take_append_drop]
   have R:=HI.out k _ d A hd wr _ _ o L HB;dsimp only[fB,cond]at R
   go_wp2_with(first
    |((first|go_at_call 114|go_at_call 115);refine R.mono ?_;rintro e w4 ⟨v4,rfl,h4,ac⟩;obtain⟨o4,b4,P,c,Q,rfl⟩:=h4;have am:D (Ck w4 base (Ac P c Q) (((bs++H)++(ds.take k).flatMap T)++T d)):=⟨o4,b4,_,_,_,Z⟩;have n:=C9 (o.trans ac)))
   go_roundg g
   case measure=>omega
   case rel=>exact⟨k+1,P,c,Q,rfl,Bb,B9,by grind [D],n⟩
def Fd:AH->A2->AK
 |0,_=>AQ
 |k+1,d=>match d with
  |.ptr (.lit (.string _))=>AP
  |.agg ds=>ds.any (Fd k)
  |.map es=>es.any λe=>Fd k e.2
  |_=>AQ
theorem tJ(b:AK):∀w:X,(Instr.typeAssert (Ai 279 (Ah b)) 89 219 AP).run As w=.ok (Af #[T Ao 0 0,Ah AQ]) w:=λw=>B6
theorem eh{b:AK}:∀w:X,(Instr.typeAssert (Ai 279 (Ah b)) 89 221 AP).run As w=.ok (Af #[T Ao 0 0,Ah AQ]) w:=λw=>B6
theorem el{b:AK}:∀w:X,(Instr.typeAssert (Ai 279 (Ah b)) 89 223 AP).run As w=.ok (Af #[T Ao 0 0,Ah AQ]) w:=λw=>B6
theorem tK(z:J):∀w:X,(Instr.typeAssert (Ai 281 (C Y z)) 89 219 AP).run As w=.ok (Af #[T Ao 0 0,Ah AQ]) w:=λw=>B6
theorem eo{z:J}:∀w:X,(Instr.typeAssert (Ai 281 (C Y z)) 89 221 AP).run As w=.ok (Af #[T Ao 0 0,Ah AQ]) w:=λw=>B6
theorem ep{z:J}:∀w:X,(Instr.typeAssert (Ai 281 (C Y z)) 89 223 AP).run As w=.ok (Af #[T Ao 0 0,Ah AQ]) w:=λw=>B6
theorem tL(s:AT):∀w:X,(Instr.typeAssert (Ai 283 (.string s)) 89 219 AP).run As w=.ok (Af #[T Ao 0 0,Ah AQ]) w:=λw=>B6
theorem et:∀w:X,(Instr.typeAssert (Ai 283 (.string s)) 89 221 AP).run As w=.ok (Af #[T Ao 0 0,Ah AQ]) w:=λw=>B6
theorem eu:∀w:X,(Instr.typeAssert (Ai 283 (.string s)) 89 223 AP).run As w=.ok (Af #[T Ao 0 0,Ah AQ]) w:=λw=>B6
theorem tM:Ar As 81 #[Ai 268 (Ag #[])] W λe a=>e=Ak (Ah AQ)/\A0 W a:=by have b:=WF;have c:=R5;have d:=R6;go_enter func81,ntmps81;go_wp2;go_ret;exact⟨Z,Cq _ _⟩
theorem tN{b:AK}:Ar As 81 #[Ai 279 (Ah b)] W λe a=>e=Ak (Ah AQ)/\A0 W a:=by have c:=tJ b;have d:=eh (b:=b);have f:=el (b:=b);go_enter func81,ntmps81;go_wp2;go_ret;exact⟨Z,Cq _ _⟩
theorem tO{z:J}:Ar As 81 #[Ai 281 (C Y z)] W λe a=>e=Ak (Ah AQ)/\A0 W a:=by have b:=tK z;have c:=eo (z:=z);have d:=ep (z:=z);go_enter func81,ntmps81;go_wp2;go_ret;exact⟨Z,Cq _ _⟩
theorem tP:Ar As 81 #[Ai 283 (.string s)] W λe a=>e=Ak (Ah AQ)/\A0 W a:=by have b:=tL s;have c:=et (s:=s);have d:=eu (s:=s);go_enter func81,ntmps81;go_wp2;go_ret;exact⟨Z,Cq _ _⟩
theorem ew{a:A4}{c:I}:Ar As 81 #[Ai 219 (T a n c)] W λe b=>e=Ak (Ah AP)/\A0 W b:=by have d:=Ra a n c;go_enter func81,ntmps81;go_wp2;go_ret;exact⟨Z,Cq _ _⟩
theorem ey{α:Type}(T:α->AK){l:AJ α}{d:α}(a:l[k]?=H d):(l.take (k+1)).any T=((l.take k).any T||T d):=BM
theorem Th{α:Type}(T:α->AK){l:AJ α}{d:α}(a:l[k]?=H d)(h:T d=AP):l.any T=AP:=YX.2 ⟨d,Uv a,h⟩
def WK(W:Ap)(x:Aq)(r:AK):Prop:=∀V,A0 W V->Ar As 81 #[x] V λe W'=>e=Ak (Ah r)/\A0 V W'
theorem Ti{A:X}(a:A0 A V)(b:A0 V W'):A0 A W':=a.trans (b.mono a.size)
theorem tQ(T:A2->AK)(hF:∀k,F k->k<K (U W))(w:DH W 89 1 F u (O ds) xs)(V:∀(i:I) (x:Aq) (d:A2),xs[i]?=H x->ds[i]?=H d->WK W x (T d))(S:∀(i:I) (x:Aq),xs[i]?=H x->∃z aa,x=Ai z aa):Ar As 81 #[Ai 221 u] W λe Q=>e=Ak (Ah (ds.any T))/\A0 W Q:=by
 obtain⟨q,b,rfl,hn⟩:∃q b,u=Ac q (O ds) b/\O ds<=maxLen:=by rcases w.2 with⟨e,e2⟩|⟨g,b,R,e,_,_,e4,e5,_⟩<;>grind
 unfold maxLen at hn;have P:=C9 w;have B:=C9 V;have A:=C9 S;obtain⟨r,L⟩:=CA (ds.any T);rw[AE L];have ae:=dU q (O ds) b;have af:=Tc q (O ds) b;go_enter func81,ntmps81;go_wp2
 go_loopg[19,6] (O ds) (λg ab x wr=>∃(k:I),ab=C Y k/\D (k+g=O ds)/\D ((ds.take k).any T=AQ)/\D (A0 W wr))
 case atStart=>grind [Below.refl]
 case round =>
  obtain⟨k,rfl,v,HA,a⟩:=hrel;obtain _|g:=gk
  .have y:¬(k:J)<O ds:=AY (AE v);have N:D (r=AQ):=by grind [D]
   go_wp2;go_ret;rw[AE N];exact⟨Z,a⟩
  have t:k<O ds:=AY (AE v);have y:(k:J)<O ds:=E;have l:=P.same (V':=wr) (G:=F) (λ_ h=>h) (λj hj=>a.block j (hF j hj));obtain⟨q0,rfl⟩:∃q0,q=Aa q0:=by rcases l.2 with⟨_,e⟩|⟨g,ac,R,e,_⟩<;>grind
  have ad:O xs=O ds:=AY l.1;obtain⟨x,p⟩:∃x,xs[k]?=H x:=⟨xs[k],D3 E⟩
  obtain⟨d,o⟩:∃d,ds[k]?=H d:=⟨ds[k],D3 t⟩
  obtain⟨tx,yx,rfl⟩:=A.out k x p;have hc:A6 wr q0 k (Ai tx yx):=by have:=l.cell k _ p;grind [Addr.add]
  have c:=B.out k _ d p o wr a;have HN:=C9 (ey T o);have HY:=C9 (Th T o);cases n:T d
  .rw[n]at c;have s:=C9 n
   go_wp2_with(first
    |(go_at_call 81;refine c.mono ?_;rintro e w4 ⟨rfl,m⟩;have f:=C9 (Ti a m)))
   go_roundg g
   case measure=>omega
   case rel=>exact⟨k+1,Bb,B9,B9,f⟩
  rw[n]at c;have s:D (r=AP):=B9
  go_wp2_with(first
   |(go_at_call 81;refine c.mono ?_;rintro e w4 ⟨rfl,m⟩;have f:=C9 (Ti a m)))
  go_ret;rw[AE s];exact⟨Z,f⟩
theorem tR(T:A2->AK)(hF:∀k,F k->k<K (U W)){ds:AJ (Lit×AM Unit)}(A:DH W 225 2 F u (O ds) xs)(z:∀(i:I) (key:Lit) (d:A2),ds[i]?=H (key,d)->∃l t y,key=.string l/\xs[2*i]?=H (Ae ⟨Aw l⟩)/\xs[2*i+1]?=H (Ai t y)/\WK W (Ai t y) (T d)):Ar As 81 #[Ai 223 u] W λe S=>e=Ak (Ah (ds.any λe=>T e.2))/\A0 W S:=by
 obtain⟨q,a,rfl,hn⟩:∃q a,u=Ac q (O ds) a/\O ds<=maxLen:=by rcases A.2 with⟨e,e2⟩|⟨g,a,V,e,_,_,e4,e5,_⟩<;>grind
 unfold maxLen at hn;have R:=G A;have N:=G z;obtain⟨r,P⟩:∃r,D ((ds.any λe=>T e.2)=r):=⟨_,show _=_ from rfl⟩
 rw[AE P];have ai:=dY q (O ds) a;have aj:=Td q (O ds) a;have ak:=Te q (O ds) a;go_enter func81,ntmps81;go_wp2
 go_loopg[31,9] (O ds) (λg ae al wr=>∃(k:I),ae=C Y k/\D (k+g=O ds)/\D ((ds.take k).any (λe=>T e.2)=AQ)/\D (A0 W wr))
 case atStart=>grind [Below.refl]
 case round =>
  obtain⟨k,rfl,w,HA,b⟩:=hrel;obtain _|g:=gk
  .have ab:¬(k:J)<O ds:=AY (AE w);have Q:D (r=AQ):=by grind [D]
   go_wp2;go_ret;rw[AE Q];exact⟨Z,b⟩
  have aa:k<O ds:=AY (AE w);have ab:(k:J)<O ds:=E;have m:=R.same (λ_ h=>h) (λj hj=>b.block j (hF j hj));obtain⟨q0,rfl⟩:∃q0,q=Aa q0:=by rcases m.2 with⟨_,e⟩|⟨g,af,V,e,_⟩<;>grind
  obtain⟨⟨key,d⟩,s⟩:∃d,ds[k]?=H d:=⟨_,D3 aa⟩
  obtain⟨l,B,L,rfl,ac,ad,x⟩:=N.out k key d s;have ag:A6 wr q0 (k*2) (Ae ⟨Aw l⟩):=by have:=m.cell _ _ ac;grind [Addr.add]
  have ah:A6 wr q0 (k*2+1) (Ai B L):=by have:=m.cell _ _ ad;grind [Addr.add]
  have n:D (Below _ W (Az wr (M #[Ae ⟨Aw l⟩,Ai B L] 225))):=b.alloc b.size _;have c:=x _ n;have HN:=G (ey (λe:Lit×AM Unit=>T e.2) s);have HY:=G (Th (λe:Lit×AM Unit=>T e.2) s);cases p:T d
  .rw[p]at c;have v:=G p
   go_wp2_with(first
    |(go_at_call 81;apply c.mono;rintro e w4 ⟨rfl,o⟩;have f:=G (Ti n o)))
   go_roundg g
   case measure=>omega
   case rel=>exact⟨_,Bb,B9,B9,f⟩
  rw[p]at c;have v:D (r=AP):=B9
  go_wp2_with(first
   |(go_at_call 81;apply c.mono;rintro e w4 ⟨rfl,o⟩;have f:=G (Ti n o)))
  go_ret;rw[AE v];exact⟨Z,f⟩
theorem Cv.iface:∀{k:I} {v:Aq} {d:A2},Cv k V F v d->∃t y,v=Ai t y
 |0,_,_,h=>h.elim
 |k+1,v,d,h=>by unfold Cv at h;grind
theorem WL:∀(k:I) (W:X) (F:I->Prop) (v:Aq) (d:A2),(∀j,F j->j<K (U W))->Cv k W F v d ->
  Ar As 81 #[v] W λe q=>e=Ak (Ah (Fd k d))/\A0 W q
 |0,_,_,_,_,_,h=>h.elim
 |k+1,W,F,v,d,hF,h=>by
  have w:∀x n,Cv k W F x n->WK W x _:=λx n m V p =>
   WL k V F x n (λj o=>CK (hF j o) p.size) (m.same (λ_ h=>h) (λj o=>p.block j (hF j o)))
  unfold Cv at h;split at h
  .subst h;exact tM
  .subst h;exact tN
  .obtain⟨rfl,_⟩:=h;exact tO
  .subst h;exact tP
  .obtain⟨u,rfl,a⟩:=h;rcases a.2 with⟨rfl,_⟩|⟨g,A,B,rfl,_⟩
   .exact ew
   exact ew
  .obtain⟨u,z,rfl,a,f⟩:=h;refine tQ _ hF a (λi x d b c=>w x d (f i x d b c)) (λi x m=>?_);have s:=D3 (show i<_ from by have b:=Dh m;have c:=a.1;rw[S3]at c;rwa[c]at b);exact(f i x _ m s).iface
  .obtain⟨u,z,rfl,a,f⟩:=h;refine tR _ hF a (λi key d b=>?_);obtain⟨l,x,L,N,P,r⟩:=f i key d b;obtain⟨t,y,rfl⟩:=r.iface;grind
  exact h.elim
def CX:Lit->A1
 |.string l=>l
 |_=>[]
theorem tS(h:Ck W base v bs):Ax v≠H (K (U W)):=by obtain⟨a,_,_⟩:=h;rcases a.2 with⟨rfl,_⟩|⟨g,b,c,rfl,_,d,_⟩<;>grind [Value.ownBlock]
theorem tT(h:Ck W base v bs)(o:Obj):Ow (·=K (U W)) (Az W o) base v bs:=⟨⟨h.1.alloc _,B0 h.2.1,h.2.2⟩,λe a=>⟨a▸tS h,by subst a;simp⟩⟩
def fT(pk:AK):FuncId:=bif pk then 159 else 156
theorem ez(p:AK){T:A2->A1}{KT:A1->A1}(av:∀l,O l<=O (KT l))(hF:∀k,F k->k<base){H:A1}{es:AJ (Lit×AM Unit)}(w:∀y,y=v->Ar As (fH p) (aH p y 128 222 5 (O es)) W λe m=>∃o,e=Ak o/\Ck m base o (bs++H)/\Below base W m)(A:∀(V:X) (P:I->Prop) (y:Aq) (bs l:A1),O bs<=999999999->O l<=999999999->Ow P V base y bs->Ar As (fT p) #[y,Ae ⟨Aw l⟩] V λe m=>∃o,e=Ak o/\Ck m base o (bs++KT l)/\Be P base V m)(hl:O bs+O (H++es.flatMap (λe:Lit×AM Unit=>KT (CX e.1)++T e.2))<=999999999)(hn:O es<=999999999)(hu:DH W 225 2 F u (O es) xs)(ai:∀(i:I) (key:Lit) (d:A2),es[i]?=An (key,d)->∃l aa y,key=.string l/\xs[2*i]?=An (Ae ⟨Aw l⟩)/\xs[2*i+1]?=An (Ai aa y)/\Tg p W base (Ai aa y) (T d))(h:Ck W base v bs):Ar As (fB p) #[v,Ai 223 u] W λe m=>∃o,e=Ak o/\Ck m base o (bs++(H++es.flatMap (λe:Lit×AM Unit=>KT (CX e.1)++T e.2)))/\Below base W m:=by
 have az:O bs<=999999999:=E;obtain⟨ad,an,ae,rfl⟩:=h.2.2;have w:=w (Ac ad an ae) Z;obtain⟨q,b,rfl⟩:∃q b,u=Ac q (O es) b:=by rcases hu.2 with⟨e,e2⟩|⟨g,b,af,e,_⟩<;>grind
 have HU:=C9 hu;have HI:=C9 ai;obtain⟨f,HK⟩:∃f:Lit×AM Unit->A1,D (f=(λe:Lit×AM Unit=>KT (CX e.1)++T e.2)):=⟨_,show _=_ from rfl⟩
 rw[<-AE HK]at hl ⊢;have HL:=C9 hl;have a0:=dV q (O es) b;have a1:=dW q (O es) b;have a6:=dX q (O es) b;have a7:=dY q (O es) b;have a8:=Td q (O es) b;have a9:=Te q (O es) b;cases p
 all_goals
  dsimp only[fB,fH,fT,aH,cond]at w A ⊢
  first|(go_enter func114,ntmps114)|(go_enter func115,ntmps115)
  go_wp2_with(first
   |((first|go_at_call 155|go_at_call 161);refine w.mono ?_;rintro e w2 ⟨v2,rfl,h2,ag⟩;obtain⟨o2,b2,a2,n2,c2,rfl⟩:=h2;have aq:D (Ck w2 base (Ac a2 n2 c2) (bs++H)):=⟨o2,b2,_,_,_,Z⟩;have ap:=C9 ag))
  go_loopg[0,83,14] (O es) (λg y ao ba wr=>∃(k:I) (Q:A4) (S R:I),y=Ac Q S R/\ao=C Y k/\D (k+g=O es)/\D (Ck wr base (Ac Q S R) ((bs++H)++(es.take k).flatMap f))/\D (Below base W wr))
  case atStart=>grind
  case round =>
   obtain⟨k,Q,S,R,rfl,rfl,hk,L,B⟩:=hrel;obtain _|g:=gk
   .have ak:¬(k:J)<O es:=AY (AE hk);have a:D (es.take k=es):=by grind [D]
    go_wp2;go_ret;have h3:=AE L;rw[AE a,KD]at h3;exact⟨_,Z,h3,B⟩
   have aj:k<O es:=AY (AE hk);have ak:(k:J)<O es:=E;have N:=HU.same (V':=wr) (G:=F) (λ_ h=>h) (λt hj=>B.block t (hF t hj));obtain⟨q0,rfl⟩:∃q0,q=Aa q0:=by rcases N.2 with⟨_,e⟩|⟨g,au,af,e,_⟩<;>grind
   obtain⟨⟨key,d⟩,hd⟩:∃d,es[k]?=An d:=⟨es[k],D3 aj⟩
   obtain⟨l,r,s,rfl,al,am,hI⟩:=HI.out k key d hd;have aw:A6 wr q0 (k*2) (Ae ⟨Aw l⟩):=by have:=N.cell (2*k) _ al;grind [Addr.add]
   have ax:A6 wr q0 (k*2+1) (Ai r s):=by have:=N.cell (2*k+1) _ am;grind [Addr.add]
   have a:D ((es.take (k+1)).flatMap f=(es.take k).flatMap f++(KT l++T d)):=by grind [D,List.take_add_one,CX]
   have HB:D (O ((bs++H)++(es.take k).flatMap f)+O (KT l++T d)<=999999999):=by grind [D,List.take_append_drop]
   have HV:D (Below base W (Az wr (M #[Ae ⟨Aw l⟩,Ai r s] 225))):=B.trans ((Cq base wr).alloc L.2.1 _);have A:=A _ _ _ _ l (AY (AE HB)) (by grind [D]) (tT L (M #[Ae ⟨Aw l⟩,Ai r s] 225));have HX:D ((Az wr (M #[Ae ⟨Aw l⟩,Ai r s] 225)).heap[K (U wr)]?=An (M #[Ae ⟨Aw l⟩,Ai r s] 225)):=Cj _;have HJ:=C9 hI
   go_wp2_with(first
    |((first|go_at_call 156|go_at_call 159);refine A.mono ?_;rintro e w4 ⟨v4,rfl,h4,j⟩;obtain⟨o4,b4,a4,n4,c4,rfl⟩:=h4;have ac:D (Ck w4 base (Ac a4 n4 c4) (((bs++H)++(es.take k).flatMap f)++KT l)):=⟨o4,b4,_,_,_,Z⟩;have x:=C9 (HV.trans j.1);have ay:=Cb ((j.2 _ Z).trans HX) 1)
    |((first|go_at_call 114|go_at_call 115);have z:=HJ.out w4 _ _ x ac (by grind [D]);dsimp only[fB,cond]at z;refine z.mono ?_;rintro e w5 ⟨v5,rfl,h5,ah⟩;obtain⟨o5,b5,c,n5,n,rfl⟩:=h5;have ar:D (Ck w5 base (Ac c n5 n) ((((bs++H)++(es.take k).flatMap f)++KT l)++T d)):=⟨o5,b5,_,_,_,Z⟩;have ab:=C9 (x.trans ah)))
   go_roundg g
   case measure=>omega
   case rel=>exact⟨k+1,c,n5,n,rfl,Bb,B9,by grind [D],ab⟩
def LC(hB hL hM hT:AH->A1)(nt:AK->A1)(no:A1)(nm:AI->A1):AH->A2->A1
 |0,_=>[]
 |k+1,d=>match d with
  |.nil=>no
  |.lit (.bool b)=>nt b
  |.lit (.int Al z)=>nm z
  |.lit (.string l)=>hT (At l)++l
  |.ptr (.lit (.string l))=>hB (At l)++l
  |.agg ds=>hL (At ds)++ds.flatMap (LC hB hL hM hT nt no nm k)
  |.map es=>hM (At es)++es.flatMap λe=>(hT (At (CX e.1))++CX e.1)++LC hB hL hM hT nt no nm k e.2
  |_=>[]
def eE(b:AK):A1:=bif b then D4 7 21 else D4 7 20
def eF(b:AK):A1:=bif b then[195]else[194]
def Do:AH->A2->A1:=LC (D4 2) (D4 4) (D4 5) (D4 3) eE (D4 7 22) K0
def I4:AH->A2->A1:=LC G5 Kh Ki EC eF [192] JZ
theorem Nr{α:Type}(f:α->A1):∀(l:AJ α),(∀a,a∈l->1<=O (f a))->O l<=O (l.flatMap f)
 |[],_=>En _
 |a::l,h=>by have d:=h a (LR ..);have e:=Nr f l λb c=>h b (Le _ c);grind
theorem Mj(s x:I):1<=O (D4 s x):=by grind [D4]
theorem tV(z:J):1<=O (K0 z):=by grind [K0,Mj]
theorem eG(x:I):1<=O (EC x):=by grind [EC]
theorem tW(x:I):1<=O (G5 x):=by grind [G5]
theorem tX(x:I):1<=O (Kh x):=by grind [Kh]
theorem tY(x:I):1<=O (Ki x):=by grind [Ki]
theorem tZ(z:J):1<=O (JZ z):=by grind [JZ,He,GE]
theorem eH{hB hL hM hT:I->A1}{nt:AK->A1}{no:A1}{nm:J->A1}(a:∀x,1<=O (hB x))(c:∀x,1<=O (hL x))(e:∀x,1<=O (hM x))(f:∀x,1<=O (hT x))(j:∀b,1<=O (nt b))(i:1<=O no)(g:∀z,1<=O (nm z)):∀{k:I} {v:Aq} {d:A2},Cv k V F v d->1<=O (LC hB hL hM hT nt no nm k d)
 |0,_,_,h=>h.elim
 |k+1,v,d,h=>by unfold Cv at h;grind [LC]
theorem u6(h:Cv k V F v d):1<=O (Do k d):=eH (Mj 2) (Mj 4) (Mj 5) (Mj 3) (λb=>by cases b;exact Mj 7 20;exact Mj 7 21) (Mj _ _) tV h
theorem eI:∀(k:I) (W:X) (p:I) (F:I->Prop) (x:Aq) (d:A2),(∀j,F j->j<p)->Cv k W F x d->tH W p x (Do k d)
 |0,_,_,_,_,_,_,h=>h.elim
 |k+1,W0,p,F,x,d,hF,h0=>by
  intro W ad w v f B;have h:=h0.same (λ_ h=>h) (λj hj=>v.block j (hF j hj));have g:O w<=999999999:=E;have N:=λy a o=>eI k W p F y a hF o;unfold Cv at h;split at h
  .subst h;exact tA g f
  .rename_i b;subst h;cases b
   .exact tC g f
   exact tB g f
  .obtain⟨rfl,c,m⟩:=h;exact tq c m g f
  .rename_i l;subst h;have e:O (Do (k+1) (.lit (.string l)))=_:=Dc;exact tD l g E f
  .rename_i l;obtain⟨u,rfl,n⟩:=h;have e:O (Do (k+1) (.ptr (.lit (.string l))))=_:=Dc;exact tF hF g E n f
  .rename_i ds;obtain⟨u,s,rfl,n,q⟩:=h;have ac:O s=O ds:=AY n.1;have at_:∀i,i<O ds->∃x a,s[i]?=H x/\ds[i]?=H a/\Cv k W F x a:=λi A =>
    ⟨_,_,D3 E,D3 A,q i _ _ (D3 E) (D3 A)⟩
   have V:=Nr (Do k) ds λa P=>by grind [List.getElem_of_mem,u6]
   have e:O (Do (k+1) (.agg ds))=_+O (ds.flatMap (Do k)):=Dc;exact ef AQ hF (λy o=>o▸Nd 4 (O ds) B8 E g f) B E n (λi x a c m=>N x a (q i x a c m)) (λi x L=>Bs) f
  .rename_i es;obtain⟨u,s,rfl,n,q⟩:=h;have V:=Nr (λe:Lit×AM Unit=>(D4 3 (O (CX e.1))++CX e.1)++Do k e.2) es λa P=>by grind [Mj]
   have e:O (Do (k+1) (.map es))=_+O (es.flatMap λe:Lit×AM Unit=>(D4 3 (O (CX e.1))++CX e.1)++Do k e.2):=Dc;exact ez AQ (KT:=(λl=>D4 3 (O l)++l)) Ba hF (λy o=>o▸Nd 5 (O es) B8 E g f) (λab aa y w l c m r=>bD c m r) B E n (λi key a c=>Bz) f
  exact h.elim
theorem u7(h:Cv k V F v d):1<=O (I4 k d):=eH tW tX tY eG (λb=>by cases b<;>exact Co _) (Co _) tZ h
theorem eJ:∀(k:I) (W:X) (p:I) (F:I->Prop) (x:Aq) (d:A2),(∀j,F j->j<p)->Cv k W F x d->tI W p x (I4 k d)
 |0,_,_,_,_,_,_,h=>h.elim
 |k+1,W0,p,F,x,d,hF,h0=>by
  intro W ad w v f B;have h:=h0.same (λ_ h=>h) (λj hj=>v.block j (hF j hj));have g:O w<=999999999:=E;have N:=λy a o=>eJ k W p F y a hF o;unfold Cv at h;split at h
  .subst h;exact tr g f
  .rename_i b;subst h;cases b
   .exact tu g f
   exact ts g f
  .obtain⟨rfl,c,m⟩:=h;exact tp c m g f
  .rename_i l;subst h;have e:O (I4 (k+1) (.lit (.string l)))=_:=Dc;exact tw l g E f
  .rename_i l;obtain⟨u,rfl,n⟩:=h;have e:O (I4 (k+1) (.ptr (.lit (.string l))))=_:=Dc;exact tG hF g E n f
  .rename_i ds;obtain⟨u,s,rfl,n,q⟩:=h;have ac:O s=O ds:=AY n.1;have at_:∀i,i<O ds->∃x a,s[i]?=H x/\ds[i]?=H a/\Cv k W F x a:=λi A =>
    ⟨_,_,D3 E,D3 A,q i _ _ (D3 E) (D3 A)⟩
   have V:=Nr (I4 k) ds λa P=>by grind [List.getElem_of_mem,u7]
   have e:O (I4 (k+1) (.agg ds))=_+O (ds.flatMap (I4 k)):=Dc;exact ef AP hF (λy o=>o▸qv (O ds) E g f) B E n (λi x a c m=>N x a (q i x a c m)) (λi x L=>Bs) f
  .rename_i es;obtain⟨u,s,rfl,n,q⟩:=h;have V:=Nr (λe:Lit×AM Unit=>(EC (O (CX e.1))++CX e.1)++I4 k e.2) es λa P=>by grind [eG]
   have e:O (I4 (k+1) (.map es))=_+O (es.flatMap λe:Lit×AM Unit=>(EC (O (CX e.1))++CX e.1)++I4 k e.2):=Dc;exact ez AP (KT:=(λl=>EC (O l)++l)) Ba hF (λy o=>o▸qw (O es) E g f) (λab aa y w l c m r=>bE c m r) B E n (λi key a c=>Bz) f
  exact h.elim
end
section
open Go.RowKit
theorem ut{lo hi:J}(h:Jp lo hi l j=AP):j<O l:=by grind [Jp]
theorem eN{lo hi:J}:∀{g j:I},(IN lo hi l g j).2=AP->j<=O l->(IN lo hi l g j).1<=O l
 |0,_,_,hj=>hj
 |g+1,j,h,_=>by
  unfold IN at h ⊢;by_cases a:Jp lo hi l j=AP
  .rw[Cn a]at h ⊢;exact eN h (ut a)
  rw[Ci a]at h;exact absurd h Ba
theorem uu(l:A1)(hl:0<O l):G4 l<=O l:=by grind [G4,Hd,E9,eN]
def Ml(b:AU):AK:=AR (b.toNat<=32)||(b.toNat==42||(b.toNat==91||(b.toNat==93||(b.toNat==47||b.toNat==46))))
def K2:AH->A1->Option AH
 |_,[]=>An 0
 |0,_::_=>Ao
 |g+1,b::t=>if G4 (b::t)=0\/Ml b=AP then Ao else(K2 g ((b::t).drop (G4 (b::t)))).map (·+1)
def To:Option AH->AK
 |some n=>AR (1<=n/\n<=16)
 |none=>AQ
def FN(l:A1):AK:=To (K2 (At l) l)
theorem Rg(B:s.size<=4611686018427387904):Ar As 179 #[.string s] w λe F=>e=Ak (Ah (FN s.data.toList))/\F=w:=by
 have u:O s.data.toList=s.size:=FE;obtain⟨A,j⟩:=CA (K2 (O s.data.toList) s.data.toList);have c:D (FN s.data.toList=To A):=by grind [D,FN]
 go_enter func179,ntmps179;go_wp2
 go_loopg[3,4] s.size (λg x y wr=>∃n i:I,x=C Y n/\y=C Y i/\w=wr/\D (n<=i)/\D (i<=s.size)/\D (s.size<=i+g)/\D (A=(K2 g (s.data.toList.drop i)).map (·+n)))
 case atStart =>
  refine⟨0,0,Z,Z,Z,Co _,En _,Bp,?_⟩;show _=_;rw[<-AE j,u,List.drop_zero];simp_all
 case round =>
  obtain⟨n,i,rfl,rfl,rfl,W,t,r,f⟩:=hrel;by_cases P:i=s.size
  .have v:¬(i:J)<s.size:=E;have N:D (FN s.data.toList=AR (1<=n/\n<=16)):=by
    show _=_;have b:A=H n:=by grind [D,List.drop_length,K2]
    rw[AE c,b];rfl
   by_cases Q:(1:J)<=n
   .by_cases R:(n:J)<=16
    .have a:D (FN s.data.toList=AP):=by grind [D]
     go_wp2;go_ret;exact⟨by rw[AE a];rfl,rfl⟩
    have a:D (FN s.data.toList=AQ):=by grind [D]
    go_wp2;go_ret;exact⟨by rw[AE a];rfl,rfl⟩
   have a:D (FN s.data.toList=AQ):=by grind [D]
   go_wp2;go_ret;exact⟨by rw[AE a];rfl,rfl⟩
  have v:(i:J)<s.size:=AY (AE t);have z:i<s.size:=E;obtain⟨g,rfl⟩:∃g,gk=g+1:=⟨gk-1,AY (AE r)⟩
  obtain⟨k,m⟩:=CA (G4 (s.data.toList.drop i));have l:D (s.data.toList.drop i=s[i]::s.data.toList.drop (i+1)):=kew;have d:D (K2 (g+1) (s.data.toList.drop i)=if k=0\/Ml s[i]=AP then Ao else(K2 g (s.data.toList.drop (i+k))).map (·+1)):=by grind [D,K2,List.drop_drop]
  have S:k<=s.size-i:=by grind [D,uu,List.length_drop]
  have o:D (k=0\/Ml s[i]=AP->FN s.data.toList=AQ):=λh=>by
   have b:A=Ao:=by grind [D]
   rw[AE c,b];rfl
  have p:D (¬(k=0\/Ml s[i]=AP)->A=(K2 g (s.data.toList.drop (i+k))).map (·+(n+1))):=λh=>by rw[AE f,AE d,Ci h,Option.map_map];congr 1;grind [D]
  have L:D (Ml s[i]=AP↔((s[i].toNat:J)<=32\/(s[i].toNat:J)=42\/(s[i].toNat:J)=91\/(s[i].toNat:J)=93\/(s[i].toNat:J)=47\/(s[i].toNat:J)=46)):=by grind [D,Ml]
  clear l d f;have V:n<=4611686018427387904:=by grind [D]
  go_wp2_with(first
   |(go_at_call 201;refine(qd z B).mono ?_;rintro e w2 ⟨rfl,rfl⟩;rw[AE m]))
  all_goals first
   |(go_ret;have hF:=o.out (by grind [D]);exact⟨kfe,Z⟩)
   |go_roundg g
    case measure=>omega
    case rel =>
     have q:=p.out (by grind [D]);refine⟨n+1,i+k,Bb,Bb,Z,?_,?_,?_,q⟩
     all_goals grind [D]
   |skip
theorem uv(l:A1)(lo hi:I):Jp lo hi l 1=AP↔(1<O l/\lo<=(l.getD 1 0).toNat/\(l.getD 1 0).toNat<=hi):=by grind [Jp]
theorem eO(l:A1)(lo hi:J)(j:I)(a:j≠1):Jp lo hi l j=AP↔(j<O l/\128<=(l.getD j 0).toNat/\(l.getD j 0).toNat<=191):=by grind [Jp]
theorem uw(l:A1)(k lo hi:I)(a:k=2\/k=3\/k=4)(h:E9 ((l.getD 0 0).toNat:J)=((lo:J),(hi:J),(k:J))):G4 l=(Lib.checkN (O l) (l.getD 1 0).toNat (l.getD 2 0).toNat (l.getD 3 0).toNat k lo hi).getD 0:=by unfold G4 Hd;rw[h];simp only[];rw[Ci (show¬((k:I):J)=0 by omega)];have b:=uv l lo hi;have c:=eO l lo hi 2 E;have d:=eO l lo hi 3 E;generalize(l.getD 0 0)=b0 at *;generalize(l.getD 1 0)=b1 at *;generalize(l.getD 2 0)=b2 at *;generalize(l.getD 3 0)=b3 at *;rcases a with rfl|rfl|rfl<;>grind [IN,Lib.checkN]
theorem uy(h:(E9 ((l.getD 0 0).toNat:J)).2.2=0):G4 l=0:=by grind [G4,Hd]
theorem uz(l:A1)(h:(l.getD 0 0).toNat<128):G4 l=1:=by
 have e:E9 ((l.getD 0 0).toNat:J)=(0,0,1):=by grind [E9]
 unfold G4 Hd;rw[e];rfl
set_option linter.unusedSimpArgs false in
theorem uA{l:List UInt8}(r:128<=(l.getD 0 0).toNat):G4 l=(Lib.checkN l.length (l.getD 1 0).toNat (l.getD 2 0).toNat (l.getD 3 0).toNat (Lib.firstT (l.getD 0 0).toNat%8) (Lib.accLo (Lib.firstT (l.getD 0 0).toNat/16)) (Lib.accHi (Lib.firstT (l.getD 0 0).toNat/16))).getD 0:=by
 have s:=(l.getD 0 0).toNat_lt
 have key:∀k b a,Lib.firstT (l.getD 0 0).toNat%8=k->Lib.accLo (Lib.firstT (l.getD 0 0).toNat/16)=b->Lib.accHi (Lib.firstT (l.getD 0 0).toNat/16)=a->(k=2\/k=3\/k=4)->E9 ((l.getD 0 0).toNat:Int)=((b:Int),(a:Int),(k:Int)) ->
   G4 l=(Lib.checkN l.length (l.getD 1 0).toNat (l.getD 2 0).toNat (l.getD 3 0).toNat (Lib.firstT (l.getD 0 0).toNat%8) (Lib.accLo (Lib.firstT (l.getD 0 0).toNat/16)) (Lib.accHi (Lib.firstT (l.getD 0 0).toNat/16))).getD 0:=λk b a o p q t c=>by
  grind [uw]
 have u:Lib.firstT (l.getD 0 0).toNat=241->(E9 ((l.getD 0 0).toNat:Int)).2.2=0 ->
   G4 l=(Lib.checkN l.length (l.getD 1 0).toNat (l.getD 2 0).toNat (l.getD 3 0).toNat (Lib.firstT (l.getD 0 0).toNat%8) (Lib.accLo (Lib.firstT (l.getD 0 0).toNat/16)) (Lib.accHi (Lib.firstT (l.getD 0 0).toNat/16))).getD 0:=λe c=>by
  rw[e,uy c]
  rfl
 generalize hb:(l.getD 0 0).toNat=b0 at *
 by_cases d:b0<194
 .grind [Lib.firstT,E9]
 by_cases f:b0<224
 .grind [Lib.firstT,Lib.accLo,Lib.accHi,E9]
 by_cases c2:b0=224
 .grind [Lib.firstT,Lib.accLo,Lib.accHi,E9]
 by_cases g:b0<237
 .grind [Lib.firstT,Lib.accLo,Lib.accHi,E9]
 by_cases h:b0=237
 .grind [Lib.firstT,Lib.accLo,Lib.accHi,E9]
 by_cases i:b0<240
 .grind [Lib.firstT,Lib.accLo,Lib.accHi,E9]
 by_cases j:b0=240
 .grind [Lib.firstT,Lib.accLo,Lib.accHi,E9]
 by_cases m:b0<244
 .grind [Lib.firstT,Lib.accLo,Lib.accHi,E9]
 by_cases n:b0=244
 .exact key 4 128 143 (by grind [Lib.firstT]) (by grind [Lib.firstT,Lib.accLo]) (by grind [Lib.firstT,Lib.accHi]) E (by grind [E9])
 grind [Lib.firstT,E9]
theorem uB(l:A1)(a:l≠[]):(G4 l=0/\Lib.decodeL l=(65533,1))\/(1<=G4 l/\(Lib.decodeL l).2=G4 l/\¬((Lib.decodeL l).1=65533/\(Lib.decodeL l).2=1)):=by
 have e:=kP.2 a;by_cases h:(l.getD 0 0).toNat<128
 .right;obtain⟨b,t,rfl⟩:∃b t,l=b::t:=List.exists_cons_of_ne_nil a;grind [uz,Lib.decodeL_ascii]
 rw[uA E,Lib.decodeL_N];rcases Lib.check_decode (O l) (l.getD 0 0).toNat (l.getD 1 0).toNat (l.getD 2 0).toNat (l.getD 3 0).toNat e E (l.getD 0 0).toNat_lt (l.getD 1 0).toNat_lt (l.getD 2 0).toNat_lt (l.getD 3 0).toNat_lt with⟨c,d⟩|⟨k,f,c,d⟩<;>grind
theorem uC(n a b1 b2 b3:I)(b:128<=a):128<=(Lib.decodeN n a b1 b2 b3).1:=by grind [Lib.decodeN]
def Ns(r:AH):AK:=AR (r<=32)||(r==42||(r==91||(r==93||(r==47||r==46))))
def Kn:AH->A1->Option AH
 |_,[]=>An 0
 |0,_::_=>Ao
 |g+1,b::t=>if Ns (Lib.decodeL (b::t)).1=AP then Ao else(Kn g ((b::t).drop (Lib.decodeL (b::t)).2)).map (·+1)
theorem uD(b:AU)(t:A1):Ns (Lib.decodeL (b::t)).1=Ml b:=by
 by_cases h:b.toNat<128
 .rw[Lib.decodeL_ascii b t h];rfl
 grind [Lib.decodeL,Lib.decodeL_N,uC,Ns,Bool.or_eq_false_iff,decide_eq_false_iff_not,beq_eq_false_iff_ne,Ml]
theorem eP:∀(g:I) (l:A1),O l<=g->K2 g l=if Lib.validD l then Kn g l else Ao
 |g,[],_=>by grind [K2,Kn,Lib.validD_nil]
 |0,b::t,h=>Bx
 |g+1,b::t,h=>by
  rw[Lib.validD_step (b::t) Ba];rcases uB (b::t) Ba with⟨c,a⟩|⟨c,a,e⟩
  .simp[K2,c,a]
  rw[Ci e,K2,Kn,uD,a];by_cases d:Ml b=AP
  .grind
  rw[Ci B9,Ci d,eP g _ B9];split<;>rfl
theorem eQ(l:A1):FN l=(Lib.validD l&&To (Kn (O l) l)):=by
 unfold FN;rw[eP (O l) l (Co _)];cases Lib.validD l
 .rfl
 rfl
theorem fW:laidOutB As=AP:=B6
theorem few:prog.types.size+2<=10000:=Ut B6
theorem Xa:WideMaps.KeyLaw As 183:=deep_law_gate fW few (Ut B6) B6 B6
theorem fX:WideMaps.KeyLaw As 199:=deep_law_gate fW few (Ut B6) B6 B6
theorem vH(x:I)(h:x<65536):(Lit.int .u16 (x:J)).wf=AP:=by have a:IntKind.u16.min=0:=B6;have b:IntKind.u16.max=65535:=B6;grind [Lit.wf]
theorem fY{α β:Type}(f:α->Option β)(g:α->β):∀(l:AJ α),(∀x∈l,f x=H (g x))->l.mapM f=H (l.map g)
 |[],_=>rfl
 |x::l,h=>by rw[List.mapM_cons,h x Ba,fY f g l (λy a=>h y keP)];rfl
theorem Xb{X:I->I}(j:∀r,X r<65536):∃l,keyOf As 183 (.agg (Cw X))=H l:=by
 obtain⟨d,k⟩:∃d,prog.types.size+1=d+2:=⟨prog.types.size-1,Br⟩
 have g:prog.keyType 183=AP:=B6;have c:prog.cellsOf 183=16:=B6;have f:prog.cellsOf 181=1:=B6;have m:(Value.agg (Cw X)).formed As 183=AP:=by grind [Value.formed,underlying183,Mp]
 have n:prog.keyLits (d+2) 183 (Cw X).toList=H ((List.range 16).map λi=>[Lit.int .u16 (X i)]).flatten:=by
  have e:(Cw X).toList.length=16:=by grind [Mp]
  unfold Program.keyLits;simp only[underlying183];rw[Cn (by rw[e,c]),f];rw[fY _ (λi=>[Lit.int .u16 (X i)]) _ (λi a=>?_)]
  .rfl
  have a:i<16:=Bl;have b:((Cw X).toList.drop (i*1)).take 1=[C .u16 (X i)]:=by have h:=L6 X a;grind [List.getElem?_eq_some_iff,List.drop_eq_getElem_cons]
  rw[b];unfold Program.keyLits;grind [underlying181,vH]
 refine⟨.string (keyBytes ((List.range 16).map λi=>[Lit.int .u16 (X i)]).flatten),?_⟩;unfold keyOf;simp only[underlying183];have e:(Value.agg (Cw X)).cells=Cw X:=rfl;grind
theorem fZ{X Y:I->I}(h:Cw X=Cw Y):∀r,r<16->X r=Y r:=by intro r a;have b:=L6 X a;grind [L6]
def PO(X Y:AH->AH):AK:=(List.range 16).all λr=>X r==Y r
theorem gc{X Y:I->I}(h:PO X Y=AP):∀r,r<16->X r=Y r:=by intro r a;have:=GN.1 h r Bl;simpa using this
theorem gd{X Y:I->I}(h:∀r,r<16->X r=Y r):PO X Y=AP:=GN.2 λr a=>B9
theorem vI{X Y:I->I}(f:∀r,X r<65536)(g:∀r,Y r<65536)(w:Ap):(Op.equalIn 10000 183 (.agg (Cw X)) (.agg (Cw Y))).run As w=.ok (PO X Y) w:=by
 obtain⟨l,c⟩:=Xb f;obtain⟨n,d⟩:=Xb g;obtain⟨b,a,h⟩:=run_equal_deep w (m:=prog.types.size+1) (AY few) (k:=183) B6 B6 c d;have a:(Op.equalIn 10000 183 (.agg (Cw X)) (.agg (Cw Y))).run As w=.ok b w:=a;have e:b=PO X Y:=by
  cases j:PO X Y
  .cases b
   .rfl
   have e:=h.1 Z;subst e;have i:=Xa.inj c d;grind [gd,fZ,Value.agg.inj]
  grind [vG,gc,Option.some.inj]
 rw[a,e]
def DT:AH->AH:=λ_=>0
structure Hg(W:World)(X:Nat->Nat)(V:World):Prop where
 box:V.heap[W.heap.size]?=some (.cells (Cw X) 183)
 ret:V.heap[W.heap.size+1]?=some (.cells (Cw DT) 183)
 below:A0 W V
theorem Hg.next{W V V':Ap}{X:I->I}(h:Hg W X V)(hb:A0 V V'):Hg W X V' :=
 ⟨(hb.block _ (Cc h.box)).trans h.box,(hb.block _ (Cc h.ret)).trans h.ret,h.below.trans (hb.mono h.below.size)⟩
theorem vJ(W:Ap)(X:I->I):Hg W X (Az (Az W (M (Cw X) 183)) (M (Cw DT) 183)) :=
 ⟨(Cx _ _ _ Ba).trans (Cj _),B2 (Cj (Az W (M (Cw X) 183)) (o:=(M (Cw DT) 183))),(Cl).alloc Ba _⟩
theorem Rn(X:I->I):(Cw X).all (·.oneCell')=AP:=by grind [Cw,Value.oneCell']
theorem Ro{X Y:I->I}:(Cw X).size=(Cw Y).size:=by rw[Mp,Mp]
theorem Hg.set{W V:Ap}{X:I->I}(h:Hg W X V)(g:I)(a:K (U W)+1<g)(cs:A3):Hg W X (AD V g cs) :=
 ⟨sx E h.box,sx E h.ret,Dj h.below E⟩
theorem Hg.cell{W V:Ap}{X:I->I}(h:Hg W X V)(g j:I)(a:K (U W)+1<g)(v:Aq):Hg W X (AB V ⟨g,j,Ao⟩ v) :=
 ⟨(G9 _ _ _ _ B7).trans h.box,(G9 _ _ _ _ B7).trans h.ret,h.below.setCell B7 _⟩
theorem Hg.drew{W V:Ap}{X:I->I}(h:Hg W X V):Hg W X V.drew:=⟨h.box,h.ret,h.below.drew⟩
theorem vK(st X:I->I)(k:I):(λi=>if i=k then w1 (st k) (X k)else Ff st X k i)=Ff st X (k+1):=by grind [Ff]
theorem ge{y:I}(h:y<256):IntKind.u16.wrap ((y:J)*2)=((y<<<1:I):J):=by grind [Mq,Nat.shiftLeft_eq]
theorem vL(st X:I->I):Ff st X 0=X:=by grind [Ff]
theorem vM{P:I->I}(hP:∀r,P r<512)(v:∀r,st r<256)(hn:n<=16)(o:A<K (U W))(x:A6 W A 0 (T ra n rc))(cs:∀r,r<16->A6 W A (3+r) (C .u16 (st r))):Ar As 142 #[A8 A,.agg (Cw P)] W λab W'=>(∃m,ab=Ak (.agg (Cw m))/\(∀r,r<n->∀k,(m r).testBit k=Ko (st r) (P r) k)/\(∀r,n<=r->m r=P r)/\∀r,m r<512)/\A0 W W':=by
 have an:D (Hg W P (Az (Az W (Aj (Cw P) 183)) (Aj #[C .u16 0,C .u16 0,C .u16 0,C .u16 0,C .u16 0,C .u16 0,C .u16 0,C .u16 0,C .u16 0,C .u16 0,C .u16 0,C .u16 0,C .u16 0,C .u16 0,C .u16 0,C .u16 0] 183))):=vJ W P;have am:=G (vF st n hP);go_enter func142,ntmps142;go_wp2
 go_loopg[] (8192-Jy P 16) (λg wr=>∃a,D (Hg W a wr)/\D (OA P st n a)/\D (Jy a 16+g=8192))
 case atStart=>grind [D,Tz]
 case round =>
  obtain⟨a,l,i,L⟩:=hrel;have d0:=(l.below.cell (p:=⟨A,_,Ao⟩) o).trans x
  go_wp2_with(first
   |(refine CT Z 183 (.tmp 3) Z (K (U W)) Z _ _ _ _ l.box underlying183 Z (FO a) ?_)
   |(refine Db Z 183 (.tmp 5) (.tmp 7) Z (K (U wr)) (Cw a) Z Z 183 (Cw DT) (Cj wr) (FO a) (Ro) (Rn a) ?_;have w:=G (Cc l.ret);have R:D (Hg W a ((Az wr (Aj #[C .u16 0,C .u16 0,C .u16 0,C .u16 0,C .u16 0,C .u16 0,C .u16 0,C .u16 0,C .u16 0,C .u16 0,C .u16 0,C .u16 0,C .u16 0,C .u16 0,C .u16 0,C .u16 0] 183)).setRow (K (U wr)) (Cw a))):=(l.next Cl).set _ w _;have ao:D (((Az wr (Aj #[C .u16 0,C .u16 0,C .u16 0,C .u16 0,C .u16 0,C .u16 0,C .u16 0,C .u16 0,C .u16 0,C .u16 0,C .u16 0,C .u16 0,C .u16 0,C .u16 0,C .u16 0,C .u16 0] 183)).setRow (K (U wr)) (Cw a)).heap[K (U wr)]?=H (Aj (Cw (Ff st a 0)) 183)):=(by grind [D,vL,setRow_heap,Cj]);generalize(Az wr (Aj #[C .u16 0,C .u16 0,C .u16 0,C .u16 0,C .u16 0,C .u16 0,C .u16 0,C .u16 0,C .u16 0,C .u16 0,C .u16 0,C .u16 0,C .u16 0,C .u16 0,C .u16 0,C .u16 0] 183)).setRow (K (U wr)) (Cw a)=V1 at *;generalize K (U wr)=M at *;have d0:=(R.below.cell (p:=⟨A,_,Ao⟩) o).trans x))
  go_loopg[13] n (λg al V=>∃k:I,al=C Y k/\D (k+g=n)/\D (Hg W a V)/\D (A7 V M (Cw (Ff st a k)) 183))
  case atStart=>grind [D]
  case round =>
   obtain⟨k,rfl,u,d,j⟩:=hrel;obtain _|g:=gk
   .have aj:¬(k:J)<(n:J):=AY (AE u);have ai:k=n:=AY (AE u);subst ai;have ad:∀r,a r<65536:=λr=>AY (i.lt r);have ae:∀r,Ff st a k r<65536:=λr=>AY ((i.step v).lt r);have B:=vI ae ad wr;cases y:PO (Ff st a k) a
    .rw[y]at B;have N:D (Jy a 16<Jy (Ff st a k) 16):=by
      show _<_;have ah:∀r,a r<=Ff st a k r:=λr=>by grind [Ff,vD]
      have ag:∃r,r<16/\a r<Ff st a k r:=by grind [gd]
      obtain⟨r,h1,h2⟩:=ag;exact fV ah 16 r h1 h2
     have q:=G (i.step v)
     go_wp2_with(first
      |(refine CT Z 183 (.tmp 5) Z M Z _ _ _ _ j underlying183 Z (FO _) ?_)
      |(refine CT Z 183 (.tmp 3) Z (K (U W)) Z _ _ _ _ d.box underlying183 Z (FO a) ?_)
      |(refine Db Z 183 (.tmp 3) (.tmp 37) Z (K (U W)) (Cw (Ff st a k)) Z Z 183 (Cw a) d.box (FO _) (Ro) (Rn _) ?_))
     have e:D (Hg W (Ff st a k) (AD wr (K (U W)) (Cw (Ff st a k)))):=⟨CM _ _ _ _ _ _ d.box,sx E d.ret,Dj d.below (Co _)⟩
     go_roundg (8192-Jy (Ff st a k) 16)
     case measure=>have:=AE L;have:=AE N;have:=Tz q.lt 16;omega
     case rel=>exact⟨Ff st a k,e,q,AZ (Tz q.lt 16)⟩
    rw[y]at B;have he:∀r,r<k->w1 (st r) (a r)=a r:=λr hr=>by grind [gc,Ff]
    have F:=G (i.done he)
    go_wp2_with(first
     |(refine CT Z 183 (.tmp 5) Z M Z _ _ _ _ j underlying183 Z (FO _) ?_)
     |(refine CT Z 183 (.tmp 3) Z (K (U W)) Z _ _ _ _ d.box underlying183 Z (FO a) ?_)
     |(refine Db Z 183 (.tmp 4) (.tmp 36) Z (K (U W)+1) (Cw a) Z Z 183 (Cw DT) d.ret (FO a) (Ro) (Rn a) ?_))
    refine CL (KE results142 _ _ (K (U W)+1) 183 (Cw a) (0,0) _ Z (CM _ _ _ _ _ _ d.ret) underlying183 Z (FO a)) Z ⟨⟨a,Z,F,i.off,i.lt⟩,Dj d.below E⟩
   have av:k<n:=AY (AE u);have aj:(k:J)<(n:J):=E;have au:(k:J)<16:=E;have ap:=i.lt k;have ax:=v k;have ha:=Tx (a k) (st k) E E;have af:a k&&&st k<256:=P4 (n:=8) _ E;have aw:=ge af;have ak:bits .or .u16 (a k:J) (((a k&&&st k)<<<1:I):J)=((w1 (st k) (a k):I):J):=X8 E E;have aq:A6 wr M k (C .u16 (a k)):=by have h:=Cb j k;grind [L6,Ff]
   have ar:=Dq wr M k _ _ j;have Q:D (A6 wr (K (U W)) k (C .u16 (a k))/\A6 wr A (3+k) (C .u16 (st k))):=⟨by have h:=Cb d.box k;grind [L6],(d.below.cell (p:=⟨A,_,Ao⟩) o).trans (cs k E)⟩
   have s:D (Hg W a (wr.drew.setCell ⟨M,k,Ao⟩ (C .u16 ((w1 (st k) (a k):I):J)))):=d.drew.cell _ _ w _;have z:D ((wr.drew.setCell ⟨M,k,Ao⟩ (C .u16 ((w1 (st k) (a k):I):J))).heap[M]?=H (Aj (Cw (Ff st a (k+1))) 183)):=by have h:=DQ wr.drew M k _ _ (C .u16 ((w1 (st k) (a k):I):J)) j;grind [D,Ty,vK]
   go_wp2;have c:(λb:X=>A6 b (K (U W)) k (C .u16 (a k))/\A6 b A (3+k) (C .u16 (st k))) {wr with drawn:=wr.drawn+1}:=AE Q;have ac:(λb:X=>A6 b (K (U W)) k (C .u16 (a k))/\A6 b A (3+k) (C .u16 (st k))) (wr.drew.setCell ⟨M,k,Ao⟩ (C .u16 ((w1 (st k) (a k):I):J))):=⟨by have h:=Cb s.box k;grind [L6],(s.below.cell (p:=⟨A,_,Ao⟩) o).trans (cs k E)⟩
   refine Ef (S:=λb=>A6 b (K (U W)) k (C .u16 (a k))/\A6 b A (3+k) (C .u16 (st k))) B6 ?_;refine Ca 0 16 (C Y k) c ?_;refine Cf 1 17 (A9 M k) Z (λb f=>?y1) c ?_
   case y1=>go_simp
   refine Ca 3 19 (C Y k) c ?_;refine Cf 4 20 (A9 (K (U W)) k) Z (λb f=>?y4) c ?_
   case y4=>go_simp
   refine Cf 5 21 (C .u16 (a k)) Z (λb f=>?y5) c ?_
   case y5=>(go_simp)
   refine Ca 6 22 (A8 A) c ?_;refine Ca 7 23 (C Y k) c ?_;refine Ca 8 24 (A8 A) c ?_;refine Ca 9 25 (A9 A 3) c ?_;refine Cf 10 26 (A9 A (3+k)) Z (λb f=>?y10) c ?_
   case y10=>go_simp
   refine Cf 11 27 (C .u16 (st k)) Z (λb f=>?y11) c ?_
   case y11=>(go_simp)
   refine Cf 12 28 (C .u16 ((a k&&&st k:I):J)) Z (λb f=>?y12) c ?_
   case y12=>go_simp
   refine Cf 13 29 (C .u16 (((a k&&&st k)<<<1:I):J)) Z (λb f=>?y13) c ?_
   case y13=>go_simp
   refine CC 2 (λaa t=>?_);go_simp;refine t.out _ _ c (λ_=>?_);refine Cf 14 30 (C .u16 ((w1 (st k) (a k):I):J)) Z (λb f=>?y14) c ?_
   case y14=>(go_simp;exact ak)
   refine Cf 15 31 (A9 M k) Z (λb f=>?y15) c ?_
   case y15=>go_simp
   refine CC 16 (λaa t=>?_);go_simp;refine t.out _ _ ac (λ_=>?_);refine CG ?_;go_simp;go_wp2;go_roundg g
   case measure=>omega
   case rel=>exact⟨k+1,Bb,B9,s,z⟩
structure Nv(W:World)(A:Nat)(ra:A4)(rc n:Nat)(st:Nat->Nat):Prop where
 lt:A<W.heap.size
 rules:W.cell? ⟨A,0,none⟩=some (.slice ra n rc)
 stays:∀r,r<16->W.cell? ⟨A,3+r,none⟩=some (.int .u16 (st r))
theorem Nv.below(h:Nv W A ra rc n st)(hb:A0 W W'):Nv W' A ra rc n st :=
 ⟨CK h.lt hb.size,(hb.cell (p:=⟨A,_,Ao⟩) h.lt).trans h.rules,λr a=>(hb.cell (p:=⟨A,_,Ao⟩) h.lt).trans (h.stays r a)⟩
def PP(n:AH)(st P Y:AH->AH):Prop:=(∀r,r<n->∀k,(Y r).testBit k=Ko (st r) (P r) k)/\(∀r,n<=r->Y r=P r)/\∀r,Y r<512
def Xd(n:AH)(st P:AH->AH)(e:Ending):Prop:=∃Y,e=Ak (.agg (Cw Y))/\PP n st P Y
theorem gm(h:Nv W A ra rc n st){P:I->I}(b:∀r,P r<512)(d:∀r,st r<256)(c:n<=16):Ar As 142 #[A8 A,.agg (Cw P)] W λe a=>Xd n st P e/\A0 W a :=
 vM b d c h.lt h.rules h.stays
def one(k:AH):AH->AH:=λr=>if r<k then 1 else 0
theorem vN:one 0=DT:=by funext r;rfl
theorem vO(k:I):(λi=>if i=k then(one k k|||2^0:I)else one k i)=one (k+1):=by grind [one]
theorem gn(k r:I):one k r<512:=by grind [one]
structure OB(W:World)(X:Nat->Nat)(V:World):Prop where
 ret:V.heap[W.heap.size]?=some (.cells (Cw DT) 183)
 p:V.heap[W.heap.size+1]?=some (.cells (Cw X) 183)
 below:A0 W V
theorem OB.next{W V V':Ap}{X:I->I}(h:OB W X V)(hb:A0 V V'):OB W X V' :=
 ⟨(hb.block _ (Cc h.ret)).trans h.ret,(hb.block _ (Cc h.p)).trans h.p,h.below.trans (hb.mono h.below.size)⟩
theorem vP(W:X):OB W DT (Az (Az W (M (Cw DT) 183)) (M (Cw DT) 183)) :=
 ⟨(Cx _ _ _ Ba).trans (Cj _),B2 (Cj (Az W (M (Cw DT) 183)) (o:=(M (Cw DT) 183))),(Cl).alloc Ba _⟩
theorem vQ(y:∀r,st r<256)(x:n<=16)(h:Nv W A ra rc n st):Ar As 98 #[A8 A] W λe W'=>Xd n st (one n) e/\A0 W W':=by
 have f:=G h;have F:D (OB W DT (Az (Az W (M #[C .u16 0,C .u16 0,C .u16 0,C .u16 0,C .u16 0,C .u16 0,C .u16 0,C .u16 0,C .u16 0,C .u16 0,C .u16 0,C .u16 0,C .u16 0,C .u16 0,C .u16 0,C .u16 0] 183)) (M #[C .u16 0,C .u16 0,C .u16 0,C .u16 0,C .u16 0,C .u16 0,C .u16 0,C .u16 0,C .u16 0,C .u16 0,C .u16 0,C .u16 0,C .u16 0,C .u16 0,C .u16 0,C .u16 0] 183))):=vP W;have L:=h.rules;have P:=h.lt;go_enter func98,ntmps98;go_wp2
 go_loopg[10] n (λg z V=>∃k:I,z=C Y k/\D (k+g=n)/\D (OB W (one k) V))
 case atStart=>grind [vN]
 case round =>
  obtain⟨k,rfl,d,a⟩:=hrel;obtain _|g:=gk
  .have w:¬(k:J)<(n:J):=AY (AE d);have v:k=n:=AY (AE d);subst v;have m:=λV s=>gm (f.below (W':=V) s) (gn k) y x
   go_wp2_with(first
    |(go_at_call 142;refine(m _ a.below).mono ?_;rintro e B ⟨⟨b,rfl,q⟩,o⟩;have c:=G (a.next o);have j:=G q)
    |(refine CT Z 183 (.tmp 3) Z (K (U W)+1) Z _ _ _ _ a.p underlying183 Z (FO _) ?_)
    |(refine Db Z 183 (.tmp 2) (.tmp 18) Z (K (U W)) (Cw b) Z Z 183 (Cw DT) c.ret (FO b) (Ro) (Rn b) ?_))
   refine CL (KE results98 _ _ (K (U W)) 183 (Cw b) (0,0) _ Z (CM _ _ _ _ _ _ c.ret) underlying183 Z (FO b)) Z ⟨⟨b,Z,j⟩,Dj c.below (Co _)⟩
  have N:k<n:=AY (AE d);have w:(k:J)<(n:J):=E;have t:A6 wr (K (U W)+1) (0+k) (C .u16 (one k k)):=by have h:=Cb a.p (0+k);grind [L6]
  have u:=Dq wr (K (U W)+1) (0+k) _ _ a.p;have l:=Rm (k:=0) E E (AY (gn k k)) t u;have i:D (OB W (one (k+1)) (AB wr ⟨K (U W)+1,k,Ao⟩ (C .u16 ((one k k|||1:I):J))).drew):=by refine⟨(G9 wr _ _ _ Ba).trans a.ret,?_,(a.below.setCell Ba _).drew⟩;have h:=DQ wr (K (U W)+1) k _ _ (C .u16 ((one k k|||1:I):J)) a.p;rw[Ty,show(1:I)=2^0 from rfl,vO]at h;exact h
  go_wp2_with(first
   |(go_at_call 140;refine l.mono ?_;rintro e B ⟨rfl,rfl⟩))
  go_roundg g
  case measure=>omega
  case rel=>exact⟨k+1,Bb,B9,i⟩
end
section
def D0(c:AU):A1->AJ A1
 |[]=>[[]]
 |x::r=>if x==c then[]::D0 c r else match D0 c r with
  |h::t=>(x::h)::t
  |[]=>[[x]]
theorem Xh(c:AU)(l:A1):D0 c l≠[]:=by cases l<;>grind [D0]
theorem Xi:∀l:A1,(∀x,x∈l->(x==c)=AQ)->D0 c l=[l]
 |[],_=>rfl
 |x::r,h=>by have b:=h x (LR ..);have d:=Xi r (λy a=>h y (Le _ a));grind [D0]
theorem Xj:∀(a b:A1),(∀x,x∈a->(x==c)=AQ)->D0 c (a++c::b)=a::D0 c b
 |[],b,_=>by simp[D0]
 |x::a,b,h=>by have e:=h x (LR ..);have f:=Xj a b (λy d=>h y (Le _ d));grind [D0]
theorem vY(h:Lib.indexByte l c = -1):D0 c l=[l]:=by refine Xi l (λx a=>?_);obtain⟨k,b,rfl⟩:=Q6 a;have:=Lib.indexByte_none h k;grind
theorem vZ{o:I}(h:Lib.indexByte l c=o):o<O l/\D0 c l=l.take o::D0 c (l.drop (o+1)):=by
 obtain⟨a,f⟩:=Lib.indexByte_some h;have d:=Dh a;refine⟨d,?_⟩;have e:l=l.take o++c::l.drop (o+1):=by have b:=(NM.1 a).2;rw[<-b];simp
 grind [Xj,List.getElem_of_mem,beq_eq_false_iff_ne,List.getElem?_eq_getElem]
end
section
open Go.RowKit
theorem Tryz.infoStr:(prog.info? 9).map (λi=>(i.zero,i.size,i.bytes))=H (H (.string ByteArray.empty),1,16):=B6
theorem wa:(s.extract a b).data.toList=(s.data.toList.take b).drop a:=by rw[kR];simp[List.drop_take]
structure Mu(c:UInt8)(l:A1)(ps:List ByteArray)(f i:Nat):Prop where
 fi:f<=i
 il:i<=l.length
 len:ps.length<=i
 eq:D0 c l=ps.map (·.data.toList)++D0 c (l.drop f)
 no:∀x,x∈(l.take i).drop f->(x==c)=false
theorem Mu.next(h:Mu c l ps f i)(hi:i<O l)(hx:(l[i]==c)=AQ):Mu c l ps f (i+1):=by
 refine⟨AY h.fi,hi,AY h.len,h.eq,λx b=>?_⟩;rw[Yq hi,RR keM,Qi]at b;rcases b with a|a
 .exact h.no x a
 grind
theorem Mu.found(h:Mu c l ps f i)(hi:i<O l)(hx:l[i]=c)(p:AT)(a:p.data.toList=(l.take i).drop f):Mu c l (ps++[p]) (i+1) (i+1):=by
 refine⟨Co _,hi,by rw[Dc];have:=h.len;simp;omega,?_,λx b=>?_⟩
 .rw[h.eq,JP,KD];congr 1;have e:l.drop f=(l.take i).drop f++c::l.drop (i+1):=by
   conv=>lhs;rw[<-Yp i l]
   rw[RR keM,KA hi,hx]
  rw[e,Xj _ _ h.no,<-a];rfl
 grind
theorem Mu.last(h:Mu c l ps f (O l))(p:AT)(a:p.data.toList=l.drop f):D0 c l=(ps++[p]).map (·.data.toList):=by rw[h.eq,JP];congr 1;have:=h.no;grind [Xi]
theorem Xk(c:AU)(k:J)(B:k=c.toNat)(hs:s.size<=100000):Ar As 101 #[.string s,C Am k] w λe V =>
   ∃(v:Aq) (a:AJ AT),e=Ak v/\V.ownsRow (K (U w)) 9 1 v (O a) (a.map Value.string)/\A0 w V/\a.map (·.data.toList)=D0 c s.data.toList:=by
 obtain⟨S,F,P,Q,R⟩:=DD Tryz.infoStr;have hl:O s.data.toList=s.size:=FE;have A:=G B;clear B;go_enter func101,ntmps101;go_wp2
 go_loopg[5,6,7] s.size (λg v x ad wr=>∃(a:AJ AT) (f i:I) (p:A4) (r:I),D (i+g=s.size)/\v=T p (O a) r/\x=C Y f/\ad=C Y i/\D (wr.ownsRow (K (U w)) 9 1 v (O a) (a.map Value.string))/\D (A0 w wr)/\D (Mu c s.data.toList a f i))
 case atStart =>
  exact⟨[],0,0,Ao,0,Bg,Z,Z,Z,Fa _ _ _ _,Cq _ _,⟨Co _,En _,Co _,Ba,λx b=>by simp at b⟩⟩
 case round =>
  obtain⟨a,f,i,p,r,o,rfl,rfl,rfl,j,l,d⟩:=hrel;have ae:=d.fi;have ah:=d.len;have N:=l.size;have ag:i<=s.size:=AY (AE o);obtain _|g:=gk
  .have ab:¬(i:J)<s.size:=AY (AE o);have af:f<=s.size:=E
   go_wp2_with(first
    |(at_builtin;refine JO _ Z _ _ 98 Z (K (U w)) 9 S (.string ByteArray.empty) 1 16 underlying98 F P Q R Z B8 _ _ _ Z (j.alloc _) ⟨K (U wr),0,Ao⟩ 1 1 [.string (s.extract f s.size)] Z Z (cell_one_new _ _ _) (λx b=>by simp at b;subst b;rfl) Bc E B7 ?_;intro z w3 L t ac))
   go_ret;have aa:i=O s.data.toList:=AY (AE o);have W:=AE d;subst aa;exact⟨z,Z,a++[s.extract f s.size],B9,(l.alloc N _).grown t B7 (λq u=>(j.lt q u).1),(W.last _ (YP s f)).symm⟩
  have ab:(i:J)<s.size:=AY (AE o);have hn:i<s.size:=E;by_cases hc:(s[i].toNat:J)=k
  .have y:((s[i].toNat:J)==k)=AP:=B9
   go_wp2_with(first
    |(at_builtin;refine JO _ Z _ _ 98 Z (K (U w)) 9 S (.string ByteArray.empty) 1 16 underlying98 F P Q R Z B8 _ _ _ Z (j.alloc _) ⟨K (U wr),0,Ao⟩ 1 1 [.string (s.extract f i)] Z Z (cell_one_new _ _ _) (λx b=>by simp at b;subst b;rfl) Bc E B7 ?_;intro z w3 L t ac))
   go_roundg g
   case measure=>omega
   case rel =>
    obtain⟨n,m,ai⟩:∃n m,z=T (Aa n) (O a+1) m:=by rcases L.2 with⟨_,h⟩|⟨n,m,_,h,_⟩<;>grind
    have b:s.data.toList[i]=c:=by have e:s[i].toNat=c.toNat:=AY (AE A);exact P3.1 e
    exact⟨a++[s.extract f i],i+1,i+1,Aa n,m,B9,B9,Bb,Bb,by grind [D],(l.alloc N _).grown t B7 (λq u=>(j.lt q u).1),d.found E b _ (wa)⟩
  have y:((s[i].toNat:J)==k)=AQ:=B9;go_wp2;go_roundg g
  case measure=>omega
  case rel =>
   refine⟨a,f,i+1,p,r,B9,rfl,rfl,Bb,j,l,d.next E ?_⟩;rw[MN];intro e;exact hc (by rw[AE A,<-e];rfl)
theorem Xl(h:w.ownsRow base 9 1 v (O ps) (ps.map Value.string))(o:0<O ps):∃g a,v=T (Aa g) (O ps) a/\base<=g/\g<K (U w)/\∀j (f:j<O ps),A6 w g j (.string ps[j]):=by
 obtain⟨_,⟨_,l⟩|⟨g,a,b,k,c,d,n,_,m,i⟩⟩:=h
 .omega
 refine⟨g,a,k,c,(Cc d),λj f=>?_⟩;have e:b.toList[j]?=H (.string ps[j]):=by have:=congrArg (·[j]?) i;grind
 grind [cell_of_row]
theorem gw(c:AU):∀l:A1,O (D0 c l)<=O l+1
 |[]=>by simp[D0]
 |x::r=>by
  have d:=gw c r;unfold D0;split
  .simp only[FU];omega
  rcases h:D0 c r with _|⟨a,b⟩
  .simp
  rw[h]at d;simp only[FU]at *;omega
theorem OC(c:AU):∀(l p:A1),p∈D0 c l->O p<=O l
 |[],p,h=>by grind [D0]
 |x::r,p,h=>by have a:=λq=>OC c r q;grind [D0,Nat.le_succ_of_le,absurd,Xh,Nat.succ_le_succ,List.mem_cons_self,List.mem_cons_of_mem]
theorem TB(h:ps.map (·.data.toList)=D0 c l):0<O ps:=by grind [absurd,Xh]
def Gl(l:A1):AK:=FN l||(l==[42]||(l==[42,42]||l==[91,93]))
def EY(l:A1):AK:=l==[46]||((D0 47 l).all Gl&&AR (At (D0 47 l)<=8))
def DO:A3:=#[Ac Ao 0 0,Ab Al 0,Ab Al 0]
def F7(a:A4)(n cap:AH)(x y:AI):A3:=#[Ac a n cap,Ab Al x,Ab Al y]
theorem OD{a:A4}{x y:J}:(F7 a n cap x y).all (·.oneCell')=AP:=by simp[F7,Value.oneCell']
theorem TC:DO.all (·.oneCell')=AP:=OD
theorem Nx:(prog.info? 193).map (·.size)=H 3:=B6
def Ny(n:AH):AJ A1->AK
 |[a,b,c]=>EY a&&(Iv b n&&ET ⟨Aw c⟩ != 0)
 |_=>AQ
def De(n:AH)(l:A1):AK:=Ny n (D0 32 l)
theorem gx{q:AJ A1}(h:O q≠3):Ny n q=AQ:=by
 match q,h with
 |[],_=>rfl
 |[_],_=>rfl
 |[_,_],_=>rfl
 |_::_::_::_::_,_=>rfl
structure TD(w:World)(arr:A3)(W:World):Prop where
 below:A0 w W
 box:W.heap[w.heap.size]?=some (.cells arr 40)
 res:W.heap[w.heap.size+1]?=some (.cells DO 193)
 lo:w.heap.size+1<W.heap.size
theorem TD.step{arr:A3}(h:TD w arr W)(hb:A0 W W'):TD w arr W':=by have:=h.lo;exact⟨h.below.trans (hb.mono h.below.size),(hb.block _ E).trans h.box,(hb.block _ E).trans h.res,CK this hb.size⟩
theorem wg(w:X){w2:X}(arr:A3)(hb:Below (K (U w)+1+1) (Az (Az w (M arr 40)) (M DO 193)) w2):TD w arr w2:=by
 have a:=hb.size;simp only[CI,A0]at a;refine⟨((Cl).alloc Ba _).trans (hb.mono E),?_,?_,E⟩
 .rw[hb.block _ E,Cx _ _ _ Ba];exact Cj _
 rw[hb.block _ E];grind [Cj,World.size_alloc]
theorem wk(h:O ps=3):∃d e f,ps=[d,e,f]:=by
 match ps,h with
 |[a,b,c],_=>grind
theorem Rs(p:AT):(⟨Aw p.data.toList⟩:AT)=p:=by cases p;rfl
theorem wl(d:ps.map (·.data.toList)=D0 32 l):(O ps≠3/\De n l=AQ)\/∃b a c,ps=[b,a,c]/\((a.size≠1/\De n l=AQ)\/∃h:a.size=1,
   ((a[0].toNat:J)<48/\De n l=AQ)\/((57:J)<a[0].toNat/\De n l=AQ) \/
   ((48:J)<=a[0].toNat/\(a[0].toNat:J)<=57/\De n l=(EY b.data.toList&&(ET c != 0&&Dt n ((a[0].toNat:J)-48))))):=by
 by_cases g:O ps=3
 .right;obtain⟨b,a,c,rfl⟩:=wk g;refine⟨b,a,c,Z,?_⟩;have e:De n l=(EY b.data.toList&&(Iv a.data.toList n&&ET c != 0)):=by unfold De;rw[<-d];simp only[GO,Lh,Ny,Rs]
  by_cases f:a.size=1
  .grind [We,Iv,Dt]
  left;refine⟨f,?_⟩;rw[e,(br (n:=n) Br).2];simp
 left;grind [De,gx]
theorem wm{n g:Nat}{s:ByteArray}{ps:List ByteArray}{w2:World}(hs:s.size<=100000)(HE:ps.map (·.data.toList)=D0 32 s.data.toList)(hcs:∀j (hj:j<ps.length),w2.cell? ⟨g,j,none⟩=some (.string ps[j])):(¬(ps.length:Int)=3/\Hid (De n s.data.toList=false)) \/
  (∃p0 p1 p2,ps=[p0,p1,p2]/\w2.cell? ⟨g,1,none⟩=some (.string p1)/\¬(p1.size:Int)=1/\Hid (De n s.data.toList=false)) \/
  (∃p0 p1 p2,ps=[p0,p1,p2]/\w2.cell? ⟨g,1,none⟩=some (.string p1)/\∃h:p1.size=1,(p1.size:Int)=1/\(p1[0].toNat:Int)<48/\Hid (De n s.data.toList=false)) \/
  (∃p0 p1 p2,ps=[p0,p1,p2]/\w2.cell? ⟨g,1,none⟩=some (.string p1)/\∃h:p1.size=1,(p1.size:Int)=1/\(48:Int)<=p1[0].toNat/\(57:Int)<p1[0].toNat/\Hid (De n s.data.toList=false)) \/
  (∃p0 p1 p2,ps=[p0,p1,p2]/\w2.cell? ⟨g,0,none⟩=some (.string p0)/\w2.cell? ⟨g,1,none⟩=some (.string p1)/\w2.cell? ⟨g,2,none⟩=some (.string p2)/\∃h:p1.size=1,(p1.size:Int)=1/\(48:Int)<=p1[0].toNat/\(p1[0].toNat:Int)<=57/\Hid (p0.size<=100000) /\
   Hid (De n s.data.toList=(EY p0.data.toList&&(ET p2 != 0&&Dt n ((p1[0].toNat:Int)-48))))):=by
 rcases wl HE with⟨h3,HF⟩|⟨p0,p1,p2,rfl,⟨h1,HF⟩|⟨h1,⟨h48,HF⟩|⟨h57,HF⟩|⟨h48,h57,HF⟩⟩⟩
 .exact Pa ⟨by omega,HF⟩
 .exact KK (Pa ⟨p0,p1,p2,rfl,hcs 1 (by simp),by omega,HF⟩)
 .exact KK (KK (Pa ⟨p0,p1,p2,rfl,hcs 1 (by simp),h1,by omega,h48,HF⟩))
 .exact KK (KK (KK (Pa ⟨p0,p1,p2,rfl,hcs 1 (by simp),h1,by omega,by omega,h57,HF⟩)))
 refine KK (KK (KK (KK ⟨p0,p1,p2,rfl,hcs 0 (by simp),hcs 1 (by simp),hcs 2 (by simp),h1,by omega,h48,h57,?_,HF⟩)));show _<=_;have:=OC 32 s.data.toList p0.data.toList (by rw[<-HE];simp);have h3:s.data.toList.length=s.size:=FE;have h4:p0.data.toList.length=p0.size:=FE;omega
end
section
open Go.RowKit Go.Deep
def GH(L:AJ (AI×AI))(a b:AH):Prop:=∀S:AH->Prop,S a->(∀e,e∈L->S e.1.toNat->S e.2.toNat)->S b
theorem GH.refl(L:AJ (J×J))(a:I):GH L a a:=λ_ h _=>h
theorem GH.trans{c:I}(h:GH L a b)(k:GH L b c):GH L a c:=λS e d=>k S (h S e d) d
theorem GH.edge{e:J×J}(h:e∈L):GH L e.1.toNat e.2.toNat:=λ_ a b=>b e h a
theorem xV{e:J×J}(h:m i j=AP):K9 m e i j=AP:=by unfold K9 upd;split<;>simp_all
theorem xW(m:I->I->AK)(e:J×J):K9 m e e.1.toNat e.2.toNat=AP:=by simp[K9,upd]
theorem ip:∀(m:I->I->AK) (i j:I),m i j=AP->L.foldl K9 m i j=AP:=by
 induction L with
 |nil=>intro m i j h;exact h
 |cons e L a=>intro m i j h;exact a _ i j (xV h)
theorem xX:∀(m:I->I->AK) (e:J×J),e∈L->L.foldl K9 m e.1.toNat e.2.toNat=AP:=by
 induction L with
 |nil=>intro m e h;cases h
 |cons x L a =>
  intro m e h;obtain h|h:=If.1 h
  .subst h;exact ip (L:=L) _ _ _ (xW m e)
  exact a _ e h
theorem xY(P:I->I->Prop):∀(m:I->I->AK),(∀i j,m i j=AP->P i j)->(∀e,e∈L->P e.1.toNat e.2.toNat)->∀i j,L.foldl K9 m i j=AP->P i j:=by
 induction L with
 |nil=>intro m h _;exact h
 |cons x L d =>
  intro m h a;refine d (K9 m x) (λi j b=>?_) (λe c=>a e (Le _ c));unfold K9 upd at b;grind
theorem xZ(h:JR n L i j=AP):GH L i j :=
 xY (GH L) (Li n) (λi j b=>by have:=Dk b;grind [GH.refl]) (λ_ a=>GH.edge a) i j h
theorem TP{l:I}(H:fst n k m l h i j=AP):m i j=AP\/(m i k=AP/\m k j=AP):=kej
theorem iq{l:I}(H:m i j=AP):fst n k m l h i j=AP:=by unfold fst;rw[H];rfl
theorem TQ(hi:i<n)(c:j<n)(a:m i k=AP)(b:m k j=AP):fst n k m n 0 i j=AP:=kej
theorem ya:∀(k i j:I),GR n k (JR n L) i j=AP->GH L i j:=by
 intro k
 induction k with
 |zero=>intro i j h;exact xZ h
 |succ k a =>
  intro i j h;rcases TP h with h|⟨b,c⟩
  .exact a i j h
  exact(a i k b).trans (a k j c)
theorem ir(h:m i j=AP):∀k,GR n k m i j=AP:=by
 intro k
 induction k with
 |zero=>exact h
 |succ k a=>exact iq a
theorem yb:∀(k:I),k<=n->∀c i j,c<k->i<n->j<n->GR n k m i c=AP->GR n k m c j=AP->GR n k m i j=AP:=by
 intro k
 induction k with
 |zero=>intro _ c i j h;omega
 |succ k g =>
  intro u c i j t d f b a;have g:=g E;have q:∀x,GR n (k+1) m x k=GR n k m x k:=λx=>Ze (GR n k m) 0;have s:∀x,GR n (k+1) m k x=GR n k m k x:=λx=>Zf (GR n k m) 0;by_cases e:c=k
  .subst e;rw[q]at b;rw[s]at a;exact TQ d f b a
  have o:c<k:=E;have p:k<n:=E;rcases TP b with b|⟨b,r⟩
  .rcases TP a with a|⟨a,l⟩
   .exact iq (g c i j o d f b a)
   exact TQ d f (g c i k o d p b a) l
  rcases TP a with a|⟨a,l⟩
  .exact TQ d f b (g c k j o p f r a)
  exact TQ d f b l
theorem Xx(c:Fb n L=AP){e:J×J}(d:e∈L):e.1.toNat<n/\e.2.toNat<n:=by have:=GN.1 c e d;unfold Gd at this;simp only[F3]at this;obtain⟨⟨a,b⟩,_⟩:=this;have f:=Dk a;have g:=Dk b;omega
theorem yc(d:Fb n L=AP)(f:a<n)(hb:b<n):DY n L a b=AP↔GH L a b:=by
 constructor
 .exact ya n a b
 intro h;have:=h (λx=>x<n->DY n L a x=AP) (λ_=>ir (ip _ _ _ (F4 ⟨Z,f⟩)) n)
  (λe c g i=>yb n (Co _) e.1.toNat a e.2.toNat (Xx d c).1 f i (g (Xx d c).1) (ir (xX _ e c) n))
 exact this hb
theorem yd(h:S x=AP):Gy S k x=AP:=by grind [Gy]
theorem iu{e:J×J}(h:S x=AP):Lj S e x=AP:=by unfold Lj;grind [yd]
theorem TR:∀{S:I->AK} {x:I},S x=AP->Ge L S x=AP:=by
 unfold Ge
 induction L with
 |nil=>intro S x h;exact h
 |cons e L a=>intro S x h;exact a (iu h)
theorem ye:∀{S:I->AK} {e:J×J},e∈L->S e.1.toNat=AP->Ge L S e.2.toNat=AP:=by
 induction L with
 |nil=>intro S e h;cases h
 |cons x L b =>
  intro S e h a;obtain h|h:=If.1 h
  .subst h;refine TR (S:=Lj S e) ?_;unfold Lj;grind [Gy]
  exact b (S:=Lj S x) h (iu a)
theorem iv(P:I->Prop):∀{S:I->AK},(∀x,S x=AP->P x)->(∀e,e∈L->P e.1.toNat->P e.2.toNat)->∀x,Ge L S x=AP->P x:=by
 induction L with
 |nil=>intro S h _;exact h
 |cons e L f =>
  intro S h c;refine f (S:=Lj S e) (λx d=>?_) (λa b=>c a (Le _ b));unfold Lj at d;grind [Gy]
def TS(L:AJ (AI×AI))(S:AH->AK):Prop:=∀e,e∈L->S e.1.toNat=AP->S e.2.toNat=AP
theorem iw(h:TS L S):Ge L S=S:=by
 funext x;cases b:S x
 .cases a:Ge L S x
  .rfl
  have:=iv (λx=>S x=AP) (S:=S) (λ_ h=>h) h x a;grind
 exact TR b
def TT(n:AH)(S:AH->AK):AH:=At ((List.range n).filter S)
theorem yf(n:I)(S:I->AK):TT n S<=n:=by grind [TT]
theorem yg{T:I->AK}(a:∀x,S x=AP->T x=AP):∀(l:AJ I) (y:I),y∈l->S y=AQ->T y=AP->O (l.filter S)<O (l.filter T):=by
 have b:∀l:AJ I,O (l.filter S)<=O (l.filter T):=by intro l;induction l<;>grind
 intro l;induction l<;>grind
theorem yh(f:Fb n L=AP)(g:a<n):∀k,TS L (EP L k (EH a))\/k+1<=TT n (EP L k (EH a)):=by
 intro k
 induction k with
 |zero =>
  right;have:0<O ((List.range n).filter (EH a)):=List.length_pos_of_mem (a:=a) (List.mem_filter.2 ⟨Hn.2 g,by simp[EH,Gy]⟩);exact this
 |succ k l =>
  rcases l with h|h
  .grind [EP,iw]
  by_cases i:TS L (EP L k (EH a))
  .grind [EP,iw]
  right;have:∃e,e∈L/\EP L k (EH a) e.1.toNat=AP/\EP L k (EH a) e.2.toNat=AQ:=by apply YA;intro o;refine i (λe b c=>?_);grind
  obtain⟨e,b,c,d⟩:=this;have m:=yg (λx j=>TR j) (List.range n) e.2.toNat (Hn.2 (Xx f b).2) d (ye b c);grind [EP,TT]
theorem yi:∀k x,EP L k (EH a) x=AP->GH L a x:=by
 intro k
 induction k with
 |zero =>
  intro x h;have h:EH a x=AP:=h;unfold EH Gy at h;grind [GH.refl]
 |succ k d =>
  intro x h;exact iv (λx=>GH L a x) (S:=EP L k (EH a)) d (λe c b=>b.trans (GH.edge c)) x h
theorem yj(h:S x=AP):∀k,EP L k S x=AP:=by
 intro k
 induction k with
 |zero=>exact h
 |succ k a=>exact TR a
theorem iy(c:Fb n L=AP)(d:a<n):DS n L a b=AP↔GH L a b:=by
 constructor
 .exact yi n b
 intro h;have e:TS L (EP L n (EH a)):=by rcases yh c d n with h|h<;>grind [yf]
 exact h (λx=>EP L n (EH a) x=AP) (yj (by simp[EH,Gy]) n) e
theorem iz(c:Fb n L=AP)(d:a<n)(hb:b<n):DY n L a b=DS n L a b:=by grind [yc,iy]
theorem yk(b:Fb n L=AP)(c:a<n):DS n L a a=AP:=(iy b c).2 (GH.refl _ _)
end
end Go.Proofs.YtihfjkjbfaneeaaGreatDoor
