import Derived.ProofKit
import Derived.OpenShut
import Derived.Deep.Slices
import Derived.Lib.LaidU8T
import Derived.PinnedBridge
import Derived.Test.YtaehkdnabiccnaaGreatDoorCards
import Derived.LaidOnce
import Derived.SevenTiedAt
import Derived.Deep.DeepHandedRow
import Derived.Lib.MakeNoZero
import Derived.Laws.CopyOwn
import Derived.Test.YtaehkdnabiccnaaGreatDoorGq02
import Derived.Test.YtaehkdnabiccnaaGreatDoorGq01
set_option maxRecDepth 100000
set_option maxHeartbeats 8000000
set_option linter.all false
namespace Go.Proofs.YtaehkdnabiccnaaGreatDoor
open Go.Proofs.Tryz
open _root_ renaming Nat->I,Int->J
open Go.Value renaming int->C,slice->G
open Go.World renaming heap->U
open _root_.Array renaming size->O
open _root_.List renaming length->K
open Go.IntKind renaming i64->Y
open Go.RowKit renaming Hid->D
open Go renaming World->X
open Option renaming some->H
open Go.Obj renaming cells->M
open Go.Value renaming slice->AX,int->Ab,slice->Ac,pointer->Ad,string->Ae,tuple->Af,agg->Ag,bool->Ah,iface->Ai,ownBlock->Ax
open Go.Obj renaming cells->Aj
open Go.Ending renaming returned->Ak
open Go.IntKind renaming i64->Al,u8->Am
open Option renaming some->An,none->Ao
open Go renaming DataW->AM,TypeId->AN,undef->AO,World->Ap,Value->Aq,Calls->Ar
open Go.Proofs.Tryz renaming prog->As
open _root_.List renaming replicate->AV,length->At,toArray->Aw
open _root_.Array renaming size->Au,setIfInBounds->Ay
open Go.World renaming setCell->AB,cell?->AC,setRow->AD,heap->Av,alloc->Az
open Go.RowKit.Hid renaming out->AE
open Or renaming inl->AF,inr->AG
open _root_ renaming Nat->AH,Int->AI,List->AJ,Bool->AK,Except->AS,ByteArray->AT,UInt8->AU
open Go.RowKit renaming Hid->AL
open _root_.Bool renaming true->AP,false->AQ
open _root_.Decidable renaming decide->AR
open _root_.UInt8 renaming ofNat->AW
variable{P:Program}{V V' V0 W W' W0 w w' w5:X}{a ba fa ia sa:A4}{L N N' b' base bp c cap f fc fn fuel g i j k label m mn n p q sc size:I}{fed fv kv sv u v v' v2 x y:Aq}{A cs gr tmps:A3}{acc bs cur h0 l t tl ys:A1}{depth fin fm fout lim pl z:J}{e ty:AN}{sp:I->AK}{cl held:AK}{b:AU}{F:I->Prop}{ds:AJ (AM Unit)}{xs:AJ Aq}{s:AT}{es:AJ (Lit×AM Unit)}{d dd:A2}{B:AJ J}{o:Oper}{r:AS (J×J) (AM Unit)}{ev ρ:Operand->Aq}{Q:Exit->Act->X->Prop}{ops:Array Oper}{rest:AJ Oper}{rd rd':I->AS (J×J) (AM Unit×I)}{sts sts':AJ ((I->I)×J×J)}{mf nf:Lit->Option I}{fr:I×I}
section
open Go.RowKit Go.RowKit Go.Deep Go.RowKit Go.Deep Go.Shelf Go.Lib Go.ChangeShapes Go.WideShapes Go.ChangeAt Go.RowKit Go.Lib Go.ChangeShapes Go.WideShapes Go.ChangeAt Go.RowKit Go.Lib Go.Deep Go.RowKit Go.Lib
structure PZ(w:Ap)(a:A4)(n:AH)(h:AH->FR):Prop where
 a0:∀k,k<n->∃b off,a=An ⟨b,off,Ao⟩/\b<Au (Av w)/\∀k j,k<n->j<7->AC w ⟨b,off+k*7+j,Ao⟩=(h k).ai[j]?
 a1:∀k,k<n -> -9223372036854775808<=(h k).a/\(h k).a<=9223372036854775807
def PZ.ac{g:I->FR}(h:PZ w a n g)(hb:A0 w w'):PZ w' a n g :=
 ⟨λk c=>by obtain⟨b,off,f,d,e⟩:=h.a0 k c;exact⟨b,off,f,CQ d hb.size,λk j c i=>Ca (hb.cell (p:=⟨b,_,Ao⟩) d)<|e k j c i⟩,h.a1⟩
theorem IG:prog.cellsOf 3=1:=B6
def Tg:prog.cellsOf 9=1:=B6
def oX:prog.cellsOf 38=1:=B6
def oY:prog.cellsOf 25=1:=B6
def oZ:prog.cellsOf 32=1:=B6
def bE:prog.cellsOf 40=11:=B6
def bF:prog.cellsOf 34=7:=B6
def p6:prog.cellsOf 119=2:=B6
theorem p7:prog.bytesOf 119=16:=B6
theorem p8:prog.bytesOf 3=8:=B6
def Rk{a:Addr}(h:AC w (a.add 0)=An v):∃b off,a=⟨b,off,Ao⟩/\b<O (U w):=by
 obtain⟨b,off,d⟩:=a;have c:d=Ao:=by simpa[Addr.add]using World.cell?_spot h
 subst c;rw[JA]at h;exact⟨b,off,Z,Fk h⟩
def Q0{α:Type}{l:AJ α}(h:K l=2):∃a b,l=[a,b]:=by
 match l,h with
 |[a,b],_=>exact⟨a,b,rfl⟩
section
variable{H:Type} {enc:TypeId×Aq->H} {w:Ap}
theorem p9{x:AM H×AJ MemPlace}(h:DataW.trod enc As w 0 (λ_=>AP) AP fuel 25 [v]=An x)(F:(x.1.weights As 25).all (·<=reachBytes)=AP):∃(a:A4) (c:I) (B:AJ J),v=G a (K B) c/\G3 w a B/\(a=Ao->K B=0/\c=0)/\(K B+8)*8<=281474976710656:=by
 rcases open_slice1 underlying25 IG h with⟨e,_⟩|⟨a,len,c,m,n,V,p,q,e,_,u,A,j,rfl,l⟩
 .cases e;exact⟨Ao,0,[],Z,⟨λi d=>by simp at d⟩,λ_=>⟨Z,Z⟩,B8⟩
 cases e;have g:m=c:=by rw[j];rfl
 subst g;have s:m*8<=reachBytes:=by grind [DataW.weights,underlying25,p8]
 have o:∀i,i<m->∃z:J,V i=C Y z:=λi d=>by grind [DataW.trod_int,underlying3]
 obtain⟨f,r⟩:=choose_lt o;refine⟨An a,m,(List.range len).map f,Ba,⟨λi d=>?_⟩,λk=>(by cases k),?_⟩
 .have t:i<len:=keo;obtain⟨b,off,rfl,y⟩:=Rk (l 0 E).1;grind [JA]
 grind [reachBytes]
theorem Gi{cs:AJ Aq}{xs:AJ<|AM H×AJ MemPlace}{fs:Array Field}(b:∀(i:I) (f:Field),fs[i]?=An f->DataW.trod enc As w 0 (λ_=>AP) AP n f.type ((cs.drop f.offset).take<|prog.cellsOf f.type)=xs[i]?)(i:I){f:Field}(h:fs[i]?=An f){t:AN}(o:I)(d:f.type=t)(c:f.offset=o)(a:prog.cellsOf t=1)(e:cs[o]?=An v){y:AM H×AJ MemPlace}(hy:xs[i]?=An y):DataW.trod enc As w 0 (λ_=>AP) AP n t [v]=An y:=BT
theorem pb{x:AM H×AJ MemPlace}(h:DataW.trod enc As w 0 (λ_=>AP) AP fuel 38 [v]=An x)(hw:(x.1.weights As 38).all (·<=reachBytes)=AP):∃(a:A4) (d:I) (L:AJ<|J×J),v=G a (K L) d/\G0 w a L/\(a=Ao->K L=0/\d=0)/\(K L+8)*16<=281474976710656:=by
 rcases open_slice underlying38 h with⟨e,_⟩|⟨a,len,d,m,af,aa,Pl,e,_,hl,hm,P,rfl,R⟩
 .cases e;exact⟨Ao,0,[],Z,⟨λi c=>kf2⟩,λ_=>⟨Z,Z⟩,B8⟩
 cases e;have N:m=d:=kfO;subst N;have hb:m*16<=reachBytes:=by grind [DataW.weights,underlying38,p7]
 have W:∀i,i<m->∃z:J×J,AC w (a.add<|i*2)=An (C Y z.1)/\AC w ((a.add<|i*2).add 1)=An (C Y z.2):=λi c=>by
  obtain⟨y,o,A⟩:=R i c;rw[p6]at o;obtain⟨_,F,B⟩:=SP o;obtain⟨r,n',_,_,_,S,q⟩:=PP underlying119 A;obtain⟨f,j,rfl⟩:∃f j,y=[f,j]:=by exact Q0 F
  obtain⟨s,t,rfl⟩:∃s t,r=[s,t]:=by have V:K r=2:=S;exact Q0 V
  .have b:=Gi q 0 Z 0 Z Z IG Z Z;have g:=Gi q 1 Z 1 Z Z IG Z Z;obtain⟨n,k,_⟩:=J0 underlying3 b;obtain⟨z1,l,_⟩:=J0 underlying3 g;simp at k l;subst k l;refine⟨(n,z1),?_,?_⟩
   .have:=B 0 E;grind [add_add]
   grind
 obtain⟨u,p⟩:=choose_lt W;refine⟨An a,m,(List.range len).map u,Ba,⟨λi c=>?_⟩,λQ=>(by cases Q),?_⟩
 .have ad:i<len:=BO;obtain⟨ab,off,rfl,ae⟩:=Rk (by have:=(p 0 E).1;rwa[Re]at this);have ac:=p i E;grind [JA]
 grind [reachBytes]
theorem NB(h:(Lit.int Y z).wf=AP):-9223372036854775808<=z/\z<=9223372036854775807:=by grind [Lit.wf,IntKind.min,IntKind.max,IntKind.signed,IntKind.bits]
theorem pd{cs:AJ Aq}{x:AM H×AJ MemPlace}(h:DataW.trod enc As w 0 (λ_=>AP) AP fuel 40 cs=An x)(d:(x.1.weights As 40).all (·<=reachBytes)=AP):∃c:CF,cs=c.ai.toList/\Fa w c/\(∀x∈[c.a,c.c,c.d,c.f,c.out,c.b,c.bytes,c.key],-9223372036854775808<=x/\x<=9223372036854775807)/\c.e.size<=281474976710656:=by
 obtain⟨xs,af,_,rfl,q,ae,a⟩:=PP underlying40 h;rw[bE]at q
 match cs,q,xs,ae with
 |[v0,v1,v2,v3,v4,v5,v6,v7,v8,v9,v10],_,[y0,y1,y2,y3,y4,y5,y6,y7,y8,y9,y10],_ =>
  simp only[DataW.weights,underlying40,I7,Mv,DataW.weightsEach,SS,Fj]at d;have A:=Gi a 0 Z 0 Z Z IG Z Z;have F:=Gi a 1 Z 1 Z Z oX Z Z;have P:=Gi a 2 Z 2 Z Z IG Z Z;have Q:=Gi a 3 Z 3 Z Z Tg Z Z;have R:=Gi a 4 Z 4 Z Z IG Z Z;have S:=Gi a 5 Z 5 Z Z IG Z Z;have V:=Gi a 6 Z 6 Z Z IG Z Z;have W:=Gi a 7 Z 7 Z Z IG Z Z;have n:=Gi a 8 Z 8 Z Z IG Z Z;have g9:=Gi a 9 Z 9 Z Z IG Z Z;have N:=Gi a 10 Z 10 Z Z oY Z Z;obtain⟨z0,e,_,w0⟩:=J0 underlying3 A;obtain⟨z2,f,_,w2⟩:=J0 underlying3 P;obtain⟨b,g,x3,_⟩:=SQ underlying9 Q;obtain⟨z4,i,_,w4⟩:=J0 underlying3 R;obtain⟨z5,j,_,w5⟩:=J0 underlying3 S;obtain⟨z6,k,_,w6⟩:=J0 underlying3 V;obtain⟨z7,l,_,w7⟩:=J0 underlying3 W;obtain⟨z8,m,_,w8⟩:=J0 underlying3 n;obtain⟨z9,o,_,w9⟩:=J0 underlying3 g9;obtain⟨y,z,L,u,hE,ab,aa⟩:=pb (by simpa using F) d.2.1;obtain⟨s,t,B,v,hI,ad,ac⟩:=p9 (by simpa using N) d.2.2.2.2.2.2.2.2.2.2.1;have hp:b.size<=281474976710656:=by have p:=d.2.2.2.1;rw[show y3.1=.lit _ from congrArg _ x3]at p;have h4:=Dr (Hh.1 p (K b.data.toList)<|by grind [DataW.weights]);have h5:reachBytes=140737488351232:=rfl;have h6:K b.data.toList=b.size:=rfl;omega
  simp at e f g i j k l m o;subst e f g i j k l m o u v;refine⟨⟨z0,L,y,z,z2,b,z4,z5,z6,z7,z8,z9,B,s,t⟩,Z,⟨hE,hI,ab,ad,aa,ac⟩,λx r=>?_,hp⟩;simp at r;rcases r with rfl|rfl|rfl|rfl|rfl|rfl|rfl|rfl
  all_goals
   first
   |exact NB w0
   |exact NB w2
   |exact NB w4
   |exact NB w5
   |exact NB w6
   |exact NB w7
   |exact NB w8
   |exact NB w9
end
def bG:CF:=⟨0,[],Ao,0,0,ByteArray.empty,0,0,0,0,0,0,[],Ao,0⟩
def bH:FR:=⟨0,0,0,0,0,ByteArray.empty,Ao,0,0⟩
section
variable{H:Type} {enc:TypeId×Aq->H} {w:Ap}
def bI{d:AM H}:∀{l:AJ<|AM H},d∈l->∀x,x∈d.weights P e->x∈DataW.weightsAll P e l
 |[],h,_,_=>Bs
 |a::r,h,x,hx=>by
  simp only[DataW.weightsAll,Ra];rcases Iz.1 h with rfl|h
  .exact AF hx
  exact AG<|bI h x hx
theorem pe{x:AM H×AJ MemPlace}(h:DataW.trod enc As w 0 (λ_=>AP) AP fuel 22 [v]=An x)(p:(x.1.weights As 22).all (·<=reachBytes)=AP):∃(a:A4) (n e:I) (g:I->CF),v=G a n e/\OP w a n g/\n<=maxLen/\∀k,k<n -> -9223372036854775808<=(g k).key/\(g k).key<=9223372036854775807:=by
 rcases open_slice underlying22 h with⟨o,_⟩|⟨a,len,e,m,n,r,R,o,_,V,hm,B,rfl,q⟩
 .cases o;exact⟨Ao,0,0,λ_=>bG,Z,⟨λk d=>E,λk d=>E⟩,Ex _,λk d=>E⟩
 cases o;have A:m=e:=by rw[B];rfl
 subst A;rw[bE]at q;have F:∀i,i<len->((r i).weights As 40).all (·<=reachBytes)=AP:=λi l=>by rw[Hh]at p ⊢;intro y L;refine p y ?_;simp only[DataW.weights,underlying22,Iz,Ra];exact AG<|AF<|bI (Kw.2 ⟨i,Hi.2 l,Z⟩) y L
 have N:∀i,i<len->∃c:CF,(Fa w c /\ -9223372036854775808<=c.key/\c.key<=9223372036854775807)/\∀j,j<11->AC w ((a.add<|i*11).add j)=c.ai[j]?:=λi l=>by obtain⟨S,s,t⟩:=q i E;obtain⟨_,W,u⟩:=SP s;obtain⟨c,rfl,P,Q,_⟩:=pd t<|F i l;exact⟨c,⟨P,Q c.key Ba⟩,λj z=>Ca (u j z) Ba⟩
 have ih:Inhabited CF:=⟨bG⟩
 obtain⟨g,f⟩:=choose_lt N;refine⟨An a,len,m,g,Z,⟨λk d=>?_,λk d=>(f k d).1.1⟩,E,λk d=>(f k d).1.2⟩;obtain⟨b,off,rfl,aa⟩:=Rk (by have:=(f 0 E).2 0 E;rw[Re,add_add]at this;exact this);grind [JA]
end
def Tryz.gSignsT:(prog.globals[2]?).map (·.type)=An 326:=B6
def Tryz.x8:U8Extra As Tryz.lays196_ren:=⟨B6,B6,B6,B6,B6,B6,B6⟩
def bJ:prog.cellsOf 325=2:=B6
def pf:prog.cellsOf 252=1:=B6
def pg:prog.cellsOf 326=6:=B6
theorem WA{cs:AJ Aq}{b:A1}{k:J}{p:AJ MemPlace}(h:DataW.trod (λ_=>()) As W 0 sp held fuel 325 cs=An (.agg [.lit<|.string b,.lit<|.int Y k],p)):cs=[Ae ⟨Aw b⟩,C Y k]:=by obtain⟨l,n,_,s,c,i,a⟩:=PP underlying325 h;rw[bJ]at c;have j:K l=2:=i;obtain⟨f,g,rfl⟩:=Q0 c;obtain⟨m,o,rfl⟩:=Q0 j;have d:DataW.trod _ _ W 0 sp held n 9 (([f,g].drop 0).take<|prog.cellsOf 9)=An m:=a 0 _ Z;have e:DataW.trod _ _ W 0 sp held n 252 (([f,g].drop 1).take<|prog.cellsOf 252)=An o:=a 1 _ Z;rw[Tg]at d;rw[pf]at e;obtain⟨v,q,t⟩:=SQ underlying9 d;obtain⟨w,r,u⟩:=J0 underlying252 e;simp_all
theorem ph{H:Type}{enc:AN×Aq->H}{t:AN}{cs:AJ Aq}{x:AM H×AJ MemPlace}(a:P.underlying t=An (.array n e))(h:DataW.trod enc P w base sp held fuel t cs=An x):K cs=P.cellsOf t:=by
 obtain _|fuel:=fuel
 .simp[DataW.trod]at h
 simp only[DataW.trod,a]at h;grind
theorem pj{cs:AJ Aq}(hl:K cs=6){a0 a1 b0 b1 c0 c1:Aq}(a:(cs.drop<|0*2).take 2=[a0,a1])(b:(cs.drop<|1*2).take 2=[b0,b1])(c:(cs.drop<|2*2).take 2=[c0,c1]):cs=[a0,a1,b0,b1,c0,c1]:=by
 match cs,hl with
 |[x0,x1,x2,x3,x4,x5],_ =>
  simp_all
theorem bK(o:laidMetH As Rows.allRow.laid W)(q:W.ShapedOpen As):Hn W:=by
 have c:laidMet As Rows.allRow.laid W:=o;refine⟨?_,?_,Tryz.laysM145.s1_3 W q⟩
 .obtain⟨g,t,cs,k,p,f,y,a,u⟩:=laidMet.reads c (d:=Rows.laid_redact_policy_signs)<|.tail _<|.tail _<|.tail _<|.tail _<|.tail _<|.tail _<|.head _;obtain rfl:g=2:=Fl<|Ca f.symm B6;obtain rfl:=Fl<|Ca Tryz.gSignsT.symm y;have b:DataW.trod (λ_=>()) As W 0 (λ_=>AP) AQ k 326 cs.toList=An (.agg [.agg [.lit<|.string [42],.lit<|.int Y 0],.agg [.lit<|.string [42,42],.lit<|.int Y 1],.agg [.lit<|.string [91,93],.lit<|.int Y 2]],p):=u;obtain⟨F,z,q0,v,l⟩:=array_elem underlying326 b 0 E;obtain⟨f1,A,q1,w,m⟩:=array_elem underlying326 b 1 E;obtain⟨L,B,P,x,n⟩:=array_elem underlying326 b 2 E;cases v;cases w;cases x;have h:=WA l;have i:=WA m;have j:=WA n;rw[bJ]at h i j;have r:=Ca (ph underlying326 b) pg;have s:=pj r h i j;unfold World.var? at a;rw[f]at a;simp only[aA]at a;split at a
  .next cs' t fr hh =>
   cases a;refine⟨t,fr,?_⟩;rw[hh];have:cs=[Value.string ⟨[42].toArray⟩,C Y 0,Ae ⟨[42,42].toArray⟩,C Y 1,Ae ⟨[91,93].toArray⟩,C Y 2].toArray:=by rw[<-s]
   rw[this]
  cases a
 refine utf8Tabs_of_readsT (U8Types.of196 Tryz.lays196) Tryz.x8 ?_ ?_
 .rw[<-Pinned.utf8First_eq];exact laidMet.reads c<|.tail _<|.tail _<|.tail _<|.tail _<|.tail _<|.tail _<|.tail _<|.head _
 have e:(Rows.laid_unicode_utf8_acceptRanges:A2)=acceptData:=B6;have N:=laidMet.reads c (d:=Rows.laid_unicode_utf8_acceptRanges)<|.tail _<|.tail _<|.tail _<|.head _;grind
theorem Tryz.a2:ownKnob prog.godebug=Ao:=B6
def Tryz.ac:laidOutB As=AP:=B6
def MA:AH->A2->AJ Aq
 |0,_=>[]
 |_+1,.lit (.int k z)=>[.int k z]
 |_+1,.lit (.string b)=>[Ae ⟨Aw b⟩]
 |n+1,.agg ds=>ds.flatMap<|MA n
 |_+1,_=>[]
def NC(h:Array Obj)(g:AH)(cs:A3):Array Obj:=h.modify g fun
 |Aj _ t frozen=>Aj cs t frozen
 |o=>o
def WB(w0:Ap):Ap :=
 let h0:=NC w0.heap 7<|Aw<|MA 5 Rows.laid_math_bits_deBruijn32tab;let h1:=NC h0 8<|Aw<|MA 5 Rows.laid_math_bits_deBruijn64tab;let h2:=NC h1 6<|Aw<|MA 5 Rows.laid_internal_strconv_uint64pow10;let h3:=NC h2 5<|Aw<|MA 5 Rows.laid_unicode_utf8_acceptRanges;let h4:=NC h3 0<|Aw<|MA 5 Rows.laid_redact_reading_cborSorts;let h5:=NC h4 1<|Aw<|MA 5 Rows.laid_redact_reading_packHeads;let h6:=NC h5 2<|Aw<|MA 5 Rows.laid_redact_policy_signs;let h7:=NC h6 4 (Aw<|MA 5 Rows.laid_unicode_utf8_first)
 {w0 with heap:=h7}
def pu{os:Os}:laidMet As Rows.allRow.laid ((WB<|World.holding As os ⟨#[],#[],[]⟩).forCall (λ_ _=>0) ⟨#[],#[G Ao 0 0,G Ao 0 0],[]⟩).memory :=
 laidMet_of_run' 8 B6 B6
def pV:(prog.globals[0]?).map (·.type)=H 276:=B6
def pW:(prog.globals[1]?).map (·.type)=H 277:=B6
theorem bO:prog.cellsOf 273=1:=B6
def pX:prog.cellsOf 276=8:=B6
def bP:prog.cellsOf 275=3:=B6
theorem bQ:prog.cellsOf 270=1:=B6
def pY:(Rows.laid_redact_reading_cborSorts:A2)=tabData Y [4,6,7,8,9,10,0,0]:=B6
def pZ:(Rows.laid_redact_reading_packHeads:A2)=.agg (ND.map λx=>.agg [.lit<|.int Y x.1,.lit<|.int Y x.2,.lit<|.int .u64 0]):=B6
theorem q6{l:AJ Aq}(h:K l=3):∃a b c,l=[a,b,c]:=by
 match l,h with
 |[a,b,c],_=>grind
theorem q7{α:Type}{l:AJ α}(h:K l=3):∃a b c,l=[a,b,c]:=by
 match l,h with
 |[a,b,c],_=>grind
theorem q8{cs:AJ Aq}{x y:J}{p:AJ MemPlace}(h:DataW.trod (λ_=>()) As W 0 sp held fuel 275 cs=H (.agg [.lit<|.int Y x,.lit<|.int Y y,.lit<|.int .u64 z],p)):cs=[C Y x,C Y y,C .u64 z]:=by obtain⟨i,n,_,m,e,f,a⟩:=PP underlying275 h;rw[bP]at e;have g:K i=3:=f;obtain⟨b,c,d,rfl⟩:=q6 e;obtain⟨j,k,l,rfl⟩:=q7 g;have o:DataW.trod _ _ W 0 sp held n 273 (([b,c,d].drop 0).take<|prog.cellsOf 273)=H j:=a 0 _ Z;have q:DataW.trod _ _ W 0 sp held n 3 (([b,c,d].drop 1).take<|prog.cellsOf 3)=H k:=a 1 _ Z;have r:DataW.trod _ _ W 0 sp held n 270 (([b,c,d].drop 2).take<|prog.cellsOf 270)=H l:=a 2 _ Z;grind [bO,IG,bQ,DataW.trod_int,underlying273,underlying3,underlying270]
theorem q9{cs:AJ Aq}{u:I}{a b c:Aq}(h:(cs.drop<|u*3).take 3=[a,b,c]):cs[u*3]?=H a/\cs[u*3+1]?=H b/\cs[u*3+2]?=H c:=by have d:=congrArg (λl=>l[0]?) h;have e:=congrArg (λl=>l[1]?) h;have f:=congrArg (λl=>l[2]?) h;grind
theorem qb(f:laidMet As Rows.allRow.laid W):IJ W:=by
 refine⟨?_,?_⟩
 .obtain⟨g,t,cs,k,p,b,c,i,a⟩:=laidMet.reads f (d:=Rows.laid_redact_reading_cborSorts)<|.tail _<|.tail _<|.tail _<|.tail _<|.head _;obtain rfl:g=0:=Fl<|Ca b.symm B6;obtain rfl:=Fl<|Ca pV.symm c;rw[pY]at a;have n:=cells_of_tab underlying276 underlying273 bO pX a;intro u e;have m:=ZY b i u;rw[m,<-Oy,n];have:∀v:Fin 8,([4,6,7,8,9,10,0,0]:AJ J)[v.val]?=H ((G5 v.val:I):J):=B8;rw[L8,this ⟨u,e⟩];rfl
 obtain⟨g,t,cs,k,p,b,c,i,a⟩:=laidMet.reads f (d:=Rows.laid_redact_reading_packHeads)<|.tail _<|.tail _<|.tail _<|.tail _<|.tail _<|.head _;obtain rfl:g=1:=Fl<|Ca b.symm B6;obtain rfl:=Fl<|Ca pW.symm c;rw[pZ]at a;intro u e;obtain⟨s,r,q0,h,l⟩:=array_elem underlying277 a u e;have w:K ND=32:=rfl;rw[L8,D7 E]at h;cases h;have j:=q8 l;rw[bP]at j;obtain⟨o,q,c2⟩:=q9 j;grind [World.var?_cell]
def fB(pk:AK):FuncId:=bif pk then 115 else 114
def fH(pk:AK):FuncId:=bif pk then 161 else 155
def aH(pk:AK)(v:Aq)(a b s n:AI):A3:=bif pk then#[v,Ab Am a,Ab Am b,Ab .u64 n]else#[v,Ab Am s,Ab .u64 n]
def Ub(pk:AK)(W:Ap)(base:AH)(x:Aq)(ys:A1):Prop:=∀(V:Ap) (v:Aq) (bs:A1),Below base W V->Cn V base v bs->At bs+At ys<=999999999->Ar As (fB pk) #[v,x] V λe W'=>∃v',e=Ak v'/\Cn W' base v' (bs++ys)/\Below base V W'
def vM(W:Ap)(base:AH)(x:Aq)(ys:A1):Prop:=Ub AQ W base x ys
def vN(W:Ap)(base:AH)(x:Aq)(ys:A1):Prop:=Ub AP W base x ys
theorem gP(l:AK){T:A2->A1}(hF:∀k,F k->k<base){H:A1}(p:∀y,y=v->Ar As (fH l) (aH l y 144 220 4<|K ds) W λe f=>∃m,e=Ak m/\Cn f base m (bs++H)/\Below base W f)(hl:K bs+K (H++ds.flatMap T)<=999999999)(hn:K ds<=999999999)(a:DQ W 89 1 F u (K ds) xs)(ae:∀(i:I) (x:Aq) (d:A2),xs[i]?=An x->ds[i]?=An d->Ub l W base x (T d))(ad:∀(i:I) (x:Aq),xs[i]?=An x->∃ai y,x=Ai ai y)(h:Cn W base v bs):Ar As (fB l) #[v,Ai 221 u] W λe f=>∃m,e=Ak m/\Cn f base m (bs++(H++ds.flatMap T))/\Below base W f:=by
 obtain⟨ho,hb,z,ah,t,rfl⟩:=h;have p:=p (Ac z ah t) Z;obtain⟨q,b,rfl⟩:∃q b,u=Ac q (K ds) b:=by rcases a.2 with⟨e,e2⟩|⟨g,b,aa,e,_⟩<;>grind
 have HU:=C9 a;have HI:=C9 ae;have HL:=C9 hl;have HF:=C9 ad;have ap:=gE q (K ds) b;have aq:=gG q (K ds) b;have ar:=gH q (K ds) b;have au:=gI q (K ds) b;have av:=U6 q (K ds) b;cases l
 all_goals
  dsimp only[fB,fH,aH,cond]at p ⊢
  first|(go_enter func114,ntmps114)|(go_enter func115,ntmps115)
  go_wp2_with(first
   |((first|go_at_call 155|go_at_call 161);refine Ce p ?_;rintro e w2 ⟨v2,rfl,h2,ab⟩;obtain⟨o2,b2,a2,n2,c2,rfl⟩:=h2;have al:D<|Cn w2 base (Ac a2 n2 c2)<|bs++H:=⟨o2,b2,_,_,_,Z⟩;have ak:=C9 ab))
  go_loopg[0,64,11] (K ds) (λg y aj x wr=>∃(k:I) (s:A4) (B w:I),y=Ac s B w/\aj=C Y k/\D (k+g=K ds)/\D (Cn wr base (Ac s B w)<|(bs++H)++(ds.take k).flatMap T)/\D (Below base W wr))
  grind;obtain⟨k,s,B,w,rfl,rfl,V,L,o⟩:=hrel;obtain _|g:=gk
  .have ag:¬(k:J)<K ds:=AY<|AE V;have N:D<|ds.take k=ds:=by grind [D]
   go_wp2;go_ret;have S:=AE L;rw[AE N,L9]at S;exact⟨_,Z,S,o⟩
  have af:k<K ds:=AY<|AE V;have ag:(k:J)<K ds:=E;have r:=HU.same (V':=wr) (G:=F) (λ_ h=>h) λj hj=>Co o j<|hF j hj;obtain⟨q0,rfl⟩:∃q0,q=Aa q0:=by rcases r.2 with⟨_,e⟩|⟨g,an,aa,e,_⟩<;>grind
  have ao:K xs=K ds:=AY r.1;obtain⟨x,A⟩:∃x,xs[k]?=An x:=⟨xs[k],D7 E⟩
  obtain⟨d,hd⟩:∃d,ds[k]?=An d:=⟨ds[k],D7 af⟩
  obtain⟨tx,yx,rfl⟩:=HF.out k x A;have hc:A6 wr q0 k<|Ai tx yx:=by have:=r.cell k _ A;grind [Addr.add]
  have N:D<|(ds.take<|k+1).flatMap T=(ds.take k).flatMap T++T d:=BV;have HB:D<|K ((bs++H)++(ds.take k).flatMap T)+K (T d)<=999999999:=by grind [D,List.take_append_drop]
  have R:=HI.out k _ d A hd wr _ _ o L HB;dsimp only[fB,cond]at R
  go_wp2_with(first
   |((first|go_at_call 114|go_at_call 115);refine Ce R ?_;rintro e w4 ⟨v4,rfl,h4,ac⟩;obtain⟨o4,b4,P,c,Q,rfl⟩:=h4;have am:D<|Cn w4 base (Ac P c Q)<|((bs++H)++(ds.take k).flatMap T)++T d:=⟨o4,b4,_,_,_,Z⟩;have n:=C9<|Cs o ac))
  go_roundg g;exact⟨k+1,P,c,Q,Z,Bb,B9,by grind [D],n⟩;omega
def F7:AH->A2->AK
 |0,_=>AQ
 |k+1,d=>match d with
  |.ptr (.lit<|.string _)=>AP
  |.agg ds=>ds.any<|F7 k
  |.map es=>es.any λe=>F7 k e.2
  |_=>AQ
def vO(b:AK):∀w:X,(Instr.typeAssert (Ai 279<|Ah b) 89 219 AP).run As w=.ok (Af #[G Ao 0 0,Ah AQ]) w:=λw=>B6
def gQ{b:AK}:∀w:X,(Instr.typeAssert (Ai 279<|Ah b) 89 221 AP).run As w=.ok (Af #[G Ao 0 0,Ah AQ]) w:=λw=>B6
def gR{b:AK}:∀w:X,(Instr.typeAssert (Ai 279<|Ah b) 89 223 AP).run As w=.ok (Af #[G Ao 0 0,Ah AQ]) w:=λw=>B6
def vP(z:J):∀w:X,(Instr.typeAssert (Ai 281<|C Y z) 89 219 AP).run As w=.ok (Af #[G Ao 0 0,Ah AQ]) w:=λw=>B6
def gS:∀w:X,(Instr.typeAssert (Ai 281<|C Y z) 89 221 AP).run As w=.ok (Af #[G Ao 0 0,Ah AQ]) w:=λw=>B6
def gT:∀w:X,(Instr.typeAssert (Ai 281<|C Y z) 89 223 AP).run As w=.ok (Af #[G Ao 0 0,Ah AQ]) w:=λw=>B6
def vQ(s:AT):∀w:X,(Instr.typeAssert (Ai 283<|.string s) 89 219 AP).run As w=.ok (Af #[G Ao 0 0,Ah AQ]) w:=λw=>B6
def gU:∀w:X,(Instr.typeAssert (Ai 283<|.string s) 89 221 AP).run As w=.ok (Af #[G Ao 0 0,Ah AQ]) w:=λw=>B6
def gV:∀w:X,(Instr.typeAssert (Ai 283<|.string s) 89 223 AP).run As w=.ok (Af #[G Ao 0 0,Ah AQ]) w:=λw=>B6
def vR:Ar As 81 #[Ai 268<|Ag #[]] W λe a=>e=Ak (Ah AQ)/\A0 W a:=by have b:=XS;have c:=RZ;have d:=S0;go_enter func81,ntmps81;go_wp2;go_ret;exact⟨Z,Cu _ _⟩
def vS{b:AK}:Ar As 81 #[Ai 279<|Ah b] W λe a=>e=Ak (Ah AQ)/\A0 W a:=by have c:=vO b;have d:=gQ (b:=b);have f:=gR (b:=b);go_enter func81,ntmps81;go_wp2;go_ret;exact⟨Z,Cu _ _⟩
def vT:Ar As 81 #[Ai 281<|C Y z] W λe a=>e=Ak (Ah AQ)/\A0 W a:=by have b:=vP z;have c:=gS (z:=z);have d:=gT (z:=z);go_enter func81,ntmps81;go_wp2;go_ret;exact⟨Z,Cu _ _⟩
def vU:Ar As 81 #[Ai 283<|.string s] W λe a=>e=Ak (Ah AQ)/\A0 W a:=by have b:=vQ s;have c:=gU (s:=s);have d:=gV (s:=s);go_enter func81,ntmps81;go_wp2;go_ret;exact⟨Z,Cu _ _⟩
def gW:Ar As 81 #[Ai 219<|G a n c] W λe b=>e=Ak (Ah AP)/\A0 W b:=by have d:=S4 a n c;go_enter func81,ntmps81;go_wp2;go_ret;exact⟨Z,Cu _ _⟩
theorem gX{α:Type}(T:α->AK){l:AJ α}{d:α}(a:l[k]?=H d):(l.take<|k+1).any T=((l.take k).any T||T d):=BV
def Uc{α:Type}(T:α->AK){l:AJ α}{d:α}(a:l[k]?=H d)(h:T d=AP):l.any T=AP:=ay.2 ⟨d,VK a,h⟩
def XX(W:Ap)(x:Aq)(r:AK):Prop:=∀V,A0 W V->Ar As 81 #[x] V λe W'=>e=Ak (Ah r)/\A0 V W'
def Ud{A:X}(a:A0 A V)(b:A0 V W'):A0 A W':=Cs a<|CG b a.size
theorem vV(T:A2->AK)(hF:∀k,F k->k<O (U W))(w:DQ W 89 1 F u (K ds) xs)(V:∀(i:I) (x:Aq) (d:A2),xs[i]?=H x->ds[i]?=H d->XX W x (T d))(S:∀(i:I) (x:Aq),xs[i]?=H x->∃z aa,x=Ai z aa):Ar As 81 #[Ai 221 u] W λe Q=>e=Ak (Ah<|ds.any T)/\A0 W Q:=by
 obtain⟨q,b,rfl,hn⟩:∃q b,u=Ac q (K ds) b/\K ds<=maxLen:=by rcases w.2 with⟨e,e2⟩|⟨g,b,R,e,_,_,e4,e5,_⟩<;>grind
 unfold maxLen at hn;have P:=C9 w;have B:=C9 V;have A:=C9 S;obtain⟨r,L⟩:=CC<|ds.any T;rw[AE L];have ae:=gI q (K ds) b;have af:=U6 q (K ds) b;go_enter func81,ntmps81;go_wp2
 go_loopg[19,6] (K ds) (λg ab x wr=>∃(k:I),ab=C Y k/\D (k+g=K ds)/\D ((ds.take k).any T=AQ)/\D (A0 W wr))
 grind [Below.refl];obtain⟨k,rfl,v,HA,a⟩:=hrel;obtain _|g:=gk
 .have y:¬(k:J)<K ds:=AY<|AE v;have N:D<|r=AQ:=by grind [D]
  go_wp2;go_ret;rw[AE N];exact⟨Z,a⟩
 have t:k<K ds:=AY<|AE v;have y:(k:J)<K ds:=E;have l:=P.same (V':=wr) (G:=F) (λ_ h=>h) λj hj=>Co a j<|hF j hj;obtain⟨q0,rfl⟩:∃q0,q=Aa q0:=by rcases l.2 with⟨_,e⟩|⟨g,ac,R,e,_⟩<;>grind
 have ad:K xs=K ds:=AY l.1;obtain⟨x,p⟩:∃x,xs[k]?=H x:=⟨xs[k],D7 E⟩
 obtain⟨d,o⟩:∃d,ds[k]?=H d:=⟨ds[k],D7 t⟩
 obtain⟨tx,yx,rfl⟩:=A.out k x p;have hc:A6 wr q0 k<|Ai tx yx:=by have:=l.cell k _ p;grind [Addr.add]
 have c:=B.out k _ d p o wr a;have HN:=C9<|gX T o;have HY:=C9<|Uc T o;cases n:T d
 .rw[n]at c;have s:=C9 n
  go_wp2_with(first
   |(go_at_call 81;refine Ce c ?_;rintro e w4 ⟨rfl,m⟩;have f:=C9<|Ud a m))
  go_roundg g;exact⟨k+1,Bb,B9,B9,f⟩;omega
 rw[n]at c;have s:D<|r=AP:=B9
 go_wp2_with(first
  |(go_at_call 81;refine Ce c ?_;rintro e w4 ⟨rfl,m⟩;have f:=C9<|Ud a m))
 go_ret;rw[AE s];exact⟨Z,f⟩
theorem vW(T:A2->AK)(hF:∀k,F k->k<O (U W)){ds:AJ<|Lit×AM Unit}(A:DQ W 225 2 F u (K ds) xs)(z:∀(i:I) (key:Lit) (d:A2),ds[i]?=H (key,d)->∃l t y,key=.string l/\xs[2*i]?=H (Ae ⟨Aw l⟩)/\xs[2*i+1]?=H (Ai t y)/\XX W (Ai t y) (T d)):Ar As 81 #[Ai 223 u] W λe S=>e=Ak (Ah<|ds.any λe=>T e.2)/\A0 W S:=by
 obtain⟨q,a,rfl,hn⟩:∃q a,u=G q (K ds) a/\K ds<=maxLen:=by rcases A.2 with⟨e,e2⟩|⟨g,a,V,e,_,_,e4,e5,_⟩<;>grind
 unfold maxLen at hn;have R:=C9 A;have N:=C9 z;obtain⟨r,P⟩:∃r,D<|(ds.any λe=>T e.2)=r:=⟨_,show _=_ from rfl⟩
 rw[AE P];have ai:=gM q (K ds) a;have aj:=U7 q (K ds) a;have ak:=U9 q (K ds) a;go_enter func81,ntmps81;go_wp2
 go_loopg[31,9] (K ds) (λg ae al wr=>∃(k:I),ae=C Y k/\D (k+g=K ds)/\D ((ds.take k).any (λe=>T e.2)=AQ)/\D (A0 W wr))
 grind [Below.refl];obtain⟨k,rfl,w,HA,b⟩:=hrel;obtain _|g:=gk
 .have ab:¬(k:J)<K ds:=AY<|AE w;have Q:D<|r=AQ:=by grind [D]
  go_wp2;go_ret;rw[AE Q];exact⟨Z,b⟩
 have aa:k<K ds:=AY<|AE w;have ab:(k:J)<K ds:=E;have m:=R.same (λ_ h=>h) λj hj=>Co b j<|hF j hj;obtain⟨q0,rfl⟩:∃q0,q=Aa q0:=by rcases m.2 with⟨_,e⟩|⟨g,af,V,e,_⟩<;>grind
 obtain⟨⟨key,d⟩,s⟩:∃d,ds[k]?=H d:=⟨_,D7 aa⟩
 obtain⟨l,B,L,rfl,ac,ad,x⟩:=N.out k key d s;have ag:A6 wr q0 (k*2)<|Ae ⟨Aw l⟩:=by have:=m.cell _ _ ac;grind [Addr.add]
 have ah:A6 wr q0 (k*2+1)<|Ai B L:=by have:=m.cell _ _ ad;grind [Addr.add]
 have n:D<|Below _ W<|Az wr<|M #[Ae ⟨Aw l⟩,Ai B L] 225:=b.alloc b.size _;have c:=x _ n;have HN:=C9<|gX (λe:Lit×AM Unit=>T e.2) s;have HY:=C9<|Uc (λe:Lit×AM Unit=>T e.2) s;cases p:T d
 .rw[p]at c;have v:=C9 p
  go_wp2_with(first
   |(go_at_call 81;apply c.mono;rintro e w4 ⟨rfl,o⟩;have f:=C9<|Ud n o))
  go_roundg g;exact⟨_,Bb,B9,B9,f⟩;omega
 rw[p]at c;have v:D<|r=AP:=B9
 go_wp2_with(first
  |(go_at_call 81;apply c.mono;rintro e w4 ⟨rfl,o⟩;have f:=C9<|Ud n o))
 go_ret;rw[AE v];exact⟨Z,f⟩
theorem CA.iface:∀{k:I} {v:Aq} {d:A2},CA k V F v d->∃t y,v=Ai t y
 |0,_,_,h=>h.elim
 |k+1,v,d,h=>by unfold CA at h;grind
theorem XY:∀(k:I) (W:X) (F:I->Prop) (v:Aq) (d:A2),(∀j,F j->j<O (U W))->CA k W F v d ->
  Ar As 81 #[v] W λe q=>e=Ak (Ah<|F7 k d)/\A0 W q
 |0,_,_,_,_,_,h=>h.elim
 |k+1,W,F,v,d,hF,h=>by
  have w:∀x n,CA k W F x n->XX W x _:=λx n m V p =>
   XY k V F x n (λj o=>CQ (hF j o) p.size)<|m.same (λ_ h=>h) λj o=>Co p j<|hF j o
  unfold CA at h;split at h
  .subst h;exact vR
  .subst h;exact vS
  .obtain⟨rfl,_⟩:=h;exact vT
  .subst h;exact vU
  .obtain⟨u,rfl,a⟩:=h;rcases a.2 with⟨rfl,_⟩|⟨g,A,B,rfl,_⟩
   .exact gW
   exact gW
  .obtain⟨u,z,rfl,a,f⟩:=h;refine vV _ hF a (λi x d b c=>w x d<|f i x d b c) λi x m=>?_;have s:=D7 (show i<_ from by have b:=Dk m;have c:=a.1;rw[T0]at c;rwa[c]at b);exact(f i x _ m s).iface
  .obtain⟨u,z,rfl,a,f⟩:=h;refine vW _ hF a λi key d b=>?_;obtain⟨l,x,L,N,P,r⟩:=f i key d b;obtain⟨t,y,rfl⟩:=r.iface;grind
  exact h.elim
def D9:Lit->A1
 |.string l=>l
 |_=>[]
theorem vX(h:Cn W base v bs):Ax v≠H (O<|U W):=by obtain⟨a,_,_⟩:=h;rcases a.2 with⟨rfl,_⟩|⟨g,b,c,rfl,_,d,_⟩<;>grind [Value.ownBlock]
def vY(h:Cn W base v bs)(o:Obj):Ow (·=O (U W)) (Az W o) base v bs:=⟨⟨h.1.alloc _,B0 h.2.1,h.2.2⟩,λe a=>⟨a▸vX h,by subst a;simp⟩⟩
def fT(pk:AK):FuncId:=bif pk then 159 else 156
theorem gY(p:AK){T:A2->A1}{KT:A1->A1}(av:∀l,K l<=K (KT l))(hF:∀k,F k->k<base){H:A1}(w:∀y,y=v->Ar As (fH p) (aH p y 128 222 5<|K es) W λe m=>∃o,e=Ak o/\Cn m base o (bs++H)/\Below base W m)(A:∀(V:X) (P:I->Prop) (y:Aq) (bs l:A1),K bs<=999999999->K l<=999999999->Ow P V base y bs->Ar As (fT p) #[y,Ae ⟨Aw l⟩] V λe m=>∃o,e=Ak o/\Cn m base o (bs++KT l)/\Be P base V m)(hl:K bs+K (H++es.flatMap λe:Lit×AM Unit=>KT (D9 e.1)++T e.2)<=999999999)(hn:K es<=999999999)(hu:DQ W 225 2 F u (K es) xs)(ai:∀(i:I) (key:Lit) (d:A2),es[i]?=An (key,d)->∃l aa y,key=.string l/\xs[2*i]?=An (Ae ⟨Aw l⟩)/\xs[2*i+1]?=An (Ai aa y)/\Ub p W base (Ai aa y) (T d))(h:Cn W base v bs):Ar As (fB p) #[v,Ai 223 u] W λe m=>∃o,e=Ak o/\Cn m base o (bs++(H++es.flatMap λe:Lit×AM Unit=>KT (D9 e.1)++T e.2))/\Below base W m:=by
 have az:K bs<=999999999:=E;obtain⟨ad,an,ae,rfl⟩:=h.2.2;have w:=w (Ac ad an ae) Z;obtain⟨q,b,rfl⟩:∃q b,u=Ac q (K es) b:=by rcases hu.2 with⟨e,e2⟩|⟨g,b,af,e,_⟩<;>grind
 have HU:=C9 hu;have HI:=C9 ai;obtain⟨f,HK⟩:∃f:Lit×AM Unit->A1,D<|f=(λe:Lit×AM Unit=>KT (D9 e.1)++T e.2):=⟨_,show _=_ from rfl⟩
 rw[<-AE HK]at hl ⊢;have HL:=C9 hl;have a0:=gJ q (K es) b;have a1:=gK q (K es) b;have a6:=gL q (K es) b;have a7:=gM q (K es) b;have a8:=U7 q (K es) b;have a9:=U9 q (K es) b;cases p
 all_goals
  dsimp only[fB,fH,fT,aH,cond]at w A ⊢
  first|(go_enter func114,ntmps114)|(go_enter func115,ntmps115)
  go_wp2_with(first
   |((first|go_at_call 155|go_at_call 161);refine Ce w ?_;rintro e w2 ⟨v2,rfl,h2,ag⟩;obtain⟨o2,b2,a2,n2,c2,rfl⟩:=h2;have aq:D<|Cn w2 base (Ac a2 n2 c2)<|bs++H:=⟨o2,b2,_,_,_,Z⟩;have ap:=C9 ag))
  go_loopg[0,83,14] (K es) (λg y ao ba wr=>∃(k:I) (Q:A4) (S R:I),y=Ac Q S R/\ao=C Y k/\D (k+g=K es)/\D (Cn wr base (Ac Q S R)<|(bs++H)++(es.take k).flatMap f)/\D (Below base W wr))
  grind;obtain⟨k,Q,S,R,rfl,rfl,hk,L,B⟩:=hrel;obtain _|g:=gk
  .have ak:¬(k:J)<K es:=AY<|AE hk;have a:D<|es.take k=es:=by grind [D]
   go_wp2;go_ret;have h3:=AE L;rw[AE a,L9]at h3;exact⟨_,Z,h3,B⟩
  have aj:k<K es:=AY<|AE hk;have ak:(k:J)<K es:=E;have N:=HU.same (V':=wr) (G:=F) (λ_ h=>h) λt hj=>Co B t<|hF t hj;obtain⟨q0,rfl⟩:∃q0,q=Aa q0:=by rcases N.2 with⟨_,e⟩|⟨g,au,af,e,_⟩<;>grind
  obtain⟨⟨key,d⟩,hd⟩:∃d,es[k]?=An d:=⟨es[k],D7 aj⟩
  obtain⟨l,r,s,rfl,al,am,hI⟩:=HI.out k key d hd;have aw:A6 wr q0 (k*2)<|Ae ⟨Aw l⟩:=by have:=N.cell (2*k) _ al;grind [Addr.add]
  have ax:A6 wr q0 (k*2+1)<|Ai r s:=by have:=N.cell (2*k+1) _ am;grind [Addr.add]
  have a:D<|(es.take<|k+1).flatMap f=(es.take k).flatMap f++(KT l++T d):=by grind [D,List.take_add_one,D9]
  have HB:D<|K ((bs++H)++(es.take k).flatMap f)+K (KT l++T d)<=999999999:=by grind [D,List.take_append_drop]
  have HV:D<|Below base W<|Az wr<|M #[Ae ⟨Aw l⟩,Ai r s] 225:=Cs B<|(Cu base wr).alloc L.2.1 _;have A:=A _ _ _ _ l (AY<|AE HB) (by grind [D])<|vY L<|M #[Ae ⟨Aw l⟩,Ai r s] 225;have HX:D<|(Az wr<|M #[Ae ⟨Aw l⟩,Ai r s] 225).heap[O<|U wr]?=An (M #[Ae ⟨Aw l⟩,Ai r s] 225):=Cj _;have HJ:=C9 hI
  go_wp2_with(first
   |((first|go_at_call 156|go_at_call 159);refine Ce A ?_;rintro e w4 ⟨v4,rfl,h4,j⟩;obtain⟨o4,b4,a4,n4,c4,rfl⟩:=h4;have ac:D<|Cn w4 base (Ac a4 n4 c4)<|((bs++H)++(es.take k).flatMap f)++KT l:=⟨o4,b4,_,_,_,Z⟩;have x:=C9<|Cs HV j.1;have ay:=Cc (Ca (j.2 _ Z) HX) 1)
   |((first|go_at_call 114|go_at_call 115);have z:=HJ.out w4 _ _ x ac (by grind [D]);dsimp only[fB,cond]at z;refine Ce z ?_;rintro e w5 ⟨v5,rfl,h5,ah⟩;obtain⟨o5,b5,c,n5,n,rfl⟩:=h5;have ar:D<|Cn w5 base (Ac c n5 n)<|(((bs++H)++(es.take k).flatMap f)++KT l)++T d:=⟨o5,b5,_,_,_,Z⟩;have ab:=C9<|Cs x ah))
  go_roundg g;exact⟨k+1,c,n5,n,Z,Bb,B9,by grind [D],ab⟩;omega
def Ma(hB hL hM hT:AH->A1)(nt:AK->A1)(no:A1)(nm:AI->A1):AH->A2->A1
 |0,_=>[]
 |k+1,d=>match d with
  |.nil=>no
  |.lit (.bool b)=>nt b
  |.lit (.int Al z)=>nm z
  |.lit (.string l)=>hT (At l)++l
  |.ptr (.lit<|.string l)=>hB (At l)++l
  |.agg ds=>hL (At ds)++ds.flatMap (Ma hB hL hM hT nt no nm k)
  |.map es=>hM (At es)++es.flatMap λe=>(hT (At<|D9 e.1)++D9 e.1)++Ma hB hL hM hT nt no nm k e.2
  |_=>[]
def i6(b:AK):A1:=bif b then Dd 7 21 else Dd 7 20
def i7(b:AK):A1:=bif b then[195]else[194]
def Du:AH->A2->A1:=Ma (Dd 2) (Dd 4) (Dd 5) (Dd 3) i6 (Dd 7 22) Km
def Io:AH->A2->A1:=Ma Gq KK KL EP i7 [192] Kl
theorem O5{α:Type}(f:α->A1):∀(l:AJ α),(∀a,a∈l->1<=K (f a))->K l<=K (l.flatMap f)
 |[],_=>Ex _
 |a::l,h=>by have d:=h a<|Mm ..;have e:=O5 f l λb c=>h b<|LL _ c;grind
theorem MS(s x:I):1<=K (Dd s x):=by grind [Dd]
theorem wa(z:J):1<=K (Km z):=by grind [Km,MS]
theorem i9(x:I):1<=K (EP x):=by grind [EP]
theorem wb(x:I):1<=K (Gq x):=by grind [Gq]
theorem we(x:I):1<=K (KK x):=by grind [KK]
theorem wg(x:I):1<=K (KL x):=by grind [KL]
theorem wk(z:J):1<=K (Kl z):=by grind [Kl,Hx,GY]
theorem ib{hB hL hM hT:I->A1}{nt:AK->A1}{no:A1}{nm:J->A1}(a:∀x,1<=K (hB x))(c:∀x,1<=K (hL x))(e:∀x,1<=K (hM x))(f:∀x,1<=K (hT x))(j:∀b,1<=K (nt b))(i:1<=K no)(g:∀z,1<=K (nm z)):∀{k:I} {v:Aq} {d:A2},CA k V F v d->1<=K (Ma hB hL hM hT nt no nm k d)
 |0,_,_,h=>h.elim
 |k+1,v,d,h=>by unfold CA at h;grind [Ma]
theorem wl(h:CA k V F v d):1<=K (Du k d):=ib (MS 2) (MS 4) (MS 5) (MS 3) (λb=>by cases b;exact MS 7 20;exact MS 7 21) (MS _ _) wa h
theorem ie:∀(k:I) (W:X) (p:I) (F:I->Prop) (x:Aq) (d:A2),(∀j,F j->j<p)->CA k W F x d->vM W p x (Du k d)
 |0,_,_,_,_,_,_,h=>h.elim
 |k+1,W0,p,F,x,d,hF,h0=>by
  intro W ad w v f B;have h:=h0.same (λ_ h=>h) λj hj=>Co v j<|hF j hj;have g:K w<=999999999:=E;have N:=λy a o=>ie k W p F y a hF o;unfold CA at h;split at h
  .subst h;exact vF g f
  .rename_i b;subst h;cases b
   .exact vH g f
   exact vG g f
  .obtain⟨rfl,c,m⟩:=h;exact vA c m g f
  .rename_i l;subst h;have e:K (Du (k+1)<|.lit<|.string l)=_:=Dj;exact vI l g E f
  .rename_i l;obtain⟨u,rfl,n⟩:=h;have e:K (Du (k+1)<|.ptr<|.lit<|.string l)=_:=Dj;exact vK hF g E n f
  .rename_i ds;obtain⟨u,s,rfl,n,q⟩:=h;have ac:K s=K ds:=AY n.1;have at_:∀i,i<K ds->∃x a,s[i]?=H x/\ds[i]?=H a/\CA k W F x a:=λi A =>
    ⟨_,_,D7 E,D7 A,q i _ _ (D7 E)<|D7 A⟩
   have V:=O5 (Du k) ds λa P=>by grind [List.getElem_of_mem,wl]
   have e:K (Du (k+1)<|.agg ds)=_+K (ds.flatMap<|Du k):=Dj;exact gP AQ hF (λy o=>o▸NT 4 (K ds) B8 E g f) B E n (λi x a c m=>N x a<|q i x a c m) (λi x L=>By) f
  .rename_i es;obtain⟨u,s,rfl,n,q⟩:=h;have V:=O5 (λe:Lit×AM Unit=>(Dd 3 (K<|D9 e.1)++D9 e.1)++Du k e.2) es λa P=>by grind [MS]
   have e:K (Du (k+1)<|.map es)=_+K (es.flatMap λe:Lit×AM Unit=>(Dd 3 (K<|D9 e.1)++D9 e.1)++Du k e.2):=Dj;exact gY AQ (KT:=(λl=>Dd 3 (K l)++l)) Ba hF (λy o=>o▸NT 5 (K es) B8 E g f) (λab aa y w l c m r=>eG c m r) B E n (λi key a c=>BD) f
  exact h.elim
theorem wm(h:CA k V F v d):1<=K (Io k d):=ib wb we wg i9 (λb=>by cases b<;>exact Cr _) (Cr _) wk h
theorem ig:∀(k:I) (W:X) (p:I) (F:I->Prop) (x:Aq) (d:A2),(∀j,F j->j<p)->CA k W F x d->vN W p x (Io k d)
 |0,_,_,_,_,_,_,h=>h.elim
 |k+1,W0,p,F,x,d,hF,h0=>by
  intro W ad w v f B;have h:=h0.same (λ_ h=>h) λj hj=>Co v j<|hF j hj;have g:K w<=999999999:=E;have N:=λy a o=>ig k W p F y a hF o;unfold CA at h;split at h
  .subst h;exact vB g f
  .rename_i b;subst h;cases b
   .exact vD g f
   exact vC g f
  .obtain⟨rfl,c,m⟩:=h;exact vz c m g f
  .rename_i l;subst h;have e:K (Io (k+1)<|.lit<|.string l)=_:=Dj;exact vE l g E f
  .rename_i l;obtain⟨u,rfl,n⟩:=h;have e:K (Io (k+1)<|.ptr<|.lit<|.string l)=_:=Dj;exact vL hF g E n f
  .rename_i ds;obtain⟨u,s,rfl,n,q⟩:=h;have ac:K s=K ds:=AY n.1;have at_:∀i,i<K ds->∃x a,s[i]?=H x/\ds[i]?=H a/\CA k W F x a:=λi A =>
    ⟨_,_,D7 E,D7 A,q i _ _ (D7 E)<|D7 A⟩
   have V:=O5 (Io k) ds λa P=>by grind [List.getElem_of_mem,wm]
   have e:K (Io (k+1)<|.agg ds)=_+K (ds.flatMap<|Io k):=Dj;exact gP AP hF (λy o=>o▸t8 (K ds) E g f) B E n (λi x a c m=>N x a<|q i x a c m) (λi x L=>By) f
  .rename_i es;obtain⟨u,s,rfl,n,q⟩:=h;have V:=O5 (λe:Lit×AM Unit=>(EP (K<|D9 e.1)++D9 e.1)++Io k e.2) es λa P=>by grind [i9]
   have e:K (Io (k+1)<|.map es)=_+K (es.flatMap λe:Lit×AM Unit=>(EP (K<|D9 e.1)++D9 e.1)++Io k e.2):=Dj;exact gY AP (KT:=(λl=>EP (K l)++l)) Ba hF (λy o=>o▸t9 (K es) E g f) (λab aa y w l c m r=>eH c m r) B E n (λi key a c=>BD) f
  exact h.elim
structure EQ(W:Ap)(A:A3)(V:Ap):Prop where
 h:V.heap[Au (Av W)]?=An (Aj A 101)
 ac:A0 W V
theorem EQ.next(h:EQ W A V)(hb:A0 V V'):EQ W A V' :=
 ⟨Ca (Co hb _<|Cd h.h) h.h,Cs h.ac<|CG hb h.ac.size⟩
theorem EQ.drew(h:EQ W A V):EQ W A V.drew:=⟨h.h,h.ac.drew⟩
def Kn:EQ W A<|Az W<|M A 101:=⟨Cj _,Cm⟩
theorem MT(h:DQ V 101 5 F u n xs):n<=9223372036854775807/\∃a c,u=G a n c/\∀(i:I) (A:A3),i<n->Ht xs i A->∃g,a=Aa g/\F g/\∀b:X,b.heap[g]?=V.heap[g]?->∀j,j<5->AC b ⟨g,i*5+j,Ao⟩=A[j]?:=by
 obtain⟨r,e⟩:=h;rcases e with⟨rfl,rfl⟩|⟨g,c,q,rfl,hF,o,f,k,s,l⟩
 .grind
 refine⟨CE f<|CE k B8,_,_,Z,λi A t d=>⟨g,Z,hF,λb m j p=>?_⟩⟩;rw[Cc<|Ca m o];unfold Ht at d;rw[<-Oy,<-Oy,<-d,R5 p,ag,<-l,R5 E,Wg]
theorem Y1(h:DQ V 9 1 F u (K es)<|es.map NP):∃a c,u=G a (K es) c/\∀(i:I) (l:A1) (d:A2),es[i]?=H (.string l,d)->∃g,a=Aa g/\F g/\∀b:X,b.heap[g]?=V.heap[g]?->AC b ⟨g,i,Ao⟩=H (Ae ⟨Aw l⟩):=by
 obtain⟨p,j⟩:=h;rcases j with⟨rfl,o⟩|⟨g,c,f,rfl,hF,n,q,r,s,k⟩
 .simp_all
 refine⟨_,_,Z,λi l d e=>⟨g,Z,hF,λb m=>?_⟩⟩;have v:=Dk e;rw[Cc<|Ca m n,<-Oy];have t:(f.toList.take<|K es*1)[i]?=H (Ae ⟨Aw l⟩):=by rw[k,L8,e];rfl
 grind
theorem S7{α:Type}(f:α->A1){l:AJ α}{d:α}(h:l[i]?=H d):(l.take<|i+1).flatMap f=(l.take i).flatMap f++f d:=BV
theorem Ug{α:Type}(f:α->A1)(l:AJ α)(i:I):K ((l.take i).flatMap f)<=K (l.flatMap f):=by grind [List.take_append_drop]
def Eg(l:A1)(W:Ap)(e:Ending)(W':Ap):Prop:=e=Ak (CX l)/\A0 W W'
theorem ii(hF:∀j,F j->j<O (U W))(h:CA k W F x d)(hl:K (Du k d)<=999999999):Ar As 82 #[C Y 2,x] W λe a=>∃b,e=Ak b/\Cn a (O<|U W) b (Du k d)/\A0 W a:=by
 have c:=ie k W (O<|U W) F x d hF h W _ [] CT (S8) keL;obtain⟨t,y,rfl⟩:=h.iface;go_enter func82,ntmps82
 go_wp2_with(first
  |(go_at_call 114;refine Ce c ?_;rintro e q ⟨p,rfl,f,l⟩;obtain⟨g,i,m,o,n,rfl⟩:=f))
 go_ret;exact⟨_,Z,⟨g,i,_,_,_,Z⟩,l⟩
theorem wn(hF:∀j,F j->j<O (U W))(h:CA k W F x d)(hl:K (Io k d)<=999999999):Ar As 82 #[C Y 3,x] W λe a=>∃b,e=Ak b/\Cn a (O<|U W) b (Io k d)/\A0 W a:=by
 have c:=ig k W (O<|U W) F x d hF h W _ [] CT (S8) keL;obtain⟨t,y,rfl⟩:=h.iface;go_enter func82,ntmps82
 go_wp2_with(first
  |(go_at_call 115;refine Ce c ?_;rintro e q ⟨p,rfl,f,l⟩;obtain⟨g,i,m,o,n,rfl⟩:=f))
 go_ret;exact⟨_,Z,⟨g,i,_,_,_,Z⟩,l⟩
theorem wo(hl:K bs<=999999999)(h:Cn W base v bs):Ar As 184 #[v,Ah AP] W λe f=>∃d,e=Ak d/\Cn f base d (bs++[116,114,117,101])/\Below base W f:=by
 obtain⟨q,j,m,o,p⟩:=DL Tryz.infoU8;obtain⟨a,n,c,rfl⟩:=h.2.2;have b:=T h;have l:(⟨Aw ([116,114,117,101]:A1)⟩:AT).size=4:=rfl;go_enter func184,ntmps184
 go_wp2_with(first
  |(at_builtin;refine wpList_append_own_string _ Z _ _ 50 9 Z base 5 q underlying50 underlying9 j m o p _ _ _ Z b.1 ⟨[116,114,117,101].toArray⟩ Z BC kfp b.2.1 ?_;intro d s k i r;have g:=T<|NR b k i))
 go_ret;exact⟨_,Z,g⟩
theorem wt(hl:K bs<=999999999)(h:Cn W base v bs):Ar As 184 #[v,Ah AQ] W λe f=>∃d,e=Ak d/\Cn f base d (bs++[102,97,108,115,101])/\Below base W f:=by
 obtain⟨q,j,m,o,p⟩:=DL Tryz.infoU8;obtain⟨a,n,c,rfl⟩:=h.2.2;have b:=T h;have l:(⟨Aw ([102,97,108,115,101]:A1)⟩:AT).size=5:=rfl;go_enter func184,ntmps184
 go_wp2_with(first
  |(at_builtin;refine wpList_append_own_string _ Z _ _ 50 9 Z base 5 q underlying50 underlying9 j m o p _ _ _ Z b.1 ⟨[102,97,108,115,101].toArray⟩ Z BC kfp b.2.1 ?_;intro d s k i r;have g:=T<|NR b k i))
 go_ret;exact⟨_,Z,g⟩
def wu(hl:K bs<=999999999)(h:Cn W base v bs):Ar As 150 #[v,Ah AP] W λe b=>∃d,e=Ak d/\Cn b base d (bs++[116,114,117,101])/\Below base W b:=by
 have f:=wo hl h;obtain⟨a,n,c,rfl⟩:=h.2.2;go_enter func150,ntmps150
 go_wp2_with(first
  |(go_at_call 184;refine Ce f ?_;rintro e q ⟨p,rfl,g,k⟩;obtain⟨i,j,l,o,m,rfl⟩:=g))
 go_ret;exact⟨_,Z,⟨i,j,_,_,_,Z⟩,k⟩
def ww(hl:K bs<=999999999)(h:Cn W base v bs):Ar As 150 #[v,Ah AQ] W λe b=>∃d,e=Ak d/\Cn b base d (bs++[102,97,108,115,101])/\Below base W b:=by
 have f:=wt hl h;obtain⟨a,n,c,rfl⟩:=h.2.2;go_enter func150,ntmps150
 go_wp2_with(first
  |(go_at_call 184;refine Ce f ?_;rintro e q ⟨p,rfl,g,k⟩;obtain⟨i,j,l,o,m,rfl⟩:=g))
 go_ret;exact⟨_,Z,⟨i,j,_,_,_,Z⟩,k⟩
theorem wy(hl:K bs<=999999999)(h:Cn W base v bs):Ar As 113 #[v,Ai 268<|Ag #[]] W λe f=>∃d,e=Ak d/\Cn f base d (bs++[110,117,108,108])/\Below base W f:=by
 obtain⟨q,j,m,o,p⟩:=DL Tryz.infoU8;obtain⟨a,n,c,rfl⟩:=h.2.2;have b:=T h;have s:=XP;have t:=XQ;have u:=XR;have w:=RZ;have x:=S0;have l:(⟨Aw ([110,117,108,108]:A1)⟩:AT).size=4:=rfl;go_enter func113,ntmps113
 go_wp2_with(first
  |(at_builtin;refine wpList_append_own_string _ Z _ _ 50 9 Z base 5 q underlying50 underlying9 j m o p _ _ _ Z b.1 ⟨[110,117,108,108].toArray⟩ Z BC kfp b.2.1 ?_;intro d y k i r;have g:=T<|NR b k i))
 go_ret;exact⟨_,Z,g⟩
def wA(hl:K bs<=999999999)(h:Cn W base v bs):Ar As 113 #[v,Ai 279<|Ah AP] W λe b=>∃d,e=Ak d/\Cn b base d (bs++[116,114,117,101])/\Below base W b:=by
 have f:=wu hl h;obtain⟨a,n,c,rfl⟩:=h.2.2;have p:=Qt AP;go_enter func113,ntmps113
 go_wp2_with(first
  |(go_at_call 150;refine Ce f ?_;rintro e r ⟨q,rfl,g,k⟩;obtain⟨i,j,l,o,m,rfl⟩:=g))
 go_ret;exact⟨_,Z,⟨i,j,_,_,_,Z⟩,k⟩
def wB(hl:K bs<=999999999)(h:Cn W base v bs):Ar As 113 #[v,Ai 279<|Ah AQ] W λe b=>∃d,e=Ak d/\Cn b base d (bs++[102,97,108,115,101])/\Below base W b:=by
 have f:=ww hl h;obtain⟨a,n,c,rfl⟩:=h.2.2;have p:=Qt AQ;go_enter func113,ntmps113
 go_wp2_with(first
  |(go_at_call 150;refine Ce f ?_;rintro e r ⟨q,rfl,g,k⟩;obtain⟨i,j,l,o,m,rfl⟩:=g))
 go_ret;exact⟨_,Z,⟨i,j,_,_,_,Z⟩,k⟩
def Ep(x:AH):AU:=[48,49,50,51,52,53,54,55,56,57,97,98,99,100,101,102].getD x 0
def IS(r:AH):A1:=if r=34\/r=92 then[92,AW r]else if r<32 then[92,117,48,48,Ep<|r/16,Ep<|r%16]else Ez r
def IT:AH->A1->A1
 |0,_=>[]
 |_+1,[]=>[]
 |g+1,b::t=>IS (decodeL (b::t)).1++IT g ((b::t).drop (decodeL (b::t)).2)
def Fx(l:A1):A1:=[34]++IT (At l) l++[34]
theorem iv(g:I):IT g []=[]:=by cases g<;>rfl
def Lw(W V:Ap):Prop:=∀(k:AH) (cs:A3) (t:AN) (fr:AH×AH),W.heap[k]?=An (Aj cs t fr)->t≠5->V.heap[k]?=An (Aj cs t fr)
theorem Lw.refl(W:X):Lw W W:=by intro k cs t fr h _;exact h
def Lw.trans{A B C:X}(h:Lw A B)(g:Lw B C):Lw A C:=by intro k cs t fr b a;exact g k cs t fr (h k cs t fr b a) a
theorem Uj{o:Obj}:Lw W<|Az W o:=by intro k cs t fr a _;grind [Below.heap_alloc]
theorem Uk(f:W.ownsRow base 5 1 v n xs)(d:W.grownBy V<|Ax v):Lw W V:=by
 intro k cs t fr b i;refine Ca (d.block k (Cd b) λe=>?_) b;rcases f.2 with⟨a,_⟩|⟨g,h,c,a,_,j,_⟩
 .rw[a]at e;cases e
 rw[a]at e;injection e with e;grind
structure IU(base:AH)(W:Ap)(N:AH)(s:AT)(i:AH)(v:Aq)(cur:A1)(V:Ap):Prop where
 a2:Cn V base v cur
 b:V.heap[N]?=An (.stringIter s i)
 ac:Below base W V
 d:base<=N
 a:Lw W V
def IU.ne(h:IU base W N s i v cur V):H N≠Ax v:=by
 intro e;rcases h.a2.1.2 with⟨a,_⟩|⟨g,f,c,a,_,b,_⟩
 .rw[a]at e;cases e
 rw[a]at e;injection e with e;have d:N=g:=e;rw[<-d,h.b]at b;cases b
theorem IU.ai{o:Obj}(h:IU base W N s i v cur V)(f:V'.ownsRow base 5 1 v' (K cur+K l)<|cur.map CP++l.map CP)(a:(Az V o).grownBy V'<|Ax v):IU base W N s i v' (cur++l) V':=by have b:=GW ((Cu base V).alloc h.a2.2.1 _) (h.a2.1.alloc _) a kfi;have d:=Cd h.b;refine⟨⟨B9,CE h.a2.2.1 b.size,?_⟩,Ca (a.block N B7 h.ne)<|Ca (CB _ _ _ d) h.b,Cs h.ac b,h.d,h.a.trans<|(Uj).trans<|Uk (h.a2.1.alloc o) a⟩;rcases f.2 with⟨e,_⟩|⟨g,j,c,e,_⟩<;>grind
def IU.appS(h:IU base W N s i v cur V)(d:V'.ownsRow base 5 1 v' (K cur+(⟨Aw l⟩:AT).size)<|cur.map CP++strCells ⟨Aw l⟩)(a:V.grownBy V'<|Ax v):IU base W N s i v' (cur++l) V':=by obtain⟨b,c⟩:=NR h.a2 d a;exact⟨b,Ca (a.block N (Cd h.b) h.ne) h.b,Cs h.ac c,h.d,h.a.trans<|Uk h.a2.1 a⟩
theorem IU.next(h:IU base W N s i v cur V)(j:I):IU base W N s j v cur<|V.putObj N<|.stringIter s j:=by
 have n:=Cd h.b;have p:=h.ne;refine⟨⟨⟨h.a2.1.1,?_⟩,by simpa[World.putObj]using h.a2.2.1,h.a2.2.2⟩,by simp[World.putObj,n],Qv h.ac h.d,h.d,?hkp⟩
 case hkp =>
  intro k cs t fr q r;have b:=h.a k cs t fr q r;refine Ca ((grownBy_putObj' V N<|.stringIter s j).block k (Cd b) λe=>?_) b;injection e with e;rw[e,h.b]at b;cases b
 rcases h.a2.1.2 with a|⟨g,f,c,a,l,d,m⟩
 .exact AF a
 refine AG ⟨g,f,c,a,l,?_,m⟩;have o:g≠N:=by rintro rfl;exact p kfr
 exact Ca ((grownBy_putObj' V N<|.stringIter s j).block g (Cd d) kep) d
theorem IU.drew(h:IU base W N s i v cur V):IU base W N s i v cur V.drew:=⟨h.a2,h.b,h.ac.drew,h.d,h.a⟩
def iw(x:I)(hx:x<16):(Instr.index 9 (Ae ⟨#[48,49,50,51,52,53,54,55,56,57,97,98,99,100,101,102]⟩)<|C .i32 x).run As V=.ok (CP<|Ep x) V:=kfP
def wT{r:I}(a:r<32):bits .and .i32 (r:J) 15=((r%16:I):J):=by have h:r=0\/r=1\/r=2\/r=3\/r=4\/r=5\/r=6\/r=7\/r=8\/r=9\/r=10\/r=11\/r=12\/r=13\/r=14\/r=15\/r=16\/r=17\/r=18\/r=19\/r=20\/r=21\/r=22\/r=23\/r=24\/r=25\/r=26\/r=27\/r=28\/r=29\/r=30\/r=31:=E;rcases h with rfl|rfl|rfl|rfl|rfl|rfl|rfl|rfl|rfl|rfl|rfl|rfl|rfl|rfl|rfl|rfl|rfl|rfl|rfl|rfl|rfl|rfl|rfl|rfl|rfl|rfl|rfl|rfl|rfl|rfl|rfl|rfl<;>(show _=_;kernel_rfl)
theorem Qw{W:Ap}(x y:Operand)(a:o.op=.index ty x y){X Y:Aq}(hx:ev x=X)(hy:ev y=Y)(h:(Instr.index ty X Y).run P W=.ok v W):(execOp ev o).run P W=.ok (.value v) W:=by unfold execOp;simp_all
def wU(a b:AU)(V:X):(Instr.buildSlice 50 2 #[(0,CP a),(1,CP b)]).run As V=.ok (G (Aa<|O<|U V) 2 2) (Az V<|M #[CP a,CP b] 5):=B6
def wV{a:Act}{K:Act->X->Prop}(x y:Operand)(b:o.op=.buildSlice 50 2 #[(0,x),(1,y)])(p q:AU)(hx:a.eval x=CP p)(hy:a.eval y=CP q)(h:K (a.put o.dst<|G (Aa<|O<|U w) 2 2)<|Az w<|M #[CP p,CP q] 5):o.wp As a w K Q:=by
 have e:(#[(0,x),(1,y)].map λ(i,y)=>(i,a.eval y))=#[((0:I),CP p),(1,CP q)]:=by simp[hx,hy]
 unfold Oper.wp execOp;simp only[b,GT,e,wU,FZ];exact h
theorem wW{o:Obj}(h:Cn V base v cur)(d:V'.ownsRow base 5 1 v' (K cur+K l)<|cur.map CP++l.map CP)(b:(Az V o).grownBy V'<|Ax v):Cn V' base v' (cur++l)/\Below base V V':=by have a:=GW ((Cu base V).alloc h.2.1 _) (h.1.alloc _) b<|B0 h.2.1;refine⟨⟨B9,CE h.2.1 a.size,?_⟩,a⟩;rcases d.2 with⟨e,_⟩|⟨g,f,c,e,_⟩<;>grind
theorem iy{a:Act}{K:Act->X->Prop}{x y:I}(m:Aw (l.map CP)=cs)(p:o.op=.call {callee:=.builtin .append,args:=#[.tmp x,.tmp y],argTypes:=#[50,50]})(r:a.eval (.tmp x)=v)(hx:a.eval (.tmp y)=G (Aa<|O<|U w) (At l) (At l))(f:Cn w base v cur)(hl:At cur+At l<=999999999)(q:0<At l)(h:∀d g e c,Cn c base (G d g e) (cur++l)->Below base w c->K (a.put o.dst<|G d g e) c):o.wp As a (Az w<|M cs 5) K Q:=by
 subst m;obtain⟨F,n,t,z,A⟩:=DL Tryz.infoU8;refine RF p underlying50 n t z A Z B8 r (f.1.alloc _) (At l) (At l) (news:=(l.map CP)) hx Ba ?_ ?_ q Bc E (B0 f.2.1) ?_
 .grind [EU]
 .intro u s;obtain⟨b,_,rfl⟩:=Kw.1 s;rfl
 intro L c i j _;obtain⟨k,B⟩:=wW f i j;obtain⟨d,g,e,rfl⟩:=k.2.2;grind
def Y4{a:Act}(x y:I)(l:A1)(k:Aw (l.map CP)=cs)(m:o.guard=Ao)(n:o.op=.call {callee:=.builtin .append,args:=#[.tmp x,.tmp y],argTypes:=#[50,50]})(q:a.eval (.tmp x)=v)(hx:a.eval (.tmp y)=G (Aa<|O<|U w) (K l) (K l))(j:Cn w base v cur)(hl:K cur+K l<=999999999)(p:0<K l)(h:∀c e d b,Cn b base (G c e d) (cur++l)->Below base w b->wpList As ops Q rest (a.put o.dst<|G c e d) b):wpList As ops Q (o::rest) a (Az w<|M cs 5) :=
 LP m λ_ i=>iy k n q hx j hl p λc e d b f g=>i _ _<|h c e d b f g
def iz(x:I)(hx:x<16)(V:X):(Instr.index 9 (Ae ⟨#[48,49,50,51,52,53,54,55,56,57,97,98,99,100,101,102]⟩)<|C Am x).run As V=.ok (C Am (Ep x).toNat) V:=kfP
def qB(b:AU):A1:=if b.toNat=34\/b.toNat=92 then[92,b]else if b.toNat<32 then[92,117,48,48,Ep<|b.toNat/16,Ep<|b.toNat%16]else[b]
def qT(l:A1):A1:=([34]++l.flatMap qB)++[34]
theorem wX(b:AU):K (qB b)<=6:=kfw
theorem Y5:∀l:A1,K (l.flatMap qB)<=6*K l
 |[]=>Ba
 |b::l=>by have:=wX b;have:=Y5 l;rw[VV,Dj,FN];omega
theorem wY(h:Cn W base (G a n c) l)(r:l≠[]):(convert 50 9<|G a n c).run As W=.ok (Ae ⟨Aw l⟩) W:=by
 rcases h.1.2 with⟨_,e⟩|⟨g,i,d,e,_,f,k,m,o,p⟩
 .grind
 injection e with e1 e2 e3;subst e1 e2 e3;refine R2 _ 50 9 5 ⟨g,0,Ao⟩ _ l underlying50 underlying5 underlying9 ?_;intro j q;rw[show(⟨g,0,Ao⟩:Addr).add j=⟨g,j,Ao⟩ by grind [Addr.add],Cc f,<-Oy];have b:(d.toList.take<|K l*1)[j]?=H (CP l[j]):=B9;rw[R5 E]at b;exact b
def Lx(w:A1):Prop:=∃u c,w=u++[c]/\Hp u=AP/\Dh u c=2
def FK(l:A1):Prop:=∃ws:AJ A1,(∀w∈ws,Lx w)/\l=ws.flatten
def FK.nil:FK []:=⟨[],Ba,rfl⟩
theorem FK.ac{w:A1}(h:FK l)(c:Lx w):FK<|l++w:=by obtain⟨a,b,rfl⟩:=h;refine⟨a++[w],λx d=>?_,Ba⟩;grind
theorem wZ{w:A1}(h:Lx w):(∃a,w=[a]/\a.toNat<128)\/(∃a b,w=[a,b]/\DG a=2/\128<=b.toNat/\b.toNat<=191)\/(∃a b c,w=[a,b,c]/\DG a=3/\Hv a<=b.toNat/\b.toNat<=Ik a/\128<=c.toNat/\c.toNat<=191)\/(∃a b c d,w=[a,b,c,d]/\DG a=4/\Hv a<=b.toNat/\b.toNat<=Ik a/\128<=c.toNat/\c.toNat<=191/\128<=d.toNat/\d.toNat<=191):=by
 obtain⟨u,c,rfl,e,f⟩:=h
 match u,e,f with
 |[],_,f =>
  grind [TK,DG]
 |[a],e,f =>
  grind [M6,Dh,Ik]
 |[a,b],e,f =>
  grind [Hp,M6,Dh]
 |[a,b,d],e,f =>
  grind [Hp,M6,Dh]
 |_::_::_::_::_,e,_=>simp[Hp]at e
theorem x6{w:A1}(h:Lx w):(decodeL<|w++t).2=K w/\IS (decodeL<|w++t).1=w.flatMap qB/\1<=K w:=by
 have m:∀{w:A1} {r:I},2<=K w->decodeL (w++t)=(r,K w)->128<=r->(∀b∈w,128<=b.toNat)->(decodeL<|w++t).2=K w/\IS (decodeL<|w++t).1=w.flatMap qB/\1<=K w:=λ{w r} hw hd l hb=>by
  have f:=encode_decode (w++t) (by grind [List.append_eq_nil_iff]) B9;rw[hd]at f ⊢;simp only[]at f ⊢;rw[List.take_left]at f;refine⟨trivial,?_,E⟩;have j:IS r=Ez r:=by grind [IS]
  have k:Ez (r:J)=w:=f;rw[j,k];clear f hd j k hw;induction w<;>grind [qB]
 rcases wZ h with⟨a,rfl,e⟩|⟨a,b,rfl,g,e,i⟩|⟨a,b,c,rfl,g,e,i,n,o⟩|⟨a,b,c,d,rfl,g,e,i,n,o,p,q⟩
 .rw[List.singleton_append,decodeL_ascii a t e];refine⟨Z,?_,Ba⟩;grind [IS,qB,UInt8.ofNat_toNat,Ez,encodeRuneZ_one]
 .grind [DG,decodeL_N,decodeN]
 .have l:(a.toNat=224/\160<=b.toNat/\b.toNat<=191)\/(a.toNat=237/\128<=b.toNat/\b.toNat<=159)\/(225<=a.toNat/\a.toNat<=239/\a.toNat≠237/\128<=b.toNat/\b.toNat<=191):=by
   unfold DG at g;unfold Hv at e;unfold Ik at i
   repeat' split at g<;>grind
  refine m (r:=a.toNat%16*4096+b.toNat%64*64+c.toNat%64) Ba ?_ E B7;grind [decodeL_N,decodeN]
 have l:(a.toNat=240/\144<=b.toNat/\b.toNat<=191)\/(a.toNat=244/\128<=b.toNat/\b.toNat<=143)\/(241<=a.toNat/\a.toNat<=243/\128<=b.toNat/\b.toNat<=191):=by grind [DG,Hv,Ik]
 refine m (r:=a.toNat%8*262144+b.toNat%64*4096+c.toNat%64*64+d.toNat%64) Ba ?_ E B7;grind [decodeL_N,decodeN]
theorem iA:∀(a:AJ A1) (g:I),(∀w∈a,Lx w)->K a.flatten<=g->IT g a.flatten=a.flatten.flatMap qB
 |[],g,_,_=>by rw[List.flatten_nil,iv];rfl
 |w::a,g,h,hg=>by
  obtain⟨d,f,i⟩:=x6<|h w<|Mm ..;rw[am]at hg ⊢;rw[Dj]at hg;obtain⟨b,r,rfl⟩:∃b r,w=b::r:=by
   obtain _|⟨b,r⟩:=w
   .simp at i
   exact⟨b,r,Z⟩
  obtain⟨g,rfl⟩:∃c,g=c+1:=⟨g-1,E⟩
  have e:IT (g+1) ((b::r)++a.flatten)=IS (decodeL<|(b::r)++a.flatten).1++IT g (((b::r)++a.flatten).drop (decodeL<|(b::r)++a.flatten).2):=rfl;rw[e,d,f,W8,iA a g (λw j=>h w<|LL _ j) E,List.flatMap_append]
theorem iB(h:FK l):Fx l=qT l:=by obtain⟨b,a,rfl⟩:=h;grind [Fx,qT,iA]
def Y6{a:A1}{c:AU}(h:Hp a=AP)(b:Dh a c=2):Lx<|a++[c]:=⟨a,c,rfl,h,b⟩
theorem x7(a:AU)(h:a.toNat<128):Lx [a]:=by refine⟨[],a,rfl,rfl,?_⟩;grind [DG,TK]
theorem x9(a b:AU)(e:DG a=2)(c:Hv a<=b.toNat)(d:b.toNat<=Ik a):Lx [a,b]:=by obtain⟨f,g,h,_⟩:=(M6 a).2.2.1 E;refine⟨[a],b,Z,by grind [Hp],?_⟩;grind [Dh]
theorem iC(a b c:AU)(h:DG a=3)(d:Hv a<=b.toNat)(e:b.toNat<=Ik a)(f:128<=c.toNat)(g:c.toNat<=191):Lx [a,b,c]:=by obtain⟨i,j,k,_⟩:=(M6 a).2.2.1 E;refine⟨[a,b],c,Z,by grind [Hp],?_⟩;grind [Dh]
theorem xa(a b c d:AU)(k:DG a=4)(e:Hv a<=b.toNat)(f:b.toNat<=Ik a)(g:128<=c.toNat)(h:c.toNat<=191)(i:128<=d.toNat)(j:d.toNat<=191):Lx [a,b,c,d]:=by obtain⟨l,m,n,_⟩:=(M6 a).2.2.1 E;refine⟨[a,b,c],d,Z,by grind [Hp],?_⟩;grind [Dh]
theorem Sa(x:J)(h:0<=x/\x<=255):(AW x.toNat).toNat=x.toNat:=Hy E
theorem xb{r:J}:Lx<|Ez r:=by
 unfold Ez;by_cases c:0<=r/\r<=127
 .grind [encodeRuneZ_one,x7,Sa]
 by_cases d:128<=r/\r<=2047
 .grind [encodeRuneZ_two,Sa,x9,DG,Hv,Ik]
 by_cases e:(2048<=r/\r<55296)\/(57343<r/\r<=65535)
 .grind [encodeRuneZ_three,Sa,iC,DG,Hv,Ik]
 by_cases a:65536<=r/\r<=1114111
 .rw[encodeRuneZ_four a.1 a.2];have b:=Sa (240+r/262144) E;grind [Sa,xa,DG,Hv,Ik]
 rw[encodeRuneZ_bad E];exact iC 239 191 189 B8 B8 B8 B8 B8
theorem Ul(bs:A1)(lim:J):∀(g p:I) (a:A1) (b:I) (l:A1) (q:I),b<=K a->FK (a.take b)->Hp (a.drop b)=AP->DA bs lim g p a b=.ok (l,q)->FK l/\K l+4*p+4<=K a+4*q
 |0,_,_,_,_,_,_,_,_,h=>Bs
 |g+1,p,a,b,l,q,hw,ha,hp,h=>by
  rw[DA]at h;split at h
  .cases h
  rename_i c hc;split at h
  .cases h
  split at h
  .grind
  split at h
  .rename_i h1;split at h
   .cases h
   rename_i r q2 he;have f:=(WO he).2;have e:=eK r;have d:=Ul bs lim g q2 _ _ l q (Cr _) (by rw[LM];rw[h1.2,LM]at ha;exact ha.ac<|xb) B9 h;grind
  split at h
  .cases h
  split at h
  .cases h
  rename_i h0;have d:=Ul bs lim g (p+1) (a++[c]) _ l q B9 (by
   split
   .rename_i h2;rw[Ns Ba];have:=ha.ac<|Y6 hp h2;grind [List.take_append_drop]
   grind) (Tp hw hp h0 rfl) h
  grind
theorem Y7(bs:A1)(lim:J):∀(k p:I) (a:A1) (b:I) (l:A1) (q:I),b<=K a->FK (a.take b)->Hp (a.drop b)=AP->Ds bs lim k p a b=.ok (l,q)->FK l/\K l+p=K a+q
 |0,p,a,b,l,q,hw,ha,hp,h=>kfF
 |k+1,p,a,b,l,q,hw,ha,hp,h=>by
  rw[Ds]at h;split at h
  .cases h
  rename_i c hc;split at h
  .cases h
  split at h
  .cases h
  rename_i h0;have d:=Y7 bs lim k (p+1) (a++[c]) _ l q B9 (by
   split
   .rename_i h2;rw[Ns Ba];have:=ha.ac<|Y6 hp h2;grind [List.take_append_drop]
   grind) (Tp hw hp h0 rfl) h
  grind
def F8:AH->A2->Prop
 |0,_=>True
 |k+1,d=>match d with
  |.lit (.string l)=>FK l
  |.lit (.int Al z)=>-9223372036854775808<=z/\z<=9223372036854775807
  |.agg ds=>∀d∈ds,F8 k d
  |.map es=>∀e∈es,FK (D9 e.1)/\F8 k e.2
  |_=>True
def iD(h : -9223372036854775808<=z/\z<=9223372036854775807)(k:I):F8 k<|.lit<|.int Y z:=by
 obtain _|k:=k
 .trivial
 exact h
def iE(k:I):F8 k .nil:=kfx
def Um(k:I){b:AK}:F8 k<|.lit<|.bool b:=kfx
def xc(k:I):F8 k<|.ptr<|.lit<|.string l:=kfx
def xd(h:FK l)(k:I):F8 k<|.lit<|.string l:=by
 obtain _|k:=k
 .trivial
 exact h
def Kk{α:Type}(bs t:A1)(lim:AI)(r':AS (AI×AI) α):Prop:=lim=At bs->t≠[]->r'=.error (8,lim)
def Tm{α:Type}(bs t:A1)(lim:AI)(s:Prop)(p:AH)(M:α->AH->Prop)(r r':A5 α):Prop :=
 match r with
 |.ok (x,q)=>p<=q/\q<=At bs/\M x q/\(r'=.ok (x,q)\/(¬s/\q=At bs/\Kk bs t lim r'))
 |.error (e,pl)=>pl<=(At bs:AI)/\(r'=.error (e,pl)\/(pl=At bs/\Kk bs t lim r'))/\(p=At bs->pl=At bs)
section
variable{α β:Type} {bs t:A1} {lim:Int} {s:Prop} {p:Nat} {M:α->Nat->Prop}
theorem Tm.ok{x:α}(a:p<=q)(b:q<=K bs)(c:M x q):Tm bs t lim s p M (.ok (x,q))<|.ok (x,q):=⟨a,b,c,AF rfl⟩
def Tm.a8{x:α}{r':A5 α}(h:p=K bs)(b:Kk bs t lim r')(a:M x p):Tm bs t lim False p M (.ok (x,p)) r':=⟨Cr _,OG h,a,AG ⟨id,h,b⟩⟩
theorem Tm.a2{e:J}(a:pl<=K bs)(b:p=K bs->pl=K bs):Tm bs t lim s p M (.error (e,pl))<|.error (e,pl):=⟨a,AF rfl,b⟩
def Tm.stop{e:J}{r':A5 α}(h:p=K bs)(a:Kk bs t lim r'):Tm bs t lim s p M (.error (e,(p:J))) r':=⟨E,AG ⟨E,a⟩,λ_=>E⟩
def Tm.ai{r r':A5 α}(h:Tm bs t lim s q M r r')(b:p<=q)(c:q<=K bs):Tm bs t lim s p M r r':=by
 rcases r with⟨e,d⟩|⟨x,y⟩
 .exact⟨h.1,h.2.1,λa=>h.2.2 E⟩
 exact⟨CE b h.1,h.2⟩
def Tm.any{r r1 r2:A5 α}(h:Tm bs t lim s (K bs) M r r1)(a:Kk bs t lim r2):Tm bs t lim False (K bs) M r r2:=by
 rcases r with⟨e,b⟩|⟨x,y⟩
 .exact⟨h.1,AG ⟨h.2.2 Z,a⟩,h.2.2⟩
 exact⟨h.1,h.2.1,h.2.2.1,AG ⟨id,Nat.le_antisymm h.2.1 h.1,a⟩⟩
def Tm.a3{M':α->I->Prop}{r r':A5 α}(h:Tm bs t lim s p M r r')(a:∀x q,p<=q->q<=K bs->M x q->M' x q):Tm bs t lim s p M' r r':=by
 rcases r with⟨e,b⟩|⟨x,y⟩
 .exact h
 exact⟨h.1,h.2.1,a x y h.1 h.2.1 h.2.2.1,h.2.2.2⟩
def Tm.ac{M2:β->I->Prop}{r r':A5 α}{R R':A5 β}(h:Tm bs t lim s p M r r')(m:∀e,r=.error e->R=.error e)(i:∀e,r'=.error e->R'=.error e)(n:∀x q,p<=q->q<=K bs->M x q->r=.ok (x,q)->∃f,(r'=.ok (x,q)->R'=f)/\Tm bs t lim False q M2 R f):Tm bs t lim False p M2 R R':=by
 rcases r with⟨e,u⟩|⟨x,q⟩
 .obtain⟨d,c,g⟩:=h;rw[m _ rfl];refine⟨d,?_,g⟩;rcases c with rfl|c
  .exact AF<|i _ Z
  exact AG ⟨c.1,λa b=>i _<|c.2 a b⟩
 obtain⟨d,c,g,l⟩:=h;obtain⟨f,k,j⟩:=n x q d c g rfl;rcases l with rfl|⟨_,rfl,o⟩
 .rw[k rfl];exact j.ai d c
 exact(j.any λa b=>i _<|o a b).ai d c
theorem Tm.a6{M2:β->I->Prop}{r r':A5 α}{R R':A5 β}(h:Tm bs t lim True p M r r')(i:∀e,r=.error e->R=.error e)(g:∀e,r'=.error e->R'=.error e)(k:∀x q,p<=q->q<=K bs->M x q->r=.ok (x,q)->r'=.ok (x,q)->Tm bs t lim s p M2 R R'):Tm bs t lim s p M2 R R':=by
 rcases r with⟨e,l⟩|⟨x,q⟩
 .obtain⟨d,c,f⟩:=h;rw[i _ rfl];refine⟨d,?_,f⟩;rcases c with rfl|c
  .exact AF<|g _ Z
  exact AG ⟨c.1,λa b=>g _<|c.2 a b⟩
 obtain⟨d,c,f,j⟩:=h;grind
def Y8(h:t≠[]):∃c,(bs++t)[K bs]?=H c:=by
 obtain _|⟨c,t⟩:=t
 .exact absurd Z h
 exact⟨c,Ba⟩
theorem Tm.a0{r0 r1:A5 α}{G G':AU->A5 α}(j:p<=K bs)(f:p=K bs->∀d,Kk bs t lim d->Tm bs t lim s p M r0 d)(h:∀c,bs[p]?=H c->p<K bs->Tm bs t lim s p M (G c) (G' c)):Tm bs t lim s p M (match(generalizing:=false) bs[p]? with|none=>r0|some c=>if(p:J)=lim then .error (8,(p:J))else G c)<|match(generalizing:=false) (bs++t)[p]? with|none=>r1|some c=>if(p:J)=lim then .error (8,(p:J))else G' c:=by
 by_cases i:p<K bs
 .grind [Tm.a2]
 have e:bs[p]?=Ao:=I6 E;obtain rfl:p=K bs:=E;rw[e];refine f Z _ λa b=>?_;obtain⟨c,g⟩:=Y8 b;rw[g];grind
def Tm.a7{G G':AU->A5 α}(b:p<=K bs)(h:∀c,bs[p]?=H c->p<K bs->Tm bs t lim s p M (G c) (G' c)):Tm bs t lim s p M (match(generalizing:=false) bs[p]? with|none=>.error (9,(p:J))|some c=>if(p:J)=lim then .error (8,(p:J))else G c)<|match(generalizing:=false) (bs++t)[p]? with|none=>.error (9,(p:J))|some c=>if(p:J)=lim then .error (8,(p:J))else G' c:=Tm.a0 b (λe _ a=>Tm.stop e a) h
theorem Tm.aq{c:Prop}[Decidable c]{a b a' b':A5 α}(d:c->Tm bs t lim s p M a a')(e:¬c->Tm bs t lim s p M b b'):Tm bs t lim s p M (if c then a else b)<|if c then a' else b':=B9
end
theorem iF:∀(g a p:I),p<=K bs->K bs<g+p->K (bs++t)<a+p->Tm bs t lim False p (λ_ _=>True) (DW bs lim g p) (DW (bs++t) lim a p)
 |0,_,p,h1,h2,_=>E
 |g+1,0,p,h1,_,h3=>B9
 |g+1,a+1,p,h1,h2,h3=>by unfold DW;refine Tm.a0 h1 (λe _ d=>Tm.a8 e d trivial) λc f b=>Tm.aq (λ_=>?_) λ_=>Tm.ok (Cr _) h1 trivial;exact(iF g a (p+1) b E E).ai E b
theorem Qx(h:p<=K bs):Tm bs t lim False p (λ_ _=>True) (DW bs lim (K bs+1-p) p)<|DW (bs++t) lim (K (bs++t)+1-p) p:=iF _ _ p h E E
theorem Y9(b:I)(z:AK):∀(g a p d:I),p<=K bs->K bs<g+p->K (bs++t)<a+p->Tm bs t lim False p (λ_ _=>True) (Ee bs lim b z g p d) (Ee (bs++t) lim b z a p d)
 |0,_,p,_,h1,h2,_=>E
 |g+1,0,p,_,h1,_,h3=>B9
 |g+1,a+1,p,d,h1,h2,h3=>by unfold Ee;refine Tm.a0 h1 (λe _ h=>Tm.a8 e h trivial) λc i f=>Tm.aq (λ_=>Tm.aq (λ_=>Tm.a2 E E) λ_=>Tm.aq (λ_=>Tm.a2 E E) λ_=>?_) λ_=>Tm.aq (λ_=>Tm.a2 E E) λ_=>Tm.ok (Cr _) h1 trivial;exact(Y9 b z g a (p+1) _ f E E).ai E f
theorem xe{c:AU}(h:p<=K bs):Tm bs t lim False p (λ_ _=>True) (GV ⟨Ao,bs,0,0,lim,p,0⟩ c)<|GV ⟨Ao,bs++t,0,0,lim,p,0⟩ c:=by
 unfold GV;refine Tm.aq (λ_=>Tm.a7 h λc e a=>Tm.aq (λ_=>?_) λ_=>Tm.a2 B9 E) λ_=>?_
 .refine Tm.ai (q:=p+1) ?_ E a;refine Tm.ac (Y9 9223372036854775808 (c.toNat==48) (K bs+1-(p+1)) (K (bs++t)+1-(p+1)) (p+1) (c.toNat-48) a E E) (λ_ z=>Bf) (λ_ z=>Bf) λx q _ b _ d=>⟨_,λz=>Bf,?_⟩;grind [Tm.ok]
 refine Tm.ac (Y9 9223372036854775807 (c.toNat==48) (K bs+1-p) (K (bs++t)+1-p) p (c.toNat-48) h E E) (λ_ z=>Bf) (λ_ z=>Bf) λx q _ b _ d=>⟨_,λz=>Bf,?_⟩;grind [Tm.ok]
theorem Pe:∀(a:A1) (p:I),p<=K bs->Tm bs t lim True p (λ_ q=>q=p+K a) (Dt bs lim a p) (Dt (bs++t) lim a p)
 |[],p,h=>Tm.ok (Cr _) h rfl
 |x::a,p,h=>by unfold Dt;refine Tm.a7 h λc d b=>Tm.aq (λ_=>?_) λ_=>Tm.a2 E E;exact((Pe a (p+1) b).a3 λ_ q _ _ e=>B9).ai E b
theorem Ya:∀(k p a:I),p<=K bs->Tm bs t lim True p (λ_ q=>q=p+k) (Ef bs lim k p a) (Ef (bs++t) lim k p a)
 |0,p,a,h=>Tm.ok (Cr _) h rfl
 |k+1,p,a,h=>by
  unfold Ef;refine Tm.a7 h λc f b=>?_;obtain _|d:=JD c
  .grind [Tm.a2]
  exact((Ya k (p+1) _ b).a3 λ_ q _ _ e=>E).ai E b
theorem xf(h:p<=K bs):Tm bs t lim True p (λ_ q=>p+4<=q) (IK bs lim p)<|IK (bs++t) lim p:=by unfold IK;refine Tm.a6 (Ya 4 p 0 h) (λ_ z=>Bf) (λ_ z=>Bf) λx q _ a e c b=>?_;rw[c,b];refine Tm.aq (λ_=>Tm.a2 E E) λ_=>Tm.aq (λ_=>?_) λ_=>Tm.ok E a E;refine Tm.ai (q:=q) ?_ E a;refine Tm.a6 (Pe [92,117] q a) (λ_ z=>Bf) (λ_ z=>Bf) λ_ f _ g d c b=>?_;rw[c,b];dsimp only;have d:f=q+2:=d;refine Tm.ai (q:=f) ?_ E g;grind [Tm.a6,Ya,Tm.ok,Tm.a2]
def xg(h:p<=K bs):Tm bs t lim True p (λ_ q=>p+1<=q) (I9 bs lim p)<|I9 (bs++t) lim p:=by
 unfold I9;refine Tm.a7 h λc b a=>?_
 repeat' refine Tm.aq (λ_=>Tm.ok E a<|Cr _) λ_=>?_
 refine Tm.aq (λ_=>?_) λ_=>Tm.a2 E E;exact((xf a).a3 λ_ q _ _ e=>E).ai E a
theorem Un:∀(g a p:I) (d:A1) (f:I),p<=K bs->K bs<g+p->K (bs++t)<a+p->Tm bs t lim True p (λl q=>K l+4*p+4<=K d+4*q) (DA bs lim g p d f) (DA (bs++t) lim a p d f)
 |0,_,p,_,_,h1,h2,_=>E
 |g+1,0,p,_,_,h1,_,h3=>B9
 |g+1,a+1,p,d,f,h1,h2,h3=>by
  unfold DA;refine Tm.a7 h1 λc m b=>Tm.aq (λ_=>Tm.ok E b E) λ_=>Tm.aq (λ_=>?_) λ_=>Tm.aq (λ_=>Tm.a2 E E) λ_=>Tm.aq (λ_=>Tm.a2 E E) λ_=>?_
  .refine Tm.ai (q:=p+1) ?_ E b;refine Tm.a6 (xg b) (λ_ z=>Bf) (λ_ z=>Bf) λr q _ h e k j=>?_;rw[k,j];dsimp only;refine Tm.ai (q:=q) ?_ E h;refine(Un g a q _ _ h E E).a3 λl y _ _ i=>?_;grind [Rq]
  refine((Un g a (p+1) _ _ b E E).a3 λl y _ _ i=>?_).ai E b;grind
def DJ:AH->A2->AH
 |0,_=>0
 |k+1,d=>match d with
  |.agg ds=>200+(ds.map λd=>30+DJ k d).sum
  |.map es=>200+(es.map λe=>100+6*At (D9 e.1)+DJ k e.2).sum
  |.lit (.string l)=>200+6*At l
  |.ptr (.lit<|.string l)=>200+6*At l
  |_=>200
def Kp(p:AH)(d:A2)(q:AH):Prop:=∀k,DJ k d+30+400*p<=400*q/\F8 k d
def JL(ds:AJ<|AM Unit):Prop:=∀d∈ds,∀k,F8 k d
def JE(es:AJ<|Lit×AM Unit):Prop:=∀e∈es,FK (D9 e.1)/\∀k,F8 k e.2
def Mb(bs t:A1)(lim:AI)(rd rd':AH->AS (AI×AI) (AM Unit×AH)):Prop:=∀p,p<=At bs->Tm bs t lim False p (Kp p) (rd p) (rd' p)
def Ha(k:AH)(ds:AJ<|AM Unit):AH:=(ds.map λd=>30+DJ k d).sum
def GK(k:AH)(es:AJ<|Lit×AM Unit):AH:=(es.map λe=>100+6*At (D9 e.1)+DJ k e.2).sum
theorem Yb(k:I)(ds:AJ<|AM Unit)(d:A2):Ha k (ds++[d])=Ha k ds+(30+DJ k d):=by unfold Ha;simp
theorem iG(k:I)(es:AJ<|Lit×AM Unit)(l:A1)(d:A2):GK k (es++[(.string l,d)])=GK k es+(100+6*K l+DJ k d):=by unfold GK;simp[D9]
def Kq{α:Type}(μ:AH->α->AH)(J:α->Prop)(a:α)(p:AH)(b:α)(q:AH):Prop:=(∀k,μ k b+400*p<=μ k a+400*q)/\(J a->J b)
theorem iH{α:Type}{lim:AI}{μ:I->α->I}{J:α->Prop}{itF itF':α->I->A5 α}{last:I}(hi:∀a p,p<=K bs->Tm bs t lim False p (Kq μ J a p) (itF a p) (itF' a p)):∀(g j p:I) (d:α),p<=K bs->K bs<g+p->K (bs++t)<j+p->Tm bs t lim False p (Kq μ J d p) (FT bs lim itF last g p d) (FT (bs++t) lim itF' last j p d)
 |0,_,p,_,h1,h2,_=>E
 |g+1,0,p,_,h1,_,h3=>B9
 |g+1,j+1,p,d,h1,h2,h3=>by unfold FT;refine Tm.ac (Qx h1) (λ_ z=>Bf) (λ_ z=>Bf) λ_ r u n _ f=>⟨_,λz=>Bf,?_⟩;rw[f];dsimp only;refine Tm.ac (hi d r n) (λ_ z=>Bf) (λ_ z=>Bf) λm A v o i f=>⟨_,λz=>Bf,?_⟩;rw[f];dsimp only;refine Tm.ac (Qx o) (λ_ z=>Bf) (λ_ z=>Bf) λ_ s w q _ f=>⟨_,λz=>Bf,?_⟩;rw[f];dsimp only;refine Tm.a7 q λc x l=>Tm.aq (λ_=>Tm.ok E l ⟨λk=>AY<|i.1 k,i.2⟩) λ_=>Tm.aq (λ_=>?_) λ_=>Tm.a2 E E;exact((iH hi g j (s+1) m l E E).a3 λb y _ _ e=>⟨λk=>B3 (e.1 k)<|i.1 k,λh=>e.2<|i.2 h⟩).ai E l
def iI{α:Type}{lim:AI}{μ:I->α->I}{J:α->Prop}{itF itF':α->I->A5 α}(last:I)(hi:∀a p,p<=K bs->Tm bs t lim False p (Kq μ J a p) (itF a p) (itF' a p))(acc:α)(h:p<=K bs):Tm bs t lim False p (Kq μ J acc p) (Gn bs lim itF last p acc)<|Gn (bs++t) lim itF' last p acc:=by unfold Gn;refine Tm.ac (Qx h) (λ_ z=>Bf) (λ_ z=>Bf) λ_ d m g _ l=>⟨_,λz=>Bf,?_⟩;rw[l];dsimp only;have f:Tm bs t lim False d (Kq μ J acc p) (FT bs lim itF last (K bs+1-d) d acc)<|FT (bs++t) lim itF' last (K (bs++t)+1-d) d acc:=(iH hi _ _ d acc g E E).a3 λb y _ _ e=>⟨λk=>AY<|e.1 k,e.2⟩;refine Tm.a0 g (λe o i=>?_) λc n j=>Tm.aq (λ_=>Tm.ok E j ⟨λk=>E,id⟩) λ_=>f;subst e;exact f.any i
theorem xh(b:Mb bs t lim rd rd')(ds:AJ<|AM Unit)(p:I)(h:p<=K bs):Tm bs t lim False p (Kq Ha JL ds p) (G6 rd ds p)<|G6 rd' ds p:=by unfold G6;refine Tm.ac (b p h) (λ_ z=>Bf) (λ_ z=>Bf) λd q _ a e c=>⟨_,λz=>Bf,?_⟩;rw[c];refine Tm.ok (Cr _) a ⟨λk=>by have:=e k;rw[Yb];omega,λh x f k=>by grind [JL,Kp]⟩
theorem xi{ks:AJ A1}(h:p<=K bs):Tm bs t lim True p (λl q=>FK l/\K l+4*p+8<=4*q) (Jj bs lim ks p)<|Jj (bs++t) lim ks p:=by unfold Jj;refine Tm.a6 (Pe [34] p h) (λ_ z=>Bf) (λ_ z=>Bf) λ_ q _ b e a c=>?_;rw[a,c];dsimp only;have e:q=p+1:=e;refine Tm.ai (q:=q) ?_ E b;refine Tm.a6 (Un (K bs+1-q) (K (bs++t)+1-q) q [] 0 b E E) (λ_ z=>Bf) (λ_ z=>Bf) λl r _ g d a c=>?_;have f:=(Ul bs lim _ _ [] 0 _ _ (Cr 0) FK.nil Z a).1;grind [Tm.a2,Tm.ok]
def iJ(k:AH)(a:AJ A1×AJ (Lit×AM Unit)):AH:=GK k a.2
theorem xj(m:Mb bs t lim rd rd')(a:AJ A1×AJ (Lit×AM Unit))(p:I)(h:p<=K bs):Tm bs t lim False p (Kq iJ (λa=>JE a.2) a p) (FF bs lim rd a p)<|FF (bs++t) lim rd' a p:=by
 unfold FF;refine Tm.ac (xi h) (λ_ z=>Bf) (λ_ z=>Bf) λl s _ e q b=>⟨_,λz=>Bf,?_⟩;rw[b];dsimp only;refine Tm.ac (Qx e) (λ_ z=>Bf) (λ_ z=>Bf) λ_ n _ f _ b=>⟨_,λz=>Bf,?_⟩;rw[b];dsimp only;refine Tm.ac (Pe [58] n f) (λ_ z=>Bf) (λ_ z=>Bf) λ_ u _ g _ b=>⟨_,λz=>Bf,?_⟩;rw[b];dsimp only;refine Tm.ac (Qx g) (λ_ z=>Bf) (λ_ z=>Bf) λ_ o _ i _ b=>⟨_,λz=>Bf,?_⟩;rw[b];dsimp only;refine Tm.ac (m o i) (λ_ z=>Bf) (λ_ z=>Bf) λd v _ j c b=>⟨_,λz=>Bf,?_⟩;rw[b];refine Tm.ok (Cr _) j ⟨λk=>?_,λh x r=>?_⟩
 .have:=c k;grind [iJ,iG]
 grind [JE,D9,Kp]
def O7(h:∀k,DJ (k+1) d=200)(a:∀k,F8 k d)(b:p<q):Kp p d q:=λk=>by
 refine⟨?_,a k⟩;obtain _|k:=k
 .show 0+30+_<=_;omega
 rw[h k];omega
theorem iK(h:FK l)(a:K l+4*(p+1)<=4*q):Kp p (.lit<|.string l) q:=λk=>by
 refine⟨?_,xd h k⟩;obtain _|k:=k
 .show 0+30+_<=_;omega
 show 200+6*K l+30+_<=_;omega
theorem xk(a:K l+4*(p+1)<=4*q):Kp p (.ptr<|.lit<|.string l) q:=λk=>by
 refine⟨?_,xc k⟩;obtain _|k:=k
 .show 0+30+_<=_;omega
 show 200+6*K l+30+_<=_;omega
theorem iL{r:I}(e:p<r)(c:r<=q)(h:Kq Ha JL [] r ds q):Kp p (.agg ds) q:=λk=>by
 have a:=h.2 nofun
 obtain _|k:=k
 .exact⟨by show 0+30+_<=_;omega,trivial⟩
 have:=h.1 k;refine⟨?_,λd b=>a d b k⟩;show 200+Ha k ds+30+_<=_;grind [Ha]
theorem iM{r:I}(d:p<r)(c:r<=q)(h:Kq GK JE [] r es q):Kp p (.map es) q:=λk=>by
 have a:=h.2 nofun
 obtain _|k:=k
 .exact⟨by show 0+30+_<=_;omega,trivial⟩
 have:=h.1 k;refine⟨?_,λe b=>⟨(a e b).1,(a e b).2 k⟩⟩;show 200+GK k es+30+_<=_;grind [GK]
theorem xl(bs t:A1)(lim depth:J)(g:I)(i:¬(g:J)=depth->Mb bs t lim rd rd')(c:AU)(p:I)(h:p+1<=K bs):Tm bs t lim False p (Kp p) (Kf bs lim depth g rd (λc p=>GV ⟨Ao,bs,0,0,lim,p,0⟩ c) c<|p+1)<|Kf (bs++t) lim depth g rd' (λc p=>GV ⟨Ao,bs++t,0,0,lim,p,0⟩ c) c<|p+1:=by
 unfold Kf;refine Tm.aq (λ_=>?_) λ_=>Tm.aq (λ_=>?_) λ_=>Tm.aq (λ_=>?_) λ_=>Tm.aq (λ_=>?_) λ_=>Tm.aq (λ_=>?_) λ_=>Tm.aq (λ_=>?_) λ_=>Tm.aq (λo=>?_) λ_=>?_
 .refine Tm.ai (q:=p+1) ?_ E h;refine Tm.ac (Pe _ (p+1) h) (λ_ z=>Bf) (λ_ z=>Bf) λ_ q d b _ a=>⟨_,λz=>Bf,?_⟩;rw[a];refine Tm.ok (Cr _) b<|O7 (λ_=>rfl) iE E
 .refine Tm.ai (q:=p+1) ?_ E h;refine Tm.ac (Pe _ (p+1) h) (λ_ z=>Bf) (λ_ z=>Bf) λ_ q d b _ a=>⟨_,λz=>Bf,?_⟩;rw[a];refine Tm.ok (Cr _) b<|O7 (λ_=>rfl) (λk=>Um k) E
 .refine Tm.ai (q:=p+1) ?_ E h;refine Tm.ac (Pe _ (p+1) h) (λ_ z=>Bf) (λ_ z=>Bf) λ_ q d b _ a=>⟨_,λz=>Bf,?_⟩;rw[a];refine Tm.ok (Cr _) b<|O7 (λ_=>rfl) (λk=>Um k) E
 .refine Tm.ai (q:=p+1) ?_ E h;refine Tm.ac (Un (K bs+1-(p+1)) (K (bs++t)+1-(p+1)) (p+1) [] 0 h E E) (λ_ z=>Bf) (λ_ z=>Bf) λl q d b e a=>⟨_,λz=>Bf,?_⟩;have n:=(Ul bs lim _ _ [] 0 _ _ (Cr 0) FK.nil Z a).1;grind [Tm.ok,iK]
 .refine Tm.aq (λ_=>Tm.a2 E E) λf=>?_;refine Tm.ai (q:=p+1) ?_ E h;refine Tm.ac (iI 93 (xh<|i f) [] h) (λ_ z=>Bf) (λ_ z=>Bf) λj q d b e a=>⟨_,λz=>Bf,?_⟩;rw[a];refine Tm.ok (Cr _) b<|iL (VX p) d e
 .refine Tm.aq (λ_=>Tm.a2 E E) λf=>?_;refine Tm.ai (q:=p+1) ?_ E h;refine Tm.ac (iI 125 (xj<|i f) ([],[]) h) (λ_ z=>Bf) (λ_ z=>Bf) λm q d b e a=>⟨_,λz=>Bf,?_⟩;rw[a];refine Tm.ok (Cr _) b<|iM (VX p) d e
 .dsimp only;refine Tm.ai (q:=p+1) ?_ E h;refine Tm.ac (xe h) (λ_ z=>Bf) (λ_ z=>Bf) λz q d b _ a=>⟨_,λz=>Bf,?_⟩;rw[a];refine Tm.ok (Cr _) b (O7 (λ_=>rfl) (iD (X3 (by assumption) a).1) E)
 grind [Tm.a2]
theorem xm(g:I):∀(a:I),(a:J)<=depth->depth<a+g->Mb bs t lim (Fw bs lim depth (λc p=>GV ⟨Ao,bs,0,0,lim,p,0⟩ c) g a) (Fw (bs++t) lim depth (λc p=>GV ⟨Ao,bs++t,0,0,lim,p,0⟩ c) g a):=by
 induction g with
 |zero=>intro a b d;omega
 |succ g i =>
  intro a b d p e;unfold Fw;refine Tm.a7 e λc f h=>?_;grind [xl]
def Yc:∀(k p a:I),p<=K bs->Tm bs t lim True p (λ_ q=>q=p+k) (CZ bs lim k p a) (CZ (bs++t) lim k p a)
 |0,p,a,h=>Tm.ok (Cr _) h rfl
 |k+1,p,a,h=>by unfold CZ;refine Tm.a7 h λc d b=>?_;exact((Yc k (p+1) _ b).a3 λ_ q _ _ e=>E).ai E b
theorem iN:∀(k p:I) (b:A1),p<=K bs->Tm bs t lim True p (λl q=>K l+p=K b+q) (EV bs lim k p b) (EV (bs++t) lim k p b)
 |0,p,a,h=>Tm.ok (Cr _) h rfl
 |k+1,p,b,h=>by unfold EV;refine Tm.a7 h λc f d=>?_;refine((iN k (p+1) _ d).a3 λ_ q _ _ e=>?_).ai E d;grind
theorem Yd{p0:I}:∀(k p:I) (d:A1) (f:I),p0<=p->p<=K bs->(p0=p->f=K d)->Tm bs t lim True p0 (λl q=>K l+p=K d+q) (Ds bs lim k p d f) (Ds (bs++t) lim k p d f)
 |0,p,d,f,h0,h,hw=>by grind [Ds,Tm.ok,Tm.a2]
 |k+1,p,d,f,h0,h,hw=>by
  unfold Ds;by_cases i:p<K bs
  .have e:(bs++t)[p]?=bs[p]?:=Hg i;obtain⟨c,g⟩:∃c,bs[p]?=H c:=⟨_,D7 i⟩
   rw[e,g];refine Tm.aq (λ_=>Tm.a2 E E) λ_=>Tm.aq (λ_=>Tm.a2 E E) λ_=>?_;refine(Yd k (p+1) _ _ E i E).a3 λl q _ _ e=>?_;grind
  have e:bs[p]?=Ao:=I6 E;obtain rfl:p=K bs:=E;rw[e];refine⟨E,AG ⟨E,λa b=>?_⟩,λ_=>E⟩;obtain⟨c,g⟩:=Y8 b;rw[g];grind
theorem xn(b:I->I×I×I)(bs t:A1)(lim:J)(ks:AJ A1)(p:I)(h:p<=K bs):Tm bs t lim True p (λl q=>FK l/\K l+p+1<=q) (El b bs lim ks p)<|El b (bs++t) lim ks p:=by unfold El;refine Tm.a7 h λc k d=>Tm.aq (λ_=>?_) λ_=>Tm.a2 E E;refine Tm.a6 ((Yc _ (p+1) _ d).ai (OJ p) d) (λ_ z=>Bf) (λ_ z=>Bf) λx q _ g e a f=>?_;rw[a,f];dsimp only;refine Tm.a6 (Yd x q [] 0 E g λ_=>rfl) (λ_ z=>Bf) (λ_ z=>Bf) λl r _ m i a f=>?_;have j:=(Y7 bs lim _ _ [] 0 _ _ (Cr 0) FK.nil Z a).1;grind [Tm.a2,Tm.ok]
theorem iO(c:Mb bs t lim rd rd'):∀(k p:I) (acc:AJ<|AM Unit),p<=K bs->Tm bs t lim False p (Kq Ha JL acc p) (GX rd k p acc) (GX rd' k p acc)
 |0,p,acc,h=>Tm.ok (Cr _) h ⟨λ_=>Cr _,id⟩
 |k+1,p,acc,h=>by
  unfold GX;refine Tm.ac (c p h) (λ_ z=>Bf) (λ_ z=>Bf) λd q _ f e g=>⟨_,λz=>Bf,?_⟩;rw[g];dsimp only;refine(iO c k q _ f).a3 λb y _ _ a=>⟨λj=>?_,λh=>a.2 λx m j=>?_⟩
  .have i:=e j;have l:=a.1 j;grind [Yb]
  grind [JL,Kp]
theorem iP{kf kf':AJ A1->I->A5 A1}(g:∀a p,p<=K bs->Tm bs t lim True p (λl q=>FK l/\K l+p+1<=q) (kf a p) (kf' a p))(i:Mb bs t lim rd rd'):∀(k p:I) (a:AJ A1) (acc:AJ<|Lit×AM Unit),p<=K bs->Tm bs t lim False p (Kq GK JE acc p) (GJ kf rd k p a acc) (GJ kf' rd' k p a acc)
 |0,p,a,acc,h=>Tm.ok (Cr _) h ⟨λ_=>Cr _,id⟩
 |k+1,p,a,acc,h=>by
  unfold GJ;refine Tm.ac (g a p h) (λ_ z=>Bf) (λ_ z=>Bf) λl q _ m o c=>⟨_,λz=>Bf,?_⟩;rw[c];dsimp only;refine Tm.ac (i q m) (λ_ z=>Bf) (λ_ z=>Bf) λd r _ n e c=>⟨_,λz=>Bf,?_⟩;rw[c];dsimp only;refine(iP g i k r _ _ n).a3 λb y _ _ f=>⟨λj=>?_,λh=>f.2 λx v=>?_⟩
  .have s:=e j;have u:=f.1 j;grind [iG]
  grind [JE,D9,Kp]
theorem Ye(a:J){w:J}{x:I}(b:p<q)(c:q<=K bs){R:AS (J×J)<|AM Unit×I}(h:R=match FE a w x q with|.error e=>.error e|.ok z=>.ok (.lit<|.int Y z,q)):Tm bs t lim False p (Kp p) R R:=by
 rw[h];rcases e:FE a w x q with f|z
 .grind [FE,Tm.a2]
 exact Tm.ok E c<|O7 (λ_=>rfl) (iD<|dt e) b
theorem xo(bs t:A1)(lim:J){li li':I->I->AS (J×J) (AJ (AM Unit)×I)}{ma ma':I->I->AS (J×J) (AJ (Lit×AM Unit)×I)}(d w x p q:I)(b:p<q)(a:q<=K bs)(hl:d=9->Tm bs t lim False q (Kq Ha JL [] q) (li x q) (li' x q))(h:d=10->Tm bs t lim False q (Kq GK JE [] q) (ma x q) (ma' x q)):Tm bs t lim False p (Kp p) (Gm bs lim li ma d w x q)<|Gm (bs++t) lim li' ma' d w x q:=by
 unfold Gm;split
 .exact Tm.ok E a<|O7 (λ_=>rfl) (λk=>Um k) b
 .exact Tm.ok E a<|O7 (λ_=>rfl) (λk=>Um k) b
 .exact Ye 4 b a Z
 .exact Ye 5 b a Z
 .exact Ye 6 b a Z
 .refine Tm.ai (q:=q) ?_ E a;refine Tm.ac (iN x q [] a) (λ_ z=>Bf) (λ_ z=>Bf) λl r f g e c=>⟨_,λz=>Bf,?_⟩;grind [Tm.ok,xk]
 .refine Tm.ai (q:=q) ?_ E a;refine Tm.ac (Yd x q [] 0 (Cr _) a λ_=>rfl) (λ_ z=>Bf) (λ_ z=>Bf) λl r f g e c=>⟨_,λz=>Bf,?_⟩;have m:=(Y7 bs lim _ _ [] 0 _ _ (Cr 0) FK.nil Z c).1;grind [Tm.ok,iK]
 .refine Tm.ai (q:=q) ?_ E a;refine Tm.ac (hl Z) (λ_ z=>Bf) (λ_ z=>Bf) λi r f g e c=>⟨_,λz=>Bf,?_⟩;grind [Tm.ok,iL]
 .refine Tm.ai (q:=q) ?_ E a;refine Tm.ac (h Z) (λ_ z=>Bf) (λ_ z=>Bf) λj r f g e c=>⟨_,λz=>Bf,?_⟩;grind [Tm.ok,iM]
 exact Tm.ok E a<|O7 (λ_=>rfl) iE b
theorem iQ(b:I->I×I×I)(g:I):∀(a:I),(a:J)<=depth->depth<a+g->Mb bs t lim (DR b bs lim depth g a) (DR b (bs++t) lim depth g a):=by
 induction g with
 |zero=>intro a f h;omega
 |succ g s =>
  intro a f h p i;unfold DR;refine Tm.a7 i λc l d=>Tm.aq (λ_=>Tm.a2 E E) λ_=>Tm.aq (λ_=>Tm.a2 E E) λn=>?_;have k:(b c.toNat).1=9\/(b c.toNat).1=10->Mb bs t lim (DR b bs lim depth g<|a+1) (DR b (bs++t) lim depth g<|a+1):=λj=>B9;refine Tm.a6 ((Yc _ (p+1) _ d).ai (OJ p) d) (λ_ z=>Bf) (λ_ z=>Bf) λx q _ m e r o=>?_;grind [xo,iO,iP,xn]
def Uo(n:AH)(r:AS (AI×AI)<|AM Unit):AS (AI×AI)<|AM Unit×AH:=match r with
 |.error e=>.error e
 |.ok d=>.ok (d,n)
def xp{sp sp':I->A5 Unit}{th th':I->AS (J×J) (AM Unit×I)}(m:∀p,p<=K bs->Tm bs t lim False p (λ_ _=>True) (sp p) (sp' p))(q:Mb bs t lim th th'):Tm bs t lim False 0 (λd _=>∀k,DJ k d+30<=400*K bs/\F8 k d) (Uo (K bs)<|M5 sp th bs lim)<|Uo (K<|bs++t)<|M5 sp' th' (bs++t) lim:=by
 unfold M5;refine Tm.ac (m 0<|Ex _) (λ_ z=>keB) (λ_ z=>keB) λ_ r _ n _ g=>⟨_,λz=>Bf,?_⟩;rw[g];dsimp only;refine Tm.ac (q r n) (λ_ z=>keB) (λ_ z=>keB) λd s _ o i g=>⟨_,λz=>Bf,?_⟩;rw[g];dsimp only;refine Tm.ac (m s o) (λ_ z=>keB) (λ_ z=>keB) λ_ f _ u _ g=>⟨_,λz=>Bf,?_⟩;rw[g];dsimp only;unfold Li;dsimp only;by_cases l:f<K bs
 .have e:(bs++t)[f]?=bs[f]?:=Hg l;obtain⟨c,h⟩:∃c,bs[f]?=H c:=⟨_,D7 l⟩
  rw[e,h];dsimp only;by_cases j:(f:J)=lim
  .rw[Cp j];exact Tm.a2 E E
  rw[Cl j];exact Tm.a2 E E
 have e:bs[f]?=Ao:=I6 E;obtain rfl:f=K bs:=E;rw[e];refine⟨Cr _,Cr _,λk=>⟨AY<|(i k).1,(i k).2⟩,AG ⟨id,Z,λa b=>?_⟩⟩;obtain⟨c,h⟩:=Y8 b;rw[h];subst a;dsimp only;rw[Cp rfl];rfl
def xr(fm:J)(t:A1){d:J}(lim:J)(b:0<=d):Mb bs t lim (Ev fm bs d lim)<|Ev fm (bs++t) d lim:=λp a=>by unfold Ev;exact Tm.aq (λ_=>xm (d.toNat+1) 0 E E p a) λ_=>Tm.aq (λ_=>iQ E7 (d.toNat+1) 0 E E p a) λ_=>iQ DD (d.toNat+1) 0 E E p a
theorem Yf(fm:J)(bs t:A1){d:J}(lim:J)(a:0<=d):Tm bs t lim False 0 (λd _=>∀k,DJ k d+30<=400*K bs/\F8 k d) (Uo (K bs)<|DE fm bs d lim)<|Uo (K<|bs++t)<|DE fm (bs++t) d lim:=by unfold DE;refine xp (λp b=>?_)<|xr fm t lim a;grind [JK,Qx,Tm.ok]
def iR(t:A1){d:J}(b:0<=d){en:J}(h:DE fm bs d lim=.error (en,pl))(c:¬pl=K bs):pl<K bs/\DE fm (bs++t) d lim=.error (en,pl):=by
 have:=Yf fm bs t lim b;rw[h]at this;obtain⟨f,a,_⟩:=this;rcases a with a|a
 .refine⟨E,?_⟩;rcases h3:DE fm (bs++t) d lim with e|d
  .rw[h3]at a;cases a;rfl
  rw[h3]at a;cases a
 exact absurd a.1 c
def Qy{d:J}(a:0<=d){x:A2}(h:DE fm bs d lim=.ok x)(k:I):DJ k x+30<=400*K bs/\F8 k x:=by have:=Yf fm bs [] lim a;rw[h]at this;exact this.2.2.1 k
def xt{d:J}(a:0<=d){x:A2}(h:DE fm bs d lim=.ok x):DJ k x+30<=400*K bs:=(Qy a h k).1
theorem iS{s:A1}{d:J}(i:0<=d)(hl:0<=lim)(h:lim.toNat<K s):∃g c,DE fm (s.take<|lim.toNat+1) d lim=.error (g,c)/\c<=lim:=by
 have j:K (s.take lim.toNat)=lim.toNat:=B9;have:=Yf fm (s.take lim.toNat) [s[lim.toNat]] lim i;rw[List.take_append_getElem]at this;have b:lim=K (s.take lim.toNat):=E;have k:K (s.take<|lim.toNat+1)=lim.toNat+1:=B9;rcases h3:DE fm (s.take<|lim.toNat+1) d lim with e|x
 .refine⟨e.1,e.2,Z,?_⟩;rw[h3]at this;rcases h4:DE fm (s.take lim.toNat) d lim with f|x
  .rw[h4]at this;rcases this.2.1 with a|⟨_,a⟩
   .cases a;have:=this.1;omega
   cases a b Ba;exact OH _
  rw[h4]at this;rcases this.2.2.2 with a|⟨_,_,a⟩
  .cases a
  cases a b Ba;exact OH _
 rw[h3]at this;rcases h4:DE fm (s.take lim.toNat) d lim with f|x
 .rw[h4]at this;rcases this.2.1 with a|⟨_,a⟩
  .cases a
  cases a b Ba
 rw[h4]at this;rcases this.2.2.2 with a|⟨_,_,a⟩
 .injection a with a;grind
 cases a b Ba
theorem iT(fm:J)(s:A1)(d lim:J)(a:0<=d)(hl:0<=lim):DE fm (s.take<|lim.toNat+1) d lim=DE fm s d lim:=by
 by_cases h:K s<=lim.toNat+1
 .rw[Ns h]
 obtain⟨c,f,b,e⟩:=iS (fm:=fm) (s:=s) a hl E;have:=iR (s.drop<|lim.toNat+1) a b B9;simp_all
structure Qz(W:Ap)(v:Aq)(cur:A1)(V:Ap):Prop where
 a2:Cn V (Au (Av W)) v cur
 ac:A0 W V
def Qz.ai(h:Qz W v cur V)(a:Cn V' (O<|U W) v'<|cur++l)(hb:Below (O<|U W) V V'):Qz W v' (cur++l) V':=⟨a,h.ac.trans hb⟩
def xu{b:I}(h:Cn W b v l):Cn {W with drawn:=W.drawn+1} b v l:=h
theorem iU(W:X)(hl:K l<=150000000):Ar As 119 #[Ae ⟨Aw l⟩] W<|Eg (qT l) W:=by
 obtain⟨R,y⟩:=CC<|qT l;rw[AE y];have ae:D<|Qz W (G (Aa<|O<|U W) 1 1) [34]<|Az W<|M #[C Am 34] 5:=by refine⟨⟨⟨Z,AG ⟨O<|U W,1,#[C Am 34],Z,Cr _,Cj _,Cr _,B8,Z,Z⟩⟩,Ba,_,_,_,Z⟩,Cm⟩
 go_enter func119,ntmps119;go_wp2
 go_loopg[3,4] (K l) (λg zv zi wr=>∃(i:I) (a:A4) (n c:I) (f:A1),zv=G a n c/\zi=C Y i/\D (i+g=K l)/\D (f=[34]++(l.take i).flatMap qB)/\D (Qz W (G a n c) f wr))
 grind [D];obtain⟨i,a,n,c,f,rfl,rfl,s,aa,k⟩:=hrel;have af:K f<=6*i+1:=by grind [D,Y5]
 have ag:i<=K l:=AY<|AE s;obtain _|g:=gk
 .have ad:¬(i:J)<(K l:J):=AY<|AE s;have L:D<|f++[34]=R:=by show _=_;rw[<-AE y,AE aa,Ns<|AY<|AE s];rfl
  go_wp2_with(first|(at_builtin;refine Y4 53 54 [34] Z Z Z Z Z k.a2 B7 B8 ?_;intro q t r u j m;have ab:=wY j Ba;rw[AE L]at ab;have o:=T<|k.ai j m))
  go_ret;exact⟨Z,o.ac⟩
 have ad:(i:J)<(K l:J):=AY<|AE s;obtain⟨b,hb⟩:∃b,l[i]?=H b:=⟨_,D7<|AY<|AE s⟩
 have ac:=Et hb;have HN:D<|f++qB b=[34]++(l.take<|i+1).flatMap qB:=by grind [D,S7]
 by_cases h1:b.toNat=34\/b.toNat=92
 .have p:D<|f++[92,b]=[34]++(l.take<|i+1).flatMap qB:=kfw;have d:(((b.toNat:J)==34)=AP)\/(((b.toNat:J)==34)=AQ/\((b.toNat:J)==92)=AP):=B9;rcases d with z|⟨z,Q⟩
  all_goals
   go_wp2_with(first|(at_builtin;refine Y4 29 33 [92,b] Z Z Z Z Z k.a2 B7 Ba ?_;intro q t r u j m;have o:=T<|k.ai j m))
   go_roundg g;exact⟨i+1,_,_,_,_,Z,Bb,B9,p,o⟩;omega
 have z:((b.toNat:J)==34)=AQ:=B7;have Q:((b.toNat:J)==92)=AQ:=B7;by_cases h2:b.toNat<32
 .have p:D<|f++[92,117,48,48,Ep<|b.toNat/16,Ep<|b.toNat%16]=[34]++(l.take<|i+1).flatMap qB:=kfw;have d3:(b.toNat:J)<32:=E;have F:D<|IntKind.u8.wrap ((b.toNat:J).tdiv 16)=((b.toNat/16:I):J):=by grind [D,w8]
  have N:D<|(b.toNat:J).tmod 16=(b.toNat:J)%16:=ZR E;have w:=T ac;have A:=T λV=>iz (b.toNat/16) E V;have B:=T λV=>iz (b.toNat%16) E V
  go_wp2_with fail
  refine Dl (S:=λ_=>True) trivial B6 λe=>Cb 0 40 (G a n c) e <| Cb 1 41 (Ae ⟨Aw l⟩) e <| Cb 2 42 (C Y i) e <| Ch 3 43 (C Am b.toNat) Z (λh _=>Qw (.tmp 41) (.tmp 42) Z B6 B6<|w h) e <| Ch 4 44 (C Am ((b.toNat/16:I):J)) Z (λh _=>by go_simp<;>exact F) e ?_;refine Ch 5 45 (C Am (Ep<|b.toNat/16).toNat) Z (λh _=>Qw (.const<|Ae ⟨#[48,49,50,51,52,53,54,55,56,57,97,98,99,100,101,102]⟩) (.tmp 44) Z B6 B6<|A h) e <| Cb 6 46 (Ae ⟨Aw l⟩) e <| Cb 7 47 (C Y i) e <| Ch 8 48 (C Am b.toNat) Z (λh _=>Qw (.tmp 46) (.tmp 47) Z B6 B6<|w h) e <| Ch 9 49 (C Am ((b.toNat%16:I):J)) Z (λh _=>by go_simp<;>exact N) e ?_;refine Ch 10 50 (C Am (Ep<|b.toNat%16).toNat) Z (λh _=>Qw (.const<|Ae ⟨#[48,49,50,51,52,53,54,55,56,57,97,98,99,100,101,102]⟩) (.tmp 49) Z B6 B6<|B h) e ?_;generalize Ep (b.toNat/16)=x1 at *;generalize Ep (b.toNat%16)=x2 at *;refine CH 11 λP v=>?_;go_simp;refine v.out _ _ e λ_=>?_;refine CH 12 λP v=>?_;rw[Cp B6];refine iy (x:=40) (l:=[92,117,48,48,x1,x2]) Z Z Z Z (xu k.a2) B7 Ba ?_;intro q t r u j m;refine v.out _ _ e λ_=>?_;refine Cb 13 3 (G q t r) e <| CK ?_;have o:D<|Qz W (G q t r) (f++[92,117,48,48,x1,x2]) u:=⟨j,k.ac.drew.trans m⟩
  go_wp2;go_roundg g;exact⟨i+1,_,_,_,_,Z,Bb,B9,p,o⟩;omega
 have p:D<|f++[b]=[34]++(l.take<|i+1).flatMap qB:=kfw;have d3:¬(b.toNat:J)<32:=E
 go_wp2_with(first|(at_builtin;refine Y4 12 16 [b] Z Z Z Z Z k.a2 B7 Ba ?_;intro q t r u j m;have o:=T<|k.ai j m))
 go_roundg g;exact⟨i+1,_,_,_,_,Z,Bb,B9,p,o⟩;omega
theorem Yg(x:I)(h:x<=9):(AW<|48+x).toNat=48+x:=Hy E
theorem iV(d : -9<=z)(e:z<=9):Ar As 118 #[C Y z] W<|Eg (Lib.itoa z) W:=by
 have i:AR (-9<=z)=AP:=keo;have j:AR (z<=9)=AP:=kf8;by_cases a:z<0
 .have g:AR (z<0)=AP:=Bl;obtain⟨b,f⟩:=DF<|AW<|48+z.natAbs;have h:=JR W (wrap64 (48-z)%256) b (by grind [Yg,wrap64]);have c:D<|Lib.itoa z=[45,b]:=by grind [D,Lib.itoa,Lib.decDigits]
  clear d e a f;go_enter func118,ntmps118;go_wp2;go_ret;unfold Eg;rw[AE c];exact⟨Z,Cm⟩
 have g:AR (z<0)=AQ:=Bl;obtain⟨b,f⟩:=DF<|AW<|48+z.toNat;have h:=JR W (wrap64 (48+z)%256) b (by grind [Yg,wrap64]);have c:D<|Lib.itoa z=[b]:=by grind [D,Lib.itoa,Lib.decDigits]
 clear d e a f;go_enter func118,ntmps118;go_wp2;go_ret;unfold Eg;rw[AE c];exact⟨Z,Cm⟩
theorem xv(z:J)(h:9<z\/z < -9):Lib.itoa z=Lib.itoa (z.tdiv 10)++[AW<|48+z.natAbs%10]:=by
 rcases h with h|h
 .grind [Lib.itoa,Lib.decDigits]
 have e:z.tdiv 10 = -((-z)/10):=B9;grind [Lib.itoa,Lib.decDigits]
theorem iW(z:J):z.tdiv 10=if 0<=z then z/10 else -(-z/10):=B9
theorem xw(B:9<z\/z < -9)(r : -9223372036854775808<=z)(s:z<=9223372036854775807)(F:∀V,Ar As 118 #[C Y<|z.tdiv 10] V<|Eg (Lib.itoa<|z.tdiv 10) V):Ar As 118 #[C Y z] W<|Eg (Lib.itoa z) W:=by
 obtain⟨m,v⟩:∃m:I,z.natAbs%10=m:=⟨_,rfl⟩
 have Q:m<=9:=E;obtain⟨b,u⟩:=DF<|AW<|48+m;have L:D<|(b.toNat:J)=48+m:=by grind [D,Yg]
 have e:D<|Lib.itoa z=Lib.itoa (z.tdiv 10)++[b]:=by grind [D,xv]
 have x:=iW z;have A:z.tmod 10=z-10*z.tdiv 10:=B9;have f:D<|K (Lib.itoa<|z.tdiv 10)<=21:=Lib.itoa_length_le _ E E;have p:D<|IntKind.i64.wrap (z.tdiv 10)=z.tdiv 10:=Ie E;have n:D<|IntKind.i64.wrap (48+(m:J))=b.toNat:=by grind [D,Ie]
 have o:D<|IntKind.u8.wrap (b.toNat:J)=b.toNat:=w8 _ (by grind [D]);have l:D<|(9<z/\z.tmod 10=m)\/(z < -9/\z.tmod 10 = -(m:J)/\0<m)\/(z < -9/\z.tmod 10=m/\m=0):=by grind [D]
 obtain⟨g,k⟩:=CC<|Lib.itoa (z.tdiv 10)++[b];rw[AE e,AE k];have R:¬(K (Lib.itoa<|z.tdiv 10)+1>9223372036854775807):=AY<|AE f;have d:(AR (-9<=z)=AP/\AR (z<=9)=AQ/\z.tmod 10=m/\AR ((m:J)<0)=AQ)\/(AR (-9<=z)=AQ/\z.tmod 10 = -(m:J)/\AR (-(m:J)<0)=AP/\AR (0<m)=AP)\/(AR (-9<=z)=AQ/\z.tmod 10=m/\AR ((m:J)<0)=AQ):=B9;clear x A u v r s B l f e;rcases d with⟨h,N,j,i⟩|⟨h,j,i,P⟩|⟨h,j,i⟩
 all_goals
  go_enter func118,ntmps118
  go_wp2_with fail
  refine Dl (S:=λ_=>True) trivial B6 λa=>Cb 0 29 (C Y z) a <| Ch 1 30 (C Y<|z.tdiv 10) Z (λc _=>by go_simp<;>exact p) a ?_;refine Cb 3 32 (C Y m) a <| Ch 4 33 (C Y b.toNat) Z (λc _=>by go_simp<;>exact n) a ?_;refine Ch 5 34 (C Am b.toNat) Z (λc _=>by go_simp<;>exact o) a ?_;generalize z.tdiv 10=q at *;refine O4 2 6 7 31 35 36 b ⟨Z,Z,Z⟩ Z B6 (λ_ _ _=>⟨B6,B6,B6⟩) (λ_=>⟨B6,B6⟩) F (λ_ _=>trivial) λV y t=>?_;refine Ch 8 37 (CX g) Z (λc _=>by unfold CX;go_simp;grind [D,EX]) a <| Cb 9 2 (CX g) a <| CK ?_;go_wp2;go_ret;exact⟨B6,(CT (w:=W)).drew.trans t⟩
def iX:∀(n:I) (z:J),z.natAbs<=n -> -9223372036854775808<=z->z<=9223372036854775807->∀W,Ar As 118 #[C Y z] W (Eg (Lib.itoa z) W)
 |0,z,h,_,_,W=>iV E E
 |n+1,z,h,h1,h2,W=>by
  by_cases a : -9<=z/\z<=9
  .exact iV a.1 a.2
  refine xw E h1 h2 λV=>iX n (z.tdiv 10) ?_ ?_ ?_ V
  all_goals(rw[iW];split<;>omega)
def Dm{α:Type}(T:α->A1):AJ α->A1
 |[]=>[]
 |d::ds=>T d++ds.flatMap λe=>44::T e
theorem Sb{α:Type}(T:α->A1){l:AJ α}{d:α}(a:l[0]?=H d):Dm T (l.take 1)=T d:=by cases l<;>grind [Dm]
theorem Sc{α:Type}(T:α->A1){l:AJ α}(c:0<k){d:α}(b:l[k]?=H d):Dm T (l.take<|k+1)=(Dm T (l.take k)++[44])++T d:=by
 obtain _|⟨a,l⟩:=l
 .simp at b
 cases k<;>grind [Dm,List.take_add_one]
theorem Sd{α:Type}(T:α->A1)(l:AJ α)(k:I):K (Dm T<|l.take k)<=K (Dm T l):=by
 obtain _|⟨a,l⟩:=l
 .simp
 cases k<;>grind [Dm,List.take_append_drop]
def Yh(W:Ap)(base:AH)(x:Aq)(ys:A1):Prop:=∀(V:Ap) (v:Aq) (bs:A1),Below base W V->Cn V base v bs->At bs+At ys<=999999999->Ar As 113 #[v,x] V λe W'=>∃v',e=Ak v'/\Cn W' base v' (bs++ys)/\Below base V W'
def MW(T:A2->A1)(e:Lit×AM Unit):A1:=(qT (D9 e.1)++[58])++T e.2
def JS:AH->A2->A1
 |0,_=>[]
 |k+1,d=>match d with
  |.lit (.bool b)=>bif b then[116,114,117,101]else[102,97,108,115,101]
  |.lit (.int Al z)=>Lib.itoa z
  |.lit (.string l)=>qT l
  |.agg ds=>([91]++Dm (JS k) ds)++[93]
  |.map es=>([123]++Dm (MW<|JS k) es)++[125]
  |_=>[110,117,108,108]
def Ip(h:AK)(l:A1)(W:Ap)(e:Ending)(W':Ap):Prop:=e=Ak (Af #[Ae ⟨Aw<|bif h then[]else l⟩,Ah<|!h])/\A0 W W'
def Yi(a:J)(b:(a=0/\l=[110,117,108,108])\/(a=1/\l=[102,97,108,115,101])\/(a=2/\l=[116,114,117,101])):Ar As 85 #[.agg<|Cg a 0 ⟨#[]⟩ Cq Cq] W<|Ip AQ l W:=by
 unfold Cg Cq;rcases b with⟨rfl,rfl⟩|⟨rfl,rfl⟩|⟨rfl,rfl⟩
 all_goals
  go_enter func85,ntmps85;go_wp2;refine CS (FP results85 _ _ _) Z ?_;exact⟨Z,Cm⟩
def xy{m:A1}:Ar As 85 #[.agg<|Cg 5 0 ⟨Aw l⟩ Cq Cq] W<|Ip AP m W:=by unfold Cg Cq;go_enter func85,ntmps85;go_wp2;refine CS (FP results85 _ _ _) Z ?_;exact⟨Z,Cm⟩
def xz(b : -9223372036854775808<=z)(d:z<=9223372036854775807):Ar As 85 #[.agg<|Cg 3 z ⟨#[]⟩ Cq Cq] W<|Ip AQ (Lib.itoa z) W:=by
 have a:D<|EQ W (Cg 3 z ⟨#[]⟩ Cq Cq)<|Az W<|M (Cg 3 z ⟨#[]⟩ Cq Cq) 101:=Kn;have c:=iX z.natAbs z (Cr _) b d;generalize Lib.itoa z=R at *;unfold Cg Cq at *;go_enter func85,ntmps85
 go_wp2_with(first|(go_at_call 118;refine Ce (c _) ?_;rintro e g ⟨rfl,f⟩))
 refine CS (FP results85 _ _ _) Z ?_;exact⟨rfl,(a.next f).ac⟩
def xA(hl:K l<=150000000):Ar As 85 #[.agg<|Cg 4 0 ⟨Aw l⟩ Cq Cq] W<|Ip AQ (qT l) W:=by
 have a:D<|EQ W (Cg 4 0 ⟨Aw l⟩ Cq Cq)<|Az W<|M (Cg 4 0 ⟨Aw l⟩ Cq Cq) 101:=Kn;have c:=λV=>iU V hl;generalize qT l=R at *;unfold Cg Cq at *;go_enter func85,ntmps85
 go_wp2_with(first|(go_at_call 119;refine Ce (c _) ?_;rintro e d ⟨rfl,b⟩))
 refine CS (FP results85 _ _ _) Z ?_;exact⟨rfl,(a.next b).ac⟩
theorem iY(b:AU):1<=K (qB b):=kfw
theorem iZ(x y:AU):((⟨#[x]⟩:AT)++⟨Aw l⟩)++⟨#[y]⟩=⟨Aw<|([x]++l)++[y]⟩:=kfI
theorem Up{α:Type}(T:α->A1){l:AJ α}{d:α}(a:l[i]?=H d):K (Dm T<|l.take i)+K (T d)<=K (Dm T l):=by
 have h:=Sd T l<|i+1;by_cases b:0<i
 .grind [Sc]
 obtain rfl:i=0:=E;rw[Sb T a]at h;rw[ST];show 0+_<=_;omega
theorem j0{α:Type}(p:α->AK)(l:AJ α)(i:I)(d:α)(a:l[i]?=H d):(l.take<|i+1).any p=((l.take i).any p||p d):=BV
theorem yM(g:I)(l:A1)(hl:l≠[]):IT (g+1) l=IS (decodeL l).1++IT g (l.drop (decodeL l).2):=by
 obtain _|⟨b,t⟩:=l
 .exact absurd Z hl
 rfl
theorem Yz(s:AT)(hl:K bs+K (Fx s.data.toList)<=999999999)(h:Cn W base v bs):Ar As 152 #[v,.string s] W λag e=>∃q,ag=Ak q/\Cn e base q (bs++Fx s.data.toList)/\Below base W e/\Lw W e:=by
 obtain⟨i0,R,V,a,c⟩:=DL Tryz.infoU8;obtain⟨a6,bi,a7,rfl⟩:=h.2.2;have t:=T h;have be:K s.data.toList=s.size:=Fz;have HJ:D<|K bs+2+K (IT s.size s.data.toList)<=999999999/\Fx s.data.toList=[34]++IT s.size s.data.toList++[34]:=by grind [D,Fx]
 have ba:K bs<=999999999:=E;go_enter func152,ntmps152
 go_wp2_with(first
  |(at_builtin;refine Kd 34 t.1 ?_ (hb:=B1 t.2.1);intro q L d m ab;obtain⟨ah,ae,rfl⟩:=ownsRow_succ d;have ac:=T<|GW ((Cu _ _).alloc t.2.1 _) (t.1.alloc _) m<|B1 t.2.1;have o:D<|Cn L base (G (Aa ah) _ ae)<|bs++[34]:=⟨ME d Z,CE t.2.1 ac.size,_,_,_,Z⟩;have am:=T<|(Uj).trans<|Uk (t.1.alloc _) m))
 have w:D<|IU base W (O<|U L) s 0 (G (Aa ah) (K bs+1) ae) (bs++[34])<|L.iter s 0:=by refine⟨ML o Cm,World.iter_heap _ _ _,ac.alloc o.2.1 _,o.2.1,am.trans<|Uj⟩
 generalize L.iter s 0=W0 at *;generalize O (U L)=N at *
 go_loopg[0] s.size (λg a1 wr=>∃(i:I) (z:A4) (F A:I) (b:A1),a1=G z F A/\D (i<=s.size)/\D (s.size<=i+g)/\D (IU base W N s i (G z F A) b wr)/\D ((bs++[34])++IT s.size s.data.toList=b++IT g (s.data.toList.drop i)))
 grind;obtain⟨i,z,F,A,b,rfl,az,ay,w,HL⟩:=hrel;have Q:D<|K b<=999999998:=by grind [D,List.length_append]
 by_cases h1:i=s.size
 .have HF:D<|(bs++[34])++IT s.size s.data.toList=b:=by grind [iv]
  have ak:=λty=>iu (P:=As) ty w.b E;have aa:=AE Q
  go_wp2_with(first
   |(at_builtin;refine Kd 34 w.a2.1 ?_ (hb:=B1 w.a2.2.1);intro q w3 d m ab;obtain⟨ai,af,rfl⟩:=ownsRow_succ d;have j:=T<|w.ai (l:=[34]) d m))
  go_ret;have he:bs++Fx s.data.toList=b++[34]:=by grind [D]
  rw[he];exact⟨_,Z,j.a2,j.ac,j.a⟩
 have hn:i<s.size:=AY<|AE az;obtain⟨g,rfl⟩:∃g,gk=g+1:=⟨gk-1,AY<|AE ay⟩
 have ak:=λty=>ir (P:=As) ty w.b hn;obtain⟨r,hr⟩:=DF<|(Utf8.decode s i).1;obtain⟨k,hk⟩:=DF<|(Utf8.decode s i).2;rw[hr,hk]at ak;have bh:r<=1114111:=by grind [Lib.rune_le]
 have bb:=Lib.decodeL_drop s i;have bf:s.data.toList.drop i≠[]:=B9;have HC:D<|IT (g+1) (s.data.toList.drop i)=IS r++IT g (s.data.toList.drop<|i+k):=by grind [yM,List.drop_drop]
 have bc:1<=k:=by grind [Lib.decodeL_width]
 have bd:k<=s.size-i:=by grind [Lib.decodeL_le]
 have f:D<|IU base W N s (i+k) (G z F A) b<|wr.putObj N<|.stringIter s<|i+k:=w.next _
 have a2:D<|(bs++[34])++IT s.size s.data.toList=(b++IS r)++IT g (s.data.toList.drop<|i+k):=by grind [D]
 have ad:D<|K b+K (IS r)<=999999998:=by grind [D,List.length_append]
 generalize wr.putObj N (.stringIter s<|i+k)=W2 at *;have aa:=AE Q;by_cases ar:r=34\/r=92
 .rcases ar with rfl|rfl
  .have n:D<|IS 34=[92,34]:=rfl;have aj:=AE ad;have aa:=AE Q
   go_wp2_with(first
    |(at_builtin;refine K7 _ Z _ _ 50 Z base 5 i0 (C Am 0) 1 1 underlying50 R V a c Z B8 _ _ _ Z (f.a2.1.alloc _) ⟨O<|U W2,0,Ao⟩ 2 2 [C Am 92,C Am 34] Z Z (EU) (λal p=>C6) Bc E kfj ?_;intro q w3 d m ab;obtain⟨ai,af,rfl⟩:=ownsRow_succ d;have j:=T<|f.ai (l:=[92,34]) d m))
   go_roundg g
   case measure=>omega
   grind [D]
  have n:D<|IS 92=[92,92]:=rfl;have aj:=AE ad;have aa:=AE Q
  go_wp2_with(first
   |(at_builtin;refine K7 _ Z _ _ 50 Z base 5 i0 (C Am 0) 1 1 underlying50 R V a c Z B8 _ _ _ Z (f.a2.1.alloc _) ⟨O<|U W2,0,Ao⟩ 2 2 [C Am 92,C Am 92] Z Z (EU) (λal p=>C6) Bc E kfj ?_;intro q w3 d m ab;obtain⟨ai,af,rfl⟩:=ownsRow_succ d;have j:=T<|f.ai (l:=[92,92]) d m))
  go_roundg g
  case measure=>omega
  grind [D]
 have a8:((r:J)==34)=AQ:=B7;have a9:((r:J)==92)=AQ:=B7;by_cases ap:r<32
 .have n:D<|IS r=[92,117,48,48]++[Ep<|r/16,Ep<|r%16]:=by grind [IS]
  have aq:(r:J)<32:=E;have a0:(⟨Aw ([92,117,48,48]:A1)⟩:AT).size=4:=rfl
  go_wp2_with(first
   |(at_builtin;refine wpList_append_own_string _ Z _ _ 50 9 Z base 5 i0 underlying50 underlying9 R V a c _ _ _ Z f.a2.1 ⟨[92,117,48,48].toArray⟩ Z BC (by rw[a0];omega) f.a2.2.1 ?_;intro q w5 d ax bg;have j:=T<|f.appS d ax;obtain⟨a4,n4,c4,rfl⟩:=j.a2.2.2))
  have x:=trivial;have y:=T j.drew;have au:K (b++[92,117,48,48])=K b+4:=Ba;have aj:K b+6<=999999998:=by grind [D]
  refine Ei (S:=λ_=>True) B6 ?_;refine Cb 0 35 (G a4 n4 c4) x <| Cb 1 36 (C .i32 r) x <| Ch 2 37 (C .i32 ((r/16:I):J)) Z (λu hZ=>Bh) x <| Ch 3 38 (CP<|Ep<|r/16) Z (λu hZ=>by exact Qw _ _ Z Z B6<|iw (r/16) E) x <| Cb 4 39 (C .i32 r) x <| Ch 5 40 (C .i32 ((r%16:I):J)) Z (λu hZ=>by have z2:=wT ap;go_simp) x <| Ch 6 41 (CP<|Ep<|r%16) rfl (λu hZ=>by exact Qw _ _ rfl rfl B6<|iw (r%16) E) x <| CH 7 λan hK=>?_;refine Kr B6 ?_;refine wV (.tmp 38) (.tmp 41) Z (Ep<|r/16) (Ep<|r%16) B6 B6 ?_;refine hK.out _ _ trivial λ_=>?_;refine CH 8 λan hK=>?_;refine Kr B6 ?_;refine jw (.tmp 35) (.tmp 42) Z underlying50 R V a c Z B8 B6 (y.a2.1.alloc _) 2 2 B6 Z (EU) (λal p=>C6) BC (by rw[au];omega) (by have:=y.a2.2.1;rw[CL];exact VF this) ?_;intro q w6 B av _;obtain⟨g6,ao,rfl⟩:=ownsRow_succ B;have a5:=T<|y.ai (l:=[Ep<|r/16,Ep<|r%16]) B av;refine hK.out _ _ trivial λ_=>?_;refine Cb 9 0 (G (Aa g6) (K (b++[92,117,48,48])+2) ao) trivial <| CK ?_;go_simp;go_wp2;go_roundg g
  case measure=>omega
  grind [D]
 have n:D<|IS r=Ez r:=by grind [IS]
 have aq:¬(r:J)<32:=E;have cA:=Any.utf8_AppendRune_plain Tryz.lays242 B6 base (G z F A) (K b) (b.map CP) (r:J) E E W2 f.a2.1 E f.a2.2.1
 go_wp2_with(first
  |(go_at_call 186;refine cA.mono ?_;rintro ag w3 ⟨v3,rfl,B,bj,aw⟩;rw[WM,LN]at B;have j:=T<|f.ai (l:=Ez r) B aw;obtain⟨a4,n4,c4,rfl⟩:=j.a2.2.2))
 go_roundg g
 case measure=>omega
 grind [D]
theorem yN(T:A2->A1){q:A4}(hF:∀k,F k->k<base)(hl:K bs+K (Dm T ds)+2<=999999999)(hn:K ds<=999999999)(hu:DQ W 89 1 F (Ac q (K ds) cap) (K ds) xs)(aj:∀(i:I) (x:Aq) (d:A2),xs[i]?=H x->ds[i]?=H d->Yh W base x (T d))(ai:∀(i:I) (x:Aq),xs[i]?=H x->∃ao y,x=Ai ao y)(h:Cn W base v bs):Ar As 153 #[v,Ac q (K ds) cap] W λe W'=>∃u,e=Ak u/\Cn W' base u (((bs++[91])++Dm T ds)++[93])/\Below base W W':=by
 obtain⟨au,a2,av,rfl⟩:=h.2.2;have p:=C9 h;have HU:=C9 hu;have HI:=C9 aj;have HF:=C9 ai;go_enter func153,ntmps153
 go_wp2_with(first
  |(at_builtin;refine Kd 91 p.1 ?_ (hb:=B1 p.2.1);intro u w2 m s j;obtain⟨af,ae,rfl⟩:=ownsRow_succ m;have ab:=C9<|GW ((Cu _ _).alloc p.2.1 _) (p.1.alloc _) s<|B1 p.2.1;have aq:D<|Cn w2 base (Ac (Aa af) _ ae)<|bs++[91]:=⟨ME m Z,CE p.2.1 ab.size,_,_,_,Z⟩))
 go_loopg[0,12] (K ds) (λg y ap wr=>∃(k:I) (N:A4) (n P:I),y=Ac N n P/\ap=C Y k/\D (k+g=K ds)/\D (Cn wr base (Ac N n P)<|(bs++[91])++Dm T (ds.take k))/\D (Below base W wr))
 grind [Dm];obtain⟨k,N,n,P,rfl,rfl,a,b,o⟩:=hrel;have am:K ((bs++[91])++Dm T (ds.take k))<=999999998:=by grind [Sd]
 obtain⟨l,HC⟩:=CC<|(bs++[91])++Dm T (ds.take k);rw[AE HC]at b am;obtain _|g:=gk
 .have an:¬(k:J)<K ds:=AY<|AE a;have z:D<|ds.take k=ds:=by grind [D]
  go_wp2_with(first
   |(at_builtin;refine Kd 93 b.1 ?_ (hb:=B1 b.2.1);intro u r m s j;obtain⟨S,R,rfl⟩:=ownsRow_succ m;have f:=C9<|GW ((Cu _ _).alloc b.2.1 _) (b.1.alloc _) s<|B1 b.2.1;have w:D<|Cn r base (Ac (Aa S) _ R)<|l++[93]:=⟨ME m Z,CE b.2.1 f.size,_,_,_,Z⟩))
  go_ret;have he:l++[93]=bs++91::(Dm T ds++[93]):=by grind [D]
  have A:=AE w;rw[he]at A;exact⟨_,Z,A,Cs o f⟩
 have al:k<K ds:=AY<|AE a;have an:(k:J)<K ds:=E;have L:=HU.same (V':=wr) (G:=F) (λ_ h=>h) λaa hj=>Co o aa<|hF aa hj;obtain⟨q0,rfl⟩:∃q0,q=Aa q0:=by rcases L.2 with⟨_,e⟩|⟨g,aw,l,e,_⟩<;>grind
 have a1:K xs=K ds:=AY L.1;obtain⟨x,c⟩:∃x,xs[k]?=H x:=⟨xs[k],D7 E⟩
 obtain⟨d,V⟩:∃d,ds[k]?=H d:=⟨ds[k],D7 al⟩
 obtain⟨tx,yx,rfl⟩:=HF.out k x c;have hc:A6 wr q0 k<|Ai tx yx:=by have:=L.cell k _ c;grind [Addr.add]
 have ax:=Sd T ds<|k+1;have ad:=HI.out k _ d c V;have t:=C9 ad;have ay:(Az wr<|M #[C Am 44] 5).cell? ⟨q0,k,Ao⟩=H (Ai tx yx):=Ca (Iw wr _ _<|by rw[hc];rfl) hc;by_cases ak:k=0
 .subst ak;have z:=C9<|Sb T V;have B:D<|K l+K (T d)<=999999999:=by grind [D,Dm]
  have Q:=t.out wr _ _ o b B;have HK:D<|0+(g+1)=K ds:=a
  go_wp2_with(first
   |(go_at_call 113;refine Ce Q ?_;rintro e r ⟨v4,rfl,A,ag⟩;obtain⟨o4,b4,a4,n4,c4,rfl⟩:=A;have w:D<|Cn r base (Ac a4 n4 c4)<|l++T d:=⟨o4,b4,_,_,_,Z⟩;have f:=C9<|Cs o ag))
  go_roundg g;exact⟨1,a4,n4,c4,Z,Bb,B9,by grind [D,Dm],f⟩;omega
 have az:AR ((0:J)<(k:J))=AP:=B7;have a0:(0:J)<(k:J):=E;have z:=C9<|Sc T E V;have B:D<|K (l++[44])+K (T d)<=999999999:=by grind [D]
 go_wp2_with(first
  |(at_builtin;refine Kd 44 b.1 ?_ (hb:=B1 b.2.1);intro u r m s j;obtain⟨S,R,rfl⟩:=ownsRow_succ m;have f:=C9<|GW ((Cu _ _).alloc b.2.1 _) (b.1.alloc _) s<|B1 b.2.1;have w:D<|Cn r base (Ac (Aa S) _ R)<|l++[44]:=⟨ME m Z,CE b.2.1 f.size,_,_,_,Z⟩;have Q:=t.out r _ _ (Cs o f) w B)
  |(go_at_call 113;refine Ce Q ?_;rintro e w5 ⟨v5,rfl,h5,ah⟩;obtain⟨o5,b5,a5,n5,c5,rfl⟩:=h5;have ar:D<|Cn w5 base (Ac a5 n5 c5)<|(l++[44])++T d:=⟨o5,b5,_,_,_,Z⟩;have ac:=C9<|Cs (Cs o f) ah))
 go_roundg g;exact⟨k+1,a5,n5,c5,Z,Bb,B9,by grind [D],ac⟩;omega
def Gu(T:A2->A1)(e:Lit×AM Unit):A1:=(Fx (D9 e.1)++[58])++T e.2
structure KU(base:AH)(W:Ap)(N:AH)(cs:A3)(v:Aq)(cur:A1)(V:Ap):Prop where
 a2:Cn V base v cur
 ac:Below base W V
 aq:V.heap[N]?=An (Aj cs 225)
theorem KU.ai{o:Obj}(h:KU base W N cs v cur V)(f:V'.ownsRow base 5 1 v' (K cur+1)<|cur.map CP++[CP b])(d:(Az V o).grownBy V'<|Ax v):KU base W N cs v' (cur++[b]) V':=by
 have a:=GW ((Cu base V).alloc h.a2.2.1 _) (h.a2.1.alloc _) d kfi;refine⟨⟨B9,CE h.a2.2.1 a.size,?_⟩,Cs h.ac a,?_⟩
 .rcases f.2 with⟨e,_⟩|⟨g,i,c,e,_⟩<;>grind
 exact((Uj).trans<|Uk (h.a2.1.alloc o) d) N cs _ _ h.aq B8
def KU.a0(h:KU base W N cs v cur V)(c:Cn V' base v'<|cur++l)(a:Below base V V')(b:Lw V V'):KU base W N cs v' (cur++l) V' :=
 ⟨c,Cs h.ac a,b N cs _ _ h.aq B8⟩
theorem yO(l:A1):0<K (Fx l):=by simp[Fx]
theorem yP(T:A2->A1){q:A4}(hF:∀k,F k->k<base)(hl:K bs+K (Dm (Gu T) es)+2<=999999999)(hn:K es<=999999999)(u:DQ W 225 2 F (Ac q (K es) cap) (K es) xs)(au:∀(aj:I) (key:Lit) (d:A2),es[aj]?=H (key,d)->∃l al y,key=.string l/\xs[2*aj]?=H (Ae ⟨Aw l⟩)/\xs[2*aj+1]?=H (Ai al y)/\Yh W base (Ai al y) (T d))(h:Cn W base v bs):Ar As 154 #[v,Ac q (K es) cap] W λe W'=>∃A,e=Ak A/\Cn W' base A (((bs++[123])++Dm (Gu T) es)++[125])/\Below base W W':=by
 obtain⟨i0,hi,a1,a2,a4⟩:=DL Tryz.infoU8;obtain⟨a8,bh,a9,rfl⟩:=h.2.2;have B:=C9 h;have HU:=C9 u;have HI:=C9 au;go_enter func154,ntmps154
 go_wp2_with(first
  |(at_builtin;refine Kd 123 B.1 ?_ (hb:=B1 B.2.1);intro A w2 b s n;obtain⟨aq,ap,rfl⟩:=ownsRow_succ b;have am:=C9<|GW ((Cu _ _).alloc B.2.1 _) (B.1.alloc _) s<|B1 B.2.1;have a6:D<|Cn w2 base (Ac (Aa aq) _ ap)<|bs++[123]:=⟨ME b Z,CE B.2.1 am.size,_,_,_,Z⟩))
 go_loopg[0,12] (K es) (λg y a5 wr=>∃(k:I) (a:A4) (z c:I),y=Ac a z c/\a5=C Y k/\D (k+g=K es)/\D (Cn wr base (Ac a z c)<|(bs++[123])++Dm (Gu T) (es.take k))/\D (Below base W wr))
 grind [Dm];obtain⟨k,a,z,c,rfl,rfl,hk,o,V⟩:=hrel;have ax:K ((bs++[123])++Dm (Gu T) (es.take k))<=999999998:=by grind [Sd]
 obtain⟨m,HC⟩:=CC<|(bs++[123])++Dm (Gu T) (es.take k);rw[AE HC]at o ax;obtain _|g:=gk
 .have ay:¬(k:J)<K es:=AY<|AE hk;have HT:D<|es.take k=es:=by grind [D]
  go_wp2_with(first
   |(at_builtin;refine Kd 125 o.1 ?_ (hb:=B1 o.2.1);intro A w4 b s n;obtain⟨ae,ac,rfl⟩:=ownsRow_succ b;have j:=C9<|GW ((Cu _ _).alloc o.2.1 _) (o.1.alloc _) s<|B1 o.2.1;have an:D<|Cn w4 base (Ac (Aa ae) _ ac)<|m++[125]:=⟨ME b Z,CE o.2.1 j.size,_,_,_,Z⟩))
  go_ret;have he:m++[125]=((bs++[123])++Dm (Gu T) es)++[125]:=by rw[<-AE HC,AE HT]
  have h4:=AE an;rw[he]at h4
  first|exact⟨_,rfl,h4,V.trans j⟩|exact⟨_,rfl,by simpa using h4,Cs V j⟩
 have aw:k<K es:=AY<|AE hk;have ay:(k:J)<K es:=E;have HR:=HU.same (V':=wr) (G:=F) (λ_ h=>h) λak hj=>Co V ak<|hF ak hj;obtain⟨q0,rfl⟩:∃q0,q=Aa q0:=by rcases HR.2 with⟨_,e⟩|⟨g,ba,m,e,_⟩<;>grind
 obtain⟨⟨key,d⟩,hd⟩:∃d,es[k]?=H d:=⟨es[k],D7 aw⟩
 obtain⟨l,w,x,rfl,az,a0,hI⟩:=HI.out k key d hd;have bc:A6 wr q0 (k*2)<|Ae ⟨Aw l⟩:=by have:=HR.cell (2*k) _ az;grind [Addr.add]
 have bd:A6 wr q0 (k*2+1)<|Ai w x:=by have:=HR.cell (2*k+1) _ a0;grind [Addr.add]
 have L:D<|KU base W (O<|U wr) #[Ae ⟨Aw l⟩,Ai w x] (Ac a z c) m<|Az wr<|M #[Ae ⟨Aw l⟩,Ai w x] 225:=⟨⟨o.1.alloc _,B0 o.2.1,_,_,_,Z⟩,Cs V<|(Cu base wr).alloc o.2.1 _,Cj _⟩
 have HJ:=C9 hI;have bb:=Sd (Gu T) es<|k+1;have be:K (Gu T (.string l,d))=K (Fx l)+1+K (T d):=by simp[Gu,D9];omega
 by_cases av:k=0
 .subst av;have HT:=C9<|Sb (Gu T) hd;have hL:K m+K (Fx l)+1+K (T d)+1<=999999999:=by grind [D,Dm]
  have HE:D<|((m++Fx l)++[58])++T d=(bs++[123])++Dm (Gu T) (es.take<|0+1):=by grind [D,Gu,D9,Dm]
  have Q:=Yz ⟨Aw l⟩ B9 L.a2;have e9:Fx (⟨Aw l⟩:AT).data.toList=Fx l:=rfl;rw[e9]at Q
  go_wp2_with(first
   |(go_at_call 152;refine Ce Q ?_;rintro e w5 ⟨v5,rfl,h5,ag,ai⟩;obtain⟨f,i⟩:=CC<|m++Fx l;have aa:D<|0<K f/\K f+1+K (T d)+1<=999999999:=(by grind [D]);have p:D<|KU base W (O<|U wr) #[Ae ⟨Aw l⟩,Ai w x] v5 f w5:=(by rw[<-AE i];exact L.a0 h5 ag ai);obtain⟨g5,c5,rfl⟩:=Xu p.a2 aa.1)
   |(at_builtin;refine Kd 58 p.a2.1 ?_ (hl:=by grind [D,maxLen]) (hy:=by grind [D]) (hb:=ke5);intro A S b s n;obtain⟨af,ad,rfl⟩:=ownsRow_succ b;have r:D<|KU base W (O<|U wr) #[Ae ⟨Aw l⟩,Ai w x] (Ac (Aa af) (K f+1) ad) (f++[58]) S:=p.ai b s;have ar:=Cc r.aq 1)
   |(go_at_call 113;refine Ce (HJ S _ _ r.ac r.a2<|by grind [D]) ?_;rintro e w7 ⟨v7,rfl,h7,ah⟩;obtain⟨o7,b7,N,R,P,rfl⟩:=h7;have ao:D<|Cn w7 base (Ac N R P)<|(f++[58])++T d:=⟨o7,b7,_,_,_,Z⟩;have t:=C9<|Cs r.ac ah))
  go_roundg g;exact⟨1,N,R,P,Z,Bb,B9,by grind [D],t⟩;omega
 have HT:=C9<|Sc (Gu T) E hd;have bg:(0:J)<(k:J):=E;have hL:K m+1+K (Fx l)+1+K (T d)+1<=999999999:=by grind [D]
 have HE:D<|(((m++[44])++Fx l)++[58])++T d=(bs++[123])++Dm (Gu T) (es.take<|k+1):=by grind [D,Gu,D9]
 go_wp2_with(first
  |(at_builtin;refine K7 _ Z _ _ 50 Z base 5 i0 (C Am 0) 1 1 underlying50 hi a1 a2 a4 Z B8 _ _ _ Z (L.a2.1.alloc _) ⟨O (U wr)+1,0,Ao⟩ 1 1 [C Am 44] Z Z (by grind [EU,World.size_alloc]) (λbi u=>by simp at u;subst u;rfl) Bc E (by have:=L.a2.2.1;grind [World.size_alloc]) ?_;intro A w4 b s n;obtain⟨ae,ac,rfl⟩:=ownsRow_succ b;have ab:D<|KU base W (O<|U wr) #[Ae ⟨Aw l⟩,Ai w x] (Ac (Aa ae) (K m+1) ac) (m++[44]) w4:=L.ai b s;have bf:=Cc ab.aq 0;have Q:=Yz ⟨Aw l⟩ B9 ab.a2;have e9:Fx (⟨Aw l⟩:AT).data.toList=Fx l:=rfl;rw[e9]at Q)
  |(go_at_call 152;refine Ce Q ?_;rintro e w5 ⟨v5,rfl,h5,ag,ai⟩;obtain⟨f,i⟩:=CC<|(m++[44])++Fx l;have aa:D<|0<K f/\K f+1+K (T d)+1<=999999999:=(by grind [D]);have p:D<|KU base W (O<|U wr) #[Ae ⟨Aw l⟩,Ai w x] v5 f w5:=(by rw[<-AE i];exact ab.a0 h5 ag ai);obtain⟨g5,c5,rfl⟩:=Xu p.a2 aa.1)
  |(at_builtin;refine Kd 58 p.a2.1 ?_ (hl:=by grind [D,maxLen]) (hy:=by grind [D]) (hb:=ke5);intro A S b s n;obtain⟨af,ad,rfl⟩:=ownsRow_succ b;have r:D<|KU base W (O<|U wr) #[Ae ⟨Aw l⟩,Ai w x] (Ac (Aa af) (K f+1) ad) (f++[58]) S:=p.ai b s;have ar:=Cc r.aq 1)
  |(go_at_call 113;refine Ce (HJ S _ _ r.ac r.a2<|by grind [D]) ?_;rintro e w7 ⟨v7,rfl,h7,ah⟩;obtain⟨o7,b7,N,R,P,rfl⟩:=h7;have ao:D<|Cn w7 base (Ac N R P)<|(f++[58])++T d:=⟨o7,b7,_,_,_,Z⟩;have t:=C9<|Cs r.ac ah))
 go_roundg g;exact⟨k+1,N,R,P,Z,Bb,B9,by grind [D],t⟩;omega
def Fe:AH->A2->A1
 |0,_=>[]
 |k+1,d=>match d with
  |.lit (.bool b)=>bif b then[116,114,117,101]else[102,97,108,115,101]
  |.lit (.int Al z)=>Lib.itoa z
  |.lit (.string l)=>Fx l
  |.agg ds=>([91]++Dm (Fe k) ds)++[93]
  |.map es=>([123]++Dm (Gu<|Fe k) es)++[125]
  |_=>[110,117,108,108]
theorem yS{a':A4}{n' c':I}(hl:K bs<=999999999)(h:Cn W base v bs):Ar As 113 #[v,Ai 219<|G a' n' c'] W λe f=>∃d,e=Ak d/\Cn f base d (bs++[110,117,108,108])/\Below base W f:=by
 obtain⟨q,j,m,o,p⟩:=DL Tryz.infoU8;obtain⟨a,n,c,rfl⟩:=h.2.2;have b:=T h;have s:=S1 a' n' c';have t:=S2 a' n' c';have u:=S3 a' n' c';have x:∀w:X,(Instr.typeAssert (Ai 219<|G a' n' c') 89 221 AP).run As w=.ok (Af #[G Ao 0 0,Ah AQ]) w:=λw=>B6;have y:∀w:X,(Instr.typeAssert (Ai 219<|G a' n' c') 89 223 AP).run As w=.ok (Af #[G Ao 0 0,Ah AQ]) w:=λw=>B6;have l:(⟨Aw ([110,117,108,108]:A1)⟩:AT).size=4:=rfl;go_enter func113,ntmps113
 go_wp2_with(first
  |(at_builtin;refine wpList_append_own_string _ Z _ _ 50 9 Z base 5 q underlying50 underlying9 j m o p _ _ _ Z b.1 ⟨[110,117,108,108].toArray⟩ Z BC kfp b.2.1 ?_;intro d z k i r;have g:=T<|NR b k i))
 go_ret;exact⟨_,Z,g⟩
def yU(l : -9223372036854775808<=z)(m:z<=9223372036854775807)(hl:K bs<=999999999)(h:Cn W base v bs)(o:Jq base W):Ar As 113 #[v,Ai 281<|C Y z] W λe b=>∃d,e=Ak d/\Cn b base d (bs++Lib.itoa z)/\Below base W b:=by
 have f:=yR l m hl h o;obtain⟨a,n,c,rfl⟩:=h.2.2;have s:=RX z;have t:=RY z;go_enter func113,ntmps113
 go_wp2_with(first
  |(go_at_call 151;refine Ce f ?_;rintro e w ⟨u,rfl,g,k⟩;obtain⟨i,j,p,r,q,rfl⟩:=g))
 go_ret;exact⟨_,Z,⟨i,j,_,_,_,Z⟩,k⟩
def yV(hl:K bs+K (Fx l)<=999999999)(h:Cn W base v bs):Ar As 113 #[v,Ai 283<|Ae ⟨Aw l⟩] W λe b=>∃f,e=Ak f/\Cn b base f (bs++Fx l)/\Below base W b:=by
 have d:=Yz ⟨Aw l⟩ hl h;have g:Fx (⟨Aw l⟩:AT).data.toList=Fx l:=rfl;rw[g]at d;obtain⟨a,n,c,rfl⟩:=h.2.2;have r:=XT ⟨Aw l⟩;have s:=XU ⟨Aw l⟩;have t:=XV ⟨Aw l⟩;go_enter func113,ntmps113
 go_wp2_with(first
  |(go_at_call 152;refine Ce d ?_;rintro e w ⟨u,rfl,i,m,_⟩;obtain⟨j,k,o,q,p,rfl⟩:=i))
 go_ret;exact⟨_,Z,⟨j,k,_,_,_,Z⟩,m⟩
def yW{q:A4}(k:∃a n c,v=G a n c)(f:Ar As 153 #[v,G q m cap] W λe b=>∃d,e=Ak d/\Cn b base d ys/\Below base W b):Ar As 113 #[v,Ai 221<|G q m cap] W λe b=>∃d,e=Ak d/\Cn b base d ys/\Below base W b:=by
 obtain⟨a,n,c,rfl⟩:=k;have r:=gE q m cap;have s:=gG q m cap;have t:=gH q m cap;have u:=U6 q m cap;go_enter func113,ntmps113
 go_wp2_with(first
  |(go_at_call 153;refine Ce f ?_;rintro e x ⟨w,rfl,g,j⟩;obtain⟨h,i,l,p,o,rfl⟩:=g))
 go_ret;exact⟨_,Z,⟨h,i,_,_,_,Z⟩,j⟩
def yX{q:A4}(k:∃a n c,v=G a n c)(f:Ar As 154 #[v,G q m cap] W λe b=>∃d,e=Ak d/\Cn b base d ys/\Below base W b):Ar As 113 #[v,Ai 223<|G q m cap] W λe b=>∃d,e=Ak d/\Cn b base d ys/\Below base W b:=by
 obtain⟨a,n,c,rfl⟩:=k;have r:=gJ q m cap;have s:=gK q m cap;have t:=gL q m cap;have u:=U7 q m cap;have w:=U9 q m cap;go_enter func113,ntmps113
 go_wp2_with(first
  |(go_at_call 154;refine Ce f ?_;rintro e y ⟨x,rfl,g,j⟩;obtain⟨h,i,l,p,o,rfl⟩:=g))
 go_ret;exact⟨_,Z,⟨h,i,_,_,_,Z⟩,j⟩
theorem jz{α:Type}(f:α->A1){l:AJ α}(h:∀a,a∈l->1<=K (f a)):K l<=K (Dm f l):=by cases l<;>grind [O5,Dm]
theorem yY(n:I):1<=K (decDigits n):=by grind [decDigits]
theorem yZ(z:J):1<=K (Lib.itoa z):=by grind [itoa,yY]
theorem za:∀{k:I} {v:Aq} {d:A2},CA k V F v d->1<=K (Fe k d)
 |0,_,_,h=>h.elim
 |k+1,v,d,h=>by unfold CA at h;grind [Fe,yZ,yO]
def jA:∀(k:I) (W:X) (w:I) (F:I->Prop) (x:Aq) (d:A2),(∀j,F j->j<w)->Jq w W->CA k W F x d->Yh W w x (Fe k d)
 |0,_,_,_,_,_,_,_,h=>h.elim
 |k+1,W0,w,F,x,d,hF,hT0,h0=>by
  intro W ae z v o hl;have h:=h0.same (λ_ h=>h) λj hj=>Co v j<|hF j hj;have V:Jq w W:=Lib.TabBelow.on hT0 v;have L:K z<=999999999:=E;have n:=λy a hy=>jA k W w F y a hF V hy;unfold CA at h;split at h
  .subst h;exact wy L o
  .rename_i b;subst h;cases b
   .exact wB L o
   exact wA L o
  .obtain⟨rfl,f,p⟩:=h;exact yU f p L o V
  .rename_i l;subst h;exact yV hl o
  .rename_i l;obtain⟨u,rfl,s⟩:=h;obtain⟨q,aa,c,rfl⟩:∃q aa c,u=G q aa c:=by
    rcases s.2 with⟨e,m⟩|⟨g,r,R,e,_⟩
    .exact⟨_,_,_,e⟩
    exact⟨_,_,_,e⟩
   exact yS L o
  .rename_i ds;obtain⟨u,Q,rfl,s,N⟩:=h;have ad:K Q=K ds:=AY s.1;have at_:∀i,i<K ds->∃x a,Q[i]?=H x/\ds[i]?=H a/\CA k W F x a:=λi B =>
    ⟨_,_,D7 E,D7 B,N i _ _ (D7 E)<|D7 B⟩
   have hg:=jz (Fe k) λa ab=>by obtain⟨i,B,rfl⟩:=QY ab;obtain⟨x,d2,f,p,P⟩:=at_ i B;rw[D7 B]at p;injection p with p;rw[p];exact za P
   have e:K (Fe (k+1)<|.agg ds)=1+K (Dm (Fe k) ds)+1:=by simp[Fe];omega
   obtain⟨q,r,rfl⟩:∃q r,u=G q (K ds) r:=by
    rcases s.2 with⟨e,m⟩|⟨g,r,R,e,_⟩
    .exact⟨Ao,0,by rw[e,m]⟩
    exact⟨_,_,e⟩
   have A:=yN (Fe k) hF E E s (λi x a f p=>n x a<|N i x a f p) (λi x t=>by obtain⟨x2,a,f,p,P⟩:=at_ i<|AY<|Dk t;rw[t]at f;injection f with f;rw[f];exact P.iface) o;have m:((z++[91])++Dm (Fe k) ds)++[93]=z++Fe (k+1) (.agg ds):=by simp[Fe]
   rw[m]at A;exact yW o.2.2 A
  .rename_i es;obtain⟨u,Q,rfl,s,N⟩:=h;have hg:=jz (Gu<|Fe k) (l:=es) λa _=>by simp[Gu];omega
   have e:K (Fe (k+1)<|.map es)=1+K (Dm (Gu<|Fe k) es)+1:=by simp[Fe];omega
   obtain⟨q,r,rfl⟩:∃q r,u=G q (K es) r:=by
    rcases s.2 with⟨e,m⟩|⟨g,r,R,e,_⟩
    .exact⟨Ao,0,by rw[e,m]⟩
    exact⟨_,_,e⟩
   have A:=yP (Fe k) hF E E s (λi key a f=>by obtain⟨l,x,e1,m,e3,S⟩:=N i key a f;obtain⟨ac,y,rfl⟩:=S.iface;exact⟨l,ac,y,e1,m,e3,n _ a S⟩) o;have m:((z++[123])++Dm (Gu<|Fe k) es)++[125]=z++Fe (k+1) (.map es):=by simp[Fe]
   rw[m]at A;exact yX o.2.2 A
  exact h.elim
theorem zc(hF:∀j,F j->j<O (U W))(m:Jq (O<|U W) W)(h:CA k W F x d)(hl:K (Fe k d)<=999999999):Ar As 82 #[C Y 1,x] W λe a=>∃b,e=Ak b/\Cn a (O<|U W) b (Fe k d)/\A0 W a:=by
 have c:=jA k W (O<|U W) F x d hF m h W _ [] CT (S8) keL;obtain⟨t,y,rfl⟩:=h.iface;go_enter func82,ntmps82
 go_wp2_with(first
  |(go_at_call 113;refine Ce c ?_;rintro e r ⟨q,rfl,f,l⟩;obtain⟨g,i,n,p,o,rfl⟩:=f))
 go_ret;exact⟨_,Z,⟨g,i,_,_,_,Z⟩,l⟩
theorem jB{α:Type}{f g:α->A1}(l:AJ α)(h:∀x∈l,f x=g x):Dm f l=Dm g l:=by
 obtain _|⟨a,l⟩:=l
 .rfl
 show f a++_=g a++_;rw[h a<|Mm ..];congr 1;induction l<;>grind
theorem Uz:∀(k:I) (d:A2),F8 k d->Fe k d=JS k d
 |0,_,_=>rfl
 |k+1,d,h=>by
  unfold Fe JS;split
  .rfl
  .rfl
  .exact iB h
  .rename_i ds;have a:∀d∈ds,F8 k d:=h;rw[jB ds λd c=>Uz k d<|a d c]
  .rename_i es;have a:∀e∈es,FK (D9 e.1)/\F8 k e.2:=h;rw[jB es λe b=>show Gu (Fe k) e=MW (JS k) e by unfold Gu MW;rw[iB (a e b).1,Uz k e.2 (a e b).2]]
  grind
def YB(a v:J)(b:AU)(d:(a=0/\v=246)\/(a=1/\v=244)\/(a=2/\v=245))(hb:(b.toNat:J)=v):Ar As 86 #[.agg<|Cg a 0 ⟨#[]⟩ Cq Cq] W<|Eg [b] W:=by
 have c:=JR (Az W<|M (Cg a 0 ⟨#[]⟩ Cq Cq) 101) v b hb.symm;rw[show(Az W<|M (Cg a 0 ⟨#[]⟩ Cq Cq) 101).heap.size=O (U W)+1 by simp]at c;unfold Cg Cq at *;rcases d with⟨rfl,rfl⟩|⟨rfl,rfl⟩|⟨rfl,rfl⟩
 all_goals
  go_enter func86,ntmps86;go_wp2;go_ret;exact⟨Z,(Cm).alloc Ba _⟩
def zm(i : -9223372036854775808<=z)(j:z<=9223372036854775807):Ar As 86 #[.agg<|Cg 3 z ⟨#[]⟩ Cq Cq] W<|Eg (Km z) W:=by
 obtain⟨R,a⟩:=CC<|Km z;have d:D<|EQ W (Cg 3 z ⟨#[]⟩ Cq Cq)<|Az W<|M (Cg 3 z ⟨#[]⟩ Cq Cq) 101:=Kn;by_cases f:z<0
 .have c:∀V,Ar As 120 #[C Y 1,C Y<|-1-z] V<|Eg R V:=λV=>by have h:=Qu V 1 (-1-z).toNat B8 E;rw[show(((-1-z).toNat:I):J) = -1-z by omega]at h;rw[<-AE a];unfold Km;rw[Cp f];exact h
  rw[AE a];unfold Cg Cq at *;go_enter func86,ntmps86
  go_wp2_with(first|(go_at_call 120;refine(c _).mono ?_;rintro e g ⟨rfl,b⟩))
  go_ret;exact⟨rfl,(d.next b).ac⟩
 have c:∀V,Ar As 120 #[C Y 0,C Y z] V<|Eg R V:=λV=>by have h:=Qu V 0 z.toNat B8 E;rw[show((z.toNat:I):J)=z by omega]at h;rw[<-AE a];unfold Km;rw[Cl f];exact h
 rw[AE a];unfold Cg Cq at *;go_enter func86,ntmps86
 go_wp2_with(first|(go_at_call 120;refine(c _).mono ?_;rintro e g ⟨rfl,b⟩))
 go_ret;exact⟨rfl,(d.next b).ac⟩
theorem jG(hl:K l<=999999999):Ar As 86 #[.agg<|Cg 4 0 ⟨Aw l⟩ Cq Cq] W (Eg (Dd 3 (K l)++l) W)/\Ar As 86 #[.agg<|Cg 5 0 ⟨Aw l⟩ Cq Cq] W (Eg (Dd 2 (K l)++l) W):=by
 have g:∀m,D<|EQ W (Cg m 0 ⟨Aw l⟩ Cq Cq)<|Az W<|M (Cg m 0 ⟨Aw l⟩ Cq Cq) 101:=λm=>Kn;have c:=λV s (o:s<=7)=>Qu V s (K l) o E;have h:∀s,¬(K (Dd s<|K l)+K l>9223372036854775807):=λs=>kfU;constructor
 .replace g:=g 4
  replace c:=λV=>c V 3 B8
  replace h:=h 3
  unfold Cg Cq at *;go_enter func86,ntmps86
  go_wp2_with fail
  generalize Az W (M #[C Y 4,C Y 0,Ae ⟨Aw l⟩,G Ao 0 0,G Ao 0 0] 101)=V0 at *;refine Dl (S:=EQ W #[C Y 4,C Y 0,Ae ⟨Aw l⟩,G Ao 0 0,G Ao 0 0]) g.drew B6 λa=>Cb 0 35 (A9 (O<|U W) 2) a <| Ch 1 36 (Ae ⟨Aw l⟩) Z (λf b=>ken) a <| Ch 2 37 (C Y<|K l) Z (λf b=>Bh) a <| Cb 4 39 (A9 (O<|U W) 2) a <| Ch 5 40 (Ae ⟨Aw l⟩) Z (λf b=>ken) a <| CH 3 λn j=>?_;go_simp;refine(c _).mono ?_;rintro e p ⟨rfl,i⟩;have d:=a.next i
  refine j.out _ _ d λ_=>?_;refine Ch 6 41 (CX<|Dd 3 (K l)++l) Z (λf b=>BI) d <| Cb 7 2 (CX<|Dd 3 (K l)++l) d <| CK ?_;go_wp2;go_ret;exact⟨Z,d.ac⟩
 replace g:=g 5
 replace c:=λV=>c V 2 B8
 replace h:=h 2
 unfold Cg Cq at *;go_enter func86,ntmps86
 go_wp2_with fail
 generalize Az W (M #[C Y 5,C Y 0,Ae ⟨Aw l⟩,G Ao 0 0,G Ao 0 0] 101)=V0 at *;refine Dl (S:=EQ W #[C Y 5,C Y 0,Ae ⟨Aw l⟩,G Ao 0 0,G Ao 0 0]) g.drew B6 λa=>Cb 0 44 (A9 (O<|U W) 2) a <| Ch 1 45 (Ae ⟨Aw l⟩) Z (λf b=>ken) a <| Ch 2 46 (C Y<|K l) Z (λf b=>Bh) a <| Cb 4 48 (A9 (O<|U W) 2) a <| Ch 5 49 (Ae ⟨Aw l⟩) Z (λf b=>ken) a <| CH 3 λn j=>?_;go_simp;refine(c _).mono ?_;rintro e p ⟨rfl,i⟩;have d:=a.next i
 refine j.out _ _ d λ_=>?_;refine Ch 6 50 (CX<|Dd 2 (K l)++l) Z (λf b=>BI) d <| Cb 7 2 (CX<|Dd 2 (K l)++l) d <| CK ?_;go_wp2;go_ret;exact⟨Z,d.ac⟩
def fR(pk:AK):FuncId:=bif pk then 87 else 86
theorem jH(o:AK){f:A2->A1}(hF:∀j,F j->j<O (U W))(hr:DQ W 101 5 F u (K ds) xs)(ha:∀(i:I) (d:A2),ds[i]?=H d->∃a,Ht xs i a/\CV k W F (.agg a) d)(hl:K (h0++ds.flatMap f)<=999999999)(c:∀V,Ar As (bif o then 126 else 120) (bif o then#[C Y 144,C Y 220,C Y<|K ds]else#[C Y 4,C Y<|K ds]) V<|Eg h0 V)(ih:∀(V:X) (a:A3) (d:A2),(∀j,F j->j<O (U V))->CV k V F (.agg a) d->K (f d)<=999999999->Ar As (fR o) #[.agg a] V (Eg (f d) V)):Ar As (fR o) #[.agg<|Cg 6 0 ⟨#[]⟩ Cq u] W<|Eg (h0++ds.flatMap f) W:=by
 obtain⟨hn,a,P,rfl,HC⟩:=MT hr;have b:D<|EQ W (Cg 6 0 ⟨#[]⟩ Cq<|G a (K ds) P)<|Az W<|M (Cg 6 0 ⟨#[]⟩ Cq<|G a (K ds) P) 101:=Kn;obtain⟨n,hN⟩:=DF<|K ds;have aa:D (∀i,i<n->∃d g t z s r v w x y B,ds[i]?=H d/\a=Aa g/\(∀V,A0 W V->(A6 V g (i*5) (C Y t)/\A6 V g (i*5+1) (C Y z)/\A6 V g (i*5+2) (.string s)/\A6 V g (i*5+3) (G r v w)/\A6 V g (i*5+4) (G x y B))/\Ar As (fR o) #[Ag #[C Y t,C Y z,.string s,G r v w,G x y B]] V (Eg (f d) V))):=λi hi=>by
  obtain⟨d,m⟩:∃d,ds[i]?=H d:=⟨_,D7 E⟩
  obtain⟨ah,hs,A⟩:=ha i d m;obtain⟨t,z,s,r,v,w,x,y,B,e⟩:=A.ac;injection e with e;subst e;obtain⟨g,ea,N,q⟩:=HC i _ E hs;have ae:K (f d)<=999999999:=by have h1:=S7 f m;grind [Ug]
  refine⟨d,g,t,z,s,r,v,w,x,y,B,m,ea,λV R=>⟨?_,ih V _ d (λj S=>CQ (hF j S) R.size) (A.same (λ_ ab=>ab) λj S=>Co R j<|hF j S) ae⟩⟩;have p:=Co R g<|hF g N;exact⟨q V p 0 B8,q V p 1 B8,q V p 2 B8,q V p 3 B8,q V p 4 B8⟩
 have HL:D (∀i,K (h0++(ds.take i).flatMap f)<=999999999):=λi=>by grind [Ug]
 have HT:D<|ds.flatMap f=(ds.take n).flatMap f:=by grind [D]
 rw[AE HT];rw[hN]at c b hn ⊢;have HS:D (∀i d,ds[i]?=H d->h0++(ds.take<|i+1).flatMap f=(h0++(ds.take i).flatMap f)++f d):=λi d m=>by rw[S7 f m,L9]
 unfold Cg Cq at *;obtain⟨L,Q⟩:∃L:I->Aq->Aq->X->Prop,L=(λg zs zi wr=>∃(i:I) (l:A1),zs=Ae ⟨Aw l⟩/\zi=C Y i/\D (i+g=n)/\D (l=h0++(ds.take i).flatMap f)/\D (EQ W #[C Y 6,C Y 0,Ae ⟨#[]⟩,G Ao 0 0,G a n P] wr)):=⟨_,rfl⟩
 cases o
 all_goals dsimp only[fR,cond]at *
 case' false =>
  go_enter func86,ntmps86
  go_wp2_with(first|(go_at_call 120;refine Ce (c _) ?_;rintro e w2 ⟨rfl,h⟩;unfold CX))
  go_loopg[3,4] n L
 case' true =>
  go_enter func87,ntmps87
  go_wp2_with(first|(go_at_call 126;refine Ce (c _) ?_;rintro e w2 ⟨rfl,h⟩;unfold CX))
  go_loopg[4,5] n L
 all_goals try(rw[Q];exact⟨0,h0,rfl,rfl,Bg,BR,b.next h⟩)
 all_goals
  obtain⟨i,l,rfl,rfl,N,ad,b⟩:=Q▸hrel;have c4:=Cc b.h 4;obtain _|g:=gk
  .obtain rfl:i=n:=AE N;have ag:¬(i:J)<(i:J):=E;go_wp2;go_ret;rw[<-AE ad];exact⟨Z,b.ac⟩
  have af:i<n:=AY<|AE N;have ag:(i:J)<(n:J):=E;obtain⟨d,gb,t,z,s,r,v,w,x,y,B,m,rfl,hk⟩:=aa.out i af;obtain⟨⟨k0,k1,k2,k3,k4⟩,ck⟩:=hk _ b.ac;have HN:D<|h0++(ds.take<|i+1).flatMap f=l++f d:=by grind [D]
  have ai:¬(K l+K (f d)>9223372036854775807):=by grind [D]
  go_wp2_with(first|((first|go_at_call 86|go_at_call 87);refine Ce ck ?_;rintro e w3 ⟨rfl,ac⟩;unfold CX))
  go_roundg g;rw[Q];exact⟨i+1,l++f d,by rw[<-EX],Bb,B9,HN.symm,b.next ac⟩;omega
def CV.key{key:Lit}(h:es[i]?=H (key,d))(e:key=.string l):es[i]?=H (.string l,d):=e▸h
theorem jI(B:AK){KH:I->A1}{f:A2->A1}(hF:∀j,F j->j<O (U W))(hq:DQ W 9 1 F kv (K es)<|es.map NP)(hr:DQ W 101 5 F u (K es) xs)(ha:∀(i:I) (key:Lit) (d:A2),es[i]?=H (key,d)->∃l a,key=.string l/\Ht xs i a/\CV k W F (.agg a) d)(hl:K (h0++es.flatMap λe=>(KH (K<|D9 e.1)++D9 e.1)++f e.2)<=999999999)(c:∀V,Ar As (bif B then 126 else 120) (bif B then#[C Y 128,C Y 222,C Y<|K es]else#[C Y 5,C Y<|K es]) V<|Eg h0 V)(cK:∀(V:X) (l:A1),K l<=999999999->Ar As (bif B then 122 else 120) (bif B then#[C Y<|K l]else#[C Y 3,C Y<|K l]) V (Eg (KH<|K l) V))(ih:∀(V:X) (a:A3) (d:A2),(∀j,F j->j<O (U V))->CV k V F (.agg a) d->K (f d)<=999999999->Ar As (fR B) #[.agg a] V (Eg (f d) V)):Ar As (fR B) #[.agg<|Cg 7 0 ⟨#[]⟩ kv u] W<|Eg (h0++es.flatMap λe=>(KH (K<|D9 e.1)++D9 e.1)++f e.2) W:=by
 obtain⟨hn,a,b,rfl,HC⟩:=MT hr;obtain⟨ac,S,rfl,HQ⟩:=Y1 hq;obtain⟨q,ah⟩:∃q:Lit×AM Unit->A1,D<|(λe=>(KH (K<|D9 e.1)++D9 e.1)++f e.2)=q:=⟨_,show _=_ from rfl⟩
 rw[AE ah]at hl ⊢;have R:D<|EQ W (Cg 7 0 ⟨#[]⟩ (G ac (K es) S)<|G a (K es) b)<|Az W<|M (Cg 7 0 ⟨#[]⟩ (G ac (K es) S)<|G a (K es) b) 101:=Kn;obtain⟨n,hN⟩:=DF<|K es;have aj:D (∀i,i<n->∃e l r g gk w z s v x y L N P,es[i]?=H e/\q e=(KH (K l)++l)++r/\a=Aa g/\ac=Aa gk/\(∀V,A0 W V->A6 V gk i (Ae ⟨Aw l⟩)/\(A6 V g (i*5) (C Y w)/\A6 V g (i*5+1) (C Y z)/\A6 V g (i*5+2) (.string s)/\A6 V g (i*5+3) (G v x y)/\A6 V g (i*5+4) (G L N P))/\Ar As (fR B) #[Ag #[C Y w,C Y z,.string s,G v x y,G L N P]] V (Eg r V))):=λi hi=>by
  obtain⟨⟨key,d⟩,Q⟩:∃e,es[i]?=H e:=⟨_,D7 E⟩
  obtain⟨l,aw,au,hs,hA⟩:=ha i key d Q;subst au;obtain⟨w,z,s,v,x,y,L,N,P,e⟩:=hA.ac;injection e with e;subst e;obtain⟨g,ea,hg,hc⟩:=HC i _ E hs;obtain⟨gk,eb,aq,an⟩:=HQ i l d Q;have ai:q (.string l,d)=(KH (K l)++l)++f d:=by rw[<-AE ah];rfl
  have ap:K (f d)<=999999999:=by have h1:=S7 q Q;grind [Ug]
  refine⟨(.string l,d),l,f d,g,gk,w,z,s,v,x,y,L,N,P,Q,ai,ea,eb,λV h=>⟨an V<|Co h gk<|hF gk aq,?_,ih V _ d (λj hj=>CQ (hF j hj) h.size) (hA.same (λ_ al=>al) λj hj=>Co h j<|hF j hj) ap⟩⟩;have hb:=Co h g<|hF g hg;exact⟨hc V hb 0 B8,hc V hb 1 B8,hc V hb 2 B8,hc V hb 3 B8,hc V hb 4 B8⟩
 have HL:D (∀i,K (h0++(es.take i).flatMap q)<=999999999):=λi=>by grind [Ug]
 have HT:D<|es.flatMap q=(es.take n).flatMap q:=by grind [D]
 rw[AE HT];rw[hN]at c R hn ⊢;have HS:D (∀i d,es[i]?=H d->h0++(es.take<|i+1).flatMap q=(h0++(es.take i).flatMap q)++q d):=λi d Q=>by rw[S7 q Q,L9]
 unfold Cg at *;obtain⟨ab,af⟩:∃ab:I->Aq->Aq->X->Prop,ab=(λg zs zi wr=>∃(i:I) (A:A1),zs=Ae ⟨Aw A⟩/\zi=C Y i/\D (i+g=n)/\D (A=h0++(es.take i).flatMap q)/\D (EQ W #[C Y 7,C Y 0,Ae ⟨#[]⟩,G ac n S,G a n b] wr)):=⟨_,rfl⟩
 cases B
 all_goals dsimp only[fR,cond]at *
 case' false =>
  go_enter func86,ntmps86
  go_wp2_with(first|(go_at_call 120;refine Ce (c _) ?_;rintro e w2 ⟨rfl,ad⟩;unfold CX))
  go_loopg[5,6] n ab
 case' true =>
  go_enter func87,ntmps87
  go_wp2_with(first|(go_at_call 126;refine Ce (c _) ?_;rintro e w2 ⟨rfl,ad⟩;unfold CX))
  go_loopg[6,7] n ab
 all_goals try(rw[af];exact⟨0,h0,rfl,rfl,Bg,BR,R.next ad⟩)
 all_goals
  obtain⟨i,A,rfl,rfl,hg,ao,R⟩:=af▸hrel;have c4:=Cc R.h 4;obtain _|g:=gk
  .obtain rfl:i=n:=AE hg;have av:¬(i:J)<(i:J):=E;go_wp2;go_ret;rw[<-AE ao];exact⟨Z,R.ac⟩
  have ar:i<n:=AY<|AE hg;have av:(i:J)<(n:J):=E;obtain⟨ee,l,r,t,gk,w,z,s,v,x,y,L,N,P,Q,ai,rfl,rfl,hk⟩:=aj.out i ar;obtain⟨c1,ax⟩:=CC<|A++KH (K l);obtain⟨cc,ay⟩:=CC<|c1++l;have HN:D<|h0++(es.take<|i+1).flatMap q=cc++r:=by grind [D]
  have ag:K l<=999999999/\¬(K A+K (KH<|K l)>9223372036854775807)/\¬(K c1+K l>9223372036854775807)/\¬(K cc+K r>9223372036854775807):=by grind [D]
  obtain⟨ag,g1,g2,g3⟩:=ag;have HK:D (∀V,EQ W #[C Y 7,C Y 0,Ae ⟨#[]⟩,G (Aa gk) n S,G (Aa t) n b] V->A6 V gk i (Ae ⟨Aw l⟩)/\(A6 V t (i*5) (C Y w)/\A6 V t (i*5+1) (C Y z)/\A6 V t (i*5+2) (.string s)/\A6 V t (i*5+3) (G v x y)/\A6 V t (i*5+4) (G L N P))/\Ar As _ #[Ag #[C Y w,C Y z,.string s,G v x y,G L N P]] V (Eg r V)):=λV h=>hk V h.ac;have ck:=λV=>cK V l ag
  go_wp2_with fail
  refine Dl R.drew B6 ?_;intro m;refine Nw 0 (Ae ⟨Aw A⟩) m ?_;refine Nw 1 (A9 (O<|U W) 3) m ?_;refine Jf 2 (G (Aa gk) n S) Z (λp o=>?y2) m ?_
  case y2=>(have hz:=Cc o.h 3;go_simp)
  refine Nw 3 (C Y i) m ?_;refine Jf 4 (A9 gk i) Z (λp o=>?y4) m ?_
  case y4=>go_simp
  refine Jf 5 (Ae ⟨Aw l⟩) Z (λp o=>?y5) m ?_
  case y5=>(have hz:=(HK p o).1;go_simp)
  refine Jf 6 (C Y<|K l) Z (λp o=>?y6) m ?_
  case y6=>go_simp
  refine Nw 9 (A9 (O<|U W) 3) m ?_;refine Jf 10 (G (Aa gk) n S) Z (λp o=>?z2) m ?_
  case z2=>(have hz:=Cc o.h 3;go_simp)
  refine Nw 11 (C Y i) m ?_;refine Jf 12 (A9 gk i) Z (λp o=>?z4) m ?_
  case z4=>go_simp
  refine Jf 13 (Ae ⟨Aw l⟩) Z (λp o=>?z5) m ?_
  case z5=>(have hz:=(HK p o).1;go_simp)
  refine Nw 15 (A9 (O<|U W) 4) m ?_;refine Jf 16 (G (Aa t) n b) Z (λp o=>?x2) m ?_
  case x2=>(have hz:=Cc o.h 4;go_simp)
  refine Nw 17 (C Y i) m ?_;refine Jf 18 (A9 t<|i*5) Z (λp o=>?x4) m ?_
  case x4=>go_simp
  refine Jf 19 (Ag #[C Y w,C Y z,.string s,G v x y,G L N P]) Z (λp o=>?x5) m ?_
  case x5=>(obtain⟨k0,k1,k2,k3,k4⟩:=(HK p o).2.1;go_simp)
  refine CH 7 λak hK=>?_;go_simp;refine Ce (ck _) ?_;rintro e w2 ⟨rfl,ad⟩;have aa:=m.next ad
  refine hK.out _ _ aa λ_=>?_;refine Jf 8 (CX c1) Z (λp o=>?u1) aa ?_
  case u1=>(unfold CX;go_simp;grind [D,EX])
  refine Jf 14 (CX cc) Z (λp o=>?u2) aa ?_
  case u2=>(unfold CX;go_simp;grind [D,EX])
  refine CH 20 λak hK=>?_;go_simp;refine Ce (HK _ aa).2.2 ?_;rintro e w3 ⟨rfl,am⟩;have ae:=aa.next am
  refine hK.out _ _ ae λ_=>?_;refine Jf 21 (CX<|cc++r) Z (λp o=>?u3) ae ?_
  case u3=>(unfold CX;go_simp;exact EX)
  refine Nw 22 (CX<|cc++r) ae ?_;refine CK ?_;go_wp2;go_roundg g;rw[af];exact⟨i+1,_,Z,Bb,B9,HN.symm,ae⟩;omega
def YC(a v:J)(b:AU)(d:(a=0/\v=192)\/(a=1/\v=194)\/(a=2/\v=195))(hb:(b.toNat:J)=v):Ar As 87 #[.agg<|Cg a 0 ⟨#[]⟩ Cq Cq] W<|Eg [b] W:=by
 have c:=JR (Az W<|M (Cg a 0 ⟨#[]⟩ Cq Cq) 101) v b hb.symm;rw[show(Az W<|M (Cg a 0 ⟨#[]⟩ Cq Cq) 101).heap.size=O (U W)+1 by simp]at c;unfold Cg Cq at *;rcases d with⟨rfl,rfl⟩|⟨rfl,rfl⟩|⟨rfl,rfl⟩
 all_goals
  go_enter func87,ntmps87;go_wp2;go_ret;exact⟨Z,(Cm).alloc Ba _⟩
def zp(d : -9223372036854775808<=z)(g:z<=9223372036854775807):Ar As 87 #[.agg<|Cg 3 z ⟨#[]⟩ Cq Cq] W<|Eg (Kl z) W:=by
 have b:D<|EQ W (Cg 3 z ⟨#[]⟩ Cq Cq)<|Az W<|M (Cg 3 z ⟨#[]⟩ Cq Cq) 101:=Kn;have c:∀V,Ar As 121 #[C Y z] V<|Eg (Kl z) V:=λV=>by
  unfold Kl;by_cases a:z<0
  .rw[Cp a];exact zl a d
  rw[Cl a];have h:=zh V z.toNat E;rw[show((z.toNat:I):J)=z by omega]at h;exact h
 generalize Kl z=R at *;unfold Cg Cq at *;go_enter func87,ntmps87
 go_wp2_with(first|(go_at_call 121;refine(c _).mono ?_;rintro e i ⟨rfl,f⟩))
 go_ret;exact⟨rfl,(b.next f).ac⟩
theorem zr(x:I):K (EP x)<=9:=by grind [EP,Il]
theorem zu(hl:K l<=999999999):Ar As 87 #[.agg<|Cg 4 0 ⟨Aw l⟩ Cq Cq] W<|Eg (EP (K l)++l) W:=by
 have g:D<|EQ W (Cg 4 0 ⟨Aw l⟩ Cq Cq)<|Az W<|M (Cg 4 0 ⟨Aw l⟩ Cq Cq) 101:=Kn;have c:=λV=>jC V (n:=K l) E;have m:¬(K (EP<|K l)+K l>9223372036854775807):=by grind [zr]
 generalize EP (K l)=hd at *;unfold Cg Cq at *;go_enter func87,ntmps87
 go_wp2_with fail
 generalize Az W (M #[C Y 4,C Y 0,Ae ⟨Aw l⟩,G Ao 0 0,G Ao 0 0] 101)=V0 at *;refine Dl (S:=EQ W #[C Y 4,C Y 0,Ae ⟨Aw l⟩,G Ao 0 0,G Ao 0 0]) g.drew B6 λa=>Cb 0 29 (A9 (O<|U W) 2) a <| Ch 1 30 (Ae ⟨Aw l⟩) Z (λf b=>kfQ) a <| Ch 2 31 (C Y<|K l) Z (λf b=>Bh) a <| Cb 4 33 (A9 (O<|U W) 2) a <| Ch 5 34 (Ae ⟨Aw l⟩) Z (λf b=>kfQ) a <| CH 3 λk i=>?_;go_simp;refine(c _).mono ?_;rintro e o ⟨rfl,h⟩;have d:=a.next h
 refine i.out _ _ d λ_=>?_;refine Ch 6 35 (CX<|hd++l) Z (λf b=>BI) d <| Cb 7 2 (CX<|hd++l) d <| CK ?_;go_wp2;go_ret;exact⟨Z,d.ac⟩
theorem zx(n:I)(c:n<4294967296):Gq n=AW (196+Fo n)::CJ n (2^Fo n):=by
 unfold Gq Fo;by_cases a:n<256
 .rw[Cp E,Cp a];rfl
 rw[Cl E,Cl a];by_cases b:n<65536
 .rw[Cp E,Cp b];rfl
 rw[Cl E,Cl b,Cp c];rfl
theorem zy(hl:K l<=999999999):Ar As 87 #[.agg<|Cg 5 0 ⟨Aw l⟩ Cq Cq] W<|Eg (Gq (K l)++l) W:=by
 have r:D<|EQ W (Cg 5 0 ⟨Aw l⟩ Cq Cq)<|Az W<|M (Cg 5 0 ⟨Aw l⟩ Cq Cq) 101:=Kn;obtain⟨m,j⟩:=DF<|Fo<|K l;have k:=j▸S5 _;obtain⟨u,hu⟩:=DF<|AW<|196+m;have N:D<|(u.toNat:J)=196+m:=by grind [D,Hy]
 have F:=(M9 (Cr m) k).2;have o:D<|Gq (K l)++l=([u]++CJ (K l) (2^m))++l:=by grind [D,zx]
 rw[AE o];have i:=λV=>S6 V (K l:J);rw[OD,j]at i;have t:=λV=>Pc (2^m) (K l) V E F;have v:=λV=>Uf V k;have R:K (CJ (K l)<|2^m)<=8:=keF;generalize CJ (K l) (2^m)=bb at *;generalize 2^m=kv at *;have p:D<|IntKind.i64.wrap (196+(m:J))=u.toNat:=by grind [D,Ie]
 have q:D<|IntKind.u8.wrap (u.toNat:J)=u.toNat:=w8 _ (by grind [D]);have Q:¬(1+K bb>9223372036854775807):=E;have w:¬(K ([u]++bb)+K l>9223372036854775807):=B9;obtain⟨g,n⟩:=CC<|[u]++bb;rw[AE n]at w ⊢;unfold Cg Cq at *;go_enter func87,ntmps87
 go_wp2_with(first|(go_at_call 123;refine(i _).mono ?_;rintro e w2 ⟨rfl,z⟩;have s:=T<|r.next z))
 refine Dl (S:=EQ W #[C Y 5,C Y 0,Ae ⟨Aw l⟩,G Ao 0 0,G Ao 0 0]) s.drew B6 λa=>Cb 0 42 (C Y kv) a <| Cb 6 48 (A9 (O<|U W) 2) a <| Ch 7 49 (Ae ⟨Aw l⟩) Z (λb f=>kfR) a <| Ch 8 50 (C Y<|K l) Z (λb f=>Bh) a <| Cb 9 51 (C Y kv) a <| Cb 12 54 (A9 (O<|U W) 2) a <| Ch 13 55 (Ae ⟨Aw l⟩) Z (λb f=>kfR) a <| CH 1 λP B=>?_;go_simp;refine(v _).mono ?_;rintro e w3 ⟨rfl,A⟩;have c:=a.next A
 refine B.out _ _ c λ_=>?_;refine Ch 2 44 (C Y u.toNat) Z (λb _=>by go_simp<;>exact p) c <| Ch 3 45 (C Am u.toNat) rfl (λb _=>by go_simp<;>exact q) c ?_;refine O4 10 4 5 52 46 47 u ⟨rfl,rfl,rfl⟩ rfl B6 (λ_ _ _=>⟨B6,B6,B6⟩) (λ_=>⟨B6,B6⟩) t (λ_ h=>c.next h) λV y x=>?_;have d:=c.next x
 refine Ch 11 53 (CX g) Z (λb _=>by unfold CX;go_simp;grind [D,EX]) d <| Ch 14 56 (CX<|g++l) rfl (λb _=>BI) d <| Cb 15 2 (CX<|g++l) d <| CK ?_;go_wp2;go_ret;exact⟨B6,d.ac⟩
theorem zA{f:A2->A1}(h:A2->AK)(hF:∀j,F j->j<O (U W))(hr:DQ W 101 5 F u (K ds) xs)(ha:∀(i:I) (d:A2),ds[i]?=H d->∃a,Ht xs i a/\CV k W F (.agg a) d)(hl:K (([91]++Dm f ds)++[93])<=149999999)(ih:∀(V:X) (a:A3) (d:A2),(∀j,F j->j<O (U V))->CV k V F (.agg a) d->K (f d)<=149999999->Ar As 85 #[.agg a] V (Ip (h d) (f d) V)):Ar As 85 #[.agg<|Cg 6 0 ⟨#[]⟩ Cq u] W<|Ip (ds.any h) (([91]++Dm f ds)++[93]) W:=by
 obtain⟨hn,a,aa,rfl,HC⟩:=MT hr;have c:D<|EQ W (Cg 6 0 ⟨#[]⟩ Cq<|G a (K ds) aa)<|Az W<|M (Cg 6 0 ⟨#[]⟩ Cq<|G a (K ds) aa) 101:=Kn;obtain⟨n,hN⟩:=DF<|K ds;have ao:K (Dm f ds)+2<=149999999:=B9;have af:D (∀i,i<n->∃e l m g q z s p r t v w y,ds[i]?=H e/\f e=l/\h e=m/\a=Aa g/\(∀V,A0 W V->(A6 V g (i*5) (C Y q)/\A6 V g (i*5+1) (C Y z)/\A6 V g (i*5+2) (.string s)/\A6 V g (i*5+3) (G p r t)/\A6 V g (i*5+4) (G v w y))/\Ar As 85 #[Ag #[C Y q,C Y z,.string s,G p r t,G v w y]] V (Ip m l V))):=λi hi=>by
  obtain⟨d,m⟩:∃e,ds[i]?=H e:=⟨_,D7 E⟩
  obtain⟨al,hs,hA⟩:=ha i d m;obtain⟨q,z,s,p,r,t,v,w,y,e⟩:=hA.ac;injection e with e;subst e;obtain⟨g,ea,S,P⟩:=HC i _ E hs;have h1:=Up f m;refine⟨d,f d,h d,g,q,z,s,p,r,t,v,w,y,m,Z,Z,ea,λV o=>⟨?_,ih V _ d (λj hj=>CQ (hF j hj) o.size) (hA.same (λ_ h=>h) λj hj=>Co o j<|hF j hj) E⟩⟩;have N:=Co o g<|hF g S;exact⟨P V N 0 B8,P V N 1 B8,P V N 2 B8,P V N 3 B8,P V N 4 B8⟩
 rw[hN]at c hn;unfold Cg Cq at *;go_enter func85,ntmps85;rw[hN];go_wp2
 go_loopg[4,5] n (λg zs zi wr=>∃(i:I) (b:A1),zs=Ae ⟨Aw b⟩/\zi=C Y i/\D (i+g=n)/\D (b=Dm f (ds.take i))/\D ((ds.take i).any h=AQ)/\D (EQ W #[C Y 6,C Y 0,Ae ⟨#[]⟩,G Ao 0 0,G a n aa] wr))
 exact⟨0,[],Z,Z,Bg,Z,Z,c⟩;obtain⟨i,b,rfl,rfl,S,ad,am,c⟩:=hrel;have c0:=Cc c.h 0;have c3:=Cc c.h 3;have c4:=Cc c.h 4;obtain _|g:=gk
 .obtain rfl:i=n:=AE S;have ai:¬(i:J)<(i:J):=E;have an:K b+2<=149999999:=by grind [D]
  have g1:¬(1+K b>9223372036854775807):=E;have g2:¬(1+K b+1>9223372036854775807):=E;have R:D<|ds.any h=AQ/\Dm f ds=b:=B9;go_wp2;refine CS (FP results85 _ _ _) Z ?_;unfold Ip;rw[R.1,R.2];refine⟨?_,c.ac⟩;exact congrArg (λak=>Ending.returned<|Value.tuple #[.string ak,Ah AP])<|iZ 91 93
 have ah:i<n:=AY<|AE S;have ai:(i:J)<(n:J):=E;obtain⟨ee,l,m,gb,q,z,s,p,r,t,v,w,y,ab,ae,ag,rfl,hk⟩:=af.out i ah;have ac:=hk;obtain⟨⟨k0,k1,k2,k3,k4⟩,_⟩:=ac _ c.ac;have aj:=Up f ab;rw[<-AE ad,ae]at aj;have g0:¬(K b+1>9223372036854775807):=E;have g1:¬(K b+K l>9223372036854775807):=E;have g2:¬(K b+1+K l>9223372036854775807):=E;have B:=c;cases m
 .have Q:D (∀V,A0 W V->Ar As 85 #[Ag #[C Y q,C Y z,.string s,G p r t,G v w y]] V λe W'=>e=Ak (Af #[Ae ⟨Aw l⟩,Ah AP])/\A0 V W'):=λV o=>(ac V o).2;have HA:D<|(ds.take<|i+1).any h=AQ:=by grind [j0]
  by_cases h0:0<i
  .have x:D<|Dm f (ds.take<|i+1)=(b++[44])++l:=by grind [D,Sc]
   have A:0<(i:J):=E
   go_wp2_with(first
   |(go_at_call 85;refine Ce (Q _ B.ac) ?_;rintro e w3 ⟨rfl,L⟩))
   go_roundg g;exact⟨i+1,_,kfI,Bb,B9,x.symm,HA,B.next L⟩;omega
  obtain rfl:i=0:=E;have x:D<|Dm f (ds.take<|0+1)=b++l:=by show _=_;rw[Sb _ ab,AE ad,ae];rfl
  go_wp2_with(first
  |(go_at_call 85;refine Ce (Q _ B.ac) ?_;rintro e w3 ⟨rfl,L⟩))
  go_roundg g;exact⟨0+1,_,by rw[<-EX],Bb,B9,x.symm,HA,B.next L⟩;omega
 have Q:D (∀V,A0 W V->Ar As 85 #[Ag #[C Y q,C Y z,.string s,G p r t,G v w y]] V λe W'=>e=Ak (Af #[Ae ⟨#[]⟩,Ah AQ])/\A0 V W'):=λV o=>(ac V o).2;have R:=T<|Uc _ ab ag;have A:(0<(i:J))\/¬(0<(i:J)):=E;rcases A with A|A
 all_goals
  go_wp2_with(first
  |(go_at_call 85;refine Ce (Q _ B.ac) ?_;rintro e w3 ⟨rfl,L⟩))
  refine CS (FP results85 _ _ _) Z ?_;unfold Ip;rw[AE R];exact⟨rfl,(B.next L).ac⟩
theorem zB{f:A2->A1}(h:A2->AK)(hF:∀j,F j->j<O (U W))(hq:DQ W 9 1 F kv (K es)<|es.map NP)(hr:DQ W 101 5 F u (K es) xs)(ha:∀(i:I) (key:Lit) (d:A2),es[i]?=H (key,d)->∃l a,key=.string l/\Ht xs i a/\CV k W F (.agg a) d)(hl:K (([123]++Dm (MW f) es)++[125])<=149999999)(ih:∀(V:X) (a:A3) (d:A2),(∀j,F j->j<O (U V))->CV k V F (.agg a) d->K (f d)<=149999999->Ar As 85 #[.agg a] V (Ip (h d) (f d) V)):Ar As 85 #[.agg<|Cg 7 0 ⟨#[]⟩ kv u] W<|Ip (es.any λe=>h e.2) (([123]++Dm (MW f) es)++[125]) W:=by
 obtain⟨hn,a,ad,rfl,HC⟩:=MT hr;obtain⟨b,ae,rfl,HQ⟩:=Y1 hq;obtain⟨p,ag⟩:∃p:Lit×AM Unit->A1,D<|MW f=p:=⟨_,show _=_ from rfl⟩
 obtain⟨S,ah⟩:∃S:Lit×AM Unit->AK,D<|(λe=>h e.2)=S:=⟨_,show _=_ from rfl⟩
 rw[AE ag]at hl ⊢;rw[AE ah];have o:D<|EQ W (Cg 7 0 ⟨#[]⟩ (G b (K es) ae)<|G a (K es) ad)<|Az W<|M (Cg 7 0 ⟨#[]⟩ (G b (K es) ae)<|G a (K es) ad) 101:=Kn;obtain⟨n,hN⟩:=DF<|K es;have ax:K (Dm p es)+2<=149999999:=B9;have ak:D (∀i,i<n->∃e l v t g gk B z s y L N P Q R,es[i]?=H e/\p e=(qT l++[58])++v/\S e=t/\K l<=150000000/\a=Aa g/\b=Aa gk/\(∀V,A0 W V->A6 V gk i (Ae ⟨Aw l⟩)/\(A6 V g (i*5) (C Y B)/\A6 V g (i*5+1) (C Y z)/\A6 V g (i*5+2) (.string s)/\A6 V g (i*5+3) (G y L N)/\A6 V g (i*5+4) (G P Q R))/\Ar As 85 #[Ag #[C Y B,C Y z,.string s,G y L N,G P Q R]] V (Ip t v V))):=λi hi=>by
  obtain⟨⟨key,d⟩,t⟩:∃e,es[i]?=H e:=⟨_,D7 E⟩
  obtain⟨l,au,w,hs,hA⟩:=ha i key d t;subst w;obtain⟨B,z,s,y,L,N,P,Q,R,e⟩:=hA.ac;injection e with e;subst e;obtain⟨g,ea,hg,hc⟩:=HC i _ E hs;obtain⟨gk,eb,am,al⟩:=HQ i l d t;have A:p (.string l,d)=(qT l++[58])++f d:=by rw[<-AE ag];rfl
  have h1:=Up p (l:=es) (i:=i) t;have h3:=O5 qB l λb _=>iY b;rw[A,Dj,Dj]at h1;unfold qT at h1;rw[Dj,Dj]at h1;refine⟨(.string l,d),l,f d,h d,g,gk,B,z,s,y,L,N,P,Q,R,t,A,by rw[<-AE ah],E,ea,eb,λV r=>⟨al V<|Co r gk<|hF gk am,?_,ih V _ d (λj hj=>CQ (hF j hj) r.size) (hA.same (λ_ h=>h) λj hj=>Co r j<|hF j hj) E⟩⟩;have hb:=Co r g<|hF g hg;exact⟨hc V hb 0 B8,hc V hb 1 B8,hc V hb 2 B8,hc V hb 3 B8,hc V hb 4 B8⟩
 have cQ:=λV l h=>iU V (l:=l) h;rw[hN]at o hn;unfold Cg at *;go_enter func85,ntmps85;rw[hN];go_wp2
 go_loopg[4,5] n (λg zs zi wr=>∃(i:I) (m:A1),zs=Ae ⟨Aw m⟩/\zi=C Y i/\D (i+g=n)/\D (m=Dm p (es.take i))/\D ((es.take i).any S=AQ)/\D (EQ W #[C Y 7,C Y 0,Ae ⟨#[]⟩,G b n ae,G a n ad] wr))
 exact⟨0,[],Z,Z,Bg,Z,Z,o⟩;obtain⟨i,m,rfl,rfl,hg,ai,av,o⟩:=hrel;have c0:=Cc o.h 0;have c3:=Cc o.h 3;have c4:=Cc o.h 4;obtain _|g:=gk
 .obtain rfl:i=n:=AE hg;have aq:¬(i:J)<(i:J):=E;have aw:K m+2<=149999999:=by grind [D]
  have g1:¬(1+K m>9223372036854775807):=E;have g2:¬(1+K m+1>9223372036854775807):=E;have HE:D<|es.any S=AQ/\Dm p es=m:=B9;go_wp2;refine CS (FP results85 _ _ _) Z ?_;unfold Ip;rw[HE.1,HE.2];refine⟨?_,o.ac⟩;exact congrArg (λar=>Ending.returned<|Value.tuple #[.string ar,Ah AP])<|iZ 123 125 (l:=m)
 have ao:i<n:=AY<|AE hg;have aq:(i:J)<(n:J):=E;obtain⟨ee,l,v,t,gb,gk,B,z,s,y,L,N,P,Q,R,af,A,an,ap,rfl,rfl,hk⟩:=ak.out i ao;obtain⟨q,HQ⟩:=CC<|qT l;have cq:=λV=>cQ V l ap;rw[AE HQ]at cq A;have k5:=(hk _ o.ac).1;have w:=λV r=>(hk V r).2;obtain⟨⟨k0,k1,k2,k3,k4⟩,_⟩:=w _ o.ac;have aj:=Up p (l:=es) (i:=i) af;rw[<-AE ai,A]at aj;simp only[Dj,List.length_singleton]at aj;have g0:¬(K m+1>9223372036854775807):=E;have g1:¬(K m+K q>9223372036854775807):=E;have g2:¬(K m+1+K q>9223372036854775807):=E;have g3:¬(K m+K q+1>9223372036854775807):=E;have g4:¬(K m+1+K q+1>9223372036854775807):=E;have g5:¬(K m+K q+1+K v>9223372036854775807):=E;have g6:¬(K m+1+K q+1+K v>9223372036854775807):=E;cases t
 .have ab:D (∀V,A0 W V->Ar As 85 #[Ag #[C Y B,C Y z,.string s,G y L N,G P Q R]] V λe W'=>e=Ak (Af #[Ae ⟨Aw v⟩,Ah AP])/\A0 V W'):=λV r=>(w V r).2;have HA:D<|(es.take<|i+1).any S=AQ:=by grind [j0]
  by_cases h0:0<i
  .have HN:D<|Dm p (es.take<|i+1)=(((m++[44])++q)++[58])++v:=by grind [D,Sc]
   have ac:0<(i:J):=E
   go_wp2_with(first
   |(go_at_call 119;refine Ce (cq _) ?_;rintro e w2 ⟨rfl,x⟩;unfold CX;have c:=T<|o.next x;obtain⟨⟨k0,k1,k2,k3,k4⟩,_⟩:=w _ c.ac;have c0:=Cc c.h 0;have c4:=Cc c.h 4)
   |(go_at_call 85;refine Ce (ab _ c.ac) ?_;rintro e w3 ⟨rfl,aa⟩))
   go_roundg g;exact⟨i+1,_,kfI,Bb,B9,HN.symm,HA,c.next aa⟩;omega
  obtain rfl:i=0:=E;have HN:D<|Dm p (es.take<|0+1)=((m++q)++[58])++v:=by show _=_;rw[Sb _ af,AE ai,A];simp only[L9];rfl
  go_wp2_with(first
  |(go_at_call 119;refine Ce (cq _) ?_;rintro e w2 ⟨rfl,x⟩;unfold CX;have c:=T<|o.next x;obtain⟨⟨k0,k1,k2,k3,k4⟩,_⟩:=w _ c.ac;have c0:=Cc c.h 0;have c4:=Cc c.h 4)
  |(go_at_call 85;refine Ce (ab _ c.ac) ?_;rintro e w3 ⟨rfl,aa⟩))
  go_roundg g;exact⟨0+1,_,kfI,Bb,B9,HN.symm,HA,c.next aa⟩;omega
 have ab:D (∀V,A0 W V->Ar As 85 #[Ag #[C Y B,C Y z,.string s,G y L N,G P Q R]] V λe W'=>e=Ak (Af #[Ae ⟨#[]⟩,Ah AQ])/\A0 V W'):=λV r=>(w V r).2;have HE:=T<|Uc _ af an;have ac:(0<(i:J))\/¬(0<(i:J)):=E;rcases ac with ac|ac
 all_goals
  go_wp2_with(first
  |(go_at_call 119;refine Ce (cq _) ?_;rintro e w2 ⟨rfl,x⟩;unfold CX;have c:=T<|o.next x;obtain⟨⟨k0,k1,k2,k3,k4⟩,_⟩:=w _ c.ac;have c0:=Cc c.h 0;have c4:=Cc c.h 4)
  |(go_at_call 85;refine Ce (ab _ c.ac) ?_;rintro e w3 ⟨rfl,aa⟩))
  refine CS (FP results85 _ _ _) Z ?_;unfold Ip;rw[AE HE];exact⟨rfl,(c.next aa).ac⟩
def Ff{a b:A3}(h:Value.agg a=.agg b):a=b:=by injection h
theorem UA:∀(k:I) (W:X) (F:I->Prop) (a:A3) (d:A2),(∀j,F j->j<O (U W))->CV k W F (.agg a) d->K (Du k d)<=999999999->Ar As 86 #[.agg a] W (Eg (Du k d) W)
 |0,_,_,_,_,_,h,_=>h.elim
 |k+1,W,F,a,d,hF,h,hl=>by
  unfold CV at h;split at h
  .obtain rfl:=Ff h;exact YB 0 246 246 B8 Z
  .rename_i b;obtain rfl:=Ff h;cases b
   .exact YB 1 244 244 B8 Z
   exact YB 2 245 245 B8 Z
  .obtain⟨h,c,e⟩:=h;obtain rfl:=Ff h;exact zm c e
  .rename_i l;obtain rfl:=Ff h;exact(jG (by have:K (Dd 3 (K l)++l)<=999999999:=hl;grind)).1
  .rename_i l;obtain rfl:=Ff h;exact(jG (by have:K (Dd 2 (K l)++l)<=999999999:=hl;grind)).2
  .obtain⟨u,n,h,f,i⟩:=h;obtain rfl:=Ff h;exact jH AQ hF f i hl (λV=>Qu V 4 _ B8 (MT f).1) λV a d c e g=>UA k V F a d c e g
  .obtain⟨o,u,n,h,m,f,i⟩:=h;obtain rfl:=Ff h;exact jI AQ hF m f i hl (λV=>Qu V 5 _ B8 (MT f).1) (λV l h=>Qu V 3 (K l) B8 E) λV a d c e g=>UA k V F a d c e g
  exact h.elim
theorem YD:∀(k:I) (W:X) (F:I->Prop) (a:A3) (d:A2),(∀j,F j->j<O (U W))->CV k W F (.agg a) d->K (Io k d)<=999999999->Ar As 87 #[.agg a] W (Eg (Io k d) W)
 |0,_,_,_,_,_,h,_=>h.elim
 |k+1,W,F,a,d,hF,h,hl=>by
  unfold CV at h;split at h
  .obtain rfl:=Ff h;exact YC 0 192 192 B8 Z
  .rename_i b;obtain rfl:=Ff h;cases b
   .exact YC 1 194 194 B8 Z
   exact YC 2 195 195 B8 Z
  .obtain⟨h,c,e⟩:=h;obtain rfl:=Ff h;exact zp c e
  .rename_i l;obtain rfl:=Ff h;exact zu (by have:K (EP (K l)++l)<=999999999:=hl;grind)
  .rename_i l;obtain rfl:=Ff h;exact zy (by have:K (Gq (K l)++l)<=999999999:=hl;grind)
  .obtain⟨u,n,h,f,i⟩:=h;obtain rfl:=Ff h;exact jH AP hF f i hl (λV=>(jD).1▸jE V 144 220 B8 B8 (MT f).1) λV a d c e g=>YD k V F a d c e g
  .obtain⟨o,u,n,h,m,f,i⟩:=h;obtain rfl:=Ff h;exact jI AP hF m f i hl (λV=>(jD).2▸jE V 128 222 B8 B8 (MT f).1) (λV l h=>jC V E) λV a d c e g=>YD k V F a d c e g
  exact h.elim
theorem YE:∀(k:I) (W:X) (F:I->Prop) (a:A3) (d:A2),(∀j,F j->j<O (U W))->CV k W F (.agg a) d->K (JS k d)<=149999999->Ar As 85 #[.agg a] W (Ip (F7 k d) (JS k d) W)
 |0,_,_,_,_,_,h,_=>h.elim
 |k+1,W,F,a,d,hF,h,hl=>by
  unfold CV at h;split at h
  .obtain rfl:=Ff h;exact Yi 0<|AF ⟨Z,Z⟩
  .rename_i b;obtain rfl:=Ff h;cases b
   .exact Yi 1<|AG<|AF ⟨Z,Z⟩
   exact Yi 2<|AG<|AG ⟨Z,Z⟩
  .obtain⟨h,c,e⟩:=h;obtain rfl:=Ff h;exact xz c e
  .rename_i l;obtain rfl:=Ff h;refine xA ?_;have c:K (qT l)<=149999999:=hl;grind [O5,iY,qT]
  .rename_i l;obtain rfl:=Ff h;exact xy
  .obtain⟨u,n,h,i,g⟩:=h;obtain rfl:=Ff h;exact zA (F7 k) hF i g hl λV a d c e f=>YE k V F a d c e f
  .obtain⟨o,u,n,h,m,i,g⟩:=h;obtain rfl:=Ff h;exact zB (F7 k) hF m i g hl λV a d c e f=>YE k V F a d c e f
  exact h.elim
def zC(d:A6 W 8 15<|C Am 4):Ar As 248 #[C .u64 16] W λe a=>e=Ak (C Y 4)/\a=W:=by have b:IntKind.u64.wrap (-16)=18446744073709551600:=B6;have c:bits .and .u64 16 18446744073709551600=16:=B6;go_enter func248,ntmps248;go_wp2;go_ret;exact⟨Z,Z⟩
def zD(b:A6 W 8 15<|C Am 4):Ar As 239 #[C .u64 16] W λe a=>e=Ak (C Y 4)/\a=W:=by
 have c:=zC b;go_enter func239,ntmps239
 go_wp2_with(first|(go_at_call 248;refine Ce c ?_;rintro e d ⟨rfl,rfl⟩))
 go_ret;exact⟨Z,Z⟩
def zE(W:X):Ar As 238 #[C Y 16] W λe a=>e=Ak (Ah AP)/\a=W:=by have b:bits .and Y 16 15=0:=B6;go_enter func238,ntmps238;go_wp2;go_ret;exact⟨Z,Z⟩
def hxL(u:AH):A1:=if u<16 then[Ep u]else hxL (u/16)++[Ep<|u%16]
theorem So{u:I}(h:u<16):hxL u=[Ep u]:=by rw[hxL,Cp h]
theorem UB{u:I}(h:¬u<16):hxL u=hxL (u/16)++[Ep<|u%16]:=by rw[hxL,Cl h]
theorem YG:∀(k u:I),u<16^(k+1)->K (hxL u)<=k+1
 |0,u,h=>by grind [So]
 |k+1,u,h=>by
  by_cases a:u<16
  .rw[So a];simp
  rw[UB a,Dj];have b:u/16<16^(k+1):=E;have:=YG k (u/16) b;simp;omega
structure Me(W:Ap)(tl:A1)(V:Ap):Prop where
 ac:A0 W V
 ai:V.heap[Au (Av W)]?=An (Aj (Aw ((AV (65-At tl) (0:AU)++tl).map CP)) 366)
 a:At tl<=65
def jL{x:I}(hx:x<16)(V:X):(Instr.index 9 (Ae ⟨#[48,49,50,51,52,53,54,55,56,57,97,98,99,100,101,102,103,104,105,106,107,108,109,110,111,112,113,114,115,116,117,118,119,120,121,122]⟩)<|C .u64 x).run As V=.ok (C Am ((Ep x).toNat:J)) V:=kfP
theorem zG{a:I}(c:a<18446744073709551616):bits .and .u64 (a:J) 15=((a%16:I):J):=by
 have h:(BitVec.ofNat 64 a&&&BitVec.ofNat 64 15).toNat=a%16:=by rw[aB,OC,OC,Mt E,Mt E];exact ZP a 4
 have b:BitVec.ofInt 64 (a:J)=BitVec.ofNat 64 a:=Oz ..;show IntKind.u64.wrap ((BitVec.ofInt 64 (a:J)&&&BitVec.ofNat 64 15).toNat:J)=_;grind [IntKind.wrap,IntKind.bits]
def Me.cell(h:Me W tl V)(a:j+1+K tl=65):AC V ⟨O<|U W,j,Ao⟩=H (C Am 0):=by have:=Cc h.ai j;rw[this];simp[show j<65-K tl by omega,List.getElem?_append,CP]
theorem Me.set(h:Me W tl V)(c:j+1+K tl=65)(b:AU):Me W (b::tl)<|AB V ⟨O<|U W,j,Ao⟩<|CP b:=by refine⟨h.ac.setCell (Cr _) _,?_,B7⟩;rw[DX V _ _ _ _ _ h.ai];have a:65-K tl=j+1:=E;grind [List.map_replicate,List.replicate_succ',List.set_append_right]
theorem Me.a0(h:Me W tl V)(hi:i+K tl=65):(convert 50 9<|G (H ⟨O<|U W,i,Ao⟩) (K tl) c).run As V=.ok (Ae ⟨Aw tl⟩) V:=by refine R2 V 50 9 5 ⟨O<|U W,i,Ao⟩ c tl underlying50 underlying5 underlying9 ?_;intro j a;have e:(⟨O<|U W,i,Ao⟩:Addr).add j=⟨O<|U W,i+j,Ao⟩:=C2;rw[e];have:=Cc h.ai<|i+j;grind [CP]
def Me.thaw(h:Me W tl V)(j:I):V.frozen? ⟨O<|U W,j,Ao⟩=AQ:=by have:=h.ai;simp[World.frozen?,this]
theorem zI(V:X)(N j n:I)(h:j+n=65)(b:0<n):(Instr.sliceAt 366 (A8 N) (H<|C Y j) Ao Ao).run As V=.ok (G (H ⟨N,j,Ao⟩) n n) V:=by rw[run_sliceAt_array_l V 366 ⟨N,0,Ao⟩ B6 Y j E<|by show(j:J)<=65;omega];have e:prog.arrayLen 366=65:=B6;have a:(sizeOf<|prog.elem 366).run As V=.ok 1 V:=B6;grind [Addr.add,Result.andThen_ok,slicedAt]
theorem zJ{u:I}(S:u<18446744073709551616)(hz:A6 W 8 15<|C Am 4):Ar As 222 #[G Ao 0 0,C .u64 u,C Y 16,Ah AQ,Ah AQ] W λe m=>e=Ak (Af #[G Ao 0 0,Ae ⟨Aw<|hxL u⟩])/\A0 W m:=by
 have N:8<O (U W):=by grind [World.cell?]
 have w:=λV=>zE V;have z:∀V,A0 W V->Ar As 239 #[C .u64 16] V λe m=>e=Ak (C Y 4)/\m=V:=λV B=>zD<|Ca (B.cell N) hz;go_enter func222,ntmps222
 go_wp2_with(first
  |(go_at_call 238;refine Ce (w _) ?_;rintro e w2 ⟨rfl,rfl⟩)
  |(go_at_call 239;refine Ce (z _ Cm) ?_;rintro e w3 ⟨rfl,rfl⟩))
 go_loopg[1,13] 16 (λg x y wr=>∃(d i:I) (a:A1),x=C .u64 d/\y=C Y i/\D (i+K a=65)/\D (hxL u=hxL d++a)/\D (d<16^g)/\D (K a+g<=16)/\D (Me W a wr))
 exact⟨u,65,[],Z,Z,Z,BR,S,Cr 16,⟨Cm,Ca (Cj W) B6,Ex _⟩⟩;obtain⟨d,i,a,rfl,rfl,f,HH,r,s,h⟩:=hrel;obtain⟨j,rfl⟩:∃j,i=j+1:=⟨i-1,by grind [D]⟩
 have hj:j<65:=AY<|AE f;have F:d<18446744073709551616:=by have h1:=AE r;have h2:=AE s;have h3:16^gk<=16^16:=OA E E;omega
 have p:=T<|zG F;have hc:=h.cell f;have aa:=h.thaw j;by_cases Q:d<16
 .have A:AR ((16:J)<=d)=AQ:=B7;have l:D (hxL u=Ep d::a):=by grind [So]
  obtain⟨b,k⟩:=CC<|Ep d;have P:=λV=>AE k▸jL Q V;have R:=λV=>zI V (O<|U W) j (K (b::a)) (by grind [D]) Ba;have L:(convert 50 9<|G (H ⟨O<|U W,j,Ao⟩) (K (b::a))<|K (b::a)).run As (AB wr ⟨O<|U W,j,Ao⟩<|C Am (b.toNat:J))=.ok (Ae ⟨Aw (b::a)⟩) (AB wr ⟨O<|U W,j,Ao⟩<|C Am (b.toNat:J)):=(h.set f b).a0 (i:=j) (c:=K (b::a)) (by grind [D]);have v:=T<|h.set f b;have q:=T<|AE k▸AE l;obtain⟨ab,t⟩:=CC<|K (b::a);rw[AE t]at R L
  go_wp2_with fail
  refine CS (FP results222 _ _ _) Z ⟨?_,v.ac⟩;rw[AE q];rfl
 have A:AR ((16:J)<=d)=AP:=B7;obtain⟨x,o⟩:=CC<|d%16;have n:x<16:=AY<|AE o;obtain⟨b,k⟩:=CC<|Ep x;have P:=λV=>AE k▸jL n V;have l:D (hxL u=hxL (d/16)++b::a):=by grind [D,UB]
 have ha:=AE o▸AE p;have HK:D<|16<=d:=Bp
 go_wp2_with fail
 obtain _|g:=gk
 .grind [D]
 go_roundg g
 .refine⟨d/16,j,b::a,Bb,Bb,?_,l,?_,?_,h.set f b⟩
  .grind [D]
  .grind [D]
  grind [D]
 omega
def zK{u:I}(d:u<18446744073709551616)(f:A6 W 8 15<|C Am 4):Ar As 229 #[C .u64 u,C Y 16] W λe a=>e=Ak (Ae ⟨Aw<|hxL u⟩)/\A0 W a:=by
 have c:=zJ d f;go_enter func229,ntmps229
 go_wp2_with(first|(go_at_call 222;refine Ce c ?_;rintro e g ⟨rfl,b⟩))
 go_ret;exact⟨Z,b⟩
def zL{u:I}(d:u<18446744073709551616)(f:A6 W 8 15<|C Am 4):Ar As 217 #[C .u64 u,C Y 16] W λe a=>e=Ak (Ae ⟨Aw<|hxL u⟩)/\A0 W a:=by
 have c:=zK d f;go_enter func217,ntmps217
 go_wp2_with(first|(go_at_call 229;refine Ce c ?_;rintro e g ⟨rfl,b⟩))
 go_ret;exact⟨Z,b⟩
def Na(u:AH):A1:=AV (16-At (hxL u)) 48++hxL u
def zM{u:I}(a:u<18446744073709551616):K (Na u)=16:=by have:=YG 15 u a;simp[Na];omega
theorem zN:repeatL [48] n=AV n 48:=by induction n<;>grind [repeatL]
theorem zO{u:I}(g:u<18446744073709551616)(p:A6 W 8 15<|C Am 4):Ar As 205 #[C .u64 u] W λe j=>e=Ak (Ae ⟨Aw<|Na u⟩)/\A0 W j:=by
 have c:=zL g p;have o:=YG 15 u g;obtain⟨l,b⟩:=CC<|hxL u;rw[AE b]at c o;obtain⟨n,h⟩:=CC<|16-K l;have a:D<|K l+n=16:=by grind [D]
 obtain⟨r,d⟩:=CC<|repeatL [48] n;have i:=T<|(zN).symm.trans d;have k:=λV=>AE d▸Tryz.strings_Repeat ⟨#[48]⟩ n V (AY<|AE a) (by have:=AE a;show 1*n<=_;omega);have q:¬9223372036854775807<K r+K l:=by grind [D]
 have s:(16:J)-K l=n:=AY<|AE a;go_enter func205,ntmps205
 go_wp2_with(first
  |(go_at_call 217;refine Ce c ?_;rintro e t ⟨rfl,f⟩)
  |(go_at_call 218;refine Ce (k _) ?_;rintro e v ⟨rfl,m⟩))
 go_ret;refine⟨?_,Cs f<|CG m f.size⟩;rw[EX,<-AE i,<-AE h,<-AE b];rfl
def Sq(key:AI)(i:AH):AH:=(key/2^(8*i)%256).toNat
def zP(key:J)(i:I):Sq key i<256:=by unfold Sq;omega
def JV(key:AI):AH->AH
 |0=>14695981039346656037
 |k+1=>N9 (JV key k)<|Sq key k
def UC(key:J):∀k,JV key k<18446744073709551616
 |0=>by show 14695981039346656037<_;omega
 |k+1=>QF
def Is(s:AH):A1->AH
 |[]=>s
 |b::t=>Is (N9 s b.toNat) t
theorem UD:∀(l:A1) (s:I),s<18446744073709551616->Is s l<18446744073709551616
 |[],_,h=>h
 |_::t,_,_=>UD t _<|QF
def JW(key:AI)(label:AH)(l:A1):A1:=Na<|Is (N9 (JV key 8) label) l
theorem QG(h:Cn W base v bs):∃c a,v=G c (K bs) a/\E2 W c bs:=by
 have d:=h;obtain⟨⟨k,b⟩,_,_⟩:=h;rcases b with⟨rfl,b⟩|⟨g,a,j,rfl,_,e,l,m,_⟩
 .refine⟨Ao,0,by rw[b],⟨λi f=>E,E⟩⟩
 have n:=OU d;refine⟨_,a,Z,⟨λi f=>⟨g,0,Z,(Cd e),B9⟩,E⟩⟩
def zQ(key:J)(k:I)(W:X):Ar As 204 #[C .u64<|JV key k,C Am<|key/2^(8*k)%256] W λe a=>e=Ak (C .u64<|JV key<|k+1)/\a=W:=by
 have h:=YF (UC key k) (zP key k) W;have e:((Sq key k:I):J)=key/2^(8*k)%256:=by unfold Sq;omega
 rw[e]at h;exact h
theorem zR(key:J)(i:I)(aa:i<256)(hF:∀j,F j->j<O (U W))(h:CA k W F x d)(hl:K (Du k d)<=999999999)(hz:A6 W 8 15<|C Am 4):Ar As 181 #[C Y key,C Y i,x] W λe f=>e=Ak (Ae ⟨Aw<|JW key i<|Du k d⟩)/\A0 W f:=by
 have hg:8<O (U W):=by grind [World.cell?]
 have Q:=λk V=>zQ key k V;have R:=λV=>YF (UC key 8) aa V;have q:=ii hF h hl;have P:∀V u,A0 W V->u<18446744073709551616->Ar As 205 #[C .u64 (u:I)] V λe f=>e=Ak (Ae ⟨Aw<|Na u⟩)/\A0 V f:=λV u hV hu=>zO hu<|Ca (hV.cell hg) hz;obtain⟨ab,y,rfl⟩:=h.iface;obtain⟨a,A⟩:=CC<|Du k d;rw[AE A]at q hl ⊢;have N:Ar As 82 #[C Y 2,Ai ab y] W λe f=>∃p r,e=Ak (G p (K a) r)/\D (E2 f p a)/\A0 W f:=Ce q (by grind [D,QG]);obtain⟨S,l⟩:=CC<|Is (N9 (JV key 8) i) a;have L:D<|JW key i a=Na S:=by show Na _=_;rw[AE l]
 have m:D<|N9 (JV key 8) i<18446744073709551616:=QF;rw[AE L];go_enter func181,ntmps181
 go_wp2_with fail
 go_loopg[7,11] 8 (λg x y wr=>∃(k:I),D (k+g=8)/\x=C .u64 (JV key k)/\y=C Y k/\W=wr)
 exact⟨0,Z,Z,Z,Z⟩;obtain⟨k,b,rfl,rfl,rfl⟩:=hrel;obtain _|g:=gk
 .have v:k=8:=AY<|AE b;subst v
  go_wp2_with(first
   |(go_at_call 204;refine Ce (R _) ?_;rintro e w2 ⟨rfl,rfl⟩)
   |(go_at_call 82;refine Ce N ?_;rintro e w3 ⟨p,r,rfl,z,n⟩))
  go_loopg[7,29] (K a) (λg x y wr=>∃(k s:I),D (k+g=K a)/\x=C .u64 s/\y=C Y k/\D (Is s (a.drop k)=S)/\D (s<18446744073709551616)/\w3=wr)
  exact⟨0,_,Bg,Z,Z,l,m,Z⟩;obtain⟨k,s,b,rfl,rfl,l,m,rfl⟩:=hrel;obtain _|g:=gk
  .have hk:¬(k:J)<K a:=AY<|AE b;have hs:s=S:=by have:=AE l;rw[R6<|AY<|AE b]at this;exact this
   subst hs;have c:=P _ s n m
   go_wp2_with(first
    |(go_at_call 205;refine Ce c ?_;rintro e w5 ⟨rfl,t⟩))
   go_ret;exact⟨Z,Cs n<|CG t n.size⟩
  have w:k<K a:=AY<|AE b;have hk:(k:J)<K a:=E;obtain⟨b0,off,e1,e2,e3⟩:=z.a0 k w;subst e1;have o:=AE l;rw[K6 w]at o;obtain⟨c,hc⟩:=DF<|a[k];rw[hc]at e3 o;have cW:=λV=>YF m (UInt8.toNat_lt c) V;have B:D<|Is (N9 s c.toNat) (a.drop<|k+1)=S:=o
  go_wp2_with(first
   |(go_at_call 204;refine Ce (cW _) ?_;rintro e w5 ⟨rfl,rfl⟩))
  go_roundg g;exact⟨k+1,_,B9,Z,Bb,B,QF,Z⟩;omega
 have v:k<8:=AY<|AE b;have ac:(k:J)<8:=E;have c:=Q k
 go_wp2_with(first
  |(go_at_call 204;refine Ce (c _) ?_;rintro e w2 ⟨rfl,rfl⟩))
 go_roundg g;exact⟨k+1,B9,Z,Bb,Z⟩;omega
def Jp.of_below{A:I}{q:D0}(h:A0 W W'):Jp A q sv W W':=⟨h.size,λj a _ _ _ _=>h.block j a⟩
def Jp.trans{A:I}{q:D0}{W V X:Ap}(h:Jp A q sv W V)(g:Jp A q sv V X):Jp A q sv W X :=
 ⟨CE h.size g.size,λj e a b c d=>(g.block j (CQ e h.size) a b c d).trans<|h.block j e a b c d⟩
def jX(W0:Ap)(A:AH)(q:D0)(sts:AJ<|(AH->AH)×AI×AI)(sv:Aq)(P:AH->AH)(x mn:AH)(W:Ap)(e:Ending)(W':Ap):Prop :=
 ∃(i:AH) (sts':AJ<|(AH->AH)×AI×AI) (sa':A4) (sc':AH) (nf':Lit->Option AH) (mn':AH) (mf':Lit->Option AH),e=Ak (Ab Al i)/\Dv W0 A q sts' (Ac sa' (At sts') sc') nf' mn' mf' W'/\KV q sts' mf'/\mn'<=mn+1/\(∀(j:AH) (x:(AH->AH)×AI×AI),sts[j]?=An x->sts'[j]?=An x)/\At sts'<=At sts+1/\∃t Y,sts'[i]?=An t/\Pi (At q.a) q.st (I0 q.st (q.j x) P<|At q.a) Y/\(∀r,r<16->t.1 r=Y r)/\Jp A q sv W W'/\Pn sv (Ac sa' (At sts') sc') W
theorem qyk(P:X)(A:I)(q:D0)(d:AJ<|(I->I)×J×J)(R:A4)(o:I)(nf:Lit->Option I)(v:I)(n:Lit->Option I)(W:X)(h:Dv P A q d (G R (K d) o) nf v n W)(bf:KV q d n)(bh:K d<100000)(bv:v<100000)(f:I)(s:(I->I)×J×J)(hs:d[f]?=H s)(key:A1)(Q:AK)(hb:K key<=maxLen)(x:I)(hx:Jr q.i key Q=x)(hxL:x<q.L)(l:Lit)(hl:keyOf As 199 (.agg<|DN f x)=H l)(hi:n l=Ao):Ar As 71 #[A8 A,C Y f,Ag #[Ae ⟨Aw key⟩,Ah Q]] W<|jX P A q d (G R (K d) o) s.1 x v W:=by
 have HA:D<|Dv P A q d (G R (K d) o) nf v n<|Az W<|M #[Ae ⟨Aw key⟩,Ah Q] 146:=h.next Cm
 have HW:D<|A0 W<|Az W<|M #[Ae ⟨Aw key⟩,Ah Q] 146:=Cm;have cL:=YJ HA Q hb;rw[hx]at cL;have ay:=T bf;go_enter func71,ntmps71
 go_wp2_with(first
  |(go_at_call 103;refine cL.mono ?_;rintro e c ⟨rfl,B⟩;have N:=T<|HA.next B;have am:=T<|HW.trans<|B.mono HW.size))
 have aa:D<|Dv P A q d (G R (K d) o) nf v n<|Az c<|M #[C Y f,C Y x] 199:=N.next Cm
 have al:D<|(Az c<|M #[C Y f,C Y x] 199).heap[O<|U c]?=H (M (DN f x) 199):=Cj _;have bo:D (∀g,Ax (AX R (K d) o)=H g->g<O (U c)):=λg e=>QD N.b e;have bn:D<|A<O (U c)/\q.d<O (U c)/\q.b<O (U c):=⟨(Cd N.aq),N.a.lt,N.c.lt⟩
 have a5:D<|A0 W<|Az c<|M #[C Y f,C Y x] 199:=am.alloc am.size _;generalize Az c (M #[C Y f,C Y x] 199)=V0 at *;refine Dl (S:=λa=>A6 a A 22 (.map<|H q.b)/\A7 a (O<|U c) (DN f x) 199/\Ed a 199 q.b v n) (⟨Cc aa.aq 22,al,aa.c⟩) B6 λb=>Cb 0 16 (A8 A) b <| Cb 1 17 (A8 A) b <| Cb 2 18 (A9 A 22) b <| Ch 3 19 (.map<|H q.b) Z (λa m=>ke4) b <| Ch 4 20 (.agg<|DN f x) Z (λa m=>BU) b <| Ch 5 21 (Af #[C Y 0,Ah AQ]) Z (λa m=>C3) b <| Cb 6 15 (Af #[C Y 0,Ah AQ]) b <| Cb 7 22 (C Y 0) b <| Cb 8 23 (Ah AQ) b <| Cb 9 8 (C Y 0) b <| Cb 10 9 (Ah AQ) b <| CK ?_;go_simp;have ab:=T<|aa.next (Cu _ _).drew;have av:D<|(World.drew V0).heap[O<|U c]?=H (M (DN f x) 199):=AE al;have a6:=T<|a5.drew;generalize World.drew V0=V at *;obtain⟨g,bq,bi,bs,br,hc⟩:=ab.ai hs;injection bi with r _ e3;subst r;subst e3;have a9:A6 V A 20<|G (Aa g) (K d) o:=Cc ab.aq 20;have bt:(f:J)<(K d:J):=AY<|Dk hs;have HC:D (∀(j:I) (u:Aq),(CD s.1)[j]?=H u->A6 V g (f*18+j) u):=λj u hu=>hc j u (by grind [EA]);go_wp2;have b:(λa:X=>A7 a (O<|U c) (DN f x) 199) {V with drawn:=V.drawn+1}:=AE av;have w:D<|Dv P A q d (G (Aa g) (K d) o) nf v n {V with drawn:=V.drawn+1}:=ab.next (Cu _ _).drew
 have aw:D (∀(j:I) (u:Aq),(CD s.1)[j]?=H u->({V with drawn:=V.drawn+1}:X).cell? ⟨g,f*18+j,Ao⟩=H u):=AE HC;have bp:({V with drawn:=V.drawn+1}:X).cell? ⟨A,20,Ao⟩=H (G (Aa g) (K d) o):=a9;have cA:=jh w.bits.1 w.bits.2 w.m.1 w.auR w.auT (w.j f s hs).2 hxL;refine Ei (S:=λa=>A7 a (O<|U c) (DN f x) 199) B6 ?_;have an:D<|A0 W {V with drawn:=V.drawn+1}:=a6.drew;generalize({V with drawn:=V.drawn+1}:X)=V1 at *;refine Cb 0 26 (A8 A) b <| Cb 1 27 (A8 A) b <| Cb 2 28 (A8 A) b <| Cb 3 29 (A8 A) b <| Cb 4 30 (A9 A 20) b <| Cb 6 32 (C Y f) b <| Cb 10 36 (A9 (O<|U c) 1) b <| Ch 11 37 (C Y x) Z (λa m=>by have z1:A6 a (O<|U c) 1<|C Y x:=Cc m 1;go_simp) b ?_;refine CH 5 λz k=>?_;go_simp;refine k.out _ _ b λ_=>?_;refine CH 7 λz k=>?_;go_simp;refine k.out _ _ b λ_=>?_;refine CH 8 λz k=>?_;go_simp;refine k.out _ _ b λ_=>?_;refine CH 9 λz k=>?_;refine Kr B6 ?_;refine YK Z Z aw underlying183 Z (FV s.1) ?_;refine k.out _ _ b λ_=>?_;refine CH 12 λz k=>?_;go_simp;refine cA.mono ?_;rintro e w4 ⟨⟨ap,rfl,hY⟩,B⟩;simp only[];have HY:=T hY;have ar:=T<|w.next B;have ae:(λa:X=>A7 a (O<|U c) (DN f x) 199) w4:=(B.block _<|Cd b).trans b;refine k.out _ _ ae λ_=>?_;have ao:D<|Jp A q (G (Aa g) (K d) o) W w4:=Jp.of_below<|an.trans<|B.mono an.size;refine CH 13 λz k=>?_;go_simp;refine(YH ar HY.2.2 bh).mono ?_;rintro e w6 ⟨i,ai,bl,bm,bk,rfl,hF,bb,ba,bg,be,aj,ht,bj⟩;simp only[];have au:=T ba;have af:(λa:X=>A7 a (O<|U c) (DN f x) 199) w6:=(hF.block _ (Cd ae) (λe=>by grind [D]) (by grind [D]) (by grind [D])<|by grind [D]).trans ae;have a0:=T bg;have ad:D (ai[i]?=H aj/\∀ah,ah<16->aj.1 ah=ap ah):=⟨ht,bj⟩
 refine k.out _ _ af λ_=>?_;have az:=T<|bb.mono ao.size;have a7:=T<|ao.trans hF;refine Cb 14 8 (C Y i) af <| CK ?_;go_simp;go_wp2;have ac:=T<|au.next (Cu _ _).drew;have bu:=Dk ad.1;obtain⟨w7,bw,bd,t⟩:=Yr ac.c Sk underlying180 E hl i E;obtain⟨F,r,e2⟩:∃F:Lit->Option I,F l=H i/\∀y,y≠l->F y=n y:=by have:=Classical.propDecidable;exact⟨λy=>if y=l then H i else n y,Cp Z,λy hh=>Cl hh⟩
 have ak:=T<|ac.a6 t<|bd F r e2;have ax:D<|KV q ai F:=by
  intro f2 x2 l2 k2 aq ag;by_cases e:l2=l
  .subst e;have e3:=Fl<|r.symm.trans ag;have e4:=Yn.inj aq hl;grind [DN]
  rw[e2 l2 e]at ag;obtain⟨s2,t2,Y2,a1,a2,a3,a4⟩:=ay.out f2 x2 l2 k2 aq ag;grind
 have p:(λa:X=>A6 a A 22 (.map<|H q.b)/\A7 a (O<|U c) (DN f x) 199) {w6 with drawn:=w6.drawn+1}:=⟨Cc ac.aq 22,af⟩
 have bc:(λa:X=>A6 a A 22 (.map<|H q.b)/\A7 a (O<|U c) (DN f x) 199) w7:=⟨Cc ak.aq 22,(t.block (O<|U c) (Cd p.2)<|by grind [D]).trans p.2⟩
 have a8:=T (a7.trans ⟨t.size,λj hj _ _ _ hn=>t.block j hj<|by simpa using hn⟩);refine Ei (S:=λa=>A6 a A 22 (.map<|H q.b)/\A7 a (O<|U c) (DN f x) 199) B6 ?_;refine Cb 0 40 (A8 A) p <| Cb 1 41 (A8 A) p <| Cb 2 42 (A9 A 22) p <| Ch 3 43 (.map<|H q.b) Z (λa m=>ke4) p <| Ch 4 44 (.agg<|DN f x) Z (λa m=>BX) p <| Cb 5 45 (C Y i) p <| CH 6 λz k=>?_;go_simp;refine k.out _ _ bc λ_=>?_;refine CK ?_;go_simp;go_wp2;go_ret;exact⟨i,ai,bl,bm,bk,v+1,F,Z,ak,ax,Cr _,a0,be,aj,ap,ad.1,HY,ad.2,a8,az⟩
theorem q3K{A:I}{q:D0}(h:Dv W0 A q sts (G sa (K sts) sc) nf mn mf W)(c:KV q sts mf)(w:K sts<100000)(v:mn<100000){s:(I->I)×J×J}(d:sts[f]?=H s){key:A1}{ix:AK}(hb:K key<=maxLen){x:I}(hx:Jr q.i key ix=x)(hxL:x<q.L)(r:q.L<=100000):Ar As 71 #[A8 A,C Y f,Ag #[Ae ⟨Aw key⟩,Ah ix]] W<|jX W0 A q sts (G sa (K sts) sc) s.1 x mn W:=by
 have u:=Dk d;obtain⟨l,b⟩:=jU f x E E;rcases hi:mf l with _|i
 .grind [qyk]
 refine(jW h hb hx b hi).mono ?_;rintro e p ⟨rfl,a⟩;obtain⟨y,t,g,j,k,m,n⟩:=c f x l i b hi;have e:=Fl<|d.symm.trans j;subst e;exact⟨i,sts,sa,sc,nf,mn,mf,rfl,h.next a,c,OJ _,λ_ _ o=>o,OJ _,t,g,k,m,n,Jp.of_below a,AF rfl⟩
structure Rv where
 a:AJ (AJ (AH×A1)×AI×AI)
 c:AI
 m:AH->AH->AK
 d:AH
 key:AI
abbrev Cy:=AH×AH×AH×AH
def Ju(f:A2->Cy->Option (AM Unit)×Cy)(ds:AJ<|AM Unit)(R:Cy):AJ (AM Unit)×Cy :=
 ds.foldl (λa d=>(a.1++(f d a.2).1.toList,(f d a.2).2)) ([],R)
def Jv(f:A1->A2->Cy->Option (AM Unit)×Cy)(es:AJ<|Lit×AM Unit)(R:Cy):AJ (Lit×AM Unit)×Cy :=
 es.foldl (λa e=>(a.1++((f (D9 e.1) e.2 a.2).1.map λd=>(e.1,d)).toList,(f (D9 e.1) e.2 a.2).2)) ([],R)
def Jb(rw:AJ (A1×AK)->A2->Cy->Option (AM Unit)×Cy)(p:AJ<|A1×AK)(d:A2)(R:Cy):AM Unit×Cy :=
 match d with
 |.agg ds=>(.agg (Ju (rw (([],AP)::p)) ds R).1,(Ju (rw (([],AP)::p)) ds R).2)
 |.map es=>(.map (Jv (λkey=>rw ((key,AQ)::p)) es R).1,(Jv (λkey=>rw ((key,AQ)::p)) es R).2)
 |d=>(d,R)
def D6(c:Rv):AH->AJ (A1×AK)->A2->Cy->Option (AM Unit)×Cy
 |0,_,_,R=>(Ao,R)
 |k+1,p,d,R =>
  if c.m (Dz c.c c.a p.reverse).1.toNat c.d=AP then(An (Jb (D6 c k) p d (R.1+1,R.2)).1,(Jb (D6 c k) p d (R.1+1,R.2)).2)
  else if(Dz c.c c.a p.reverse).2=2 then(An<|.lit<|.string [42,42,42],(R.1,R.2.1,R.2.2.1+1,R.2.2.2))
  else if(Dz c.c c.a p.reverse).2=3 then(An<|.lit<|.string<|JW c.key (Dz c.c c.a p.reverse).1.toNat<|Du (k+1) d,(R.1,R.2.1,R.2.2.1,R.2.2.2+1))
  else(Ao,(R.1,R.2.1+1,R.2.2.1,R.2.2.2))
def D3:AH->A2->AH
 |0,_=>0
 |k+1,d=>match d with
  |.agg ds=>2+(ds.map λd=>1+D3 k d).sum
  |.map es=>1+(es.map λe=>2+D3 k e.2).sum
  |_=>1
structure Rc where
 v:Rv
 a:Ap
 A:AH
 q:D0
 B:AH
 O:A3
 n:AH
 G:Ap
 b:Option AH
def EK(c:Rc)(R:Cy):A3:=c.O++#[Ab Al c.v.d,Ab Al c.v.key,A8 c.A,Ab Al R.1,Ab Al R.2.1,Ab Al R.2.2.1,Ab Al R.2.2.2]
structure IX(c:Rc):Prop where
 b:c.q.a=c.v.a
 k:c.q.c=c.v.c
 e:c.q.i=FL (FX c.v.a)
 n:c.q.L=2+At (FX c.v.a)
 o:LA c.v.a (FX c.v.a) c.q.st c.q.j
 f:At c.v.a<=16
 h8:∀i (h:i<At c.v.a),c.v.a[i].1.length<=8
 hk:∀i (h:i<At c.v.a) j (h2:j<c.v.a[i].1.length),c.v.a[i].1[j].1<=3/\c.v.a[i].1[j].2.length<=1000000000
 a:Nx c.O c.n c.v.m
 n6:c.n<=6
 d:c.v.d<c.n
 g:∀p,∃l:AH,(Dz c.v.c c.v.a p).1=l/\l<c.n
 hB:Au (Av c.a)<=c.B
 hG:Au (Av c.G)<=c.B
 tab:c.a.cell? ⟨8,15,Ao⟩=An (Ab Am 4)
structure Dx(W V:Ap):Prop where
 size:Au (Av W)<=Au (Av V)
 aq:∀(k:AH) (cs:A3) (t:AN) (fr:AH×AH),W.heap[k]?=An (Aj cs t fr)->t≠187->t≠203->t≠264->V.heap[k]?=An (Aj cs t fr)
theorem Dx.refl(W:X):Dx W W:=⟨Cr _,λ_ _ _ _ h _ _ _=>h⟩
def Dx.trans{W V X:Ap}(h:Dx W V)(g:Dx V X):Dx W X:=⟨CE h.size g.size,λk cs t fr a b c d=>g.aq k cs t fr (h.aq k cs t fr a b c d) b c d⟩
def Dx.of_below(h:A0 W V):Dx W V:=⟨h.size,λk _ _ _ a _ _ _=>Ca (Co h k<|Cd a) a⟩
theorem Dx.a0{R:Option I}(e:O (U W)<=O (U V))(hb:∀k,k<O (U W)->H k≠R->V.heap[k]?=W.heap[k]?)(f:∀k,R=H k->∀cs t fr,W.heap[k]?=H (M cs t fr)->t=187\/t=203\/t=264):Dx W V:=by refine⟨e,λk cs t fr a b c d=>?_⟩;grind
def DQ.kept{t:AN}{G:I->Prop}(h:DQ V t size F v n xs)(m:∀k,F k->G k)(q:Dx V V')(i:t≠187)(j:t≠203)(l:t≠264):DQ V' t size G v n xs:=by
 obtain⟨b,a⟩:=h;refine⟨b,?_⟩;rcases a with a|⟨g,d,f,e,o,p,c⟩
 .exact AF a
 exact AG ⟨g,d,f,e,m g o,q.aq _ _ _ _ p i j l,c⟩
def CA.kept{G:I->Prop}(a:∀k,F k->G k)(b:Dx V V'):∀{k:I} {v:Aq} {d:A2},CA k V F v d->CA k V' G v d
 |0,_,_,h=>h
 |k+1,v,d,h=>by
  unfold CA at h ⊢;split at h
  .exact h
  .exact h
  .exact h
  .exact h
  .obtain⟨u,e,c⟩:=h;exact⟨u,e,c.kept a b B8 B8 B8⟩
  .obtain⟨u,j,e,c,g⟩:=h;exact⟨u,j,e,c.kept a b B8 B8 B8,λi x d f q=>CA.kept a b<|g i x d f q⟩
  .obtain⟨u,j,e,c,g⟩:=h;refine⟨u,j,e,c.kept a b B8 B8 B8,λi key d f=>?_⟩;obtain⟨l,x,m,n,o,p⟩:=g i key d f;exact⟨l,x,m,n,o,CA.kept a b p⟩
  exact h
structure DT(c:Rc)(R:Cy)(N:AH)(sts:AJ ((AH->AH)×AI×AI))(V:Ap):Prop where
 h:V.heap[c.B]?=An (Aj (EK c R) 264)
 j:∃sa sc nf mn mf,Dv c.a c.A c.q sts (Ac sa (At sts) sc) nf mn mf V/\KV c.q sts mf/\mn<=N/\At sts<=N+1/\(Ax (AX sa (At sts) sc)=c.b\/∃g,Ax (AX sa (At sts) sc)=An g/\Au (Av c.G)<=g)
 fr:Au (Av c.G)<=Au (Av V)/\∀k,k<Au (Av c.G)->k≠c.A->k≠c.q.d->k≠c.q.b->An k≠c.b->V.heap[k]?=c.G.heap[k]?
 m:R.1+R.2.1+R.2.2.1+R.2.2.2<=N
def DT.ai{c:Rc}{R:Cy}{M:I}(h:DT c R N sts V)(e:N<=M):DT c R M sts V:=by obtain⟨j,k,i,g,f,a,b,l,m,d⟩:=h.j;exact⟨h.h,⟨j,k,i,g,f,a,b,E,E,d⟩,h.fr,CE h.m e⟩
def DT.a0{c:Rc}{R:Cy}(h:DT c R N sts V)(hb:A0 V V'):DT c R N sts V':=by obtain⟨m,n,l,j,i,f,g⟩:=h.j;exact⟨Ca (Co hb _<|Cd h.h) h.h,⟨m,n,l,j,i,f.next hb,g⟩,⟨CE h.fr.1 hb.size,λk a b c d e=>Ca (Co hb k<|CQ a h.fr.1)<|h.fr.2 k a b c d e⟩,h.m⟩
def DT.ac{c:Rc}{R:Cy}(h:DT c R N sts V):Below (O<|U c.a) c.a V:=by obtain⟨g,i,f,e,d,a,b⟩:=h.j;exact a.ac
theorem Mh{kt:AN}{f:Lit->Option I}(h:Ed W kt m n f){t:AN}(e:W.heap[m]?=H (M cs t fr)):False:=by obtain⟨a,⟨c,b,d,_⟩,_⟩:=h;grind
theorem UX(b:W.ownsRow base e size v n xs)(h:Ax v=H g){t:AN}(i:W.heap[g]?=H (M cs t fr)):t=e:=by
 rcases b.2 with⟨a,_⟩|⟨f,c,d,a,_,j,_⟩
 .rw[a]at h;cases h
 rw[a]at h;injection h with h;grind
theorem q8u{A:I}{q:D0}(h:Dv W0 A q sts sv nf mn mf W)(f:Jp A q sv W V):Dx W V:=by
 refine⟨f.size,λk cs t fr a b c d=>?_⟩;refine Ca (f.block k (Cd a) (λe=>?_) (λe=>?_) (λe=>?_) λe=>?_) a
 .exact c<|UX h.b e.symm a
 .subst e;have:=h.aq;grind
 .subst e;exact Mh h.a a
 subst e;exact Mh h.c a
theorem lw{c:Rc}(h:IX c){R:Cy}:(EK c R).size=44:=by simp[EK,h.a.size]
theorem Dv.a3{A:I}{q:D0}{B:I}(h:Dv W0 A q sts sv nf mn mf W)(w:O (U W0)<=B)(a:W.grownBy W'<|H B){t:AN}(b:W.heap[B]?=H (M cs t fr))(u:t≠187)(k:t≠203)(v:t≠183):Dv W0 A q sts sv nf mn mf W':=by
 obtain⟨f,d,s⟩:=h.k;have l:A≠B:=by rintro rfl;have:=h.aq;grind
 have m:q.g≠B:=B9;have n:q.f≠B:=λe=>Mh h.d<|e▸b;have o:q.d≠B:=λe=>Mh h.a<|e▸b;have p:q.b≠B:=λe=>Mh h.c<|e▸b;have r:∀g,Ax sv=H g->g≠B:=λg e j=>k<|UX h.b e<|j▸b;exact{h with
  aq:=Ca (a.block A (Cd h.aq) kfg) h.aq
  ac:=⟨Ca a.os h.ac.os,Ca a.tape h.ac.tape,Ca a.output h.ac.output,CE h.ac.size a.size,λi c=>Ca (a.block i (CQ c h.ac.size) B7)<|Co h.ac i c⟩
  d:=h.d.kept a (by simpa using n)
  k:=⟨f,Ca (a.block _ (Cd d) keA) d,s⟩
  b:=QE h.b λg e=>a.block g (QD h.b e) (by simpa using r g e)
  a:=h.a.kept a kep
  c:=h.c.kept a<|by simpa using p}
def quJ(W:X)(B j:I)(v:Aq):W.grownBy (AB W ⟨B,j,Ao⟩ v) (H B) :=
 ⟨rfl,rfl,rfl,Bd,λk _ a=>CY _ _ _ _ Bl⟩
theorem DT.aq{c:Rc}{R R':Cy}(h:DT c R N sts V)(ok:IX c)(j:I)(x:I)(hx:Ay (EK c R) j (C Y x)=EK c R')(n:R'.1+R'.2.1+R'.2.2.1+R'.2.2.2<=N+1):DT c R' (N+1) sts (AB V ⟨c.B,j,Ao⟩<|C Y x)/\Dx V (AB V ⟨c.B,j,Ao⟩<|C Y x):=by
 obtain⟨r,s,q,p,o,g,i,u,v,l⟩:=h.j;have f:=quJ V c.B j<|C Y x;refine⟨⟨?_,⟨r,s,q,p,o,g.a3 ok.hB f h.h B8 B8 B8,i,E,E,l⟩,⟨CE h.fr.1 f.size,λk a b c d e=>Ca (f.block k (CQ a h.fr.1) λe=>by have:=ok.hG;grind)<|h.fr.2 k a b c d e⟩,n⟩,Dx.a0 (R:=H c.B) f.size f.block λk e cs t fr m=>?_⟩
 .rw[DX V _ _ _ _ _ h.h,hx]
 injection e with e;subst e;rw[h.h]at m;grind
def IY(c:Rc)(sts:AJ<|(AH->AH)×AI×AI)(f:AH)(p:AJ<|A1×AK):Prop:=∃s,sts[f]?=An s/\Oi c.v.a p s.1
def GP(sts sts':AJ<|(AH->AH)×AI×AI):Prop:=∀(j:AH) (x:(AH->AH)×AI×AI),sts[j]?=An x->sts'[j]?=An x
def IY.ac{c:Rc}{p:AJ<|A1×AK}(h:IY c sts f p)(d:GP sts sts'):IY c sts' f p:=by obtain⟨s,a,b⟩:=h;exact⟨s,d _ _ a,b⟩
def GP.trans{a b d:AJ<|(I->I)×J×J}(h:GP a b)(g:GP b d):GP a d:=λj x c=>g j x<|h j x c
theorem GP.refl(a:AJ<|(I->I)×J×J):GP a a:=λ_ _ h=>h
def q7r(c:Rc)(R:Cy)(N:AH)(sts:AJ<|(AH->AH)×AI×AI)(p:AJ<|A1×AK)(V:Ap)(e:Ending)(V':Ap):Prop :=
 ∃(f':AH) (sts':AJ<|(AH->AH)×AI×AI),e=Ak (Ab Al f')/\DT c R (N+1) sts' V'/\Dx V V'/\GP sts sts'/\IY c sts' f' p
theorem DT.next{c:Rc}{R:Cy}(h:DT c R N sts V)(ok:IX c)(hN:N<90000){p:AJ<|A1×AK}(W:IY c sts f p)(key:A1)(m:AK)(hb:K key<=maxLen):Ar As 71 #[Ad<|H ⟨c.A,0,Ao⟩,C Y f,Ag #[Ae ⟨Aw key⟩,Ah m]] V<|q7r c R N sts ((key,m)::p) V:=by
 obtain⟨sa,sc,nf,mn,mf,i,y,n,h4,P⟩:=h.j;obtain⟨s,z,F⟩:=W;have ah:=Z2 ok.f ok.h8;have hx:Jr c.q.i key m<c.q.L:=by rw[ok.e,ok.n];exact kZ
 refine Ce (q3K i y E E z hb Z hx<|by rw[ok.n];omega) ?_;rintro e w ⟨x,ae,ac,ad,aa,t,r,rfl,k1,k2,k3,k4,k5,af,ag,k6,v,k8,hF,l⟩;have Q:=q8u i hF;have S:w.heap[c.B]?=H (M (EK c R) 264):=by
  refine Ca (hF.block c.B (Cd h.h) (λe=>?_) (λe=>?_) (λe=>?_) λe=>?_) h.h
  .exact absurd (UX i.b e.symm h.h) B8
  .have:=i.aq;rw[<-e,h.h]at this;grind
  .exact Mh i.a<|e▸h.h
  exact Mh i.c<|e▸h.h
 refine⟨x,ae,Z,⟨S,⟨ac,ad,aa,t,r,k1,k2,E,E,?_⟩,⟨CE h.fr.1 hF.size,λk a b c d e=>Ca (hF.block k (CQ a h.fr.1) (λe2=>?_) b c d)<|h.fr.2 k a b c d e⟩,VF h.m⟩,Q,k4,af,k6,?_⟩
 .rcases l with l|⟨g,l,hg⟩
  .rw[l];exact P
  exact AG ⟨g,l,CE h.fr.1 hg⟩
 .grind
 rw[ok.e,ok.b]at v;refine UV (l6 ok.o (λab u s hs=>?_) F v) ok.f k8;obtain⟨j,o,rfl⟩:=QY hs;exact⟨(ok.hk ab u j o).1,λn=>Z1 u o n⟩
theorem DT.a2{c:Rc}{R:Cy}(h:DT c R N sts V)(ok:IX c){p:AJ<|A1×AK}(i:IY c sts f p):Ar As 72 #[A8 c.A,C Y f] V λe g=>e=Ak (Af #[C Y (Dz c.v.c c.v.a p.reverse).1,C Y (Dz c.v.c c.v.a p.reverse).2])/\A0 V g:=by obtain⟨r,t,q,o,n,a,k,l,m,_⟩:=h.j;obtain⟨s,b,d⟩:=i;have j:=(a.j f s b).1;rw[<-VM p]at d;rw[ok.k,ok.b,l8 d]at j;refine Ce (jS a b) ?_;grind
def Fs(fm:AI)(k:AH)(d:A2):A1:=if fm=1 then Fe k d else if fm=2 then Du k d else Io k d
def q06(key:J)(a:I)(l:A1):K (JW key a l)=16:=zM<|UD _ _<|QF
theorem Sx(x:I):K (Gq x)<=9/\K (KK x)<=9/\K (KL x)<=9/\K (EP x)<=9/\K (GY x)<=9:=by grind [Gq,KK,KL,EP,GY,Il]
theorem qx9(z:J):K (Kl z)<=9:=by
 unfold Kl;split
 .grind [Hx,Il]
 exact(Sx _).2.2.2.2
theorem q6M(z:J):K (Km z)<=9:=by grind [Km,O3]
theorem UY{α:Type}(f:α->A1)(m:α->I):∀(l:AJ α),(∀a,a∈l->K (f a)<=m a)->K (l.flatMap f)<=(l.map m).sum
 |[],_=>Cr _
 |a::l,h=>by have d:=h a<|Mm ..;have e:=UY f m l λb c=>h b<|LL _ c;grind
def UZ{hB hL hM hT:Nat->List UInt8}{nt:Bool->List UInt8}{no:List UInt8}{nm:Int->List UInt8}(h:∀x,(hB x).length<=9/\(hL x).length<=9/\(hM x).length<=9/\(hT x).length<=9)(a:∀b,(nt b).length<=9)(f:no.length<=9)(c:∀z,(nm z).length<=9):∀(k:Nat) (d:DataW Unit),(Ma hB hL hM hT nt no nm k d).length<=DJ k d
 |0,_=>Cr _
 |k+1,d=>by
  unfold Ma;split
  .show _<=200;omega
  .show _<=200;have:=a ‹Bool›;omega
  .show _<=200;have:=c ‹Int›;omega
  .next l=>show _<=200+6*l.length;have:=h l.length;rw[Dj];omega
  .next l=>show _<=200+6*l.length;have:=h l.length;rw[Dj];omega
  .next ds =>
   show _<=200+(ds.map λd=>30+DJ k d).sum;have g:=h ds.length;have i:=UY (Ma hB hL hM hT nt no nm k) (λd=>30+DJ k d) ds λd _=>CE (UZ h a f c k d)<|Nat.le_add_left _ _;rw[Dj];omega
  .next es =>
   show _<=200+(es.map λe=>100+6*(D9 e.1).length+DJ k e.2).sum;have g:=h es.length;have i:=UY (λe:Lit×DataW Unit=>(hT (D9 e.1).length++D9 e.1)++Ma hB hL hM hT nt no nm k e.2) (λe=>100+6*(D9 e.1).length+DJ k e.2) es (λe _=>by have j:=UZ h a f c k e.2;have m:=h (D9 e.1).length;rw[Dj,Dj];omega);rw[Dj];omega
  exact Ex _
theorem V8(k:I)(d:A2):K (Du k d)<=DJ k d :=
 UZ (λx=>⟨O3,O3,O3,O3⟩) (λb=>by grind [i6,O3]) (O3) q6M k d
theorem lz(k:I)(d:A2):K (Io k d)<=DJ k d :=
 UZ (λx=>⟨(Sx x).1,(Sx x).2.1,(Sx x).2.2.1,(Sx x).2.2.2.1⟩) (λb=>by grind [i7]) B8 qx9 k d
theorem lB{α:Type}(T:α->A1)(m:α->I)(l:AJ α)(h:∀a,a∈l->K (T a)+1<=m a):K (Dm T l)<=(l.map m).sum:=by
 obtain _|⟨a,l⟩:=l
 .exact Cr _
 unfold Dm;have c:=h a<|Mm ..;have d:=UY (λe=>44::T e) m l λb f=>B9;grind
def Vb:∀(k:I) (d:A2),30*D3 k d<=DJ k d
 |0,_=>Cr _
 |k+1,d=>by
  unfold D3 DJ;split
  .next ds =>
   have b:30*(ds.map λd=>1+D3 k d).sum<=(ds.map λd=>30+DJ k d).sum:=by
    induction ds with
    |nil=>exact Cr _
    |cons a l c =>
     have:=Vb k a;rw[I7,SX,I7,SX];omega
   simp only[];omega
  .next es =>
   have b:30*(es.map λe=>2+D3 k e.2).sum<=(es.map λe=>100+6*K (D9 e.1)+DJ k e.2).sum:=by
    induction es with
    |nil=>exact Cr _
    |cons a l c =>
     have:=Vb k a.2;rw[I7,SX,I7,SX];omega
   simp only[];omega
  split<;>omega
def lC(k:I)(d:A2):200<=DJ (k+1) d:=by unfold DJ;split<;>omega
theorem q72(k:I)(f:A2->Cy->Option (AM Unit)×Cy)(g:∀d R b,(f d R).1=H b->DJ k b<=2*DJ k d)(ds:AJ<|AM Unit):∀(a:AJ (AM Unit)×Cy),Ha k (ds.foldl (λa d=>(a.1++(f d a.2).1.toList,(f d a.2).2)) a).1<=Ha k a.1+2*Ha k ds:=by
 induction ds with
 |nil=>grind
 |cons d ds c =>
  intro a;rw[W5];refine CE (c _) ?_;have e:Ha k (d::ds)=30+DJ k d+Ha k ds:=by unfold Ha;grind
  rw[e];dsimp only;cases h:(f d a.2).1<;>grind [Yb]
theorem q74(k:I)(f:A1->A2->Cy->Option (AM Unit)×Cy)(i:∀l d R b,(f l d R).1=H b->DJ k b<=2*DJ k d)(es:AJ<|Lit×AM Unit):∀(a:AJ (Lit×AM Unit)×Cy),GK k (es.foldl (λa e=>(a.1++((f (D9 e.1) e.2 a.2).1.map λd=>(e.1,d)).toList,(f (D9 e.1) e.2 a.2).2)) a).1<=GK k a.1+2*GK k es:=by
 induction es with
 |nil=>grind
 |cons d c g =>
  intro a;rw[W5];refine CE (g _) ?_;have e:GK k (d::c)=100+6*K (D9 d.1)+DJ k d.2+GK k c:=by unfold GK;grind
  rw[e];dsimp only;cases h:(f (D9 d.1) d.2 a.2).1<;>grind [GK]
theorem Z6(c:Rv):∀(k:I) (p:AJ<|A1×AK) (d:A2) (R:Cy) (a:A2),(D6 c k p d R).1=H a->DJ k a<=2*DJ k d
 |0,_,_,_,_,h=>Bs
 |k+1,p,d,R,a,h=>by
  have f:=lC k d;unfold D6 at h;split at h
  .injection h with h;subst h;unfold Jb;split
   .next ds =>
    have b:=q72 k (D6 c k (([],AP)::p)) (λd R a=>Z6 c k _ d R a) ds ([],(R.1+1,R.2));have e:Ha k ([]:AJ<|AM Unit)=0:=rfl;show 200+Ha k (Ju _ ds _).1<=2*(200+Ha k ds);grind [Ju]
   .next es =>
    have b:=q74 k (λkey=>D6 c k ((key,AQ)::p)) (λl d R a=>Z6 c k _ d R a) es ([],(R.1+1,R.2));have e:GK k ([]:AJ<|Lit×AM Unit)=0:=rfl;show 200+GK k (Jv _ es _).1<=2*(200+GK k es);grind [Jv]
   grind
  split at h
  .injection h with h;subst h;show 200+6*3<=_;omega
  split at h
  .injection h with h;subst h;have:=q06 c.key (Dz c.c c.a p.reverse).1.toNat<|Du (k+1) d;show 200+6*K (JW _ _ _)<=_;omega
  cases h
theorem Z7(c:Rv)(k:I)(d:A2)(R:Cy):DJ k ((D6 c k [] d R).1.getD .nil)<=2*DJ k d+200:=by
 cases h:(D6 c k [] d R).1 with
 |none=>cases k with
  |zero=>exact Ex _
  |succ k=>show 200<=_;omega
 |some a =>
  have:=Z6 c k [] d R a h;grind
theorem lG(p q:Addr):CallsD As 79 #[Ad<|H p,Ad<|H q] .returning w λe c d=>e=Ak (Af #[])/\c=.returning/\d=w:=by refine SY func79 rfl λa cs b=>?_;simp only[ntmps79,K8,FN,J1,Nat.reduceAdd,Nat.reduceSub,Mo,Mp,Mr,Mq,K9,Kv];apply wpS_seq;apply T5;simp[wpOpsS,go_sem,recoverD,b,Exit.thenS];refine T7 ?_;go_wp2;cases a;simp_all[bodyPostS,results,results79]
theorem lH(a b:J){x y:J}{w:Ap}(c:A6 w p 0<|C Y x)(d:A6 w q 0<|C Y y)(j:w.frozen? ⟨p,0,Ao⟩=AQ)(l:w.frozen? ⟨q,0,Ao⟩=AQ)(n:p≠q):CallsD As 79 #[A8 p,A8 q] (.panicking [{v:=OQ a b,recovered:=AQ}]) w λe u g=>e=Ak (Af #[])/\u=.panicking [{v:=OQ a b,recovered:=AP}] /\
   (A6 g p 0 (C Y a)/\A6 g q 0 (C Y b)/\∀B,B<=p->B<=q->B<=O (U w)->Below B w g):=by
 refine SY func79 rfl λN cs o=>?_;simp only[ntmps79,K8,FN,J1,Nat.reduceAdd,Nat.reduceSub,Mo,Mp,Mr,Mq,K9,Kv];apply wpS_seq;apply T5;simp[wpOpsS,go_sem,recoverD,o,Exit.thenS,OQ];refine T7 ?_;have aa:∀w:Ap,(Instr.typeAssert (Ai 163<|Ag #[C Y a,C Y b]) 20 163 AP).run As w=.ok (Af #[Ag #[C Y a,C Y b],Ah AP]) w:=λw=>B6;go_wp2;have S:O (U w)≠p/\O (U w)≠q:=⟨by have h:p<O (U w):=Fk c;omega,by have h:q<O (U w):=Fk d;omega⟩
 have z:(Az w<|M #[C Y a,C Y b] 163).cell? ⟨p,0,Ao⟩=H (C Y x):=Ca (Iw w _ _ kfm) c;have A:(Az w<|M #[C Y a,C Y b] 163).cell? ⟨q,0,Ao⟩=H (C Y y):=Ca (Iw w _ _<|by rw[d];rfl) d;have f:A0 w<|Az w<|M #[C Y a,C Y b] 163:=Cm;have P:=Ca (f.frozen (p:=⟨p,0,Ao⟩)<|Fk c) j;have Q:=Ca (f.frozen (p:=⟨q,0,Ao⟩)<|Fk d) l;have F:(Az w<|M #[C Y a,C Y b] 163).cell? ⟨O<|U w,0,Ao⟩=H (C Y a):=Cc (Cj _) 0;have L:(Az w<|M #[C Y a,C Y b] 163).cell? ⟨O<|U w,1,Ao⟩=H (C Y b):=Cc (Cj _) 1;have i:=T f;have k:q≠p:=λe=>n e.symm;generalize Az w (M #[C Y a,C Y b] 163)=V at *
 go_region
 have r:(AB (AB V ⟨p,0,Ao⟩<|C Y a) ⟨q,0,Ao⟩<|C Y b).drew.cell? ⟨p,0,Ao⟩=H (C Y a):=by show(AB (AB V ⟨p,0,Ao⟩<|C Y a) ⟨q,0,Ao⟩<|C Y b).cell? ⟨p,0,Ao⟩=_;grind [World.cell?_of_block,heap_setCell_other,World.cell?_setCell_same']
 have s:(AB (AB V ⟨p,0,Ao⟩<|C Y a) ⟨q,0,Ao⟩<|C Y b).drew.cell? ⟨q,0,Ao⟩=H (C Y b):=by show(AB (AB V ⟨p,0,Ao⟩<|C Y a) ⟨q,0,Ao⟩<|C Y b).cell? ⟨q,0,Ao⟩=_;grind [World.cell?_setCell_same',World.cell?_of_block,heap_setCell_other]
 have t:∀B,B<=p->B<=q->B<=O (U w)->Below B w (AB (AB V ⟨p,0,Ao⟩<|C Y a) ⟨q,0,Ao⟩<|C Y b).drew:=λB h R m =>
  Cs (CG i m) ⟨rfl,rfl,rfl,Bv,λab W=>Ca (CY _ _ _ _ B7)<|CY V _ _ _ B7⟩
 generalize(AB (AB V ⟨p,0,Ao⟩<|C Y a) ⟨q,0,Ao⟩<|C Y b).drew=X at *;exact⟨Z,_,Z,_,Wh Z _ _ _,Z,Z,r,s,t⟩
def Cn.mono{b:I}(h:Cn W b v bs)(hb:b'<=b):Cn W b' v bs:=by
 obtain⟨⟨f,a⟩,k,i⟩:=h;refine⟨⟨f,?_⟩,E,i⟩;rcases a with a|⟨g,c,d,e,l,j⟩
 .exact AF a
 exact AG ⟨g,c,d,e,E,j⟩
structure SB(V:Ap)(p:AH)(fin d l:AI)(bv:Aq):Prop where
 b0:Boxed V p 3 (Ab Al fin)
 b1:Boxed V (p+1) 3 (Ab Al d)
 b2:Boxed V (p+2) 3 (Ab Al l)
 b3:Boxed V (p+3) 50 bv
def SC(W:Ap)(fin d l:AI)(bv:Aq):Ap:=Az (Az (Az (Az W<|Aj #[Ab Al fin] 3)<|Aj #[Ab Al d] 3)<|Aj #[Ab Al l] 3)<|Aj #[bv] 50
def q53(W:X)(fin d l:J)(a:Aq):SB (SC W fin d l a) (O<|U W) fin d l a:=by
 unfold SC;refine⟨(((Boxed.new W _ _).alloc _).alloc _).alloc _,?_,?_,?_⟩
 .have:=Boxed.new (Az W<|M #[C Y fin] 3) 3<|C Y d;simp only[CL,A0]at this;exact(this.alloc _).alloc _
 .have:=Boxed.new (Az (Az W<|M #[C Y fin] 3)<|M #[C Y d] 3) 3<|C Y l;simp only[CL,A0]at this;exact this.alloc _
 have:=Boxed.new (Az (Az (Az W<|M #[C Y fin] 3)<|M #[C Y d] 3)<|M #[C Y l] 3) 50 a;simp only[CL,A0]at this;exact this
def qwv(W:X)(fin d l:J)(a:Aq):A0 W<|SC W fin d l a:=by unfold SC;exact(((Cm).alloc Ba _).alloc B7 _).alloc B7 _
def SB.ac{d l:J}{bv:Aq}(h:SB V p fin d l bv)(a:A0 V V'):SB V' p fin d l bv :=
 ⟨Ca (Co a _ h.b0.lt) h.b0,Ca (Co a _ h.b1.lt) h.b1,Ca (Co a _ h.b2.lt) h.b2,Ca (Co a _ h.b3.lt) h.b3⟩
def qwF{t:AN}(j:(fout==1)=AQ)(c:Ar As 82 #[C Y fout,Ai t y] V λe a=>∃b,e=Ak b/\Cn a (O<|U V) b ys/\A0 V a):Ar As 44 #[C Y fout,Ai t y] V λe a=>∃b,e=Ak (Af #[b,C Y 0])/\Cn a (O<|U V) b ys/\A0 V a:=by
 go_enter func44,ntmps44
 go_wp2_with(first
  |(go_at_call 82;refine Ce c ?_;rintro e n ⟨m,rfl,d,h⟩;obtain⟨f,g,i,l,k,rfl⟩:=d))
 go_ret2
 exact⟨_,Z,⟨f,g,_,_,_,Z⟩,h⟩
def qsZ{t:AN}(g:Ar As 81 #[Ai t y] V λe f=>e=Ak (Ah AQ)/\A0 V f)(h:∀c,A0 V c->Ar As 82 #[C Y 1,Ai t y] c λe a=>∃b,e=Ak b/\Cn a (O<|U V) b ys/\Below (O<|U V) c a):Ar As 44 #[C Y 1,Ai t y] V λe a=>∃b,e=Ak (Af #[b,C Y 0])/\Cn a (O<|U V) b ys/\A0 V a:=by
 go_enter func44,ntmps44
 go_wp2_with(first
  |(go_at_call 81;refine Ce g ?_;rintro e n ⟨rfl,d⟩;have i:=h n d)
  |(go_at_call 82;refine Ce i ?_;rintro e s ⟨r,rfl,j,m⟩;obtain⟨k,l,o,q,p,rfl⟩:=j))
 go_ret2
 exact⟨_,Z,⟨k,l,_,_,_,Z⟩,Cs d m⟩
def qug{t:AN}(c:Ar As 81 #[Ai t y] V λe b=>e=Ak (Ah AP)/\A0 V b):Ar As 44 #[C Y 1,Ai t y] V λe a=>e=Ak (Af #[G Ao 0 0,C Y 13])/\A0 V a:=by
 go_enter func44,ntmps44
 go_wp2_with(first
  |(go_at_call 81;refine Ce c ?_;rintro e f ⟨rfl,d⟩))
 go_ret2
 exact⟨Z,d⟩
def Oj(k:AH)(W:Ap)(r:AS (AI×AI)<|AM Unit)(e:Ending)(W':Ap):Prop :=
 A0 W W'/\match r with
 |.ok d=>∃t y,e=Ak (Af #[Ai t y,Ab Al 0,Ab Al 0])/\CA k W' (λj=>Au (Av W)<=j/\j<Au (Av W')) (Ai t y) d
 |.error (en,pl)=>e=Ak (Af #[.nilIface,Ab Al en,Ab Al pl])
theorem qtw(k:I){caps:A3}(r:AS (J×J)<|AM Unit)(x:Ar As 42 caps (Az (Az W<|M #[C Y 0] 54)<|M #[C Y 0] 3)<|KI k (Az (Az W<|M #[C Y 0] 54)<|M #[C Y 0] 3) r):Ar As 41 #[.func (.func 42) #[] caps] W<|Oj k W r:=by
 have v:A0 W<|Az (Az W<|M #[C Y 0] 54)<|M #[C Y 0] 3:=(Cm).alloc Ba _;have B:=Boxed.new W 54<|C Y 0;have s:=Boxed.new (Az W<|M #[C Y 0] 54) 3<|C Y 0;have F:=B.alloc<|M #[C Y 0] 3;rw[CL]at s;have g:=T v;have h:=T F;have i:=T s;clear v B s F
 go_enter_defers func41,ntmps41
 go_wp2_with fail
 refine Ce x ?_;clear x;rcases r with⟨N,R⟩|d
 .rintro e a ⟨b,hF⟩;obtain rfl:=hF;have q1:Boxed a (O<|U W) 54<|C Y 0:=Ca (Co b _ h.lt) h;have c:Boxed a (O (U W)+1) 3<|C Y 0:=Ca (Co b _ i.lt) i;have l:=Cs g<|CG b g.size;have n:=T q1;have o:=T c;have m:=T l;clear q1 c l b g h i;go_wp2;refine OI (f:=79) (args:=#[A8<|O<|U W,A8<|O (U W)+1]) Ba C1 ?_;refine(lH N R n.cell o.cell n.frozen o.frozen E).mono ?_;rintro e u' w3 ⟨rfl,rfl,w,c2,L⟩;have p:=Cs m<|L _ (Cr _) E m.size;simp[Leaves,settle,results,results41,go_sem,w,c2,Oj,p]
 rintro e a ⟨b,A⟩;obtain⟨t,y,rfl,z⟩:=(show∃t y,e=Ak (Ai t y)/\CA k a (λj=>O (U<|Az (Az W<|M #[C Y 0] 54)<|M #[C Y 0] 3)<=j/\j<O (U a)) (Ai t y) d from A)
 have u:D<|CA k a (λj=>O (U W)+2<=j/\j<O (U a)) (Ai t y) d:=z.same (λj q=>⟨Bx,q.2⟩) λ_ _=>rfl;clear A z;have q1:Boxed a (O<|U W) 54<|C Y 0:=Ca (Co b _ h.lt) h;have c:Boxed a (O (U W)+1) 3<|C Y 0:=Ca (Co b _ i.lt) i;have l:=Cs g<|CG b g.size;have n:=T q1;have o:=T c;have m:=T l;have w:=q1.cell;have f1:=q1.frozen;have c2:=c.cell;have f2:=c.frozen;clear q1 c l b g h i;go_wp2;have P:=grownBy_setCell' a (O<|U W)<|C Y 0;have Q:=grownBy_setCell' (AB a ⟨O<|U W,0,Ao⟩<|C Y 0) (O (U W)+1)<|C Y 0;have S:=((n.set<|C Y 0).kept Q B9).cell;have t2:=(Boxed.set (C Y 0)<|o.kept P B9).cell;have p:A0 W (AB (AB a ⟨O<|U W,0,Ao⟩<|C Y 0) ⟨O (U W)+1,0,Ao⟩<|C Y 0) :=
  Cs m ⟨rfl,rfl,rfl,Bd,λk hk=>Ca (CY _ _ _ _ B7)<|CY a _ _ _ B7⟩
 have aa:CA k (AB (AB a ⟨O<|U W,0,Ao⟩<|C Y 0) ⟨O (U W)+1,0,Ao⟩<|C Y 0) (λj=>O (U W)<=j/\j<O (U<|AB (AB a ⟨O<|U W,0,Ao⟩<|C Y 0) ⟨O (U W)+1,0,Ao⟩<|C Y 0)) (Ai t y) d:=u.same (λj q=>⟨E,Bv⟩) λj q=>Ca (CY _ _ _ _ B7)<|CY a _ _ _ B7;clear u;generalize AB (AB a ⟨O<|U W,0,Ao⟩<|C Y 0) ⟨O (U W)+1,0,Ao⟩ (C Y 0)=V at *;refine OI (f:=79) (args:=#[A8<|O<|U W,A8<|O (U W)+1]) Ba C1 ?_;refine(lG ⟨O<|U W,0,Ao⟩ ⟨O (U W)+1,0,Ao⟩).mono ?_;rintro e u' w3 ⟨rfl,rfl,rfl⟩;simp[Leaves,settle,results,results41,go_sem,S,t2,Oj,p];grind
theorem qoJ(W:X)(u:A3)(A:Ar As 106 u (Az (Az W<|M #[C Y 0] 54)<|M #[C Y 0] 3)<|KI k (Az (Az W<|M #[C Y 0] 54)<|M #[C Y 0] 3) r):Ar As 41 #[.func (.func 106) #[] u] W<|Oj k W r:=by
 have x:A0 W<|Az (Az W<|M #[C Y 0] 54)<|M #[C Y 0] 3:=(Cm).alloc Ba _;have Q:=Boxed.new W 54<|C Y 0;have v:=Boxed.new (Az W<|M #[C Y 0] 54) 3<|C Y 0;have R:=Q.alloc<|M #[C Y 0] 3;rw[CL]at v;have g:=T x;have i:=T R;have l:=T v
 go_enter_defers func41,ntmps41
 go_wp2_with fail
 refine Ce A ?_;rcases r with⟨B,S⟩|d
 .rintro e a ⟨b,hF⟩;obtain rfl:=hF;have q1:Boxed a (O<|U W) 54<|C Y 0:=Ca (Co b _ i.lt) i;have c:Boxed a (O (U W)+1) 3<|C Y 0:=Ca (Co b _ l.lt) l;have o:=Cs g<|CG b g.size;have m:=T q1;have n:=T c;have h:=T o;go_wp2;refine OI (f:=79) (args:=#[A8<|O<|U W,A8<|O (U W)+1]) Ba C1 ?_;refine(lH B S m.cell n.cell m.frozen n.frozen E).mono ?_;rintro e u' w3 ⟨rfl,rfl,s,c2,z⟩;have p:=Cs h<|z _ (Cr _) E h.size;simp[Leaves,settle,results,results41,go_sem,s,c2,Oj,p]
 rintro e a ⟨b,P⟩;obtain⟨t,y,rfl,N⟩:=(show∃t y,e=Ak (Ai t y)/\CA k a (λj=>O (U<|Az (Az W<|M #[C Y 0] 54)<|M #[C Y 0] 3)<=j/\j<O (U a)) (Ai t y) d from P)
 have w:D<|CA k a (λj=>O (U W)+2<=j/\j<O (U a)) (Ai t y) d:=N.same (λj q=>⟨Bx,q.2⟩) λ_ _=>rfl;have q1:Boxed a (O<|U W) 54<|C Y 0:=Ca (Co b _ i.lt) i;have c:Boxed a (O (U W)+1) 3<|C Y 0:=Ca (Co b _ l.lt) l;have o:=Cs g<|CG b g.size;have m:=T q1;have n:=T c;have h:=T o;have s:=q1.cell;have f1:=q1.frozen;have c2:=c.cell;have f2:=c.frozen;go_wp2;have F:=grownBy_setCell' a (O<|U W)<|C Y 0;have L:=grownBy_setCell' (AB a ⟨O<|U W,0,Ao⟩<|C Y 0) (O (U W)+1)<|C Y 0;have t1:=((m.set<|C Y 0).kept L B9).cell;have t2:=(Boxed.set (C Y 0)<|n.kept F B9).cell;have p:A0 W (AB (AB a ⟨O<|U W,0,Ao⟩<|C Y 0) ⟨O (U W)+1,0,Ao⟩<|C Y 0) :=
  Cs h ⟨rfl,rfl,rfl,Bd,λk hk=>Ca (CY _ _ _ _ B7)<|CY a _ _ _ B7⟩
 have aa:CA k (AB (AB a ⟨O<|U W,0,Ao⟩<|C Y 0) ⟨O (U W)+1,0,Ao⟩<|C Y 0) (λj=>O (U W)<=j/\j<O (U<|AB (AB a ⟨O<|U W,0,Ao⟩<|C Y 0) ⟨O (U W)+1,0,Ao⟩<|C Y 0)) (Ai t y) d:=w.same (λj q=>⟨E,Bv⟩) λj q=>Ca (CY _ _ _ _ B7)<|CY a _ _ _ B7;generalize AB (AB a ⟨O<|U W,0,Ao⟩<|C Y 0) ⟨O (U W)+1,0,Ao⟩ (C Y 0)=V at *;refine OI (f:=79) (args:=#[A8<|O<|U W,A8<|O (U W)+1]) Ba C1 ?_;refine(lG ⟨O<|U W,0,Ao⟩ ⟨O (U W)+1,0,Ao⟩).mono ?_;rintro e u' w3 ⟨rfl,rfl,rfl⟩;simp[Leaves,settle,results,results41,go_sem,t1,t2,Oj,p];grind
theorem qqA(p q:Addr):CallsD As 88 #[Ad<|H p,Ad<|H q] .returning w λe c d=>e=Ak (Af #[])/\c=.returning/\d=w:=by refine SY func88 rfl λa cs b=>?_;simp only[ntmps88,K8,FN,J1,Nat.reduceAdd,Nat.reduceSub,Mo,Mp,Mr,Mq,K9,Kv];apply wpS_seq;apply T5;simp[wpOpsS,go_sem,recoverD,b,Exit.thenS];refine T7 ?_;go_wp2;cases a;simp_all[bodyPostS,results,results88]
def qqD(a b:J){x y:J}{w:Ap}(c:A6 w p 0<|C Y x)(d:A6 w q 0<|C Y y)(n:w.frozen? ⟨p,0,Ao⟩=AQ)(o:w.frozen? ⟨q,0,Ao⟩=AQ)(h:p≠q):CallsD As 88 #[A8 p,A8 q] (.panicking [{v:=OQ a b,recovered:=AQ}]) w λe k i=>e=Ak (Af #[])/\k=.panicking [{v:=OQ a b,recovered:=AP}] /\
   (A6 i p 0 (C Y a)/\A6 i q 0 (C Y b)/\∀B,B<=p->B<=q->B<=O (U w)->Below B w i):=by
 refine SY func88 rfl λc₀ cs Q=>?_;simp only[ntmps88,K8,FN,J1,Nat.reduceAdd,Nat.reduceSub,Mo,Mp,Mr,Mq,K9,Kv];apply wpS_seq;apply T5;simp[wpOpsS,go_sem,recoverD,Q,Exit.thenS,OQ];refine T7 ?_;have P:∀w:Ap,(Instr.typeAssert (Ai 163<|Ag #[C Y a,C Y b]) 20 163 AP).run As w=.ok (Af #[Ag #[C Y a,C Y b],Ah AP]) w:=λw=>B6;go_wp2;have g:O (U w)≠p/\O (U w)≠q:=⟨by have r:p<O (U w):=Fk c;omega,by have r:q<O (U w):=Fk d;omega⟩
 have l:(Az w<|M #[C Y a,C Y b] 163).cell? ⟨p,0,Ao⟩=H (C Y x):=Ca (Iw w _ _ kfm) c;have m:(Az w<|M #[C Y a,C Y b] 163).cell? ⟨q,0,Ao⟩=H (C Y y):=Ca (Iw w _ _<|by rw[d];rfl) d;have f:A0 w<|Az w<|M #[C Y a,C Y b] 163:=Cm;have z:=Ca (f.frozen (p:=⟨p,0,Ao⟩)<|Fk c) n;have A:=Ca (f.frozen (p:=⟨q,0,Ao⟩)<|Fk d) o;have t:(Az w<|M #[C Y a,C Y b] 163).cell? ⟨O<|U w,0,Ao⟩=H (C Y a):=Cc (Cj _) 0;have u:(Az w<|M #[C Y a,C Y b] 163).cell? ⟨O<|U w,1,Ao⟩=H (C Y b):=Cc (Cj _) 1;have j:=T f;have L:=g.1;have N:=g.2;have s:q≠p:=λe=>h e.symm;clear c d n o f g;generalize Az w (M #[C Y a,C Y b] 163)=V at *
 go_region
 have R:(AB (AB V ⟨p,0,Ao⟩<|C Y a) ⟨q,0,Ao⟩<|C Y b).drew.cell? ⟨p,0,Ao⟩=H (C Y a):=by show(AB (AB V ⟨p,0,Ao⟩<|C Y a) ⟨q,0,Ao⟩<|C Y b).cell? ⟨p,0,Ao⟩=_;rw[Jd (w:=AB V ⟨p,0,Ao⟩<|C Y a)<|CY _ _ _ _ Bu];exact ZK _ _ _ kfE
 have S:(AB (AB V ⟨p,0,Ao⟩<|C Y a) ⟨q,0,Ao⟩<|C Y b).drew.cell? ⟨q,0,Ao⟩=H (C Y b):=by show(AB (AB V ⟨p,0,Ao⟩<|C Y a) ⟨q,0,Ao⟩<|C Y b).cell? ⟨q,0,Ao⟩=_;refine ZK _ _ _ ?_;rw[Jd (w:=V)<|CY _ _ _ _ keX,m];rfl
 have W:∀B,B<=p->B<=q->B<=O (U w)->Below B w (AB (AB V ⟨p,0,Ao⟩<|C Y a) ⟨q,0,Ao⟩<|C Y b).drew:=λB r h2 F =>
  Cs (CG j F) ⟨rfl,rfl,rfl,by simp[World.setCell,World.drew,A0],λaa hk=>Ca (CY _ _ _ _ B7)<|CY V _ _ _ B7⟩
 generalize(AB (AB V ⟨p,0,Ao⟩<|C Y a) ⟨q,0,Ao⟩<|C Y b).drew=X at *;clear l m t u z A j P L N s h;exact⟨Z,_,Z,_,Wh Z _ _ _,Z,Z,R,S,W⟩
def SD{α:Type}(val:α->Aq)(r:AS (AI×AI) α):Aq:=match r with
 |.ok z=>Af #[val z,Ab Al 0,Ab Al 0]
 |.error (en,pl)=>Af #[Ab Al 0,Ab Al en,Ab Al pl]
theorem qq5{α:Type}(val:α->Aq)(W:X)(f:I)(t:A3)(r:AS (J×J) α)(F:f=50)(s:Ar As f t (Az (Az W<|M #[C Y 0] 54)<|M #[C Y 0] 3)<|Ro (Az (Az W<|M #[C Y 0] 54)<|M #[C Y 0] 3) val r):Ar As 49 #[.func (.func f) #[] t] W λe w=>e=Ak (SD val r)/\A0 W w:=by
 subst F;have p:A0 W<|Az (Az W<|M #[C Y 0] 54)<|M #[C Y 0] 3:=(Cm).alloc Ba _;have u:=Boxed.new W 54<|C Y 0;have o:=Boxed.new (Az W<|M #[C Y 0] 54) 3<|C Y 0;have v:=u.alloc<|M #[C Y 0] 3;rw[CL]at o;have d:=T p;have g:=T v;have h:=T o;clear p u o v
 go_enter_defers func49,ntmps49
 go_wp2_with fail
 refine Ce s ?_;clear s;rcases r with⟨y,L⟩|z
 .rintro e a ⟨b,hF⟩;obtain rfl:=hF;have q1:Boxed a (O<|U W) 54<|C Y 0:=Ca (Co b _ g.lt) g;have c:Boxed a (O (U W)+1) 3<|C Y 0:=Ca (Co b _ h.lt) h;have i:=Cs d<|CG b d.size;have l:=T q1;have m:=T c;have j:=T i;clear q1 c i b d g h;go_wp2;refine OI (f:=88) (args:=#[A8<|O<|U W,A8<|O (U W)+1]) Ba C1 ?_;refine(qqD y L l.cell m.cell l.frozen m.frozen E).mono ?_;rintro e Q R ⟨rfl,rfl,q,c2,x⟩;have n:=Cs j<|x _ (Cr _) E j.size;simp[Leaves,settle,results,results49,go_sem,q,c2,SD,n]
 rintro e a ⟨b,rfl⟩;have q1:Boxed a (O<|U W) 54<|C Y 0:=Ca (Co b _ g.lt) g;have c:Boxed a (O (U W)+1) 3<|C Y 0:=Ca (Co b _ h.lt) h;have i:=Cs d<|CG b d.size;have l:=T q1;have m:=T c;have j:=T i;have q:=q1.cell;have f1:=q1.frozen;have c2:=c.cell;have S:=c.frozen;clear q1 c i b d g h;go_wp2;have A:=grownBy_setCell' a (O<|U W)<|C Y 0;have B:=grownBy_setCell' (AB a ⟨O<|U W,0,Ao⟩<|C Y 0) (O (U W)+1)<|C Y 0;have N:=((l.set<|C Y 0).kept B B9).cell;have P:=(Boxed.set (C Y 0)<|m.kept A B9).cell;have n:A0 W (AB (AB a ⟨O<|U W,0,Ao⟩<|C Y 0) ⟨O (U W)+1,0,Ao⟩<|C Y 0) :=
  Cs j ⟨rfl,rfl,rfl,Bd,λk hk=>Ca (CY _ _ _ _ B7)<|CY a _ _ _ B7⟩
 generalize AB (AB a ⟨O<|U W,0,Ao⟩<|C Y 0) ⟨O (U W)+1,0,Ao⟩ (C Y 0)=V at *;refine OI (f:=88) (args:=#[A8<|O<|U W,A8<|O (U W)+1]) Ba C1 ?_;refine(qqA ⟨O<|U W,0,Ao⟩ ⟨O (U W)+1,0,Ao⟩).mono ?_;rintro e Q R ⟨rfl,rfl,rfl⟩;simp[Leaves,settle,results,results49,go_sem,N,P,SD,n]
def qoy{d l:J}(h:SB V p fin d l<|G a n c)(b:Ar As 43 #[C Y fin,Ag #[C Y d,C Y l],G a n c] V<|KI k V r):Ar As 42 #[A8 p,A8<|p+1,A8<|p+2,A8<|p+3] V<|KI k V r:=by
 have m:=h.b0.cell;have o:=h.b1.cell;have c2:=h.b2.cell;have q:=h.b3.cell;clear h;rcases r with⟨s,u⟩|z
 .go_enter func42,ntmps42
  go_wp2_with(first
   |(go_at_call 43;refine Ce b ?_;clear b;rintro e j ⟨f,hF⟩;obtain rfl:=hF))
  exact⟨Z,f,Z⟩
 go_enter func42,ntmps42
 go_wp2_with(first
  |(go_at_call 43;refine Ce b ?_;clear b;rintro e j ⟨f,hF⟩;obtain⟨t,y,rfl,g⟩:=hF;have i:=T g;clear g))
 go_ret;exact⟨f,_,_,Z,i⟩
def quf{t:AN}(n:CA k V (λj=>j<O (U V)) (Ai t y) dd)(p:¬(fout=1/\F7 k dd=AP))(g:∀b,A0 V b->Ar As 82 #[C Y fout,Ai t y] b λe c=>∃a,e=Ak a/\Cn c (O<|U b) a ys/\A0 b c):Ar As 44 #[C Y fout,Ai t y] V λe c=>∃a,e=Ak (Af #[a,C Y 0])/\Cn c (O<|U V) a ys/\A0 V c:=by
 cases i:(fout==1)
 .exact qwF i<|g V CT
 obtain rfl:fout=1:=by simpa using i
 have o:F7 k dd=AQ:=by cases q:F7 k dd with|false=>rfl|true=>exact absurd ⟨rfl,q⟩ p
 have f:=XY k V (λj=>j<O (U V)) (Ai t y) dd (λ_ h=>h) n;rw[o]at f;refine qsZ f λb d=>Ce (g b d) ?_;rintro e r ⟨a,rfl,l,m⟩;exact⟨a,Z,Cn.mono l d.size,CG m d.size⟩
def qj3{t:AN}(c:CA k V (λj=>j<O (U V)) (Ai t y) dd)(d:F7 k dd=AP):Ar As 44 #[C Y 1,Ai t y] V λe b=>e=Ak (Af #[G Ao 0 0,C Y 13])/\A0 V b:=by have a:=XY k V (λj=>j<O (U V)) (Ai t y) dd (λ_ h=>h) c;rw[d]at a;exact qug a
def Er(fm:AI):AH:=if fm=1 then 32 else 0
theorem lU(fm:J)(W:X):Ar As 89 #[C Y fm] W λe b=>e=Ak (C Am<|Er fm)/\b=W:=by
 by_cases h:fm=1
 .have c:(fm==1)=AP:=Bu;have a:Er fm=32:=kfL;rw[a];go_enter func89,ntmps89;go_wp2;go_ret;exact⟨Z,Z⟩
 have c:(fm==1)=AQ:=Bu;have a:Er fm=0:=kfL;rw[a];go_enter func89,ntmps89;go_wp2;go_ret;exact⟨Z,Z⟩
theorem qsX(W:X)(fm:J)(l:A4)(bs:A1)(cap:I)(h:E2 W l bs):Ar As 52 #[C Y fm,G l (K bs) cap] W λe o=>e=Ak (Ah<|bs.all λc=>c.toNat==Er fm)/\o=W:=by
 have m:=T h;have p:=lU fm W;obtain⟨R,d⟩:=CC<|bs.all λc=>c.toNat==Er fm;rw[AE d];have u:=h.len;unfold maxLen at u;go_enter func52,ntmps52
 go_wp2_with(first
  |(go_at_call 89;refine Ce p ?_;rintro e x ⟨rfl,rfl⟩))
 go_loopg[12] (K bs) (λg z wr=>∃k:I,z=C Y k/\D (k+g=K bs)/\wr=x/\D ((bs.drop k).all (λc=>c.toNat==Er fm)=R))
 grind [D];obtain⟨k,rfl,i,rfl,d⟩:=hrel;obtain _|g:=gk
 .have t:¬(k:J)<K bs:=AY<|AE i;have b:D<|R=AP:=by grind [D]
  go_wp2;go_ret;rw[AE b];exact⟨Z,Z⟩
 have j:k<K bs:=AY<|AE i;have t:(k:J)<K bs:=E;obtain⟨y,off,q,A,r⟩:=m.a0 k j;subst q;have a:=AE d;rw[K6 j,Wd]at a;obtain⟨c,s⟩:=DF<|bs[k];rw[s]at r a;cases f:(c.toNat==Er fm)
 .rw[f,Bool.false_and]at a;have v:((c.toNat:J) != (Er fm:J))=AP:=B9;have w:((c.toNat:J)==(Er fm:J))=AQ:=B9;have b:=T a.symm;clear a f;go_wp2;go_ret;rw[AE b];exact⟨Z,Z⟩
 rw[f,SV]at a;have v:((c.toNat:J) != (Er fm:J))=AQ:=B9;have w:((c.toNat:J)==(Er fm:J))=AP:=B9;have n:=T a;go_wp2;go_roundg g;exact⟨k+1,Bb,B9,Z,n⟩;omega
structure Py(W:Ap)(N:AH)(b:AU)(n bp:AH)(cur:AJ Aq)(V:Ap):Prop where
 ac:A0 W V
 aq:V.heap[N]?=An (Aj (Aw cur) 5 (0,0))
 d:Au (Av W)<=N
 a:n<=At cur
 same:∀j,j<bp->cur[j]?=An (Ab Am b.toNat)
def q5T(W:X)(d:n<=65536):∃cs:A3,(callFunc 183 #[C Y n]).run As W=.ok (.value<|G (Aa<|O<|U W) n cs.size) (W.drew.drew.alloc<|M cs 5)/\n<=cs.size/\cs.size<=maxLen:=by obtain⟨cs,c,a,b⟩:=Lib.run_makeNoZero (P:=As) W #[3] 50 5 underlying50 n E;refine⟨cs,?_,a,b Bc⟩;rw[run_callFunc_extern func183 B6 B6 B6 (e:=Extern.BytealgMakeNoZero.makeNoZero #[3] #[50]) B6,c];rfl
def qwZ:∀v∈[Value.int Am (b.toNat:J)],v.oneCell'=AP:=λv a=>by simp at a;subst a;rfl
theorem q8Q(h:bp<n):(Instr.sliceAt 50 (G (Aa N) n n) (H<|C Y bp) Ao Ao).run As V=.ok (G (H ⟨N,bp,Ao⟩) (n-bp)<|n-bp) V:=by have e:(⟨N,0,Ao⟩:Addr).add bp=⟨N,bp,Ao⟩:=C2;have a:¬n=bp:=E;have b:(bp:J)<=n:=E;rw[VW (P:=As) V 50 _ _ _ _ B6];simp[Instr.slice,Mu underlying50,Instr.sliceBounds,W9,b];rw[Cl a,e]
def q83{ch:I}(h:ch<=n):(Instr.sliceAt 50 (G (Aa N) n n) Ao (H<|C Y ch) Ao).run As V=.ok (G (Aa N) ch n) V:=by
 have e:(⟨N,0,Ao⟩:Addr).add 0=⟨N,0,Ao⟩:=by simp[Addr.add]
 have a:(ch:J)<=n:=E;rw[VW (P:=As) V 50 _ _ _ _ B6];simp[Instr.slice,Mu underlying50,Instr.sliceBounds,W9,a,e]
theorem Zi{W:Ap}(x:Operand){lo:Option Operand}(hi:Option Operand)(b:o.op=.slice ty x lo hi Ao){X:Aq}{L H:Option Aq}(hx:ev x=X)(hl:lo.map ev=L)(a:hi.map ev=H)(h:(Instr.sliceAt ty X L H Ao).run P W=.ok v W):(execOp ev o).run P W=.ok (.value v) W:=by unfold execOp;simp_all
theorem qzA{cur:AJ Aq}(h:Py W N b n n cur V)(d:n<=65536):E2 V (H ⟨N,0,Ao⟩)<|AV n b:=by refine⟨λi a=>⟨N,0,rfl,(Cd h.aq),?_⟩,BC⟩;have c:i<n:=Bl;rw[Gf,Cc h.aq i];have:=h.same i c;simpa using this
theorem Py.copy{cur:AJ Aq}(h:Py W N b n bp cur V)(hb:A0 W V')(f:bp+m<=n)(d:V'.heap[N]?=H (M (Aw<|splice cur bp<|AV m<|C Am b.toNat) 5 (0,0))):Py W N b n (bp+m) (splice cur bp<|AV m<|C Am b.toNat) V':=by
 have c:bp+K (AV m<|Value.int Am (b.toNat:J))<=K cur:=B0 h.a;refine⟨hb,d,h.d,by rw[length_splice _ _ _ c];exact h.a,λj e=>?_⟩;unfold splice;by_cases a:j<bp
 .rw[Hg B7,R5 a];exact h.same j a
 grind
def qtB{M:I}(h1:1<=n)(hn:n<=65536)(hM:A6 W M 0<|C Am b.toNat)(ak:M<O (U W)):Ar As 147 #[G (Aa M) 1 1,C Y n] W λe z=>∃g,e=Ak (G (Aa g) n n)/\E2 z (Aa g) (AV n b)/\A0 W z:=by
 have B:=λaa=>Tryz.bits_Mul 1 n E E aa;have e1:1*n/18446744073709551616=0:=E;have e2:1*n%18446744073709551616=n:=E;simp only[e1,e2]at B;have ao:((n:J)==0)=AQ:=B7;obtain⟨cs,am,aj,an⟩:=q5T W hn;have P:D<|(W.drew.drew.alloc<|Aj cs 5).heap[O<|U W]?=H (Aj (Aw cs.toList) 5 (0,0)):=by show _=_;rw[VL];exact Cj W.drew.drew
 have t:D<|A0 W<|W.drew.drew.alloc<|Aj cs 5:=((Cu _ _).drew.drew).alloc (Cr _) _;have Q:=T<|(t.cell ak).trans hM;have V:D (∀(j:I) (v:Aq),[Value.int Am b.toNat][j]?=H v->(W.drew.drew.alloc<|Aj cs 5).cell? ((⟨M,0,Ao⟩:Addr).add j)=H v):=λj v d=>by
  obtain _|j:=j
  .simp at d;subst d;exact Q
  simp at d
 have R:D<|[Value.int Am (b.toNat:J)].length=Nat.min 1 n:=(Nat.min_eq_left h1).symm;have x:D<|0+[Value.int Am (b.toNat:J)].length<=K cs.toList:=by show _<=_;simp;omega
 by_cases h8:n<=8192
 all_goals
  go_enter func147,ntmps147
  go_upto_region 17 with(first
   |(go_at_call 182;refine(B _).mono ?_;rintro e c ⟨rfl,rfl⟩))
  refine wp_region_list ?_;refine LP Z λs l=>?_;go_simp;refine l _ _ ?_;refine LP Z λs l=>?_;go_simp;refine l _ _ ?_;refine wpList_copy_splice Z (.tmp 58) (.tmp 59) 50 50 Z 5 underlying50 B6 (Aa<|O<|U c) (Aa M) n n 1 1 Z Z (O<|U c) 0 cs.toList 5 P [C Am b.toNat] R (λ_=>⟨Z,⟨M,0,Ao⟩,Z,V⟩) x (qwZ) (O<|U c) c t (Cr _) ?_;intro w4 ah ac;refine LP Z λs l=>?_;go_simp;refine l _ _ ?_
  go_wp2_with fail
  have h:D<|Py c (O<|U c) b n 1 (splice cs.toList 0 [C Am b.toNat]) w4:=⟨ac,AE ah,Cr _,by rw[length_splice _ _ _ x.out];simpa using aj,λj L=>by obtain rfl:j=0:=E;simp[splice]⟩
  go_loopg[10] n (λg al wr=>∃(a:I) (r:AJ Aq),al=C Y a/\D (1<=a)/\D (a<=n)/\D (n<=a+g)/\D (Py c (O<|U c) b n a r wr))
  exact⟨1,_,Z,Cr _,h1,Bp,h⟩;obtain⟨a,r,rfl,u,N,w,i⟩:=hrel;by_cases af:a<n
  .have hl:(a:J)<n:=E
   first|(have h9:n<=8192:=E;obtain⟨k,p⟩:=CC<|min a n;have ag:(min (a:J) (n:J))=k:=(AY<|AE p))|(obtain⟨k,p⟩:=CC<|min a 8192;have ag:(min (a:J) 8192)=k:=AY<|AE p)
   go_wp2_with fail
   obtain⟨m,f⟩:=CC<|min k<|n-a;have q:D<|Py c (O<|U c) b n a r {wr with drawn:=wr.drawn+1}:=⟨i.ac.drew,i.aq,i.d,i.a,i.same⟩
   refine Dl (S:=λ_=>True) (trivial) B6 ?_;intro o;generalize({wr with drawn:=wr.drawn+1}:X)=w5 at *;refine Cb 0 67 (C Y a) o <| Cb 1 68 (G (Aa<|O<|U c) n n) o <| Cb 2 69 (C Y a) o <| Ch 3 70 (G (H ⟨O<|U c,a,Ao⟩) (n-a)<|n-a) Z (λA F=>Zi (.tmp 68) Ao Z B6 B6 B6<|q8Q af) o <| Cb 4 71 (G (Aa<|O<|U c) n n) o <| Cb 5 72 (C Y k) o <| Ch 6 73 (G (Aa<|O<|U c) k n) Z (λA F=>Zi (.tmp 71) (H<|.tmp 72) Z B6 B6 B6<|q83<|AY<|AE p) o <| CH 7 λs l=>?_;refine step_copy_splice Z (.tmp 70) (.tmp 73) 50 50 Z 5 underlying50 B6 (H ⟨O<|U c,a,Ao⟩) (Aa<|O<|U c) (n-a) (n-a) k n B6 B6 (O<|U c) a r 5 q.aq (AV m<|C Am b.toNat) ?hn (λ_=>⟨Z,⟨O<|U c,0,Ao⟩,Z,?hs⟩) ?hf ?h1 (O<|U c) c q.ac (Cr _) ?_
   case hn=>rw[VI];exact f.symm
   case hf=>rw[VI];have:=q.a;have:=AE f;omega
   case h1=>intro v d;rw[(List.mem_replicate.1 d).2];rfl
   case hs =>
    intro j v d;have L:j<m:=B2<|Dk d;rw[List.getElem?_replicate_of_lt L]at d;have e:(⟨O<|U c,0,Ao⟩:Addr).add j=⟨O<|U c,j,Ao⟩:=by by_cases ab:j=0<;>simp[Addr.add,ab]
    rw[e,Cc q.aq j,<-d];have:=q.same j<|B3 (AE f)<|AE p;simpa using this
   intro w6 ai ad;rw[VI];have y:=T<|q.copy ad (AY<|AE f) ai.out;refine l.out _ _ trivial λ_=>?_;refine Ch 8 75 (C Y ((a+m:I):J)) Z (λA F=>?y8) trivial ?_
   case y8 =>
    go_simp;exact(ZL _).trans<|AY<|AE f
   refine Cb 9 10 (C Y ((a+m:I):J)) trivial <| CK ?_;go_simp
   go_wp2_with fail
   obtain _|g:=gk
   .have:=AE w;omega
   go_roundg g;exact⟨a+m,_,Bb,by show _<=_;have:=AE u;omega,by show _<=_;have:=AE f;omega,by show _<=_;have h1:=AE f;have h2:=AE p;have h3:=AE u;have h4:=AE w;omega,y⟩;omega
  have hl:¬(a:J)<n:=E;have ae:a=n:=AY<|AE N;subst ae
  go_wp2_with fail
  go_ret;exact⟨_,Z,qzA i hn,i.ac⟩
theorem qtM{h:I}(o:h<18446744073709551616)(hl:K l<=999999999):Ar As 148 #[C .u64 h,Ae ⟨Aw l⟩] W λe k=>e=Ak (C .u64<|Is h l)/\k=W:=by
 obtain⟨R,j⟩:=CC<|Is h l;rw[AE j];go_enter func148,ntmps148;go_wp2
 go_loopg[0,5] (K l) (λg x y wr=>∃s i:I,x=C .u64 s/\y=C Y i/\wr=W/\D (i+g=K l/\s<18446744073709551616/\Is s (l.drop i)=R))
 grind;obtain⟨s,i,rfl,rfl,rfl,a⟩:=hrel;obtain _|g:=gk
 .have n:¬(i:J)<(K l:J):=AY<|AE a;have d:D<|s=R:=by have e:=AE a;rw[R6 E]at e;exact e.2.2
  go_wp2;go_ret;rw[AE d];exact⟨Z,Z⟩
 have n:(i:J)<(K l:J):=AY<|AE a;obtain⟨b,c⟩:∃b,l[i]?=H b:=⟨_,D7 E⟩
 have p:=Et c;have q:IntKind.u64.wrap (b.toNat:J)=b.toNat:=by have:=b.toNat_lt;simp[IntKind.wrap,IntKind.bits,IntKind.signed];omega
 have r:=jJ b.toNat a.out.2.1 (show b.toNat<_ by have:=b.toNat_lt;omega);have f:D<|Is (N9 s b.toNat) (l.drop<|i+1)=R:=by have e:=a.out.2.2;obtain⟨m,rfl⟩:=Nt.1 c;rw[K6 m]at e;exact e
 go_wp2;rw[jK];go_roundg g;exact⟨_,i+1,Z,Bb,Z,by grind [D],QF,f⟩;omega
theorem q91{a:Act}{b2:I}{x y:Operand}(c:Cn w base v cur)(j:Cn w b2 v2 l)(hl:K cur+K l<=999999999)(h:∀e i f d,Cn d base (G e i f) (cur++l)->Below base w d->wpList As ops Q rest (a.put o.dst<|G e i f) d)(n:o.guard=Ao:=by rfl)(q:o.op=.call {callee:=.builtin .append,args:=#[x,y],argTypes:=#[50,50]}:=by rfl)(r:a.eval x=v:=by rfl)(hx:a.eval y=v2:=by rfl):wpList As ops Q (o::rest) a w:=by
 obtain⟨R,p,L,N,P⟩:=DL Tryz.infoU8;have t:=j;obtain⟨⟨_,k⟩,_,_⟩:=j;rcases k with⟨rfl,k⟩|⟨g,s,cs,rfl,_,S,_⟩
 .obtain⟨e,i,f,rfl⟩:=c.2.2;refine Ua n q underlying50 underlying50 p r c.1 hx<|h _ _ _ _ ?_<|Cu _ _;grind
 refine K7 _ n x y 50 q base 5 R (C Am 0) 1 1 underlying50 p L N P rfl B8 v _ _ r c.1 ⟨g,0,Ao⟩ (K l) s (l.map CP) hx Ba ?_ (λu F=>by obtain⟨b,_,rfl⟩:=List.mem_map.mp F;rfl) Bc E c.2.1 ?_
 .grind [Addr.add,OU t,CP]
 intro V d z A _;obtain⟨m,B⟩:=XW c z A;obtain⟨_,_,_,rfl⟩:=m.2.2;exact h _ _ _ _ m B
def qzc(u:AU)(h:base<=O (U W)):Cn (Az W<|M #[C Am u.toNat] 5) base (G (Aa<|O<|U W) 1 1) [u] :=
 ⟨⟨rfl,AG ⟨O<|U W,1,#[C Am u.toNat],rfl,h,Cj _,Cr _,B8,rfl,rfl⟩⟩,B7,_,_,_,rfl⟩
def Cn.al(h:Cn W base v l)(o:Obj):Cn (Az W o) base v l:=⟨h.1.alloc _,B0 h.2.1,h.2.2⟩
def JZ(n:AI):AH->A1
 |0=>[]
 |k+1=>AW (n%256).toNat::JZ (n/256) k
theorem Zj:∀(k:I) (n:J),K (JZ n k)=k
 |0,_=>rfl
 |k+1,n=>by simp[JZ,Zj k]
theorem lW(key:J):∀k j,Is (JV key j) (JZ (key/2^(8*j)) k)=JV key (j+k)
 |0,_=>rfl
 |k+1,j=>by
  have h:=lW key k<|j+1;have e:key/2^(8*j)/256=key/2^(8*(j+1)):=by grind [Int.ediv_ediv_of_nonneg]
  rw[JZ,Is,e,ZN,Mt E];rw[show j+(k+1)=j+1+k by omega];exact h
theorem lX:∀(k:I) (W:X) (n:J),k<=8 -> -9223372036854775808<=n->n<=9223372036854775807->Ar As 149 #[C Y n,C Y k] W λe f=>∃a m c,e=Ak (G a m c)/\Cn f (O<|U W) (G a m c) (JZ n k)/\A0 W f
 |0,W,n,_,_,_=>by go_enter func149,ntmps149;go_wp2;go_ret;exact⟨_,_,_,Z,S8,CT⟩
 |k+1,W,n,hk,h1,h2=>by
  have c:∀V x,D (x=n/256)->Ar As 149 #[C Y x,C Y k] V λe f=>∃a m c,e=Ak (G a m c)/\Cn f (O<|U V) (G a m c) (JZ (n/256) k)/\A0 V f:=λV x y=>by rw[AE y];exact lX k V (n/256) E E E
  have F:(((k+1:I):J)==0)=AQ:=B7;obtain⟨b,N,r,s,h⟩:=YA n;obtain⟨u,w⟩:=DF<|AW b;have i:D<|JZ n (k+1)=[u]++JZ (n/256) k:=by grind [D,JZ]
  have q:D<|(b:J)=u.toNat:=by grind [D,Hy]
  have L:=T<|Zj k<|n/256;rw[AE i];generalize JZ (n/256) k=l at *;have j:D<|wrap64 ((wrap64<|n-b).tdiv 256)=n/256:=by grind [D,wrap64]
  clear r s w i;have Q:(b:J)-256<0:=E;have R:¬(b:J)<0:=E;rcases h with⟨h,P⟩|h
  all_goals
   go_enter func149,ntmps149
   go_wp2_with(first
    |(go_at_call 149;refine Ce (c _ _ j) ?_;rintro e w2 ⟨a,m,c,rfl,g,d⟩;have g:=T g;have d:=T d;have z:=AE q)
    |(at_builtin;refine q91 (qzc u d.size) (g.al _) (by grind [D]) ?_;intro A S B w' t v;have o:=T t;have p:=T v))
  all_goals
   go_ret;exact⟨_,_,_,Z,o,Cs d<|Cs (CG Cm d.size) p⟩
def LG:AH->AH->A1
 |0,_=>[]
 |k+1,u=>LG k (u/16)++[Ep<|u%16]
def lY:∀k,LG k 0=AV k 48
 |0=>rfl
 |k+1=>by rw[LG,Nat.zero_div,lY k,nc];rfl
theorem lZ:∀(k u:I),u<16^(k+1)->LG (k+1) u=AV (k+1-K (hxL u)) 48++hxL u
 |k,u,h=>by
  by_cases a:u<16
  .rw[LG,So a,Nat.div_eq_of_lt a,Mt a,lY];rfl
  obtain _|k:=k
  .omega
  have b:=lZ k (u/16) E;grind [LG,UB]
def q3S:∀(x:I) (h:x<16),(⟨#[48,49,50,51,52,53,54,55,56,57,97,98,99,100,101,102]⟩:AT)[x]'h=Ep x:=B8
def q34{u:I}(h:u<18446744073709551616):LG 16 u=Na u:=lZ 15 u h
theorem q2N{key:J}{a:A3}(h1 : -9223372036854775808<=key)(h2:key<=9223372036854775807)(ad:label<256)(hF:∀j,F j->j<O (U W))(h:CV k W F (.agg a) d)(hl:K (Du k d)<=999999999):Ar As 110 #[C Y key,C Y label,.agg a] W<|Eg (JW key label<|Du k d) W:=by
 obtain⟨u,rfl⟩:∃u:AU,label=u.toNat:=⟨AW label,(Hy ad).symm⟩
 have HX:D<|EQ W a<|Az W<|M a 101:=Kn;obtain⟨kd,aj,s,ka,ki,kj,va,vi,vj,e⟩:=h.ac;injection e with e;have L:D (∀V,EQ W a V->Ar As 86 #[.agg a] V (Eg (Du k d) V)):=λV P=>UA k V F a d (λj q=>CQ (hF j q) P.ac.size) (h.same (λ_ h=>h) λj q=>Co P.ac j<|hF j q) hl;have cS:=λV=>lX 8 V key E h1 h2;have p:=λV x l hx hl=>qtM (W:=V) (h:=x) (l:=l) hx hl;obtain⟨R,w⟩:=CC<|JW key u.toNat<|Du k d;have H0:D<|Is 14695981039346656037 (JZ key 8)=JV key 8:=by have e:=lW key 8 0;rw[Nat.mul_zero,Int.pow_zero,Int.ediv_one]at e;exact e
 have f:D<|K (JZ key 8)<=999999999:=by grind [D,Zj]
 have o:D<|JW key u.toNat (Du k d)=Na (Is (Is (JV key 8) [u])<|Du k d):=rfl;rw[AE w];rw[AE w]at o;generalize JZ key 8=sp at *;generalize Du k d=cb at *;subst e;unfold Cg at *;unfold Eg CX at L ⊢;go_enter func110,ntmps110;have t:D<|Is (JV key 8) [u]<18446744073709551616:=UD _ _<|UC _ _;obtain⟨s2,r⟩:=CC<|Is (JV key 8) [u];rw[AE r]at o t
 go_wp2_with(first
  |(go_at_call 149;refine Ce (cS _) ?_;rintro e w2 ⟨a2,m2,c2,rfl,HO,m⟩;have n:=Rs HO;have ab:=T<|HX.next m)
  |(have _:=f;go_at_call 148;refine Ce (p _ _ _ B8 f) ?_;rintro e z ⟨rfl,rfl⟩;rw[AE H0];clear n f;have Q:=JR z (u.toNat:J) u Z)
  |(have _:=Q;go_at_call 148;refine Ce (p _ _ [u] (UC _ _) Ba) ?_;rintro e w4 ⟨rfl,rfl⟩;rw[AE r];clear Q;have b:D<|EQ W _<|Az z<|M #[C Am u.toNat] 5:=ab.next Cm;have z0:=Cc b.h 0;have z1:=Cc b.h 1;have z2:=Cc b.h 2;have z3:=Cc b.h 3;have z4:=Cc b.h 4;have c:=L.out _ b)
  |(go_at_call 86;refine Ce c ?_;rintro e w5 ⟨rfl,ac⟩;have B:=T<|b.next ac)
  |(have _:=B;go_at_call 148;refine Ce (p _ _ _ t hl) ?_;rintro e w6 ⟨rfl,rfl⟩))
 obtain⟨S,HS⟩:=CC<|Is s2 cb;have A:D<|S<18446744073709551616:=by grind [D,UD]
 rw[AE HS]at o ⊢;have aa:=T B.ac;go_wp2
 go_loopg[7,8,9] 16 (λg x af ag wr=>∃(v i:I) (l:A1),x=C .u64 v/\af=Ae ⟨Aw l⟩/\ag=C Y i/\D (i+g=16)/\D (LG g v++l=R/\K l=i/\v<18446744073709551616)/\D (A0 W wr))
 exact⟨S,0,[],Z,Z,Z,Z,⟨by rw[Rb,q34 A,AE o],Z,A⟩,aa⟩;obtain⟨v,i,l,rfl,rfl,rfl,y,f,m⟩:=hrel;obtain _|g:=gk
 .have ae:¬(i:J)<16:=AY<|AE y;obtain⟨N,_⟩:=AE f;rw[LG,K9]at N;subst N;go_wp2;go_ret;exact⟨Z,m⟩
 have ae:(i:J)<16:=AY<|AE y;have hm:(v:J).tmod 16=((v%16:I):J):=rfl;have hd:(v:J).tdiv 16=((v/16:I):J):=rfl;have ah:=q3S (v%16)<|Wk _ B8;have HN:D<|LG g (v/16)++([Ep<|v%16]++l)=R/\K ([Ep<|v%16]++l)=i+1/\v/16<18446744073709551616:=by grind [D,LG]
 generalize Ep (v%16)=c at *;have n:=JR wr (c.toNat:J) c Z;have ai:¬(1+K l>9223372036854775807):=AY<|AE f;have HW:D<|IntKind.u64.wrap ((v:J)/16)=((v/16:I):J):=by grind [D,IntKind.wrap,IntKind.bits]
 go_wp2;go_roundg g;exact⟨v/16,i+1,_,by rw[AE HW],by rw[<-EX],Bb,B9,HN,m.alloc m.size _⟩;omega
def Vl(c:Rc)(k:AH)(F:AH->Prop)(r:Option (AM Unit)×Cy)(M:AH)(sts:AJ<|(AH->AH)×AI×AI)(V:Ap)(e:Ending)(V':Ap):Prop :=
 ∃(v':Aq) (sts':AJ<|(AH->AH)×AI×AI),e=Ak (Af #[v',Ah r.1.isSome])/\DT c r.2 M sts' V'/\Dx V V'/\GP sts sts'/\(r.1=Ao->v'=.nilIface)/\∀d',r.1=An d'->CA k V' (λj=>F j\/(Au (Av V)<=j/\j<Au (Av V'))) v' d'
def SI(c:Rc)(k:AH):Prop :=
 ∀(V:Ap) (F:AH->Prop) (x:Aq) (d:A2) (p:AJ<|A1×AK) (f:AH) (R:Cy) (N:AH) (sts:AJ<|(AH->AH)×AI×AI),DT c R N sts V->IY c sts f p->(∀j,F j->j<Au (Av V))->CA k V F x d->At (Du k d)<=999999999->N+D3 k d<=90000 ->
  Ar As 146 #[A8 c.B,x,Ab Al f] V (Vl c k F (D6 c.v k p d R) (N+D3 k d) sts V)
def Vm(D:A2->Prop)(c:Rc)(k:AH)(p:AJ<|A1×AK):Prop :=
 ∀(V:Ap) (F:AH->Prop) (x:Aq) (d:A2) (f:AH) (R:Cy) (N:AH) (sts:AJ<|(AH->AH)×AI×AI),D d->DT c R N sts V->IY c sts f p->(∀j,F j->j<Au (Av V))->CA k V F x d->At (Du k d)<=999999999->N+D3 k d<=90000 ->
  Ar As 146 #[A8 c.B,x,Ab Al f] V (Vl c k F (D6 c.v k p d R) (N+D3 k d) sts V)
structure Mi(c:Rc)(k:AH)(W:Ap)(F:AH->Prop)(R:Cy)(N:AH)(sts:AJ ((AH->AH)×AI×AI))(v:Aq)(ds:AJ (AM Unit))(V:Ap):Prop where
 rw:DT c R N sts V
 a:Dx W V
 a2:∃xs,V.ownsRow (Au (Av W)) 89 1 v (At ds) xs/\∀(i:AH) (x:Aq) (d:A2),xs[i]?=An x->ds[i]?=An d->CA k V (λj=>(F j\/(Au (Av W)<=j/\j<Au (Av V)))/\An j≠Ax v) x d
def m4{t:AN}(h:W.ownsRow base t size v n xs)(o:Dx W W')(f:t≠187)(i:t≠203)(j:t≠264):W'.ownsRow base t size v n xs:=by
 obtain⟨b,a⟩:=h;refine⟨b,?_⟩;rcases a with a|⟨g,c,d,e,l,m,k⟩
 .exact AF a
 exact AG ⟨g,c,d,e,l,o.aq _ _ _ _ m f i j,k⟩
def Mi.a0{c:Rc}{R R':Cy}(h:Mi c k W F R N sts v ds V)(l:DT c R' N' sts' V')(a:Dx V V'):Mi c k W F R' N' sts' v ds V':=by obtain⟨n,e,f⟩:=h.a2;refine⟨l,h.a.trans a,n,m4 e a B8 B8 B8,λi x d m g=>(f i x d m g).kept (λj b=>⟨b.1.imp id λh=>⟨h.1,CQ h.2 a.size⟩,b.2⟩) a⟩
def q4O{c:Rc}{R:Cy}(b:DT c R N sts V)(a:Dx W V):Mi c k W F R N sts (G Ao 0 0) [] V :=
 ⟨b,a,[],Fi _ _ _ _,λi x d e=>by simp at e⟩
theorem Mi.push{c:Rc}{R:Cy}(h:Mi c k W F R N sts v ds V)(hW:O (U c.a)<=O (U W))(hG:O (U c.G)<=O (U W))(hF:∀j,F j->j<O (U W))(w:V.ownsRow (O<|U W) 89 1 v (K ds) xs)(hx:∀(i:I) (x:Aq) (d:A2),xs[i]?=H x->ds[i]?=H d->CA k V (λj=>(F j\/(O (U W)<=j/\j<O (U V)))/\H j≠Ax v) x d)(S:CA k V (λj=>F j\/(O (U V0)<=j/\j<O (U V))) x d)(am:∀g,Ax v=H g->g<O (U V0))(ai:O (U W)<=O (U V0))(al:w5.ownsRow (O<|U W) 89 1 v' (K ds+1)<|xs++[x])(l:(Az V<|M #[x] 89).grownBy w5<|Ax v)(q:Ax v'=Ax v\/Ax v'=H (O<|U<|Az V<|M #[x] 89)):Mi c k W F R N sts v' (ds++[d]) w5:=by
 have Q:=h.a.size;have ak:O (U V)+1<=O (U w5):=B2 l.size;have key:∀g,Ax v=H g->O (U W)<=g:=λg l=>DK w l;have s:=λj f u=>Ca (l.block j B7 u)<|CB _ _ _ f;have y:∀j,j<O (U W)->w5.heap[j]?=V.heap[j]?:=λj f=>s j E λe=>B9;have t:Dx W w5:=⟨E,λj cs ae fr a b c d=>Ca (y j<|Cd a)<|h.a.aq j cs ae fr a b c d⟩
 have ac:DT c R N sts w5:=by
  have m:=h.rw.a0<|Cm (o:=(M #[x] 89));have aa:=w.alloc<|M #[x] 89;rcases aa.2 with⟨z,_⟩|⟨g,ag,ah,z,aj,A,_⟩
  .refine m.a0 ⟨l.os,l.tape,l.output,l.size,λj f=>l.block j f<|by grind [Value.ownBlock]⟩
  have ab:Ax v=H g:=keB;rw[ab]at l;obtain⟨sa,sc,nf,mn,mf,k1,k2,k3⟩:=m.j;refine⟨Ca (l.block c.B (Cd m.h) λe=>?_) m.h,⟨sa,sc,nf,mn,mf,k1.a3 (B:=g) ?_ l A B8 B8 B8,k2,k3⟩,⟨CE m.fr.1 l.size,λj a b c d e=>Ca (l.block j (CQ a m.fr.1) λe2=>B9)<|m.fr.2 j a b c d e⟩,m.m⟩
  .injection e with e;rw[<-e,m.h]at A;grind
  omega
 refine⟨ac,t,xs++[x],B9,λi af c r n=>?_⟩;have L:∀j,j<O (U V)->H j≠Ax v->H j≠Ax v':=λj f u=>by
  rcases q with q|q
  .rw[q];exact u
  rw[q];intro e;injection e with e;simp at e;omega
 have ad:K xs=K ds:=AY w.1;by_cases hi:i<K ds
 .rw[Hg E]at r n;have p:∀j,(F j\/(O (U W)<=j/\j<O (U V)))->j<O (U V):=λj f=>f.elim (λh=>CQ (hF j h) Q) λh=>h.2;exact(hx i af c r n).same (λj f=>⟨f.1.imp id λh=>⟨h.1,E⟩,L j (p j f.1) f.2⟩) λj f=>s j (p j f.1) f.2
 have e:i=K ds:=B9;subst e;rw[Jc E]at n;rw[Jc E,ad]at r;simp at r n;subst r;subst n;have P:∀j,(F j\/(O (U V0)<=j/\j<O (U V)))->H j≠Ax v:=λj f e=>B9;have p:∀j,(F j\/(O (U V0)<=j/\j<O (U V)))->j<O (U V):=λj f=>f.elim (λh=>CQ (hF j h) Q) λh=>h.2;exact S.same (λj f=>⟨f.imp id λh=>⟨E,E⟩,L j (p j f)<|P j f⟩) λj f=>s j (p j f)<|P j f
def Mi.aq{c:Rc}{R:Cy}(h:Mi c k W F R N sts v ds V):CA (k+1) V (λj=>F j\/(O (U W)<=j/\j<O (U V))) (Ai 221 v)<|.agg ds:=by
 obtain⟨t,a,m⟩:=h.a2;unfold CA;refine⟨v,t,Z,⟨a.1,?_⟩,λi x d s q=>(m i x d s q).same (λj r=>r.1) λ_ _=>rfl⟩;rcases a.2 with n|⟨g,f,l,e,p,b,o⟩
 .exact AF n
 exact AG ⟨g,f,l,e,AG ⟨p,(Cd b)⟩,b,o⟩
def Vn(c:Rc)(k:AH)(F:AH->Prop)(t:AN)(r:AM Unit×Cy)(M:AH)(sts:AJ<|(AH->AH)×AI×AI)(V:Ap)(e:Ending)(V':Ap):Prop :=
 ∃(a:A4) (n m:AH) (sts':AJ<|(AH->AH)×AI×AI),e=Ak (Ac a n m)/\DT c r.2 M sts' V'/\Dx V V'/\GP sts sts'/\CA k V' (λj=>F j\/(Au (Av V)<=j/\j<Au (Av V'))) (Ai t<|Ac a n m) r.1
def Vo{c:Rc}{R:Cy}(h:DT c R N sts V)(ok:IX c):A6 V c.B 39<|A8 c.A:=by refine Ca (Cc h.h 39) ?_;unfold EK;rw[Nu<|by rw[ok.a.size];omega,ok.a.size];rfl
theorem m5(f:A2->Cy->Option (AM Unit)×Cy)(l:AJ<|AM Unit)(d:A2)(R:Cy){R1:Cy}(h:Ju f l R=(ds,R1)):Ju f (l++[d]) R=(ds++(f d R1).1.toList,(f d R1).2):=by grind [Ju]
theorem Zk{α:Type}(g:α->I):∀l:AJ α,K l<=(l.map λd=>1+g d).sum
 |[]=>Ex _
 |a::l=>by have:=Zk g l;grind
theorem Vp{α:Type}(g:α->A1){l:AJ α}{d:α}(h:l[i]?=H d):K (g d)<=K (l.flatMap g):=by
 obtain⟨b,rfl⟩:=Nt.1 h;have a:l.flatMap g=(l.take i).flatMap g++(g l[i]++(l.drop<|i+1).flatMap g):=by grind [List.take_append_drop,List.drop_eq_getElem_cons]
 grind
theorem qny{c:Rc}(ok:IX c){p:AJ<|A1×AK}{D:A2->Prop}(ih:Vm D c k (([],AP)::p))(a8:∀x∈ds,D x){R:Cy}(h:DT c R N sts W)(hf:IY c sts f p)(hF:∀j,F j->j<O (U W))(V:DQ W 89 1 F u (K ds) xs)(hx:∀(i:I) (x:Aq) (d:A2),xs[i]?=H x->ds[i]?=H d->CA k W F x d)(hc:K (ds.flatMap<|Du k)<=999999999)(hN:N+1+(ds.map λd=>1+D3 k d).sum<=90000):Ar As 202 #[A8 c.B,u,C Y f] W<|Vn c (k+1) F 221 (.agg (Ju (D6 c.v k (([],AP)::p)) ds R).1,(Ju (D6 c.v k (([],AP)::p)) ds R).2) (N+1+(ds.map λd=>1+D3 k d).sum) sts W:=by
 obtain⟨i0,hi,bk,bl,bm⟩:=DL Tryz.infoThing;obtain⟨ak,aj,rfl⟩:∃ak aj,u=Ac ak (K ds) aj:=by rcases V.2 with⟨e,e2⟩|⟨g,aj,a7,e,_⟩<;>grind
 obtain⟨rr,an⟩:=CC<|Ju (D6 c.v k (([],AP)::p)) ds R;rw[AE an];have ax:=T ih;have av:=T a8;have HW:=T h.ac.size;have HG:=T h.fr.1;have HU:=T V;have HX:=T hx;have HC:=T hc;have HF:=T hF;obtain⟨S,ac⟩:∃S,AL<|N+1+(ds.map λd=>1+D3 k d).sum=S:=⟨_,rfl⟩
 have bv:K ds<=90000:=AY<|Zk (D3 k) ds;have HN:=T<|AE ac▸hN;rw[AE ac];have br:=Vo h ok;have cN:=h.next ok E hf [] AP (by simp[maxLen])
 go_enter func202,ntmps202
 go_wp2_with(first
  |(go_at_call 71;refine Ce cN ?_;rintro e w2 ⟨f2,bo,rfl,bc,ba,bb,a9⟩;have a2:=T bc;have ay:=T ba;have a1:=T bb;have aw:=T a9))
 go_loopg[7,23] (K ds) (λg y bp wr=>∃(i:I) (a:A4) (l L:I) (s:Cy) (r:I) (n:AJ<|(I->I)×J×J) (m:AJ<|AM Unit),y=Ac a l L/\bp=C Y i/\AL (i+g=K ds)/\AL (IY c n f2 (([],AP)::p))/\AL (GP sts n)/\AL (Mi c k W F s r n (Ac a l L) m wr)/\AL (Ju (D6 c.v k (([],AP)::p)) (ds.take i) R=(m,s))/\AL (r+((ds.drop i).map λd=>1+D3 k d).sum<=S)/\AL (K m<=i))
 exact⟨0,Ao,0,0,R,N+1,bo,[],Z,Z,Bg,aw,a1,q4O a2 ay,Z,OG ac,Cr _⟩;obtain⟨i,a,l,L,s,r,n,m,rfl,rfl,hg,af,ad,b,a3,az,ar⟩:=hrel;obtain _|g:=gk
 .have bf:¬(i:J)<K ds:=AY<|AE hg;have HT:AL<|ds.take i=ds:=by grind [AL]
  go_wp2;go_ret;have P:=AE a3;rw[AE HT,AE an]at P;rw[P];exact⟨a,l,L,n,Z,b.rw.ai<|AY<|AE az,b.a,ad,b.aq⟩
 have be:i<K ds:=AY<|AE hg;have bf:(i:J)<K ds:=E;have HR:=HU.kept (V':=wr) (G:=F) (λ_ h=>h) b.a B8 B8 B8;obtain⟨q0,rfl⟩:∃q0,ak=Aa q0:=by rcases HR.2 with⟨_,e⟩|⟨g,bs,a7,e,_⟩<;>grind
 have bx:K xs=K ds:=AY HR.1;obtain⟨x,hx⟩:∃x,xs[i]?=H x:=⟨xs[i],D7 E⟩
 obtain⟨d,hd⟩:∃d,ds[i]?=H d:=⟨ds[i],D7 be⟩
 have ao:=(HX i x d hx hd).kept (V':=wr) (G:=F) (λ_ h=>h) b.a;obtain⟨tx,yx,rfl⟩:=ao.iface;have hc:A6 wr q0 i<|Ai tx yx:=by have:=HR.cell i _ hx;grind [Addr.add]
 have bw:r+(1+D3 k d)+((ds.drop<|i+1).map λd=>1+D3 k d).sum<=S:=by grind [AL,List.drop_eq_getElem_cons]
 have z:=ax.out wr F (Ai tx yx) d f2 s r n (av d<|VK hd) b.rw af (λj hj=>CQ (HF j hj) b.a.size) ao (by grind [AL,Vp])<|AY<|AE HN;have bh:Ju (D6 c.v k (([],AP)::p)) (ds.take<|i+1) R=(m++(D6 c.v k (([],AP)::p) d s).1.toList,(D6 c.v k (([],AP)::p) d s).2):=by grind [AL,List.take_add_one,m5]
 have ab:AL<|(r+D3 k d)+((ds.drop<|i+1).map λd=>1+D3 k d).sum<=S:=Bp;obtain⟨o,am⟩:=CC<|r+D3 k d;rw[AE am]at z;rw[AE am]at ab;have bu:K m<=90000:=AY<|AE ar;have bq:AL<|K m+1<=i+1:=B9;have a4:=T b.a.size;have a0:AL (∀g,Ax (AX a l L)=H g->g<O (U wr)):=by obtain⟨xs,P,_⟩:=b.a2;exact Qd P
 rcases hq:D6 c.v k (([],AP)::p) d s with⟨bn,A⟩
 rw[hq]at z bh;obtain _|q:=bn
 .have ag:AL<|Ju (D6 c.v k (([],AP)::p)) (ds.take<|i+1) R=(m,A):=by grind [AL]
  have ai:Ar As 146 #[A8 c.B,Ai tx yx,C Y f2] wr λe V'=>∃w,e=Ak (Af #[.nilIface,Ah AQ])/\AL (DT c A o w V')/\AL (Dx wr V')/\AL (GP n w):=Ce z (by rintro e V' ⟨v',w,rfl,P,h2,h3,h4,_⟩;grind)
  go_wp2_with(first
   |(go_at_call 146;refine Ce ai ?_;rintro e w4 ⟨al,rfl,ae,aa,Q⟩))
  go_roundg g;exact⟨i+1,a,l,L,A,o,al,m,Z,Bb,B9,af.ac Q,ad.trans Q,b.a0 ae aa,ag,ab,by grind [AL]⟩;omega
 have ag:AL<|Ju (D6 c.v k (([],AP)::p)) (ds.take<|i+1) R=(m++[q],A):=by grind [AL]
 have ai:Ar As 146 #[A8 c.B,Ai tx yx,C Y f2] wr λe V'=>∃t y w,e=Ak (Af #[Ai t y,Ah AP])/\AL (DT c A o w V')/\AL (Dx wr V')/\AL (GP n w)/\AL (CA k V' (λj=>F j\/(O (U wr)<=j/\j<O (U V'))) (Ai t y) q):=Ce z (by rintro e V' ⟨v',w,rfl,P,h2,h3,_,h4⟩;have h5:=h4 q Z;obtain⟨t,y,rfl⟩:=h5.iface;grind)
 go_wp2_with(first
  |(go_at_call 146;refine Ce ai ?_;rintro e w4 ⟨t,y,al,rfl,ae,aa,Q,au⟩;have ah:=T<|b.a0 ae aa;obtain⟨bz,bg,bj⟩:=ah.a2;have HO:=T bg;have a6:=T bj;have aq:=T ah.a.size)
  |(at_builtin;refine JG Z Z underlying221 hi bk bl bm Z B8 Z (HO.alloc _) 1 1 Z Z (EU) (λu V=>by simp at V;subst V;rfl) B8 Bc E (B1<|AE aq) ?_;intro v' w5 ap bd bi;have a5:=T<|ah.push HW HG HF HO a6 au a0 a4 ap bd bi;obtain⟨g5,bt,rfl⟩:=ownsRow_succ ap))
 go_roundg g;exact⟨i+1,_,_,_,A,o,al,m++[q],Z,Bb,B9,af.ac Q,ad.trans Q,a5,ag,ab,by grind [AL]⟩;omega
def JI.kept{G:I->Prop}(h:JI k V F xs es)(f:∀k,F k->G k)(j:Dx V V'):JI k V' G xs es:=λi key d g=>by obtain⟨l,x,a,b,c,e⟩:=h i key d g;exact⟨l,x,a,b,c,e.kept f j⟩
structure LH(c:Rc)(k:AH)(W:Ap)(F:AH->Prop)(R:Cy)(N:AH)(sts:AJ ((AH->AH)×AI×AI))(v:Aq)(es:AJ (Lit×AM Unit))(V:Ap):Prop where
 rw:DT c R N sts V
 a:Dx W V
 a2:∃xs,V.ownsRow (Au (Av W)) 225 2 v (At es) xs/\JI k V (λj=>(F j\/(Au (Av W)<=j/\j<Au (Av V)))/\An j≠Ax v) xs es
def LH.a0{c:Rc}{R R':Cy}(h:LH c k W F R N sts v es V)(f:DT c R' N' sts' V')(a:Dx V V'):LH c k W F R' N' sts' v es V':=by obtain⟨g,d,e⟩:=h.a2;exact⟨f,h.a.trans a,g,m4 d a B8 B8 B8,e.kept (λj b=>⟨b.1.imp id λh=>⟨h.1,CQ h.2 a.size⟩,b.2⟩) a⟩
def q2S{c:Rc}{R:Cy}(b:DT c R N sts V)(a:Dx W V):LH c k W F R N sts (G Ao 0 0) [] V :=
 ⟨b,a,[],Fi _ _ _ _,λi x d e=>by simp at e⟩
theorem LH.push{c:Rc}{R:Cy}(h:LH c k W F R N sts v es V)(hW:O (U c.a)<=O (U W))(hG:O (U c.G)<=O (U W))(hF:∀j,F j->j<O (U W))(w:V.ownsRow (O<|U W) 225 2 v (K es) xs)(hx:JI k V (λj=>(F j\/(O (U W)<=j/\j<O (U V)))/\H j≠Ax v) xs es)(hd:CA k V (λj=>F j\/(O (U V0)<=j/\j<O (U V))) x d)(al:∀g,Ax v=H g->g<O (U V0))(ai:O (U W)<=O (U V0))(aa:w5.ownsRow (O<|U W) 225 2 v' (K es+1)<|xs++[Ae ⟨Aw l⟩,x])(m:(Az V<|M #[Ae ⟨Aw l⟩,x] 225).grownBy w5<|Ax v)(r:Ax v'=Ax v\/Ax v'=H (O<|U<|Az V<|M #[Ae ⟨Aw l⟩,x] 225)):LH c k W F R N sts v' (es++[(.string l,d)]) w5:=by
 have Q:=h.a.size;have ak:O (U V)+1<=O (U w5):=B2 m.size;have key:∀g,Ax v=H g->O (U W)<=g:=λg m=>DK w m;have s:=λj f u=>(m.block j B7 u).trans<|CB _ _ _ f;have y:∀j,j<O (U W)->w5.heap[j]?=V.heap[j]?:=λj f=>s j E λe=>B9;have t:Dx W w5:=⟨E,λj cs ae fr a b c d=>(y j<|Cd a).trans<|h.a.aq j cs ae fr a b c d⟩
 have ad:DT c R N sts w5:=by
  have n:=h.rw.a0<|Cm (o:=(M #[Ae ⟨Aw l⟩,x] 225));have ab:=w.alloc<|M #[Ae ⟨Aw l⟩,x] 225;rcases ab.2 with⟨z,_⟩|⟨g,ag,ah,z,aj,A,_⟩
  .refine n.a0 ⟨m.os,m.tape,m.output,m.size,λj f=>m.block j f<|by grind [Value.ownBlock]⟩
  have ac:Ax v=H g:=keB;rw[ac]at m;obtain⟨sa,sc,nf,mn,mf,k1,k2,k3⟩:=n.j;refine⟨(m.block c.B (Cd n.h) λe=>?_).trans n.h,⟨sa,sc,nf,mn,mf,k1.a3 (B:=g) ?_ m A B8 B8 B8,k2,k3⟩,⟨CE n.fr.1 m.size,λj a b c d e=>(m.block j (CQ a n.fr.1) λe2=>B9).trans<|n.fr.2 j a b c d e⟩,n.m⟩
  .injection e with e;rw[<-e,n.h]at A;grind
  omega
 refine⟨ad,t,_,by rw[Dj];exact aa,λi af c p=>?_⟩;have L:∀j,j<O (U V)->H j≠Ax v->H j≠Ax v':=λj f u=>by
  rcases r with r|r
  .rw[r];exact u
  rw[r];intro e;injection e with e;simp at e;omega
 have am:=w.1;by_cases hi:i<K es
 .rw[Hg hi]at p;obtain⟨l',x',S,e2,e3,e4⟩:=hx i af c p;refine⟨l',x',S,B9,B9,?_⟩;have q:∀j,(F j\/(O (U W)<=j/\j<O (U V)))->j<O (U V):=λj f=>f.elim (λh=>CQ (hF j h) Q) λh=>h.2;exact e4.same (λj f=>⟨f.1.imp id λh=>⟨h.1,E⟩,L j (q j f.1) f.2⟩) λj f=>s j (q j f.1) f.2
 have e:i=K es:=B9;subst e;rw[Jc E]at p;simp at p;obtain⟨rfl,rfl⟩:=p;have P:∀j,(F j\/(O (U V0)<=j/\j<O (U V)))->H j≠Ax v:=λj f e=>B9;have q:∀j,(F j\/(O (U V0)<=j/\j<O (U V)))->j<O (U V):=λj f=>f.elim (λh=>CQ (hF j h) Q) λh=>h.2;refine⟨l,x,Z,?_,?_,hd.same (λj f=>⟨f.imp id λh=>⟨E,E⟩,L j (q j f)<|P j f⟩) λj f=>s j (q j f)<|P j f⟩<;>grind
def LH.aq{c:Rc}{R:Cy}(h:LH c k W F R N sts v es V):CA (k+1) V (λj=>F j\/(O (U W)<=j/\j<O (U V))) (Ai 223 v)<|.map es:=by
 obtain⟨p,a,i⟩:=h.a2;unfold CA;refine⟨v,p,Z,⟨a.1,?_⟩,i.same (λj o=>o.1) λ_ _=>rfl⟩;rcases a.2 with l|⟨g,d,f,e,n,b,m⟩
 .exact AF l
 exact AG ⟨g,d,f,e,AG ⟨n,(Cd b)⟩,b,m⟩
theorem m6{f:A1->A2->Cy->Option (AM Unit)×Cy}{l:AJ<|Lit×AM Unit}{e:Lit×AM Unit}{R:Cy}{R1:Cy}(h:Jv f l R=(es,R1)):Jv f (l++[e]) R=(es++((f (D9 e.1) e.2 R1).1.map λd=>(e.1,d)).toList,(f (D9 e.1) e.2 R1).2):=by grind [Jv]
theorem m7{α:Type}(g:α->I):∀l:AJ α,K l<=(l.map λd=>2+g d).sum
 |[]=>Ex _
 |a::l=>by have:=m7 g l;grind
theorem qpV{c:Rc}(ok:IX c)(ih:SI c k){p:AJ<|A1×AK}{R:Cy}(h:DT c R N sts W)(hf:IY c sts f p)(hF:∀j,F j->j<O (U W))(hu:DQ W 225 2 F u (K es) xs)(hx:JI k W F xs es)(hc:K (es.flatMap λe=>(Dd 3 (K<|D9 e.1)++D9 e.1)++Du k e.2)<=999999999)(hN:N+(es.map λe=>2+D3 k e.2).sum<=90000):Ar As 203 #[A8 c.B,u,C Y f] W<|Vn c (k+1) F 223 (.map (Jv (λkey=>D6 c.v k ((key,AQ)::p)) es R).1,(Jv (λkey=>D6 c.v k ((key,AQ)::p)) es R).2) (N+(es.map λe=>2+D3 k e.2).sum) sts W:=by
 obtain⟨i0,hi,b8,b9,ca⟩:=DL Tryz.infoEntry;obtain⟨a2,au,rfl⟩:∃a2 au,u=Ac a2 (K es) au:=by rcases hu.2 with⟨e,e2⟩|⟨g,au,b4,e,_⟩<;>grind
 obtain⟨rr,bd⟩:=CC<|Jv (λkey=>D6 c.v k ((key,AQ)::p)) es R;rw[AE bd];have an:=T ok;have b0:=T ih;have HW:=T h.ac.size;have HG:=T h.fr.1;have HU:=T hu;have HX:=T hx;have HC:=T hc;have HF:=T hF;obtain⟨NE,am⟩:∃NE,D<|N+(es.map λe=>2+D3 k e.2).sum=NE:=⟨_,rfl⟩
 have ck:K es<=90000:=AY<|m7 (λe:Lit×AM Unit=>D3 k e.2) es;have HN:=T<|AE am▸hN;rw[AE am];have bc:=T h;have a8:=T hf;clear h hf hu hx hc hF hN ok ih;go_enter func203,ntmps203
 go_wp2_with fail
 go_loopg[7,15] (K es) (λg y cb wr=>∃(i:I) (a:A4) (l q:I) (V:Cy) (s:I) (ab:AJ<|(I->I)×J×J) (m:AJ<|Lit×AM Unit),y=Ac a l q/\cb=C Y i/\D (i+g=K es)/\D (IY c ab f p)/\D (GP sts ab)/\D (LH c k W F V s ab (Ac a l q) m wr)/\D (Jv (λkey=>D6 c.v k ((key,AQ)::p)) (es.take i) R=(m,V))/\D (s+((es.drop i).map λe=>2+D3 k e.2).sum<=NE)/\D (K m<=i))
 exact⟨0,Ao,0,0,R,N,sts,[],Z,Z,Bg,a8,GP.refl _,q2S bc<|Dx.refl _,Z,OG am,Cr _⟩;clear bc a8;obtain⟨i,a,l,q,V,s,ab,m,rfl,rfl,hg,aq,ao,Q,ap,ba,bz⟩:=hrel;obtain _|g:=gk
 .have b6:¬(i:J)<K es:=AY<|AE hg;have HT:D<|es.take i=es:=by grind [D]
  go_wp2;go_ret;have P:=AE ap;rw[AE HT,AE bd]at P;rw[P];exact⟨a,l,q,ab,Z,Q.rw.ai<|AY<|AE ba,Q.a,ao,Q.aq⟩
 have b5:i<K es:=AY<|AE hg;have b6:(i:J)<K es:=E;have HR:=HU.kept (V':=wr) (G:=F) (λ_ h=>h) Q.a B8 B8 B8;obtain⟨q0,rfl⟩:∃q0,a2=Aa q0:=by rcases HR.2 with⟨_,e⟩|⟨g,cf,b4,e,_⟩<;>grind
 obtain⟨⟨key,d⟩,hd⟩:∃d,es[i]?=H d:=⟨es[i],D7 b5⟩
 obtain⟨b,cl,rfl,bt,bu,ay⟩:=HX.out i key d hd;have bl:=ay.kept (V':=wr) (G:=F) (λ_ h=>h) Q.a;obtain⟨n,r,rfl⟩:=bl.iface;have ch:A6 wr q0 (i*2)<|Ae ⟨Aw b⟩:=by have:=HR.cell (2*i) _ bt;grind [Addr.add]
 have ci:A6 wr q0 (i*2+1)<|Ai n r:=by have:=HR.cell (2*i+1) _ bu;grind [Addr.add]
 have b7:s+(2+D3 k d)+((es.drop<|i+1).map λe=>2+D3 k e.2).sum<=NE:=by grind [D,List.drop_eq_getElem_cons]
 have bn:K (Du k d)<=999999999/\K b<=999999999:=by grind [D,Vp,D9]
 have aj:D<|A0 wr<|Az wr<|M #[Ae ⟨Aw b⟩,Ai n r] 225:=Cm;have ag:D<|(Az wr<|M #[Ae ⟨Aw b⟩,Ai n r] 225).heap[O<|U wr]?=H (M #[Ae ⟨Aw b⟩,Ai n r] 225):=Cj _;have o:=T<|Q.a0 (Q.rw.a0 aj)<|Dx.of_below aj;have o:=T<|o.a0 (o.rw.a0 (Cu _ _).drew)<|Dx.of_below (Cu _ _).drew;have ag:D<|(World.drew<|Az wr<|M #[Ae ⟨Aw b⟩,Ai n r] 225).heap[O<|U wr]?=H (M #[Ae ⟨Aw b⟩,Ai n r] 225):=Cj _;have L:(λw:X=>A6 w c.B 39 (A8 c.A)/\A6 w (O<|U wr) 0 (Ae ⟨Aw b⟩)) { (Az wr<|M #[Ae ⟨Aw b⟩,Ai n r] 225)with drawn:=(Az wr<|M #[Ae ⟨Aw b⟩,Ai n r] 225).drawn+1}:=⟨Vo o.rw an,Cc ag 0⟩
 have cN:=o.rw.next an (AY<|AE HN) aq b AQ Bc
 have bm:=T ay;have a5:=T bn.1;have a1:Jv (λkey=>D6 c.v k ((key,AQ)::p)) (es.take<|i+1) R=(m++((D6 c.v k ((b,AQ)::p) d V).1.map λd=>(Lit.string b,d)).toList,(D6 c.v k ((b,AQ)::p) d V).2):=by rw[QX,hd];exact m6 ap
 have al:D<|(s+1+D3 k d)+((es.drop<|i+1).map λe=>2+D3 k e.2).sum<=NE:=Bp;have bb:D<|s+1+D3 k d<=90000:=by grind [D]
 have cj:K m<=90000:=AY<|AE bz;have cd:D<|K m+1<=i+1:=B9;clear HR bt bu hd bl ay b7 bn ba ap Q aj;rcases hq:D6 c.v k ((b,AQ)::p) d V with⟨bw,R4⟩
 rw[hq]at a1;have ak:D (∀V4 x z,LH c k W F V (s+1) z (Ac a l q) m V4->IY c z x ((b,AQ)::p)->Ar As 146 #[A8 c.B,Ai n r,C Y (x:I)] V4 (Vl c k F (bw,R4) (s+1+D3 k d) z V4)):=λV4 x z P h2=>hq▸b0.out V4 F (Ai n r) d ((b,AQ)::p) x V (s+1) z P.rw h2 (λj hj=>CQ (HF j hj) P.a.size) (bm.out.kept (λ_ h=>h) P.a) a5 bb;obtain⟨N4,a7⟩:=CC<|s+1+D3 k d;rw[AE a7]at ak al;clear bm a5 bb hq a7
 go_wp2_with fail
 refine Ei (S:=λw=>A6 w c.B 39 (A8 c.A)/\A6 w (O<|U wr) 0 (Ae ⟨Aw b⟩)) B6 ?_;refine Cb 0 19 (A8 c.B) L <| Cb 1 20 (A8 c.B) L <| Cb 2 21 (A8 c.B) L <| Cb 3 22 (A9 c.B 39) L <| Ch 4 23 (A8 c.A) Z (λw hZ=>by have z1:=hZ.1;go_simp) L <| Cb 5 24 (C Y f) L <| Cb 6 25 (A8<|O<|U wr) L <| Ch 7 26 (Ae ⟨Aw b⟩) rfl (λw hZ=>by have z1:=hZ.2;go_simp) L <| Cb 8 27 (Ag #[Ae ⟨Aw b⟩,Ah AQ]) L <| CH 9 λce hK=>?_;go_simp;refine cN.mono ?_;clear cN;rintro e w4 ⟨x,z,rfl,aw,av,bi,bg⟩;have t:=T<|o.a0 aw av;have ah:=T<|av.aq _ _ _ _ ag B8 B8 B8;have ad:=T bi;have a9:=T bg;have ax:(λw:X=>A6 w c.B 39 (A8 c.A)/\A6 w (O<|U wr) 0 (Ae ⟨Aw b⟩)) w4:=⟨Vo aw an,Cc ah 0⟩
 simp only[];refine hK.out _ _ ax λ_=>?_;clear hK o aw av bi bg ag L;refine Cb 10 10 (C Y x) ax <| CK ?_;go_simp;clear ax;have cR:=ak.out w4 x z t a9;have az:=Cc ah 0;have bo:=Cc ah 1;clear ak a9;have b2:=T t.a.size;have b1:D (∀g,Ax (AX a l q)=H g->g<O (U w4)):=by obtain⟨xs,P,_⟩:=t.a2;exact Qd P
 obtain _|d':=bw
 .have ar:D<|Jv (λkey=>D6 c.v k ((key,AQ)::p)) (es.take<|i+1) R=(m,R4):=by grind [D]
  clear a1 az
  go_wp2_with(first
   |(go_at_call 146;refine cR.mono ?_;clear cR bo;rintro e w5 ⟨v5,a4,rfl,bk,bh,bj,br,_⟩;obtain rfl:=br rfl;have ae:=T bk;have ac:=T bh;have aa:=T bj;clear bk bh bj br;simp only[VP]))
  go_roundg g;exact⟨i+1,a,l,q,R4,N4,a4,m,Z,Bb,B9,(aq.ac ad).ac aa,(ao.trans ad).trans aa,t.a0 ae ac,ar,al,by grind [D]⟩;omega
 have ar:D<|Jv (λkey=>D6 c.v k ((key,AQ)::p)) (es.take<|i+1) R=(m++[(Lit.string b,d')],R4):=by grind [D]
 have bf:Ar As 146 #[A8 c.B,Ai n r,C Y x] w4 λe V'=>∃ai y a3,e=Ak (Af #[Ai ai y,Ah AP])/\D (DT c R4 N4 a3 V')/\D (Dx w4 V')/\D (GP z a3)/\D (CA k V' (λj=>F j\/(O (U w4)<=j/\j<O (U V'))) (Ai ai y) d'):=cR.mono (by rintro e V' ⟨v',a3,rfl,P,h2,h3,_,h4⟩;have h5:=h4 d' Z;obtain⟨ai,y,rfl⟩:=h5.iface;grind);clear cR a1 az
 go_wp2_with(first
  |(go_at_call 146;refine bf.mono ?_;clear bf bo;rintro e w5 ⟨ai,y,a4,rfl,ae,ac,aa,a6⟩;have af:=T<|t.a0 ae ac;have az:=Cc (ac.aq _ _ _ _ ah B8 B8 B8) 0;clear t ae;obtain⟨cm,bq,bv⟩:=af.a2;have HO:=T bq;have be:=T bv;have bx:=T af.a.size;clear bq bv)
  |(at_builtin;refine JG Z Z underlying223 hi b8 b9 ca Z B8 Z (HO.alloc _) 1 1 Z Z (EU) (λu hu=>BJ) B8 Bc E (B1<|AE bx) ?_;intro v' w6 a0 bp bs;have b3:=T<|af.push HW HG HF HO be a6 b1 b2 a0 bp bs;obtain⟨g6,cg,rfl⟩:=ownsRow_succ a0;clear a0 bp bs af HO be a6))
 go_roundg g;exact⟨i+1,_,_,_,R4,N4,a4,m++[(Lit.string b,d')],Z,Bb,B9,(aq.ac ad).ac aa,(ao.trans ad).trans aa,b3,ar,al,by grind [D]⟩;omega
def qp5:∀w:X,(Instr.typeAssert (Ai 219<|G a n c) 89 221 AP).run As w=.ok (Af #[G Ao 0 0,Ah AQ]) w:=λw=>B6
def qte:∀w:X,(Instr.typeAssert (Ai 219<|G a n c) 89 223 AP).run As w=.ok (Af #[G Ao 0 0,Ah AQ]) w:=λw=>B6
def qxN{B:I}{t:AN}(b:∀w:X,(Instr.typeAssert (Ai t y) 89 221 AP).run As w=.ok (Af #[G Ao 0 0,Ah AQ]) w)(c:∀w:X,(Instr.typeAssert (Ai t y) 89 223 AP).run As w=.ok (Af #[G Ao 0 0,Ah AQ]) w):Ar As 180 #[A8 B,Ai t y,C Y f] W λe a=>e=Ak (Ai t y)/\a=W:=by go_enter func180,ntmps180;go_wp2;go_ret;exact⟨Z,Z⟩
def QO(c:Rc)(k:AH)(F:AH->Prop)(r:AM Unit×Cy)(M:AH)(sts:AJ<|(AH->AH)×AI×AI)(V:Ap)(e:Ending)(V':Ap):Prop :=
 ∃(v':Aq) (sts':AJ<|(AH->AH)×AI×AI),e=Ak v'/\DT c r.2 M sts' V'/\Dx V V'/\GP sts sts'/\CA k V' (λj=>F j\/(Au (Av V)<=j/\j<Au (Av V'))) v' r.1
def qvy{B:I}{c:Rc}(k:I)(F:I->Prop){r:AM Unit×Cy}{M:I}(b:AJ<|(I->I)×J×J)(d:Ar As 202 #[A8 B,G a n m,C Y f] W<|Vn c k F 221 r M b W):Ar As 180 #[A8 B,Ai 221<|G a n m,C Y f] W<|QO c k F r M b W:=by
 have p:=U6 a n m;go_enter func180,ntmps180
 go_wp2_with(first
  |(go_at_call 202;refine Ce d ?_;rintro e t ⟨o,s,q,l,rfl,g,h,i,j⟩))
 go_ret;exact⟨_,l,Z,g,h,i,j⟩
def qzQ{B:I}{c:Rc}(k:I)(F:I->Prop){r:AM Unit×Cy}{M:I}(b:AJ<|(I->I)×J×J)(d:Ar As 203 #[A8 B,G a n m,C Y f] W<|Vn c k F 223 r M b W):Ar As 180 #[A8 B,Ai 223<|G a n m,C Y f] W<|QO c k F r M b W:=by
 have p:=U7 a n m;have q:=U9 a n m;go_enter func180,ntmps180
 go_wp2_with(first
  |(go_at_call 203;refine Ce d ?_;rintro e u ⟨o,t,s,l,rfl,g,h,i,j⟩))
 go_ret;exact⟨_,l,Z,g,h,i,j⟩
theorem DQ.ac{t:AN}(h:DQ V t size F v n xs):∃q a,v=G q n a:=by rcases h.2 with⟨e,c⟩|⟨g,a,b,e,_⟩<;>grind
theorem q0D{c:Rc}(ok:IX c){k:Nat}(z:SI c k)(W:World)(F:Nat->Prop)(x:Value)(d:DataW Unit){p:List<|List UInt8×Bool}(f:Nat)(R:Cy)(N:Nat)(b:List<|(Nat->Nat)×Int×Int)(h:DT c R N b W)(s:IY c b f p)(hF:∀j,F j->j<W.heap.size)(a:CA (k+1) W F x d)(hc:(Du (k+1) d).length<=999999999)(S:N+D3 (k+1) d<=90001):Calls prog 180 #[A8 c.B,x,.int .i64 f] W<|QO c (k+1) F (Jb (D6 c.v k) p d R) (N+D3 (k+1) d-1) b W:=by
 have l:∀(t:TypeId) (y:Value),x=.iface t y->Jb (D6 c.v k) p d R=(d,R)->1<=D3 (k+1) d->(∀w:World,(Instr.typeAssert (.iface t y) 89 221 true).run prog w=.ok (.tuple #[.slice none 0 0,.bool false]) w)->(∀w:World,(Instr.typeAssert (.iface t y) 89 223 true).run prog w=.ok (.tuple #[.slice none 0 0,.bool false]) w)->Calls prog 180 #[A8 c.B,x,.int .i64 f] W (QO c (k+1) F (Jb (D6 c.v k) p d R) (N+D3 (k+1) d-1) b W):=by intro t y m i r A L;subst m;rw[i];refine Ce (qxN A L) ?_;rintro e Q ⟨rfl,rfl⟩;exact⟨_,b,Z,h.ai E,Dx.refl _,GP.refl _,a.same (λ_ h=>.inl h) λ_ _=>rfl⟩
 have aa:=a;unfold CA at a;split at a
 .exact l _ _ a Z (Cr _) RZ S0
 .exact l _ _ a Z (Cr _) (gQ)<|gR
 .exact l _ _ a.1 Z (Cr _) (gS)<|gT
 .exact l _ _ a Z (Cr _) (gU)<|gV
 .obtain⟨u,e,g⟩:=a;obtain⟨q,o,rfl⟩:=g.ac;exact l _ _ e Z (Cr _) (qp5)<|qte
 .rename_i ds;obtain⟨u,P,rfl,g,n⟩:=a;obtain⟨q,o,rfl⟩:=g.ac;have m:D3 (k+1) (.agg ds)=2+(ds.map λd=>1+D3 k d).sum:=rfl;have i:N+D3 (k+1) (.agg ds)-1=N+1+(ds.map λd=>1+D3 k d).sum:=E;rw[i];have r:Du (k+1) (.agg ds)=Dd 4 ds.length++ds.flatMap (Du k):=rfl;refine qvy (k+1) F b<|qny ok (λV F x d f R N b _=>z V F x d (([],true)::p) f R N b) (λ_ _=>trivial) h s hF g n ?_ E;grind
 .rename_i es;obtain⟨u,P,rfl,g,n⟩:=a;obtain⟨q,o,rfl⟩:=g.ac;have m:D3 (k+1) (.map es)=1+(es.map λe=>2+D3 k e.2).sum:=rfl;have i:N+D3 (k+1) (.map es)-1=N+(es.map λe=>2+D3 k e.2).sum:=E;rw[i];have r:Du (k+1) (.map es)=Dd 5 es.length++es.flatMap λe=>(Dd 3 (D9 e.1).length++D9 e.1)++Du k e.2:=rfl;refine qzQ (k+1) F b<|qpV ok z h s hF g n ?_ E;grind
 exact a.elim
def PA{c:Rc}{R:Cy}(h:DT c R N sts V)(ok:IX c)(j:I):AC V ⟨c.B,37+j,Ao⟩=#[C Y c.v.d,C Y c.v.key,A8 c.A,C Y R.1,C Y R.2.1,C Y R.2.2.1,C Y R.2.2.2][j]?:=by refine(Cc h.h<|37+j).trans ?_;unfold EK;rw[Nu<|by rw[ok.a.size];omega,ok.a.size,show 37+j-37=j by omega]
theorem m8{c:Rc}{R:Cy}(h:DT c R N sts V):∀(j:I) (u:Aq),c.O[j]?=H u->A6 V c.B (0+j) u:=by intro j u a;have b:=Cd a;refine(Cc h.h<|0+j).trans ?_;grind [EK]
theorem Vq{c:Rc}(ok:IX c)(R:Cy)(j:I)(v:Aq):Ay (EK c R) (37+j) v=c.O++#[C Y c.v.d,C Y c.v.key,A8 c.A,C Y R.1,C Y R.2.1,C Y R.2.2.1,C Y R.2.2.2].setIfInBounds j v:=by
 unfold EK;apply PR;have a:K c.O.toList=37:=by simp[ok.a.size]
 grind
def q0y{c:Rc}(ok:IX c):(prog.info? 123).map (·.size)=H c.O.size:=by rw[ok.a.size];kernel_rfl
def m9{c:Rv}{p:AJ<|A1×AK}{R:Cy}(a:c.m (Dz c.c c.a p.reverse).1.toNat c.d=AP):D6 c (k+1) p d R=(H (Jb (D6 c k) p d (R.1+1,R.2)).1,(Jb (D6 c k) p d (R.1+1,R.2)).2):=by rw[D6,Cp a]
theorem me{c:Rv}{p:AJ<|A1×AK}{R:Cy}(b:¬c.m (Dz c.c c.a p.reverse).1.toNat c.d=AP)(a:(Dz c.c c.a p.reverse).2=2):D6 c (k+1) p d R=(H<|.lit<|.string [42,42,42],(R.1,R.2.1,R.2.2.1+1,R.2.2.2)):=by grind [D6]
theorem mg{c:Rv}{p:AJ<|A1×AK}{R:Cy}(b:¬c.m (Dz c.c c.a p.reverse).1.toNat c.d=AP)(a:(Dz c.c c.a p.reverse).2=3):D6 c (k+1) p d R=(H<|.lit<|.string<|JW c.key (Dz c.c c.a p.reverse).1.toNat<|Du (k+1) d,(R.1,R.2.1,R.2.2.1,R.2.2.2+1)):=by grind [D6]
theorem mh{c:Rv}{p:AJ<|A1×AK}{R:Cy}(e:¬c.m (Dz c.c c.a p.reverse).1.toNat c.d=AP)(a:¬(Dz c.c c.a p.reverse).2=2)(b:¬(Dz c.c c.a p.reverse).2=3):D6 c (k+1) p d R=(Ao,(R.1,R.2.1+1,R.2.2.1,R.2.2.2)):=by grind [D6]
def PB(k:I)(d:A2):1<=D3 (k+1) d:=by unfold D3;split<;>omega
def q9t(D:A2->Prop)(c:Rc)(k:AH)(p:AJ<|A1×AK):Prop:=∀(W:Ap) (F:AH->Prop) (x:Aq) (d:A2) (f:AH) (R:Cy) (N:AH) (sts:AJ<|(AH->AH)×AI×AI) (_hD:D d) (_h:DT c R N sts W) (_hf:IY c sts f p) (_hF:∀j,F j->j<Au (Av W)) (_hd:CA (k+1) W F x d) (_hc:At (Du (k+1) d)<=999999999) (_hN:N+D3 (k+1) d<=90001),Ar As 180 #[A8 c.B,x,Ab Al f] W<|QO c (k+1) F (Jb (D6 c.v k) p d R) (N+D3 (k+1) d-1) sts W
theorem qsU{D:A2->Prop}{c:Rc}(ok:IX c)(k:I)(p:AJ<|A1×AK)(sh:c.v.m (Dz c.v.c c.v.a p.reverse).1.toNat c.v.d=AP->q9t D c k p):Vm D c (k+1) p:=by
 intro ab F bg d ah R N q au h hf hF hd hc hN;have cV:=h.a2 ok hf;obtain⟨l,hl,a0⟩:=ok.g p.reverse;rw[hl]at cV;obtain⟨f,L⟩:=CC<|(Dz c.v.c c.v.a p.reverse).2;rw[AE L]at cV;obtain⟨ag,HB⟩:=CC<|c.v.m l c.v.d;have ao:AL<|(Dz c.v.c c.v.a p.reverse).1.toNat=l:=by grind [AL]
 have cM:=λV=>aN ok.a ok.n6 a0 ok.d V;rw[AE HB]at cM;obtain⟨ad,ae,rfl⟩:=hd.iface;have HR:=T h;have g:=T ok;have a3:=Vo h ok;have a5:=h.m;have bb:=PB k d;have af:AL (∀V,ag=AP->DT c (R.1+1,R.2) (N+1) q V->Dx ab V->Ar As 180 #[A8 c.B,Ai ad ae,C Y ah] V (QO c (k+1) F (Jb (D6 c.v k) p d (R.1+1,R.2)) (N+1+D3 (k+1) d-1) q V)):=λV a6 h1 s=>sh (by grind [AL]) V F (Ai ad ae) d ah (R.1+1,R.2) (N+1) q au h1 hf (λj b=>CQ (hF j b) s.size) (hd.kept (λ_ h=>h) s) hc E;rw[show N+1+D3 (k+1) d-1=N+D3 (k+1) d by omega]at af;have az:8<O (U c.a):=by have h0:=ok.tab;grind [World.cell?]
 have ar:AL (∀V,Below (O<|U c.a) c.a V->Dx ab V->Ar As 181 #[C Y c.v.key,C Y l,Ai ad ae] V λe W'=>e=Ak (Ae ⟨Aw<|JW c.v.key l<|Du (k+1) d⟩)/\A0 V W'):=λV h1 s=>zR c.v.key l (AY ok.n6) (λj b=>CQ (hF j b) s.size) (hd.kept (λ_ h=>h) s) hc<|(h1.cell az).trans ok.tab;have ac:N+1<=N+D3 (k+1) d:=E;obtain⟨rr,Q⟩:=CC<|D6 c.v (k+1) p d R;rw[AE Q];generalize hNE:N+D3 (k+1) d=NE at *;go_enter func146,ntmps146
 go_wp2_with(first
  |(go_at_call 72;refine cV.mono ?_;rintro e w2 ⟨rfl,ai⟩;have aa:=T<|HR.a0 ai.drew;have an:=T<|Dx.of_below ai.drew))
 refine Dl (S:=λA=>(∀(j:I) (u:Aq),c.O[j]?=H u->A6 A c.B (0+j) u)/\A6 A c.B 37 (C Y c.v.d)) (⟨m8 aa,PA aa g 0⟩) B6 λo=>Cb 0 20 (A8 c.B) o <| Cb 1 21 (A8 c.B) o <| Cb 2 22 (A8 c.B) o <| Cb 3 23 (A8 c.B) o <| Ch 4 24 (.agg c.O) Z (λA hZ=>by exact Od (.tmp 23) Z Z hZ.1 underlying123 Z<|q0y g) o <| Cb 5 25 (C Y l) o <| Cb 6 26 (A8 c.B) o <| Cb 7 27 (A8 c.B) o <| Cb 8 28 (A8 c.B) o <| Cb 9 29 (A9 c.B 37) o <| Ch 10 30 (C Y c.v.d) Z (λA hZ=>Bh) o <| CH 11 λa2 hK=>?_;go_simp;refine(cM _).mono ?_;rintro e a ⟨rfl,aj⟩;simp only[];have n:=T<|aa.a0 aj;have P:=T<|an.trans<|Dx.of_below aj;have ay:(λA:X=>(∀(j:I) (u:Aq),c.O[j]?=H u->A6 A c.B (0+j) u)/\A6 A c.B 37 (C Y c.v.d)) a:=⟨m8 n,PA n g 0⟩
 refine hK.out _ _ ay λ_=>?_;refine CK ?_;go_simp;have t:=λj=>Dy a c.B j _ _ n.h;cases ag
 .have y:AL<|¬c.v.m (Dz c.v.c c.v.a p.reverse).1.toNat c.v.d=AP:=by grind [AL]
  by_cases s:f=2
  .subst s;have be:A6 a c.B 42<|C Y R.2.2.1:=PA n g 5;have a9:=t 42;have w:=Q.symm.trans<|me y L;subst w;have i:DT c (R.1,R.2.1,R.2.2.1+1,R.2.2.2) (N+1) q (AB a ⟨c.B,42,Ao⟩<|C Y<|(R.2.2.1:J)+1)/\Dx a (AB a ⟨c.B,42,Ao⟩<|C Y<|(R.2.2.1:J)+1):=n.aq (R':=(R.1,R.2.1,R.2.2.1+1,R.2.2.2)) g 42 (R.2.2.1+1) (by rw[show 42=37+5 from Z,Vq g.out];rfl) BQ;have r:=T<|P.trans i.2;have z:=T<|i.1.ai ac
   go_wp2_with fail
   refine CS (FP results146 _ _ _) Z ?_;exact⟨_,q,Z,z,r,GP.refl _,λh=>BB,λd' h=>by have x:=Fl h;rw[<-x];rfl⟩
  by_cases h3:f=3
  .subst h3;have bf:A6 a c.B 43<|C Y R.2.2.2:=PA n g 6;have ba:=t 43;have w:=Q.symm.trans<|mg y L;rw[AE ao]at w;subst w;have i:DT c (R.1,R.2.1,R.2.2.1,R.2.2.2+1) (N+1) q (AB a ⟨c.B,43,Ao⟩<|C Y<|(R.2.2.2:J)+1)/\Dx a (AB a ⟨c.B,43,Ao⟩<|C Y<|(R.2.2.2:J)+1):=n.aq (R':=(R.1,R.2.1,R.2.2.1,R.2.2.2+1)) g 43 (R.2.2.2+1) (by rw[show 43=37+6 from Z,Vq g.out];rfl) BQ;have r:=T<|P.trans i.2;have z:=T<|i.1.ai ac;have a4:(AB a ⟨c.B,43,Ao⟩<|C Y<|(R.2.2.2:J)+1).cell? ⟨c.B,38,Ao⟩=H (C Y c.v.key):=PA i.1 g 1;have cG:=ar.out _ i.1.ac r;generalize JW c.v.key l (Du (k+1) d)=tg at *
   go_wp2_with(first
    |(go_at_call 181;refine cG.mono ?_;rintro e w5 ⟨rfl,ak⟩;have aq:=T<|z.a0 ak;have W:=T<|r.trans<|Dx.of_below ak))
   refine CS (FP results146 _ _ _) Z ?_;exact⟨_,q,Z,aq,W,GP.refl _,λh=>BB,λd' h=>by have x:=Fl h;rw[<-x];rfl⟩
  have bd:A6 a c.B 41<|C Y R.2.1:=PA n g 4;have a8:=t 41;have e2:(f==2)=AQ:=keX;have e3:(f==3)=AQ:=by simpa using h3
  have w:=Q.symm.trans<|mh y (L.symm▸s)<|L.symm▸h3;subst w;have i:DT c (R.1,R.2.1+1,R.2.2.1,R.2.2.2) (N+1) q (AB a ⟨c.B,41,Ao⟩<|C Y<|(R.2.1:J)+1)/\Dx a (AB a ⟨c.B,41,Ao⟩<|C Y<|(R.2.1:J)+1):=n.aq (R':=(R.1,R.2.1+1,R.2.2.1,R.2.2.2)) g 41 (R.2.1+1) (by rw[show 41=37+4 from Z,Vq g.out];rfl) BQ;have r:=T<|P.trans i.2;have z:=T<|i.1.ai ac
  go_wp2_with fail
  refine CS (FP results146 _ _ _) Z ?_;exact⟨_,q,Z,z,r,GP.refl _,λ_=>rfl,λd' h=>Bs⟩
 have bc:A6 a c.B 40<|C Y R.1:=PA n g 3;have a7:=t 40;have w:=Q.symm.trans (m9<|by grind [AL]);subst w;have i:DT c (R.1+1,R.2) (N+1) q (AB a ⟨c.B,40,Ao⟩<|C Y<|(R.1:J)+1)/\Dx a (AB a ⟨c.B,40,Ao⟩<|C Y<|(R.1:J)+1):=n.aq (R':=(R.1+1,R.2)) g 40 (R.1+1) (by rw[show 40=37+3 from Z,Vq g.out];rfl) BQ;have cS:=af.out _ Z i.1<|P.trans i.2;have r:=T<|P.trans i.2;generalize Jb (D6 c.v k) p d (R.1+1,R.2)=sh at *
 go_wp2_with(first
  |(go_at_call 180;refine cS.mono ?_;rintro e w4 ⟨v4,a1,rfl,ax,av,aw,al⟩;obtain⟨t4,y4,rfl⟩:=al.iface;have z:=T ax;have ap:=T aw;have W:=T<|r.trans av;have am:AL<|CA (k+1) w4 (λj=>F j\/(O (U ab)<=j/\j<O (U w4))) (Ai t4 y4) sh.1:=al.same (λj b=>b.imp id λh=>⟨CE r.size h.1,h.2⟩) λ_ _=>rfl))
 refine CS (FP results146 _ _ _) Z ?_;exact⟨_,a1,Z,z,W,ap,λh=>BB,λd' h=>by have x:=Fl h;rw[<-x];exact am⟩
def qpn{c:Rc}(ok:IX c)(b:SI c k):SI c<|k+1:=λW F x d p f R N a=>qsU (D:=λ_=>True) ok k p (λ_ W F x d f R N a _=>q0D ok b W F x d f R N a) W F x d f R N a trivial
def mi{c:Rc}(ok:IX c):∀k,SI c k
 |0=>λ_ _ _ _ _ _ _ _ _ _ _ _ h=>h.elim
 |k+1=>qpn ok<|mi ok k
def qsW(l c:I):Ar As 147 #[G a l c,C Y 0] W λe b=>∃g d,e=Ak (G (Aa g) 0 d)/\A0 W b:=by go_enter func147,ntmps147;go_wp2;go_ret;exact⟨_,_,Z,Cm⟩
theorem qtC{M:I}(n:I)(l:n<=65536)(f:A6 W M 0<|C Am b.toNat)(k:M<O (U W)):Ar As 147 #[G (Aa M) 1 1,C Y n] W λe a=>∃g c,e=Ak (G (Aa g) n c)/\E2 a (Aa g) (AV n b)/\A0 W a:=by
 by_cases h:n=0
 .subst h;refine Ce (qsW 1 1) ?_;rintro e a ⟨g,c,rfl,d⟩;exact⟨g,c,Z,⟨λi j=>by simp at j,Ba⟩,d⟩
 refine Ce (qtB E l f k) ?_;grind
def L1(fm:AI)(bs:A1):AJ AI->Option A1
 |[]=>Ao
 |x::B=>if(At bs:AI)<=x then An (bs++AV (x.toNat-At bs) (AW<|Er fm))else L1 fm bs B
def IZ(fm:AI)(bs:A1)(B:AJ AI):Option A1:=if At B=0 then An bs else L1 fm bs B
theorem mt(fm:J):(AW<|Er fm).toNat=Er fm:=by unfold Er;split<;>rfl
theorem q2J(h:E2 W (Aa g)<|AV n b):∀(j:I) (u:Aq),((AV n b).map CP)[j]?=H u->AC W ((⟨g,0,Ao⟩:Addr).add j)=H u:=by intro j u f;have d:j<K (AV n b):=B9;obtain⟨i,off,a,_,c⟩:=h.a0 j d;injection a with a;injection a with a e2 _;subst a;subst e2;have e:(⟨g,0,Ao⟩:Addr).add j=⟨g,j,Ao⟩:=C2;rw[e];rw[Gf]at c;rw[c,<-f,L8,D7 d];rfl
def q5O(n:I)(b:AU):K ((AV n b).map CP)=n*1:=Ba
def q79(n:I)(b:AU):∀u∈(AV n b).map CP,u.oneCell'=AP:=λu a=>by obtain⟨c,_,rfl⟩:=Kw.1 a;rfl
theorem q5x(h:Cn W base v bs)(c:W'.ownsRow base 5 1 v' (K bs+n)<|bs.map CP++(AV n b).map CP)(a:W.grownBy W'<|Ax v):Cn W' base v' (bs++AV n b)/\Below base W W':=by refine⟨⟨B9,CE h.2.1 a.size,?_⟩,GW (Cu base W) h.1 a h.2.1⟩;rcases c.2 with⟨e,_⟩|⟨g,d,f,e,_⟩<;>grind
def mu(W:Ap)(base:AH)(r:Option A1)(e:Ending)(W':Ap):Prop :=
 (∃v',e=Ak (Af #[v',Ah r.isSome])/\(r=Ao->v'=Ac Ao 0 0)/\∀l,r=An l->Cn W' base v' l)/\Below base W W'
def mw(fm:AI)(B:AJ AI):Prop:=∀(W:Ap) (base:AH) (v:Aq) (bs:A1) (ba:A4) (bc:AH),Cn W base v bs->G3 W ba B->At bs<=999999999->Ar As 108 #[Ab Al fm,v,Ac ba (At B) bc] W (mu W base<|IZ fm bs B)
theorem q0v(bc:I){h:Cn W base v bs}(hB:G3 W ba B)(aq:K B<=8)(ag:∀i (h:i<K B),B[i]<=65536)(hl:K bs<=999999999):Ar As 108 #[C Y fm,v,G ba (K B) bc] W<|mu W base<|IZ fm bs B:=by
 obtain⟨i0,hi,aj,ak,al⟩:=DL Tryz.infoU8;obtain⟨ia,d,rfl,ap⟩:=QG h;have w:=T h;have z:=T h.2.1;have HI:=T hB;have HX:=T ag;have s:=λae=>lU fm ae;obtain⟨a,V⟩:∃a:AU,D<|AW (Er fm)=a:=⟨_,rfl⟩
 have aa:D<|(Er fm:J)=(a.toNat:J):=by grind [D,mt]
 rw[AE aa]at s;by_cases h0:K B=0
 .have m:D<|IZ fm bs B=H bs:=by grind [D,IZ]
  rw[h0];go_enter func108,ntmps108;go_wp2;refine CS (FP results108 _ _ _) Z ?_;rw[AE m];exact⟨⟨_,Z,λh=>BB,λl h=>by have t:=Fl h;rw[<-t];exact w⟩,Cu _ _⟩
 obtain⟨r,c⟩:=CC<|L1 fm bs B;have m:D<|IZ fm bs B=r:=by grind [IZ]
 rw[AE m];have an:((K B:J)==0)=AQ:=B9;go_enter func108,ntmps108
 go_wp2_with fail
 go_loopg[17] (K B) (λg am wr=>∃k:I,am=C Y k/\D (k+g=K B)/\W=wr/\D (L1 fm bs (B.drop k)=r))
 grind [D];obtain⟨k,rfl,u,rfl,c⟩:=hrel;obtain _|g:=gk
 .have ah:¬(k:J)<K B:=AY<|AE u;have b:r=Ao:=by have:=AE c;rw[R6<|AY<|AE u]at this;exact this.symm
  subst b;go_wp2;refine CS (FP results108 _ _ _) Z ?_;exact⟨⟨_,Z,λ_=>rfl,λl h=>Bs⟩,Cu _ _⟩
 have f:k<K B:=AY<|AE u;have ah:(k:J)<K B:=E;obtain⟨b0,off,rfl,ao,N⟩:=HI.a0 k f;have hc:=N k f;have hx:=HX.out k f;have b:=AE c;rw[K6 f,L1]at b;clear N;generalize B[k]=x at *;by_cases P:(K bs:J)<=x
 .rw[Cp P,AE V]at b;obtain⟨n,hn⟩:∃n:I,x=(K bs:J)+n:=⟨(x-K bs).toNat,E⟩
  subst hn;have L:((K bs:J)+n).toNat-K bs=n:=E;rw[L]at b;have ad:=T b.symm;clear b L;have j:D<|A0 W<|Az W<|Aj #[C Am (a.toNat:J)] 5:=Cm;have F:=qtC (W:=(Az W<|Aj #[C Am (a.toNat:J)] 5)) (M:=O<|U W) n E (Cc (Cj W) 0) Ba;have A:Ar As 147 #[G (Aa<|O<|U W) 1 1,C Y<|(K bs:J)+n-K bs] (Az W<|Aj #[C Am (a.toNat:J)] 5) λe q=>∃g d,e=Ak (G (Aa g) n d)/\D (E2 q (Aa g)<|AV n a)/\D (A0 W q):=by rw[show(K bs:J)+n-K bs=n by omega];refine Ce F ?_;rintro e q ⟨g,d,rfl,h1,h2⟩;exact⟨g,d,Z,h1,Cs j<|CG h2 j.size⟩
  clear F j
  go_wp2_with(first
   |(go_at_call 89;refine Ce (s _) ?_;clear s;rintro e w2 ⟨rfl,rfl⟩)
   |(go_at_call 147;refine Ce A ?_;clear A;rintro e w3 ⟨g3,af,rfl,S,y⟩;have p:=T<|ML w y;have ac:=T<|q2J S;have ab:=T<|q5O n a)
   |(at_builtin;refine K7 _ Z _ _ 50 Z base 5 i0 (C Am 0) 1 1 underlying50 hi aj ak al Z B8 _ _ _ Z p.1 ⟨g3,0,Ao⟩ n af ((AV n a).map CP) Z ab ac (q79 n a) Bc E p.2.1 ?_;intro v' w5 R Q ai;clear ai;have o:=T<|q5x p R Q;clear R Q;obtain⟨a5,n5,c5,rfl⟩:=o.1.2.2))
  refine CS (FP results108 _ _ _) Z ?_;rw[AE ad];exact⟨⟨_,Z,λh=>BB,λl h=>by have t:=Fl h;rw[<-t];exact o.1⟩,Cs (CG y z) o.2⟩
 rw[Cl P]at b;have HN:=T b;clear b c
 go_wp2_with fail
 go_roundg g;exact⟨k+1,Bb,B9,Z,HN⟩;omega
def q2x(c:K B<=8)(b:∀i (h:i<K B),B[i]<=65536):mw fm B:=λW base v bs ba a h d e=>q0v (W:=W) (base:=base) (v:=v) (bs:=bs) (ba:=ba) a (B:=B) (h:=h) d c b e
structure Gt where
 a:AI
 out:AI
 b:AI
 bytes:AH
 e:A3
 d:Aq
def Di(g:Gt)(fed:Aq)(cl:AK):A3:=#[Ab Al g.a,Ab Al g.out,Ab Al g.b,Ab Al g.bytes]++g.e++#[g.d,fed,Ah cl]
theorem QQ{g:Gt}(j:I)(h:j<4):(Di g fed cl)[j]?=#[Value.int Y g.a,C Y g.out,C Y g.b,C Y g.bytes][j]?:=by grind [Di]
def LI{g:Gt}(a:g.e.size=40)(j:I):(Di g fed cl)[44+j]?=#[g.d,fed,Ah cl][j]?:=by unfold Di;rw[Nu kf3];simp[a]
theorem qzE{g:Gt}(d:g.e.size=40)(c b:Aq)(a:AK):Ay (Di g c a) 45 b=Di g b a:=by unfold Di;simp_all
theorem quR{news:A1}(h:Cn W base v acc)(hb:E2 W ia news)(A:ia=Ao->c=0)(hl:K acc+K news<=999999999):∃b d,(Builtin.append_ #[50,50] 50 #[v,G ia (K news) c]).run As W=.ok b d/\Cn d base b (acc++news)/\W.grownBy d (Ax v)/\(Ax b=Ax v\/Ax b=H (O<|U W)):=by
 obtain⟨o,m,B,F,L⟩:=DL Tryz.infoU8;obtain _|k:=ia
 .have y:news=[]:=by
   obtain _|⟨a,t⟩:=news
   .rfl
   obtain⟨g,off,e,_⟩:=hb.a0 0 Ba;cases e
  subst y;rw[A rfl];have f:=ZZ (P:=As) (w:=W) base 50 50 5 o 1 underlying50 m v (K acc) _ h.1;refine⟨v,W,f,Bu,⟨Z,Z,Z,Cr _,λ_ _ _=>rfl⟩,AF Z⟩
 have z:∀j u,(news.map CP)[j]?=H u->AC W (k.add j)=H u:=by intro j u i;have n:j<K news:=B9;obtain⟨g,off,p,_,r⟩:=hb.a0 j n;have q:=Fl p;subst q;have e:(⟨g,off,Ao⟩:Addr).add j=⟨g,off+j,Ao⟩:=C2;rw[e,r,<-i,L8,D7 n];rfl
 obtain⟨b,N,f,s,l,_,x⟩:=av (P:=As) W base 50 50 5 o (C Am 0) 1 1 underlying50 m B F L rfl B8 v (K acc) _ h.1 k (K news) c (news.map CP) Ba z (λu i=>by obtain⟨c,_,rfl⟩:=Kw.1 i;rfl) Bc E h.2.1;refine⟨b,N,f,⟨B9,CE h.2.1 l.size,?_⟩,l,x⟩;rcases s.2 with⟨e,_⟩|⟨g,Q,R,e,_⟩<;>grind
def q6b(n:I)(h:m<=cap):(Instr.sliceAt 50 (G ia n cap) Ao (H<|C Y m) Ao).run As V=.ok (G ia m cap) V:=by
 have e:∀a:Addr,a.add 0=a:=λa=>by simp[Addr.add]
 have b:(m:J)<=cap:=E;rw[VW (P:=As) V 50 _ _ _ _ B6];cases ia<;>simp[Instr.slice,Mu underlying50,Instr.sliceBounds,W9,b,e]
def qme{a:Act}{K:Act->X->Prop}(s x:Operand){t:AN}(b:o.op=.call {callee:=.builtin .append,args:=#[s,x],argTypes:=#[t,t]})(d:a.eval s=v)(hx:a.eval x=u)(c:(Builtin.append_ #[t,t] o.type #[v,u]).run P w=.ok v' w')(h:K (a.put o.dst v') w'):o.wp P a w K Q:=by unfold Oper.wp execOp;simp only[b,resolve,invoke,builtin,GT,Ge,FZ,OE,I7,Mv,d,hx,c];exact h
def q6o(W:Ap)(L base:AH)(g:Gt)(fed:Aq)(l:A1)(e:Ending)(W':Ap):Prop :=
 ∃fa fn fc,e=Ak (Af #[])/\Cn W' base (Ac fa fn fc) l/\W'.heap[L]?=An (Aj (Di g (Ac fa fn fc) AQ) 135)/\(W'.os=W.os/\W'.tape=W.tape/\W'.output=W.output)/\Au (Av W)<=Au (Av W')/\(∀k,k<Au (Av W)->k≠L->An k≠Ax fed->W'.heap[k]?=W.heap[k]?)/\∀j,Ax (AX fa fn fc)=An j->Ax fed=An j\/Au (Av W)<=j
theorem q0C{g:Gt}(A:g.e.size=40)(s:W.heap[L]?=H (M (Di g fed AQ) 135))(l:Cn W base fed acc)(hL:L<base)(hb:E2 W ia bs)(ac:ia=Ao->cap=0)(ax:K bs<=cap)(aw:g.bytes<=4096)(ar:K acc<=g.bytes+1):Ar As 74 #[Ad<|H ⟨L,0,Ao⟩,G ia (K bs) cap] W<|q6o W L base g fed<|acc++bs.take (g.bytes+1-K acc):=by
 obtain⟨d,f,rfl,an⟩:=QG l;have F:=T s;have P:=T l;have h:AC W ⟨L,3,Ao⟩=H (C Y g.bytes):=(Cc s 3).trans<|QQ 3 B8;have i:AC W ⟨L,45,Ao⟩=H (G d (K acc) f):=(Cc s 45).trans<|LI A 1;obtain⟨b,R⟩:∃b,D<|K acc+b=g.bytes+1:=⟨g.bytes+1-K acc,Bg⟩
 have ad:g.bytes+1-K acc=b:=AY<|AE R;rw[ad];obtain⟨m,N⟩:=CC<|min (K bs) b;have HT:D<|K (bs.take b)=m:=B9;have av:=hb.len;have B:D<|E2 W ia<|bs.take b:=⟨λae hi=>by have ao:ae<K bs:=B9;obtain⟨g0,off,e1,x,e3⟩:=hb.a0 ae ao;grind,B9⟩
 have ap:=T hL;have v:=T A;have ai:=T ac;have ay:m<=K bs:=AY<|AE N;have a1:b<=4097:=AY<|AE R;have au:K acc<=4097:=E;clear s l an hL hb ac A ad;have a:(λc:X=>c.cell? ⟨L,3,Ao⟩=H (C Y g.bytes)/\c.cell? ⟨L,45,Ao⟩=H (G d (K acc) f)) {W with drawn:=W.drawn+1}:=⟨h,i⟩
 go_enter func74,ntmps74
 go_wp2_with fail
 refine Ei (S:=λc=>c.cell? ⟨L,3,Ao⟩=H (C Y g.bytes)/\c.cell? ⟨L,45,Ao⟩=H (G d (K acc) f)) B6 ?_;refine Cb 0 5 (Ad<|H ⟨L,0,Ao⟩) a <| Cb 1 6 (Ad<|H ⟨L,0,Ao⟩) a <| Cb 2 7 (Ad<|H ⟨L,2,Ao⟩) a <| Cb 3 8 (Ad<|H ⟨L,3,Ao⟩) a <| Ch 4 9 (C Y g.bytes) Z (λc p=>by have z1:=p.1;go_simp) a <| Ch 5 10 (C Y<|(g.bytes:J)+1) rfl (λc p=>by go_simp;grind [IntKind.wrap_i64]) a <| Cb 6 11 (Ad<|H ⟨L,0,Ao⟩) a <| Cb 7 12 (Ad<|H ⟨L,0,Ao⟩) a <| Cb 8 13 (Ad<|H ⟨L,45,Ao⟩) a <| Ch 9 14 (G d (K acc) f) rfl (λc p=>by have z1:=p.2;go_simp) a <| Cb 10 15 (C Y<|K acc) a <| Ch 11 16 (C Y b) rfl (λc p=>by go_simp;grind [D,IntKind.wrap_i64]) a <| Cb 12 4 (C Y b) a <| CK ?_;go_simp;clear a
 go_wp2_with fail
 refine Ei (S:=λ_=>True) B6 ?_;have t:D<|({World.drew W with drawn:=(World.drew W).drawn+1}:X).heap[L]?=H (M (Di g (G d (K acc) f) AQ) 135):=F;have Q:D<|Cn {World.drew W with drawn:=(World.drew W).drawn+1} base (G d (K acc) f) acc:=P;have ah:D<|E2 {World.drew W with drawn:=(World.drew W).drawn+1} ia<|bs.take b:=B.ac (Cu _ _).drew.drew;have o:D<|A0 W {World.drew W with drawn:=(World.drew W).drawn+1}:=(Cu _ _).drew.drew;clear F P B h i;generalize({World.drew W with drawn:=(World.drew W).drawn+1}:X)=W2 at *;have a:=trivial;have a4:AC W2 ⟨L,45,Ao⟩=H (G d (K acc) f):=(Cc t 45).trans<|LI v 1;obtain⟨v',w,hr,z,ab,k⟩:=quR Q ah ai B9;rw[AE HT]at hr;have aj:=T z;have q:=T ab;have ag:=T k;obtain⟨j,n5,c5,rfl⟩:=z.2.2;have aa:H L≠Ax (AX d (K acc) f):=λe=>by have r:=DK Q.1 e.symm;grind [D]
 have u:=T<|(q.block L (Cd t) aa).trans t;have a3:AC w ⟨L,45,Ao⟩=H (G d (K acc) f):=(Cc u 45).trans<|LI v 1;have aq:=Dy w L 45 _ _ u;clear z ab aa k;refine Cb 0 17 (Ad<|H ⟨L,0,Ao⟩) a <| Cb 1 18 (Ad<|H ⟨L,0,Ao⟩) a <| Cb 2 19 (Ad<|H ⟨L,0,Ao⟩) a <| Cb 3 20 (Ad<|H ⟨L,45,Ao⟩) a <| Cb 5 22 (G ia (K bs) cap) a <| Cb 6 23 (G ia (K bs) cap) a <| Cb 7 24 (C Y<|K bs) a <| Cb 8 25 (C Y b) a <| Ch 9 26 (C Y m) Z (λc p=>?y9) a ?_
 case y9 =>
  have az:min (K bs:J) (b:J)=m:=AY<|AE N;go_simp
 refine Ch 10 27 (G ia m cap) Z (λc p=>Zi (.tmp 22) (H<|.tmp 26) Z (L:=Ao) B6 B6 B6<|q6b (K bs) E) a <| CH 4 λV n=>?_;go_simp;refine n.out _ _ trivial λ_=>?_;clear n;refine CH 11 λV n=>?_;refine Kr B6 ?_;refine qme (.tmp 21) (.tmp 27) Z B6 B6 hr ?_;refine n.out _ _ trivial λ_=>?_;clear n;refine Cb 12 29 (Ad<|H ⟨L,0,Ao⟩) trivial <| Cb 13 30 (Ad<|H ⟨L,45,Ao⟩) trivial <| CH 14 λV n=>?_;go_simp;refine n.out _ _ trivial λ_=>?_;clear n;refine CK ?_;go_simp
 go_wp2_with fail
 go_end0;refine⟨j,n5,c5,Z,?_,?_,⟨q.os.trans o.os,q.tape.trans o.tape,q.output.trans o.output⟩,?_,λaf hk r y=>?_,λa2 hj=>?_⟩
 .have l:=AE aj;have a0:∀g,Ax (AX j n5 c5)=H g->g≠L:=λg e x=>by have r:=DK l.1 e;grind [D]
  refine⟨⟨l.1.1,?_⟩,by have:=l.2.1;simp_all,l.2.2⟩;rcases l.1.2 with am|⟨g1,ak,al,e1,x,e3,e4⟩
  .exact AF am
  exact AG ⟨g1,ak,al,e1,x,(CY _ _ _ _<|by grind [D]).trans e3,e4⟩
 .rw[DX w _ _ _ _ _ u,qzE v.out]
 .have r:=q.size;have y:=o.size;simp[World.setCell];omega
 .exact(CY _ _ _ _ kex).trans<|(q.block af (CQ hk o.size) y).trans<|o.block af hk
 have r:=o.size;have y:=AE ag;grind
theorem q6F{g:Gt}(a:A7 V L (Di g fed cl) 135):∀(j:I) (u:Aq),#[Value.int Y g.b,C Y g.bytes][j]?=H u->A6 V L (2+j) u:=by intro j u b;have c:j<2:=Cd b;refine(Cc a<|2+j).trans<|(QQ (2+j) E).trans ?_;grind
def quC{g:Gt}(R:g.e.size=40)(P:A7 V p #[A8 L] 44)(n:A7 V L (Di g (G fa fn fc) cl) 135)(z:∀l,A0 V l->Ar As 43 #[C Y g.a,Ag #[C Y g.b,C Y g.bytes],G fa fn fc] l (KI k l r)):Ar As 106 #[A8 p] V<|KI k V r:=by
 have b:(λa:X=>A6 a p 0 (A8 L)/\A6 a L 0 (C Y g.a)/\(∀(j:I) (u:Aq),#[Value.int Y g.b,C Y g.bytes][j]?=H u->A6 a L (2+j) u)/\A6 a L 45 (G fa fn fc)) {V with drawn:=V.drawn+1}:=⟨Cc P 0,(Cc n 0).trans<|QQ 0 B8,q6F n,(Cc n 45).trans<|LI R 1⟩
 have v:=T z;have N:(prog.info? 94).map (·.size)=H (#[Value.int Y g.b,C Y g.bytes]).size:=B6;go_enter func106,ntmps106
 go_wp2_with fail
 refine Ei (S:=λa=>A6 a p 0 (A8 L)/\A6 a L 0 (C Y g.a)/\(∀(j:I) (u:Aq),#[Value.int Y g.b,C Y g.bytes][j]?=H u->A6 a L (2+j) u)/\A6 a L 45 (G fa fn fc)) B6 ?_;have f:D<|A0 V {V with drawn:=V.drawn+1}:=(Cu _ _).drew;generalize({V with drawn:=V.drawn+1}:X)=V1 at *;refine Ch 0 2 (A8 L) Z (λa c=>kff) b <| Cb 1 3 (A8 L) b <| Cb 2 4 (A8 L) b <| Ch 3 5 (C Y g.a) Z (λa c=>by have i:=c.2.1;go_simp) b <| Ch 4 6 (A8 L) rfl (λa c=>kff) b <| Cb 5 7 (A8 L) b <| Cb 6 8 (A9 L 2) b <| Ch 7 9 (Ag #[C Y g.b,C Y g.bytes]) rfl (λa c=>by exact Od (.tmp 8) rfl rfl c.2.2.1 underlying94 rfl N) b <| Ch 8 10 (A8 L) rfl (λa c=>kff) b <| Cb 9 11 (A8 L) b <| Cb 10 12 (A9 L 45) b <| Ch 11 13 (G fa fn fc) rfl (λa c=>by have i:=c.2.2.2;go_simp) b <| CH 12 λaa B=>?_;go_simp;refine(v V1 f).mono ?_;rintro e o ⟨h,hF⟩;rcases r with⟨A,pl⟩|d
 .obtain rfl:=(show D4 A pl e from hF)
  exact⟨Z,f.trans<|h.mono f.size,Z⟩
 obtain⟨t,y,rfl,F⟩:=hF;simp only[];have Q:=Fk b.1;have m:=Fk b.2.1;have q:(λa:X=>A6 a p 0 (A8 L)/\A6 a L 0 (C Y g.a)/\(∀(j:I) (u:Aq),#[Value.int Y g.b,C Y g.bytes][j]?=H u->A6 a L (2+j) u)/\A6 a L 45 (G fa fn fc)) o:=⟨(h.cell (p:=⟨p,0,Ao⟩) Q).trans b.1,(h.cell (p:=⟨L,0,Ao⟩) m).trans b.2.1,λj u W=>(h.cell (p:=⟨L,2+j,Ao⟩) m).trans<|b.2.2.1 j u W,(h.cell (p:=⟨L,45,Ao⟩) m).trans b.2.2.2⟩
 have w:=T<|f.trans<|h.mono f.size;have x:D<|CA k o (λj=>O (U V)<=j/\j<O (U o)) (Ai t y) d:=F.same (λj s=>⟨CE f.size s.1,s.2⟩) λ_ _=>rfl;refine B.out _ _ q λ_=>?_;refine Cb 13 1 (Ai t y) q <| CK ?_;go_simp
 go_wp2_with fail
 go_ret;exact⟨w,t,y,Z,x⟩
def my{g:Gt}(w:g.e.size=40)(m:A7 W L (Di g (G fa fn fc) cl) 135)(q:∀b,A0 W b->Ar As 43 #[C Y g.a,Ag #[C Y g.b,C Y g.bytes],G fa fn fc] b (KI k b r)):Ar As 75 #[A8 L] W<|Oj k W r:=by
 have a:D<|A0 W<|Az W<|M #[A8 L] 44:=Cm;have p:=qoJ (Az W<|M #[A8 L] 44) #[A8<|O<|U W] (by have f:Below (O (U W)+1) (Az W<|M #[A8 L] 44)<|Az (Az (Az W<|M #[A8 L] 44)<|M #[C Y 0] 54)<|M #[C Y 0] 3:=((Cu _ _).alloc Ba _).alloc Ba _;have s:=Cd m;refine quC w ((f.block _ E).trans<|Cj W) ((f.block L E).trans<|(a.block L s).trans m) λb u=>q b ?_;exact(a.trans<|f.mono E).trans<|u.mono B7);have l:=p;rcases r with⟨x,z⟩|d
 .go_enter func75,ntmps75
  go_wp2_with(first
   |(go_at_call 41;refine l.mono ?_;rintro e i ⟨h,hF⟩;obtain rfl:=hF;have c:=T<|a.trans<|h.mono a.size))
  go_ret3
  exact⟨c,Z⟩
 go_enter func75,ntmps75
 go_wp2_with(first
  |(go_at_call 41;refine l.mono ?_;rintro e i ⟨h,hF⟩;obtain⟨t,y,rfl,v⟩:=hF;have c:=T<|a.trans<|h.mono a.size;have o:D<|CA k i (λj=>O (U W)<=j/\j<O (U i)) (Ai t y) d:=v.same (λj n=>⟨CE a.size n.1,n.2⟩) λ_ _=>rfl))
 go_ret3
 exact⟨c,t,y,Z,o⟩
def PD(r:AS (AI×AI)<|AM Unit)(n:AH):AI:=match r with
 |.ok _=>0
 |.error (en,pl)=>if pl=n then 0 else en
def mz(W:Ap)(L base:AH)(g:Gt)(fed:Aq)(l:A1)(en:AI)(e:Ending)(W':Ap):Prop :=
 ∃fa fn fc,e=Ak (Ab Al en)/\Cn W' base (Ac fa fn fc) l/\W'.heap[L]?=An (Aj (Di g (Ac fa fn fc) AQ) 135)/\(W'.os=W.os/\W'.tape=W.tape/\W'.output=W.output)/\Au (Av W)<=Au (Av W')/\(∀k,k<Au (Av W)->k≠L->An k≠Ax fed->W'.heap[k]?=W.heap[k]?)/\∀j,Ax (AX fa fn fc)=An j->Ax fed=An j\/Au (Av W)<=j
def q0G(k:I){g:Gt}(s:g.e.size=40)(l:A1)(hl:l=acc++bs.take (g.bytes+1-K acc))(z:A7 W L (Di g fed AQ) 135)(F:Cn W base fed acc)(hL:L<base)(hb:E2 W ia bs)(b:ia=Ao->cap=0)(ah:K bs<=cap)(ag:g.bytes<=4096)(ad:K acc<=g.bytes+1)(ae:∀f o,r=.error (f,o)->f≠0)(N:∀n i m,(∀j,j<L->n.heap[j]?=W.heap[j]?)->E2 n i l->Ar As 43 #[C Y g.a,Ag #[C Y g.b,C Y g.bytes],G i (K l) m] n (KI k n r)):Ar As 36 #[A8 L,G ia (K bs) cap] W<|mz W L base g fed l<|PD r<|K l:=by
 have A:=q0C s z F hL hb b ah ag ad;rw[<-hl]at A;have aj:A6 W L 46<|Ah AQ:=Ca (Cc z 46)<|LI s 2;have c:D (∀j,j<L->H j≠Ax fed):=λj t e=>AY<|DK F.1 e.symm;have am:=Cd z;have ac:Ar As 74 #[A8 L,G ia (K bs) cap] W λe u=>∃i m,e=Ak (Af #[])/\D (∀p,A0 u p->(∀f,mz W L base g fed l f (Ak<|C Y f) p)/\A6 p L 45 (G i (K l) m))/\Ar As 75 #[A8 L] u (Oj k u r):=Ce A (by rintro e u ⟨i,fn,m,rfl,Q,q,B,R,S,h6⟩;obtain⟨ak,al,v,af⟩:=QG Q;injection v with v P w;subst v;subst P;subst w;refine⟨i,m,Z,λp h=>⟨λf=>⟨i,_,m,Z,ML Q h,Ca (Co h L<|Cd q) q,⟨Ca h.os B.1,Ca h.tape B.2.1,Ca h.output B.2.2⟩,CE R h.size,λj a aa ab=>Ca (Co h j<|CQ a R)<|S j a aa ab,h6⟩,Ca (Cc (Ca (Co h L<|Cd q) q) 45)<|LI s 1⟩,my s q λn V=>N n i m (λj t=>?_)<|af.ac V⟩;exact Ca (Co V j E)<|S j E E<|c j t);clear A N z F hb b s hl;cases r
 case' error x =>
  obtain⟨f,o⟩:=x;have y:=ae f o Z;have v:(f==0)=AQ:=kfk;have P:(f != 0)=AP:=kfk;cases w:(o==(K l:J))
  case' false=>rw[show PD (.error (f,o)) (K l)=f from Cl keE]
  case' true =>
   obtain rfl:o=K l:=keE;rw[show PD (.error (f,(K l:J))) (K l)=0 from Cp rfl]
 case' ok d=>rw[show PD (.ok d) (K l)=0 from rfl]
 all_goals
  go_enter func36,ntmps36
  go_wp2_with(first
   |(go_at_call 74;refine Ce ac ?_;rintro e w3 ⟨i,m,rfl,H1,cR⟩)
   |(go_at_call 75;refine Ce cR ?_;rintro e p ⟨h,hF⟩;(first|obtain rfl:=hF|obtain⟨an,ao,rfl,_⟩:=hF);obtain⟨hz,ai⟩:=H1.out p h;have HZ:=T hz))
  go_ret;exact HZ _
def qpu(W:X)(L:I)(g:Gt)(f:g.e.size=40)(c b:Aq)(d:A7 W L (Di g c AP) 135):Ar As 36 #[A8 L,b] W λe a=>e=Ak (C Y 15)/\a=W:=by have h:A6 W L 46<|Ah AP:=Ca (Cc d 46)<|LI f 2;go_enter func36,ntmps36;go_wp2;go_ret;exact⟨Z,Z⟩
theorem Ok{P:Program}{fn:Func}{p u u2 u3:Tmp}{ty:AN}(h:fn.results=#[.tmp u,.cell p ty,.tmp u2,.tmp u3]){tmps:A3}{w:X}{g:I}{t:AN}{cs:A3}{fr:I×I}{d:TypeDesc}(f:tmps.getD p AO=A8 g)(c:w.heap[g]?=H (M cs t fr))(i:P.underlying ty=H d)(b:(match d with|.struct _|.array _ _=>AP|_=>AQ)=AP)(hi:(P.info? ty).map (·.size)=H cs.size){v v2 v3:Aq}(j:tmps.getD u AO=v)(k:tmps.getD u2 AO=v2)(l:tmps.getD u3 AO=v3):(results fn tmps).run P w=.ok (Af #[v,.agg cs,v2,v3]) w:=by have e:(results fn tmps).run P w=((asAddr<|tmps.getD p AO).run P w).andThen λa m=>((loadVar ty a).run P m).andThen λv n=>.ok (Af #[tmps.getD u AO,v,tmps.getD u2 AO,tmps.getD u3 AO]) n:=Bm;subst j;subst k;subst l;rw[e,f];simp only[asAddr,Ge,FZ,Jy w g t ty cs fr d c i b hi]
def Nn:(prog.info? 82).map (·.size)=H (#[Value.int Y 0,C Y 0,C Y 0,C Y 0]).size:=B6
theorem qo7(W:X)(L:I)(g:Gt)(h:g.e.size=40)(d:Aq)(a:A7 W L (Di g d AP) 135):Ar As 38 #[A8 L] W λe c=>e=Ak (Af #[G Ao 0 0,Ag #[C Y 0,C Y 0,C Y 0,C Y 0],C Y 15,C Y 0])/\A0 W c:=by
 have f:=Cd a;have i:(Az W<|M #[C Y 0,C Y 0,C Y 0,C Y 0] 82).cell? ⟨L,46,Ao⟩=H (Ah AP):=Ca (Cc (Ca (CB _ _ _ f) a) 46)<|LI h 2;have b:D<|(Az W<|M #[C Y 0,C Y 0,C Y 0,C Y 0] 82).heap[O<|U W]?=H (M #[C Y 0,C Y 0,C Y 0,C Y 0] 82):=Cj W;go_enter func38,ntmps38
 go_wp2_with(first
  |(refine D8 Z 82 _ _ Z (O<|U W) #[C Y 0,C Y 0,C Y 0,C Y 0] Z Z 82 _ b Nn Z Z ?_))
 refine CS (Ok results38 (t:=82) (fr:=(0,0)) Z ?hh underlying82 Z Nn Z Z Z) Z ⟨Z,?hb⟩<;>grind [D,Cm]
theorem mA{P:Program}{fn:Func}{p u:Tmp}{ty:AN}(h:fn.results=#[.tmp u,.cell p ty]){tmps:A3}{w:X}{g:I}{t:AN}{cs:A3}{fr:I×I}{d:TypeDesc}(f:tmps.getD p AO=A8 g)(c:w.heap[g]?=H (M cs t fr))(i:P.underlying ty=H d)(b:(match d with|.struct _|.array _ _=>AP|_=>AQ)=AP)(hi:(P.info? ty).map (·.size)=H cs.size){v:Aq}(j:tmps.getD u AO=v):(results fn tmps).run P w=.ok (Af #[v,.agg cs]) w:=by have e:(results fn tmps).run P w=((asAddr<|tmps.getD p AO).run P w).andThen λa k=>((loadVar ty a).run P k).andThen λv l=>.ok (Af #[tmps.getD u AO,v]) l:=Bm;subst j;rw[e,f];simp only[asAddr,Ge,FZ,Jy w g t ty cs fr d c i b hi]
def Iu(c:Rc):A3:=c.O++#[Ab Al c.v.d,Ab Al c.v.key,A8 c.A]
def CI(R:Cy):A3:=#[Ab Al R.1,Ab Al R.2.1,Ab Al R.2.2.1,Ab Al R.2.2.2]
def K2:A3:=Dp 0 (λ_ _=>AQ)++#[Ab Al 0,Ab Al 0,Ad Ao,Ab Al 0,Ab Al 0,Ab Al 0,Ab Al 0]
def qoN(a:o.op=.alloc 264):(execOp ρ o).run As w=.ok (.value<|A8<|O<|U w) (Az w<|M K2 264):=BL
def qiW{a:Act}(e:o.guard=Ao)(f:o.op=.alloc 264){d:Option Tmp}(c:o.dst=d)(N:I)(b:O (U w)=N)(h:wpList As ops Q rest (a.put d<|A8 N)<|Az w<|M K2 264):wpList As ops Q (o::rest) a w:=by subst b;exact R7 e d c _ _ (qoN f) h
theorem qvR(n:I)(m:I->I->AK)(x y:J)(p:A4):prog.built 264 [(0,.agg<|Dp n m++#[C Y x,C Y y,.pointer p])]=H (Dp n m++#[C Y x,C Y y,.pointer p,C Y 0,C Y 0,C Y 0,C Y 0]):=B6
def q3r(h:A.size=40):(prog.info? 132).map (·.size)=H A.size:=ke1
def q3o(h:A.size=44):(prog.info? 264).map (·.size)=H A.size:=ke1
def Fh{R:Cy}:(prog.info? 82).map (·.size)=H (CI R).size:=B6
theorem qzi(h:CA k V F v d):CA k {V with drawn:=V.drawn+1} F v d:=by have a:∀j,F j->({V with drawn:=V.drawn+1}:X).heap[j]?=V.heap[j]?:=λ_ _=>rfl;grind [CA.same]
def q7Y(c:Rc)(k:AH)(F:AH->Prop)(r:Option (AM Unit)×Cy)(W:Ap)(e:Ending)(V':Ap):Prop :=
 ∃t y,e=Ak (Af #[Ai t y,.agg<|CI r.2])/\Dx W V'/\Below (Au<|Av c.a) c.a V'/\(∀j,j<Au (Av W)->j≠c.A->j≠c.q.d->j≠c.q.b->An j≠c.b->V'.heap[j]?=W.heap[j]?)/\CA k V' (λj=>F j\/(Au (Av W)<=j/\j<Au (Av V'))) (Ai t y) (r.1.getD .nil)
theorem qw3{c:Rc}(ok:IX c)(hO:c.O=Dp c.n c.v.m)(hG:c.G=W)(hB:c.B=O (U W)+2){D:A2->Prop}(bg:Vm D c k [])(bf:D d)(hA:Dv c.a c.A c.q sts (G sa (K sts) sc) nf mn mf W)(hM:KV c.q sts mf)(a6:mn<=N)(a8:K sts<=N+1)(ho:Ax (AX sa (K sts) sc)=c.b)(hs:IY c sts 0 [])(hF:∀j,F j->j<O (U W))(hd:CA k W F x d)(hc:K (Du k d)<=999999999)(hN:N+D3 k d<=90000):Ar As 107 #[.agg<|Iu c,x] W<|q7Y c k F (D6 c.v k [] d (0,0,0,0)) W:=by
 have a7:EK c (0,0,0,0)=Dp c.n c.v.m++#[C Y c.v.d,C Y c.v.key,A8 c.A,C Y 0,C Y 0,C Y 0,C Y 0]:=by grind [EK]
 have al:AL<|prog.built 264 [(0,.agg<|Iu c)]=H (EK c (0,0,0,0)):=by grind [AL,Iu,qvR]
 have ap:AL<|(Iu c).size=40:=by grind [AL,Iu,Dc]
 have aq:AL<|(EK c (0,0,0,0)).size=44:=lw ok;have ar:AL<|K2.size=(EK c (0,0,0,0)).size:=by grind [lw,K2,Dc]
 have au:AL ((EK c (0,0,0,0)).all (·.oneCell')=AP):=by show _=_;rw[a7,SR,Hl];simp[Value.oneCell']
 have ac:AL (∀V,A0 W V->A7 V (O (U W)+2) (EK c (0,0,0,0)) 264->Ar As 146 #[A8<|O (U W)+2,x,C Y 0] V (Vl c k F (D6 c.v k [] d (0,0,0,0)) (N+D3 k d) sts V)):=λV L h2=>by have:=bg V F x d 0 (0,0,0,0) N sts bf ⟨by rw[hB];exact h2,⟨sa,sc,nf,mn,mf,hA.next L,hM,a6,a8,AF ho⟩,⟨by rw[hG];exact L.size,λj a _ _ _ _=>by rw[hG];exact L.block j<|hG▸a⟩,Ex _⟩ hs (λj p=>CQ (hF j p) L.size) (hd.same (λ_ h=>h) λj p=>L.block j<|hF j p) hc hN;grind
 have a0:∀V aj,CA k V aj (Ai 268<|Ag #[]) .nil:=λV aj=>by
  obtain _|k:=k
  .exact hd.elim
  rfl
 obtain⟨t,bk,rfl⟩:=hd.iface;have HF:=T hF;have bh:O (U c.a)<=O (U W)+1:=VF hA.ac.size;clear hA hM a6 a8 ho hs hF hd hc hN a7;obtain⟨⟨o,R⟩,hr⟩:∃bj,D6 c.v k [] d (0,0,0,0)=bj:=⟨_,rfl⟩
 rw[hr]at ac ⊢;clear hr;have ay:AL<|(Az (Az W<|M (Iu c) 132)<|M #[C Y 0,C Y 0,C Y 0,C Y 0] 82).heap[O<|U W]?=H (M (Iu c) 132):=(CB _ _ _ Ba).trans<|Cj W;have ad:AL<|(Az (Az (Az W<|M (Iu c) 132)<|M #[C Y 0,C Y 0,C Y 0,C Y 0] 82)<|M K2 264).heap[O (U W)+2]?=H (M K2 264):=by grind [AL,Cj,World.size_alloc]
 have am:AL<|A0 W<|Az (Az (Az W<|M (Iu c) 132)<|M #[C Y 0,C Y 0,C Y 0,C Y 0] 82)<|M K2 264:=((Cm).alloc Ba _).alloc B7 _;have az:AL<|(Az (Az (Az W<|M (Iu c) 132)<|M #[C Y 0,C Y 0,C Y 0,C Y 0] 82)<|M K2 264).heap[O (U W)+1]?=H (M (CI (0,0,0,0)) 82):=by have h:=Cj (Az W<|M (Iu c) 132) (o:=(M #[C Y 0,C Y 0,C Y 0,C Y 0] 82));show _=_;rw[CL]at h;exact(CB _ _ _ Ba).trans h
 go_enter func107,ntmps107
 go_wp2_with(first
  |(refine qiW Z Z Z (O (U W)+2) ?hN ?_;case hN=>grind [World.size_alloc])
  |(refine CO Z 132 _ Z (O<|U W) Z _ _ _ _ ay underlying132 Z (q3r ap) ?_)
  |(refine D8 Z 264 _ _ Z (O (U W)+2) (EK c (0,0,0,0)) Z Z 264 K2 ad (q3o aq) ar au ?_)
  |(refine Jg Z Z Z ?hl al ?_;case hl=>simp[go_sem]))
 have aw:AL<|A0 W<|(Az (Az (Az W<|M (Iu c) 132)<|M #[C Y 0,C Y 0,C Y 0,C Y 0] 82)<|M K2 264).setRow (O (U W)+2)<|EK c (0,0,0,0):=Dq am E;have bb:AL<|((Az (Az (Az W<|M (Iu c) 132)<|M #[C Y 0,C Y 0,C Y 0,C Y 0] 82)<|M K2 264).setRow (O (U W)+2)<|EK c (0,0,0,0)).heap[O (U W)+2]?=H (M (EK c (0,0,0,0)) 264):=CR _ _ _ _ _ _ ad;have bc:AL<|((Az (Az (Az W<|M (Iu c) 132)<|M #[C Y 0,C Y 0,C Y 0,C Y 0] 82)<|M K2 264).setRow (O (U W)+2)<|EK c (0,0,0,0)).heap[O (U W)+1]?=H (M (CI (0,0,0,0)) 82):=sx E az;have bd:AL<|O (U W)+3<=O (U<|(Az (Az (Az W<|M (Iu c) 132)<|M #[C Y 0,C Y 0,C Y 0,C Y 0] 82)<|M K2 264).setRow (O (U W)+2)<|EK c (0,0,0,0)):=kfV;generalize(Az (Az (Az W<|M (Iu c) 132)<|M #[C Y 0,C Y 0,C Y 0,C Y 0] 82)<|M K2 264).setRow (O (U W)+2) (EK c (0,0,0,0))=V at *;clear ay ad az am al ap aq ar au;have cR:=ac.out V aw bb;clear ac;have ax:=T bh;have ao:=T ok;have HG:=T hG;have HB:=T hB;clear ok hG hB hO;obtain⟨N4,a9⟩:=CC<|N+D3 k d;rw[AE a9]at cR;have ba:=T a0;have aa:Ar As 146 #[A8<|O (U W)+2,Ai t bk,C Y 0] V λab g=>∃v',ab=Ak (Af #[v',Ah o.isSome])/\AL (A7 g (O (U W)+2) (EK c R) 264)/\AL (A7 g (O (U W)+1) (CI (0,0,0,0)) 82)/\AL (Dx W g)/\AL (Below (O<|U c.a) c.a g)/\AL (∀j,j<O (U W)->j≠c.A->j≠c.q.d->j≠c.q.b->H j≠c.b->g.heap[j]?=W.heap[j]?)/\(o=Ao->v'=.nilIface)/\∀P,o=H P->CA k g (λj=>F j\/(O (U W)+3<=j/\j<O (U g))) v' P:=cR.mono (by
  rintro ab g ⟨v',bl,rfl,L,h2,h3,h4,h5⟩;refine⟨v',Z,?_,h2.aq _ _ _ _ bc B8 B8 B8,(Dx.of_below aw).trans h2,L.ac,λj b u e a4 a5=>?_,h4,λP bi=>(h5 P bi).same (λj p=>p.imp id λh=>⟨CE bd h.1,h.2⟩) λ_ _=>rfl⟩
  .have:=L.h;grind [AL]
  have:=L.fr.2 j (by rw[AE HG];exact b) u e a4 a5;grind [AL])
 clear cR a0;have an:AL (∀(g:X),A7 g (O (U W)+2) (EK c R) 264->∀(j:I) (ai:Aq),(CI R)[j]?=H ai->A6 g (O (U W)+2) (40+j) ai):=λg h j ai s=>by
  refine(Cc h<|40+j).trans ?_;unfold EK;rw[Nu<|by rw[ao.a.size];omega,ao.a.size,show 40+j-37=j+3 by omega];have p:j<4:=Cd s
  match j,p,s with
  |0,_,s=>exact s
  |1,_,s=>exact s
  |2,_,s=>exact s
  |3,_,s=>exact s
 have av:AL (∀R:Cy,(CI R).all (·.oneCell')=AP):=λR=>Bw;obtain _|P:=o
 .go_wp2_with(first
   |(go_at_call 146;refine aa.mono ?_;clear aa;rintro ab f ⟨v4,rfl,y,w,z,Q,r,h6,_⟩;obtain rfl:=h6 rfl;clear h6;simp only[VP]))
  refine Dl (S:=λi=>A7 i (O (U W)+2) (EK c R) 264) (y) B6 ?_;intro l;have w:AL<|({f with drawn:=f.drawn+1}:X).heap[O (U W)+1]?=H (M (CI (0,0,0,0)) 82):=w;have z:AL<|Dx W {f with drawn:=f.drawn+1}:=⟨z.size,z.aq⟩
  have Q:AL<|Below (O<|U c.a) c.a {f with drawn:=f.drawn+1}:=Q.drew;have r:AL (∀j,j<O (U W)->j≠c.A->j≠c.q.d->j≠c.q.b->H j≠c.b->({f with drawn:=f.drawn+1}:X).heap[j]?=W.heap[j]?):=r;clear y;generalize({f with drawn:=f.drawn+1}:X)=w5 at *;refine Cb 0 20 (Ai 268<|Ag #[]) l <| Cb 1 21 (A9 (O (U W)+2) 40) l <| Ch 2 22 (.agg<|CI R) Z (λi hZ=>C4) l <| Cb 3 4 (Ai 268<|Ag #[]) l ?_;have ag:(λi:X=>A7 i (O (U W)+2) (EK c R) 264)<|World.setRow w5 (O (U W)+1)<|CI R:=sx E l;refine CH 4 λbe hK=>?_;refine Kr B6 ?_;refine Je 82 (.tmp 5) (.tmp 22) Z (O (U W)+1) (CI R) Z Z 82 (CI (0,0,0,0)) w (Fh) Z (av R) ?_;refine hK.out _ _ ag λ_=>?_;clear hK;refine CK ?_;go_simp
  go_wp2_with fail
  refine CS (mA results107 Z (CR _ _ _ _ _ _ w) underlying82 Z (Fh) Z) Z ?_;have af:Dx W<|World.setRow w5 (O (U W)+1)<|CI R:=⟨B9,λj cs t fr a ae c d=>(Do _ _ _ _<|AY<|Cd a).trans<|z.aq j cs t fr a ae c d⟩
  have ah:=AE ax;refine⟨_,_,Z,af,Dq Q ah,λj b u e a4 a5=>sx E<|r j b u e a4 a5,?_⟩;exact ba _ _
 go_wp2_with(first
  |(go_at_call 146;refine aa.mono ?_;clear aa;rintro ab f ⟨v4,rfl,y,w,z,Q,r,_,h7⟩;obtain⟨t4,y4,rfl⟩:=(h7 P rfl).iface;have H7:=T<|h7 P Z;clear h7;simp only[ak]))
 refine Dl (S:=λi=>A7 i (O (U W)+2) (EK c R) 264) (y) B6 ?_;intro l;have w:AL<|({f with drawn:=f.drawn+1}:X).heap[O (U W)+1]?=H (M (CI (0,0,0,0)) 82):=w;have z:AL<|Dx W {f with drawn:=f.drawn+1}:=⟨z.size,z.aq⟩
 have Q:AL<|Below (O<|U c.a) c.a {f with drawn:=f.drawn+1}:=Q.drew;have r:AL (∀j,j<O (U W)->j≠c.A->j≠c.q.d->j≠c.q.b->H j≠c.b->({f with drawn:=f.drawn+1}:X).heap[j]?=W.heap[j]?):=r;have H7:AL<|CA k {f with drawn:=f.drawn+1} (λj=>F j\/(O (U W)+3<=j/\j<O (U ({f with drawn:=f.drawn+1}:X)))) (Ai t4 y4) P:=qzi H7;clear y;generalize({f with drawn:=f.drawn+1}:X)=w5 at *;refine Cb 0 20 (Ai t4 y4) l <| Cb 1 21 (A9 (O (U W)+2) 40) l <| Ch 2 22 (.agg<|CI R) Z (λi hZ=>C4) l <| Cb 3 4 (Ai t4 y4) l ?_;have ag:(λi:X=>A7 i (O (U W)+2) (EK c R) 264)<|World.setRow w5 (O (U W)+1)<|CI R:=sx E l;refine CH 4 λbe hK=>?_;refine Kr B6 ?_;refine Je 82 (.tmp 5) (.tmp 22) Z (O (U W)+1) (CI R) Z Z 82 (CI (0,0,0,0)) w (Fh) Z (av R) ?_;refine hK.out _ _ ag λ_=>?_;clear hK;refine CK ?_;go_simp
 go_wp2_with fail
 refine CS (mA results107 Z (CR _ _ _ _ _ _ w) underlying82 Z (Fh) Z) Z ?_;have af:Dx W<|World.setRow w5 (O (U W)+1)<|CI R:=⟨B9,λj cs t fr a ae c d=>(Do _ _ _ _<|AY<|Cd a).trans<|z.aq j cs t fr a ae c d⟩
 have ah:=AE ax;refine⟨_,_,Z,af,Dq Q ah,λj b u e a4 a5=>sx E<|r j b u e a4 a5,?_⟩;exact H7.same (λj p=>p.imp id λh=>⟨E,by simpa using h.2⟩) (λj p=>Do _ _ _ _<|by grind [AL])
def LJ(fm:AI)(k:AH)(d:A2)(B:AJ AI):AS AI A1 :=
 if fm=1/\F7 k d=AP then .error 13 else match IZ fm (Fs fm k d) B with
  |none=>.error 14
  |some l=>.ok l
def mB(h:fm=1/\F7 k d=AP):LJ fm k d B=.error 13:=Cp h
theorem mC(h:¬(fm=1/\F7 k d=AP))(a:IZ fm (Fs fm k d) B=Ao):LJ fm k d B=.error 14:=by grind [LJ]
theorem mD(h:¬(fm=1/\F7 k d=AP))(a:IZ fm (Fs fm k d) B=H l):LJ fm k d B=.ok l:=by grind [LJ]
structure Eh(X:AH->Prop)(W V:Ap):Prop where
 a:V.os=W.os/\V.tape=W.tape/\V.output=W.output
 b:Dx W V
 block:∀j,j<Au (Av W)->X j->V.heap[j]?=W.heap[j]?
def Eh.of_below{X:I->Prop}{W V:Ap}(h:A0 W V):Eh X W V:=⟨⟨h.os,h.tape,h.output⟩,Dx.of_below h,λj a _=>Co h j a⟩
def Eh.trans{X:I->Prop}{W V Z:Ap}(h:Eh X W V)(g:Eh X V Z):Eh X W Z:=⟨⟨Ca g.a.1 h.a.1,Ca g.a.2.1 h.a.2.1,Ca g.a.2.2 h.a.2.2⟩,h.b.trans g.b,λj a b=>Ca (g.block j (CQ a h.b.size) b)<|h.block j a b⟩
def Eh.set{X:I->Prop}{W V:Ap}(h:Eh X W V)(e:O (U W)<=g)(cs:A3):Eh X W<|AD V g cs:=by refine⟨h.a,⟨B2 h.b.size,λj cs t fr a b c d=>Ca (Do _ _ _ _<|AY<|Cd a)<|h.b.aq j cs t fr a b c d⟩,λj a b=>sx E<|h.block j a b⟩
def Eh.alloc{X:I->Prop}{W V:Ap}(h:Eh X W V)(o:Obj):Eh X W<|Az V o:=h.trans<|Eh.of_below Cm
theorem Eh.drew{X:I->Prop}{W V:Ap}(h:Eh X W V):Eh X W {V with drawn:=V.drawn+1}:=⟨h.a,⟨h.b.size,h.b.aq⟩,h.block⟩
theorem Zo{P:Program}{fn:Func}{p u u2:Tmp}{ty:AN}(h:fn.results=#[.tmp u,.cell p ty,.tmp u2]){tmps:A3}{w:X}{g:I}{t:AN}{cs:A3}{fr:I×I}{d:TypeDesc}(f:tmps.getD p AO=A8 g)(c:w.heap[g]?=H (M cs t fr))(i:P.underlying ty=H d)(b:(match d with|.struct _|.array _ _=>AP|_=>AQ)=AP)(hi:(P.info? ty).map (·.size)=H cs.size){v v2:Aq}(j:tmps.getD u AO=v)(k:tmps.getD u2 AO=v2):(results fn tmps).run P w=.ok (Af #[v,.agg cs,v2]) w:=by have e:(results fn tmps).run P w=((asAddr<|tmps.getD p AO).run P w).andThen λa l=>((loadVar ty a).run P l).andThen λv m=>.ok (Af #[tmps.getD u AO,v,tmps.getD u2 AO]) m:=Bm;subst j;subst k;rw[e,f];simp only[asAddr,Ge,FZ,Jy w g t ty cs fr d c i b hi]
def Zp(R:Cy)(r:AS AI A1):Cy:=match r with
 |.ok _=>R
 |.error _=>(0,0,0,0)
def Zq(r:AS AI A1):AI:=match r with
 |.ok _=>0
 |.error en=>en
def Ol(V:Ap)(base:AH)(v:Aq)(r:AS AI A1):Prop:=match r with
 |.ok l=>Cn V base v l
 |.error _=>v=Ac Ao 0 0
def mE(X:AH->Prop)(W:Ap)(R:Cy)(r:AS AI A1)(e:Ending)(V':Ap):Prop :=
 ∃va vn vc,e=Ak (Af #[Ac va vn vc,.agg<|CI<|Zp R r,Ab Al<|Zq r])/\Eh X W V'/\Ol V' (Au<|Av W) (Ac va vn vc) r
def Zr(X:AH->Prop)(N k:AH)(U:Ap)(R:Cy)(d:A2)(e:Ending)(V':Ap):Prop :=
 ∃t' y',e=Ak (Af #[Ai t' y',.agg<|CI R])/\Eh X U V'/\CA k V' (λj=>j<N\/(Au (Av U)<=j/\j<Au (Av V'))) (Ai t' y') d
structure SJ(X:AH->Prop)(W:Ap)(L:AH)(gr:A3)(N8 k:AH)(R:Cy)(t:AN)(y:Aq)(d:A2)(V:Ap):Prop where
 fr:Eh X W V
 b:V.heap[L]?=An (Aj gr 135)
 a:V.heap[Au (Av W)]?=An (Aj (CI (0,0,0,0)) 82)
 e:V.heap[N8]?=An (Aj (CI R) 82)
 lt:Au (Av W)<N8
 c:CA k V (λj=>j<Au (Av V)) (Ai t y) d
def SJ.a0{X:I->Prop}{W:Ap}{N8:I}{R:Cy}{t:AN}{V V':Ap}(h:SJ X W L gr N8 k R t y d V)(hb:A0 V V'):SJ X W L gr N8 k R t y d V' :=
 ⟨h.fr.trans<|Eh.of_below hb,Ca (Co hb _<|Cd h.b) h.b,Ca (Co hb _<|Cd h.a) h.a,Ca (Co hb _<|Cd h.e) h.e,h.lt,h.c.same (λ_ a=>CQ a hb.size) λj a=>Co hb j a⟩
theorem q8t{X:I->Prop}{W V':Ap}{R:Cy}{t:AN}(a:A7 W L gr 135)(hF:Eh X (Az W<|M #[C Y 0,C Y 0,C Y 0,C Y 0] 82) V')(f:CA k V' (λj=>j<O (U W)\/(O (U<|Az W<|M #[C Y 0,C Y 0,C Y 0,C Y 0] 82)<=j/\j<O (U V'))) (Ai t y) d):SJ X W L gr (O<|U V') k R t y d<|Az V'<|M (CI R) 82:=by
 have e:O (U W)<O (U V'):=by have h:=hF.b.size;grind [World.size_alloc]
 have b:=Cd a;refine⟨?_,?_,?_,Cj V',e,?_⟩
 .exact((Eh.of_below Cm).trans hF).alloc _
 .exact Ca (CB _ _ _ E)<|hF.b.aq L _ _ _ (Ca (CB W _ _ b) a) B8 B8 B8
 .exact Ca (CB _ _ _ E)<|hF.b.aq (O<|U W) _ _ _ (Cj W) B8 B8 B8
 refine f.same (λj c=>?_) (λj c=>CB _ _ _ ?_)<;>grind [World.size_alloc]
theorem q3u(k:I)(d:A2):Fs 1 k d=Fe k d:=Cp rfl
theorem q2E(k:I)(d:A2):Fs 2 k d=Du k d:=by grind [Fs]
theorem q4X(k:I)(d:A2):Fs 3 k d=Io k d:=by grind [Fs]
theorem q7g{t:AN}(g:fm=1\/fm=2\/fm=3)(c:CA k V (λj=>j<O (U V)) (Ai t y) d)(h:K (Fs fm k d)<=999999999)(f:Jq (O<|U V) V):Ar As 82 #[C Y fm,Ai t y] V λe a=>∃b,e=Ak b/\Cn a (O<|U V) b (Fs fm k d)/\A0 V a:=by grind [q3u,zc,q2E,ii,q4X,wn]
def q0J{t:AN}(l:fm=1\/fm=2\/fm=3)(g:CA k V (λj=>j<O (U V)) (Ai t y) d)(n:K (Fs fm k d)<=999999999)(i:∀a,A0 V a->Jq (O<|U a) a)(m:¬(fm=1/\F7 k d=AP)):Ar As 44 #[C Y fm,Ai t y] V λe f=>∃h,e=Ak (Af #[h,C Y 0])/\Cn f (O<|U V) h (Fs fm k d)/\A0 V f :=
 quf g m λa b=>q7g l (g.same (λ_ c=>CQ c b.size) λj c=>b.block j c) n<|i a b
structure mF(fm:AI)(k:AH)(d:A2):Prop where
 ok:∀V t y,CA k V (λj=>j<Au (Av V)) (Ai t y) d->(∀U,A0 V U->Jq (Au (Av U)) U)->¬(fm=1/\F7 k d=AP)->Ar As 44 #[Ab Al fm,Ai t y] V λe V'=>∃v',e=Ak (Af #[v',Ab Al 0])/\Cn V' (Au (Av V)) v' (Fs fm k d)/\A0 V V'
 f:F7 k d=AP->∀V t y,CA k V (λj=>j<Au (Av V)) (Ai t y) d->Ar As 44 #[Ab Al 1,Ai t y] V λe V'=>e=Ak (Af #[Ac Ao 0 0,Ab Al 13])/\A0 V V'
 len:∀V t y,CA k V (λj=>j<Au (Av V)) (Ai t y) d->At (Fs fm k d)<=999999999
def mG(e:fm=1\/fm=2\/fm=3)(b:K (Fs fm k d)<=999999999):mF fm k d :=
 ⟨λV t y a c g=>q0J (k:=k) (V:=V) (t:=t) (y:=y) e a b c g,λf V t y a=>qj3 (V:=V) (t:=t) (y:=y) (dd:=d) a f,λ_ _ _ _=>b⟩
def Zs:(#[Value.int Y 0,C Y 0,C Y 0,C Y 0]).all (·.oneCell')=AP:=BK
def SK{R:Cy}:(CI R).all (·.oneCell')=AP:=Bw
def mH{R S:Cy}:(CI R).size=(CI S).size:=rfl
theorem q9b{g:Gt}(b:g.e.size=40)(a:A7 V L (Di g fed cl) 135):∀(j:I) (u:Aq),g.e[j]?=H u->A6 V L (4+j) u:=by intro j u c;refine(Cc a<|4+j).trans ?_;grind [Di]
theorem mI{cs':A3}(h:Cn W base v l)(j:A7 W N cs 82):Cn (AD W N cs') base v l:=by
 refine⟨⟨h.1.1,?_⟩,B2 h.2.1,h.2.2⟩;rcases h.1.2 with a|⟨g,b,c,a,d,i,f⟩
 .exact AF a
 refine AG ⟨g,b,c,a,d,(Do _ _ _ _ λe=>?_).trans i,f⟩;grind
def q7e{g:Gt}(a:g.e.size=40):(prog.info? 132).map (·.size)=H g.e.size:=by rw[a];kernel_rfl
theorem qsI(X:I->Prop){W:Ap}{g:Gt}(a7:g.e.size=40)(hg:A7 W L (Di g fed cl) 135)(t:AN)(y:Aq){R:Cy}{bc:I}(a6:g.d=G ba (K B) bc)(az:mw g.out B)(wp:mF g.out k d)(hI:∀V,Eh X W V->G3 V ba B)(hT:∀V,Eh X W V->Jq (O<|U V) V)(cR:∀v,A0 W v->Ar As 107 #[.agg g.e,Ai t y] v (Zr X (O<|U W) k v R d)):Ar As 76 #[A8 L,Ai t y] W<|mE X W R<|LJ g.out k d B:=by
 have hL:=Cd hg;have F:=T a7;have a0:Ar As 107 #[.agg g.e,Ai t y] (Az W<|M #[C Y 0,C Y 0,C Y 0,C Y 0] 82) λe V'=>∃q r,e=Ak (Af #[Ai q r,.agg<|CI R])/\D (SJ X W L (Di g fed cl) (O<|U V') k R q r d<|Az V'<|M (CI R) 82):=(cR _ Cm).mono (by rintro e V' ⟨q,r,rfl,h1,h2⟩;grind [q8t]);have HI:=T hI;have HT:=T hT;have ap:=T az;have ac:=T wp;have af:=T a6;have av:D<|(Az W<|M #[C Y 0,C Y 0,C Y 0,C Y 0] 82).heap[L]?=H (M (Di g fed cl) 135):=(CB W _ _ hL).trans hg;go_enter func76,ntmps76
 go_wp2_with(first
  |(refine QH (.tmp 16) Z Z Z (q9b F av) underlying132 Z (q7e F) ?_)
  |fail)
 refine a0.mono ?_;rintro e z ⟨q,r,rfl,b⟩;obtain⟨i,aw⟩:=CC<|Az z<|M (CI R) 82;obtain⟨o,s⟩:=CC<|O<|U z;rw[AE aw,AE s]at b;have ah:D<|(Az z<|M #[C Y 0,C Y 0,C Y 0,C Y 0] 82).heap[o]?=H (M (CI (0,0,0,0)) 82):=by show _=_;rw[<-AE s];exact Cj z
 have aj:D<|(Az z<|M #[C Y 0,C Y 0,C Y 0,C Y 0] 82).setRow o (CI R)=i:=by grind [D,World.setRow_alloc_new]
 have c1:A6 i L 1<|C Y g.out:=(Cc b.b 1).trans<|QQ 1 E;by_cases x:g.out=1/\F7 k d=AP
 .have u:D<|LJ g.out k d B=.error 13:=mB x;have P:=ac.f x.2 i q r b.c;rw[x.1]at c1
  go_wp2_with(first
   |(refine D8 Z 82 _ _ Z o (CI R) (congrArg (λn=>Value.pointer<|Aa n) s) Z 82 _ ah (Fh) Z (SK) ?_;rw[AE aj])
   |(go_at_call 44;refine P.mono ?_;rintro e j ⟨rfl,ad⟩;have h:=T<|b.a0 ad)
   |(refine D8 Z 82 _ _ Z (O<|U W) #[C Y 0,C Y 0,C Y 0,C Y 0] Z Z 82 _ h.a Nn Z Zs ?_))
  refine CS (Zo results76 Z (CR _ _ _ _ _ _ h.a) underlying82 Z Nn Z Z) Z ?_;rw[AE u];exact⟨Ao,0,0,Z,h.fr.set (Cr _) _,Z⟩
 have ai:=T x;have ag:=T<|ac.len _ _ _ b.c;have P:=ac.ok i q r b.c (λv hU=>HT.out v<|b.fr.trans<|Eh.of_below hU) x;obtain⟨ys,HY⟩:=CC<|Fs g.out k d;rw[AE HY]at ag P;obtain⟨fr,aa⟩:=CC<|IZ g.out ys B
 go_wp2_with(first
  |(refine D8 Z 82 _ _ Z o (CI R) (congrArg (λn=>Value.pointer<|Aa n) s) Z 82 _ ah (Fh) Z (SK) ?_;rw[AE aj])
  |(go_at_call 44;refine P.mono ?_;rintro e j ⟨v3,rfl,al,ad⟩;obtain⟨a3,n3,k3,rfl⟩:=al.2.2;have ao:=T ad;have aq:=T al))
 have ae:D<|A0 i ({j with drawn:=j.drawn+1}:Ap):=ao.drew;have A:D<|Cn ({j with drawn:=j.drawn+1}:Ap) (O<|U i) (G a3 n3 k3) ys:=AE aq;have h:=T<|b.a0 ae;refine Dl (S:=λa=>A6 a L 1 (C Y g.out)/\A6 a L 44 (G ba (K B) bc)) (⟨(Cc h.b 1).trans<|QQ 1 E,((Cc h.b 44).trans<|LI F 0).trans<|congrArg H af⟩) B6 ?_;intro f;generalize({j with drawn:=j.drawn+1}:Ap)=w5 at *;have cF:=ap.out w5 (O<|U i) (G a3 n3 k3) ys ba bc A (HI w5 h.fr) ag;rw[AE aa]at cF;refine Cb 0 36 (A8 L) f <| Cb 1 37 (A8 L) f <| Cb 2 38 (A9 L 1) f <| Ch 3 39 (C Y g.out) Z (λa w=>by have z1:=w.1;go_simp) f <| Cb 4 40 (G a3 n3 k3) f <| Cb 5 41 (A8 L) f <| Cb 6 42 (A8 L) f <| Cb 7 43 (A9 L 44) f <| Ch 8 44 (G ba (K B) bc) rfl (λa w=>by have z1:=w.2;go_simp) f <| CH 9 λay hK=>?_;go_simp;refine cF.mono ?_;rintro e m ⟨⟨v4,rfl,a1,a2⟩,a5⟩;have c:=T<|b.a0<|ae.trans a5;have ax:=T b.fr.b.size;have p:(λa:Ap=>A6 a L 1 (C Y g.out)/\A6 a L 44 (G ba (K B) bc)) m:=⟨(Cc c.b 1).trans<|QQ 1 E,((Cc c.b 44).trans<|LI F 0).trans<|congrArg H af⟩
 simp only[];refine hK.out _ _ p λ_=>?_;refine Cb 10 35 (Af #[v4,Ah fr.isSome]) p <| Cb 11 46 v4 p <| Cb 12 47 (Ah fr.isSome) p <| Cb 13 11 v4 p <| Cb 14 12 (Ah fr.isSome) p <| CK ?_;go_simp;obtain _|an:=fr
 .have u:=T (mC ai<|by rw[AE HY];exact aa);obtain rfl:=a1 rfl;simp only[VP]
  go_wp2_with(first
   |(refine D8 Z 82 _ _ Z (O<|U W) #[C Y 0,C Y 0,C Y 0,C Y 0] Z Z 82 _ c.a Nn Z Zs ?_))
  refine CS (Zo results76 Z (CR _ _ _ _ _ _ c.a) underlying82 Z Nn Z Z) Z ?_;rw[AE u];exact⟨Ao,0,0,Z,c.fr.set (Cr _) _,Z⟩
 have u:=T (mD ai<|by rw[AE HY];exact aa);have A:=T<|a2 an Z;obtain⟨N,n4,l,rfl⟩:=A.2.2;simp only[ak]
 go_wp2_with fail
 refine Dl (S:=λa=>A7 a o (CI R) 82) (c.e) B6 ?_;intro Q;have au:=T c.fr.drew;have ab:D<|({m with drawn:=m.drawn+1}:Ap).heap[O<|U W]?=H (M (CI (0,0,0,0)) 82):=c.a;have ar:D<|Cn {m with drawn:=m.drawn+1} (O<|U W) (G N n4 l) an:=(A).mono ax;have a8:=c.lt;generalize({m with drawn:=m.drawn+1}:Ap)=w6 at *;refine Cb 0 51 (G N n4 l) Q <| Ch 1 52 (.agg<|CI R) Z (λa w=>by exact KS (.tmp 8) B6 (congrArg (λn=>Value.pointer<|Aa n) s) w underlying82 B6<|Fh) Q <| Cb 2 4 (G N n4 l) Q <| CH 3 λay hK=>?_;refine Kr B6 ?_;refine Je 82 (.tmp 5) (.tmp 52) Z (O<|U W) (CI R) B6 B6 82 (CI (0,0,0,0)) ab (Fh) (mH) (SK) ?_;have am:(λa:Ap=>A7 a o (CI R) 82)<|AD w6 (O<|U W)<|CI R:=sx E Q;refine hK.out _ _ am λ_=>?_;refine Cb 4 6 (C Y 0) am <| CK ?_;go_simp
 go_wp2_with fail
 refine CS (Zo results76 Z (CR _ _ _ _ _ _ ab) underlying82 Z (Fh) Z Z) Z ?_;rw[AE u];exact⟨N,n4,l,Z,au.set (Cr _) _,mI ar ab⟩
theorem mL{f:A2->Cy->Option (AM Unit)×Cy}{d':A2}:∀(ds:AJ<|AM Unit) (acc:AJ<|AM Unit) (R:Cy),d'∈(ds.foldl (λa d=>(a.1++(f d a.2).1.toList,(f d a.2).2)) (acc,R)).1->d'∈acc\/∃d∈ds,∃b,(f d b).1=H d'
 |[],_,_,h=>AF h
 |d::ds,acc,R,h=>by rcases mL ds _ _ h with h|⟨x,c,h⟩<;>grind
theorem mM{f:A1->A2->Cy->Option (AM Unit)×Cy}{e':Lit×AM Unit}:∀(es:AJ<|Lit×AM Unit) (acc:AJ<|Lit×AM Unit) (R:Cy),e'∈(es.foldl (λa e=>(a.1++((f (D9 e.1) e.2 a.2).1.map λd=>(e.1,d)).toList,(f (D9 e.1) e.2 a.2).2)) (acc,R)).1->e'∈acc\/∃e∈es,e'.1=e.1/\∃b,(f (D9 e.1) e.2 b).1=H e'.2
 |[],_,_,h=>AF h
 |e::es,acc,R,h=>by
  rcases mM es _ _ h with h|⟨x,c,h⟩
  .rcases Ra.1 h with h|h
   .exact AF h
   refine AG ⟨e,Mm ..,?_⟩;simp at h;grind
  grind
def mN:∀l:A1,(l.map λb=>[b]).flatten=l
 |[]=>rfl
 |b::l=>by rw[I7,am,mN l];rfl
theorem mO:∀{l:A1},(∀b∈l,b.toNat<128)->FK l:=λ{l} h=>⟨l.map λb=>[b],λw d=>(by obtain⟨b,c,rfl⟩:=Kw.1 d;have:=h b c;exact Y6 (a:=[]) Z<|by grind [WF,Dh]),(mN l).symm⟩
theorem q46(x:I):(Ep x).toNat<128:=by
 unfold Ep;by_cases h:x<16
 .have:∀x,x<16->(([48,49,50,51,52,53,54,55,56,57,97,98,99,100,101,102]:A1).getD x 0).toNat<128:=B8;exact this x h
 simp_all
theorem q5a{key:J}:∀b∈JW key label l,b.toNat<128:=by
 have h:∀u,∀b∈hxL u,b.toNat<128:=λu=>by induction u using Nat.strongRecOn<;>grind [So,q46,UB]
 intro b a;rcases Ra.1 a with a|a
 .simp_all
 exact h _ b a
theorem Zx(c:Rv):∀(k:I) (p:AJ<|A1×AK) (d:A2) (R:Cy) (d':A2),F8 k d->(D6 c k p d R).1=H d'->F8 k d'
 |0,_,_,_,_,_,_=>trivial
 |k+1,p,d,R,d',h,e=>by
  rw[D6]at e;split at e
  .cases e
   cases d with
   |agg ds =>
    intro x a;rcases mL ds [] _ a with a|⟨y,b,g,a⟩
    .cases a
    exact Zx c k _ y g x (h y b) a
   |map es =>
    intro x a;rcases mM (f:=λkey=>D6 c k ((key,AQ)::p)) es [] _ a with a|⟨y,b,i,g,a⟩
    .cases a
    rw[i];exact⟨(h y b).1,Zx c k _ y.2 g x.2 (h y b).2 a⟩
   |_=>exact h
  split at e
  .cases e;exact mO B8
  split at e
  .cases e;exact mO q5a
  cases e
theorem Zy{c:Rv}{R:Cy}(h:F8 k d):F8 k<|(D6 c k [] d R).1.getD .nil:=by
 rcases e:(D6 c k [] d R).1 with _|a
 .cases k<;>trivial
 grind [Zx]
def Gw:Gt:=⟨0,0,0,0,Dp 0 (λ_ _=>AQ)++#[Ab Al 0,Ab Al 0,Ad Ao],Ac Ao 0 0⟩
theorem Vv:Gw.e.size=40:=B6
theorem Zz{g:Gt}(a:g.e.size=40):(Di g fed cl).size=47:=by unfold Di;simp[a]
def qqh(a:o.op=.alloc 135):(execOp ρ o).run As w=.ok (.value<|A8<|O<|U w) (Az w<|M (Di Gw (G Ao 0 0) AQ) 135):=BL
def mP{a:Act}(e:o.guard=Ao)(f:o.op=.alloc 135){d:Option Tmp}(c:o.dst=d)(N:I)(b:O (U w)=N)(h:wpList As ops Q rest (a.put d<|A8 N)<|Az w<|M (Di Gw (G Ao 0 0) AQ) 135):wpList As ops Q (o::rest) a w:=by subst b;exact R7 e d c _ _ (qqh f) h
def qx0:prog.built 135 [(6,Ah AP)]=H (Di Gw (G Ao 0 0) AP):=B6
def QR(h:A.size=47):(prog.info? 135).map (·.size)=H A.size:=ke1
abbrev Cz:=AS (AI×AI) (Cy×AS AI A1)
def QS(z:Cz):Cy:=match z with
 |.ok (R,r)=>Zp R r
 |.error _=>(0,0,0,0)
def PG(z:Cz):AI:=match z with
 |.ok (_,r)=>Zq r
 |.error (en,_)=>en
def QT(z:Cz):AI:=match z with
 |.ok _=>0
 |.error (_,pl)=>pl
def Vw(V:Ap)(base:AH)(v:Aq)(z:Cz):Prop:=match z with
 |.ok (_,r)=>Ol V base v r
 |.error _=>v=Ac Ao 0 0
def GR(W:Ap)(L:AH)(g:Gt)(fv:Aq):Ap:=(Az (Az W<|Aj #[Ab Al 0,Ab Al 0,Ab Al 0,Ab Al 0] 82)<|Aj (Di g fv AQ) 135).setRow L<|Di Gw (Ac Ao 0 0) AP
structure On(X:AH->Prop)(L:AH)(W V:Ap):Prop where
 a:V.os=W.os/\V.tape=W.tape/\V.output=W.output
 size:Au (Av W)<=Au (Av V)
 b:∀(k:AH) (cs:A3) (t:AN) (fr:AH×AH),k≠L->W.heap[k]?=An (Aj cs t fr)->t≠187->t≠203->t≠264->V.heap[k]?=An (Aj cs t fr)
 block:∀j,j<Au (Av W)->j≠L->X j->V.heap[j]?=W.heap[j]?
def On.set{X:I->Prop}{W V:Ap}(h:On X L W V)(f:O (U W)<=g)(cs:A3):On X L W (AD V g cs) :=
 ⟨h.a,B2 h.size,λk cs t fr a b c d e=>Ca (Do _ _ _ _<|AY<|Cd b)<|h.b k cs t fr a b c d e,λj a b c=>sx E<|h.block j a b c⟩
def q7S(X:AH->Prop)(W:Ap)(L:AH)(z:Cz)(e:Ending)(V':Ap):Prop :=
 ∃va vn vc,e=Ak (Af #[Ac va vn vc,.agg<|CI<|QS z,Ab Al<|PG z,Ab Al<|QT z])/\On X L W V'/\V'.heap[L]?=An (Aj (Di Gw (Ac Ao 0 0) AP) 135)/\Vw V' (Au<|Av W) (Ac va vn vc) z
def Vx{g:Gt}(a:Aq):O (U<|GR W L g a)=O (U W)+2:=by simp[GR]
def q5i{g:Gt}(a:L<O (U W)):(GR W L g fv).heap[O<|U W]?=H (M (CI (0,0,0,0)) 82):=sx E<|Ca (CB _ _ _ Ba)<|Cj W
def mQ{g:Gt}(a:Aq)(b:L<O (U W)):(GR W L g a).heap[O (U W)+1]?=H (M (Di g a AQ) 135):=by have h:=Cj (Az W<|M #[C Y 0,C Y 0,C Y 0,C Y 0] 82) (o:=(M (Di g a AQ) 135));rw[CL]at h;exact sx E h
def qyV{g:Gt}(a:A7 W L (Di g fv AQ) 135):(GR W L g fv).heap[L]?=H (M (Di Gw (G Ao 0 0) AP) 135):=by have b:=Cd a;exact CR _ _ _ _ _ _<|Ca (CB _ _ _ kfD)<|Ca (CB _ _ _ b) a
def ZA{g:Gt}(a:j<O (U W))(b:j≠L):(GR W L g fv).heap[j]?=W.heap[j]?:=Ca (Do _ _ _ _ b)<|Ca (CB _ _ _ kfD)<|CB _ _ _ a
def qvH{g:Gt}:(GR W L g fv).os=W.os/\(GR W L g fv).tape=W.tape/\(GR W L g fv).output=W.output:=⟨rfl,rfl,rfl⟩
def On.of{X:I->Prop}{W:Ap}{g:Gt}{V:Ap}(h:Eh X (GR W L g fv) V):On X L W V:=by
 have i:=h.b.size;rw[Vx]at i;refine⟨h.a,E,λk cs t fr a b c d e=>?_,λj a b c=>?_⟩
 .have f:=Cd b;exact h.b.aq k cs t fr (Ca (ZA f a) b) c d e
 exact Ca (h.block j (by rw[Vx];omega) c)<|ZA a b
structure mR(X:AH->Prop)(W W3:Ap)(L N11:AH)(R:Cy)(v:Aq)(r:AS AI A1)(V:Ap):Prop where
 fr:Eh X W3 V
 a:V.heap[Au (Av W)]?=An (Aj (CI (0,0,0,0)) 82)
 e:V.heap[N11]?=An (Aj (CI R) 82)
 lt:Au (Av W)<N11
 b:V.heap[L]?=An (Aj (Di Gw (Ac Ao 0 0) AP) 135)
 val:Ol V (Au (Av W)) v r
theorem Ol.same{b:I}{r:AS J A1}(h:Ol V b v r)(a:∀l,Cn V b v l->Cn V' b' v l):Ol V' b' v r:=by
 obtain e|l:=r
 .exact h
 exact a l h
def q8I{X:I->Prop}{W W3 U V':Ap}{R:Cy}{r:AS J A1}(e:O (Av W)<O (Av U))(b:Eh X W3 U)(hF:Eh X U V')(c:A7 U (O<|Av W) (CI (0,0,0,0)) 82)(a:A7 U L (Di Gw (G Ao 0 0) AP) 135)(d:Ol V' (O<|Av U) v r):mR X W W3 L (O<|Av V') R v r<|Az V'<|M (CI R) 82:=by have f:=hF.b.size;exact⟨(b.trans hF).alloc _,Ca (CB _ _ _ E)<|hF.b.aq _ _ _ _ c B8 B8 B8,Cj V',E,Ca (CB _ _ _<|AY<|Cd a)<|hF.b.aq _ _ _ _ a B8 B8 B8,d.same λl h=>ML (h.mono E) Cm⟩
theorem qta(X:I->Prop)(k:I){W:Ap}{g:Gt}(ad:g.e.size=40)(a1:(Di g (G fa fn fc) AQ).all (·.oneCell')=AP)(j:A7 W L (Di g (G fa fn fc) AQ) 135)(an:∀P pl,r=.error (P,pl)->P≠0)(z:Cz)(cD:∀n,Below (O<|U<|GR W L g<|G fa fn fc) (GR W L g<|G fa fn fc) n->Ar As 43 #[C Y g.a,Ag #[C Y g.b,C Y g.bytes],G fa fn fc] n (KI k n r))(hz:∀e,r=.error e->z=.error e)(F:∀ac,r=.ok ac->∃ab o,z=.ok (ab,o)/\∀V ae af,Below (O<|U<|GR W L g<|G fa fn fc) (GR W L g<|G fa fn fc) V->CA k V (λa2=>O (U<|GR W L g<|G fa fn fc)<=a2/\a2<O (U V)) (Ai ae af) ac->∀n,A0 V n->Ar As 76 #[A8<|O (U W)+1,Ai ae af] n (mE X n ab o)):Ar As 38 #[A8 L] W<|q7S X W L z:=by
 have hL:=Cd j;have ax:(Az W<|M #[C Y 0,C Y 0,C Y 0,C Y 0] 82).cell? ⟨L,46,Ao⟩=H (Ah AQ):=(Cc ((CB _ _ _ hL).trans j) 46).trans<|LI ad 2;have p:D<|(Az W<|M #[C Y 0,C Y 0,C Y 0,C Y 0] 82).heap[L]?=H (M (Di g (G fa fn fc) AQ) 135):=(CB _ _ _ hL).trans j;have v:D<|(Az (Az W<|M #[C Y 0,C Y 0,C Y 0,C Y 0] 82)<|M (Di g (G fa fn fc) AQ) 135).heap[L]?=H (M (Di g (G fa fn fc) AQ) 135):=(CB _ _ _<|by grind [D]).trans p;have aa:D<|(Az (Az W<|M #[C Y 0,C Y 0,C Y 0,C Y 0] 82)<|M (Di Gw (G Ao 0 0) AQ) 135).heap[O (U W)+1]?=H (M (Di Gw (G Ao 0 0) AQ) 135):=by grind [D,Cj,World.size_alloc]
 have B:D<|(Az (Az W<|M #[C Y 0,C Y 0,C Y 0,C Y 0] 82)<|M (Di Gw (G Ao 0 0) AQ) 135).setRow (O (U W)+1) (Di g (G fa fn fc) AQ)=Az (Az W<|M #[C Y 0,C Y 0,C Y 0,C Y 0] 82) (M (Di g (G fa fn fc) AQ) 135):=by grind [D,World.setRow_alloc_new,World.size_alloc]
 have x:D<|(Di g (G fa fn fc) AQ).size=47:=Zz ad;have al:D<|(Di Gw (G Ao 0 0) AP).size=47:=Zz Vv;have A:D<|(Di Gw (G Ao 0 0) AQ).size=(Di g (G fa fn fc) AQ).size:=by grind [Zz,Vv]
 have q:D<|(Di g (G fa fn fc) AQ).size=(Di Gw (G Ao 0 0) AP).size:=by grind [D]
 have ai:=T a1;have aj:D ((Di Gw (G Ao 0 0) AP).all (·.oneCell')=AP):=by show _=_;kernel_rfl
 have m:D<|GR W L g (G fa fn fc)=(Az (Az W<|M #[C Y 0,C Y 0,C Y 0,C Y 0] 82)<|M (Di g (G fa fn fc) AQ) 135).setRow L (Di Gw (G Ao 0 0) AP):=rfl;have l:D<|(GR W L g<|G fa fn fc).heap[O<|U W]?=H (M (CI (0,0,0,0)) 82):=q5i hL;have f:=T<|qyV j;have a5:D<|O (U<|GR W L g<|G fa fn fc)=O (U W)+2:=Vx _;have N:=my ad (mQ _ hL) cD;have HP:=T F;clear j ad cD F a1;have ag:=T qx0;obtain⟨W3,aw⟩:=CC<|GR W L g<|G fa fn fc;have ah:D (∀V,Eh X (GR W L g<|G fa fn fc) V->On X L W V):=λV h=>On.of h;rw[AE aw]at m l f a5 N HP ah;clear aw;have bc:L≠O (U W):=E;obtain⟨GA,a3⟩:=CC<|Di g (G fa fn fc) AQ;obtain⟨GZ,aq⟩:=CC<|Di Gw (G Ao 0 0) AP;rw[AE a3]at p v B x A q ai m;rw[AE aq]at m f al q aj ag;rcases r with⟨P,pl⟩|ac
 .obtain rfl:=hz _ rfl;have a9:=an P pl Z;have e2:(P != 0)=AP:=by simpa using a9
  clear hz an HP;go_enter func38,ntmps38
  go_wp2_with(first
   |(refine CO Z 135 _ Z L Z _ _ _ _ p underlying135 Z (QR x) ?_)
   |(refine mP Z Z Z (O (U W)+1) ?hN ?_;case hN=>grind [World.size_alloc])
   |(refine D8 Z 135 _ _ Z (O (U W)+1) GA Z Z 135 _ aa (QR x) A ai ?_;rw[AE B];clear aa B)
   |(refine Jg Z Z Z ?hl ag ?_;case hl=>simp[go_sem])
   |(refine D8 Z 135 _ _ Z L GZ Z Z 135 _ v (QR al) q aj ?_;rw[<-AE m];clear ax p v A q m)
   |(go_at_call 75;refine N.mono ?_;clear N;rintro e u ⟨c,hF⟩;obtain rfl:=hF;have R:D<|Eh X W3 u:=Eh.of_below c;have w:=T<|(c.block _<|Cd l).trans l;have ap:=T<|(c.block _<|Cd f).trans f;clear c l f)
   |(refine D8 Z 82 _ _ Z (O<|U W) #[C Y 0,C Y 0,C Y 0,C Y 0] Z Z 82 _ w Nn Z Zs ?_))
  refine CS (Ok results38 Z (CR _ _ _ _ _ _ w) underlying82 Z Nn Z Z Z) Z ?_;exact⟨Ao,0,0,Z,(ah _ R).set (Cr _) _,by grind [D,setRow_other],Z⟩
 obtain⟨ab,o,rfl,az⟩:=HP.out ac rfl;have ar:=T az;clear hz an HP az;obtain⟨a,au⟩:=CC<|Zp ab o;obtain⟨E1,ao⟩:=CC<|Zq o;go_enter func38,ntmps38
 go_wp2_with(first
  |(refine CO Z 135 _ Z L Z _ _ _ _ p underlying135 Z (QR x) ?_)
  |(refine mP Z Z Z (O (U W)+1) ?hN ?_;case hN=>grind [World.size_alloc])
  |(refine D8 Z 135 _ _ Z (O (U W)+1) GA Z Z 135 _ aa (QR x) A ai ?_;rw[AE B];clear aa B)
  |(refine Jg Z Z Z ?hl ag ?_;case hl=>simp[go_sem])
  |(refine D8 Z 135 _ _ Z L GZ Z Z 135 _ v (QR al) q aj ?_;rw[<-AE m];clear ax p v A q m)
  |(go_at_call 75;refine N.mono ?_;clear N;rintro e u ⟨c,hF⟩;obtain⟨ae,af,rfl,hT⟩:=hF;have F:=ar.out u ae af c hT u CT;have R:D<|Eh X W3 u:=Eh.of_below c;have w:=T<|(c.block _<|Cd l).trans l;have ap:=T<|(c.block _<|Cd f).trans f;have av:D<|O (U W)<O (U u):=by{grind [D]};clear c l f ar hT)
  |(go_at_call 76;refine F.mono ?_;clear F;rintro e b ⟨d,y,t,rfl,ay,a0⟩;have i:D<|mR X W W3 L (O<|U b) a (G d y t) o<|Az b<|M (CI a) 82:=q8I av R ay w (by grind [D]) a0;clear ay a0 R w ap av;rw[AE au,AE ao])
  |(refine D8 Z 82 _ _ Z (O<|U b) (CI a) Z Z 82 _ (Cj b) (Fh) Z (SK) ?_;rw[Gd]))
 have Q:(λs:Ap=>A7 s (O<|U b) (CI a) 82) { (Az b<|M (CI a) 82)with drawn:=(Az b<|M (CI a) 82).drawn+1}:=i.e;refine Ei (S:=λs=>A7 s (O<|U b) (CI a) 82) B6 ?_;have a4:D<|Eh X W3 { (Az b<|M (CI a) 82)with drawn:=(Az b<|M (CI a) 82).drawn+1}:=i.fr.drew;have ak:D<|({ (Az b<|M (CI a) 82)with drawn:=(Az b<|M (CI a) 82).drawn+1}:Ap).heap[O<|U W]?=H (M (CI (0,0,0,0)) 82):=i.a;have ba:D<|({ (Az b<|M (CI a) 82)with drawn:=(Az b<|M (CI a) 82).drawn+1}:Ap).heap[L]?=H (M GZ 135):=by show _=_;rw[<-AE aq];exact i.b
 have a6:D<|Ol { (Az b<|M (CI a) 82)with drawn:=(Az b<|M (CI a) 82).drawn+1} (O<|U W) (G d y t) o:=i.val.same λ_ h=>h;have bd:=i.lt;clear i;generalize({ (Az b<|M (CI a) 82)with drawn:=(Az b<|M (CI a) 82).drawn+1}:Ap)=w6 at *;generalize O (U b)=N8 at *;refine Cb 0 39 (G d y t) Q <| Ch 1 40 (.agg<|CI a) Z (λs hZ=>by exact KS (.tmp 11) B6 B6 hZ underlying82 B6<|Fh) Q <| Cb 2 41 (C Y E1) Q <| Cb 3 2 (G d y t) Q <| CH 4 λbb hK=>?_;refine Kr B6 ?_;refine Je 82 (.tmp 3) (.tmp 40) Z (O<|U W) (CI a) B6 B6 82 (CI (0,0,0,0)) ak (Fh) (mH) (SK) ?_;have am:(λs:Ap=>A7 s N8 (CI a) 82)<|AD w6 (O<|U W)<|CI a:=sx E Q;refine hK.out _ _ am λ_=>?_;clear hK;refine Cb 5 4 (C Y E1) am <| Cb 6 5 (C Y 0) am <| CK ?_;go_simp
 go_wp2_with fail
 refine CS (Ok results38 Z (CR _ _ _ _ _ _ ak) underlying82 Z (Fh) Z Z Z) Z ?_;have a8:=AE au;have a7:=AE ao;subst a8;subst a7;exact⟨d,y,t,Z,(ah _ a4).set (Cr _) _,by grind [D,setRow_other],a6.same λ_ h=>mI h ak⟩
end
end Go.Proofs.YtaehkdnabiccnaaGreatDoor


