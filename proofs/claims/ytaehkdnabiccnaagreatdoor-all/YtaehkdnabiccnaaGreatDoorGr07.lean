import Derived.ProofKit
import Derived.OpenShut
import Derived.Deep.Slices
import Derived.Lib.LaidU8T
import Derived.PinnedBridge
import Derived.Test.YtaehkdnabiccnaaGreatDoorCards
import Derived.LaidOnce
import Derived.SevenTiedAt
import Derived.Deep.DeepHandedRow
import Derived.Test.YtaehkdnabiccnaaGreatDoorGr04
import Derived.Test.YtaehkdnabiccnaaGreatDoorGr02
set_option maxRecDepth 100000
set_option maxHeartbeats 8000000
set_option linter.all false
namespace Go.Proofs.YtaehkdnabiccnaaGreatDoor
open Go.Proofs.Tryz
open _root_ renaming Nat->I,Int->J,Nat->AH,Int->AI,List->AJ,Bool->AK,Except->AS,ByteArray->AT,UInt8->AU
open Go.Value renaming int->C,slice->G,int->Ab,slice->Ac,string->Ae,tuple->Af,agg->Ag,bool->Ah,iface->Ai,ownBlock->Ax
open Go.World renaming heap->U,setCell->AB,cell?->AC,alloc->Az
open _root_.Array renaming size->O
open _root_.List renaming length->K,replicate->AV,length->At,toArray->Aw
open Go.IntKind renaming i64->Y,u8->Am
open Go.RowKit renaming Hid->D
open Go renaming World->X,DataW->AM,TypeId->AN,World->Ap,Value->Aq,Calls->Ar
open Option renaming some->H,some->An,none->Ao
open Go.Obj renaming cells->M
open Go.Ending renaming returned->Ak
open Go.Proofs.Tryz renaming prog->As
open Go.RowKit.Hid renaming out->AE
open Or renaming inl->AF,inr->AG
open _root_.Bool renaming true->AP,false->AQ
open _root_.Decidable renaming decide->AR
variable{P:Program}{V V' W w:X}{a:A4}{N base c cap fuel i j k m n p q r:I}{kv u v v' x:Aq}{cs xs:AJ Aq}{f:A2->A1}{bs cur h0 l t tl ys:A1}{depth fm lim pl z:J}{e:AN}{sp:I->AK}{b held:AK}{F:I->Prop}{ds:AJ (AM Unit)}{s:AT}{A:A3}{es:AJ (Lit×AM Unit)}{d:A2}{o:Obj}{Q:Exit->Act->X->Prop}{rd rd':I->AS (J×J) (AM Unit×I)}
section
open Go.RowKit Go.Deep Go.Shelf Go.Lib Go.ChangeShapes Go.WideShapes Go.ChangeAt
structure Q0(w:Ap)(a:A4)(n:AH)(h:AH->FR):Prop where
 aq:∀k,k<n->∃b off,a=An ⟨b,off,Ao⟩/\b<_root_.Array.size (Go.World.heap w)/\∀k j,k<n->j<7->AC w ⟨b,off+k*7+j,Ao⟩=(h k).ad[j]?
 a1:∀k,k<n -> -9223372036854775808<=(h k).a/\(h k).a<=9223372036854775807
def Q0.ac{w':X}{g:I->FR}(h:Q0 w a n g)(hb:A0 w w'):Q0 w' a n g :=
 ⟨λk c=>by obtain⟨b,off,f,d,e⟩:=h.aq k c;exact⟨b,off,f,CQ d hb.size,λk j c i=>Ca (hb.cell (p:=⟨b,_,Ao⟩) d)<|e k j c i⟩,h.a1⟩
theorem II:prog.cellsOf 3=1:=B6
def Th:prog.cellsOf 9=1:=B6
def oY:prog.cellsOf 38=1:=B6
def oZ:prog.cellsOf 25=1:=B6
def p6:prog.cellsOf 32=1:=B6
def bF:prog.cellsOf 40=11:=B6
def bG:prog.cellsOf 34=7:=B6
def p7:prog.cellsOf 119=2:=B6
theorem p8:prog.bytesOf 119=16:=B6
theorem p9:prog.bytesOf 3=8:=B6
def Rl{a:Addr}(h:AC w (a.add 0)=An v):∃b off,a=⟨b,off,Ao⟩/\b<O (U w):=by
 obtain⟨b,off,d⟩:=a;have c:d=Ao:=by simpa[Addr.add]using World.cell?_spot h
 subst c;rw[JB]at h;exact⟨b,off,Z,Fk h⟩
def Q1{α:Type}{l:AJ α}(h:K l=2):∃a b,l=[a,b]:=by
 match l,h with
 |[a,b],_=>exact⟨a,b,rfl⟩
section
variable{H:Type} {enc:TypeId×Aq->H} {w:Ap}
theorem pb{x:AM H×AJ MemPlace}(h:DataW.trod enc As w 0 (λ_=>AP) AP fuel 25 [v]=An x)(F:(x.1.weights As 25).all (·<=reachBytes)=AP):∃(a:A4) (c:I) (B:AJ J),v=G a (K B) c/\G4 w a B/\(a=Ao->K B=0/\c=0)/\(K B+8)*8<=281474976710656:=by
 rcases open_slice1 underlying25 II h with⟨e,_⟩|⟨a,len,c,m,n,V,p,q,e,_,u,A,j,rfl,l⟩
 .cases e;exact⟨Ao,0,[],Z,⟨λi d=>by simp at d⟩,λ_=>⟨Z,Z⟩,B8⟩
 cases e;have g:m=c:=by rw[j];rfl
 subst g;have s:m*8<=reachBytes:=by grind [DataW.weights,underlying25,p9]
 have o:∀i,i<m->∃z:J,V i=C Y z:=λi d=>by grind [DataW.trod_int,underlying3]
 obtain⟨f,r⟩:=choose_lt o;refine⟨An a,m,(List.range len).map f,Ba,⟨λi d=>?_⟩,λk=>(by cases k),?_⟩
 .have t:i<len:=keo;obtain⟨b,off,rfl,y⟩:=Rl (l 0 E).1;grind [JB]
 grind [reachBytes]
theorem Gj{xs:AJ<|AM H×AJ MemPlace}{fs:Array Field}(b:∀(i:I) (f:Field),fs[i]?=An f->DataW.trod enc As w 0 (λ_=>AP) AP n f.type ((cs.drop f.offset).take<|prog.cellsOf f.type)=xs[i]?)(i:I){f:Field}(h:fs[i]?=An f){t:AN}(o:I)(d:f.type=t)(c:f.offset=o)(a:prog.cellsOf t=1)(e:cs[o]?=An v){y:AM H×AJ MemPlace}(hy:xs[i]?=An y):DataW.trod enc As w 0 (λ_=>AP) AP n t [v]=An y:=BT
theorem pd{x:AM H×AJ MemPlace}(h:DataW.trod enc As w 0 (λ_=>AP) AP fuel 38 [v]=An x)(hw:(x.1.weights As 38).all (·<=reachBytes)=AP):∃(a:A4) (d:I) (L:AJ<|J×J),v=G a (K L) d/\G3 w a L/\(a=Ao->K L=0/\d=0)/\(K L+8)*16<=281474976710656:=by
 rcases open_slice underlying38 h with⟨e,_⟩|⟨a,len,d,m,af,aa,Pl,e,_,hl,hm,P,rfl,R⟩
 .cases e;exact⟨Ao,0,[],Z,⟨λi c=>kf2⟩,λ_=>⟨Z,Z⟩,B8⟩
 cases e;have N:m=d:=kfO;subst N;have hb:m*16<=reachBytes:=by grind [DataW.weights,underlying38,p8]
 have W:∀i,i<m->∃z:J×J,AC w (a.add<|i*2)=An (C Y z.1)/\AC w ((a.add<|i*2).add 1)=An (C Y z.2):=λi c=>by
  obtain⟨y,o,A⟩:=R i c;rw[p7]at o;obtain⟨_,F,B⟩:=SQ o;obtain⟨r,n',_,_,_,S,q⟩:=PQ underlying119 A;obtain⟨f,j,rfl⟩:∃f j,y=[f,j]:=by exact Q1 F
  obtain⟨s,t,rfl⟩:∃s t,r=[s,t]:=by have V:K r=2:=S;exact Q1 V
  .have b:=Gj q 0 Z 0 Z Z II Z Z;have g:=Gj q 1 Z 1 Z Z II Z Z;obtain⟨n,k,_⟩:=J1 underlying3 b;obtain⟨z1,l,_⟩:=J1 underlying3 g;simp at k l;subst k l;refine⟨(n,z1),?_,?_⟩
   .have:=B 0 E;grind [add_add]
   grind
 obtain⟨u,p⟩:=choose_lt W;refine⟨An a,m,(List.range len).map u,Ba,⟨λi c=>?_⟩,λQ=>(by cases Q),?_⟩
 .have ad:i<len:=BO;obtain⟨ab,off,rfl,ae⟩:=Rl (by have:=(p 0 E).1;rwa[Rf]at this);have ac:=p i E;grind [JB]
 grind [reachBytes]
theorem NC(h:(Lit.int Y z).wf=AP):-9223372036854775808<=z/\z<=9223372036854775807:=by grind [Lit.wf,IntKind.min,IntKind.max,IntKind.signed,IntKind.bits]
theorem pe{x:AM H×AJ MemPlace}(h:DataW.trod enc As w 0 (λ_=>AP) AP fuel 40 cs=An x)(d:(x.1.weights As 40).all (·<=reachBytes)=AP):∃c:CF,cs=c.ad.toList/\Fa w c/\(∀x∈[c.a,c.c,c.d,c.f,c.out,c.b,c.bytes,c.key],-9223372036854775808<=x/\x<=9223372036854775807)/\c.e.size<=281474976710656:=by
 obtain⟨xs,af,_,rfl,q,ae,a⟩:=PQ underlying40 h;rw[bF]at q
 match cs,q,xs,ae with
 |[v0,v1,v2,v3,v4,v5,v6,v7,v8,v9,v10],_,[y0,y1,y2,y3,y4,y5,y6,y7,y8,y9,y10],_ =>
  simp only[DataW.weights,underlying40,I8,Mw,DataW.weightsEach,ST,Fj]at d;have A:=Gj a 0 Z 0 Z Z II Z Z;have F:=Gj a 1 Z 1 Z Z oY Z Z;have P:=Gj a 2 Z 2 Z Z II Z Z;have Q:=Gj a 3 Z 3 Z Z Th Z Z;have R:=Gj a 4 Z 4 Z Z II Z Z;have S:=Gj a 5 Z 5 Z Z II Z Z;have V:=Gj a 6 Z 6 Z Z II Z Z;have W:=Gj a 7 Z 7 Z Z II Z Z;have n:=Gj a 8 Z 8 Z Z II Z Z;have g9:=Gj a 9 Z 9 Z Z II Z Z;have N:=Gj a 10 Z 10 Z Z oZ Z Z;obtain⟨z0,e,_,w0⟩:=J1 underlying3 A;obtain⟨z2,f,_,w2⟩:=J1 underlying3 P;obtain⟨b,g,x3,_⟩:=SR underlying9 Q;obtain⟨z4,i,_,w4⟩:=J1 underlying3 R;obtain⟨z5,j,_,w5⟩:=J1 underlying3 S;obtain⟨z6,k,_,w6⟩:=J1 underlying3 V;obtain⟨z7,l,_,w7⟩:=J1 underlying3 W;obtain⟨z8,m,_,w8⟩:=J1 underlying3 n;obtain⟨z9,o,_,w9⟩:=J1 underlying3 g9;obtain⟨y,z,L,u,hE,ab,aa⟩:=pd (by simpa using F) d.2.1;obtain⟨s,t,B,v,hI,ad,ac⟩:=pb (by simpa using N) d.2.2.2.2.2.2.2.2.2.2.1;have hp:b.size<=281474976710656:=by have p:=d.2.2.2.1;rw[show y3.1=.lit _ from congrArg _ x3]at p;have h4:=Dr (Hi.1 p (K b.data.toList)<|by grind [DataW.weights]);have h5:reachBytes=140737488351232:=rfl;have h6:K b.data.toList=b.size:=rfl;omega
  simp at e f g i j k l m o;subst e f g i j k l m o u v;refine⟨⟨z0,L,y,z,z2,b,z4,z5,z6,z7,z8,z9,B,s,t⟩,Z,⟨hE,hI,ab,ad,aa,ac⟩,λx r=>?_,hp⟩;simp at r;rcases r with rfl|rfl|rfl|rfl|rfl|rfl|rfl|rfl
  all_goals
   first
   |exact NC w0
   |exact NC w2
   |exact NC w4
   |exact NC w5
   |exact NC w6
   |exact NC w7
   |exact NC w8
   |exact NC w9
end
def bH:CF:=⟨0,[],Ao,0,0,ByteArray.empty,0,0,0,0,0,0,[],Ao,0⟩
def bI:FR:=⟨0,0,0,0,0,ByteArray.empty,Ao,0,0⟩
section
variable{H:Type} {enc:TypeId×Aq->H} {w:Ap}
def bJ{d:AM H}:∀{l:AJ<|AM H},d∈l->∀x,x∈d.weights P e->x∈DataW.weightsAll P e l
 |[],h,_,_=>Bs
 |a::r,h,x,hx=>by
  simp only[DataW.weightsAll,Rb];rcases IA.1 h with rfl|h
  .exact AF hx
  exact AG<|bJ h x hx
theorem pf{x:AM H×AJ MemPlace}(h:DataW.trod enc As w 0 (λ_=>AP) AP fuel 22 [v]=An x)(p:(x.1.weights As 22).all (·<=reachBytes)=AP):∃(a:A4) (n e:I) (g:I->CF),v=G a n e/\OQ w a n g/\n<=maxLen/\∀k,k<n -> -9223372036854775808<=(g k).key/\(g k).key<=9223372036854775807:=by
 rcases open_slice underlying22 h with⟨o,_⟩|⟨a,len,e,m,n,r,R,o,_,V,hm,B,rfl,q⟩
 .cases o;exact⟨Ao,0,0,λ_=>bH,Z,⟨λk d=>E,λk d=>E⟩,Ex _,λk d=>E⟩
 cases o;have A:m=e:=by rw[B];rfl
 subst A;rw[bF]at q;have F:∀i,i<len->((r i).weights As 40).all (·<=reachBytes)=AP:=λi l=>by rw[Hi]at p ⊢;intro y L;refine p y ?_;simp only[DataW.weights,underlying22,IA,Rb];exact AG<|AF<|bJ (Kx.2 ⟨i,Hj.2 l,Z⟩) y L
 have N:∀i,i<len->∃c:CF,(Fa w c /\ -9223372036854775808<=c.key/\c.key<=9223372036854775807)/\∀j,j<11->AC w ((a.add<|i*11).add j)=c.ad[j]?:=λi l=>by obtain⟨S,s,t⟩:=q i E;obtain⟨_,W,u⟩:=SQ s;obtain⟨c,rfl,P,Q,_⟩:=pe t<|F i l;exact⟨c,⟨P,Q c.key Ba⟩,λj z=>Ca (u j z) Ba⟩
 have ih:Inhabited CF:=⟨bH⟩
 obtain⟨g,f⟩:=choose_lt N;refine⟨An a,len,m,g,Z,⟨λk d=>?_,λk d=>(f k d).1.1⟩,E,λk d=>(f k d).1.2⟩;obtain⟨b,off,rfl,aa⟩:=Rl (by have:=(f 0 E).2 0 E;rw[Rf,add_add]at this;exact this);grind [JB]
end
def Tryz.gSignsT:(prog.globals[2]?).map (·.type)=An 326:=B6
def Tryz.x8:U8Extra As Tryz.lays196_ren:=⟨B6,B6,B6,B6,B6,B6,B6⟩
def bK:prog.cellsOf 325=2:=B6
def pg:prog.cellsOf 252=1:=B6
def ph:prog.cellsOf 326=6:=B6
theorem WB{b:A1}{k:J}{p:AJ MemPlace}(h:DataW.trod (λ_=>()) As W 0 sp held fuel 325 cs=An (.agg [.lit<|.string b,.lit<|.int Y k],p)):cs=[Ae ⟨Aw b⟩,C Y k]:=by obtain⟨l,n,_,s,c,i,a⟩:=PQ underlying325 h;rw[bK]at c;have j:K l=2:=i;obtain⟨f,g,rfl⟩:=Q1 c;obtain⟨m,o,rfl⟩:=Q1 j;have d:DataW.trod _ _ W 0 sp held n 9 (([f,g].drop 0).take<|prog.cellsOf 9)=An m:=a 0 _ Z;have e:DataW.trod _ _ W 0 sp held n 252 (([f,g].drop 1).take<|prog.cellsOf 252)=An o:=a 1 _ Z;rw[Th]at d;rw[pg]at e;obtain⟨v,q,t⟩:=SR underlying9 d;obtain⟨w,r,u⟩:=J1 underlying252 e;simp_all
theorem pj{H:Type}{enc:AN×Aq->H}{t:AN}{x:AM H×AJ MemPlace}(a:P.underlying t=An (.array n e))(h:DataW.trod enc P w base sp held fuel t cs=An x):K cs=P.cellsOf t:=by
 obtain _|fuel:=fuel
 .simp[DataW.trod]at h
 simp only[DataW.trod,a]at h;grind
theorem pu(hl:K cs=6){a0 a1 b0 b1 c0 c1:Aq}(a:(cs.drop<|0*2).take 2=[a0,a1])(b:(cs.drop<|1*2).take 2=[b0,b1])(c:(cs.drop<|2*2).take 2=[c0,c1]):cs=[a0,a1,b0,b1,c0,c1]:=by
 match cs,hl with
 |[x0,x1,x2,x3,x4,x5],_ =>
  simp_all
theorem bL(o:laidMetH As Rows.allRow.laid W)(q:W.ShapedOpen As):Ho W:=by
 have c:laidMet As Rows.allRow.laid W:=o;refine⟨?_,?_,Tryz.laysM145.s1_3 W q⟩
 .obtain⟨g,t,cs,k,p,f,y,a,u⟩:=laidMet.reads c (d:=Rows.laid_redact_policy_signs)<|.tail _<|.tail _<|.tail _<|.tail _<|.tail _<|.tail _<|.head _;obtain rfl:g=2:=Fl<|Ca f.symm B6;obtain rfl:=Fl<|Ca Tryz.gSignsT.symm y;have b:DataW.trod (λ_=>()) As W 0 (λ_=>AP) AQ k 326 cs.toList=An (.agg [.agg [.lit<|.string [42],.lit<|.int Y 0],.agg [.lit<|.string [42,42],.lit<|.int Y 1],.agg [.lit<|.string [91,93],.lit<|.int Y 2]],p):=u;obtain⟨F,z,q0,v,l⟩:=array_elem underlying326 b 0 E;obtain⟨f1,A,q1,w,m⟩:=array_elem underlying326 b 1 E;obtain⟨L,B,P,x,n⟩:=array_elem underlying326 b 2 E;cases v;cases w;cases x;have h:=WB l;have i:=WB m;have j:=WB n;rw[bK]at h i j;have r:=Ca (pj underlying326 b) ph;have s:=pu r h i j;unfold World.var? at a;rw[f]at a;simp only[aB]at a;split at a
  .next cs' t fr hh =>
   cases a;refine⟨t,fr,?_⟩;rw[hh];have:cs=[Value.string ⟨[42].toArray⟩,C Y 0,Ae ⟨[42,42].toArray⟩,C Y 1,Ae ⟨[91,93].toArray⟩,C Y 2].toArray:=by rw[<-s]
   rw[this]
  cases a
 refine utf8Tabs_of_readsT (U8Types.of196 Tryz.lays196) Tryz.x8 ?_ ?_
 .rw[<-Pinned.utf8First_eq];exact laidMet.reads c<|.tail _<|.tail _<|.tail _<|.tail _<|.tail _<|.tail _<|.tail _<|.head _
 have e:(Rows.laid_unicode_utf8_acceptRanges:A2)=acceptData:=B6;have N:=laidMet.reads c (d:=Rows.laid_unicode_utf8_acceptRanges)<|.tail _<|.tail _<|.tail _<|.head _;grind
theorem Tryz.a0:ownKnob prog.godebug=Ao:=B6
def Tryz.ac:laidOutB As=AP:=B6
def MB:AH->A2->AJ Aq
 |0,_=>[]
 |_+1,.lit (.int k z)=>[.int k z]
 |_+1,.lit (.string b)=>[Ae ⟨Aw b⟩]
 |n+1,.agg ds=>ds.flatMap<|MB n
 |_+1,_=>[]
def ND(h:Array Obj)(g:AH)(cs:A3):Array Obj:=h.modify g fun
 |.cells _ t frozen=>.cells cs t frozen
 |o=>o
def WC(w0:Ap):Ap :=
 let h0:=ND w0.heap 7<|Aw<|MB 5 Rows.laid_math_bits_deBruijn32tab;let h1:=ND h0 8<|Aw<|MB 5 Rows.laid_math_bits_deBruijn64tab;let h2:=ND h1 6<|Aw<|MB 5 Rows.laid_internal_strconv_uint64pow10;let h3:=ND h2 5<|Aw<|MB 5 Rows.laid_unicode_utf8_acceptRanges;let h4:=ND h3 0<|Aw<|MB 5 Rows.laid_redact_reading_cborSorts;let h5:=ND h4 1<|Aw<|MB 5 Rows.laid_redact_reading_packHeads;let h6:=ND h5 2<|Aw<|MB 5 Rows.laid_redact_policy_signs;let h7:=ND h6 4 (Aw<|MB 5 Rows.laid_unicode_utf8_first)
 {w0 with heap:=h7}
def pv{os:Os}:laidMet As Rows.allRow.laid ((WC<|World.holding As os ⟨#[],#[],[]⟩).forCall (λ_ _=>0) ⟨#[],#[G Ao 0 0,G Ao 0 0],[]⟩).memory :=
 laidMet_of_run' 8 B6 B6
def pW:(prog.globals[0]?).map (·.type)=H 276:=B6
def pX:(prog.globals[1]?).map (·.type)=H 277:=B6
theorem bP:prog.cellsOf 273=1:=B6
def pY:prog.cellsOf 276=8:=B6
def bQ:prog.cellsOf 275=3:=B6
theorem bR:prog.cellsOf 270=1:=B6
def pZ:(Rows.laid_redact_reading_cborSorts:A2)=tabData Y [4,6,7,8,9,10,0,0]:=B6
def q6:(Rows.laid_redact_reading_packHeads:A2)=.agg (NF.map λx=>.agg [.lit<|.int Y x.1,.lit<|.int Y x.2,.lit<|.int .u64 0]):=B6
theorem q7{l:AJ Aq}(h:K l=3):∃a b c,l=[a,b,c]:=by
 match l,h with
 |[a,b,c],_=>grind
theorem q8{α:Type}{l:AJ α}(h:K l=3):∃a b c,l=[a,b,c]:=by
 match l,h with
 |[a,b,c],_=>grind
theorem q9{x y:J}{p:AJ MemPlace}(h:DataW.trod (λ_=>()) As W 0 sp held fuel 275 cs=H (.agg [.lit<|.int Y x,.lit<|.int Y y,.lit<|.int .u64 z],p)):cs=[C Y x,C Y y,C .u64 z]:=by obtain⟨i,n,_,m,e,f,a⟩:=PQ underlying275 h;rw[bQ]at e;have g:K i=3:=f;obtain⟨b,c,d,rfl⟩:=q7 e;obtain⟨j,k,l,rfl⟩:=q8 g;have o:DataW.trod _ _ W 0 sp held n 273 (([b,c,d].drop 0).take<|prog.cellsOf 273)=H j:=a 0 _ Z;have q:DataW.trod _ _ W 0 sp held n 3 (([b,c,d].drop 1).take<|prog.cellsOf 3)=H k:=a 1 _ Z;have r:DataW.trod _ _ W 0 sp held n 270 (([b,c,d].drop 2).take<|prog.cellsOf 270)=H l:=a 2 _ Z;grind [bP,II,bR,DataW.trod_int,underlying273,underlying3,underlying270]
theorem qb{u:I}{a b c:Aq}(h:(cs.drop<|u*3).take 3=[a,b,c]):cs[u*3]?=H a/\cs[u*3+1]?=H b/\cs[u*3+2]?=H c:=by have d:=congrArg (λl=>l[0]?) h;have e:=congrArg (λl=>l[1]?) h;have f:=congrArg (λl=>l[2]?) h;grind
theorem qd(f:laidMet As Rows.allRow.laid W):IK W:=by
 refine⟨?_,?_⟩
 .obtain⟨g,t,cs,k,p,b,c,i,a⟩:=laidMet.reads f (d:=Rows.laid_redact_reading_cborSorts)<|.tail _<|.tail _<|.tail _<|.tail _<|.head _;obtain rfl:g=0:=Fl<|Ca b.symm B6;obtain rfl:=Fl<|Ca pW.symm c;rw[pZ]at a;have n:=cells_of_tab underlying276 underlying273 bP pY a;intro u e;have m:=ZZ b i u;rw[m,<-Oz,n];have:∀v:Fin 8,([4,6,7,8,9,10,0,0]:AJ J)[v.val]?=H ((G6 v.val:I):J):=B8;rw[L9,this ⟨u,e⟩];rfl
 obtain⟨g,t,cs,k,p,b,c,i,a⟩:=laidMet.reads f (d:=Rows.laid_redact_reading_packHeads)<|.tail _<|.tail _<|.tail _<|.tail _<|.tail _<|.head _;obtain rfl:g=1:=Fl<|Ca b.symm B6;obtain rfl:=Fl<|Ca pX.symm c;rw[q6]at a;intro u e;obtain⟨s,r,q0,h,l⟩:=array_elem underlying277 a u e;have w:K NF=32:=rfl;rw[L9,D7 E]at h;cases h;have j:=q9 l;rw[bQ]at j;obtain⟨o,q,c2⟩:=qb j;grind [World.var?_cell]
def fB(pk:AK):FuncId:=bif pk then 115 else 114
def fH(pk:AK):FuncId:=bif pk then 161 else 155
def aH(pk:AK)(v:Aq)(a b s n:AI):A3:=bif pk then#[v,Ab Am a,Ab Am b,Ab .u64 n]else#[v,Ab Am s,Ab .u64 n]
def Uc(pk:AK)(W:Ap)(base:AH)(x:Aq)(ys:A1):Prop:=∀(V:Ap) (v:Aq) (bs:A1),Below base W V->Cn V base v bs->At bs+At ys<=999999999->Ar As (fB pk) #[v,x] V λe W'=>∃v',e=Ak v'/\Cn W' base v' (bs++ys)/\Below base V W'
def vN(W:Ap)(base:AH)(x:Aq)(ys:A1):Prop:=Uc AQ W base x ys
def vO(W:Ap)(base:AH)(x:Aq)(ys:A1):Prop:=Uc AP W base x ys
theorem gQ(l:AK){T:A2->A1}(hF:∀k,F k->k<base){H:A1}(p:∀y,y=v->Ar As (fH l) (aH l y 144 220 4<|K ds) W λe f=>∃m,e=Ak m/\Cn f base m (bs++H)/\Below base W f)(hl:K bs+K (H++ds.flatMap T)<=999999999)(hn:K ds<=999999999)(a:DQ W 89 1 F u (K ds) xs)(ae:∀(i:I) (x:Aq) (d:A2),xs[i]?=An x->ds[i]?=An d->Uc l W base x (T d))(ad:∀(i:I) (x:Aq),xs[i]?=An x->∃ai y,x=Ai ai y)(h:Cn W base v bs):Ar As (fB l) #[v,Ai 221 u] W λe f=>∃m,e=Ak m/\Cn f base m (bs++(H++ds.flatMap T))/\Below base W f:=by
 obtain⟨ho,hb,z,ah,t,rfl⟩:=h;have p:=p (Ac z ah t) Z;obtain⟨q,b,rfl⟩:∃q b,u=Ac q (K ds) b:=by rcases a.2 with⟨e,e2⟩|⟨g,b,aa,e,_⟩<;>grind
 have HU:=C9 a;have HI:=C9 ae;have HL:=C9 hl;have HF:=C9 ad;have ap:=gG q (K ds) b;have aq:=gH q (K ds) b;have ar:=gI q (K ds) b;have au:=gJ q (K ds) b;have av:=U7 q (K ds) b;cases l
 all_goals
  dsimp only[fB,fH,aH,cond]at p ⊢
  first|(go_enter func114,ntmps114)|(go_enter func115,ntmps115)
  go_wp2_with(first
   |((first|go_at_call 155|go_at_call 161);refine Ce p ?_;rintro e w2 ⟨v2,rfl,h2,ab⟩;obtain⟨o2,b2,a2,n2,c2,rfl⟩:=h2;have al:D<|Cn w2 base (Ac a2 n2 c2)<|bs++H:=⟨o2,b2,_,_,_,Z⟩;have ak:=C9 ab))
  go_loopg[0,64,11] (K ds) (λg y aj x wr=>∃(k:I) (s:A4) (B w:I),y=Ac s B w/\aj=C Y k/\D (k+g=K ds)/\D (Cn wr base (Ac s B w)<|(bs++H)++(ds.take k).flatMap T)/\D (Below base W wr))
  grind;obtain⟨k,s,B,w,rfl,rfl,V,L,o⟩:=hrel;obtain _|g:=gk
  .have ag:¬(k:J)<K ds:=AY<|AE V;have N:D<|ds.take k=ds:=by grind [D]
   go_wp2;go_ret;have S:=AE L;rw[AE N,La]at S;exact⟨_,Z,S,o⟩
  have af:k<K ds:=AY<|AE V;have ag:(k:J)<K ds:=E;have r:=HU.same (V':=wr) (G:=F) (λ_ h=>h) λj hj=>Co o j<|hF j hj;obtain⟨q0,rfl⟩:∃q0,q=Aa q0:=by rcases r.2 with⟨_,e⟩|⟨g,an,aa,e,_⟩<;>grind
  have ao:K xs=K ds:=AY r.1;obtain⟨x,A⟩:∃x,xs[k]?=An x:=⟨xs[k],D7 E⟩
  obtain⟨d,hd⟩:∃d,ds[k]?=An d:=⟨ds[k],D7 af⟩
  obtain⟨tx,yx,rfl⟩:=HF.out k x A;have hc:A6 wr q0 k<|Ai tx yx:=by have:=r.cell k _ A;grind [Addr.add]
  have N:D<|(ds.take<|k+1).flatMap T=(ds.take k).flatMap T++T d:=BV;have HB:D<|K ((bs++H)++(ds.take k).flatMap T)+K (T d)<=999999999:=by grind [D,List.take_append_drop]
  have R:=HI.out k _ d A hd wr _ _ o L HB;dsimp only[fB,cond]at R
  go_wp2_with(first
   |((first|go_at_call 114|go_at_call 115);refine Ce R ?_;rintro e w4 ⟨v4,rfl,h4,ac⟩;obtain⟨o4,b4,P,c,Q,rfl⟩:=h4;have am:D<|Cn w4 base (Ac P c Q)<|((bs++H)++(ds.take k).flatMap T)++T d:=⟨o4,b4,_,_,_,Z⟩;have n:=C9<|Cs o ac))
  go_roundg g;exact⟨k+1,P,c,Q,Z,Bb,B9,by grind [D],n⟩;omega
def F7:AH->A2->AK
 |0,_=>AQ
 |k+1,d=>match d with
  |.ptr (.lit<|.string _)=>AP
  |.agg ds=>ds.any<|F7 k
  |.map es=>es.any λe=>F7 k e.2
  |_=>AQ
def vP(b:AK):∀w:X,(Instr.typeAssert (Ai 279<|Ah b) 89 219 AP).run As w=.ok (Af #[G Ao 0 0,Ah AQ]) w:=λw=>B6
def gR:∀w:X,(Instr.typeAssert (Ai 279<|Ah b) 89 221 AP).run As w=.ok (Af #[G Ao 0 0,Ah AQ]) w:=λw=>B6
def gS:∀w:X,(Instr.typeAssert (Ai 279<|Ah b) 89 223 AP).run As w=.ok (Af #[G Ao 0 0,Ah AQ]) w:=λw=>B6
def vQ(z:J):∀w:X,(Instr.typeAssert (Ai 281<|C Y z) 89 219 AP).run As w=.ok (Af #[G Ao 0 0,Ah AQ]) w:=λw=>B6
def gT:∀w:X,(Instr.typeAssert (Ai 281<|C Y z) 89 221 AP).run As w=.ok (Af #[G Ao 0 0,Ah AQ]) w:=λw=>B6
def gU:∀w:X,(Instr.typeAssert (Ai 281<|C Y z) 89 223 AP).run As w=.ok (Af #[G Ao 0 0,Ah AQ]) w:=λw=>B6
def vR(s:AT):∀w:X,(Instr.typeAssert (Ai 283<|.string s) 89 219 AP).run As w=.ok (Af #[G Ao 0 0,Ah AQ]) w:=λw=>B6
def gV:∀w:X,(Instr.typeAssert (Ai 283<|.string s) 89 221 AP).run As w=.ok (Af #[G Ao 0 0,Ah AQ]) w:=λw=>B6
def gW:∀w:X,(Instr.typeAssert (Ai 283<|.string s) 89 223 AP).run As w=.ok (Af #[G Ao 0 0,Ah AQ]) w:=λw=>B6
def vS:Ar As 81 #[Ai 268<|Ag #[]] W λe a=>e=Ak (Ah AQ)/\A0 W a:=by have b:=XT;have c:=S0;have d:=S1;go_enter func81,ntmps81;go_wp2;go_ret;exact⟨Z,Cu _ _⟩
def vT:Ar As 81 #[Ai 279<|Ah b] W λe a=>e=Ak (Ah AQ)/\A0 W a:=by have c:=vP b;have d:=gR (b:=b);have f:=gS (b:=b);go_enter func81,ntmps81;go_wp2;go_ret;exact⟨Z,Cu _ _⟩
def vU:Ar As 81 #[Ai 281<|C Y z] W λe a=>e=Ak (Ah AQ)/\A0 W a:=by have b:=vQ z;have c:=gT (z:=z);have d:=gU (z:=z);go_enter func81,ntmps81;go_wp2;go_ret;exact⟨Z,Cu _ _⟩
def vV:Ar As 81 #[Ai 283<|.string s] W λe a=>e=Ak (Ah AQ)/\A0 W a:=by have b:=vR s;have c:=gV (s:=s);have d:=gW (s:=s);go_enter func81,ntmps81;go_wp2;go_ret;exact⟨Z,Cu _ _⟩
def gX:Ar As 81 #[Ai 219<|G a n c] W λe b=>e=Ak (Ah AP)/\A0 W b:=by have d:=S5 a n c;go_enter func81,ntmps81;go_wp2;go_ret;exact⟨Z,Cu _ _⟩
theorem gY{α:Type}(T:α->AK){l:AJ α}{d:α}(a:l[k]?=H d):(l.take<|k+1).any T=((l.take k).any T||T d):=BV
def Ud{α:Type}(T:α->AK){l:AJ α}{d:α}(a:l[k]?=H d)(h:T d=AP):l.any T=AP:=az.2 ⟨d,VL a,h⟩
def XY(W:Ap)(x:Aq)(r:AK):Prop:=∀V,A0 W V->Ar As 81 #[x] V λe W'=>e=Ak (Ah r)/\A0 V W'
def Ue{A W':X}(a:A0 A V)(b:A0 V W'):A0 A W':=Cs a<|CG b a.size
theorem vW(T:A2->AK)(hF:∀k,F k->k<O (U W))(w:DQ W 89 1 F u (K ds) xs)(V:∀(i:I) (x:Aq) (d:A2),xs[i]?=H x->ds[i]?=H d->XY W x (T d))(S:∀(i:I) (x:Aq),xs[i]?=H x->∃z aa,x=Ai z aa):Ar As 81 #[Ai 221 u] W λe Q=>e=Ak (Ah<|ds.any T)/\A0 W Q:=by
 obtain⟨q,b,rfl,hn⟩:∃q b,u=Ac q (K ds) b/\K ds<=maxLen:=by rcases w.2 with⟨e,e2⟩|⟨g,b,R,e,_,_,e4,e5,_⟩<;>grind
 unfold maxLen at hn;have P:=C9 w;have B:=C9 V;have A:=C9 S;obtain⟨r,L⟩:=CC<|ds.any T;rw[AE L];have ae:=gJ q (K ds) b;have af:=U7 q (K ds) b;go_enter func81,ntmps81;go_wp2
 go_loopg[19,6] (K ds) (λg ab x wr=>∃(k:I),ab=C Y k/\D (k+g=K ds)/\D ((ds.take k).any T=AQ)/\D (A0 W wr))
 grind [Below.refl];obtain⟨k,rfl,v,HA,a⟩:=hrel;obtain _|g:=gk
 .have y:¬(k:J)<K ds:=AY<|AE v;have N:D<|r=AQ:=by grind [D]
  go_wp2;go_ret;rw[AE N];exact⟨Z,a⟩
 have t:k<K ds:=AY<|AE v;have y:(k:J)<K ds:=E;have l:=P.same (V':=wr) (G:=F) (λ_ h=>h) λj hj=>Co a j<|hF j hj;obtain⟨q0,rfl⟩:∃q0,q=Aa q0:=by rcases l.2 with⟨_,e⟩|⟨g,ac,R,e,_⟩<;>grind
 have ad:K xs=K ds:=AY l.1;obtain⟨x,p⟩:∃x,xs[k]?=H x:=⟨xs[k],D7 E⟩
 obtain⟨d,o⟩:∃d,ds[k]?=H d:=⟨ds[k],D7 t⟩
 obtain⟨tx,yx,rfl⟩:=A.out k x p;have hc:A6 wr q0 k<|Ai tx yx:=by have:=l.cell k _ p;grind [Addr.add]
 have c:=B.out k _ d p o wr a;have HN:=C9<|gY T o;have HY:=C9<|Ud T o;cases n:T d
 .rw[n]at c;have s:=C9 n
  go_wp2_with(first
   |(go_at_call 81;refine Ce c ?_;rintro e w4 ⟨rfl,m⟩;have f:=C9<|Ue a m))
  go_roundg g;exact⟨k+1,Bb,B9,B9,f⟩;omega
 rw[n]at c;have s:D<|r=AP:=B9
 go_wp2_with(first
  |(go_at_call 81;refine Ce c ?_;rintro e w4 ⟨rfl,m⟩;have f:=C9<|Ue a m))
 go_ret;rw[AE s];exact⟨Z,f⟩
theorem vX(T:A2->AK)(hF:∀k,F k->k<O (U W)){ds:AJ<|Lit×AM Unit}(A:DQ W 225 2 F u (K ds) xs)(z:∀(i:I) (key:Lit) (d:A2),ds[i]?=H (key,d)->∃l t y,key=.string l/\xs[2*i]?=H (Ae ⟨Aw l⟩)/\xs[2*i+1]?=H (Ai t y)/\XY W (Ai t y) (T d)):Ar As 81 #[Ai 223 u] W λe S=>e=Ak (Ah<|ds.any λe=>T e.2)/\A0 W S:=by
 obtain⟨q,a,rfl,hn⟩:∃q a,u=G q (K ds) a/\K ds<=maxLen:=by rcases A.2 with⟨e,e2⟩|⟨g,a,V,e,_,_,e4,e5,_⟩<;>grind
 unfold maxLen at hn;have R:=C9 A;have N:=C9 z;obtain⟨r,P⟩:∃r,D<|(ds.any λe=>T e.2)=r:=⟨_,show _=_ from rfl⟩
 rw[AE P];have ai:=gN q (K ds) a;have aj:=U9 q (K ds) a;have ak:=Ua q (K ds) a;go_enter func81,ntmps81;go_wp2
 go_loopg[31,9] (K ds) (λg ae al wr=>∃(k:I),ae=C Y k/\D (k+g=K ds)/\D ((ds.take k).any (λe=>T e.2)=AQ)/\D (A0 W wr))
 grind [Below.refl];obtain⟨k,rfl,w,HA,b⟩:=hrel;obtain _|g:=gk
 .have ab:¬(k:J)<K ds:=AY<|AE w;have Q:D<|r=AQ:=by grind [D]
  go_wp2;go_ret;rw[AE Q];exact⟨Z,b⟩
 have aa:k<K ds:=AY<|AE w;have ab:(k:J)<K ds:=E;have m:=R.same (λ_ h=>h) λj hj=>Co b j<|hF j hj;obtain⟨q0,rfl⟩:∃q0,q=Aa q0:=by rcases m.2 with⟨_,e⟩|⟨g,af,V,e,_⟩<;>grind
 obtain⟨⟨key,d⟩,s⟩:∃d,ds[k]?=H d:=⟨_,D7 aa⟩
 obtain⟨l,B,L,rfl,ac,ad,x⟩:=N.out k key d s;have ag:A6 wr q0 (k*2)<|Ae ⟨Aw l⟩:=by have:=m.cell _ _ ac;grind [Addr.add]
 have ah:A6 wr q0 (k*2+1)<|Ai B L:=by have:=m.cell _ _ ad;grind [Addr.add]
 have n:D<|Below _ W<|Az wr<|M #[Ae ⟨Aw l⟩,Ai B L] 225:=b.alloc b.size _;have c:=x _ n;have HN:=C9<|gY (λe:Lit×AM Unit=>T e.2) s;have HY:=C9<|Ud (λe:Lit×AM Unit=>T e.2) s;cases p:T d
 .rw[p]at c;have v:=C9 p
  go_wp2_with(first
   |(go_at_call 81;apply c.mono;rintro e w4 ⟨rfl,o⟩;have f:=C9<|Ue n o))
  go_roundg g;exact⟨_,Bb,B9,B9,f⟩;omega
 rw[p]at c;have v:D<|r=AP:=B9
 go_wp2_with(first
  |(go_at_call 81;apply c.mono;rintro e w4 ⟨rfl,o⟩;have f:=C9<|Ue n o))
 go_ret;rw[AE v];exact⟨Z,f⟩
theorem CA.iface:∀{k:I} {v:Aq} {d:A2},CA k V F v d->∃t y,v=Ai t y
 |0,_,_,h=>h.elim
 |k+1,v,d,h=>by unfold CA at h;grind
theorem XZ:∀(k:I) (W:X) (F:I->Prop) (v:Aq) (d:A2),(∀j,F j->j<O (U W))->CA k W F v d ->
  Ar As 81 #[v] W λe q=>e=Ak (Ah<|F7 k d)/\A0 W q
 |0,_,_,_,_,_,h=>h.elim
 |k+1,W,F,v,d,hF,h=>by
  have w:∀x n,CA k W F x n->XY W x _:=λx n m V p =>
   XZ k V F x n (λj o=>CQ (hF j o) p.size)<|m.same (λ_ h=>h) λj o=>Co p j<|hF j o
  unfold CA at h;split at h
  .subst h;exact vS
  .subst h;exact vT
  .obtain⟨rfl,_⟩:=h;exact vU
  .subst h;exact vV
  .obtain⟨u,rfl,a⟩:=h;rcases a.2 with⟨rfl,_⟩|⟨g,A,B,rfl,_⟩
   .exact gX
   exact gX
  .obtain⟨u,z,rfl,a,f⟩:=h;refine vW _ hF a (λi x d b c=>w x d<|f i x d b c) λi x m=>?_;have s:=D7 (show i<_ from by have b:=Dk m;have c:=a.1;rw[T5]at c;rwa[c]at b);exact(f i x _ m s).iface
  .obtain⟨u,z,rfl,a,f⟩:=h;refine vX _ hF a λi key d b=>?_;obtain⟨l,x,L,N,P,r⟩:=f i key d b;obtain⟨t,y,rfl⟩:=r.iface;grind
  exact h.elim
def D9:Lit->A1
 |.string l=>l
 |_=>[]
theorem vY(h:Cn W base v bs):Ax v≠H (O<|U W):=by obtain⟨a,_,_⟩:=h;rcases a.2 with⟨rfl,_⟩|⟨g,b,c,rfl,_,d,_⟩<;>grind [Value.ownBlock]
def vZ(h:Cn W base v bs)(o:Obj):Ow (·=O (U W)) (Az W o) base v bs:=⟨⟨h.1.alloc _,B0 h.2.1,h.2.2⟩,λe a=>⟨a▸vY h,by subst a;simp⟩⟩
def fT(pk:AK):FuncId:=bif pk then 159 else 156
theorem gZ(p:AK){T:A2->A1}{KT:A1->A1}(av:∀l,K l<=K (KT l))(hF:∀k,F k->k<base){H:A1}(w:∀y,y=v->Ar As (fH p) (aH p y 128 222 5<|K es) W λe m=>∃o,e=Ak o/\Cn m base o (bs++H)/\Below base W m)(A:∀(V:X) (P:I->Prop) (y:Aq) (bs l:A1),K bs<=999999999->K l<=999999999->Ow P V base y bs->Ar As (fT p) #[y,Ae ⟨Aw l⟩] V λe m=>∃o,e=Ak o/\Cn m base o (bs++KT l)/\Be P base V m)(hl:K bs+K (H++es.flatMap λe:Lit×AM Unit=>KT (D9 e.1)++T e.2)<=999999999)(hn:K es<=999999999)(hu:DQ W 225 2 F u (K es) xs)(ai:∀(i:I) (key:Lit) (d:A2),es[i]?=An (key,d)->∃l aa y,key=.string l/\xs[2*i]?=An (Ae ⟨Aw l⟩)/\xs[2*i+1]?=An (Ai aa y)/\Uc p W base (Ai aa y) (T d))(h:Cn W base v bs):Ar As (fB p) #[v,Ai 223 u] W λe m=>∃o,e=Ak o/\Cn m base o (bs++(H++es.flatMap λe:Lit×AM Unit=>KT (D9 e.1)++T e.2))/\Below base W m:=by
 have az:K bs<=999999999:=E;obtain⟨ad,an,ae,rfl⟩:=h.2.2;have w:=w (Ac ad an ae) Z;obtain⟨q,b,rfl⟩:∃q b,u=Ac q (K es) b:=by rcases hu.2 with⟨e,e2⟩|⟨g,b,af,e,_⟩<;>grind
 have HU:=C9 hu;have HI:=C9 ai;obtain⟨f,HK⟩:∃f:Lit×AM Unit->A1,D<|f=(λe:Lit×AM Unit=>KT (D9 e.1)++T e.2):=⟨_,show _=_ from rfl⟩
 rw[<-AE HK]at hl ⊢;have HL:=C9 hl;have a0:=gK q (K es) b;have a1:=gL q (K es) b;have a6:=gM q (K es) b;have a7:=gN q (K es) b;have a8:=U9 q (K es) b;have a9:=Ua q (K es) b;cases p
 all_goals
  dsimp only[fB,fH,fT,aH,cond]at w A ⊢
  first|(go_enter func114,ntmps114)|(go_enter func115,ntmps115)
  go_wp2_with(first
   |((first|go_at_call 155|go_at_call 161);refine Ce w ?_;rintro e w2 ⟨v2,rfl,h2,ag⟩;obtain⟨o2,b2,a2,n2,c2,rfl⟩:=h2;have aq:D<|Cn w2 base (Ac a2 n2 c2)<|bs++H:=⟨o2,b2,_,_,_,Z⟩;have ap:=C9 ag))
  go_loopg[0,83,14] (K es) (λg y ao ba wr=>∃(k:I) (Q:A4) (S R:I),y=Ac Q S R/\ao=C Y k/\D (k+g=K es)/\D (Cn wr base (Ac Q S R)<|(bs++H)++(es.take k).flatMap f)/\D (Below base W wr))
  grind;obtain⟨k,Q,S,R,rfl,rfl,hk,L,B⟩:=hrel;obtain _|g:=gk
  .have ak:¬(k:J)<K es:=AY<|AE hk;have a:D<|es.take k=es:=by grind [D]
   go_wp2;go_ret;have h3:=AE L;rw[AE a,La]at h3;exact⟨_,Z,h3,B⟩
  have aj:k<K es:=AY<|AE hk;have ak:(k:J)<K es:=E;have N:=HU.same (V':=wr) (G:=F) (λ_ h=>h) λt hj=>Co B t<|hF t hj;obtain⟨q0,rfl⟩:∃q0,q=Aa q0:=by rcases N.2 with⟨_,e⟩|⟨g,au,af,e,_⟩<;>grind
  obtain⟨⟨key,d⟩,hd⟩:∃d,es[k]?=An d:=⟨es[k],D7 aj⟩
  obtain⟨l,r,s,rfl,al,am,hI⟩:=HI.out k key d hd;have aw:A6 wr q0 (k*2)<|Ae ⟨Aw l⟩:=by have:=N.cell (2*k) _ al;grind [Addr.add]
  have ax:A6 wr q0 (k*2+1)<|Ai r s:=by have:=N.cell (2*k+1) _ am;grind [Addr.add]
  have a:D<|(es.take<|k+1).flatMap f=(es.take k).flatMap f++(KT l++T d):=by grind [D,List.take_add_one,D9]
  have HB:D<|K ((bs++H)++(es.take k).flatMap f)+K (KT l++T d)<=999999999:=by grind [D,List.take_append_drop]
  have HV:D<|Below base W<|Az wr<|M #[Ae ⟨Aw l⟩,Ai r s] 225:=Cs B<|(Cu base wr).alloc L.2.1 _;have A:=A _ _ _ _ l (AY<|AE HB) (by grind [D])<|vZ L<|M #[Ae ⟨Aw l⟩,Ai r s] 225;have HX:D<|(Az wr<|M #[Ae ⟨Aw l⟩,Ai r s] 225).heap[O<|U wr]?=An (M #[Ae ⟨Aw l⟩,Ai r s] 225):=Cj _;have HJ:=C9 hI
  go_wp2_with(first
   |((first|go_at_call 156|go_at_call 159);refine Ce A ?_;rintro e w4 ⟨v4,rfl,h4,j⟩;obtain⟨o4,b4,a4,n4,c4,rfl⟩:=h4;have ac:D<|Cn w4 base (Ac a4 n4 c4)<|((bs++H)++(es.take k).flatMap f)++KT l:=⟨o4,b4,_,_,_,Z⟩;have x:=C9<|Cs HV j.1;have ay:=Cc (Ca (j.2 _ Z) HX) 1)
   |((first|go_at_call 114|go_at_call 115);have z:=HJ.out w4 _ _ x ac (by grind [D]);dsimp only[fB,cond]at z;refine Ce z ?_;rintro e w5 ⟨v5,rfl,h5,ah⟩;obtain⟨o5,b5,c,n5,n,rfl⟩:=h5;have ar:D<|Cn w5 base (Ac c n5 n)<|(((bs++H)++(es.take k).flatMap f)++KT l)++T d:=⟨o5,b5,_,_,_,Z⟩;have ab:=C9<|Cs x ah))
  go_roundg g;exact⟨k+1,c,n5,n,Z,Bb,B9,by grind [D],ab⟩;omega
def Mb(hB hL hM hT:AH->A1)(nt:AK->A1)(no:A1)(nm:AI->A1):AH->A2->A1
 |0,_=>[]
 |k+1,d=>match d with
  |.nil=>no
  |.lit (.bool b)=>nt b
  |.lit (.int .i64 z)=>nm z
  |.lit (.string l)=>hT (At l)++l
  |.ptr (.lit<|.string l)=>hB (At l)++l
  |.agg ds=>hL (At ds)++ds.flatMap (Mb hB hL hM hT nt no nm k)
  |.map es=>hM (At es)++es.flatMap λe=>(hT (At<|D9 e.1)++D9 e.1)++Mb hB hL hM hT nt no nm k e.2
  |_=>[]
def i7(b:AK):A1:=bif b then Dd 7 21 else Dd 7 20
def i9(b:AK):A1:=bif b then[195]else[194]
def Du:AH->A2->A1:=Mb (Dd 2) (Dd 4) (Dd 5) (Dd 3) i7 (Dd 7 22) Kn
def Ip:AH->A2->A1:=Mb Gs KL KN EP i9 [192] Km
theorem O6{α:Type}(f:α->A1):∀(l:AJ α),(∀a,a∈l->1<=K (f a))->K l<=K (l.flatMap f)
 |[],_=>Ex _
 |a::l,h=>by have d:=h a<|Mn ..;have e:=O6 f l λb c=>h b<|LM _ c;grind
theorem MT(s x:I):1<=K (Dd s x):=by grind [Dd]
theorem wb(z:J):1<=K (Kn z):=by grind [Kn,MT]
theorem ib(x:I):1<=K (EP x):=by grind [EP]
theorem we(x:I):1<=K (Gs x):=by grind [Gs]
theorem wg(x:I):1<=K (KL x):=by grind [KL]
theorem wk(x:I):1<=K (KN x):=by grind [KN]
theorem wl(z:J):1<=K (Km z):=by grind [Km,Hy,Ha]
theorem ie{hB hL hM hT:I->A1}{nt:AK->A1}{no:A1}{nm:J->A1}(a:∀x,1<=K (hB x))(c:∀x,1<=K (hL x))(e:∀x,1<=K (hM x))(f:∀x,1<=K (hT x))(j:∀b,1<=K (nt b))(i:1<=K no)(g:∀z,1<=K (nm z)):∀{k:I} {v:Aq} {d:A2},CA k V F v d->1<=K (Mb hB hL hM hT nt no nm k d)
 |0,_,_,h=>h.elim
 |k+1,v,d,h=>by unfold CA at h;grind [Mb]
theorem wm(h:CA k V F v d):1<=K (Du k d):=ie (MT 2) (MT 4) (MT 5) (MT 3) (λb=>by cases b;exact MT 7 20;exact MT 7 21) (MT _ _) wb h
theorem ig:∀(k:I) (W:X) (p:I) (F:I->Prop) (x:Aq) (d:A2),(∀j,F j->j<p)->CA k W F x d->vN W p x (Du k d)
 |0,_,_,_,_,_,_,h=>h.elim
 |k+1,W0,p,F,x,d,hF,h0=>by
  intro W ad w v f B;have h:=h0.same (λ_ h=>h) λj hj=>Co v j<|hF j hj;have g:K w<=999999999:=E;have N:=λy a o=>ig k W p F y a hF o;unfold CA at h;split at h
  .subst h;exact vG g f
  .rename_i b;subst h;cases b
   .exact vI g f
   exact vH g f
  .obtain⟨rfl,c,m⟩:=h;exact vB c m g f
  .rename_i l;subst h;have e:K (Du (k+1)<|.lit<|.string l)=_:=Dj;exact vJ l g E f
  .rename_i l;obtain⟨u,rfl,n⟩:=h;have e:K (Du (k+1)<|.ptr<|.lit<|.string l)=_:=Dj;exact vL hF g E n f
  .rename_i ds;obtain⟨u,s,rfl,n,q⟩:=h;have ac:K s=K ds:=AY n.1;have at_:∀i,i<K ds->∃x a,s[i]?=H x/\ds[i]?=H a/\CA k W F x a:=λi A =>
    ⟨_,_,D7 E,D7 A,q i _ _ (D7 E)<|D7 A⟩
   have V:=O6 (Du k) ds λa P=>by grind [List.getElem_of_mem,wm]
   have e:K (Du (k+1)<|.agg ds)=_+K (ds.flatMap<|Du k):=Dj;exact gQ AQ hF (λy o=>o▸NU 4 (K ds) B8 E g f) B E n (λi x a c m=>N x a<|q i x a c m) (λi x L=>By) f
  .rename_i es;obtain⟨u,s,rfl,n,q⟩:=h;have V:=O6 (λe:Lit×AM Unit=>(Dd 3 (K<|D9 e.1)++D9 e.1)++Du k e.2) es λa P=>by grind [MT]
   have e:K (Du (k+1)<|.map es)=_+K (es.flatMap λe:Lit×AM Unit=>(Dd 3 (K<|D9 e.1)++D9 e.1)++Du k e.2):=Dj;exact gZ AQ (KT:=(λl=>Dd 3 (K l)++l)) Ba hF (λy o=>o▸NU 5 (K es) B8 E g f) (λab aa y w l c m r=>eH c m r) B E n (λi key a c=>BD) f
  exact h.elim
theorem wn(h:CA k V F v d):1<=K (Ip k d):=ie we wg wk ib (λb=>by cases b<;>exact Cr _) (Cr _) wl h
theorem ii:∀(k:I) (W:X) (p:I) (F:I->Prop) (x:Aq) (d:A2),(∀j,F j->j<p)->CA k W F x d->vO W p x (Ip k d)
 |0,_,_,_,_,_,_,h=>h.elim
 |k+1,W0,p,F,x,d,hF,h0=>by
  intro W ad w v f B;have h:=h0.same (λ_ h=>h) λj hj=>Co v j<|hF j hj;have g:K w<=999999999:=E;have N:=λy a o=>ii k W p F y a hF o;unfold CA at h;split at h
  .subst h;exact vC g f
  .rename_i b;subst h;cases b
   .exact vE g f
   exact vD g f
  .obtain⟨rfl,c,m⟩:=h;exact vA c m g f
  .rename_i l;subst h;have e:K (Ip (k+1)<|.lit<|.string l)=_:=Dj;exact vF l g E f
  .rename_i l;obtain⟨u,rfl,n⟩:=h;have e:K (Ip (k+1)<|.ptr<|.lit<|.string l)=_:=Dj;exact vM hF g E n f
  .rename_i ds;obtain⟨u,s,rfl,n,q⟩:=h;have ac:K s=K ds:=AY n.1;have at_:∀i,i<K ds->∃x a,s[i]?=H x/\ds[i]?=H a/\CA k W F x a:=λi A =>
    ⟨_,_,D7 E,D7 A,q i _ _ (D7 E)<|D7 A⟩
   have V:=O6 (Ip k) ds λa P=>by grind [List.getElem_of_mem,wn]
   have e:K (Ip (k+1)<|.agg ds)=_+K (ds.flatMap<|Ip k):=Dj;exact gQ AP hF (λy o=>o▸t9 (K ds) E g f) B E n (λi x a c m=>N x a<|q i x a c m) (λi x L=>By) f
  .rename_i es;obtain⟨u,s,rfl,n,q⟩:=h;have V:=O6 (λe:Lit×AM Unit=>(EP (K<|D9 e.1)++D9 e.1)++Ip k e.2) es λa P=>by grind [ib]
   have e:K (Ip (k+1)<|.map es)=_+K (es.flatMap λe:Lit×AM Unit=>(EP (K<|D9 e.1)++D9 e.1)++Ip k e.2):=Dj;exact gZ AP (KT:=(λl=>EP (K l)++l)) Ba hF (λy o=>o▸td (K es) E g f) (λab aa y w l c m r=>eI c m r) B E n (λi key a c=>BD) f
  exact h.elim
structure EQ(W:Ap)(A:A3)(V:Ap):Prop where
 h:V.heap[_root_.Array.size (Go.World.heap W)]?=An (.cells A 101)
 ac:A0 W V
theorem EQ.next(h:EQ W A V)(hb:A0 V V'):EQ W A V' :=
 ⟨Ca (Co hb _<|Cd h.h) h.h,Cs h.ac<|CG hb h.ac.size⟩
theorem EQ.drew(h:EQ W A V):EQ W A V.drew:=⟨h.h,h.ac.drew⟩
def Ko:EQ W A<|Az W<|M A 101:=⟨Cj _,Cm⟩
theorem MU(h:DQ V 101 5 F u n xs):n<=9223372036854775807/\∃a c,u=G a n c/\∀(i:I) (A:A3),i<n->Hu xs i A->∃g,a=Aa g/\F g/\∀b:X,b.heap[g]?=V.heap[g]?->∀j,j<5->AC b ⟨g,i*5+j,Ao⟩=A[j]?:=by
 obtain⟨r,e⟩:=h;rcases e with⟨rfl,rfl⟩|⟨g,c,q,rfl,hF,o,f,k,s,l⟩
 .grind
 refine⟨CE f<|CE k B8,_,_,Z,λi A t d=>⟨g,Z,hF,λb m j p=>?_⟩⟩;rw[Cc<|Ca m o];unfold Hu at d;rw[<-Oz,<-Oz,<-d,R6 p,ah,<-l,R6 E,Wh]
theorem Y3(h:DQ V 9 1 F u (K es)<|es.map NQ):∃a c,u=G a (K es) c/\∀(i:I) (l:A1) (d:A2),es[i]?=H (.string l,d)->∃g,a=Aa g/\F g/\∀b:X,b.heap[g]?=V.heap[g]?->AC b ⟨g,i,Ao⟩=H (Ae ⟨Aw l⟩):=by
 obtain⟨p,j⟩:=h;rcases j with⟨rfl,o⟩|⟨g,c,f,rfl,hF,n,q,r,s,k⟩
 .simp_all
 refine⟨_,_,Z,λi l d e=>⟨g,Z,hF,λb m=>?_⟩⟩;have v:=Dk e;rw[Cc<|Ca m n,<-Oz];have t:(f.toList.take<|K es*1)[i]?=H (Ae ⟨Aw l⟩):=by rw[k,L9,e];rfl
 grind
theorem S8{α:Type}(f:α->A1){l:AJ α}{d:α}(h:l[i]?=H d):(l.take<|i+1).flatMap f=(l.take i).flatMap f++f d:=BV
theorem Uh{α:Type}(f:α->A1)(l:AJ α)(i:I):K ((l.take i).flatMap f)<=K (l.flatMap f):=by grind [List.take_append_drop]
def Eg(l:A1)(W:Ap)(e:Ending)(W':Ap):Prop:=e=Ak (CX l)/\A0 W W'
theorem ij(hF:∀j,F j->j<O (U W))(h:CA k W F x d)(hl:K (Du k d)<=999999999):Ar As 82 #[C Y 2,x] W λe a=>∃b,e=Ak b/\Cn a (O<|U W) b (Du k d)/\A0 W a:=by
 have c:=ig k W (O<|U W) F x d hF h W _ [] CT (S9) keL;obtain⟨t,y,rfl⟩:=h.iface;go_enter func82,ntmps82
 go_wp2_with(first
  |(go_at_call 114;refine Ce c ?_;rintro e q ⟨p,rfl,f,l⟩;obtain⟨g,i,m,o,n,rfl⟩:=f))
 go_ret;exact⟨_,Z,⟨g,i,_,_,_,Z⟩,l⟩
theorem wo(hF:∀j,F j->j<O (U W))(h:CA k W F x d)(hl:K (Ip k d)<=999999999):Ar As 82 #[C Y 3,x] W λe a=>∃b,e=Ak b/\Cn a (O<|U W) b (Ip k d)/\A0 W a:=by
 have c:=ii k W (O<|U W) F x d hF h W _ [] CT (S9) keL;obtain⟨t,y,rfl⟩:=h.iface;go_enter func82,ntmps82
 go_wp2_with(first
  |(go_at_call 115;refine Ce c ?_;rintro e q ⟨p,rfl,f,l⟩;obtain⟨g,i,m,o,n,rfl⟩:=f))
 go_ret;exact⟨_,Z,⟨g,i,_,_,_,Z⟩,l⟩
theorem wt(hl:K bs<=999999999)(h:Cn W base v bs):Ar As 184 #[v,Ah AP] W λe f=>∃d,e=Ak d/\Cn f base d (bs++[116,114,117,101])/\Below base W f:=by
 obtain⟨q,j,m,o,p⟩:=DL Tryz.infoU8;obtain⟨a,n,c,rfl⟩:=h.2.2;have b:=T h;have l:(⟨Aw ([116,114,117,101]:A1)⟩:AT).size=4:=rfl;go_enter func184,ntmps184
 go_wp2_with(first
  |(at_builtin;refine wpList_append_own_string _ Z _ _ 50 9 Z base 5 q underlying50 underlying9 j m o p _ _ _ Z b.1 ⟨[116,114,117,101].toArray⟩ Z BC kfp b.2.1 ?_;intro d s k i r;have g:=T<|NS b k i))
 go_ret;exact⟨_,Z,g⟩
theorem wu(hl:K bs<=999999999)(h:Cn W base v bs):Ar As 184 #[v,Ah AQ] W λe f=>∃d,e=Ak d/\Cn f base d (bs++[102,97,108,115,101])/\Below base W f:=by
 obtain⟨q,j,m,o,p⟩:=DL Tryz.infoU8;obtain⟨a,n,c,rfl⟩:=h.2.2;have b:=T h;have l:(⟨Aw ([102,97,108,115,101]:A1)⟩:AT).size=5:=rfl;go_enter func184,ntmps184
 go_wp2_with(first
  |(at_builtin;refine wpList_append_own_string _ Z _ _ 50 9 Z base 5 q underlying50 underlying9 j m o p _ _ _ Z b.1 ⟨[102,97,108,115,101].toArray⟩ Z BC kfp b.2.1 ?_;intro d s k i r;have g:=T<|NS b k i))
 go_ret;exact⟨_,Z,g⟩
def ww(hl:K bs<=999999999)(h:Cn W base v bs):Ar As 150 #[v,Ah AP] W λe b=>∃d,e=Ak d/\Cn b base d (bs++[116,114,117,101])/\Below base W b:=by
 have f:=wt hl h;obtain⟨a,n,c,rfl⟩:=h.2.2;go_enter func150,ntmps150
 go_wp2_with(first
  |(go_at_call 184;refine Ce f ?_;rintro e q ⟨p,rfl,g,k⟩;obtain⟨i,j,l,o,m,rfl⟩:=g))
 go_ret;exact⟨_,Z,⟨i,j,_,_,_,Z⟩,k⟩
def wy(hl:K bs<=999999999)(h:Cn W base v bs):Ar As 150 #[v,Ah AQ] W λe b=>∃d,e=Ak d/\Cn b base d (bs++[102,97,108,115,101])/\Below base W b:=by
 have f:=wu hl h;obtain⟨a,n,c,rfl⟩:=h.2.2;go_enter func150,ntmps150
 go_wp2_with(first
  |(go_at_call 184;refine Ce f ?_;rintro e q ⟨p,rfl,g,k⟩;obtain⟨i,j,l,o,m,rfl⟩:=g))
 go_ret;exact⟨_,Z,⟨i,j,_,_,_,Z⟩,k⟩
theorem wA(hl:K bs<=999999999)(h:Cn W base v bs):Ar As 113 #[v,Ai 268<|Ag #[]] W λe f=>∃d,e=Ak d/\Cn f base d (bs++[110,117,108,108])/\Below base W f:=by
 obtain⟨q,j,m,o,p⟩:=DL Tryz.infoU8;obtain⟨a,n,c,rfl⟩:=h.2.2;have b:=T h;have s:=XQ;have t:=XR;have u:=XS;have w:=S0;have x:=S1;have l:(⟨Aw ([110,117,108,108]:A1)⟩:AT).size=4:=rfl;go_enter func113,ntmps113
 go_wp2_with(first
  |(at_builtin;refine wpList_append_own_string _ Z _ _ 50 9 Z base 5 q underlying50 underlying9 j m o p _ _ _ Z b.1 ⟨[110,117,108,108].toArray⟩ Z BC kfp b.2.1 ?_;intro d y k i r;have g:=T<|NS b k i))
 go_ret;exact⟨_,Z,g⟩
def wB(hl:K bs<=999999999)(h:Cn W base v bs):Ar As 113 #[v,Ai 279<|Ah AP] W λe b=>∃d,e=Ak d/\Cn b base d (bs++[116,114,117,101])/\Below base W b:=by
 have f:=ww hl h;obtain⟨a,n,c,rfl⟩:=h.2.2;have p:=Qu AP;go_enter func113,ntmps113
 go_wp2_with(first
  |(go_at_call 150;refine Ce f ?_;rintro e r ⟨q,rfl,g,k⟩;obtain⟨i,j,l,o,m,rfl⟩:=g))
 go_ret;exact⟨_,Z,⟨i,j,_,_,_,Z⟩,k⟩
def wC(hl:K bs<=999999999)(h:Cn W base v bs):Ar As 113 #[v,Ai 279<|Ah AQ] W λe b=>∃d,e=Ak d/\Cn b base d (bs++[102,97,108,115,101])/\Below base W b:=by
 have f:=wy hl h;obtain⟨a,n,c,rfl⟩:=h.2.2;have p:=Qu AQ;go_enter func113,ntmps113
 go_wp2_with(first
  |(go_at_call 150;refine Ce f ?_;rintro e r ⟨q,rfl,g,k⟩;obtain⟨i,j,l,o,m,rfl⟩:=g))
 go_ret;exact⟨_,Z,⟨i,j,_,_,_,Z⟩,k⟩
def Ep(x:AH):AU:=[48,49,50,51,52,53,54,55,56,57,97,98,99,100,101,102].getD x 0
def IT(r:AH):A1:=if r=34\/r=92 then[92,_root_.UInt8.ofNat r]else if r<32 then[92,117,48,48,Ep<|r/16,Ep<|r%16]else Ez r
def IU:AH->A1->A1
 |0,_=>[]
 |_+1,[]=>[]
 |g+1,b::t=>IT (decodeL (b::t)).1++IU g ((b::t).drop (decodeL (b::t)).2)
def Fx(l:A1):A1:=[34]++IU (At l) l++[34]
theorem iw(g:I):IU g []=[]:=by cases g<;>rfl
def Lx(W V:Ap):Prop:=∀(k:AH) (cs:A3) (t:AN) (fr:AH×AH),W.heap[k]?=An (.cells cs t fr)->t≠5->V.heap[k]?=An (.cells cs t fr)
theorem Lx.refl(W:X):Lx W W:=by intro k cs t fr h _;exact h
def Lx.trans{A B C:X}(h:Lx A B)(g:Lx B C):Lx A C:=by intro k cs t fr b a;exact g k cs t fr (h k cs t fr b a) a
theorem Uk:Lx W<|Az W o:=by intro k cs t fr a _;grind [Below.heap_alloc]
theorem Ul(f:W.ownsRow base 5 1 v n xs)(d:W.grownBy V<|Ax v):Lx W V:=by
 intro k cs t fr b i;refine Ca (d.block k (Cd b) λe=>?_) b;rcases f.2 with⟨a,_⟩|⟨g,h,c,a,_,j,_⟩
 .rw[a]at e;cases e
 rw[a]at e;injection e with e;grind
structure IV(base:AH)(W:Ap)(N:AH)(s:AT)(i:AH)(v:Aq)(cur:A1)(V:Ap):Prop where
 a0:Cn V base v cur
 b:V.heap[N]?=An (.stringIter s i)
 ac:Below base W V
 d:base<=N
 a:Lx W V
def IV.ne(h:IV base W N s i v cur V):H N≠Ax v:=by
 intro e;rcases h.a0.1.2 with⟨a,_⟩|⟨g,f,c,a,_,b,_⟩
 .rw[a]at e;cases e
 rw[a]at e;injection e with e;have d:N=g:=e;rw[<-d,h.b]at b;cases b
theorem IV.ai(h:IV base W N s i v cur V)(f:V'.ownsRow base 5 1 v' (K cur+K l)<|cur.map CP++l.map CP)(a:(Az V o).grownBy V'<|Ax v):IV base W N s i v' (cur++l) V':=by have b:=GX ((Cu base V).alloc h.a0.2.1 _) (h.a0.1.alloc _) a kfi;have d:=Cd h.b;refine⟨⟨B9,CE h.a0.2.1 b.size,?_⟩,Ca (a.block N B7 h.ne)<|Ca (CB _ _ _ d) h.b,Cs h.ac b,h.d,h.a.trans<|(Uk).trans<|Ul (h.a0.1.alloc o) a⟩;rcases f.2 with⟨e,_⟩|⟨g,j,c,e,_⟩<;>grind
def IV.appS(h:IV base W N s i v cur V)(d:V'.ownsRow base 5 1 v' (K cur+(⟨Aw l⟩:AT).size)<|cur.map CP++strCells ⟨Aw l⟩)(a:V.grownBy V'<|Ax v):IV base W N s i v' (cur++l) V':=by obtain⟨b,c⟩:=NS h.a0 d a;exact⟨b,Ca (a.block N (Cd h.b) h.ne) h.b,Cs h.ac c,h.d,h.a.trans<|Ul h.a0.1 a⟩
theorem IV.next(h:IV base W N s i v cur V)(j:I):IV base W N s j v cur<|V.putObj N<|.stringIter s j:=by
 have n:=Cd h.b;have p:=h.ne;refine⟨⟨⟨h.a0.1.1,?_⟩,by simpa[World.putObj]using h.a0.2.1,h.a0.2.2⟩,by simp[World.putObj,n],Qw h.ac h.d,h.d,?hkp⟩
 case hkp =>
  intro k cs t fr q r;have b:=h.a k cs t fr q r;refine Ca ((grownBy_putObj' V N<|.stringIter s j).block k (Cd b) λe=>?_) b;injection e with e;rw[e,h.b]at b;cases b
 rcases h.a0.1.2 with a|⟨g,f,c,a,l,d,m⟩
 .exact AF a
 refine AG ⟨g,f,c,a,l,?_,m⟩;have o:g≠N:=by rintro rfl;exact p kfr
 exact Ca ((grownBy_putObj' V N<|.stringIter s j).block g (Cd d) kep) d
theorem IV.drew(h:IV base W N s i v cur V):IV base W N s i v cur V.drew:=⟨h.a0,h.b,h.ac.drew,h.d,h.a⟩
def iy(x:I)(hx:x<16):(Instr.index 9 (Ae ⟨#[48,49,50,51,52,53,54,55,56,57,97,98,99,100,101,102]⟩)<|C .i32 x).run As V=.ok (CP<|Ep x) V:=kfP
def wU(a:r<32):bits .and .i32 (r:J) 15=((r%16:I):J):=by have h:r=0\/r=1\/r=2\/r=3\/r=4\/r=5\/r=6\/r=7\/r=8\/r=9\/r=10\/r=11\/r=12\/r=13\/r=14\/r=15\/r=16\/r=17\/r=18\/r=19\/r=20\/r=21\/r=22\/r=23\/r=24\/r=25\/r=26\/r=27\/r=28\/r=29\/r=30\/r=31:=E;rcases h with rfl|rfl|rfl|rfl|rfl|rfl|rfl|rfl|rfl|rfl|rfl|rfl|rfl|rfl|rfl|rfl|rfl|rfl|rfl|rfl|rfl|rfl|rfl|rfl|rfl|rfl|rfl|rfl|rfl|rfl|rfl|rfl<;>(show _=_;kernel_rfl)
theorem Qx{ev:Operand->Aq}{W:Ap}{o:Oper}{ty:AN}(x y:Operand)(a:o.op=.index ty x y){X Y:Aq}(hx:ev x=X)(hy:ev y=Y)(h:(Instr.index ty X Y).run P W=.ok v W):(execOp ev o).run P W=.ok (.value v) W:=by unfold execOp;simp_all
def wV(a b:AU)(V:X):(Instr.buildSlice 50 2 #[(0,CP a),(1,CP b)]).run As V=.ok (G (Aa<|O<|U V) 2 2) (Az V<|M #[CP a,CP b] 5):=B6
def wW{o:Oper}{a:Act}{K:Act->X->Prop}(x y:Operand)(b:o.op=.buildSlice 50 2 #[(0,x),(1,y)])(p q:AU)(hx:a.eval x=CP p)(hy:a.eval y=CP q)(h:K (a.put o.dst<|G (Aa<|O<|U w) 2 2)<|Az w<|M #[CP p,CP q] 5):o.wp As a w K Q:=by
 have e:(#[(0,x),(1,y)].map λ(i,y)=>(i,a.eval y))=#[((0:I),CP p),(1,CP q)]:=by simp[hx,hy]
 unfold Oper.wp execOp;simp only[b,GU,e,wV,G0];exact h
theorem wX(h:Cn V base v cur)(d:V'.ownsRow base 5 1 v' (K cur+K l)<|cur.map CP++l.map CP)(b:(Az V o).grownBy V'<|Ax v):Cn V' base v' (cur++l)/\Below base V V':=by have a:=GX ((Cu base V).alloc h.2.1 _) (h.1.alloc _) b<|B0 h.2.1;refine⟨⟨B9,CE h.2.1 a.size,?_⟩,a⟩;rcases d.2 with⟨e,_⟩|⟨g,f,c,e,_⟩<;>grind
theorem iz{o:Oper}{a:Act}{K:Act->X->Prop}{x y:I}{cs:A3}(m:Aw (l.map CP)=cs)(p:o.op=.call {callee:=.builtin .append,args:=#[.tmp x,.tmp y],argTypes:=#[50,50]})(r:a.eval (.tmp x)=v)(hx:a.eval (.tmp y)=G (Aa<|O<|U w) (At l) (At l))(f:Cn w base v cur)(hl:At cur+At l<=999999999)(q:0<At l)(h:∀d g e c,Cn c base (G d g e) (cur++l)->Below base w c->K (a.put o.dst<|G d g e) c):o.wp As a (Az w<|M cs 5) K Q:=by
 subst m;obtain⟨F,n,t,z,A⟩:=DL Tryz.infoU8;refine RG p underlying50 n t z A Z B8 r (f.1.alloc _) (At l) (At l) (news:=(l.map CP)) hx Ba ?_ ?_ q Bc E (B0 f.2.1) ?_
 .grind [EU]
 .intro u s;obtain⟨b,_,rfl⟩:=Kx.1 s;rfl
 intro L c i j _;obtain⟨k,B⟩:=wX f i j;obtain⟨d,g,e,rfl⟩:=k.2.2;grind
def Y5{ops:Array Oper}{rest:AJ Oper}{o:Oper}{a:Act}(x y:I)(l:A1){cs:A3}(k:Aw (l.map CP)=cs)(m:o.guard=Ao)(n:o.op=.call {callee:=.builtin .append,args:=#[.tmp x,.tmp y],argTypes:=#[50,50]})(q:a.eval (.tmp x)=v)(hx:a.eval (.tmp y)=G (Aa<|O<|U w) (K l) (K l))(j:Cn w base v cur)(hl:K cur+K l<=999999999)(p:0<K l)(h:∀c e d b,Cn b base (G c e d) (cur++l)->Below base w b->wpList As ops Q rest (a.put o.dst<|G c e d) b):wpList As ops Q (o::rest) a (Az w<|M cs 5) :=
 LQ m λ_ i=>iz k n q hx j hl p λc e d b f g=>i _ _<|h c e d b f g
def iA(x:I)(hx:x<16)(V:X):(Instr.index 9 (Ae ⟨#[48,49,50,51,52,53,54,55,56,57,97,98,99,100,101,102]⟩)<|C Am x).run As V=.ok (C Am (Ep x).toNat) V:=kfP
def qB(b:AU):A1:=if b.toNat=34\/b.toNat=92 then[92,b]else if b.toNat<32 then[92,117,48,48,Ep<|b.toNat/16,Ep<|b.toNat%16]else[b]
def qT(l:A1):A1:=([34]++l.flatMap qB)++[34]
theorem wY(b:AU):K (qB b)<=6:=kfw
theorem Y6:∀l:A1,K (l.flatMap qB)<=6*K l
 |[]=>Ba
 |b::l=>by have:=wY b;have:=Y6 l;rw[VW,Dj,FN];omega
theorem wZ(h:Cn W base (G a n c) l)(r:l≠[]):(convert 50 9<|G a n c).run As W=.ok (Ae ⟨Aw l⟩) W:=by
 rcases h.1.2 with⟨_,e⟩|⟨g,i,d,e,_,f,k,m,o,p⟩
 .grind
 injection e with e1 e2 e3;subst e1 e2 e3;refine R5 _ 50 9 5 ⟨g,0,Ao⟩ _ l underlying50 underlying5 underlying9 ?_;intro j q;rw[show(⟨g,0,Ao⟩:Addr).add j=⟨g,j,Ao⟩ by grind [Addr.add],Cc f,<-Oz];have b:(d.toList.take<|K l*1)[j]?=H (CP l[j]):=B9;rw[R6 E]at b;exact b
def Ly(w:A1):Prop:=∃u c,w=u++[c]/\Hq u=AP/\Dh u c=2
def FK(l:A1):Prop:=∃ws:AJ A1,(∀w∈ws,Ly w)/\l=ws.flatten
def FK.nil:FK []:=⟨[],Ba,rfl⟩
theorem FK.ac{w:A1}(h:FK l)(c:Ly w):FK<|l++w:=by obtain⟨a,b,rfl⟩:=h;refine⟨a++[w],λx d=>?_,Ba⟩;grind
theorem x6{w:A1}(h:Ly w):(∃a,w=[a]/\a.toNat<128)\/(∃a b,w=[a,b]/\DG a=2/\128<=b.toNat/\b.toNat<=191)\/(∃a b c,w=[a,b,c]/\DG a=3/\Hw a<=b.toNat/\b.toNat<=Il a/\128<=c.toNat/\c.toNat<=191)\/(∃a b c d,w=[a,b,c,d]/\DG a=4/\Hw a<=b.toNat/\b.toNat<=Il a/\128<=c.toNat/\c.toNat<=191/\128<=d.toNat/\d.toNat<=191):=by
 obtain⟨u,c,rfl,e,f⟩:=h
 match u,e,f with
 |[],_,f =>
  grind [TL,DG]
 |[a],e,f =>
  grind [M7,Dh,Il]
 |[a,b],e,f =>
  grind [Hq,M7,Dh]
 |[a,b,d],e,f =>
  grind [Hq,M7,Dh]
 |_::_::_::_::_,e,_=>simp[Hq]at e
theorem x7{w:A1}(h:Ly w):(decodeL<|w++t).2=K w/\IT (decodeL<|w++t).1=w.flatMap qB/\1<=K w:=by
 have m:∀{w:A1} {r:I},2<=K w->decodeL (w++t)=(r,K w)->128<=r->(∀b∈w,128<=b.toNat)->(decodeL<|w++t).2=K w/\IT (decodeL<|w++t).1=w.flatMap qB/\1<=K w:=λ{w r} hw hd l hb=>by
  have f:=encode_decode (w++t) (by grind [List.append_eq_nil_iff]) B9;rw[hd]at f ⊢;simp only[]at f ⊢;rw[List.take_left]at f;refine⟨trivial,?_,E⟩;have j:IT r=Ez r:=by grind [IT]
  have k:Ez (r:J)=w:=f;rw[j,k];clear f hd j k hw;induction w<;>grind [qB]
 rcases x6 h with⟨a,rfl,e⟩|⟨a,b,rfl,g,e,i⟩|⟨a,b,c,rfl,g,e,i,n,o⟩|⟨a,b,c,d,rfl,g,e,i,n,o,p,q⟩
 .rw[List.singleton_append,decodeL_ascii a t e];refine⟨Z,?_,Ba⟩;grind [IT,qB,UInt8.ofNat_toNat,Ez,encodeRuneZ_one]
 .grind [DG,decodeL_N,decodeN]
 .have l:(a.toNat=224/\160<=b.toNat/\b.toNat<=191)\/(a.toNat=237/\128<=b.toNat/\b.toNat<=159)\/(225<=a.toNat/\a.toNat<=239/\a.toNat≠237/\128<=b.toNat/\b.toNat<=191):=by
   unfold DG at g;unfold Hw at e;unfold Il at i
   repeat' split at g<;>grind
  refine m (r:=a.toNat%16*4096+b.toNat%64*64+c.toNat%64) Ba ?_ E B7;grind [decodeL_N,decodeN]
 have l:(a.toNat=240/\144<=b.toNat/\b.toNat<=191)\/(a.toNat=244/\128<=b.toNat/\b.toNat<=143)\/(241<=a.toNat/\a.toNat<=243/\128<=b.toNat/\b.toNat<=191):=by grind [DG,Hw,Il]
 refine m (r:=a.toNat%8*262144+b.toNat%64*4096+c.toNat%64*64+d.toNat%64) Ba ?_ E B7;grind [decodeL_N,decodeN]
theorem iB:∀(a:AJ A1) (g:I),(∀w∈a,Ly w)->K a.flatten<=g->IU g a.flatten=a.flatten.flatMap qB
 |[],g,_,_=>by rw[List.flatten_nil,iw];rfl
 |w::a,g,h,hg=>by
  obtain⟨d,f,i⟩:=x7<|h w<|Mn ..;rw[an]at hg ⊢;rw[Dj]at hg;obtain⟨b,r,rfl⟩:∃b r,w=b::r:=by
   obtain _|⟨b,r⟩:=w
   .simp at i
   exact⟨b,r,Z⟩
  obtain⟨g,rfl⟩:∃c,g=c+1:=⟨g-1,E⟩
  have e:IU (g+1) ((b::r)++a.flatten)=IT (decodeL<|(b::r)++a.flatten).1++IU g (((b::r)++a.flatten).drop (decodeL<|(b::r)++a.flatten).2):=rfl;rw[e,d,f,W9,iB a g (λw j=>h w<|LM _ j) E,List.flatMap_append]
theorem iC(h:FK l):Fx l=qT l:=by obtain⟨b,a,rfl⟩:=h;grind [Fx,qT,iB]
def Y7{a:A1}{c:AU}(h:Hq a=AP)(b:Dh a c=2):Ly<|a++[c]:=⟨a,c,rfl,h,b⟩
theorem x9(a:AU)(h:a.toNat<128):Ly [a]:=by refine⟨[],a,rfl,rfl,?_⟩;grind [DG,TL]
theorem xa(a b:AU)(e:DG a=2)(c:Hw a<=b.toNat)(d:b.toNat<=Il a):Ly [a,b]:=by obtain⟨f,g,h,_⟩:=(M7 a).2.2.1 E;refine⟨[a],b,Z,by grind [Hq],?_⟩;grind [Dh]
theorem iD(a b c:AU)(h:DG a=3)(d:Hw a<=b.toNat)(e:b.toNat<=Il a)(f:128<=c.toNat)(g:c.toNat<=191):Ly [a,b,c]:=by obtain⟨i,j,k,_⟩:=(M7 a).2.2.1 E;refine⟨[a,b],c,Z,by grind [Hq],?_⟩;grind [Dh]
theorem xb(a b c d:AU)(k:DG a=4)(e:Hw a<=b.toNat)(f:b.toNat<=Il a)(g:128<=c.toNat)(h:c.toNat<=191)(i:128<=d.toNat)(j:d.toNat<=191):Ly [a,b,c,d]:=by obtain⟨l,m,n,_⟩:=(M7 a).2.2.1 E;refine⟨[a,b,c],d,Z,by grind [Hq],?_⟩;grind [Dh]
theorem Sb(x:J)(h:0<=x/\x<=255):(_root_.UInt8.ofNat x.toNat).toNat=x.toNat:=Hz E
theorem xc{r:J}:Ly<|Ez r:=by
 unfold Ez;by_cases c:0<=r/\r<=127
 .grind [encodeRuneZ_one,x9,Sb]
 by_cases d:128<=r/\r<=2047
 .grind [encodeRuneZ_two,Sb,xa,DG,Hw,Il]
 by_cases e:(2048<=r/\r<55296)\/(57343<r/\r<=65535)
 .grind [encodeRuneZ_three,Sb,iD,DG,Hw,Il]
 by_cases a:65536<=r/\r<=1114111
 .rw[encodeRuneZ_four a.1 a.2];have b:=Sb (240+r/262144) E;grind [Sb,xb,DG,Hw,Il]
 rw[encodeRuneZ_bad E];exact iD 239 191 189 B8 B8 B8 B8 B8
theorem Um(bs:A1)(lim:J):∀(g p:I) (a:A1) (b:I) (l:A1) (q:I),b<=K a->FK (a.take b)->Hq (a.drop b)=AP->DA bs lim g p a b=.ok (l,q)->FK l/\K l+4*p+4<=K a+4*q
 |0,_,_,_,_,_,_,_,_,h=>Bs
 |g+1,p,a,b,l,q,hw,ha,hp,h=>by
  rw[DA]at h;split at h
  .cases h
  rename_i c hc;split at h
  .cases h
  split at h
  .grind
  split at h
  .rename_i h1;split at h
   .cases h
   rename_i r q2 he;have f:=(WP he).2;have e:=eM r;have d:=Um bs lim g q2 _ _ l q (Cr _) (by rw[LN];rw[h1.2,LN]at ha;exact ha.ac<|xc) B9 h;grind
  split at h
  .cases h
  split at h
  .cases h
  rename_i h0;have d:=Um bs lim g (p+1) (a++[c]) _ l q B9 (by
   split
   .rename_i h2;rw[Nt Ba];have:=ha.ac<|Y7 hp h2;grind [List.take_append_drop]
   grind) (Tq hw hp h0 rfl) h
  grind
theorem Y8(bs:A1)(lim:J):∀(k p:I) (a:A1) (b:I) (l:A1) (q:I),b<=K a->FK (a.take b)->Hq (a.drop b)=AP->Ds bs lim k p a b=.ok (l,q)->FK l/\K l+p=K a+q
 |0,p,a,b,l,q,hw,ha,hp,h=>kfF
 |k+1,p,a,b,l,q,hw,ha,hp,h=>by
  rw[Ds]at h;split at h
  .cases h
  rename_i c hc;split at h
  .cases h
  split at h
  .cases h
  rename_i h0;have d:=Y8 bs lim k (p+1) (a++[c]) _ l q B9 (by
   split
   .rename_i h2;rw[Nt Ba];have:=ha.ac<|Y7 hp h2;grind [List.take_append_drop]
   grind) (Tq hw hp h0 rfl) h
  grind
def F8:AH->A2->Prop
 |0,_=>True
 |k+1,d=>match d with
  |.lit (.string l)=>FK l
  |.lit (.int .i64 z)=>-9223372036854775808<=z/\z<=9223372036854775807
  |.agg ds=>∀d∈ds,F8 k d
  |.map es=>∀e∈es,FK (D9 e.1)/\F8 k e.2
  |_=>True
def iE(h : -9223372036854775808<=z/\z<=9223372036854775807)(k:I):F8 k<|.lit<|.int Y z:=by
 obtain _|k:=k
 .trivial
 exact h
def iF(k:I):F8 k .nil:=kfx
def Un(k:I):F8 k<|.lit<|.bool b:=kfx
def xd(k:I):F8 k<|.ptr<|.lit<|.string l:=kfx
def xe(h:FK l)(k:I):F8 k<|.lit<|.string l:=by
 obtain _|k:=k
 .trivial
 exact h
def Kk{α:Type}(bs t:A1)(lim:AI)(r':AS (AI×AI) α):Prop:=lim=At bs->t≠[]->r'=.error (8,lim)
def Tm{α:Type}(bs t:A1)(lim:AI)(s:Prop)(p:AH)(M:α->AH->Prop)(r r':A5 α):Prop :=
 match r with
 |.ok (x,q)=>p<=q/\q<=At bs/\M x q/\(r'=.ok (x,q)\/(¬s/\q=At bs/\Kk bs t lim r'))
 |.error (e,pl)=>pl<=(At bs:AI)/\(r'=.error (e,pl)\/(pl=At bs/\Kk bs t lim r'))/\(p=At bs->pl=At bs)
section
variable{α β:Type} {bs t:A1} {lim:Int} {s:Prop} {p:Nat} {M:α->Nat->Prop}
theorem Tm.ok{x:α}(a:p<=q)(b:q<=K bs)(c:M x q):Tm bs t lim s p M (.ok (x,q))<|.ok (x,q):=⟨a,b,c,AF rfl⟩
def Tm.a7{x:α}{r':A5 α}(h:p=K bs)(b:Kk bs t lim r')(a:M x p):Tm bs t lim False p M (.ok (x,p)) r':=⟨Cr _,OH h,a,AG ⟨id,h,b⟩⟩
theorem Tm.a0{e:J}(a:pl<=K bs)(b:p=K bs->pl=K bs):Tm bs t lim s p M (.error (e,pl))<|.error (e,pl):=⟨a,AF rfl,b⟩
def Tm.stop{e:J}{r':A5 α}(h:p=K bs)(a:Kk bs t lim r'):Tm bs t lim s p M (.error (e,(p:J))) r':=⟨E,AG ⟨E,a⟩,λ_=>E⟩
def Tm.ad{r r':A5 α}(h:Tm bs t lim s q M r r')(b:p<=q)(c:q<=K bs):Tm bs t lim s p M r r':=by
 rcases r with⟨e,d⟩|⟨x,y⟩
 .exact⟨h.1,h.2.1,λa=>h.2.2 E⟩
 exact⟨CE b h.1,h.2⟩
def Tm.any{r r1 r2:A5 α}(h:Tm bs t lim s (K bs) M r r1)(a:Kk bs t lim r2):Tm bs t lim False (K bs) M r r2:=by
 rcases r with⟨e,b⟩|⟨x,y⟩
 .exact⟨h.1,AG ⟨h.2.2 Z,a⟩,h.2.2⟩
 exact⟨h.1,h.2.1,h.2.2.1,AG ⟨id,Nat.le_antisymm h.2.1 h.1,a⟩⟩
def Tm.a2{M':α->I->Prop}{r r':A5 α}(h:Tm bs t lim s p M r r')(a:∀x q,p<=q->q<=K bs->M x q->M' x q):Tm bs t lim s p M' r r':=by
 rcases r with⟨e,b⟩|⟨x,y⟩
 .exact h
 exact⟨h.1,h.2.1,a x y h.1 h.2.1 h.2.2.1,h.2.2.2⟩
def Tm.ac{M2:β->I->Prop}{r r':A5 α}{R R':A5 β}(h:Tm bs t lim s p M r r')(m:∀e,r=.error e->R=.error e)(i:∀e,r'=.error e->R'=.error e)(n:∀x q,p<=q->q<=K bs->M x q->r=.ok (x,q)->∃f,(r'=.ok (x,q)->R'=f)/\Tm bs t lim False q M2 R f):Tm bs t lim False p M2 R R':=by
 rcases r with⟨e,u⟩|⟨x,q⟩
 .obtain⟨d,c,g⟩:=h;rw[m _ rfl];refine⟨d,?_,g⟩;rcases c with rfl|c
  .exact AF<|i _ Z
  exact AG ⟨c.1,λa b=>i _<|c.2 a b⟩
 obtain⟨d,c,g,l⟩:=h;obtain⟨f,k,j⟩:=n x q d c g rfl;rcases l with rfl|⟨_,rfl,o⟩
 .rw[k rfl];exact j.ad d c
 exact(j.any λa b=>i _<|o a b).ad d c
theorem Tm.a3{M2:β->I->Prop}{r r':A5 α}{R R':A5 β}(h:Tm bs t lim True p M r r')(i:∀e,r=.error e->R=.error e)(g:∀e,r'=.error e->R'=.error e)(k:∀x q,p<=q->q<=K bs->M x q->r=.ok (x,q)->r'=.ok (x,q)->Tm bs t lim s p M2 R R'):Tm bs t lim s p M2 R R':=by
 rcases r with⟨e,l⟩|⟨x,q⟩
 .obtain⟨d,c,f⟩:=h;rw[i _ rfl];refine⟨d,?_,f⟩;rcases c with rfl|c
  .exact AF<|g _ Z
  exact AG ⟨c.1,λa b=>g _<|c.2 a b⟩
 obtain⟨d,c,f,j⟩:=h;grind
def Y9(h:t≠[]):∃c,(bs++t)[K bs]?=H c:=by
 obtain _|⟨c,t⟩:=t
 .exact absurd Z h
 exact⟨c,Ba⟩
theorem Tm.aq{r0 r1:A5 α}{G G':AU->A5 α}(j:p<=K bs)(f:p=K bs->∀d,Kk bs t lim d->Tm bs t lim s p M r0 d)(h:∀c,bs[p]?=H c->p<K bs->Tm bs t lim s p M (G c) (G' c)):Tm bs t lim s p M (match(generalizing:=false) bs[p]? with|none=>r0|some c=>if(p:J)=lim then .error (8,(p:J))else G c)<|match(generalizing:=false) (bs++t)[p]? with|none=>r1|some c=>if(p:J)=lim then .error (8,(p:J))else G' c:=by
 by_cases i:p<K bs
 .grind [Tm.a0]
 have e:bs[p]?=Ao:=I7 E;obtain rfl:p=K bs:=E;rw[e];refine f Z _ λa b=>?_;obtain⟨c,g⟩:=Y9 b;rw[g];grind
def Tm.a6{G G':AU->A5 α}(b:p<=K bs)(h:∀c,bs[p]?=H c->p<K bs->Tm bs t lim s p M (G c) (G' c)):Tm bs t lim s p M (match(generalizing:=false) bs[p]? with|none=>.error (9,(p:J))|some c=>if(p:J)=lim then .error (8,(p:J))else G c)<|match(generalizing:=false) (bs++t)[p]? with|none=>.error (9,(p:J))|some c=>if(p:J)=lim then .error (8,(p:J))else G' c:=Tm.aq b (λe _ a=>Tm.stop e a) h
theorem Tm.ai{c:Prop}[Decidable c]{a b a' b':A5 α}(d:c->Tm bs t lim s p M a a')(e:¬c->Tm bs t lim s p M b b'):Tm bs t lim s p M (if c then a else b)<|if c then a' else b':=B9
end
theorem iG:∀(g a p:I),p<=K bs->K bs<g+p->K (bs++t)<a+p->Tm bs t lim False p (λ_ _=>True) (DW bs lim g p) (DW (bs++t) lim a p)
 |0,_,p,h1,h2,_=>E
 |g+1,0,p,h1,_,h3=>B9
 |g+1,a+1,p,h1,h2,h3=>by unfold DW;refine Tm.aq h1 (λe _ d=>Tm.a7 e d trivial) λc f b=>Tm.ai (λ_=>?_) λ_=>Tm.ok (Cr _) h1 trivial;exact(iG g a (p+1) b E E).ad E b
theorem Qy(h:p<=K bs):Tm bs t lim False p (λ_ _=>True) (DW bs lim (K bs+1-p) p)<|DW (bs++t) lim (K (bs++t)+1-p) p:=iG _ _ p h E E
theorem Ya(b:I)(z:AK):∀(g a p d:I),p<=K bs->K bs<g+p->K (bs++t)<a+p->Tm bs t lim False p (λ_ _=>True) (Ee bs lim b z g p d) (Ee (bs++t) lim b z a p d)
 |0,_,p,_,h1,h2,_=>E
 |g+1,0,p,_,h1,_,h3=>B9
 |g+1,a+1,p,d,h1,h2,h3=>by unfold Ee;refine Tm.aq h1 (λe _ h=>Tm.a7 e h trivial) λc i f=>Tm.ai (λ_=>Tm.ai (λ_=>Tm.a0 E E) λ_=>Tm.ai (λ_=>Tm.a0 E E) λ_=>?_) λ_=>Tm.ai (λ_=>Tm.a0 E E) λ_=>Tm.ok (Cr _) h1 trivial;exact(Ya b z g a (p+1) _ f E E).ad E f
theorem xf{c:AU}(h:p<=K bs):Tm bs t lim False p (λ_ _=>True) (GW ⟨Ao,bs,0,0,lim,p,0⟩ c)<|GW ⟨Ao,bs++t,0,0,lim,p,0⟩ c:=by
 unfold GW;refine Tm.ai (λ_=>Tm.a6 h λc e a=>Tm.ai (λ_=>?_) λ_=>Tm.a0 B9 E) λ_=>?_
 .refine Tm.ad (q:=p+1) ?_ E a;refine Tm.ac (Ya 9223372036854775808 (c.toNat==48) (K bs+1-(p+1)) (K (bs++t)+1-(p+1)) (p+1) (c.toNat-48) a E E) (λ_ z=>Bf) (λ_ z=>Bf) λx q _ b _ d=>⟨_,λz=>Bf,?_⟩;grind [Tm.ok]
 refine Tm.ac (Ya 9223372036854775807 (c.toNat==48) (K bs+1-p) (K (bs++t)+1-p) p (c.toNat-48) h E E) (λ_ z=>Bf) (λ_ z=>Bf) λx q _ b _ d=>⟨_,λz=>Bf,?_⟩;grind [Tm.ok]
theorem Pf:∀(a:A1) (p:I),p<=K bs->Tm bs t lim True p (λ_ q=>q=p+K a) (Dt bs lim a p) (Dt (bs++t) lim a p)
 |[],p,h=>Tm.ok (Cr _) h rfl
 |x::a,p,h=>by unfold Dt;refine Tm.a6 h λc d b=>Tm.ai (λ_=>?_) λ_=>Tm.a0 E E;exact((Pf a (p+1) b).a2 λ_ q _ _ e=>B9).ad E b
theorem Yb:∀(k p a:I),p<=K bs->Tm bs t lim True p (λ_ q=>q=p+k) (Ef bs lim k p a) (Ef (bs++t) lim k p a)
 |0,p,a,h=>Tm.ok (Cr _) h rfl
 |k+1,p,a,h=>by
  unfold Ef;refine Tm.a6 h λc f b=>?_;obtain _|d:=JF c
  .grind [Tm.a0]
  exact((Yb k (p+1) _ b).a2 λ_ q _ _ e=>E).ad E b
theorem xg(h:p<=K bs):Tm bs t lim True p (λ_ q=>p+4<=q) (IL bs lim p)<|IL (bs++t) lim p:=by unfold IL;refine Tm.a3 (Yb 4 p 0 h) (λ_ z=>Bf) (λ_ z=>Bf) λx q _ a e c b=>?_;rw[c,b];refine Tm.ai (λ_=>Tm.a0 E E) λ_=>Tm.ai (λ_=>?_) λ_=>Tm.ok E a E;refine Tm.ad (q:=q) ?_ E a;refine Tm.a3 (Pf [92,117] q a) (λ_ z=>Bf) (λ_ z=>Bf) λ_ f _ g d c b=>?_;rw[c,b];dsimp only;have d:f=q+2:=d;refine Tm.ad (q:=f) ?_ E g;grind [Tm.a3,Yb,Tm.ok,Tm.a0]
def xh(h:p<=K bs):Tm bs t lim True p (λ_ q=>p+1<=q) (Ia bs lim p)<|Ia (bs++t) lim p:=by
 unfold Ia;refine Tm.a6 h λc b a=>?_
 repeat' refine Tm.ai (λ_=>Tm.ok E a<|Cr _) λ_=>?_
 refine Tm.ai (λ_=>?_) λ_=>Tm.a0 E E;exact((xg a).a2 λ_ q _ _ e=>E).ad E a
theorem Uo:∀(g a p:I) (d:A1) (f:I),p<=K bs->K bs<g+p->K (bs++t)<a+p->Tm bs t lim True p (λl q=>K l+4*p+4<=K d+4*q) (DA bs lim g p d f) (DA (bs++t) lim a p d f)
 |0,_,p,_,_,h1,h2,_=>E
 |g+1,0,p,_,_,h1,_,h3=>B9
 |g+1,a+1,p,d,f,h1,h2,h3=>by
  unfold DA;refine Tm.a6 h1 λc m b=>Tm.ai (λ_=>Tm.ok E b E) λ_=>Tm.ai (λ_=>?_) λ_=>Tm.ai (λ_=>Tm.a0 E E) λ_=>Tm.ai (λ_=>Tm.a0 E E) λ_=>?_
  .refine Tm.ad (q:=p+1) ?_ E b;refine Tm.a3 (xh b) (λ_ z=>Bf) (λ_ z=>Bf) λr q _ h e k j=>?_;rw[k,j];dsimp only;refine Tm.ad (q:=q) ?_ E h;refine(Uo g a q _ _ h E E).a2 λl y _ _ i=>?_;grind [Rr]
  refine((Uo g a (p+1) _ _ b E E).a2 λl y _ _ i=>?_).ad E b;grind
def DJ:AH->A2->AH
 |0,_=>0
 |k+1,d=>match d with
  |.agg ds=>200+(ds.map λd=>30+DJ k d).sum
  |.map es=>200+(es.map λe=>100+6*At (D9 e.1)+DJ k e.2).sum
  |.lit (.string l)=>200+6*At l
  |.ptr (.lit<|.string l)=>200+6*At l
  |_=>200
def Kq(p:AH)(d:A2)(q:AH):Prop:=∀k,DJ k d+30+400*p<=400*q/\F8 k d
def JL(ds:AJ<|AM Unit):Prop:=∀d∈ds,∀k,F8 k d
def JE(es:AJ<|Lit×AM Unit):Prop:=∀e∈es,FK (D9 e.1)/\∀k,F8 k e.2
def Mc(bs t:A1)(lim:AI)(rd rd':AH->AS (AI×AI) (AM Unit×AH)):Prop:=∀p,p<=At bs->Tm bs t lim False p (Kq p) (rd p) (rd' p)
def Hb(k:AH)(ds:AJ<|AM Unit):AH:=(ds.map λd=>30+DJ k d).sum
def GL(k:AH)(es:AJ<|Lit×AM Unit):AH:=(es.map λe=>100+6*At (D9 e.1)+DJ k e.2).sum
theorem Yc(k:I)(ds:AJ<|AM Unit)(d:A2):Hb k (ds++[d])=Hb k ds+(30+DJ k d):=by unfold Hb;simp
theorem iH(k:I)(es:AJ<|Lit×AM Unit)(l:A1)(d:A2):GL k (es++[(.string l,d)])=GL k es+(100+6*K l+DJ k d):=by unfold GL;simp[D9]
def Kr{α:Type}(μ:AH->α->AH)(J:α->Prop)(a:α)(p:AH)(b:α)(q:AH):Prop:=(∀k,μ k b+400*p<=μ k a+400*q)/\(J a->J b)
theorem iI{α:Type}{lim:AI}{μ:I->α->I}{J:α->Prop}{itF itF':α->I->A5 α}{last:I}(hi:∀a p,p<=K bs->Tm bs t lim False p (Kr μ J a p) (itF a p) (itF' a p)):∀(g j p:I) (d:α),p<=K bs->K bs<g+p->K (bs++t)<j+p->Tm bs t lim False p (Kr μ J d p) (FU bs lim itF last g p d) (FU (bs++t) lim itF' last j p d)
 |0,_,p,_,h1,h2,_=>E
 |g+1,0,p,_,h1,_,h3=>B9
 |g+1,j+1,p,d,h1,h2,h3=>by unfold FU;refine Tm.ac (Qy h1) (λ_ z=>Bf) (λ_ z=>Bf) λ_ r u n _ f=>⟨_,λz=>Bf,?_⟩;rw[f];dsimp only;refine Tm.ac (hi d r n) (λ_ z=>Bf) (λ_ z=>Bf) λm A v o i f=>⟨_,λz=>Bf,?_⟩;rw[f];dsimp only;refine Tm.ac (Qy o) (λ_ z=>Bf) (λ_ z=>Bf) λ_ s w q _ f=>⟨_,λz=>Bf,?_⟩;rw[f];dsimp only;refine Tm.a6 q λc x l=>Tm.ai (λ_=>Tm.ok E l ⟨λk=>AY<|i.1 k,i.2⟩) λ_=>Tm.ai (λ_=>?_) λ_=>Tm.a0 E E;exact((iI hi g j (s+1) m l E E).a2 λb y _ _ e=>⟨λk=>B3 (e.1 k)<|i.1 k,λh=>e.2<|i.2 h⟩).ad E l
def iJ{α:Type}{lim:AI}{μ:I->α->I}{J:α->Prop}{itF itF':α->I->A5 α}(last:I)(hi:∀a p,p<=K bs->Tm bs t lim False p (Kr μ J a p) (itF a p) (itF' a p))(acc:α)(h:p<=K bs):Tm bs t lim False p (Kr μ J acc p) (Gp bs lim itF last p acc)<|Gp (bs++t) lim itF' last p acc:=by unfold Gp;refine Tm.ac (Qy h) (λ_ z=>Bf) (λ_ z=>Bf) λ_ d m g _ l=>⟨_,λz=>Bf,?_⟩;rw[l];dsimp only;have f:Tm bs t lim False d (Kr μ J acc p) (FU bs lim itF last (K bs+1-d) d acc)<|FU (bs++t) lim itF' last (K (bs++t)+1-d) d acc:=(iI hi _ _ d acc g E E).a2 λb y _ _ e=>⟨λk=>AY<|e.1 k,e.2⟩;refine Tm.aq g (λe o i=>?_) λc n j=>Tm.ai (λ_=>Tm.ok E j ⟨λk=>E,id⟩) λ_=>f;subst e;exact f.any i
theorem xi(b:Mc bs t lim rd rd')(ds:AJ<|AM Unit)(p:I)(h:p<=K bs):Tm bs t lim False p (Kr Hb JL ds p) (G7 rd ds p)<|G7 rd' ds p:=by unfold G7;refine Tm.ac (b p h) (λ_ z=>Bf) (λ_ z=>Bf) λd q _ a e c=>⟨_,λz=>Bf,?_⟩;rw[c];refine Tm.ok (Cr _) a ⟨λk=>by have:=e k;rw[Yc];omega,λh x f k=>by grind [JL,Kq]⟩
theorem xj{ks:AJ A1}(h:p<=K bs):Tm bs t lim True p (λl q=>FK l/\K l+4*p+8<=4*q) (Jk bs lim ks p)<|Jk (bs++t) lim ks p:=by unfold Jk;refine Tm.a3 (Pf [34] p h) (λ_ z=>Bf) (λ_ z=>Bf) λ_ q _ b e a c=>?_;rw[a,c];dsimp only;have e:q=p+1:=e;refine Tm.ad (q:=q) ?_ E b;refine Tm.a3 (Uo (K bs+1-q) (K (bs++t)+1-q) q [] 0 b E E) (λ_ z=>Bf) (λ_ z=>Bf) λl r _ g d a c=>?_;have f:=(Um bs lim _ _ [] 0 _ _ (Cr 0) FK.nil Z a).1;grind [Tm.a0,Tm.ok]
def iK(k:AH)(a:AJ A1×AJ (Lit×AM Unit)):AH:=GL k a.2
theorem xk(m:Mc bs t lim rd rd')(a:AJ A1×AJ (Lit×AM Unit))(p:I)(h:p<=K bs):Tm bs t lim False p (Kr iK (λa=>JE a.2) a p) (FF bs lim rd a p)<|FF (bs++t) lim rd' a p:=by
 unfold FF;refine Tm.ac (xj h) (λ_ z=>Bf) (λ_ z=>Bf) λl s _ e q b=>⟨_,λz=>Bf,?_⟩;rw[b];dsimp only;refine Tm.ac (Qy e) (λ_ z=>Bf) (λ_ z=>Bf) λ_ n _ f _ b=>⟨_,λz=>Bf,?_⟩;rw[b];dsimp only;refine Tm.ac (Pf [58] n f) (λ_ z=>Bf) (λ_ z=>Bf) λ_ u _ g _ b=>⟨_,λz=>Bf,?_⟩;rw[b];dsimp only;refine Tm.ac (Qy g) (λ_ z=>Bf) (λ_ z=>Bf) λ_ o _ i _ b=>⟨_,λz=>Bf,?_⟩;rw[b];dsimp only;refine Tm.ac (m o i) (λ_ z=>Bf) (λ_ z=>Bf) λd v _ j c b=>⟨_,λz=>Bf,?_⟩;rw[b];refine Tm.ok (Cr _) j ⟨λk=>?_,λh x r=>?_⟩
 .have:=c k;grind [iK,iH]
 grind [JE,D9,Kq]
def O8(h:∀k,DJ (k+1) d=200)(a:∀k,F8 k d)(b:p<q):Kq p d q:=λk=>by
 refine⟨?_,a k⟩;obtain _|k:=k
 .show 0+30+_<=_;omega
 rw[h k];omega
theorem iL(h:FK l)(a:K l+4*(p+1)<=4*q):Kq p (.lit<|.string l) q:=λk=>by
 refine⟨?_,xe h k⟩;obtain _|k:=k
 .show 0+30+_<=_;omega
 show 200+6*K l+30+_<=_;omega
theorem xl(a:K l+4*(p+1)<=4*q):Kq p (.ptr<|.lit<|.string l) q:=λk=>by
 refine⟨?_,xd k⟩;obtain _|k:=k
 .show 0+30+_<=_;omega
 show 200+6*K l+30+_<=_;omega
theorem iM(e:p<r)(c:r<=q)(h:Kr Hb JL [] r ds q):Kq p (.agg ds) q:=λk=>by
 have a:=h.2 nofun
 obtain _|k:=k
 .exact⟨by show 0+30+_<=_;omega,trivial⟩
 have:=h.1 k;refine⟨?_,λd b=>a d b k⟩;show 200+Hb k ds+30+_<=_;grind [Hb]
theorem iN(d:p<r)(c:r<=q)(h:Kr GL JE [] r es q):Kq p (.map es) q:=λk=>by
 have a:=h.2 nofun
 obtain _|k:=k
 .exact⟨by show 0+30+_<=_;omega,trivial⟩
 have:=h.1 k;refine⟨?_,λe b=>⟨(a e b).1,(a e b).2 k⟩⟩;show 200+GL k es+30+_<=_;grind [GL]
theorem xm(bs t:A1)(lim depth:J)(g:I)(i:¬(g:J)=depth->Mc bs t lim rd rd')(c:AU)(p:I)(h:p+1<=K bs):Tm bs t lim False p (Kq p) (Kg bs lim depth g rd (λc p=>GW ⟨Ao,bs,0,0,lim,p,0⟩ c) c<|p+1)<|Kg (bs++t) lim depth g rd' (λc p=>GW ⟨Ao,bs++t,0,0,lim,p,0⟩ c) c<|p+1:=by
 unfold Kg;refine Tm.ai (λ_=>?_) λ_=>Tm.ai (λ_=>?_) λ_=>Tm.ai (λ_=>?_) λ_=>Tm.ai (λ_=>?_) λ_=>Tm.ai (λ_=>?_) λ_=>Tm.ai (λ_=>?_) λ_=>Tm.ai (λo=>?_) λ_=>?_
 .refine Tm.ad (q:=p+1) ?_ E h;refine Tm.ac (Pf _ (p+1) h) (λ_ z=>Bf) (λ_ z=>Bf) λ_ q d b _ a=>⟨_,λz=>Bf,?_⟩;rw[a];refine Tm.ok (Cr _) b<|O8 (λ_=>rfl) iF E
 .refine Tm.ad (q:=p+1) ?_ E h;refine Tm.ac (Pf _ (p+1) h) (λ_ z=>Bf) (λ_ z=>Bf) λ_ q d b _ a=>⟨_,λz=>Bf,?_⟩;rw[a];refine Tm.ok (Cr _) b<|O8 (λ_=>rfl) (λk=>Un k) E
 .refine Tm.ad (q:=p+1) ?_ E h;refine Tm.ac (Pf _ (p+1) h) (λ_ z=>Bf) (λ_ z=>Bf) λ_ q d b _ a=>⟨_,λz=>Bf,?_⟩;rw[a];refine Tm.ok (Cr _) b<|O8 (λ_=>rfl) (λk=>Un k) E
 .refine Tm.ad (q:=p+1) ?_ E h;refine Tm.ac (Uo (K bs+1-(p+1)) (K (bs++t)+1-(p+1)) (p+1) [] 0 h E E) (λ_ z=>Bf) (λ_ z=>Bf) λl q d b e a=>⟨_,λz=>Bf,?_⟩;have n:=(Um bs lim _ _ [] 0 _ _ (Cr 0) FK.nil Z a).1;grind [Tm.ok,iL]
 .refine Tm.ai (λ_=>Tm.a0 E E) λf=>?_;refine Tm.ad (q:=p+1) ?_ E h;refine Tm.ac (iJ 93 (xi<|i f) [] h) (λ_ z=>Bf) (λ_ z=>Bf) λj q d b e a=>⟨_,λz=>Bf,?_⟩;rw[a];refine Tm.ok (Cr _) b<|iM (VY p) d e
 .refine Tm.ai (λ_=>Tm.a0 E E) λf=>?_;refine Tm.ad (q:=p+1) ?_ E h;refine Tm.ac (iJ 125 (xk<|i f) ([],[]) h) (λ_ z=>Bf) (λ_ z=>Bf) λm q d b e a=>⟨_,λz=>Bf,?_⟩;rw[a];refine Tm.ok (Cr _) b<|iN (VY p) d e
 .dsimp only;refine Tm.ad (q:=p+1) ?_ E h;refine Tm.ac (xf h) (λ_ z=>Bf) (λ_ z=>Bf) λz q d b _ a=>⟨_,λz=>Bf,?_⟩;rw[a];refine Tm.ok (Cr _) b (O8 (λ_=>rfl) (iE (X4 (by assumption) a).1) E)
 grind [Tm.a0]
theorem xn(g:I):∀(a:I),(a:J)<=depth->depth<a+g->Mc bs t lim (Fw bs lim depth (λc p=>GW ⟨Ao,bs,0,0,lim,p,0⟩ c) g a) (Fw (bs++t) lim depth (λc p=>GW ⟨Ao,bs++t,0,0,lim,p,0⟩ c) g a):=by
 induction g with
 |zero=>intro a b d;omega
 |succ g i =>
  intro a b d p e;unfold Fw;refine Tm.a6 e λc f h=>?_;grind [xm]
def Yd:∀(k p a:I),p<=K bs->Tm bs t lim True p (λ_ q=>q=p+k) (CZ bs lim k p a) (CZ (bs++t) lim k p a)
 |0,p,a,h=>Tm.ok (Cr _) h rfl
 |k+1,p,a,h=>by unfold CZ;refine Tm.a6 h λc d b=>?_;exact((Yd k (p+1) _ b).a2 λ_ q _ _ e=>E).ad E b
theorem iO:∀(k p:I) (b:A1),p<=K bs->Tm bs t lim True p (λl q=>K l+p=K b+q) (EV bs lim k p b) (EV (bs++t) lim k p b)
 |0,p,a,h=>Tm.ok (Cr _) h rfl
 |k+1,p,b,h=>by unfold EV;refine Tm.a6 h λc f d=>?_;refine((iO k (p+1) _ d).a2 λ_ q _ _ e=>?_).ad E d;grind
theorem Ye{p0:I}:∀(k p:I) (d:A1) (f:I),p0<=p->p<=K bs->(p0=p->f=K d)->Tm bs t lim True p0 (λl q=>K l+p=K d+q) (Ds bs lim k p d f) (Ds (bs++t) lim k p d f)
 |0,p,d,f,h0,h,hw=>by grind [Ds,Tm.ok,Tm.a0]
 |k+1,p,d,f,h0,h,hw=>by
  unfold Ds;by_cases i:p<K bs
  .have e:(bs++t)[p]?=bs[p]?:=Hh i;obtain⟨c,g⟩:∃c,bs[p]?=H c:=⟨_,D7 i⟩
   rw[e,g];refine Tm.ai (λ_=>Tm.a0 E E) λ_=>Tm.ai (λ_=>Tm.a0 E E) λ_=>?_;refine(Ye k (p+1) _ _ E i E).a2 λl q _ _ e=>?_;grind
  have e:bs[p]?=Ao:=I7 E;obtain rfl:p=K bs:=E;rw[e];refine⟨E,AG ⟨E,λa b=>?_⟩,λ_=>E⟩;obtain⟨c,g⟩:=Y9 b;rw[g];grind
theorem xo(b:I->I×I×I)(bs t:A1)(lim:J)(ks:AJ A1)(p:I)(h:p<=K bs):Tm bs t lim True p (λl q=>FK l/\K l+p+1<=q) (El b bs lim ks p)<|El b (bs++t) lim ks p:=by unfold El;refine Tm.a6 h λc k d=>Tm.ai (λ_=>?_) λ_=>Tm.a0 E E;refine Tm.a3 ((Yd _ (p+1) _ d).ad (OK p) d) (λ_ z=>Bf) (λ_ z=>Bf) λx q _ g e a f=>?_;rw[a,f];dsimp only;refine Tm.a3 (Ye x q [] 0 E g λ_=>rfl) (λ_ z=>Bf) (λ_ z=>Bf) λl r _ m i a f=>?_;have j:=(Y8 bs lim _ _ [] 0 _ _ (Cr 0) FK.nil Z a).1;grind [Tm.a0,Tm.ok]
theorem iP(c:Mc bs t lim rd rd'):∀(k p:I) (acc:AJ<|AM Unit),p<=K bs->Tm bs t lim False p (Kr Hb JL acc p) (GY rd k p acc) (GY rd' k p acc)
 |0,p,acc,h=>Tm.ok (Cr _) h ⟨λ_=>Cr _,id⟩
 |k+1,p,acc,h=>by
  unfold GY;refine Tm.ac (c p h) (λ_ z=>Bf) (λ_ z=>Bf) λd q _ f e g=>⟨_,λz=>Bf,?_⟩;rw[g];dsimp only;refine(iP c k q _ f).a2 λb y _ _ a=>⟨λj=>?_,λh=>a.2 λx m j=>?_⟩
  .have i:=e j;have l:=a.1 j;grind [Yc]
  grind [JL,Kq]
theorem iQ{kf kf':AJ A1->I->A5 A1}(g:∀a p,p<=K bs->Tm bs t lim True p (λl q=>FK l/\K l+p+1<=q) (kf a p) (kf' a p))(i:Mc bs t lim rd rd'):∀(k p:I) (a:AJ A1) (acc:AJ<|Lit×AM Unit),p<=K bs->Tm bs t lim False p (Kr GL JE acc p) (GK kf rd k p a acc) (GK kf' rd' k p a acc)
 |0,p,a,acc,h=>Tm.ok (Cr _) h ⟨λ_=>Cr _,id⟩
 |k+1,p,a,acc,h=>by
  unfold GK;refine Tm.ac (g a p h) (λ_ z=>Bf) (λ_ z=>Bf) λl q _ m o c=>⟨_,λz=>Bf,?_⟩;rw[c];dsimp only;refine Tm.ac (i q m) (λ_ z=>Bf) (λ_ z=>Bf) λd r _ n e c=>⟨_,λz=>Bf,?_⟩;rw[c];dsimp only;refine(iQ g i k r _ _ n).a2 λb y _ _ f=>⟨λj=>?_,λh=>f.2 λx v=>?_⟩
  .have s:=e j;have u:=f.1 j;grind [iH]
  grind [JE,D9,Kq]
theorem Yf(a:J){w:J}{x:I}(b:p<q)(c:q<=K bs){R:AS (J×J)<|AM Unit×I}(h:R=match FE a w x q with|.error e=>.error e|.ok z=>.ok (.lit<|.int Y z,q)):Tm bs t lim False p (Kq p) R R:=by
 rw[h];rcases e:FE a w x q with f|z
 .grind [FE,Tm.a0]
 exact Tm.ok E c<|O8 (λ_=>rfl) (iE<|du e) b
theorem xp(bs t:A1)(lim:J){li li':I->I->AS (J×J) (AJ (AM Unit)×I)}{ma ma':I->I->AS (J×J) (AJ (Lit×AM Unit)×I)}(d w x p q:I)(b:p<q)(a:q<=K bs)(hl:d=9->Tm bs t lim False q (Kr Hb JL [] q) (li x q) (li' x q))(h:d=10->Tm bs t lim False q (Kr GL JE [] q) (ma x q) (ma' x q)):Tm bs t lim False p (Kq p) (Gn bs lim li ma d w x q)<|Gn (bs++t) lim li' ma' d w x q:=by
 unfold Gn;split
 .exact Tm.ok E a<|O8 (λ_=>rfl) (λk=>Un k) b
 .exact Tm.ok E a<|O8 (λ_=>rfl) (λk=>Un k) b
 .exact Yf 4 b a Z
 .exact Yf 5 b a Z
 .exact Yf 6 b a Z
 .refine Tm.ad (q:=q) ?_ E a;refine Tm.ac (iO x q [] a) (λ_ z=>Bf) (λ_ z=>Bf) λl r f g e c=>⟨_,λz=>Bf,?_⟩;grind [Tm.ok,xl]
 .refine Tm.ad (q:=q) ?_ E a;refine Tm.ac (Ye x q [] 0 (Cr _) a λ_=>rfl) (λ_ z=>Bf) (λ_ z=>Bf) λl r f g e c=>⟨_,λz=>Bf,?_⟩;have m:=(Y8 bs lim _ _ [] 0 _ _ (Cr 0) FK.nil Z c).1;grind [Tm.ok,iL]
 .refine Tm.ad (q:=q) ?_ E a;refine Tm.ac (hl Z) (λ_ z=>Bf) (λ_ z=>Bf) λi r f g e c=>⟨_,λz=>Bf,?_⟩;grind [Tm.ok,iM]
 .refine Tm.ad (q:=q) ?_ E a;refine Tm.ac (h Z) (λ_ z=>Bf) (λ_ z=>Bf) λj r f g e c=>⟨_,λz=>Bf,?_⟩;grind [Tm.ok,iN]
 exact Tm.ok E a<|O8 (λ_=>rfl) iF b
theorem iR(b:I->I×I×I)(g:I):∀(a:I),(a:J)<=depth->depth<a+g->Mc bs t lim (DR b bs lim depth g a) (DR b (bs++t) lim depth g a):=by
 induction g with
 |zero=>intro a f h;omega
 |succ g s =>
  intro a f h p i;unfold DR;refine Tm.a6 i λc l d=>Tm.ai (λ_=>Tm.a0 E E) λ_=>Tm.ai (λ_=>Tm.a0 E E) λn=>?_;have k:(b c.toNat).1=9\/(b c.toNat).1=10->Mc bs t lim (DR b bs lim depth g<|a+1) (DR b (bs++t) lim depth g<|a+1):=λj=>B9;refine Tm.a3 ((Yd _ (p+1) _ d).ad (OK p) d) (λ_ z=>Bf) (λ_ z=>Bf) λx q _ m e r o=>?_;grind [xp,iP,iQ,xo]
def Up(n:AH)(r:AS (AI×AI)<|AM Unit):AS (AI×AI)<|AM Unit×AH:=match r with
 |.error e=>.error e
 |.ok d=>.ok (d,n)
def xr{sp sp':I->A5 Unit}{th th':I->AS (J×J) (AM Unit×I)}(m:∀p,p<=K bs->Tm bs t lim False p (λ_ _=>True) (sp p) (sp' p))(q:Mc bs t lim th th'):Tm bs t lim False 0 (λd _=>∀k,DJ k d+30<=400*K bs/\F8 k d) (Up (K bs)<|M6 sp th bs lim)<|Up (K<|bs++t)<|M6 sp' th' (bs++t) lim:=by
 unfold M6;refine Tm.ac (m 0<|Ex _) (λ_ z=>keB) (λ_ z=>keB) λ_ r _ n _ g=>⟨_,λz=>Bf,?_⟩;rw[g];dsimp only;refine Tm.ac (q r n) (λ_ z=>keB) (λ_ z=>keB) λd s _ o i g=>⟨_,λz=>Bf,?_⟩;rw[g];dsimp only;refine Tm.ac (m s o) (λ_ z=>keB) (λ_ z=>keB) λ_ f _ u _ g=>⟨_,λz=>Bf,?_⟩;rw[g];dsimp only;unfold Lj;dsimp only;by_cases l:f<K bs
 .have e:(bs++t)[f]?=bs[f]?:=Hh l;obtain⟨c,h⟩:∃c,bs[f]?=H c:=⟨_,D7 l⟩
  rw[e,h];dsimp only;by_cases j:(f:J)=lim
  .rw[Cp j];exact Tm.a0 E E
  rw[Cl j];exact Tm.a0 E E
 have e:bs[f]?=Ao:=I7 E;obtain rfl:f=K bs:=E;rw[e];refine⟨Cr _,Cr _,λk=>⟨AY<|(i k).1,(i k).2⟩,AG ⟨id,Z,λa b=>?_⟩⟩;obtain⟨c,h⟩:=Y9 b;rw[h];subst a;dsimp only;rw[Cp rfl];rfl
def xt(fm:J)(t:A1){d:J}(lim:J)(b:0<=d):Mc bs t lim (Ev fm bs d lim)<|Ev fm (bs++t) d lim:=λp a=>by unfold Ev;exact Tm.ai (λ_=>xn (d.toNat+1) 0 E E p a) λ_=>Tm.ai (λ_=>iR E7 (d.toNat+1) 0 E E p a) λ_=>iR DD (d.toNat+1) 0 E E p a
theorem Yg(fm:J)(bs t:A1){d:J}(lim:J)(a:0<=d):Tm bs t lim False 0 (λd _=>∀k,DJ k d+30<=400*K bs/\F8 k d) (Up (K bs)<|DE fm bs d lim)<|Up (K<|bs++t)<|DE fm (bs++t) d lim:=by unfold DE;refine xr (λp b=>?_)<|xt fm t lim a;grind [JM,Qy,Tm.ok]
def iS(t:A1){d:J}(b:0<=d){en:J}(h:DE fm bs d lim=.error (en,pl))(c:¬pl=K bs):pl<K bs/\DE fm (bs++t) d lim=.error (en,pl):=by
 have:=Yg fm bs t lim b;rw[h]at this;obtain⟨f,a,_⟩:=this;rcases a with a|a
 .refine⟨E,?_⟩;rcases h3:DE fm (bs++t) d lim with e|d
  .rw[h3]at a;cases a;rfl
  rw[h3]at a;cases a
 exact absurd a.1 c
def Qz{d:J}(a:0<=d){x:A2}(h:DE fm bs d lim=.ok x)(k:I):DJ k x+30<=400*K bs/\F8 k x:=by have:=Yg fm bs [] lim a;rw[h]at this;exact this.2.2.1 k
def xu{d:J}(a:0<=d){x:A2}(h:DE fm bs d lim=.ok x):DJ k x+30<=400*K bs:=(Qz a h k).1
theorem iT{s:A1}{d:J}(i:0<=d)(hl:0<=lim)(h:lim.toNat<K s):∃g c,DE fm (s.take<|lim.toNat+1) d lim=.error (g,c)/\c<=lim:=by
 have j:K (s.take lim.toNat)=lim.toNat:=B9;have:=Yg fm (s.take lim.toNat) [s[lim.toNat]] lim i;rw[List.take_append_getElem]at this;have b:lim=K (s.take lim.toNat):=E;have k:K (s.take<|lim.toNat+1)=lim.toNat+1:=B9;rcases h3:DE fm (s.take<|lim.toNat+1) d lim with e|x
 .refine⟨e.1,e.2,Z,?_⟩;rw[h3]at this;rcases h4:DE fm (s.take lim.toNat) d lim with f|x
  .rw[h4]at this;rcases this.2.1 with a|⟨_,a⟩
   .cases a;have:=this.1;omega
   cases a b Ba;exact OI _
  rw[h4]at this;rcases this.2.2.2 with a|⟨_,_,a⟩
  .cases a
  cases a b Ba;exact OI _
 rw[h3]at this;rcases h4:DE fm (s.take lim.toNat) d lim with f|x
 .rw[h4]at this;rcases this.2.1 with a|⟨_,a⟩
  .cases a
  cases a b Ba
 rw[h4]at this;rcases this.2.2.2 with a|⟨_,_,a⟩
 .injection a with a;grind
 cases a b Ba
theorem iU(fm:J)(s:A1)(d lim:J)(a:0<=d)(hl:0<=lim):DE fm (s.take<|lim.toNat+1) d lim=DE fm s d lim:=by
 by_cases h:K s<=lim.toNat+1
 .rw[Nt h]
 obtain⟨c,f,b,e⟩:=iT (fm:=fm) (s:=s) a hl E;have:=iS (s.drop<|lim.toNat+1) a b B9;simp_all
structure QA(W:Ap)(v:Aq)(cur:A1)(V:Ap):Prop where
 a0:Cn V (_root_.Array.size (Go.World.heap W)) v cur
 ac:A0 W V
def QA.ai(h:QA W v cur V)(a:Cn V' (O<|U W) v'<|cur++l)(hb:Below (O<|U W) V V'):QA W v' (cur++l) V':=⟨a,h.ac.trans hb⟩
def xv{b:I}(h:Cn W b v l):Cn {W with drawn:=W.drawn+1} b v l:=h
theorem iV(W:X)(hl:K l<=150000000):Ar As 119 #[Ae ⟨Aw l⟩] W<|Eg (qT l) W:=by
 obtain⟨R,y⟩:=CC<|qT l;rw[AE y];have ae:D<|QA W (G (Aa<|O<|U W) 1 1) [34]<|Az W<|M #[C Am 34] 5:=by refine⟨⟨⟨Z,AG ⟨O<|U W,1,#[C Am 34],Z,Cr _,Cj _,Cr _,B8,Z,Z⟩⟩,Ba,_,_,_,Z⟩,Cm⟩
 go_enter func119,ntmps119;go_wp2
 go_loopg[3,4] (K l) (λg zv zi wr=>∃(i:I) (a:A4) (n c:I) (f:A1),zv=G a n c/\zi=C Y i/\D (i+g=K l)/\D (f=[34]++(l.take i).flatMap qB)/\D (QA W (G a n c) f wr))
 grind [D];obtain⟨i,a,n,c,f,rfl,rfl,s,aa,k⟩:=hrel;have af:K f<=6*i+1:=by grind [D,Y6]
 have ag:i<=K l:=AY<|AE s;obtain _|g:=gk
 .have ad:¬(i:J)<(K l:J):=AY<|AE s;have L:D<|f++[34]=R:=by show _=_;rw[<-AE y,AE aa,Nt<|AY<|AE s];rfl
  go_wp2_with(first|(at_builtin;refine Y5 53 54 [34] Z Z Z Z Z k.a0 B7 B8 ?_;intro q t r u j m;have ab:=wZ j Ba;rw[AE L]at ab;have o:=T<|k.ai j m))
  go_ret;exact⟨Z,o.ac⟩
 have ad:(i:J)<(K l:J):=AY<|AE s;obtain⟨b,hb⟩:∃b,l[i]?=H b:=⟨_,D7<|AY<|AE s⟩
 have ac:=Et hb;have HN:D<|f++qB b=[34]++(l.take<|i+1).flatMap qB:=by grind [D,S8]
 by_cases h1:b.toNat=34\/b.toNat=92
 .have p:D<|f++[92,b]=[34]++(l.take<|i+1).flatMap qB:=kfw;have d:(((b.toNat:J)==34)=AP)\/(((b.toNat:J)==34)=AQ/\((b.toNat:J)==92)=AP):=B9;rcases d with z|⟨z,Q⟩
  all_goals
   go_wp2_with(first|(at_builtin;refine Y5 29 33 [92,b] Z Z Z Z Z k.a0 B7 Ba ?_;intro q t r u j m;have o:=T<|k.ai j m))
   go_roundg g;exact⟨i+1,_,_,_,_,Z,Bb,B9,p,o⟩;omega
 have z:((b.toNat:J)==34)=AQ:=B7;have Q:((b.toNat:J)==92)=AQ:=B7;by_cases h2:b.toNat<32
 .have p:D<|f++[92,117,48,48,Ep<|b.toNat/16,Ep<|b.toNat%16]=[34]++(l.take<|i+1).flatMap qB:=kfw;have d3:(b.toNat:J)<32:=E;have F:D<|IntKind.u8.wrap ((b.toNat:J).tdiv 16)=((b.toNat/16:I):J):=by grind [D,w8]
  have N:D<|(b.toNat:J).tmod 16=(b.toNat:J)%16:=ZS E;have w:=T ac;have A:=T λV=>iA (b.toNat/16) E V;have B:=T λV=>iA (b.toNat%16) E V
  go_wp2_with fail
  refine Dl (S:=λ_=>True) trivial B6 λe=>Cb 0 40 (G a n c) e <| Cb 1 41 (Ae ⟨Aw l⟩) e <| Cb 2 42 (C Y i) e <| Ch 3 43 (C Am b.toNat) Z (λh _=>Qx (.tmp 41) (.tmp 42) Z B6 B6<|w h) e <| Ch 4 44 (C Am ((b.toNat/16:I):J)) Z (λh _=>by go_simp<;>exact F) e ?_;refine Ch 5 45 (C Am (Ep<|b.toNat/16).toNat) Z (λh _=>Qx (.const<|Ae ⟨#[48,49,50,51,52,53,54,55,56,57,97,98,99,100,101,102]⟩) (.tmp 44) Z B6 B6<|A h) e <| Cb 6 46 (Ae ⟨Aw l⟩) e <| Cb 7 47 (C Y i) e <| Ch 8 48 (C Am b.toNat) Z (λh _=>Qx (.tmp 46) (.tmp 47) Z B6 B6<|w h) e <| Ch 9 49 (C Am ((b.toNat%16:I):J)) Z (λh _=>by go_simp<;>exact N) e ?_;refine Ch 10 50 (C Am (Ep<|b.toNat%16).toNat) Z (λh _=>Qx (.const<|Ae ⟨#[48,49,50,51,52,53,54,55,56,57,97,98,99,100,101,102]⟩) (.tmp 49) Z B6 B6<|B h) e ?_;generalize Ep (b.toNat/16)=x1 at *;generalize Ep (b.toNat%16)=x2 at *;refine CH 11 λP v=>?_;go_simp;refine v.out _ _ e λ_=>?_;refine CH 12 λP v=>?_;rw[Cp B6];refine iz (x:=40) (l:=[92,117,48,48,x1,x2]) Z Z Z Z (xv k.a0) B7 Ba ?_;intro q t r u j m;refine v.out _ _ e λ_=>?_;refine Cb 13 3 (G q t r) e <| CK ?_;have o:D<|QA W (G q t r) (f++[92,117,48,48,x1,x2]) u:=⟨j,k.ac.drew.trans m⟩
  go_wp2;go_roundg g;exact⟨i+1,_,_,_,_,Z,Bb,B9,p,o⟩;omega
 have p:D<|f++[b]=[34]++(l.take<|i+1).flatMap qB:=kfw;have d3:¬(b.toNat:J)<32:=E
 go_wp2_with(first|(at_builtin;refine Y5 12 16 [b] Z Z Z Z Z k.a0 B7 Ba ?_;intro q t r u j m;have o:=T<|k.ai j m))
 go_roundg g;exact⟨i+1,_,_,_,_,Z,Bb,B9,p,o⟩;omega
theorem Yh(x:I)(h:x<=9):(_root_.UInt8.ofNat<|48+x).toNat=48+x:=Hz E
theorem iW(d : -9<=z)(e:z<=9):Ar As 118 #[C Y z] W<|Eg (Lib.itoa z) W:=by
 have i:AR (-9<=z)=AP:=keo;have j:AR (z<=9)=AP:=kf8;by_cases a:z<0
 .have g:AR (z<0)=AP:=Bl;obtain⟨b,f⟩:=DF<|_root_.UInt8.ofNat<|48+z.natAbs;have h:=JS W (wrap64 (48-z)%256) b (by grind [Yh,wrap64]);have c:D<|Lib.itoa z=[45,b]:=by grind [D,Lib.itoa,Lib.decDigits]
  clear d e a f;go_enter func118,ntmps118;go_wp2;go_ret;unfold Eg;rw[AE c];exact⟨Z,Cm⟩
 have g:AR (z<0)=AQ:=Bl;obtain⟨b,f⟩:=DF<|_root_.UInt8.ofNat<|48+z.toNat;have h:=JS W (wrap64 (48+z)%256) b (by grind [Yh,wrap64]);have c:D<|Lib.itoa z=[b]:=by grind [D,Lib.itoa,Lib.decDigits]
 clear d e a f;go_enter func118,ntmps118;go_wp2;go_ret;unfold Eg;rw[AE c];exact⟨Z,Cm⟩
theorem xw(z:J)(h:9<z\/z < -9):Lib.itoa z=Lib.itoa (z.tdiv 10)++[_root_.UInt8.ofNat<|48+z.natAbs%10]:=by
 rcases h with h|h
 .grind [Lib.itoa,Lib.decDigits]
 have e:z.tdiv 10 = -((-z)/10):=B9;grind [Lib.itoa,Lib.decDigits]
theorem iX(z:J):z.tdiv 10=if 0<=z then z/10 else -(-z/10):=B9
theorem xy(B:9<z\/z < -9)(r : -9223372036854775808<=z)(s:z<=9223372036854775807)(F:∀V,Ar As 118 #[C Y<|z.tdiv 10] V<|Eg (Lib.itoa<|z.tdiv 10) V):Ar As 118 #[C Y z] W<|Eg (Lib.itoa z) W:=by
 obtain⟨m,v⟩:∃m:I,z.natAbs%10=m:=⟨_,rfl⟩
 have Q:m<=9:=E;obtain⟨b,u⟩:=DF<|_root_.UInt8.ofNat<|48+m;have L:D<|(b.toNat:J)=48+m:=by grind [D,Yh]
 have e:D<|Lib.itoa z=Lib.itoa (z.tdiv 10)++[b]:=by grind [D,xw]
 have x:=iX z;have A:z.tmod 10=z-10*z.tdiv 10:=B9;have f:D<|K (Lib.itoa<|z.tdiv 10)<=21:=Lib.itoa_length_le _ E E;have p:D<|IntKind.i64.wrap (z.tdiv 10)=z.tdiv 10:=If E;have n:D<|IntKind.i64.wrap (48+(m:J))=b.toNat:=by grind [D,If]
 have o:D<|IntKind.u8.wrap (b.toNat:J)=b.toNat:=w8 _ (by grind [D]);have l:D<|(9<z/\z.tmod 10=m)\/(z < -9/\z.tmod 10 = -(m:J)/\0<m)\/(z < -9/\z.tmod 10=m/\m=0):=by grind [D]
 obtain⟨g,k⟩:=CC<|Lib.itoa (z.tdiv 10)++[b];rw[AE e,AE k];have R:¬(K (Lib.itoa<|z.tdiv 10)+1>9223372036854775807):=AY<|AE f;have d:(AR (-9<=z)=AP/\AR (z<=9)=AQ/\z.tmod 10=m/\AR ((m:J)<0)=AQ)\/(AR (-9<=z)=AQ/\z.tmod 10 = -(m:J)/\AR (-(m:J)<0)=AP/\AR (0<m)=AP)\/(AR (-9<=z)=AQ/\z.tmod 10=m/\AR ((m:J)<0)=AQ):=B9;clear x A u v r s B l f e;rcases d with⟨h,N,j,i⟩|⟨h,j,i,P⟩|⟨h,j,i⟩
 all_goals
  go_enter func118,ntmps118
  go_wp2_with fail
  refine Dl (S:=λ_=>True) trivial B6 λa=>Cb 0 29 (C Y z) a <| Ch 1 30 (C Y<|z.tdiv 10) Z (λc _=>by go_simp<;>exact p) a ?_;refine Cb 3 32 (C Y m) a <| Ch 4 33 (C Y b.toNat) Z (λc _=>by go_simp<;>exact n) a ?_;refine Ch 5 34 (C Am b.toNat) Z (λc _=>by go_simp<;>exact o) a ?_;generalize z.tdiv 10=q at *;refine O5 2 6 7 31 35 36 b ⟨Z,Z,Z⟩ Z B6 (λ_ _ _=>⟨B6,B6,B6⟩) (λ_=>⟨B6,B6⟩) F (λ_ _=>trivial) λV y t=>?_;refine Ch 8 37 (CX g) Z (λc _=>by unfold CX;go_simp;grind [D,EX]) a <| Cb 9 2 (CX g) a <| CK ?_;go_wp2;go_ret;exact⟨B6,(CT (w:=W)).drew.trans t⟩
def iY:∀(n:I) (z:J),z.natAbs<=n -> -9223372036854775808<=z->z<=9223372036854775807->∀W,Ar As 118 #[C Y z] W (Eg (Lib.itoa z) W)
 |0,z,h,_,_,W=>iW E E
 |n+1,z,h,h1,h2,W=>by
  by_cases a : -9<=z/\z<=9
  .exact iW a.1 a.2
  refine xy E h1 h2 λV=>iY n (z.tdiv 10) ?_ ?_ ?_ V
  all_goals(rw[iX];split<;>omega)
def Dm{α:Type}(T:α->A1):AJ α->A1
 |[]=>[]
 |d::ds=>T d++ds.flatMap λe=>44::T e
theorem Sc{α:Type}(T:α->A1){l:AJ α}{d:α}(a:l[0]?=H d):Dm T (l.take 1)=T d:=by cases l<;>grind [Dm]
theorem Sd{α:Type}(T:α->A1){l:AJ α}(c:0<k){d:α}(b:l[k]?=H d):Dm T (l.take<|k+1)=(Dm T (l.take k)++[44])++T d:=by
 obtain _|⟨a,l⟩:=l
 .simp at b
 cases k<;>grind [Dm,List.take_add_one]
theorem Se{α:Type}(T:α->A1)(l:AJ α)(k:I):K (Dm T<|l.take k)<=K (Dm T l):=by
 obtain _|⟨a,l⟩:=l
 .simp
 cases k<;>grind [Dm,List.take_append_drop]
def Yi(W:Ap)(base:AH)(x:Aq)(ys:A1):Prop:=∀(V:Ap) (v:Aq) (bs:A1),Below base W V->Cn V base v bs->At bs+At ys<=999999999->Ar As 113 #[v,x] V λe W'=>∃v',e=Ak v'/\Cn W' base v' (bs++ys)/\Below base V W'
def MX(T:A2->A1)(e:Lit×AM Unit):A1:=(qT (D9 e.1)++[58])++T e.2
def JT:AH->A2->A1
 |0,_=>[]
 |k+1,d=>match d with
  |.lit (.bool b)=>bif b then[116,114,117,101]else[102,97,108,115,101]
  |.lit (.int .i64 z)=>Lib.itoa z
  |.lit (.string l)=>qT l
  |.agg ds=>([91]++Dm (JT k) ds)++[93]
  |.map es=>([123]++Dm (MX<|JT k) es)++[125]
  |_=>[110,117,108,108]
def Iq(h:AK)(l:A1)(W:Ap)(e:Ending)(W':Ap):Prop:=e=Ak (Af #[Ae ⟨Aw<|bif h then[]else l⟩,Ah<|!h])/\A0 W W'
def Yj(a:J)(b:(a=0/\l=[110,117,108,108])\/(a=1/\l=[102,97,108,115,101])\/(a=2/\l=[116,114,117,101])):Ar As 85 #[.agg<|Cg a 0 ⟨#[]⟩ Cq Cq] W<|Iq AQ l W:=by
 unfold Cg Cq;rcases b with⟨rfl,rfl⟩|⟨rfl,rfl⟩|⟨rfl,rfl⟩
 all_goals
  go_enter func85,ntmps85;go_wp2;refine CS (FP results85 _ _ _) Z ?_;exact⟨Z,Cm⟩
def xz{m:A1}:Ar As 85 #[.agg<|Cg 5 0 ⟨Aw l⟩ Cq Cq] W<|Iq AP m W:=by unfold Cg Cq;go_enter func85,ntmps85;go_wp2;refine CS (FP results85 _ _ _) Z ?_;exact⟨Z,Cm⟩
def xA(b : -9223372036854775808<=z)(d:z<=9223372036854775807):Ar As 85 #[.agg<|Cg 3 z ⟨#[]⟩ Cq Cq] W<|Iq AQ (Lib.itoa z) W:=by
 have a:D<|EQ W (Cg 3 z ⟨#[]⟩ Cq Cq)<|Az W<|M (Cg 3 z ⟨#[]⟩ Cq Cq) 101:=Ko;have c:=iY z.natAbs z (Cr _) b d;generalize Lib.itoa z=R at *;unfold Cg Cq at *;go_enter func85,ntmps85
 go_wp2_with(first|(go_at_call 118;refine Ce (c _) ?_;rintro e g ⟨rfl,f⟩))
 refine CS (FP results85 _ _ _) Z ?_;exact⟨rfl,(a.next f).ac⟩
def xB(hl:K l<=150000000):Ar As 85 #[.agg<|Cg 4 0 ⟨Aw l⟩ Cq Cq] W<|Iq AQ (qT l) W:=by
 have a:D<|EQ W (Cg 4 0 ⟨Aw l⟩ Cq Cq)<|Az W<|M (Cg 4 0 ⟨Aw l⟩ Cq Cq) 101:=Ko;have c:=λV=>iV V hl;generalize qT l=R at *;unfold Cg Cq at *;go_enter func85,ntmps85
 go_wp2_with(first|(go_at_call 119;refine Ce (c _) ?_;rintro e d ⟨rfl,b⟩))
 refine CS (FP results85 _ _ _) Z ?_;exact⟨rfl,(a.next b).ac⟩
theorem iZ(b:AU):1<=K (qB b):=kfw
theorem j0(x y:AU):((⟨#[x]⟩:AT)++⟨Aw l⟩)++⟨#[y]⟩=⟨Aw<|([x]++l)++[y]⟩:=kfI
theorem Uq{α:Type}(T:α->A1){l:AJ α}{d:α}(a:l[i]?=H d):K (Dm T<|l.take i)+K (T d)<=K (Dm T l):=by
 have h:=Se T l<|i+1;by_cases b:0<i
 .grind [Sd]
 obtain rfl:i=0:=E;rw[Sc T a]at h;rw[SU];show 0+_<=_;omega
theorem j2{α:Type}(p:α->AK)(l:AJ α)(i:I)(d:α)(a:l[i]?=H d):(l.take<|i+1).any p=((l.take i).any p||p d):=BV
theorem yN(g:I)(l:A1)(hl:l≠[]):IU (g+1) l=IT (decodeL l).1++IU g (l.drop (decodeL l).2):=by
 obtain _|⟨b,t⟩:=l
 .exact absurd Z hl
 rfl
theorem YA(s:AT)(hl:K bs+K (Fx s.data.toList)<=999999999)(h:Cn W base v bs):Ar As 152 #[v,.string s] W λag e=>∃q,ag=Ak q/\Cn e base q (bs++Fx s.data.toList)/\Below base W e/\Lx W e:=by
 obtain⟨i0,R,V,a,c⟩:=DL Tryz.infoU8;obtain⟨a6,bi,a7,rfl⟩:=h.2.2;have t:=T h;have be:K s.data.toList=s.size:=Fz;have HJ:D<|K bs+2+K (IU s.size s.data.toList)<=999999999/\Fx s.data.toList=[34]++IU s.size s.data.toList++[34]:=by grind [D,Fx]
 have ba:K bs<=999999999:=E;go_enter func152,ntmps152
 go_wp2_with(first
  |(at_builtin;refine Ke 34 t.1 ?_ (hb:=B1 t.2.1);intro q L d m ab;obtain⟨ah,ae,rfl⟩:=ownsRow_succ d;have ac:=T<|GX ((Cu _ _).alloc t.2.1 _) (t.1.alloc _) m<|B1 t.2.1;have o:D<|Cn L base (G (Aa ah) _ ae)<|bs++[34]:=⟨MF d Z,CE t.2.1 ac.size,_,_,_,Z⟩;have am:=T<|(Uk).trans<|Ul (t.1.alloc _) m))
 have w:D<|IV base W (O<|U L) s 0 (G (Aa ah) (K bs+1) ae) (bs++[34])<|L.iter s 0:=by refine⟨MM o Cm,World.iter_heap _ _ _,ac.alloc o.2.1 _,o.2.1,am.trans<|Uk⟩
 generalize L.iter s 0=W0 at *;generalize O (U L)=N at *
 go_loopg[0] s.size (λg a1 wr=>∃(i:I) (z:A4) (F A:I) (b:A1),a1=G z F A/\D (i<=s.size)/\D (s.size<=i+g)/\D (IV base W N s i (G z F A) b wr)/\D ((bs++[34])++IU s.size s.data.toList=b++IU g (s.data.toList.drop i)))
 grind;obtain⟨i,z,F,A,b,rfl,az,ay,w,HL⟩:=hrel;have Q:D<|K b<=999999998:=by grind [D,List.length_append]
 by_cases h1:i=s.size
 .have HF:D<|(bs++[34])++IU s.size s.data.toList=b:=by grind [iw]
  have ak:=λty=>iv (P:=As) ty w.b E;have aa:=AE Q
  go_wp2_with(first
   |(at_builtin;refine Ke 34 w.a0.1 ?_ (hb:=B1 w.a0.2.1);intro q w3 d m ab;obtain⟨ai,af,rfl⟩:=ownsRow_succ d;have j:=T<|w.ai (l:=[34]) d m))
  go_ret;have he:bs++Fx s.data.toList=b++[34]:=by grind [D]
  rw[he];exact⟨_,Z,j.a0,j.ac,j.a⟩
 have hn:i<s.size:=AY<|AE az;obtain⟨g,rfl⟩:∃g,gk=g+1:=⟨gk-1,AY<|AE ay⟩
 have ak:=λty=>iu (P:=As) ty w.b hn;obtain⟨r,hr⟩:=DF<|(Utf8.decode s i).1;obtain⟨k,hk⟩:=DF<|(Utf8.decode s i).2;rw[hr,hk]at ak;have bh:r<=1114111:=by grind [Lib.rune_le]
 have bb:=Lib.decodeL_drop s i;have bf:s.data.toList.drop i≠[]:=B9;have HC:D<|IU (g+1) (s.data.toList.drop i)=IT r++IU g (s.data.toList.drop<|i+k):=by grind [yN,List.drop_drop]
 have bc:1<=k:=by grind [Lib.decodeL_width]
 have bd:k<=s.size-i:=by grind [Lib.decodeL_le]
 have f:D<|IV base W N s (i+k) (G z F A) b<|wr.putObj N<|.stringIter s<|i+k:=w.next _
 have a2:D<|(bs++[34])++IU s.size s.data.toList=(b++IT r)++IU g (s.data.toList.drop<|i+k):=by grind [D]
 have ad:D<|K b+K (IT r)<=999999998:=by grind [D,List.length_append]
 generalize wr.putObj N (.stringIter s<|i+k)=W2 at *;have aa:=AE Q;by_cases ar:r=34\/r=92
 .rcases ar with rfl|rfl
  .have n:D<|IT 34=[92,34]:=rfl;have aj:=AE ad;have aa:=AE Q
   go_wp2_with(first
    |(at_builtin;refine K8 _ Z _ _ 50 Z base 5 i0 (C Am 0) 1 1 underlying50 R V a c Z B8 _ _ _ Z (f.a0.1.alloc _) ⟨O<|U W2,0,Ao⟩ 2 2 [C Am 92,C Am 34] Z Z (EU) (λal p=>C6) Bc E kfj ?_;intro q w3 d m ab;obtain⟨ai,af,rfl⟩:=ownsRow_succ d;have j:=T<|f.ai (l:=[92,34]) d m))
   go_roundg g
   case measure=>omega
   grind [D]
  have n:D<|IT 92=[92,92]:=rfl;have aj:=AE ad;have aa:=AE Q
  go_wp2_with(first
   |(at_builtin;refine K8 _ Z _ _ 50 Z base 5 i0 (C Am 0) 1 1 underlying50 R V a c Z B8 _ _ _ Z (f.a0.1.alloc _) ⟨O<|U W2,0,Ao⟩ 2 2 [C Am 92,C Am 92] Z Z (EU) (λal p=>C6) Bc E kfj ?_;intro q w3 d m ab;obtain⟨ai,af,rfl⟩:=ownsRow_succ d;have j:=T<|f.ai (l:=[92,92]) d m))
  go_roundg g
  case measure=>omega
  grind [D]
 have a8:((r:J)==34)=AQ:=B7;have a9:((r:J)==92)=AQ:=B7;by_cases ap:r<32
 .have n:D<|IT r=[92,117,48,48]++[Ep<|r/16,Ep<|r%16]:=by grind [IT]
  have aq:(r:J)<32:=E;have a0:(⟨Aw ([92,117,48,48]:A1)⟩:AT).size=4:=rfl
  go_wp2_with(first
   |(at_builtin;refine wpList_append_own_string _ Z _ _ 50 9 Z base 5 i0 underlying50 underlying9 R V a c _ _ _ Z f.a0.1 ⟨[92,117,48,48].toArray⟩ Z BC (by rw[a0];omega) f.a0.2.1 ?_;intro q w5 d ax bg;have j:=T<|f.appS d ax;obtain⟨a4,n4,c4,rfl⟩:=j.a0.2.2))
  have x:=trivial;have y:=T j.drew;have au:K (b++[92,117,48,48])=K b+4:=Ba;have aj:K b+6<=999999998:=by grind [D]
  refine Ei (S:=λ_=>True) B6 ?_;refine Cb 0 35 (G a4 n4 c4) x <| Cb 1 36 (C .i32 r) x <| Ch 2 37 (C .i32 ((r/16:I):J)) Z (λu hZ=>Bh) x <| Ch 3 38 (CP<|Ep<|r/16) Z (λu hZ=>by exact Qx _ _ Z Z B6<|iy (r/16) E) x <| Cb 4 39 (C .i32 r) x <| Ch 5 40 (C .i32 ((r%16:I):J)) Z (λu hZ=>by have z2:=wU ap;go_simp) x <| Ch 6 41 (CP<|Ep<|r%16) rfl (λu hZ=>by exact Qx _ _ rfl rfl B6<|iy (r%16) E) x <| CH 7 λan hK=>?_;refine Ks B6 ?_;refine wW (.tmp 38) (.tmp 41) Z (Ep<|r/16) (Ep<|r%16) B6 B6 ?_;refine hK.out _ _ trivial λ_=>?_;refine CH 8 λan hK=>?_;refine Ks B6 ?_;refine jx (.tmp 35) (.tmp 42) Z underlying50 R V a c Z B8 B6 (y.a0.1.alloc _) 2 2 B6 Z (EU) (λal p=>C6) BC (by rw[au];omega) (by have:=y.a0.2.1;rw[CL];exact VG this) ?_;intro q w6 B av _;obtain⟨g6,ao,rfl⟩:=ownsRow_succ B;have a5:=T<|y.ai (l:=[Ep<|r/16,Ep<|r%16]) B av;refine hK.out _ _ trivial λ_=>?_;refine Cb 9 0 (G (Aa g6) (K (b++[92,117,48,48])+2) ao) trivial <| CK ?_;go_simp;go_wp2;go_roundg g
  case measure=>omega
  grind [D]
 have n:D<|IT r=Ez r:=by grind [IT]
 have aq:¬(r:J)<32:=E;have cA:=Any.utf8_AppendRune_plain Tryz.lays242 B6 base (G z F A) (K b) (b.map CP) (r:J) E E W2 f.a0.1 E f.a0.2.1
 go_wp2_with(first
  |(go_at_call 186;refine cA.mono ?_;rintro ag w3 ⟨v3,rfl,B,bj,aw⟩;rw[WN,LO]at B;have j:=T<|f.ai (l:=Ez r) B aw;obtain⟨a4,n4,c4,rfl⟩:=j.a0.2.2))
 go_roundg g
 case measure=>omega
 grind [D]
theorem yO(T:A2->A1){q:A4}(hF:∀k,F k->k<base)(hl:K bs+K (Dm T ds)+2<=999999999)(hn:K ds<=999999999)(hu:DQ W 89 1 F (Ac q (K ds) cap) (K ds) xs)(aj:∀(i:I) (x:Aq) (d:A2),xs[i]?=H x->ds[i]?=H d->Yi W base x (T d))(ai:∀(i:I) (x:Aq),xs[i]?=H x->∃ao y,x=Ai ao y)(h:Cn W base v bs):Ar As 153 #[v,Ac q (K ds) cap] W λe W'=>∃u,e=Ak u/\Cn W' base u (((bs++[91])++Dm T ds)++[93])/\Below base W W':=by
 obtain⟨au,a2,av,rfl⟩:=h.2.2;have p:=C9 h;have HU:=C9 hu;have HI:=C9 aj;have HF:=C9 ai;go_enter func153,ntmps153
 go_wp2_with(first
  |(at_builtin;refine Ke 91 p.1 ?_ (hb:=B1 p.2.1);intro u w2 m s j;obtain⟨af,ae,rfl⟩:=ownsRow_succ m;have ab:=C9<|GX ((Cu _ _).alloc p.2.1 _) (p.1.alloc _) s<|B1 p.2.1;have aq:D<|Cn w2 base (Ac (Aa af) _ ae)<|bs++[91]:=⟨MF m Z,CE p.2.1 ab.size,_,_,_,Z⟩))
 go_loopg[0,12] (K ds) (λg y ap wr=>∃(k:I) (N:A4) (n P:I),y=Ac N n P/\ap=C Y k/\D (k+g=K ds)/\D (Cn wr base (Ac N n P)<|(bs++[91])++Dm T (ds.take k))/\D (Below base W wr))
 grind [Dm];obtain⟨k,N,n,P,rfl,rfl,a,b,o⟩:=hrel;have am:K ((bs++[91])++Dm T (ds.take k))<=999999998:=by grind [Se]
 obtain⟨l,HC⟩:=CC<|(bs++[91])++Dm T (ds.take k);rw[AE HC]at b am;obtain _|g:=gk
 .have an:¬(k:J)<K ds:=AY<|AE a;have z:D<|ds.take k=ds:=by grind [D]
  go_wp2_with(first
   |(at_builtin;refine Ke 93 b.1 ?_ (hb:=B1 b.2.1);intro u r m s j;obtain⟨S,R,rfl⟩:=ownsRow_succ m;have f:=C9<|GX ((Cu _ _).alloc b.2.1 _) (b.1.alloc _) s<|B1 b.2.1;have w:D<|Cn r base (Ac (Aa S) _ R)<|l++[93]:=⟨MF m Z,CE b.2.1 f.size,_,_,_,Z⟩))
  go_ret;have he:l++[93]=bs++91::(Dm T ds++[93]):=by grind [D]
  have A:=AE w;rw[he]at A;exact⟨_,Z,A,Cs o f⟩
 have al:k<K ds:=AY<|AE a;have an:(k:J)<K ds:=E;have L:=HU.same (V':=wr) (G:=F) (λ_ h=>h) λaa hj=>Co o aa<|hF aa hj;obtain⟨q0,rfl⟩:∃q0,q=Aa q0:=by rcases L.2 with⟨_,e⟩|⟨g,aw,l,e,_⟩<;>grind
 have a1:K xs=K ds:=AY L.1;obtain⟨x,c⟩:∃x,xs[k]?=H x:=⟨xs[k],D7 E⟩
 obtain⟨d,V⟩:∃d,ds[k]?=H d:=⟨ds[k],D7 al⟩
 obtain⟨tx,yx,rfl⟩:=HF.out k x c;have hc:A6 wr q0 k<|Ai tx yx:=by have:=L.cell k _ c;grind [Addr.add]
 have ax:=Se T ds<|k+1;have ad:=HI.out k _ d c V;have t:=C9 ad;have ay:(Az wr<|M #[C Am 44] 5).cell? ⟨q0,k,Ao⟩=H (Ai tx yx):=Ca (Iy wr _ _<|by rw[hc];rfl) hc;by_cases ak:k=0
 .subst ak;have z:=C9<|Sc T V;have B:D<|K l+K (T d)<=999999999:=by grind [D,Dm]
  have Q:=t.out wr _ _ o b B;have HK:D<|0+(g+1)=K ds:=a
  go_wp2_with(first
   |(go_at_call 113;refine Ce Q ?_;rintro e r ⟨v4,rfl,A,ag⟩;obtain⟨o4,b4,a4,n4,c4,rfl⟩:=A;have w:D<|Cn r base (Ac a4 n4 c4)<|l++T d:=⟨o4,b4,_,_,_,Z⟩;have f:=C9<|Cs o ag))
  go_roundg g;exact⟨1,a4,n4,c4,Z,Bb,B9,by grind [D,Dm],f⟩;omega
 have az:AR ((0:J)<(k:J))=AP:=B7;have a0:(0:J)<(k:J):=E;have z:=C9<|Sd T E V;have B:D<|K (l++[44])+K (T d)<=999999999:=by grind [D]
 go_wp2_with(first
  |(at_builtin;refine Ke 44 b.1 ?_ (hb:=B1 b.2.1);intro u r m s j;obtain⟨S,R,rfl⟩:=ownsRow_succ m;have f:=C9<|GX ((Cu _ _).alloc b.2.1 _) (b.1.alloc _) s<|B1 b.2.1;have w:D<|Cn r base (Ac (Aa S) _ R)<|l++[44]:=⟨MF m Z,CE b.2.1 f.size,_,_,_,Z⟩;have Q:=t.out r _ _ (Cs o f) w B)
  |(go_at_call 113;refine Ce Q ?_;rintro e w5 ⟨v5,rfl,h5,ah⟩;obtain⟨o5,b5,a5,n5,c5,rfl⟩:=h5;have ar:D<|Cn w5 base (Ac a5 n5 c5)<|(l++[44])++T d:=⟨o5,b5,_,_,_,Z⟩;have ac:=C9<|Cs (Cs o f) ah))
 go_roundg g;exact⟨k+1,a5,n5,c5,Z,Bb,B9,by grind [D],ac⟩;omega
def Gv(T:A2->A1)(e:Lit×AM Unit):A1:=(Fx (D9 e.1)++[58])++T e.2
structure KV(base:AH)(W:Ap)(N:AH)(cs:A3)(v:Aq)(cur:A1)(V:Ap):Prop where
 a0:Cn V base v cur
 ac:Below base W V
 ad:V.heap[N]?=An (.cells cs 225)
theorem KV.ai{cs:A3}{b:AU}(h:KV base W N cs v cur V)(f:V'.ownsRow base 5 1 v' (K cur+1)<|cur.map CP++[CP b])(d:(Az V o).grownBy V'<|Ax v):KV base W N cs v' (cur++[b]) V':=by
 have a:=GX ((Cu base V).alloc h.a0.2.1 _) (h.a0.1.alloc _) d kfi;refine⟨⟨B9,CE h.a0.2.1 a.size,?_⟩,Cs h.ac a,?_⟩
 .rcases f.2 with⟨e,_⟩|⟨g,i,c,e,_⟩<;>grind
 exact((Uk).trans<|Ul (h.a0.1.alloc o) d) N cs _ _ h.ad B8
def KV.aq{cs:A3}(h:KV base W N cs v cur V)(c:Cn V' base v'<|cur++l)(a:Below base V V')(b:Lx V V'):KV base W N cs v' (cur++l) V' :=
 ⟨c,Cs h.ac a,b N cs _ _ h.ad B8⟩
theorem yP(l:A1):0<K (Fx l):=by simp[Fx]
theorem yQ(T:A2->A1){q:A4}(hF:∀k,F k->k<base)(hl:K bs+K (Dm (Gv T) es)+2<=999999999)(hn:K es<=999999999)(u:DQ W 225 2 F (Ac q (K es) cap) (K es) xs)(au:∀(aj:I) (key:Lit) (d:A2),es[aj]?=H (key,d)->∃l al y,key=.string l/\xs[2*aj]?=H (Ae ⟨Aw l⟩)/\xs[2*aj+1]?=H (Ai al y)/\Yi W base (Ai al y) (T d))(h:Cn W base v bs):Ar As 154 #[v,Ac q (K es) cap] W λe W'=>∃A,e=Ak A/\Cn W' base A (((bs++[123])++Dm (Gv T) es)++[125])/\Below base W W':=by
 obtain⟨i0,hi,a1,a2,a4⟩:=DL Tryz.infoU8;obtain⟨a8,bh,a9,rfl⟩:=h.2.2;have B:=C9 h;have HU:=C9 u;have HI:=C9 au;go_enter func154,ntmps154
 go_wp2_with(first
  |(at_builtin;refine Ke 123 B.1 ?_ (hb:=B1 B.2.1);intro A w2 b s n;obtain⟨aq,ap,rfl⟩:=ownsRow_succ b;have am:=C9<|GX ((Cu _ _).alloc B.2.1 _) (B.1.alloc _) s<|B1 B.2.1;have a6:D<|Cn w2 base (Ac (Aa aq) _ ap)<|bs++[123]:=⟨MF b Z,CE B.2.1 am.size,_,_,_,Z⟩))
 go_loopg[0,12] (K es) (λg y a5 wr=>∃(k:I) (a:A4) (z c:I),y=Ac a z c/\a5=C Y k/\D (k+g=K es)/\D (Cn wr base (Ac a z c)<|(bs++[123])++Dm (Gv T) (es.take k))/\D (Below base W wr))
 grind [Dm];obtain⟨k,a,z,c,rfl,rfl,hk,o,V⟩:=hrel;have ax:K ((bs++[123])++Dm (Gv T) (es.take k))<=999999998:=by grind [Se]
 obtain⟨m,HC⟩:=CC<|(bs++[123])++Dm (Gv T) (es.take k);rw[AE HC]at o ax;obtain _|g:=gk
 .have ay:¬(k:J)<K es:=AY<|AE hk;have HT:D<|es.take k=es:=by grind [D]
  go_wp2_with(first
   |(at_builtin;refine Ke 125 o.1 ?_ (hb:=B1 o.2.1);intro A w4 b s n;obtain⟨ae,ac,rfl⟩:=ownsRow_succ b;have j:=C9<|GX ((Cu _ _).alloc o.2.1 _) (o.1.alloc _) s<|B1 o.2.1;have an:D<|Cn w4 base (Ac (Aa ae) _ ac)<|m++[125]:=⟨MF b Z,CE o.2.1 j.size,_,_,_,Z⟩))
  go_ret;have he:m++[125]=((bs++[123])++Dm (Gv T) es)++[125]:=by rw[<-AE HC,AE HT]
  have h4:=AE an;rw[he]at h4
  first|exact⟨_,rfl,h4,V.trans j⟩|exact⟨_,rfl,by simpa using h4,Cs V j⟩
 have aw:k<K es:=AY<|AE hk;have ay:(k:J)<K es:=E;have HR:=HU.same (V':=wr) (G:=F) (λ_ h=>h) λak hj=>Co V ak<|hF ak hj;obtain⟨q0,rfl⟩:∃q0,q=Aa q0:=by rcases HR.2 with⟨_,e⟩|⟨g,ba,m,e,_⟩<;>grind
 obtain⟨⟨key,d⟩,hd⟩:∃d,es[k]?=H d:=⟨es[k],D7 aw⟩
 obtain⟨l,w,x,rfl,az,a0,hI⟩:=HI.out k key d hd;have bc:A6 wr q0 (k*2)<|Ae ⟨Aw l⟩:=by have:=HR.cell (2*k) _ az;grind [Addr.add]
 have bd:A6 wr q0 (k*2+1)<|Ai w x:=by have:=HR.cell (2*k+1) _ a0;grind [Addr.add]
 have L:D<|KV base W (O<|U wr) #[Ae ⟨Aw l⟩,Ai w x] (Ac a z c) m<|Az wr<|M #[Ae ⟨Aw l⟩,Ai w x] 225:=⟨⟨o.1.alloc _,B0 o.2.1,_,_,_,Z⟩,Cs V<|(Cu base wr).alloc o.2.1 _,Cj _⟩
 have HJ:=C9 hI;have bb:=Se (Gv T) es<|k+1;have be:K (Gv T (.string l,d))=K (Fx l)+1+K (T d):=by simp[Gv,D9];omega
 by_cases av:k=0
 .subst av;have HT:=C9<|Sc (Gv T) hd;have hL:K m+K (Fx l)+1+K (T d)+1<=999999999:=by grind [D,Dm]
  have HE:D<|((m++Fx l)++[58])++T d=(bs++[123])++Dm (Gv T) (es.take<|0+1):=by grind [D,Gv,D9,Dm]
  have Q:=YA ⟨Aw l⟩ B9 L.a0;have e9:Fx (⟨Aw l⟩:AT).data.toList=Fx l:=rfl;rw[e9]at Q
  go_wp2_with(first
   |(go_at_call 152;refine Ce Q ?_;rintro e w5 ⟨v5,rfl,h5,ag,ai⟩;obtain⟨f,i⟩:=CC<|m++Fx l;have aa:D<|0<K f/\K f+1+K (T d)+1<=999999999:=(by grind [D]);have p:D<|KV base W (O<|U wr) #[Ae ⟨Aw l⟩,Ai w x] v5 f w5:=(by rw[<-AE i];exact L.aq h5 ag ai);obtain⟨g5,c5,rfl⟩:=Xv p.a0 aa.1)
   |(at_builtin;refine Ke 58 p.a0.1 ?_ (hl:=by grind [D,maxLen]) (hy:=by grind [D]) (hb:=ke5);intro A S b s n;obtain⟨af,ad,rfl⟩:=ownsRow_succ b;have r:D<|KV base W (O<|U wr) #[Ae ⟨Aw l⟩,Ai w x] (Ac (Aa af) (K f+1) ad) (f++[58]) S:=p.ai b s;have ar:=Cc r.ad 1)
   |(go_at_call 113;refine Ce (HJ S _ _ r.ac r.a0<|by grind [D]) ?_;rintro e w7 ⟨v7,rfl,h7,ah⟩;obtain⟨o7,b7,N,R,P,rfl⟩:=h7;have ao:D<|Cn w7 base (Ac N R P)<|(f++[58])++T d:=⟨o7,b7,_,_,_,Z⟩;have t:=C9<|Cs r.ac ah))
  go_roundg g;exact⟨1,N,R,P,Z,Bb,B9,by grind [D],t⟩;omega
 have HT:=C9<|Sd (Gv T) E hd;have bg:(0:J)<(k:J):=E;have hL:K m+1+K (Fx l)+1+K (T d)+1<=999999999:=by grind [D]
 have HE:D<|(((m++[44])++Fx l)++[58])++T d=(bs++[123])++Dm (Gv T) (es.take<|k+1):=by grind [D,Gv,D9]
 go_wp2_with(first
  |(at_builtin;refine K8 _ Z _ _ 50 Z base 5 i0 (C Am 0) 1 1 underlying50 hi a1 a2 a4 Z B8 _ _ _ Z (L.a0.1.alloc _) ⟨O (U wr)+1,0,Ao⟩ 1 1 [C Am 44] Z Z (by grind [EU,World.size_alloc]) (λbi u=>by simp at u;subst u;rfl) Bc E (by have:=L.a0.2.1;grind [World.size_alloc]) ?_;intro A w4 b s n;obtain⟨ae,ac,rfl⟩:=ownsRow_succ b;have ab:D<|KV base W (O<|U wr) #[Ae ⟨Aw l⟩,Ai w x] (Ac (Aa ae) (K m+1) ac) (m++[44]) w4:=L.ai b s;have bf:=Cc ab.ad 0;have Q:=YA ⟨Aw l⟩ B9 ab.a0;have e9:Fx (⟨Aw l⟩:AT).data.toList=Fx l:=rfl;rw[e9]at Q)
  |(go_at_call 152;refine Ce Q ?_;rintro e w5 ⟨v5,rfl,h5,ag,ai⟩;obtain⟨f,i⟩:=CC<|(m++[44])++Fx l;have aa:D<|0<K f/\K f+1+K (T d)+1<=999999999:=(by grind [D]);have p:D<|KV base W (O<|U wr) #[Ae ⟨Aw l⟩,Ai w x] v5 f w5:=(by rw[<-AE i];exact ab.aq h5 ag ai);obtain⟨g5,c5,rfl⟩:=Xv p.a0 aa.1)
  |(at_builtin;refine Ke 58 p.a0.1 ?_ (hl:=by grind [D,maxLen]) (hy:=by grind [D]) (hb:=ke5);intro A S b s n;obtain⟨af,ad,rfl⟩:=ownsRow_succ b;have r:D<|KV base W (O<|U wr) #[Ae ⟨Aw l⟩,Ai w x] (Ac (Aa af) (K f+1) ad) (f++[58]) S:=p.ai b s;have ar:=Cc r.ad 1)
  |(go_at_call 113;refine Ce (HJ S _ _ r.ac r.a0<|by grind [D]) ?_;rintro e w7 ⟨v7,rfl,h7,ah⟩;obtain⟨o7,b7,N,R,P,rfl⟩:=h7;have ao:D<|Cn w7 base (Ac N R P)<|(f++[58])++T d:=⟨o7,b7,_,_,_,Z⟩;have t:=C9<|Cs r.ac ah))
 go_roundg g;exact⟨k+1,N,R,P,Z,Bb,B9,by grind [D],t⟩;omega
def Fe:AH->A2->A1
 |0,_=>[]
 |k+1,d=>match d with
  |.lit (.bool b)=>bif b then[116,114,117,101]else[102,97,108,115,101]
  |.lit (.int .i64 z)=>Lib.itoa z
  |.lit (.string l)=>Fx l
  |.agg ds=>([91]++Dm (Fe k) ds)++[93]
  |.map es=>([123]++Dm (Gv<|Fe k) es)++[125]
  |_=>[110,117,108,108]
theorem yU{a':A4}{n' c':I}(hl:K bs<=999999999)(h:Cn W base v bs):Ar As 113 #[v,Ai 219<|G a' n' c'] W λe f=>∃d,e=Ak d/\Cn f base d (bs++[110,117,108,108])/\Below base W f:=by
 obtain⟨q,j,m,o,p⟩:=DL Tryz.infoU8;obtain⟨a,n,c,rfl⟩:=h.2.2;have b:=T h;have s:=S2 a' n' c';have t:=S3 a' n' c';have u:=S4 a' n' c';have x:∀w:X,(Instr.typeAssert (Ai 219<|G a' n' c') 89 221 AP).run As w=.ok (Af #[G Ao 0 0,Ah AQ]) w:=λw=>B6;have y:∀w:X,(Instr.typeAssert (Ai 219<|G a' n' c') 89 223 AP).run As w=.ok (Af #[G Ao 0 0,Ah AQ]) w:=λw=>B6;have l:(⟨Aw ([110,117,108,108]:A1)⟩:AT).size=4:=rfl;go_enter func113,ntmps113
 go_wp2_with(first
  |(at_builtin;refine wpList_append_own_string _ Z _ _ 50 9 Z base 5 q underlying50 underlying9 j m o p _ _ _ Z b.1 ⟨[110,117,108,108].toArray⟩ Z BC kfp b.2.1 ?_;intro d z k i r;have g:=T<|NS b k i))
 go_ret;exact⟨_,Z,g⟩
def yV(l : -9223372036854775808<=z)(m:z<=9223372036854775807)(hl:K bs<=999999999)(h:Cn W base v bs)(o:Jr base W):Ar As 113 #[v,Ai 281<|C Y z] W λe b=>∃d,e=Ak d/\Cn b base d (bs++Lib.itoa z)/\Below base W b:=by
 have f:=yS l m hl h o;obtain⟨a,n,c,rfl⟩:=h.2.2;have s:=RY z;have t:=RZ z;go_enter func113,ntmps113
 go_wp2_with(first
  |(go_at_call 151;refine Ce f ?_;rintro e w ⟨u,rfl,g,k⟩;obtain⟨i,j,p,r,q,rfl⟩:=g))
 go_ret;exact⟨_,Z,⟨i,j,_,_,_,Z⟩,k⟩
def yW(hl:K bs+K (Fx l)<=999999999)(h:Cn W base v bs):Ar As 113 #[v,Ai 283<|Ae ⟨Aw l⟩] W λe b=>∃f,e=Ak f/\Cn b base f (bs++Fx l)/\Below base W b:=by
 have d:=YA ⟨Aw l⟩ hl h;have g:Fx (⟨Aw l⟩:AT).data.toList=Fx l:=rfl;rw[g]at d;obtain⟨a,n,c,rfl⟩:=h.2.2;have r:=XU ⟨Aw l⟩;have s:=XV ⟨Aw l⟩;have t:=XW ⟨Aw l⟩;go_enter func113,ntmps113
 go_wp2_with(first
  |(go_at_call 152;refine Ce d ?_;rintro e w ⟨u,rfl,i,m,_⟩;obtain⟨j,k,o,q,p,rfl⟩:=i))
 go_ret;exact⟨_,Z,⟨j,k,_,_,_,Z⟩,m⟩
def yX{q:A4}(k:∃a n c,v=G a n c)(f:Ar As 153 #[v,G q m cap] W λe b=>∃d,e=Ak d/\Cn b base d ys/\Below base W b):Ar As 113 #[v,Ai 221<|G q m cap] W λe b=>∃d,e=Ak d/\Cn b base d ys/\Below base W b:=by
 obtain⟨a,n,c,rfl⟩:=k;have r:=gG q m cap;have s:=gH q m cap;have t:=gI q m cap;have u:=U7 q m cap;go_enter func113,ntmps113
 go_wp2_with(first
  |(go_at_call 153;refine Ce f ?_;rintro e x ⟨w,rfl,g,j⟩;obtain⟨h,i,l,p,o,rfl⟩:=g))
 go_ret;exact⟨_,Z,⟨h,i,_,_,_,Z⟩,j⟩
def yY{q:A4}(k:∃a n c,v=G a n c)(f:Ar As 154 #[v,G q m cap] W λe b=>∃d,e=Ak d/\Cn b base d ys/\Below base W b):Ar As 113 #[v,Ai 223<|G q m cap] W λe b=>∃d,e=Ak d/\Cn b base d ys/\Below base W b:=by
 obtain⟨a,n,c,rfl⟩:=k;have r:=gK q m cap;have s:=gL q m cap;have t:=gM q m cap;have u:=U9 q m cap;have w:=Ua q m cap;go_enter func113,ntmps113
 go_wp2_with(first
  |(go_at_call 154;refine Ce f ?_;rintro e y ⟨x,rfl,g,j⟩;obtain⟨h,i,l,p,o,rfl⟩:=g))
 go_ret;exact⟨_,Z,⟨h,i,_,_,_,Z⟩,j⟩
theorem jA{α:Type}(f:α->A1){l:AJ α}(h:∀a,a∈l->1<=K (f a)):K l<=K (Dm f l):=by cases l<;>grind [O6,Dm]
theorem yZ(n:I):1<=K (decDigits n):=by grind [decDigits]
theorem za(z:J):1<=K (Lib.itoa z):=by grind [itoa,yZ]
theorem zc:∀{k:I} {v:Aq} {d:A2},CA k V F v d->1<=K (Fe k d)
 |0,_,_,h=>h.elim
 |k+1,v,d,h=>by unfold CA at h;grind [Fe,za,yP]
def jB:∀(k:I) (W:X) (w:I) (F:I->Prop) (x:Aq) (d:A2),(∀j,F j->j<w)->Jr w W->CA k W F x d->Yi W w x (Fe k d)
 |0,_,_,_,_,_,_,_,h=>h.elim
 |k+1,W0,w,F,x,d,hF,hT0,h0=>by
  intro W ae z v o hl;have h:=h0.same (λ_ h=>h) λj hj=>Co v j<|hF j hj;have V:Jr w W:=Lib.TabBelow.on hT0 v;have L:K z<=999999999:=E;have n:=λy a hy=>jB k W w F y a hF V hy;unfold CA at h;split at h
  .subst h;exact wA L o
  .rename_i b;subst h;cases b
   .exact wC L o
   exact wB L o
  .obtain⟨rfl,f,p⟩:=h;exact yV f p L o V
  .rename_i l;subst h;exact yW hl o
  .rename_i l;obtain⟨u,rfl,s⟩:=h;obtain⟨q,aa,c,rfl⟩:∃q aa c,u=G q aa c:=by
    rcases s.2 with⟨e,m⟩|⟨g,r,R,e,_⟩
    .exact⟨_,_,_,e⟩
    exact⟨_,_,_,e⟩
   exact yU L o
  .rename_i ds;obtain⟨u,Q,rfl,s,N⟩:=h;have ad:K Q=K ds:=AY s.1;have at_:∀i,i<K ds->∃x a,Q[i]?=H x/\ds[i]?=H a/\CA k W F x a:=λi B =>
    ⟨_,_,D7 E,D7 B,N i _ _ (D7 E)<|D7 B⟩
   have hg:=jA (Fe k) λa ab=>by obtain⟨i,B,rfl⟩:=QZ ab;obtain⟨x,d2,f,p,P⟩:=at_ i B;rw[D7 B]at p;injection p with p;rw[p];exact zc P
   have e:K (Fe (k+1)<|.agg ds)=1+K (Dm (Fe k) ds)+1:=by simp[Fe];omega
   obtain⟨q,r,rfl⟩:∃q r,u=G q (K ds) r:=by
    rcases s.2 with⟨e,m⟩|⟨g,r,R,e,_⟩
    .exact⟨Ao,0,by rw[e,m]⟩
    exact⟨_,_,e⟩
   have A:=yO (Fe k) hF E E s (λi x a f p=>n x a<|N i x a f p) (λi x t=>by obtain⟨x2,a,f,p,P⟩:=at_ i<|AY<|Dk t;rw[t]at f;injection f with f;rw[f];exact P.iface) o;have m:((z++[91])++Dm (Fe k) ds)++[93]=z++Fe (k+1) (.agg ds):=by simp[Fe]
   rw[m]at A;exact yX o.2.2 A
  .rename_i es;obtain⟨u,Q,rfl,s,N⟩:=h;have hg:=jA (Gv<|Fe k) (l:=es) λa _=>by simp[Gv];omega
   have e:K (Fe (k+1)<|.map es)=1+K (Dm (Gv<|Fe k) es)+1:=by simp[Fe];omega
   obtain⟨q,r,rfl⟩:∃q r,u=G q (K es) r:=by
    rcases s.2 with⟨e,m⟩|⟨g,r,R,e,_⟩
    .exact⟨Ao,0,by rw[e,m]⟩
    exact⟨_,_,e⟩
   have A:=yQ (Fe k) hF E E s (λi key a f=>by obtain⟨l,x,e1,m,e3,S⟩:=N i key a f;obtain⟨ac,y,rfl⟩:=S.iface;exact⟨l,ac,y,e1,m,e3,n _ a S⟩) o;have m:((z++[123])++Dm (Gv<|Fe k) es)++[125]=z++Fe (k+1) (.map es):=by simp[Fe]
   rw[m]at A;exact yY o.2.2 A
  exact h.elim
theorem zd(hF:∀j,F j->j<O (U W))(m:Jr (O<|U W) W)(h:CA k W F x d)(hl:K (Fe k d)<=999999999):Ar As 82 #[C Y 1,x] W λe a=>∃b,e=Ak b/\Cn a (O<|U W) b (Fe k d)/\A0 W a:=by
 have c:=jB k W (O<|U W) F x d hF m h W _ [] CT (S9) keL;obtain⟨t,y,rfl⟩:=h.iface;go_enter func82,ntmps82
 go_wp2_with(first
  |(go_at_call 113;refine Ce c ?_;rintro e r ⟨q,rfl,f,l⟩;obtain⟨g,i,n,p,o,rfl⟩:=f))
 go_ret;exact⟨_,Z,⟨g,i,_,_,_,Z⟩,l⟩
theorem jC{α:Type}{f g:α->A1}(l:AJ α)(h:∀x∈l,f x=g x):Dm f l=Dm g l:=by
 obtain _|⟨a,l⟩:=l
 .rfl
 show f a++_=g a++_;rw[h a<|Mn ..];congr 1;induction l<;>grind
theorem UA:∀(k:I) (d:A2),F8 k d->Fe k d=JT k d
 |0,_,_=>rfl
 |k+1,d,h=>by
  unfold Fe JT;split
  .rfl
  .rfl
  .exact iC h
  .rename_i ds;have a:∀d∈ds,F8 k d:=h;rw[jC ds λd c=>UA k d<|a d c]
  .rename_i es;have a:∀e∈es,FK (D9 e.1)/\F8 k e.2:=h;rw[jC es λe b=>show Gv (Fe k) e=MX (JT k) e by unfold Gv MX;rw[iC (a e b).1,UA k e.2 (a e b).2]]
  grind
def YC(a v:J)(b:AU)(d:(a=0/\v=246)\/(a=1/\v=244)\/(a=2/\v=245))(hb:(b.toNat:J)=v):Ar As 86 #[.agg<|Cg a 0 ⟨#[]⟩ Cq Cq] W<|Eg [b] W:=by
 have c:=JS (Az W<|M (Cg a 0 ⟨#[]⟩ Cq Cq) 101) v b hb.symm;rw[show(Az W<|M (Cg a 0 ⟨#[]⟩ Cq Cq) 101).heap.size=O (U W)+1 by simp]at c;unfold Cg Cq at *;rcases d with⟨rfl,rfl⟩|⟨rfl,rfl⟩|⟨rfl,rfl⟩
 all_goals
  go_enter func86,ntmps86;go_wp2;go_ret;exact⟨Z,(Cm).alloc Ba _⟩
def zp(i : -9223372036854775808<=z)(j:z<=9223372036854775807):Ar As 86 #[.agg<|Cg 3 z ⟨#[]⟩ Cq Cq] W<|Eg (Kn z) W:=by
 obtain⟨R,a⟩:=CC<|Kn z;have d:D<|EQ W (Cg 3 z ⟨#[]⟩ Cq Cq)<|Az W<|M (Cg 3 z ⟨#[]⟩ Cq Cq) 101:=Ko;by_cases f:z<0
 .have c:∀V,Ar As 120 #[C Y 1,C Y<|-1-z] V<|Eg R V:=λV=>by have h:=Qv V 1 (-1-z).toNat B8 E;rw[show(((-1-z).toNat:I):J) = -1-z by omega]at h;rw[<-AE a];unfold Kn;rw[Cp f];exact h
  rw[AE a];unfold Cg Cq at *;go_enter func86,ntmps86
  go_wp2_with(first|(go_at_call 120;refine(c _).mono ?_;rintro e g ⟨rfl,b⟩))
  go_ret;exact⟨rfl,(d.next b).ac⟩
 have c:∀V,Ar As 120 #[C Y 0,C Y z] V<|Eg R V:=λV=>by have h:=Qv V 0 z.toNat B8 E;rw[show((z.toNat:I):J)=z by omega]at h;rw[<-AE a];unfold Kn;rw[Cl f];exact h
 rw[AE a];unfold Cg Cq at *;go_enter func86,ntmps86
 go_wp2_with(first|(go_at_call 120;refine(c _).mono ?_;rintro e g ⟨rfl,b⟩))
 go_ret;exact⟨rfl,(d.next b).ac⟩
theorem jH(hl:K l<=999999999):Ar As 86 #[.agg<|Cg 4 0 ⟨Aw l⟩ Cq Cq] W (Eg (Dd 3 (K l)++l) W)/\Ar As 86 #[.agg<|Cg 5 0 ⟨Aw l⟩ Cq Cq] W (Eg (Dd 2 (K l)++l) W):=by
 have g:∀m,D<|EQ W (Cg m 0 ⟨Aw l⟩ Cq Cq)<|Az W<|M (Cg m 0 ⟨Aw l⟩ Cq Cq) 101:=λm=>Ko;have c:=λV s (o:s<=7)=>Qv V s (K l) o E;have h:∀s,¬(K (Dd s<|K l)+K l>9223372036854775807):=λs=>kfU;constructor
 .replace g:=g 4
  replace c:=λV=>c V 3 B8
  replace h:=h 3
  unfold Cg Cq at *;go_enter func86,ntmps86
  go_wp2_with fail
  generalize Az W (M #[C Y 4,C Y 0,Ae ⟨Aw l⟩,G Ao 0 0,G Ao 0 0] 101)=V0 at *;refine Dl (S:=EQ W #[C Y 4,C Y 0,Ae ⟨Aw l⟩,G Ao 0 0,G Ao 0 0]) g.drew B6 λa=>Cb 0 35 (A9 (O<|U W) 2) a <| Ch 1 36 (Ae ⟨Aw l⟩) Z (λf b=>ken) a <| Ch 2 37 (C Y<|K l) Z (λf b=>Bh) a <| Cb 4 39 (A9 (O<|U W) 2) a <| Ch 5 40 (Ae ⟨Aw l⟩) Z (λf b=>ken) a <| CH 3 λn j=>?_;go_simp;refine(c _).mono ?_;rintro e p ⟨rfl,i⟩;have d:=a.next i
  refine j.out _ _ d λ_=>?_;refine Ch 6 41 (CX<|Dd 3 (K l)++l) Z (λf b=>BI) d <| Cb 7 2 (CX<|Dd 3 (K l)++l) d <| CK ?_;go_wp2;go_ret;exact⟨Z,d.ac⟩
 replace g:=g 5
 replace c:=λV=>c V 2 B8
 replace h:=h 2
 unfold Cg Cq at *;go_enter func86,ntmps86
 go_wp2_with fail
 generalize Az W (M #[C Y 5,C Y 0,Ae ⟨Aw l⟩,G Ao 0 0,G Ao 0 0] 101)=V0 at *;refine Dl (S:=EQ W #[C Y 5,C Y 0,Ae ⟨Aw l⟩,G Ao 0 0,G Ao 0 0]) g.drew B6 λa=>Cb 0 44 (A9 (O<|U W) 2) a <| Ch 1 45 (Ae ⟨Aw l⟩) Z (λf b=>ken) a <| Ch 2 46 (C Y<|K l) Z (λf b=>Bh) a <| Cb 4 48 (A9 (O<|U W) 2) a <| Ch 5 49 (Ae ⟨Aw l⟩) Z (λf b=>ken) a <| CH 3 λn j=>?_;go_simp;refine(c _).mono ?_;rintro e p ⟨rfl,i⟩;have d:=a.next i
 refine j.out _ _ d λ_=>?_;refine Ch 6 50 (CX<|Dd 2 (K l)++l) Z (λf b=>BI) d <| Cb 7 2 (CX<|Dd 2 (K l)++l) d <| CK ?_;go_wp2;go_ret;exact⟨Z,d.ac⟩
def fR(pk:AK):FuncId:=bif pk then 87 else 86
theorem jI(o:AK)(hF:∀j,F j->j<O (U W))(hr:DQ W 101 5 F u (K ds) xs)(ha:∀(i:I) (d:A2),ds[i]?=H d->∃a,Hu xs i a/\CV k W F (.agg a) d)(hl:K (h0++ds.flatMap f)<=999999999)(c:∀V,Ar As (bif o then 126 else 120) (bif o then#[C Y 144,C Y 220,C Y<|K ds]else#[C Y 4,C Y<|K ds]) V<|Eg h0 V)(ih:∀(V:X) (a:A3) (d:A2),(∀j,F j->j<O (U V))->CV k V F (.agg a) d->K (f d)<=999999999->Ar As (fR o) #[.agg a] V (Eg (f d) V)):Ar As (fR o) #[.agg<|Cg 6 0 ⟨#[]⟩ Cq u] W<|Eg (h0++ds.flatMap f) W:=by
 obtain⟨hn,a,P,rfl,HC⟩:=MU hr;have b:D<|EQ W (Cg 6 0 ⟨#[]⟩ Cq<|G a (K ds) P)<|Az W<|M (Cg 6 0 ⟨#[]⟩ Cq<|G a (K ds) P) 101:=Ko;obtain⟨n,hN⟩:=DF<|K ds;have aa:D (∀i,i<n->∃d g t z s r v w x y B,ds[i]?=H d/\a=Aa g/\(∀V,A0 W V->(A6 V g (i*5) (C Y t)/\A6 V g (i*5+1) (C Y z)/\A6 V g (i*5+2) (.string s)/\A6 V g (i*5+3) (G r v w)/\A6 V g (i*5+4) (G x y B))/\Ar As (fR o) #[Ag #[C Y t,C Y z,.string s,G r v w,G x y B]] V (Eg (f d) V))):=λi hi=>by
  obtain⟨d,m⟩:∃d,ds[i]?=H d:=⟨_,D7 E⟩
  obtain⟨ah,hs,A⟩:=ha i d m;obtain⟨t,z,s,r,v,w,x,y,B,e⟩:=A.ac;injection e with e;subst e;obtain⟨g,ea,N,q⟩:=HC i _ E hs;have ae:K (f d)<=999999999:=by have h1:=S8 f m;grind [Uh]
  refine⟨d,g,t,z,s,r,v,w,x,y,B,m,ea,λV R=>⟨?_,ih V _ d (λj S=>CQ (hF j S) R.size) (A.same (λ_ ab=>ab) λj S=>Co R j<|hF j S) ae⟩⟩;have p:=Co R g<|hF g N;exact⟨q V p 0 B8,q V p 1 B8,q V p 2 B8,q V p 3 B8,q V p 4 B8⟩
 have HL:D (∀i,K (h0++(ds.take i).flatMap f)<=999999999):=λi=>by grind [Uh]
 have HT:D<|ds.flatMap f=(ds.take n).flatMap f:=by grind [D]
 rw[AE HT];rw[hN]at c b hn ⊢;have HS:D (∀i d,ds[i]?=H d->h0++(ds.take<|i+1).flatMap f=(h0++(ds.take i).flatMap f)++f d):=λi d m=>by rw[S8 f m,La]
 unfold Cg Cq at *;obtain⟨L,Q⟩:∃L:I->Aq->Aq->X->Prop,L=(λg zs zi wr=>∃(i:I) (l:A1),zs=Ae ⟨Aw l⟩/\zi=C Y i/\D (i+g=n)/\D (l=h0++(ds.take i).flatMap f)/\D (EQ W #[C Y 6,C Y 0,Ae ⟨#[]⟩,G Ao 0 0,G a n P] wr)):=⟨_,rfl⟩
 cases o
 all_goals dsimp only[fR,cond]at *
 case' false =>
  go_enter func86,ntmps86
  go_wp2_with(first|(go_at_call 120;refine Ce (c _) ?_;rintro e w2 ⟨rfl,h⟩;unfold CX))
  go_loopg[3,4] n L
 case' true =>
  go_enter func87,ntmps87
  go_wp2_with(first|(go_at_call 126;refine Ce (c _) ?_;rintro e w2 ⟨rfl,h⟩;unfold CX))
  go_loopg[4,5] n L
 all_goals try(rw[Q];exact⟨0,h0,rfl,rfl,Bg,BR,b.next h⟩)
 all_goals
  obtain⟨i,l,rfl,rfl,N,ad,b⟩:=Q▸hrel;have c4:=Cc b.h 4;obtain _|g:=gk
  .obtain rfl:i=n:=AE N;have ag:¬(i:J)<(i:J):=E;go_wp2;go_ret;rw[<-AE ad];exact⟨Z,b.ac⟩
  have af:i<n:=AY<|AE N;have ag:(i:J)<(n:J):=E;obtain⟨d,gb,t,z,s,r,v,w,x,y,B,m,rfl,hk⟩:=aa.out i af;obtain⟨⟨k0,k1,k2,k3,k4⟩,ck⟩:=hk _ b.ac;have HN:D<|h0++(ds.take<|i+1).flatMap f=l++f d:=by grind [D]
  have ai:¬(K l+K (f d)>9223372036854775807):=by grind [D]
  go_wp2_with(first|((first|go_at_call 86|go_at_call 87);refine Ce ck ?_;rintro e w3 ⟨rfl,ac⟩;unfold CX))
  go_roundg g;rw[Q];exact⟨i+1,l++f d,by rw[<-EX],Bb,B9,HN.symm,b.next ac⟩;omega
def CV.key{key:Lit}(h:es[i]?=H (key,d))(e:key=.string l):es[i]?=H (.string l,d):=e▸h
theorem jJ(B:AK){KH:I->A1}(hF:∀j,F j->j<O (U W))(hq:DQ W 9 1 F kv (K es)<|es.map NQ)(hr:DQ W 101 5 F u (K es) xs)(ha:∀(i:I) (key:Lit) (d:A2),es[i]?=H (key,d)->∃l a,key=.string l/\Hu xs i a/\CV k W F (.agg a) d)(hl:K (h0++es.flatMap λe=>(KH (K<|D9 e.1)++D9 e.1)++f e.2)<=999999999)(c:∀V,Ar As (bif B then 126 else 120) (bif B then#[C Y 128,C Y 222,C Y<|K es]else#[C Y 5,C Y<|K es]) V<|Eg h0 V)(cK:∀(V:X) (l:A1),K l<=999999999->Ar As (bif B then 122 else 120) (bif B then#[C Y<|K l]else#[C Y 3,C Y<|K l]) V (Eg (KH<|K l) V))(ih:∀(V:X) (a:A3) (d:A2),(∀j,F j->j<O (U V))->CV k V F (.agg a) d->K (f d)<=999999999->Ar As (fR B) #[.agg a] V (Eg (f d) V)):Ar As (fR B) #[.agg<|Cg 7 0 ⟨#[]⟩ kv u] W<|Eg (h0++es.flatMap λe=>(KH (K<|D9 e.1)++D9 e.1)++f e.2) W:=by
 obtain⟨hn,a,b,rfl,HC⟩:=MU hr;obtain⟨ac,S,rfl,HQ⟩:=Y3 hq;obtain⟨q,ah⟩:∃q:Lit×AM Unit->A1,D<|(λe=>(KH (K<|D9 e.1)++D9 e.1)++f e.2)=q:=⟨_,show _=_ from rfl⟩
 rw[AE ah]at hl ⊢;have R:D<|EQ W (Cg 7 0 ⟨#[]⟩ (G ac (K es) S)<|G a (K es) b)<|Az W<|M (Cg 7 0 ⟨#[]⟩ (G ac (K es) S)<|G a (K es) b) 101:=Ko;obtain⟨n,hN⟩:=DF<|K es;have aj:D (∀i,i<n->∃e l r g gk w z s v x y L N P,es[i]?=H e/\q e=(KH (K l)++l)++r/\a=Aa g/\ac=Aa gk/\(∀V,A0 W V->A6 V gk i (Ae ⟨Aw l⟩)/\(A6 V g (i*5) (C Y w)/\A6 V g (i*5+1) (C Y z)/\A6 V g (i*5+2) (.string s)/\A6 V g (i*5+3) (G v x y)/\A6 V g (i*5+4) (G L N P))/\Ar As (fR B) #[Ag #[C Y w,C Y z,.string s,G v x y,G L N P]] V (Eg r V))):=λi hi=>by
  obtain⟨⟨key,d⟩,Q⟩:∃e,es[i]?=H e:=⟨_,D7 E⟩
  obtain⟨l,aw,au,hs,hA⟩:=ha i key d Q;subst au;obtain⟨w,z,s,v,x,y,L,N,P,e⟩:=hA.ac;injection e with e;subst e;obtain⟨g,ea,hg,hc⟩:=HC i _ E hs;obtain⟨gk,eb,aq,an⟩:=HQ i l d Q;have ai:q (.string l,d)=(KH (K l)++l)++f d:=by rw[<-AE ah];rfl
  have ap:K (f d)<=999999999:=by have h1:=S8 q Q;grind [Uh]
  refine⟨(.string l,d),l,f d,g,gk,w,z,s,v,x,y,L,N,P,Q,ai,ea,eb,λV h=>⟨an V<|Co h gk<|hF gk aq,?_,ih V _ d (λj hj=>CQ (hF j hj) h.size) (hA.same (λ_ al=>al) λj hj=>Co h j<|hF j hj) ap⟩⟩;have hb:=Co h g<|hF g hg;exact⟨hc V hb 0 B8,hc V hb 1 B8,hc V hb 2 B8,hc V hb 3 B8,hc V hb 4 B8⟩
 have HL:D (∀i,K (h0++(es.take i).flatMap q)<=999999999):=λi=>by grind [Uh]
 have HT:D<|es.flatMap q=(es.take n).flatMap q:=by grind [D]
 rw[AE HT];rw[hN]at c R hn ⊢;have HS:D (∀i d,es[i]?=H d->h0++(es.take<|i+1).flatMap q=(h0++(es.take i).flatMap q)++q d):=λi d Q=>by rw[S8 q Q,La]
 unfold Cg at *;obtain⟨ab,af⟩:∃ab:I->Aq->Aq->X->Prop,ab=(λg zs zi wr=>∃(i:I) (A:A1),zs=Ae ⟨Aw A⟩/\zi=C Y i/\D (i+g=n)/\D (A=h0++(es.take i).flatMap q)/\D (EQ W #[C Y 7,C Y 0,Ae ⟨#[]⟩,G ac n S,G a n b] wr)):=⟨_,rfl⟩
 cases B
 all_goals dsimp only[fR,cond]at *
 case' false =>
  go_enter func86,ntmps86
  go_wp2_with(first|(go_at_call 120;refine Ce (c _) ?_;rintro e w2 ⟨rfl,ad⟩;unfold CX))
  go_loopg[5,6] n ab
 case' true =>
  go_enter func87,ntmps87
  go_wp2_with(first|(go_at_call 126;refine Ce (c _) ?_;rintro e w2 ⟨rfl,ad⟩;unfold CX))
  go_loopg[6,7] n ab
 all_goals try(rw[af];exact⟨0,h0,rfl,rfl,Bg,BR,R.next ad⟩)
 all_goals
  obtain⟨i,A,rfl,rfl,hg,ao,R⟩:=af▸hrel;have c4:=Cc R.h 4;obtain _|g:=gk
  .obtain rfl:i=n:=AE hg;have av:¬(i:J)<(i:J):=E;go_wp2;go_ret;rw[<-AE ao];exact⟨Z,R.ac⟩
  have ar:i<n:=AY<|AE hg;have av:(i:J)<(n:J):=E;obtain⟨ee,l,r,t,gk,w,z,s,v,x,y,L,N,P,Q,ai,rfl,rfl,hk⟩:=aj.out i ar;obtain⟨c1,ax⟩:=CC<|A++KH (K l);obtain⟨cc,ay⟩:=CC<|c1++l;have HN:D<|h0++(es.take<|i+1).flatMap q=cc++r:=by grind [D]
  have ag:K l<=999999999/\¬(K A+K (KH<|K l)>9223372036854775807)/\¬(K c1+K l>9223372036854775807)/\¬(K cc+K r>9223372036854775807):=by grind [D]
  obtain⟨ag,g1,g2,g3⟩:=ag;have HK:D (∀V,EQ W #[C Y 7,C Y 0,Ae ⟨#[]⟩,G (Aa gk) n S,G (Aa t) n b] V->A6 V gk i (Ae ⟨Aw l⟩)/\(A6 V t (i*5) (C Y w)/\A6 V t (i*5+1) (C Y z)/\A6 V t (i*5+2) (.string s)/\A6 V t (i*5+3) (G v x y)/\A6 V t (i*5+4) (G L N P))/\Ar As _ #[Ag #[C Y w,C Y z,.string s,G v x y,G L N P]] V (Eg r V)):=λV h=>hk V h.ac;have ck:=λV=>cK V l ag
  go_wp2_with fail
  refine Dl R.drew B6 ?_;intro m;refine Nx 0 (Ae ⟨Aw A⟩) m ?_;refine Nx 1 (A9 (O<|U W) 3) m ?_;refine Jg 2 (G (Aa gk) n S) Z (λp o=>?y2) m ?_
  case y2=>(have hz:=Cc o.h 3;go_simp)
  refine Nx 3 (C Y i) m ?_;refine Jg 4 (A9 gk i) Z (λp o=>?y4) m ?_
  case y4=>go_simp
  refine Jg 5 (Ae ⟨Aw l⟩) Z (λp o=>?y5) m ?_
  case y5=>(have hz:=(HK p o).1;go_simp)
  refine Jg 6 (C Y<|K l) Z (λp o=>?y6) m ?_
  case y6=>go_simp
  refine Nx 9 (A9 (O<|U W) 3) m ?_;refine Jg 10 (G (Aa gk) n S) Z (λp o=>?z2) m ?_
  case z2=>(have hz:=Cc o.h 3;go_simp)
  refine Nx 11 (C Y i) m ?_;refine Jg 12 (A9 gk i) Z (λp o=>?z4) m ?_
  case z4=>go_simp
  refine Jg 13 (Ae ⟨Aw l⟩) Z (λp o=>?z5) m ?_
  case z5=>(have hz:=(HK p o).1;go_simp)
  refine Nx 15 (A9 (O<|U W) 4) m ?_;refine Jg 16 (G (Aa t) n b) Z (λp o=>?x2) m ?_
  case x2=>(have hz:=Cc o.h 4;go_simp)
  refine Nx 17 (C Y i) m ?_;refine Jg 18 (A9 t<|i*5) Z (λp o=>?x4) m ?_
  case x4=>go_simp
  refine Jg 19 (Ag #[C Y w,C Y z,.string s,G v x y,G L N P]) Z (λp o=>?x5) m ?_
  case x5=>(obtain⟨k0,k1,k2,k3,k4⟩:=(HK p o).2.1;go_simp)
  refine CH 7 λak hK=>?_;go_simp;refine Ce (ck _) ?_;rintro e w2 ⟨rfl,ad⟩;have aa:=m.next ad
  refine hK.out _ _ aa λ_=>?_;refine Jg 8 (CX c1) Z (λp o=>?u1) aa ?_
  case u1=>(unfold CX;go_simp;grind [D,EX])
  refine Jg 14 (CX cc) Z (λp o=>?u2) aa ?_
  case u2=>(unfold CX;go_simp;grind [D,EX])
  refine CH 20 λak hK=>?_;go_simp;refine Ce (HK _ aa).2.2 ?_;rintro e w3 ⟨rfl,am⟩;have ae:=aa.next am
  refine hK.out _ _ ae λ_=>?_;refine Jg 21 (CX<|cc++r) Z (λp o=>?u3) ae ?_
  case u3=>(unfold CX;go_simp;exact EX)
  refine Nx 22 (CX<|cc++r) ae ?_;refine CK ?_;go_wp2;go_roundg g;rw[af];exact⟨i+1,_,Z,Bb,B9,HN.symm,ae⟩;omega
def YD(a v:J)(b:AU)(d:(a=0/\v=192)\/(a=1/\v=194)\/(a=2/\v=195))(hb:(b.toNat:J)=v):Ar As 87 #[.agg<|Cg a 0 ⟨#[]⟩ Cq Cq] W<|Eg [b] W:=by
 have c:=JS (Az W<|M (Cg a 0 ⟨#[]⟩ Cq Cq) 101) v b hb.symm;rw[show(Az W<|M (Cg a 0 ⟨#[]⟩ Cq Cq) 101).heap.size=O (U W)+1 by simp]at c;unfold Cg Cq at *;rcases d with⟨rfl,rfl⟩|⟨rfl,rfl⟩|⟨rfl,rfl⟩
 all_goals
  go_enter func87,ntmps87;go_wp2;go_ret;exact⟨Z,(Cm).alloc Ba _⟩
def zr(d : -9223372036854775808<=z)(g:z<=9223372036854775807):Ar As 87 #[.agg<|Cg 3 z ⟨#[]⟩ Cq Cq] W<|Eg (Km z) W:=by
 have b:D<|EQ W (Cg 3 z ⟨#[]⟩ Cq Cq)<|Az W<|M (Cg 3 z ⟨#[]⟩ Cq Cq) 101:=Ko;have c:∀V,Ar As 121 #[C Y z] V<|Eg (Km z) V:=λV=>by
  unfold Km;by_cases a:z<0
  .rw[Cp a];exact zm a d
  rw[Cl a];have h:=zl V z.toNat E;rw[show((z.toNat:I):J)=z by omega]at h;exact h
 generalize Km z=R at *;unfold Cg Cq at *;go_enter func87,ntmps87
 go_wp2_with(first|(go_at_call 121;refine(c _).mono ?_;rintro e i ⟨rfl,f⟩))
 go_ret;exact⟨rfl,(b.next f).ac⟩
theorem zu(x:I):K (EP x)<=9:=by grind [EP,Im]
theorem zx(hl:K l<=999999999):Ar As 87 #[.agg<|Cg 4 0 ⟨Aw l⟩ Cq Cq] W<|Eg (EP (K l)++l) W:=by
 have g:D<|EQ W (Cg 4 0 ⟨Aw l⟩ Cq Cq)<|Az W<|M (Cg 4 0 ⟨Aw l⟩ Cq Cq) 101:=Ko;have c:=λV=>jD V (n:=K l) E;have m:¬(K (EP<|K l)+K l>9223372036854775807):=by grind [zu]
 generalize EP (K l)=hd at *;unfold Cg Cq at *;go_enter func87,ntmps87
 go_wp2_with fail
 generalize Az W (M #[C Y 4,C Y 0,Ae ⟨Aw l⟩,G Ao 0 0,G Ao 0 0] 101)=V0 at *;refine Dl (S:=EQ W #[C Y 4,C Y 0,Ae ⟨Aw l⟩,G Ao 0 0,G Ao 0 0]) g.drew B6 λa=>Cb 0 29 (A9 (O<|U W) 2) a <| Ch 1 30 (Ae ⟨Aw l⟩) Z (λf b=>kfQ) a <| Ch 2 31 (C Y<|K l) Z (λf b=>Bh) a <| Cb 4 33 (A9 (O<|U W) 2) a <| Ch 5 34 (Ae ⟨Aw l⟩) Z (λf b=>kfQ) a <| CH 3 λk i=>?_;go_simp;refine(c _).mono ?_;rintro e o ⟨rfl,h⟩;have d:=a.next h
 refine i.out _ _ d λ_=>?_;refine Ch 6 35 (CX<|hd++l) Z (λf b=>BI) d <| Cb 7 2 (CX<|hd++l) d <| CK ?_;go_wp2;go_ret;exact⟨Z,d.ac⟩
theorem zy(n:I)(c:n<4294967296):Gs n=_root_.UInt8.ofNat (196+Fo n)::CJ n (2^Fo n):=by
 unfold Gs Fo;by_cases a:n<256
 .rw[Cp E,Cp a];rfl
 rw[Cl E,Cl a];by_cases b:n<65536
 .rw[Cp E,Cp b];rfl
 rw[Cl E,Cl b,Cp c];rfl
theorem zA(hl:K l<=999999999):Ar As 87 #[.agg<|Cg 5 0 ⟨Aw l⟩ Cq Cq] W<|Eg (Gs (K l)++l) W:=by
 have r:D<|EQ W (Cg 5 0 ⟨Aw l⟩ Cq Cq)<|Az W<|M (Cg 5 0 ⟨Aw l⟩ Cq Cq) 101:=Ko;obtain⟨m,j⟩:=DF<|Fo<|K l;have k:=j▸S6 _;obtain⟨u,hu⟩:=DF<|_root_.UInt8.ofNat<|196+m;have N:D<|(u.toNat:J)=196+m:=by grind [D,Hz]
 have F:=(Ma (Cr m) k).2;have o:D<|Gs (K l)++l=([u]++CJ (K l) (2^m))++l:=by grind [D,zy]
 rw[AE o];have i:=λV=>S7 V (K l:J);rw[OE,j]at i;have t:=λV=>Pd (2^m) (K l) V E F;have v:=λV=>Ug V k;have R:K (CJ (K l)<|2^m)<=8:=keF;generalize CJ (K l) (2^m)=bb at *;generalize 2^m=kv at *;have p:D<|IntKind.i64.wrap (196+(m:J))=u.toNat:=by grind [D,If]
 have q:D<|IntKind.u8.wrap (u.toNat:J)=u.toNat:=w8 _ (by grind [D]);have Q:¬(1+K bb>9223372036854775807):=E;have w:¬(K ([u]++bb)+K l>9223372036854775807):=B9;obtain⟨g,n⟩:=CC<|[u]++bb;rw[AE n]at w ⊢;unfold Cg Cq at *;go_enter func87,ntmps87
 go_wp2_with(first|(go_at_call 123;refine(i _).mono ?_;rintro e w2 ⟨rfl,z⟩;have s:=T<|r.next z))
 refine Dl (S:=EQ W #[C Y 5,C Y 0,Ae ⟨Aw l⟩,G Ao 0 0,G Ao 0 0]) s.drew B6 λa=>Cb 0 42 (C Y kv) a <| Cb 6 48 (A9 (O<|U W) 2) a <| Ch 7 49 (Ae ⟨Aw l⟩) Z (λb f=>kfR) a <| Ch 8 50 (C Y<|K l) Z (λb f=>Bh) a <| Cb 9 51 (C Y kv) a <| Cb 12 54 (A9 (O<|U W) 2) a <| Ch 13 55 (Ae ⟨Aw l⟩) Z (λb f=>kfR) a <| CH 1 λP B=>?_;go_simp;refine(v _).mono ?_;rintro e w3 ⟨rfl,A⟩;have c:=a.next A
 refine B.out _ _ c λ_=>?_;refine Ch 2 44 (C Y u.toNat) Z (λb _=>by go_simp<;>exact p) c <| Ch 3 45 (C Am u.toNat) rfl (λb _=>by go_simp<;>exact q) c ?_;refine O5 10 4 5 52 46 47 u ⟨rfl,rfl,rfl⟩ rfl B6 (λ_ _ _=>⟨B6,B6,B6⟩) (λ_=>⟨B6,B6⟩) t (λ_ h=>c.next h) λV y x=>?_;have d:=c.next x
 refine Ch 11 53 (CX g) Z (λb _=>by unfold CX;go_simp;grind [D,EX]) d <| Ch 14 56 (CX<|g++l) rfl (λb _=>BI) d <| Cb 15 2 (CX<|g++l) d <| CK ?_;go_wp2;go_ret;exact⟨B6,d.ac⟩
theorem zB(h:A2->AK)(hF:∀j,F j->j<O (U W))(hr:DQ W 101 5 F u (K ds) xs)(ha:∀(i:I) (d:A2),ds[i]?=H d->∃a,Hu xs i a/\CV k W F (.agg a) d)(hl:K (([91]++Dm f ds)++[93])<=149999999)(ih:∀(V:X) (a:A3) (d:A2),(∀j,F j->j<O (U V))->CV k V F (.agg a) d->K (f d)<=149999999->Ar As 85 #[.agg a] V (Iq (h d) (f d) V)):Ar As 85 #[.agg<|Cg 6 0 ⟨#[]⟩ Cq u] W<|Iq (ds.any h) (([91]++Dm f ds)++[93]) W:=by
 obtain⟨hn,a,aa,rfl,HC⟩:=MU hr;have c:D<|EQ W (Cg 6 0 ⟨#[]⟩ Cq<|G a (K ds) aa)<|Az W<|M (Cg 6 0 ⟨#[]⟩ Cq<|G a (K ds) aa) 101:=Ko;obtain⟨n,hN⟩:=DF<|K ds;have ao:K (Dm f ds)+2<=149999999:=B9;have af:D (∀i,i<n->∃e l m g q z s p r t v w y,ds[i]?=H e/\f e=l/\h e=m/\a=Aa g/\(∀V,A0 W V->(A6 V g (i*5) (C Y q)/\A6 V g (i*5+1) (C Y z)/\A6 V g (i*5+2) (.string s)/\A6 V g (i*5+3) (G p r t)/\A6 V g (i*5+4) (G v w y))/\Ar As 85 #[Ag #[C Y q,C Y z,.string s,G p r t,G v w y]] V (Iq m l V))):=λi hi=>by
  obtain⟨d,m⟩:∃e,ds[i]?=H e:=⟨_,D7 E⟩
  obtain⟨al,hs,hA⟩:=ha i d m;obtain⟨q,z,s,p,r,t,v,w,y,e⟩:=hA.ac;injection e with e;subst e;obtain⟨g,ea,S,P⟩:=HC i _ E hs;have h1:=Uq f m;refine⟨d,f d,h d,g,q,z,s,p,r,t,v,w,y,m,Z,Z,ea,λV o=>⟨?_,ih V _ d (λj hj=>CQ (hF j hj) o.size) (hA.same (λ_ h=>h) λj hj=>Co o j<|hF j hj) E⟩⟩;have N:=Co o g<|hF g S;exact⟨P V N 0 B8,P V N 1 B8,P V N 2 B8,P V N 3 B8,P V N 4 B8⟩
 rw[hN]at c hn;unfold Cg Cq at *;go_enter func85,ntmps85;rw[hN];go_wp2
 go_loopg[4,5] n (λg zs zi wr=>∃(i:I) (b:A1),zs=Ae ⟨Aw b⟩/\zi=C Y i/\D (i+g=n)/\D (b=Dm f (ds.take i))/\D ((ds.take i).any h=AQ)/\D (EQ W #[C Y 6,C Y 0,Ae ⟨#[]⟩,G Ao 0 0,G a n aa] wr))
 exact⟨0,[],Z,Z,Bg,Z,Z,c⟩;obtain⟨i,b,rfl,rfl,S,ad,am,c⟩:=hrel;have c0:=Cc c.h 0;have c3:=Cc c.h 3;have c4:=Cc c.h 4;obtain _|g:=gk
 .obtain rfl:i=n:=AE S;have ai:¬(i:J)<(i:J):=E;have an:K b+2<=149999999:=by grind [D]
  have g1:¬(1+K b>9223372036854775807):=E;have g2:¬(1+K b+1>9223372036854775807):=E;have R:D<|ds.any h=AQ/\Dm f ds=b:=B9;go_wp2;refine CS (FP results85 _ _ _) Z ?_;unfold Iq;rw[R.1,R.2];refine⟨?_,c.ac⟩;exact congrArg (λak=>Ending.returned<|Value.tuple #[.string ak,Ah AP])<|j0 91 93
 have ah:i<n:=AY<|AE S;have ai:(i:J)<(n:J):=E;obtain⟨ee,l,m,gb,q,z,s,p,r,t,v,w,y,ab,ae,ag,rfl,hk⟩:=af.out i ah;have ac:=hk;obtain⟨⟨k0,k1,k2,k3,k4⟩,_⟩:=ac _ c.ac;have aj:=Uq f ab;rw[<-AE ad,ae]at aj;have g0:¬(K b+1>9223372036854775807):=E;have g1:¬(K b+K l>9223372036854775807):=E;have g2:¬(K b+1+K l>9223372036854775807):=E;have B:=c;cases m
 .have Q:D (∀V,A0 W V->Ar As 85 #[Ag #[C Y q,C Y z,.string s,G p r t,G v w y]] V λe W'=>e=Ak (Af #[Ae ⟨Aw l⟩,Ah AP])/\A0 V W'):=λV o=>(ac V o).2;have HA:D<|(ds.take<|i+1).any h=AQ:=by grind [j2]
  by_cases h0:0<i
  .have x:D<|Dm f (ds.take<|i+1)=(b++[44])++l:=by grind [D,Sd]
   have A:0<(i:J):=E
   go_wp2_with(first
   |(go_at_call 85;refine Ce (Q _ B.ac) ?_;rintro e w3 ⟨rfl,L⟩))
   go_roundg g;exact⟨i+1,_,kfI,Bb,B9,x.symm,HA,B.next L⟩;omega
  obtain rfl:i=0:=E;have x:D<|Dm f (ds.take<|0+1)=b++l:=by show _=_;rw[Sc _ ab,AE ad,ae];rfl
  go_wp2_with(first
  |(go_at_call 85;refine Ce (Q _ B.ac) ?_;rintro e w3 ⟨rfl,L⟩))
  go_roundg g;exact⟨0+1,_,by rw[<-EX],Bb,B9,x.symm,HA,B.next L⟩;omega
 have Q:D (∀V,A0 W V->Ar As 85 #[Ag #[C Y q,C Y z,.string s,G p r t,G v w y]] V λe W'=>e=Ak (Af #[Ae ⟨#[]⟩,Ah AQ])/\A0 V W'):=λV o=>(ac V o).2;have R:=T<|Ud _ ab ag;have A:(0<(i:J))\/¬(0<(i:J)):=E;rcases A with A|A
 all_goals
  go_wp2_with(first
  |(go_at_call 85;refine Ce (Q _ B.ac) ?_;rintro e w3 ⟨rfl,L⟩))
  refine CS (FP results85 _ _ _) Z ?_;unfold Iq;rw[AE R];exact⟨rfl,(B.next L).ac⟩
theorem zC(h:A2->AK)(hF:∀j,F j->j<O (U W))(hq:DQ W 9 1 F kv (K es)<|es.map NQ)(hr:DQ W 101 5 F u (K es) xs)(ha:∀(i:I) (key:Lit) (d:A2),es[i]?=H (key,d)->∃l a,key=.string l/\Hu xs i a/\CV k W F (.agg a) d)(hl:K (([123]++Dm (MX f) es)++[125])<=149999999)(ih:∀(V:X) (a:A3) (d:A2),(∀j,F j->j<O (U V))->CV k V F (.agg a) d->K (f d)<=149999999->Ar As 85 #[.agg a] V (Iq (h d) (f d) V)):Ar As 85 #[.agg<|Cg 7 0 ⟨#[]⟩ kv u] W<|Iq (es.any λe=>h e.2) (([123]++Dm (MX f) es)++[125]) W:=by
 obtain⟨hn,a,ad,rfl,HC⟩:=MU hr;obtain⟨b,ae,rfl,HQ⟩:=Y3 hq;obtain⟨p,ag⟩:∃p:Lit×AM Unit->A1,D<|MX f=p:=⟨_,show _=_ from rfl⟩
 obtain⟨S,ah⟩:∃S:Lit×AM Unit->AK,D<|(λe=>h e.2)=S:=⟨_,show _=_ from rfl⟩
 rw[AE ag]at hl ⊢;rw[AE ah];have o:D<|EQ W (Cg 7 0 ⟨#[]⟩ (G b (K es) ae)<|G a (K es) ad)<|Az W<|M (Cg 7 0 ⟨#[]⟩ (G b (K es) ae)<|G a (K es) ad) 101:=Ko;obtain⟨n,hN⟩:=DF<|K es;have ax:K (Dm p es)+2<=149999999:=B9;have ak:D (∀i,i<n->∃e l v t g gk B z s y L N P Q R,es[i]?=H e/\p e=(qT l++[58])++v/\S e=t/\K l<=150000000/\a=Aa g/\b=Aa gk/\(∀V,A0 W V->A6 V gk i (Ae ⟨Aw l⟩)/\(A6 V g (i*5) (C Y B)/\A6 V g (i*5+1) (C Y z)/\A6 V g (i*5+2) (.string s)/\A6 V g (i*5+3) (G y L N)/\A6 V g (i*5+4) (G P Q R))/\Ar As 85 #[Ag #[C Y B,C Y z,.string s,G y L N,G P Q R]] V (Iq t v V))):=λi hi=>by
  obtain⟨⟨key,d⟩,t⟩:∃e,es[i]?=H e:=⟨_,D7 E⟩
  obtain⟨l,au,w,hs,hA⟩:=ha i key d t;subst w;obtain⟨B,z,s,y,L,N,P,Q,R,e⟩:=hA.ac;injection e with e;subst e;obtain⟨g,ea,hg,hc⟩:=HC i _ E hs;obtain⟨gk,eb,am,al⟩:=HQ i l d t;have A:p (.string l,d)=(qT l++[58])++f d:=by rw[<-AE ag];rfl
  have h1:=Uq p (l:=es) (i:=i) t;have h3:=O6 qB l λb _=>iZ b;rw[A,Dj,Dj]at h1;unfold qT at h1;rw[Dj,Dj]at h1;refine⟨(.string l,d),l,f d,h d,g,gk,B,z,s,y,L,N,P,Q,R,t,A,by rw[<-AE ah],E,ea,eb,λV r=>⟨al V<|Co r gk<|hF gk am,?_,ih V _ d (λj hj=>CQ (hF j hj) r.size) (hA.same (λ_ h=>h) λj hj=>Co r j<|hF j hj) E⟩⟩;have hb:=Co r g<|hF g hg;exact⟨hc V hb 0 B8,hc V hb 1 B8,hc V hb 2 B8,hc V hb 3 B8,hc V hb 4 B8⟩
 have cQ:=λV l h=>iV V (l:=l) h;rw[hN]at o hn;unfold Cg at *;go_enter func85,ntmps85;rw[hN];go_wp2
 go_loopg[4,5] n (λg zs zi wr=>∃(i:I) (m:A1),zs=Ae ⟨Aw m⟩/\zi=C Y i/\D (i+g=n)/\D (m=Dm p (es.take i))/\D ((es.take i).any S=AQ)/\D (EQ W #[C Y 7,C Y 0,Ae ⟨#[]⟩,G b n ae,G a n ad] wr))
 exact⟨0,[],Z,Z,Bg,Z,Z,o⟩;obtain⟨i,m,rfl,rfl,hg,ai,av,o⟩:=hrel;have c0:=Cc o.h 0;have c3:=Cc o.h 3;have c4:=Cc o.h 4;obtain _|g:=gk
 .obtain rfl:i=n:=AE hg;have aq:¬(i:J)<(i:J):=E;have aw:K m+2<=149999999:=by grind [D]
  have g1:¬(1+K m>9223372036854775807):=E;have g2:¬(1+K m+1>9223372036854775807):=E;have HE:D<|es.any S=AQ/\Dm p es=m:=B9;go_wp2;refine CS (FP results85 _ _ _) Z ?_;unfold Iq;rw[HE.1,HE.2];refine⟨?_,o.ac⟩;exact congrArg (λar=>Ending.returned<|Value.tuple #[.string ar,Ah AP])<|j0 123 125 (l:=m)
 have ao:i<n:=AY<|AE hg;have aq:(i:J)<(n:J):=E;obtain⟨ee,l,v,t,gb,gk,B,z,s,y,L,N,P,Q,R,af,A,an,ap,rfl,rfl,hk⟩:=ak.out i ao;obtain⟨q,HQ⟩:=CC<|qT l;have cq:=λV=>cQ V l ap;rw[AE HQ]at cq A;have k5:=(hk _ o.ac).1;have w:=λV r=>(hk V r).2;obtain⟨⟨k0,k1,k2,k3,k4⟩,_⟩:=w _ o.ac;have aj:=Uq p (l:=es) (i:=i) af;rw[<-AE ai,A]at aj;simp only[Dj,List.length_singleton]at aj;have g0:¬(K m+1>9223372036854775807):=E;have g1:¬(K m+K q>9223372036854775807):=E;have g2:¬(K m+1+K q>9223372036854775807):=E;have g3:¬(K m+K q+1>9223372036854775807):=E;have g4:¬(K m+1+K q+1>9223372036854775807):=E;have g5:¬(K m+K q+1+K v>9223372036854775807):=E;have g6:¬(K m+1+K q+1+K v>9223372036854775807):=E;cases t
 .have ab:D (∀V,A0 W V->Ar As 85 #[Ag #[C Y B,C Y z,.string s,G y L N,G P Q R]] V λe W'=>e=Ak (Af #[Ae ⟨Aw v⟩,Ah AP])/\A0 V W'):=λV r=>(w V r).2;have HA:D<|(es.take<|i+1).any S=AQ:=by grind [j2]
  by_cases h0:0<i
  .have HN:D<|Dm p (es.take<|i+1)=(((m++[44])++q)++[58])++v:=by grind [D,Sd]
   have ac:0<(i:J):=E
   go_wp2_with(first
   |(go_at_call 119;refine Ce (cq _) ?_;rintro e w2 ⟨rfl,x⟩;unfold CX;have c:=T<|o.next x;obtain⟨⟨k0,k1,k2,k3,k4⟩,_⟩:=w _ c.ac;have c0:=Cc c.h 0;have c4:=Cc c.h 4)
   |(go_at_call 85;refine Ce (ab _ c.ac) ?_;rintro e w3 ⟨rfl,aa⟩))
   go_roundg g;exact⟨i+1,_,kfI,Bb,B9,HN.symm,HA,c.next aa⟩;omega
  obtain rfl:i=0:=E;have HN:D<|Dm p (es.take<|0+1)=((m++q)++[58])++v:=by show _=_;rw[Sc _ af,AE ai,A];simp only[La];rfl
  go_wp2_with(first
  |(go_at_call 119;refine Ce (cq _) ?_;rintro e w2 ⟨rfl,x⟩;unfold CX;have c:=T<|o.next x;obtain⟨⟨k0,k1,k2,k3,k4⟩,_⟩:=w _ c.ac;have c0:=Cc c.h 0;have c4:=Cc c.h 4)
  |(go_at_call 85;refine Ce (ab _ c.ac) ?_;rintro e w3 ⟨rfl,aa⟩))
  go_roundg g;exact⟨0+1,_,kfI,Bb,B9,HN.symm,HA,c.next aa⟩;omega
 have ab:D (∀V,A0 W V->Ar As 85 #[Ag #[C Y B,C Y z,.string s,G y L N,G P Q R]] V λe W'=>e=Ak (Af #[Ae ⟨#[]⟩,Ah AQ])/\A0 V W'):=λV r=>(w V r).2;have HE:=T<|Ud _ af an;have ac:(0<(i:J))\/¬(0<(i:J)):=E;rcases ac with ac|ac
 all_goals
  go_wp2_with(first
  |(go_at_call 119;refine Ce (cq _) ?_;rintro e w2 ⟨rfl,x⟩;unfold CX;have c:=T<|o.next x;obtain⟨⟨k0,k1,k2,k3,k4⟩,_⟩:=w _ c.ac;have c0:=Cc c.h 0;have c4:=Cc c.h 4)
  |(go_at_call 85;refine Ce (ab _ c.ac) ?_;rintro e w3 ⟨rfl,aa⟩))
  refine CS (FP results85 _ _ _) Z ?_;unfold Iq;rw[AE HE];exact⟨rfl,(c.next aa).ac⟩
def Ff{a b:A3}(h:Value.agg a=.agg b):a=b:=by injection h
theorem UB:∀(k:I) (W:X) (F:I->Prop) (a:A3) (d:A2),(∀j,F j->j<O (U W))->CV k W F (.agg a) d->K (Du k d)<=999999999->Ar As 86 #[.agg a] W (Eg (Du k d) W)
 |0,_,_,_,_,_,h,_=>h.elim
 |k+1,W,F,a,d,hF,h,hl=>by
  unfold CV at h;split at h
  .obtain rfl:=Ff h;exact YC 0 246 246 B8 Z
  .rename_i b;obtain rfl:=Ff h;cases b
   .exact YC 1 244 244 B8 Z
   exact YC 2 245 245 B8 Z
  .obtain⟨h,c,e⟩:=h;obtain rfl:=Ff h;exact zp c e
  .rename_i l;obtain rfl:=Ff h;exact(jH (by have:K (Dd 3 (K l)++l)<=999999999:=hl;grind)).1
  .rename_i l;obtain rfl:=Ff h;exact(jH (by have:K (Dd 2 (K l)++l)<=999999999:=hl;grind)).2
  .obtain⟨u,n,h,f,i⟩:=h;obtain rfl:=Ff h;exact jI AQ hF f i hl (λV=>Qv V 4 _ B8 (MU f).1) λV a d c e g=>UB k V F a d c e g
  .obtain⟨o,u,n,h,m,f,i⟩:=h;obtain rfl:=Ff h;exact jJ AQ hF m f i hl (λV=>Qv V 5 _ B8 (MU f).1) (λV l h=>Qv V 3 (K l) B8 E) λV a d c e g=>UB k V F a d c e g
  exact h.elim
theorem YE:∀(k:I) (W:X) (F:I->Prop) (a:A3) (d:A2),(∀j,F j->j<O (U W))->CV k W F (.agg a) d->K (Ip k d)<=999999999->Ar As 87 #[.agg a] W (Eg (Ip k d) W)
 |0,_,_,_,_,_,h,_=>h.elim
 |k+1,W,F,a,d,hF,h,hl=>by
  unfold CV at h;split at h
  .obtain rfl:=Ff h;exact YD 0 192 192 B8 Z
  .rename_i b;obtain rfl:=Ff h;cases b
   .exact YD 1 194 194 B8 Z
   exact YD 2 195 195 B8 Z
  .obtain⟨h,c,e⟩:=h;obtain rfl:=Ff h;exact zr c e
  .rename_i l;obtain rfl:=Ff h;exact zx (by have:K (EP (K l)++l)<=999999999:=hl;grind)
  .rename_i l;obtain rfl:=Ff h;exact zA (by have:K (Gs (K l)++l)<=999999999:=hl;grind)
  .obtain⟨u,n,h,f,i⟩:=h;obtain rfl:=Ff h;exact jI AP hF f i hl (λV=>(jE).1▸jF V 144 220 B8 B8 (MU f).1) λV a d c e g=>YE k V F a d c e g
  .obtain⟨o,u,n,h,m,f,i⟩:=h;obtain rfl:=Ff h;exact jJ AP hF m f i hl (λV=>(jE).2▸jF V 128 222 B8 B8 (MU f).1) (λV l h=>jD V E) λV a d c e g=>YE k V F a d c e g
  exact h.elim
theorem YF:∀(k:I) (W:X) (F:I->Prop) (a:A3) (d:A2),(∀j,F j->j<O (U W))->CV k W F (.agg a) d->K (JT k d)<=149999999->Ar As 85 #[.agg a] W (Iq (F7 k d) (JT k d) W)
 |0,_,_,_,_,_,h,_=>h.elim
 |k+1,W,F,a,d,hF,h,hl=>by
  unfold CV at h;split at h
  .obtain rfl:=Ff h;exact Yj 0<|AF ⟨Z,Z⟩
  .rename_i b;obtain rfl:=Ff h;cases b
   .exact Yj 1<|AG<|AF ⟨Z,Z⟩
   exact Yj 2<|AG<|AG ⟨Z,Z⟩
  .obtain⟨h,c,e⟩:=h;obtain rfl:=Ff h;exact xA c e
  .rename_i l;obtain rfl:=Ff h;refine xB ?_;have c:K (qT l)<=149999999:=hl;grind [O6,iZ,qT]
  .rename_i l;obtain rfl:=Ff h;exact xz
  .obtain⟨u,n,h,i,g⟩:=h;obtain rfl:=Ff h;exact zB (F7 k) hF i g hl λV a d c e f=>YF k V F a d c e f
  .obtain⟨o,u,n,h,m,i,g⟩:=h;obtain rfl:=Ff h;exact zC (F7 k) hF m i g hl λV a d c e f=>YF k V F a d c e f
  exact h.elim
def zD(d:A6 W 8 15<|C Am 4):Ar As 248 #[C .u64 16] W λe a=>e=Ak (C Y 4)/\a=W:=by have b:IntKind.u64.wrap (-16)=18446744073709551600:=B6;have c:bits .and .u64 16 18446744073709551600=16:=B6;go_enter func248,ntmps248;go_wp2;go_ret;exact⟨Z,Z⟩
def zE(b:A6 W 8 15<|C Am 4):Ar As 239 #[C .u64 16] W λe a=>e=Ak (C Y 4)/\a=W:=by
 have c:=zD b;go_enter func239,ntmps239
 go_wp2_with(first|(go_at_call 248;refine Ce c ?_;rintro e d ⟨rfl,rfl⟩))
 go_ret;exact⟨Z,Z⟩
def zG(W:X):Ar As 238 #[C Y 16] W λe a=>e=Ak (Ah AP)/\a=W:=by have b:bits .and Y 16 15=0:=B6;go_enter func238,ntmps238;go_wp2;go_ret;exact⟨Z,Z⟩
def hxL(u:AH):A1:=if u<16 then[Ep u]else hxL (u/16)++[Ep<|u%16]
theorem Sq{u:I}(h:u<16):hxL u=[Ep u]:=by rw[hxL,Cp h]
theorem UC{u:I}(h:¬u<16):hxL u=hxL (u/16)++[Ep<|u%16]:=by rw[hxL,Cl h]
theorem YH:∀(k u:I),u<16^(k+1)->K (hxL u)<=k+1
 |0,u,h=>by grind [Sq]
 |k+1,u,h=>by
  by_cases a:u<16
  .rw[Sq a];simp
  rw[UC a,Dj];have b:u/16<16^(k+1):=E;have:=YH k (u/16) b;simp;omega
structure Mf(W:Ap)(tl:A1)(V:Ap):Prop where
 ac:A0 W V
 ad:V.heap[_root_.Array.size (Go.World.heap W)]?=An (.cells (Aw ((AV (65-At tl) (0:AU)++tl).map CP)) 366)
 a:At tl<=65
def jM{x:I}(hx:x<16)(V:X):(Instr.index 9 (Ae ⟨#[48,49,50,51,52,53,54,55,56,57,97,98,99,100,101,102,103,104,105,106,107,108,109,110,111,112,113,114,115,116,117,118,119,120,121,122]⟩)<|C .u64 x).run As V=.ok (C Am ((Ep x).toNat:J)) V:=kfP
theorem zI{a:I}(c:a<18446744073709551616):bits .and .u64 (a:J) 15=((a%16:I):J):=by
 have h:(BitVec.ofNat 64 a&&&BitVec.ofNat 64 15).toNat=a%16:=by rw[aC,OD,OD,Mu E,Mu E];exact ZQ a 4
 have b:BitVec.ofInt 64 (a:J)=BitVec.ofNat 64 a:=OA ..;show IntKind.u64.wrap ((BitVec.ofInt 64 (a:J)&&&BitVec.ofNat 64 15).toNat:J)=_;grind [IntKind.wrap,IntKind.bits]
def Mf.cell(h:Mf W tl V)(a:j+1+K tl=65):AC V ⟨O<|U W,j,Ao⟩=H (C Am 0):=by have:=Cc h.ad j;rw[this];simp[show j<65-K tl by omega,List.getElem?_append,CP]
theorem Mf.set(h:Mf W tl V)(c:j+1+K tl=65)(b:AU):Mf W (b::tl)<|AB V ⟨O<|U W,j,Ao⟩<|CP b:=by refine⟨h.ac.setCell (Cr _) _,?_,B7⟩;rw[DX V _ _ _ _ _ h.ad];have a:65-K tl=j+1:=E;grind [List.map_replicate,List.replicate_succ',List.set_append_right]
theorem Mf.ai(h:Mf W tl V)(hi:i+K tl=65):(convert 50 9<|G (H ⟨O<|U W,i,Ao⟩) (K tl) c).run As V=.ok (Ae ⟨Aw tl⟩) V:=by refine R5 V 50 9 5 ⟨O<|U W,i,Ao⟩ c tl underlying50 underlying5 underlying9 ?_;intro j a;have e:(⟨O<|U W,i,Ao⟩:Addr).add j=⟨O<|U W,i+j,Ao⟩:=C2;rw[e];have:=Cc h.ad<|i+j;grind [CP]
def Mf.thaw(h:Mf W tl V)(j:I):V.frozen? ⟨O<|U W,j,Ao⟩=AQ:=by have:=h.ad;simp[World.frozen?,this]
theorem zJ(V:X)(N j n:I)(h:j+n=65)(b:0<n):(Instr.sliceAt 366 (A8 N) (H<|C Y j) Ao Ao).run As V=.ok (G (H ⟨N,j,Ao⟩) n n) V:=by rw[run_sliceAt_array_l V 366 ⟨N,0,Ao⟩ B6 Y j E<|by show(j:J)<=65;omega];have e:prog.arrayLen 366=65:=B6;have a:(sizeOf<|prog.elem 366).run As V=.ok 1 V:=B6;grind [Addr.add,Result.andThen_ok,slicedAt]
theorem zK{u:I}(S:u<18446744073709551616)(hz:A6 W 8 15<|C Am 4):Ar As 222 #[G Ao 0 0,C .u64 u,C Y 16,Ah AQ,Ah AQ] W λe m=>e=Ak (Af #[G Ao 0 0,Ae ⟨Aw<|hxL u⟩])/\A0 W m:=by
 have N:8<O (U W):=by grind [World.cell?]
 have w:=λV=>zG V;have z:∀V,A0 W V->Ar As 239 #[C .u64 16] V λe m=>e=Ak (C Y 4)/\m=V:=λV B=>zE<|Ca (B.cell N) hz;go_enter func222,ntmps222
 go_wp2_with(first
  |(go_at_call 238;refine Ce (w _) ?_;rintro e w2 ⟨rfl,rfl⟩)
  |(go_at_call 239;refine Ce (z _ Cm) ?_;rintro e w3 ⟨rfl,rfl⟩))
 go_loopg[1,13] 16 (λg x y wr=>∃(d i:I) (a:A1),x=C .u64 d/\y=C Y i/\D (i+K a=65)/\D (hxL u=hxL d++a)/\D (d<16^g)/\D (K a+g<=16)/\D (Mf W a wr))
 exact⟨u,65,[],Z,Z,Z,BR,S,Cr 16,⟨Cm,Ca (Cj W) B6,Ex _⟩⟩;obtain⟨d,i,a,rfl,rfl,f,HH,r,s,h⟩:=hrel;obtain⟨j,rfl⟩:∃j,i=j+1:=⟨i-1,by grind [D]⟩
 have hj:j<65:=AY<|AE f;have F:d<18446744073709551616:=by have h1:=AE r;have h2:=AE s;have h3:16^gk<=16^16:=OB E E;omega
 have p:=T<|zI F;have hc:=h.cell f;have aa:=h.thaw j;by_cases Q:d<16
 .have A:AR ((16:J)<=d)=AQ:=B7;have l:D (hxL u=Ep d::a):=by grind [Sq]
  obtain⟨b,k⟩:=CC<|Ep d;have P:=λV=>AE k▸jM Q V;have R:=λV=>zJ V (O<|U W) j (K (b::a)) (by grind [D]) Ba;have L:(convert 50 9<|G (H ⟨O<|U W,j,Ao⟩) (K (b::a))<|K (b::a)).run As (AB wr ⟨O<|U W,j,Ao⟩<|C Am (b.toNat:J))=.ok (Ae ⟨Aw (b::a)⟩) (AB wr ⟨O<|U W,j,Ao⟩<|C Am (b.toNat:J)):=(h.set f b).ai (i:=j) (c:=K (b::a)) (by grind [D]);have v:=T<|h.set f b;have q:=T<|AE k▸AE l;obtain⟨ab,t⟩:=CC<|K (b::a);rw[AE t]at R L
  go_wp2_with fail
  refine CS (FP results222 _ _ _) Z ⟨?_,v.ac⟩;rw[AE q];rfl
 have A:AR ((16:J)<=d)=AP:=B7;obtain⟨x,o⟩:=CC<|d%16;have n:x<16:=AY<|AE o;obtain⟨b,k⟩:=CC<|Ep x;have P:=λV=>AE k▸jM n V;have l:D (hxL u=hxL (d/16)++b::a):=by grind [D,UC]
 have ha:=AE o▸AE p;have HK:D<|16<=d:=Bp
 go_wp2_with fail
 obtain _|g:=gk
 .grind [D]
 go_roundg g
 .refine⟨d/16,j,b::a,Bb,Bb,?_,l,?_,?_,h.set f b⟩
  .grind [D]
  .grind [D]
  grind [D]
 omega
def zL{u:I}(d:u<18446744073709551616)(f:A6 W 8 15<|C Am 4):Ar As 229 #[C .u64 u,C Y 16] W λe a=>e=Ak (Ae ⟨Aw<|hxL u⟩)/\A0 W a:=by
 have c:=zK d f;go_enter func229,ntmps229
 go_wp2_with(first|(go_at_call 222;refine Ce c ?_;rintro e g ⟨rfl,b⟩))
 go_ret;exact⟨Z,b⟩
def zM{u:I}(d:u<18446744073709551616)(f:A6 W 8 15<|C Am 4):Ar As 217 #[C .u64 u,C Y 16] W λe a=>e=Ak (Ae ⟨Aw<|hxL u⟩)/\A0 W a:=by
 have c:=zL d f;go_enter func217,ntmps217
 go_wp2_with(first|(go_at_call 229;refine Ce c ?_;rintro e g ⟨rfl,b⟩))
 go_ret;exact⟨Z,b⟩
def Nb(u:AH):A1:=AV (16-At (hxL u)) 48++hxL u
def zN{u:I}(a:u<18446744073709551616):K (Nb u)=16:=by have:=YH 15 u a;simp[Nb];omega
theorem zO:repeatL [48] n=AV n 48:=by induction n<;>grind [repeatL]
theorem zP{u:I}(g:u<18446744073709551616)(p:A6 W 8 15<|C Am 4):Ar As 205 #[C .u64 u] W λe j=>e=Ak (Ae ⟨Aw<|Nb u⟩)/\A0 W j:=by
 have c:=zM g p;have o:=YH 15 u g;obtain⟨l,b⟩:=CC<|hxL u;rw[AE b]at c o;obtain⟨n,h⟩:=CC<|16-K l;have a:D<|K l+n=16:=by grind [D]
 obtain⟨r,d⟩:=CC<|repeatL [48] n;have i:=T<|(zO).symm.trans d;have k:=λV=>AE d▸Tryz.strings_Repeat ⟨#[48]⟩ n V (AY<|AE a) (by have:=AE a;show 1*n<=_;omega);have q:¬9223372036854775807<K r+K l:=by grind [D]
 have s:(16:J)-K l=n:=AY<|AE a;go_enter func205,ntmps205
 go_wp2_with(first
  |(go_at_call 217;refine Ce c ?_;rintro e t ⟨rfl,f⟩)
  |(go_at_call 218;refine Ce (k _) ?_;rintro e v ⟨rfl,m⟩))
 go_ret;refine⟨?_,Cs f<|CG m f.size⟩;rw[EX,<-AE i,<-AE h,<-AE b];rfl
def Sr(key:AI)(i:AH):AH:=(key/2^(8*i)%256).toNat
def zQ(key:J)(i:I):Sr key i<256:=by unfold Sr;omega
def JW(key:AI):AH->AH
 |0=>14695981039346656037
 |k+1=>Na (JW key k)<|Sr key k
def UD(key:J):∀k,JW key k<18446744073709551616
 |0=>by show 14695981039346656037<_;omega
 |k+1=>QG
def It(s:AH):A1->AH
 |[]=>s
 |b::t=>It (Na s b.toNat) t
theorem UE:∀(l:A1) (s:I),s<18446744073709551616->It s l<18446744073709551616
 |[],_,h=>h
 |_::t,_,_=>UE t _<|QG
def JX(key:AI)(label:AH)(l:A1):A1:=Nb<|It (Na (JW key 8) label) l
theorem QH(h:Cn W base v bs):∃c a,v=G c (K bs) a/\E2 W c bs:=by
 have d:=h;obtain⟨⟨k,b⟩,_,_⟩:=h;rcases b with⟨rfl,b⟩|⟨g,a,j,rfl,_,e,l,m,_⟩
 .refine⟨Ao,0,by rw[b],⟨λi f=>E,E⟩⟩
 have n:=OV d;refine⟨_,a,Z,⟨λi f=>⟨g,0,Z,(Cd e),B9⟩,E⟩⟩
def zR(key:J)(k:I)(W:X):Ar As 204 #[C .u64<|JW key k,C Am<|key/2^(8*k)%256] W λe a=>e=Ak (C .u64<|JW key<|k+1)/\a=W:=by
 have h:=YG (UD key k) (zQ key k) W;have e:((Sr key k:I):J)=key/2^(8*k)%256:=by unfold Sr;omega
 rw[e]at h;exact h
theorem zS(key:J)(i:I)(aa:i<256)(hF:∀j,F j->j<O (U W))(h:CA k W F x d)(hl:K (Du k d)<=999999999)(hz:A6 W 8 15<|C Am 4):Ar As 181 #[C Y key,C Y i,x] W λe f=>e=Ak (Ae ⟨Aw<|JX key i<|Du k d⟩)/\A0 W f:=by
 have hg:8<O (U W):=by grind [World.cell?]
 have Q:=λk V=>zR key k V;have R:=λV=>YG (UD key 8) aa V;have q:=ij hF h hl;have P:∀V u,A0 W V->u<18446744073709551616->Ar As 205 #[C .u64 (u:I)] V λe f=>e=Ak (Ae ⟨Aw<|Nb u⟩)/\A0 V f:=λV u hV hu=>zP hu<|Ca (hV.cell hg) hz;obtain⟨ab,y,rfl⟩:=h.iface;obtain⟨a,A⟩:=CC<|Du k d;rw[AE A]at q hl ⊢;have N:Ar As 82 #[C Y 2,Ai ab y] W λe f=>∃p r,e=Ak (G p (K a) r)/\D (E2 f p a)/\A0 W f:=Ce q (by grind [D,QH]);obtain⟨S,l⟩:=CC<|It (Na (JW key 8) i) a;have L:D<|JX key i a=Nb S:=by show Nb _=_;rw[AE l]
 have m:D<|Na (JW key 8) i<18446744073709551616:=QG;rw[AE L];go_enter func181,ntmps181
 go_wp2_with fail
 go_loopg[7,11] 8 (λg x y wr=>∃(k:I),D (k+g=8)/\x=C .u64 (JW key k)/\y=C Y k/\W=wr)
 exact⟨0,Z,Z,Z,Z⟩;obtain⟨k,b,rfl,rfl,rfl⟩:=hrel;obtain _|g:=gk
 .have v:k=8:=AY<|AE b;subst v
  go_wp2_with(first
   |(go_at_call 204;refine Ce (R _) ?_;rintro e w2 ⟨rfl,rfl⟩)
   |(go_at_call 82;refine Ce N ?_;rintro e w3 ⟨p,r,rfl,z,n⟩))
  go_loopg[7,29] (K a) (λg x y wr=>∃(k s:I),D (k+g=K a)/\x=C .u64 s/\y=C Y k/\D (It s (a.drop k)=S)/\D (s<18446744073709551616)/\w3=wr)
  exact⟨0,_,Bg,Z,Z,l,m,Z⟩;obtain⟨k,s,b,rfl,rfl,l,m,rfl⟩:=hrel;obtain _|g:=gk
  .have hk:¬(k:J)<K a:=AY<|AE b;have hs:s=S:=by have:=AE l;rw[R7<|AY<|AE b]at this;exact this
   subst hs;have c:=P _ s n m
   go_wp2_with(first
    |(go_at_call 205;refine Ce c ?_;rintro e w5 ⟨rfl,t⟩))
   go_ret;exact⟨Z,Cs n<|CG t n.size⟩
  have w:k<K a:=AY<|AE b;have hk:(k:J)<K a:=E;obtain⟨b0,off,e1,e2,e3⟩:=z.aq k w;subst e1;have o:=AE l;rw[K7 w]at o;obtain⟨c,hc⟩:=DF<|a[k];rw[hc]at e3 o;have cW:=λV=>YG m (UInt8.toNat_lt c) V;have B:D<|It (Na s c.toNat) (a.drop<|k+1)=S:=o
  go_wp2_with(first
   |(go_at_call 204;refine Ce (cW _) ?_;rintro e w5 ⟨rfl,rfl⟩))
  go_roundg g;exact⟨k+1,_,B9,Z,Bb,B,QG,Z⟩;omega
 have v:k<8:=AY<|AE b;have ac:(k:J)<8:=E;have c:=Q k
 go_wp2_with(first
  |(go_at_call 204;refine Ce (c _) ?_;rintro e w2 ⟨rfl,rfl⟩))
 go_roundg g;exact⟨k+1,B9,Z,Bb,Z⟩;omega
end
end Go.Proofs.YtaehkdnabiccnaaGreatDoor


