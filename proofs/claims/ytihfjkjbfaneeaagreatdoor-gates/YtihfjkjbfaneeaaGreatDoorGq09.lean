import Derived.ProofKit
import Derived.OpenShut
import Derived.Deep.Slices
import Derived.SizedLaws
import Derived.Lib.LaidU8T
import Derived.PinnedBridge
import Derived.Test.YtihfjkjbfaneeaaGreatDoorCards
import Derived.Test.YtihfjkjbfaneeaaGreatDoorTie
import Derived.Carry
import Derived.Deep.DeepHandedRow
import Derived.Lib.LaidTab
import Derived.ArgAppend
import Derived.Test.YtihfjkjbfaneeaaGreatDoorGq08
set_option maxRecDepth 100000
set_option maxHeartbeats 8000000
set_option linter.all false
namespace Go.Proofs.YtihfjkjbfaneeaaGreatDoor
open Go.Proofs.Tryz
open _root_ renaming Nat->I,Int->J
open Go.Value renaming int->C,slice->T
open _root_.List renaming length->O
open Go.World renaming heap->U
open _root_.Array renaming size->K
open Go.IntKind renaming i64->Y
open Go.RowKit renaming Hid->D
open Go renaming World->X
open Option renaming some->H
open Go.Obj renaming cells->M
open Go.Value renaming slice->AX,int->Ab,slice->Ac,pointer->Ad,string->Ae,tuple->Af,agg->Ag,bool->Ah,iface->Ai,ownBlock->Ax
open Go.Ending renaming returned->Ak
open Go.IntKind renaming i64->Al,u8->Am
open Option renaming some->An,none->Ao
open Go renaming DataW->AM,TypeId->AN,undef->AO,World->Ap,Value->Aq,Calls->Ar
open Go.Proofs.Tryz renaming prog->As
open _root_.List renaming replicate->AV,length->At,toArray->Aw
open _root_.Array renaming size->Au,setIfInBounds->Ay
open Go.World renaming setCell->AB,cell?->AC,setRow->AD,heap->Av,alloc->Az
open Go.RowKit.Hid renaming out->AE
open Or renaming inl->AF,inr->AG
open _root_ renaming Nat->AH,List->AJ,Bool->AK,Except->AS,ByteArray->AT
open Go.RowKit renaming Hid->AL
open _root_.Bool renaming true->AP,false->AQ
variable{P:Program}{V V' W w w':X}{a:Act}{c gv kv lv u v v2:Aq}{B L N b b0 base cap fuel g i k lcap lo n size:I}{cs vs xs:AJ Aq}{f:AJ (A1×AK)->A2->Cu->Option (AM Unit)×Cu}{e t ty:AN}{fm kd z:J}{sp:I->AK}{held m:AK}{p ps:AJ (A1×AK)}{cur l:A1}{x y:Operand}{o0:Option I}{o:Oper}{la:A4}{mc:I->I}{F:I->Prop}{Q:Exit->Act->X->Prop}{R R':Cu}{s:AT}{A gr tmps:A3}{ks:AJ A1}{ds:AJ (AM Unit)}{d:A2}{ops:Array Oper}{rest:AJ Oper}{fr:I×I}
section
open Go.RowKit Go.Deep
theorem Io:prog.cellsOf 3=1:=B6
theorem Vk:prog.cellsOf 9=1:=B6
theorem mw:prog.cellsOf 38=1:=B6
theorem mx:prog.cellsOf 25=1:=B6
theorem my:prog.cellsOf 32=1:=B6
theorem Zy:prog.cellsOf 40=11:=B6
theorem Zz:prog.cellsOf 34=7:=B6
theorem mz:prog.cellsOf 119=2:=B6
theorem mA:prog.bytesOf 119=16:=B6
theorem mB:prog.bytesOf 3=8:=B6
theorem Sd{a:Addr}(h:AC w (a.add 0)=An v):∃b off,a=⟨b,off,Ao⟩/\b<K (U w):=by
 obtain⟨b,off,d⟩:=a;have c:d=Ao:=by simpa[Addr.add]using World.cell?_spot h
 subst c;rw[KP]at h;exact⟨b,off,Z,FF h⟩
theorem Se{α:Type}{l:AJ α}(h:O l=2):∃a b,l=[a,b]:=by
 match l,h with
 |[a,b],_=>exact⟨a,b,rfl⟩
section
variable{H:Type} {enc:TypeId×Aq->H} {w:Ap}
theorem mC{x:AM H×AJ MemPlace}(h:DataW.trod enc As w 0 (λ_=>AP) AP fuel 25 [v]=An x)(F:(x.1.weights As 25).all (·<=reachBytes)=AP):∃(a:A4) (c:I) (B:AJ J),v=T a (O B) c/\FH w a B/\(a=Ao->O B=0/\c=0)/\(O B+8)*8<=281474976710656:=by
 rcases open_slice1 underlying25 Io h with⟨e,_⟩|⟨a,len,c,m,n,V,p,q,e,_,u,A,j,rfl,l⟩
 .cases e;exact⟨Ao,0,[],Z,⟨λi d=>by simp at d⟩,λ_=>⟨Z,Z⟩,B8⟩
 cases e;have g:m=c:=by rw[j];rfl
 subst g;have s:m*8<=reachBytes:=by grind [DataW.weights,underlying25,mB]
 have o:∀i,i<m->∃z:J,V i=C Y z:=λi d=>by grind [DataW.trod_int,underlying3]
 obtain⟨f,r⟩:=choose_lt o;refine⟨An a,m,(List.range len).map f,Ba,⟨λi d=>?_⟩,λk=>(by cases k),?_⟩
 .have t:i<len:=BX;obtain⟨b,off,rfl,y⟩:=Sd (l 0 E).1;grind [KP]
 grind [reachBytes]
theorem GB{xs:AJ (AM H×AJ MemPlace)}{fs:Array Field}(b:∀(i:I) (f:Field),fs[i]?=An f->DataW.trod enc As w 0 (λ_=>AP) AP n f.type ((cs.drop f.offset).take (prog.cellsOf f.type))=xs[i]?)(i:I){f:Field}(h:fs[i]?=An f)(o:I)(d:f.type=t)(c:f.offset=o)(a:prog.cellsOf t=1)(e:cs[o]?=An v){y:AM H×AJ MemPlace}(hy:xs[i]?=An y):DataW.trod enc As w 0 (λ_=>AP) AP n t [v]=An y:=kel
theorem mD{x:AM H×AJ MemPlace}(h:DataW.trod enc As w 0 (λ_=>AP) AP fuel 38 [v]=An x)(hw:(x.1.weights As 38).all (·<=reachBytes)=AP):∃(a:A4) (d:I) (L:AJ (J×J)),v=T a (O L) d/\FG w a L/\(a=Ao->O L=0/\d=0)/\(O L+8)*16<=281474976710656:=by
 rcases open_slice underlying38 h with⟨e,_⟩|⟨a,len,d,m,af,aa,Pl,e,_,hl,hm,P,rfl,R⟩
 .cases e;exact⟨Ao,0,[],Z,⟨λi c=>kfk⟩,λ_=>⟨Z,Z⟩,B8⟩
 cases e;have N:m=d:=by rw[P];rfl
 subst N;have hb:m*16<=reachBytes:=by grind [DataW.weights,underlying38,mA]
 have W:∀i,i<m->∃z:J×J,AC w (a.add (i*2))=An (C Y z.1)/\AC w ((a.add (i*2)).add 1)=An (C Y z.2):=λi c=>by
  obtain⟨y,o,A⟩:=R i c;rw[mz]at o;obtain⟨_,F,B⟩:=UA o;obtain⟨r,n',_,_,_,S,q⟩:=Qg underlying119 A;obtain⟨f,j,rfl⟩:∃f j,y=[f,j]:=by exact Se F
  obtain⟨s,t,rfl⟩:∃s t,r=[s,t]:=by have V:O r=2:=S;exact Se V
  .have b:=GB q 0 Z 0 Z Z Io Z Z;have g:=GB q 1 Z 1 Z Z Io Z Z;obtain⟨n,k,_⟩:=II underlying3 b;obtain⟨z1,l,_⟩:=II underlying3 g;simp at k l;subst k l;refine⟨(n,z1),?_,?_⟩
   .have:=B 0 E;grind [add_add]
   grind
 obtain⟨u,p⟩:=choose_lt W;refine⟨An a,m,(List.range len).map u,Ba,⟨λi c=>?_⟩,λQ=>(by cases Q),?_⟩
 .have ad:i<len:=BP;obtain⟨ab,off,rfl,ae⟩:=Sd (by have:=(p 0 E).1;rwa[S2]at this);have ac:=p i E;grind [KP]
 grind [reachBytes]
theorem mE(c:prog.underlying t=An (.slice e)){x:AM H×AJ MemPlace}(h:DataW.trod enc As w 0 (λ_=>AP) AP fuel t [v]=An x):∃(a:A4) (n b:I),v=T a n b:=by rcases open_slice c h with⟨d,_⟩|⟨a,len,b,m,n,f,g,d,_⟩<;>grind
theorem MU(h:(Lit.int Y z).wf=AP):-9223372036854775808<=z/\z<=9223372036854775807:=by grind [Lit.wf,IntKind.min,IntKind.max,IntKind.signed,IntKind.bits]
theorem mF{x:AM H×AJ MemPlace}(h:DataW.trod enc As w 0 (λ_=>AP) AP fuel 40 cs=An x)(d:(x.1.weights As 40).all (·<=reachBytes)=AP):∃c:CD,cs=c.arr.toList/\Gz w c/\(∀x∈[c.labels,c.dflt,c.clr,c.inn,c.out,c.depth,c.bytes,c.key],-9223372036854775808<=x/\x<=9223372036854775807)/\c.pol.size<=281474976710656:=by
 obtain⟨xs,af,_,rfl,q,ae,a⟩:=Qg underlying40 h;rw[Zy]at q
 match cs,q,xs,ae with
 |[v0,v1,v2,v3,v4,v5,v6,v7,v8,v9,v10],_,[y0,y1,y2,y3,y4,y5,y6,y7,y8,y9,y10],_ =>
  simp only[DataW.weights,underlying40,GO,Lh,DataW.weightsEach,RW,F3]at d;have A:=GB a 0 Z 0 Z Z Io Z Z;have F:=GB a 1 Z 1 Z Z mw Z Z;have P:=GB a 2 Z 2 Z Z Io Z Z;have Q:=GB a 3 Z 3 Z Z Vk Z Z;have R:=GB a 4 Z 4 Z Z Io Z Z;have S:=GB a 5 Z 5 Z Z Io Z Z;have V:=GB a 6 Z 6 Z Z Io Z Z;have W:=GB a 7 Z 7 Z Z Io Z Z;have n:=GB a 8 Z 8 Z Z Io Z Z;have g9:=GB a 9 Z 9 Z Z Io Z Z;have N:=GB a 10 Z 10 Z Z mx Z Z;obtain⟨z0,e,_,w0⟩:=II underlying3 A;obtain⟨z2,f,_,w2⟩:=II underlying3 P;obtain⟨b,g,x3,_⟩:=UB underlying9 Q;obtain⟨z4,i,_,w4⟩:=II underlying3 R;obtain⟨z5,j,_,w5⟩:=II underlying3 S;obtain⟨z6,k,_,w6⟩:=II underlying3 V;obtain⟨z7,l,_,w7⟩:=II underlying3 W;obtain⟨z8,m,_,w8⟩:=II underlying3 n;obtain⟨z9,o,_,w9⟩:=II underlying3 g9;obtain⟨y,z,L,u,hE,ab,aa⟩:=mD (by simpa using F) d.2.1;obtain⟨s,t,B,v,hI,ad,ac⟩:=mC (by simpa using N) d.2.2.2.2.2.2.2.2.2.2.1;have hp:b.size<=281474976710656:=by have p:=d.2.2.2.1;rw[show y3.1=.lit _ from congrArg _ x3]at p;have h4:=Dk (GN.1 p (O b.data.toList) (by grind [DataW.weights]));have h5:reachBytes=140737488351232:=rfl;have h6:O b.data.toList=b.size:=rfl;omega
  simp at e f g i j k l m o;subst e f g i j k l m o u v;refine⟨⟨z0,L,y,z,z2,b,z4,z5,z6,z7,z8,z9,B,s,t⟩,Z,⟨hE,hI,ab,ad,aa,ac⟩,λx r=>?_,hp⟩;simp at r;rcases r with rfl|rfl|rfl|rfl|rfl|rfl|rfl|rfl
  all_goals
   first
   |exact MU w0
   |exact MU w2
   |exact MU w4
   |exact MU w5
   |exact MU w6
   |exact MU w7
   |exact MU w8
   |exact MU w9
end
end
section
open Go.RowKit Go.Deep Go.Shelf Go.Lib
def ZA:CD:=⟨0,[],Ao,0,0,ByteArray.empty,0,0,0,0,0,0,[],Ao,0⟩
def ZB:In:=⟨0,0,0,0,0,ByteArray.empty,Ao,0,0⟩
section
variable{H:Type} {enc:TypeId×Aq->H} {w:Ap}
theorem ZC{d:AM H}:∀{l:AJ (AM H)},d∈l->∀x,x∈d.weights P e->x∈DataW.weightsAll P e l
 |[],h,_,_=>Bo
 |a::r,h,x,hx=>by
  simp only[DataW.weightsAll,Qi];rcases If.1 h with rfl|h
  .exact AF hx
  exact AG (ZC h x hx)
theorem mG{x:AM H×AJ MemPlace}(h:DataW.trod enc As w 0 (λ_=>AP) AP fuel 22 [v]=An x)(p:(x.1.weights As 22).all (·<=reachBytes)=AP):∃(a:A4) (n e:I) (g:I->CD),v=T a n e/\O3 w a n g/\n<=maxLen/\∀k,k<n -> -9223372036854775808<=(g k).key/\(g k).key<=9223372036854775807:=by
 rcases open_slice underlying22 h with⟨o,_⟩|⟨a,len,e,m,n,r,R,o,_,V,hm,B,rfl,q⟩
 .cases o;exact⟨Ao,0,0,λ_=>ZA,Z,⟨λk d=>E,λk d=>E⟩,En _,λk d=>E⟩
 cases o;have A:m=e:=by rw[B];rfl
 subst A;rw[Zy]at q;have F:∀i,i<len->((r i).weights As 40).all (·<=reachBytes)=AP:=λi l=>by rw[GN]at p ⊢;intro y L;refine p y ?_;simp only[DataW.weights,underlying22,If,Qi];exact AG (AF (ZC (KI.2 ⟨i,Hn.2 l,Z⟩) y L))
 have N:∀i,i<len->∃c:CD,(Gz w c /\ -9223372036854775808<=c.key/\c.key<=9223372036854775807)/\∀j,j<11->AC w ((a.add (i*11)).add j)=c.arr[j]?:=λi l=>by obtain⟨S,s,t⟩:=q i E;obtain⟨_,W,u⟩:=UA s;obtain⟨c,rfl,P,Q,_⟩:=mF t (F i l);exact⟨c,⟨P,Q c.key Ba⟩,λj z=>(u j z).trans Ba⟩
 have ih:Inhabited CD:=⟨ZA⟩
 obtain⟨g,f⟩:=choose_lt N;refine⟨An a,len,m,g,Z,⟨λk d=>?_,λk d=>(f k d).1.1⟩,E,λk d=>(f k d).1.2⟩;obtain⟨b,off,rfl,aa⟩:=Sd (by have:=(f 0 E).2 0 E;rw[S2,add_add]at this;exact this);grind [KP]
end
theorem Tryz.gSignsT:(prog.globals[2]?).map (·.type)=An 326:=B6
theorem Tryz.x8:U8Extra As Tryz.lays196_ren:=⟨B6,B6,B6,B6,B6,B6,B6⟩
theorem ZD:prog.cellsOf 325=2:=B6
theorem mH:prog.cellsOf 252=1:=B6
theorem mI:prog.cellsOf 326=6:=B6
theorem Vl{b:A1}{k:J}{p:AJ MemPlace}(h:DataW.trod (λ_=>()) As W 0 sp held fuel 325 cs=An (.agg [.lit (.string b),.lit (.int Y k)],p)):cs=[Ae ⟨Aw b⟩,C Y k]:=by obtain⟨l,n,_,s,c,i,a⟩:=Qg underlying325 h;rw[ZD]at c;have j:O l=2:=i;obtain⟨f,g,rfl⟩:=Se c;obtain⟨m,o,rfl⟩:=Se j;have d:DataW.trod _ _ W 0 sp held n 9 (([f,g].drop 0).take (prog.cellsOf 9))=An m:=a 0 _ Z;have e:DataW.trod _ _ W 0 sp held n 252 (([f,g].drop 1).take (prog.cellsOf 252))=An o:=a 1 _ Z;rw[Vk]at d;rw[mH]at e;obtain⟨v,q,t⟩:=UB underlying9 d;obtain⟨w,r,u⟩:=II underlying252 e;simp_all
theorem mJ{H:Type}{enc:AN×Aq->H}{x:AM H×AJ MemPlace}(a:P.underlying t=An (.array n e))(h:DataW.trod enc P w base sp held fuel t cs=An x):O cs=P.cellsOf t:=by
 obtain _|fuel:=fuel
 .simp[DataW.trod]at h
 simp only[DataW.trod,a]at h;grind
theorem mK(hl:O cs=6){a0 a1 b0 b1 c0 c1:Aq}(a:(cs.drop (0*2)).take 2=[a0,a1])(b:(cs.drop (1*2)).take 2=[b0,b1])(c:(cs.drop (2*2)).take 2=[c0,c1]):cs=[a0,a1,b0,b1,c0,c1]:=by
 match cs,hl with
 |[x0,x1,x2,x3,x4,x5],_ =>
  simp_all
theorem ZE(o:laidMetH As Rows.gatesRow.laid W)(q:W.ShapedOpen As):Jg W:=by
 have c:laidMet As Rows.gatesRow.laid W:=o;refine⟨?_,?_,Tryz.laysM145.s1_3 W q⟩
 .obtain⟨g,t,cs,k,p,f,y,a,u⟩:=laidMet.reads c (d:=Rows.laid_redact_policy_signs) (.tail _ (.tail _ (.tail _ (.tail _ (.tail _ (.tail _ (.head _)))))));obtain rfl:g=2:=Fg (f.symm.trans B6);obtain rfl:=Fg (Tryz.gSignsT.symm.trans y);have b:DataW.trod (λ_=>()) As W 0 (λ_=>AP) AQ k 326 cs.toList=An (.agg [.agg [.lit (.string [42]),.lit (.int Y 0)],.agg [.lit (.string [42,42]),.lit (.int Y 1)],.agg [.lit (.string [91,93]),.lit (.int Y 2)]],p):=u;obtain⟨F,z,q0,v,l⟩:=array_elem underlying326 b 0 E;obtain⟨f1,A,q1,w,m⟩:=array_elem underlying326 b 1 E;obtain⟨L,B,P,x,n⟩:=array_elem underlying326 b 2 E;cases v;cases w;cases x;have h:=Vl l;have i:=Vl m;have j:=Vl n;rw[ZD]at h i j;have r:=(mJ underlying326 b).trans mI;have s:=mK r h i j;unfold World.var? at a;rw[f]at a;simp only[YZ]at a;split at a
  .next cs' t fr hh =>
   cases a;refine⟨t,fr,?_⟩;rw[hh];have:cs=[Value.string ⟨[42].toArray⟩,C Y 0,Ae ⟨[42,42].toArray⟩,C Y 1,Ae ⟨[91,93].toArray⟩,C Y 2].toArray:=by rw[<-s]
   rw[this]
  cases a
 refine utf8Tabs_of_readsT (U8Types.of196 Tryz.lays196) Tryz.x8 ?_ ?_
 .rw[<-Pinned.utf8First_eq];exact laidMet.reads c (.tail _ (.tail _ (.tail _ (.tail _ (.tail _ (.tail _ (.tail _ (.head _))))))))
 have e:(Rows.laid_unicode_utf8_acceptRanges:A2)=acceptData:=B6;have N:=laidMet.reads c (d:=Rows.laid_unicode_utf8_acceptRanges) (.tail _ (.tail _ (.tail _ (.head _))));grind
end
section
open Go.ChangeShapes Go.WideShapes Go.ChangeAt Go.RowKit Go.Lib
theorem Tryz.own:ownKnob prog.godebug=Ao:=B6
theorem Tryz.laidOut:laidOutB As=AP:=B6
def M1:AH->A2->AJ Aq
 |0,_=>[]
 |_+1,.lit (.int k z)=>[.int k z]
 |_+1,.lit (.string b)=>[Ae ⟨Aw b⟩]
 |n+1,.agg ds=>ds.flatMap (M1 n)
 |_+1,_=>[]
def MV(h:Array Obj)(g:AH)(cs:A3):Array Obj:=h.modify g fun
 |.cells _ t frozen=>.cells cs t frozen
 |o=>o
def Vm(w0:Ap):Ap :=
 let h0:=MV w0.heap 7 (Aw (M1 5 Rows.laid_math_bits_deBruijn32tab));let h1:=MV h0 8 (Aw (M1 5 Rows.laid_math_bits_deBruijn64tab));let h2:=MV h1 6 (Aw (M1 5 Rows.laid_internal_strconv_uint64pow10));let h3:=MV h2 5 (Aw (M1 5 Rows.laid_unicode_utf8_acceptRanges));let h4:=MV h3 0 (Aw (M1 5 Rows.laid_redact_reading_cborSorts));let h5:=MV h4 1 (Aw (M1 5 Rows.laid_redact_reading_packHeads));let h6:=MV h5 2 (Aw (M1 5 Rows.laid_redact_policy_signs));let h7:=MV h6 4 (Aw (M1 5 Rows.laid_unicode_utf8_first))
 {w0 with heap:=h7}
theorem mL{os:Os}:laidMet As Rows.gatesRow.laid ((Vm (World.holding As os ⟨#[],#[],[]⟩)).forCall (λ_ _=>0) ⟨#[],#[T Ao 0 0,T Ao 0 0],[]⟩).memory :=
 laidMet_of_run' 8 B6 B6
end
section
open Go.ChangeShapes Go.WideShapes Go.ChangeAt Go.RowKit Go.Lib Go.Deep
theorem nj:(prog.globals[0]?).map (·.type)=H 276:=B6
theorem nk:(prog.globals[1]?).map (·.type)=H 277:=B6
theorem ZI:prog.cellsOf 273=1:=B6
theorem np:prog.cellsOf 276=8:=B6
theorem ZJ:prog.cellsOf 275=3:=B6
theorem ZK:prog.cellsOf 270=1:=B6
theorem nr:(Rows.laid_redact_reading_cborSorts:A2)=tabData Y [4,6,7,8,9,10,0,0]:=B6
theorem nu:(Rows.laid_redact_reading_packHeads:A2)=.agg (MX.map λx=>.agg [.lit (.int Y x.1),.lit (.int Y x.2),.lit (.int .u64 0)]):=B6
theorem nw{l:AJ Aq}(h:O l=3):∃a b c,l=[a,b,c]:=by
 match l,h with
 |[a,b,c],_=>grind
theorem ny{α:Type}{l:AJ α}(h:O l=3):∃a b c,l=[a,b,c]:=by
 match l,h with
 |[a,b,c],_=>grind
theorem nz{x y:J}{p:AJ MemPlace}(h:DataW.trod (λ_=>()) As W 0 sp held fuel 275 cs=H (.agg [.lit (.int Y x),.lit (.int Y y),.lit (.int .u64 z)],p)):cs=[C Y x,C Y y,C .u64 z]:=by obtain⟨i,n,_,m,e,f,a⟩:=Qg underlying275 h;rw[ZJ]at e;have g:O i=3:=f;obtain⟨b,c,d,rfl⟩:=nw e;obtain⟨j,k,l,rfl⟩:=ny g;have o:DataW.trod _ _ W 0 sp held n 273 (([b,c,d].drop 0).take (prog.cellsOf 273))=H j:=a 0 _ Z;have q:DataW.trod _ _ W 0 sp held n 3 (([b,c,d].drop 1).take (prog.cellsOf 3))=H k:=a 1 _ Z;have r:DataW.trod _ _ W 0 sp held n 270 (([b,c,d].drop 2).take (prog.cellsOf 270))=H l:=a 2 _ Z;grind [ZI,Io,ZK,DataW.trod_int,underlying273,underlying3,underlying270]
theorem nB{u:I}{a b:Aq}(h:(cs.drop (u*3)).take 3=[a,b,c]):cs[u*3]?=H a/\cs[u*3+1]?=H b/\cs[u*3+2]?=H c:=by have d:=congrArg (λl=>l[0]?) h;have e:=congrArg (λl=>l[1]?) h;have f:=congrArg (λl=>l[2]?) h;grind
theorem nC(f:laidMet As Rows.gatesRow.laid W):Iq W:=by
 refine⟨?_,?_⟩
 .obtain⟨g,t,cs,k,p,b,c,i,a⟩:=laidMet.reads f (d:=Rows.laid_redact_reading_cborSorts) (.tail _ (.tail _ (.tail _ (.tail _ (.head _)))));obtain rfl:g=0:=Fg (b.symm.trans B6);obtain rfl:=Fg (nj.symm.trans c);rw[nr]at a;have n:=cells_of_tab underlying276 underlying273 ZI np a;intro u e;have m:=YG b i u;rw[m,<-NN,n];have:∀v:Fin 8,([4,6,7,8,9,10,0,0]:AJ J)[v.val]?=H ((FK v.val:I):J):=B8;rw[LS,this ⟨u,e⟩];rfl
 obtain⟨g,t,cs,k,p,b,c,i,a⟩:=laidMet.reads f (d:=Rows.laid_redact_reading_packHeads) (.tail _ (.tail _ (.tail _ (.tail _ (.tail _ (.head _))))));obtain rfl:g=1:=Fg (b.symm.trans B6);obtain rfl:=Fg (nk.symm.trans c);rw[nu]at a;intro u e;obtain⟨s,r,q0,h,l⟩:=array_elem underlying277 a u e;have w:O MX=32:=rfl;rw[LS,D3 E]at h;cases h;have j:=nz l;rw[ZJ]at j;obtain⟨o,q,c2⟩:=nB j;grind [World.var?_cell]
end
section
open Go.RowKit Go.Lib
structure On(W:World)(B b0 base S:Nat)(c cs gv:Value)(la0 o0:Option Nat)(vs:List Value)(lv:Value)(N:Nat)(xs:List Value)(V:World):Prop where
 wd:Sr B b0 cs gv lv N xs V
 frm:Ds W V (λj=>j=B\/some j=la0\/some j=o0\/W.heap.size<=j)
 all:∀v∈vs,Hr V v c base/\∀g,v.ownBlock=some g->base<=g/\g<S
 rb:∀g,lv.ownBlock=some g->some g=la0\/S<=g
 sz:S<=V.heap.size/\base<=S/\B<base/\W.heap.size<=S
 lb:∀g,la0=some g->g<base
theorem Oo(h:V.ownsRow b t size u n xs)(l:∀j,Ax u=H j->V'.heap[j]?=V.heap[j]?):V'.ownsRow b t size u n xs:=by
 refine⟨h.1,?_⟩;rcases h.2 with d|⟨g,a,c,e,i,k,f⟩
 .exact AF d
 exact AG ⟨g,a,c,e,i,(l g keG).trans k,f⟩
theorem Hr.keep(h:Hr V v c lo)(k:∀g,Ax v=H g->V'.heap[g]?=V.heap[g]?):Hr V' v c lo:=by
 obtain⟨a,n,b,rfl,h⟩:=h;refine⟨a,n,b,Z,?_⟩;rcases h with h|⟨g,d,rfl,e,f,i,j⟩
 .exact AF h
 exact AG ⟨g,d,Z,e,(k g Z).trans f,i,j⟩
theorem On.app{S:I}{cs lv':Aq}{la0:Option I}{o:Obj}(h:On W B b0 base S c cs gv la0 o0 vs lv N xs V)(p:V'.ownsRow b0 50 1 lv' (N+1) (xs++[u]))(d:(Az V o).grownBy V' (Ax lv))(q:Ax lv'=Ax lv\/Ax lv'=H (K (U (Az V o)))):On W B b0 base S c cs gv la0 o0 vs lv' (N+1) (xs++[u]) (AB V' ⟨B,2,Ao⟩ lv'):=by
 have x:=Cc h.wd.wd;have L:K (U V)+1<=K (U V'):=B2 d.size;have l:=λj f y=>(d.block j B7 y).trans (Cx _ _ _ f);have z:H B≠Ax lv:=λe=>h.wd.ne B e.symm Z;have w:=(l B x z).trans h.wd.wd;have n:∀j,j≠B->(AB V' ⟨B,2,Ao⟩ lv').heap[j]?=V'.heap[j]?:=λj f=>CY V' _ _ _ ker;have m:∀g,Ax lv'=H g->g≠B:=λg e=>by
  rcases q with a|a
  .grind
  rw[a]at e;injection e with e;simp at e;omega
 have A:K (U (AB V' ⟨B,2,Ao⟩ lv'))=K (U V'):=Bd;refine⟨⟨?_,?_,m⟩,?_,λv i=>⟨?_,(h.all v i).2⟩,λg e=>?_,⟨by rw[A];have:=h.sz;omega,h.sz.2⟩,h.lb⟩
 .rw[DQ _ _ _ _ _ _ w];rfl
 .refine⟨p.1,?_⟩;rcases p.2 with b|⟨g,r,s,e,a,b,k⟩
  .exact AF b
  exact AG ⟨g,r,s,e,a,(n g (m g keG)).trans b,k⟩
 .refine(h.frm.next (QB d (λg e F=>?_))).next (Ss (AF rfl))
  rcases h.rb g e with a|a
  .exact AG (AF a)
  exact AG (AG (AG (AY h.sz)))
 .refine(h.all v i).1.keep (λg e=>?_);have k:=(h.all v i).2 g e;rw[n g (AY h.sz)];refine l g (AY h.sz) (λt=>?_);rcases h.rb g t.symm with a|a
  .have:=h.lb g a.symm;omega
  omega
 rcases q with a|a
 .exact h.rb g (a.symm.trans e)
 rw[a]at e;injection e with e;simp at e;right;have:=h.sz;omega
theorem qN{cs:Aq}(a:Sr B b0 cs gv lv N xs W)(hF:Ds W V (λj=>H j=o0))(d:∀g,o0=H g->base<=g)(i:B<base)(b:∀g,Ax lv=H g->g<base)(k:base<=K (U W))(m:∀v∈vs,∃n,V.ownsRow base 5 1 v n (AV n c)):On W B b0 base (K (U V)) c cs gv (Ax lv) o0 vs lv N xs V:=by refine⟨⟨(hF.block B E (λe=>AY (d B e.symm))).trans a.wd,Oo a.row (λj e=>hF.block j (Ek a.row e) (λf=>B3 (b j e) (d j f.symm))),a.ne⟩,M9 hF λj h=>AG (AG (AF h)),λv l=>?_,λg e=>AF e.symm,⟨Co _,AY hF.size,i,hF.size⟩,b⟩;grind [Hr.own,DK,Ek]
theorem qO{n0 n1 n2 n3:I}{v0 v1 v3:Aq}(a:V.ownsRow base 5 1 v0 n0 (AV n0 c))(b:V.ownsRow base 5 1 v1 n1 (AV n1 c))(d:V.ownsRow base 5 1 v2 n2 (AV n2 c))(e:V.ownsRow base 5 1 v3 n3 (AV n3 c)):∀v∈[v0,v1,v2,v3],∃n,V.ownsRow base 5 1 v n (AV n c):=λv f=>B9
theorem SS{cs:A3}(h:K (U w)=n):∀(j:I) (u:Aq),cs.toList[j]?=H u->(Az w (M cs t)).cell? ((⟨n,0,Ao⟩:Addr).add j)=H u:=by grind [EI]
theorem ST{a:A4}{c:I}(h:v=T a n c):∀u∈[v],u.oneCell'=AP:=λu b=>by simp at b;subst b;subst h;rfl
theorem QV(h:V.ownsRow base t 1 v n xs):∃a c,v=T a n c:=by rcases h.2 with⟨rfl,rfl⟩|⟨g,b,d,rfl,_⟩<;>grind
theorem qP{cs:Aq}{ad:A4}{en:J}(hW:Sr B b0 cs gv (T la N lcap) N xs W)(bf:B<base)(bk:∀g,Ax (AX la N lcap)=H g->g<base)(bw:b0<=K (U W))(ao:base<=K (U W))(hN:N<=1000000000)(hO:Ck W base (T ad (O l) cap) l)(hl:O l<=200000000)(he:ad.isNone=AP\/en=0):Ar As 22 #[A8 B,T ad (O l) cap,Ae ⟨Aw l⟩,C Y en] W λe u=>e=Ak (Ah AP)/\∃bd bn x F y c2 A L,On W B b0 base bd (C Am (E7 N)) cs gv (Ax (AX la N lcap)) (Ax (AX ad (O l) cap)) [T ad (O l) cap,T x (O l+1) F,T y (O l+2) c2,T A (O l+3) L] bn (N+4) (xs++[T ad (O l) cap,T x (O l+1) F,T y (O l+2) c2,T A (O l+3) L]) u:=by
 obtain⟨i0,ag,ah,ai,aj⟩:=DD Tryz.infoU8;obtain⟨bi,v,R,z,S⟩:=DD Tryz.infoBs;have bc:=G hW;have m:A6 W B 2 (T la N lcap):=Cb hW.wd 2;have cM:∀af,Ar As 16 #[C Y N] af λe u=>e=Ak (C Am (E7 N))/\af=u:=λaf=>(VD E).mono λe u h=>⟨h.1,h.2.symm⟩
 have a6:=G bk;have be:B<K (U W):=E;have bx:=Qx hO;have HO:=G hO.1;have b2:=λw=>Qc (P:=As) w 50 5 ad (O l) cap 0 0 underlying50;generalize hb:ad.isNone=b at *;cases b
 case' false=>obtain rfl:en=0:=by simpa using he
 all_goals
  clear hb he;go_enter func22,ntmps22
  go_wp2_with(first
   |(go_at_call 16;refine(cM _).mono ?_;rintro e w1 ⟨rfl,rfl⟩))
  go_loopg[11] (O l) (λgh bu wr=>∃k:I,bu=C Y k/\D (k+gh=O l)/\D (Ds W wr (λj=>H j=Ax (AX ad (O l) cap)))/\D ((ad=Ao/\O l=0/\cap=0)\/∃g c,ad=Aa g/\A7 wr g c 5/\c.size=cap/\O l<=cap/\cap<=maxLen/\base<=g/\∀j,j<k->c[j]?=H (C Am (E7 N))))
  case atStart =>
   refine⟨0,Z,Gw _,Ds.refl _ _,?_⟩;rcases HO.2 with⟨h,h2⟩|⟨g',bv,c,e,h1,h2,h3,h4,h5,_⟩
   .exact AF B9
   exact AG B9
  case round =>
   obtain⟨k,rfl,hg,t,s⟩:=hrel;obtain _|gh:=gk
   .have bz:¬(k:J)<(O l:J):=AY (AE hg);have ab:D (wr.ownsRow base 5 1 (T ad (O l) cap) (O l) (AV (O l) (C Am (E7 N)))):=by
     rcases AE s with⟨rfl,h,rfl⟩|⟨g,c,rfl,Q,r⟩
     .rw[h];exact Fa _ _ _ _
     refine⟨Ba,AG ⟨g,cap,c,Z,r.2.2.2.1,Q,r.2.1,r.2.2.1,by grind [D],?_⟩⟩;apply UD;grind [D]
    have ac:=G (NZ (Cy ao t.size) (CK be t.size));have a0:=t;have m:=trivial
    go_wp2_with(first
     |(at_builtin;(refine VC Z Z underlying50 ag ah ai aj Z Z (ab.alloc _) 1 Z (EI) Z B8 Bc E (B0 (AE ac)) ?_);intro v1 y1 ar bl bg b3;have am:=G (Pq ab ((QA).trans bl));have ax:=G ar;have V:=G (QB bg (λg e _=>e.symm));have ae:D (base<=K (U y1)/\B<K (U y1)):=⟨B3 (AE ac) V.size,B3 (AE ac) V.size⟩;obtain⟨x,F,rfl⟩:=QV ar;have m:=trivial)
     |(at_builtin;(refine VC Z Z underlying50 ag ah ai aj Z Z (am.alloc _) 2 Z (EI) Z B8 Bc E (B0 (AE ae)) ?_);intro v2 y2 au ap bh b4;have an:=G (Pq am ((QA).trans ap));have ay:=G au;have a7:=G ((QA).trans ap);have aa:=G (QB bh (λg e _=>e.symm));have bb:D (base<=K (U y2)/\B<K (U y2)):=⟨B3 (AE ae) aa.size,B3 (AE ae) aa.size⟩;obtain⟨y,c2,rfl⟩:=QV au;have m:=trivial)
     |(at_builtin;(refine VC Z Z underlying50 ag ah ai aj Z Z (an.alloc _) 3 Z (EI) Z B8 Bc E (B0 (AE bb)) ?_);intro v3 y3 av aq bj b5;have ba:=G (Pq an ((QA).trans aq));have az:=G av;have al:=G ((QA).trans aq);have a4:=G (QB bj (λg e _=>e.symm));obtain⟨A,L,rfl⟩:=QV av;have m:=trivial;have i:=G (qN bc (((a0.next V).next aa).next a4) (λg e=>DK ab e) bf a6 ao (λak hv=>qO (ba) (Pq (Pq ax a7) al) (Pq ay al) az ak hv));obtain⟨vs,aw⟩:∃vs:AJ Aq,vs=[T ad (O l) cap,T x (O l+1) F,T y (O l+2) c2,T A (O l+3) L]:=⟨_,rfl⟩;rw[<-aw]at i;have m:A6 y3 B 2 (T la N lcap):=Cb i.wd.wd 2)
     |(at_builtin;(refine Jl Z Z underlying29 v R z S Z B8 Z (i.wd.row.alloc _) 1 1 Z Z (EI) (ST Z) B8 Bc E (B0 i.frm.size) ?_);intro r1 x0 f d q;obtain⟨br,bo,rfl⟩:=ownsRow_succ f;have n:=G (i.app f d q);have a:=G ((d.block B (B0 (Cc i.wd.wd)) (λe=>i.wd.ne B e.symm Z)).trans ((Cx _ _ _ (Cc i.wd.wd)).trans i.wd.wd));have m:A6 x0 B 2 (T la N lcap):=Cb a 2;have f2:=Dq x0 B 2 _ _ a)
     |(at_builtin;(refine Jl Z Z underlying29 v R z S Z B8 Z (n.wd.row.alloc _) 1 1 Z Z (SS Bd) (ST Z) B8 Bc E (by have:=n.frm.size;simp[World.setCell]at this ⊢;omega) ?_);intro r2 x1 f d q;obtain⟨bs,bp,rfl⟩:=ownsRow_succ f;have o:=G (n.app f d q);have a:=G ((d.block B (by have:=Cc n.wd.wd;simp[World.setCell]at this ⊢;omega) (λe=>n.wd.ne B e.symm rfl)).trans ((Cx _ _ _ (Cc n.wd.wd)).trans n.wd.wd));have m:A6 x1 B 2 (T (Aa br) (N+1) bo):=Cb a 2;have f2:=Dq x1 B 2 _ _ a)
     |(at_builtin;(refine Jl Z Z underlying29 v R z S Z B8 Z (o.wd.row.alloc _) 1 1 Z Z (SS Bd) (ST Z) B8 Bc E (by have:=o.frm.size;simp[World.setCell]at this ⊢;omega) ?_);intro r3 x2 f d q;obtain⟨bt,bq,rfl⟩:=ownsRow_succ f;have p:=G (o.app f d q);have a:=G ((d.block B (by have:=Cc o.wd.wd;simp[World.setCell]at this ⊢;omega) (λe=>o.wd.ne B e.symm rfl)).trans ((Cx _ _ _ (Cc o.wd.wd)).trans o.wd.wd));have m:A6 x2 B 2 (T (Aa bs) (N+1+1) bp):=Cb a 2;have f2:=Dq x2 B 2 _ _ a)
     |(at_builtin;(refine Jl Z Z underlying29 v R z S Z B8 Z (p.wd.row.alloc _) 1 1 Z Z (SS Bd) (ST Z) B8 Bc E (by have:=p.frm.size;simp[World.setCell]at this ⊢;omega) ?_);intro r4 x3 f d q;obtain⟨b7,b6,rfl⟩:=ownsRow_succ f;have a5:=G (p.app f d q);have a:=G ((d.block B (by have:=Cc p.wd.wd;simp[World.setCell]at this ⊢;omega) (λe=>p.wd.ne B e.symm rfl)).trans ((Cx _ _ _ (Cc p.wd.wd)).trans p.wd.wd));have m:A6 x3 B 2 (T (Aa bt) (N+1+1+1) bq):=Cb a 2;have f2:=Dq x3 B 2 _ _ a))
    go_ret;have hK:=AE a5;have e:∀(u0 u1 u2 u3:Aq),(((xs++[u0])++[u1])++[u2])++[u3]=xs++[u0,u1,u2,u3]:=λ_ _ _ _=>Ba;rw[e,aw]at hK;exact⟨Z,_,_,_,_,_,_,_,_,hK⟩
   have b1:(k:J)<(O l:J):=AY (AE hg);obtain⟨g,c,rfl,Q,r⟩:=s.resolve_left λh=>AY (AE hg);have HC:=G Q;have s:=G r;clear Q r;obtain⟨v0,bm⟩:∃ak,c[k]?=H ak:=⟨_,RT (AY (AE s))⟩
   have k0:=(Cb HC k).trans bm;have f0:=Dq wr g k _ _ HC;have HN:D ((AB wr ⟨g,k,Ao⟩ (C Am (E7 N))).heap[g]?=H (M (Ay c k (C Am (E7 N))) 5)):=by grind [D,heap_setCell_same]
   have a9:D (Ds W (AB wr ⟨g,k,Ao⟩ (C Am (E7 N))) (λj=>H j=Ax (AX (Aa g) (O l) cap))):=t.next (Ss rfl)
   have a8:D ((Ay c k (C Am (E7 N))).size=cap/\O l<=cap/\cap<=maxLen/\base<=g/\∀j,j<k+1->(Ay c k (C Am (E7 N)))[j]?=H (C Am (E7 N))):=by grind [D]
   go_wp2;go_roundg gh
   case measure=>omega
   case rel=>exact⟨k+1,Bb,B9,a9,AG ⟨g,_,rfl,HN,a8⟩⟩
structure Lz(V:World)(B:Nat)(la:A4)(N lcap:Nat)(xs:List Value)(mc:Nat->Nat):Prop where
 w2:V.cell? ⟨B,2,none⟩=some (.slice la N lcap)
 len:xs.length=N
 row:∀(i:Nat) (v:Value),xs[i]?=some v->∃gr,la=Aa gr/\V.cell? ⟨gr,i,none⟩=some v
 all:∀(i:Nat) (v:Value),xs[i]?=some v->Hr V v (.int .u8 (mc i)) 0
structure JW(W V:World):Prop where
 heap:V.heap=W.heap
 os:V.os=W.os
 tape:V.tape=W.tape
 output:V.output=W.output
theorem JW.refl(W:X):JW W W:=⟨rfl,rfl,rfl,rfl⟩
theorem JW.drew(h:JW W V):JW W V.drew:=⟨h.heap,h.os,h.tape,h.output⟩
theorem JW.below(h:JW W V):A0 W V:=⟨h.os,h.tape,h.output,by rw[h.heap];exact Co _,λj _=>by rw[h.heap]⟩
theorem JW.cell(h:JW W V)(a:Addr):AC V a=AC W a:=JN (by rw[h.heap])
theorem Wo(h:V.heap=W.heap){a:Addr}:AC V a=AC W a:=JN (by rw[h])
theorem Lz.at_(h:Lz V B la N lcap xs mc)(hi:i<N):∃gr a n b,la=Aa gr/\A6 V gr i (T a n b)/\xs[i]?=H (T a n b)/\∀j,j<n->∃g,a=Aa g/\A6 V g j (C Am (mc i)):=by
 obtain⟨v,c⟩:∃v,xs[i]?=H v:=⟨_,D3 (by rw[h.len];exact hi)⟩
 obtain⟨gr,d,e⟩:=h.row i v c;obtain⟨a,n,b,rfl,f⟩:=h.all i v c;grind [Cb]
theorem qQ(h:Lz W B la N lcap xs E7)(hN:N<=1000000000)(R:∀(i:I) (a:A4) (n c:I),xs[i]?=H (AX a n c)->n<=1000000000):Ar As 7 #[A8 B] W λe m=>e=Ak (Ah AP)/\JW W m:=by
 have F:=G h;have y:=G R;have o:=h.w2;go_enter func7,ntmps7;go_wp2
 go_loopg[3] N (λg aa wr=>∃i:I,aa=C Y i/\D (i+g=N)/\D (JW W wr))
 case atStart=>grind [JW.refl]
 case round =>
  obtain⟨i,rfl,t,l⟩:=hrel;have x:=(l.cell _).trans o;obtain _|g:=gk
  .have ac:¬(i:J)<(N:J):=AY (AE t);go_wp2;go_ret;exact⟨Z,l⟩
  have ae:(i:J)<(N:J):=AY (AE t);obtain⟨gr,a,n,r,rfl,q,hx,z⟩:=F.at_ (i:=i) E;have ag:=y.out i a n r hx;have A:=G z;have L:∀V,Ar As 16 #[C Y i] V λe m=>e=Ak (C Am (E7 i))/\V=m:=λV=>(VD (n:=i) E (W:=V)).mono λe m h=>⟨h.1,h.2.symm⟩
  have x:=(l.cell _).trans o;have r1:=(l.cell _).trans q;go_wp2
  go_loopg[4] n (λp zj wj=>∃j:I,zj=C Y j/\D (j+p=n)/\D (JW W wj))
  case atStart=>grind
  case round =>
   obtain⟨j,rfl,u,k⟩:=hrel;have x:=(k.cell _).trans o;have r1:=(k.cell _).trans q;obtain _|p:=gk
   .have ad:¬(j:J)<(n:J):=AY (AE u);go_wp2;go_roundg g
    case measure=>omega
    case rel=>exact⟨i+1,Bb,B9,k⟩
   have af:(j:J)<(n:J):=AY (AE u);obtain⟨s,rfl,Q⟩:=A.out j E;go_wp2;refine Dl (S:=λd=>d.heap=W.heap) (k.heap) B6 ?_;intro f;refine Ih (i:=0) (v:=A8 B) (H 26) Z B6 B6 B6 (λ_ _ _ h=>h) B6 (AF ⟨B6,λd b=>B6⟩) f ?_;refine Ih (i:=1) (v:=A8 B) (H 27) Z B6 B6 B6 (λ_ _ _ h=>h) B6 (AF ⟨B6,λd b=>?y1⟩) f ?_
   case y1=>(go_simp)
   refine Ih (i:=2) (v:=A9 B 2) (H 28) Z B6 B6 B6 (λ_ _ _ h=>h) B6 (AF ⟨B6,λd b=>?y2⟩) f ?_
   case y2=>(go_simp)
   refine Ih (i:=3) (v:=T (Aa gr) N lcap) (H 29) Z B6 B6 B6 (λ_ _ _ h=>h) B6 (AF ⟨B6,λd b=>?y3⟩) f ?_
   case y3=>(have w:=(Wo b).trans o;go_simp)
   refine Ih (i:=4) (v:=C Y i) (H 30) Z B6 B6 B6 (λ_ _ _ h=>h) B6 (AF ⟨B6,λd b=>B6⟩) f ?_;refine Ih (i:=5) (v:=A9 gr i) (H 31) Z B6 B6 B6 (λ_ _ _ h=>h) B6 (AF ⟨B6,λd b=>?y5⟩) f ?_
   case y5=>(go_simp)
   refine Ih (i:=6) (v:=T (Aa s) n r) (H 32) Z B6 B6 B6 (λ_ _ _ h=>h) B6 (AF ⟨B6,λd b=>?y6⟩) f ?_
   case y6=>(have w:=(Wo b).trans q;go_simp)
   refine Ih (i:=7) (v:=C Y j) (H 33) Z B6 B6 B6 (λ_ _ _ h=>h) B6 (AF ⟨B6,λd b=>B6⟩) f ?_;refine Ih (i:=8) (v:=A9 s j) (H 34) Z B6 B6 B6 (λ_ _ _ h=>h) B6 (AF ⟨B6,λd b=>?y8⟩) f ?_
   case y8=>(go_simp)
   refine Ih (i:=9) (v:=C Am (E7 i)) (H 35) Z B6 B6 B6 (λ_ _ _ h=>h) B6 (AF ⟨B6,λd b=>?y9⟩) f ?_
   case y9=>(have w:=(Wo b).trans Q;go_simp)
   refine Ih (i:=10) (v:=C Y i) (H 36) Z B6 B6 B6 (λ_ _ _ h=>h) B6 (AF ⟨B6,λd b=>B6⟩) f ?_;refine CC 11 (λab P=>?_);go_simp;refine(L _).mono ?_;rintro e w9 ⟨rfl,rfl⟩;simp only[];refine P.out _ _ f (λ_=>?_);refine Ih (i:=12) (v:=Ah AQ) (H 38) Z B6 B6 B6 (λ_ _ _ h=>h) B6 (AF ⟨B6,λd b=>?y12⟩) f ?_
   case y12=>(go_simp)
   refine CG ?_;go_simp;go_wp2;go_roundg p
   case measure=>omega
   case rel=>exact⟨j+1,Bb,B9,k.drew⟩
def Mf(xs:AJ Aq)(n g:AH):Prop:=∃i v,n<=i/\i<n+4/\xs[i]?=An v/\Ax v=An g
theorem Pz{W V:Ap}{X:I->Prop}(h:Ds W V X){a:Addr}(hb:a.block<K (U W))(hx:¬X a.block):AC V a=AC W a:=JN (h.block _ hb hx)
theorem qR{cur:A3}(b:A7 V g cur t)(i:k<cur.size):Jm V (AB V ⟨g,k,Ao⟩ c) c:=by
 refine⟨Bd,λa d l f h=>?_⟩;by_cases e:a=g
 .subst e;rw[b]at h;injection h with h;injection h with h1 h2 h3;subst h1;subst h2;subst h3;refine⟨Ay cur k c,by grind [heap_setCell_same],Ba,λj=>?_⟩;grind
 grind [heap_setCell_other]
theorem bU(h:Lz W B la N lcap xs mc)(hn:n+4<=N)(hN:N<=1000000000)(ao:∀(i:I) (a:A4) (n c:I),xs[i]?=H (AX a n c)->n<=1000000000)(hdis:∀(i:I) (v:Aq) (g:I),xs[i]?=H v->Ax v=H g->g≠B/\∀gr,la=H ⟨gr,0,Ao⟩->g≠gr)(c:I):Ar As 17 #[Ad (H ⟨B,0,Ao⟩),C Y n,C Am c] W λe y=>e=Ak (Af #[])/\Jm W y (C Am c)/\Ds W y (Mf xs n)/\∀(i:I) (v:Aq),n<=i->i<n+4->xs[i]?=H v->Hr y v (C Am c) 0:=by
 have Q:=G h;have ag:=G ao;have HD:=G hdis;have L:=h.w2;have aa:=FF L;have R:D (¬Mf xs n B):=λ⟨i,v,_,_,f,l⟩=>(hdis i v B f l).1 Z;go_enter func17,ntmps17;go_wp2
 go_loopg[6] 4 (λg au wr=>∃i:I,au=C Y i/\D (i+g=n+4/\n<=i)/\D (Ds W wr (Mf xs n))/\D (Jm W wr (C Am c))/\D (∀(d:I) (v:Aq),n<=d->d<i->xs[d]?=H v->Hr wr v (C Am c) 0))
 case atStart=>grind [D,Ds.refl,Sq]
 case round =>
  obtain⟨i,rfl,s,q,u,w⟩:=hrel;obtain _|g:=gk
  .have ax:¬(i:J)<(n:J)+4:=AY (AE s);have t:D (∀(i:I) (v:Aq),n<=i->i<n+4->xs[i]?=H v->Hr wr v (C Am c) 0):=λd v f l o=>w.out d v f (AY (AE s)) o;go_wp2;go_end0;grind [D]
  have a1:(i:J)<(n:J)+4:=AY (AE s);have az:(i:J)<(N:J):=E;have ac:n<=i/\i<n+4:=AY (AE s);obtain⟨gr,a,m,z,rfl,F,P,av⟩:=Q.out.at_ (i:=i) E;have a3:=ag.out i a m z P;have V:=G P;have ae:=FF F;have S:D (¬Mf xs n gr):=λ⟨i,v,_,_,f,l⟩=>(HD.out i v gr f l).2 gr Z Z;obtain⟨_,_,_,am,an⟩:=Q.out.all i _ P;cases am;have af:D (m=0\/∃g b,a=H ⟨g,0,Ao⟩/\W.heap[g]?=H (M b 5 (0,0))/\m<=b.size):=an.imp_right λ⟨g,b,f,_,l,o,_⟩=>⟨g,b,f,l,o⟩
  have w2:=(Pz q.out aa R.out).trans L;have r1:=(Pz q.out ae S.out).trans F;go_wp2
  go_loopg[7] m (λA zj wr=>∃j:I,zj=C Y j/\D (j+A=m)/\D (Ds W wr (Mf xs n))/\D (Jm W wr (C Am c))/\D (∀(d:I) (v:Aq),n<=d->d<i->xs[d]?=H v->Hr wr v (C Am c) 0)/\D (j=0\/∃g b,a=H ⟨g,0,Ao⟩/\wr.heap[g]?=H (M b 5 (0,0))/\m<=b.size/\∀p,p<j->b[p]?=H (C Am c)))
  case atStart=>grind
  case round =>
   obtain⟨j,rfl,ab,q,u,w,HJ⟩:=hrel;have w2:=(Pz q.out aa R.out).trans L;have r1:=(Pz q.out ae S.out).trans F;obtain _|A:=gk
   .have ay:¬(j:J)<(m:J):=AY (AE ab);have t:D (∀(d:I) (v:Aq),n<=d->d<i+1->xs[d]?=H v->Hr wr v (C Am c) 0):=λd v f l o=>by
     by_cases e:d=i
     .subst e;rw[AE V]at o;injection o with o;subst o;refine⟨a,m,z,Z,?_⟩;grind [D]
     grind [D]
    go_wp2;go_roundg g
    case measure=>omega
    case rel=>exact⟨i+1,Bb,⟨AY (AE s),E⟩,q,u,t⟩
   have a2:(j:J)<(m:J):=AY (AE ab);obtain⟨r,b,rfl,ap,aq,aw⟩:∃g b,a=H ⟨g,0,Ao⟩/\wr.heap[g]?=H (M b 5 (0,0))/\m<=b.size/\∀p,p<j->b[p]?=H (C Am c):=by
    rcases AE af with h|⟨g,b,f,l,o⟩
    .omega
    subst f;rcases AE HJ with h|⟨g',al,h4,h5,h6,h7⟩
    .obtain⟨al,e1,e2,_⟩:=u.out.2 g b _ _ l;grind
    grind
   have x:=G ap;obtain⟨v0,ar⟩:∃v,b[j]?=H v:=⟨_,RT E⟩
   have k0:=(Cb x.out j).trans ar;have f0:=Dq wr r j _ _ x.out;have ak:D (Mf xs n r):=⟨i,_,ac.1,ac.2,AE V,Z⟩
   have ah:D (Ds W (AB wr ⟨r,j,Ao⟩ (C Am c)) (Mf xs n)):=q.out.next (Ss ak.out)
   have ad:=qR (c:=C Am c) x.out (k:=j) E;have aj:=G (u.out.trans ad);have t:=G (λd v f l o=>(w.out d v f l o).marks ad);have ai:D (j+1=0\/∃g b,H (⟨r,0,Ao⟩:Addr)=H ⟨g,0,Ao⟩/\(AB wr ⟨r,j,Ao⟩ (C Am c)).heap[g]?=H (M b 5 (0,0))/\m<=b.size/\∀p,p<j+1->b[p]?=H (C Am c)):=by refine AG ⟨r,Ay b j (C Am c),Z,by grind [heap_setCell_same],by simpa using aq,λp a0=>?_⟩;grind
   go_wp2;go_roundg A
   case measure=>omega
   case rel=>exact⟨j+1,Bb,B9,ah,aj,t,ai⟩
def Wp(xs:AJ Aq):Prop:=∀(i i':AH) (v v':Aq) (g:AH),xs[i]?=An v->xs[i']?=An v'->Ax v=An g->Ax v'=An g->i/4=i' / 4
theorem bV(h:Lz V B la N lcap xs mc){q c:I}(L:n=4*q)(hF:Ds V V' (Mf xs n))(F:∀(i:I) (v:Aq),n<=i->i<n+4->xs[i]?=H v->Hr V' v (C Am c) 0)(hdis:∀(i:I) (v:Aq) (g:I),xs[i]?=H v->Ax v=H g->g≠B/\∀gr,la=Aa gr->g≠gr)(t:Wp xs):Lz V' B la N lcap xs (λi=>if i/4=n/4 then c else mc i):=by
 have w:¬Mf xs n B:=λ⟨i,v,_,_,d,b⟩=>(hdis i v B d b).1 Z;refine⟨(Pz hF (FF h.w2) w).trans h.w2,h.len,λi v e=>?_,λi v e=>?_⟩
 .obtain⟨gr,f,j⟩:=h.row i v e;exact⟨gr,f,(Pz hF (FF j) (λ⟨i,v,_,_,d,b⟩=>(hdis i v gr d b).2 gr f Z)).trans j⟩
 by_cases u:i/4=n/4
 .grind
 simp only[Ci u];have d:=h.all i v e;obtain⟨a,m,l,rfl,b⟩:=d;refine⟨a,m,l,Z,?_⟩;rcases b with b|⟨g,o,rfl,p,k,r,s⟩
 .exact AF b
 refine AG ⟨g,o,Z,p,?_,r,s⟩;refine(hF.block g (Cc k) (λ⟨x,A,P,Q,y,z⟩=>?_)).trans k;have:=t i x _ A g e y Z z;omega
def bW(xs:AJ Aq)(g:AH):Prop:=∃(i:AH) (v:Aq),xs[i]?=An v/\Ax v=An g
theorem qS:(λi=>if i/4=n/4 then E7 n else(if i/4=n/4 then 7 else E7 i))=E7:=by grind [E7]
theorem qU{Q:I}(h:Lz W B la N lcap xs E7)(aa:N=4*Q)(hN:N<=1000000000)(ab:∀(i:I) (a:A4) (n ao:I),xs[i]?=H (AX a n ao)->n<=1000000000)(hdis:∀(i:I) (v:Aq) (g:I),xs[i]?=H v->Ax v=H g->g≠B/\∀gr,la=Aa gr->g≠gr)(ae:Wp xs):Ar As 8 #[A8 B] W λe o=>e=Ak (Ah AP)/\Ds W o (bW xs):=by
 have b:=G h;have t:=G ab;have k:=G hdis;have L:=G ae;have ay:=G aa;clear h ab hdis ae aa;go_enter func8,ntmps8;go_wp2
 go_loopg[3] Q (λg z wr=>∃n:I,z=C Y n/\D (∃q,n=4*q/\q+g=Q)/\D (Lz wr B la N lcap xs E7)/\D (Ds W wr (bW xs)))
 case atStart=>exact⟨0,rfl,⟨0,rfl,E⟩,b,Ds.refl _ _⟩
 case round =>
  obtain⟨n,rfl,y,b,u⟩:=hrel;have A:=b.w2;obtain _|g:=gk
  .have a1:¬(n:J)<(N:J):=by grind [D]
   go_wp2;go_ret;exact⟨Z,u⟩
  have a4:(n:J)<(N:J):=by grind [D]
  have ag:n+4<=N:=by grind [D]
  have d:=bU b ag hN t k 7
  go_wp2_with(first
   |(go_at_call 17;refine d.mono ?_;clear d A;rintro e F ⟨rfl,s⟩;have P:D _:=s;clear s))
  obtain⟨ar,x,S⟩:=AE P;clear P;have l:=G (bV b y.out.choose_spec.1 x S k L);have ak:=G (u.next (M9 x (λg ⟨i,v,_,_,p,r⟩=>⟨i,v,p,r⟩)));clear ar x S b u;have A:=l.w2
  go_loopg[4] N (λw z wr=>F=wr/\∃i:I,z=C Y i/\D (i+w=N))
  case atStart=>grind [D]
  case round =>
   obtain⟨rfl,i,rfl,ac⟩:=hrel;obtain _|w:=gk
   .have a2:¬(i:J)<(N:J):=AY (AE ac);have R:∀V,Ar As 16 #[C Y n] V λe o=>e=Ak (C Am (E7 n))/\V=o:=λV=>(VD E).mono λe o h=>⟨h.1,h.2.symm⟩
    have d:=bU l ag hN t k (E7 n)
    go_wp2_with(first
     |(go_at_call 16;refine(R _).mono ?_;clear R;rintro e w5 ⟨rfl,rfl⟩)
     |(go_at_call 17;refine d.mono ?_;clear d A;rintro e w6 ⟨rfl,s⟩;have an:D _:=s))
    obtain⟨az,c,aq⟩:=AE an;have am:D (Lz w6 B la N lcap xs E7):=by have h:=bV l y.out.choose_spec.1 c aq k L;rw[qS]at h;exact h
    have al:=G (ak.next (M9 c (λg ⟨i,v,_,_,p,r⟩=>⟨i,v,p,r⟩)));go_roundg g
    case measure=>omega
    case rel=>exact⟨n+4,Bb,(by obtain⟨q,p,r⟩:=AE y;exact⟨q+1,E,E⟩),am,al⟩
   have a5:(i:J)<(N:J):=AY (AE ac);obtain⟨gr,a,m,ap,rfl,r1,hx,a0⟩:=l.at_ (i:=i) E;have a7:=t.out i a m ap hx;have aj:D (∀j,j<m->¬i/4=n/4->∃g,a=Aa g/\A6 F g j (C Am (E7 i))):=λj hj a8=>B9;go_wp2
   go_loopg[5] m (λf z wr=>F=wr/\∃j:I,z=C Y j/\D (j+f=m))
   case atStart=>grind [D]
   case round =>
    obtain⟨rfl,j,rfl,ad⟩:=hrel;obtain _|f:=gk
    .have a3:¬(j:J)<(m:J):=AY (AE ad);go_wp2;go_roundg w
     case measure=>omega
     case rel=>exact⟨rfl,i+1,Bb,B9⟩
    have a6:(j:J)<(m:J):=AY (AE ad);by_cases af:n<=i/\i<n+4
    .have t1:¬(i:J)<(n:J):=E;have ah:=af.1;have ai:_root_.Decidable.decide (i<n)=AQ:=B7;have t2:¬(n:J)+4<=(i:J):=E;have aw:=af.2;have ax:_root_.Decidable.decide (n+4<=i)=AQ:=B7;go_wp2;go_roundg f
     case measure=>omega
     case rel=>exact⟨rfl,j+1,Bb,B9⟩
    have av:¬i/4=n/4:=by grind [D]
    obtain⟨gb,rfl,hb⟩:=aj.out j E av;have t7:(((E7 i:I):J)==7)=AQ:=by unfold E7;simp;omega
    by_cases au:i<n
    .have t1:(i:J)<(n:J):=E;have ah:=au;have ai:_root_.Decidable.decide (i<n)=AP:=B7;go_wp2;go_roundg f
     case measure=>omega
     case rel=>exact⟨rfl,j+1,Bb,B9⟩
    have t1:¬(i:J)<(n:J):=E;have ah:n<=i:=E;have ai:_root_.Decidable.decide (i<n)=AQ:=B7;have t2:(n:J)+4<=(i:J):=E;have aw:n+4<=i:=E;have ax:_root_.Decidable.decide (n+4<=i)=AP:=B7;go_wp2;go_roundg f
    case measure=>omega
    case rel=>exact⟨rfl,j+1,Bb,B9⟩
structure Rx where
 v:Rv
 W0:World
 P:Nat
 arr:A3
 ra:A4
 rn:Nat
 rc:Nat
def LN(c:Rx)(R:Cu):A3:=c.arr++#[Ac c.ra c.rn c.rc,Ab Al R.1,Ab Al R.2.1,Ab Al R.2.2.1,Ab Al R.2.2.2]
structure MG(c:Rx):Prop where
 size:c.arr.size=11
 a4:c.arr[4]?=some (.int .i64 c.v.clr)
 a5:c.arr[5]?=some (.int .i64 c.v.key)
 key : -9223372036854775808<=c.v.key/\c.v.key<=9223372036854775807
 le:c.W0.heap.size<=c.P
 lab:∀p,∃l:Nat,(DC c.v.dflt c.v.rs p).1=l/\l<256/\∀V,Below c.W0.heap.size c.W0 V->Calls prog 69 #[.agg c.arr,.int .i64 l,.int .i64 c.v.clr] V λe w'=>e=.returned (.bool (c.v.m l c.v.clr))/\A0 V w'
 lbl:∀(V:World) (pa:A4) (ps:List (A1×Bool)) (pc:Nat),Below c.W0.heap.size c.W0 V->JH V pa ps->ps.length<=4096->Calls prog 73 #[.agg c.arr,.slice c.ra c.rn c.rc,.slice pa ps.length pc] V λe w'=>e=.returned (.tuple #[.int .i64 (DC c.v.dflt c.v.rs ps).1,.int .i64 (DC c.v.dflt c.v.rs ps).2])/\A0 V w'
structure Jc(c:Rx)(R:Cu)(N:Nat)(V:World):Prop where
 box:V.heap[c.P]?=some (.cells (LN c R) 158)
 below:Below c.W0.heap.size c.W0 V
 few:R.1<=N/\R.2.1<=N/\R.2.2.1<=N/\R.2.2.2<=N
def Y0(c:Rx)(k:AH)(r:Option (AM Unit)×Cu)(M:AH)(V:Ap)(e:Ending)(V':Ap):Prop :=
 ∃kd n s ka ki kj va vi vj,e=Ak (Af #[.agg (Ce kd n s (Ac ka ki kj) (Ac va vi vj)),Ah r.1.isSome])/\Jc c r.2 M V'/\Cg c.P V V'/\(∀d',r.1=An d'->CP k V' (λj=>Au (Av V)<=j/\j<Au (Av V')) (.agg (Ce kd n s (Ac ka ki kj) (Ac va vi vj))) d')/\(r.1=Ao->Ce kd n s (Ac ka ki kj) (Ac va vi vj)=Cr)
def Y1(c:Rx)(k:AH):Prop :=
 ∀(V:Ap) (F:AH->Prop) (a:A3) (d:A2) (pa:A4) (ps:AJ (A1×AK)) (pc:AH) (R:Cu) (N:AH),Jc c R N V->JH V pa ps->(∀b off,pa=An ⟨b,off,Ao⟩->b≠c.P)->(pa=Ao->pc=0)->(∀j,F j->j<Au (Av V)/\j≠c.P)->CP k V F (.agg a) d->At (Do k d)<=999999999->N+CS k d<=90000->At ps+k<=4096 ->
  Ar As 77 #[A8 c.P,.agg a,Ac pa (At ps) pc] V (Y0 c k (CW c.v k ps.reverse d R) (N+CS k d) V)
structure Hk(c:Rx)(W:World)(a y:A3)(R:Cu)(N:Nat)(V:World):Prop where
 bx:V.heap[W.heap.size]?=some (.cells a 101)
 th:V.heap[W.heap.size+1]?=some (.cells y 101)
 rx:Jc c R N V
 but:Cg c.P W V
theorem Jc.next{c:Rx}(h:Jc c R N V)(a:A0 V V'):Jc c R N V':=⟨(a.block _ (Cc h.box)).trans h.box,h.below.trans (a.mono h.below.size),h.few⟩
theorem Hk.next{c:Rx}{a y:A3}(h:Hk c W a y R N V)(b:A0 V V'):Hk c W a y R N V':=⟨(b.block _ (Cc h.bx)).trans h.bx,(b.block _ (Cc h.th)).trans h.th,h.rx.next b,h.but.trans (.of_below b)⟩
theorem Jc.cell{c:Rx}(h:Jc c R N V)(ok:MG c)(j:I):AC V ⟨c.P,11+j,Ao⟩=#[T c.ra c.rn c.rc,C Y R.1,C Y R.2.1,C Y R.2.2.1,C Y R.2.2.2][j]?:=by refine(Cb h.box (11+j)).trans ?_;unfold LN;rw[MM (by rw[ok.size];omega),ok.size,show 11+j-11=j by omega]
theorem Jc.cfg{c:Rx}(h:Jc c R N V):∀(j:I) (u:Aq),c.arr[j]?=H u->A6 V c.P (0+j) u:=by intro j u a;have b:=Cc a;refine(Cb h.box (0+j)).trans ?_;grind [LN]
theorem Jc.count{c:Rx}(h:Jc c R N V)(ok:MG c)(j x:I)(d:Ay (LN c R) j (C Y x)=LN c R')(e:R'.1<=N+1/\R'.2.1<=N+1/\R'.2.2.1<=N+1/\R'.2.2.2<=N+1):Jc c R' (N+1) (AB V ⟨c.P,j,Ao⟩ (C Y x))/\Cg c.P V (AB V ⟨c.P,j,Ao⟩ (C Y x)):=by have b:∀i,i≠c.P->(AB V ⟨c.P,j,Ao⟩ (C Y x)).heap[i]?=V.heap[i]?:=λi a=>CY V _ _ _ Bl;refine⟨⟨?_,h.below.trans ⟨Z,Z,Z,Bd,λi a=>b i (AY ok.le)⟩,e⟩,⟨Z,Z,Z,Bd,λi _ a=>b i a⟩⟩;rw[DQ _ _ _ _ _ _ h.box,d]
theorem Uf{c:Rx}(ok:MG c)(R:Cu)(j:I)(v:Aq):Ay (LN c R) (11+j) v=c.arr++#[T c.ra c.rn c.rc,C Y R.1,C Y R.2.1,C Y R.2.2.1,C Y R.2.2.2].setIfInBounds j v:=by
 unfold LN;apply P7;have a:O c.arr.toList=11:=by simp[ok.size]
 grind
theorem Cg.cell{P:I}(h:Cg P w w'){j:I}(hb:b<K (U w))(a:b≠P):AC w' ⟨b,j,Ao⟩=AC w ⟨b,j,Ao⟩:=by unfold World.cell?;simp only[h.block b hb a]
theorem Cg.low{P:I}(h:Cg P w w')(hl:lo<=P)(b:lo<=K (U w)):Below lo w w':=⟨h.os,h.tape,h.output,h.size,λi a=>h.block i E E⟩
theorem JH.but{a:A4}{P:I}(h:JH w a ps)(e:∀b off,a=H ⟨b,off,Ao⟩->b≠P)(hb:Cg P w w'):JH w' a ps :=
 ⟨λi j=>by obtain⟨b,off,c,d,f,g⟩:=h.at_ i j;exact⟨b,off,c,CK d hb.size,(hb.cell d (e b off c)).trans f,(hb.cell d (e b off c)).trans g⟩⟩
theorem jB{c:Rx}(ok:MG c):(prog.info? 40).map (·.size)=H c.arr.size:=by rw[ok.size];kernel_rfl
theorem Hk.count{c:Rx}{a y:A3}(h:Hk c W a y R N V)(ok:MG c)(g:c.P<K (U W))(j x:I)(e:Ay (LN c R) j (C Y x)=LN c R')(f:R'.1<=N+1/\R'.2.1<=N+1/\R'.2.2.1<=N+1/\R'.2.2.2<=N+1):Hk c W a y R' (N+1) (AB V ⟨c.P,j,Ao⟩ (C Y x)):=by obtain⟨d,b⟩:=h.rx.count ok j x e f;exact⟨(b.block _ (Cc h.bx) E).trans h.bx,(b.block _ (Cc h.th) E).trans h.th,d,h.but.trans b⟩
theorem Hk.set{c:Rx}{a y:A3}(h:Hk c W a y R N V)(g:c.P<K (U W))(f:K (U c.W0)<=K (U W))(T:A3):Hk c W a T R N (AD V (K (U W)+1) T):=by have d:∀j,j≠K (U W)+1->(AD V (K (U W)+1) T).heap[j]?=V.heap[j]?:=λj b=>Dg _ _ _ _ b;refine⟨(d _ E).trans h.bx,CM _ _ _ _ _ _ h.th,⟨(d _ E).trans h.rx.box,h.rx.below.trans ⟨Z,Z,Z,Ba,λj b=>d j E⟩,h.rx.few⟩,⟨h.but.os,h.but.tape,h.but.output,by simpa using h.but.size,λj b e=>(d j E).trans (h.but.block j b e)⟩⟩
theorem jC(l:A1)(W:X):Ar As 109 #[Ae ⟨Aw l⟩] W λe a=>e=Ak (.agg (Ce 4 0 ⟨Aw l⟩ Cm Cm))/\A0 W a:=by
 go_enter func109,ntmps109
 go_wp2_with(first
  |((with_reducible refine zT 2 4 rfl rfl (K (U W)) (Ce 4 0 ⟨Aw l⟩ Cm Cm) ?_ ?_);exact⟨Z,Z,Cj _,thg⟩))
 rw[IT];go_wp2;refine CL (KE results109 _ _ (K (U W)) 101 _ (0,0) _ Z (Cj _) underlying101 Z Kf) Z ⟨Z,Cl⟩
theorem Ug{c:Rx}{a:A3}{n:J}{ka va:A4}{ki kj vi vj M:I}{r:Option (AM Unit)×Cu}{A:Act}(h:Hk c W a (Ce kd n s (T ka ki kj) (T va vi vj)) r.2 N V)(l:N<=M)(f:∀b,r.1=H b->CP k V (λj=>K (U W)<=j/\j<K (U V)) (.agg (Ce kd n s (T ka ki kj) (T va vi vj))) b)(i:r.1=Ao->Ce kd n s (T ka ki kj) (T va vi vj)=Cr)(e:A.tmps.getD 6 AO=A8 (K (U W)+1):=by rfl)(g:A.tmps.getD 7 AO=Ah r.1.isSome:=by rfl)(d:A.defers=[]:=by rfl):bodyPost As f77 (Y0 c k r M W) .ret A V :=
 CL (Ik results77 e h.th underlying101 rfl Kf _ g) d ⟨_,_,_,_,_,_,_,_,_,rfl,⟨h.rx.box,h.rx.below,AY h.rx.few⟩,h.but,f,i⟩
def PY(m:AK)(ks:AJ A1)(i:AH):A1×AK:=bif m then(ks.getD i [],AQ)else([],AP)
def Fu(m:AK)(f:AJ (A1×AK)->A2->Cu->Option (AM Unit)×Cu)(p:AJ (A1×AK))(ks:AJ A1)(ds:AJ (AM Unit))(R:Cu):AH->(AJ A1×AJ (AM Unit))×Cu
 |0=>(([],[]),R)
 |i+1=>match ds[i]? with
  |none=>Fu m f p ks ds R i
  |some d=>match f (PY m ks i::p) d (Fu m f p ks ds R i).2 with
   |(Ao,R')=>((Fu m f p ks ds R i).1,R')
   |(An d',R')=>((bif m then(Fu m f p ks ds R i).1.1++[ks.getD i []]else[],(Fu m f p ks ds R i).1.2++[d']),R')
def Y4(m:AK)(s:(AJ A1×AJ (AM Unit))×Cu)(key:A1)(r:Option (AM Unit)×Cu):(AJ A1×AJ (AM Unit))×Cu:=match r with
 |(Ao,R')=>(s.1,R')
 |(An d',R')=>((bif m then s.1.1++[key]else[],s.1.2++[d']),R')
theorem qyQ{key:A1}(b:ds[i]?=H d)(a:PY m ks i=(key,!m)):Fu m f p ks ds R (i+1)=Y4 m (Fu m f p ks ds R i) key (f ((key,!m)::p) d (Fu m f p ks ds R i).2):=by
 rw[Fu,b];simp only[a,Y4];cases m
 .rfl
 cases a;rfl
theorem jF(i:I):(Fu AP f p ks ds R i).1.1.length=(Fu AP f p ks ds R i).1.2.length:=by
 induction i with
 |zero=>rfl
 |succ i h =>
  rw[Fu];grind
theorem q5q(i:I):(Fu m f p ks ds R i).1.2.length<=i:=by
 induction i with
 |zero=>exact Co _
 |succ i h =>
  rw[Fu];grind
theorem qxi(i:I):Ja (f (([],AP)::p)) (ds.take i) R=((Fu AQ f p ks ds R i).1.2,(Fu AQ f p ks ds R i).2):=by
 induction i with
 |zero=>rfl
 |succ i h =>
  rw[Fu];rcases hd:ds[i]? with _|d
  .grind [List.take_of_length_le]
  rw[Q5,hd,YQ,jq _ _ _ _ h];grind [PY]
theorem q16{es:AJ (Lit×AM Unit)}(a:∀(i:I) (key:Lit) (d:A2),es[i]?=H (key,d)->∃l,key=.string l)(i:I):Jb (λkey=>f ((key,AQ)::p)) (es.take i) R=(Fo (Fu AP f p (es.map (CX ·.1)) (es.map (·.2)) R i).1.1 (Fu AP f p (es.map (CX ·.1)) (es.map (·.2)) R i).1.2,(Fu AP f p (es.map (CX ·.1)) (es.map (·.2)) R i).2):=by
 induction i with
 |zero=>rfl
 |succ i h =>
  have b:=jF (f:=f) (p:=p) (ks:=es.map (CX ·.1)) (ds:=es.map (·.2)) (R:=R) i;rw[Fu];rcases hd:es[i]? with _|e
  .grind [List.take_of_length_le]
  obtain⟨key,d⟩:=e;obtain⟨l,rfl⟩:=a i key d hd;rw[Q5,hd,YQ,jr h,LS,hd];grind [PY,CX,Wv]
structure jG(f:List (A1×Bool)->A2->Cu->Option (DataW Unit)×Cu)(k:Nat)(W:World)(F:Nat->Prop)(kd n:Int)(s:ByteArray)(kv u:Value)(p:List (A1×Bool))(d:A2)(m:Bool)(ks:List A1)(ds:List (DataW Unit)):Prop where
 kd7:(kd==7)=m
 len:m=true->ks.length=ds.length
 keys:m=true->DH W 9 1 F kv ds.length (ks.map CQ)
 kids:∃xs,DH W 101 5 F u ds.length xs/\∀(i:Nat) (d:A2),ds[i]?=some d->∃a,Ha xs i a/\CP k W F (.agg a) d
 nd:(ds.map λd=>1+CS k d).sum+1<=CS (k+1) d
 cb:∀(i:Nat) (d':A2),ds[i]?=some d'->(Do k d').length<=(Do (k+1) d).length
 out:∀(V:World) (B b:Nat) (kv' u':Value) (R:Cu),B<=b->(ds=[]->kv'=Cm/\u'=Cm)->KM m k V b kv' u' (Fu m f p ks ds R ds.length).1.1 (Fu m f p ks ds R ds.length).1.2->CP (k+1) V (λj=>B<=j/\j<V.heap.size) (.agg (Ce kd n s kv' u')) (IR f p d R).1/\(IR f p d R).2=(Fu m f p ks ds R ds.length).2
theorem OO{a b a' b':J}{c c':AT}{d e d' e':Aq}(h:Ce a b c d e=Ce a' b' c' d' e'):a=a'/\b=b'/\c=c'/\d=d'/\e=e':=by simpa[Ce]using h
theorem qxF{n:J}(p:AJ (A1×AK))(h:CP (k+1) W F (.agg (Ce kd n s kv u)) d):∃m ks ds,jG f k W F kd n s kv u p d m ks ds:=by
 have c:∀(q:J),(q==7)=AQ->kd=q->u=Cm->kv=Cm->1<=CS (k+1) d->(∀R,IR f p d R=(d,R))->(∀V a,CP (k+1) V a (.agg (Ce kd n s Cm Cm)) d)->∃m ks ds,jG f k W F kd n s kv u p d m ks ds:=by rintro q Q rfl rfl rfl y z P;refine⟨AQ,[],[],Q,nofun,nofun,⟨[],⟨rfl,AF ⟨rfl,rfl⟩⟩,nofun⟩,ke9,nofun,λV B b v o R g hn _=>?_⟩;obtain⟨rfl,rfl⟩:=hn rfl;rw[z];exact⟨P _ _,Z⟩
 unfold CP at h;split at h
 .obtain⟨rfl,rfl,rfl,rfl,rfl⟩:=OO (F0 h);exact c 0 Z Z Z Z (OM _ _) (λ_=>rfl) λV a=>keE
 .rename_i b;obtain⟨rfl,rfl,rfl,rfl,rfl⟩:=OO (F0 h);exact c _ (by cases b<;>rfl) rfl rfl rfl (OM _ _) (λ_=>rfl) λV a=>keE
 .obtain⟨h,y,z⟩:=h;obtain⟨rfl,rfl,rfl,rfl,rfl⟩:=OO (F0 h);exact c 3 Z Z Z Z (OM _ _) (λ_=>rfl) λV a=>by grind [CP]
 .obtain⟨rfl,rfl,rfl,rfl,rfl⟩:=OO (F0 h);exact c 4 Z Z Z Z (OM _ _) (λ_=>rfl) λV a=>keE
 .obtain⟨rfl,rfl,rfl,rfl,rfl⟩:=OO (F0 h);exact c 5 Z Z Z Z (OM _ _) (λ_=>rfl) λV a=>keE
 .rename_i ds;obtain⟨o,w,h,r,A⟩:=h;obtain⟨rfl,rfl,rfl,rfl,rfl⟩:=OO (F0 h);refine⟨AQ,[],ds,Z,nofun,nofun,⟨w,r,A⟩,by simp only[CS];omega,λi N h=>?_,λV B b v o R g _ j=>?_⟩
  .have:=Ud (Do k) h;show _<=O (D4 4 _++ds.flatMap (Do k));grind
  have e:=qxi (f:=f) (p:=p) (ks:=[]) (ds:=ds) (R:=R) (O ds);rw[LV]at e;simp only[IR,e];exact⟨KM.fin j g,trivial⟩
 .rename_i es;obtain⟨v,o,w,h,hq,r,A⟩:=h;obtain⟨rfl,rfl,rfl,rfl,rfl⟩:=OO (F0 h);have L:∀(i:I) (key:Lit) (d:A2),es[i]?=H (key,d)->∃l,key=.string l:=λi key d h=>B9;refine⟨AP,es.map (CX ·.1),es.map (·.2),Z,Ba,λ_=>?_,⟨w,kei,λi d h=>?_⟩,?_,λi N h=>?_,λV B b v o R g _ j=>?_⟩
  .have e:es.map N9=(es.map (CX ·.1)).map CQ:=by rw[MP];refine Ys λx t=>?_;obtain⟨i,S,rfl⟩:=YK.1 t;obtain⟨l,e⟩:=L i es[i].1 es[i].2 (D3 S);simp[N9,CX,e]
   grind
  .grind
  .have h:∀l:AJ (Lit×AM Unit),((l.map (·.2)).map λd=>1+CS k d).sum<=(l.map λe=>2+CS k e.2).sum:=λl=>by induction l<;>grind
   grind [CS]
  .rw[LS,OY]at h;obtain⟨x,t,rfl⟩:=h;have:=Ud (λe:Lit×AM Unit=>(D4 3 (O (CX e.1))++CX e.1)++Do k e.2) t;show _<=O (D4 5 _++es.flatMap λe=>(D4 3 (O (CX e.1))++CX e.1)++Do k e.2);grind
  have e:=q16 (f:=f) (p:=p) (es:=es) (R:=R) L (O es);rw[LV]at e;simp only[IR,e];rw[LW]at j;exact⟨KM.fin j g,by rw[LW]⟩
 exact h.elim
theorem Tryz.infoStep:(prog.info? 146).map (λi=>(i.zero,i.size,i.bytes))=H (H (Ag #[.string ByteArray.empty,Ah AQ]),2,24):=B6
theorem apS{pa:A4}{pc:I}(own:w.ownsRow base 146 2 v n xs)(f:JH w pa ps)(p:pa=Ao->pc=0)(hl:n+O ps<=999999)(hb:base<=K (U w))(h:∀c b,b.ownsRow base 146 2 c (n+O ps) (xs++Hl ps)->Below base w b->wpList As ops Q rest (a.put o.dst c) b)(g:o.guard=Ao:=by rfl)(j:o.op=.call {callee:=.builtin .append,args:=#[x,y],argTypes:=#[32,32]}:=by rfl)(k:a.eval x=v:=by rfl)(hx:a.eval y=T pa (O ps) pc:=by rfl):wpList As ops Q (o::rest) a w:=by
 obtain⟨u,i,q,r,t⟩:=DD Tryz.infoStep;obtain _|d:=pa
 .have e:ps=[]:=by
   obtain _|⟨s,ps⟩:=ps
   .rfl
   obtain⟨_,_,h,_⟩:=f.at_ 0 Ba;cases h
  subst e;rw[p rfl]at hx;exact Tf g j underlying32 underlying32 i k own hx (h _ _ (by grind [Hl]) (Cq _ _))
 refine JO _ g x y 32 j base 146 u _ 2 24 underlying32 i q r t Z B8 v _ _ k own d (O ps) pc (Hl ps) hx (jD ps) (qvR f d Z) (jE) Bc E hb ?_;intro c b l m _;exact h _ _ l (GC (Cq base w) own m hb)
theorem jH(s:A1×AK)(own:w.ownsRow base 146 2 v n xs)(hl:n<=999999)(hb:base<=K (U w))(h:∀c b,b.ownsRow base 146 2 c (n+1) (xs++Hl [s])->Below base w b->wpList As ops Q rest (a.put o.dst c) b)(g:o.guard=Ao:=by rfl)(k:o.op=.call {callee:=.builtin .append,args:=#[x,y],argTypes:=#[32,32]}:=by rfl)(l:a.eval x=v:=by rfl)(hx:a.eval y=T (Aa (K (U w))) 1 1:=by rfl):wpList As ops Q (o::rest) a (Az w (M #[Ae ⟨Aw s.1⟩,Ah s.2] 146)):=by
 obtain⟨r,i,m,p,q⟩:=DD Tryz.infoStep;refine JO _ g x y 32 k base 146 r _ 2 24 underlying32 i m p q Z B8 v _ _ l (own.alloc _) ⟨K (U w),0,Ao⟩ 1 1 (Hl [s]) hx Z ?_ (jE) Bc E B7 ?_
 .intro j u t;have e:=Cj w (o:=M #[Ae ⟨Aw s.1⟩,Ah s.2] 146);rw[KP];refine(Cb e _).trans ?_;grind [Hl]
 intro c b d f _;exact h _ _ d (GC ((Cq base w).alloc hb _) (own.alloc _) f B7)
theorem Uh(h:W.ownsRow base t size v n xs):∃a b,v=T a n b:=by rcases h.2 with⟨rfl,e⟩|⟨g,b,c,rfl,_⟩<;>grind
theorem q3x(h:W.ownsRow base 146 2 v (O ps) (Hl ps)):∃a c,v=T a (O ps) c/\JH W a ps/\(∀b off,a=H ⟨b,off,Ao⟩->base<=b)/\(a=Ao->c=0):=by
 obtain⟨_,h⟩:=h;rcases h with⟨rfl,h⟩|⟨g,f,l,rfl,j,k,_,_,m,n⟩
 .exact⟨Ao,0,by rw[h],⟨λi d=>E⟩,nofun,λ_=>rfl⟩
 refine⟨_,f,rfl,⟨λi d=>⟨g,0,rfl,Cc k,?_⟩⟩,λb off e=>by cases e;exact j,nofun⟩;have e:=Y3 ps i d;grind [Cb]
theorem apK{a1 b1:A4}{i1 j1 p1 q1:I}(own:w.ownsRow base 101 5 v n xs)(hl:n<=999999)(hb:base<=K (U w))(h:∀c d b,b.ownsRow base 101 5 (T c (n+1) d) (n+1) (xs++(Ce kd z s (T a1 i1 j1) (T b1 p1 q1)).toList)->(∀j,j<K (U w)->H j≠Ax v->b.heap[j]?=w.heap[j]?)->Below base w b->(Ax (AX c (n+1) d)=Ax v\/∃g,Ax (AX c (n+1) d)=H g/\K (U w)<=g)->wpList As ops Q rest (a.put o.dst (T c (n+1) d)) b)(l:o.guard=Ao:=by rfl)(r:o.op=.call {callee:=.builtin .append,args:=#[x,y],argTypes:=#[99,99]}:=by rfl)(t:a.eval x=v:=by rfl)(hx:a.eval y=T (Aa (K (U w))) 1 1:=by rfl):wpList As ops Q (o::rest) a (Az w (M #[C Y kd,C Y z,.string s,T a1 i1 j1,T b1 p1 q1] 101)):=by obtain⟨L,F,u,A,B⟩:=DD Tryz.infoThR;refine Jl l r underlying99 F u A B Z B8 t (own.alloc _) 1 1 hx Z (EI) (T5) B8 Bc E B7 ?_;intro N b f i k;obtain⟨c,d,rfl⟩:=Uh f;have p:∀j,j<K (U w)->H j≠Ax v->b.heap[j]?=w.heap[j]?:=λj m q=>(i.block j B7 q).trans (Cx _ _ _ m);exact h c d b f p (GC ((Cq base w).alloc hb _) (own.alloc _) i B7) (k.imp id λe=>⟨_,e,Ba⟩)
structure jI(m:Bool)(k:Nat)(V:World)(b:Nat)(kv u:Value)(kl:List A1)(n:Nat)(xs:List Value)(W':World)(kv' u':Value)(t:A1)(d:A2)(a:A3)(L:Nat):Prop where
 size:V.heap.size<=W'.heap.size
 keep:∀j,b<=j->j<V.heap.size->some j≠u.ownBlock->(m=true->some j≠kv.ownBlock)->W'.heap[j]?=V.heap[j]?
 kids:W'.ownsRow b 101 5 u' (n+1) (xs++a.toList)
 un:u'.ownBlock=u.ownBlock\/∃g,u'.ownBlock=some g/\V.heap.size<=g
 kid:CP k V (λj=>L<=j/\j<V.heap.size) (.agg a) d
 five:a.size=5
 low:b<=L/\∀g,u.ownBlock=some g->g<L
 keys:m=true->W'.ownsRow b 9 1 kv' (kl.length+1) (kl.map CQ++[CQ t])/\(kv'.ownBlock=kv.ownBlock\/∃g,kv'.ownBlock=some g/\V.heap.size<=g)/\(∀g,kv'.ownBlock=some g->¬u'.ownBlock=some g)/\∀g,kv.ownBlock=some g->g<L
 nil:m=false->kv'=Cm
theorem KM.open{kl:AJ A1}(h:KM m k V b kv u kl ds):∃l,V.ownsRow b 101 5 u (O ds) l/\(m=AP->V.ownsRow b 9 1 kv (O kl) (kl.map CQ)/\∀g,Ax kv=H g->¬(Ax u)=H g)/\∀(o:X) (p n:Aq) (t:A1) (d:A2) (a:A3) (L:I),jI m k V b kv u kl (O ds) l o p n t d a L->KM m k o b p n (bif m then kl++[t]else[]) (ds++[d]):=by
 have go:∀(v x:I->Prop) (l:AJ Aq),V.ownsRow b 101 5 u (O ds) l->(∀(i:I) (d:A2),ds[i]?=H d->∃a,Ha l i a/\CP k V (λj=>b<=j/\j<K (U V)/\H j≠Ax u/\¬v j) (.agg a) d)->∀(o:X) (p n:Aq) (t:A1) (d:A2) (a:A3) (L:I),jI m k V b kv u kl (O ds) l o p n t d a L->(∀j,j<K (U V)->¬v j->m=AP->H j≠Ax kv)->(∀j,j<K (U V)->¬v j\/L<=j->¬x j)->(∀j,L<=j->m=AP->H j≠Ax kv)->Iw k o b n x (ds++[d]):=by
  intro v x l q s o p n t d a L f R B S;have z:∀j,j<K (U V)->H j≠Ax u->H j≠Ax n:=λj c h=>by rcases f.un with e|⟨g,e,hg⟩<;>grind
  refine⟨l++a.toList,by simpa using f.kids,λi N r=>?_⟩;by_cases y:i<O ds
  .rw[GM y]at r;obtain⟨F,P,Q⟩:=s i N r;exact⟨F,Wl q.1 y P,Q.same (λj c=>⟨c.1,CK c.2.1 f.size,z j c.2.1 c.2.2.1,B j c.2.1 (AF c.2.2.2)⟩) λj c=>f.keep j c.1 c.2.1 c.2.2.1 (R j c.2.1 c.2.2.2)⟩
  have e:i=O ds:=B9;subst e;rw[IU (Co _),Ql]at r;injection r with r;subst r;have A:∀j,L<=j->H j≠Ax u:=λj c e=>AY (f.low.2 j e.symm);exact⟨a,Wm q.1 f.five,f.kid.same (λj c=>⟨Cy f.low.1 c.1,CK c.2 f.size,z j c.2 (A j c.1),B j c.2 (AG c.1)⟩) λj c=>f.keep j (Cy f.low.1 c.1) c.2 (A j c.1) (S j c.1)⟩
 cases m
 .obtain⟨⟨rfl,rfl⟩,l,q,s⟩:=h;refine⟨l,q,nofun,λo p n t d a L f=>⟨⟨Z,f.nil Z⟩,go _ _ l q s o p n t d a L f (λ_ _ _ h=>Bo) (λ_ _ _ h=>h) (λ_ _ h=>Bo)⟩⟩
 have w:FM k V b kv u (λ_=>False) kl ds:=h;obtain⟨l,q,s⟩:=w.kids;refine⟨l,q,λ_=>⟨w.keys,w.apart⟩,λo p n t d a L f=>?_⟩;obtain⟨W,k2,k3,k4⟩:=f.keys rfl;refine(⟨by simpa using W,go _ _ l q s o p n t d a L f (λj _ h _ e=>h (AF e)) (λj c h=>?_) (λj c _ e=>B9),by simpa using w.len,k3,λ_ _ h=>h,λ_ _ h=>h⟩:FM k o b p n (λ_=>False) (kl++[t]) (ds++[d]));grind
structure GK(c:Rx)(W:World)(A:A3)(Q:Nat)(T:A3)(R:Cu)(N:Nat)(V:World):Prop where
 z:Hk c W A Cr R N V
 out:V.heap[Q]?=some (.cells T 101)
theorem GK.low{c:Rx}{T:A3}{Q:I}(h:GK c W A Q T R N V)(f:c.P<K (U W))(e:K (U c.W0)<=K (U W))(g:K (U W)+1<Q)(a:Below (Q+1) V V'):GK c W A Q T R N V' :=
 ⟨⟨(a.block _ E).trans h.z.bx,(a.block _ E).trans h.z.th,⟨(a.block _ E).trans h.z.rx.box,h.z.rx.below.trans (a.mono E),h.z.rx.few⟩,⟨a.os.trans h.z.but.os,a.tape.trans h.z.but.tape,a.output.trans h.z.but.output,Cy h.z.but.size a.size,λj b d=>(a.block j E).trans (h.z.but.block j b d)⟩⟩,(a.block _ E).trans h.out⟩
theorem GK.up{c:Rx}{T:A3}{Q:Nat}{N N':Nat}(h:GK c W A Q T R N V)(a:R=R')(b:N<=N'):GK c W A Q T R' N' V:=by subst a;exact⟨⟨h.z.bx,h.z.th,⟨h.z.rx.box,h.z.rx.below,AY h.z.rx.few⟩,h.z.but⟩,h.out⟩
theorem GK.put{c:Rx}{T:A3}{Q:I}{N':I}(h:GK c W A Q T R N V)(b:c.P<K (U W))(d:K (U W)+1<Q)(hx:Jc c R' N' V')(a:Cg c.P V V'):GK c W A Q T R' N' V' :=
 ⟨⟨(a.block _ (Cc h.z.bx) E).trans h.z.bx,(a.block _ (Cc h.z.th) E).trans h.z.th,hx,h.z.but.trans a⟩,(a.block _ (Cc h.out) E).trans h.out⟩
theorem GK.set{c:Rx}{T:A3}{Q:I}(h:GK c W A Q T R N V)(f:c.P<K (U W))(e:K (U c.W0)<=K (U W))(g:K (U W)+1<Q)(j:I)(v:Aq):GK c W A Q (Ay T j v) R N (AB V ⟨Q,j,Ao⟩ v):=by have a:∀i,i≠Q->(AB V ⟨Q,j,Ao⟩ v).heap[i]?=V.heap[i]?:=λi b=>CY V _ _ _ BB;refine⟨⟨(a _ E).trans h.z.bx,(a _ E).trans h.z.th,⟨(a _ E).trans h.z.rx.box,h.z.rx.below.trans ⟨Z,Z,Z,Bd,λi b=>a i E⟩,h.z.rx.few⟩,⟨h.z.but.os,h.z.but.tape,h.z.but.output,by simpa[World.setCell]using h.z.but.size,λi b d=>(a i E).trans (h.z.but.block i b d)⟩⟩,?_⟩;rw[DQ _ _ _ _ _ _ h.out]
theorem qpJ{c:Rx}(ok:MG c)(k:I)(ih:Y1 c k):Y1 c (k+1):=by
 intro W eg fi ae pa ps pc R N h hp dx e6 hF hd hc hN fs;obtain⟨d,n,s,ka,ki,kj,va,vi,vj,e⟩:=hd.shape;injection e with e;subst e;have HZ:D (Hk c W (Ce d n s (T ka ki kj) (T va vi vj)) Cr R N (Az (Az W (M (Ce d n s (T ka ki kj) (T va vi vj)) 101)) (M Cr 101))) :=
  ⟨(Cx _ _ _ Ba).trans (Cj _),B2 (Cj (Az W (M (Ce d n s (T ka ki kj) (T va vi vj)) 101)) (o:=M Cr 101)),(h.next Cl).next Cl,(Cg.of_below Cl).trans (.of_below (Cl))⟩
 have HP:=G hp;obtain⟨aa,hl,ey,cQ⟩:=ok.lab ps;have cL:=G (λV (hV:Cg c.P W V)=>ok.lbl V pa ps pc (h.below.trans (hV.low ok.le h.below.size)) (hp.but dx hV) E);obtain⟨ab,aq⟩:=CA ((DC c.v.dflt c.v.rs ps).2);rw[hl,AE aq]at cL;obtain⟨an,HB⟩:=CA (c.v.m aa c.v.clr);rw[AE HB]at cQ;have HQ:=G cQ;have am:D ((DC c.v.dflt c.v.rs ps.reverse.reverse).1.toNat=aa):=by rw[Uw,hl];rfl
 have ah:D ((DC c.v.dflt c.v.rs ps.reverse.reverse).2=ab):=by rw[Uw];exact aq
 have F:=G ok;obtain⟨rr,ac⟩:=CA (CW c.v (k+1) ps.reverse ae R);rw[AE ac];have fr:=OM k ae;have bi:∀(cf:X),Hk c W (Ce d n s (T ka ki kj) (T va vi vj)) Cr R N cf->(∀(j:I) (ag:Aq),c.arr[j]?=H ag->AC cf ⟨c.P,0+j,Ao⟩=H ag)/\AC cf ⟨c.P,11,Ao⟩=H (T c.ra c.rn c.rc):=λ_ h=>⟨h.rx.cfg,h.rx.cell ok 0⟩
 have au:=G bi;have x:=Cc h.box;have b:=h.below.size;clear bi cQ hl h hp;unfold Cr Ce Cm at HZ au;unfold Ce;go_enter func77,ntmps77
 go_wp2_with fail
 generalize Az (Az W _) _=V0 at *;refine Dl (S:=λB=>(∀(j:I) (ag:Aq),c.arr[j]?=H ag->B.cell? ⟨c.P,0+j,Ao⟩=H ag)/\B.cell? ⟨c.P,11,Ao⟩=H (T c.ra c.rn c.rc)) (au _ (HZ.next (Cq _ _).drew)) B6 ?_;intro t;refine Ca 0 17 (Ad (H ⟨c.P,0,Ao⟩)) t ?_;refine Ca 1 18 (Ad (H ⟨c.P,0,Ao⟩)) t ?_;refine Ca 2 19 (Ad (H ⟨c.P,0,Ao⟩)) t ?_;refine Cf 3 20 (.agg c.arr) Z (λB q=>Nz (.tmp 19) Z Z q.1 underlying40 Z (jB F)) t ?_;refine Ca 4 21 (Ad (H ⟨c.P,0,Ao⟩)) t ?_;refine Ca 5 22 (Ad (H ⟨c.P,0,Ao⟩)) t ?_;refine Ca 6 23 (Ad (H ⟨c.P,11,Ao⟩)) t ?_;refine Cf 7 24 (T c.ra c.rn c.rc) Z (λB q=>?y7) t ?_
 case y7=>(have:=q.2;go_simp)
 refine Ca 8 25 (T pa (O ps) pc) t ?_;refine CC 9 (λad A=>?_);go_simp;have cd:=G (HZ.next (Cq _ _).drew);refine(cL.out _ cd.but).mono ?_;clear cL;rintro e w2 ⟨rfl,c8⟩;simp only[];have bs:=G (cd.next c8);have ao:=au.out _ bs;refine A.out _ _ ao (λ_=>?_);clear A cd HZ c8 t;refine Ca 10 16 (Af #[C Y aa,C Y ab]) ao ?_;refine Ca 11 27 (C Y aa) ao ?_;refine Ca 12 28 (C Y ab) ao ?_;refine Ca 13 8 (C Y aa) ao ?_;refine Ca 14 9 (C Y ab) ao ?_;refine CG ?_;go_simp;clear ao
 go_wp2_with fail
 refine Dl (S:=λB=>(∀(j:I) (ag:Aq),c.arr[j]?=H ag->B.cell? ⟨c.P,0+j,Ao⟩=H ag)/\B.cell? ⟨c.P,11,Ao⟩=H (T c.ra c.rn c.rc)) (au _ (bs.next (Cq _ _).drew)) B6 ?_;intro t;refine Ca 0 29 (Ad (H ⟨c.P,0,Ao⟩)) t ?_;refine Ca 1 30 (Ad (H ⟨c.P,0,Ao⟩)) t ?_;refine Ca 2 31 (Ad (H ⟨c.P,0,Ao⟩)) t ?_;refine Cf 3 32 (.agg c.arr) Z (λB q=>Nz (.tmp 31) Z Z q.1 underlying40 Z (jB F)) t ?_;refine Ca 4 33 (C Y aa) t ?_;refine Ca 5 34 (Ad (H ⟨c.P,0,Ao⟩)) t ?_;refine Ca 6 35 (Ad (H ⟨c.P,0,Ao⟩)) t ?_;refine Ca 7 36 (Ad (H ⟨c.P,0,Ao⟩)) t ?_;refine Ca 8 37 (Ad (H ⟨c.P,4,Ao⟩)) t ?_;refine Cf 9 38 (C Y c.v.clr) Z (λB q=>?y9) t ?_
 case y9=>(have cm:B.cell? ⟨c.P,4,Ao⟩=_:=q.1 4 _ F.a4;go_simp)
 refine CC 10 (λad A=>?_);go_simp;have ce:=G (bs.next (Cq _ _).drew);refine(HQ _ ce.rx.below).mono ?_;clear HQ;rintro e a ⟨rfl,af⟩;simp only[];have y:=G (ce.next af);have ch:=au.out _ y;refine A.out _ _ ch (λ_=>?_);clear A bs ce af t;refine Ca 11 40 (Ah !an) ch ?_;refine CG ?_;go_simp;clear ch au;have ak:=λj=>Dq a c.P j _ _ y.rx.box;cases an
 .have hm:¬c.v.m (DC c.v.dflt c.v.rs ps.reverse.reverse).1.toNat c.v.clr=AP:=by rw[AE am,AE HB];decide
  have few:=y.rx.few;have d5:AC a ⟨c.P,13,Ao⟩=H (C Y R.2.1):=y.rx.cell F 2;have d6:AC a ⟨c.P,14,Ao⟩=H (C Y R.2.2.1):=y.rx.cell F 3;have d7:AC a ⟨c.P,15,Ao⟩=H (C Y R.2.2.2):=y.rx.cell F 4;by_cases L:ab=2
  .have aj:=ac.symm.trans (jw hm (ah.trans L));subst aj;have a2:(ab==2)=AP:=by simp[L]
   have z:D (Hk c W _ _ (R.1,R.2.1,R.2.2.1+1,R.2.2.2) (N+1) (AB a ⟨c.P,14,Ao⟩ (C Y ((R.2.2.1:J)+1)))):=y.count F x 14 (R.2.2.1+1) (by rw[show 14=11+3 from Z,Uf F.out];rfl) BK;have fl:=ak 14;clear L hm y ac aq ah am HB ak d5 d7
   go_wp2_with(first
    |(go_at_call 109;refine(jC [42,42,42] _).mono ?_;rintro e w5 ⟨rfl,bh⟩;have c5:=G (z.next bh);clear z bh)
    |((with_reducible refine zT 6 53 rfl rfl (K (U W)+1) (Ce 4 0 ⟨#[42,42,42]⟩ Cm Cm) ?_ ?_);exact⟨Z,Z,c5.th,thg⟩))
   exact Ug (c5.set x b _) E (λd' h=>by cases h;unfold CP;rfl) nofun
  have a2:(ab==2)=AQ:=keA;by_cases l:ab=3
  .have aj:=ac.symm.trans (jx hm (ah.trans l));rw[AE am]at aj;subst aj;have a3:(ab==3)=AP:=by simp[l]
   have z:D (Hk c W _ _ (R.1,R.2.1,R.2.2.1,R.2.2.2+1) (N+1) (AB a ⟨c.P,15,Ao⟩ (C Y ((R.2.2.2:J)+1)))):=y.count F x 15 (R.2.2.2+1) (by rw[show 15=11+4 from Z,Uf F.out];rfl) BK;have fm:=ak 15;have cT:D (∀V,Cg c.P W V->Ar As 110 #[C Y c.v.key,C Y aa,Ag #[C Y d,C Y n,.string s,T ka ki kj,T va vi vj]] V (E4 (JC c.v.key aa (Do (k+1) ae)) V)):=λV hV=>q2f F.key.1 F.key.2 ey (λj w=>CK (hF j w).1 hV.size) (hd.same (λ_ h=>h) (λj w=>hV.block j (hF j w).1 (hF j w).2)) hc;clear L l hm y ac aq ah am HB ak d5 d6;generalize JC c.v.key aa (Do (k+1) ae)=tg at *
   go_wp2_with fail
   generalize AB a _ _=w4 at *;refine Dl (S:=λB=>∃bv,Hk c W #[C Y d,C Y n,.string s,T ka ki kj,T va vi vj] bv (R.1,R.2.1,R.2.2.1,R.2.2.2+1) (N+1) B) ⟨_,z.next (Cq _ _).drew⟩ B6 ?_;intro t;refine Ca 0 65 (Ad (H ⟨c.P,0,Ao⟩)) t ?_;refine Ca 1 66 (Ad (H ⟨c.P,0,Ao⟩)) t ?_;refine Ca 2 67 (Ad (H ⟨c.P,0,Ao⟩)) t ?_;refine Ca 3 68 (Ad (H ⟨c.P,5,Ao⟩)) t ?_;refine Cf 4 69 (C Y c.v.key) Z (λB q=>?y4) t ?_
   case y4=>(obtain⟨bv,q⟩:=q;have cm:B.cell? ⟨c.P,5,Ao⟩=_:=q.rx.cfg 5 _ F.a5;go_simp)
   refine Ca 5 70 (C Y aa) t ?_;refine Cf 6 71 (.agg (Ce d n s (T ka ki kj) (T va vi vj))) Z (λB q=>yT 4 (q.elim λ_ h=>h.bx) Z Z) t ?_;refine CC 7 (λad A=>?_);go_simp;have bw:=G (z.next (Cq _ _).drew);refine(cT.out _ bw.but).mono ?_;clear cT;rintro e w5 ⟨rfl,bh⟩;simp only[];have be:=G (bw.next bh);refine A.out _ _ ⟨_,be⟩ (λeu=>?_);clear A bw z bh t;refine CC 8 (λad A=>?_);go_simp;refine(jC tg _).mono ?_;rintro e r ⟨rfl,da⟩;simp only[];have bm:=G (be.next da);refine A.out _ _ ⟨_,bm⟩ (λfo=>?_);clear A be da eu;have df:(λB=>∃bv,Hk c W #[C Y d,C Y n,.string s,T ka ki kj,T va vi vj] bv (R.1,R.2.1,R.2.2.1,R.2.2.2+1) (N+1) B) _:=⟨_,bm.set x b (Ce 4 0 ⟨Aw tg⟩ Cm Cm)⟩
   refine Hy 9 6 73 B6 bm.th thg df ?_;refine Ca 10 7 (Ah AP) df ?_;refine CG ?_;go_simp;go_wp2;exact Ug (bm.set x b _) E (λd' h=>by cases h;unfold CP;rfl) nofun
  have aj:=ac.symm.trans (jy hm (λh=>L (ah.symm.trans h)) (λh=>l (ah.symm.trans h)));subst aj;have a3:(ab==3)=AQ:=ke5;have z:D (Hk c W _ _ (R.1,R.2.1+1,R.2.2.1,R.2.2.2) (N+1) (AB a ⟨c.P,13,Ao⟩ (C Y ((R.2.1:J)+1)))):=y.count F x 13 (R.2.1+1) (by rw[show 13=11+2 from Z,Uf F.out];rfl) BK;have fk:=ak 13;clear L l hm y ac aq ah am HB ak d6 d7
  go_wp2_with(first
   |((with_reducible refine zT 6 83 rfl rfl (K (U W)+1) Cr ?_ ?_);exact⟨Z,Z,z.th,thg⟩))
  exact Ug (z.set x b _) E nofun (λ_=>rfl)
 have hm:c.v.m (DC c.v.dflt c.v.rs ps.reverse.reverse).1.toNat c.v.clr=AP:=by rw[AE am];exact HB
 have few:=y.rx.few;have fd:AC a ⟨c.P,12,Ao⟩=H (C Y R.1):=y.rx.cell F 1;have aj:=ac.symm.trans (jv hm);subst aj;have z:D (Hk c W _ _ (R.1+1,R.2) (N+1) (AB a ⟨c.P,12,Ao⟩ (C Y ((R.1:J)+1)))):=y.count F x 12 (R.1+1) (by rw[show 12=11+1 from Z,Uf F.out];rfl) BK;have ep:=ak 12;have et:R.1<=90000:=E;obtain⟨m,ks,ds,dl⟩:=qxF (f:=CW c.v k) ps.reverse hd;obtain⟨xs,dy,dq⟩:=dl.kids;obtain⟨ft,fz,f5,ev,dj⟩:=Mk dy;cases ev;have al:=G dl;have z0:=Cb z.bx 0;have z1:=Cb z.bx 1;have z2:=Cb z.bx 2;generalize hN2:N+CS (k+1) ae=NE at *;have cv:=G hN2;have eh:=G hc;have cw:=G hN;clear hm y ac aq ah am HB ak hN2 hc hN;go_wp2;have hQ:=Cc z.th;have cl:K (U (AB a ⟨c.P,12,Ao⟩ (C Y ((R.1:J)+1))))=K (U a):=Bd;have c0:D (GK c W _ (K (U a)) _ (R.1+1,R.2) (N+1) ((AB a ⟨c.P,12,Ao⟩ (C Y ((R.1:J)+1))).alloc (M #[C Y d,C Y n,.string s,T Ao 0 0,T Ao 0 0] 101))):=⟨z.next Cl,cl▸Cj _⟩
 rw[cl]at hQ;generalize(AB a _ _).alloc _=V0 at *;generalize K (U a)=Q at *;obtain⟨rw,ar⟩:=CA (Fu m (CW c.v k) ps.reverse ks ds (R.1+1,R.2));obtain⟨ns,bo⟩:=CA (λi=>((ds.take i).map λae=>1+CS k ae).sum);have cr:D (KM m k V0 (Q+1) Cm Cm (rw 0).1.1 (rw 0).1.2):=by rw[<-AE ar];exact Wz
 have en:D ((rw 0).2=(R.1+1,R.2)):=by rw[<-AE ar];rfl
 have cx:D (N+1+ns (O ds)<=NE):=by have:=al.nd;have:=AE cv;rw[<-AE bo];show N+1+((ds.take (O ds)).map λae=>1+CS k ae).sum<=NE;rw[LV];omega
 clear cl z z0 z1 z2 fd ep et
 go_loopg[11] (O ds) (λg fg V=>∃(i qn qc un uc:I) (qa ua:A4),fg=C Y i/\D (i+g=O ds)/\D (GK c W #[C Y d,C Y n,.string s,T ka ki kj,T va (O ds) vj] Q (Ce d n s (T qa qn qc) (T ua un uc)) (rw i).2 (N+1+ns i) V)/\D (KM m k V (Q+1) (T qa qn qc) (T ua un uc) (rw i).1.1 (rw i).1.2)/\D (i=0->AX qa qn qc=Cm/\AX ua un uc=Cm))
 case atStart=>exact⟨0,0,0,0,0,Ao,Ao,rfl,Bg,by rw[AE en,<-AE bo];exact c0,cr,λ_=>⟨Z,Z⟩⟩
 case round =>
  clear c0 cr;obtain⟨i,qn,qc,un,uc,qa,ua,rfl,hg,HY,HK,HI⟩:=hrel;have c4:=Cb HY.z.bx 4;obtain _|g:=gk
  .have ez:¬(i:J)<(O ds:J):=AY (AE hg);have HE:D (i=O ds):=by have:=AE hg;show _=_;omega
   go_wp2_with(first
    |((with_reducible refine CT rfl 101 (.tmp 10) rfl Q ?hx 101 (Ce d n s (T qa qn qc) (T ua un uc)) (0,0) _ ?hg underlying101 rfl ?hi ?_);(case hx=>exact rfl);(case hg=>exact HY.out.out);(case hi=>exact Kf))
    |((with_reducible refine zT 6 156 rfl rfl (K (U W)+1) (Ce d n s (T qa qn qc) (T ua un uc)) ?_ ?_);exact⟨Z,Z,HY.z.th,thg⟩))
   have dc:=AE HK;have hY:=AE HY;rw[AE HE,<-AE ar]at dc hY;obtain⟨o1,o2⟩:=al.out.out wr (K (U W)+2) (Q+1) _ _ (R.1+1,R.2) E (λh0=>HI.out (by rw[AE HE,h0];rfl)) dc;rw[<-o2]at hY;exact Ug (hY.z.set x b _) (AY (AE cx)) (λd' h=>by cases h;exact o1.same (λj w=>⟨E,by simpa using w.2⟩) (λj w=>Dg _ _ _ _ E)) (λh=>by cases h)
  have cj:i<O ds:=AY (AE hg);have ez:(i:J)<(O ds:J):=E;have eq:=Cc HY.out.out;obtain⟨u,bj⟩:∃u,ds[i]?=H u:=⟨_,D3 cj⟩
  obtain⟨a0,dz,cg⟩:=dq i u bj;obtain⟨gb,rfl,db,dk⟩:=dj i a0 cj dz;obtain⟨d9,n',s',d8,ea,eb,ed,ee,ef,e⟩:=cg.shape;injection e with e;subst e;obtain⟨key,cp,dp⟩:∃key,D (PY m ks i=(key,!m))/\(m=AQ->key=[]):=by cases m<;>exact⟨_,rfl,Ba⟩
  have ej:D (∀V,Cg c.P W V->V.heap[gb]?=W.heap[gb]?):=λV hV=>hV.block gb (hF gb db).1 (hF gb db).2;have be:D (∀V,Cg c.P W V->AC V ⟨gb,i*5,Ao⟩=H (C Y d9)/\AC V ⟨gb,i*5+1,Ao⟩=H (C Y n')/\AC V ⟨gb,i*5+2,Ao⟩=H (.string s')/\AC V ⟨gb,i*5+3,Ao⟩=H (T d8 ea eb)/\AC V ⟨gb,i*5+4,Ao⟩=H (T ed ee ef)):=λV hV=>have h:=dk V (ej V hV);⟨h 0 B8,h 1 B8,h 2 B8,h 3 B8,h 4 B8⟩;have ei:D (∀(V:X) (bd:A4) (bu:I) (R':Cu) (N':I),Jc c R' N' V->Cg c.P W V->JH V bd (ps++[(key,!m)])->(∀an off,bd=H ⟨an,off,Ao⟩->an≠c.P)->(bd=Ao->bu=0)->N'+CS k u<=90000->Ar As 77 #[Ad (H ⟨c.P,0,Ao⟩),Ag #[C Y d9,C Y n',.string s',T d8 ea eb,T ed ee ef],T bd (O ps+1) bu] V (Y0 c k (CW c.v k ((key,!m)::ps.reverse) u R') (N'+CS k u) V)):=λV bd bu R' N' h1 L l h4 h5 h6=>by have:=ih V eg _ u bd _ bu R' N' h1 l h4 h5 (λj w=>⟨CK (hF j w).1 L.size,(hF j w).2⟩) (cg.same (λ_ h=>h) λj w=>L.block j (hF j w).1 (hF j w).2) (Cy (al.cb i u bj) eh) h6 B7;rw[Ux,Dc]at this;exact this
  have bf:D (ns (i+1)=ns i+1+CS k u/\N+1+ns (i+1)<=90000):=by
   have h1:=AE cx;have L:=AE cw;have l:∀j,ns j<=ns (O ds):=λj=>by
    rw[<-AE bo];show((ds.take j).map _).sum<=((ds.take (O ds)).map _).sum;rw[LV]
    conv=>rhs;rw[<-Yp j ds,JP,UM]
    omega
   have h4:=l (i+1);refine⟨?_,E⟩;rw[<-AE bo];show((ds.take (i+1)).map _).sum=((ds.take i).map _).sum+1+CS k u;rw[Q5,bj,JP,UM];simp;omega
  have fp:O ds<=90000:=by have h1:=al.nd;have L:=AE cv;have l:=AE cw;have h4:=XX (CS k) ds;omega
  have ct:D ((rw i).1.2.length<=90000):=by have h:=q5q (m:=m) (f:=CW c.v k) (p:=ps.reverse) (ks:=ks) (ds:=ds) (R:=(R.1+1,R.2)) i;rw[AE ar]at h;exact Cy h E
  obtain⟨ec,HR⟩:=CA (CW c.v k ((key,!m)::ps.reverse) u (rw i).2);have ai:D (rw (i+1)=Y4 m (rw i) key ec):=by have h:=qyQ (f:=CW c.v k) (p:=ps.reverse) (R:=(R.1+1,R.2)) bj cp;rw[AE ar,AE HR]at h;exact h
  have em:=G (λV hV=>HP.but dx (w':=V) hV);have k7:=al.kd7;have av:D (∀row,GK c W _ Q _ _ _ (Az wr (M row 146))):=λ_=>HY.low x b hQ ((Cq _ _).alloc eq _);have di:∀row,K (U (Az wr (M row 146)))=K (U wr)+1:=Ba;have d0:=Cb (av #[Ae ⟨#[]⟩,Ah AP]).z.bx 0;clear dq dj dk cg dz bj hd dy;have cs:m=AP->∃gk,ka=H ⟨gk,0,Ao⟩/\ki=O ds/\∀V,Cg c.P W V->AC V ⟨gk,i,Ao⟩=H (Ae ⟨Aw key⟩):=λhm=>by subst hm;have ap:=al.len Z;obtain⟨fy,fj,e1,e2⟩:=WO (es:=ks.map λaa=>(.string aa,.nil)) (by simpa[N9,Function.comp_def,ap]using al.keys rfl);cases e1;obtain⟨gk,e3,e4,e5⟩:=e2 i key .nil (by have e:=AE cp;simp only[PY,cond,Bool.not_true,LX,and_true]at e;simp[<-e,List.getD,ap,cj]);exact⟨gk,e3,by simpa using ap,λV hV=>e5 V (hV.block gk (hF gk e4).1 (hF gk e4).2)⟩
  obtain⟨r1,r2⟩:=ec;cases m
  case' false=>obtain rfl:=dp rfl
  case' true =>
   have cu:D ((rw i).1.1.length<=90000):=by have h:=jF (f:=CW c.v k) (p:=ps.reverse) (ks:=ks) (ds:=ds) (R:=(R.1+1,R.2)) i;rw[AE ar]at h;rw[h];exact ct
   obtain⟨gk,rfl,rfl,ci⟩:=cs rfl;have ek:=G ci;have y0:=ci _ (av #[Ae ⟨#[]⟩,Ah AP]).z.but;have d3:=Cb (av #[Ae ⟨#[]⟩,Ah AP]).z.bx 3;clear ci
  all_goals clear dp cs
  all_goals rcases r1 with _|d'
  rotate_left 2
  all_goals
   go_wp2_with(first
     |(at_builtin;refine apS (base:=K (U wr)+1) (Fa _ _ _ _) (em _ (av _).z.but) e6 E (by rw[di];omega) ?_;intro v1 w1 o1 b1;rw[Gw,KG]at o1;obtain⟨a1,c1,rfl⟩:=Uh o1;have c3:=G ((av _).low x b hQ (b1.mono E));have bl:=(b1.block (K (U wr)) E).trans (Cj wr);have e0:=Cb bl 0;have e1:=Cb bl 1;have b4:=G o1;have fc:=b1.size;rw[di]at fc;have c7:D (A0 wr w1):=((Cq _ _).alloc (Co _) _).trans (b1.mono E);clear o1 b1 bl av)
     |(at_builtin;(first|refine jH (key,AQ) b4 E E ?_|refine jH ([],AP) b4 E E ?_);intro v2 w2 o2 b2;have aw:=G (c3.low x b hQ (b2.mono E));obtain⟨fe,ff,rfl,dw,dt,du⟩:=q3x (ps:=ps++[_]) (by rw[Dc,qis];exact o2);rw[Dc];have cR:=ei.out w2 fe ff _ _ aw.z.rx aw.z.but dw (λan off e=>AY (dt an off e)) du (AY (AE bf));rw[AE HR]at cR;obtain⟨f0,f1,f2,f3,f4⟩:=be.out w2 aw.z.but;have d4:=Cb aw.z.bx 4;have fu:=b2.size;have bt:=G (c7.out.trans (b2.mono E));clear c7 o2 b2 b4 c3 dw dt du e0 e1)
     |(go_at_call 77;refine cR.mono ?_;clear cR;rintro e a ⟨bc,n3,s3,ay,az,a7,a8,ba,bb,rfl,d2,af,bk,_⟩;unfold Ce;have b8:=G (aw.put x hQ d2 af);have fh:=G af;have co:=G bk;have bq:D (GK c W _ Q _ _ _ (Az a (M #[C Y bc,C Y n3,.string s3,T ay az a7,T a8 ba bb] 101))):=b8.low x b hQ ((Cq _ _).alloc (Cc b8.out.out) _);have bz:D (∀j,Q+1<=j->j<K (U wr)->(Az a (M #[C Y bc,C Y n3,.string s3,T ay az a7,T a8 ba bb] 101)).heap[j]?=wr.heap[j]?):=λj h1 L=>(Cx _ _ _ (CK (CK L bt.out.size) af.size)).trans ((af.block j (CK L bt.out.size) E).trans (bt.out.block j L));have fv:K (U wr)<=K (U a):=Cy bt.out.size af.size;have g4:(Az a (M #[C Y bc,C Y n3,.string s3,T ay az a7,T a8 ba bb] 101)).cell? ⟨Q,4,Ao⟩=H (T ua un uc):=Cb bq.out.out 4;obtain⟨ys,dv,dm,dg⟩:=KM.open (HK.next (V':=Az a (M #[C Y bc,C Y n3,.string s3,T ay az a7,T a8 ba bb] 101)) B7 bz);have el:=G dv;have cq:=G dm;have cn:=G dg;clear dv dm dg d2 af bk aw b8 f0 f1 f2 f3 f4 d4)
     |(at_builtin;refine apK el (AY (AE ct)) B7 ?_ (hx:=by rw[CI];rfl);intro a6 c6 r o6 k6 b6 n6;have ca:=G (bq.low x b hQ b6);have l4:=Cb ca.out.out 4;have ex:=Dq r Q 4 _ _ ca.out.out;have b5:=G o6;have b0:=G k6;have bn:=G n6;have ax:=G (ca.set x b hQ 4 (T a6 ((rw i).1.2.length+1) c6));have q0:=Cb ax.z.bx 0;have d1:=b6.size;clear o6 k6 n6 b6))
  .go_roundg g
   case measure=>omega
   case rel=>exact⟨i+1,qn,qc,un,uc,qa,ua,Bb,B9,bq.up (by rw[AE ai];rfl) (AY (AE bf)),by rw[AE ai];exact HK.next B7 bz,nofun⟩
  .have HX:D (KM AQ k (AB r ⟨Q,4,Ao⟩ (T a6 ((rw i).1.2.length+1) c6)) (Q+1) (T qa qn qc) (T a6 ((rw i).1.2.length+1) c6) [] ((rw i).1.2++[d'])):=by have ho:∀j,j≠Q->(AB r ⟨Q,4,Ao⟩ (T a6 ((rw i).1.2.length+1) c6)).heap[j]?=r.heap[j]?:=λj w=>CY r _ _ _ kee;obtain⟨_,ck,_⟩:=KM.open HK;refine cn _ _ _ [] d' (Ce bc n3 s3 (T ay az a7) (T a8 ba bb)) (K (U w2)) ⟨by simpa[World.setCell]using d1,λj h1 L l _=>(ho j E).trans (b0 j L l),SR b5 (λj h1 _=>ho j E),bn,(co d' Z).same (λj w=>⟨w.1,B0 w.2⟩) (λj w=>Cx _ _ _ w.2),Z,⟨E,λg e=>AY (Ek ck e)⟩,nofun,λ_=>HK.1.2⟩
   go_wp2;go_roundg g
   case measure=>omega
   case rel=>exact⟨i+1,qn,qc,_,c6,qa,a6,Bb,B9,ax.up (by rw[AE ai];rfl) (AY (AE bf)),by rw[AE ai];exact HX,nofun⟩
  .go_roundg g
   case measure=>omega
   case rel=>exact⟨i+1,qn,qc,un,uc,qa,ua,Bb,B9,bq.up (by rw[AE ai];rfl) (AY (AE bf)),by rw[AE ai];exact HK.next B7 bz,nofun⟩
  have fw:K (U a)+1<=K (U r):=by simpa using d1
  have ho:∀j,j≠Q->(AB r ⟨Q,4,Ao⟩ (T a6 ((rw i).1.2.length+1) c6)).heap[j]?=r.heap[j]?:=λj w=>CY r _ _ _ kee;have cz:D (K (U (AB r ⟨Q,4,Ao⟩ (T a6 ((rw i).1.2.length+1) c6)))=K (U r)):=by simp[D,World.setCell]
  have cy:=G ho;have bk:=Dq (AB r ⟨Q,4,Ao⟩ (T a6 ((rw i).1.2.length+1) c6)) Q 3 _ _ ax.out.out;clear ho q0 l4 ex g4;generalize AB r ⟨Q,4,Ao⟩ (T a6 ((rw i).1.2.length+1) c6)=w7 at *;have bi:(λB=>∃bg,GK c W #[C Y d,C Y n,.string s,T (H ⟨gk,0,Ao⟩) (O ds) kj,T (H ⟨gb,0,Ao⟩) (O ds) vj] Q bg r2 (N+1+ns i+CS k u) B) {w7 with drawn:=w7.drawn+1}:=⟨_,ax.low x b hQ (Cq _ _).drew⟩
  refine Dl (S:=λB=>∃bg,GK c W #[C Y d,C Y n,.string s,T (H ⟨gk,0,Ao⟩) (O ds) kj,T (H ⟨gb,0,Ao⟩) (O ds) vj] Q bg r2 (N+1+ns i+CS k u) B) bi B6 ?_;intro t;refine Ca 0 146 (Ad (H ⟨Q,3,Ao⟩)) t ?_;refine Ca 2 148 (Ad (H ⟨K (U W),3,Ao⟩)) t ?_;refine Ca 4 150 (C Y i) t ?_;refine Cf 3 149 (T (H ⟨gk,0,Ao⟩) (O ds) kj) Z (λB q=>?y3) t ?_
  case y3=>(obtain⟨bg,q⟩:=q;have cm:=Cb q.z.bx 3;go_simp)
  refine Cf 5 151 (Ad (H ⟨gk,i,Ao⟩)) Z (λB q=>?y5) t ?_
  case y5=>go_simp
  refine Cf 6 152 (Ae ⟨Aw key⟩) Z (λB q=>?y6) t ?_
  case y6=>(obtain⟨bg,q⟩:=q;have cm:=ek.out B q.z.but;go_simp)
  have cc:D (GK c W #[C Y d,C Y n,.string s,T (H ⟨gk,0,Ao⟩) (O ds) kj,T (H ⟨gb,0,Ao⟩) (O ds) vj] Q _ r2 (N+1+ns i+CS k u) {w7 with drawn:=w7.drawn+1}):=ax.low x b hQ (Cq _ _).drew;have b7:D (∀j,j≠Q->({w7 with drawn:=w7.drawn+1}:X).heap[j]?=r.heap[j]?):=AE cy;have eo:D (K (U ({w7 with drawn:=w7.drawn+1}:X))=K (U r)):=AE cz;have fq:({w7 with drawn:=w7.drawn+1}:X).frozen? ⟨Q,3,Ao⟩=AQ:=bk;clear cy cz bk bi ax;generalize({w7 with drawn:=w7.drawn+1}:X)=w8 at *;have er:=Cc cc.out.out;have j3:AC w8 ⟨Q,3,Ao⟩=H (T qa qn qc):=Cb cc.out.out 3;have br:D (GK c W _ Q _ r2 (N+1+ns i+CS k u) (Az w8 (M #[Ae ⟨Aw key⟩] 9))):=cc.low x b hQ ((Cq _ _).alloc er _);have i3:(Az w8 (M #[Ae ⟨Aw key⟩] 9)).cell? ⟨Q,3,Ao⟩=H (T qa qn qc):=Cb br.out.out 3;refine GP 1 7 (λad A=>?_) (λad A=>?_)
  case' refine_1 =>
   go_simp;refine A.out _ _ t (λ_=>?_);clear A;refine CC 7 (λad A=>?_)
  case' refine_2 =>
   go_simp;refine A.out _ _ ⟨_,br⟩ (λ_=>?_);clear A;refine CC 1 (λad A=>?_)
  all_goals
   go_simp;refine A.out _ _ ⟨_,br⟩ (λ_=>?_);clear A;refine CC 8 (λad A=>?_);rw[Cn B6];have b3:D (w8.ownsRow (Q+1) 9 1 (T qa qn qc) (rw i).1.1.length ((rw i).1.1.map CQ)):=Nl (cq trivial).1 (λj e h1 L=>(b7 j E).trans (b0 j L (λe2=>(cq trivial).2 j e e2.symm)));obtain⟨si,e9,e7,bl,e8⟩:=DD Tryz.infoStr;refine QH Z underlying98 e9 e7 bl e8 Z B8 Z (b3.alloc _) 1 1 Z Z (EI) (λag hu=>by simp at hu;subst hu;rfl) B8 (B4 (AE cu)) (AY (AE cu)) B7 ?_;intro v9 w9 o9 g9 h9;obtain⟨a9,c9,rfl⟩:=Uh o9;have b9:Below (Q+1) (Az w8 (M #[Ae ⟨Aw key⟩] 9)) w9:=GC (Cq _ _) (b3.alloc _) g9 B7;have bp:=G (br.low x b hQ b9);have ew:=Dq w9 Q 3 _ _ bp.out.out;have l3:=Cb bp.out.out 3;refine A.out _ _ ⟨_,bp⟩ (λde=>?_);clear A;have c2:=G (bp.set x b hQ 3 (T a9 ((rw i).1.1.length+1) c9));refine Ca 9 155 (Ad (H ⟨Q,3,Ao⟩)) de ?_;refine CC 10 (λad A=>?_);go_simp;refine A.out _ _ ⟨_,c2⟩ (λ_=>?_);clear A;refine CG ?_;go_simp;have HX:D (KM AP k (AB w9 ⟨Q,3,Ao⟩ (T a9 ((rw i).1.1.length+1) c9)) (Q+1) (T a9 ((rw i).1.1.length+1) c9) (T a6 ((rw i).1.2.length+1) c6) ((rw i).1.1++[key]) ((rw i).1.2++[d'])):=by
    have hz:∀j,j≠Q->(AB w9 ⟨Q,3,Ao⟩ (T a9 ((rw i).1.1.length+1) c9)).heap[j]?=w9.heap[j]?:=λj w=>CY w9 _ _ _ kee;obtain⟨_,ck,dr,_⟩:=KM.open HK;have ap:∀g,Ax (AX qa qn qc)=H g->g<K (U wr):=λg e=>Ek (dr Z).1 e;have fb:∀g,Ax (AX ua un uc)=H g->g<K (U wr):=λg e=>Ek ck e;have fa:∀g,Ax (AX a6 ((rw i).1.2.length+1) c6)=H g->g<K (U r):=λg e=>Ek b5 e;have fx:K (U w8)+1<=K (U w9):=by simpa using b9.size
    have dn:∀j,j<K (U w8)->H j≠Ax (AX qa qn qc)->w9.heap[j]?=w8.heap[j]?:=λj w hn=>(g9.block j B7 hn).trans (Cx _ _ _ w);have h8:=AE eo;have dh:=(dr Z).2;refine cn _ _ _ key d' (Ce bc n3 s3 (T ay az a7) (T a8 ba bb)) (K (U w2)) ⟨by simp[World.setCell];omega,λj h1 L l h4=>?_,?_,bn,(co d' rfl).same (λj w=>⟨w.1,B0 w.2⟩) (λj w=>Cx _ _ _ w.2),rfl,⟨E,λg e=>AY (fb g e)⟩,λ_=>⟨?_,?_,λg e e2=>?_,λg e=>AY (ap g e)⟩,nofun⟩
    .have fn:j<K (U a)+1:=keA;exact(hz j E).trans ((dn j E (h4 Z)).trans ((b7 j E).trans (b0 j L l)))
    .refine Nl b5 (λj e h1 L=>(hz j E).trans ((dn j E (λe2=>?_)).trans (b7 j E)));rcases AE bn with e3|⟨g,e3,hg⟩
     .exact dh j e2.symm (e3.symm.trans e)
     have:=ap j e2.symm;rw[e]at e3;cases e3;simp at hg;omega
    .exact SR o9 (λj h1 _=>hz j E)
    .exact h9.imp id λe=>⟨_,e,B7⟩
    have h6:=fa g e2;rcases h9 with e3|e3
    .have h7:=ap g (e3.symm.trans e);rcases AE bn with e4|⟨g',e4,hg⟩
     .exact dh g (e3.symm.trans e) (e4.symm.trans e2)
     rw[e2]at e4;cases e4;simp at hg;omega
    rw[e]at e3;cases e3;simp at h6;omega
   clear o9 g9 h9 b9 de t ew l3 b3;go_wp2;go_roundg g
   case measure=>omega
   case rel=>exact⟨i+1,_,c9,_,c6,a9,a6,Bb,B9,c2.up (by rw[AE ai];rfl) (AY (AE bf)),by rw[AE ai];exact HX,nofun⟩
theorem jJ{c:Rx}(ok:MG c):∀k,Y1 c k
 |0=>λ_ _ _ _ _ _ _ _ _ _ _ _ _ _ h=>h.elim
 |k+1=>qpJ ok k (jJ ok k)
theorem qsP(fm:J)(W:X):Ar As 55 #[C Y fm] W λe b=>e=Ak (C Am (GL fm))/\b=W:=by
 by_cases h:fm=1
 .have c:(fm==1)=AP:=Bw;have a:GL fm=32:=kfi;rw[a];go_enter func55,ntmps55;go_wp2;go_ret;exact⟨Z,Z⟩
 have c:(fm==1)=AQ:=Bw;have a:GL fm=0:=kfi;rw[a];go_enter func55,ntmps55;go_wp2;go_ret;exact⟨Z,Z⟩
structure Kw(V:World)(base g cap:Nat)(cur:A1):Prop where
 lo:base<=g
 row:∃cs fr,V.heap[g]?=some (.cells cs 5 fr)/\cs.size=cap/\(∀j,j<cap->¬(fr.1<=j/\j<fr.2))/\cs.toList.take cur.length=cur.map CJ
 le:cur.length<=cap
theorem Kw.cells(h:Kw V base g cap cur):∀j u,(cur.map CJ)[j]?=H u->A6 V g (0+j) u:=by obtain⟨cs,fr,a,b,c,d⟩:=h.row;grind [Cb]
theorem apR(b:UInt8)(i:Kw w base g cap cur)(hl:O cur<=999999999)(hb:base<=K (U w))(h:∀m l k,Kw k base m l (cur++[b])->Below base w k->wpList As ops Q rest (a.put o.dst (T (Aa m) (O cur+1) l)) k)(S:o.guard=Ao:=by rfl)(u:o.op=.call {callee:=.builtin .append,args:=#[x,y],argTypes:=#[50,50]}:=by rfl)(hs:a.eval x=T (Aa g) (O cur) cap:=by rfl)(hx:a.eval y=T (Aa (K (U w))) 1 1:=by rfl):wpList As ops Q (o::rest) a (Az w (M #[C Am b.toNat] 5)):=by
 obtain⟨i0,V,aa,ab,ac⟩:=DD Tryz.infoU8;have r:Kw (Az w (M #[C Am b.toNat] 5)) base g cap cur:=by obtain⟨cs,fr,c,d⟩:=i.row;exact⟨i.lo,⟨cs,fr,(Cx _ _ _ (Cc c)).trans c,d⟩,i.le⟩
 have s:Below base w (Az w (M #[C Am b.toNat] 5)):=(Cq base w).alloc hb _;obtain⟨cs,fr,c,d,L,N⟩:=r.row;refine wpList_append_arg _ S x y 50 u 5 i0 (C Am 0) 1 1 underlying50 V aa ab ac Z B8 g 0 (O cur) cap (cur.map CJ) hs Ba r.cells ⟨K (U w),0,Ao⟩ 1 1 [C Am b.toNat] hx Z (EI) (λaf t=>by simp at t;subst t;rfl) (λp j n=>?_) Bc E (λp=>?_) (λp v' k q e=>?_)
 .simp at n;subst n;constructor
  .rw[Cb c];simp[d];omega
  grind [World.frozen?]
 .have R:(Az w (M #[C Am b.toNat] 5)).setCells g (0+O cur*1) [C Am b.toNat]=(Az w (M #[C Am b.toNat] 5)).setCell ⟨g,O cur,Ao⟩ (C Am b.toNat):=by simp[World.setCells]
  rw[R];refine h g cap _ ⟨i.lo,⟨Ay cs (O cur) (C Am b.toNat),fr,Go.Lib.heap_setCell_same c _,BX,L,?_⟩,by simpa using p⟩ (s.trans ⟨Z,Z,Z,Bd,λj n=>CY _ _ _ _ (B0 i.lo)⟩);rw[Dc,JP,<-N,Q8];have W:O cur<O cs.toList:=by simp[d];omega
  rw[show O cur+[b].length=O cur+1 from rfl,Q5,List.take_set_of_le (Co _),List.getElem?_set_self W];rfl
 obtain⟨m,l,rfl⟩:=ownsRow_succ q;obtain⟨h7,f⟩:=q;rcases f with⟨f,_⟩|⟨g2,ad,v,f,P,z,A,ae,B,F⟩
 .cases f
 cases f;refine h m l k ⟨Cy hb (Cy Ba P),⟨v,_,z,by simpa using B,Ba,by simpa[CJ]using F⟩,C4⟩ (s.trans ⟨e.os,e.tape,e.output,e.size,λj n=>e.block j B7 Ba⟩)
theorem q3O(W:X):∃a V,(convert 9 50 (Ae ⟨Aw l⟩)).run As W=.ok (T (Aa (K (U W))) (O l) a) V/\A0 W V/\Kw V (K (U W)) (K (U W)) a l:=by
 have h:=run_bytes_of_string (P:=As) W 9 50 5 ⟨Aw l⟩ underlying9 underlying50 underlying5;have b:(⟨Aw l⟩:AT).size=O l:=KC ..;have d:=grownCap_ge W (⟨Aw l⟩:AT).size 0 5;have c:(bytesRow ⟨Aw l⟩ (grownCap W (⟨Aw l⟩:AT).size 0 5)).size=grownCap W (⟨Aw l⟩:AT).size 0 5:=by grind [bytesRow]
 refine⟨_,_,by rw[<-b];exact h,((Cq _ _).drew).alloc (Co _) _,⟨Co _,⟨_,_,Cj (W.drew),c,λj e=>by rw[c];simp;omega,?_⟩,by rw[<-b];exact d⟩⟩;simp[bytesRow,CJ]
theorem Kw.str(h:Kw V base g cap cur):(convert 50 9 (T (Aa g) (O cur) cap)).run As V=.ok (Ae ⟨Aw cur⟩) V:=by refine Q9 _ 50 9 5 ⟨g,0,Ao⟩ cap cur underlying50 underlying5 underlying9 ?_;intro j a;have:=h.cells j (CJ cur[j]) keP;rw[KP];exact this
theorem Kw.next(h:Kw V base g cap cur)(c:A0 V V'):Kw V' base g cap cur:=by obtain⟨cs,fr,a,b⟩:=h.row;exact⟨h.lo,⟨cs,fr,(c.block _ (Cc a)).trans a,b⟩,h.le⟩
theorem qxk{arr:A3}{ba:A4}{bc:I}{B:AJ J}{bs:A1}(h7:arr[7]?=H (C Y fm))(N:arr[10]?=H (T ba (O B) bc))(hB:FH W ba B)(aw:O B<=8)(ak:∀aa (h:aa<O B),B[aa]<=65536)(hl:O bs<=999999999):Ar As 78 #[.agg arr,Ae ⟨Aw bs⟩] W λe W'=>e=Ak (Af #[Ae ⟨Aw ((IG fm bs B).getD [])⟩,Ah (IG fm bs B).isSome])/\A0 W W':=by
 have f:D (ON W arr (Az W (M arr 40))):=⟨Cl,Cj _⟩
 have ab:=G h7;have y:=G N;have HI:=G hB;have HX:=G ak;have s:=(Cb f.box 10).trans N;obtain⟨r,m⟩:=CA (IG fm bs B);rw[AE m];by_cases h0:O B=0
 .have d:D (r=H bs):=by grind [D,IG]
  rw[h0]at s;go_enter func78,ntmps78;go_wp2;refine CL (Fw results78 _ _ _) Z ?_;rw[AE d];exact⟨Z,f.below⟩
 have d:D (Kv fm bs B=r):=by grind [D,IG]
 have av:((O B:J)==0)=AQ:=B9;go_enter func78,ntmps78;go_wp2;generalize Az W (M arr 40)=V0 at *
 go_loopg[6] (O B) (λg z wr=>∃k:I,z=C Y k/\D (k+g=O B)/\wr=V0/\D (Kv fm bs (B.drop k)=r))
 case atStart=>grind [D]
 case round =>
  obtain⟨k,rfl,v,rfl,m⟩:=hrel;have s:=(Cb f.box 10).trans y;obtain _|g:=gk
  .have ap:¬(k:J)<O B:=AY (AE v);have d:D (r=Ao):=by have h:=AE m;rw[RU (AY (AE v))]at h;exact h.symm
   go_wp2;refine CL (Fw results78 _ _ _) Z ?_;rw[AE d];exact⟨Z,f.below⟩
  have w:k<O B:=AY (AE v);have ap:(k:J)<O B:=E;have hx:=HX.out k w;obtain⟨b,off,rfl,aj,al⟩:=HI.at_ k w;have A:D (∀V,A0 W V->A6 V b (off+k) (C Y B[k])):=λV hV=>(hV.cell (p:=⟨b,off+k,Ao⟩) aj).trans (al k w);have e0:=A.out _ f.below;have af:D ((if(O bs:J)<=B[k]then H (bs++AV (B[k].toNat-O bs) (_root_.UInt8.ofNat (GL fm)))else Kv fm bs (B.drop (k+1)))=r):=by grind [List.drop_eq_getElem_cons,Kv]
  generalize B[k]=x at *;by_cases ax:(O bs:J)<=x
  .have d:D (r=H (bs++AV (x.toNat-O bs) (_root_.UInt8.ofNat (GL fm)))):=B9;obtain⟨ah,V1,ao,Q,R⟩:=q3O wr (l:=bs);have j:=G R;have a:=G (f.next Q);clear Q R;obtain⟨o,ad⟩:=CA (_root_.UInt8.ofNat (GL fm));have ae:D ((GL fm:J)=(o.toNat:J)):=by grind [D,jK]
   have L:=λV=>qsP fm V;rw[AE ae]at L;rw[AE ad]at d;have au:K (U W)<K (U wr):=Cc f.box;have ar:K (U wr)<=K (U V1):=by obtain⟨_,_,h,_⟩:=j.row;grind
   go_wp2
   go_loopg[7] (x.toNat-O bs) (λg z V=>∃(n u t:I) (c:A1),z=T (Aa u) (O c) t/\D (n+g=x.toNat-O bs)/\D (c=bs++AV n o)/\D (Kw V (K (U wr)) u t c)/\D (ON W arr V/\K (U wr)<=K (U V)))
   case atStart=>exact⟨0,_,ah,bs,rfl,Bg,BL,j,a,ar⟩
   case round =>
    clear j a ao;obtain⟨n,u,t,c,rfl,S,an,j,a⟩:=hrel;have i:O c=O bs+n:=by rw[AE an];simp
    have s:=(Cb a.1.box 10).trans y;have c7:=(Cb a.1.box 7).trans ab;have e1:=A.out _ a.1.below;obtain _|g2:=gk
    .have aq:¬(O c:J)<x:=AY (AE S);have ay:=j.str;have ac:D (r=H c):=by grind [D]
     clear i;go_wp2;refine CL (Fw results78 _ _ _) Z ?_;rw[AE ac];exact⟨Z,a.1.below⟩
    have aq:(O c:J)<x:=AY (AE S);have am:O c<=999999999:=E;clear i
    go_wp2_with(first
     |(go_at_call 55;refine(L _).mono ?_;rintro e w2 ⟨rfl,rfl⟩)
     |(at_builtin;refine apR o j am a.2 ?_;intro g3 ai w3 P F;have ag:=G P;have q:=G F;clear P F))
    go_roundg g2
    case measure=>omega
    case rel =>
     refine⟨n+1,g3,ai,c++[o],B9,B9,?_,ag,⟨a.1.below.trans (q.mono E),(q.block _ au).trans a.1.box⟩,Cy a.2 q.size⟩;grind [D,List.replicate_succ']
  have d:D (Kv fm bs (B.drop (k+1))=r):=B9;clear m af;go_wp2;go_roundg g
  case measure=>omega
  case rel=>exact⟨k+1,Bb,B9,rfl,d⟩
theorem jQ{P:Program}{fn:Func}{p u:Tmp}{ty:AN}(h:fn.results=#[.tmp u,.cell p ty]){tmps:A3}{w:X}{g:I}{t:AN}{cs:A3}{fr:I×I}{d:TypeDesc}(f:tmps.getD p AO=A8 g)(c:w.heap[g]?=H (M cs t fr))(i:P.underlying ty=H d)(b:(match d with|.struct _|.array _ _=>AP|_=>AQ)=AP)(hi:(P.info? ty).map (·.size)=H cs.size){v:Aq}(j:tmps.getD u AO=v):(results fn tmps).run P w=.ok (Af #[v,.agg cs]) w:=by have e:(results fn tmps).run P w=((asAddr (tmps.getD p AO)).run P w).andThen λa k=>((loadVar ty a).run P k).andThen λv l=>.ok (Af #[tmps.getD u AO,v]) l:=Bk;subst j;rw[e,f];simp only[asAddr,Ga,FT,Jd w g t ty cs fr d c i b hi]
def Ib(c:Rc):A3:=c.O++#[Ab Al c.v.clr,Ab Al c.v.key,A8 c.A]
def CB(R:Cu):A3:=#[Ab Al R.1,Ab Al R.2.1,Ab Al R.2.2.1,Ab Al R.2.2.2]
def JJ:A3:=Di 0 (λ_ _=>AQ)++#[Ab Al 0,Ab Al 0,Ad Ao,Ab Al 0,Ab Al 0,Ab Al 0,Ab Al 0]
theorem qmU{ρ:Operand->Aq}(a:o.op=.alloc 264):(execOp ρ o).run As w=.ok (.value (A8 (K (U w)))) (Az w (M JJ 264)):=BG
theorem qio(e:o.guard=Ao)(f:o.op=.alloc 264){d:Option Tmp}(c:o.dst=d)(N:I)(b:K (U w)=N)(h:wpList As ops Q rest (a.put d (A8 N)) (Az w (M JJ 264))):wpList As ops Q (o::rest) a w:=by subst b;exact Qd e d c _ _ (qmU f) h
theorem qvu(n:I)(m:I->I->AK)(x y:J)(p:A4):prog.built 264 [(0,.agg (Di n m++#[C Y x,C Y y,.pointer p]))]=H (Di n m++#[C Y x,C Y y,.pointer p,C Y 0,C Y 0,C Y 0,C Y 0]):=B6
theorem q1x(h:A.size=40):(prog.info? 132).map (·.size)=H A.size:=C8
theorem q0I(h:A.size=44):(prog.info? 264).map (·.size)=H A.size:=C8
theorem F2:(prog.info? 82).map (·.size)=H (CB R).size:=B6
theorem qxK(h:Cv k V F v d):Cv k {V with drawn:=V.drawn+1} F v d:=by have a:∀j,F j->({V with drawn:=V.drawn+1}:X).heap[j]?=V.heap[j]?:=λ_ _=>rfl;grind [Cv.same]
def q5y(c:Rc)(k:AH)(F:AH->Prop)(r:Option (AM Unit)×Cu)(W:Ap)(e:Ending)(V':Ap):Prop :=
 ∃t y,e=Ak (Af #[Ai t y,.agg (CB r.2)])/\Dp W V'/\Below (Au (Av c.W0)) c.W0 V'/\(∀j,j<Au (Av W)->j≠c.A->j≠c.q.nb->j≠c.q.mb->An j≠c.own0->V'.heap[j]?=W.heap[j]?)/\Cv k V' (λj=>F j\/(Au (Av W)<=j/\j<Au (Av V'))) (Ai t y) (r.1.getD .nil)
theorem qup{c:Rc}(ok:IE c)(hO:c.O=Di c.n c.v.m)(hG:c.G=W)(hB:c.B=K (U W)+2){D:A2->Prop}(bf:Ua D c k []){x:Aq}(be:D d){sts:AJ ((I->I)×J×J)}{sa:A4}{sc:I}{nf:Lit->Option I}{mn:I}{mf:Lit->Option I}(hA:DB c.W0 c.A c.q sts (T sa (O sts) sc) nf mn mf W)(hM:OG c.q sts mf)(a0:mn<=N)(a7:O sts<=N+1)(ho:Ax (AX sa (O sts) sc)=c.own0)(hs:IF c sts 0 [])(hF:∀j,F j->j<K (U W))(hd:Cv k W F x d)(hc:O (Do k d)<=999999999)(hN:N+CS k d<=90000):Ar As 107 #[.agg (Ib c),x] W (q5y c k F (CW c.v k [] d (0,0,0,0)) W):=by
 have a6:Ex c (0,0,0,0)=Di c.n c.v.m++#[C Y c.v.clr,C Y c.v.key,A8 c.A,C Y 0,C Y 0,C Y 0,C Y 0]:=by grind [Ex]
 have ak:AL (prog.built 264 [(0,.agg (Ib c))]=H (Ex c (0,0,0,0))):=by grind [AL,Ib,qvu]
 have ao:AL ((Ib c).size=40):=by grind [AL,Ib,D8]
 have ap:AL ((Ex c (0,0,0,0)).size=44):=je ok;have aq:AL (JJ.size=(Ex c (0,0,0,0)).size):=by grind [je,JJ,D8]
 have ar:AL ((Ex c (0,0,0,0)).all (·.oneCell')=AP):=by show _=_;rw[a6,RV,GQ];simp[Value.oneCell']
 have ac:AL (∀V,A0 W V->A7 V (K (U W)+2) (Ex c (0,0,0,0)) 264->Ar As 146 #[A8 (K (U W)+2),x,C Y 0] V (U9 c k F (CW c.v k [] d (0,0,0,0)) (N+CS k d) sts V)):=λV L h2=>by have:=bf V F x d 0 (0,0,0,0) N sts be ⟨by rw[hB];exact h2,⟨sa,sc,nf,mn,mf,hA.next L,hM,a0,a7,AF ho⟩,⟨by rw[hG];exact L.size,λj a _ _ _ _=>by rw[hG];exact L.block j (hG▸a)⟩,En _⟩ hs (λj p=>CK (hF j p) L.size) (hd.same (λ_ h=>h) (λj p=>L.block j (hF j p))) hc hN;grind
 have az:∀V aj,Cv k V aj (Ai 268 (Ag #[])) .nil:=λV aj=>by
  obtain _|k:=k
  .exact hd.elim
  rfl
 obtain⟨t,bj,rfl⟩:=hd.iface;have HF:=G hF;have bg:K (U c.W0)<=K (U W)+1:=Us hA.below.size;clear hA hM a0 a7 ho hs hF hd hc hN a6;obtain⟨⟨o,R⟩,hr⟩:∃bi,CW c.v k [] d (0,0,0,0)=bi:=⟨_,rfl⟩
 rw[hr]at ac ⊢;clear hr;have ax:AL ((Az (Az W (M (Ib c) 132)) (M #[C Y 0,C Y 0,C Y 0,C Y 0] 82)).heap[K (U W)]?=H (M (Ib c) 132)):=(Cx _ _ _ Ba).trans (Cj W);have ad:AL ((Az (Az (Az W (M (Ib c) 132)) (M #[C Y 0,C Y 0,C Y 0,C Y 0] 82)) (M JJ 264)).heap[K (U W)+2]?=H (M JJ 264)):=by grind [AL,Cj,World.size_alloc]
 have al:AL (A0 W (Az (Az (Az W (M (Ib c) 132)) (M #[C Y 0,C Y 0,C Y 0,C Y 0] 82)) (M JJ 264))):=((Cl).alloc Ba _).alloc B7 _;have ay:AL ((Az (Az (Az W (M (Ib c) 132)) (M #[C Y 0,C Y 0,C Y 0,C Y 0] 82)) (M JJ 264)).heap[K (U W)+1]?=H (M (CB (0,0,0,0)) 82)):=by have h:=Cj (Az W (M (Ib c) 132)) (o:=(M #[C Y 0,C Y 0,C Y 0,C Y 0] 82));show _=_;rw[CI]at h;exact(Cx _ _ _ Ba).trans h
 go_enter func107,ntmps107
 go_wp2_with(first
  |(refine qio Z Z Z (K (U W)+2) ?hN ?_;case hN=>grind [World.size_alloc])
  |(refine CT Z 132 _ Z (K (U W)) Z _ _ _ _ ax underlying132 Z (q1x ao) ?_)
  |(refine Db Z 264 _ _ Z (K (U W)+2) (Ex c (0,0,0,0)) Z Z 264 JJ ad (q0I ap) aq ar ?_)
  |(refine IZ Z Z Z ?hl ak ?_;case hl=>simp[go_sem]))
 have av:AL (A0 W ((Az (Az (Az W (M (Ib c) 132)) (M #[C Y 0,C Y 0,C Y 0,C Y 0] 82)) (M JJ 264)).setRow (K (U W)+2) (Ex c (0,0,0,0)))):=Dj al E;have ba:AL (((Az (Az (Az W (M (Ib c) 132)) (M #[C Y 0,C Y 0,C Y 0,C Y 0] 82)) (M JJ 264)).setRow (K (U W)+2) (Ex c (0,0,0,0))).heap[K (U W)+2]?=H (M (Ex c (0,0,0,0)) 264)):=CM _ _ _ _ _ _ ad;have bb:AL (((Az (Az (Az W (M (Ib c) 132)) (M #[C Y 0,C Y 0,C Y 0,C Y 0] 82)) (M JJ 264)).setRow (K (U W)+2) (Ex c (0,0,0,0))).heap[K (U W)+1]?=H (M (CB (0,0,0,0)) 82)):=sx E ay;have bc:AL (K (U W)+3<=K (U ((Az (Az (Az W (M (Ib c) 132)) (M #[C Y 0,C Y 0,C Y 0,C Y 0] 82)) (M JJ 264)).setRow (K (U W)+2) (Ex c (0,0,0,0))))):=kfo;generalize(Az (Az (Az W (M (Ib c) 132)) (M #[C Y 0,C Y 0,C Y 0,C Y 0] 82)) (M JJ 264)).setRow (K (U W)+2) (Ex c (0,0,0,0))=V at *;clear ax ad ay al ak ao ap aq ar;have cR:=ac.out V av ba;clear ac;have aw:=G bg;have an:=G ok;have HG:=G hG;have HB:=G hB;clear ok hG hB hO;obtain⟨N4,a8⟩:=CA (N+CS k d);rw[AE a8]at cR;have a9:=G az;have aa:Ar As 146 #[A8 (K (U W)+2),Ai t bj,C Y 0] V λab g=>∃v',ab=Ak (Af #[v',Ah o.isSome])/\AL (A7 g (K (U W)+2) (Ex c R) 264)/\AL (A7 g (K (U W)+1) (CB (0,0,0,0)) 82)/\AL (Dp W g)/\AL (Below (K (U c.W0)) c.W0 g)/\AL (∀j,j<K (U W)->j≠c.A->j≠c.q.nb->j≠c.q.mb->H j≠c.own0->g.heap[j]?=W.heap[j]?)/\(o=Ao->v'=.nilIface)/\∀P,o=H P->Cv k g (λj=>F j\/(K (U W)+3<=j/\j<K (U g))) v' P:=cR.mono (by
  rintro ab g ⟨v',bk,rfl,L,h2,h3,h4,h5⟩;refine⟨v',Z,?_,h2.row _ _ _ _ bb B8 B8 B8,(Dp.of_below av).trans h2,L.below,λj b u e a4 a5=>?_,h4,λP bh=>(h5 P bh).same (λj p=>p.imp id (λh=>⟨Cy bc h.1,h.2⟩)) (λ_ _=>rfl)⟩
  .have:=L.box;grind [AL]
  have:=L.fr.2 j (by rw[AE HG];exact b) u e a4 a5;grind [AL])
 clear cR az;have am:AL (∀(g:X),A7 g (K (U W)+2) (Ex c R) 264->∀(j:I) (ai:Aq),(CB R)[j]?=H ai->A6 g (K (U W)+2) (40+j) ai):=λg h j ai s=>by
  refine(Cb h (40+j)).trans ?_;unfold Ex;rw[MM (by rw[an.ord.size];omega),an.ord.size,show 40+j-37=j+3 by omega];have p:j<4:=Cc s
  match j,p,s with
  |0,_,s=>exact s
  |1,_,s=>exact s
  |2,_,s=>exact s
  |3,_,s=>exact s
 have au:AL (∀R:Cu,(CB R).all (·.oneCell')=AP):=λR=>Bq;obtain _|P:=o
 .go_wp2_with(first
   |(go_at_call 146;refine aa.mono ?_;clear aa;rintro ab f ⟨v4,rfl,y,w,z,Q,r,h6,_⟩;obtain rfl:=h6 rfl;clear h6;simp only[Uz]))
  refine Dl (S:=λi=>A7 i (K (U W)+2) (Ex c R) 264) (y) B6 ?_;intro l;have w:AL (({f with drawn:=f.drawn+1}:X).heap[K (U W)+1]?=H (M (CB (0,0,0,0)) 82)):=w;have z:AL (Dp W {f with drawn:=f.drawn+1}):=⟨z.size,z.row⟩
  have Q:AL (Below (K (U c.W0)) c.W0 {f with drawn:=f.drawn+1}):=Q.drew;have r:AL (∀j,j<K (U W)->j≠c.A->j≠c.q.nb->j≠c.q.mb->H j≠c.own0->({f with drawn:=f.drawn+1}:X).heap[j]?=W.heap[j]?):=r;clear y;generalize({f with drawn:=f.drawn+1}:X)=w5 at *;refine Ca 0 20 (Ai 268 (Ag #[])) l ?_;refine Ca 1 21 (A9 (K (U W)+2) 40) l ?_;refine Cf 2 22 (.agg (CB R)) Z (λi hZ=>?y2) l ?_
  case y2=>exact Nz (.tmp 21) rfl rfl (am i hZ) underlying82 rfl (F2)
  refine Ca 3 4 (Ai 268 (Ag #[])) l ?_;have ag:(λi:X=>A7 i (K (U W)+2) (Ex c R) 264) (World.setRow w5 (K (U W)+1) (CB R)):=sx E l;refine CC 4 (λbd hK=>?_);refine Kp B6 ?_;refine IW 82 (.tmp 5) (.tmp 22) Z (K (U W)+1) (CB R) Z Z 82 (CB (0,0,0,0)) w (F2) Z (au R) ?_;refine hK.out _ _ ag (λ_=>?_);clear hK;refine CG ?_;go_simp
  go_wp2_with fail
  refine CL (jQ results107 Z (CM _ _ _ _ _ _ w) underlying82 Z (F2) Z) Z ?_;have af:Dp W (World.setRow w5 (K (U W)+1) (CB R)):=⟨B9,λj cs t fr a ae c d=>(Dg _ _ _ _ (AY (Cc a))).trans (z.row j cs t fr a ae c d)⟩
  have ah:=AE aw;refine⟨_,_,Z,af,Dj Q ah,λj b u e a4 a5=>sx E (r j b u e a4 a5),?_⟩;exact a9 _ _
 go_wp2_with(first
  |(go_at_call 146;refine aa.mono ?_;clear aa;rintro ab f ⟨v4,rfl,y,w,z,Q,r,_,h7⟩;obtain⟨t4,y4,rfl⟩:=(h7 P rfl).iface;have H7:=G (h7 P Z);clear h7;simp only[YR]))
 refine Dl (S:=λi=>A7 i (K (U W)+2) (Ex c R) 264) (y) B6 ?_;intro l;have w:AL (({f with drawn:=f.drawn+1}:X).heap[K (U W)+1]?=H (M (CB (0,0,0,0)) 82)):=w;have z:AL (Dp W {f with drawn:=f.drawn+1}):=⟨z.size,z.row⟩
 have Q:AL (Below (K (U c.W0)) c.W0 {f with drawn:=f.drawn+1}):=Q.drew;have r:AL (∀j,j<K (U W)->j≠c.A->j≠c.q.nb->j≠c.q.mb->H j≠c.own0->({f with drawn:=f.drawn+1}:X).heap[j]?=W.heap[j]?):=r;have H7:AL (Cv k {f with drawn:=f.drawn+1} (λj=>F j\/(K (U W)+3<=j/\j<K (U ({f with drawn:=f.drawn+1}:X)))) (Ai t4 y4) P):=qxK H7;clear y;generalize({f with drawn:=f.drawn+1}:X)=w5 at *;refine Ca 0 20 (Ai t4 y4) l ?_;refine Ca 1 21 (A9 (K (U W)+2) 40) l ?_;refine Cf 2 22 (.agg (CB R)) Z (λi hZ=>?y2) l ?_
 case y2=>exact Nz (.tmp 21) rfl rfl (am i hZ) underlying82 rfl (F2)
 refine Ca 3 4 (Ai t4 y4) l ?_;have ag:(λi:X=>A7 i (K (U W)+2) (Ex c R) 264) (World.setRow w5 (K (U W)+1) (CB R)):=sx E l;refine CC 4 (λbd hK=>?_);refine Kp B6 ?_;refine IW 82 (.tmp 5) (.tmp 22) Z (K (U W)+1) (CB R) Z Z 82 (CB (0,0,0,0)) w (F2) Z (au R) ?_;refine hK.out _ _ ag (λ_=>?_);clear hK;refine CG ?_;go_simp
 go_wp2_with fail
 refine CL (jQ results107 Z (CM _ _ _ _ _ _ w) underlying82 Z (F2) Z) Z ?_;have af:Dp W (World.setRow w5 (K (U W)+1) (CB R)):=⟨B9,λj cs t fr a ae c d=>(Dg _ _ _ _ (AY (Cc a))).trans (z.row j cs t fr a ae c d)⟩
 have ah:=AE aw;refine⟨_,_,Z,af,Dj Q ah,λj b u e a4 a5=>sx E (r j b u e a4 a5),?_⟩;exact H7.same (λj p=>p.imp id (λh=>⟨E,by simpa using h.2⟩)) (λj p=>Dg _ _ _ _ (by grind [AL]))
def Lc(fm:Int)(k:AH)(d:A2)(B:AJ Int):AS Int A1 :=
 if fm=1/\Fd k d=AP then .error 13 else match IG fm (Ft fm k d) B with
  |none=>.error 14
  |some l=>.ok l
theorem jX{B:AJ J}(h:fm=1/\Fd k d=AP):Lc fm k d B=.error 13:=Cn h
theorem jY{B:AJ J}(h:¬(fm=1/\Fd k d=AP))(a:IG fm (Ft fm k d) B=Ao):Lc fm k d B=.error 14:=by grind [Lc]
theorem jZ{B:AJ J}(h:¬(fm=1/\Fd k d=AP))(a:IG fm (Ft fm k d) B=H l):Lc fm k d B=.ok l:=by grind [Lc]
structure E6(X:Nat->Prop)(W V:World):Prop where
 world:V.os=W.os/\V.tape=W.tape/\V.output=W.output
 rows:Dp W V
 block:∀j,j<W.heap.size->X j->V.heap[j]?=W.heap[j]?
theorem E6.of_below{X:I->Prop}{W V:Ap}(h:A0 W V):E6 X W V:=⟨⟨h.os,h.tape,h.output⟩,Dp.of_below h,λj a _=>h.block j a⟩
theorem E6.trans{X:I->Prop}{W V Z:Ap}(h:E6 X W V)(g:E6 X V Z):E6 X W Z:=⟨⟨g.world.1.trans h.world.1,g.world.2.1.trans h.world.2.1,g.world.2.2.trans h.world.2.2⟩,h.rows.trans g.rows,λj a b=>(g.block j (CK a h.rows.size) b).trans (h.block j a b)⟩
theorem E6.set{X:I->Prop}{W V:Ap}(h:E6 X W V)(e:K (U W)<=g)(cs:A3):E6 X W (AD V g cs):=by refine⟨h.world,⟨B2 h.rows.size,λj cs t fr a b c d=>(Dg _ _ _ _ (AY (Cc a))).trans (h.rows.row j cs t fr a b c d)⟩,λj a b=>sx E (h.block j a b)⟩
theorem E6.alloc{X:I->Prop}{W V:Ap}(h:E6 X W V)(o:Obj):E6 X W (Az V o):=h.trans (E6.of_below Cl)
theorem E6.drew{X:I->Prop}{W V:Ap}(h:E6 X W V):E6 X W {V with drawn:=V.drawn+1}:=⟨h.world,⟨h.rows.size,h.rows.row⟩,h.block⟩
theorem Yb{P:Program}{fn:Func}{p u u2:Tmp}{ty:AN}(h:fn.results=#[.tmp u,.cell p ty,.tmp u2]){tmps:A3}{w:X}{g:I}{t:AN}{cs:A3}{fr:I×I}{d:TypeDesc}(f:tmps.getD p AO=A8 g)(c:w.heap[g]?=H (M cs t fr))(i:P.underlying ty=H d)(b:(match d with|.struct _|.array _ _=>AP|_=>AQ)=AP)(hi:(P.info? ty).map (·.size)=H cs.size){v v2:Aq}(j:tmps.getD u AO=v)(k:tmps.getD u2 AO=v2):(results fn tmps).run P w=.ok (Af #[v,.agg cs,v2]) w:=by have e:(results fn tmps).run P w=((asAddr (tmps.getD p AO)).run P w).andThen λa l=>((loadVar ty a).run P l).andThen λv m=>.ok (Af #[tmps.getD u AO,v,tmps.getD u2 AO]) m:=Bk;subst j;subst k;rw[e,f];simp only[asAddr,Ga,FT,Jd w g t ty cs fr d c i b hi]
def Yc(R:Cu)(r:AS Int A1):Cu:=match r with
 |.ok _=>R
 |.error _=>(0,0,0,0)
def Yd(r:AS Int A1):Int:=match r with
 |.ok _=>0
 |.error en=>en
def NH(V:Ap)(base:AH)(v:Aq)(r:AS Int A1):Prop:=match r with
 |.ok l=>Ck V base v l
 |.error _=>v=Ac Ao 0 0
def ke(X:AH->Prop)(W:Ap)(R:Cu)(r:AS Int A1)(e:Ending)(V':Ap):Prop :=
 ∃va vn vc,e=Ak (Af #[Ac va vn vc,.agg (CB (Yc R r)),Ab Al (Yd r)])/\E6 X W V'/\NH V' (Au (Av W)) (Ac va vn vc) r
def Ye(X:AH->Prop)(N k:AH)(U:Ap)(R:Cu)(d:A2)(e:Ending)(V':Ap):Prop :=
 ∃t' y',e=Ak (Af #[Ai t' y',.agg (CB R)])/\E6 X U V'/\Cv k V' (λj=>j<N\/(Au (Av U)<=j/\j<Au (Av V'))) (Ai t' y') d
structure RM(X:Nat->Prop)(W:World)(L:Nat)(gr:A3)(N8 k:Nat)(R:Cu)(t:TypeId)(y:Value)(d:A2)(V:World):Prop where
 fr:E6 X W V
 gate:V.heap[L]?=some (.cells gr 135)
 res:V.heap[W.heap.size]?=some (.cells (CB (0,0,0,0)) 82)
 rep:V.heap[N8]?=some (.cells (CB R) 82)
 lt:W.heap.size<N8
 thg:Cv k V (λj=>j<V.heap.size) (.iface t y) d
theorem RM.step{X:I->Prop}{W:Ap}{N8:I}{y:Aq}{V V':Ap}(h:RM X W L gr N8 k R t y d V)(hb:A0 V V'):RM X W L gr N8 k R t y d V' :=
 ⟨h.fr.trans (E6.of_below hb),(hb.block _ (Cc h.gate)).trans h.gate,(hb.block _ (Cc h.res)).trans h.res,(hb.block _ (Cc h.rep)).trans h.rep,h.lt,h.thg.same (λ_ a=>CK a hb.size) (λj a=>hb.block j a)⟩
theorem q7f{X:I->Prop}{W V':Ap}{y:Aq}(a:A7 W L gr 135)(hF:E6 X (Az W (M #[C Y 0,C Y 0,C Y 0,C Y 0] 82)) V')(f:Cv k V' (λj=>j<K (U W)\/(K (U (Az W (M #[C Y 0,C Y 0,C Y 0,C Y 0] 82)))<=j/\j<K (U V'))) (Ai t y) d):RM X W L gr (K (U V')) k R t y d (Az V' (M (CB R) 82)):=by
 have e:K (U W)<K (U V'):=by have h:=hF.rows.size;grind [World.size_alloc]
 have b:=Cc a;refine⟨?_,?_,?_,Cj V',e,?_⟩
 .exact((E6.of_below Cl).trans hF).alloc _
 .exact(Cx _ _ _ E).trans (hF.rows.row L _ _ _ ((Cx W _ _ b).trans a) B8 B8 B8)
 .exact(Cx _ _ _ E).trans (hF.rows.row (K (U W)) _ _ _ (Cj W) B8 B8 B8)
 refine f.same (λj c=>?_) (λj c=>Cx _ _ _ ?_)<;>grind [World.size_alloc]
end
end Go.Proofs.YtihfjkjbfaneeaaGreatDoor
