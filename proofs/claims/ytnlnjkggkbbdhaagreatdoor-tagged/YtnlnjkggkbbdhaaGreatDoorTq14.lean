import Derived.ProofKit
import Derived.OpenShut
import Derived.Deep.Slices
import Derived.SizedLaws
import Derived.Lib.LaidU8T
import Derived.PinnedBridge
import Derived.Carry
import Derived.Deep.DeepHandedRow
import Derived.Lib.LaidTab
import Derived.Laws.Concat
import Derived.Test.YtnlnjkggkbbdhaaGreatDoorTq10
import Derived.Test.YtnlnjkggkbbdhaaGreatDoorTq11
set_option maxRecDepth 100000
set_option maxHeartbeats 8000000
set_option linter.all false
namespace Go.Proofs.YtnlnjkggkbbdhaaGreatDoor
open Go.Proofs.Tryz
open Go.Value renaming int->I,slice->G
open Option renaming some->U,none->Y
open Go.IntKind renaming i64->K
open Go renaming World->O
open Go.Obj renaming cells->E
open Go.Proofs.Tryz renaming prog->X
open Go.Value renaming string->A9,tuple->Aa
open Go.Ending renaming returned->Af
open Go renaming Value->Al,Calls->Am
variable{V V' W W' w:O}{a:Act}{v v':Al}{N base fuel i n u:Nat}{cs:List Al}{z:Int}{sp:Nat->Bool}{held:Bool}{cur l:A1}{p:List MemPlace}{P:Program}{s:ByteArray}{o:Oper}{Q:Exit->Act->O->Prop}{m m':Nat->Nat->Bool}{ops:Array Oper}
section
open Go.RowKit Go.Deep
def JN:prog.cellsOf 3=1:=M
def X2:prog.cellsOf 9=1:=M
def fC:prog.cellsOf 22=1:=M
def fD:prog.cellsOf 23=1:=M
def fE:prog.cellsOf 25=11:=M
def fF:prog.cellsOf 43=2:=M
def fG:prog.bytesOf 43=16:=M
def fH:prog.bytesOf 3=8:=M
def X3{a:Addr}(h:w.cell? (a.add 0)=U v):∃b off,a=⟨b,off,Y⟩/\b<w.heap.size:=by
 obtain⟨b,off,d⟩:=a;have c:d=Y:=by simpa[Addr.add]using World.cell?_spot h
 subst c;rw[MA]at h;exact⟨b,off,Z,G8 h⟩
def Qy{α:Type}{l:List α}(h:l.length=2):∃a b,l=[a,b]:=by
 match l,h with
 |[a,b],_=>exact⟨a,b,rfl⟩
section
variable{H:Type} {enc:TypeId×Al->H} {w:World}
def fI{x:DataW H×List MemPlace}(h:DataW.trod enc X w 0 (λ_=>true) true fuel 23 [v]=U x)(l:(x.1.weights X 23).all (·<=reachBytes)=true):∃(a:A4) (d:Nat) (B:List Int),v=G a B.length d/\IN w a B/\(a=Y->B.length=0/\d=0)/\(B.length+8)*8<=281474976710656:=by
 rcases open_slice1 underlying23 JN h with⟨f,_⟩|⟨a,len,d,m,n,V,D,A,f,_,N,P,u,rfl,g⟩
 ·cases f;exact⟨Y,0,[],Z,⟨λi c=>by simp at c⟩,λ_=>⟨Z,Z⟩,Ay⟩
 cases f;have t:m=d:=by rw[u];rfl
 subst t;have C:m*8<=reachBytes:=by
  rw[E8]at l;have:=l (((List.range len).map D).length+((List.range (m-len)).map λj=>D (len+j)).length |>.mul (prog.bytesOf 3)) (by
   simp only[DataW.weights,underlying23];exact Hl ..)
  rw[fH]at this;simp at this;have e:len+(m-len)=m:=J
  have p:(len+(m-len))*8<=reachBytes:=by simpa using this
  rwa[e]at p
 have k:∀i,i<m->∃z:Int,V i=I K z:=λi c=>by
  obtain⟨z,k,_⟩:=I7 underlying3 (g i c).2;exact⟨z,kfv⟩
 obtain⟨o,q⟩:=choose_lt k;refine⟨U a,m,(List.range len).map o,Az,⟨λi c=>?_⟩,λy=>(by cases y),?_⟩
 ·have F:i<len:=Be
  obtain⟨b,off,rfl,s⟩:=X3 (g 0 J).1;refine⟨b,off,Z,s,λj r=>?_⟩;have L:j<len:=B4
  have:=(g j J).1;rw[MA]at this;rw[this,q j J];simp
 have:reachBytes=140737488351232:=rfl;simp;omega
def IP{xs:List (DataW H×List MemPlace)}{fs:Array Field}(c:∀(i:Nat) (f:Field),fs[i]?=U f->DataW.trod enc X w 0 (λ_=>true) true n f.type ((cs.drop f.offset).take (prog.cellsOf f.type))=xs[i]?)(i:Nat){f:Field}(h:fs[i]?=U f)(t:TypeId)(o:Nat)(k:f.type=t)(j:f.offset=o)(b:prog.cellsOf t=1)(a:cs[o]?=U v){y:DataW H×List MemPlace}(l:xs[i]?=U y):DataW.trod enc X w 0 (λ_=>true) true n t [v]=U y:=by
 subst k j;have g:=c i f h;rw[b,l]at g;have e:(cs.drop f.offset).take 1=[v]:=by
  rw[Ja]at a;obtain⟨d,rfl⟩:=a;rw[G7 d];rfl
 rwa[e]at g
def fJ{x:DataW H×List MemPlace}(h:DataW.trod enc X w 0 (λ_=>true) true fuel 22 [v]=U x)(y:(x.1.weights X 22).all (·<=reachBytes)=true):∃(a:A4) (d:Nat) (L:List (Int×Int)),v=G a L.length d/\FR w a L/\(a=Y->L.length=0/\d=0)/\(L.length+8)*16<=281474976710656:=by
 rcases open_slice underlying22 h with⟨k,_⟩|⟨a,len,d,m,ac,D,Pl,k,_,hl,hm,S,rfl,W⟩
 ·cases k;exact⟨Y,0,[],Z,⟨λi c=>by simp at c⟩,λ_=>⟨Z,Z⟩,Ay⟩
 cases k;have R:m=d:=by rw[S];rfl
 subst R;have hb:m*16<=reachBytes:=by
  rw[E8]at y;have:=y (((List.range len).map D).length+((List.range (m-len)).map λaa=>D (len+aa)).length |>.mul (prog.bytesOf 43)) (by
   simp only[DataW.weights,underlying22];exact Hl ..)
  rw[fG]at this;simp at this;have e:len+(m-len)=m:=J
  have f:(len+(m-len))*16<=reachBytes:=by simpa using this
  rwa[e]at f
 have hz:∀i,i<m->∃z:Int×Int,w.cell? (a.add (i*2))=U (I K z.1)/\w.cell? ((a.add (i*2)).add 1)=U (I K z.2):=λi c=>by
  obtain⟨N,r,f⟩:=W i c;rw[fF]at r;obtain⟨_,P,t⟩:=World.cells?_some r;obtain⟨A,n',_,_,_,n,u⟩:=Qd underlying43 f;obtain⟨l,o,rfl⟩:∃l o,N=[l,o]:=by
   exact Qy P
  obtain⟨B,C,rfl⟩:∃B C,A=[B,C]:=by
   have j:A.length=2:=n;exact Qy j
  ·have t0:=IP u 0 Z 3 0 Z Z JN Z Z;have t1:=IP u 1 Z 3 1 Z Z JN Z Z;obtain⟨z0,p,_⟩:=I7 underlying3 t0;obtain⟨z1,q,_⟩:=I7 underlying3 t1;simp at p q;subst p q;refine⟨(z0,z1),?_,?_⟩
   ·have:=t 0 J;rw[add_add,LI]at this;exact this
   exact t 1 J
 obtain⟨F,s⟩:=choose_lt hz;refine⟨U a,m,(List.range len).map F,Az,⟨λi c=>?_⟩,λV=>(by cases V),?_⟩
 ·have ab:i<len:=Be
  obtain⟨b,off,rfl,Q⟩:=X3 (by have:=(s 0 J).1;rwa[Qq]at this);have g:=s i J;rw[add_add,MA,MA]at g;refine⟨b,off,Z,Q,?_,?_⟩
  ·rw[g.1];simp
  rw[Ke,g.2];simp
 have:reachBytes=140737488351232:=rfl;simp;omega
def KW(h:(Lit.int K z).wf=true):-9223372036854775808<=z/\z<=9223372036854775807:=by
 simp[Lit.wf,IntKind.min,IntKind.max,IntKind.signed,IntKind.bits]at h;omega
def fK{x:DataW H×List MemPlace}(h:DataW.trod enc X w 0 (λ_=>true) true fuel 25 cs=U x)(d:(x.1.weights X 25).all (·<=reachBytes)=true):∃c:BX,cs=c.arr.toList/\FF w c/\(∀x∈[c.labels,c.dflt,c.clr,c.inn,c.out,c.depth,c.bytes,c.key],-9223372036854775808<=x/\x<=9223372036854775807)/\c.pol.size<=281474976710656:=by
 obtain⟨xs,af,_,rfl,q,ae,a⟩:=Qd underlying25 h;rw[fE]at q
 match cs,q,xs,ae with
 |[v0,v1,v2,v3,v4,v5,v6,v7,v8,v9,v10],_,[y0,y1,y2,y3,y4,y5,y6,y7,y8,y9,y10],_ =>
  simp only[DataW.weights,underlying25,EU,Je,DataW.weightsEach,No,Dw]at d;have C:=IP a 0 Z 3 0 Z Z JN Z Z;have D:=IP a 1 Z 22 1 Z Z fC Z Z;have N:=IP a 2 Z 3 2 Z Z JN Z Z;have P:=IP a 3 Z 9 3 Z Z X2 Z Z;have Q:=IP a 4 Z 3 4 Z Z JN Z Z;have R:=IP a 5 Z 3 5 Z Z JN Z Z;have S:=IP a 6 Z 3 6 Z Z JN Z Z;have V:=IP a 7 Z 3 7 Z Z JN Z Z;have W:=IP a 8 Z 3 8 Z Z JN Z Z;have n:=IP a 9 Z 3 9 Z Z JN Z Z;have F:=IP a 10 Z 23 10 Z Z fD Z Z;obtain⟨z0,e,_,w0⟩:=I7 underlying3 C;obtain⟨z2,f,_,w2⟩:=I7 underlying3 N;obtain⟨b,g,x3,_⟩:=WF underlying9 P;obtain⟨z4,i,_,w4⟩:=I7 underlying3 Q;obtain⟨z5,j,_,w5⟩:=I7 underlying3 R;obtain⟨z6,k,_,w6⟩:=I7 underlying3 S;obtain⟨z7,l,_,w7⟩:=I7 underlying3 V;obtain⟨z8,m,_,w8⟩:=I7 underlying3 W;obtain⟨z9,o,_,w9⟩:=I7 underlying3 n;obtain⟨z,A,L,u,hE,ab,aa⟩:=fJ (v:=v1) (by simpa using D) d.2.1;obtain⟨s,t,B,y,hI,ad,ac⟩:=fI (v:=v10) (by simpa using F) d.2.2.2.2.2.2.2.2.2.2.1;have hp:b.size<=281474976710656:=by
   have p:=d.2.2.2.1;rw[show y3.1=.lit (.string b.data.toList)from congrArg Prod.fst x3]at p;have h4:=CD (E8.1 p b.data.toList.length (by unfold DataW.weights;exact KP.2 Z));have h5:reachBytes=140737488351232:=rfl;have h6:b.data.toList.length=b.size:=rfl;omega
  simp at e f g i j k l m o;subst e f g i j k l m o u y;refine⟨⟨z0,L,z,A,z2,b,z4,z5,z6,z7,z8,z9,B,s,t⟩,Z,⟨hE,hI,ab,ad,aa,ac⟩,λx r=>?_,hp⟩;simp at r;rcases r with rfl|rfl|rfl|rfl|rfl|rfl|rfl|rfl
  all_goals
   first
   |exact KW w0
   |exact KW w2
   |exact KW w4
   |exact KW w5
   |exact KW w6
   |exact KW w7
   |exact KW w8
   |exact KW w9
end
end
section
open Go.RowKit Go.Deep Go.Shelf Go.Lib
def fL:BX:=⟨0,[],none,0,0,ByteArray.empty,0,0,0,0,0,0,[],none,0⟩
section
variable{H:Type} {enc:TypeId×Al->H} {w:World}
end
def Tryz.gSignsT:(prog.globals[2]?).map (·.type)=U 260:=M
def Tryz.x8:U8Extra X Tryz.lays196_ren:=⟨M,M,M,M,M,M,M⟩
def X4:prog.cellsOf 259=2:=M
def fM:prog.cellsOf 180=1:=M
def fN:prog.cellsOf 260=6:=M
def Tf{b:A1}{k:Int}(h:DataW.trod (λ_=>()) X W 0 sp held fuel 259 cs=U (.agg [.lit (.string b),.lit (.int K k)],p)):cs=[A9 ⟨b.toArray⟩,I K k]:=by
 obtain⟨s,n,_,f,e,m,d⟩:=Qd underlying259 h;rw[X4]at e;have o:s.length=2:=m;obtain⟨j,l,rfl⟩:=Qy e;obtain⟨t,u,rfl⟩:=Qy o;have g:DataW.trod (λ_=>()) X W 0 sp held n 9 (([j,l].drop 0).take (prog.cellsOf 9))=U t:=d 0 _ Z;have i:DataW.trod (λ_=>()) X W 0 sp held n 180 (([j,l].drop 1).take (prog.cellsOf 180))=U u:=d 1 _ Z;rw[X2]at g;rw[fM]at i;obtain⟨v,a,q⟩:=WF underlying9 g;obtain⟨w,c,r⟩:=I7 underlying180 i;simp at a c;subst a c;obtain⟨rfl,_⟩:=q;obtain⟨rfl,_⟩:=r;simp only[EU,Je,OH,DataW.agg.injEq,List.cons.injEq,DataW.lit.injEq,Lit.string.injEq,Lit.int.injEq,and_true,true_and]at f;obtain⟨⟨rfl,rfl⟩,_⟩:=f;simp
def fO{H:Type}{enc:TypeId×Al->H}{t e:TypeId}{x:DataW H×List MemPlace}(a:P.underlying t=U (.array n e))(h:DataW.trod enc P w base sp held fuel t cs=U x):cs.length=P.cellsOf t:=by
 cases fuel with
 |zero=>simp[DataW.trod]at h
 |succ fuel =>
  simp only[DataW.trod,a]at h;split at h
  ·next hh=>simpa using hh
  cases h
def fP(d:cs.length=6){a0 a1 b0 b1 c0 c1:Al}(a:(cs.drop (0*2)).take 2=[a0,a1])(b:(cs.drop (1*2)).take 2=[b0,b1])(c:(cs.drop (2*2)).take 2=[c0,c1]):cs=[a0,a1,b0,b1,c0,c1]:=by
 match cs,d with
 |[x0,x1,x2,x3,x4,x5],_ =>
  simp at a b c;obtain⟨rfl,rfl⟩:=a;obtain⟨rfl,rfl⟩:=b;obtain⟨rfl,rfl⟩:=c;rfl
def X5(q:laidMetH X Rows.taggedRow.laid W)(r:W.ShapedOpen X):Iq W:=by
 have c:laidMet X Rows.taggedRow.laid W:=q;refine⟨?_,?_,Tryz.laysM145.s1_3 W r⟩
 ·obtain⟨g,t,cs,l,p,f,z,a,v⟩:=laidMet.reads c (d:=Rows.laid_redact_policy_signs) (.tail _ (.tail _ (.tail _ (.tail _ (.tail _ (.tail _ (.head _)))))));obtain rfl:g=2:=EB (f.symm.trans M);obtain rfl:=EB (Tryz.gSignsT.symm.trans z);have b:DataW.trod (λ_=>()) X W 0 (λ_=>true) false l 260 cs.toList=U (.agg [.agg [.lit (.string [42]),.lit (.int K 0)],.agg [.lit (.string [42,42]),.lit (.int K 1)],.agg [.lit (.string [91,93]),.lit (.int K 2)]],p):=v;obtain⟨D,A,q0,w,m⟩:=array_elem underlying260 b 0 J;obtain⟨f1,B,q1,x,n⟩:=array_elem underlying260 b 1 J;obtain⟨F,C,H,y,o⟩:=array_elem underlying260 b 2 J;cases w;cases x;cases y;have i:=Tf m;have j:=Tf n;have k:=Tf o;rw[X4]at i j k;have s:=(fO underlying260 b).trans fN;have u:=fP s i j k;unfold World.var? at a;rw[f]at a;simp only[WK]at a;split at a
  ·next cs' t fr hh =>
   cases a;refine⟨t,fr,?_⟩;rw[hh];have:cs=[Value.string ⟨[42].toArray⟩,I K 0,A9 ⟨[42,42].toArray⟩,I K 1,A9 ⟨[91,93].toArray⟩,I K 2].toArray:=by rw[<-u]
   rw[this]
  cases a
 refine utf8Tabs_of_readsT (U8Types.of196 Tryz.lays196) Tryz.x8 ?_ ?_
 ·rw[<-Pinned.utf8First_eq];exact laidMet.reads c (.tail _ (.tail _ (.tail _ (.tail _ (.tail _ (.tail _ (.tail _ (.head _))))))))
 have e:(Rows.laid_unicode_utf8_acceptRanges:A2)=acceptData:=M
 have h:=laidMet.reads c (d:=Rows.laid_unicode_utf8_acceptRanges) (.tail _ (.tail _ (.tail _ (.head _))));rw[e]at h;exact h
end
section
open Go.ChangeShapes Go.WideShapes Go.ChangeAt Go.RowKit Go.Lib Go.Deep
def gq:(prog.globals[0]?).map (·.type)=U 202:=M
def gt:(prog.globals[1]?).map (·.type)=U 204:=M
def Xb:prog.cellsOf 198=1:=M
def gu:prog.cellsOf 202=8:=M
def Xd:prog.cellsOf 201=3:=M
def Xe:prog.cellsOf 199=1:=M
def gv:prog.cellsOf 3=1:=M
def gx:(Rows.laid_redact_reading_cborSorts:A2)=tabData K [4,6,7,8,9,10,0,0]:=M
def gy:(Rows.laid_redact_reading_packHeads:A2)=.agg (Ki.map λx=>.agg [.lit (.int K x.1),.lit (.int K x.2),.lit (.int .u64 0)]):=M
def gz{l:List Al}(h:l.length=3):∃a b c,l=[a,b,c]:=by
 match l,h with
 |[a,b,c],_=>exact⟨a,b,c,rfl⟩
def gA{α:Type}{l:List α}(h:l.length=3):∃a b c,l=[a,b,c]:=by
 match l,h with
 |[a,b,c],_=>exact⟨a,b,c,rfl⟩
def gC{x y:Int}(h:DataW.trod (λ_=>()) X W 0 sp held fuel 201 cs=U (.agg [.lit (.int K x),.lit (.int K y),.lit (.int .u64 z)],p)):cs=[I K x,I K y,I .u64 z]:=by
 obtain⟨u,n,_,j,i,o,a⟩:=Qd underlying201 h;rw[Xd]at i;have q:u.length=3:=o;obtain⟨b,c,d,rfl⟩:=gz i;obtain⟨v,w,A,rfl⟩:=gA q;have k:DataW.trod (λ_=>()) X W 0 sp held n 198 (([b,c,d].drop 0).take (prog.cellsOf 198))=U v:=a 0 _ Z;have l:DataW.trod (λ_=>()) X W 0 sp held n 3 (([b,c,d].drop 1).take (prog.cellsOf 3))=U w:=a 1 _ Z;have m:DataW.trod (λ_=>()) X W 0 sp held n 199 (([b,c,d].drop 2).take (prog.cellsOf 199))=U A:=a 2 _ Z;rw[Xb]at k;rw[gv]at l;rw[Xe]at m;obtain⟨B,e,r⟩:=I7 underlying198 k;obtain⟨C,f,s⟩:=I7 underlying3 l;obtain⟨D,g,t⟩:=I7 underlying199 m;simp at e f g;subst e f g;obtain⟨rfl,_⟩:=r;obtain⟨rfl,_⟩:=s;obtain⟨rfl,_⟩:=t;simp only[EU,Je,OH,DataW.agg.injEq,List.cons.injEq,DataW.lit.injEq,Lit.int.injEq,and_true,true_and]at j;obtain⟨⟨rfl,rfl,rfl⟩,_⟩:=j;simp
def gD{a b c:Al}(h:(cs.drop (u*3)).take 3=[a,b,c]):cs[u*3]?=U a/\cs[u*3+1]?=U b/\cs[u*3+2]?=U c:=by
 have d:=congrArg (λl=>l[0]?) h;have e:=congrArg (λl=>l[1]?) h;have f:=congrArg (λl=>l[2]?) h;simp[Mm]at d e f;exact⟨d,e,f⟩
def gE(i:laidMet X Rows.taggedRow.laid W):GY W:=by
 refine⟨?_,?_⟩
 ·obtain⟨g,t,cs,n,p,a,f,c,b⟩:=laidMet.reads i (d:=Rows.laid_redact_reading_cborSorts) (.tail _ (.tail _ (.tail _ (.tail _ (.head _)))));obtain rfl:g=0:=EB (a.symm.trans M);obtain rfl:=EB (gq.symm.trans f);rw[gx]at b;have r:=cells_of_tab underlying202 underlying198 Xb gu b;intro u h;have q:=OE a c u;rw[q,<-Ka,r];have:∀v:Fin 8,([4,6,7,8,9,10,0,0]:List Int)[v.val]?=U ((It v.val:Nat):Int):=Ay
  rw[Jc,this ⟨u,h⟩];rfl
 obtain⟨g,t,cs,n,p,a,f,c,b⟩:=laidMet.reads i (d:=Rows.laid_redact_reading_packHeads) (.tail _ (.tail _ (.tail _ (.tail _ (.tail _ (.head _))))));obtain rfl:g=1:=EB (a.symm.trans M);obtain rfl:=EB (gt.symm.trans f);rw[gy]at b;intro u h;obtain⟨w,s,q0,j,o⟩:=array_elem underlying204 b u h;have x:Ki.length=32:=rfl;rw[Jc,C6 J]at j;cases j;have k:=gC o;rw[Xd]at k;obtain⟨l,m,c2⟩:=gD k;have e:Ki.getD u (0,0)=Ki[u]'Av:=by rw[Mh,C6 J];rfl
 rw[e];refine⟨?_,?_,?_⟩
 ·rw[OE a c,<-Ka];exact l
 ·rw[OE a c,<-Ka];exact m
 rw[OE a c,<-Ka];exact c2
end
section
open Go.RowKit Go.Lib
def LO(s b:Nat):Nat:=((s^^^b)*1099511628211)%18446744073709551616
def NB(s b:Nat):LO s b<18446744073709551616:=ON _ Ay
def gG(a b:Nat)(e:a<18446744073709551616)(hb:b<18446744073709551616):bits .xor .u64 (a:Int) (b:Int)=((a^^^b:Nat):Int):=by
 have h:(BitVec.ofNat 64 a^^^BitVec.ofNat 64 b).toNat=a^^^b:=by
  rw[BitVec.toNat_xor,JE,JE,FC J,FC J]
 have c:BitVec.ofInt 64 (a:Int)=BitVec.ofNat 64 a:=Mi ..;have d:BitVec.ofInt 64 (b:Int)=BitVec.ofNat 64 b:=Mi ..;show IntKind.u64.wrap ((BitVec.ofInt 64 (a:Int)^^^BitVec.ofInt 64 (b:Int)).toNat:Int)=_;have f:a^^^b<2^64:=Nat.xor_lt_two_pow J J;rw[c,d,h];unfold IntKind.wrap;simp[IntKind.bits,IntKind.signed];omega
def gH(x:Nat):IntKind.u64.wrap ((x:Int)*1099511628211)=(((x*1099511628211)%18446744073709551616:Nat):Int):=by
 unfold IntKind.wrap;simp[IntKind.bits,IntKind.signed]
def Tn(s b:Nat)(c:s<18446744073709551616)(hb:b<256)(W:O):Am X 152 #[I .u64 s,I .u8 b] W λe a=>e=Af (I .u64 (LO s b))/\a=W:=by
 have d:=gG s b c J;go_enter func152,ntmps152;go_wp2;rw[gH];go_ret;exact⟨Z,Z⟩
def Ef(x:Nat):UInt8:=[48,49,50,51,52,53,54,55,56,57,97,98,99,100,101,102].getD x 0
def JQ(r:Nat):A1:=if r=34\/r=92 then[92,UInt8.ofNat r]else if r<32 then[92,117,48,48,Ef (r/16),Ef (r%16)]else Du r
def Gj:Nat->A1->A1
 |0,_=>[]
 |_+1,[]=>[]
 |g+1,b::t=>JQ (decodeL (b::t)).1++Gj g ((b::t).drop (decodeL (b::t)).2)
def Hv(l:A1):A1:=[34]++Gj l.length l++[34]
def NM{b:Nat}{bs:A1}(h:BG W b v bs)(c:A0 W W'):BG W' b v bs:=by
 refine⟨⟨h.1.1,?_⟩,C7 h.2.1 c.size,h.2.2⟩;rcases h.1.2 with a|⟨g,e,f,a,i,d,j⟩
 ·exact .inl a
 exact .inr ⟨g,e,f,a,i,(c.block g (BC d)).trans d,j⟩
def jB(g:Nat):Gj g []=[]:=by cases g<;>rfl
def Ko(W V:World):Prop:=∀(k:Nat) (cs:A3) (t:TypeId) (fr:Nat×Nat),W.heap[k]?=some (.cells cs t fr)->t≠5->V.heap[k]?=some (.cells cs t fr)
def Ko.refl(W:O):Ko W W:=by intro k cs t a h _;exact h
def Ko.trans{A B C:O}(h:Ko A B)(g:Ko B C):Ko A C:=by intro k cs t a c b;exact g k cs t a (h k cs t a c b) b
def TI(W:O)(o:Obj):Ko W (W.alloc o):=by intro k cs t b a _;exact(BT _ _ _ (BC a)).trans a
def TJ{xs:List Al}(j:W.ownsRow base 5 1 v n xs)(i:W.grownBy V v.ownBlock):Ko W V:=by
 intro k cs t m d h;refine(i.block k (BC d) (λe=>?_)).trans d;rcases j.2 with⟨b,_⟩|⟨g,l,c,b,_,a,_⟩
 ·rw[b]at e;cases e
 rw[b]at e;injection e with e;have f:k=g:=e;rw[<-f,d]at a;injection a with a;injection a with _ a _;exact h a
structure FT(base:Nat)(W:World)(N:Nat)(s:ByteArray)(i:Nat)(v:Value)(cur:A1)(V:World):Prop where
 own:BG V base v cur
 it:V.heap[N]?=some (.stringIter s i)
 below:Below base W V
 lo:base<=N
 kp:Ko W V
def FT.ne(h:FT base W N s i v cur V):U N≠v.ownBlock:=by
 intro e;rcases h.own.1.2 with⟨a,_⟩|⟨g,f,c,a,_,b,_⟩
 ·rw[a]at e;cases e
 rw[a]at e;injection e with e;have d:N=g:=e;rw[<-d,h.it]at b;cases b
def FT.app{o:Obj}(h:FT base W N s i v cur V)(d:V'.ownsRow base 5 1 v' (cur.length+l.length) (cur.map Cg++l.map Cg))(a:(V.alloc o).grownBy V' v.ownBlock):FT base W N s i v' (cur++l) V':=by
 have b:=Jl ((C5 base V).alloc h.own.2.1 _) (h.own.1.alloc _) a (As h.own.2.1);have f:=BC h.it;refine⟨⟨by rw[BK,G9];exact d,C7 h.own.2.1 b.size,?_⟩,(a.block N Ax h.ne).trans ((BT _ _ _ f).trans h.it),h.below.trans b,h.lo,h.kp.trans ((TI V o).trans (TJ (h.own.1.alloc o) a))⟩;rcases d.2 with⟨e,_⟩|⟨g,j,c,e,_⟩
 ·exact⟨Y,0,0,e⟩
 exact⟨_,_,_,e⟩
def FT.appS(h:FT base W N s i v cur V)(d:V'.ownsRow base 5 1 v' (cur.length+(⟨l.toArray⟩:ByteArray).size) (cur.map Cg++strCells ⟨l.toArray⟩))(a:V.grownBy V' v.ownBlock):FT base W N s i v' (cur++l) V':=by
 obtain⟨b,c⟩:=NC h.own d a;exact⟨b,(a.block N (BC h.it) h.ne).trans h.it,h.below.trans c,h.lo,h.kp.trans (TJ h.own.1 a)⟩
def FT.next(h:FT base W N s i v cur V)(j:Nat):FT base W N s j v cur (V.putObj N (.stringIter s j)):=by
 have o:=BC h.it;have q:=h.ne;refine⟨⟨⟨h.own.1.1,?_⟩,by simpa[World.putObj]using h.own.2.1,h.own.2.2⟩,by simp[World.putObj,o],NL h.below h.lo _,h.lo,?hkp⟩
 case hkp =>
  intro k cs t l r u;have b:=h.kp k cs t l r u;refine((grownBy_putObj' V N (.stringIter s j)).block k (BC b) (λe=>?_)).trans b;injection e with e;rw[e,h.it]at b;cases b
 rcases h.own.1.2 with a|⟨g,f,c,a,m,d,n⟩
 ·exact .inl a
 refine .inr ⟨g,f,c,a,m,?_,n⟩;have p:g≠N:=by
  rintro rfl;exact q (by rw[a];rfl)
 exact((grownBy_putObj' V N (.stringIter s j)).block g (BC d) keH).trans d
def FT.drew(h:FT base W N s i v cur V):FT base W N s i v cur V.drew:=⟨h.own,h.it,h.below.drew,h.lo,h.kp⟩
def Y1(x:Nat)(a:x<16)(V:O):(Instr.index 9 (A9 ⟨#[48,49,50,51,52,53,54,55,56,57,97,98,99,100,101,102]⟩) (I .i32 x)).run X V=.ok (Cg (Ef x)) V:=by
 have h:x=0\/x=1\/x=2\/x=3\/x=4\/x=5\/x=6\/x=7\/x=8\/x=9\/x=10\/x=11\/x=12\/x=13\/x=14\/x=15:=J
 rcases h with rfl|rfl|rfl|rfl|rfl|rfl|rfl|rfl|rfl|rfl|rfl|rfl|rfl|rfl|rfl|rfl<;>(show _=_;kernel_rfl)
def jC(r:Nat)(a:r<32):bits .and .i32 (r:Int) 15=((r%16:Nat):Int):=by
 have h:r=0\/r=1\/r=2\/r=3\/r=4\/r=5\/r=6\/r=7\/r=8\/r=9\/r=10\/r=11\/r=12\/r=13\/r=14\/r=15\/r=16\/r=17\/r=18\/r=19\/r=20\/r=21\/r=22\/r=23\/r=24\/r=25\/r=26\/r=27\/r=28\/r=29\/r=30\/r=31:=J
 rcases h with rfl|rfl|rfl|rfl|rfl|rfl|rfl|rfl|rfl|rfl|rfl|rfl|rfl|rfl|rfl|rfl|rfl|rfl|rfl|rfl|rfl|rfl|rfl|rfl|rfl|rfl|rfl|rfl|rfl|rfl|rfl|rfl<;>(show _=_;kernel_rfl)
def Y3{ev:Operand->Al}(a:TypeId)(x y:Operand)(b:o.op=.index a x y){X Y:Al}(c:ev x=X)(d:ev y=Y)(h:(Instr.index a X Y).run P W=.ok v W):(execOp ev o).run P W=.ok (.value v) W:=by
 unfold execOp;simp only[b,c,d,Ei,h,EA];rfl
def jD(a b:UInt8)(V:O):(Instr.buildSlice 38 2 #[(0,Cg a),(1,Cg b)]).run X V=.ok (G (U ⟨V.heap.size,0,Y⟩) 2 2) (V.alloc (E #[Cg a,Cg b] 5)):=M
def jE{K:Act->O->Prop}(x y:Operand)(b:o.op=.buildSlice 38 2 #[(0,x),(1,y)])(p q:UInt8)(c:a.eval x=Cg p)(d:a.eval y=Cg q)(h:K (a.put o.dst (G (U ⟨w.heap.size,0,Y⟩) 2 2)) (w.alloc (E #[Cg p,Cg q] 5))):o.wp X a w K Q:=by
 have e:(#[(0,x),(1,y)].map λ(i,y)=>(i,a.eval y))=#[((0:Nat),Cg p),(1,Cg q)]:=by simp[c,d]
 unfold Oper.wp execOp;simp only[b,Ei,e,jD,EA];exact h
def jF(W:O)(f:W.cell? ⟨8,15,Y⟩=U (I .u8 4)):Am X 204 #[I .u64 16] W λe a=>e=Af (I K 4)/\a=W:=by
 have b:IntKind.u64.wrap (-16)=18446744073709551600:=M
 have c:bits .and .u64 16 18446744073709551600=16:=M
 have d:IntKind.u64.wrap (16*285870213051353865)=4573923408821661840:=M
 go_enter func204,ntmps204;go_wp2;go_ret;exact⟨Z,Z⟩
def jG(W:O)(b:W.cell? ⟨8,15,Y⟩=U (I .u8 4)):Am X 195 #[I .u64 16] W λe a=>e=Af (I K 4)/\a=W:=by
 have c:=jF W b;go_enter func195,ntmps195
 go_wp2_with(first|(go_at_call 204;refine c.mono ?_;rintro e d ⟨rfl,rfl⟩))
 go_ret;exact⟨Z,Z⟩
def jH(W:O):Am X 194 #[I K 16] W λe a=>e=Af (.bool true)/\a=W:=by
 have b:bits .and K 16 15=0:=M
 go_enter func194,ntmps194;go_wp2;go_ret;exact⟨Z,Z⟩
def Es(u:Nat):A1:=if u<16 then[Ef u]else Es (u/16)++[Ef (u%16)]
def QT(h:u<16):Es u=[Ef u]:=by rw[Es,BA h]
def TK(h:¬u<16):Es u=Es (u/16)++[Ef (u%16)]:=by rw[Es,Bz h]
def TL:∀(k u:Nat),u<16^(k+1)->(Es u).length<=k+1
 |0,u,h=>by rw[QT B3];simp
 |k+1,u,h=>by
  by_cases a:u<16
  ·rw[QT a];simp
  rw[TK a,BK];have b:u/16<16^(k+1):=by
   rw[Wp J];rw[Jf]at h;exact h
  have:=TL k (u/16) b;simp;omega
structure Kp(W:World)(tl:A1)(V:World):Prop where
 below:A0 W V
 arr:V.heap[W.heap.size]?=some (.cells ((List.replicate (65-tl.length) (0:UInt8)++tl).map Cg).toArray 313)
 le:tl.length<=65
end
section
open Go.RowKit Go.Shelf
def nz{B:Nat}{a:O}(h:Below B a w)(n:Nat):Below B a (w.drewN n):=h.trans ⟨rfl,rfl,rfl,BM _,λ_ _=>rfl⟩
def Pn:(prog.info? 177).map (·.size)=U 3:=M
def Zr(s:ByteArray)(k:s.size<=2000):∃(p r:ByteArray) (b:Bool),p.data.toList=(Lib.cut s.data.toList [32]).1/\r.data.toList=(Lib.cut s.data.toList [32]).2.1/\p.size<=2000/\r.size<=2000 /\
  ∀w,Iq w->Am X 118 #[.string s,A9 ⟨#[32]⟩] w λe d=>e=Af (Aa #[.string p,.string r,.bool b])/\A0 w d:=by
 have j:s.data.toList.length=s.size:=ES;have c:(Lib.cut s.data.toList [32]).1.length<=2000/\(Lib.cut s.data.toList [32]).2.1.length<=2000:=by
  rcases Lh 32 s.data.toList with⟨h,_⟩|⟨a,r,h,f,_⟩
  ·rw[h];simp;omega
  have:=congrArg List.length f;rw[BK,Cu]at this;rw[h];simp;omega
 refine⟨⟨(Lib.cut s.data.toList [32]).1.toArray⟩,⟨(Lib.cut s.data.toList [32]).2.1.toArray⟩,(Lib.cut s.data.toList [32]).2.2,Az,Az,c.1,c.2,λw g=>?_⟩;obtain⟨m,i⟩:=g.mlen;refine(Tryz.strings_Cut s ⟨#[32]⟩ m w J i).mono ?_;rintro e d ⟨rfl,n,rfl⟩;exact⟨Z,nz Cm n⟩
structure Rq(w:World)(W:World):Prop where
 below:A0 w W
 res:W.heap[w.heap.size]?=some (.cells Db 177)
def Rq.step(h:Rq w W)(hb:A0 W W'):Rq w W' :=
 ⟨h.below.trans (hb.mono h.below.size),(hb.block _ (BC h.res)).trans h.res⟩
def nB(w:O):Rq w (w.alloc (E Db 177)):=⟨BN,BI _ _⟩
end
section
open Go.RowKit Go.Deep
def o7(h:∀i j,i<n->j<n->m i j=m' i j):Gx n m = !Jr n m':=by
 cases c:Gx n m
 ·symm;rw[Bool.not_eq_false'];refine ZC (λa b d e=>?_);cases l:Hw n m' a b
  ·rfl
  exfalso;unfold Hw at l;simp only[Dw,Qe,EJ]at l;obtain⟨_,⟨r,f⟩,g⟩:=l;rw[<-h a b d e]at f;rw[<-h b a e d]at g;rcases Nat.lt_or_ge b a with o|q
  ·have:=Tb (m:=m) d o (by unfold JL;rw[f,g];rfl);rw[c]at this;cases this
  have:=Tb (m:=m) e (show a<b by omega) (by unfold JL;rw[f,g];rfl);rw[c]at this;cases this
 symm;rw[Qe];unfold Gx at c;rw[JI]at c;obtain⟨a,d,c⟩:=c;rw[JI]at c;obtain⟨b,e,c⟩:=c;have k:=CV.1 d;have p:=CV.1 e;unfold JL at c;simp only[Dw]at c;refine ZB (a:=a) (b:=b) k J ?_;unfold Hw;rw[<-h a b k J,<-h b a J k,c.1,c.2,EJ.2 (show a≠b by omega)];simp
def ZF(m:Nat->Nat->Bool)(a b k:Nat):Dg m a b k=Dg m b a k:=by unfold Dg;exact SP _ _
def ZG(n:Nat)(m:Nat->Nat->Bool)(a b:Nat):EC n m a b=EC n m b a:=by
 unfold EC;congr 1;funext j;unfold Ed;rw[ZF];congr 2;funext k;rw[ZF]
def ZH{a:Nat}(c:a<n)(d:m a a=true):EC n m a a=true:=by
 refine Qw c (Qv (by unfold Dg;rw[d];rfl) (λk _ b=>?_));unfold Dg at b;simp only[Dw]at b;exact b.1
def o8(h:∀i j,i<n->j<n->m i j=m' i j)(l:∀i,i<n->m' i i=true):Hs n m=Js n m':=by
 have k:∀a b,a<n->b<n->IM n m a b=Gm n m' a b:=λa b c e=>by
  unfold IM Gm;rw[Td h c e,Td (λi j q r=>h j i r q) c e]
 have t:∀a b,Gm n m' a b=Gm n m' b a:=λa b=>by
  unfold Gm;rw[ZG,ZG n (λi j=>m' j i)]
 have u:∀a,a<n->Gm n m' a a=true:=λa c=>by
  unfold Gm;rw[ZH c (l a c),ZH (m:=λi j=>m' j i) c (l a c)];rfl
 cases d:Hs n m
 ·symm;unfold Hs at d;rw[Gv]at d;obtain⟨a,c,d⟩:=d;rw[Mp,Gv]at d;obtain⟨b,e,d⟩:=d;have f:=CV.1 c;have v:=CV.1 e;exact Uo (a:=a) (b:=b) f J (by rw[<-k a b f J];exact Mp _▸d)
 symm;refine ZD (λa b c e=>?_);have g:∀a b,a<n->b<a->Gm n m' a b=true:=λa b c e=>by
  rw[<-k a b c J];exact E8.1 (E8.1 d a (CV.2 c)) b (CV.2 e)
 rcases Nat.lt_trichotomy a b with s|o|p
 ·rw[t];exact g b a e s
 ·subst o;exact u a c
 exact g a b c p
end
section
open Go.RowKit
def u9(r:A5 Nat):Al:=match r with
 |.ok (x,_)=>Aa #[.int .i64 x,.agg (BH (0,0))]
 |.error f=>Aa #[.int .i64 0,.agg (BH f)]
def du(W:O)(bs:A1)(fm d l lim:Int)(i:Nat)(hl:Lm bs l lim)(hi:C1 bs lim i)(hb:bs.length<=281474976710656):Am X 175 #[.agg (BP bs fm d l),I K i] W λab W'=>ab=Af (u9 (Do bs lim 4 i 0))/\A0 W W':=by
 obtain⟨R,x⟩:∃R,Hid (Do bs lim 4 i 0=R):=⟨_,show _=_ from rfl⟩
 rw[x.out];have ah:=hi.1;have P:=T hl;have D:=T hi;have H:=Od bs fm d l;have F:=Oe bs fm d l;clear hl hi;unfold BP;go_enter func175,ntmps175;go_wp2
 go_loopg[6,7] 4 (λg zn zk wr=>∃k o:Nat,zk=I K k/\zn=I K o/\Hid (k+g=i+4/\i<=k)/\Hid (o<=65535/\(1<=g->o*16+15<=65535)/\(2<=g->o*256+255<=65535)/\(3<=g->o*4096+4095<=65535)/\(4<=g->o=0))/\Hid (Ij W (BP bs fm d l) (W.heap.size+1) wr)/\Hid (Do bs lim g k o=R)/\Hid (C1 bs lim k))
 case atStart=>exact⟨i,0,rfl,rfl,⟨rfl,BM _⟩,⟨J,J,J,J,λ_=>rfl⟩,Ob _ _,x,D⟩
 case round =>
  clear x D;obtain⟨k,o,rfl,rfl,u,hm,v,x,D⟩:=hrel;have ad:=D.1;have aj:=hm.out.1;obtain⟨a,b,c2,f⟩:=CL v.box;have m:=λV=>H V k
  cases gk with
  |zero =>
   have ae:¬(k:Int)<(i:Int)+4:=Ao u.out
   have y:Hid (R=.ok (o,k)):=by show _=_;rw[<-x.out,Do]
   clear x H m F u
   go_wp2_with(first
    |(refine En 5 72 Z Z (W.heap.size+1) (0,0) Z Z ?_ ?_;exact v.flt))
   have n:=Gu v Cm (0,0);refine K3 results175 n _ Z Z Z ⟨?_,n.2⟩;rw[y.out];rfl
  |succ g =>
   have ae:(k:Int)<(i:Int)+4:=Ao u.out
   have s:=x.out;rw[Do]at s
   cases t:bs[k]? with
   |none =>
    rw[t]at s;simp only[]at s;have r:=λV=>F V k 9;rw[K2 t]at m;rw[Lu ad t]at r;have y:=T s.symm;clear s t F H x u
    go_wp2_with(first
     |(go_at_call 68;refine CT (m _) v.next (λ_ h=>h.box) ?_;clear m a b c2 f;intro C p a b c2 f)
     |(go_at_call 47;refine CT (r _) p.next (λ_ h=>h.box) ?_;clear r a b c2 f;intro N q a b c2 f)
     |(refine En 5 22 Z Z (W.heap.size+1) (9,(k:Int)) Z Z ?_ ?_;exact q.flt))
    have n:=Gu q Cm (9,(k:Int));refine K3 results175 n _ Z Z Z ⟨?_,n.2⟩;rw[y.out];rfl
   |some c =>
    rw[t]at s;simp only[]at s;have ac:=λV=>DI bs k c t V;have ai:=Cf t;have r:=λV=>F V k 9;by_cases z:(k:Int)=lim
    ·rw[BA z]at s;rw[Jw P t z]at m;rw[IC P t z]at r;have y:=T s.symm;clear s t F H x u z ac
     go_wp2_with(first
      |(go_at_call 68;refine CT (m _) v.next (λ_ h=>h.box) ?_;clear m a b c2 f;intro C p a b c2 f)
      |(go_at_call 47;refine CT (r _) p.next (λ_ h=>h.box) ?_;clear r a b c2 f;intro N q a b c2 f)
      |(refine En 5 22 Z Z (W.heap.size+1) (8,(k:Int)) Z Z ?_ ?_;exact q.flt))
     have n:=Gu q Cm (8,(k:Int));refine K3 results175 n _ Z Z Z ⟨?_,n.2⟩;rw[y.out];rfl
    rw[Bz z]at s;rw[Lv P D t z]at m;rw[J4 P D t z]at r;have Q:=T (Fp D t z)
    cases j:Ia c with
    |none =>
     rw[j]at s;have y:Hid (R=.error (9,(k:Int))):=s.symm;have A:(c.toNat:Int)<48\/(57<(c.toNat:Int)/\(c.toNat:Int)<65)\/(70<(c.toNat:Int)/\(c.toNat:Int)<97)\/102<(c.toNat:Int):=by
      unfold Ia Dm at j;split at j
      ·cases j
      rename_i h1
      split at j
      ·cases j
      rename_i h2
      split at j
      ·cases j
      rename_i h3
      have af:¬(48<=(c.toNat:Int)/\(c.toNat:Int)<=57):=λh=>h1 (CH h);omega
     clear s t j F H x u z Q;rcases A with A|⟨A,S⟩|⟨A,S⟩|A
     ·go_wp2_with(first
       |(go_at_call 68;refine CT (m _) v.next (λ_ h=>h.box) ?_;clear m a b c2 f;intro C p a b c2 f)
       |(go_at_call 47;refine CT (r _) p.next (λ_ h=>h.box) ?_;clear r a b c2 f;intro N q a b c2 f)
       |(refine En 5 29 Z Z (W.heap.size+1) (9,(k:Int)) Z Z ?_ ?_;exact q.flt))
      have n:=Gu q Cm (9,(k:Int));refine K3 results175 n _ Z Z Z ⟨?_,n.2⟩;rw[y.out];rfl
     ·go_wp2_with(first
       |(go_at_call 68;refine CT (m _) v.next (λ_ h=>h.box) ?_;clear m a b c2 f;intro C p a b c2 f)
       |(go_at_call 47;refine CT (r _) p.next (λ_ h=>h.box) ?_;clear r a b c2 f;intro N q a b c2 f)
       |(refine En 5 29 Z Z (W.heap.size+1) (9,(k:Int)) Z Z ?_ ?_;exact q.flt))
      have n:=Gu q Cm (9,(k:Int));refine K3 results175 n _ Z Z Z ⟨?_,n.2⟩;rw[y.out];rfl
     ·go_wp2_with(first
       |(go_at_call 68;refine CT (m _) v.next (λ_ h=>h.box) ?_;clear m a b c2 f;intro C p a b c2 f)
       |(go_at_call 47;refine CT (r _) p.next (λ_ h=>h.box) ?_;clear r a b c2 f;intro N q a b c2 f)
       |(refine En 5 29 Z Z (W.heap.size+1) (9,(k:Int)) Z Z ?_ ?_;exact q.flt))
      have n:=Gu q Cm (9,(k:Int));refine K3 results175 n _ Z Z Z ⟨?_,n.2⟩;rw[y.out];rfl
     go_wp2_with(first
      |(go_at_call 68;refine CT (m _) v.next (λ_ h=>h.box) ?_;clear m a b c2 f;intro C p a b c2 f)
      |(go_at_call 47;refine CT (r _) p.next (λ_ h=>h.box) ?_;clear r a b c2 f;intro N q a b c2 f)
      |(refine En 5 29 Z Z (W.heap.size+1) (9,(k:Int)) Z Z ?_ ?_;exact q.flt))
     have n:=Gu q Cm (9,(k:Int));refine K3 results175 n _ Z Z Z ⟨?_,n.2⟩;rw[y.out];rfl
    |some w =>
     rw[j]at s;have HN:Hid (Do bs lim g (k+1) (o*16+w)=R):=s;have aa:=QU j;have e:Hid (o*16+w<=65535/\(1<=g->(o*16+w)*16+15<=65535)/\(2<=g->(o*16+w)*256+255<=65535)/\(3<=g->(o*16+w)*4096+4095<=65535)/\(4<=g->o*16+w=0)):=by
      have h:=hm.out;have ag:g+1<=4:=by
       have:=u.out;omega
      refine⟨J,J,J,J,J⟩
     have h3:(48<=(c.toNat:Int)/\(c.toNat:Int)<=57/\(w:Int)=(c.toNat:Int)-48)\/(97<=(c.toNat:Int)/\(c.toNat:Int)<=102/\(w:Int)=(c.toNat:Int)-87)\/(65<=(c.toNat:Int)/\(c.toNat:Int)<=70/\(w:Int)=(c.toNat:Int)-55):=by
      unfold Ia Dm at j;split at j
      ·rename_i h1
       have:=CD h1;injection j with j;omega
      split at j
      ·injection j with j;omega
      split at j
      ·injection j with j;omega
      cases j
     clear s t j F r H x z hm;rcases h3 with⟨A,S,B⟩|⟨A,S,B⟩|⟨A,S,B⟩
     ·have L:Hid _:=B;clear B aa
      go_wp2_with(first
       |(go_at_call 68;refine CT (m _) v.next (λ_ h=>h.box) ?_;clear m a b c2 f;intro C p a b c2 f))
      go_roundg g
      case measure=>omega
      case rel=>exact⟨k+1,o*16+w,AE,congrArg (Value.int K) (Ao L.out),⟨Ao u.out,Ao u.out⟩,e,p,HN,Q⟩
     ·have L:Hid _:=B;clear B aa
      go_wp2_with(first
       |(go_at_call 68;refine CT (m _) v.next (λ_ h=>h.box) ?_;clear m a b c2 f;intro C p a b c2 f))
      go_roundg g
      case measure=>omega
      case rel=>exact⟨k+1,o*16+w,AE,congrArg (Value.int K) (Ao L.out),⟨Ao u.out,Ao u.out⟩,e,p,HN,Q⟩
     have L:Hid _:=B;clear B aa
     go_wp2_with(first
      |(go_at_call 68;refine CT (m _) v.next (λ_ h=>h.box) ?_;clear m a b c2 f;intro C p a b c2 f))
     go_roundg g
     case measure=>omega
     case rel=>exact⟨k+1,o*16+w,AE,congrArg (Value.int K) (Ao L.out),⟨Ao u.out,Ao u.out⟩,e,p,HN,Q⟩
end
section
open Go.RowKit Go.Lib
def Si{K:Act->O->Prop}(hi:ops[i]?=U o)(b:o.guard=Y)(h:o.upon X a K Q ((execOp a.eval o).run X w)):wpOp X ops Q i K a w:=by
 unfold wpOp;rw[hi];simp only[Region.wanted,b,OO];exact .inl h
def W7(a:Act)(p:Nat)(y:Al)(h:p<a.tmps.size):(a.put (U p) y).eval (.tmp p)=y:=by
 simp[Act.put,Act.eval,Array.getD,h]
def W8(a:Act)(i j:Nat)(u v:Al)(h:i≠j):(a.put (U i) u).put (U j) v=(a.put (U j) v).put (U i) u:=by
 simp only[Act.put];rw[Q4 _ _ h]
def ey(a:Act)(p:Nat)(y:Al):(a.put (U p) y).tmps.size=a.tmps.size:=by simp[Act.put]
def eA(w:O)(g:Nat)(b:UInt8)(a:w.cell? ⟨g,0,Y⟩=U (I .u8 (b.toNat:Int))):(convert 38 9 (G (U ⟨g,0,Y⟩) 1 1)).run X w=.ok (A9 ⟨#[b]⟩) w:=by
 refine Sw _ 38 9 5 ⟨g,0,Y⟩ 1 [b] underlying38 underlying5 underlying9 ?_;intro j c;obtain rfl:j=0:=Be
 exact a
def eB{S:O->Prop}{listed:Array Bool}{oc ob ov:Oper}{args:A3}(c b v s p q:Nat)(f:FuncId)(r:Al)(u:UInt8)(aa:ops[c]?=U oc/\ops[b]?=U ob/\ops[v]?=U ov)(P:(oc.guard,oc.dst,ob.guard,ob.dst,ov.guard,ov.dst,ov.op)=(Y,U s,Y,U p,Y,U q,.convert 38 9 (.tmp p)))(R:((Region.ready .any ops listed).all (λi=>i==c||i==b)&&(Region.ready .any ops (listed.setIfInBounds c true)).all (·==b)&&(Region.ready .any ops (listed.setIfInBounds b true)).all (λi=>i==c||i==v)&&(Region.ready .any ops ((listed.setIfInBounds c true).setIfInBounds b true)).all (·==v)&&(Region.ready .any ops ((listed.setIfInBounds b true).setIfInBounds v true)).all (·==c) && !(Region.ready .any ops listed).isEmpty && !(Region.ready .any ops (listed.setIfInBounds c true)).isEmpty && !(Region.ready .any ops (listed.setIfInBounds b true)).isEmpty && !(Region.ready .any ops ((listed.setIfInBounds c true).setIfInBounds b true)).isEmpty && !(Region.ready .any ops ((listed.setIfInBounds b true).setIfInBounds v true)).isEmpty&&decide (c≠b/\c≠v/\b≠v/\s≠p/\s≠q/\p≠q/\p<a.tmps.size))=true)(C:∀y ab V,(execOp a.eval oc).run X V=.ok (.enter f args) V/\(execOp (a.put (U p) y).eval oc).run X V=.ok (.enter f args) V/\(execOp ((a.put (U p) y).put (U q) ab).eval oc).run X V=.ok (.enter f args) V)(hb:∀V,(execOp a.eval ob).run X V=.ok (.value (G (U ⟨V.heap.size,0,Y⟩) 1 1)) (V.alloc (E #[I .u8 u.toNat] 5))/\(execOp (a.put (U s) r).eval ob).run X V=.ok (.value (G (U ⟨V.heap.size,0,Y⟩) 1 1)) (V.alloc (E #[I .u8 u.toNat] 5)))(hC:∀V,Am X f args V λe l=>e=Af r/\A0 V l)(o:∀V,A0 w V->S V)(h:∀V y,A0 w V->wpAnyH X .any ops Q S fuel (((listed.setIfInBounds c true).setIfInBounds b true).setIfInBounds v true) (((a.put (U s) r).put (U p) y).put (U q) (A9 ⟨#[u]⟩)) V):wpAnyH X .any ops Q S (fuel+3) listed a w:=by
 simp only[Dw,E8,Mq,KU,KQ,Qe,List.isEmpty_eq_false_iff]at R;obtain⟨⟨⟨⟨⟨⟨⟨⟨⟨⟨r1,r2⟩,r3⟩,r4⟩,r5⟩,n1⟩,n2⟩,n3⟩,W⟩,n5⟩,F,d2,d3,H,d5,d6,B⟩:=R;simp only[OH]at P;obtain⟨g1,g2,L,N,g5,g6,g7⟩:=P;obtain⟨o1,z,o3⟩:=aa;have x:∀{a':Act} {V:O} {K:Act->O->Prop},(execOp a'.eval oc).run X V=.ok (.enter f args) V->(∀l,A0 V l->K (a'.put (U s) r) l)->wpOp X ops Q c K a' V:=λ{a' V K} e k=>by
  refine Si o1 g1 ?_;rw[e];refine(hC V).mono ?_;rintro e l ⟨rfl,d⟩;show K (a'.put oc.dst r) l;rw[g2];exact k l d
 have A:∀{a':Act} {V:O} {K:Act->O->Prop} {g:Nat},a'.eval (.tmp p)=G (U ⟨g,0,Y⟩) 1 1->V.cell? ⟨g,0,Y⟩=U (I .u8 (u.toNat:Int))->K (a'.put (U q) (A9 ⟨#[u]⟩)) V->wpOp X ops Q v K a' V:=λ{a' V K g} e k h=>by
  refine Si o3 g5 ?_;unfold execOp;simp only[g7,e,Ei,eA V g u k];show K (a'.put ov.dst _) V;rw[g6];exact h
 have cell:∀{V l:O},Below (V.heap.size+1) (V.alloc (E #[I .u8 u.toNat] 5)) l->l.cell? ⟨V.heap.size,0,Y⟩=U (I .u8 (u.toNat:Int)):=λ{V l} d=>by
  rw[d.cell (p:=⟨V.heap.size,0,Y⟩) Az];exact BB (BI V _) 0
 have sl:∀V:O,(V.alloc (E #[I .u8 u.toNat] 5)).heap.size=V.heap.size+1:=λV=>Az
 have D:∀V:O,A0 V (V.alloc (E #[I .u8 u.toNat] 5)):=λV=>BN;refine Nt Z n1 λi hi=>?_;rcases r1 i hi with rfl|rfl
 ·refine x (C undef undef w).1 λV d=>⟨o V d,Nt Z n2 λj n=>?_⟩
  obtain rfl:=r2 j n;refine Si z L ?_;rw[(hb V).2];show S _/\_;rw[N];have m:=d.trans ((D V).mono d.size);refine⟨o _ m,Nt Z W λj n=>?_⟩;obtain rfl:=r4 j n;exact A (W7 _ _ _ (by rw[ey];exact B)) (cell (C5 _ _)) ⟨o _ m,h _ _ m⟩
 refine Si z L ?_;rw[(hb w).1];show S _/\_;rw[N];have t:=D w;refine⟨o _ t,Nt Z n3 λj n=>?_⟩;rcases r3 j n with rfl|rfl
 ·refine x (C _ undef _).2.1 λV d=>?_;have m:=t.trans (d.mono (by rw[sl];omega));simp only[BU,A0]at d;rw[Q4 _ _ F.symm,W8 _ _ _ _ _ H.symm];refine⟨o _ m,Nt Z W λj n=>?_⟩;obtain rfl:=r4 j n;exact A (W7 _ _ _ (by rw[ey];exact B)) (cell d) ⟨o _ m,h _ _ m⟩
 refine A (W7 _ _ _ B) (cell (C5 _ _)) ⟨o _ t,Nt Z n5 λj n=>?_⟩
 obtain rfl:=r5 j n;refine x (C _ _ _).2.2 λV d=>?_;have m:=t.trans (d.mono (by rw[sl];omega));refine⟨o _ m,?_⟩;rw[W8 _ _ _ _ _ d5.symm,W8 _ _ _ _ _ H.symm,Q4 _ _ d2.symm,Q4 _ _ F.symm];exact h _ _ m
def vS(h:A0 W V)(k:Below V.heap.size {V with drawn:=V.drawn+1} V'):A0 W V':=h.drew.trans (k.mono h.size)
def eC:∀(k x:Nat),BY x (k+1)=BY (x/256) k++[UInt8.ofNat (x%256)]
 |0,x=>by simp[BY]
 |k+1,x=>by
  rw[BY,eC k x,BY,I4,Nat.div_div_eq_div_mul,show 256*2^(8*k)=2^(8*(k+1)) by rw[Nat.mul_succ,Nat.pow_add];omega]
def JB(l m:A1):(⟨l.toArray⟩:ByteArray)++⟨m.toArray⟩=⟨(l++m).toArray⟩:=by
 apply Mr;simp
def Sj(x:Int)(h : -9223372036854775808<=x/\x<=9223372036854775807):IntKind.i64.wrap x=x:=(Qf x).trans J
def w8(x:Int)(h:0<=x/\x<=255):IntKind.u8.wrap x=x:=by
 unfold IntKind.wrap;simp only[IntKind.bits,IntKind.signed,Qk];rw[Bz Ay];omega
def Wa(x:Nat)(h:x<256):(UInt8.ofNat x).toNat=x:=by rw[JF,FC h]
def Sk(x:Nat):∀k,(BY x k).length=k
 |0=>rfl
 |k+1=>by rw[BY,Cu,Sk x k]
def eD:∀(k n:Nat) (W:O),n<=9223372036854775807->k<=8->Am X 79 #[I K n,I K k] W λe j=>e=Af (D6 (BY n k))/\A0 W j
 |0,n,W,_,_=>by
  unfold D6 BY;go_enter func79,ntmps79;go_wp2;go_ret;exact⟨Z,Cm⟩
 |k+1,n,W,hn,hk=>by
  have c:=λV=>eD k (n/256) V J J;obtain⟨u,d⟩:∃u,UInt8.ofNat (n%256)=u:=⟨_,rfl⟩
  have l:(n:Int).tdiv 256=((n/256:Nat):Int):=by rw[Int.tdiv_eq_ediv_of_nonneg J];omega
  have m:(n:Int).tmod 256=((n%256:Nat):Int):=by rw[Wh J];omega
  have i:Hid (IntKind.u8.wrap ((n:Int).tmod 256)=(u.toNat:Int)):=by show _=_;rw[<-d,Wa _ J,m,w8 _ J]
  have h:Hid (IntKind.i64.wrap ((n:Int).tdiv 256)=((n/256:Nat):Int)):=by show _=_;rw[l,Sj _ J]
  have g:Hid (IntKind.i64.wrap (((k+1:Nat):Int)-1)=(k:Int)):=by show _=_;rw[Sj _ J];omega
  have p:(((k+1:Nat):Int)==0)=false:=Ax
  have f:Hid (BY n (k+1)=BY (n/256) k++[u]):=by show _=_;rw[eC,d]
  have q:¬((BY (n/256) k).length+1>9223372036854775807):=by rw[Sk];omega
  rw[f.out];generalize((k+1:Nat):Int)=k1 at *;go_enter func79,ntmps79
  go_wp2_with fail
  refine DA (S:=λ_=>True) trivial M ?_;intro a;refine BE 0 7 (I K n) a ?_;refine BL 1 8 (I K ((n/256:Nat):Int)) Z (λb _=>?y1) a ?_
  case y1=>(go_simp;exact h)
  refine BE 2 9 (I K k1) a ?_;refine BL 3 10 (I K k) Z (λb _=>?y2) a ?_
  case y2=>(go_simp;exact g)
  refine BE 5 12 (I K n) a ?_;refine BL 6 13 (I K ((n:Int).tmod 256)) Z (λb _=>?y3) a ?_
  case y3=>go_simp
  refine BL 7 14 (I .u8 u.toNat) Z (λb _=>?y4) a ?_
  case y4=>(go_simp;exact i)
  refine eB 4 8 9 11 15 16 79 (D6 (BY (n/256) k)) u ⟨Z,Z,Z⟩ Z M (λ_ _ _=>⟨M,M,M⟩) (λ_=>⟨M,M⟩) c (λ_ _=>trivial) (λV y o=>?_);refine BL 10 17 (D6 (BY (n/256) k++[u])) Z (λb _=>?y5) a ?_
  case y5=>(unfold D6;go_simp;exact JB _ [u])
  refine BE 11 4 (D6 (BY (n/256) k++[u])) a ?_;refine Cv ?_;go_simp;go_wp2;go_ret;exact⟨Z,(Cm (w:=W)).drew.trans o⟩
def JC(n:Nat):Nat:=if n<256 then 0 else if n<65536 then 1 else if n<4294967296 then 2 else 3
def vT(n:Nat):JC n<=3:=by
 unfold JC;split
 ·omega
 split
 ·omega
 split<;>omega
def vU(W:O)(n:Int):Am X 77 #[I K n] W λe f=>e=Af (I K ((2^JC n.toNat:Nat):Int))/\A0 W f:=by
 have h:(n<256/\Hid (JC n.toNat=0))\/(¬n<256/\n<65536/\Hid (JC n.toNat=1))\/(¬n<256/\¬n<65536/\n<4294967296/\Hid (JC n.toNat=2))\/(¬n<256/\¬n<65536/\¬n<4294967296/\Hid (JC n.toNat=3)):=by
  unfold JC Hid;by_cases a:n<256
  ·exact .inl ⟨a,BA J⟩
  by_cases b:n<65536
  ·exact .inr (.inl ⟨a,b,by rw[Bz J,BA J]⟩)
  by_cases c:n<4294967296
  ·exact .inr (.inr (.inl ⟨a,b,c,by rw[Bz J,Bz J,BA J]⟩))
  exact .inr (.inr (.inr ⟨a,b,c,by rw[Bz J,Bz J,Bz J]⟩))
 rcases h with⟨a,d⟩|⟨a,b,d⟩|⟨a,b,c,d⟩|⟨a,b,c,d⟩
 all_goals
  go_enter func77,ntmps77;go_wp2;go_ret;rw[d.out];exact⟨Z,Cm⟩
def Wc{j m:Nat}(h:j<=m)(a:m<=3):1<=2^j/\2^j<=8:=by
 rcases(show j=0\/j=1\/j=2\/j=3 by omega)with rfl|rfl|rfl|rfl<;>decide
def eE(w:O)(v:Int)(b:UInt8)(a:v=b.toNat):(convert 38 9 (G (U ⟨w.heap.size,0,Y⟩) 1 1)).run X (w.alloc (E #[I .u8 v] 5))=.ok (A9 ⟨#[b]⟩) (w.alloc (E #[I .u8 v] 5)):=by
 subst a;exact eA _ _ b (BB (BI w _) 0)
def vV(s n:Nat)(h:¬n<24):BW s n=UInt8.ofNat (32*s+24+JC n)::BY n (2^JC n):=by
 unfold BW JC;rw[Bz h];by_cases a:n<256
 ·rw[BA J,BA a]
 rw[Bz J,Bz a];by_cases b:n<65536
 ·rw[BA J,BA b]
 rw[Bz J,Bz b];by_cases c:n<4294967296
 ·rw[BA J,BA c]
 rw[Bz J,Bz c]
def Oq(W:World)(s n:Nat)(hs:s<=7)(P:n<=9223372036854775807):Calls prog 74 #[.int .i64 s,.int .i64 n] W λe B=>e=.returned (D6 (BW s n))/\Below W.heap.size W B:=by
 by_cases t:n<24
 ·obtain⟨u,f⟩:∃u,UInt8.ofNat (32*s+n)=u:=⟨_,rfl⟩
  have k:Hid (BW s n=[u]):=by show _=_;unfold BW;rw[BA t,f]
  rw[k.out];have hc:=eE W ((s:Int)*32+n) u (by rw[<-f,Wa _ J];omega);have L:(n:Int)<24:=J
  go_enter func74,ntmps74;go_wp2;go_ret;exact⟨Z,BN⟩
 obtain⟨m,q⟩:∃m,JC n=m:=⟨_,rfl⟩
 have v:=q▸vT n;obtain⟨u,f⟩:∃u,UInt8.ofNat (32*s+24+m)=u:=⟨_,rfl⟩
 have w:Hid ((u.toNat:Int)=(s:Int)*32+(24+m:Nat)):=by show _=_;rw[<-f,Wa _ J];omega
 have k:Hid (BW s n=[u]++BY n (2^m)):=by show _=_;rw[vV s n t,q,f];rfl
 rw[k.out];have p:=λV=>vU V (n:Int);rw[I3,q]at p;have r:=λV=>eD (2^m) n V P (Wc (BM m) v).2;have H:¬(1+(BY n (2^m)).length>9223372036854775807):=by rw[Sk];have:=(Wc (BM m) v).2;omega
 obtain⟨c,l⟩:∃c:Nat,Hid (2^m=c):=⟨_,show _=_ from rfl⟩
 rw[l.out]at p r H ⊢;have L:¬(n:Int)<24:=J
 go_enter func74,ntmps74
 go_wp2_with(first|(go_at_call 77;refine(p _).mono ?_;rintro e Q ⟨rfl,D⟩))
 go_loopg[6,7] m (λg R y wr=>∃j d:Nat,R=.int .i64 ((24+j:Nat):Int)/\y=.int .i64 d/\wr=Q/\Hid (j+g=m)/\Hid (d=2^j))
 case atStart=>exact⟨0,1,rfl,rfl,rfl,AD,rfl⟩
 case round =>
  obtain⟨j,d,rfl,rfl,rfl,h,i⟩:=hrel;have F:j<=3:=Ao h.out
  have h8:d<=8:=by rw[i.out];exact(Wc (BM j) F).2
  cases gk with
  |zero =>
   obtain rfl:j=m:=h.out;have N:¬(d:Int)<(c:Int):=by
    have:=i.out;have:=l.out;omega
   have x:Hid (IntKind.i64.wrap ((s:Int)*32)=(s:Int)*32):=Sj _ J;have z:Hid (IntKind.i64.wrap ((s:Int)*32+(24+j:Nat))=u.toNat):=by show _=_;rw[w.out];exact Sj _ J
   have A:Hid (IntKind.u8.wrap (u.toNat:Int)=u.toNat):=w8 _ (Ao u.toNat_lt)
   go_wp2_with fail
   refine DA (S:=λ_=>True) trivial M ?_;intro b;refine BE 0 26 (.int .i64 s) b ?_;refine BL 1 27 (.int .i64 ((s:Int)*32)) Z (λo _=>?y1) b ?_
   case y1=>(go_simp<;>exact x.out)
   refine BE 2 28 (.int .i64 ((24+j:Nat):Int)) b ?_;refine BL 3 29 (.int .i64 u.toNat) Z (λo _=>?y2) b ?_
   case y2=>(go_simp<;>exact z.out)
   refine BL 4 30 (.int .u8 u.toNat) Z (λo _=>?y3) b ?_
   case y3=>(go_simp<;>exact A.out)
   refine BE 7 33 (.int .i64 n) b ?_;refine BE 8 34 (.int .i64 c) b ?_;refine eB 9 5 6 35 31 32 79 (D6 (BY n c)) u ⟨Z,Z,Z⟩ Z M (λ_ _ _=>⟨M,M,M⟩) (λ_=>⟨M,M⟩) r (λ_ _=>trivial) (λV aa C=>?_);refine BL 10 36 (D6 ([u]++BY n c)) Z (λo _=>?y5) b ?_
   case y5=>(unfold D6;go_simp;exact JB [u] _)
   refine BE 11 4 (D6 ([u]++BY n c)) b ?_;refine Cv ?_;go_simp;go_wp2;go_ret;exact⟨Z,vS D C⟩
  |succ g =>
   have N:(d:Int)<(c:Int):=by
    have e:=h.out;have:=Nat.pow_lt_pow_right (a:=2) Ay (show j<m by omega);rw[l.out,<-i.out]at this;omega
   go_wp2;go_roundg g
   case measure=>omega
   case rel=>exact⟨j+1,d*2,AE,AE,rfl,Ap h.out,by show _=_;rw[i.out,Jf]⟩
end
end Go.Proofs.YtnlnjkggkbbdhaaGreatDoor
