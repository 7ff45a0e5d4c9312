import Derived.Shelf.Unicode.DecodeSlow
import Derived.ProofKit
import Derived.OpenShut
import Derived.Deep.Slices
import Derived.SizedLaws
import Derived.Defers
import Derived.Lib.ValidU
import Derived.Test.YtoegnhgofkhbnaaGreatDoorHq04
set_option maxRecDepth 100000
set_option maxHeartbeats 8000000
set_option linter.all false
namespace Go.Proofs.YtoegnhgofkhbnaaGreatDoor
open Go.Proofs.Tryz
open Go.Value renaming int->A7,slice->A8,tuple->Ab,bool->Ad
open Go.Ending renaming returned->Ag
open Go.IntKind renaming i64->Ah
open Option renaming some->Aj,none->Ak
open Go renaming World->Al,Value->Am,Calls->An
variable{W w w':Al}{v:Am}{f fuel i n:Nat}{cs:List Am}{c:UInt8}{l:A2}{ps:List ByteArray}
section
open Go.RowKit
structure AN where
 labels:Int
 L:List (Int×Int)
 ea:A5
 ecap:Nat
 dflt:Int
 pol:ByteArray
 clr:Int
 key:Int
 inn:Int
 out:Int
 depth:Int
 bytes:Int
 B:List Int
 ba:A5
 bcap:Nat
def AN.arr(c:AN):A4:=#[A7 Ah c.labels,A8 c.ea c.L.length c.ecap,A7 Ah c.dflt,.string c.pol,A7 Ah c.clr,A7 Ah c.key,A7 Ah c.inn,A7 Ah c.out,A7 Ah c.depth,A7 Ah c.bytes,A8 c.ba c.B.length c.bcap]
theorem AN.size(c:AN):c.arr.size=11:=rfl
theorem AN.one(c:AN):c.arr.all (·.oneCell')=true:=by simp[AN.arr,Value.oneCell']
structure Et(w:World)(c:AN):Prop where
 edges:Es w c.ea c.L
 ints:GL w c.ba c.B
 en:c.ea=none->c.L.length=0/\c.ecap=0
 bn:c.ba=none->c.B.length=0/\c.bcap=0
 eb:(c.L.length+8)*16<=281474976710656
 bb:(c.B.length+8)*8<=281474976710656
theorem Et.below{c:AN}(h:Et w c)(a:A1 w w'):Et w' c:=⟨h.edges.below a,h.ints.below a,h.en,h.bn,h.eb,h.bb⟩
structure Gq(w:World):Prop where
 signs:∃t fr,w.heap[0]?=some (.cells #[.string ⟨#[42]⟩,.int .i64 0,.string ⟨#[42,42]⟩,.int .i64 1,.string ⟨#[91,93]⟩,.int .i64 2] t fr)
 tabs:Lib.Utf8Tabs 4 5 w
 mlen:∃m,w.cell? ⟨3,0,none⟩=some (.int .i64 m)
theorem Gq.below(h:Gq w)(a:A1 w w'):Gq w':=by
 obtain⟨t,d,b⟩:=h.signs;obtain⟨m,c⟩:=h.mlen;exact⟨⟨t,d,(a.block _ (At b)).trans b⟩,Utf8Tabs_below h.tabs a,⟨m,(a.cell (p:=⟨_,0,Ak⟩) (F8 c)).trans c⟩⟩
def aP(f:Nat)(E N:AN->Int):Prop:=∀(c:AN) (w:Al),Et w c->Gq w->An prog f #[.agg c.arr] w λe w'=>e=Ag (Ab #[A7 Ah (E c),A7 Ah (N c)])/\A1 w w'
theorem AN.f1(c:AN):c.arr[1]?=Aj (A8 c.ea c.L.length c.ecap):=rfl
theorem AN.f10(c:AN):c.arr[10]?=Aj (A8 c.ba c.B.length c.bcap):=rfl
def BI(c:Int)(n:Nat):Nat:=((if c<0 then -(c+1)else c)%(n:Int)).toNat
theorem Fx(c:Int)(n:Nat)(h:1<=n):BI c n<n:=by
 unfold BI;have a:=QO (if c<0 then -(c+1)else c) (show(n:Int)≠0 by omega);have b:=Int.emod_lt_of_pos (if c<0 then -(c+1)else c) (show(0:Int)<n by omega);omega
end
section
open Go.RowKit Go.Deep
theorem Ic:prog.cellsOf 3=1:=by kernel_rfl
theorem UT:prog.cellsOf 9=1:=by kernel_rfl
theorem aQ:prog.cellsOf 22=1:=by kernel_rfl
theorem aR:prog.cellsOf 23=1:=by kernel_rfl
theorem aS:prog.cellsOf 25=11:=by kernel_rfl
theorem aT:prog.cellsOf 40=2:=by kernel_rfl
theorem aU:prog.bytesOf 40=16:=by kernel_rfl
theorem aV:prog.bytesOf 3=8:=by kernel_rfl
theorem UU{a:Addr}(h:w.cell? (a.add 0)=Aj v):∃b off,a=⟨b,off,Ak⟩/\b<w.heap.size:=by
 obtain⟨b,off,d⟩:=a;have c:d=Ak:=by simpa[Addr.add]using World.cell?_spot h
 subst c;rw[KQ]at h;exact⟨b,off,rfl,F8 h⟩
theorem OS{α:Type}{l:List α}(h:l.length=2):∃a b,l=[a,b]:=by
 match l,h with
 |[a,b],_=>exact⟨a,b,rfl⟩
section
variable{H:Type} {enc:TypeId×Am->H} {w:Al}
theorem aW{x:DataW H×List MemPlace}(h:DataW.trod enc prog w 0 (λ_=>true) true fuel 23 [v]=Aj x)(l:(x.1.weights prog 23).all (·<=reachBytes)=true):∃(a:A5) (d:Nat) (B:List Int),v=A8 a B.length d/\GL w a B/\(a=Ak->B.length=0/\d=0)/\(B.length+8)*8<=281474976710656:=by
 rcases open_slice1 underlying23 Ic h with⟨f,_⟩|⟨a,len,d,m,n,V,D,y,f,_,F,G,t,rfl,g⟩
 ·cases f;exact⟨Ak,0,[],rfl,⟨λi c=>by simp at c⟩,λ_=>⟨rfl,rfl⟩,by decide⟩
 cases f;have s:m=d:=by rw[t];rfl
 subst s;have A:m*8<=reachBytes:=by
  rw[D7]at l;have:=l (((List.range len).map D).length+((List.range (m-len)).map λj=>D (len+j)).length |>.mul (prog.bytesOf 3)) (by
   simp only[DataW.weights,underlying23];exact Gg ..)
  rw[aV]at this;simp at this;have e:len+(m-len)=m:=by omega
  have o:(len+(m-len))*8<=reachBytes:=by simpa using this
  rwa[e]at o
 have k:∀i,i<m->∃z:Int,V i=A7 Ah z:=λi c=>by
  obtain⟨z,k,_⟩:=G0 underlying3 (g i c).2;exact⟨z,by simpa using k⟩
 obtain⟨Z,p⟩:=choose_lt k;refine⟨Aj a,m,(List.range len).map Z,by simp,⟨λi c=>?_⟩,λu=>(by cases u),?_⟩
 ·have C:i<len:=by simpa using c
  obtain⟨b,off,rfl,r⟩:=UU (g 0 (by omega)).1;refine⟨b,off,rfl,r,λj q=>?_⟩;have E:j<len:=by simpa using q
  have:=(g j (by omega)).1;rw[KQ]at this;rw[this,p j (by omega)];simp
 have:reachBytes=140737488351232:=rfl;simp;omega
theorem GN{xs:List (DataW H×List MemPlace)}{fs:Array Field}(c:∀(i:Nat) (f:Field),fs[i]?=Aj f->DataW.trod enc prog w 0 (λ_=>true) true n f.type ((cs.drop f.offset).take (prog.cellsOf f.type))=xs[i]?)(i:Nat){f:Field}(h:fs[i]?=Aj f)(t:TypeId)(o:Nat)(k:f.type=t)(j:f.offset=o)(b:prog.cellsOf t=1)(a:cs[o]?=Aj v){y:DataW H×List MemPlace}(l:xs[i]?=Aj y):DataW.trod enc prog w 0 (λ_=>true) true n t [v]=Aj y:=by
 subst k j;have g:=c i f h;rw[b,l]at g;have e:(cs.drop f.offset).take 1=[v]:=by
  rw[J8]at a;obtain⟨d,rfl⟩:=a;rw[F5 d];rfl
 rwa[e]at g
theorem aX{x:DataW H×List MemPlace}(h:DataW.trod enc prog w 0 (λ_=>true) true fuel 22 [v]=Aj x)(y:(x.1.weights prog 22).all (·<=reachBytes)=true):∃(a:A5) (d:Nat) (L:List (Int×Int)),v=A8 a L.length d/\Es w a L/\(a=Ak->L.length=0/\d=0)/\(L.length+8)*16<=281474976710656:=by
 rcases open_slice underlying22 h with⟨k,_⟩|⟨a,len,d,m,n,D,U,k,_,X,Y,J,rfl,M⟩
 ·cases k;exact⟨Ak,0,[],rfl,⟨λi c=>by simp at c⟩,λ_=>⟨rfl,rfl⟩,by decide⟩
 cases k;have I:m=d:=by rw[J];rfl
 subst I;have V:m*16<=reachBytes:=by
  rw[D7]at y;have:=y (((List.range len).map D).length+((List.range (m-len)).map λj=>D (len+j)).length |>.mul (prog.bytesOf 40)) (by
   simp only[DataW.weights,underlying22];exact Gg ..)
  rw[aU]at this;simp at this;have e:len+(m-len)=m:=by omega
  have f:(len+(m-len))*16<=reachBytes:=by simpa using this
  rwa[e]at f
 have P:∀i,i<m->∃z:Int×Int,w.cell? (a.add (i*2))=Aj (A7 Ah z.1)/\w.cell? ((a.add (i*2)).add 1)=Aj (A7 Ah z.2):=λi c=>by
  obtain⟨E,r,f⟩:=M i c;rw[aT]at r;obtain⟨_,F,t⟩:=World.cells?_some r;obtain⟨A,n',_,_,_,N,u⟩:=OC underlying40 f;obtain⟨l,o,rfl⟩:∃l o,E=[l,o]:=by
   exact OS F
  obtain⟨B,C,rfl⟩:∃B C,A=[B,C]:=by
   have O:A.length=2:=N;exact OS O
  ·have Q:=GN u 0 rfl 3 0 rfl rfl Ic rfl rfl;have R:=GN u 1 rfl 3 1 rfl rfl Ic rfl rfl;obtain⟨S,p,_⟩:=G0 underlying3 Q;obtain⟨T,q,_⟩:=G0 underlying3 R;simp at p q;subst p q;refine⟨(S,T),?_,?_⟩
   ·have:=t 0 (by omega);rw[add_add,LJ]at this;exact this
   exact t 1 (by omega)
 obtain⟨Z,s⟩:=choose_lt P;refine⟨Aj a,m,(List.range len).map Z,by simp,⟨λi c=>?_⟩,λK=>(by cases K),?_⟩
 ·have W:i<len:=by simpa using c
  obtain⟨b,off,rfl,G⟩:=UU (by have:=(s 0 (by omega)).1;rwa[Nat.zero_mul]at this);have g:=s i (by omega);rw[add_add,KQ,KQ]at g;refine⟨b,off,rfl,G,?_,?_⟩
  ·rw[g.1];simp
  rw[Nat.add_assoc,g.2];simp
 have:reachBytes=140737488351232:=rfl;simp;omega
theorem Jg{z:Int}(h:(Lit.int Ah z).wf=true):-9223372036854775808<=z/\z<=9223372036854775807:=by
 simp[Lit.wf,IntKind.min,IntKind.max,IntKind.signed,IntKind.bits]at h;omega
theorem aY{x:DataW H×List MemPlace}(h:DataW.trod enc prog w 0 (λ_=>true) true fuel 25 cs=Aj x)(d:(x.1.weights prog 25).all (·<=reachBytes)=true):∃c:AN,cs=c.arr.toList/\Et w c/\(∀x∈[c.labels,c.dflt,c.clr,c.inn,c.out,c.depth,c.bytes,c.key],-9223372036854775808<=x/\x<=9223372036854775807)/\c.pol.size<=281474976710656:=by
 obtain⟨xs,aa,_,rfl,q,V,a⟩:=OC underlying25 h;rw[aS]at q
 match cs,q,xs,V with
 |[v0,v1,v2,v3,v4,v5,v6,v7,v8,v9,v10],_,[y0,y1,y2,y3,y4,y5,y6,y7,y8,y9,y10],_ =>
  simp only[DataW.weights,underlying25,CT,GJ,DataW.weightsEach,LE,Ch]at d;have C:=GN a 0 rfl 3 0 rfl rfl Ic rfl rfl;have D:=GN a 1 rfl 22 1 rfl rfl aQ rfl rfl;have F:=GN a 2 rfl 3 2 rfl rfl Ic rfl rfl;have G:=GN a 3 rfl 9 3 rfl rfl UT rfl rfl;have I:=GN a 4 rfl 3 4 rfl rfl Ic rfl rfl;have J:=GN a 5 rfl 3 5 rfl rfl Ic rfl rfl;have K:=GN a 6 rfl 3 6 rfl rfl Ic rfl rfl;have M:=GN a 7 rfl 3 7 rfl rfl Ic rfl rfl;have N:=GN a 8 rfl 3 8 rfl rfl Ic rfl rfl;have O:=GN a 9 rfl 3 9 rfl rfl Ic rfl rfl;have E:=GN a 10 rfl 23 10 rfl rfl aR rfl rfl;obtain⟨z0,e,_,X⟩:=G0 underlying3 C;obtain⟨z2,f,_,Y⟩:=G0 underlying3 F;obtain⟨b,g,x3,_⟩:=Uv underlying9 G;obtain⟨z4,i,_,Z⟩:=G0 underlying3 I;obtain⟨z5,j,_,n⟩:=G0 underlying3 J;obtain⟨z6,k,_,w6⟩:=G0 underlying3 K;obtain⟨z7,l,_,w7⟩:=G0 underlying3 M;obtain⟨z8,m,_,w8⟩:=G0 underlying3 N;obtain⟨z9,o,_,w9⟩:=G0 underlying3 O;obtain⟨z,A,L,u,P,R,Q⟩:=aX (v:=v1) (by simpa using D) d.2.1;obtain⟨s,t,B,y,S,U,T⟩:=aW (v:=v10) (by simpa using E) d.2.2.2.2.2.2.2.2.2.2.1;have W:b.size<=281474976710656:=by
   have p:=d.2.2.2.1;rw[show y3.1=.lit (.string b.data.toList)from congrArg Prod.fst x3]at p;have h4:=By (D7.1 p b.data.toList.length (by unfold DataW.weights;exact Oz.2 rfl));have h5:reachBytes=140737488351232:=rfl;have h6:b.data.toList.length=b.size:=rfl;omega
  simp at e f g i j k l m o;subst e f g i j k l m o u y;refine⟨⟨z0,L,z,A,z2,b,z4,z5,z6,z7,z8,z9,B,s,t⟩,rfl,⟨P,S,R,U,Q,T⟩,λx r=>?_,W⟩;simp at r;rcases r with rfl|rfl|rfl|rfl|rfl|rfl|rfl|rfl
  all_goals
   first
   |exact Jg X
   |exact Jg Y
   |exact Jg Z
   |exact Jg n
   |exact Jg w6
   |exact Jg w7
   |exact Jg w8
   |exact Jg w9
end
end
section
open Go.RowKit
theorem Az.same{V V':Al}{b:Nat}{s0 s:AQ}(c:Az W b s0)(q:s.ia=s0.ia)(o:s.bs=s0.bs)(h:Az V b s)(e:∀k,k<W.heap.size->V'.heap[k]?=V.heap[k]?):Az V' b s:=by
 have n:=At c.row;refine⟨(e b n).trans h.row,λi d=>?_,h.len,h.le⟩;obtain⟨g,off,a,f,j⟩:=h.inp i d;obtain⟨m,t,f1,r,l⟩:=c.inp i (by rw[<-o];exact d);have p:g=m:=by
  rw[q,f1]at a;injection a with a;injection a with a;exact a.symm
 refine⟨g,off,a,f,?_⟩;rw[GF (w:=V) (e g (by rw[p];exact F8 l))];exact j
def Vd(bs:A2)(lim:Int):Nat->Nat->A2->A6 A2
 |0,p,acc=>.ok (acc,p)
 |k+1,p,acc=>match bs[p]? with
  |none=>.error (9,p)
  |some c=>if(p:Int)=lim then .error (8,p)else Vd bs lim k (p+1) (acc++[c])
theorem eY(l:A2)(lo hi:Nat):EP lo hi l 1=true↔(1<l.length/\lo<=(l.getD 1 0).toNat/\(l.getD 1 0).toNat<=hi):=by
 unfold EP;rw[As rfl,Ch,Jc,Jc];omega
theorem VV(l:A2)(lo hi:Int)(j:Nat)(a:j≠1):EP lo hi l j=true↔(j<l.length/\128<=(l.getD j 0).toNat/\(l.getD j 0).toNat<=191):=by
 unfold EP;rw[Aq a,Ch,Jc,Jc]
theorem eZ(l:A2)(k lo hi:Nat)(i:k=2\/k=3\/k=4)(h:CH ((l.getD 0 0).toNat:Int)=((lo:Int),(hi:Int),(k:Int))):Ea l=(Lib.checkN l.length (l.getD 1 0).toNat (l.getD 2 0).toNat (l.getD 3 0).toNat k lo hi).getD 0:=by
 unfold Ea Fi;rw[h];simp only[];rw[Aq (show¬((k:Nat):Int)=0 by omega)];have d:=eY l lo hi;have e:=VV l lo hi 2 (by omega);have g:=VV l lo hi 3 (by omega);generalize(l.getD 0 0)=b0 at *;generalize(l.getD 1 0)=b1 at *;generalize(l.getD 2 0)=b2 at *;generalize(l.getD 3 0)=b3 at *;rcases i with rfl|rfl|rfl
 ·cases a:EP lo hi l 1
  ·have c:l.length<2\/b1.toNat<lo\/hi<b1.toNat:=by rw[a]at d;simp at d;omega
   simp[Ej,a,Lib.checkN,c]
  have c:¬(l.length<2\/b1.toNat<lo\/hi<b1.toNat):=by have:=d.1 a;omega
  simp[Ej,a,Lib.checkN,c]
 ·cases a:EP lo hi l 1
  ·have c:l.length<3\/b1.toNat<lo\/hi<b1.toNat\/b2.toNat<128\/191<b2.toNat:=by rw[a]at d;simp at d;omega
   simp[Ej,a,Lib.checkN,c]
  cases b:EP lo hi l 2
  ·have c:l.length<3\/b1.toNat<lo\/hi<b1.toNat\/b2.toNat<128\/191<b2.toNat:=by rw[b]at e;simp at e;omega
   simp[Ej,a,b,Lib.checkN,c]
  have c:¬(l.length<3\/b1.toNat<lo\/hi<b1.toNat\/b2.toNat<128\/191<b2.toNat):=by have:=d.1 a;have:=e.1 b;omega
  simp[Ej,a,b,Lib.checkN,c]
 cases a:EP lo hi l 1
 ·have c:l.length<4\/b1.toNat<lo\/hi<b1.toNat\/b2.toNat<128\/191<b2.toNat\/b3.toNat<128\/191<b3.toNat:=by rw[a]at d;simp at d;omega
  simp[Ej,a,Lib.checkN,c]
 cases b:EP lo hi l 2
 ·have c:l.length<4\/b1.toNat<lo\/hi<b1.toNat\/b2.toNat<128\/191<b2.toNat\/b3.toNat<128\/191<b3.toNat:=by rw[b]at e;simp at e;omega
  simp[Ej,a,b,Lib.checkN,c]
 cases f:EP lo hi l 3
 ·have c:l.length<4\/b1.toNat<lo\/hi<b1.toNat\/b2.toNat<128\/191<b2.toNat\/b3.toNat<128\/191<b3.toNat:=by rw[f]at g;simp at g;omega
  simp[Ej,a,b,f,Lib.checkN,c]
 have c:¬(l.length<4\/b1.toNat<lo\/hi<b1.toNat\/b2.toNat<128\/191<b2.toNat\/b3.toNat<128\/191<b3.toNat):=by have:=d.1 a;have:=e.1 b;have:=g.1 f;omega
 simp[Ej,a,b,f,Lib.checkN,c]
theorem f7(l:A2)(h:(CH ((l.getD 0 0).toNat:Int)).2.2=0):Ea l=0:=by
 unfold Ea Fi;rw[As h];rfl
theorem f8(l:A2)(h:(l.getD 0 0).toNat<128):Ea l=1:=by
 have e:CH ((l.getD 0 0).toNat:Int)=(0,0,1):=by unfold CH;rw[As (by omega)]
 unfold Ea Fi;rw[e];rfl
set_option linter.unusedSimpArgs false in
theorem f9(l:List UInt8)(t:128<=(l.getD 0 0).toNat):Ea l=(Lib.checkN l.length (l.getD 1 0).toNat (l.getD 2 0).toNat (l.getD 3 0).toNat (Lib.firstT (l.getD 0 0).toNat%8) (Lib.accLo (Lib.firstT (l.getD 0 0).toNat/16)) (Lib.accHi (Lib.firstT (l.getD 0 0).toNat/16))).getD 0:=by
 have u:=(l.getD 0 0).toNat_lt
 have key:∀k m j,Lib.firstT (l.getD 0 0).toNat%8=k->Lib.accLo (Lib.firstT (l.getD 0 0).toNat/16)=m->Lib.accHi (Lib.firstT (l.getD 0 0).toNat/16)=j->(k=2\/k=3\/k=4)->CH ((l.getD 0 0).toNat:Int)=((m:Int),(j:Int),(k:Int)) ->
   Ea l=(Lib.checkN l.length (l.getD 1 0).toNat (l.getD 2 0).toNat (l.getD 3 0).toNat (Lib.firstT (l.getD 0 0).toNat%8) (Lib.accLo (Lib.firstT (l.getD 0 0).toNat/16)) (Lib.accHi (Lib.firstT (l.getD 0 0).toNat/16))).getD 0:=λk m j p q r s n=>by
  rw[p,q,r]
  exact eZ l k m j s n
 have o:Lib.firstT (l.getD 0 0).toNat=241->(CH ((l.getD 0 0).toNat:Int)).2.2=0 ->
   Ea l=(Lib.checkN l.length (l.getD 1 0).toNat (l.getD 2 0).toNat (l.getD 3 0).toNat (Lib.firstT (l.getD 0 0).toNat%8) (Lib.accLo (Lib.firstT (l.getD 0 0).toNat/16)) (Lib.accHi (Lib.firstT (l.getD 0 0).toNat/16))).getD 0:=λe n=>by
  rw[e,f7 l n]
  rfl
 generalize hb:(l.getD 0 0).toNat=b0 at *
 by_cases a:b0<194
 ·exact o (by unfold Lib.firstT;rw[Aq (by omega),As a]) (by unfold CH;repeat(first|rw[Aq (by omega)]|rw[As (by omega)]))
 by_cases b:b0<224
 ·exact key 2 128 191 (by simp[Lib.firstT,show¬b0<128 by omega,a,b]) (by simp[Lib.firstT,Lib.accLo,show¬b0<128 by omega,a,b]) (by simp[Lib.firstT,Lib.accHi,show¬b0<128 by omega,a,b]) (by omega) (by unfold CH;(repeat(first|rw[Aq (by omega)]|rw[As (by omega)]));rfl)
 by_cases c2:b0=224
 ·exact key 3 160 191 (by simp[Lib.firstT,show¬b0<128 by omega,a,b,c2]) (by simp[Lib.firstT,Lib.accLo,show¬b0<128 by omega,a,b,c2]) (by simp[Lib.firstT,Lib.accHi,show¬b0<128 by omega,a,b,c2]) (by omega) (by unfold CH;(repeat(first|rw[Aq (by omega)]|rw[As (by omega)]));rfl)
 by_cases c:b0<237
 ·exact key 3 128 191 (by simp[Lib.firstT,show¬b0<128 by omega,a,b,c2,c]) (by simp[Lib.firstT,Lib.accLo,show¬b0<128 by omega,a,b,c2,c]) (by simp[Lib.firstT,Lib.accHi,show¬b0<128 by omega,a,b,c2,c]) (by omega) (by unfold CH;(repeat(first|rw[Aq (by omega)]|rw[As (by omega)]));rfl)
 by_cases d:b0=237
 ·exact key 3 128 159 (by simp[Lib.firstT,show¬b0<128 by omega,a,b,c2,c,d]) (by simp[Lib.firstT,Lib.accLo,show¬b0<128 by omega,a,b,c2,c,d]) (by simp[Lib.firstT,Lib.accHi,show¬b0<128 by omega,a,b,c2,c,d]) (by omega) (by unfold CH;(repeat(first|rw[Aq (by omega)]|rw[As (by omega)]));rfl)
 by_cases f:b0<240
 ·exact key 3 128 191 (by simp[Lib.firstT,show¬b0<128 by omega,a,b,c2,c,d,f]) (by simp[Lib.firstT,Lib.accLo,show¬b0<128 by omega,a,b,c2,c,d,f]) (by simp[Lib.firstT,Lib.accHi,show¬b0<128 by omega,a,b,c2,c,d,f]) (by omega) (by unfold CH;(repeat(first|rw[Aq (by omega)]|rw[As (by omega)]));rfl)
 by_cases g:b0=240
 ·exact key 4 144 191 (by simp[Lib.firstT,show¬b0<128 by omega,a,b,c2,c,d,f,g]) (by simp[Lib.firstT,Lib.accLo,show¬b0<128 by omega,a,b,c2,c,d,f,g]) (by simp[Lib.firstT,Lib.accHi,show¬b0<128 by omega,a,b,c2,c,d,f,g]) (by omega) (by unfold CH;(repeat(first|rw[Aq (by omega)]|rw[As (by omega)]));rfl)
 by_cases h:b0<244
 ·exact key 4 128 191 (by simp[Lib.firstT,show¬b0<128 by omega,a,b,c2,c,d,f,g,h]) (by simp[Lib.firstT,Lib.accLo,show¬b0<128 by omega,a,b,c2,c,d,f,g,h]) (by simp[Lib.firstT,Lib.accHi,show¬b0<128 by omega,a,b,c2,c,d,f,g,h]) (by omega) (by unfold CH;(repeat(first|rw[Aq (by omega)]|rw[As (by omega)]));rfl)
 by_cases i:b0=244
 ·exact key 4 128 143 (by simp[Lib.firstT,show¬b0<128 by omega,a,b,c2,c,d,f,g,h,i]) (by simp[Lib.firstT,Lib.accLo,show¬b0<128 by omega,a,b,c2,c,d,f,g,h,i]) (by simp[Lib.firstT,Lib.accHi,show¬b0<128 by omega,a,b,c2,c,d,f,g,h,i]) (by omega) (by unfold CH;(repeat(first|rw[Aq (by omega)]|rw[As (by omega)]));rfl)
 ·exact o (by simp[Lib.firstT,show¬b0<128 by omega,a,b,c2,c,d,f,g,h,i]) (by unfold CH;repeat(first|rw[Aq (by omega)]|rw[As (by omega)]))
theorem ff(l:A2)(e:l≠[]):(Ea l=0/\Lib.decodeL l=(65533,1))\/(1<=Ea l/\(Lib.decodeL l).2=Ea l/\¬((Lib.decodeL l).1=65533/\(Lib.decodeL l).2=1)):=by
 have f:=Um.2 e;by_cases h:(l.getD 0 0).toNat<128
 ·right;obtain⟨b,t,rfl⟩:∃b t,l=b::t:=List.exists_cons_of_ne_nil e;rw[f8 _ h,Lib.decodeL_ascii b t h];refine⟨AB _,rfl,λd=>?_⟩;have:b.toNat=65533:=d.1;have:=b.toNat_lt;omega
 rw[f9 l (by omega),Lib.decodeL_N];rcases Lib.check_decode l.length (l.getD 0 0).toNat (l.getD 1 0).toNat (l.getD 2 0).toNat (l.getD 3 0).toNat f (by omega) (l.getD 0 0).toNat_lt (l.getD 1 0).toNat_lt (l.getD 2 0).toNat_lt (l.getD 3 0).toNat_lt with⟨a,c⟩|⟨k,g,a,c⟩
 ·left;rw[a,c];exact⟨rfl,rfl⟩
 right;rw[a,c];exact⟨by show 1<=k;omega,rfl,λd=>by omega⟩
theorem fg(n a b c d:Nat)(e:128<=a):128<=(Lib.decodeN n a b c d).1:=by
 unfold Lib.decodeN
 repeat' split
 all_goals first|(simp;done)|(simp only[];omega)
def Jp(r:Nat):Bool:=decide (r<=32)||(r==42||(r==91||(r==93||(r==47||r==46))))
def GS:Nat->A2->Option Nat
 |_,[]=>Aj 0
 |0,_::_=>Ak
 |g+1,b::t=>if Jp (Lib.decodeL (b::t)).1=true then Ak else(GS g ((b::t).drop (Lib.decodeL (b::t)).2)).map (·+1)
theorem fh(b:UInt8)(t:A2):Jp (Lib.decodeL (b::t)).1=IK b:=by
 by_cases h:b.toNat<128
 ·rw[Lib.decodeL_ascii b t h];rfl
 have d:128<=(Lib.decodeL (b::t)).1:=by
  rw[Lib.decodeL_N];exact fg _ _ _ _ _ (by show 128<=b.toNat;omega)
 have a:Jp (Lib.decodeL (b::t)).1=false:=by
  unfold Jp;simp only[QA,U7,Dq];omega
 have c:IK b=false:=by
  unfold IK;simp only[QA,U7,Dq];omega
 rw[a,c]
theorem VW:∀(g:Nat) (l:A2),l.length<=g->Gr g l=if Lib.validD l then GS g l else Ak
 |g,[],_=>by cases g<;>simp[Gr,GS,Lib.validD_nil]
 |0,b::t,h=>by simp at h
 |g+1,b::t,h=>by
  rw[Lib.validD_step (b::t) (by simp)];rcases ff (b::t) (by simp)with⟨e,d⟩|⟨e,d,f⟩
  ·simp[Gr,e,d]
  rw[Aq f,Gr,GS,fh,d];by_cases a:IK b=true
  ·rw[As (Hn a),As a];split<;>rfl
  rw[Aq (by intro c;rcases c with c|c;omega;exact a c),Aq a,VW g _ (by rw[DK];simp at h ⊢;omega)];split<;>rfl
theorem VX(l:A2):DR l=(Lib.validD l&&P9 (GS l.length l)):=by
 unfold DR;rw[VW l.length l (AB _)];cases Lib.validD l
 ·rfl
 rfl
def D0(f:Int):Bool:=f==1||f==2||f==3
theorem S3(f:Int)(w:Al):An prog 74 #[A7 Ah f] w λe a=>e=Ag (Ad (D0 f))/\a=w:=by
 go_enter func74,ntmps74;go_wp2
 all_goals go_ret
 all_goals exact⟨by simp[D0, *],rfl⟩
theorem Ny(f:Int)(w:Al):An prog 19 #[A7 Ah f] w λe a=>e=Ag (Ad (D0 f))/\a=w:=by
 go_enter func19,ntmps19;go_wp2
 all_goals go_ret
 all_goals exact⟨by simp[D0, *],rfl⟩
def D3(i o d b:Int):Bool:=D0 i&&D0 o&&decide (1<=d)&&decide (d<=16)&&decide (1<=b)&&decide (b<=4096)
theorem gN(i o d b:Int)(w:Al):An prog 42 #[A7 Ah i,A7 Ah o,A7 Ah d,A7 Ah b] w λe j=>e=Ag (Ad (D3 i o d b))/\j=w:=by
 cases c:D0 i
 ·have a:Hid (D3 i o d b=false):=by show _=_;unfold D3;rw[c];rfl
  go_enter func42,ntmps42;have h:True:=trivial
  go_wp2_with(first
   |(go_at_call 74;clear h;refine(S3 _ _).mono ?_;rintro e g ⟨rfl,rfl⟩))
  go_ret;exact⟨by rw[a.out];rfl,rfl⟩
 cases f:D0 o
 ·have a:Hid (D3 i o d b=false):=by show _=_;unfold D3;rw[c,f];rfl
  go_enter func42,ntmps42
  go_wp2_with(first
   |(go_at_call 74;refine(S3 _ _).mono ?_;rintro e g ⟨rfl,rfl⟩))
  go_ret;exact⟨by rw[a.out];rfl,rfl⟩
 have a:Hid (D3 i o d b=(decide (1<=d)&&decide (d<=16)&&decide (1<=b)&&decide (b<=4096))):=by show _=_;unfold D3;rw[c,f];rfl
 go_enter func42,ntmps42
 go_wp2_with(first
  |(go_at_call 74;refine(S3 _ _).mono ?_;rintro e g ⟨rfl,rfl⟩))
 all_goals go_ret
 all_goals refine⟨?_,rfl⟩
 all_goals rw[a.out]
 all_goals simp[*]
 all_goals(intros;omega)
theorem Tryz.infoStr:(prog.info? 9).map (λi=>(i.zero,i.size,i.bytes))=Aj (Aj (.string ByteArray.empty),1,16):=by kernel_rfl
theorem iY(s:ByteArray)(a b:Nat):(s.extract a b).data.toList=(s.data.toList.take b).drop a:=by
 rw[QN];simp[List.drop_take]
structure JB(c:UInt8)(l:A2)(ps:List ByteArray)(f i:Nat):Prop where
 fi:f<=i
 il:i<=l.length
 len:ps.length<=i
 eq:B8 c l=ps.map (·.data.toList)++B8 c (l.drop f)
 no:∀x,x∈(l.take i).drop f->(x==c)=false
theorem JB.next(h:JB c l ps f i)(hi:i<l.length)(d:(l[i]==c)=false):JB c l ps f (i+1):=by
 refine⟨by have:=h.fi;omega,hi,by have:=h.len;omega,h.eq,λx b=>?_⟩;rw[Qu hi,ML (by rw[Hj];have:=h.fi;omega),N0]at b;rcases b with a|a
 ·exact h.no x a
 rw[Oz]at a;rw[a];exact d
theorem JB.found(h:JB c l ps f i)(hi:i<l.length)(d:l[i]=c)(p:ByteArray)(b:p.data.toList=(l.take i).drop f):JB c l (ps++[p]) (i+1) (i+1):=by
 refine⟨AB _,hi,by rw[AC];have:=h.len;simp;omega,?_,λx a=>?_⟩
 ·rw[h.eq,Eg,CE];congr 1;have e:l.drop f=(l.take i).drop f++c::l.drop (i+1):=by
   conv=>lhs;rw[<-Jb i l]
   rw[ML (by rw[Hj];have:=h.fi;omega),F5 hi,d]
  rw[e,Sf c _ _ h.no,<-b];rfl
 rw[J9 (by rw[Hj];omega)]at a;exact absurd a (by simp)
theorem JB.last(h:JB c l ps f l.length)(p:ByteArray)(a:p.data.toList=l.drop f):B8 c l=(ps++[p]).map (·.data.toList):=by
 rw[h.eq,Eg];congr 1;have:=h.no;rw[K0]at this;rw[Se c _ this,<-a];rfl
theorem Sg(s:ByteArray)(c:UInt8)(m:Int)(D:m=c.toNat)(w:Al)(Y:s.size<=100000):An prog 33 #[.string s,A7 .u8 m] w λe K =>
   ∃(v:Am) (a:List ByteArray),e=Ag v/\K.ownsRow w.heap.size 9 1 v a.length (a.map Value.string)/\A1 w K/\a.map (·.data.toList)=B8 c s.data.toList:=by
 obtain⟨J,E,G,H,I⟩:=BH Tryz.infoStr;have V:s.data.toList.length=s.size:=DB;have C:=Ap D;clear D;go_enter func33,ntmps33;go_wp2
 go_loopg[5,6,7] s.size (λg v x y wr=>∃(a:List ByteArray) (f i:Nat) (r:A5) (t:Nat),Hid (i+g=s.size)/\v=A8 r a.length t/\x=A7 Ah f/\y=A7 Ah i/\Hid (wr.ownsRow w.heap.size 9 1 v a.length (a.map Value.string))/\Hid (A1 w wr)/\Hid (JB c s.data.toList a f i))
 case atStart =>
  exact⟨[],0,0,Ak,0,by show _=_;omega,rfl,rfl,rfl,FK _ _ _ _,AT _ _,⟨AB _,Cy _,AB _,by simp,λx b=>by simp at b⟩⟩
 case round =>
  obtain⟨a,f,i,r,t,d,rfl,rfl,rfl,k,o,j⟩:=hrel;have S:=j.fi;have X:=j.len;have F:=o.size;have U:i<=s.size:=by have:=d.out;omega
  cases gk with
  |zero =>
   have O:¬(i:Int)<s.size:=by have:=d.out;omega
   have T:f<=s.size:=by omega
   go_wp2_with(first
    |(at_builtin;refine Bz _ rfl _ _ 59 rfl w.heap.size 9 J (.string ByteArray.empty) 1 16 underlying59 E G H I rfl (by decide) _ _ _ rfl (k.alloc _) ⟨wr.heap.size,0,Ak⟩ 1 1 [.string (s.extract f s.size)] rfl rfl (cell_one_new _ _ _) (λx b=>by simp at b;subst b;rfl) (by unfold maxLen;omega) (by omega) (by simp;omega) ?_;intro B R p z P))
   go_ret;have N:i=s.data.toList.length:=by have:=d.out;omega
   have L:=j.out;subst N;exact⟨B,rfl,a++[s.extract f s.size],by rw[AC,Eg];exact p,(o.alloc F _).grown z (by simp;omega) (λq A=>(k.lt q A).1),(L.last _ (Uq s f)).symm⟩
  |succ g =>
   have O:(i:Int)<s.size:=by have:=d.out;omega
   have W:i<s.size:=by omega
   by_cases u:(s[i].toNat:Int)=m
   ·have M:((s[i].toNat:Int)==m)=true:=by rw[Je];exact u
    go_wp2_with(first
     |(at_builtin;refine Bz _ rfl _ _ 59 rfl w.heap.size 9 J (.string ByteArray.empty) 1 16 underlying59 E G H I rfl (by decide) _ _ _ rfl (k.alloc _) ⟨wr.heap.size,0,Ak⟩ 1 1 [.string (s.extract f i)] rfl rfl (cell_one_new _ _ _) (λx b=>by simp at b;subst b;rfl) (by unfold maxLen;omega) (by omega) (by simp;omega) ?_;intro B R p z P))
    go_roundg g
    case measure=>omega
    case rel =>
     obtain⟨n,l,Q⟩:∃n l,B=A8 (Aj ⟨n,0,Ak⟩) (a.length+1) l:=by
      rcases p.2 with⟨_,h⟩|⟨n,l,_,h,_⟩
      ·omega
      exact⟨n,l,h⟩
     have b:s.data.toList[i]=c:=by
      have e:s[i].toNat=c.toNat:=by have:=C.out;omega
      exact K1.1 e
     exact⟨a++[s.extract f i],i+1,i+1,Aj ⟨n,0,Ak⟩,l,by show _=_;have:=d.out;omega,by rw[Q,AC];rfl,by go_num,by go_num,by show World.ownsRow _ _ _ _ _ _ _;rw[AC,Eg];exact p,(o.alloc F _).grown z (by simp;omega) (λq A=>(k.lt q A).1),j.found (by omega) b _ (iY s f i)⟩
   have M:((s[i].toNat:Int)==m)=false:=by rw[Dq];exact u
   go_wp2;go_roundg g
   case measure=>omega
   case rel =>
    refine⟨a,f,i+1,r,t,by show _=_;have:=d.out;omega,rfl,rfl,by go_num,k,o,j.next (by omega) ?_⟩;rw[Dq];intro e;exact u (by rw[C.out,<-e];rfl)
theorem Sh{base:Nat}(h:w.ownsRow base 9 1 v ps.length (ps.map Value.string))(o:0<ps.length):∃g a,v=A8 (Aj ⟨g,0,Ak⟩) ps.length a/\base<=g/\g<w.heap.size/\∀j (d:j<ps.length),w.cell? ⟨g,j,Ak⟩=Aj (.string ps[j]):=by
 obtain⟨_,⟨_,l⟩|⟨g,a,b,k,f,c,n,_,m,i⟩⟩:=h
 ·omega
 refine⟨g,a,k,f,(At c),λj d=>?_⟩;have e:b.toList[j]?=Aj (.string ps[j]):=by
  have:=congrArg (·[j]?) i;simp only[MS,GH]at this;rw[As (by omega),AY d]at this;exact this
 rw[DL w g j b _ _ c];simpa using e
theorem Si(c:UInt8):∀l:A2,(B8 c l).length<=l.length+1
 |[]=>by simp[B8]
 |x::r=>by
  have d:=Si c r;unfold B8;split
  ·simp only[Bq];omega
  cases h:B8 c r with
  |nil=>simp
  |cons a b=>rw[h]at d;simp only[Bq]at *;omega
theorem L6(c:UInt8):∀(l p:A2),p∈B8 c l->p.length<=l.length
 |[],p,h=>by simp[B8]at h;subst h;exact AB _
 |x::r,p,h=>by
  have d:=λq=>L6 c r q;unfold B8 at h;split at h
  ·rcases Gi.1 h with rfl|h
   ·exact Cy _
   exact MU (d p h)
  cases e:B8 c r with
  |nil=>exact absurd e (Sd _ _)
  |cons a b =>
   rw[e]at h d;rcases Gi.1 h with rfl|h
   ·exact Nat.succ_le_succ (d a (Gg ..))
   exact MU (d p (GG _ h))
theorem Po(h:ps.map (·.data.toList)=B8 c l):0<ps.length:=by
 rcases ps with _|⟨a,b⟩
 ·exact absurd h.symm (Sd _ _)
 simp
def DV(l:A2):Bool:=DR l||(l==[42]||(l==[42,42]||l==[91,93]))
def Dh(l:A2):Bool:=l==[46]||((B8 47 l).all DV&&decide ((B8 47 l).length<=8))
theorem iZ(s:ByteArray)(w:Al)(W:s.size<=100000):An prog 55 #[.string s] w λe X =>
   ∃a n K,e=Ag (Ab #[A8 a n K,Ad (Dh s.data.toList)])/\A1 w X:=by
 cases N:(s.toList==[46])
 ·have t:Hid (Dh s.data.toList=((B8 47 s.data.toList).all DV&&decide ((B8 47 s.data.toList).length<=8))):=by
   show _=_;unfold Dh;rw[<-EJ,N,QV]
  go_enter func55,ntmps55;have S:True:=trivial
  go_wp2_with(first
   |(go_at_call 33;clear S;refine(Sg s 47 47 rfl _ W).mono ?_;rintro e m ⟨ad,b,rfl,I,G,l⟩;obtain⟨g,K,rfl,hg,v,M⟩:=Sh I (Po l)))
  have ac:=Po l;have ab:b.length<=100001:=by
   have T:=congrArg List.length l;have Y:=Si 47 s.data.toList;have U:s.data.toList.length=s.size:=DB;rw[De]at T;omega
  have O:∀p,p∈b->p.size<=4611686018427387904:=λp E=>by
   have:=L6 47 s.data.toList p.data.toList (by rw[<-l];exact Uo E);have U:s.data.toList.length=s.size:=DB;have Z:p.data.toList.length=p.size:=DB;omega
  have R:=Ap O;have P:=Ap M;have J:Hid (Dh s.data.toList=(b.all (λp=>DV p.data.toList)&&decide (b.length<=8))):=by
   show _=_;rw[t.out,<-l,QY,De];rfl
  have r:=Ap G;clear G t l I M O
  go_loopg[5] b.length (λgk x wr=>∃k:Nat,Hid (k+gk=b.length)/\x=A7 Ah k/\m=wr/\Hid (∀i (h:i<b.length),i<k->DV b[i].data.toList=true))
  case atStart=>exact⟨0,by show _=_;omega,rfl,rfl,λi _ A=>by omega⟩
  case round =>
   obtain⟨k,j,rfl,rfl,B⟩:=hrel
   cases gk with
   |zero =>
    have V:¬(k:Int)<b.length:=by have:=j.out;omega
    have F:Hid (Dh s.data.toList=decide ((b.length:Int)<=8)):=by
     show _=_;rw[J.out,(D7.2 λp E=>by
      obtain⟨i,A,rfl⟩:=Iy E;exact B i A (by have:=j.out;omega):b.all (λp=>DV p.data.toList)=true),Gj]
     congr 1;rw[eq_iff_iff];omega
    go_wp2
    go_ret2
    first|exact⟨_,_,_,by rw[F.out];rfl,r⟩|exact⟨⟨_,_,_,by rw[F.out];rfl⟩,r⟩
   |succ z =>
    have V:(k:Int)<b.length:=by have:=j.out;omega
    have D:k<b.length:=by omega
    have hc:=P.out k D;have q:=R.out b[k] (Iz D);have Q:Hid (DV b[k].data.toList=false->Dh s.data.toList=false):=λh=>by
     rw[J.out,Ja];left;rw[F7];exact⟨b[k],Iz D,by rw[h];decide⟩
    have u:Hid (DV b[k].data.toList=true->∀i (h:i<b.length),i<k+1->DV b[i].data.toList=true):=λh i A aa=>by
     by_cases e:i=k
     ·subst e;exact h
     exact B i A (by omega)
    clear B;generalize b[k]=p at *;have o:Hid (DV p.data.toList=(DR p.data.toList||(p.toList==[42]||(p.toList==[42,42]||p.toList==[91,93])))):=by
     show _=_;unfold DV;rw[EJ]
    cases d:DR p.data.toList
    ·cases y:(p.toList==[42])
     ·cases C:(p.toList==[42,42])
      ·cases L:(p.toList==[91,93])
       ·have H:=Ap (Q (by rw[o.out,d,y,C,L];rfl))
        go_wp2_with(first
         |(go_at_call 87;refine(Nv p _ q).mono ?_;rintro e m ⟨rfl,rfl⟩;rw[d]))
        go_ret2
        first|exact⟨_,_,_,by rw[H.out];rfl,r⟩|exact⟨⟨_,_,_,by rw[H.out];rfl⟩,r⟩
       have c:=u.out (by rw[o.out,d,y,C,L];rfl);have f:=Ap c;clear c
       go_wp2_with(first
        |(go_at_call 87;refine(Nv p _ q).mono ?_;rintro e m ⟨rfl,rfl⟩;rw[d]))
       go_roundg z
       case measure=>omega
       case rel=>exact⟨k+1,by show _=_;have:=j.out;omega,by go_num,rfl,f⟩
      have c:=u.out (by rw[o.out,d,y,C];rfl);have f:=Ap c;clear c
      go_wp2_with(first
       |(go_at_call 87;refine(Nv p _ q).mono ?_;rintro e m ⟨rfl,rfl⟩;rw[d]))
      go_roundg z
      case measure=>omega
      case rel=>exact⟨k+1,by show _=_;have:=j.out;omega,by go_num,rfl,f⟩
     have c:=u.out (by rw[o.out,d,y];rfl);have f:=Ap c;clear c
     go_wp2_with(first
      |(go_at_call 87;refine(Nv p _ q).mono ?_;rintro e m ⟨rfl,rfl⟩;rw[d]))
     go_roundg z
     case measure=>omega
     case rel=>exact⟨k+1,by show _=_;have:=j.out;omega,by go_num,rfl,f⟩
    have c:=u.out (by rw[o.out,d];rfl);have f:=Ap c;clear c
    go_wp2_with(first
     |(go_at_call 87;refine(Nv p _ q).mono ?_;rintro e m ⟨rfl,rfl⟩;rw[d]))
    go_roundg z
    case measure=>omega
    case rel=>exact⟨k+1,by show _=_;have:=j.out;omega,by go_num,rfl,f⟩
 have t:Hid (Dh s.data.toList=true):=by
  show _=_;unfold Dh;rw[<-EJ,N,Bool.true_or]
 go_enter func55,ntmps55;go_wp2
 go_ret2
 exact⟨Ak,0,0,by rw[t.out];rfl,AT _ _⟩
def C2:A4:=#[A8 Ak 0 0,A7 Ah 0,A7 Ah 0]
def DF(a:A5)(n cap:Nat)(x y:Int):A4:=#[A8 a n cap,A7 Ah x,A7 Ah y]
theorem L7(a:A5)(n b:Nat)(x y:Int):(DF a n b x y).all (·.oneCell')=true:=by simp[DF,Value.oneCell']
theorem Pp:C2.all (·.oneCell')=true:=L7 Ak 0 0 0 0
theorem JC:(prog.info? 98).map (·.size)=Aj 3:=by kernel_rfl
def Ki(n:Nat):List A2->Bool
 |[a,b,c]=>Dh a&&(EO b n&&CZ ⟨c.toArray⟩ != 0)
 |_=>false
def BA(n:Nat)(l:A2):Bool:=Ki n (B8 32 l)
theorem WR{q:List A2}(h:q.length≠3):Ki n q=false:=by
 match q,h with
 |[],_=>rfl
 |[_],_=>rfl
 |[_,_],_=>rfl
 |_::_::_::_::_,_=>rfl
structure Pq(w:World)(arr:A4)(W:World):Prop where
 below:A1 w W
 box:W.heap[w.heap.size]?=some (.cells arr 25)
 res:W.heap[w.heap.size+1]?=some (.cells C2 98)
 lo:w.heap.size+1<W.heap.size
theorem Pq.step{arr:A4}{W':Al}(h:Pq w arr W)(a:A1 W W'):Pq w arr W':=by
 have:=h.lo;exact⟨h.below.trans (a.mono h.below.size),(a.block _ (by omega)).trans h.box,(a.block _ (by omega)).trans h.res,Br this a.size⟩
theorem j3(w b:Al)(arr:A4)(a:Below (w.heap.size+1+1) ((w.alloc (.cells arr 25)).alloc (.cells C2 98)) b):Pq w arr b:=by
 have c:=a.size;simp only[AM,A1]at c;refine⟨((AH).alloc (by simp) _).trans (a.mono (by omega)),?_,?_,by omega⟩
 ·rw[a.block _ (by omega),AL _ _ _ (by simp)];exact Ay _ _
 rw[a.block _ (by omega)];have:=Ay (w.alloc (.cells arr 25)) (.cells C2 98);rwa[AM]at this
theorem j4(h:ps.length=3):∃d e f,ps=[d,e,f]:=by
 match ps,h with
 |[a,b,c],_=>exact⟨a,b,c,rfl⟩
theorem Pr(p:ByteArray):(⟨p.data.toList.toArray⟩:ByteArray)=p:=by cases p;rfl
theorem j5(g:ps.map (·.data.toList)=B8 32 l):(ps.length≠3/\BA n l=false)\/∃c a b,ps=[c,a,b]/\((a.size≠1/\BA n l=false)\/∃h:a.size=1,
   ((a[0].toNat:Int)<48/\BA n l=false)\/((57:Int)<a[0].toNat/\BA n l=false) \/
   ((48:Int)<=a[0].toNat/\(a[0].toNat:Int)<=57/\BA n l=(Dh c.data.toList&&(CZ b != 0&&Bv n ((a[0].toNat:Int)-48))))):=by
 by_cases f:ps.length=3
 ·right;obtain⟨c,a,b,rfl⟩:=j4 f;refine⟨c,a,b,rfl,?_⟩;have e:BA n l=(Dh c.data.toList&&(EO a.data.toList n&&CZ b != 0)):=by
   unfold BA;rw[<-g];simp only[CT,GJ,Ki,Pr]
  by_cases d:a.size=1
  ·right;refine⟨d,?_⟩;rw[VP d]at e;by_cases i:(a[0].toNat:Int)<48
   ·left;refine⟨i,?_⟩;rw[e];simp only[EO];rw[BJ (by omega)];simp
   right;by_cases j:(57:Int)<a[0].toNat
   ·left;refine⟨j,?_⟩;rw[e];simp only[EO];rw[BJ (by omega)];simp
   right;refine⟨by omega,by omega,?_⟩;rw[e];simp only[EO,Bv];rw[Bs (show 48<=a[0].toNat/\a[0].toNat<=57 by omega),Gj,QU (CZ b != 0)];congr 2;rw[GI];omega
  left;refine⟨d,?_⟩;rw[e,(VQ (n:=n) (by rw[DB];exact d)).2];simp
 left;refine⟨f,?_⟩;unfold BA;exact WR (by rw[<-g,De];exact f)
theorem j6{g:Nat}{s:ByteArray}{w2:Al}(q:s.size<=100000)(l:ps.map (·.data.toList)=B8 32 s.data.toList)(e:∀j (p:j<ps.length),w2.cell? ⟨g,j,Ak⟩=Aj (.string ps[j])):(¬(ps.length:Int)=3/\Hid (BA n s.data.toList=false)) \/
  (∃b a c,ps=[b,a,c]/\w2.cell? ⟨g,1,Ak⟩=Aj (.string a)/\¬(a.size:Int)=1/\Hid (BA n s.data.toList=false)) \/
  (∃b a c,ps=[b,a,c]/\w2.cell? ⟨g,1,Ak⟩=Aj (.string a)/\∃h:a.size=1,(a.size:Int)=1/\(a[0].toNat:Int)<48/\Hid (BA n s.data.toList=false)) \/
  (∃b a c,ps=[b,a,c]/\w2.cell? ⟨g,1,Ak⟩=Aj (.string a)/\∃h:a.size=1,(a.size:Int)=1/\(48:Int)<=a[0].toNat/\(57:Int)<a[0].toNat/\Hid (BA n s.data.toList=false)) \/
  (∃b a c,ps=[b,a,c]/\w2.cell? ⟨g,0,Ak⟩=Aj (.string b)/\w2.cell? ⟨g,1,Ak⟩=Aj (.string a)/\w2.cell? ⟨g,2,Ak⟩=Aj (.string c)/\∃h:a.size=1,(a.size:Int)=1/\(48:Int)<=a[0].toNat/\(a[0].toNat:Int)<=57/\Hid (b.size<=100000) /\
   Hid (BA n s.data.toList=(Dh b.data.toList&&(CZ c != 0&&Bv n ((a[0].toNat:Int)-48))))):=by
 rcases j5 (n:=n) l with⟨m,d⟩|⟨b,a,c,rfl,⟨f,d⟩|⟨f,⟨i,d⟩|⟨k,d⟩|⟨i,k,d⟩⟩⟩
 ·exact LQ ⟨by omega,d⟩
 ·exact Hn (LQ ⟨b,a,c,rfl,e 1 (by simp),by omega,d⟩)
 ·exact Hn (Hn (LQ ⟨b,a,c,rfl,e 1 (by simp),f,by omega,i,d⟩))
 ·exact Hn (Hn (Hn (LQ ⟨b,a,c,rfl,e 1 (by simp),f,by omega,by omega,k,d⟩)))
 refine Hn (Hn (Hn (Hn ⟨b,a,c,rfl,e 0 (by simp),e 1 (by simp),e 2 (by simp),f,by omega,i,k,?_,d⟩)));show _<=_;have:=L6 32 s.data.toList b.data.toList (by rw[<-l];simp);have m:s.data.toList.length=s.size:=DB;have o:b.data.toList.length=b.size:=DB;omega
theorem j7(arr:A4)(n:Nat)(Q:arr[0]?=Aj (A7 Ah n))(U:arr.size=11)(s:ByteArray)(w:Al)(J:s.size<=100000):An prog 34 #[.agg arr,.string s] w λe V =>
   ∃a m D x y,e=Ag (Ab #[.agg (DF a m D x y),Ad (BA n s.data.toList)])/\A1 w V:=by
 have O:=Ap U;have L:=Ap Q;have o:Hid ((prog.info? 98).map (·.size)=Aj C2.size):=JC;go_enter func34,ntmps34;have X:True:=trivial;have Y:True:=trivial
 go_wp2_with(first
  |(go_at_call 33;go_loud (refine(Sg s 32 32 rfl _ J).mono ?_;rintro e W ⟨ac,ps,rfl,M,C,t⟩;obtain⟨g,D,rfl,hg,I,H⟩:=Sh M (Po t);have q:=Ap (j3 w W arr (by simp only[AM,A1]at C;exact C));rcases j6 (n:=n) J t H with⟨Z,d⟩|⟨l,c,b,rfl,r,A,d⟩|⟨l,c,b,rfl,r,F,A,G,d⟩|⟨l,c,b,rfl,r,F,A,G,R,d⟩|⟨l,c,b,rfl,v,r,T,F,A,G,R,N,d⟩;all_goals clear t H))
  |(refine Bg rfl 98 _ _ rfl (w.heap.size+1) C2 rfl rfl 98 C2 q.res o rfl Pp ?_))
 all_goals first
  |(refine Bd (FN results34 _ _ (w.heap.size+1) 98 C2 (0,0) _ rfl (B4 _ _ C2 _ _ _ q.res) underlying98 rfl JC (Ad false) rfl) rfl ⟨Ak,0,0,0,0,by rw[d.out];rfl,Bu q.below (by omega) _⟩)
  |skip
 refine(iZ l _ N).mono ?_;rintro e w3 ⟨h,j,i,rfl,B⟩;have f:=Ap (q.step B);have aa:=(B.cell (p:=⟨g,1,Ak⟩) I).trans r;have ab:=(B.cell (p:=⟨g,2,Ak⟩) I).trans T;cases z:Dh l.data.toList
 ·have k:Hid (BA n s.data.toList=false):=by show _=_;rw[d.out,z];rfl
  go_wp2_with(first
   |(go_at_call 56;refine(RO b _).mono ?_;rintro e K ⟨rfl,rfl⟩)
   |(refine Bg rfl 98 _ _ rfl (w.heap.size+1) (DF h j i ((c[0].toNat:Int)-48) (CZ b)) rfl rfl 98 C2 f.res o rfl (L7 _ _ _ _ _) ?_))
  refine Bd (FN results34 _ _ (w.heap.size+1) 98 (DF h j i ((c[0].toNat:Int)-48) (CZ b)) (0,0) _ rfl (B4 _ _ C2 _ _ _ f.res) underlying98 rfl JC (Ad false) rfl) rfl ⟨_,_,_,_,_,by rw[k.out],Bu f.below (by omega) _⟩
 by_cases E:CZ b=0
 ·have k:Hid (BA n s.data.toList=false):=by show _=_;rw[d.out,z,E];rfl
  go_wp2_with(first
   |(go_at_call 56;refine(RO b _).mono ?_;rintro e K ⟨rfl,rfl⟩)
   |(refine Bg rfl 98 _ _ rfl (w.heap.size+1) (DF h j i ((c[0].toNat:Int)-48) 0) rfl rfl 98 C2 f.res o rfl (L7 _ _ _ _ _) ?_))
  refine Bd (FN results34 _ _ (w.heap.size+1) 98 (DF h j i ((c[0].toNat:Int)-48) 0) (0,0) _ rfl (B4 _ _ C2 _ _ _ f.res) underlying98 rfl JC (Ad false) rfl) rfl ⟨_,_,_,_,_,by rw[k.out],Bu f.below (by omega) _⟩
 have P:(CZ b != 0)=true:=by simp[E]
 have k:Hid (BA n s.data.toList=Bv n ((c[0].toNat:Int)-48)):=by show _=_;rw[d.out,z,P];rfl
 go_wp2_with(first
  |(go_at_call 56;refine(RO b _).mono ?_;rintro e K ⟨rfl,rfl⟩)
  |(go_at_call 16;refine(LU arr n L _ _).mono ?_;rintro e w5 ⟨rfl,S⟩;have u:=Ap (f.step S))
  |(refine CA 25 _ rfl ?hw _ rfl _ _ _ _ f.box underlying25 rfl (Dg O) ?_;case hw=>simp[go_sem];done)
  |(refine Bg rfl 98 _ _ rfl (w.heap.size+1) (DF h j i ((c[0].toNat:Int)-48) (CZ b)) rfl rfl 98 C2 u.res o rfl (L7 _ _ _ _ _) ?_))
 refine Bd (FN results34 _ _ (w.heap.size+1) 98 (DF h j i ((c[0].toNat:Int)-48) (CZ b)) (0,0) _ rfl (B4 _ _ C2 _ _ _ u.res) underlying98 rfl JC (Ad (Bv n ((c[0].toNat:Int)-48))) rfl) rfl ⟨_,_,_,_,_,by rw[k.out],Bu u.below (by omega) _⟩
end
section
open Go.RowKit Go.Shelf
theorem jc(s:ByteArray)(w:Al)(d:s.size<=1000000):An prog 131 #[.string s] w λe c=>e=Ag (.string s)/\A1 w c:=by
 have a:=Tryz.stringslite_Clone s w (by omega);go_enter func131,ntmps131
 go_wp2_with(first
  |(go_at_call 159;refine a.mono ?_;clear a;rintro e f ⟨rfl,b⟩))
 go_ret;exact⟨rfl,b⟩
end
end Go.Proofs.YtoegnhgofkhbnaaGreatDoor
