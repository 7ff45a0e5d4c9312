import Derived.ProofKit
import Derived.OpenShut
import Derived.Deep.Slices
import Derived.SizedLaws
import Derived.Test.YtmajcjammmjimaaGreatDoorCq10
import Derived.Test.YtmajcjammmjimaaGreatDoorCq08
import Derived.Test.YtmajcjammmjimaaGreatDoorCq11
set_option maxRecDepth 100000
set_option maxHeartbeats 8000000
set_option linter.all false
namespace Go.Proofs.YtmajcjammmjimaaGreatDoor
open Go.Proofs.Tryz
variable{V W W' W0 w:World}{a b base ecap fuel k n s:Nat}{v:Value}{cs:List Value}{bs:List UInt8}{F:Nat->Prop}{d:DataW Unit}{m m':Nat->Nat->Bool}{arr:Array Value}{L:List (Int×Int)}{ea:Option Addr}{c:Cfg}{P:Program}{S:World->Prop}
section
open Go.RowKit Go.Deep
theorem qd7:prog.cellsOf 3=1:=by kernel_rfl
theorem qn2:prog.cellsOf 9=1:=by kernel_rfl
theorem qxf:prog.cellsOf 22=1:=by kernel_rfl
theorem qwq:prog.cellsOf 23=1:=by kernel_rfl
theorem qtP:prog.cellsOf 25=11:=by kernel_rfl
theorem qsb:prog.cellsOf 42=2:=by kernel_rfl
theorem qqv:prog.bytesOf 42=16:=by kernel_rfl
theorem qsy:prog.bytesOf 3=8:=by kernel_rfl
theorem qkJ{a:Addr}(h:w.cell? (a.add 0)=some v):∃b off,a=⟨b,off,none⟩/\b<w.heap.size:=by
 obtain⟨b,off,d⟩:=a;have c:d=none:=by simpa[Addr.add]using World.cell?_spot h
 subst c;rw[qdb]at h;exact⟨b,off,rfl,kaI h⟩
theorem qs2{α:Type}{l:List α}(h:l.length=2):∃a b,l=[a,b]:=by
 match l,h with
 |[a,b],_=>exact⟨a,b,rfl⟩
section
variable{H:Type} {enc:TypeId×Value->H} {w:World}
theorem qvB{x:DataW H×List MemPlace}(h:DataW.trod enc prog w 0 (λ_=>true) true fuel 23 [v]=some x)(l:(x.1.weights prog 23).all (·<=reachBytes)=true):∃(a:Option Addr) (d:Nat) (B:List Int),v=.slice a B.length d/\qc9 w a B/\(a=none->B.length=0/\d=0)/\(B.length+8)*8<=281474976710656:=by
 rcases open_slice1 underlying23 qd7 h with⟨f,_⟩|⟨a,len,d,m,n,V,D,y,f,_,F,G,t,rfl,g⟩
 ·cases f;exact⟨none,0,[],rfl,⟨λi c=>by simp at c⟩,λ_=>⟨rfl,rfl⟩,by decide⟩
 cases f;have s:m=d:=by rw[t];rfl
 subst s;have A:m*8<=reachBytes:=by
  rw[ka3]at l;have:=l (((List.range len).map D).length+((List.range (m-len)).map λj=>D (len+j)).length |>.mul (prog.bytesOf 3)) (by
   simp only[DataW.weights,underlying23];exact ka5 ..)
  rw[qsy]at this;simp at this;have e:len+(m-len)=m:=by omega
  have o:(len+(m-len))*8<=reachBytes:=by simpa using this
  rwa[e]at o
 have k:∀i,i<m->∃z:Int,V i=.int .i64 z:=λi c=>by
  obtain⟨z,k,_⟩:=kbq underlying3 (g i c).2;exact⟨z,by simpa using k⟩
 obtain⟨Z,p⟩:=choose_lt k;refine⟨some a,m,(List.range len).map Z,by simp,⟨λi c=>?_⟩,λu=>(by cases u),?_⟩
 ·have C:i<len:=by simpa using c
  obtain⟨b,off,rfl,r⟩:=qkJ (g 0 (by omega)).1;refine⟨b,off,rfl,r,λj q=>?_⟩;have E:j<len:=by simpa using q
  have:=(g j (by omega)).1;rw[qdb]at this;rw[this,p j (by omega)];simp
 have:reachBytes=140737488351232:=rfl;simp;omega
theorem qoV{xs:List (DataW H×List MemPlace)}{fs:Array Field}(c:∀(i:Nat) (f:Field),fs[i]?=some f->DataW.trod enc prog w 0 (λ_=>true) true n f.type ((cs.drop f.offset).take (prog.cellsOf f.type))=xs[i]?)(i:Nat){f:Field}(h:fs[i]?=some f)(t:TypeId)(o:Nat)(k:f.type=t)(j:f.offset=o)(b:prog.cellsOf t=1)(a:cs[o]?=some v){y:DataW H×List MemPlace}(l:xs[i]?=some y):DataW.trod enc prog w 0 (λ_=>true) true n t [v]=some y:=by
 subst k j;have g:=c i f h;rw[b,l]at g;have e:(cs.drop f.offset).take 1=[v]:=by
  rw[kbw]at a;obtain⟨d,rfl⟩:=a;rw[ka6 d];rfl
 rwa[e]at g
theorem qsP{x:DataW H×List MemPlace}(h:DataW.trod enc prog w 0 (λ_=>true) true fuel 22 [v]=some x)(y:(x.1.weights prog 22).all (·<=reachBytes)=true):∃(a:Option Addr) (d:Nat) (L:List (Int×Int)),v=.slice a L.length d/\qaZ w a L/\(a=none->L.length=0/\d=0)/\(L.length+8)*16<=281474976710656:=by
 rcases open_slice underlying22 h with⟨k,_⟩|⟨a,len,d,m,n,D,U,k,_,X,Y,J,rfl,M⟩
 ·cases k;exact⟨none,0,[],rfl,⟨λi c=>by simp at c⟩,λ_=>⟨rfl,rfl⟩,by decide⟩
 cases k;have I:m=d:=by rw[J];rfl
 subst I;have V:m*16<=reachBytes:=by
  rw[ka3]at y;have:=y (((List.range len).map D).length+((List.range (m-len)).map λj=>D (len+j)).length |>.mul (prog.bytesOf 42)) (by
   simp only[DataW.weights,underlying22];exact ka5 ..)
  rw[qqv]at this;simp at this;have e:len+(m-len)=m:=by omega
  have f:(len+(m-len))*16<=reachBytes:=by simpa using this
  rwa[e]at f
 have P:∀i,i<m->∃z:Int×Int,w.cell? (a.add (i*2))=some (.int .i64 z.1)/\w.cell? ((a.add (i*2)).add 1)=some (.int .i64 z.2):=λi c=>by
  obtain⟨E,r,f⟩:=M i c;rw[qsb]at r;obtain⟨_,F,t⟩:=World.cells?_some r;obtain⟨A,n',_,_,_,N,u⟩:=kcH underlying42 f;obtain⟨l,o,rfl⟩:∃l o,E=[l,o]:=by
   exact qs2 F
  obtain⟨B,C,rfl⟩:∃B C,A=[B,C]:=by
   have O:A.length=2:=N;exact qs2 O
  ·have Q:=qoV u 0 rfl 3 0 rfl rfl qd7 rfl rfl;have R:=qoV u 1 rfl 3 1 rfl rfl qd7 rfl rfl;obtain⟨S,p,_⟩:=kbq underlying3 Q;obtain⟨T,q,_⟩:=kbq underlying3 R;simp at p q;subst p q;refine⟨(S,T),?_,?_⟩
   ·have:=t 0 (by omega);rw[add_add,Nat.add_zero]at this;exact this
   exact t 1 (by omega)
 obtain⟨Z,s⟩:=choose_lt P;refine⟨some a,m,(List.range len).map Z,by simp,⟨λi c=>?_⟩,λK=>(by cases K),?_⟩
 ·have W:i<len:=by simpa using c
  obtain⟨b,off,rfl,G⟩:=qkJ (by have:=(s 0 (by omega)).1;rwa[keh]at this);have g:=s i (by omega);rw[add_add,qdb,qdb]at g;refine⟨b,off,rfl,G,?_,?_⟩
  ·rw[g.1];simp
  rw[kbm,g.2];simp
 have:reachBytes=140737488351232:=rfl;simp;omega
theorem qfO{z:Int}(h:(Lit.int .i64 z).wf=true):-9223372036854775808<=z/\z<=9223372036854775807:=by
 simp[Lit.wf,IntKind.min,IntKind.max,IntKind.signed,IntKind.bits]at h;omega
theorem qvp{x:DataW H×List MemPlace}(h:DataW.trod enc prog w 0 (λ_=>true) true fuel 25 cs=some x)(d:(x.1.weights prog 25).all (·<=reachBytes)=true):∃c:Cfg,cs=c.arr.toList/\qia w c/\(∀x∈[c.labels,c.dflt,c.clr,c.inn,c.out,c.depth,c.bytes,c.key],-9223372036854775808<=x/\x<=9223372036854775807)/\c.pol.size<=281474976710656:=by
 obtain⟨xs,aa,_,rfl,q,V,a⟩:=kcH underlying25 h;rw[qtP]at q
 match cs,q,xs,V with
 |[v0,v1,v2,v3,v4,v5,v6,v7,v8,v9,v10],_,[y0,y1,y2,y3,y4,y5,y6,y7,y8,y9,y10],_ =>
  simp only[DataW.weights,underlying25,kaH,kb8,DataW.weightsEach,kcv,ka2]at d;have C:=qoV a 0 rfl 3 0 rfl rfl qd7 rfl rfl;have D:=qoV a 1 rfl 22 1 rfl rfl qxf rfl rfl;have F:=qoV a 2 rfl 3 2 rfl rfl qd7 rfl rfl;have G:=qoV a 3 rfl 9 3 rfl rfl qn2 rfl rfl;have I:=qoV a 4 rfl 3 4 rfl rfl qd7 rfl rfl;have J:=qoV a 5 rfl 3 5 rfl rfl qd7 rfl rfl;have K:=qoV a 6 rfl 3 6 rfl rfl qd7 rfl rfl;have M:=qoV a 7 rfl 3 7 rfl rfl qd7 rfl rfl;have N:=qoV a 8 rfl 3 8 rfl rfl qd7 rfl rfl;have O:=qoV a 9 rfl 3 9 rfl rfl qd7 rfl rfl;have E:=qoV a 10 rfl 23 10 rfl rfl qwq rfl rfl;obtain⟨z0,e,_,X⟩:=kbq underlying3 C;obtain⟨z2,f,_,Y⟩:=kbq underlying3 F;obtain⟨b,g,x3,_⟩:=kdZ underlying9 G;obtain⟨z4,i,_,Z⟩:=kbq underlying3 I;obtain⟨z5,j,_,n⟩:=kbq underlying3 J;obtain⟨z6,k,_,w6⟩:=kbq underlying3 K;obtain⟨z7,l,_,w7⟩:=kbq underlying3 M;obtain⟨z8,m,_,w8⟩:=kbq underlying3 N;obtain⟨z9,o,_,w9⟩:=kbq underlying3 O;obtain⟨z,A,L,u,P,R,Q⟩:=qsP (v:=v1) (by simpa using D) d.2.1;obtain⟨s,t,B,y,S,U,T⟩:=qvB (v:=v10) (by simpa using E) d.2.2.2.2.2.2.2.2.2.2.1;have W:b.size<=281474976710656:=by
   have p:=d.2.2.2.1;rw[show y3.1=.lit (.string b.data.toList)from congrArg Prod.fst x3]at p;have h4:=kaq (ka3.1 p b.data.toList.length (by unfold DataW.weights;exact kbI.2 rfl));have h5:reachBytes=140737488351232:=rfl;have h6:b.data.toList.length=b.size:=rfl;omega
  simp at e f g i j k l m o;subst e f g i j k l m o u y;refine⟨⟨z0,L,z,A,z2,b,z4,z5,z6,z7,z8,z9,B,s,t⟩,rfl,⟨P,S,R,U,Q,T⟩,λx r=>?_,W⟩;simp at r;rcases r with rfl|rfl|rfl|rfl|rfl|rfl|rfl|rfl
  all_goals
   first
   |exact qfO X
   |exact qfO Y
   |exact qfO Z
   |exact qfO n
   |exact qfO w6
   |exact qfO w7
   |exact qfO w8
   |exact qfO w9
end

end
section
open Go.RowKit Go.Lib
def qaN:Lit->List UInt8
 |.string l=>l
 |_=>[]
theorem qyG(h:Own W base v bs):v.ownBlock≠some W.heap.size:=by
 obtain⟨b,_,_⟩:=h;rcases b.2 with⟨rfl,_⟩|⟨g,c,d,rfl,_,a,_⟩
 ·intro e;cases e
 have:=ltA a;intro e;simp[Value.ownBlock]at e;omega
theorem qk6(h:Own W base v bs)(o:Obj):qh3 (W.alloc o) base W.heap.size v bs:=⟨⟨h.1.alloc _,by have:=h.2.1;simp;omega,h.2.2⟩,qyG h,by simp⟩
theorem qwH(T:DataW Unit->List UInt8)(W:World)(f:Nat)(v u:Value)(F:Nat->Prop)(hF:∀k,F k->k<f)(bs:List UInt8)(b:List (Lit×DataW Unit))(O:List Value)(x:bs.length+((qaj 5 b.length)++b.flatMap (λe:Lit×DataW Unit=>(qaj 3 (qaN e.1).length++qaN e.1)++T e.2)).length<=999999999)(hn:b.length<=999999999)(z:qbE W 124 2 F u b.length O)(ai:∀(i:Nat) (D:Lit) (d:DataW Unit),b[i]?=some (D,d)->∃l t y,D=.string l/\O[2*i]?=some (.string ⟨l.toArray⟩)/\O[2*i+1]?=some (.iface t y)/\qcf W f (.iface t y) (T d))(h:Own W f v bs):Calls prog 51 #[v,.iface 122 u] W λe p=>∃s,e=.returned s/\Own p f s (bs++(qaj 5 b.length++b.flatMap (λe:Lit×DataW Unit=>(qaj 3 (qaN e.1).length++qaN e.1)++T e.2)))/\Below f W p:=by
 have ak:bs.length<=999999999:=by omega
 obtain⟨a,n,c,rfl⟩:=h.2.2;have cH:Calls prog 70 #[.slice a n c,.int .u8 5,.int .u64 b.length] W λe p=>∃s,e=.returned s/\Own p f s (bs++qaj 5 b.length)/\Below f W p:=qby W f (.slice a n c) bs 5 b.length (by decide) (by omega) ak h;obtain⟨q,o,rfl⟩:∃q o,u=.slice q b.length o:=by
  rcases z.2 with⟨e,X⟩|⟨g,o,af,e,_⟩
  ·exact⟨none,0,by rw[e,X]⟩
  exact⟨_,_,e⟩
 have HU:=qab z;have HI:=qab ai;obtain⟨m,Q⟩:∃m:Lit×DataW Unit->List UInt8,Hid (m=(λe:Lit×DataW Unit=>(qaj 3 (qaN e.1).length++qaN e.1)++T e.2)):=⟨_,show _=_ from rfl⟩
 rw[<-Q.out]at x ⊢;have HL:=qab x;have aw:=qfo q b.length o;have ax:=qev q b.length o;have ay:=qhn q b.length o;have az:=qhV q b.length o;have a0:=qho q b.length o;have a1:=qjv q b.length o;go_enter func51,ntmps51
 go_wp2_with(first
  |(go_at_call 70;refine cH.mono ?_;rintro e w2 ⟨v2,rfl,B,ag⟩;obtain⟨o2,b2,S,n2,c2,rfl⟩:=B;have ac:Hid (Own w2 f (.slice S n2 c2) (bs++qaj 5 b.length)):=⟨o2,b2,_,_,_,rfl⟩;have aa:=qab ag))
 go_loopg[0,83,14] b.length (λg y ao a6 wr=>∃(k:Nat) (K:Option Addr) (N L:Nat),y=.slice K N L/\ao=.int .i64 k/\Hid (k+g=b.length)/\Hid (Own wr f (.slice K N L) ((bs++qaj 5 b.length)++(b.take k).flatMap m))/\Hid (Below f W wr))
 case atStart=>exact⟨0,S,n2,c2,rfl,rfl,by show _=_;omega,by simpa using ac,aa⟩
 case round =>
  obtain⟨k,K,N,L,rfl,rfl,C,I,H⟩:=hrel
  cases gk with
  |zero =>
   have al:¬(k:Int)<b.length:=by have:=C.out;omega
   have A:Hid (b.take k=b):=by show _=_;exact kaU (by have:=C.out;omega)
   go_wp2;go_ret;have Y:=I.out;rw[A.out,kap]at Y;exact⟨_,rfl,Y,H.out⟩
  |succ g =>
   have aj:k<b.length:=by have:=C.out;omega
   have al:(k:Int)<b.length:=by omega
   have J:=HU.out.same (V':=wr) (G:=F) (λ_ h=>h) (λj hj=>H.out.block j (hF j hj));obtain⟨q0,rfl⟩:∃q0,q=some ⟨q0,0,none⟩:=by
    rcases J.2 with⟨_,e⟩|⟨g,ap,af,e,_⟩
    ·omega
    injection e with e1 X e3;exact⟨g,e1⟩
   obtain⟨⟨D,d⟩,Z⟩:∃d,b[k]?=some d:=⟨b[k],kab aj⟩
   obtain⟨l,r,w,rfl,am,an,hI⟩:=HI.out k D d Z;have aq:wr.cell? ⟨q0,k*2,none⟩=some (.string ⟨l.toArray⟩):=by
    have:=J.cell (2*k) _ am;have e:(⟨q0,0,none⟩:Addr).add (2*k)=⟨q0,k*2,none⟩:=by by_cases h:2*k=0<;>simp only[Addr.add,h,kaL,kb9 k 2,ker,kep]
    rwa[e]at this
   have ar:wr.cell? ⟨q0,k*2+1,none⟩=some (.iface r w):=by
    have:=J.cell (2*k+1) _ an;have e:(⟨q0,0,none⟩:Addr).add (2*k+1)=⟨q0,k*2+1,none⟩:=by simp[Addr.add,kb9]
    rwa[e]at this
   have A:Hid ((b.take (k+1)).flatMap m=(b.take k).flatMap m++((qaj 3 l.length++l)++T d)):=by
    show _=_;rw[kb7,Z,Q.out];simp[qaN]
   have E:Hid (((bs++qaj 5 b.length)++(b.take k).flatMap m).length+((qaj 3 l.length++l)++T d).length<=999999999):=by
    show _<=_;have h1:=HL.out;have B:(b.flatMap m).length=((b.take (k+1)).flatMap m).length+((b.drop (k+1)).flatMap m).length:=by
     rw[<-kaa,<-kbP,kbu]
    rw[A.out]at B;simp only[kaa]at h1 B ⊢;omega
   have HV:Hid (Below f W (wr.alloc (.cells #[.string ⟨l.toArray⟩,.iface r w] 124))):=H.out.trans ((kam f wr).alloc I.out.2.1 _);have cT:=qpj _ f wr.heap.size _ _ l (by have:=E.out;omega) (by have:=E.out;simp only[kaa]at this;omega) (qk6 I.out (.cells #[.string ⟨l.toArray⟩,.iface r w] 124));have R:Hid ((wr.alloc (.cells #[.string ⟨l.toArray⟩,.iface r w] 124)).heap[wr.heap.size]?=some (.cells #[.string ⟨l.toArray⟩,.iface r w] 124)):=qac _ _;have HJ:=qab hI
   go_wp2_with(first
    |(go_at_call 71;refine cT.mono ?_;rintro e w4 ⟨v4,rfl,h4,M⟩;obtain⟨o4,b4,a4,n4,c4,rfl⟩:=h4;have ad:Hid (Own w4 f (.slice a4 n4 c4) (((bs++qaj 5 b.length)++(b.take k).flatMap m)++(qaj 3 l.length++l))):=⟨o4,b4,_,_,_,rfl⟩;have P:=qab (HV.out.trans M.1);have au:=qaa (M.2.trans R.out) 0;have av:=qaa (M.2.trans R.out) 1)
    |(go_at_call 51;refine(HJ.out w4 _ _ P.out ad.out (by have:=E.out;simp only[kaa]at this ⊢;omega)).mono ?_;rintro e w5 ⟨v5,rfl,h5,ah⟩;obtain⟨o5,b5,U,n5,V,rfl⟩:=h5;have ae:Hid (Own w5 f (.slice U n5 V) ((((bs++qaj 5 b.length)++(b.take k).flatMap m)++(qaj 3 l.length++l))++T d)):=⟨o5,b5,_,_,_,rfl⟩;have ab:=qab (P.out.trans ah)))
   go_roundg g
   case measure=>omega
   case rel=>exact⟨k+1,U,n5,V,rfl,by go_num,by show _=_;have:=C.out;omega,by show Own _ _ _ _;rw[A.out,<-kap,<-kap];exact ae.out,ab⟩
theorem qv7(T:DataW Unit->List UInt8)(W:World)(f:Nat)(v u:Value)(F:Nat->Prop)(hF:∀k,F k->k<f)(bs:List UInt8)(b:List (Lit×DataW Unit))(M:List Value)(Z:bs.length+((qbm b.length)++b.flatMap (λe:Lit×DataW Unit=>(qa1 (qaN e.1).length++qaN e.1)++T e.2)).length<=999999999)(hn:b.length<=999999999)(x:qbE W 124 2 F u b.length M)(ak:∀(i:Nat) (B:Lit) (d:DataW Unit),b[i]?=some (B,d)->∃l t y,B=.string l/\M[2*i]?=some (.string ⟨l.toArray⟩)/\M[2*i+1]?=some (.iface t y)/\qcd W f (.iface t y) (T d))(h:Own W f v bs):Calls prog 52 #[v,.iface 122 u] W λe Q=>∃n,e=.returned n/\Own Q f n (bs++(qbm b.length++b.flatMap (λe:Lit×DataW Unit=>(qa1 (qaN e.1).length++qaN e.1)++T e.2)))/\Below f W Q:=by
 have am:bs.length<=999999999:=by omega
 obtain⟨af,aq,ag,rfl⟩:=h.2.2;have cH:=qov W f (.slice af aq ag) bs b.length (by omega) am h;obtain⟨q,o,rfl⟩:∃q o,u=.slice q b.length o:=by
  rcases x.2 with⟨e,V⟩|⟨g,o,ah,e,_⟩
  ·exact⟨none,0,by rw[e,V]⟩
  exact⟨_,_,e⟩
 have HU:=qab x;have HI:=qab ak;obtain⟨m,O⟩:∃m:Lit×DataW Unit->List UInt8,Hid (m=(λe:Lit×DataW Unit=>(qa1 (qaN e.1).length++qaN e.1)++T e.2)):=⟨_,show _=_ from rfl⟩
 rw[<-O.out]at Z ⊢;have HL:=qab Z;have az:=qfo q b.length o;have a0:=qev q b.length o;have a1:=qhn q b.length o;have a6:=qhV q b.length o;have a7:=qho q b.length o;have a8:=qjv q b.length o;go_enter func52,ntmps52
 go_wp2_with(first
  |(go_at_call 76;refine cH.mono ?_;rintro e w2 ⟨v2,rfl,w,ai⟩;obtain⟨o2,b2,R,a,c2,rfl⟩:=w;have ac:Hid (Own w2 f (.slice R a c2) (bs++qbm b.length)):=⟨o2,b2,_,_,_,rfl⟩;have aa:=qab ai))
 go_loopg[0,83,14] b.length (λg y ar a9 wr=>∃(k:Nat) (I:Option Addr) (L J:Nat),y=.slice I L J/\ar=.int .i64 k/\Hid (k+g=b.length)/\Hid (Own wr f (.slice I L J) ((bs++qbm b.length)++(b.take k).flatMap m))/\Hid (Below f W wr))
 case atStart=>exact⟨0,R,a,c2,rfl,rfl,by show _=_;omega,by simpa using ac,aa⟩
 case round =>
  obtain⟨k,I,L,J,rfl,rfl,A,E,D⟩:=hrel
  cases gk with
  |zero =>
   have an:¬(k:Int)<b.length:=by have:=A.out;omega
   have s:Hid (b.take k=b):=by show _=_;exact kaU (by have:=A.out;omega)
   go_wp2;go_ret;have X:=E.out;rw[s.out,kap]at X;exact⟨_,rfl,X,D.out⟩
  |succ g =>
   have al:k<b.length:=by have:=A.out;omega
   have an:(k:Int)<b.length:=by omega
   have H:=HU.out.same (V':=wr) (G:=F) (λ_ h=>h) (λj hj=>D.out.block j (hF j hj));obtain⟨q0,rfl⟩:∃q0,q=some ⟨q0,0,none⟩:=by
    rcases H.2 with⟨_,e⟩|⟨g,au,ah,e,_⟩
    ·omega
    injection e with e1 V e3;exact⟨g,e1⟩
   obtain⟨⟨B,d⟩,Y⟩:∃d,b[k]?=some d:=⟨b[k],kab al⟩
   obtain⟨l,p,r,rfl,ao,ap,hI⟩:=HI.out k B d Y;have av:wr.cell? ⟨q0,k*2,none⟩=some (.string ⟨l.toArray⟩):=by
    have:=H.cell (2*k) _ ao;have e:(⟨q0,0,none⟩:Addr).add (2*k)=⟨q0,k*2,none⟩:=by by_cases h:2*k=0<;>simp only[Addr.add,h,kaL,kb9 k 2,ker,kep]
    rwa[e]at this
   have aw:wr.cell? ⟨q0,k*2+1,none⟩=some (.iface p r):=by
    have:=H.cell (2*k+1) _ ap;have e:(⟨q0,0,none⟩:Addr).add (2*k+1)=⟨q0,k*2+1,none⟩:=by simp[Addr.add,kb9]
    rwa[e]at this
   have s:Hid ((b.take (k+1)).flatMap m=(b.take k).flatMap m++((qa1 l.length++l)++T d)):=by
    show _=_;rw[kb7,Y,O.out];simp[qaN]
   have C:Hid (((bs++qbm b.length)++(b.take k).flatMap m).length+((qa1 l.length++l)++T d).length<=999999999):=by
    show _<=_;have h1:=HL.out;have w:(b.flatMap m).length=((b.take (k+1)).flatMap m).length+((b.drop (k+1)).flatMap m).length:=by
     rw[<-kaa,<-kbP,kbu]
    rw[s.out]at w;simp only[kaa]at h1 w ⊢;omega
   have HV:Hid (Below f W (wr.alloc (.cells #[.string ⟨l.toArray⟩,.iface p r] 124))):=D.out.trans ((kam f wr).alloc E.out.2.1 _);have cT:=qrq _ f wr.heap.size _ _ l (by have:=C.out;omega) (by have:=C.out;simp only[kaa]at this;omega) (qk6 E.out (.cells #[.string ⟨l.toArray⟩,.iface p r] 124));have P:Hid ((wr.alloc (.cells #[.string ⟨l.toArray⟩,.iface p r] 124)).heap[wr.heap.size]?=some (.cells #[.string ⟨l.toArray⟩,.iface p r] 124)):=qac _ _;have HJ:=qab hI
   go_wp2_with(first
    |(go_at_call 74;refine cT.mono ?_;rintro e z ⟨v4,rfl,h4,K⟩;obtain⟨o4,b4,a4,n4,c4,rfl⟩:=h4;have ad:Hid (Own z f (.slice a4 n4 c4) (((bs++qbm b.length)++(b.take k).flatMap m)++(qa1 l.length++l))):=⟨o4,b4,_,_,_,rfl⟩;have N:=qab (HV.out.trans K.1);have ax:=qaa (K.2.trans P.out) 0;have ay:=qaa (K.2.trans P.out) 1)
    |(go_at_call 52;refine(HJ.out z _ _ N.out ad.out (by have:=C.out;simp only[kaa]at this ⊢;omega)).mono ?_;rintro e w5 ⟨v5,rfl,h5,aj⟩;obtain⟨o5,b5,S,c,U,rfl⟩:=h5;have ae:Hid (Own w5 f (.slice S c U) ((((bs++qbm b.length)++(b.take k).flatMap m)++(qa1 l.length++l))++T d)):=⟨o5,b5,_,_,_,rfl⟩;have ab:=qab (N.out.trans aj)))
   go_roundg g
   case measure=>omega
   case rel=>exact⟨k+1,S,c,U,rfl,by go_num,by show _=_;have:=A.out;omega,by show Own _ _ _ _;rw[s.out,<-kap,<-kap];exact ae.out,ab⟩

def wrF(hB hL hM hT:Nat->List UInt8)(nt:Bool->List UInt8)(no:List UInt8)(nm:Int->List UInt8):Nat->DataW Unit->List UInt8
 |0,_=>[]
 |k+1,d=>match d with
  |.nil=>no
  |.lit (.bool b)=>nt b
  |.lit (.int .i64 z)=>nm z
  |.lit (.string l)=>hT l.length++l
  |.ptr (.lit (.string l))=>hB l.length++l
  |.agg ds=>hL ds.length++ds.flatMap (wrF hB hL hM hT nt no nm k)
  |.map es=>hM es.length++es.flatMap λe=>(hT (qaN e.1).length++qaN e.1)++wrF hB hL hM hT nt no nm k e.2
  |_=>[]
def qrx(b:Bool):List UInt8:=bif b then qaj 7 21 else qaj 7 20
def qrY(b:Bool):List UInt8:=bif b then[195]else[194]
def qbc:Nat->DataW Unit->List UInt8:=wrF (qaj 2) (qaj 4) (qaj 5) (qaj 3) qrx (qaj 7 22) qfw
def qdn:Nat->DataW Unit->List UInt8:=wrF qbr qbq qbm qa1 qrY [192] qfy
theorem qcW{α:Type}(f:α->List UInt8):∀(l:List α),(∀a,a∈l->1<=(f a).length)->l.length<=(l.flatMap f).length
 |[],_=>kaY _
 |a::l,h=>by
  have d:=h a (ka5 ..);have e:=qcW f l λb c=>h b (ka9 _ c);rw[kaZ,kaa,kah];omega
theorem qbw(s x:Nat):1<=(qaj s x).length:=by
 unfold qaj
 repeat' split
 all_goals simp
theorem qrF(z:Int):1<=(qfw z).length:=by
 unfold qfw;split<;>exact qbw _ _
theorem qhT(x:Nat):1<=(qa1 x).length:=by
 unfold qa1
 repeat' split
 all_goals simp
theorem qoc(x:Nat):1<=(qbr x).length:=by
 unfold qbr
 repeat' split
 all_goals simp
theorem qof(x:Nat):1<=(qbq x).length:=by
 unfold qbq
 repeat' split
 all_goals simp
theorem qok(x:Nat):1<=(qbm x).length:=by
 unfold qbm
 repeat' split
 all_goals simp
theorem qpS(z:Int):1<=(qfy z).length:=by
 unfold qfy qbu qbl
 repeat' split
 all_goals simp
theorem qqg{hB hL hM hT:Nat->List UInt8}{nt:Bool->List UInt8}{no:List UInt8}{nm:Int->List UInt8}(a:∀x,1<=(hB x).length)(c:∀x,1<=(hL x).length)(e:∀x,1<=(hM x).length)(f:∀x,1<=(hT x).length)(j:∀b,1<=(nt b).length)(i:1<=no.length)(g:∀z,1<=(nm z).length):∀{k:Nat} {v:Value} {d:DataW Unit},qah k V F v d->1<=(wrF hB hL hM hT nt no nm k d).length
 |0,_,_,h=>h.elim
 |k+1,v,d,h=>by
  unfold qah at h;unfold wrF;split at h
  ·exact i
  ·exact j _
  ·exact g _
  ·rw[kaa];exact kaj (f _) (kbV ..)
  ·rw[kaa];exact kaj (a _) (kbV ..)
  ·rw[kaa];exact kaj (c _) (kbV ..)
  ·rw[kaa];exact kaj (e _) (kbV ..)
  exact h.elim
theorem qpQ(h:qah k V F v d):1<=(qbc k d).length:=qqg (qbw 2) (qbw 4) (qbw 5) (qbw 3) (λb=>by cases b;exact qbw 7 20;exact qbw 7 21) (qbw _ _) qrF h
theorem qnL:∀(k:Nat) (W:World) (c:Nat) (F:Nat->Prop) (x:Value) (d:DataW Unit),(∀j,F j->j<c)->qah k W F x d->qcf W c x (qbc k d)
 |0,_,_,_,_,_,_,h=>h.elim
 |k+1,W0,c,F,x,d,hF,h0=>by
  intro W v g I n B;have h:=h0.same (λ_ h=>h) (λj K=>I.block j (hF j K));have o:g.length<=999999999:=by omega
  have D:∀y a,qah k W F y a->qcf W c y (qbc k a):=λy a L=>qnL k W c F y a hF L;unfold qah at h;split at h
  ·subst h;exact qlY W c v g o n
  ·rename_i b
   subst h;cases b
   ·exact qhq W c v g o n
   exact qh9 W c v g o n
  ·obtain⟨rfl,f,m⟩:=h;exact qr4 W c v g _ f m o n
  ·rename_i l
   subst h;have e:(qbc (k+1) (.lit (.string l))).length=_:=kaa;exact qsE W c v g l o (by omega) n
  ·rename_i l
   obtain⟨u,rfl,p⟩:=h;have e:(qbc (k+1) (.ptr (.lit (.string l)))).length=_:=kaa;exact qpi W c v u F hF g l o (by omega) p n
  ·rename_i ds
   obtain⟨u,r,rfl,p,s⟩:=h;have O:r.length=ds.length:=by have:=p.1;omega
   have at_:∀i,i<ds.length->∃x a,r[i]?=some x/\ds[i]?=some a/\qah k W F x a:=λi q =>
    ⟨_,_,kab (by omega),kab q,s i _ _ (kab (by omega)) (kab q)⟩
   have J:=qcW (qbc k) ds λa A=>by
    obtain⟨i,q,rfl⟩:=kbv A;obtain⟨x,N,f,m,w⟩:=at_ i q;rw[kab q]at m;injection m with m;rw[m];exact qpQ w
   have e:(qbc (k+1) (.agg ds)).length=_+(ds.flatMap (qbc k)).length:=kaa;exact qso (qbc k) W c v u F hF g ds r B (by omega) p (λi x a f m=>D x a (s i x a f m)) (λi x C=>by
    obtain⟨P,a,f,m,w⟩:=at_ i (by have:=ltL C;omega);rw[C]at f;injection f with f;rw[f];exact w.iface) n
  ·rename_i es
   obtain⟨u,r,rfl,p,s⟩:=h;have J:=qcW (λe:Lit×DataW Unit=>(qaj 3 (qaN e.1).length++qaN e.1)++qbc k e.2) es λa A=>by
    rw[kaa,kaa];have:=qbw 3 (qaN a.1).length;omega
   have e:(qbc (k+1) (.map es)).length=_+(es.flatMap λe:Lit×DataW Unit=>(qaj 3 (qaN e.1).length++qaN e.1)++qbc k e.2).length:=kaa;exact qwH (qbc k) W c v u F hF g es r B (by omega) p (λi M a f=>by
    obtain⟨l,x,E,G,H,z⟩:=s i M a f;obtain⟨t,y,rfl⟩:=z.iface;exact⟨l,t,y,E,G,H,D _ a z⟩) n
  exact h.elim
theorem qpB(h:qah k V F v d):1<=(qdn k d).length:=qqg qoc qof qok qhT (λb=>by cases b<;>exact kaf _) (kaf _) qpS h
theorem qnH:∀(k:Nat) (W:World) (c:Nat) (F:Nat->Prop) (x:Value) (d:DataW Unit),(∀j,F j->j<c)->qah k W F x d->qcd W c x (qdn k d)
 |0,_,_,_,_,_,_,h=>h.elim
 |k+1,W0,c,F,x,d,hF,h0=>by
  intro W v g I n B;have h:=h0.same (λ_ h=>h) (λj K=>I.block j (hF j K));have o:g.length<=999999999:=by omega
  have D:∀y a,qah k W F y a->qcd W c y (qdn k a):=λy a L=>qnH k W c F y a hF L;unfold qah at h;split at h
  ·subst h;exact qm7 W c v g o n
  ·rename_i b
   subst h;cases b
   ·exact qhz W c v g o n
   exact qhF W c v g o n
  ·obtain⟨rfl,f,m⟩:=h;exact qrT W c v g _ f m o n
  ·rename_i l
   subst h;have e:(qdn (k+1) (.lit (.string l))).length=_:=kaa;exact qtL W c v g l o (by omega) n
  ·rename_i l
   obtain⟨u,rfl,p⟩:=h;have e:(qdn (k+1) (.ptr (.lit (.string l)))).length=_:=kaa;exact qqj W c v u F hF g l o (by omega) p n
  ·rename_i ds
   obtain⟨u,r,rfl,p,s⟩:=h;have O:r.length=ds.length:=by have:=p.1;omega
   have at_:∀i,i<ds.length->∃x a,r[i]?=some x/\ds[i]?=some a/\qah k W F x a:=λi q =>
    ⟨_,_,kab (by omega),kab q,s i _ _ (kab (by omega)) (kab q)⟩
   have J:=qcW (qdn k) ds λa A=>by
    obtain⟨i,q,rfl⟩:=kbv A;obtain⟨x,N,f,m,w⟩:=at_ i q;rw[kab q]at m;injection m with m;rw[m];exact qpB w
   have e:(qdn (k+1) (.agg ds)).length=_+(ds.flatMap (qdn k)).length:=kaa;exact qt5 (qdn k) W c v u F hF g ds r B (by omega) p (λi x a f m=>D x a (s i x a f m)) (λi x C=>by
    obtain⟨P,a,f,m,w⟩:=at_ i (by have:=ltL C;omega);rw[C]at f;injection f with f;rw[f];exact w.iface) n
  ·rename_i es
   obtain⟨u,r,rfl,p,s⟩:=h;have J:=qcW (λe:Lit×DataW Unit=>(qa1 (qaN e.1).length++qaN e.1)++qdn k e.2) es λa A=>by
    rw[kaa,kaa];have:=qhT (qaN a.1).length;omega
   have e:(qdn (k+1) (.map es)).length=_+(es.flatMap λe:Lit×DataW Unit=>(qa1 (qaN e.1).length++qaN e.1)++qdn k e.2).length:=kaa;exact qv7 (qdn k) W c v u F hF g es r B (by omega) p (λi M a f=>by
    obtain⟨l,x,E,G,H,z⟩:=s i M a f;obtain⟨t,y,rfl⟩:=z.iface;exact⟨l,t,y,E,G,H,D _ a z⟩) n
  exact h.elim

theorem qeH(k:Nat)(W:World)(F:Nat->Prop)(x:Value)(d:DataW Unit)(hF:∀j,F j->j<W.heap.size)(h:qah k W F x d)(m:(qbc k d).length<=999999999):Calls prog 34 #[.int .i64 2,x] W λe a=>∃b,e=.returned b/\Own a W.heap.size b (qbc k d)/\Below W.heap.size W a:=by
 have c:=qnL k W W.heap.size F x d hF h W _ [] bwR (qiQ W) (by simpa using m);obtain⟨t,y,rfl⟩:=h.iface;go_enter func34,ntmps34
 go_wp2_with(first
  |(go_at_call 51;refine c.mono ?_;rintro e r ⟨q,rfl,f,l⟩;obtain⟨g,i,n,p,o,rfl⟩:=f))
 go_ret;exact⟨_,rfl,⟨g,i,_,_,_,rfl⟩,l⟩
theorem qiE(k:Nat)(W:World)(F:Nat->Prop)(x:Value)(d:DataW Unit)(hF:∀j,F j->j<W.heap.size)(h:qah k W F x d)(m:(qdn k d).length<=999999999):Calls prog 34 #[.int .i64 3,x] W λe a=>∃b,e=.returned b/\Own a W.heap.size b (qdn k d)/\Below W.heap.size W a:=by
 have c:=qnH k W W.heap.size F x d hF h W _ [] bwR (qiQ W) (by simpa using m);obtain⟨t,y,rfl⟩:=h.iface;go_enter func34,ntmps34
 go_wp2_with(first
  |(go_at_call 52;refine c.mono ?_;rintro e r ⟨q,rfl,f,l⟩;obtain⟨g,i,n,p,o,rfl⟩:=f))
 go_ret;exact⟨_,rfl,⟨g,i,_,_,_,rfl⟩,l⟩

theorem qfi(W:World)(b:Nat)(v:Value)(bs:List UInt8)(s:bs.length<=999999999)(h:Own W b v bs):Calls prog 89 #[v,.bool true] W λe g=>∃f,e=.returned f/\Own g b f (bs++[116,114,117,101])/\Below b W g:=by
 obtain⟨r,l,o,p,q⟩:=kaF Tryz.infoU8;obtain⟨a,n,c,rfl⟩:=h.2.2;have d:=qab h;have i:(⟨([116,114,117,101]:List UInt8).toArray⟩:ByteArray).size=4:=rfl;go_enter func89,ntmps89
 go_wp2_with(first
  |(at_builtin;refine wpList_append_own_string _ rfl _ _ 27 9 rfl b 5 r underlying27 underlying9 l o p q _ _ _ rfl d.out.1 ⟨[116,114,117,101].toArray⟩ rfl (by rw[i];unfold maxLen;omega) (by rw[i];omega) d.out.2.1 ?_;intro f u m k t;have j:=qab (qaQ d.out m k)))
 go_ret;exact⟨_,rfl,j.out⟩
theorem qeK(W:World)(b:Nat)(v:Value)(bs:List UInt8)(s:bs.length<=999999999)(h:Own W b v bs):Calls prog 89 #[v,.bool false] W λe g=>∃f,e=.returned f/\Own g b f (bs++[102,97,108,115,101])/\Below b W g:=by
 obtain⟨r,l,o,p,q⟩:=kaF Tryz.infoU8;obtain⟨a,n,c,rfl⟩:=h.2.2;have d:=qab h;have i:(⟨([102,97,108,115,101]:List UInt8).toArray⟩:ByteArray).size=5:=rfl;go_enter func89,ntmps89
 go_wp2_with(first
  |(at_builtin;refine wpList_append_own_string _ rfl _ _ 27 9 rfl b 5 r underlying27 underlying9 l o p q _ _ _ rfl d.out.1 ⟨[102,97,108,115,101].toArray⟩ rfl (by rw[i];unfold maxLen;omega) (by rw[i];omega) d.out.2.1 ?_;intro f u m k t;have j:=qab (qaQ d.out m k)))
 go_ret;exact⟨_,rfl,j.out⟩
theorem qg3(W:World)(b:Nat)(v:Value)(bs:List UInt8)(m:bs.length<=999999999)(h:Own W b v bs):Calls prog 65 #[v,.bool true] W λe d=>∃f,e=.returned f/\Own d b f (bs++[116,114,117,101])/\Below b W d:=by
 have g:=qfi W b v bs m h;obtain⟨a,n,c,rfl⟩:=h.2.2;go_enter func65,ntmps65
 go_wp2_with(first
  |(go_at_call 89;refine g.mono ?_;rintro e s ⟨r,rfl,i,l⟩;obtain⟨j,k,o,q,p,rfl⟩:=i))
 go_ret;exact⟨_,rfl,⟨j,k,_,_,_,rfl⟩,l⟩
theorem qfT(W:World)(b:Nat)(v:Value)(bs:List UInt8)(m:bs.length<=999999999)(h:Own W b v bs):Calls prog 65 #[v,.bool false] W λe d=>∃f,e=.returned f/\Own d b f (bs++[102,97,108,115,101])/\Below b W d:=by
 have g:=qeK W b v bs m h;obtain⟨a,n,c,rfl⟩:=h.2.2;go_enter func65,ntmps65
 go_wp2_with(first
  |(go_at_call 89;refine g.mono ?_;rintro e s ⟨r,rfl,i,l⟩;obtain⟨j,k,o,q,p,rfl⟩:=i))
 go_ret;exact⟨_,rfl,⟨j,k,_,_,_,rfl⟩,l⟩
theorem qmE(W:World)(b:Nat)(v:Value)(bs:List UInt8)(s:bs.length<=999999999)(h:Own W b v bs):Calls prog 50 #[v,.iface 196 (.agg #[])] W λe g=>∃f,e=.returned f/\Own g b f (bs++[110,117,108,108])/\Below b W g:=by
 obtain⟨r,l,o,p,q⟩:=kaF Tryz.infoU8;obtain⟨a,n,c,rfl⟩:=h.2.2;have d:=qab h;have u:=qcC;have w:=qcr;have x:=qde;have y:=qdf;have z:=qd3;have i:(⟨([110,117,108,108]:List UInt8).toArray⟩:ByteArray).size=4:=rfl;go_enter func50,ntmps50
 go_wp2_with(first
  |(at_builtin;refine wpList_append_own_string _ rfl _ _ 27 9 rfl b 5 r underlying27 underlying9 l o p q _ _ _ rfl d.out.1 ⟨[110,117,108,108].toArray⟩ rfl (by rw[i];unfold maxLen;omega) (by rw[i];omega) d.out.2.1 ?_;intro f A m k t;have j:=qab (qaQ d.out m k)))
 go_ret;exact⟨_,rfl,j.out⟩
theorem qhA(W:World)(b:Nat)(v:Value)(bs:List UInt8)(m:bs.length<=999999999)(h:Own W b v bs):Calls prog 50 #[v,.iface 158 (.bool true)] W λe d=>∃f,e=.returned f/\Own d b f (bs++[116,114,117,101])/\Below b W d:=by
 have g:=qg3 W b v bs m h;obtain⟨a,n,c,rfl⟩:=h.2.2;have r:=qb9 true;go_enter func50,ntmps50
 go_wp2_with(first
  |(go_at_call 65;refine g.mono ?_;rintro e t ⟨s,rfl,i,l⟩;obtain⟨j,k,o,q,p,rfl⟩:=i))
 go_ret;exact⟨_,rfl,⟨j,k,_,_,_,rfl⟩,l⟩
theorem qgA(W:World)(b:Nat)(v:Value)(bs:List UInt8)(m:bs.length<=999999999)(h:Own W b v bs):Calls prog 50 #[v,.iface 158 (.bool false)] W λe d=>∃f,e=.returned f/\Own d b f (bs++[102,97,108,115,101])/\Below b W d:=by
 have g:=qfT W b v bs m h;obtain⟨a,n,c,rfl⟩:=h.2.2;have r:=qb9 false;go_enter func50,ntmps50
 go_wp2_with(first
  |(go_at_call 65;refine g.mono ?_;rintro e t ⟨s,rfl,i,l⟩;obtain⟨j,k,o,q,p,rfl⟩:=i))
 go_ret;exact⟨_,rfl,⟨j,k,_,_,_,rfl⟩,l⟩

end
section
open Go.RowKit
def qaJ(W:World)(m:Nat)(ks:List (List UInt8)):Prop:=∃D,W.ownsMap prog 9 (unitElem (H:=Unit)) m ks.length D/\∀l:List UInt8,Maps.has D (.string l)=decide (l∈ks)
theorem qaJ.kept{m:Nat}{ks:List (List UInt8)}{row:Option Nat}(h:qaJ W m ks)(c:W.grownBy W' row)(d:some m≠row):qaJ W' m ks:=by
 obtain⟨D,a,b⟩:=h;exact⟨D,a.kept c d,b⟩
theorem qj3(l:List UInt8)(b:l.length<=1000000000):keyOf prog 9 (.string ⟨l.toArray⟩)=some (.string l):=by
 have a:(⟨l.toArray⟩:ByteArray).size<=maxLen:=by
  show l.toArray.size<=maxLen;rw[kaT];unfold maxLen;omega
 simp[keyOf,mapKey,underlying9,a]
theorem qiq(W:World)(m:Nat)(ks:List (List UInt8))(l:List UInt8)(h:qaJ W m ks)(f:l∈ks)(d:l.length<=1000000000):Calls prog 212 #[.map (some m),.string ⟨l.toArray⟩] W λe a=>e=.returned (.bool false)/\Below W.heap.size W a:=by
 obtain⟨D,b,c⟩:=h;have j:(zeroValue 195).run prog W=.ok (.agg #[]) W:=by kernel_rfl
 obtain⟨v,k,g,i⟩:=b.look_ok (kcz underlying9) underlying310 j kes (qj3 l d);obtain⟨rfl,_⟩:=unitElem_inv i;rw[c l,kax f]at g;go_enter func212,ntmps212;go_wp2;go_ret;exact⟨rfl,bwA⟩
theorem qmH(W:World)(m:Nat)(ks:List (List UInt8))(l:List UInt8)(h:qaJ W m ks)(p:¬l∈ks)(x:ks.length<1000000000)(c:l.length<=1000000000):Calls prog 212 #[.map (some m),.string ⟨l.toArray⟩] W λe g=>e=.returned (.bool true)/\qaJ g m (l::ks)/\But m W g:=by
 obtain⟨D,b,i⟩:=h;have w:(zeroValue 195).run prog W=.ok (.agg #[]) W:=by kernel_rfl
 obtain⟨v,z,t,u⟩:=b.look_ok (kcz underlying9) underlying310 w kes (qj3 l c);obtain⟨rfl,_⟩:=unitElem_inv u;rw[i l,kaz p]at t;obtain⟨j,y,s,n⟩:=(b.alloc (.cells #[] 195)).store (kcz underlying9) underlying310 (by unfold maxLen;omega) (qj3 l c) (val:=.agg #[]) (kes (H:=Unit));have f:Hid (qaJ j m (l::ks)/\But m W j):=by
  refine⟨⟨_,s,λq=>?_⟩,?_⟩
  ·by_cases d:q=l
   ·subst d;rw[kdk b.isMap (kcz (P:=prog) underlying9 |>.key (qj3 q c))];simp
   rw[kdg (λe=>d (by injection e)),i q];simp[d]
  have a:=n.grown;exact⟨a.os,a.tape,a.output,kaj (by simp) a.size,λk o r=>(a.block k (by simp;omega) (by simpa using r)).trans (kae _ _ _ o)⟩
 go_enter func212,ntmps212;go_wp2;go_ret;exact⟨rfl,f.out.1,f.out.2⟩

theorem qdu.of(h:qdu W)(j:∀k,k<W.heap.size->k<=1->V.heap[k]?=W.heap[k]?):qdu V:=by
 have a:∀(g off:Nat) (v:Value),g<=1->W.cell? ⟨g,off,none⟩=some v->V.cell? ⟨g,off,none⟩=some v:=λg off v i c=>(kaN (w:=W) (j g (kaI c) i)).trans c;refine⟨λu b=>a _ _ _ (by decide) (h.cb u b),λu b=>?_⟩;obtain⟨d,e,f⟩:=h.pk u b;exact⟨a _ _ _ (by decide) d,a _ _ _ (by decide) e,a _ _ _ (by decide) f⟩
theorem qdu.lt(h:qdu W):1<W.heap.size:=kaI (h.pk 0 (by decide)).1
theorem qdu.below(h:qdu W)(a:Below W.heap.size W V):qdu V:=h.of λk b _=>a.block k b
theorem qdu.but(h:qdu W)(a:But b W V)(e:1<b):qdu V:=h.of λk c d=>a.block k c (by omega)
theorem qeh(W:World)(a:Option Addr)(bs:List UInt8)(c:Nat)(d l:Int)(h:qau W a bs):Calls prog 32 #[.int .i64 2,.agg #[.int .i64 d,.int .i64 l],.slice a bs.length c] W λe f =>
   ∃b,e=.returned (.iface 117 (.agg #[.pointer (some ⟨b,0,none⟩),.func (.func 48) #[] #[]]))/\qad f b ⟨a,bs,c,d,l,0,0⟩/\W.heap.size<=b/\Below W.heap.size W f:=by
 have j:=qab h;go_enter func32,ntmps32;go_wp2;go_ret;have g:Below W.heap.size W ((W.alloc (.cells #[.int .i64 d,.int .i64 l] 52)).alloc (.cells #[.slice a bs.length c,.int .i64 d,.int .i64 l,.int .i64 0,.int .i64 0] 112)):=(bwA).alloc (by simp) _;have i:=qac (W.alloc (.cells #[.int .i64 d,.int .i64 l] 52)) (.cells #[.slice a bs.length c,.int .i64 d,.int .i64 l,.int .i64 0,.int .i64 0] 112);rw[kad]at i;exact⟨W.heap.size+1,rfl,qmB j.out g (by omega) i,by omega,g⟩
theorem qef(W:World)(a:Option Addr)(bs:List UInt8)(c:Nat)(d l:Int)(h:qau W a bs):Calls prog 32 #[.int .i64 3,.agg #[.int .i64 d,.int .i64 l],.slice a bs.length c] W λe f =>
   ∃b,e=.returned (.iface 117 (.agg #[.pointer (some ⟨b,0,none⟩),.func (.func 49) #[] #[]]))/\qad f b ⟨a,bs,c,d,l,0,0⟩/\W.heap.size<=b/\Below W.heap.size W f:=by
 have j:=qab h;go_enter func32,ntmps32;go_wp2;go_ret;have g:Below W.heap.size W ((W.alloc (.cells #[.int .i64 d,.int .i64 l] 52)).alloc (.cells #[.slice a bs.length c,.int .i64 d,.int .i64 l,.int .i64 0,.int .i64 0] 112)):=(bwA).alloc (by simp) _;have i:=qac (W.alloc (.cells #[.int .i64 d,.int .i64 l] 52)) (.cells #[.slice a bs.length c,.int .i64 d,.int .i64 l,.int .i64 0,.int .i64 0] 112);rw[kad]at i;exact⟨W.heap.size+1,rfl,qmB j.out g (by omega) i,by omega,g⟩
theorem qe9(W:World)(b:Nat):Calls prog 185 #[.pointer (some ⟨b,0,none⟩)] W λe a=>e=.returned (.tuple #[])/\a=W:=by
 go_enter func185,ntmps185;go_wp2;go_end0;exact⟨rfl,rfl⟩

end
section
open Go.RowKit Go.Deep
def qdU(n:Nat)(m:Nat->Nat->Bool)(a b:Nat):Bool:=decide (n=n)&&(!(a==b)&&m a b&&m b a)
def qbx(n:Nat)(m:Nat->Nat->Bool):Bool:=(List.range n).all λa=>(List.range n).all λb=>!qdU n m a b
theorem qgD(c:a<n)(d:b<n)(h:qdU n m a b=true):qbx n m=false:=by
 unfold qbx;rw[kaS];refine⟨a,kav.2 c,?_⟩;rw[kcc,kaS];exact⟨b,kav.2 d,by rw[h];decide⟩
theorem qfR(h:∀a b,a<n->b<n->qdU n m a b=false):qbx n m=true:=by
 unfold qbx;rw[ka3];intro a c;rw[ka3];intro b d;rw[h a b (kav.1 c) (kav.1 d)];rfl
def qbJ(n:Nat)(m:Nat->Nat->Bool)(a b:Nat):Bool:=qa5 n m a b&&qa5 n (λi j=>m j i) a b
def qb1(n:Nat)(m:Nat->Nat->Bool):Bool:=(List.range n).all λa=>(List.range n).all λb=>qbJ n m a b
theorem qez(c:a<n)(d:b<n)(h:qbJ n m a b=false):qb1 n m=false:=by
 unfold qb1;rw[kaS];refine⟨a,kav.2 c,?_⟩;rw[kcc,kaS];exact⟨b,kav.2 d,by rw[h];decide⟩
theorem qf7(h:∀a b,a<n->b<n->qbJ n m a b=true):qb1 n m=true:=by
 unfold qb1;rw[ka3];intro a c;rw[ka3];intro b d;exact h a b (kav.1 c) (kav.1 d)
theorem qpw(H:qiT arr n L ea ecap)(a b:Nat)(c:a<n)(d:b<n)(h:qbU s W0 arr ea L W):Calls prog 44 #[.agg arr,.int .i64 a,.int .i64 b] W λe j=>∃r:Int,e=.returned (.int .i64 r)/\Hid (decide (r<0) = !qa5 n (qbe n L) a b)/\qbU s W0 arr ea L j :=
 (qtp arr n L ea ecap H a b c d W h.edges).mono λ_ _ ⟨r,g,i,f⟩=>⟨r,g,i,h.step f⟩
theorem quA(H:qiT arr n L ea ecap)(a b:Nat)(c:a<n)(d:b<n)(h:qbU s W0 arr ea L W):Calls prog 45 #[.agg arr,.int .i64 a,.int .i64 b] W λe l=>∃r:Int,e=.returned (.int .i64 r)/\Hid (decide (r<0) = !qa5 n (λi j=>qbe n L j i) a b)/\qbU s W0 arr ea L l :=
 (qtq arr n L ea ecap H a b c d W h.edges).mono λ_ _ ⟨r,g,k,f⟩=>⟨r,g,k,h.step f⟩
theorem ql1(arr:Array Value)(n:Nat)(L:List (Int×Int))(j:Option Addr)(F:Nat)(H:qiT arr n L j F)(w:World)(G:qaZ w j L):Calls prog 26 #[.agg arr] w λe O=>e=.returned (.bool (qbx n (qbe n L)))/\Below w.heap.size w O:=by
 have z:=H.cfg.f0;have P:=H.hn;have h:=qab (qaD H.cfg.size);have p:=qab H;have E:=qab (qgi w arr j L G);have s:Hid (Below w.heap.size w (w.alloc (.cells arr 25))):=bwA;go_enter func26,ntmps26;go_wp2;generalize w.alloc (.cells arr 25)=W0 at *
 go_loopg[3,4] n (λg x y wr=>∃k:Nat,Hid (k+g=n)/\x=.int .i64 k/\Hid (qbU w.heap.size W0 arr j L wr)/\Hid (∀a b,a<k->b<n->qdU n (qbe n L) a b=false))
 case atStart=>exact⟨0,by show _=_;omega,rfl,E,λa b A=>by omega⟩
 case round =>
  obtain⟨k,o,rfl,c,t⟩:=hrel;have I:=(c.out.cell 0).trans z
  cases gk with
  |zero =>
   have J:¬(k:Int)<n:=by have:=o.out;omega
   go_wp2;go_ret;exact⟨by rw[qfR (λa b A f=>t.out a b (by have:=o.out;omega) f)];rfl,c.out.from_ s.out⟩
  |succ g =>
   have J:(k:Int)<n:=by have:=o.out;omega
   go_wp2
   go_loopg[4] n (λg x wr=>∃q:Nat,Hid (q+g=n)/\x=.int .i64 q/\Hid (qbU w.heap.size W0 arr j L wr)/\Hid (∀b,b<q->qdU n (qbe n L) k b=false))
   case atStart=>exact⟨0,by show _=_;omega,rfl,c,λb f=>by omega⟩
   case round =>
    obtain⟨q,i,rfl,c,m⟩:=hrel;have I:=(c.out.cell 0).trans z
    cases gk with
    |zero =>
     have N:¬(q:Int)<n:=by have:=i.out;omega
     go_wp2;go_roundg g
     case measure=>omega
     case rel =>
      refine⟨k+1,by show _=_;have:=o.out;omega,by go_num,c,λa b A f=>?_⟩;by_cases e:a=k
      ·subst e;exact m.out b (by have:=i.out;omega)
      exact t.out a b (by omega) f
    |succ r =>
     have N:(q:Int)<n:=by have:=i.out;omega
     by_cases B:k=q
     ·have d:Hid (qdU n (qbe n L) k q=false):=by show _=_;unfold qdU;simp[B]
      have K:((k:Int)==q)=true:=kcy.2 (by omega);have M:((k:Int) != q)=false:=by rw[bne_eq_false_iff_eq];omega
      go_wp2;go_roundg r
      case measure=>omega
      case rel =>
       refine⟨q+1,by show _=_;have:=i.out;omega,by go_num,c,λb f=>?_⟩;by_cases e:b=q
       ·subst e;exact d.out
       exact m.out b (by omega)
     have K:((k:Int)==q)=false:=ka1.2 (by omega);have M:((k:Int) != q)=true:=by rw[bne_iff_ne];omega
     have D:=qab (ka1.2 B);cases u:qbe n L k q
     ·have d:Hid (qdU n (qbe n L) k q=false):=by show _=_;unfold qdU;simp[u]
      go_wp2_with(first
       |(refine kak rfl 25 _ rfl _ rfl _ _ _ _ c.out.box underlying25 rfl h.out ?_)
       |(refine qaf 25 _ rfl rfl _ rfl _ _ _ _ c.out.box underlying25 rfl h.out ?_)
       |(go_at_call 43;refine(qd9 p.out _ _ (by omega) (by omega) c.out).mono ?_;rintro e C ⟨rfl,l⟩;have c:=qab l))
      go_roundg r
      case measure=>omega
      case rel =>
       refine⟨q+1,by show _=_;have:=i.out;omega,by go_num,c,λb f=>?_⟩;by_cases e:b=q
       ·subst e;exact d.out
       exact m.out b (by omega)
     cases v:qbe n L q k
     ·have d:Hid (qdU n (qbe n L) k q=false):=by show _=_;unfold qdU;simp[v]
      go_wp2_with(first
       |(refine kak rfl 25 _ rfl _ rfl _ _ _ _ c.out.box underlying25 rfl h.out ?_)
       |(refine qaf 25 _ rfl rfl _ rfl _ _ _ _ c.out.box underlying25 rfl h.out ?_)
       |(go_at_call 43;refine(qd9 p.out _ _ (by omega) (by omega) c.out).mono ?_;rintro e C ⟨rfl,l⟩;have c:=qab l))
      go_roundg r
      case measure=>omega
      case rel =>
       refine⟨q+1,by show _=_;have:=i.out;omega,by go_num,c,λb f=>?_⟩;by_cases e:b=q
       ·subst e;exact d.out
       exact m.out b (by omega)
     have d:Hid (qdU n (qbe n L) k q=true):=by show _=_;unfold qdU;rw[u,v,D.out];simp
     go_wp2_with(first
      |(refine kak rfl 25 _ rfl _ rfl _ _ _ _ c.out.box underlying25 rfl h.out ?_)
      |(refine qaf 25 _ rfl rfl _ rfl _ _ _ _ c.out.box underlying25 rfl h.out ?_)
      |(go_at_call 43;refine(qd9 p.out _ _ (by omega) (by omega) c.out).mono ?_;rintro e C ⟨rfl,l⟩;have c:=qab l))
     go_ret;exact⟨by rw[qgD (a:=k) (b:=q) (by omega) (by omega) d.out];rfl,c.out.from_ s.out⟩
theorem qlL(arr:Array Value)(n:Nat)(L:List (Int×Int))(s:Option Addr)(K:Nat)(H:qiT arr n L s K)(w:World)(N:qaZ w s L):Calls prog 27 #[.agg arr] w λe S=>e=.returned (.bool (qb1 n (qbe n L)))/\Below w.heap.size w S:=by
 have F:=H.cfg.f0;have T:=H.hn;have h:=qab (qaD H.cfg.size);have p:=qab H;have J:=qab (qgi w arr s L N);have B:Hid (Below w.heap.size w (w.alloc (.cells arr 25))):=bwA;go_enter func27,ntmps27;go_wp2;generalize w.alloc (.cells arr 25)=W0 at *
 go_loopg[3,4] n (λg x y wr=>∃k:Nat,Hid (k+g=n)/\x=.int .i64 k/\Hid (qbU w.heap.size W0 arr s L wr)/\Hid (∀a b,a<k->b<n->qbJ n (qbe n L) a b=true))
 case atStart=>exact⟨0,by show _=_;omega,rfl,J,λa b G=>by omega⟩
 case round =>
  obtain⟨k,v,rfl,c,D⟩:=hrel;have O:=(c.out.cell 0).trans F
  cases gk with
  |zero =>
   have P:¬(k:Int)<n:=by have:=v.out;omega
   go_wp2;go_ret;exact⟨by rw[qf7 (λa b G t=>D.out a b (by have:=v.out;omega) t)];rfl,c.out.from_ B.out⟩
  |succ g =>
   have P:(k:Int)<n:=by have:=v.out;omega
   go_wp2
   go_loopg[4] n (λg x wr=>∃q:Nat,Hid (q+g=n)/\x=.int .i64 q/\Hid (qbU w.heap.size W0 arr s L wr)/\Hid (∀b,b<q->qbJ n (qbe n L) k b=true))
   case atStart=>exact⟨0,by show _=_;omega,rfl,c,λb t=>by omega⟩
   case round =>
    obtain⟨q,z,rfl,c,E⟩:=hrel;have O:=(c.out.cell 0).trans F
    cases gk with
    |zero =>
     have R:¬(q:Int)<n:=by have:=z.out;omega
     go_wp2;go_roundg g
     case measure=>omega
     case rel =>
      refine⟨k+1,by show _=_;have:=v.out;omega,by go_num,c,λa b G t=>?_⟩;by_cases e:a=k
      ·subst e;exact E.out b (by have:=z.out;omega)
      exact D.out a b (by omega) t
    |succ M =>
     have R:(q:Int)<n:=by have:=z.out;omega
     cases l:qa5 n (qbe n L) k q
     ·have o:Hid (qbJ n (qbe n L) k q=false):=by show _=_;unfold qbJ;rw[l];rfl
      have m:=qab l
      go_wp2_with(first
       |(refine kak rfl 25 _ rfl _ rfl _ _ _ _ c.out.box underlying25 rfl h.out ?_)
       |(refine qaf 25 _ rfl rfl _ rfl _ _ _ _ c.out.box underlying25 rfl h.out ?_)
       |(go_at_call 44;refine(qpw p.out k q (by omega) (by omega) c.out).mono ?_;rintro e A ⟨r,rfl,f,d⟩;have c:=qab d;have Q:decide (r<0)=true:=(by rw[f.out,m.out];rfl)))
      go_ret;exact⟨by rw[qez (a:=k) (b:=q) (by omega) (by omega) o.out];rfl,c.out.from_ B.out⟩
     cases u:qa5 n (λi j=>qbe n L j i) k q
     ·have o:Hid (qbJ n (qbe n L) k q=false):=by show _=_;unfold qbJ;rw[l,u];rfl
      have m:=qab l;have C:=qab u
      go_wp2_with(first
       |(refine kak rfl 25 _ rfl _ rfl _ _ _ _ c.out.box underlying25 rfl h.out ?_)
       |(refine qaf 25 _ rfl rfl _ rfl _ _ _ _ c.out.box underlying25 rfl h.out ?_)
       |(go_at_call 44;refine(qpw p.out k q (by omega) (by omega) c.out).mono ?_;rintro e A ⟨r,rfl,f,d⟩;have c:=qab d;have I:decide (r<0)=false:=(by rw[f.out,m.out];rfl))
       |(go_at_call 45;refine(quA p.out k q (by omega) (by omega) c.out).mono ?_;rintro e A ⟨r,rfl,f,d⟩;have c:=qab d;have Q:decide (r<0)=true:=(by rw[f.out,C.out];rfl)))
      go_ret;exact⟨by rw[qez (a:=k) (b:=q) (by omega) (by omega) o.out];rfl,c.out.from_ B.out⟩
     have o:Hid (qbJ n (qbe n L) k q=true):=by show _=_;unfold qbJ;rw[l,u];rfl
     have m:=qab l;have C:=qab u
     go_wp2_with(first
      |(refine kak rfl 25 _ rfl _ rfl _ _ _ _ c.out.box underlying25 rfl h.out ?_)
      |(refine qaf 25 _ rfl rfl _ rfl _ _ _ _ c.out.box underlying25 rfl h.out ?_)
      |(go_at_call 44;refine(qpw p.out k q (by omega) (by omega) c.out).mono ?_;rintro e A ⟨r,rfl,f,d⟩;have c:=qab d;have I:decide (r<0)=false:=(by rw[f.out,m.out];rfl))
      |(go_at_call 45;refine(quA p.out k q (by omega) (by omega) c.out).mono ?_;rintro e A ⟨r,rfl,f,d⟩;have c:=qab d;have I:decide (r<0)=false:=(by rw[f.out,C.out];rfl)))
     go_roundg M
     case measure=>omega
     case rel =>
      refine⟨q+1,by show _=_;have:=z.out;omega,by go_num,c,λb t=>?_⟩;by_cases e:b=q
      ·subst e;exact o.out
      exact E.out b (by omega)

theorem qlK(h:∀i j,i<n->j<n->m i j=m' i j):qaA n m = !qbx n m':=by
 cases c:qaA n m
 ·symm;rw[Bool.not_eq_false'];refine qfR (λa b d e=>?_);cases l:qdU n m' a b
  ·rfl
  exfalso;unfold qdU at l;simp only[ka2,kee,ka1]at l;obtain⟨_,⟨r,f⟩,g⟩:=l;rw[<-h a b d e]at f;rw[<-h b a e d]at g;rcases Nat.lt_or_ge b a with o|q
  ·have:=qdw (m:=m) d o (by unfold qqn;rw[f,g];rfl);rw[c]at this;cases this
  have:=qdw (m:=m) e (show a<b by omega) (by unfold qqn;rw[f,g];rfl);rw[c]at this;cases this
 symm;rw[kee];unfold qaA at c;rw[kbi]at c;obtain⟨a,d,c⟩:=c;rw[kbi]at c;obtain⟨b,e,c⟩:=c;have k:=kav.1 d;have p:=kav.1 e;unfold qqn at c;simp only[ka2]at c;refine qgD (a:=a) (b:=b) k (by omega) ?_;unfold qdU;rw[<-h a b k (by omega),<-h b a (by omega) k,c.1,c.2,ka1.2 (show a≠b by omega)];simp
theorem qna(m:Nat->Nat->Bool)(a b k:Nat):ubB m a b k=ubB m b a k:=by unfold ubB;exact kdM _ _
theorem qeG(n:Nat)(m:Nat->Nat->Bool)(a b:Nat):qa5 n m a b=qa5 n m b a:=by
 unfold qa5;congr 1;funext j;unfold qaS;rw[qna];congr 2;funext k;rw[qna]
theorem qeL(c:a<n)(d:m a a=true):qa5 n m a a=true:=by
 refine qdS c (qgq (by unfold ubB;rw[d];rfl) (λk _ b=>?_));unfold ubB at b;simp only[ka2]at b;exact b.1
theorem qo6(h:∀i j,i<n->j<n->m i j=m' i j)(l:∀i,i<n->m' i i=true):qa8 n m=qb1 n m':=by
 have k:∀a b,a<n->b<n->qf1 n m a b=qbJ n m' a b:=λa b c e=>by
  unfold qf1 qbJ;rw[qcD h c e,qcD (λi j q r=>h j i r q) c e]
 have t:∀a b,qbJ n m' a b=qbJ n m' b a:=λa b=>by
  unfold qbJ;rw[qeG,qeG n (λi j=>m' j i)]
 have u:∀a,a<n->qbJ n m' a a=true:=λa c=>by
  unfold qbJ;rw[qeL c (l a c),qeL (m:=λi j=>m' j i) c (l a c)];rfl
 cases d:qa8 n m
 ·symm;unfold qa8 at d;rw[kaS]at d;obtain⟨a,c,d⟩:=d;rw[kcc,kaS]at d;obtain⟨b,e,d⟩:=d;have f:=kav.1 c;have v:=kav.1 e;exact qez (a:=a) (b:=b) f (by omega) (by rw[<-k a b f (by omega)];exact kcc _▸d)
 symm;refine qf7 (λa b c e=>?_);have g:∀a b,a<n->b<a->qbJ n m' a b=true:=λa b c e=>by
  rw[<-k a b c (by omega)];exact ka3.1 (ka3.1 d a (kav.2 c)) b (kav.2 e)
 rcases Nat.lt_trichotomy a b with s|o|p
 ·rw[t];exact g b a e s
 ·subst o;exact u a c
 exact g a b c p

end
section
open Go.RowKit
def qga(c:Cfg):Bool:=qbC c.labels c.L&&qbM c.labels.toNat c.dflt&&qbM c.labels.toNat c.clr
def qb4(c:Cfg):Int :=
 if qga c=false then 1
 else if qbx c.labels.toNat (qbe c.labels.toNat c.L)=false then 2
 else if qb1 c.labels.toNat (qbe c.labels.toNat c.L)=false then 3
 else if qe3 c.inn c.out c.depth c.bytes=false then 4
 else if qaG c.B=false then 5
 else if 0<=qa2 c.labels.toNat c.pol.data.toList then 6 else 0
def qen(c:Cfg):Int:=if qb4 c=6 then qa2 c.labels.toNat c.pol.data.toList else 0
structure qgQ(w:World)(c:Cfg)(W:World):Prop where
 below:Below w.heap.size w W
 box:W.heap[w.heap.size]?=some (.cells c.arr 25)
theorem qgQ.step(h:qgQ w c W)(a:Below W.heap.size W W'):qgQ w c W' :=
 ⟨h.below.trans (a.mono h.below.size),(a.block _ (ltA h.box)).trans h.box⟩
theorem qeV(w:World)(c:Cfg):qgQ w c (w.alloc (.cells c.arr 25)):=⟨bwA,qac _ _⟩
theorem qgQ.cell(h:qgQ w c W)(j:Nat):W.cell? ⟨w.heap.size,j,none⟩=c.arr[j]?:=qaa h.box j
theorem qgQ.cfg(h:qgQ w c W)(a:qia w c):qia W c:=a.below h.below
theorem qsI(c:Cfg)(w:World)(h:qia w c):Calls prog 24 #[.agg c.arr] w λe d=>e=.returned (.bool (qbC c.labels c.L))/\Below w.heap.size w d:=by
 by_cases a:1<=c.labels/\c.labels<=6/\c.L.length<=30
 ·have e:qbC c.labels c.L=qaU c.labels.toNat c.L:=by unfold qbC;rw[kax a];rfl
  rw[e];have b:((c.labels.toNat:Nat):Int)=c.labels:=kbD (by omega);exact qqd c.arr c.labels.toNat c.L c.ea c.ecap ⟨c.size,by rw[b];rfl,rfl⟩ (by omega) (by omega) a.2.2 w h.edges
 have e:qbC c.labels c.L=false:=by unfold qbC;rw[kaz a];rfl
 rw[e];exact qoo c.arr c.labels c.L c.ea c.ecap rfl rfl (by have:=h.eb;unfold maxLen;omega) w a
theorem qek(h:qbC c.labels c.L=true):((c.labels.toNat:Nat):Int)=c.labels/\qiT c.arr c.labels.toNat c.L c.ea c.ecap:=by
 unfold qbC at h;rw[ka2]at h;have b:=kaq h.1;have a:((c.labels.toNat:Nat):Int)=c.labels:=kbD (by omega);exact⟨a,⟨⟨c.size,by rw[a];rfl,rfl⟩,by omega,b.2.2,h.2⟩⟩

theorem qz3(x:Int)(h : -9223372036854775808<=x/\x<=9223372036854775807):IntKind.i64.wrap x=x:=(kcQ x).trans (by omega)
theorem ck{f:FuncId}{args:Array Value}{r:Ending}{Q:Ending->World->Prop}(c:Calls P f args V λe a=>e=r/\Below V.heap.size V a)(b:∀{V':World},Below V.heap.size V V'->S V')(k:∀w,Hid (S w)->Q r w):Calls P f args V Q :=
 c.mono λ_ _ h=>h.1▸k _ (b h.2)
theorem tk{ops:Array Oper}{Q:Exit->Act->World->Prop}{md:Region.Mode}{oi:Oper}{listed:Array Bool}{a:Act}(i d:Nat)(v:Value)(hi:ops[i]?=some oi)(b:(Region.noSelect ops&&Region.free md ops listed i&&(Region.ready md ops listed).contains i&&oi.dst==some d&&Region.wanted oi (yielded ops a.tmps))=true)(e:∀c a w,Q (.panic c) (a.put (some d) v) w->Q (.panic c) a w)(g:∀Z,S Z->(execOp a.eval oi).run P Z=.ok (.value v) Z)(f:S w)(h:wpAnyH P md ops Q S fuel (listed.setIfInBounds i true) (a.put (some d) v) w):wpAnyH P md ops Q S (fuel+1) listed a w:=by
 simp only[ka2]at b;exact qwf (some d) hi b.1.1.1.1 b.1.1.1.2 b.1.1.2 e (by simpa using b.1.2) (.inl ⟨b.2,g⟩) f h

end
end Go.Proofs.YtmajcjammmjimaaGreatDoor
