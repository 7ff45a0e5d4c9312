import Derived.Recover
import Derived.Test.YtoegnhgofkhbnaaGreatDoorHq15
import Derived.Test.YtoegnhgofkhbnaaGreatDoorHq16
import Derived.Test.YtoegnhgofkhbnaaGreatDoorHq14
set_option maxRecDepth 100000
set_option maxHeartbeats 8000000
set_option linter.all false
namespace Go.Proofs.YtoegnhgofkhbnaaGreatDoor
open Go.Proofs.Tryz
open Go.Value renaming int->A7,slice->A8,pointer->A9,string->Aa,tuple->Ab,bool->Ad,iface->Ae
open Go.Obj renaming cells->Af
open Go.Ending renaming returned->Ag
open Go.IntKind renaming i64->Ah
open Option renaming some->Aj,none->Ak
open Go renaming World->Al,Value->Am,Calls->An
open Go.Proofs.Tryz renaming prog->Ao
variable{V V' W W' w:Al}{F:Nat->Prop}{A N b base i k n tb u:Nat}{sv v v':Am}{bs cur l:A2}{d:A3}{s:ByteArray}{o:Oper}{rs:List (List (Nat×A2)×Int×Int)}{st:Nat->Nat}{q:Bi}{c:AN}
section
open Go.RowKit Go.Lib
def Kc(s b:Nat):Nat:=((s^^^b)*1099511628211)%18446744073709551616
theorem Nm(s b:Nat):Kc s b<18446744073709551616:=R7 _ (by decide)
theorem bP(a b:Nat)(e:a<18446744073709551616)(f:b<18446744073709551616):bits .xor .u64 (a:Int) (b:Int)=((a^^^b:Nat):Int):=by
 have h:(BitVec.ofNat 64 a^^^BitVec.ofNat 64 b).toNat=a^^^b:=by
  rw[BitVec.toNat_xor,JY,JY,I7 (by omega),I7 (by omega)]
 have c:BitVec.ofInt 64 (a:Int)=BitVec.ofNat 64 a:=Ow ..;have d:BitVec.ofInt 64 (b:Int)=BitVec.ofNat 64 b:=Ow ..;show IntKind.u64.wrap ((BitVec.ofInt 64 (a:Int)^^^BitVec.ofInt 64 (b:Int)).toNat:Int)=_;have g:a^^^b<2^64:=Nat.xor_lt_two_pow (by omega) (by omega);rw[c,d,h];unfold IntKind.wrap;simp[IntKind.bits,IntKind.signed];omega
theorem bQ(x:Nat):IntKind.u64.wrap ((x:Int)*1099511628211)=(((x*1099511628211)%18446744073709551616:Nat):Int):=by
 unfold IntKind.wrap;simp[IntKind.bits,IntKind.signed]
theorem Rn(s b:Nat)(c:s<18446744073709551616)(d:b<256)(W:Al):An Ao 134 #[A7 .u64 s,A7 .u8 b] W λe a=>e=Ag (A7 .u64 (Kc s b))/\a=W:=by
 have f:=bP s b c (by omega);go_enter func134,ntmps134;go_wp2;rw[bQ];go_ret;exact⟨rfl,rfl⟩
theorem dE(T:A3->Bool)(W:Al)(u:Am)(F:Nat->Prop)(hF:∀k,F k->k<W.heap.size)(ds:List (Lit×DataW Unit))(xs:List Am)(D:C7 W 222 2 F u ds.length xs)(S:∀(i:Nat) (key:Lit) (d:A3),ds[i]?=Aj (key,d)->∃l t y,key=.string l/\xs[2*i]?=Aj (Aa ⟨l.toArray⟩)/\xs[2*i+1]?=Aj (Ae t y)/\RG W (Ae t y) (T d)):An Ao 83 #[Ae 220 u] W λe N=>e=Ag (Ad (ds.any λe=>T e.2))/\A1 W N:=by
 obtain⟨q,a,rfl,Y⟩:∃q a,u=A8 q ds.length a/\ds.length<=maxLen:=by
  rcases D.2 with⟨e,w⟩|⟨g,a,O,e,_,_,P,Q,_⟩
  ·exact⟨Ak,0,by rw[e,w],by rw[w];decide⟩
  exact⟨_,_,e,AW P Q⟩
 unfold maxLen at Y;have L:=Ap D;have I:=Ap S;obtain⟨r,s⟩:∃r,Hid ((ds.any λe=>T e.2)=r):=⟨_,show _=_ from rfl⟩
 rw[s.out];have ad:=dx q ds.length a;have ae:=Vv q ds.length a;have af:=Vw q ds.length a;go_enter func83,ntmps83;go_wp2
 go_loopg[31,9] ds.length (λg z ag wr=>∃(k:Nat),z=A7 Ah k/\Hid (k+g=ds.length)/\Hid ((ds.take k).any (λe=>T e.2)=false)/\Hid (A1 W wr))
 case atStart=>exact⟨0,rfl,by show _=_;omega,by show _=_;simp,AT _ _⟩
 case round =>
  obtain⟨k,rfl,m,C,b⟩:=hrel
  cases gk with
  |zero =>
   have X:¬(k:Int)<ds.length:=by have:=m.out;omega
   have K:Hid (r=false):=by
    show _=_;rw[<-s.out];have h:=C.out;rwa[FJ (by have:=m.out;omega)]at h
   go_wp2;go_ret;rw[K.out];exact⟨rfl,b⟩
  |succ g =>
   have V:k<ds.length:=by have:=m.out;omega
   have X:(k:Int)<ds.length:=by omega
   have p:=L.same (V':=wr) (G:=F) (λ_ h=>h) (λj U=>b.block j (hF j U));obtain⟨q0,rfl⟩:∃q0,q=Aj ⟨q0,0,Ak⟩:=by
    rcases p.2 with⟨_,e⟩|⟨g,aa,O,e,_⟩
    ·omega
    injection e with e1 w e3;exact⟨g,e1⟩
   obtain⟨⟨key,d⟩,B⟩:∃d,ds[k]?=Aj d:=⟨ds[k],AY V⟩
   obtain⟨l,E,H,rfl,Z,x,R⟩:=I.out k key d B;have ab:wr.cell? ⟨q0,k*2,Ak⟩=Aj (Aa ⟨l.toArray⟩):=by
    have:=p.cell (2*k) _ Z;have e:(⟨q0,0,Ak⟩:Addr).add (2*k)=⟨q0,k*2,Ak⟩:=by by_cases h:2*k=0<;>simp only[Addr.add,h,Df,Gk k 2,K3,LP]
    rwa[e]at this
   have ac:wr.cell? ⟨q0,k*2+1,Ak⟩=Aj (Ae E H):=by
    have:=p.cell (2*k+1) _ x;have e:(⟨q0,0,Ak⟩:Addr).add (2*k+1)=⟨q0,k*2+1,Ak⟩:=by simp[Addr.add,Gk]
    rwa[e]at this
   have v:Hid (A1 W (wr.alloc (Af #[Aa ⟨l.toArray⟩,Ae E H] 222))):=b.alloc b.size _;have c:=R _ v;have J:Hid ((ds.take (k+1)).any (λe=>T e.2)=((ds.take k).any (λe=>T e.2)||T d)):=Vy (λe:Lit×DataW Unit=>T e.2) ds k _ B;have M:Hid (T d=true->(ds.any λe=>T e.2)=true):=Vz (λe:Lit×DataW Unit=>T e.2) ds k _ B;cases f:T d
   ·rw[f]at c;have o:=Ap f
    go_wp2_with(first
     |(go_at_call 83;refine c.mono ?_;rintro e w4 ⟨rfl,A⟩;have n:=Ap (P3 v A)))
    go_roundg g
    case measure=>omega
    case rel=>exact⟨k+1,by go_num,by show _=_;have:=m.out;omega,by show _=_;rw[J.out,C.out,o.out];rfl,n⟩
   rw[f]at c;have o:Hid (r=true):=by show _=_;rw[<-s.out];exact M f
   go_wp2_with(first
    |(go_at_call 83;refine c.mono ?_;rintro e w4 ⟨rfl,A⟩;have n:=Ap (P3 v A)))
   go_ret;rw[o.out];exact⟨rfl,n⟩
theorem AJ.iface:∀{k:Nat} {v:Am} {d:A3},AJ k V F v d->∃t y,v=Ae t y
 |0,_,_,h=>h.elim
 |k+1,v,d,h=>by
  unfold AJ at h;split at h
  ·exact⟨_,_,h⟩
  ·exact⟨_,_,h⟩
  ·exact⟨_,_,h.1⟩
  ·exact⟨_,_,h⟩
  ·obtain⟨u,e,_⟩:=h;exact⟨_,_,e⟩
  ·obtain⟨u,a,e,_⟩:=h;exact⟨_,_,e⟩
  ·obtain⟨u,a,e,_⟩:=h;exact⟨_,_,e⟩
  exact h.elim
theorem RH:∀(k:Nat) (W:Al) (F:Nat->Prop) (v:Am) (d:A3),(∀j,F j->j<W.heap.size)->AJ k W F v d ->
  An Ao 83 #[v] W λe w=>e=Ag (Ad (Dw k d))/\A1 W w
 |0,_,_,_,_,_,h=>h.elim
 |k+1,W,F,v,d,hF,h=>by
  have s:∀x c,AJ k W F x c->RG W x (Dw k c):=λx c n V r =>
   RH k V F x c (λj o=>Br (hF j o) r.size) (n.same (λ_ h=>h) (λj o=>r.block j (hF j o)))
  unfold AJ at h;split at h
  ·subst h;exact dz W
  ·subst h;exact dA W _
  ·obtain⟨rfl,_⟩:=h;exact dB W _
  ·subst h;exact dC W _
  ·obtain⟨u,rfl,a⟩:=h;rcases a.2 with⟨rfl,_⟩|⟨g,D,E,rfl,_⟩
   ·exact Vx W _ _ _
   exact Vx W _ _ _
  ·obtain⟨u,p,rfl,a,m⟩:=h;refine dD (Dw k) W u F hF _ p a (λi x d b f=>s x d (m i x d b f)) (λi x n=>?_);have C:=AY (show i<_ from by
    have b:=B9 n;have f:=a.1;rw[OL]at f;rwa[f]at b)
   exact(m i x _ n C).iface
  ·obtain⟨u,p,rfl,a,m⟩:=h;refine dE (Dw k) W u F hF _ p a (λi key d b=>?_);obtain⟨l,x,z,A,B,q⟩:=m i key d b;obtain⟨t,y,rfl⟩:=q.iface;exact⟨l,t,y,z,A,B,s _ d q⟩
  exact h.elim
def B1:Lit->A2
 |.string l=>l
 |_=>[]
theorem dF(h:Av W base v bs):v.ownBlock≠Aj W.heap.size:=by
 obtain⟨b,_,_⟩:=h;rcases b.2 with⟨rfl,_⟩|⟨g,c,d,rfl,_,a,_⟩
 ·intro e;cases e
 have:=At a;intro e;simp[Value.ownBlock]at e;omega
theorem VA(h:Av W base v bs)(o:Obj):DO (W.alloc o) base W.heap.size v bs:=⟨⟨h.1.alloc _,by have:=h.2.1;simp;omega,h.2.2⟩,dF h,by simp⟩
theorem dG(T:A3->A2)(W:Al)(f:Nat)(v u:Am)(F:Nat->Prop)(hF:∀k,F k->k<f)(bs:A2)(b:List (Lit×DataW Unit))(xs:List Am)(Y:bs.length+((AO 5 b.length)++b.flatMap (λe:Lit×DataW Unit=>(AO 3 (B1 e.1).length++B1 e.1)++T e.2)).length<=999999999)(hn:b.length<=999999999)(Z:C7 W 222 2 F u b.length xs)(ai:∀(i:Nat) (key:Lit) (d:A3),b[i]?=Aj (key,d)->∃l t y,key=.string l/\xs[2*i]?=Aj (Aa ⟨l.toArray⟩)/\xs[2*i+1]?=Aj (Ae t y)/\P0 W f (Ae t y) (T d))(h:Av W f v bs):An Ao 112 #[v,Ae 220 u] W λe p=>∃s,e=Ag s/\Av p f s (bs++(AO 5 b.length++b.flatMap (λe:Lit×DataW Unit=>(AO 3 (B1 e.1).length++B1 e.1)++T e.2)))/\Below f W p:=by
 have ak:bs.length<=999999999:=by omega
 obtain⟨a,n,c,rfl⟩:=h.2.2;have cH:An Ao 141 #[A8 a n c,A7 .u8 5,A7 .u64 b.length] W λe p=>∃s,e=Ag s/\Av p f s (bs++AO 5 b.length)/\Below f W p:=Jk W f (A8 a n c) bs 5 b.length (by decide) (by omega) ak h;obtain⟨q,o,rfl⟩:∃q o,u=A8 q b.length o:=by
  rcases Z.2 with⟨e,U⟩|⟨g,o,af,e,_⟩
  ·exact⟨Ak,0,by rw[e,U]⟩
  exact⟨_,_,e⟩
 have HU:=Ap Z;have HI:=Ap ai;obtain⟨m,O⟩:∃m:Lit×DataW Unit->A2,Hid (m=(λe:Lit×DataW Unit=>(AO 3 (B1 e.1).length++B1 e.1)++T e.2)):=⟨_,show _=_ from rfl⟩
 rw[<-O.out]at Y ⊢;have HL:=Ap Y;have aw:=RB q b.length o;have ax:=RC q b.length o;have ay:=RD q b.length o;have az:=Vg q b.length o;have a0:=RE q b.length o;have a1:=RF q b.length o;go_enter func112,ntmps112
 go_wp2_with(first
  |(go_at_call 141;refine cH.mono ?_;rintro e w2 ⟨v2,rfl,B,ag⟩;obtain⟨o2,b2,Q,x,c2,rfl⟩:=B;have ac:Hid (Av w2 f (A8 Q x c2) (bs++AO 5 b.length)):=⟨o2,b2,_,_,_,rfl⟩;have aa:=Ap ag))
 go_loopg[0,83,14] b.length (λg y ao a6 wr=>∃(k:Nat) (J:A5) (M K:Nat),y=A8 J M K/\ao=A7 Ah k/\Hid (k+g=b.length)/\Hid (Av wr f (A8 J M K) ((bs++AO 5 b.length)++(b.take k).flatMap m))/\Hid (Below f W wr))
 case atStart=>exact⟨0,Q,x,c2,rfl,rfl,by show _=_;omega,by simpa using ac,aa⟩
 case round =>
  obtain⟨k,J,M,K,rfl,rfl,C,H,E⟩:=hrel
  cases gk with
  |zero =>
   have al:¬(k:Int)<b.length:=by have:=C.out;omega
   have A:Hid (b.take k=b):=by show _=_;exact FJ (by have:=C.out;omega)
   go_wp2;go_ret;have V:=H.out;rw[A.out,CE]at V;exact⟨_,rfl,V,E⟩
  |succ g =>
   have aj:k<b.length:=by have:=C.out;omega
   have al:(k:Int)<b.length:=by omega
   have I:=HU.same (V':=wr) (G:=F) (λ_ h=>h) (λj hj=>E.block j (hF j hj));obtain⟨q0,rfl⟩:∃q0,q=Aj ⟨q0,0,Ak⟩:=by
    rcases I.2 with⟨_,e⟩|⟨g,ap,af,e,_⟩
    ·omega
    injection e with e1 U e3;exact⟨g,e1⟩
   obtain⟨⟨key,d⟩,X⟩:∃d,b[k]?=Aj d:=⟨b[k],AY aj⟩
   obtain⟨l,r,w,rfl,am,an,hI⟩:=HI.out k key d X;have aq:wr.cell? ⟨q0,k*2,Ak⟩=Aj (Aa ⟨l.toArray⟩):=by
    have:=I.cell (2*k) _ am;have e:(⟨q0,0,Ak⟩:Addr).add (2*k)=⟨q0,k*2,Ak⟩:=by by_cases h:2*k=0<;>simp only[Addr.add,h,Df,Gk k 2,K3,LP]
    rwa[e]at this
   have ar:wr.cell? ⟨q0,k*2+1,Ak⟩=Aj (Ae r w):=by
    have:=I.cell (2*k+1) _ an;have e:(⟨q0,0,Ak⟩:Addr).add (2*k+1)=⟨q0,k*2+1,Ak⟩:=by simp[Addr.add,Gk]
    rwa[e]at this
   have A:Hid ((b.take (k+1)).flatMap m=(b.take k).flatMap m++((AO 3 l.length++l)++T d)):=by
    show _=_;rw[Hi,X,O.out];simp[B1]
   have D:Hid (((bs++AO 5 b.length)++(b.take k).flatMap m).length+((AO 3 l.length++l)++T d).length<=999999999):=by
    show _<=_;have h1:=HL.out;have B:(b.flatMap m).length=((b.take (k+1)).flatMap m).length+((b.drop (k+1)).flatMap m).length:=by
     rw[<-AC,<-JW,Jb]
    rw[A.out]at B;simp only[AC]at h1 B ⊢;omega
   have HV:Hid (Below f W (wr.alloc (Af #[Aa ⟨l.toArray⟩,Ae r w] 222))):=E.trans ((AT f wr).alloc H.2.1 _);have cT:=cd _ f wr.heap.size _ _ l (by have:=D.out;omega) (by have:=D.out;simp only[AC]at this;omega) (VA H (Af #[Aa ⟨l.toArray⟩,Ae r w] 222));have P:Hid ((wr.alloc (Af #[Aa ⟨l.toArray⟩,Ae r w] 222)).heap[wr.heap.size]?=Aj (Af #[Aa ⟨l.toArray⟩,Ae r w] 222)):=Ay _ _;have HJ:=Ap hI
   go_wp2_with(first
    |(go_at_call 142;refine cT.mono ?_;rintro e w4 ⟨v4,rfl,h4,L⟩;obtain⟨o4,b4,a4,n4,c4,rfl⟩:=h4;have ad:Hid (Av w4 f (A8 a4 n4 c4) (((bs++AO 5 b.length)++(b.take k).flatMap m)++(AO 3 l.length++l))):=⟨o4,b4,_,_,_,rfl⟩;have N:=Ap (HV.trans L.1);have au:=Ar (L.2.trans P) 0;have av:=Ar (L.2.trans P) 1)
    |(go_at_call 112;refine(HJ w4 _ _ N ad (by have:=D.out;simp only[AC]at this ⊢;omega)).mono ?_;rintro e w5 ⟨v5,rfl,h5,ah⟩;obtain⟨o5,b5,R,z,S,rfl⟩:=h5;have ae:Hid (Av w5 f (A8 R z S) ((((bs++AO 5 b.length)++(b.take k).flatMap m)++(AO 3 l.length++l))++T d)):=⟨o5,b5,_,_,_,rfl⟩;have ab:=Ap (N.trans ah)))
   go_roundg g
   case measure=>omega
   case rel=>exact⟨k+1,R,z,S,rfl,by go_num,by show _=_;have:=C.out;omega,by show Av _ _ _ _;rw[A.out,<-CE,<-CE];exact ae,ab⟩
theorem dH(T:A3->A2)(W:Al)(f:Nat)(v u:Am)(F:Nat->Prop)(hF:∀k,F k->k<f)(bs:A2)(b:List (Lit×DataW Unit))(xs:List Am)(X:bs.length+((EN b.length)++b.flatMap (λe:Lit×DataW Unit=>(C6 (B1 e.1).length++B1 e.1)++T e.2)).length<=999999999)(hn:b.length<=999999999)(Y:C7 W 222 2 F u b.length xs)(ai:∀(i:Nat) (key:Lit) (d:A3),b[i]?=Aj (key,d)->∃l t y,key=.string l/\xs[2*i]?=Aj (Aa ⟨l.toArray⟩)/\xs[2*i+1]?=Aj (Ae t y)/\P2 W f (Ae t y) (T d))(h:Av W f v bs):An Ao 113 #[v,Ae 220 u] W λe O=>∃a,e=Ag a/\Av O f a (bs++(EN b.length++b.flatMap (λe:Lit×DataW Unit=>(C6 (B1 e.1).length++B1 e.1)++T e.2)))/\Below f W O:=by
 have ak:bs.length<=999999999:=by omega
 obtain⟨ad,ao,ae,rfl⟩:=h.2.2;have cH:=cr W f (A8 ad ao ae) bs b.length (by omega) ak h;obtain⟨q,o,rfl⟩:∃q o,u=A8 q b.length o:=by
  rcases Y.2 with⟨e,S⟩|⟨g,o,af,e,_⟩
  ·exact⟨Ak,0,by rw[e,S]⟩
  exact⟨_,_,e⟩
 have HU:=Ap Y;have HI:=Ap ai;obtain⟨m,M⟩:∃m:Lit×DataW Unit->A2,Hid (m=(λe:Lit×DataW Unit=>(C6 (B1 e.1).length++B1 e.1)++T e.2)):=⟨_,show _=_ from rfl⟩
 rw[<-M.out]at X ⊢;have HL:=Ap X;have ax:=RB q b.length o;have ay:=RC q b.length o;have az:=RD q b.length o;have a0:=Vg q b.length o;have a1:=RE q b.length o;have a6:=RF q b.length o;go_enter func113,ntmps113
 go_wp2_with(first
  |(go_at_call 147;refine cH.mono ?_;rintro e w2 ⟨v2,rfl,w,ag⟩;obtain⟨o2,b2,P,Z,c2,rfl⟩:=w;have aa:Hid (Av w2 f (A8 P Z c2) (bs++EN b.length)):=⟨o2,b2,_,_,_,rfl⟩;have n:=Ap ag))
 go_loopg[0,83,14] b.length (λg y ap a7 wr=>∃(k:Nat) (H:A5) (K I:Nat),y=A8 H K I/\ap=A7 Ah k/\Hid (k+g=b.length)/\Hid (Av wr f (A8 H K I) ((bs++EN b.length)++(b.take k).flatMap m))/\Hid (Below f W wr))
 case atStart=>exact⟨0,P,Z,c2,rfl,rfl,by show _=_;omega,by simpa using aa,n⟩
 case round =>
  obtain⟨k,H,K,I,rfl,rfl,A,D,C⟩:=hrel
  cases gk with
  |zero =>
   have al:¬(k:Int)<b.length:=by have:=A.out;omega
   have s:Hid (b.take k=b):=by show _=_;exact FJ (by have:=A.out;omega)
   go_wp2;go_ret;have U:=D.out;rw[s.out,CE]at U;exact⟨_,rfl,U,C⟩
  |succ g =>
   have aj:k<b.length:=by have:=A.out;omega
   have al:(k:Int)<b.length:=by omega
   have E:=HU.same (V':=wr) (G:=F) (λ_ h=>h) (λj hj=>C.block j (hF j hj));obtain⟨q0,rfl⟩:∃q0,q=Aj ⟨q0,0,Ak⟩:=by
    rcases E.2 with⟨_,e⟩|⟨g,aq,af,e,_⟩
    ·omega
    injection e with e1 S e3;exact⟨g,e1⟩
   obtain⟨⟨key,d⟩,V⟩:∃d,b[k]?=Aj d:=⟨b[k],AY aj⟩
   obtain⟨l,p,r,rfl,am,an,hI⟩:=HI.out k key d V;have ar:wr.cell? ⟨q0,k*2,Ak⟩=Aj (Aa ⟨l.toArray⟩):=by
    have:=E.cell (2*k) _ am;have e:(⟨q0,0,Ak⟩:Addr).add (2*k)=⟨q0,k*2,Ak⟩:=by by_cases h:2*k=0<;>simp only[Addr.add,h,Df,Gk k 2,K3,LP]
    rwa[e]at this
   have au:wr.cell? ⟨q0,k*2+1,Ak⟩=Aj (Ae p r):=by
    have:=E.cell (2*k+1) _ an;have e:(⟨q0,0,Ak⟩:Addr).add (2*k+1)=⟨q0,k*2+1,Ak⟩:=by simp[Addr.add,Gk]
    rwa[e]at this
   have s:Hid ((b.take (k+1)).flatMap m=(b.take k).flatMap m++((C6 l.length++l)++T d)):=by
    show _=_;rw[Hi,V,M.out];simp[B1]
   have B:Hid (((bs++EN b.length)++(b.take k).flatMap m).length+((C6 l.length++l)++T d).length<=999999999):=by
    show _<=_;have h1:=HL.out;have w:(b.flatMap m).length=((b.take (k+1)).flatMap m).length+((b.drop (k+1)).flatMap m).length:=by
     rw[<-AC,<-JW,Jb]
    rw[s.out]at w;simp only[AC]at h1 w ⊢;omega
   have HV:Hid (Below f W (wr.alloc (Af #[Aa ⟨l.toArray⟩,Ae p r] 222))):=C.trans ((AT f wr).alloc D.2.1 _);have cT:=cg _ f wr.heap.size _ _ l (by have:=B.out;omega) (by have:=B.out;simp only[AC]at this;omega) (VA D (Af #[Aa ⟨l.toArray⟩,Ae p r] 222));have N:Hid ((wr.alloc (Af #[Aa ⟨l.toArray⟩,Ae p r] 222)).heap[wr.heap.size]?=Aj (Af #[Aa ⟨l.toArray⟩,Ae p r] 222)):=Ay _ _;have HJ:=Ap hI
   go_wp2_with(first
    |(go_at_call 145;refine cT.mono ?_;rintro e c ⟨v4,rfl,h4,J⟩;obtain⟨o4,b4,a4,n4,c4,rfl⟩:=h4;have ab:Hid (Av c f (A8 a4 n4 c4) (((bs++EN b.length)++(b.take k).flatMap m)++(C6 l.length++l))):=⟨o4,b4,_,_,_,rfl⟩;have L:=Ap (HV.trans J.1);have av:=Ar (J.2.trans N) 0;have aw:=Ar (J.2.trans N) 1)
    |(go_at_call 113;refine(HJ c _ _ L ab (by have:=B.out;simp only[AC]at this ⊢;omega)).mono ?_;rintro e w5 ⟨v5,rfl,h5,ah⟩;obtain⟨o5,b5,Q,x,R,rfl⟩:=h5;have ac:Hid (Av w5 f (A8 Q x R) ((((bs++EN b.length)++(b.take k).flatMap m)++(C6 l.length++l))++T d)):=⟨o5,b5,_,_,_,rfl⟩;have z:=Ap (L.trans ah)))
   go_roundg g
   case measure=>omega
   case rel=>exact⟨k+1,Q,x,R,rfl,by go_num,by show _=_;have:=A.out;omega,by show Av _ _ _ _;rw[s.out,<-CE,<-CE];exact ac,z⟩
def II(hB hL hM hT:Nat->A2)(nt:Bool->A2)(no:A2)(nm:Int->A2):Nat->A3->A2
 |0,_=>[]
 |k+1,d=>match d with
  |.nil=>no
  |.lit (.bool b)=>nt b
  |.lit (.int Ah z)=>nm z
  |.lit (.string l)=>hT l.length++l
  |.ptr (.lit (.string l))=>hB l.length++l
  |.agg ds=>hL ds.length++ds.flatMap (II hB hL hM hT nt no nm k)
  |.map es=>hM es.length++es.flatMap λe=>(hT (B1 e.1).length++B1 e.1)++II hB hL hM hT nt no nm k e.2
  |_=>[]
def VB(b:Bool):A2:=bif b then AO 7 21 else AO 7 20
def VC(b:Bool):A2:=bif b then[195]else[194]
def BD:Nat->A3->A2:=II (AO 2) (AO 4) (AO 5) (AO 3) VB (AO 7 22) GR
def Fg:Nat->A3->A2:=II Fe Ff EN C6 VC [192] Jl
theorem M1{α:Type}(f:α->A2):∀(l:List α),(∀a,a∈l->1<=(f a).length)->l.length<=(l.flatMap f).length
 |[],_=>Cy _
 |a::l,h=>by
  have d:=h a (Gg ..);have e:=M1 f l λb c=>h b (GG _ c);rw[LA,AC,Bq];omega
theorem Jm(s x:Nat):1<=(AO s x).length:=by
 unfold AO
 repeat' split
 all_goals simp
theorem dI(z:Int):1<=(GR z).length:=by
 unfold GR;split<;>exact Jm _ _
theorem VD(x:Nat):1<=(C6 x).length:=by
 unfold C6
 repeat' split
 all_goals simp
theorem dJ(x:Nat):1<=(Fe x).length:=by
 unfold Fe
 repeat' split
 all_goals simp
theorem dK(x:Nat):1<=(Ff x).length:=by
 unfold Ff
 repeat' split
 all_goals simp
theorem dL(x:Nat):1<=(EN x).length:=by
 unfold EN
 repeat' split
 all_goals simp
theorem dM(z:Int):1<=(Jl z).length:=by
 unfold Jl FO Fy
 repeat' split
 all_goals simp
theorem VE{hB hL hM hT:Nat->A2}{nt:Bool->A2}{no:A2}{nm:Int->A2}(a:∀x,1<=(hB x).length)(c:∀x,1<=(hL x).length)(e:∀x,1<=(hM x).length)(f:∀x,1<=(hT x).length)(j:∀b,1<=(nt b).length)(i:1<=no.length)(g:∀z,1<=(nm z).length):∀{k:Nat} {v:Am} {d:A3},AJ k V F v d->1<=(II hB hL hM hT nt no nm k d).length
 |0,_,_,h=>h.elim
 |k+1,v,d,h=>by
  unfold AJ at h;unfold II;split at h
  ·exact i
  ·exact j _
  ·exact g _
  ·rw[AC];exact AW (f _) (JZ ..)
  ·rw[AC];exact AW (a _) (JZ ..)
  ·rw[AC];exact AW (c _) (JZ ..)
  ·rw[AC];exact AW (e _) (JZ ..)
  exact h.elim
theorem dN(h:AJ k V F v d):1<=(BD k d).length:=VE (Jm 2) (Jm 4) (Jm 5) (Jm 3) (λb=>by cases b;exact Jm 7 20;exact Jm 7 21) (Jm _ _) dI h
theorem VF:∀(k:Nat) (W:Al) (c:Nat) (F:Nat->Prop) (x:Am) (d:A3),(∀j,F j->j<c)->AJ k W F x d->P0 W c x (BD k d)
 |0,_,_,_,_,_,_,h=>h.elim
 |k+1,W0,c,F,x,d,hF,h0=>by
  intro W v g I n B;have h:=h0.same (λ_ h=>h) (λj K=>I.block j (hF j K));have o:g.length<=999999999:=by omega
  have D:∀y a,AJ k W F y a->P0 W c y (BD k a):=λy a L=>VF k W c F y a hF L;unfold AJ at h;split at h
  ·subst h;exact d9 W c v g o n
  ·rename_i b
   subst h;cases b
   ·exact de W c v g o n
   exact da W c v g o n
  ·obtain⟨rfl,f,m⟩:=h;exact cx W c v g _ f m o n
  ·rename_i l
   subst h;have e:(BD (k+1) (.lit (.string l))).length=_:=AC;exact df W c v g l o (by omega) n
  ·rename_i l
   obtain⟨u,rfl,p⟩:=h;have e:(BD (k+1) (.ptr (.lit (.string l)))).length=_:=AC;exact di W c v u F hF g l o (by omega) p n
  ·rename_i ds
   obtain⟨u,r,rfl,p,s⟩:=h;have N:r.length=ds.length:=by have:=p.1;omega
   have at_:∀i,i<ds.length->∃x a,r[i]?=Aj x/\ds[i]?=Aj a/\AJ k W F x a:=λi q =>
    ⟨_,_,AY (by omega),AY q,s i _ _ (AY (by omega)) (AY q)⟩
   have J:=M1 (BD k) ds λa A=>by
    obtain⟨i,q,rfl⟩:=Iy A;obtain⟨x,M,f,m,w⟩:=at_ i q;rw[AY q]at m;injection m with m;rw[m];exact dN w
   have e:(BD (k+1) (.agg ds)).length=_+(ds.flatMap (BD k)).length:=AC;exact dk (BD k) W c v u F hF g ds r B (by omega) p (λi x a f m=>D x a (s i x a f m)) (λi x C=>by
    obtain⟨O,a,f,m,w⟩:=at_ i (by have:=B9 C;omega);rw[C]at f;injection f with f;rw[f];exact w.iface) n
  ·rename_i es
   obtain⟨u,r,rfl,p,s⟩:=h;have J:=M1 (λe:Lit×DataW Unit=>(AO 3 (B1 e.1).length++B1 e.1)++BD k e.2) es λa A=>by
    rw[AC,AC];have:=Jm 3 (B1 a.1).length;omega
   have e:(BD (k+1) (.map es)).length=_+(es.flatMap λe:Lit×DataW Unit=>(AO 3 (B1 e.1).length++B1 e.1)++BD k e.2).length:=AC;exact dG (BD k) W c v u F hF g es r B (by omega) p (λi key a f=>by
    obtain⟨l,x,E,G,H,z⟩:=s i key a f;obtain⟨t,y,rfl⟩:=z.iface;exact⟨l,t,y,E,G,H,D _ a z⟩) n
  exact h.elim
theorem dO(h:AJ k V F v d):1<=(Fg k d).length:=VE dJ dK dL VD (λb=>by cases b<;>exact AB _) (AB _) dM h
theorem VG:∀(k:Nat) (W:Al) (c:Nat) (F:Nat->Prop) (x:Am) (d:A3),(∀j,F j->j<c)->AJ k W F x d->P2 W c x (Fg k d)
 |0,_,_,_,_,_,_,h=>h.elim
 |k+1,W0,c,F,x,d,hF,h0=>by
  intro W v g I n B;have h:=h0.same (λ_ h=>h) (λj K=>I.block j (hF j K));have o:g.length<=999999999:=by omega
  have D:∀y a,AJ k W F y a->P2 W c y (Fg k a):=λy a L=>VG k W c F y a hF L;unfold AJ at h;split at h
  ·subst h;exact cy W c v g o n
  ·rename_i b
   subst h;cases b
   ·exact cZ W c v g o n
   exact cz W c v g o n
  ·obtain⟨rfl,f,m⟩:=h;exact cw W c v g _ f m o n
  ·rename_i l
   subst h;have e:(Fg (k+1) (.lit (.string l))).length=_:=AC;exact d8 W c v g l o (by omega) n
  ·rename_i l
   obtain⟨u,rfl,p⟩:=h;have e:(Fg (k+1) (.ptr (.lit (.string l)))).length=_:=AC;exact dj W c v u F hF g l o (by omega) p n
  ·rename_i ds
   obtain⟨u,r,rfl,p,s⟩:=h;have N:r.length=ds.length:=by have:=p.1;omega
   have at_:∀i,i<ds.length->∃x a,r[i]?=Aj x/\ds[i]?=Aj a/\AJ k W F x a:=λi q =>
    ⟨_,_,AY (by omega),AY q,s i _ _ (AY (by omega)) (AY q)⟩
   have J:=M1 (Fg k) ds λa A=>by
    obtain⟨i,q,rfl⟩:=Iy A;obtain⟨x,M,f,m,w⟩:=at_ i q;rw[AY q]at m;injection m with m;rw[m];exact dO w
   have e:(Fg (k+1) (.agg ds)).length=_+(ds.flatMap (Fg k)).length:=AC;exact dl (Fg k) W c v u F hF g ds r B (by omega) p (λi x a f m=>D x a (s i x a f m)) (λi x C=>by
    obtain⟨O,a,f,m,w⟩:=at_ i (by have:=B9 C;omega);rw[C]at f;injection f with f;rw[f];exact w.iface) n
  ·rename_i es
   obtain⟨u,r,rfl,p,s⟩:=h;have J:=M1 (λe:Lit×DataW Unit=>(C6 (B1 e.1).length++B1 e.1)++Fg k e.2) es λa A=>by
    rw[AC,AC];have:=VD (B1 a.1).length;omega
   have e:(Fg (k+1) (.map es)).length=_+(es.flatMap λe:Lit×DataW Unit=>(C6 (B1 e.1).length++B1 e.1)++Fg k e.2).length:=AC;exact dH (Fg k) W c v u F hF g es r B (by omega) p (λi key a f=>by
    obtain⟨l,x,E,G,H,z⟩:=s i key a f;obtain⟨t,y,rfl⟩:=z.iface;exact⟨l,t,y,E,G,H,D _ a z⟩) n
  exact h.elim
theorem VH(k:Nat)(W:Al)(F:Nat->Prop)(x:Am)(d:A3)(hF:∀j,F j->j<W.heap.size)(h:AJ k W F x d)(m:(BD k d).length<=999999999):An Ao 84 #[A7 Ah 2,x] W λe a=>∃b,e=Ag b/\Av a W.heap.size b (BD k d)/\A1 W a:=by
 have c:=VF k W W.heap.size F x d hF h W _ [] Bb (P4 W) (by simpa using m);obtain⟨t,y,rfl⟩:=h.iface;go_enter func84,ntmps84
 go_wp2_with(first
  |(go_at_call 112;refine c.mono ?_;rintro e r ⟨q,rfl,f,l⟩;obtain⟨g,i,n,p,o,rfl⟩:=f))
 go_ret;exact⟨_,rfl,⟨g,i,_,_,_,rfl⟩,l⟩
theorem dP(k:Nat)(W:Al)(F:Nat->Prop)(x:Am)(d:A3)(hF:∀j,F j->j<W.heap.size)(h:AJ k W F x d)(m:(Fg k d).length<=999999999):An Ao 84 #[A7 Ah 3,x] W λe a=>∃b,e=Ag b/\Av a W.heap.size b (Fg k d)/\A1 W a:=by
 have c:=VG k W W.heap.size F x d hF h W _ [] Bb (P4 W) (by simpa using m);obtain⟨t,y,rfl⟩:=h.iface;go_enter func84,ntmps84
 go_wp2_with(first
  |(go_at_call 113;refine c.mono ?_;rintro e r ⟨q,rfl,f,l⟩;obtain⟨g,i,n,p,o,rfl⟩:=f))
 go_ret;exact⟨_,rfl,⟨g,i,_,_,_,rfl⟩,l⟩
theorem dQ(W:Al)(b:Nat)(v:Am)(bs:A2)(s:bs.length<=999999999)(h:Av W b v bs):An Ao 163 #[v,Ad true] W λe g=>∃f,e=Ag f/\Av g b f (bs++[116,114,117,101])/\Below b W g:=by
 obtain⟨r,l,o,p,q⟩:=BH Tryz.infoU8;obtain⟨a,n,c,rfl⟩:=h.2.2;have d:=Ap h;have i:(⟨([116,114,117,101]:A2).toArray⟩:ByteArray).size=4:=rfl;go_enter func163,ntmps163
 go_wp2_with(first
  |(at_builtin;refine wpList_append_own_string _ rfl _ _ 49 9 rfl b 5 r underlying49 underlying9 l o p q _ _ _ rfl d.1 ⟨[116,114,117,101].toArray⟩ rfl (by rw[i];unfold maxLen;omega) (by rw[i];omega) d.2.1 ?_;intro f u m k t;have j:=Ap (IG d m k)))
 go_ret;exact⟨_,rfl,j⟩
theorem dR(W:Al)(b:Nat)(v:Am)(bs:A2)(s:bs.length<=999999999)(h:Av W b v bs):An Ao 163 #[v,Ad false] W λe g=>∃f,e=Ag f/\Av g b f (bs++[102,97,108,115,101])/\Below b W g:=by
 obtain⟨r,l,o,p,q⟩:=BH Tryz.infoU8;obtain⟨a,n,c,rfl⟩:=h.2.2;have d:=Ap h;have i:(⟨([102,97,108,115,101]:A2).toArray⟩:ByteArray).size=5:=rfl;go_enter func163,ntmps163
 go_wp2_with(first
  |(at_builtin;refine wpList_append_own_string _ rfl _ _ 49 9 rfl b 5 r underlying49 underlying9 l o p q _ _ _ rfl d.1 ⟨[102,97,108,115,101].toArray⟩ rfl (by rw[i];unfold maxLen;omega) (by rw[i];omega) d.2.1 ?_;intro f u m k t;have j:=Ap (IG d m k)))
 go_ret;exact⟨_,rfl,j⟩
theorem dS(W:Al)(b:Nat)(v:Am)(bs:A2)(m:bs.length<=999999999)(h:Av W b v bs):An Ao 136 #[v,Ad true] W λe d=>∃f,e=Ag f/\Av d b f (bs++[116,114,117,101])/\Below b W d:=by
 have g:=dQ W b v bs m h;obtain⟨a,n,c,rfl⟩:=h.2.2;go_enter func136,ntmps136
 go_wp2_with(first
  |(go_at_call 163;refine g.mono ?_;rintro e s ⟨r,rfl,i,l⟩;obtain⟨j,k,o,q,p,rfl⟩:=i))
 go_ret;exact⟨_,rfl,⟨j,k,_,_,_,rfl⟩,l⟩
theorem dT(W:Al)(b:Nat)(v:Am)(bs:A2)(m:bs.length<=999999999)(h:Av W b v bs):An Ao 136 #[v,Ad false] W λe d=>∃f,e=Ag f/\Av d b f (bs++[102,97,108,115,101])/\Below b W d:=by
 have g:=dR W b v bs m h;obtain⟨a,n,c,rfl⟩:=h.2.2;go_enter func136,ntmps136
 go_wp2_with(first
  |(go_at_call 163;refine g.mono ?_;rintro e s ⟨r,rfl,i,l⟩;obtain⟨j,k,o,q,p,rfl⟩:=i))
 go_ret;exact⟨_,rfl,⟨j,k,_,_,_,rfl⟩,l⟩
theorem dU(W:Al)(b:Nat)(v:Am)(bs:A2)(s:bs.length<=999999999)(h:Av W b v bs):An Ao 111 #[v,Ae 176 (.agg #[])] W λe g=>∃f,e=Ag f/\Av g b f (bs++[110,117,108,108])/\Below b W g:=by
 obtain⟨r,l,o,p,q⟩:=BH Tryz.infoU8;obtain⟨a,n,c,rfl⟩:=h.2.2;have d:=Ap h;have u:=Ro;have w:=Rp;have x:=Rq;have y:=Rr;have z:=Rs;have i:(⟨([110,117,108,108]:A2).toArray⟩:ByteArray).size=4:=rfl;go_enter func111,ntmps111
 go_wp2_with(first
  |(at_builtin;refine wpList_append_own_string _ rfl _ _ 49 9 rfl b 5 r underlying49 underlying9 l o p q _ _ _ rfl d.1 ⟨[110,117,108,108].toArray⟩ rfl (by rw[i];unfold maxLen;omega) (by rw[i];omega) d.2.1 ?_;intro f A m k t;have j:=Ap (IG d m k)))
 go_ret;exact⟨_,rfl,j⟩
theorem dV(W:Al)(b:Nat)(v:Am)(bs:A2)(m:bs.length<=999999999)(h:Av W b v bs):An Ao 111 #[v,Ae 252 (Ad true)] W λe d=>∃f,e=Ag f/\Av d b f (bs++[116,114,117,101])/\Below b W d:=by
 have g:=dS W b v bs m h;obtain⟨a,n,c,rfl⟩:=h.2.2;have r:=M0 true;go_enter func111,ntmps111
 go_wp2_with(first
  |(go_at_call 136;refine g.mono ?_;rintro e t ⟨s,rfl,i,l⟩;obtain⟨j,k,o,q,p,rfl⟩:=i))
 go_ret;exact⟨_,rfl,⟨j,k,_,_,_,rfl⟩,l⟩
theorem dW(W:Al)(b:Nat)(v:Am)(bs:A2)(m:bs.length<=999999999)(h:Av W b v bs):An Ao 111 #[v,Ae 252 (Ad false)] W λe d=>∃f,e=Ag f/\Av d b f (bs++[102,97,108,115,101])/\Below b W d:=by
 have g:=dT W b v bs m h;obtain⟨a,n,c,rfl⟩:=h.2.2;have r:=M0 false;go_enter func111,ntmps111
 go_wp2_with(first
  |(go_at_call 136;refine g.mono ?_;rintro e t ⟨s,rfl,i,l⟩;obtain⟨j,k,o,q,p,rfl⟩:=i))
 go_ret;exact⟨_,rfl,⟨j,k,_,_,_,rfl⟩,l⟩
def DS(x:Nat):UInt8:=[48,49,50,51,52,53,54,55,56,57,97,98,99,100,101,102].getD x 0
def GT(r:Nat):A2:=if r=34\/r=92 then[92,UInt8.ofNat r]else if r<32 then[92,117,48,48,DS (r/16),DS (r%16)]else Cu r
def FP:Nat->A2->A2
 |0,_=>[]
 |_+1,[]=>[]
 |g+1,b::t=>GT (decodeL (b::t)).1++FP g ((b::t).drop (decodeL (b::t)).2)
def CW(l:A2):A2:=[34]++FP l.length l++[34]
theorem KT(h:Av W b v bs)(c:A1 W W'):Av W' b v bs:=by
 refine⟨⟨h.1.1,?_⟩,AW h.2.1 c.size,h.2.2⟩;rcases h.1.2 with a|⟨g,e,f,a,i,d,j⟩
 ·exact .inl a
 exact .inr ⟨g,e,f,a,i,(c.block g (At d)).trans d,j⟩
theorem fl(g:Nat):FP g []=[]:=by cases g<;>rfl
def If(W V:Al):Prop:=∀(k:Nat) (cs:A4) (t:TypeId) (fr:Nat×Nat),W.heap[k]?=Aj (Af cs t fr)->t≠5->V.heap[k]?=Aj (Af cs t fr)
theorem If.refl(W:Al):If W W:=by intro k cs t a h _;exact h
theorem If.trans{A B C:Al}(h:If A B)(g:If B C):If A C:=by intro k cs t a c b;exact g k cs t a (h k cs t a c b) b
theorem Pa(W:Al)(o:Obj):If W (W.alloc o):=by intro k cs t b a _;exact(AL _ _ _ (At a)).trans a
theorem Pb{xs:List Am}(j:W.ownsRow base 5 1 v n xs)(i:W.grownBy V v.ownBlock):If W V:=by
 intro k cs t m d h;refine(i.block k (At d) (λe=>?_)).trans d;rcases j.2 with⟨b,_⟩|⟨g,l,c,b,_,a,_⟩
 ·rw[b]at e;cases e
 rw[b]at e;injection e with e;have f:k=g:=e;rw[<-f,d]at a;injection a with a;injection a with _ a _;exact h a
structure Ex(base:Nat)(W:World)(N:Nat)(s:ByteArray)(i:Nat)(v:Value)(cur:A2)(V:World):Prop where
 own:Av V base v cur
 it:V.heap[N]?=some (.stringIter s i)
 below:Below base W V
 lo:base<=N
 kp:If W V
theorem Ex.ne(h:Ex base W N s i v cur V):Aj N≠v.ownBlock:=by
 intro e;rcases h.own.1.2 with⟨a,_⟩|⟨g,f,c,a,_,b,_⟩
 ·rw[a]at e;cases e
 rw[a]at e;injection e with e;have d:N=g:=e;rw[<-d,h.it]at b;cases b
theorem Ex.app{o:Obj}(h:Ex base W N s i v cur V)(d:V'.ownsRow base 5 1 v' (cur.length+l.length) (cur.map B0++l.map B0))(a:(V.alloc o).grownBy V' v.ownBlock):Ex base W N s i v' (cur++l) V':=by
 have b:=G3 ((AT base V).alloc h.own.2.1 _) (h.own.1.alloc _) a (by have:=h.own.2.1;simp;omega);have f:=At h.it;refine⟨⟨by rw[AC,Eg];exact d,AW h.own.2.1 b.size,?_⟩,(a.block N (by simp;omega) h.ne).trans ((AL _ _ _ f).trans h.it),h.below.trans b,h.lo,h.kp.trans ((Pa V o).trans (Pb (h.own.1.alloc o) a))⟩;rcases d.2 with⟨e,_⟩|⟨g,j,c,e,_⟩
 ·exact⟨Ak,0,0,e⟩
 exact⟨_,_,_,e⟩
theorem Ex.appS(h:Ex base W N s i v cur V)(d:V'.ownsRow base 5 1 v' (cur.length+(⟨l.toArray⟩:ByteArray).size) (cur.map B0++strCells ⟨l.toArray⟩))(a:V.grownBy V' v.ownBlock):Ex base W N s i v' (cur++l) V':=by
 obtain⟨b,c⟩:=IG h.own d a;exact⟨b,(a.block N (At h.it) h.ne).trans h.it,h.below.trans c,h.lo,h.kp.trans (Pb h.own.1 a)⟩
theorem Ex.next(h:Ex base W N s i v cur V)(j:Nat):Ex base W N s j v cur (V.putObj N (.stringIter s j)):=by
 have o:=At h.it;have q:=h.ne;refine⟨⟨⟨h.own.1.1,?_⟩,by simpa[World.putObj]using h.own.2.1,h.own.2.2⟩,by simp[World.putObj,o],M5 h.below h.lo _,h.lo,?hkp⟩
 case hkp =>
  intro k cs t l r u;have b:=h.kp k cs t l r u;refine((grownBy_putObj' V N (.stringIter s j)).block k (At b) (λe=>?_)).trans b;injection e with e;rw[e,h.it]at b;cases b
 rcases h.own.1.2 with a|⟨g,f,c,a,m,d,n⟩
 ·exact .inl a
 refine .inr ⟨g,f,c,a,m,?_,n⟩;have p:g≠N:=by
  rintro rfl;exact q (by rw[a];rfl)
 exact((grownBy_putObj' V N (.stringIter s j)).block g (At d) (by simpa using p)).trans d
theorem Ex.drew(h:Ex base W N s i v cur V):Ex base W N s i v cur V.drew:=⟨h.own,h.it,h.below.drew,h.lo,h.kp⟩
theorem W5(x:Nat)(a:x<16)(V:Al):(Instr.index 9 (Aa ⟨#[48,49,50,51,52,53,54,55,56,57,97,98,99,100,101,102]⟩) (A7 .i32 x)).run Ao V=.ok (B0 (DS x)) V:=by
 have h:x=0\/x=1\/x=2\/x=3\/x=4\/x=5\/x=6\/x=7\/x=8\/x=9\/x=10\/x=11\/x=12\/x=13\/x=14\/x=15:=by omega
 rcases h with rfl|rfl|rfl|rfl|rfl|rfl|rfl|rfl|rfl|rfl|rfl|rfl|rfl|rfl|rfl|rfl<;>(show _=_;kernel_rfl)
theorem fo(r:Nat)(a:r<32):bits .and .i32 (r:Int) 15=((r%16:Nat):Int):=by
 have h:r=0\/r=1\/r=2\/r=3\/r=4\/r=5\/r=6\/r=7\/r=8\/r=9\/r=10\/r=11\/r=12\/r=13\/r=14\/r=15\/r=16\/r=17\/r=18\/r=19\/r=20\/r=21\/r=22\/r=23\/r=24\/r=25\/r=26\/r=27\/r=28\/r=29\/r=30\/r=31:=by omega
 rcases h with rfl|rfl|rfl|rfl|rfl|rfl|rfl|rfl|rfl|rfl|rfl|rfl|rfl|rfl|rfl|rfl|rfl|rfl|rfl|rfl|rfl|rfl|rfl|rfl|rfl|rfl|rfl|rfl|rfl|rfl|rfl|rfl<;>(show _=_;kernel_rfl)
theorem W6{P:Program}{ev:Operand->Am}(a:TypeId)(x y:Operand)(b:o.op=.index a x y){X Y:Am}(c:ev x=X)(d:ev y=Y)(h:(Instr.index a X Y).run P W=.ok v W):(execOp ev o).run P W=.ok (.value v) W:=by
 unfold execOp;simp only[b,c,d,D8,h,Dl];rfl
theorem ft(a b:UInt8)(V:Al):(Instr.buildSlice 49 2 #[(0,B0 a),(1,B0 b)]).run Ao V=.ok (A8 (Aj ⟨V.heap.size,0,Ak⟩) 2 2) (V.alloc (Af #[B0 a,B0 b] 5)):=by kernel_rfl
theorem fw{a:Act}{K:Act->Al->Prop}{Q:Exit->Act->Al->Prop}(x y:Operand)(b:o.op=.buildSlice 49 2 #[(0,x),(1,y)])(p q:UInt8)(c:a.eval x=B0 p)(d:a.eval y=B0 q)(h:K (a.put o.dst (A8 (Aj ⟨w.heap.size,0,Ak⟩) 2 2)) (w.alloc (Af #[B0 p,B0 q] 5))):o.wp Ao a w K Q:=by
 have e:(#[(0,x),(1,y)].map λ(i,y)=>(i,a.eval y))=#[((0:Nat),B0 p),(1,B0 q)]:=by simp[c,d]
 unfold Oper.wp execOp;simp only[b,D8,e,ft,Dl];exact h
theorem fy(W:Al)(f:W.cell? ⟨8,15,Ak⟩=Aj (A7 .u8 4)):An Ao 204 #[A7 .u64 16] W λe a=>e=Ag (A7 Ah 4)/\a=W:=by
 have b:IntKind.u64.wrap (-16)=18446744073709551600:=by kernel_rfl
 have c:bits .and .u64 16 18446744073709551600=16:=by kernel_rfl
 have d:IntKind.u64.wrap (16*285870213051353865)=4573923408821661840:=by kernel_rfl
 go_enter func204,ntmps204;go_wp2;go_ret;exact⟨rfl,rfl⟩
theorem fz(W:Al)(b:W.cell? ⟨8,15,Ak⟩=Aj (A7 .u8 4)):An Ao 201 #[A7 .u64 16] W λe a=>e=Ag (A7 Ah 4)/\a=W:=by
 have c:=fy W b;go_enter func201,ntmps201
 go_wp2_with(first|(go_at_call 204;refine c.mono ?_;rintro e d ⟨rfl,rfl⟩))
 go_ret;exact⟨rfl,rfl⟩
theorem fA(W:Al):An Ao 200 #[A7 Ah 16] W λe a=>e=Ag (Ad true)/\a=W:=by
 have b:bits .and Ah 16 15=0:=by kernel_rfl
 go_enter func200,ntmps200;go_wp2;go_ret;exact⟨rfl,rfl⟩
def Dn(u:Nat):A2:=if u<16 then[DS u]else Dn (u/16)++[DS (u%16)]
theorem RR(h:u<16):Dn u=[DS u]:=by rw[Dn,As h]
theorem W7(h:¬u<16):Dn u=Dn (u/16)++[DS (u%16)]:=by rw[Dn,Aq h]
theorem RS:∀(k u:Nat),u<16^(k+1)->(Dn u).length<=k+1
 |0,u,h=>by rw[RR (by simpa using h)];simp
 |k+1,u,h=>by
  by_cases a:u<16
  ·rw[RR a];simp
  rw[W7 a,AC];have b:u/16<16^(k+1):=by
   rw[Ud (by omega)];rw[LL]at h;exact h
  have:=RS k (u/16) b;simp;omega
structure IL(W:World)(tl:A2)(V:World):Prop where
 below:A1 W V
 arr:V.heap[W.heap.size]?=some (.cells ((List.replicate (65-tl.length) (0:UInt8)++tl).map B0).toArray 314)
 le:tl.length<=65
end
section
open Go.RowKit
theorem GP.of(h:GP W)(j:∀k,k<W.heap.size->k<=2->V.heap[k]?=W.heap[k]?):GP V:=by
 have a:∀(g off:Nat) (v:Am),g<=2->W.cell? ⟨g,off,Ak⟩=Aj v->V.cell? ⟨g,off,Ak⟩=Aj v:=λg off v i c=>(GF (w:=W) (j g (F8 c) i)).trans c;refine⟨λu b=>a _ _ _ (by decide) (h.cb u b),λu b=>?_⟩;obtain⟨d,e,f⟩:=h.pk u b;exact⟨a _ _ _ (by decide) d,a _ _ _ (by decide) e,a _ _ _ (by decide) f⟩
theorem GP.lt(h:GP W):2<W.heap.size:=F8 (h.pk 0 (by decide)).1
theorem GP.below(h:GP W)(a:A1 W V):GP V:=h.of λk b _=>a.block k b
theorem GP.but(h:GP W)(a:AE b W V)(e:2<b):GP V:=h.of λk c d=>a.block k c (by omega)
theorem gL(p q:Addr)(w:Al):CallsD Ao 80 #[A9 (Aj p),A9 (Aj q)] .returning w λe c d=>e=Ag (Ab #[])/\c=.returning/\d=w:=by
 refine callsD_of_wpS func80 rfl λa cs b=>?_;simp only[ntmps80,FY,Bq,CF,Nat.reduceAdd,Nat.reduceSub,Lv,Lw,LB,Lx,Jd,I8];apply wpS_seq;apply wpS_region;simp[wpOpsS,go_sem,recoverD,b,Exit.thenS];refine wpS_of_wp ?_;go_wp2;cases a
 simp_all[bodyPostS,results,results80]
theorem gM(p q:Nat)(a b x y:Int)(w:Al)(c:w.cell? ⟨p,0,Ak⟩=Aj (A7 Ah x))(d:w.cell? ⟨q,0,Ak⟩=Aj (A7 Ah y))(o:w.frozen? ⟨p,0,Ak⟩=false)(r:w.frozen? ⟨q,0,Ak⟩=false)(j:p≠q):CallsD Ao 80 #[A9 (Aj ⟨p,0,Ak⟩),A9 (Aj ⟨q,0,Ak⟩)] (.panicking [{v:=GO a b,recovered:=false}]) w λe D g=>e=Ag (Ab #[])/\D=.panicking [{v:=GO a b,recovered:=true}] /\
   (g.cell? ⟨p,0,Ak⟩=Aj (A7 Ah a)/\g.cell? ⟨q,0,Ak⟩=Aj (A7 Ah b)/\∀B,B<=p->B<=q->B<=w.heap.size->Below B w g):=by
 refine callsD_of_wpS func80 rfl λG cs u=>?_;simp only[ntmps80,FY,Bq,CF,Nat.reduceAdd,Nat.reduceSub,Lv,Lw,LB,Lx,Jd,I8];apply wpS_seq;apply wpS_region;simp[wpOpsS,go_sem,recoverD,u,Exit.thenS,GO];refine wpS_of_wp ?_;have N:∀w:Al,(Instr.typeAssert (Ae 167 (.agg #[A7 Ah a,A7 Ah b])) 20 167 true).run Ao w=.ok (Ab #[.agg #[A7 Ah a,A7 Ah b],Ad true]) w:=λw=>by kernel_rfl
 go_wp2;have i:w.heap.size≠p/\w.heap.size≠q:=⟨by have h:p<w.heap.size:=F8 c;omega,by have h:q<w.heap.size:=F8 d;omega⟩
 have m:(w.alloc (Af #[A7 Ah a,A7 Ah b] 167)).cell? ⟨p,0,Ak⟩=Aj (A7 Ah x):=(Ck w _ _ (by rw[c];rfl)).trans c;have n:(w.alloc (Af #[A7 Ah a,A7 Ah b] 167)).cell? ⟨q,0,Ak⟩=Aj (A7 Ah y):=(Ck w _ _ (by rw[d];rfl)).trans d;have f:A1 w (w.alloc (Af #[A7 Ah a,A7 Ah b] 167)):=AH;have H:=(f.frozen (p:=⟨p,0,Ak⟩) (F8 c)).trans o;have I:=(f.frozen (p:=⟨q,0,Ak⟩) (F8 d)).trans r;have E:(w.alloc (Af #[A7 Ah a,A7 Ah b] 167)).cell? ⟨w.heap.size,0,Ak⟩=Aj (A7 Ah a):=Ar (Ay _ _) 0;have F:(w.alloc (Af #[A7 Ah a,A7 Ah b] 167)).cell? ⟨w.heap.size,1,Ak⟩=Aj (A7 Ah b):=Ar (Ay _ _) 1;have l:=Ap f;have L:=i.1;have M:=i.2;have t:q≠p:=λe=>j e.symm;generalize w.alloc (Af #[A7 Ah a,A7 Ah b] 167)=V at *
 go_region
 have z:((V.setCell ⟨p,0,Ak⟩ (A7 Ah a)).setCell ⟨q,0,Ak⟩ (A7 Ah b)).drew.cell? ⟨p,0,Ak⟩=Aj (A7 Ah a):=by
  show((V.setCell ⟨p,0,Ak⟩ (A7 Ah a)).setCell ⟨q,0,Ak⟩ (A7 Ah b)).cell? ⟨p,0,Ak⟩=_;rw[GF (w:=V.setCell ⟨p,0,Ak⟩ (A7 Ah a)) (BV _ _ _ _ (by simpa using j))];exact U5 _ _ _ (by rw[m];rfl)
 have A:((V.setCell ⟨p,0,Ak⟩ (A7 Ah a)).setCell ⟨q,0,Ak⟩ (A7 Ah b)).drew.cell? ⟨q,0,Ak⟩=Aj (A7 Ah b):=by
  show((V.setCell ⟨p,0,Ak⟩ (A7 Ah a)).setCell ⟨q,0,Ak⟩ (A7 Ah b)).cell? ⟨q,0,Ak⟩=_;refine U5 _ _ _ ?_;rw[GF (w:=V) (BV _ _ _ _ (by simpa using t)),n];rfl
 have C:∀B,B<=p->B<=q->B<=w.heap.size->Below B w ((V.setCell ⟨p,0,Ak⟩ (A7 Ah a)).setCell ⟨q,0,Ak⟩ (A7 Ah b)).drew:=λB h J s =>
  (l.mono s).trans ⟨rfl,rfl,rfl,by simp[World.setCell,World.drew,A1],λk K=>(BV _ _ _ _ (by simp;omega)).trans (BV V _ _ _ (by simp;omega))⟩
 generalize((V.setCell ⟨p,0,Ak⟩ (A7 Ah a)).setCell ⟨q,0,Ak⟩ (A7 Ah b)).drew=X at *;exact⟨rfl,_,rfl,_,results_none rfl _ _ _,rfl,rfl,z,A,C⟩
theorem Av.mono{b':Nat}(h:Av W b v bs)(l:b'<=b):Av W b' v bs:=by
 obtain⟨⟨f,a⟩,k,i⟩:=h;refine⟨⟨f,?_⟩,by omega,i⟩;rcases a with a|⟨g,c,d,e,m,j⟩
 ·exact .inl a
 exact .inr ⟨g,c,d,e,by omega,j⟩
theorem gQ(V:Al)(c:Int)(t:TypeId)(y:Am)(d:A2)(l:(c==1)=false)(f:An Ao 84 #[A7 Ah c,Ae t y] V λe a=>∃b,e=Ag b/\Av a V.heap.size b d/\A1 V a):An Ao 53 #[A7 Ah c,Ae t y] V λe a=>∃b,e=Ag (Ab #[b,A7 Ah 0])/\Av a V.heap.size b d/\A1 V a:=by
 go_enter func53,ntmps53
 go_wp2_with(first
  |(go_at_call 84;refine f.mono ?_;rintro e p ⟨o,rfl,g,j⟩;obtain⟨h,i,k,n,m,rfl⟩:=g))
 go_ret2
 exact⟨_,rfl,⟨h,i,_,_,_,rfl⟩,j⟩
theorem gR(V:Al)(t:TypeId)(y:Am)(d:A2)(g:An Ao 83 #[Ae t y] V λe f=>e=Ag (Ad false)/\A1 V f)(h:∀U,A1 V U->An Ao 84 #[A7 Ah 1,Ae t y] U λe a=>∃b,e=Ag b/\Av a V.heap.size b d/\Below V.heap.size U a):An Ao 53 #[A7 Ah 1,Ae t y] V λe a=>∃b,e=Ag (Ab #[b,A7 Ah 0])/\Av a V.heap.size b d/\A1 V a:=by
 go_enter func53,ntmps53
 go_wp2_with(first
  |(go_at_call 83;refine g.mono ?_;rintro e n ⟨rfl,c⟩;have i:=h n c)
  |(go_at_call 84;refine i.mono ?_;rintro e s ⟨r,rfl,j,m⟩;obtain⟨k,l,o,q,p,rfl⟩:=j))
 go_ret2
 exact⟨_,rfl,⟨k,l,_,_,_,rfl⟩,c.trans m⟩
theorem gS(V:Al)(t:TypeId)(y:Am)(c:An Ao 83 #[Ae t y] V λe b=>e=Ag (Ad true)/\A1 V b):An Ao 53 #[A7 Ah 1,Ae t y] V λe a=>e=Ag (Ab #[A8 Ak 0 0,A7 Ah 13])/\A1 V a:=by
 go_enter func53,ntmps53
 go_wp2_with(first
  |(go_at_call 83;refine c.mono ?_;rintro e f ⟨rfl,d⟩))
 go_ret2
 exact⟨rfl,d⟩
structure XY(W:World)(rs:List (List (Nat×A2)×Int×Int))(dflt:Int)(A:Nat)(q:Bi)(sts:List ((Nat->Nat)×Int×Int))(sa:A5)(sc:Nat)(nf:Lit->Option Nat)(mf:Lit->Option Nat)(W':World):Prop where
 au:BQ W A q sts (.slice sa sts.length sc) nf 0 mf W'
 ers:q.rs=rs
 edf:q.dflt=dflt
 elf:q.lf=Dp (Ec rs)
 eL:q.L=2+(Ec rs).length
 ly:IW rs (Ec rs) q.st q.tk
 mv:La q sts mf
 few:sts.length<=1
 first:∃t Y,sts[0]?=some t/\Mi rs.length q.st (one rs.length) Y/\∀r,r<16->t.1 r=Y r
def XZ(W:Al)(rs:List (List (Nat×A2)×Int×Int))(dflt:Int)(e:Ending)(W':Al):Prop :=
 ∃A q sts sa sc nf mf,e=Ag (A9 (Aj ⟨A,0,Ak⟩))/\XY W rs dflt A q sts sa sc nf mf W'
def Km(W:Al):Al:=((W.alloc (.map #[] 0)).alloc (.map #[] 0)).alloc (.map #[] 0)
theorem SJ(W:Al):(Km W).heap.size=W.heap.size+3:=by simp[Km]
theorem m0(W:Al)(a:TypeId)(b:Nat)(e:W.heap.size<=b)(f:b<W.heap.size+3):Cn (Km W) a b 0 (λ_=>Ak):=by
 have c:(W.alloc (.map #[] 0)).heap.size=W.heap.size+1:=by simp
 have d:((W.alloc (.map #[] 0)).alloc (.map #[] 0)).heap.size=W.heap.size+2:=by simp
 rcases(by omega:b=W.heap.size\/b=W.heap.size+1\/b=W.heap.size+2)with rfl|rfl|rfl
 ·exact((Sa W a).kept (Hh _ _ Ak) (by simp)).kept (Hh _ _ Ak) (by simp)
 ·have h:=(Sa (W.alloc (.map #[] 0)) a).kept (Hh _ (.map #[] 0) Ak) (by simp);rw[c]at h;exact h
 have h:=Sa ((W.alloc (.map #[] 0)).alloc (.map #[] 0)) a;rw[d]at h;exact h
theorem m4(W:Al)(b:Nat)(d:W.heap.size<=b)(e:b<W.heap.size+3):EV (Km W) b []:=by
 have a:(W.alloc (.map #[] 0)).heap.size=W.heap.size+1:=by simp
 have c:((W.alloc (.map #[] 0)).alloc (.map #[] 0)).heap.size=W.heap.size+2:=by simp
 rcases(by omega:b=W.heap.size\/b=W.heap.size+1\/b=W.heap.size+2)with rfl|rfl|rfl
 ·exact((SD W).kept (Hh _ _ Ak) (by simp)).kept (Hh _ _ Ak) (by simp)
 ·have h:=(SD (W.alloc (.map #[] 0))).kept (Hh _ (.map #[] 0) Ak) (by simp);rw[a]at h;exact h
 have h:=SD ((W.alloc (.map #[] 0)).alloc (.map #[] 0));rw[c]at h;exact h
def q0(ra:A5)(rc:Nat)(rs:List (List (Nat×A2)×Int×Int))(dflt:Int)(lm nb mb:Nat):Bi :=
 {ra:=ra,rc:=rc,rs:=rs,dflt:=dflt,lm:=lm,ln:=0,lf:=λ_=>Ak,st:=λ_=>0,tb:=0,L:=0,tc:=0,tk:=λ_ _=>0,nb:=nb,mb:=mb}
def q1(ra:A5)(rc:Nat)(rs:List (List (Nat×A2)×Int×Int))(dflt:Int)(lm nb mb:Nat)(st:Nat->Nat)(tb:Nat)(tk:Nat->Nat->Nat):Bi :=
 {ra:=ra,rc:=rc,rs:=rs,dflt:=dflt,lm:=lm,ln:=(Ec rs).length,lf:=Dp (Ec rs),st:=st,tb:=tb,L:=2+(Ec rs).length,tc:=2+(Ec rs).length,tk:=tk,nb:=nb,mb:=mb}
theorem IW.lt{ks:List A2}{tk:Nat->Nat->Nat}(h:IW rs ks st tk)(b:∀i (h:i<rs.length),rs[i].1.length<=8):(∀r,st r<256)/\∀x r,tk x r<256 :=
 ⟨λr=>PI λp a=>by rw[h.s,PJ b r p a],λx r=>PI λp a=>by rw[h.t,PJ b r p a]⟩
theorem m5{V0 V1 V2 V3:Al}{ra:A5}{rc:Nat}{dflt:Int}{lm nb mb:Nat}{tk:Nat->Nat->Nat}(H:G5 W ra rs)(G:rs.length<=16)(r:∀i (h:i<rs.length),rs[i].1.length<=8)(N:A=W.heap.size+3)(q:W.heap.size<=lm/\lm<W.heap.size+3)(d:W.heap.size<=nb/\nb<W.heap.size+3)(e:W.heap.size<=mb/\mb<W.heap.size+3)(o:lm≠nb)(p:lm≠mb)(y:nb≠mb)(f:V0=(Km W).alloc (Af (EW (q0 ra rc rs dflt lm nb mb) (λ_=>0) (A8 Ak 0 0) (A8 Ak 0 0)) 123))(c:IV V0 lm (Ec rs) V1)(Q:V1.heap.size<=tb)(C:BS V1 A tb (2+(Ec rs).length) (q0 ra rc rs dflt lm nb mb) (A8 Ak 0 0) st tk V2)(B:IW rs (Ec rs) st tk)(z:A1 V2 V3):BQ W A (q1 ra rc rs dflt lm nb mb st tb tk) [] (A8 Ak 0 0) (λ_=>Ak) 0 (λ_=>Ak) V3:=by
 have O:V0.heap.size=W.heap.size+4:=by rw[f,AM,SJ]
 have P:=c.but.size;have a:=C.next z
 have t:A1 W V0:=by
  rw[f];exact(((AH).alloc (by simp) _).alloc (by simp;omega) _).alloc (by simp;omega) _
 have u:=c.but.low t q.1;have v:=a.low u (by omega);have E:(Km W).grownBy V0 Ak:=by rw[f];exact Hh _ _ Ak
 have F:V0.grownBy V1 (Aj lm):=⟨c.but.os,c.but.tape,c.but.output,c.but.size,λi j k=>c.but.block i j (by simpa using k)⟩
 have s:V1.grownBy V3 (Aj A):=⟨a.os,a.tape,a.output,a.size,λi j k=>a.block i j (by simpa using k)⟩
 have key:∀n b,W.heap.size<=b->b<W.heap.size+3->b≠lm->Cn V3 n b 0 (λ_=>Ak):=λn b I J K =>
  (((m0 W n b I J).kept E (by simp)).kept F (by simpa using K)).kept s (by simp;omega)
 obtain⟨w,L,M⟩:=a.tks;refine⟨?_,H,⟨G,r⟩,v,?_,⟨w,L,M.at_⟩,FK _ _ _ _,key _ nb d.1 d.2 o.symm,key _ mb e.1 e.2 p.symm,?_,?_,?_,B.lt r,?_,?_,λl i h=>by cases h⟩
 ·rw[lE];exact a.row
 ·exact(c.names.kept s (by simp;omega)).im
 ·exact⟨by omega,q.1,show W.heap.size<=tb by omega,d.1,e.1⟩
 ·refine⟨show A≠lm by omega,show A≠tb by omega,show A≠nb by omega,show A≠mb by omega,show lm≠tb by omega,o,p,show tb≠nb by omega,show tb≠mb by omega,y⟩
 ·intro g D;cases D
 ·intro i x m;simp at m
 intro i x m;simp at m
theorem m6{L:Nat}{tk:Nat->Nat->Nat}(h:BS W A tb L q sv st tk V):Kh V A q.ra q.rc q.rs.length st :=
 ⟨(At h.row),(DL V A 0 _ _ _ h.row).trans (SF _ _ _ _),λr a=>(h.cs r a).1⟩
theorem m7(e:A5)(f:Nat)(rs:List (List (Nat×A2)×Int×Int))(a:Int)(b d c:Nat):EW (q0 e f rs a b d c) (λ_=>0) (A8 Ak 0 0) (A8 Ak 0 0)=#[A8 e rs.length f,A7 Ah a,.map (Aj b),A7 .u16 0,A7 .u16 0,A7 .u16 0,A7 .u16 0,A7 .u16 0,A7 .u16 0,A7 .u16 0,A7 .u16 0,A7 .u16 0,A7 .u16 0,A7 .u16 0,A7 .u16 0,A7 .u16 0,A7 .u16 0,A7 .u16 0,A7 .u16 0,A8 Ak 0 0,A8 Ak 0 0,.map (Aj d),.map (Aj c)]:=by kernel_rfl
theorem m8(V:Al):(Instr.makeMap 114 Ak).run Ao V=.ok (.map (Aj V.heap.size)) (V.alloc (.map #[] 0)):=by kernel_rfl
theorem m9(V:Al):(Instr.makeMap 115 Ak).run Ao V=.ok (.map (Aj V.heap.size)) (V.alloc (.map #[] 0)):=by kernel_rfl
theorem mc(V:Al):(Instr.makeMap 116 Ak).run Ao V=.ok (.map (Aj V.heap.size)) (V.alloc (.map #[] 0)):=by kernel_rfl
theorem me(W:Al)(b:A5)(d:Nat)(rs:List (List (Nat×A2)×Int×Int))(c:Int)(hr:G5 W b rs)(n:rs.length<=16)(U:∀i (h:i<rs.length),rs[i].1.length<=8)(aa:∀i (h:i<rs.length) j (o:j<rs[i].1.length),rs[i].1[j].1<=3/\rs[i].1[j].2.length<=1000000000):An Ao 25 #[A8 b rs.length d,A7 Ah c] W (XZ W rs c):=by
 have q:=Ap hr;have g:=Ap U;have u:=Ap aa;have m1:=m8;have m2:=m9;have m3:=mc;have I:Hid (∃a,a=((((W.alloc (.map #[] 0)).alloc (.map #[] 0)).alloc (.map #[] 0)).alloc (Af #[A8 b rs.length d,A7 Ah c,.map (Aj W.heap.size),A7 .u16 0,A7 .u16 0,A7 .u16 0,A7 .u16 0,A7 .u16 0,A7 .u16 0,A7 .u16 0,A7 .u16 0,A7 .u16 0,A7 .u16 0,A7 .u16 0,A7 .u16 0,A7 .u16 0,A7 .u16 0,A7 .u16 0,A7 .u16 0,A8 Ak 0 0,A8 Ak 0 0,.map (Aj (W.heap.size+1)),.map (Aj (W.heap.size+1+1))] 123))/\a=(Km W).alloc (Af (EW (q0 b d rs c W.heap.size (W.heap.size+1) (W.heap.size+1+1)) (λ_=>0) (A8 Ak 0 0) (A8 Ak 0 0)) 123)):=⟨_,rfl,by rw[m7];rfl⟩
 obtain⟨a,f,k⟩:=I.out;have m:=Ap k;have v:Hid (a.heap.size=W.heap.size+4):=by show _=_;rw[m.out,AM,SJ]
 have s:Hid (A1 W a):=by
  show Below _ _ _;rw[m.out];exact(((AH).alloc (by simp) _).alloc (by simp;omega) _).alloc (by simp;omega) _
 have r:Hid (a.heap[W.heap.size+3]?=Aj (Af (EW (q0 b d rs c W.heap.size (W.heap.size+1) (W.heap.size+1+1)) (λ_=>0) (A8 Ak 0 0) (A8 Ak 0 0)) 123)):=by
  show _=_;rw[m.out];have:=Ay (Km W) (Af (EW (q0 b d rs c W.heap.size (W.heap.size+1) (W.heap.size+1+1)) (λ_=>0) (A8 Ak 0 0) (A8 Ak 0 0)) 123);rw[SJ]at this;exact this
 have G:Hid (EV a W.heap.size []):=by
  show EV _ _ _;rw[m.out];exact(m4 W W.heap.size (AB _) (by omega)).kept (Hh _ _ Ak) (by simp)
 have P:=lB W a (W.heap.size+1+1+1) W.heap.size b d rs s (by have:=v.out;omega) (by omega) (AB _) n g (λi h j o=>(u i h j o).2) ((DL a _ 0 _ _ _ r).trans (SF _ _ _ _)) ((DL a _ 2 _ _ _ r).trans (SE _ _ _ _)) q G;go_enter func25,ntmps25
 go_wp2_with(fail)
 rw[<-f];refine P.mono ?_;rintro e K ⟨rfl,p⟩;have F:=Ap p;have X:=p.but.low s (AB _);have ab:=(p.but.block (W.heap.size+3) (by have:=v.out;omega) (by omega)).trans r;have O:=lQ W K (W.heap.size+1+1+1) (q0 b d rs c W.heap.size (W.heap.size+1) (W.heap.size+1+1)) (A8 Ak 0 0) (Ec rs) X ab (by omega) n g u q p.names (XX n g) (λi h j o T=>XV h o T) (by show W.heap.size+1+1+1≠W.heap.size;omega)
 go_wp2_with(fail)
 refine O.mono ?_;rintro e L ⟨rfl,tb,st,tk,ac,y,w⟩;have E:=Ap y;have H:=Ap ac;have t:Hid (IW rs (Ec rs) st tk):=w;have Q:=iO L (W.heap.size+1+1+1) b d rs.length st (w.lt g).1 n (m6 y)
 go_wp2_with(fail)
 refine Q.mono ?_;rintro e M ⟨⟨Y,rfl,z⟩,Z⟩;have J:=Ap z;have l:=m5 q n g (A:=W.heap.size+1+1+1) rfl ⟨AB _,by omega⟩ ⟨by omega,by omega⟩ ⟨by omega,by omega⟩ (by omega) (by omega) (by omega) m F H E t Z;have R:=X4 W _ _ [] Ak 0 _ 0 _ M l Y z.2.2 (by simp)
 go_wp2_with(fail)
 refine R.mono ?_;rintro e N ⟨i,ae,sa,sc,nf,rfl,_,_,V,_,B,x,C,ad⟩;have D:Hid (XZ W rs c (Ag (A9 (Aj ⟨W.heap.size+1+1+1,0,Ak⟩))) N):=by
  refine⟨_,_,_,_,_,_,_,rfl,⟨V,rfl,rfl,rfl,rfl,t,?_,by simpa using B,x,Y,?_,J,ad⟩⟩
  ·intro af x ah ag _ h;cases h
  have:i<ae.length:=B9 C;have S:i=0:=by simp at B;omega
  rw[<-S];exact C
 go_wp2;go_ret;exact D
end
section
open Go.RowKit Go.Lib
def C9{α:Type}(T:α->A2):List α->A2
 |[]=>[]
 |d::ds=>T d++ds.flatMap λe=>44::T e
theorem Y9{α:Type}(T:α->A2)(l:List α)(d:α)(b:l[0]?=Aj d):C9 T (l.take 1)=T d:=by
 cases l with
 |nil=>simp at b
 |cons a l=>simp at b;subst b;simp[C9]
theorem Ya{α:Type}(T:α->A2)(l:List α)(k:Nat)(c:0<k)(d:α)(b:l[k]?=Aj d):C9 T (l.take (k+1))=(C9 T (l.take k)++[44])++T d:=by
 cases l with
 |nil=>simp at b
 |cons a l =>
  cases k with
  |zero=>omega
  |succ k =>
   rw[U6]at b;rw[Oy,Oy];unfold C9;rw[Hi,b];simp
theorem PQ{α:Type}(T:α->A2)(l:List α)(k:Nat):(C9 T (l.take k)).length<=(C9 T l).length:=by
 cases l with
 |nil=>simp
 |cons a l =>
  cases k with
  |zero=>simp[C9]
  |succ k =>
   rw[Oy];unfold C9;rw[AC,AC];have b:(l.flatMap λe=>44::T e).length=((l.take k).flatMap λe=>44::T e).length+((l.drop k).flatMap λe=>44::T e).length:=by
    rw[<-AC,<-JW,Jb]
   omega
def PR(W:Al)(base:Nat)(x:Am)(ys:A2):Prop:=∀(V:Al) (v:Am) (bs:A2),Below base W V->Av V base v bs->bs.length+ys.length<=999999999->An Ao 111 #[v,x] V λe W'=>∃v',e=Ag v'/\Av W' base v' (bs++ys)/\Below base V W'
end
section
open Go.RowKit Go.Shelf
structure Q1(w:World)(c:AN)(N:Nat)(A:A4)(W:World):Prop where
 below:A1 w W
 box:W.heap[w.heap.size]?=some (.cells c.arr 25)
 row:W.heap[N]?=some (.cells A 75)
theorem Q1.step{A:A4}(h:Q1 w c N A W)(a:A1 W W'):Q1 w c N A W' :=
 ⟨h.below.trans (a.mono h.below.size),(a.block _ (At h.box)).trans h.box,(a.block _ (At h.row)).trans h.row⟩
theorem Yt(h:Bl c=0):Di c.labels.toNat c.pol.data.toList=0:=by
 rw[<-(SB c).1]at h;unfold EB at h;split at h
 ·next hh=>exact absurd h hh
 split at h
 ·cases h
 split at h
 ·cases h
 exact h
end
section
open Go.RowKit
theorem Cn.same{kt:TypeId}{m:Nat}{f:Lit->Option Nat}(h:Cn W kt m n f)(g:W'.heap[m]?=W.heap[m]?):Cn W' kt m n f:=by
 obtain⟨D,⟨b,a,c,d⟩,e⟩:=h;exact⟨D,⟨b,a,g.trans c,d⟩,e⟩
theorem BQ.rebase{W0 W1:Al}{sts:List ((Nat->Nat)×Int×Int)}{nf:Lit->Option Nat}{mn:Nat}{mf:Lit->Option Nat}(h:BQ W0 A q sts sv nf mn mf W)(b:W1.heap.size=W0.heap.size)(d:A1 W1 W')(f:G5 W1 q.ra q.rs)(a:∀j,j=A\/j=q.lm\/j=q.tb\/j=q.nb\/j=q.mb\/sv.ownBlock=Aj j->W'.heap[j]?=W.heap[j]?):BQ W1 A q sts sv nf mn mf W':=by
 obtain⟨c,k,l⟩:=h.takes;have i:=NL (W':=W') h.states λg e=>a g (.inr (.inr (.inr (.inr (.inr e)))));exact{h with
  row:=(a A (.inl rfl)).trans h.row
  rules:=f
  below:=d
  letters:=h.letters.same (a _ (.inr (.inl rfl)))
  takes:=⟨c,(a _ (.inr (.inr (.inl rfl)))).trans k,l⟩
  states:=by rw[b];exact i
  numbers:=h.numbers.same (a _ (.inr (.inr (.inr (.inl rfl)))))
  moves:=h.moves.same (a _ (.inr (.inr (.inr (.inr (.inl rfl))))))
  high:=by rw[b];exact h.high}
end
end Go.Proofs.YtoegnhgofkhbnaaGreatDoor
