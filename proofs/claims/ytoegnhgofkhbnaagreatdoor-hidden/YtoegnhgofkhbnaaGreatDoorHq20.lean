import Derived.Test.YtoegnhgofkhbnaaGreatDoorHq17
set_option maxRecDepth 100000
set_option maxHeartbeats 8000000
set_option linter.all false
namespace Go.Proofs.YtoegnhgofkhbnaaGreatDoor
open Go.Proofs.Tryz
open Go.Value renaming int->A7,slice->A8,pointer->A9,string->Aa,iface->Ae
open Go.Ending renaming returned->Ag
open Go.IntKind renaming i64->Ah,u8->Ai
open Option renaming some->Aj,none->Ak
open Go renaming World->Al,Value->Am,Calls->An
open Go.Proofs.Tryz renaming prog->Ao
variable{V V' W W0:Al}{tl:A2}{A N base f j mn n size:Nat}{sv v:Am}{F G:Nat->Prop}{xs:List Am}{sts:List ((Nat->Nat)×Int×Int)}{cs:A4}{fr:Nat×Nat}{q:Bi}{mf nf:Lit->Option Nat}{p:List (A2×Bool)}
section
open Go.RowKit Go.Lib
theorem W8(x:Nat)(a:x<16)(V:Al):(Instr.index 9 (Aa ⟨#[48,49,50,51,52,53,54,55,56,57,97,98,99,100,101,102,103,104,105,106,107,108,109,110,111,112,113,114,115,116,117,118,119,120,121,122]⟩) (A7 .u64 x)).run Ao V=.ok (A7 Ai ((DS x).toNat:Int)) V:=by
 have h:x=0\/x=1\/x=2\/x=3\/x=4\/x=5\/x=6\/x=7\/x=8\/x=9\/x=10\/x=11\/x=12\/x=13\/x=14\/x=15:=by omega
 rcases h with rfl|rfl|rfl|rfl|rfl|rfl|rfl|rfl|rfl|rfl|rfl|rfl|rfl|rfl|rfl|rfl<;>(show _=_;kernel_rfl)
theorem fB(a:Nat)(c:a<18446744073709551616):bits .and .u64 (a:Int) 15=((a%16:Nat):Int):=by
 have h:(BitVec.ofNat 64 a&&&BitVec.ofNat 64 15).toNat=a%16:=by
  rw[UC,JY,JY,I7 (by omega),I7 (by omega)];exact Nat.and_two_pow_sub_one_eq_mod a 4
 have b:BitVec.ofInt 64 (a:Int)=BitVec.ofNat 64 a:=Ow ..;show IntKind.u64.wrap ((BitVec.ofInt 64 (a:Int)&&&BitVec.ofNat 64 15).toNat:Int)=_;rw[b,h];unfold IntKind.wrap;simp[IntKind.bits,IntKind.signed];omega
theorem IL.cell(h:IL W tl V)(a:j+1+tl.length=65):V.cell? ⟨W.heap.size,j,Ak⟩=Aj (A7 Ai 0):=by
 have:=Ar h.arr j;rw[this];simp[show j<65-tl.length by omega,List.getElem?_append,B0]
theorem IL.set(h:IL W tl V)(d:j+1+tl.length=65)(b:UInt8):IL W (b::tl) (V.setCell ⟨W.heap.size,j,Ak⟩ (B0 b)):=by
 refine⟨h.below.setCell (AB _) _,?_,by simp;omega⟩;rw[DJ V _ _ _ _ _ h.arr];have a:65-tl.length=j+1:=by omega
 have c:65-(b::tl).length=j:=by simp;omega
 rw[a,c];congr 1;congr 1;apply KL;simp only[MM,Eg,List.map_replicate,CT,List.replicate_succ'];rw[CE,Ou _ _ (by simp)];simp
theorem IL.str(h:IL W tl V){i c:Nat}(hi:i+tl.length=65):(convert 49 9 (A8 (Aj ⟨W.heap.size,i,Ak⟩) tl.length c)).run Ao V=.ok (Aa ⟨tl.toArray⟩) V:=by
 refine Qz V 49 9 5 ⟨W.heap.size,i,Ak⟩ c tl underlying49 underlying5 underlying9 ?_;intro j b;have e:(⟨W.heap.size,i,Ak⟩:Addr).add j=⟨W.heap.size,i+j,Ak⟩:=by by_cases h:j=0<;>simp[Addr.add,h]
 rw[e];have:=Ar h.arr (i+j);rw[this];have a:65-tl.length=i:=by omega
 rw[a];simp[B0,E2,AY b]
theorem IL.thaw(h:IL W tl V)(j:Nat):V.frozen? ⟨W.heap.size,j,Ak⟩=false:=by
 have:=h.arr;simp[World.frozen?,this]
theorem fC(V:Al)(N j n:Nat)(h:j+n=65)(c:0<n):(Instr.sliceAt 314 (A9 (Aj ⟨N,0,Ak⟩)) (Aj (A7 Ah j)) Ak Ak).run Ao V=.ok (A8 (Aj ⟨N,j,Ak⟩) n n) V:=by
 rw[run_sliceAt_array_l V 314 ⟨N,0,Ak⟩ (by kernel_rfl) Ah j (by omega) (by show(j:Int)<=65;omega)];have e:prog.arrayLen 314=65:=by kernel_rfl
 have a:(sizeOf (prog.elem 314)).run Ao V=.ok 1 V:=by kernel_rfl
 have b:(⟨N,0,Ak⟩:Addr).add j=⟨N,j,Ak⟩:=by by_cases h:j=0<;>simp[Addr.add,h]
 rw[a,e];simp only[Dl,slicedAt,Gh,OL];rw[Aq (by omega),b,show 65-j=n by omega]
theorem fD(u:Nat)(O:u<18446744073709551616)(W:Al)(w:W.cell? ⟨8,15,Ak⟩=Aj (A7 Ai 4)):An Ao 193 #[A8 Ak 0 0,A7 .u64 u,A7 Ah 16,.bool false,.bool false] W λe s=>e=Ag (.tuple #[A8 Ak 0 0,Aa ⟨(Dn u).toArray⟩])/\A1 W s:=by
 have L:8<W.heap.size:=by
  by_cases h:8<W.heap.size
  ·exact h
  simp[World.cell?,h]at w
 have E:=λV=>fA V;have F:∀V,A1 W V->An Ao 201 #[A7 .u64 16] V λe s=>e=Ag (A7 Ah 4)/\s=V:=λV I=>fz V ((I.cell L).trans w);go_enter func193,ntmps193
 go_wp2_with(first
  |(go_at_call 200;refine(E _).mono ?_;rintro e X ⟨rfl,rfl⟩)
  |(go_at_call 201;refine(F _ AH).mono ?_;rintro e Y ⟨rfl,rfl⟩))
 go_loopg[1,13] 16 (λg x y wr=>∃(a i:Nat) (d:A2),x=A7 .u64 a/\y=A7 Ah i/\Hid (i+d.length=65)/\Hid (Dn u=Dn a++d)/\Hid (a<16^g)/\Hid (d.length+g<=16)/\Hid (IL W d wr))
 case atStart =>
  exact⟨u,65,[],rfl,rfl,rfl,(by show _=_;simp),O,AB 16,⟨AH,(Ay W _).trans (by kernel_rfl),Cy _⟩⟩
 case round =>
  obtain⟨a,i,d,rfl,rfl,f,v,p,q,l⟩:=hrel;obtain⟨j,rfl⟩:∃j,i=j+1:=⟨i-1,by have:=f.out;have:=q.out;omega⟩
  have U:j<65:=by have:=f.out;omega
  have J:a<18446744073709551616:=by
   have m:=p.out;have H:=q.out;have Q:16^gk<=16^16:=QB (by omega) (by omega);omega
  have z:=Ap (fB a J);have S:=l.cell f;have T:=l.thaw j;by_cases t:a<16
  ·have G:decide ((16:Int)<=a)=false:=by simp;omega
   have o:Hid (Dn u=DS a::d):=by show _=_;rw[v.out,RR t];rfl
   obtain⟨b,k⟩:∃b,Hid (DS a=b):=⟨_,rfl⟩
   have M:∀V,(Instr.index 9 (Aa ⟨#[48,49,50,51,52,53,54,55,56,57,97,98,99,100,101,102,103,104,105,106,107,108,109,110,111,112,113,114,115,116,117,118,119,120,121,122]⟩) (A7 .u64 a)).run Ao V=.ok (A7 Ai (b.toNat:Int)) V:=λV=>k.out▸W8 a t V;have N:=λV=>fC V W.heap.size j (b::d).length (by have:=f.out;simp;omega) (by simp);have K:(convert 49 9 (A8 (Aj ⟨W.heap.size,j,Ak⟩) (b::d).length (b::d).length)).run Ao (wr.setCell ⟨W.heap.size,j,Ak⟩ (A7 Ai (b.toNat:Int)))=.ok (Aa ⟨(b::d).toArray⟩) (wr.setCell ⟨W.heap.size,j,Ak⟩ (A7 Ai (b.toNat:Int))):=(l.set f b).str (i:=j) (c:=(b::d).length) (by have:=f.out;simp;omega);have D:=Ap (l.set f b);have A:=Ap (k.out▸o.out);obtain⟨n,C⟩:∃n,Hid ((b::d).length=n):=⟨_,rfl⟩
   rw[C.out]at N K
   go_wp2_with fail
   refine Bd (Hl results193 _ _ _) rfl ⟨?_,D.below⟩;rw[A.out];rfl
  have G:decide ((16:Int)<=a)=true:=by simp;omega
  obtain⟨x,r⟩:∃x,Hid (a%16=x):=⟨_,rfl⟩
  have P:x<16:=by have:=r.out;omega
  obtain⟨b,k⟩:∃b,Hid (DS x=b):=⟨_,rfl⟩
  have M:∀V,(Instr.index 9 (Aa ⟨#[48,49,50,51,52,53,54,55,56,57,97,98,99,100,101,102,103,104,105,106,107,108,109,110,111,112,113,114,115,116,117,118,119,120,121,122]⟩) (A7 .u64 x)).run Ao V=.ok (A7 Ai (b.toNat:Int)) V:=λV=>k.out▸W8 x P V;have o:Hid (Dn u=Dn (a/16)++b::d):=by show _=_;rw[v.out,W7 t,r.out,k.out];simp
  have R:=r.out▸z.out;have B:Hid (16<=a):=by show _<=_;omega
  go_wp2_with fail
  cases gk with
  |zero =>
   have m:=p.out;have H:=B.out;simp at m;omega
  |succ g =>
   go_roundg g
   case measure=>omega
   case rel =>
    refine⟨a/16,j,b::d,by go_num,by go_num,?_,o,?_,?_,l.set f b⟩
    ·show _=_;have:=f.out;simp;omega
    ·show _<_;have m:=p.out;rw[Ud (by omega)];rw[LL]at m;exact m
    show _<=_;have:=q.out;simp;omega
theorem fE(u:Nat)(d:u<18446744073709551616)(W:Al)(f:W.cell? ⟨8,15,Ak⟩=Aj (A7 Ai 4)):An Ao 178 #[A7 .u64 u,A7 Ah 16] W λe a=>e=Ag (Aa ⟨(Dn u).toArray⟩)/\A1 W a:=by
 have c:=fD u d W f;go_enter func178,ntmps178
 go_wp2_with(first|(go_at_call 193;refine c.mono ?_;rintro e g ⟨rfl,b⟩))
 go_ret;exact⟨rfl,b⟩
theorem fF(u:Nat)(d:u<18446744073709551616)(W:Al)(f:W.cell? ⟨8,15,Ak⟩=Aj (A7 Ai 4)):An Ao 161 #[A7 .u64 u,A7 Ah 16] W λe a=>e=Ag (Aa ⟨(Dn u).toArray⟩)/\A1 W a:=by
 have c:=fE u d W f;go_enter func161,ntmps161
 go_wp2_with(first|(go_at_call 178;refine c.mono ?_;rintro e g ⟨rfl,b⟩))
 go_ret;exact⟨rfl,b⟩
def KU(u:Nat):A2:=List.replicate (16-(Dn u).length) 48++Dn u
theorem fG(u:Nat)(a:u<18446744073709551616):(KU u).length=16:=by
 have:=RS 15 u a;simp[KU];omega
theorem fH(n:Nat):repeatL [48] n=List.replicate n 48:=by
 induction n with
 |zero=>rfl
 |succ n a=>simp[repeatL,List.replicate_succ]at a ⊢;exact a
theorem fI(a b:A2):(⟨a.toArray⟩:ByteArray)++⟨b.toArray⟩=⟨(a++b).toArray⟩:=by
 apply LI;simp
theorem fJ(u:Nat)(i:u<18446744073709551616)(W:Al)(p:W.cell? ⟨8,15,Ak⟩=Aj (A7 Ai 4)):An Ao 135 #[A7 .u64 u] W λe j=>e=Ag (Aa ⟨(KU u).toArray⟩)/\A1 W j:=by
 have c:=fF u i W p;have o:=RS 15 u i;obtain⟨l,b⟩:∃l,Hid (Dn u=l):=⟨_,rfl⟩
 rw[b.out]at c o;obtain⟨n,d⟩:∃n,Hid (16-l.length=n):=⟨_,rfl⟩
 have a:Hid (l.length+n=16):=by show _=_;have:=d.out;omega
 obtain⟨r,f⟩:∃r,Hid (repeatL [48] n=r):=⟨_,rfl⟩
 have g:=Ap ((fH n).symm.trans f);have k:∀V:Al,An Ao 162 #[Aa ⟨#[48]⟩,A7 Ah n] V λe q=>e=Ag (Aa ⟨r.toArray⟩)/\A1 V q:=λV=>f.out▸Tryz.strings_Repeat ⟨#[48]⟩ n V (by have:=a.out;omega) (by have:=a.out;show 1*n<=_;omega);have v:¬9223372036854775807<r.length+l.length:=by
  have s:=a.out;have t:r.length=n:=by rw[<-g.out];simp
  omega
 have w:(16:Int)-l.length=n:=by have:=a.out;omega
 go_enter func135,ntmps135
 go_wp2_with(first
  |(go_at_call 161;refine c.mono ?_;rintro e x ⟨rfl,h⟩)
  |(go_at_call 162;refine(k _).mono ?_;rintro e y ⟨rfl,m⟩))
 go_ret;refine⟨?_,h.trans (m.mono h.size)⟩;rw[fI,<-g.out,<-d.out,<-b.out];rfl
def M6(key:Int)(i:Nat):Nat:=(key/2^(8*i)%256).toNat
theorem fK(key:Int)(i:Nat):M6 key i<256:=by unfold M6;omega
def IM(key:Int):Nat->Nat
 |0=>14695981039346656037
 |k+1=>Kc (IM key k) (M6 key k)
theorem W9(key:Int):∀k,IM key k<18446744073709551616
 |0=>by show 14695981039346656037<_;omega
 |k+1=>Nm _ _
def M7(s:Nat):A2->Nat
 |[]=>s
 |b::t=>M7 (Kc s b.toNat) t
theorem Wa:∀(l:A2) (s:Nat),s<18446744073709551616->M7 s l<18446744073709551616
 |[],_,h=>h
 |_::t,_,_=>Wa t _ (Nm _ _)
def Kf(key:Int)(label:Nat)(l:A2):A2:=KU (M7 (Kc (IM key 8) label) l)
theorem M8{bs:A2}(h:Av W base v bs):∃d a,v=A8 d bs.length a/\Dv W d bs:=by
 have e:=h;obtain⟨⟨l,b⟩,_,_⟩:=h;rcases b with⟨rfl,b⟩|⟨g,a,k,rfl,_,j,m,n,_⟩
 ·refine⟨Ak,0,by rw[b],⟨λi c=>by omega,by omega⟩⟩
 have f:=M3 e;refine⟨_,a,rfl,⟨λi c=>⟨g,0,rfl,(At j),by rw[Df];exact f.2 i c⟩,by omega⟩⟩
theorem fL(key:Int)(k:Nat)(W:Al):An Ao 134 #[A7 .u64 (IM key k),A7 Ai (key/2^(8*k)%256)] W λe a=>e=Ag (A7 .u64 (IM key (k+1)))/\a=W:=by
 have h:=Rn (IM key k) (M6 key k) (W9 key k) (fK key k) W;have e:((M6 key k:Nat):Int)=key/2^(8*k)%256:=by unfold M6;omega
 rw[e]at h;exact h
theorem fM(key:Int)(f:Nat)(Y:f<256)(k:Nat)(W:Al)(F:Nat->Prop)(x:Am)(d:A3)(hF:∀j,F j->j<W.heap.size)(h:AJ k W F x d)(A:(BD k d).length<=999999999)(B:W.cell? ⟨8,15,Ak⟩=Aj (A7 Ai 4)):An Ao 110 #[A7 Ah key,A7 Ah f,x] W λe i=>e=Ag (Aa ⟨(Kf key f (BD k d)).toArray⟩)/\A1 W i:=by
 have U:8<W.heap.size:=by
  by_cases h:8<W.heap.size
  ·exact h
  simp[World.cell?,h]at B
 have J:=λk V=>fL key k V;have K:=λV=>Rn (IM key 8) f (W9 key 8) Y V;have r:=VH k W F x d hF h A;have I:∀V u,A1 W V->u<18446744073709551616->An Ao 135 #[A7 .u64 (u:Nat)] V λe i=>e=Ag (Aa ⟨(KU u).toArray⟩)/\A1 V i:=λV u Q hu=>fJ u hu V ((Q.cell U).trans B);obtain⟨t,y,rfl⟩:=h.iface;obtain⟨a,D⟩:∃a,Hid (BD k d=a):=⟨_,rfl⟩
 rw[D.out]at r A ⊢;have H:An Ao 84 #[A7 Ah 2,Ae t y] W λe i=>∃m o,e=Ag (A8 m a.length o)/\Hid (Dv i m a)/\A1 W i:=r.mono (by
  rintro e w' ⟨ab,rfl,Z,O⟩;obtain⟨m,o,rfl,R⟩:=M8 Z;exact⟨m,o,rfl,R,O⟩)
 obtain⟨S,l⟩:∃S,Hid (M7 (Kc (IM key 8) f) a=S):=⟨_,rfl⟩
 have G:Hid (Kf key f a=KU S):=by show KU _=_;rw[l.out]
 have n:Hid (Kc (IM key 8) f<18446744073709551616):=Nm _ _;rw[G.out];go_enter func110,ntmps110
 go_wp2_with fail
 go_loopg[7,11] 8 (λg x y wr=>∃(k:Nat),Hid (k+g=8)/\x=A7 .u64 (IM key k)/\y=A7 Ah k/\W=wr)
 case atStart =>
  exact⟨0,rfl,rfl,rfl,rfl⟩
 case round =>
  obtain⟨k,b,rfl,rfl,rfl⟩:=hrel
  cases gk with
  |zero =>
   have w:k=8:=by have:=b.out;omega
   subst w
   go_wp2_with(first
    |(go_at_call 134;refine(K _).mono ?_;rintro e w2 ⟨rfl,rfl⟩)
    |(go_at_call 84;refine H.mono ?_;rintro e w3 ⟨m,o,rfl,C,p⟩))
   go_loopg[7,29] a.length (λg x y wr=>∃(k s:Nat),Hid (k+g=a.length)/\x=A7 .u64 s/\y=A7 Ah k/\Hid (M7 s (a.drop k)=S)/\Hid (s<18446744073709551616)/\w3=wr)
   case atStart=>exact⟨0,_,(by show _=_;omega),rfl,rfl,l,n,rfl⟩
   case round =>
    obtain⟨k,s,b,rfl,rfl,l,n,rfl⟩:=hrel
    cases gk with
    |zero =>
     have X:¬(k:Int)<a.length:=by have:=b.out;omega
     have v:s=S:=by
      have:=l.out;rw[U9 (by have:=b.out;omega)]at this;exact this
     subst v;have c:=I _ s p n
     go_wp2_with(first
      |(go_at_call 135;refine c.mono ?_;rintro e w5 ⟨rfl,P⟩))
     go_ret;exact⟨rfl,p.trans (P.mono p.size)⟩
    |succ g =>
     have z:k<a.length:=by have:=b.out;omega
     have X:(k:Int)<a.length:=by omega
     obtain⟨b0,off,M,e2,N⟩:=C.at_ k z;subst M;have q:=l.out;rw[F5 z]at q;obtain⟨c,T⟩:∃c,a[k]=c:=⟨_,rfl⟩
     rw[T]at N q;have L:=λV=>Rn s c.toNat n (UInt8.toNat_lt c) V;have E:Hid (M7 (Kc s c.toNat) (a.drop (k+1))=S):=q
     go_wp2_with(first
      |(go_at_call 134;refine(L _).mono ?_;rintro e w5 ⟨rfl,rfl⟩))
     go_roundg g
     case measure=>omega
     case rel=>exact⟨k+1,_,(by show _=_;have:=b.out;omega),rfl,by go_num,E,Nm _ _,rfl⟩
  |succ g =>
   have w:k<8:=by have:=b.out;omega
   have aa:(k:Int)<8:=by omega
   have c:=J k
   go_wp2_with(first
    |(go_at_call 134;refine(c _).mono ?_;rintro e w2 ⟨rfl,rfl⟩))
   go_roundg g
   case measure=>omega
   case rel=>exact⟨k+1,(by show _=_;have:=b.out;omega),rfl,by go_num,rfl⟩
structure Rv where
 rs:List (List (Nat×A2)×Int×Int)
 dflt:Int
 m:Nat->Nat->Bool
 clr:Nat
 key:Int
abbrev AP:=Nat×Nat×Nat×Nat
def Gz(f:A3->AP->Option (DataW Unit)×AP)(ds:List (DataW Unit))(R:AP):List (DataW Unit)×AP :=
 ds.foldl (λa d=>(a.1++(f d a.2).1.toList,(f d a.2).2)) ([],R)
def Fm(f:A2->A3->AP->Option (DataW Unit)×AP)(es:List (Lit×DataW Unit))(R:AP):List (Lit×DataW Unit)×AP :=
 es.foldl (λa e=>(a.1++((f (B1 e.1) e.2 a.2).1.map λd=>(e.1,d)).toList,(f (B1 e.1) e.2 a.2).2)) ([],R)
def FT(rw:List (A2×Bool)->A3->AP->Option (DataW Unit)×AP)(p:List (A2×Bool))(d:A3)(R:AP):DataW Unit×AP :=
 match d with
 |.agg ds=>(.agg (Gz (rw (([],true)::p)) ds R).1,(Gz (rw (([],true)::p)) ds R).2)
 |.map es=>(.map (Fm (λkey=>rw ((key,false)::p)) es R).1,(Fm (λkey=>rw ((key,false)::p)) es R).2)
 |d=>(d,R)
def B2(c:Rv):Nat->List (A2×Bool)->A3->AP->Option (DataW Unit)×AP
 |0,_,_,R=>(Ak,R)
 |k+1,p,d,R =>
  if c.m (CC c.dflt c.rs p.reverse).1.toNat c.clr=true then(Aj (FT (B2 c k) p d (R.1+1,R.2)).1,(FT (B2 c k) p d (R.1+1,R.2)).2)
  else if(CC c.dflt c.rs p.reverse).2=2 then(Aj (.lit (.string [42,42,42])),(R.1,R.2.1,R.2.2.1+1,R.2.2.2))
  else if(CC c.dflt c.rs p.reverse).2=3 then(Aj (.lit (.string (Kf c.key (CC c.dflt c.rs p.reverse).1.toNat (BD (k+1) d)))),(R.1,R.2.1,R.2.2.1,R.2.2.2+1))
  else(Ak,(R.1,R.2.1+1,R.2.2.1,R.2.2.2))
def Bx:Nat->A3->Nat
 |0,_=>0
 |k+1,d=>match d with
  |.agg ds=>2+(ds.map λd=>1+Bx k d).sum
  |.map es=>1+(es.map λe=>2+Bx k e.2).sum
  |_=>1
structure Rc where
 v:Rv
 W0:World
 A:Nat
 q:Bi
 B:Nat
 O:A4
 n:Nat
 G:World
 own0:Option Nat
def CL(c:Rc)(R:AP):A4:=c.O++#[A7 Ah c.v.clr,A7 Ah c.v.key,A9 (Aj ⟨c.A,0,Ak⟩),A7 Ah R.1,A7 Ah R.2.1,A7 Ah R.2.2.1,A7 Ah R.2.2.2]
structure EX(c:Rc):Prop where
 ers:c.q.rs=c.v.rs
 edf:c.q.dflt=c.v.dflt
 elf:c.q.lf=Dp (Ec c.v.rs)
 eL:c.q.L=2+(Ec c.v.rs).length
 ly:IW c.v.rs (Ec c.v.rs) c.q.st c.q.tk
 hn:c.v.rs.length<=16
 h8:∀i (h:i<c.v.rs.length),c.v.rs[i].1.length<=8
 hk:∀i (h:i<c.v.rs.length) j (h2:j<c.v.rs[i].1.length),c.v.rs[i].1[j].1<=3/\c.v.rs[i].1[j].2.length<=1000000000
 ord:K4 c.O c.n c.v.m
 n6:c.n<=6
 clr:c.v.clr<c.n
 lab:∀p,∃l:Nat,(CC c.v.dflt c.v.rs p).1=l/\l<c.n
 hB:c.W0.heap.size<=c.B
 hG:c.G.heap.size<=c.B
 tab:c.W0.cell? ⟨8,15,none⟩=some (.int .u8 4)
structure Bp(W V:World):Prop where
 size:W.heap.size<=V.heap.size
 row:∀(k:Nat) (cs:A4) (t:TypeId) (fr:Nat×Nat),W.heap[k]?=some (.cells cs t fr)->t≠123->t≠164->t≠172->V.heap[k]?=some (.cells cs t fr)
theorem Bp.refl(W:Al):Bp W W:=⟨AB _,λ_ _ _ _ h _ _ _=>h⟩
theorem Bp.trans{X:Al}(h:Bp W V)(g:Bp V X):Bp W X:=⟨AW h.size g.size,λk cs t e a b c d=>g.row k cs t e (h.row k cs t e a b c d) b c d⟩
theorem Bp.of_below(h:A1 W V):Bp W V:=⟨h.size,λk _ _ _ a _ _ _=>(h.block k (At a)).trans a⟩
theorem Bp.at_{R:Option Nat}(j:W.heap.size<=V.heap.size)(g:∀k,k<W.heap.size->Aj k≠R->V.heap[k]?=W.heap[k]?)(i:∀k,R=Aj k->∀cs t f,W.heap[k]?=Aj (.cells cs t f)->t=123\/t=164\/t=172):Bp W V:=by
 refine⟨j,λk cs t f a b c d=>?_⟩;by_cases e:Aj k=R
 ·rcases i k e.symm cs t f a with h|h|h
  ·exact absurd h b
  ·exact absurd h c
  exact absurd h d
 exact(g k (At a) e).trans a
theorem C7.kept{t:TypeId}(h:C7 V t size F v n xs)(m:∀k,F k->G k)(q:Bp V V')(i:t≠123)(j:t≠164)(l:t≠172):C7 V' t size G v n xs:=by
 obtain⟨b,a⟩:=h;refine⟨b,?_⟩;rcases a with a|⟨g,d,f,e,o,p,c⟩
 ·exact .inl a
 exact .inr ⟨g,d,f,e,m g o,q.row _ _ _ _ p i j l,c⟩
theorem AJ.kept(a:∀k,F k->G k)(b:Bp V V'):∀{k:Nat} {v:Am} {d:A3},AJ k V F v d->AJ k V' G v d
 |0,_,_,h=>h
 |k+1,v,d,h=>by
  unfold AJ at h ⊢;split at h
  ·exact h
  ·exact h
  ·exact h
  ·exact h
  ·obtain⟨u,e,c⟩:=h;exact⟨u,e,c.kept a b (by decide) (by decide) (by decide)⟩
  ·obtain⟨u,j,e,c,g⟩:=h;exact⟨u,j,e,c.kept a b (by decide) (by decide) (by decide),λi x d f q=>AJ.kept a b (g i x d f q)⟩
  ·obtain⟨u,j,e,c,g⟩:=h;refine⟨u,j,e,c.kept a b (by decide) (by decide) (by decide),λi key d f=>?_⟩;obtain⟨l,x,m,n,o,p⟩:=g i key d f;exact⟨l,x,m,n,o,AJ.kept a b p⟩
  exact h
structure BE(c:Rc)(R:AP)(N:Nat)(sts:List ((Nat->Nat)×Int×Int))(V:World):Prop where
 box:V.heap[c.B]?=some (.cells (CL c R) 172)
 here:∃sa sc nf mn mf,BQ c.W0 c.A c.q sts (.slice sa sts.length sc) nf mn mf V/\La c.q sts mf/\mn<=N/\sts.length<=N+1/\((Value.slice sa sts.length sc).ownBlock=c.own0\/∃g,(Value.slice sa sts.length sc).ownBlock=some g/\c.G.heap.size<=g)
 fr:c.G.heap.size<=V.heap.size/\∀k,k<c.G.heap.size->k≠c.A->k≠c.q.nb->k≠c.q.mb->some k≠c.own0->V.heap[k]?=c.G.heap[k]?
 few:R.1+R.2.1+R.2.2.1+R.2.2.2<=N
theorem BE.more{c:Rc}{R:AP}{M:Nat}(h:BE c R N sts V)(e:N<=M):BE c R M sts V:=by
 obtain⟨j,k,i,g,f,a,b,l,m,d⟩:=h.here;exact⟨h.box,⟨j,k,i,g,f,a,b,by omega,by omega,d⟩,h.fr,AW h.few e⟩
theorem BE.step{c:Rc}{R:AP}(h:BE c R N sts V)(f:A1 V V'):BE c R N sts V':=by
 obtain⟨n,o,m,l,j,g,i⟩:=h.here;exact⟨(f.block _ (At h.box)).trans h.box,⟨n,o,m,l,j,g.next f,i⟩,⟨AW h.fr.1 f.size,λk a b c d e=>(f.block k (Br a h.fr.1)).trans (h.fr.2 k a b c d e)⟩,h.few⟩
theorem BE.below{c:Rc}{R:AP}(h:BE c R N sts V):Below c.W0.heap.size c.W0 V:=by
 obtain⟨g,i,f,e,d,a,b⟩:=h.here;exact a.below
theorem IY{kt:TypeId}{m:Nat}{f:Lit->Option Nat}(h:Cn W kt m n f){t:TypeId}(b:W.heap[m]?=Aj (.cells cs t fr)):False:=by
 obtain⟨D,⟨d,c,a,_⟩,_⟩:=h;rw[b]at a;cases a
theorem PL{e:TypeId}(i:W.ownsRow base e size v n xs){g:Nat}(h:v.ownBlock=Aj g){t:TypeId}(a:W.heap[g]?=Aj (.cells cs t fr)):t=e:=by
 rcases i.2 with⟨b,_⟩|⟨c,j,k,b,_,f,_⟩
 ·rw[b]at h;cases h
 rw[b]at h;injection h with h;have d:c=g:=h;rw[<-d,f]at a;injection a with a;injection a with _ a _;exact a.symm
theorem ml(h:BQ W0 A q sts sv nf mn mf W)(f:Gw A q sv W V):Bp W V:=by
 refine⟨f.size,λk cs t g a b c d=>?_⟩;refine(f.block k (At a) (λe=>?_) (λe=>?_) (λe=>?_) (λe=>?_)).trans a
 ·exact c (PL h.states e.symm a)
 ·subst e;have:=h.row;rw[a]at this;injection this with this;injection this with _ this _;exact b this
 ·subst e;exact IY h.numbers a
 subst e;exact IY h.moves a
theorem Y0{c:Rc}(h:EX c)(R:AP):(CL c R).size=44:=by simp[CL,h.ord.size]
theorem BQ.off{W':Al}{B:Nat}(h:BQ W0 A q sts sv nf mn mf W)(w:W0.heap.size<=B)(a:W.grownBy W' (Aj B)){t:TypeId}(c:W.heap[B]?=Aj (.cells cs t fr))(k:t≠123)(l:t≠164)(m:t≠119):BQ W0 A q sts sv nf mn mf W':=by
 obtain⟨f,b,v⟩:=h.takes;have n:A≠B:=by
  rintro rfl;have:=h.row;rw[c]at this;injection this with this;injection this with _ this _;exact k this
 have o:q.tb≠B:=by
  rintro e;rw[e]at b;rw[c]at b;injection b with b;injection b with _ b _;exact m b
 have p:q.lm≠B:=λe=>IY h.letters (e▸c);have r:q.nb≠B:=λe=>IY h.numbers (e▸c);have s:q.mb≠B:=λe=>IY h.moves (e▸c);have u:∀g,sv.ownBlock=Aj g->g≠B:=λg e j=>l (PL h.states e (j▸c));exact{h with
  row:=(a.block A (At h.row) (by simpa using n)).trans h.row
  below:=⟨a.os.trans h.below.os,a.tape.trans h.below.tape,a.output.trans h.below.output,AW h.below.size a.size,λi d=>(a.block i (Br d h.below.size) (by simp;omega)).trans (h.below.block i d)⟩
  letters:=h.letters.kept a (by simpa using p)
  takes:=⟨f,(a.block _ (At b) (by simpa using o)).trans b,v⟩
  states:=NL h.states λg e=>a.block g (NK h.states e) (by simpa using u g e)
  numbers:=h.numbers.kept a (by simpa using r)
  moves:=h.moves.kept a (by simpa using s)}
theorem mm(W:Al)(B j:Nat)(v:Am):W.grownBy (W.setCell ⟨B,j,Ak⟩ v) (Aj B) :=
 ⟨rfl,rfl,rfl,by simp[World.setCell],λk _ a=>BV _ _ _ _ (by simpa using a)⟩
theorem BE.count{c:Rc}{R R':AP}(h:BE c R N sts V)(ok:EX c)(j:Nat)(x:Nat)(o:(CL c R).setIfInBounds j (A7 Ah x)=CL c R')(n:R'.1+R'.2.1+R'.2.2.1+R'.2.2.2<=N+1):BE c R' (N+1) sts (V.setCell ⟨c.B,j,Ak⟩ (A7 Ah x))/\Bp V (V.setCell ⟨c.B,j,Ak⟩ (A7 Ah x)):=by
 obtain⟨s,u,r,q,p,i,l,w,y,m⟩:=h.here;have g:=mm V c.B j (A7 Ah x);refine⟨⟨?_,⟨s,u,r,q,p,i.off ok.hB g h.box (by decide) (by decide) (by decide),l,by omega,by omega,m⟩,⟨AW h.fr.1 g.size,λk a b c d e=>(g.block k (Br a h.fr.1) (λe=>by have:=ok.hG;injection e with e;omega)).trans (h.fr.2 k a b c d e)⟩,n⟩,Bp.at_ (R:=Aj c.B) g.size g.block (λk e cs t v f=>?_)⟩
 ·rw[DJ V _ _ _ _ _ h.box,o]
 injection e with e;subst e;rw[h.box]at f;injection f with f;injection f with _ f _;exact .inr (.inr f.symm)
def FF(c:Rc)(sts:List ((Nat->Nat)×Int×Int))(f:Nat)(p:List (A2×Bool)):Prop:=∃s,sts[f]?=Aj s/\Ld c.v.rs p s.1
def Ed(sts sts':List ((Nat->Nat)×Int×Int)):Prop:=∀(j:Nat) (x:(Nat->Nat)×Int×Int),sts[j]?=Aj x->sts'[j]?=Aj x
theorem FF.pre{c:Rc}{sts':List ((Nat->Nat)×Int×Int)}(h:FF c sts f p)(d:Ed sts sts'):FF c sts' f p:=by
 obtain⟨s,a,b⟩:=h;exact⟨s,d _ _ a,b⟩
theorem Ed.trans{a b d:List ((Nat->Nat)×Int×Int)}(h:Ed a b)(g:Ed b d):Ed a d:=λj x c=>g j x (h j x c)
theorem Ed.refl(a:List ((Nat->Nat)×Int×Int)):Ed a a:=λ_ _ h=>h
def mo(c:Rc)(R:AP)(N:Nat)(sts:List ((Nat->Nat)×Int×Int))(p:List (A2×Bool))(V:Al)(e:Ending)(V':Al):Prop :=
 ∃(f':Nat) (sts':List ((Nat->Nat)×Int×Int)),e=Ag (A7 Ah f')/\BE c R (N+1) sts' V'/\Bp V V'/\Ed sts sts'/\FF c sts' f' p
theorem BE.next{c:Rc}{R:AP}(h:BE c R N sts V)(ok:EX c)(hN:N<90000)(J:FF c sts f p)(key:A2)(o:Bool)(H:key.length<=maxLen):An Ao 160 #[A9 (Aj ⟨c.A,0,Ak⟩),A7 Ah f,.agg #[Aa ⟨key.toArray⟩,.bool o]] V (mo c R N sts ((key,o)::p) V):=by
 obtain⟨sa,sc,Y,X,U,i,D,u,h4,l⟩:=h.here;obtain⟨s,E,F⟩:=J;have af:=XX ok.hn ok.h8;have M:Gx c.q.lf key o<c.q.L:=by rw[ok.elf,ok.eL];exact lU _ _
 refine(jH c.W0 c.A c.q sts sa sc Y X U V i D (by omega) (by omega) f s E key o H _ rfl M (by rw[ok.eL];omega)).mono ?_;rintro e z ⟨C,ac,aa,ab,r,Z,W,rfl,O,P,k3,Q,k5,ad,ae,S,y,T,hF,m⟩;have G:=ml i hF;have I:z.heap[c.B]?=Aj (.cells (CL c R) 172):=by
  refine(hF.block c.B (At h.box) (λe=>?_) (λe=>?_) (λe=>?_) (λe=>?_)).trans h.box
  ·exact absurd (PL i.states e.symm h.box) (by decide)
  ·have:=i.row;rw[<-e,h.box]at this;injection this with this;injection this with _ this _;exact absurd this (by decide)
  ·exact IY i.numbers (e▸h.box)
  exact IY i.moves (e▸h.box)
 refine⟨C,ac,rfl,⟨I,⟨aa,ab,r,Z,W,O,P,by omega,by omega,?_⟩,⟨AW h.fr.1 hF.size,λk a b c d e=>(hF.block k (Br a h.fr.1) (λn=>?_) b c d).trans (h.fr.2 k a b c d e)⟩,MU h.few⟩,G,Q,ad,S,?_⟩
 ·rcases m with m|⟨g,m,v⟩
  ·rw[m];exact l
  exact .inr ⟨g,m,AW h.fr.1 v⟩
 ·rcases l with l|⟨g,l,v⟩
  ·exact e (n.trans l)
  rw[l]at n;injection n with n;omega
 rw[ok.elf,ok.ers]at y;refine XQ (lX ok.ly (λt x s K=>?_) F _ _ y) ok.hn T;obtain⟨j,w,rfl⟩:=Iy K;exact⟨(ok.hk t x j w).1,λu=>XV x w u⟩
theorem BE.verdict{c:Rc}{R:AP}(h:BE c R N sts V)(ok:EX c)(k:FF c sts f p):An Ao 107 #[A9 (Aj ⟨c.A,0,Ak⟩),A7 Ah f] V λe a=>e=Ag (.tuple #[A7 Ah (CC c.v.dflt c.v.rs p.reverse).1,A7 Ah (CC c.v.dflt c.v.rs p.reverse).2])/\A1 V a:=by
 obtain⟨u,w,n,m,l,b,o,r,t,_⟩:=h.here;obtain⟨s,d,g⟩:=k;have i:=(b.here f s d).1;rw[<-List.reverse_reverse p]at g;rw[ok.edf,ok.ers,lY g]at i;refine(jA c.W0 c.A c.q sts _ n m l V b f s d).mono ?_;rintro e a ⟨rfl,j⟩;rw[i];exact⟨rfl,j⟩
theorem mW(g:Nat)(l:A2)(a:l≠[]):FP (g+1) l=GT (decodeL l).1++FP g (l.drop (decodeL l).2):=by
 cases l with
 |nil=>exact absurd rfl a
 |cons b t=>rfl
theorem SN(W:Al)(d:Nat)(v:Am)(s:ByteArray)(bs:A2)(hl:bs.length+(CW s.data.toList).length<=999999999)(h:Av W d v bs):An Ao 138 #[v,.string s] W λak y=>∃x,ak=Ag x/\Av y d x (bs++CW s.data.toList)/\Below d W y/\If W y:=by
 obtain⟨F,B,C,D,E⟩:=BH Tryz.infoU8;obtain⟨a0,bc,a1,rfl⟩:=h.2.2;have z:=Ap h;have X:s.data.toList.length=s.size:=DB;have a:Hid (bs.length+2+(FP s.size s.data.toList).length<=999999999/\CW s.data.toList=[34]++FP s.size s.data.toList++[34]):=by
  unfold CW at hl;rw[X]at hl;refine⟨by simp only[AC,Bq,CF]at hl;omega,?_⟩;unfold CW;rw[X]
 have a6:bs.length<=999999999:=by omega
 go_enter func138,ntmps138
 go_wp2_with(first
  |(at_builtin;refine Bz _ rfl _ _ 49 rfl d 5 F (A7 Ai 0) 1 1 underlying49 B C D E rfl (by decide) _ _ _ rfl (z.1.alloc _) ⟨W.heap.size,0,Ak⟩ 1 1 [A7 Ai 34] rfl rfl (Bf _ _ _) (λu f=>by simp at f;subst f;rfl) (by unfold maxLen;omega) (by omega) (by simp;have:=z.2.1;omega) ?_;intro x O m w af;obtain⟨al,aj,rfl⟩:=ownsRow_succ m;have ag:=Ap (G3 ((AT _ _).alloc z.2.1 _) (z.1.alloc _) w (by simp;have:=z.2.1;omega));have n:Hid (Av O d (A8 (Aj ⟨al,0,Ak⟩) _ aj) (bs++[34])):=⟨Jj m rfl,AW z.2.1 ag.size,_,_,_,rfl⟩;have aq:=Ap ((Pa W _).trans (Pb (z.1.alloc _) w))))
 have t:Hid (Ex d W O.heap.size s 0 (A8 (Aj ⟨al,0,Ak⟩) (bs.length+1) aj) (bs++[34]) (O.iter s 0)):=by
  refine⟨KT n AH,World.iter_heap _ _ _,ag.alloc n.2.1 _,n.2.1,aq.trans (Pa _ _)⟩
 generalize O.iter s 0=W0 at *;generalize O.heap.size=N at *
 go_loopg[0] s.size (λg az wr=>∃(i:Nat) (H:A5) (M I:Nat) (b:A2),az=A8 H M I/\Hid (i<=s.size)/\Hid (s.size<=i+g)/\Hid (Ex d W N s i (A8 H M I) b wr)/\Hid ((bs++[34])++FP s.size s.data.toList=b++FP g (s.data.toList.drop i)))
 case atStart=>exact⟨0,_,_,_,_,rfl,Cy _,by show _<=_;omega,t,by show _=_;rw[N5]⟩
 case round =>
  obtain⟨i,H,M,I,b,rfl,ay,J,t,c⟩:=hrel;have R:Hid (b.length<=999999998):=by
   have:=congrArg List.length c;have h2:=a.1;simp only[AC,Bq,CF]at this;show _<=_;omega
  by_cases h1:i=s.size
  ·have HF:Hid ((bs++[34])++FP s.size s.data.toList=b):=by
    have h:=c.out;rw[h1,<-X,LD,fl,IA]at h;rw[<-X];exact h
   have ao:=λty=>VZ (P:=Ao) wr N s i ty t.it (by omega);have ad:=R.out
   go_wp2_with(first
    |(at_builtin;refine Bz _ rfl _ _ 49 rfl d 5 F (A7 Ai 0) 1 1 underlying49 B C D E rfl (by decide) _ _ _ rfl (t.own.1.alloc _) ⟨wr.heap.size,0,Ak⟩ 1 1 [A7 Ai 34] rfl rfl (Bf _ _ _) (λu f=>by simp at f;subst f;rfl) (by unfold maxLen;omega) (by omega) (by simp;have:=t.own.2.1;omega) ?_;intro x Q m w af;obtain⟨U,T,rfl⟩:=ownsRow_succ m;have j:=Ap (t.app (l:=[34]) m w)))
   go_ret;have he:bs++CW s.data.toList=b++[34]:=by rw[a.2,<-HF.out];simp
   rw[he];exact⟨_,rfl,j.own,j.below,j.kp⟩
  have hn:i<s.size:=by have:=ay.out;omega
  obtain⟨g,rfl⟩:∃g,gk=g+1:=⟨gk-1,by have:=J.out;omega⟩
  have ao:=λty=>VY (P:=Ao) wr N s i ty t.it hn;obtain⟨r,hr⟩:∃r,(Utf8.decode s i).1=r:=⟨_,rfl⟩
  obtain⟨k,V⟩:∃k,(Utf8.decode s i).2=k:=⟨_,rfl⟩
  rw[hr,V]at ao;have bb:r<=1114111:=by rw[<-hr];exact Lib.rune_le s i
  have ae:=Lib.decodeL_drop s i;have an:s.data.toList.drop i≠[]:=by
   intro h;have:=congrArg List.length h;rw[DK]at this;simp at this;omega
  have HC:Hid (FP (g+1) (s.data.toList.drop i)=GT r++FP g (s.data.toList.drop (i+k))):=by
   show _=_;rw[mW _ _ an,ae];rw[show(Utf8.decode s i).1=r from hr,show(Utf8.decode s i).2=k from V,LH]
  have a7:1<=k:=by have:=Lib.decodeL_width (s.data.toList.drop i);rw[ae,V]at this;exact this
  have a8:k<=s.size-i:=by
   have:=Lib.decodeL_le (s.data.toList.drop i) an;rw[ae,V,DK]at this;omega
  have p:Hid (Ex d W N s (i+k) (A8 H M I) b (wr.putObj N (.stringIter s (i+k)))):=t.next _
  have G:Hid ((bs++[34])++FP s.size s.data.toList=(b++GT r)++FP g (s.data.toList.drop (i+k))):=by
   show _=_;rw[c.out,HC.out,CE]
  have Y:Hid (b.length+(GT r).length<=999999998):=by
   have:=congrArg List.length G;have h2:=a.1;simp only[AC,Bq,CF]at this;show _<=_;omega
  generalize wr.putObj N (.stringIter s (i+k))=W2 at *;have ad:=R.out;by_cases ab:r=34\/r=92
  ·rcases ab with rfl|rfl
   ·have q:Hid (GT 34=[92,34]):=rfl;have am:=Y.out;have ad:=R.out
    go_wp2_with(first
     |(at_builtin;refine Bz _ rfl _ _ 49 rfl d 5 F (A7 Ai 0) 1 1 underlying49 B C D E rfl (by decide) _ _ _ rfl (p.own.1.alloc _) ⟨W2.heap.size,0,Ak⟩ 2 2 [A7 Ai 92,A7 Ai 34] rfl rfl (Bf _ _ _) (λu f=>by simp at f;rcases f with rfl|rfl<;>rfl) (by unfold maxLen;omega) (by omega) (by simp;have:=p.own.2.1;omega) ?_;intro x Q m w af;obtain⟨U,T,rfl⟩:=ownsRow_succ m;have j:Hid (Ex d W N s (i+k) (A8 (Aj ⟨U,0,Ak⟩) (b.length+2) T) (b++[92,34]) Q):=p.app (l:=[92,34]) m w))
    go_roundg g
    case measure=>omega
    case rel=>exact⟨i+k,_,_,_,_,rfl,by show _<=_;omega,by show _<=_;have:=J.out;omega,j,by have h:=G.out;rw[q.out]at h;exact h⟩
   have q:Hid (GT 92=[92,92]):=rfl;have am:=Y.out;have ad:=R.out
   go_wp2_with(first
    |(at_builtin;refine Bz _ rfl _ _ 49 rfl d 5 F (A7 Ai 0) 1 1 underlying49 B C D E rfl (by decide) _ _ _ rfl (p.own.1.alloc _) ⟨W2.heap.size,0,Ak⟩ 2 2 [A7 Ai 92,A7 Ai 92] rfl rfl (Bf _ _ _) (λu f=>by simp at f;rcases f with rfl|rfl<;>rfl) (by unfold maxLen;omega) (by omega) (by simp;have:=p.own.2.1;omega) ?_;intro x Q m w af;obtain⟨U,T,rfl⟩:=ownsRow_succ m;have j:Hid (Ex d W N s (i+k) (A8 (Aj ⟨U,0,Ak⟩) (b.length+2) T) (b++[92,92]) Q):=p.app (l:=[92,92]) m w))
   go_roundg g
   case measure=>omega
   case rel=>exact⟨i+k,_,_,_,_,rfl,by show _<=_;omega,by show _<=_;have:=J.out;omega,j,by have h:=G.out;rw[q.out]at h;exact h⟩
  have a2:((r:Int)==34)=false:=by simp;omega
  have a5:((r:Int)==92)=false:=by simp;omega
  by_cases aa:r<32
  ·have q:Hid (GT r=[92,117,48,48]++[DS (r/16),DS (r%16)]):=by show _=_;unfold GT;rw[Aq ab,As aa];rfl
   have au:(r:Int)<32:=by omega
   have ap:(⟨([92,117,48,48]:A2).toArray⟩:ByteArray).size=4:=rfl
   go_wp2_with(first
    |(at_builtin;refine wpList_append_own_string _ rfl _ _ 49 9 rfl d 5 F underlying49 underlying9 B C D E _ _ _ rfl p.own.1 ⟨[92,117,48,48].toArray⟩ rfl (by rw[ap];unfold maxLen;omega) (by rw[ap];omega) p.own.2.1 ?_;intro x w5 m ax a9;have j:=Ap (p.appS m ax);obtain⟨K,n4,e,rfl⟩:=j.own.2.2))
   have A:(λ_:Al=>True) {w5 with drawn:=w5.drawn+1}:=trivial;have o:=Ap j.drew;have ac:(b++[92,117,48,48]).length=b.length+4:=by simp
   have am:b.length+6<=999999998:=by have h:=Y.out;rw[q.out]at h;simpa using h
   refine Dr (S:=λ_=>True) (by kernel_rfl) ?_;refine Au 0 35 (A8 K n4 e) A ?_;refine Au 1 36 (A7 .i32 r) A ?_;refine AD 2 37 (A7 .i32 ((r/16:Nat):Int)) rfl (λZ hZ=>?y2) A ?_
   case y2=>(go_simp)
   refine AD 3 38 (B0 (DS (r/16))) rfl (λZ hZ=>?y3) A ?_
   case y3=>exact W6 9 _ _ rfl rfl (by kernel_rfl) (W5 (r/16) (by omega) Z)
   refine Au 4 39 (A7 .i32 r) A ?_;refine AD 5 40 (A7 .i32 ((r%16:Nat):Int)) rfl (λZ hZ=>?y5) A ?_
   case y5=>(have z2:=fo r aa;go_simp)
   refine AD 6 41 (B0 (DS (r%16))) rfl (λZ hZ=>?y6) A ?_
   case y6=>exact W6 9 _ _ rfl rfl (by kernel_rfl) (W5 (r%16) (by omega) Z)
   refine Bc 7 (λar hK=>?_);refine IU (by kernel_rfl) ?_;refine fw (.tmp 38) (.tmp 41) rfl (DS (r/16)) (DS (r%16)) (by kernel_rfl) (by kernel_rfl) ?_;refine hK.out _ _ trivial (λ_=>?_);refine Bc 8 (λar hK=>?_);refine IU (by kernel_rfl) ?_;refine X0 (.tmp 35) (.tmp 42) 49 rfl d 5 F (A7 Ai 0) 1 1 underlying49 B C D E rfl (by decide) (A8 K n4 e) _ _ (by kernel_rfl) (o.own.1.alloc _) ⟨w5.heap.size,0,Ak⟩ 2 2 [B0 (DS (r/16)),B0 (DS (r%16))] (by kernel_rfl) rfl (Bf _ _ _) (λu f=>by simp at f;rcases f with rfl|rfl<;>rfl) (by rw[ac];unfold maxLen;omega) (by rw[ac];omega) (by have:=o.own.2.1;rw[AM];exact MU this) ?_;intro x w6 L av _;obtain⟨g6,ai,rfl⟩:=ownsRow_succ L;have ah:Hid (Ex d W N s (i+k) (A8 (Aj ⟨g6,0,Ak⟩) ((b++[92,117,48,48]).length+2) ai) ((b++[92,117,48,48])++[DS (r/16),DS (r%16)]) w6):=o.app (l:=[DS (r/16),DS (r%16)]) L av;refine hK.out _ _ trivial (λ_=>?_);refine Au 9 0 (A8 (Aj ⟨g6,0,Ak⟩) ((b++[92,117,48,48]).length+2) ai) trivial ?_;refine Bw ?_;go_simp;go_wp2;go_roundg g
   case measure=>omega
   case rel=>exact⟨i+k,_,_,_,_,rfl,by show _<=_;omega,by show _<=_;have:=J.out;omega,by rw[ac]at ah;exact ah,by have h:=G.out;rw[q.out,<-CE]at h;exact h⟩
  have q:Hid (GT r=Cu r):=by show _=_;unfold GT;rw[Aq ab,Aq aa]
  have au:¬(r:Int)<32:=by omega
  have ba:=KR (r:Int);have cA:=Any.utf8_AppendRune_plain Tryz.lays242 (by kernel_rfl) d (A8 H M I) b.length (b.map B0) (r:Int) (by omega) (by omega) W2 p.own.1 (by omega) p.own.2.1
  go_wp2_with(first
   |(go_at_call 165;refine cA.mono ?_;rintro ak Q ⟨v3,rfl,L,bd,aw⟩;rw[RM,De]at L;have j:=Ap (p.app (l:=Cu r) L aw);obtain⟨K,n4,e,rfl⟩:=j.own.2.2))
  go_roundg g
  case measure=>omega
  case rel=>exact⟨i+k,_,_,_,_,rfl,by show _<=_;omega,by show _<=_;have:=J.out;omega,j,by have h:=G.out;rw[q.out]at h;exact h⟩
theorem mX(T:A3->A2)(W:Al)(b:Nat)(v:Am)(q:A5)(j:Nat)(F:Nat->Prop)(hF:∀k,F k->k<b)(bs:A2)(ds:List (DataW Unit))(xs:List Am)(hl:bs.length+(C9 T ds).length+2<=999999999)(hn:ds.length<=999999999)(m:C7 W 89 1 F (A8 q ds.length j) ds.length xs)(al:∀(i:Nat) (x:Am) (d:A3),xs[i]?=Aj x->ds[i]?=Aj d->PR W b x (T d))(ak:∀(i:Nat) (x:Am),xs[i]?=Aj x->∃aq y,x=Ae aq y)(h:Av W b v bs):An Ao 139 #[v,A8 q ds.length j] W λe z=>∃I,e=Ag I/\Av z b I (((bs++[91])++C9 T ds)++[93])/\Below b W z:=by
 obtain⟨a,U,X,Y,Z⟩:=BH Tryz.infoU8;obtain⟨au,a1,av,rfl⟩:=h.2.2;have B:=Ap h;have HU:=Ap m;have HI:=Ap al;have HF:=Ap ak;go_enter func139,ntmps139
 go_wp2_with(first
  |(at_builtin;refine Bz _ rfl _ _ 49 rfl b 5 a (A7 Ai 0) 1 1 underlying49 U X Y Z rfl (by decide) _ _ _ rfl (B.1.alloc _) ⟨W.heap.size,0,Ak⟩ 1 1 [A7 Ai 91] rfl rfl (Bf _ _ _) (λab m=>by simp at m;subst m;rfl) (by unfold maxLen;omega) (by omega) (by simp;have:=B.2.1;omega) ?_;intro I w2 p E u;obtain⟨ah,ag,rfl⟩:=ownsRow_succ p;have n:=Ap (G3 ((AT _ _).alloc B.2.1 _) (B.1.alloc _) E (by simp;have:=B.2.1;omega));have ae:Hid (Av w2 b (A8 (Aj ⟨ah,0,Ak⟩) _ ag) (bs++[91])):=⟨Jj p rfl,AW B.2.1 n.size,_,_,_,rfl⟩))
 go_loopg[0,12] ds.length (λg y ar wr=>∃(k:Nat) (M:A5) (c N:Nat),y=A8 M c N/\ar=A7 Ah k/\Hid (k+g=ds.length)/\Hid (Av wr b (A8 M c N) ((bs++[91])++C9 T (ds.take k)))/\Hid (Below b W wr))
 case atStart=>exact⟨0,_,_,_,rfl,rfl,by show _=_;omega,by simpa[C9]using ae,n⟩
 case round =>
  obtain⟨k,M,c,N,rfl,rfl,H,f,w⟩:=hrel;have ao:((bs++[91])++C9 T (ds.take k)).length<=999999998:=by
   have:=PQ T ds k;simp only[AC,Bq,CF];omega
  obtain⟨l,A⟩:∃l,Hid ((bs++[91])++C9 T (ds.take k)=l):=⟨_,show _=_ from rfl⟩
  rw[A.out]at f ao
  cases gk with
  |zero =>
   have ap:¬(k:Int)<ds.length:=by have:=H.out;omega
   have r:Hid (ds.take k=ds):=by show _=_;exact FJ (by have:=H.out;omega)
   go_wp2_with(first
    |(at_builtin;refine Bz _ rfl _ _ 49 rfl b 5 a (A7 Ai 0) 1 1 underlying49 U X Y Z rfl (by decide) _ _ _ rfl (f.1.alloc _) ⟨wr.heap.size,0,Ak⟩ 1 1 [A7 Ai 93] rfl rfl (Bf _ _ _) (λab m=>by simp at m;subst m;rfl) (by unfold maxLen;omega) (by omega) (by simp;have:=f.2.1;omega) ?_;intro I C p E u;obtain⟨Q,P,rfl⟩:=ownsRow_succ p;have o:=Ap (G3 ((AT _ _).alloc f.2.1 _) (f.1.alloc _) E (by simp;have:=f.2.1;omega));have D:Hid (Av C b (A8 (Aj ⟨Q,0,Ak⟩) _ P) (l++[93])):=⟨Jj p rfl,AW f.2.1 o.size,_,_,_,rfl⟩))
   go_ret;have he:l++[93]=bs++91::(C9 T ds++[93]):=by
    rw[<-A.out,r.out];simp
   have s:=D.out;rw[he]at s;exact⟨_,rfl,s,w.trans o⟩
  |succ g =>
   have an:k<ds.length:=by have:=H.out;omega
   have ap:(k:Int)<ds.length:=by omega
   have L:=HU.same (V':=wr) (G:=F) (λ_ h=>h) (λaa hj=>w.block aa (hF aa hj));obtain⟨q0,rfl⟩:∃q0,q=Aj ⟨q0,0,Ak⟩:=by
    rcases L.2 with⟨_,e⟩|⟨g,aw,l,e,_⟩
    ·omega
    injection e with e1 e2 e3;exact⟨g,e1⟩
   have a0:xs.length=ds.length:=by have:=L.1;omega
   obtain⟨x,V⟩:∃x,xs[k]?=Aj x:=⟨xs[k],AY (by omega)⟩
   obtain⟨d,S⟩:∃d,ds[k]?=Aj d:=⟨ds[k],AY an⟩
   obtain⟨tx,yx,rfl⟩:=HF.out k x V;have hc:wr.cell? ⟨q0,k,Ak⟩=Aj (Ae tx yx):=by
    have:=L.cell k _ V;have e:(⟨q0,0,Ak⟩:Addr).add k=⟨q0,k,Ak⟩:=by by_cases h:k=0<;>simp[Addr.add,h]
    rwa[e]at this
   have R:=PQ T ds (k+1);have ad:=HI.out k _ d V S;have t:=Ap ad;have ax:(wr.alloc (.cells #[A7 Ai 44] 5)).cell? ⟨q0,k,Ak⟩=Aj (Ae tx yx):=(Ck wr _ _ (by rw[hc];rfl)).trans hc;by_cases am:k=0
   ·subst am;have r:=Ap (Y9 T ds d S);have K:Hid (l.length+(T d).length<=999999999):=by
     show _<=_;rw[<-A.out];rw[r.out]at R;simp only[AC,Bq,CF,QR,C9];omega
    have O:=t.out wr _ _ w f K;have HK:Hid (0+(g+1)=ds.length):=H
    go_wp2_with(first
     |(go_at_call 111;refine O.mono ?_;rintro e C ⟨v4,rfl,s,ai⟩;obtain⟨o4,b4,a4,n4,c4,rfl⟩:=s;have D:Hid (Av C b (A8 a4 n4 c4) (l++T d)):=⟨o4,b4,_,_,_,rfl⟩;have o:=Ap (w.trans ai)))
    go_roundg g
    case measure=>omega
    case rel=>exact⟨1,a4,n4,c4,rfl,by go_num,by show _=_;have:=HK.out;omega,by show Av _ _ _ _;rw[r.out];have s:=D.out;rw[<-A.out]at s;simpa[C9]using s,o⟩
   have ay:decide ((0:Int)<(k:Int))=true:=by simp;omega
   have az:(0:Int)<(k:Int):=by omega
   have r:=Ap (Ya T ds k (by omega) d S);have K:Hid ((l++[44]).length+(T d).length<=999999999):=by
    show _<=_;rw[<-A.out];rw[r.out]at R;simp only[AC,Bq,CF]at R ⊢;omega
   go_wp2_with(first
    |(at_builtin;refine Bz _ rfl _ _ 49 rfl b 5 a (A7 Ai 0) 1 1 underlying49 U X Y Z rfl (by decide) _ _ _ rfl (f.1.alloc _) ⟨wr.heap.size,0,Ak⟩ 1 1 [A7 Ai 44] rfl rfl (Bf _ _ _) (λab m=>by simp at m;subst m;rfl) (by unfold maxLen;omega) (by omega) (by simp;have:=f.2.1;omega) ?_;intro I C p E u;obtain⟨Q,P,rfl⟩:=ownsRow_succ p;have o:=Ap (G3 ((AT _ _).alloc f.2.1 _) (f.1.alloc _) E (by simp;have:=f.2.1;omega));have D:Hid (Av C b (A8 (Aj ⟨Q,0,Ak⟩) _ P) (l++[44])):=⟨Jj p rfl,AW f.2.1 o.size,_,_,_,rfl⟩;have O:=t.out C _ _ (w.trans o) D K)
    |(go_at_call 111;refine O.mono ?_;rintro e w5 ⟨v5,rfl,J,aj⟩;obtain⟨o5,b5,a5,n5,c5,rfl⟩:=J;have af:Hid (Av w5 b (A8 a5 n5 c5) ((l++[44])++T d)):=⟨o5,b5,_,_,_,rfl⟩;have ac:=Ap ((w.trans o).trans aj)))
   go_roundg g
   case measure=>omega
   case rel=>exact⟨k+1,a5,n5,c5,rfl,by go_num,by show _=_;have:=H.out;omega,by show Av _ _ _ _;rw[r.out];have J:=af.out;rw[<-A.out]at J;simpa only[CE]using J,ac⟩
end
section
open Go.RowKit Go.Shelf
theorem oH(i o d b:Int):(D3 i o d b=false/\D0 i=false)\/(D3 i o d b=false/\D0 i=true/\D0 o=false)\/(D3 i o d b=false/\D0 i=true/\D0 o=true/\d<1)\/(D3 i o d b=false/\D0 i=true/\D0 o=true/\1<=d/\16<d) \/
  (D3 i o d b=false/\D0 i=true/\D0 o=true/\1<=d/\d<=16/\b<1)\/(D3 i o d b=false/\D0 i=true/\D0 o=true/\1<=d/\d<=16/\1<=b/\4096<b)\/(D3 i o d b=true/\D0 i=true/\D0 o=true/\1<=d/\d<=16/\1<=b/\b<=4096):=by
 unfold D3;cases D0 i<;>cases D0 o<;>simp;by_cases a:d<1
 ·simp[a];omega
 by_cases c:16<d
 ·simp[c];omega
 by_cases e:b<1
 ·simp[e];omega
 by_cases f:4096<b
 ·simp[f];omega
 omega
theorem YD:aP 10 Bl CP:=by
 intro c w x hg;have y:Hid (Et w c):=x;have U:Hid (c.B.length<=maxLen):=by have:=x.bb;show _<=_;unfold maxLen;omega
 have D:Hid (c.arr.size=11):=c.size;have b:Hid (Ij w c (w.alloc (.cells c.arr 25))):=Ml w c;have s:=kH c _ (b.cfg x);clear x hg;cases o:CU c.labels c.L
 focus
  have d:Gy c=false:=by unfold Gy;rw[o];rfl
  have f:Hid (Bl c=1):=by show _=_;unfold Bl;simp[d]
  have i:Hid (CP c=0):=by show _=_;unfold CP;rw[f.out];rfl
  rw[o]at s;clear o d
 rotate_left
 rw[o]at s;obtain⟨A,H⟩:=Sv o;have C:Hid (JF c.arr c.labels.toNat c.L c.ea c.ecap):=H;have Y:Hid (c.labels=(c.labels.toNat:Nat)):=A.symm;have X:Hid (c.arr[0]?=Aj (A7 Ah (c.labels.toNat:Nat))):=by show _=_;rw[A];rfl
 have G:=λa W=>LU c.arr c.labels.toNat X a W;have d:Gy c=(Bv c.labels.toNat c.dflt&&Bv c.labels.toNat c.clr):=by unfold Gy;rw[o];rfl
 clear o A H;cases j:Bv c.labels.toNat c.dflt
 focus
  have f:Hid (Bl c=1):=by show _=_;unfold Bl;simp[d,j]
  have i:Hid (CP c=0):=by show _=_;unfold CP;rw[f.out];rfl
  clear d
 rotate_left
 cases k:Bv c.labels.toNat c.clr
 focus
  have f:Hid (Bl c=1):=by show _=_;unfold Bl;simp[d,j,k]
  have i:Hid (CP c=0):=by show _=_;unfold CP;rw[f.out];rfl
  clear d
 rotate_left
 cases l:GW c.labels.toNat (B5 c.labels.toNat c.L)
 focus
  have f:Hid (Bl c=2):=by show _=_;unfold Bl;simp[d,j,k,l]
  have i:Hid (CP c=0):=by show _=_;unfold CP;rw[f.out];rfl
  clear d
 rotate_left
 cases m:GX c.labels.toNat (B5 c.labels.toNat c.L)
 focus
  have f:Hid (Bl c=3):=by show _=_;unfold Bl;simp[d,j,k,l,m]
  have i:Hid (CP c=0):=by show _=_;unfold CP;rw[f.out];rfl
  clear d
 rotate_left
 rcases oH c.inn c.out c.depth c.bytes with⟨g,p⟩|⟨g,p,q⟩|⟨g,p,q,t⟩|⟨g,p,q,t,z⟩|⟨g,p,q,t,z,F⟩|⟨g,p,q,t,z,F,b2⟩|⟨g,p,q,t,z,F,b2⟩
 focus
  have f:Hid (Bl c=4):=by show _=_;unfold Bl;simp[d,j,k,l,m,g]
  have i:Hid (CP c=0):=by show _=_;unfold CP;rw[f.out];rfl
  clear d g
 rotate_left
 focus
  have f:Hid (Bl c=4):=by show _=_;unfold Bl;simp[d,j,k,l,m,g]
  have i:Hid (CP c=0):=by show _=_;unfold CP;rw[f.out];rfl
  clear d g
 rotate_left
 focus
  have f:Hid (Bl c=4):=by show _=_;unfold Bl;simp[d,j,k,l,m,g]
  have i:Hid (CP c=0):=by show _=_;unfold CP;rw[f.out];rfl
  clear d g
 rotate_left
 focus
  have f:Hid (Bl c=4):=by show _=_;unfold Bl;simp[d,j,k,l,m,g]
  have i:Hid (CP c=0):=by show _=_;unfold CP;rw[f.out];rfl
  clear d g
 rotate_left
 focus
  have f:Hid (Bl c=4):=by show _=_;unfold Bl;simp[d,j,k,l,m,g]
  have i:Hid (CP c=0):=by show _=_;unfold CP;rw[f.out];rfl
  clear d g
 rotate_left
 focus
  have f:Hid (Bl c=4):=by show _=_;unfold Bl;simp[d,j,k,l,m,g]
  have i:Hid (CP c=0):=by show _=_;unfold CP;rw[f.out];rfl
  clear d g
 rotate_left
 cases u:Fc c.B
 focus
  have f:Hid (Bl c=5):=by show _=_;unfold Bl;simp[d,j,k,l,m,g,u]
  have i:Hid (CP c=0):=by show _=_;unfold CP;rw[f.out];rfl
  clear d
 rotate_left
 by_cases v:0<=BY c.labels.toNat c.pol.data.toList
 focus
  have f:Hid (Bl c=6):=by show _=_;unfold Bl;simp[d,j,k,l,m,g,u,v]
  obtain⟨V,n⟩:∃V,BY c.labels.toNat c.pol.data.toList=V:=⟨_,rfl⟩
  have E:Hid (BY c.labels.toNat c.pol.data.toList=V):=n;have i:Hid (CP c=V):=by show _=_;unfold CP;rw[f.out,As rfl];exact n
  rw[n]at v;clear d g n
 rotate_left
 have f:Hid (Bl c=0):=by show _=_;unfold Bl;simp[d,j,k,l,m,g,u,v]
 obtain⟨V,n⟩:∃V,BY c.labels.toNat c.pol.data.toList=V:=⟨_,rfl⟩
 have E:Hid (BY c.labels.toNat c.pol.data.toList=V):=n;have i:Hid (CP c=0):=by show _=_;unfold CP;rw[f.out];rfl
 rw[n]at v;clear d g n
 all_goals
  go_enter func10,ntmps10;have Z:True:=trivial;have T2:True:=trivial;have T3:True:=trivial;have T4:True:=trivial
  go_wp2_with(first
   |(refine B3 rfl 25 _ rfl _ rfl _ _ _ _ b.box underlying25 rfl (Dg D) ?_)
   |(refine CA 25 _ rfl ?hw _ rfl _ _ _ _ b.box underlying25 rfl (Dg D) ?_;case hw=>simp[go_sem];done)
   |(go_at_call 15;refine s.mono ?_;clear s;rintro e w2 ⟨rfl,O⟩;have h:=Ap (b.step O);clear b;have b:=h;clear h O;have k2:w2.cell? ⟨w.heap.size,2,Ak⟩=Aj (A7 Ah c.dflt):=b.cell 2)
   |(go_at_call 16;clear Z;refine(G c.dflt _).mono ?_;clear k2;rintro e w3 ⟨rfl,P⟩;rw[j];have h:=Ap (b.step P);clear b;have b:=h;clear h P;have k4:w3.cell? ⟨w.heap.size,4,Ak⟩=Aj (A7 Ah c.clr):=b.cell 4)
   |(go_at_call 16;clear T2;refine(G c.clr _).mono ?_;clear k4;rintro e w4 ⟨rfl,Q⟩;rw[k];have h:=Ap (b.step Q);clear b;have b:=h;clear h Q;have J:=ku c.arr c.labels.toNat c.L c.ea c.ecap C w4 (b.cfg y).edges)
   |(go_at_call 17;refine J.mono ?_;clear J;rintro e w5 ⟨rfl,R⟩;rw[l];have h:=Ap (b.step R);clear b;have b:=h;clear h R;have K:=kw c.arr c.labels.toNat c.L c.ea c.ecap C w5 (b.cfg y).edges)
   |(go_at_call 18;refine K.mono ?_;clear K;rintro e r ⟨rfl,S⟩;rw[m];have h:=Ap (b.step S);clear b;have b:=h;clear h S;have k6:r.cell? ⟨w.heap.size,6,Ak⟩=Aj (A7 Ah c.inn):=b.cell 6;have k7:r.cell? ⟨w.heap.size,7,Ak⟩=Aj (A7 Ah c.out):=b.cell 7;have k8:r.cell? ⟨w.heap.size,8,Ak⟩=Aj (A7 Ah c.depth):=b.cell 8;have k9:r.cell? ⟨w.heap.size,9,Ak⟩=Aj (A7 Ah c.bytes):=b.cell 9;have aa:r.cell? ⟨w.heap.size,10,Ak⟩=Aj (A8 c.ba c.B.length c.bcap):=b.cell 10;have I:=aN c.ba c.bcap c.B U r (b.cfg y).ints)
   |(go_at_call 19;clear T3;refine(Ny c.inn _).mono ?_;rintro e w7 ⟨rfl,rfl⟩;rw[p])
   |(go_at_call 19;clear T4;refine(Ny c.out _).mono ?_;rintro e w8 ⟨rfl,rfl⟩;rw[q])
   |(go_at_call 20;refine I.mono ?_;clear I k6 k7 k8 k9 aa;rintro e w9 ⟨rfl,T⟩;rw[u];have h:=Ap (b.step T);clear b;have b:=h;clear h T;have M:=jb c c.labels.toNat Y w9)
   |(go_at_call 21;refine M.mono ?_;clear M;rintro e ab ⟨ua,um,uc,rfl,N⟩;rw[E.out];have h:=Ap (b.step N);clear b;have b:=h;clear h N))
  go_ret2
  exact⟨by rw[f.out,i.out];rfl,b.below⟩
end
end Go.Proofs.YtoegnhgofkhbnaaGreatDoor
