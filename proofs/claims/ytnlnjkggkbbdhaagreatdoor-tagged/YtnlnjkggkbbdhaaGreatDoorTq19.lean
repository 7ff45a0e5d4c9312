import Derived.Test.YtnlnjkggkbbdhaaGreatDoorTq14
set_option maxRecDepth 100000
set_option maxHeartbeats 8000000
set_option linter.all false
namespace Go.Proofs.YtnlnjkggkbbdhaaGreatDoor
open Go.Proofs.Tryz
open Go.Value renaming int->I,slice->G
open Option renaming some->U,none->Y
open Go.IntKind renaming i64->K
open Go renaming World->O
open Go.Proofs.Tryz renaming prog->X
open Go.Value renaming int->A6,string->A9,tuple->Aa,bool->Ac
open Go.Ending renaming returned->Af
open Go renaming Calls->Am
variable{V W:O}{bs tl:A1}{j k n num p:Nat}{c c0:UInt8}{l lim z:Int}{m:Bool}{R:A5 Nat}
section
open Go.RowKit Go.Lib
def Y4(x:Nat)(a:x<16)(V:O):(Instr.index 9 (A9 ⟨#[48,49,50,51,52,53,54,55,56,57,97,98,99,100,101,102,103,104,105,106,107,108,109,110,111,112,113,114,115,116,117,118,119,120,121,122]⟩) (I .u64 x)).run X V=.ok (I .u8 ((Ef x).toNat:Int)) V:=by
 have h:x=0\/x=1\/x=2\/x=3\/x=4\/x=5\/x=6\/x=7\/x=8\/x=9\/x=10\/x=11\/x=12\/x=13\/x=14\/x=15:=J
 rcases h with rfl|rfl|rfl|rfl|rfl|rfl|rfl|rfl|rfl|rfl|rfl|rfl|rfl|rfl|rfl|rfl<;>(show _=_;kernel_rfl)
def jI(a:Nat)(c:a<18446744073709551616):bits .and .u64 (a:Int) 15=((a%16:Nat):Int):=by
 have h:(BitVec.ofNat 64 a&&&BitVec.ofNat 64 15).toNat=a%16:=by
  rw[SK,JE,JE,FC J,FC J];exact Wf a 4
 have b:BitVec.ofInt 64 (a:Int)=BitVec.ofNat 64 a:=Mi ..;show IntKind.u64.wrap ((BitVec.ofInt 64 (a:Int)&&&BitVec.ofNat 64 15).toNat:Int)=_;rw[b,h];unfold IntKind.wrap;simp[IntKind.bits,IntKind.signed];omega
def Kp.cell(h:Kp W tl V)(a:j+1+tl.length=65):V.cell? ⟨W.heap.size,j,Y⟩=U (I .u8 0):=by
 have:=BB h.arr j;rw[this];simp[show j<65-tl.length by omega,List.getElem?_append,Cg]
def Kp.set(h:Kp W tl V)(d:j+1+tl.length=65)(b:UInt8):Kp W (b::tl) (V.setCell ⟨W.heap.size,j,Y⟩ (Cg b)):=by
 refine⟨h.below.setCell (BM _) _,?_,Ax⟩;rw[ET V _ _ _ _ _ h.arr];have a:65-tl.length=j+1:=J
 have c:65-(b::tl).length=j:=Ax
 rw[a,c];congr 1;congr 1;apply Mu;simp only[Ou,G9,List.map_replicate,EU,Sz];rw[CN,Q7 _ _ Az];simp
def Kp.str(h:Kp W tl V){i c:Nat}(hi:i+tl.length=65):(convert 38 9 (G (U ⟨W.heap.size,i,Y⟩) tl.length c)).run X V=.ok (A9 ⟨tl.toArray⟩) V:=by
 refine Sw V 38 9 5 ⟨W.heap.size,i,Y⟩ c tl underlying38 underlying5 underlying9 ?_;intro j b;have e:(⟨W.heap.size,i,Y⟩:Addr).add j=⟨W.heap.size,i+j,Y⟩:=AX
 rw[e];have:=BB h.arr (i+j);rw[this];have a:65-tl.length=i:=J
 rw[a];simp[Cg,Ez,C6 b]
def Kp.thaw(h:Kp W tl V)(j:Nat):V.frozen? ⟨W.heap.size,j,Y⟩=false:=by
 have:=h.arr;simp[World.frozen?,this]
def jJ(V:O)(N j n:Nat)(h:j+n=65)(c:0<n):(Instr.sliceAt 313 (.pointer (U ⟨N,0,Y⟩)) (U (I K j)) Y Y).run X V=.ok (G (U ⟨N,j,Y⟩) n n) V:=by
 rw[run_sliceAt_array_l V 313 ⟨N,0,Y⟩ M K j J (by show(j:Int)<=65;omega)];have e:prog.arrayLen 313=65:=M
 have a:(sizeOf (prog.elem 313)).run X V=.ok 1 V:=M
 have b:(⟨N,0,Y⟩:Addr).add j=⟨N,j,Y⟩:=AX
 rw[a,e];simp only[EA,slicedAt,I3,Qr];rw[Bz J,b,show 65-j=n by omega]
def jK(u:Nat)(hu:u<18446744073709551616)(W:O)(w:W.cell? ⟨8,15,Y⟩=U (I .u8 4)):Am X 174 #[G Y 0 0,I .u64 u,I K 16,Ac false,Ac false] W λe s=>e=Af (Aa #[G Y 0 0,A9 ⟨(Es u).toArray⟩])/\A0 W s:=by
 have S:8<W.heap.size:=by
  by_cases h:8<W.heap.size
  ·exact h
  simp[World.cell?,h]at w
 have F:=λV=>jH V;have H:∀V,A0 W V->Am X 195 #[I .u64 16] V λe s=>e=Af (I K 4)/\s=V:=λV P=>jG V ((P.cell S).trans w);go_enter func174,ntmps174
 go_wp2_with(first
  |(go_at_call 194;refine(F _).mono ?_;rintro e w2 ⟨rfl,rfl⟩)
  |(go_at_call 195;refine(H _ BN).mono ?_;rintro e w3 ⟨rfl,rfl⟩))
 go_loopg[1,13] 16 (λg x ac wr=>∃(a i:Nat) (d:A1),x=I .u64 a/\ac=I K i/\Hid (i+d.length=65)/\Hid (Es u=Es a++d)/\Hid (a<16^g)/\Hid (d.length+g<=16)/\Hid (Kp W d wr))
 case atStart =>
  exact⟨u,65,[],Z,Z,Z,ke1,hu,BM 16,⟨BN,(BI W _).trans M,DK _⟩⟩
 case round =>
  obtain⟨a,i,d,rfl,rfl,f,v,p,q,l⟩:=hrel;obtain⟨j,rfl⟩:∃j,i=j+1:=⟨i-1,Aq f.out q.out⟩
  have hj:j<65:=Ao f.out
  have Q:a<18446744073709551616:=by
   have m:=p.out;have N:=q.out;have h3:16^gk<=16^16:=Oy J J;omega
  have z:=T (jI a Q);have hc:=l.cell f;have ad:=l.thaw j;by_cases t:a<16
  ·have L:decide ((16:Int)<=a)=false:=Ax
   have o:Hid (Es u=Ef a::d):=by show _=_;rw[v.out,QT t];rfl
   obtain⟨b,k⟩:∃b,Hid (Ef a=b):=⟨_,rfl⟩
   have y:∀V,(Instr.index 9 (A9 ⟨#[48,49,50,51,52,53,54,55,56,57,97,98,99,100,101,102,103,104,105,106,107,108,109,110,111,112,113,114,115,116,117,118,119,120,121,122]⟩) (I .u64 a)).run X V=.ok (I .u8 (b.toNat:Int)) V:=λV=>k.out▸Y4 a t V;have aa:=λV=>jJ V W.heap.size j (b::d).length (As f.out) Az;have R:(convert 38 9 (G (U ⟨W.heap.size,j,Y⟩) (b::d).length (b::d).length)).run X (wr.setCell ⟨W.heap.size,j,Y⟩ (I .u8 (b.toNat:Int)))=.ok (A9 ⟨(b::d).toArray⟩) (wr.setCell ⟨W.heap.size,j,Y⟩ (I .u8 (b.toNat:Int))):=(l.set f b).str (i:=j) (c:=(b::d).length) (As f.out);have D:=T (l.set f b);have A:=T (k.out▸o.out);obtain⟨n,C⟩:∃n,Hid ((b::d).length=n):=⟨_,rfl⟩
   rw[C.out]at aa R
   go_wp2_with fail
   refine Cc (KT results174 _ _ _) Z ⟨?_,D.below⟩;rw[A.out];rfl
  have L:decide ((16:Int)<=a)=true:=Ax
  obtain⟨x,r⟩:∃x,Hid (a%16=x):=⟨_,rfl⟩
  have ab:x<16:=Ao r.out
  obtain⟨b,k⟩:∃b,Hid (Ef x=b):=⟨_,rfl⟩
  have y:∀V,(Instr.index 9 (A9 ⟨#[48,49,50,51,52,53,54,55,56,57,97,98,99,100,101,102,103,104,105,106,107,108,109,110,111,112,113,114,115,116,117,118,119,120,121,122]⟩) (I .u64 x)).run X V=.ok (I .u8 (b.toNat:Int)) V:=λV=>k.out▸Y4 x ab V;have o:Hid (Es u=Es (a/16)++b::d):=by show _=_;rw[v.out,TK t,r.out,k.out];simp
  have ha:=r.out▸z.out;have B:Hid (16<=a):=AL
  go_wp2_with fail
  cases gk with
  |zero =>
   have m:=p.out;have N:=B.out;simp at m;omega
  |succ g =>
   go_roundg g
   case measure=>omega
   case rel =>
    refine⟨a/16,j,b::d,AE,AE,?_,o,?_,?_,l.set f b⟩
    ·show _=_;have:=f.out;simp;omega
    ·show _<_;have m:=p.out;rw[Wp J];rw[Jf]at m;exact m
    show _<=_;have:=q.out;simp;omega
def jL(u:Nat)(d:u<18446744073709551616)(W:O)(f:W.cell? ⟨8,15,Y⟩=U (I .u8 4)):Am X 185 #[I .u64 u,I K 16] W λe a=>e=Af (A9 ⟨(Es u).toArray⟩)/\A0 W a:=by
 have c:=jK u d W f;go_enter func185,ntmps185
 go_wp2_with(first|(go_at_call 174;refine c.mono ?_;rintro e g ⟨rfl,b⟩))
 go_ret;exact⟨Z,b⟩
def jM(u:Nat)(d:u<18446744073709551616)(W:O)(f:W.cell? ⟨8,15,Y⟩=U (I .u8 4)):Am X 169 #[I .u64 u,I K 16] W λe a=>e=Af (A9 ⟨(Es u).toArray⟩)/\A0 W a:=by
 have c:=jL u d W f;go_enter func169,ntmps169
 go_wp2_with(first|(go_at_call 185;refine c.mono ?_;rintro e g ⟨rfl,b⟩))
 go_ret;exact⟨Z,b⟩
def LS(u:Nat):A1:=List.replicate (16-(Es u).length) 48++Es u
def jN(u:Nat)(a:u<18446744073709551616):(LS u).length=16:=by
 have:=TL 15 u a;simp[LS];omega
def jO(n:Nat):repeatL [48] n=List.replicate n 48:=by
 induction n with
 |zero=>rfl
 |succ n a=>simp[repeatL,Wv]at a ⊢;exact a
def jP(a b:A1):(⟨a.toArray⟩:ByteArray)++⟨b.toArray⟩=⟨(a++b).toArray⟩:=by
 apply Mr;simp
def jQ(u:Nat)(i:u<18446744073709551616)(W:O)(p:W.cell? ⟨8,15,Y⟩=U (I .u8 4)):Am X 153 #[I .u64 u] W λe j=>e=Af (A9 ⟨(LS u).toArray⟩)/\A0 W j:=by
 have c:=jM u i W p;have o:=TL 15 u i;obtain⟨l,b⟩:∃l,Hid (Es u=l):=⟨_,rfl⟩
 rw[b.out]at c o;obtain⟨n,d⟩:∃n,Hid (16-l.length=n):=⟨_,rfl⟩
 have a:Hid (l.length+n=16):=Ap d.out
 obtain⟨r,f⟩:∃r,Hid (repeatL [48] n=r):=⟨_,rfl⟩
 have g:=T ((jO n).symm.trans f);have k:∀V:O,Am X 170 #[A9 ⟨#[48]⟩,I K n] V λe q=>e=Af (A9 ⟨r.toArray⟩)/\A0 V q:=λV=>f.out▸Tryz.strings_Repeat ⟨#[48]⟩ n V (Ao a.out) (by have:=a.out;show 1*n<=_;omega);have v:¬9223372036854775807<r.length+l.length:=by
  have s:=a.out;have t:r.length=n:=by rw[<-g.out];simp
  omega
 have w:(16:Int)-l.length=n:=Ao a.out
 go_enter func153,ntmps153
 go_wp2_with(first
  |(go_at_call 169;refine c.mono ?_;rintro e x ⟨rfl,h⟩)
  |(go_at_call 170;refine(k _).mono ?_;rintro e y ⟨rfl,m⟩))
 go_ret;refine⟨?_,h.trans (m.mono h.size)⟩;rw[jP,<-g.out,<-d.out,<-b.out];rfl
def Ce(c:UInt8):Nat:=if c.toNat<128 then 1 else if c.toNat<194 then 0 else if c.toNat<224 then 2 else if c.toNat<240 then 3 else if c.toNat<245 then 4 else 0
def Ds(c:UInt8):Nat:=if c.toNat<194 then 0 else if c.toNat=224 then 160 else if c.toNat=240 then 144 else if c.toNat<245 then 128 else 0
def Dy(c:UInt8):Nat:=if c.toNat<194 then 0 else if c.toNat=237 then 159 else if c.toNat=244 then 143 else if c.toNat<245 then 191 else 0
def sN:(List.range 256).all (λx=>(let c:=UInt8.ofNat x;decide ((Ea c=0↔Ce c=1)/\(Ea c=1↔Ce c=0)/\(2<=Ce c->Ea c=Ce c/\L2 c=Ds c/\L3 c=Dy c/\128<=Ds c)/\Ce c<=4)))=true:=M
def PN(c:UInt8):(Ea c=0↔Ce c=1)/\(Ea c=1↔Ce c=0)/\(2<=Ce c->Ea c=Ce c/\L2 c=Ds c/\L3 c=Dy c/\128<=Ds c)/\Ce c<=4:=by
 have h:=E8.1 sN c.toNat (CV.2 c.toNat_lt);have a:=CD h;rw[UInt8.ofNat_toNat]at a;exact a
def G5(c0:UInt8)(j:Nat)(c:UInt8):Bool:=(j==1&&(decide (c.toNat<Ds c0)||decide (Dy c0<c.toNat)))||(decide (1<j)&&(decide (c.toNat<128)||decide (191<c.toNat)))
def KK(bs:A1)(n p:Nat)(c0:UInt8):Nat->Nat->Nat×Bool
 |0,_=>(Ce c0,true)
 |g+1,j=>if n<=p+j then(j,false)else match bs[p+j]? with
  |none=>(j,false)
  |some c=>if G5 c0 j c=true then(j,false)else KK bs n p c0 g (j+1)
def Of(bs:A1)(n p:Nat)(c0:UInt8):Nat×Bool:=if Ce c0=0 then(0,false)else KK bs n p c0 (Ce c0-1) 1
def RY(a c:UInt8):G5 a 1 c=true↔(c.toNat<Ds a\/Dy a<c.toNat):=by
 unfold G5;simp
def Og(a c:UInt8)(j:Nat)(d:1<j):G5 a j c=true↔(c.toNat<128\/191<c.toNat):=by
 unfold G5;have b:(j==1)=false:=Ax
 rw[b,CH d];simp
def RZ(a:UInt8)(l:A1)(c:UInt8)(e:l.length+1<Ce a):Cw (a::l) c=if G5 a (l.length+1) c=true then 0 else if l.length+2=Ce a then 2 else 1:=by
 obtain⟨_,_,g,m⟩:=PN a;obtain⟨f,j,k,n⟩:=g J
 match l,e with
 |[],e =>
  show Cw [a] c=if G5 a 1 c=true then 0 else if 2=Ce a then 2 else 1;simp only[Cw,f,j,k];by_cases b:c.toNat<Ds a\/Dy a<c.toNat
  ·rw[BA b,BA ((RY a c).2 b)]
  rw[Bz b,Bz (λh=>b ((RY a c).1 h))];by_cases d:Ce a=2
  ·rw[BA d,BA d.symm]
  rw[Bz d,Bz (λh=>d h.symm)]
 |[b1],e =>
  show Cw [a,b1] c=if G5 a 2 c=true then 0 else if 3=Ce a then 2 else 1;simp only[Cw,f];by_cases b:c.toNat<128\/191<c.toNat
  ·rw[BA b,BA ((Og a c 2 Ay).2 b)]
  rw[Bz b,Bz (λh=>b ((Og a c 2 Ay).1 h))];by_cases d:Ce a=3
  ·rw[BA d,BA d.symm]
  rw[Bz d,Bz (λh=>d h.symm)]
 |[b1,b2],e =>
  show Cw [a,b1,b2] c=if G5 a 3 c=true then 0 else if 4=Ce a then 2 else 1;have i:4=Ce a:=by
   have:3<Ce a:=e;omega
  simp only[Cw];by_cases b:c.toNat<128\/191<c.toNat
  ·rw[BA b,BA ((Og a c 3 Ay).2 b)]
  rw[Bz b,Bz (λh=>b ((Og a c 3 Ay).1 h)),BA i]
 |_::_::_::l,e=>simp only[Cu]at e;omega
def S0(c:UInt8):Cw [] c=if Ce c=0 then 0 else if Ce c=1 then 2 else 1:=by
 obtain⟨d,e,f,g⟩:=PN c;simp only[Cw];by_cases a:Ce c=0
 ·rw[BA a];have:=e.2 a;rw[Bz J,BA this]
 rw[Bz a];by_cases b:Ce c=1
 ·rw[BA b,BA (d.2 b)]
 rw[Bz b,Bz (λh=>b (d.1 h)),Bz (λh=>a (e.1 h))]
def sO(a c:UInt8)(j:Nat)(e:2<=Ce a)(g:1<=j)(h:c.toNat<32):G5 a j c=true:=by
 obtain⟨_,_,d,_⟩:=PN a;have f:=(d e).2.2.2;unfold G5;by_cases b:j=1
 ·subst b;simp;omega
 simp;omega
def EO(bs:A1)(p k:Nat):A1:=(bs.drop p).take k
def bR(h:bs[p+k]?=U c):EO bs p (k+1)=EO bs p k++[c]:=by
 unfold EO;rw[JH,Mm,h];rfl
def VA(h:p+k<=bs.length):(EO bs p k).length=k:=by
 unfold EO;rw[In,Eb];omega
def sP(h:bs[p]?=U c):EO bs p 1=[c]:=by
 have:=bR (bs:=bs) (p:=p) (k:=0) (c:=c) B3;rw[this];simp[EO]
def sQ(h:bs[p]?=U c)(e:1<=k)(f:p+k<=bs.length):∃l,EO bs p k=c::l/\l.length+1=k:=by
 have a:=Cf h;have b:=(Ja.1 h).2;obtain⟨k,rfl⟩:∃d,k=d+1:=⟨k-1,J⟩
 refine⟨(bs.drop (p+1)).take k,?_,?_⟩
 ·unfold EO;rw[G7 a,Qb,b]
 rw[In,Eb];omega
def bS(o:Lm bs l lim)(A:(n:Int)=min (bs.length:Int) lim)(q:bs[p]?=U c0)(a:A1):∀(g j f:Nat),1<=j->j+g=Ce c0->C1 bs lim (p+j)->bs.length+1<=p+j+f ->
  match KK bs n p c0 g j with
  |(k,true)=>k=Ce c0/\C1 bs lim (p+k)/\Ct bs lim f (p+j) (a++EO bs p j) (if g=0 then a.length+j else a.length)=Ct bs lim (f-g) (p+k) (a++EO bs p k) (a++EO bs p k).length
  |(k,false)=>k<=Ce c0/\C1 bs lim (p+k)/\Ct bs lim f (p+j) (a++EO bs p j) (if g=0 then a.length+j else a.length)=.error (CS bs l (p+k) 9)
 |0,j,f,hj,hg,hi,_=>by
  rw[KK];simp only[];have y:j=Ce c0:=J
  subst y;refine⟨trivial,hi,?_⟩;rw[BA trivial,BK,VA hi.1];rfl
 |g+1,j,f,hj,hg,hi,hf=>by
  obtain⟨f,rfl⟩:∃v,f=v+1:=⟨f-1,Ao hi.1⟩
  rw[KK];by_cases u:n<=p+j
  ·rw[BA u];simp only[];refine⟨J,hi,?_⟩;rw[Bz J,Ct]
   cases b:bs[p+j]? with
   |none=>simp only[];rw[Lu hi.1 b]
   |some c =>
    have r:=Cf b;have d:((p+j:Nat):Int)=lim:=Ao hi.2
    simp only[];rw[BA d,IC o b d]
  rw[Bz u];have r:p+j<bs.length:=J
  have b:=C6 r;obtain⟨c,x⟩:∃c,c=bs[p+j]:=⟨_,rfl⟩
  rw[<-x]at b;rw[b];simp only[];have d:¬((p+j:Nat):Int)=lim:=J
  obtain⟨t,C,D⟩:=sQ q hj J;have e:=RZ c0 t c J;have hcut:(a++EO bs p j).drop a.length=c0::t:=by rw[I8,C]
  rw[<-hcut,D,show t.length+2=j+1 by omega]at e;have z:(a++EO bs p j).length=a.length+j:=by rw[BK,VA J]
  by_cases i:G5 c0 j c=true
  ·rw[BA i];simp only[];refine⟨J,hi,?_⟩;rw[Bz J,Ct,b];simp only[];rw[BA i]at e;rw[Bz d,Bz J,Bz J,J4 o hi b d];by_cases m:c.toNat<32
   ·rw[BA m]
   rw[Bz m,BA e]
  rw[Bz i];rw[Bz i]at e;have m:¬c.toNat<32:=λh=>i (sO c0 c j J hj h);have F:=bS o A q a g (j+1) f J J (Fp hi b d) J;have B:Ct bs lim (f+1) (p+j) (a++EO bs p j) (if g+1=0 then a.length+j else a.length)=Ct bs lim f (p+(j+1)) (a++EO bs p (j+1)) (if g=0 then a.length+(j+1)else a.length):=by
   rw[Bz J,Ct,b];simp only[];rw[Bz d,Bz J,Bz J,Bz m,e,z];have w:¬(if j+1=Ce c0 then 2 else 1)=0:=by split<;>decide
   rw[Bz w,bR b,CN];by_cases s:g=0
   ·rw[BA (show j+1=Ce c0 by omega),BA rfl,BA s];rfl
   rw[Bz (show¬j+1=Ce c0 by omega),Bz Ay,Bz s];rfl
  rw[B,show f+1-(g+1)=f-g by omega];exact F
def sR(o:Lm bs l lim)(x:(n:Int)=min (bs.length:Int) lim)(hi:C1 bs lim p)(e:bs[p]?=U c0)(m:¬(p:Int)=lim)(t:¬c0.toNat=34)(u:¬c0.toNat=92)(v:¬c0.toNat<32)(d:A1)(g:Nat)(z:bs.length+1<=p+g):match Of bs n p c0 with
  |(k,true)=>1<=k/\C1 bs lim (p+k)/\k<=g/\Ct bs lim g p d d.length=Ct bs lim (g-k) (p+k) (d++EO bs p k) (d++EO bs p k).length
  |(k,false)=>C1 bs lim (p+k)/\Ct bs lim g p d d.length=.error (CS bs l (p+k) 9):=by
 have B:=Cf e;have w:Cw (d.drop d.length) c0=Cw [] c0:=by rw[KR]
 obtain⟨g,rfl⟩:∃s,g=s+1:=⟨g-1,J⟩
 have i:Ct bs lim (g+1) p d d.length=if Cw [] c0=0 then .error (9,(p:Int))else Ct bs lim g (p+1) (d++[c0]) (if Cw [] c0=2 then d.length+1 else d.length):=by
  conv=>lhs;rw[Ct,e]
  simp only[];rw[Bz m,Bz (λh=>t h.1),Bz (λh=>u h.1),Bz v,w]
 unfold Of;rw[S0]at i;by_cases j:Ce c0=0
 ·rw[BA j];simp only[];rw[BA j]at i;simp only[LI];refine⟨hi,?_⟩;rw[i,J4 o hi e m];rfl
 rw[Bz j];rw[Bz j]at i;have y:Ct bs lim (g+1) p d d.length=Ct bs lim g (p+1) (d++EO bs p 1) (if Ce c0-1=0 then d.length+1 else d.length):=by
  rw[i,Bz (by split<;>decide),sP e];by_cases q:Ce c0=1
  ·rw[BA q,BA rfl,BA J]
  rw[Bz q,Bz Ay,Bz J]
 have A:=(PN c0).2.2.2;have f:=bS o x e d (Ce c0-1) 1 g (BM _) J (Fp hi e m) J;rw[<-y]at f;generalize KK bs n p c0 (Ce c0-1) 1=r at f ⊢;obtain⟨k,b⟩:=r;cases b
 ·exact⟨f.2.1,f.2.2⟩
 simp only[]at f ⊢;obtain⟨a,b,c⟩:=f;have:=b.1;refine⟨J,b,J,?_⟩;rw[c,show g-(Ce c0-1)=g+1-k by omega]
end
section
open Go.RowKit
def IE(m:Bool)(r:A5 Nat):A5 Int:=match r with
 |.ok (x,p)=>.ok (if m=true then -(x:Int)else(x:Int),p)
 |.error e=>.error e
def Il(bs:A1)(lim:Int)(r:A5 Int)(e:Ending):Prop:=∃r',FL bs lim r r'/\(∀z q,r'=.ok (z,q)->C1 bs lim q /\ -9223372036854775808<=z/\z<=9223372036854775807)/\dt r' e
def VS{f:Int×Int}(h:R=.error f):Il bs lim (IE m R) (Af (Aa #[.agg BZ,I K 0,.agg (BH f)])):=⟨.error f,.inl kfn,(λz q e=>by cases e),rfl⟩
def dz(h:R=.ok (num,k))(hi:C1 bs lim k)(c:z=if m=true then -(num:Int)else(num:Int))(a : -9223372036854775808<=z)(b:z<=9223372036854775807):Il bs lim (IE m R) (Af (Aa #[.agg (BJ 3 z ⟨#[]⟩ BV BV),I K k,.agg (BH (0,0))])) :=
 ⟨.ok (z,k),.inl (by rw[h,c];rfl),(λd q e=>by injection e with e;injection e with e1 e2;subst e1;subst e2;exact⟨hi,a,b⟩),Z⟩
def ug(h:R=.error (8,(k:Int)))(d:(k:Int)=lim)(c:k<bs.length)(a : -9223372036854775808<=z)(b:z<=9223372036854775807):Il bs lim (IE m R) (Af (Aa #[.agg (BJ 3 z ⟨#[]⟩ BV BV),I K k,.agg (BH (0,0))])) :=
 ⟨.ok (z,k),.inr ⟨k,kfn,d,c,_,rfl⟩,(λf q e=>by injection e with e;injection e with e1 e2;subst e1;subst e2;exact⟨⟨J,J⟩,a,b⟩),Z⟩
def Sc(h:Cy bs l p=false):FA bs l p=false:=by
 unfold Cy at h;unfold FA
 cases a:bs[p]? with
 |none=>rfl
 |some c =>
  simp only[];rw[CH (Cf a),GS]at h;rw[h];rfl
def uh(bs:A1)(lim:Int)(a:Nat)(z:Bool)(k num:Nat)(d:k<=bs.length):Dn bs lim a z (bs.length+1-k) k num=match bs[k]? with
  |none=>.ok (num,k)
  |some c=>if(k:Int)=lim then .error (8,(k:Int))else
   if Dm c=true then(if z=true then .error (9,(k:Int))else if(a-(c.toNat-48))/10<num then .error (10,(k:Int))else Dn bs lim a z (bs.length+1-(k+1)) (k+1) (num*10+(c.toNat-48)))
   else if c.toNat=46\/c.toNat=101\/c.toNat=69 then .error (10,(k:Int))else .ok (num,k):=by
 obtain⟨g,b⟩:∃g,bs.length+1-k=g+1:=⟨bs.length-k,J⟩
 rw[b,Dn,show bs.length+1-(k+1)=g by omega];cases bs[k]? <;> rfl
def dA(b:Lm bs l lim)(hi:C1 bs lim p)(h:bs[p]?=U c)(f:¬(p:Int)=lim):FA bs l p=Dm c:=by
 have a:=Cf h;have d:=b p a;have e:=hi.2;unfold FA;rw[h];simp only[];rw[CH (p:=(p:Int)<l) J,GS]
def ui(W:O)(bs:A1)(fm d l:Int)(i:Nat)(c:UInt8)(f:bs[i]?=U c)(r:c.toNat=45)(hb:bs.length<=281474976710656)(x:Int×Int)(o:FA bs l (i+1)=false)(p:CS bs l (i+1) 9=x):Am X 109 #[.agg (BP bs fm d l),I K i] W λe a=>dt (.error x) e/\A0 W a:=by
 have v:=Cf f;have w:=DI bs i c f;have u:((c.toNat:Int)==45)=true:=by rw[r];rfl
 have n:∀V,Am X 138 #[.agg #[A9 ⟨bs.toArray⟩,I K fm,I K d,I K l],I K ((i:Int)+1)] V λe a=>e=Af (Ac false)/\A0 V a:=λV=>by
  have:=bz V bs fm d l (i+1);rw[o]at this;exact this
 have m:∀V,Am X 47 #[.agg #[A9 ⟨bs.toArray⟩,I K fm,I K d,I K l],I K ((i:Int)+1),I K 9] V λe a=>e=Af (.agg (BH x))/\A0 V a:=λV=>by
  have:=N6 V bs fm d l (i+1) 9;rw[p]at this;exact this
 have s:=Mb W bs fm d l;clear f r o p;unfold BP;go_enter func109,ntmps109
 go_wp2_with(first
  |(go_at_call 138;refine CT (n _) s.next (λ_ h=>h.box) ?_;clear n;intro y t g j c2 k)
  |(go_at_call 47;refine CT (m _) t.next (λ_ h=>h.box) ?_;clear m g j c2 k;intro z b g j c2 k)
  |((with_reducible refine PQ 4 23 rfl rfl (W.heap.size+1) (BZ) ?_ ?_ ?_ ?_ ?_);exact Z;exact Z;exact b.th;exact thg)
  |((with_reducible refine En 6 26 rfl rfl (W.heap.size+2) (x) ?_ ?_ ?_ ?_);exact Z;exact Z;exact G6 b Cm _))
 have q:=EP b Cm (BZ) (x);refine EQ results109 q _ Z Z Z Z ⟨?_,q.2.2⟩;rfl
def uj(bs:A1)(l lim:Int)(m:Bool)(B f k num:Nat)(ch:UInt8)(R:A5 Nat):Prop :=
 (FA bs l k=false/\Cy bs l k=false/\(∀z:Int,z=(if m=true then -(num:Int)else(num:Int)) -> -9223372036854775808<=z->z<=9223372036854775807->Il bs lim (IE m R) (Af (Aa #[.agg (BJ 3 z ⟨#[]⟩ BV BV),A6 .i64 k,.agg (BH (0,0))]))))\/(FA bs l k=false/\Cy bs l k=true/\∃cc,bs[k]?=some cc/\((cc.toNat:Int)==46)=false/\((cc.toNat:Int)==101)=false/\((cc.toNat:Int)==69)=false/\(∀z:Int,z=(if m=true then -(num:Int)else(num:Int)) -> -9223372036854775808<=z->z<=9223372036854775807->Il bs lim (IE m R) (Af (Aa #[.agg (BJ 3 z ⟨#[]⟩ BV BV),A6 .i64 k,.agg (BH (0,0))]))))\/(FA bs l k=false/\Cy bs l k=true/\∃cc,bs[k]?=some cc/\((cc.toNat:Int)==46)=true/\CS bs l k 10=(10,(k:Int))/\Il bs lim (IE m R) (Af (Aa #[.agg BZ,A6 .i64 0,.agg (BH (10,(k:Int)))])))\/(FA bs l k=false/\Cy bs l k=true/\∃cc,bs[k]?=some cc/\((cc.toNat:Int)==46)=false/\((cc.toNat:Int)==101)=true/\CS bs l k 10=(10,(k:Int))/\Il bs lim (IE m R) (Af (Aa #[.agg BZ,A6 .i64 0,.agg (BH (10,(k:Int)))])))\/(FA bs l k=false/\Cy bs l k=true/\∃cc,bs[k]?=some cc/\((cc.toNat:Int)==46)=false/\((cc.toNat:Int)==101)=false/\((cc.toNat:Int)==69)=true/\CS bs l k 10=(10,(k:Int))/\Il bs lim (IE m R) (Af (Aa #[.agg BZ,A6 .i64 0,.agg (BH (10,(k:Int)))])))\/(FA bs l k=true/\∃cc,bs[k]?=some cc/\48<=(cc.toNat:Int)/\(cc.toNat:Int)<=57/\(f:Int)<(k:Int)/\((ch.toNat:Int)==48)=true/\CS bs l k 9=(9,(k:Int))/\Il bs lim (IE m R) (Af (Aa #[.agg BZ,A6 .i64 0,.agg (BH (9,(k:Int)))])))\/(FA bs l k=true/\∃cc,bs[k]?=some cc/\48<=(cc.toNat:Int)/\(cc.toNat:Int)<=57/\(f:Int)<(k:Int)/\((ch.toNat:Int)==48)=false /\ -(num:Int)<(-9223372036854775808+((cc.toNat:Int)-48)).tdiv 10/\CS bs l k 10=(10,(k:Int))/\Il bs lim (IE m R) (Af (Aa #[.agg BZ,A6 .i64 0,.agg (BH (10,(k:Int)))])))\/(FA bs l k=true/\∃cc,bs[k]?=some cc/\48<=(cc.toNat:Int)/\(cc.toNat:Int)<=57/\(f:Int)<(k:Int)/\((ch.toNat:Int)==48)=false/\¬-(num:Int)<(-9223372036854775808+((cc.toNat:Int)-48)).tdiv 10/\m=false/\(-(num:Int)*10-((cc.toNat:Int)-48) == -9223372036854775808)=true /\ -9223372036854775808 <= -(num:Int)*10 /\ -9223372036854775808 <= -(num:Int)*10-((cc.toNat:Int)-48)/\CS bs l k 10=(10,(k:Int))/\Il bs lim (IE m R) (Af (Aa #[.agg BZ,A6 .i64 0,.agg (BH (10,(k:Int)))])))\/(FA bs l k=true/\∃cc,bs[k]?=some cc/\48<=(cc.toNat:Int)/\(cc.toNat:Int)<=57/\decide ((f:Int)<(k:Int))=false/\(k:Int)<=(f:Int)/\¬-(num:Int)<(-9223372036854775808+((cc.toNat:Int)-48)).tdiv 10 /\ -9223372036854775808 <= -(num:Int)*10 /\ -9223372036854775808 <= -(num:Int)*10-((cc.toNat:Int)-48)/\(m=false->(-(num:Int)*10-((cc.toNat:Int)-48) == -9223372036854775808)=false)/\num*10+(cc.toNat-48)<=B/\C1 bs lim (k+1)/\Dn bs lim B (ch.toNat==48) (bs.length+1-(k+1)) (k+1) (num*10+(cc.toNat-48))=R)\/(FA bs l k=true/\∃cc,bs[k]?=some cc/\48<=(cc.toNat:Int)/\(cc.toNat:Int)<=57/\(f:Int)<(k:Int)/\((ch.toNat:Int)==48)=false/\¬-(num:Int)<(-9223372036854775808+((cc.toNat:Int)-48)).tdiv 10 /\ -9223372036854775808 <= -(num:Int)*10 /\ -9223372036854775808 <= -(num:Int)*10-((cc.toNat:Int)-48)/\(m=false->(-(num:Int)*10-((cc.toNat:Int)-48) == -9223372036854775808)=false)/\num*10+(cc.toNat-48)<=B/\C1 bs lim (k+1)/\Dn bs lim B (ch.toNat==48) (bs.length+1-(k+1)) (k+1) (num*10+(cc.toNat-48))=R)
def ul{B f:Nat}{ch:UInt8}(y:(m=true/\B=9223372036854775808)\/(m=false/\B=9223372036854775807))(hn:num<=B)(u:Lm bs l lim)(hi:C1 bs lim k)(Q:bs[f]?=U ch)(S:Dm ch=true)(W:¬(f:Int)=lim)(ad:f<=k)(P:Dn bs lim B (ch.toNat==48) (bs.length+1-(f+1)) (f+1) (ch.toNat-48)=R)(aa:(k=f/\num=0)\/(f<k/\Dn bs lim B (ch.toNat==48) (bs.length+1-k) k num=R)):uj bs l lim m B f k num ch R:=by
 have w:k=f->bs[k]?=U ch:=λh=>by rw[h];exact Q
 have j:¬k=f->R=_:=λh=>by
  rcases aa with a|a
  ·omega
  exact a.2.symm.trans (uh bs lim B (ch.toNat==48) k num hi.1)
 cases c:bs[k]? with
 |none =>
  have g:=j λh=>by rw[w h]at c;cases c
  rw[c]at g;exact .inl ⟨Sc (K2 c),K2 c,λz h a o=>dz g hi h a o⟩
 |some b =>
  rw[c]at j;simp only[]at j;by_cases i:(k:Int)=lim
  ·have g:=j λh=>W (by rw[<-h];exact i);rw[BA i]at g;exact .inl ⟨Sc (Jw u c i),Jw u c i,λz h a o=>ug g i (Cf c) a o⟩
  have n:=dA u hi c i;have q:=λe=>J4 u hi c i e;have v:=Lv u hi c i;rw[Bz i]at j;cases d:Dm b
  ·have g:=j λh=>by
    have a:=w h;rw[c]at a;injection a with a;rw[a,S]at d;cases d
   rw[Bz (by rw[d];decide)]at g;by_cases D:b.toNat=46\/b.toNat=101\/b.toNat=69
   ·rw[BA D]at g;have r:=VS (bs:=bs) (lim:=lim) (m:=m) g;by_cases ac:b.toNat=46
    ·exact .inr (.inr (.inl ⟨n.trans d,v,b,c,Ax,q 10,r⟩))
    by_cases ab:b.toNat=101
    ·exact .inr (.inr (.inr (.inl ⟨n.trans d,v,b,c,Ax,Ax,q 10,r⟩)))
    exact .inr (.inr (.inr (.inr (.inl ⟨n.trans d,v,b,c,Ax,Ax,Ax,q 10,r⟩))))
   rw[Bz D]at g;exact .inr (.inl ⟨n.trans d,v,b,c,Ax,Ax,Ax,λz h a o=>dz g hi h a o⟩)
  rw[BA d]at j;obtain⟨s,t⟩:=CD (by unfold Dm at d;exact d);have x:=u6 num (b.toNat-48) J;rw[show((b.toNat-48:Nat):Int)=(b.toNat:Int)-48 by omega]at x;by_cases N:f<k/\ch.toNat=48
  ·have a:=j J;rw[BA (by simp[N.2])]at a;exact .inr (.inr (.inr (.inr (.inr (.inl ⟨n.trans d,b,c,s,t,J,Ax,q 9,VS a⟩)))))
  have L:f<k->¬(ch.toNat==48)=true:=λh a=>N ⟨h,AO⟩;by_cases H:(B-(b.toNat-48))/10<num
  ·have V:f<k:=J
   have a:=j J;rw[Bz (L V),BA H]at a;have r:=VS (bs:=bs) (lim:=lim) (m:=m) a;by_cases p : -(num:Int)<(-9223372036854775808+((b.toNat:Int)-48)).tdiv 10
   ·exact .inr (.inr (.inr (.inr (.inr (.inr (.inl ⟨n.trans d,b,c,s,t,J,Ax,p,q 10,r⟩))))))
   have o:¬(9223372036854775808-(b.toNat-48))/10<num:=λh=>p (x.2 h);exact .inr (.inr (.inr (.inr (.inr (.inr (.inr (.inl ⟨n.trans d,b,c,s,t,J,Ax,p,y.elim (λh=>J) (λh=>h.1),Ax,J,J,q 10,r⟩)))))))
  have o:¬(9223372036854775808-(b.toNat-48))/10<num:=J
  have p:¬-(num:Int)<(-9223372036854775808+((b.toNat:Int)-48)).tdiv 10:=λh=>o (x.1 h);have C:Dn bs lim B (ch.toNat==48) (bs.length+1-(k+1)) (k+1) (num*10+(b.toNat-48))=R:=by
   by_cases h:k=f
   ·have a:=w h;rw[c]at a;injection a with a;rw[show num=0 by omega,a,h,Qq,DY];exact P
   have a:=j h;rw[Bz (L J),Bz H]at a;exact a.symm
  have A:m=false->(-(num:Int)*10-((b.toNat:Int)-48) == -9223372036854775808)=false:=λh=>y.elim (λa=>by rw[h]at a;cases a.1) (λa=>Ax);have F:=Fp hi c i;by_cases h:f<k
  ·exact .inr (.inr (.inr (.inr (.inr (.inr (.inr (.inr (.inr (⟨n.trans d,b,c,s,t,J,Ax,p,J,J,A,J,F,C⟩)))))))))
  exact .inr (.inr (.inr (.inr (.inr (.inr (.inr (.inr (.inl ⟨n.trans d,b,c,s,t,Ax,J,p,J,J,A,J,F,C⟩))))))))
def dB(W:O)(bs:A1)(fm d l lim:Int)(i f B:Nat)(m:Bool)(c t:UInt8)(hc:bs[i]?=U c)(v:(m=true/\c.toNat=45/\f=i+1/\B=9223372036854775808)\/(m=false/\¬c.toNat=45/\f=i/\B=9223372036854775807))(z:bs[f]?=U t)(hd:Dm t=true)(ac:¬(f:Int)=lim)(hl:Lm bs l lim)(hi:C1 bs lim f)(hb:bs.length<=281474976710656):Am X 109 #[.agg (BP bs fm d l),I K i] W λe y=>Il bs lim (IE m (Dn bs lim B (t.toNat==48) (bs.length+1-(f+1)) (f+1) (t.toNat-48))) e/\A0 W y:=by
 obtain⟨R,Q⟩:∃R,Hid (Dn bs lim B (t.toNat==48) (bs.length+1-(f+1)) (f+1) (t.toNat-48)=R):=⟨_,show _=_ from rfl⟩
 rw[Q.out];have a0:=Cf hc;have ax:=Cf z;have au:=DI bs i c hc;have a1:=λV=>DI bs f t z V;have w:=T hi;have af:=T (λk num A hn hi h=>ul (k:=k) (num:=num) (m:=m) (v.imp (λh=>⟨h.1,h.2.2.2⟩) (λh=>⟨h.1,h.2.2.2⟩)) hn hl hi z hd ac A Q h);have S:∀V (k:Nat),Am X 138 #[.agg #[A9 ⟨bs.toArray⟩,I K fm,I K d,I K l],I K k] V λe y=>e=Af (Ac (FA bs l k))/\A0 V y:=λV k=>bz V bs fm d l k;have cH:=Od bs fm d l;have cB:=Oe bs fm d l;have ah:∀V,Am X 138 #[.agg #[A9 ⟨bs.toArray⟩,I K fm,I K d,I K l],I K (f:Int)] V λe y=>e=Af (Ac true)/\A0 V y:=λV=>by
  have:=S V f;rw[dA hl hi z ac,hd]at this;exact this
 have x:=Mb W bs fm d l;clear hc z hd ac hl hi Q;unfold BP;rcases v with⟨rfl,v,hf,hB⟩|⟨rfl,v,hf,hB⟩
 have ao:((c.toNat:Int)==45)=true:=(by rw[v];rfl);rotate_left
 have ao:=BS (c:=c) 45 J;rotate_left
 all_goals
  have HB:=T hB;have ae:=T (show _=(f:Int)from(congrArg Nat.cast hf).symm);clear v hf hB;go_enter func109,ntmps109
  go_wp2_with fail
  first
   |rw[show(i:Int)+1=(f:Int)from ae.out]
   |rw[show(i:Int)=(f:Int)from ae.out]
  refine G3 (ah _) x.next ?_
  clear ah;intro w2 aq o;obtain⟨q,r,c2,s⟩:=CL o.box
  go_wp2_with fail
  clear q r c2 s aq x
  go_loopg[1,9] (bs.length+1-f) (λan zi zn wr=>∃k num:Nat,zi=I K k/\zn=I K (-(num:Int))/\Hid (bs.length+1<=k+an)/\Hid (f<=k)/\Hid (num<=B)/\Hid (Hi W (BP bs fm d l) wr)/\Hid (C1 bs lim k)/\Hid ((k=f/\num=0)\/(f<k/\Dn bs lim B (t.toNat==48) (bs.length+1-k) k num=R)))
  case atStart=>exact⟨f,0,rfl,rfl,AL,BM _,DK _,o,w,.inl ⟨rfl,rfl⟩⟩
  case round =>
   clear o w;obtain⟨k,num,rfl,rfl,hg,A,al,x,w,HP⟩:=hrel;have a4:=w.1;have a5:=al.out;have aw:=HB.out;obtain⟨q,r,c2,s⟩:=CL x.box;have g:=λV=>S V k;have aa:=λV=>cH V k;rcases af.out k num A.out al.out w HP with⟨j,C,p⟩|⟨j,C,n,b,ab,ai,ap,p⟩|⟨j,C,n,b,ab,u,p⟩|⟨j,C,n,b,ab,ai,u,p⟩|⟨j,C,n,b,ab,ai,ap,u,p⟩|⟨j,n,b,H,L,ad,hz,u,p⟩|⟨j,n,b,H,L,ad,hz,hA,u,p⟩|⟨j,n,b,H,L,ad,hz,hA,av,N,aj,ak,u,p⟩|⟨j,n,b,H,L,ay,az,hA,aj,ak,N,D,F,P⟩|⟨j,n,b,H,L,ad,hz,hA,aj,ak,N,D,F,P⟩
   all_goals
    rw[j]at g
    try rw[C]at aa
    try(have a2:=DI bs k n b;have a3:=Cf b)
    try(have ag:=PF fm d u)
    try have HV:=T p
    try have am:=T P
    try have F:=T F
    try have D:=T D
    try have N:=N rfl
    try clear p
    try clear P b
    clear S cH cB HP au j af
    try cases av
   all_goals
    go_wp2_with(first
     |(go_at_call 138;refine CT (g _) x.next (λ_ h=>h.box) ?_;clear g q r c2 s;intro w2 o q r c2 s;have a:=o)
     |(go_at_call 68;refine CT (aa _) o.next (λ_ h=>h.box) ?_;clear aa q r c2 s a;intro w3 a q r c2 s;have o:=a)
     |(go_at_call 47;refine CT (ag _) o.next (λ_ h=>h.box) ?_;clear ag q r c2 s a;intro w4 a q r c2 s)
     |((with_reducible refine PQ 4 _ rfl rfl (W.heap.size+1) (BZ) ?_ ?_ ?_ ?_ ?_);exact Z;exact Z;exact a.th;exact thg)
     |((with_reducible refine PQ 4 _ rfl rfl (W.heap.size+1) (BJ 3 (-(num:Int)) ⟨#[]⟩ BV BV) ?_ ?_ ?_ ?_ ?_);exact Z;exact Z;exact a.th;exact thg)
     |((with_reducible refine PQ 4 _ rfl rfl (W.heap.size+1) (BJ 3 (num:Int) ⟨#[]⟩ BV BV) ?_ ?_ ?_ ?_ ?_);exact Z;exact Z;exact a.th;exact thg)
     |((with_reducible refine En 6 _ rfl rfl (W.heap.size+2) (0,0) ?_ ?_ ?_ ?_);exact Z;exact Z;exact G6 a Cm _)
     |((with_reducible refine En 6 _ rfl rfl (W.heap.size+2) (9,(k:Int)) ?_ ?_ ?_ ?_);exact Z;exact Z;exact G6 a Cm _)
     |((with_reducible refine En 6 _ rfl rfl (W.heap.size+2) (10,(k:Int)) ?_ ?_ ?_ ?_);exact Z;exact Z;exact G6 a Cm _))
    try exact EQ results109 (EP a Cm _ _) _ rfl rfl rfl rfl ⟨HV,(EP a Cm _ _).2.2⟩
    try exact EQ results109 (EP a Cm _ _) _ rfl rfl rfl rfl ⟨HV _ rfl J J,(EP a Cm _ _).2.2⟩
   all_goals
    obtain⟨gg,ar⟩:∃gg,gk=gg+1:=⟨gk-1,AT⟩
    subst ar;go_roundg gg
    case measure=>omega
    case rel=>exact⟨k+1,num*10+(n.toNat-48),AE,congrArg (Value.int K) J,ke5,by show _<=_;have:=A.out;omega,D,o,F,.inr ⟨Ao A.out,am⟩⟩
end
end Go.Proofs.YtnlnjkggkbbdhaaGreatDoor
