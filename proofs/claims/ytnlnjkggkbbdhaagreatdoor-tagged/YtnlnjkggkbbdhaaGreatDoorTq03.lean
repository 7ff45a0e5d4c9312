import Derived.BigCall
import Derived.Maps.AppendAt
import Derived.Deep.OwnRows
import Derived.RangeFuncBox
import Derived.Lib.ValidU
import Derived.Lib.IndexLaws
import Derived.Lib.IndexMore
import Derived.RangeFuncOwn
import Derived.RangeFuncFrom
import Derived.Below
import Derived.Test.YtnlnjkggkbbdhaaGreatDoorTq01
import Derived.Test.YtnlnjkggkbbdhaaGreatDoorTq02
set_option maxRecDepth 100000
set_option maxHeartbeats 8000000
set_option linter.all false
namespace Go.Proofs.YtnlnjkggkbbdhaaGreatDoor
open Go.Proofs.Tryz
open Go.Value renaming int->I,slice->G
open Option renaming some->U,none->Y
open Go.IntKind renaming i64->K
open Go renaming World->O
open Go.Obj renaming cells->E
open Go.Proofs.Tryz renaming prog->X
open Go.Ending renaming returned->Af
open Go renaming World->Ak,Value->Al,Calls->Am
variable{W W' w:O}{base f hi i lo n:Nat}{u v v':Al}{xs:List Al}{a:Act}{Q:Exit->Act->O->Prop}{bs l ys:A1}{b c:UInt8}{ps:List ByteArray}
section
open Go.RowKit
def Tryz.infoU8:(prog.info? 5).map (λi=>(i.zero,i.size,i.bytes))=U (U (I .u8 0),1,1):=M
def Cg(b:UInt8):Al:=.int .u8 b.toNat
def Fa{e:TypeId}{size:Nat}(c:W.ownsRow base e size v n xs){g:Nat}(h:v.ownBlock=U g):base<=g:=by
 rcases c.2 with⟨a,_⟩|⟨i,d,f,rfl,b,_⟩
 ·subst a;cases h
 cases h;exact b
def EE(w:O)(cs:A3)(t:TypeId):∀(j:Nat) (u:Al),cs.toList[j]?=U u->(w.alloc (E cs t)).cell? ((⟨w.heap.size,0,Y⟩:Addr).add j)=U u:=λj u a=>by
 have e:(⟨w.heap.size,0,Y⟩:Addr).add j=⟨w.heap.size,j,Y⟩:=AX
 rw[e,F7 _ _ _ _ _ _ (BI _ _)];simpa using a
def Dh{ops:Array Oper}{rest:List Oper}{o:Oper}{s x:Operand}(z:Int)(own:w.ownsRow base 5 1 v n xs)(h:∀b c,c.ownsRow base 5 1 b (n+1) (xs++[I .u8 z])->(w.alloc (E #[I .u8 z] 5)).grownBy c v.ownBlock->(b=G Y 0 0↔v=G Y 0 0/\1=0)->wpList X ops Q rest (a.put o.dst b) c)(g:n+1<=maxLen:=by unfold maxLen;omega)(l:(n+1)*1<=140737488355328:=by omega)(hb:base<=(w.alloc (E #[I .u8 z] 5)).heap.size:=by simp;omega)(e:o.guard=Y:=by rfl)(i:o.op=.call {callee:=.builtin .append,args:=#[s,x],argTypes:=#[38,38]}:=by rfl)(j:a.eval s=v:=by rfl)(k:a.eval x=G (U ⟨w.heap.size,0,Y⟩) 1 1:=by rfl):wpList X ops Q (o::rest) a (w.alloc (E #[I .u8 z] 5)):=by
 obtain⟨r,f,m,p,q⟩:=DZ Tryz.infoU8;exact JG _ e s x 38 i base 5 r (I .u8 0) 1 1 underlying38 f m p q Z Ay v n xs j (own.alloc _) ⟨w.heap.size,0,Y⟩ 1 1 [I .u8 z] k Z (EE _ _ _) (λu d=>by simp at d;subst d;rfl) g l hb h
def BG(W:Ak)(base:Nat)(v:Al)(bs:A1):Prop:=W.ownsRow base 5 1 v bs.length (bs.map Cg)/\base<=W.heap.size/\∃a n c,v=.slice a n c
def BY(x:Nat):Nat->A1
 |0=>[]
 |k+1=>UInt8.ofNat (x/2^(8*k)%256)::BY x k
def Xf(x k:Nat):Cg (UInt8.ofNat (x/2^(8*k)%256))=I .u8 ((x:Int)/2^(8*k)%256):=by
 unfold Cg;have e:(UInt8.ofNat (x/2^(8*k)%256)).toNat=x/2^(8*k)%256:=by
  rw[JF];have:x/2^(8*k)%256<256:=ON _ Ay;omega
 rw[e];congr 1
def LP(h:W'.ownsRow base 5 1 v' (ys.length+1) (ys.map Cg++[u]))(a:Cg b=u):W'.ownsRow base 5 1 v' (ys++[b]).length ((ys++[b]).map Cg):=by
 rw[BK,G9];subst a;exact h
def Jl{V:O}{t:TypeId}{z:Nat}(hb:Below base W V)(b:V.ownsRow base t z v n xs)(a:V.grownBy W' v.ownBlock)(d:base<=V.heap.size):Below base W W' :=
 hb.trans ⟨a.os,a.tape,a.output,a.size,λi c=>a.block i J (λe=>Ao (Fa b e.symm))⟩
def Gf(W:O)(b:Nat)(v:Al)(bs:A1)(x w:Nat)(_hx:x<18446744073709551616)(C:w<=8)(A:bs.length<=1000000000)(h:BG W b v bs):Am X 132 #[v,I .u64 x,I K w] W λe o=>∃j,e=Af j/\BG o b j (bs++BY x w)/\Below b W o:=by
 obtain⟨r,i,a,n,c,rfl⟩:=h;have f:=T r;go_enter func132,ntmps132;go_wp2
 go_loopg[0,7] w (λg y z wr=>∃(d:A1) (a n c:_),y=G a n c/\z=I K ((g:Int)-1)/\g<=w/\d.length<=1000000000+(w-g)/\b<=wr.heap.size/\Hid (wr.ownsRow b 5 1 (G a n c) d.length (d.map Cg))/\Hid (Below b W wr)/\Hid (d++BY x g=bs++BY x w))
 case atStart=>exact⟨bs,a,n,c,rfl,AE,BM _,J,i,f,C5 _ _,rfl⟩
 case round =>
  obtain⟨d,a,n,c,rfl,rfl,u,D,i,f,l,m⟩:=hrel
  cases gk with
  |zero =>
   go_wp2;go_ret;have e:d=bs++BY x w:=by have:=m.out;simpa[BY]using this
   subst e;exact⟨_,Z,⟨f,i,_,_,_,Z⟩,l⟩
  |succ k =>
   go_wp2_with(first
    |(at_builtin;refine Dh ((x:Int)/2^(8*k)%256) f ?_;intro j F q p B;obtain⟨t,s,rfl⟩:=ownsRow_succ q))
   go_roundg k
   case measure=>omega
   case rel =>
    refine⟨d++[UInt8.ofNat (x/2^(8*k)%256)],_,_,_,Z,AE,J,by rw[BK];simp;omega,?_,LP q (Xf x k),Jl (l.trans ((C5 b wr).alloc i _)) (f.alloc _) p Ax,?_⟩
    ·have:=p.size;simp at this;omega
    show _=_;have:=m.out;rw[BY]at this;rw[CN];exact this
def GB(x:Nat):A1 :=
 if x<128 then[UInt8.ofNat x]else if x<=255 then 204::BY x 1 else if x<=65535 then 205::BY x 2 else if x<=4294967295 then 206::BY x 4 else 207::BY x 8
def Ha(z:Int):A1 :=
 if -32<=z then[UInt8.ofNat (z%256).toNat]else if -128<=z then 208::BY (z%18446744073709551616).toNat 1 else if -32768<=z then 209::BY (z%18446744073709551616).toNat 2 else if -2147483648<=z then 210::BY (z%18446744073709551616).toNat 4 else 211::BY (z%18446744073709551616).toNat 8
def BW(s x:Nat):A1 :=
 if x<24 then[UInt8.ofNat (32*s+x)]else if x<=255 then UInt8.ofNat (32*s+24)::BY x 1 else if x<=65535 then UInt8.ofNat (32*s+25)::BY x 2 else if x<=4294967295 then UInt8.ofNat (32*s+26)::BY x 4 else UInt8.ofNat (32*s+27)::BY x 8
def IS(x:Nat)(h:x<256):Cg (UInt8.ofNat x)=I .u8 (x:Int):=by
 unfold Cg;rw[JF,FC J]
def DD{a:A4}{c:Nat}(hb:base<=W.heap.size)(g:W.ownsRow base 5 1 (G a n c) bs.length (bs.map Cg))(h:Cg b=u)(e:W'.ownsRow base 5 1 v' (bs.length+1) (bs.map Cg++[u]))(d:(W.alloc (Obj.cells #[u] 5)).grownBy W' (Value.slice a n c).ownBlock):BG W' base v' (bs++[b])/\Below base W W':=by
 have f:=LP e h;obtain⟨j,i,rfl⟩:=ownsRow_succ e;refine⟨⟨f,?_,_,_,_,Z⟩,Jl ((C5 base W).alloc hb _) (g.alloc _) d Ax⟩;have:=d.size;simp at this;omega
def Fs{W2:O}{zs:A1}{v2:Al}(h:BG W' base v' (bs++[b])/\Below base W W')(a:BG W2 base v2 ((bs++[b])++ys))(c:Below base W' W2)(e:b::ys=zs):BG W2 base v2 (bs++zs)/\Below base W W2:=by
 subst e;refine⟨?_,h.2.trans c⟩;rw[CN]at a;exact a
def gI(W:O)(b:Nat)(v:Al)(bs:A1)(x:Nat)(Q:x<18446744073709551616)(P:bs.length<=999999999)(h:BG W b v bs):Am X 101 #[v,I .u64 x] W λe H=>∃u,e=Af u/\BG H b u (bs++GB x)/\Below b W H:=by
 obtain⟨N,y,a,n,c,rfl⟩:=h;have i:=T N;by_cases w:x<128
 ·have k:Hid (GB x=UInt8.ofNat x::[]):=by show _=_;unfold GB;rw[BA w]
  go_enter func101,ntmps101
  go_wp2_with(first
    |(at_builtin;refine Dh (x:Int) i ?_;intro u f d j C;obtain⟨B,A,rfl⟩:=ownsRow_succ d;have g:Hid (BG f b _ (bs++[UInt8.ofNat x])/\Below b W f):=DD y i (IS _ J) d j))
  go_ret;rw[k.out];exact⟨_,Z,g⟩
 skip
 by_cases z:x<=255
 ·have k:Hid (GB x=204::BY x 1):=by show _=_;unfold GB;rw[Bz w];rw[BA z]
  go_enter func101,ntmps101
  go_wp2_with(first
    |(at_builtin;refine Dh 204 i ?_;intro u f d j C;obtain⟨B,A,rfl⟩:=ownsRow_succ d;have g:Hid (BG f b _ (bs++[204])/\Below b W f):=DD y i (Z) d j)
    |(go_at_call 132;refine(Gf _ b _ _ (x) 1 J J Ax g.1).mono ?_;rintro e F ⟨D,rfl,p,s⟩;obtain⟨q,r,m,t,o,rfl⟩:=p;have l:=T (Fs g ⟨q,r,m,t,o,Z⟩ s (k.out.symm))))
  go_ret;exact⟨_,Z,l⟩
 skip
 by_cases c2:x<=65535
 ·have k:Hid (GB x=205::BY x 2):=by show _=_;unfold GB;rw[Bz w];rw[Bz z];rw[BA c2]
  go_enter func101,ntmps101
  go_wp2_with(first
    |(at_builtin;refine Dh 205 i ?_;intro u f d j C;obtain⟨B,A,rfl⟩:=ownsRow_succ d;have g:Hid (BG f b _ (bs++[205])/\Below b W f):=DD y i (Z) d j)
    |(go_at_call 132;refine(Gf _ b _ _ (x) 2 J J Ax g.1).mono ?_;rintro e F ⟨D,rfl,p,s⟩;obtain⟨q,r,m,t,o,rfl⟩:=p;have l:=T (Fs g ⟨q,r,m,t,o,Z⟩ s (k.out.symm))))
  go_ret;exact⟨_,Z,l⟩
 skip
 by_cases L:x<=4294967295
 ·have k:Hid (GB x=206::BY x 4):=by show _=_;unfold GB;rw[Bz w];rw[Bz z];rw[Bz c2];rw[BA L]
  go_enter func101,ntmps101
  go_wp2_with(first
    |(at_builtin;refine Dh 206 i ?_;intro u f d j C;obtain⟨B,A,rfl⟩:=ownsRow_succ d;have g:Hid (BG f b _ (bs++[206])/\Below b W f):=DD y i (Z) d j)
    |(go_at_call 132;refine(Gf _ b _ _ (x) 4 J J Ax g.1).mono ?_;rintro e F ⟨D,rfl,p,s⟩;obtain⟨q,r,m,t,o,rfl⟩:=p;have l:=T (Fs g ⟨q,r,m,t,o,Z⟩ s (k.out.symm))))
  go_ret;exact⟨_,Z,l⟩
 skip
 have k:Hid (GB x=207::BY x 8):=by show _=_;unfold GB;rw[Bz w];rw[Bz z];rw[Bz c2];rw[Bz L]
 go_enter func101,ntmps101
 go_wp2_with(first
   |(at_builtin;refine Dh 207 i ?_;intro u f d j C;obtain⟨B,A,rfl⟩:=ownsRow_succ d;have g:Hid (BG f b _ (bs++[207])/\Below b W f):=DD y i (Z) d j)
   |(go_at_call 132;refine(Gf _ b _ _ (x) 8 J J Ax g.1).mono ?_;rintro e F ⟨D,rfl,p,s⟩;obtain⟨q,r,m,t,o,rfl⟩:=p;have l:=T (Fs g ⟨q,r,m,t,o,Z⟩ s (k.out.symm))))
 go_ret;exact⟨_,Z,l⟩
def gJ:∀(s:Fin 8) (x:Fin 32),bits .or .u8 ((s.val:Int)*32) (x.val:Int)=((32*s.val+x.val:Nat):Int):=Ay
def OX(s x:Nat)(a:s<8)(b:x<32):Cg (UInt8.ofNat (32*s+x))=I .u8 (bits .or .u8 ((s:Int)*32) (x:Int)):=by
 rw[IS _ J];have:=gJ ⟨s,a⟩ ⟨x,b⟩;simp only[]at this;rw[this]
def KZ(W:O)(b:Nat)(v:Al)(bs:A1)(s x:Nat)(A:s<8)(S:x<18446744073709551616)(R:bs.length<=999999999)(h:BG W b v bs):Am X 98 #[v,I .u8 s,I .u64 x] W λe N=>∃w,e=Af w/\BG N b w (bs++BW s x)/\Below b W N:=by
 obtain⟨Q,z,a,n,c,rfl⟩:=h;have i:=T Q;by_cases y:x<24
 ·have k:Hid (BW s x=UInt8.ofNat (32*s+x)::[]):=by show _=_;unfold BW;rw[BA y]
  go_enter func98,ntmps98
  go_wp2_with(first
    |(at_builtin;refine Dh (bits .or .u8 ((s:Int)*32) (x:Int)) i ?_;intro w f d j F;obtain⟨D,C,rfl⟩:=ownsRow_succ d;have g:Hid (BG f b _ (bs++[UInt8.ofNat (32*s+x)])/\Below b W f):=DD z i (OX s _ A J) d j))
  go_ret;rw[k.out];exact⟨_,Z,g⟩
 skip
 by_cases B:x<=255
 ·have k:Hid (BW s x=UInt8.ofNat (32*s+24)::BY x 1):=by show _=_;unfold BW;rw[Bz y];rw[BA B]
  go_enter func98,ntmps98
  go_wp2_with(first
    |(at_builtin;refine Dh (bits .or .u8 ((s:Int)*32) 24) i ?_;intro w f d j F;obtain⟨D,C,rfl⟩:=ownsRow_succ d;have g:Hid (BG f b _ (bs++[UInt8.ofNat (32*s+24)])/\Below b W f):=DD z i (OX s _ A J) d j)
    |(go_at_call 132;refine(Gf _ b _ _ (x) 1 J J Ax g.1).mono ?_;rintro e L ⟨H,rfl,p,t⟩;obtain⟨q,r,m,u,o,rfl⟩:=p;have l:=T (Fs g ⟨q,r,m,u,o,Z⟩ t (k.out.symm))))
  go_ret;exact⟨_,Z,l⟩
 skip
 by_cases c2:x<=65535
 ·have k:Hid (BW s x=UInt8.ofNat (32*s+25)::BY x 2):=by show _=_;unfold BW;rw[Bz y];rw[Bz B];rw[BA c2]
  go_enter func98,ntmps98
  go_wp2_with(first
    |(at_builtin;refine Dh (bits .or .u8 ((s:Int)*32) 25) i ?_;intro w f d j F;obtain⟨D,C,rfl⟩:=ownsRow_succ d;have g:Hid (BG f b _ (bs++[UInt8.ofNat (32*s+25)])/\Below b W f):=DD z i (OX s _ A J) d j)
    |(go_at_call 132;refine(Gf _ b _ _ (x) 2 J J Ax g.1).mono ?_;rintro e L ⟨H,rfl,p,t⟩;obtain⟨q,r,m,u,o,rfl⟩:=p;have l:=T (Fs g ⟨q,r,m,u,o,Z⟩ t (k.out.symm))))
  go_ret;exact⟨_,Z,l⟩
 skip
 by_cases P:x<=4294967295
 ·have k:Hid (BW s x=UInt8.ofNat (32*s+26)::BY x 4):=by show _=_;unfold BW;rw[Bz y];rw[Bz B];rw[Bz c2];rw[BA P]
  go_enter func98,ntmps98
  go_wp2_with(first
    |(at_builtin;refine Dh (bits .or .u8 ((s:Int)*32) 26) i ?_;intro w f d j F;obtain⟨D,C,rfl⟩:=ownsRow_succ d;have g:Hid (BG f b _ (bs++[UInt8.ofNat (32*s+26)])/\Below b W f):=DD z i (OX s _ A J) d j)
    |(go_at_call 132;refine(Gf _ b _ _ (x) 4 J J Ax g.1).mono ?_;rintro e L ⟨H,rfl,p,t⟩;obtain⟨q,r,m,u,o,rfl⟩:=p;have l:=T (Fs g ⟨q,r,m,u,o,Z⟩ t (k.out.symm))))
  go_ret;exact⟨_,Z,l⟩
 skip
 have k:Hid (BW s x=UInt8.ofNat (32*s+27)::BY x 8):=by show _=_;unfold BW;rw[Bz y];rw[Bz B];rw[Bz c2];rw[Bz P]
 go_enter func98,ntmps98
 go_wp2_with(first
   |(at_builtin;refine Dh (bits .or .u8 ((s:Int)*32) 27) i ?_;intro w f d j F;obtain⟨D,C,rfl⟩:=ownsRow_succ d;have g:Hid (BG f b _ (bs++[UInt8.ofNat (32*s+27)])/\Below b W f):=DD z i (OX s _ A J) d j)
   |(go_at_call 132;refine(Gf _ b _ _ (x) 8 J J Ax g.1).mono ?_;rintro e L ⟨H,rfl,p,t⟩;obtain⟨q,r,m,u,o,rfl⟩:=p;have l:=T (Fs g ⟨q,r,m,u,o,Z⟩ t (k.out.symm))))
 go_ret;exact⟨_,Z,l⟩
def QD(W:O)(a:Nat)(v:Al)(bs:A1)(z:Int)(w:Nat)(f:w<=8)(d:bs.length<=1000000000)(h:BG W a v bs):Am X 132 #[v,I .u64 (IntKind.u64.wrap z),I K w] W λe b=>∃c,e=Af c/\BG b a c (bs++BY (z%18446744073709551616).toNat w)/\Below a W b:=by
 have e:IntKind.u64.wrap z=(((z%18446744073709551616).toNat:Nat):Int):=Bs
 rw[e];exact Gf W a v bs _ w J f d h
def i4(W:O)(b:Nat)(v:Al)(bs:A1)(z:Int)(Q : -9223372036854775808<=z)(R:z<0)(P:bs.length<=999999999)(h:BG W b v bs):Am X 100 #[v,I K z] W λe H=>∃u,e=Af u/\BG H b u (bs++Ha z)/\Below b W H:=by
 obtain⟨N,x,a,n,c,rfl⟩:=h;have i:=T N;by_cases w : -32<=z
 ·have k:Hid (Ha z=UInt8.ofNat (z%256).toNat::[]):=by show _=_;unfold Ha;rw[BA w]
  go_enter func100,ntmps100
  go_wp2_with(first
    |(at_builtin;refine Dh (z%256) i ?_;intro u f d j C;obtain⟨B,A,rfl⟩:=ownsRow_succ d;have g:Hid (BG f b _ (bs++[UInt8.ofNat (z%256).toNat])/\Below b W f):=DD x i ((IS _ J).trans kfs) d j))
  go_ret;rw[k.out];exact⟨_,Z,g⟩
 skip
 by_cases y : -128<=z
 ·have k:Hid (Ha z=208::BY (z%18446744073709551616).toNat 1):=by show _=_;unfold Ha;rw[Bz w];rw[BA y]
  go_enter func100,ntmps100
  go_wp2_with(first
    |(at_builtin;refine Dh 208 i ?_;intro u f d j C;obtain⟨B,A,rfl⟩:=ownsRow_succ d;have g:Hid (BG f b _ (bs++[208])/\Below b W f):=DD x i (Z) d j)
    |(go_at_call 132;refine(QD _ b _ _ z 1 J Ax g.1).mono ?_;rintro e F ⟨D,rfl,p,s⟩;obtain⟨q,r,m,t,o,rfl⟩:=p;have l:=T (Fs g ⟨q,r,m,t,o,Z⟩ s (k.out.symm))))
  go_ret;exact⟨_,Z,l⟩
 skip
 by_cases c2 : -32768<=z
 ·have k:Hid (Ha z=209::BY (z%18446744073709551616).toNat 2):=by show _=_;unfold Ha;rw[Bz w];rw[Bz y];rw[BA c2]
  go_enter func100,ntmps100
  go_wp2_with(first
    |(at_builtin;refine Dh 209 i ?_;intro u f d j C;obtain⟨B,A,rfl⟩:=ownsRow_succ d;have g:Hid (BG f b _ (bs++[209])/\Below b W f):=DD x i (Z) d j)
    |(go_at_call 132;refine(QD _ b _ _ z 2 J Ax g.1).mono ?_;rintro e F ⟨D,rfl,p,s⟩;obtain⟨q,r,m,t,o,rfl⟩:=p;have l:=T (Fs g ⟨q,r,m,t,o,Z⟩ s (k.out.symm))))
  go_ret;exact⟨_,Z,l⟩
 skip
 by_cases L : -2147483648<=z
 ·have k:Hid (Ha z=210::BY (z%18446744073709551616).toNat 4):=by show _=_;unfold Ha;rw[Bz w];rw[Bz y];rw[Bz c2];rw[BA L]
  go_enter func100,ntmps100
  go_wp2_with(first
    |(at_builtin;refine Dh 210 i ?_;intro u f d j C;obtain⟨B,A,rfl⟩:=ownsRow_succ d;have g:Hid (BG f b _ (bs++[210])/\Below b W f):=DD x i (Z) d j)
    |(go_at_call 132;refine(QD _ b _ _ z 4 J Ax g.1).mono ?_;rintro e F ⟨D,rfl,p,s⟩;obtain⟨q,r,m,t,o,rfl⟩:=p;have l:=T (Fs g ⟨q,r,m,t,o,Z⟩ s (k.out.symm))))
  go_ret;exact⟨_,Z,l⟩
 skip
 have k:Hid (Ha z=211::BY (z%18446744073709551616).toNat 8):=by show _=_;unfold Ha;rw[Bz w];rw[Bz y];rw[Bz c2];rw[Bz L]
 go_enter func100,ntmps100
 go_wp2_with(first
   |(at_builtin;refine Dh 211 i ?_;intro u f d j C;obtain⟨B,A,rfl⟩:=ownsRow_succ d;have g:Hid (BG f b _ (bs++[211])/\Below b W f):=DD x i (Z) d j)
   |(go_at_call 132;refine(QD _ b _ _ z 8 J Ax g.1).mono ?_;rintro e F ⟨D,rfl,p,s⟩;obtain⟨q,r,m,t,o,rfl⟩:=p;have l:=T (Fs g ⟨q,r,m,t,o,Z⟩ s (k.out.symm))))
 go_ret;exact⟨_,Z,l⟩
def QE(z:Int):∀w:O,(Instr.typeAssert (.iface 208 (I K z)) 56 206 true).run X w=.ok (.tuple #[.bool false,.bool false]) w:=λw=>M
def QF(z:Int):∀w:O,(Instr.typeAssert (.iface 208 (I K z)) 56 208 true).run X w=.ok (.tuple #[I K z,.bool true]) w:=λw=>M
def IT(z:Int):A1:=if z<0 then Ha z else GB z.toNat
def Hb(z:Int):A1:=if z<0 then BW 1 (-1-z).toNat else BW 0 z.toNat
def i5(W:O)(b:Nat)(v:Al)(bs:A1)(z:Int)(w : -9223372036854775808<=z)(H:z<=9223372036854775807)(p:bs.length<=999999999)(h:BG W b v bs):Am X 65 #[v,OW z] W λe m=>∃q,e=Af q/\BG m b q (bs++IT z)/\Below b W m:=by
 unfold OW;obtain⟨y,u,a,n,c,rfl⟩:=h;have l:Hid (BG W b (G a n c) bs):=⟨y,u,a,n,c,Z⟩
 have o:Hid (IT z=if z<0 then Ha z else GB z.toNat):=rfl;by_cases d:z<0
 ·have k:Hid (IT z=Ha z):=by show _=_;rw[o.out,BA d]
  have s:decide (z<0)=true:=by simp;exact d
  have B:=QE z;have C:=QF z;go_enter func65,ntmps65
  go_wp2_with(first
   |(go_at_call 100;refine(i4 _ b _ bs z w d p l).mono ?_;rintro e F ⟨D,rfl,f,j⟩;obtain⟨g,i,r,A,t,rfl⟩:=f))
  go_ret;rw[k.out];exact⟨_,Z,⟨g,i,_,_,_,Z⟩,j⟩
 have k:Hid (IT z=GB z.toNat):=by show _=_;rw[o.out,Bz d]
 obtain⟨x,rfl⟩:∃x:Nat,z=x:=⟨z.toNat,J⟩
 have s:decide ((x:Int)<0)=false:=Az
 have B:=QE (x:Int);have C:=QF (x:Int);go_enter func65,ntmps65
 go_wp2_with(first
  |(go_at_call 101;refine(gI _ b _ bs x J p l).mono ?_;rintro e F ⟨D,rfl,f,j⟩;obtain⟨g,i,r,A,t,rfl⟩:=f))
 go_ret;rw[k.out];exact⟨_,Z,⟨g,i,_,_,_,Z⟩,j⟩
def i6(W:O)(b:Nat)(v:Al)(bs:A1)(z:Int)(L : -9223372036854775808<=z)(N:z<=9223372036854775807)(q:bs.length<=999999999)(h:BG W b v bs):Am X 64 #[v,OW z] W λe d=>∃f,e=Af f/\BG d b f (bs++Hb z)/\Below b W d:=by
 unfold OW;obtain⟨y,w,a,n,c,rfl⟩:=h;have m:Hid (BG W b (G a n c) bs):=⟨y,w,a,n,c,Z⟩
 have p:Hid (Hb z=if z<0 then BW 1 (-1-z).toNat else BW 0 z.toNat):=rfl;by_cases o:z<0
 ·have g:Hid (Hb z=BW 1 (-1-z).toNat):=by show _=_;rw[p.out,BA o]
  obtain⟨x,rfl⟩:∃x:Nat,z = -1-(x:Int):=⟨(-1-z).toNat,J⟩
  have t:=λV h=>KZ V b (G a n c) bs 1 x J J q h;have u:∀V,BG V b (G a n c) bs->Am X 98 #[G a n c,I .u8 1,I .u64 (-1-(-1-(x:Int)))] V λe d=>∃f,e=Af f/\BG d b f (bs++BW 1 x)/\Below b V d:=by
   rw[show(-1-(-1-(x:Int)))=x by omega];exact t
  rw[show(-1-(-1-(x:Int))).toNat=x by omega]at g;have B:=QE (-1-(x:Int));have C:=QF (-1-(x:Int));go_enter func64,ntmps64
  go_wp2_with(first
   |(go_at_call 98;refine(u _ m).mono ?_;rintro e F ⟨D,rfl,i,l⟩;obtain⟨j,k,r,A,s,rfl⟩:=i))
  go_ret;rw[g.out];exact⟨_,Z,⟨j,k,_,_,_,Z⟩,l⟩
 have g:Hid (Hb z=BW 0 z.toNat):=by show _=_;rw[p.out,Bz o]
 obtain⟨x,rfl⟩:∃x:Nat,z=x:=⟨z.toNat,J⟩
 have H:decide ((x:Int)<0)=false:=Az
 have B:=QE (x:Int);have C:=QF (x:Int);go_enter func64,ntmps64
 go_wp2_with(first
  |(go_at_call 98;refine(KZ _ b _ bs 0 x J J q m).mono ?_;rintro e F ⟨D,rfl,i,l⟩;obtain⟨j,k,r,A,s,rfl⟩:=i))
 go_ret;rw[g.out];exact⟨_,Z,⟨j,k,_,_,_,Z⟩,l⟩
def jr(l:A1)(lo hi:Nat):Gi lo hi l 1=true↔(1<l.length/\lo<=(l.getD 1 0).toNat/\(l.getD 1 0).toNat<=hi):=by
 unfold Gi;rw[BA rfl,Dw,KQ,KQ];omega
def XW(l:A1)(lo hi:Int)(j:Nat)(a:j≠1):Gi lo hi l j=true↔(j<l.length/\128<=(l.getD j 0).toNat/\(l.getD j 0).toNat<=191):=by
 unfold Gi;rw[Bz a,Dw,KQ,KQ]
def js(l:A1)(k lo hi:Nat)(i:k=2\/k=3\/k=4)(h:DN ((l.getD 0 0).toNat:Int)=((lo:Int),(hi:Int),(k:Int))):Fv l=(Lib.checkN l.length (l.getD 1 0).toNat (l.getD 2 0).toNat (l.getD 3 0).toNat k lo hi).getD 0:=by
 unfold Fv GE;rw[h];simp only[];rw[Bz (show¬((k:Nat):Int)=0 by omega)];have d:=jr l lo hi;have e:=XW l lo hi 2 J;have g:=XW l lo hi 3 J;generalize(l.getD 0 0)=b0 at *;generalize(l.getD 1 0)=b1 at *;generalize(l.getD 2 0)=b2 at *;generalize(l.getD 3 0)=b3 at *;rcases i with rfl|rfl|rfl
 ·cases a:Gi lo hi l 1
  ·have c:l.length<2\/b1.toNat<lo\/hi<b1.toNat:=kfb
   simp[FG,a,Lib.checkN,c]
  have c:¬(l.length<2\/b1.toNat<lo\/hi<b1.toNat):=Ao (d.1 a)
  simp[FG,a,Lib.checkN,c]
 ·cases a:Gi lo hi l 1
  ·have c:l.length<3\/b1.toNat<lo\/hi<b1.toNat\/b2.toNat<128\/191<b2.toNat:=kfb
   simp[FG,a,Lib.checkN,c]
  cases b:Gi lo hi l 2
  ·have c:l.length<3\/b1.toNat<lo\/hi<b1.toNat\/b2.toNat<128\/191<b2.toNat:=by rw[b]at e;simp at e;omega
   simp[FG,a,b,Lib.checkN,c]
  have c:¬(l.length<3\/b1.toNat<lo\/hi<b1.toNat\/b2.toNat<128\/191<b2.toNat):=Aq (d.1 a) (e.1 b)
  simp[FG,a,b,Lib.checkN,c]
 cases a:Gi lo hi l 1
 ·have c:l.length<4\/b1.toNat<lo\/hi<b1.toNat\/b2.toNat<128\/191<b2.toNat\/b3.toNat<128\/191<b3.toNat:=kfb
  simp[FG,a,Lib.checkN,c]
 cases b:Gi lo hi l 2
 ·have c:l.length<4\/b1.toNat<lo\/hi<b1.toNat\/b2.toNat<128\/191<b2.toNat\/b3.toNat<128\/191<b3.toNat:=by rw[b]at e;simp at e;omega
  simp[FG,a,b,Lib.checkN,c]
 cases f:Gi lo hi l 3
 ·have c:l.length<4\/b1.toNat<lo\/hi<b1.toNat\/b2.toNat<128\/191<b2.toNat\/b3.toNat<128\/191<b3.toNat:=by rw[f]at g;simp at g;omega
  simp[FG,a,b,f,Lib.checkN,c]
 have c:¬(l.length<4\/b1.toNat<lo\/hi<b1.toNat\/b2.toNat<128\/191<b2.toNat\/b3.toNat<128\/191<b3.toNat):=by have:=d.1 a;have:=e.1 b;have:=g.1 f;omega
 simp[FG,a,b,f,Lib.checkN,c]
def jt(l:A1)(h:(DN ((l.getD 0 0).toNat:Int)).2.2=0):Fv l=0:=by
 unfold Fv GE;rw[BA h];rfl
def ju(l:A1)(h:(l.getD 0 0).toNat<128):Fv l=1:=by
 have e:DN ((l.getD 0 0).toNat:Int)=(0,0,1):=by unfold DN;rw[BA J]
 unfold Fv GE;rw[e];rfl
set_option linter.unusedSimpArgs false in
theorem jv(l:List UInt8)(t:128<=(l.getD 0 0).toNat):Fv l=(Lib.checkN l.length (l.getD 1 0).toNat (l.getD 2 0).toNat (l.getD 3 0).toNat (Lib.firstT (l.getD 0 0).toNat%8) (Lib.accLo (Lib.firstT (l.getD 0 0).toNat/16)) (Lib.accHi (Lib.firstT (l.getD 0 0).toNat/16))).getD 0:=by
 have u:=(l.getD 0 0).toNat_lt
 have key:∀k m j,Lib.firstT (l.getD 0 0).toNat%8=k->Lib.accLo (Lib.firstT (l.getD 0 0).toNat/16)=m->Lib.accHi (Lib.firstT (l.getD 0 0).toNat/16)=j->(k=2\/k=3\/k=4)->DN ((l.getD 0 0).toNat:Int)=((m:Int),(j:Int),(k:Int)) ->
   Fv l=(Lib.checkN l.length (l.getD 1 0).toNat (l.getD 2 0).toNat (l.getD 3 0).toNat (Lib.firstT (l.getD 0 0).toNat%8) (Lib.accLo (Lib.firstT (l.getD 0 0).toNat/16)) (Lib.accHi (Lib.firstT (l.getD 0 0).toNat/16))).getD 0:=λk m j p q r s n=>by
  rw[p,q,r]
  exact js l k m j s n
 have o:Lib.firstT (l.getD 0 0).toNat=241->(DN ((l.getD 0 0).toNat:Int)).2.2=0 ->
   Fv l=(Lib.checkN l.length (l.getD 1 0).toNat (l.getD 2 0).toNat (l.getD 3 0).toNat (Lib.firstT (l.getD 0 0).toNat%8) (Lib.accLo (Lib.firstT (l.getD 0 0).toNat/16)) (Lib.accHi (Lib.firstT (l.getD 0 0).toNat/16))).getD 0:=λe n=>by
  rw[e,jt l n]
  rfl
 generalize hb:(l.getD 0 0).toNat=b0 at *
 by_cases a:b0<194
 ·exact o (by unfold Lib.firstT;rw[Bz J,BA a]) Bq
 by_cases b:b0<224
 ·exact key 2 128 191 (by simp[Lib.firstT,show¬b0<128 by omega,a,b]) (by simp[Lib.firstT,Lib.accLo,show¬b0<128 by omega,a,b]) (by simp[Lib.firstT,Lib.accHi,show¬b0<128 by omega,a,b]) J AG
 by_cases c2:b0=224
 ·exact key 3 160 191 (by simp[Lib.firstT,show¬b0<128 by omega,a,b,c2]) (by simp[Lib.firstT,Lib.accLo,show¬b0<128 by omega,a,b,c2]) (by simp[Lib.firstT,Lib.accHi,show¬b0<128 by omega,a,b,c2]) J AG
 by_cases c:b0<237
 ·exact key 3 128 191 (by simp[Lib.firstT,show¬b0<128 by omega,a,b,c2,c]) (by simp[Lib.firstT,Lib.accLo,show¬b0<128 by omega,a,b,c2,c]) (by simp[Lib.firstT,Lib.accHi,show¬b0<128 by omega,a,b,c2,c]) J AG
 by_cases d:b0=237
 ·exact key 3 128 159 (by simp[Lib.firstT,show¬b0<128 by omega,a,b,c2,c,d]) (by simp[Lib.firstT,Lib.accLo,show¬b0<128 by omega,a,b,c2,c,d]) (by simp[Lib.firstT,Lib.accHi,show¬b0<128 by omega,a,b,c2,c,d]) J AG
 by_cases f:b0<240
 ·exact key 3 128 191 (by simp[Lib.firstT,show¬b0<128 by omega,a,b,c2,c,d,f]) (by simp[Lib.firstT,Lib.accLo,show¬b0<128 by omega,a,b,c2,c,d,f]) (by simp[Lib.firstT,Lib.accHi,show¬b0<128 by omega,a,b,c2,c,d,f]) J AG
 by_cases g:b0=240
 ·exact key 4 144 191 (by simp[Lib.firstT,show¬b0<128 by omega,a,b,c2,c,d,f,g]) (by simp[Lib.firstT,Lib.accLo,show¬b0<128 by omega,a,b,c2,c,d,f,g]) (by simp[Lib.firstT,Lib.accHi,show¬b0<128 by omega,a,b,c2,c,d,f,g]) J AG
 by_cases h:b0<244
 ·exact key 4 128 191 (by simp[Lib.firstT,show¬b0<128 by omega,a,b,c2,c,d,f,g,h]) (by simp[Lib.firstT,Lib.accLo,show¬b0<128 by omega,a,b,c2,c,d,f,g,h]) (by simp[Lib.firstT,Lib.accHi,show¬b0<128 by omega,a,b,c2,c,d,f,g,h]) J AG
 by_cases i:b0=244
 ·exact key 4 128 143 Bu (by simp[Lib.firstT,Lib.accLo,show¬b0<128 by omega,a,b,c2,c,d,f,g,h,i]) (by simp[Lib.firstT,Lib.accHi,show¬b0<128 by omega,a,b,c2,c,d,f,g,h,i]) J AG
 ·exact o Bu Bq
def jw(l:A1)(e:l≠[]):(Fv l=0/\Lib.decodeL l=(65533,1))\/(1<=Fv l/\(Lib.decodeL l).2=Fv l/\¬((Lib.decodeL l).1=65533/\(Lib.decodeL l).2=1)):=by
 have f:=SA.2 e;by_cases h:(l.getD 0 0).toNat<128
 ·right;obtain⟨b,t,rfl⟩:∃b t,l=b::t:=List.exists_cons_of_ne_nil e;rw[ju _ h,Lib.decodeL_ascii b t h];refine⟨BM _,Z,λd=>?_⟩;have:b.toNat=65533:=d.1;have:=b.toNat_lt;omega
 rw[jv l J,Lib.decodeL_N];rcases Lib.check_decode l.length (l.getD 0 0).toNat (l.getD 1 0).toNat (l.getD 2 0).toNat (l.getD 3 0).toNat f J (l.getD 0 0).toNat_lt (l.getD 1 0).toNat_lt (l.getD 2 0).toNat_lt (l.getD 3 0).toNat_lt with⟨a,c⟩|⟨k,g,a,c⟩
 ·left;rw[a,c];exact⟨Z,Z⟩
 right;rw[a,c];exact⟨by show 1<=k;omega,rfl,λd=>J⟩
def jx(n a b c d:Nat)(e:128<=a):128<=(Lib.decodeN n a b c d).1:=by
 unfold Lib.decodeN
 repeat' split
 all_goals first|(simp;done)|(simp only[];omega)
def L5(r:Nat):Bool:=decide (r<=32)||(r==42||(r==91||(r==93||(r==47||r==46))))
def IU:Nat->A1->Option Nat
 |_,[]=>some 0
 |0,_::_=>none
 |g+1,b::t=>if L5 (Lib.decodeL (b::t)).1=true then none else(IU g ((b::t).drop (Lib.decodeL (b::t)).2)).map (·+1)
def jy(b:UInt8)(t:A1):L5 (Lib.decodeL (b::t)).1=Kn b:=by
 by_cases h:b.toNat<128
 ·rw[Lib.decodeL_ascii b t h];rfl
 have d:128<=(Lib.decodeL (b::t)).1:=by
  rw[Lib.decodeL_N];exact jx _ _ _ _ _ (by show 128<=b.toNat;omega)
 have a:L5 (Lib.decodeL (b::t)).1=false:=by
  unfold L5;simp only[Sy,Wk,EJ];omega
 have c:Kn b=false:=by
  unfold Kn;simp only[Sy,Wk,EJ];omega
 rw[a,c]
def XX:∀(g:Nat) (l:A1),l.length<=g->Iu g l=if Lib.validD l then IU g l else Y
 |g,[],_=>by cases g<;>simp[Iu,IU,Lib.validD_nil]
 |0,b::t,h=>keT
 |g+1,b::t,h=>by
  rw[Lib.validD_step (b::t) Az];rcases jw (b::t) Az with⟨e,d⟩|⟨e,d,f⟩
  ·simp[Iu,e,d]
  rw[Bz f,Iu,IU,jy,d];by_cases a:Kn b=true
  ·rw[BA (Jh a),BA a];split<;>rfl
  rw[Bz (by intro c;rcases c with c|c;omega;exact a c),Bz a,XX g _ (by rw[Eb];simp at h ⊢;omega)];split<;>rfl
def XY(l:A1):Fg l=(Lib.validD l&&QS (IU l.length l)):=by
 unfold Fg;rw[XX l.length l (BM _)];cases Lib.validD l
 ·rfl
 rfl
end
section
def Cn(c:UInt8):A1->List A1
 |[]=>[[]]
 |x::r=>if x==c then[]::Cn c r else match Cn c r with
  |h::t=>(x::h)::t
  |[]=>[[x]]
def Uc(c:UInt8)(l:A1):Cn c l≠[]:=by
 cases l with
 |nil=>simp[Cn]
 |cons x r =>
  unfold Cn;split
  ·simp
  split<;>simp
def Ud(c:UInt8):∀l:A1,(∀x,x∈l->(x==c)=false)->Cn c l=[l]
 |[],_=>rfl
 |x::r,h=>by
  have a:=h x (Hl ..);have b:=Ud c r (λy d=>h y (I2 _ d));simp only[Cn,a,b];rfl
def Ue(c:UInt8):∀(a b:A1),(∀x,x∈a->(x==c)=false)->Cn c (a++c::b)=a::Cn c b
 |[],b,_=>by simp[Cn]
 |x::a,b,h=>by
  have d:=h x (Hl ..);have e:=Ue c a b (λy f=>h y (I2 _ f));simp only[I4,Cn,d,e];rfl
def mx(h:Lib.indexByte l c = -1):Cn c l=[l]:=by
 refine Ud c l (λx b=>?_);obtain⟨k,a,rfl⟩:=KO b;have:=Lib.indexByte_none h k;rw[EJ];intro e;exact this (by rw[C6 a,e])
def my{o:Nat}(h:Lib.indexByte l c=o):o<l.length/\Cn c l=l.take o::Cn c (l.drop (o+1)):=by
 obtain⟨a,b⟩:=Lib.indexByte_some h;have i:o<l.length:=Cf a;refine⟨i,?_⟩;have e:l=l.take o++c::l.drop (o+1):=by
  have d:l[o]=c:=(Ja.1 a).2;rw[<-d];simp
 conv=>lhs;rw[e]
 refine Ue c _ _ (λx j=>?_);obtain⟨k,f,rfl⟩:=KO j;have g:k<o:=by simp at f;omega
 rw[EJ];intro e;refine b k g ?_;rw[C6 J];rw[WG]at e;rw[e]
end
section
open Go.RowKit
def Tryz.infoStr:(prog.info? 9).map (λi=>(i.zero,i.size,i.bytes))=U (U (.string ByteArray.empty),1,16):=M
def mz(s:ByteArray)(a b:Nat):(s.extract a b).data.toList=(s.data.toList.take b).drop a:=by
 rw[SL];simp[List.drop_take]
structure Lf(c:UInt8)(l:A1)(ps:List ByteArray)(f i:Nat):Prop where
 fi:f<=i
 il:i<=l.length
 len:ps.length<=i
 eq:Cn c l=ps.map (·.data.toList)++Cn c (l.drop f)
 no:∀x,x∈(l.take i).drop f->(x==c)=false
def Lf.next(h:Lf c l ps f i)(hi:i<l.length)(d:(l[i]==c)=false):Lf c l ps f (i+1):=by
 refine⟨Ao h.fi,hi,Ao h.len,h.eq,λx b=>?_⟩;rw[So hi,Ot (by rw[In];have:=h.fi;omega),KS]at b;rcases b with a|a
 ·exact h.no x a
 rw[KP]at a;rw[a];exact d
def Lf.found(h:Lf c l ps f i)(hi:i<l.length)(d:l[i]=c)(p:ByteArray)(b:p.data.toList=(l.take i).drop f):Lf c l (ps++[p]) (i+1) (i+1):=by
 refine⟨BM _,hi,by rw[BK];have:=h.len;simp;omega,?_,λx a=>?_⟩
 ·rw[h.eq,G9,CN];congr 1;have e:l.drop f=(l.take i).drop f++c::l.drop (i+1):=by
   conv=>lhs;rw[<-Kb i l]
   rw[Ot (by rw[In];have:=h.fi;omega),G7 hi,d]
  rw[e,Ue c _ _ h.no,<-b];rfl
 rw[K9 kfm]at a;exact absurd a Az
def Lf.last(h:Lf c l ps f l.length)(p:ByteArray)(a:p.data.toList=l.drop f):Cn c l=(ps++[p]).map (·.data.toList):=by
 rw[h.eq,G9];congr 1;have:=h.no;rw[LG]at this;rw[Ud c _ this,<-a];rfl
def Uf(s:ByteArray)(c:UInt8)(m:Int)(D:m=c.toNat)(w:O)(hs:s.size<=100000):Am X 43 #[.string s,I .u8 m] w λe R =>
   ∃(v:Al) (a:List ByteArray),e=Af v/\R.ownsRow w.heap.size 9 1 v a.length (a.map Value.string)/\A0 w R/\a.map (·.data.toList)=Cn c s.data.toList:=by
 obtain⟨Q,F,L,N,P⟩:=DZ Tryz.infoStr;have hl:s.data.toList.length=s.size:=ES;have C:=T D;clear D;go_enter func43,ntmps43;go_wp2
 go_loopg[5,6,7] s.size (λg v x ac wr=>∃(a:List ByteArray) (f i:Nat) (r:A4) (t:Nat),Hid (i+g=s.size)/\v=G r a.length t/\x=I K f/\ac=I K i/\Hid (wr.ownsRow w.heap.size 9 1 v a.length (a.map Value.string))/\Hid (A0 w wr)/\Hid (Lf c s.data.toList a f i))
 case atStart =>
  exact⟨[],0,0,Y,0,AD,Z,Z,Z,FQ _ _ _ _,C5 _ _,⟨BM _,DK _,BM _,Az,λx b=>by simp at b⟩⟩
 case round =>
  obtain⟨a,f,i,r,t,d,rfl,rfl,rfl,k,o,j⟩:=hrel;have ad:=j.fi;have ag:=j.len;have H:=o.size;have af:i<=s.size:=Ao d.out
  cases gk with
  |zero =>
   have y:¬(i:Int)<s.size:=Ao d.out
   have ae:f<=s.size:=J
   go_wp2_with(first
    |(at_builtin;refine JG _ Z _ _ 36 Z w.heap.size 9 Q (.string ByteArray.empty) 1 16 underlying36 F L N P Z Ay _ _ _ Z (k.alloc _) ⟨wr.heap.size,0,Y⟩ 1 1 [.string (s.extract f s.size)] Z Z (SU _ _ _) (λx b=>by simp at b;subst b;rfl) AC J Ax ?_;intro B w3 p z aa))
   go_ret;have W:i=s.data.toList.length:=Ao d.out
   have S:=j.out;subst W;exact⟨B,Z,a++[s.extract f s.size],by rw[BK,G9];exact p,(o.alloc H _).grown z Ax (λq A=>(k.lt q A).1),(S.last _ (Wz s f)).symm⟩
  |succ g =>
   have y:(i:Int)<s.size:=Ao d.out
   have hn:i<s.size:=J
   by_cases u:(s[i].toNat:Int)=m
   ·have V:((s[i].toNat:Int)==m)=true:=by rw[KU];exact u
    go_wp2_with(first
     |(at_builtin;refine JG _ Z _ _ 36 Z w.heap.size 9 Q (.string ByteArray.empty) 1 16 underlying36 F L N P Z Ay _ _ _ Z (k.alloc _) ⟨wr.heap.size,0,Y⟩ 1 1 [.string (s.extract f i)] Z Z (SU _ _ _) (λx b=>by simp at b;subst b;rfl) AC J Ax ?_;intro B w3 p z aa))
    go_roundg g
    case measure=>omega
    case rel =>
     obtain⟨n,l,ab⟩:∃n l,B=G (U ⟨n,0,Y⟩) (a.length+1) l:=by
      rcases p.2 with⟨_,h⟩|⟨n,l,_,h,_⟩
      ·omega
      exact⟨n,l,h⟩
     have b:s.data.toList[i]=c:=by
      have e:s[i].toNat=c.toNat:=Ao C.out
      exact LH.1 e
     exact⟨a++[s.extract f i],i+1,i+1,U ⟨n,0,Y⟩,l,Ap d.out,by rw[ab,BK];rfl,AE,AE,by show World.ownsRow _ _ _ _ _ _ _;rw[BK,G9];exact p,(o.alloc H _).grown z Ax (λq A=>(k.lt q A).1),j.found J b _ (mz s f i)⟩
   have V:((s[i].toNat:Int)==m)=false:=by rw[EJ];exact u
   go_wp2;go_roundg g
   case measure=>omega
   case rel =>
    refine⟨a,f,i+1,r,t,Ap d.out,rfl,rfl,AE,k,o,j.next J ?_⟩;rw[EJ];intro e;exact u (by rw[C.out,<-e];rfl)
def Re(h:w.ownsRow base 9 1 v ps.length (ps.map Value.string))(o:0<ps.length):∃g a,v=G (U ⟨g,0,Y⟩) ps.length a/\base<=g/\g<w.heap.size/\∀j (d:j<ps.length),w.cell? ⟨g,j,Y⟩=U (.string ps[j]):=by
 obtain⟨_,⟨_,l⟩|⟨g,a,b,k,f,c,n,_,m,i⟩⟩:=h
 ·omega
 refine⟨g,a,k,f,(BC c),λj d=>?_⟩;have e:b.toList[j]?=U (.string ps[j]):=by
  have:=congrArg (·[j]?) i;simp only[OA,Jc]at this;rw[BA J,C6 d]at this;exact this
 rw[F7 w g j b _ _ c];simpa using e
def Ug(c:UInt8):∀l:A1,(Cn c l).length<=l.length+1
 |[]=>by simp[Cn]
 |x::r=>by
  have d:=Ug c r;unfold Cn;split
  ·simp only[Cu];omega
  cases h:Cn c r with
  |nil=>simp
  |cons a b=>rw[h]at d;simp only[Cu]at *;omega
def MR(c:UInt8):∀(l p:A1),p∈Cn c l->p.length<=l.length
 |[],p,h=>by simp[Cn]at h;subst h;exact BM _
 |x::r,p,h=>by
  have d:=λq=>MR c r q;unfold Cn at h;split at h
  ·rcases Ho.1 h with rfl|h
   ·exact DK _
   exact OC (d p h)
  cases e:Cn c r with
  |nil=>exact absurd e (Uc _ _)
  |cons a b =>
   rw[e]at h d;rcases Ho.1 h with rfl|h
   ·exact Nat.succ_le_succ (d a (Hl ..))
   exact OC (d p (I2 _ h))
def Rf(h:ps.map (·.data.toList)=Cn c l):0<ps.length:=by
 rcases ps with _|⟨a,b⟩
 ·exact absurd h.symm (Uc _ _)
 simp
def Fj(l:A1):Bool:=Fg l||(l==[42]||(l==[42,42]||l==[91,93]))
def Et(l:A1):Bool:=l==[46]||((Cn 47 l).all Fj&&decide ((Cn 47 l).length<=8))
def mA(s:ByteArray)(w:O)(hs:s.size<=100000):Am X 66 #[.string s] w λe w' =>
   ∃a x R,e=Af (.tuple #[G a x R,.bool (Et s.data.toList)])/\A0 w w':=by
 cases W:(s.toList==[46])
 ·have t:Hid (Et s.data.toList=((Cn 47 s.data.toList).all Fj&&decide ((Cn 47 s.data.toList).length<=8))):=by
   show _=_;unfold Et;rw[<-Ga,W,SQ]
  go_enter func66,ntmps66;have T1:True:=trivial
  go_wp2_with(first
   |(go_at_call 43;clear T1;refine(Uf s 47 47 Z _ hs).mono ?_;rintro e m ⟨ag,b,rfl,P,L,l⟩;obtain⟨ab,R,rfl,hg,ac,V⟩:=Re P (Rf l)))
  have af:=Rf l;have ae:b.length<=100001:=by
   have h1:=congrArg List.length l;have h2:=Ug 47 s.data.toList;have h3:s.data.toList.length=s.size:=ES;rw[Eo]at h1;omega
  have g:∀p,p∈b->p.size<=4611686018427387904:=λp F=>by
   have:=MR 47 s.data.toList p.data.toList (by rw[<-l];exact SC F);have h3:s.data.toList.length=s.size:=ES;have h4:p.data.toList.length=p.size:=ES;omega
  have HS:=T g;have v:=T V;have Q:Hid (Et s.data.toList=(b.all (λp=>Fj p.data.toList)&&decide (b.length<=8))):=by
   show _=_;rw[t.out,<-l,SV,Eo];rfl
  have r:=T L;clear L t l P V g
  go_loopg[5] b.length (λgk aa wr=>∃k:Nat,Hid (k+gk=b.length)/\aa=I K k/\m=wr/\Hid (∀i (h:i<b.length),i<k->Fj b[i].data.toList=true))
  case atStart=>exact⟨0,AD,rfl,rfl,λi _ A=>J⟩
  case round =>
   obtain⟨k,j,rfl,rfl,B⟩:=hrel
   cases gk with
   |zero =>
    have n:¬(k:Int)<b.length:=Ao j.out
    have H:Hid (Et s.data.toList=decide ((b.length:Int)<=8)):=by
     show _=_;rw[Q.out,(E8.2 λp F=>by
      obtain⟨i,A,rfl⟩:=KO F;exact B i A (Ao j.out):b.all (λp=>Fj p.data.toList)=true),GS]
     congr 1;rw[eq_iff_iff];omega
    go_wp2
    go_ret2
    first|exact⟨_,_,_,by rw[H.out];rfl,r⟩|exact⟨⟨_,_,_,by rw[H.out];rfl⟩,r⟩
   |succ z =>
    have n:(k:Int)<b.length:=Ao j.out
    have D:k<b.length:=J
    have hc:=v.out k D;have q:=HS.out b[k] (Kd D);have HN:Hid (Fj b[k].data.toList=false->Et s.data.toList=false):=λh=>by
     rw[Q.out,KN];left;rw[Gv];exact⟨b[k],Kd D,kfo⟩
    have u:Hid (Fj b[k].data.toList=true->∀i (h:i<b.length),i<k+1->Fj b[i].data.toList=true):=λh i A ad=>by
     by_cases e:i=k
     ·subst e;exact h
     exact B i A J
    clear B;generalize b[k]=p at *;have o:Hid (Fj p.data.toList=(Fg p.data.toList||(p.toList==[42]||(p.toList==[42,42]||p.toList==[91,93])))):=by
     show _=_;unfold Fj;rw[Ga]
    cases d:Fg p.data.toList
    ·cases y:(p.toList==[42])
     ·cases C:(p.toList==[42,42])
      ·cases S:(p.toList==[91,93])
       ·have N:=T (HN (by rw[o.out,d,y,C,S];rfl))
        go_wp2_with(first
         |(go_at_call 105;refine(P2 p _ q).mono ?_;rintro e m ⟨rfl,rfl⟩;rw[d]))
        go_ret2
        first|exact⟨_,_,_,by rw[N.out];rfl,r⟩|exact⟨⟨_,_,_,by rw[N.out];rfl⟩,r⟩
       have c:=u.out (by rw[o.out,d,y,C,S];rfl);have f:=T c;clear c
       go_wp2_with(first
        |(go_at_call 105;refine(P2 p _ q).mono ?_;rintro e m ⟨rfl,rfl⟩;rw[d]))
       go_roundg z
       case measure=>omega
       case rel=>exact⟨k+1,Ap j.out,AE,rfl,f⟩
      have c:=u.out (by rw[o.out,d,y,C];rfl);have f:=T c;clear c
      go_wp2_with(first
       |(go_at_call 105;refine(P2 p _ q).mono ?_;rintro e m ⟨rfl,rfl⟩;rw[d]))
      go_roundg z
      case measure=>omega
      case rel=>exact⟨k+1,Ap j.out,AE,rfl,f⟩
     have c:=u.out (by rw[o.out,d,y];rfl);have f:=T c;clear c
     go_wp2_with(first
      |(go_at_call 105;refine(P2 p _ q).mono ?_;rintro e m ⟨rfl,rfl⟩;rw[d]))
     go_roundg z
     case measure=>omega
     case rel=>exact⟨k+1,Ap j.out,AE,rfl,f⟩
    have c:=u.out (by rw[o.out,d];rfl);have f:=T c;clear c
    go_wp2_with(first
     |(go_at_call 105;refine(P2 p _ q).mono ?_;rintro e m ⟨rfl,rfl⟩;rw[d]))
    go_roundg z
    case measure=>omega
    case rel=>exact⟨k+1,Ap j.out,AE,rfl,f⟩
 have t:Hid (Et s.data.toList=true):=by
  show _=_;unfold Et;rw[<-Ga,W,Bool.true_or]
 go_enter func66,ntmps66;go_wp2
 go_ret2
 exact⟨Y,0,0,by rw[t.out];rfl,C5 _ _⟩
structure FJ(lo hi:Nat)(W W':World):Prop where
 size:W.heap.size<=W'.heap.size
 same:∀k,lo<=k->k<hi->W'.heap[k]?=W.heap[k]?
def FJ.refl(lo hi:Nat)(W:O):FJ lo hi W W:=⟨BM _,λ_ _ _=>rfl⟩
def FJ.trans{A B C:O}(h:FJ lo hi A B)(k:FJ lo hi B C):FJ lo hi A C :=
 ⟨C7 h.size k.size,λi a b=>(k.same i a b).trans (h.same i a b)⟩
def FJ.put(W:O)(r:Nat)(o:Obj)(h:hi<=r):FJ lo hi W (W.putObj r o) :=
 ⟨Az,λk _ a=>World.putObj_heap_other J⟩
def FJ.below(h:Below hi W W'):FJ lo hi W W':=⟨h.size,λk _ a=>h.block k a⟩
def Rk{β:Type}(st:Nat)(I:β->Ak->Prop):Prop:=∀s W W',I s W->W.grownBy W' (some st)->I s W'
def Z4{β:Type}(B:Nat)(I:β->Ak->Prop):Prop:=∀s W k (o o':Obj),I s W->B<=k->W.heap[k]?=some o->o.isCells=false->I s (W.putObj k o')
def Z5{α:Type}(F:Fence)(n:Nat)(P:Program)(g:Nat)(lb:A3)(encs:α->A3)(lo hi st:Nat)(S Sp:List α->Prop)(w:Ak):Prop :=
 ∀(l:Nat) (J Jx:List α->Ak->Prop) (W:Ak),A0 w W->Rk st J->Rk st Jx ->
  (∀pre x W1,J pre W1->YieldAt F (n-1) P l (encs x) W1 λe W' =>
   (e=Af (.bool true)/\J (pre++[x]) W'/\FJ lo hi W1 W')\/(e=Af (.bool false)/\Jx (pre++[x]) W')) ->
  J [] W ->
  CallsIn F n P g (#[.func (.yield l) #[] #[]]++lb) W λe W'=>(∃v,e=Af v)/\((∃xs,S xs/\J xs W')\/(∃pre,Sp pre/\Jx pre W'))
def mN{α:Type}(lo hi:Nat)(I:List α->Ak->Prop)(Ix:Code->List α->Ak->Prop)(xs:List α)(W:Ak)(e:Exit)(_:Act)(W':Ak):Prop :=
 match e with
 |.normal=>KeepsOthers W W'/\FJ lo hi W W'/\I xs W'
 |.ret=>KeepsOthers W W'/\Ix .ret xs W'
 |.exit id=>KeepsOthers W W'/\Ix (.exit id) xs W'
 |_=>False
variable{F:Fence} {n:Nat} {P:Program}
def Z6{α:Type}{g:Operand}{ps:Array Tmp}{assign body:Code}(aq:F.round=Y)(h1:1<=n){gf:Nat}{lb:A3}(hg:a.eval g=.func (.func gf) #[] lb)(ah:F.fn gf)(eg:∀args w,(callFunc gf args).run P w=.ok (.enter gf args) w){encs:α->A3}{st:Nat}(ay:st<w.heap.size)(ax:hi<=w.heap.size){S Sp:List α->Prop}{w0:O}(ar:Z5 F (n-1) P gf lb encs lo hi st S Sp w0)(ab:A0 w0 w)(ap:∀x,(encs x).size=ps.size)(q:List α->O->Prop)(C:Code->List α->O->Prop)(hI:Rk st q)(ai:∀c,Rk st (C c))(V:Z4 w.heap.size q)(t:∀c,Z4 w.heap.size (C c))(h0:q [] w)(a₁:α->Act)(ak:∀(l:Nat) (x:α) (W:O) (v:Act->O->Prop),v (a₁ x) W ->
   assign.wpIn (F.inRound l) (n-1-1) P (Exit.then v (λ_ _ _=>False)) {tmps:=(ps.zip (encs x)).foldl (λaw (p,ae)=>aw.setIfInBounds p ae) a.tmps,defers:=[]} W)(al:∀(l:Nat) (pre:List α) (x:α) (W:O),q pre W->w.heap.size<W.heap.size->body.wpIn (F.inRound l) (n-1-1) P (mN lo hi q C (pre++[x]) W) (a₁ x) W)(am:∀(D:Nat) (R:List α) (W:O),w.heap.size<=D->S R->q R W->W.heap[D]?=U (.deferred (U []))->Q .normal {a with defers:={target:=.collected D,args:=#[]}::a.defers} W)(au:∀(D:Nat) (c:Code) (pre:List α) (W:O),w.heap.size<=D->Sp pre->C c pre W->W.heap[D]?=U (.deferred (U []))->c.wpIn F n P Q {a with defers:={target:=.collected D,args:=#[]}::a.defers} W):(Code.rangeFunc g ps assign body).wpIn F n P Q a w:=by
 refine wpIn_rangeFunc λfn an=>?_;rw[aq];generalize hD:w.heap.size=D at *;obtain⟨b,y⟩:∃b:LoopState->Option Code->Loop,b=λs p=>{state:=s,pending:=p,fn,tmps:=a.tmps,params:=ps,assign,body,defers:=D}:=⟨_,rfl⟩
 have e:=run_enterLoop_outer (P:=P) (w:=w) fn a.tmps ps assign body;rw[hD]at e;have ag:(w.alloc (.deferred (U []))).alloc (.loop {state:=.ready,pending:=Y,fn,tmps:=a.tmps,params:=ps,assign,body,defers:=D})=(w.alloc (.deferred (U []))).alloc (.loop (b .ready Y)):=by rw[y]
 rw[ag]at e;have b1:Below D w ((w.alloc (.deferred (U []))).alloc (.loop (b .ready Y))):=by
  rw[<-hD];exact((C5 _ w).alloc (BM _) _).alloc Az _
 have l1:((w.alloc (.deferred (U []))).alloc (.loop (b .ready Y))).heap[D+1]?=U (.loop (b .ready Y)):=by
  have:=World.alloc_heap_new (w.alloc (.deferred (U []))) (.loop (b .ready Y));rwa[BU,hD]at this
 have d1:((w.alloc (.deferred (U []))).alloc (.loop (b .ready Y))).heap[D]?=U (.deferred (U [])):=by
  have:=World.alloc_heap_new w (.deferred (U []));rw[hD]at this;exact(BT _ _ _ Ax).trans this
 have i1:q [] ((w.alloc (.deferred (U []))).alloc (.loop (b .ready Y))):=by
  refine hI _ w _ h0 ⟨Z,Z,Z,Ax,λk m _=>?_⟩;exact b1.block k J
 generalize(w.alloc (.deferred (U []))).alloc (.loop (b .ready Y))=W1 at *;refine⟨D+1,[{target:=.collected D,args:=#[]}],W1,{target:=.fn (.func gf) lb,args:=#[.func (.yield (D+1)) #[] #[]]},W1,gf,#[.func (.yield (D+1)) #[] #[]]++lb,W1,e,?_,?_,?_,λ_=>h1,?_⟩
 ·simp only[resolve,hg];simp[go_sem]
 ·intro f' ac;simp[Target.leads]at ac;subst ac;exact ah
 ·simp[invoke,go_sem,eg]
 have keep:∀{A B:O} {k:Nat} {o:Obj},D<=k->A.grownBy B (U st)->A.heap[k]?=U o->B.heap[k]?=U o:=by
  intro A B k o m r ho;exact(r.block k (BC ho) Ax).trans ho
 refine(ar (D+1) (λpre W=>q pre W/\W.heap[D+1]?=U (.loop (b .ready Y))/\W.heap[D]?=U (.deferred (U [])))
  (λpre W=>∃c,C c pre W/\W.heap[D+1]?=U (.loop (b .done (U c)))/\W.heap[D]?=U (.deferred (U [])))
  W1 (ab.trans (b1.mono (Ao ab.size))) (λs A B h r=>⟨hI s A B h.1 r,keep J r h.2.1,keep (BM _) r h.2.2⟩)
  (λs A B h r=>by
   obtain⟨c,hc,f,z⟩:=h;exact⟨c,ai c s A B hc r,keep J r f,keep (BM _) r z⟩) ?_ ⟨i1,l1,d1⟩).mono ?_
 ·rintro pre x W ⟨L,f,z⟩;have ao:D+1<W.heap.size:=BC f;have hy:=run_yield (P:=P) (args:=encs x) f (by rw[y];exact ap x);rw[y]at hy;refine⟨fn,_,assign,body,hy,roundIn_of_wpIn an (ak _ x W _ ⟨_,run_beginRound f (by rw[y]),?_⟩)⟩;generalize hWb:W.putObj (D+1) (.loop {b .ready Y with state:=.busy})=Wb;have ad:Wb.heap[D+1]?=U (.loop {b .ready Y with state:=.busy}):=by rw[<-hWb];exact World.putObj_heap_same ao
  have af:Wb.heap[D]?=U (.deferred (U [])):=by rw[<-hWb];exact(World.putObj_heap_other J).trans z
  have av:q pre Wb:=by rw[<-hWb];exact V pre W (D+1) _ _ L J f Z
  have kW:FJ lo hi W Wb:=by rw[<-hWb];exact FJ.put W (D+1) _ J
  refine wpIn_mono (al _ pre x Wb av (Ao (BC ad))) ?_;have fin:∀(i:Option Code) (d:O),KeepsOthers Wb d ->
    (Instr.endRound (D+1) i).run P d=.ok (.bool i.isNone) (d.putObj (D+1) (.loop (b (if i.isNone then .ready else .done) i)))/\d.heap[D+1]?=U (.loop {b .ready Y with state:=.busy}) /\
    (d.putObj (D+1) (.loop (b (if i.isNone then .ready else .done) i))).heap[D+1]?=U (.loop (b (if i.isNone then .ready else .done) i)) /\
    (d.putObj (D+1) (.loop (b (if i.isNone then .ready else .done) i))).heap[D]?=U (.deferred (U [])):=by
   intro i d m;have u:=m.same _ _ ad Z;refine⟨?_,u,World.putObj_heap_same (BC u),(World.putObj_heap_other J).trans (m.same _ _ af Z)⟩;have:=run_endRound (P:=P) i u;rw[y]at this ⊢;exact this
  intro aa a3 d hp
  match aa,hp with
  |.normal,⟨m,hr,hi3⟩ =>
   obtain⟨j,u,N,H⟩:=fin Y d m;exact⟨_,_,j,.inl ⟨Z,⟨V _ d (D+1) _ _ hi3 J u Z,N,H⟩,(kW.trans hr).trans (FJ.put d (D+1) _ J)⟩⟩
  |.ret,⟨m,hi3⟩ =>
   obtain⟨j,u,N,H⟩:=fin (U .ret) d m;exact⟨_,_,j,.inr ⟨Z,.ret,t _ _ d (D+1) _ _ hi3 J u Z,N,H⟩⟩
  |.exit id,⟨m,hi3⟩ =>
   obtain⟨j,u,N,H⟩:=fin (U (.exit id)) d m;exact⟨_,_,j,.inr ⟨Z,.exit id,t _ _ d (D+1) _ _ hi3 J u Z,N,H⟩⟩
 rintro aa W2 ⟨⟨ae,rfl⟩,h⟩;rcases h with⟨R,hS,L,f,z⟩|⟨pre,aj,c,L,f,z⟩
 ·have j:=run_endLoop (P:=P) f (by rw[y];simp);rw[y]at j;exact⟨Y,_,j,am D R _ (BM _) hS (V _ W2 (D+1) _ _ L J f Z) ((World.putObj_heap_other J).trans z)⟩
 have j:=run_endLoop (P:=P) f (by rw[y];simp);rw[y]at j;exact⟨U c,_,j,au D c pre _ (BM _) aj (t c _ W2 (D+1) _ _ L J f Z) ((World.putObj_heap_other J).trans z)⟩
end
end Go.Proofs.YtnlnjkggkbbdhaaGreatDoor
