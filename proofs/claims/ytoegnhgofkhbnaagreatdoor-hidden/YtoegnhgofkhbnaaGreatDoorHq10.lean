import Derived.Shelf.Unicode.DecodeSlow
import Derived.Test.YtoegnhgofkhbnaaGreatDoorHq04
set_option maxRecDepth 100000
set_option maxHeartbeats 8000000
set_option linter.all false
namespace Go.Proofs.YtoegnhgofkhbnaaGreatDoor
open Go.Proofs.Tryz
open Go.Value renaming int->A7,slice->A8,pointer->A9,string->Aa,tuple->Ab,agg->Ac,bool->Ad
open Go.Obj renaming cells->Af
open Go.Ending renaming returned->Ag
open Go.IntKind renaming i64->Ah,u8->Ai
open Option renaming some->Aj,none->Ak
open Go renaming World->Al,Value->Am,Calls->An
open Go.Proofs.Tryz renaming prog->Ao
variable{V V' W w:Al}{N b0 fuel g g2 hi i lo sz x:Nat}{P:Program}{fn:Func}{p q u:Tmp}{A args tmps:A4}{ev:Operand->Am}{o oi:Oper}{bs:A2}{d fm k l n:Int}{fr:Nat×Nat}{f:FuncId}{r:Ending}{S:Al->Prop}{Q:Exit->Act->Al->Prop}{ops:Array Oper}{a:Act}{md:Region.Mode}{listed:Array Bool}{F:Int×Int}{R:Ending->Al->Prop}{s:ByteArray}{ks vs:Am}
section
open Go.RowKit Go.Lib
def U8(W:Al):Prop:=Utf8Tabs 4 5 W
theorem U8.below(h:U8 W)(a:A1 W V):U8 V:=by
 refine⟨λc d=>?_,λi b=>⟨?_,?_⟩⟩
 ·have:=h.1 c d;exact(a.cell (p:=⟨_,c,Ak⟩) (F8 this)).trans this
 ·have:=(h.2 i b).1;exact(a.cell (p:=⟨_,_,Ak⟩) (F8 this)).trans this
 have:=(h.2 i b).2;exact(a.cell (p:=⟨_,_,Ak⟩) (F8 this)).trans this
theorem VI:∀v:Fin 256,bits .and Ai (v.val:Int) 7=((v.val%8:Nat):Int):=by decide
structure DP(b0 x sz i lo hi:Nat):Prop where
 fx:firstT b0=x
 fsz:bits .and .u8 (x:Int) 7=(sz:Int)
 fi:x/16=i
 flt:i<16
 fxb:x<256
 flo:accLo i=lo
 fhi:accHi i=hi
theorem DP.szlt(h:DP b0 x sz i lo hi):sz<8:=by
 have a:=VI ⟨x,h.fxb⟩;have b:=h.fsz;rw[a]at b;omega
theorem dX(a x:Nat)(h:firstT a=x)(b:x<256):DP a x (x%8) (x/16) (accLo (x/16)) (accHi (x/16)):=by
 refine⟨h,?_,rfl,by omega,b,rfl,rfl⟩;exact VI ⟨x,b⟩
theorem Nt(W:Al)(g off n f:Nat)(b x a i lo hi:Nat)(c:DP b x a i lo hi)(j:b<256)(r:1<=n)(s:a<=n)(q:n<=4)(o:W.cell? ⟨g,off,Ak⟩=Aj (A7 Ai b))(k:U8 W):An Ao 247 #[A8 (Aj ⟨g,off,Ak⟩) n f] W λe d=>e=Ag (Ad true)/\d=W:=by
 have h:=k.1 b j;rw[c.fx]at h;have p:=c.fsz;have t:wrap64 (a:Int)=a:=by have:=c.szlt;unfold wrap64;omega
 have l:((n:Int)==0)=false:=by simp;omega
 have m:decide (a<=n)=true:=by simp;omega
 go_enter func247,ntmps247;go_wp2;go_ret;exact⟨rfl,rfl⟩
theorem Fz(a:DP b0 x sz i lo hi)(d:U8 W):W.cell? ⟨5,i*2,Ak⟩=Aj (A7 Ai lo)/\W.cell? ⟨5,i*2+1,Ak⟩=Aj (A7 Ai hi):=by
 obtain⟨b,c⟩:=d.2 i a.flt;rw[a.flo]at b;rw[a.fhi]at c;rw[Gk i 2];exact⟨b,c⟩
theorem dY(W:Al)(g off k:Nat)(c x b i lo hi:Nat)(a:DP c x b i lo hi)(m:c<256)(s:1<b)(p:W.cell? ⟨g,off,Ak⟩=Aj (A7 Ai c))(d:U8 W):An Ao 247 #[A8 (Aj ⟨g,off,Ak⟩) 1 k] W λe f=>e=Ag (Ad false)/\A1 W f:=by
 have l:=d.1 c m;rw[a.fx]at l;have q:=a.fsz;have t:wrap64 (b:Int)=b:=by have:=a.szlt;unfold wrap64;omega
 obtain⟨h,j⟩:=Fz a d;have r:x/16<16:=by rw[a.fi];exact a.flt
 rw[<-a.fi]at h j;have n:decide (b<=1)=false:=by simp;omega
 have o:¬b<=1:=by omega
 go_enter func247,ntmps247;go_wp2
 go_quiet (fail)
 go_wp2;go_ret;exact⟨rfl,(AH).trans ((DN _ nq).mono (by simp))⟩
theorem dZ(W:Al)(g off m:Nat)(c d x b i lo hi:Nat)(a:DP c x b i lo hi)(o:c<256)(y:2<b)(u:W.cell? ⟨g,off,Ak⟩=Aj (A7 Ai c))(f:W.cell? ⟨g,off+1,Ak⟩=Aj (A7 Ai d))(h:U8 W)(p:d<lo):An Ao 247 #[A8 (Aj ⟨g,off,Ak⟩) 2 m] W λe j=>e=Ag (Ad true)/\A1 W j:=by
 have n:=h.1 c o;rw[a.fx]at n;have v:=a.fsz;have z:wrap64 (b:Int)=b:=by have:=a.szlt;unfold wrap64;omega
 obtain⟨k,l⟩:=Fz a h;have w:x/16<16:=by rw[a.fi];exact a.flt
 rw[<-a.fi]at k l;have s:decide (b<=2)=false:=by simp;omega
 have t:¬b<=2:=by omega
 have q:=(Ck W ⟨g,off+1,Ak⟩ (Af #[A7 Ai lo,A7 Ai hi] 285) (by rw[f];rfl)).trans f;have c2:=Ar (Ay W (Af #[A7 Ai lo,A7 Ai hi] 285)) 0;have r:=Ar (Ay W (Af #[A7 Ai lo,A7 Ai hi] 285)) 1;have q1:decide (d<lo)=true:=by simpa using p
 go_enter func247,ntmps247;go_wp2
 go_quiet (fail)
 go_wp2;go_ret;exact⟨rfl,(AH).trans ((DN _ nq).mono (by simp))⟩
theorem ed(W:Al)(g off m:Nat)(d c x b i lo hi:Nat)(a:DP d x b i lo hi)(o:d<256)(z:2<b)(v:W.cell? ⟨g,off,Ak⟩=Aj (A7 Ai d))(f:W.cell? ⟨g,off+1,Ak⟩=Aj (A7 Ai c))(h:U8 W)(p:¬c<lo)(q:hi<c):An Ao 247 #[A8 (Aj ⟨g,off,Ak⟩) 2 m] W λe j=>e=Ag (Ad true)/\A1 W j:=by
 have n:=h.1 d o;rw[a.fx]at n;have w:=a.fsz;have A:wrap64 (b:Int)=b:=by have:=a.szlt;unfold wrap64;omega
 obtain⟨k,l⟩:=Fz a h;have y:x/16<16:=by rw[a.fi];exact a.flt
 rw[<-a.fi]at k l;have t:decide (b<=2)=false:=by simp;omega
 have u:¬b<=2:=by omega
 have r:=(Ck W ⟨g,off+1,Ak⟩ (Af #[A7 Ai lo,A7 Ai hi] 285) (by rw[f];rfl)).trans f;have c2:=Ar (Ay W (Af #[A7 Ai lo,A7 Ai hi] 285)) 0;have s:=Ar (Ay W (Af #[A7 Ai lo,A7 Ai hi] 285)) 1;have q1:decide (c<lo)=false:=by simpa using p
 have B:decide (hi<c)=true:=by simpa using q
 go_enter func247,ntmps247;go_wp2
 go_quiet (fail)
 go_wp2;go_ret;exact⟨rfl,(AH).trans ((DN _ nq).mono (by simp))⟩
theorem ef(W:Al)(g off m:Nat)(d c x b i lo hi:Nat)(a:DP d x b i lo hi)(o:d<256)(z:2<b)(v:W.cell? ⟨g,off,Ak⟩=Aj (A7 Ai d))(f:W.cell? ⟨g,off+1,Ak⟩=Aj (A7 Ai c))(h:U8 W)(p:¬c<lo)(q:¬hi<c):An Ao 247 #[A8 (Aj ⟨g,off,Ak⟩) 2 m] W λe j=>e=Ag (Ad false)/\A1 W j:=by
 have n:=h.1 d o;rw[a.fx]at n;have w:=a.fsz;have A:wrap64 (b:Int)=b:=by have:=a.szlt;unfold wrap64;omega
 obtain⟨k,l⟩:=Fz a h;have y:x/16<16:=by rw[a.fi];exact a.flt
 rw[<-a.fi]at k l;have t:decide (b<=2)=false:=by simp;omega
 have u:¬b<=2:=by omega
 have r:=(Ck W ⟨g,off+1,Ak⟩ (Af #[A7 Ai lo,A7 Ai hi] 285) (by rw[f];rfl)).trans f;have c2:=Ar (Ay W (Af #[A7 Ai lo,A7 Ai hi] 285)) 0;have s:=Ar (Ay W (Af #[A7 Ai lo,A7 Ai hi] 285)) 1;have q1:decide (c<lo)=false:=by simpa using p
 have B:decide (hi<c)=false:=by simpa using q
 go_enter func247,ntmps247;go_wp2
 go_quiet (fail)
 go_wp2;go_ret;exact⟨rfl,(AH).trans ((DN _ nq).mono (by simp))⟩
theorem eh(W:Al)(g off p:Nat)(d c f x b i lo hi:Nat)(a:DP d x b i lo hi)(r:d<256)(E:3<b)(B:W.cell? ⟨g,off,Ak⟩=Aj (A7 Ai d))(j:W.cell? ⟨g,off+1,Ak⟩=Aj (A7 Ai c))(k:W.cell? ⟨g,off+2,Ak⟩=Aj (A7 Ai f))(l:U8 W)(s:¬c<lo)(t:¬hi<c)(u:f<128):An Ao 247 #[A8 (Aj ⟨g,off,Ak⟩) 3 p] W λe m=>e=Ag (Ad true)/\A1 W m:=by
 have q:=l.1 d r;rw[a.fx]at q;have C:=a.fsz;have F:wrap64 (b:Int)=b:=by have:=a.szlt;unfold wrap64;omega
 obtain⟨n,o⟩:=Fz a l;have D:x/16<16:=by rw[a.fi];exact a.flt
 rw[<-a.fi]at n o;have z:decide (b<=3)=false:=by simp;omega
 have A:¬b<=3:=by omega
 have h:Hid (A1 W (W.alloc (Af #[A7 Ai lo,A7 Ai hi] 285))):=AH;have v:=(Ck W ⟨g,off+1,Ak⟩ (Af #[A7 Ai lo,A7 Ai hi] 285) (by rw[j];rfl)).trans j;have w:=(Ck W ⟨g,off+2,Ak⟩ (Af #[A7 Ai lo,A7 Ai hi] 285) (by rw[k];rfl)).trans k;have c2:=Ar (Ay W (Af #[A7 Ai lo,A7 Ai hi] 285)) 0;have y:=Ar (Ay W (Af #[A7 Ai lo,A7 Ai hi] 285)) 1;have q1:decide (c<lo)=false:=by simpa using s
 have G:decide (hi<c)=false:=by simpa using t
 have H:decide ((f:Int)<128)=true:=by simp;omega
 have I:decide (f<128)=true:=by simpa using u
 go_enter func247,ntmps247;go_wp2
 go_quiet (fail)
 go_wp2;go_ret;exact⟨rfl,h.trans ((DN _ nq).mono h.size)⟩
theorem ek(W:Al)(g off p:Nat)(f d a x c i lo hi:Nat)(b:DP f x c i lo hi)(r:f<256)(F:3<c)(C:W.cell? ⟨g,off,Ak⟩=Aj (A7 Ai f))(j:W.cell? ⟨g,off+1,Ak⟩=Aj (A7 Ai d))(k:W.cell? ⟨g,off+2,Ak⟩=Aj (A7 Ai a))(l:U8 W)(s:¬d<lo)(t:¬hi<d)(u:¬a<128)(v:191<a):An Ao 247 #[A8 (Aj ⟨g,off,Ak⟩) 3 p] W λe m=>e=Ag (Ad true)/\A1 W m:=by
 have q:=l.1 f r;rw[b.fx]at q;have D:=b.fsz;have G:wrap64 (c:Int)=c:=by have:=b.szlt;unfold wrap64;omega
 obtain⟨n,o⟩:=Fz b l;have E:x/16<16:=by rw[b.fi];exact b.flt
 rw[<-b.fi]at n o;have A:decide (c<=3)=false:=by simp;omega
 have B:¬c<=3:=by omega
 have h:Hid (A1 W (W.alloc (Af #[A7 Ai lo,A7 Ai hi] 285))):=AH;have w:=(Ck W ⟨g,off+1,Ak⟩ (Af #[A7 Ai lo,A7 Ai hi] 285) (by rw[j];rfl)).trans j;have y:=(Ck W ⟨g,off+2,Ak⟩ (Af #[A7 Ai lo,A7 Ai hi] 285) (by rw[k];rfl)).trans k;have c2:=Ar (Ay W (Af #[A7 Ai lo,A7 Ai hi] 285)) 0;have z:=Ar (Ay W (Af #[A7 Ai lo,A7 Ai hi] 285)) 1;have q1:decide (d<lo)=false:=by simpa using s
 have H:decide (hi<d)=false:=by simpa using t
 have J:decide (a<128)=false:=by simpa using u
 have L:decide (191<a)=true:=by simpa using v
 have I:decide ((a:Int)<128)=false:=by simp;omega
 have K:decide ((191:Int)<a)=true:=by simp;omega
 go_enter func247,ntmps247;go_wp2
 go_quiet (fail)
 go_wp2;go_ret;exact⟨rfl,h.trans ((DN _ nq).mono h.size)⟩
theorem em(W:Al)(g off p:Nat)(f d a x c i lo hi:Nat)(b:DP f x c i lo hi)(r:f<256)(F:3<c)(C:W.cell? ⟨g,off,Ak⟩=Aj (A7 Ai f))(j:W.cell? ⟨g,off+1,Ak⟩=Aj (A7 Ai d))(k:W.cell? ⟨g,off+2,Ak⟩=Aj (A7 Ai a))(l:U8 W)(s:¬d<lo)(t:¬hi<d)(u:¬a<128)(v:¬191<a):An Ao 247 #[A8 (Aj ⟨g,off,Ak⟩) 3 p] W λe m=>e=Ag (Ad false)/\A1 W m:=by
 have q:=l.1 f r;rw[b.fx]at q;have D:=b.fsz;have G:wrap64 (c:Int)=c:=by have:=b.szlt;unfold wrap64;omega
 obtain⟨n,o⟩:=Fz b l;have E:x/16<16:=by rw[b.fi];exact b.flt
 rw[<-b.fi]at n o;have A:decide (c<=3)=false:=by simp;omega
 have B:¬c<=3:=by omega
 have h:Hid (A1 W (W.alloc (Af #[A7 Ai lo,A7 Ai hi] 285))):=AH;have w:=(Ck W ⟨g,off+1,Ak⟩ (Af #[A7 Ai lo,A7 Ai hi] 285) (by rw[j];rfl)).trans j;have y:=(Ck W ⟨g,off+2,Ak⟩ (Af #[A7 Ai lo,A7 Ai hi] 285) (by rw[k];rfl)).trans k;have c2:=Ar (Ay W (Af #[A7 Ai lo,A7 Ai hi] 285)) 0;have z:=Ar (Ay W (Af #[A7 Ai lo,A7 Ai hi] 285)) 1;have q1:decide (d<lo)=false:=by simpa using s
 have H:decide (hi<d)=false:=by simpa using t
 have J:decide (a<128)=false:=by simpa using u
 have L:decide (191<a)=false:=by simpa using v
 have I:decide ((a:Int)<128)=false:=by simp;omega
 have K:decide ((191:Int)<a)=false:=by simp;omega
 go_enter func247,ntmps247;go_wp2
 go_quiet (fail)
 go_wp2;go_ret;exact⟨rfl,h.trans ((DN _ nq).mono h.size)⟩
theorem P5(W:Al)(g off l n:Nat)(c x b i lo hi:Nat)(a:DP c x b i lo hi)(o:c<256)(B:x<240)(v:W.cell? ⟨g,off,Ak⟩=Aj (A7 Ai c))(d:U8 W)(z:1<=n)(p:n<b):An Ao 255 #[A8 (Aj ⟨g,off,Ak⟩) n l] W λe h=>e=Ag (Ab #[A7 .i32 65533,A7 Ah 1])/\A1 W h:=by
 have m:=d.1 c o;rw[a.fx]at m;have w:=a.fsz;have A:wrap64 (b:Int)=b:=by have:=a.szlt;unfold wrap64;omega
 obtain⟨j,k⟩:=Fz a d;have y:x/16<16:=by rw[a.fi];exact a.flt
 rw[<-a.fi]at j k;have C:decide (240<=(x:Int))=false:=by simp;omega
 have D:decide (240<=x)=false:=by simp;omega
 have f:Hid (A1 W (W.alloc (Af #[A7 Ai lo,A7 Ai hi] 285))):=AH;have c2:=Ar (Ay W (Af #[A7 Ai lo,A7 Ai hi] 285)) 0;have q:=Ar (Ay W (Af #[A7 Ai lo,A7 Ai hi] 285)) 1;have r:decide ((n:Int)<1)=false:=by simp;omega
 have s:decide (n<1)=false:=by simp;omega
 have t:decide (n<b)=true:=by simpa using p
 have u:decide ((n:Int)<(b:Int))=true:=by simp;omega
 go_enter func255,ntmps255;go_wp2
 go_ret2
 exact⟨rfl,f⟩
theorem eo(W:Al)(g off n:Nat)(b d x c i lo hi:Nat)(a:DP b x c i lo hi)(p:b<256)(z:x<240)(u:W.cell? ⟨g,off,Ak⟩=Aj (A7 Ai b))(f:W.cell? ⟨g,off+1,Ak⟩=Aj (A7 Ai d))(h:U8 W)(r:c=2)(q:d<lo):An Ao 255 #[A8 (Aj ⟨g,off,Ak⟩) 2 n] W λe k=>e=Ag (Ab #[A7 .i32 65533,A7 Ah 1])/\A1 W k:=by
 have o:=h.1 b p;rw[a.fx]at o;have v:=a.fsz;have y:wrap64 (c:Int)=c:=by have:=a.szlt;unfold wrap64;omega
 obtain⟨l,m⟩:=Fz a h;have w:x/16<16:=by rw[a.fi];exact a.flt
 rw[<-a.fi]at l m;have A:decide (240<=(x:Int))=false:=by simp;omega
 have B:decide (240<=x)=false:=by simp;omega
 have j:Hid (A1 W (W.alloc (Af #[A7 Ai lo,A7 Ai hi] 285))):=AH;have s:=(Ck W ⟨g,off+1,Ak⟩ (Af #[A7 Ai lo,A7 Ai hi] 285) (by rw[f];rfl)).trans f;have c2:=Ar (Ay W (Af #[A7 Ai lo,A7 Ai hi] 285)) 0;have t:=Ar (Ay W (Af #[A7 Ai lo,A7 Ai hi] 285)) 1;have q1:decide (d<lo)=true:=by simpa using q
 subst r;go_enter func255,ntmps255;go_wp2
 go_ret2
 exact⟨rfl,j⟩
theorem ep(W:Al)(g off n:Nat)(c b x d i lo hi:Nat)(a:DP c x d i lo hi)(p:c<256)(A:x<240)(v:W.cell? ⟨g,off,Ak⟩=Aj (A7 Ai c))(f:W.cell? ⟨g,off+1,Ak⟩=Aj (A7 Ai b))(h:U8 W)(s:d=2)(q:¬b<lo)(r:hi<b):An Ao 255 #[A8 (Aj ⟨g,off,Ak⟩) 2 n] W λe k=>e=Ag (Ab #[A7 .i32 65533,A7 Ah 1])/\A1 W k:=by
 have o:=h.1 c p;rw[a.fx]at o;have w:=a.fsz;have z:wrap64 (d:Int)=d:=by have:=a.szlt;unfold wrap64;omega
 obtain⟨l,m⟩:=Fz a h;have y:x/16<16:=by rw[a.fi];exact a.flt
 rw[<-a.fi]at l m;have C:decide (240<=(x:Int))=false:=by simp;omega
 have D:decide (240<=x)=false:=by simp;omega
 have j:Hid (A1 W (W.alloc (Af #[A7 Ai lo,A7 Ai hi] 285))):=AH;have t:=(Ck W ⟨g,off+1,Ak⟩ (Af #[A7 Ai lo,A7 Ai hi] 285) (by rw[f];rfl)).trans f;have c2:=Ar (Ay W (Af #[A7 Ai lo,A7 Ai hi] 285)) 0;have u:=Ar (Ay W (Af #[A7 Ai lo,A7 Ai hi] 285)) 1;have q1:decide (b<lo)=false:=by simpa using q
 have B:decide (hi<b)=true:=by simpa using r
 subst s;go_enter func255,ntmps255;go_wp2
 go_ret2
 exact⟨rfl,j⟩
theorem et(W:Al)(g off n:Nat)(c b x d i lo hi:Nat)(a:DP c x d i lo hi)(q:c<256)(B:x<240)(w:W.cell? ⟨g,off,Ak⟩=Aj (A7 Ai c))(f:W.cell? ⟨g,off+1,Ak⟩=Aj (A7 Ai b))(h:U8 W)(t:d=2)(r:¬b<lo)(s:¬hi<b):An Ao 255 #[A8 (Aj ⟨g,off,Ak⟩) 2 n] W λe k=>(∃o,e=Ag (Ab #[A7 .i32 o,A7 Ah 2]))/\A1 W k:=by
 have p:=h.1 c q;rw[a.fx]at p;have y:=a.fsz;have A:wrap64 (d:Int)=d:=by have:=a.szlt;unfold wrap64;omega
 obtain⟨l,m⟩:=Fz a h;have z:x/16<16:=by rw[a.fi];exact a.flt
 rw[<-a.fi]at l m;have D:decide (240<=(x:Int))=false:=by simp;omega
 have E:decide (240<=x)=false:=by simp;omega
 have j:Hid (A1 W (W.alloc (Af #[A7 Ai lo,A7 Ai hi] 285))):=AH;have u:=(Ck W ⟨g,off+1,Ak⟩ (Af #[A7 Ai lo,A7 Ai hi] 285) (by rw[f];rfl)).trans f;have c2:=Ar (Ay W (Af #[A7 Ai lo,A7 Ai hi] 285)) 0;have v:=Ar (Ay W (Af #[A7 Ai lo,A7 Ai hi] 285)) 1;have q1:decide (b<lo)=false:=by simpa using r
 have C:decide (hi<b)=false:=by simpa using s
 subst t;go_enter func255,ntmps255;go_wp2
 go_ret2
 exact⟨⟨_,rfl⟩,j⟩
theorem eu(W:Al)(g off p:Nat)(c b d x f i lo hi:Nat)(a:DP c x f i lo hi)(r:c<256)(E:x<240)(z:W.cell? ⟨g,off,Ak⟩=Aj (A7 Ai c))(h:W.cell? ⟨g,off+1,Ak⟩=Aj (A7 Ai b))(j:W.cell? ⟨g,off+2,Ak⟩=Aj (A7 Ai d))(k:U8 W)(u:f=3)(s:¬b<lo)(t:¬hi<b)(C:d<128):An Ao 255 #[A8 (Aj ⟨g,off,Ak⟩) 3 p] W λe m=>e=Ag (Ab #[A7 .i32 65533,A7 Ah 1])/\A1 W m:=by
 have q:=k.1 c r;rw[a.fx]at q;have A:=a.fsz;have D:wrap64 (f:Int)=f:=by have:=a.szlt;unfold wrap64;omega
 obtain⟨n,o⟩:=Fz a k;have B:x/16<16:=by rw[a.fi];exact a.flt
 rw[<-a.fi]at n o;have I:decide (240<=(x:Int))=false:=by simp;omega
 have J:decide (240<=x)=false:=by simp;omega
 have l:Hid (A1 W (W.alloc (Af #[A7 Ai lo,A7 Ai hi] 285))):=AH;have v:=(Ck W ⟨g,off+1,Ak⟩ (Af #[A7 Ai lo,A7 Ai hi] 285) (by rw[h];rfl)).trans h;have w:=(Ck W ⟨g,off+2,Ak⟩ (Af #[A7 Ai lo,A7 Ai hi] 285) (by rw[j];rfl)).trans j;have c2:=Ar (Ay W (Af #[A7 Ai lo,A7 Ai hi] 285)) 0;have y:=Ar (Ay W (Af #[A7 Ai lo,A7 Ai hi] 285)) 1;have q1:decide (b<lo)=false:=by simpa using s
 have F:decide (hi<b)=false:=by simpa using t
 subst u;have H:decide (d<128)=true:=by simp;omega
 have G:decide ((d:Int)<128)=true:=by simp;omega
 go_enter func255,ntmps255;go_wp2
 go_ret2
 exact⟨rfl,l⟩
theorem ew(W:Al)(g off p:Nat)(d c b x f i lo hi:Nat)(a:DP d x f i lo hi)(r:d<256)(E:x<240)(z:W.cell? ⟨g,off,Ak⟩=Aj (A7 Ai d))(h:W.cell? ⟨g,off+1,Ak⟩=Aj (A7 Ai c))(j:W.cell? ⟨g,off+2,Ak⟩=Aj (A7 Ai b))(k:U8 W)(u:f=3)(s:¬c<lo)(t:¬hi<c)(C:191<b):An Ao 255 #[A8 (Aj ⟨g,off,Ak⟩) 3 p] W λe m=>e=Ag (Ab #[A7 .i32 65533,A7 Ah 1])/\A1 W m:=by
 have q:=k.1 d r;rw[a.fx]at q;have A:=a.fsz;have D:wrap64 (f:Int)=f:=by have:=a.szlt;unfold wrap64;omega
 obtain⟨n,o⟩:=Fz a k;have B:x/16<16:=by rw[a.fi];exact a.flt
 rw[<-a.fi]at n o;have K:decide (240<=(x:Int))=false:=by simp;omega
 have L:decide (240<=x)=false:=by simp;omega
 have l:Hid (A1 W (W.alloc (Af #[A7 Ai lo,A7 Ai hi] 285))):=AH;have v:=(Ck W ⟨g,off+1,Ak⟩ (Af #[A7 Ai lo,A7 Ai hi] 285) (by rw[h];rfl)).trans h;have w:=(Ck W ⟨g,off+2,Ak⟩ (Af #[A7 Ai lo,A7 Ai hi] 285) (by rw[j];rfl)).trans j;have c2:=Ar (Ay W (Af #[A7 Ai lo,A7 Ai hi] 285)) 0;have y:=Ar (Ay W (Af #[A7 Ai lo,A7 Ai hi] 285)) 1;have q1:decide (c<lo)=false:=by simpa using s
 have F:decide (hi<c)=false:=by simpa using t
 subst u;have H:decide (b<128)=false:=by simp;omega
 have G:decide ((b:Int)<128)=false:=by simp;omega
 have J:decide (191<b)=true:=by simp;omega
 have I:decide ((191:Int)<b)=true:=by simp;omega
 go_enter func255,ntmps255;go_wp2
 go_ret2
 exact⟨rfl,l⟩
theorem ey(W:Al)(g off p:Nat)(d c a x f i lo hi:Nat)(b:DP d x f i lo hi)(s:d<256)(G:x<240)(A:W.cell? ⟨g,off,Ak⟩=Aj (A7 Ai d))(h:W.cell? ⟨g,off+1,Ak⟩=Aj (A7 Ai c))(j:W.cell? ⟨g,off+2,Ak⟩=Aj (A7 Ai a))(k:U8 W)(v:f=3)(t:¬c<lo)(u:¬hi<c)(D:128<=a)(E:a<=191):An Ao 255 #[A8 (Aj ⟨g,off,Ak⟩) 3 p] W λe m=>(∃q,e=Ag (Ab #[A7 .i32 q,A7 Ah 3]))/\A1 W m:=by
 have r:=k.1 d s;rw[b.fx]at r;have B:=b.fsz;have F:wrap64 (f:Int)=f:=by have:=b.szlt;unfold wrap64;omega
 obtain⟨n,o⟩:=Fz b k;have C:x/16<16:=by rw[b.fi];exact b.flt
 rw[<-b.fi]at n o;have M:decide (240<=(x:Int))=false:=by simp;omega
 have N:decide (240<=x)=false:=by simp;omega
 have l:Hid (A1 W (W.alloc (Af #[A7 Ai lo,A7 Ai hi] 285))):=AH;have w:=(Ck W ⟨g,off+1,Ak⟩ (Af #[A7 Ai lo,A7 Ai hi] 285) (by rw[h];rfl)).trans h;have y:=(Ck W ⟨g,off+2,Ak⟩ (Af #[A7 Ai lo,A7 Ai hi] 285) (by rw[j];rfl)).trans j;have c2:=Ar (Ay W (Af #[A7 Ai lo,A7 Ai hi] 285)) 0;have z:=Ar (Ay W (Af #[A7 Ai lo,A7 Ai hi] 285)) 1;have q1:decide (c<lo)=false:=by simpa using t
 have H:decide (hi<c)=false:=by simpa using u
 subst v;have J:decide (a<128)=false:=by simp;omega
 have I:decide ((a:Int)<128)=false:=by simp;omega
 have L:decide (191<a)=false:=by simp;omega
 have K:decide ((191:Int)<a)=false:=by simp;omega
 go_enter func255,ntmps255;go_wp2
 go_ret2
 exact⟨⟨_,rfl⟩,l⟩
theorem eA(W:Al)(g off r:Nat)(d c a f x h i lo hi:Nat)(b:DP d x h i lo hi)(t:d<256)(J:x<240)(C:W.cell? ⟨g,off,Ak⟩=Aj (A7 Ai d))(j:W.cell? ⟨g,off+1,Ak⟩=Aj (A7 Ai c))(k:W.cell? ⟨g,off+2,Ak⟩=Aj (A7 Ai a))(l:W.cell? ⟨g,off+3,Ak⟩=Aj (A7 Ai f))(m:U8 W)(w:h=4)(u:¬c<lo)(v:¬hi<c)(G:128<=a)(H:a<=191)(F:f<128):An Ao 255 #[A8 (Aj ⟨g,off,Ak⟩) 4 r] W λe o=>e=Ag (Ab #[A7 .i32 65533,A7 Ah 1])/\A1 W o:=by
 have s:=m.1 d t;rw[b.fx]at s;have D:=b.fsz;have I:wrap64 (h:Int)=h:=by have:=b.szlt;unfold wrap64;omega
 obtain⟨p,q⟩:=Fz b m;have E:x/16<16:=by rw[b.fi];exact b.flt
 rw[<-b.fi]at p q;have R:decide (240<=(x:Int))=false:=by simp;omega
 have S:decide (240<=x)=false:=by simp;omega
 have n:Hid (A1 W (W.alloc (Af #[A7 Ai lo,A7 Ai hi] 285))):=AH;have y:=(Ck W ⟨g,off+1,Ak⟩ (Af #[A7 Ai lo,A7 Ai hi] 285) (by rw[j];rfl)).trans j;have z:=(Ck W ⟨g,off+2,Ak⟩ (Af #[A7 Ai lo,A7 Ai hi] 285) (by rw[k];rfl)).trans k;have A:=(Ck W ⟨g,off+3,Ak⟩ (Af #[A7 Ai lo,A7 Ai hi] 285) (by rw[l];rfl)).trans l;have c2:=Ar (Ay W (Af #[A7 Ai lo,A7 Ai hi] 285)) 0;have B:=Ar (Ay W (Af #[A7 Ai lo,A7 Ai hi] 285)) 1;have q1:decide (c<lo)=false:=by simpa using u
 have K:decide (hi<c)=false:=by simpa using v
 subst w;have M:decide (a<128)=false:=by simp;omega
 have L:decide ((a:Int)<128)=false:=by simp;omega
 have O:decide (191<a)=false:=by simp;omega
 have N:decide ((191:Int)<a)=false:=by simp;omega
 have Q:decide (f<128)=true:=by simp;omega
 have P:decide ((f:Int)<128)=true:=by simp;omega
 go_enter func255,ntmps255;go_wp2
 go_ret2
 exact⟨rfl,n⟩
theorem eB(W:Al)(g off r:Nat)(f d a c x h i lo hi:Nat)(b:DP f x h i lo hi)(t:f<256)(J:x<240)(C:W.cell? ⟨g,off,Ak⟩=Aj (A7 Ai f))(j:W.cell? ⟨g,off+1,Ak⟩=Aj (A7 Ai d))(k:W.cell? ⟨g,off+2,Ak⟩=Aj (A7 Ai a))(l:W.cell? ⟨g,off+3,Ak⟩=Aj (A7 Ai c))(m:U8 W)(w:h=4)(u:¬d<lo)(v:¬hi<d)(G:128<=a)(H:a<=191)(F:191<c):An Ao 255 #[A8 (Aj ⟨g,off,Ak⟩) 4 r] W λe o=>e=Ag (Ab #[A7 .i32 65533,A7 Ah 1])/\A1 W o:=by
 have s:=m.1 f t;rw[b.fx]at s;have D:=b.fsz;have I:wrap64 (h:Int)=h:=by have:=b.szlt;unfold wrap64;omega
 obtain⟨p,q⟩:=Fz b m;have E:x/16<16:=by rw[b.fi];exact b.flt
 rw[<-b.fi]at p q;have T:decide (240<=(x:Int))=false:=by simp;omega
 have U:decide (240<=x)=false:=by simp;omega
 have n:Hid (A1 W (W.alloc (Af #[A7 Ai lo,A7 Ai hi] 285))):=AH;have y:=(Ck W ⟨g,off+1,Ak⟩ (Af #[A7 Ai lo,A7 Ai hi] 285) (by rw[j];rfl)).trans j;have z:=(Ck W ⟨g,off+2,Ak⟩ (Af #[A7 Ai lo,A7 Ai hi] 285) (by rw[k];rfl)).trans k;have A:=(Ck W ⟨g,off+3,Ak⟩ (Af #[A7 Ai lo,A7 Ai hi] 285) (by rw[l];rfl)).trans l;have c2:=Ar (Ay W (Af #[A7 Ai lo,A7 Ai hi] 285)) 0;have B:=Ar (Ay W (Af #[A7 Ai lo,A7 Ai hi] 285)) 1;have q1:decide (d<lo)=false:=by simpa using u
 have K:decide (hi<d)=false:=by simpa using v
 subst w;have M:decide (a<128)=false:=by simp;omega
 have L:decide ((a:Int)<128)=false:=by simp;omega
 have O:decide (191<a)=false:=by simp;omega
 have N:decide ((191:Int)<a)=false:=by simp;omega
 have Q:decide (c<128)=false:=by simp;omega
 have P:decide ((c:Int)<128)=false:=by simp;omega
 have S:decide (191<c)=true:=by simp;omega
 have R:decide ((191:Int)<c)=true:=by simp;omega
 go_enter func255,ntmps255;go_wp2
 go_ret2
 exact⟨rfl,n⟩
theorem eC(W:Al)(g off r:Nat)(f d a b x h i lo hi:Nat)(c:DP f x h i lo hi)(u:f<256)(L:x<240)(D:W.cell? ⟨g,off,Ak⟩=Aj (A7 Ai f))(j:W.cell? ⟨g,off+1,Ak⟩=Aj (A7 Ai d))(k:W.cell? ⟨g,off+2,Ak⟩=Aj (A7 Ai a))(l:W.cell? ⟨g,off+3,Ak⟩=Aj (A7 Ai b))(m:U8 W)(y:h=4)(v:¬d<lo)(w:¬hi<d)(G:128<=a)(H:a<=191)(I:128<=b)(J:b<=191):An Ao 255 #[A8 (Aj ⟨g,off,Ak⟩) 4 r] W λe o=>(∃s,e=Ag (Ab #[A7 .i32 s,A7 Ah 4]))/\A1 W o:=by
 have t:=m.1 f u;rw[c.fx]at t;have E:=c.fsz;have K:wrap64 (h:Int)=h:=by have:=c.szlt;unfold wrap64;omega
 obtain⟨p,q⟩:=Fz c m;have F:x/16<16:=by rw[c.fi];exact c.flt
 rw[<-c.fi]at p q;have V:decide (240<=(x:Int))=false:=by simp;omega
 have X:decide (240<=x)=false:=by simp;omega
 have n:Hid (A1 W (W.alloc (Af #[A7 Ai lo,A7 Ai hi] 285))):=AH;have z:=(Ck W ⟨g,off+1,Ak⟩ (Af #[A7 Ai lo,A7 Ai hi] 285) (by rw[j];rfl)).trans j;have A:=(Ck W ⟨g,off+2,Ak⟩ (Af #[A7 Ai lo,A7 Ai hi] 285) (by rw[k];rfl)).trans k;have B:=(Ck W ⟨g,off+3,Ak⟩ (Af #[A7 Ai lo,A7 Ai hi] 285) (by rw[l];rfl)).trans l;have c2:=Ar (Ay W (Af #[A7 Ai lo,A7 Ai hi] 285)) 0;have C:=Ar (Ay W (Af #[A7 Ai lo,A7 Ai hi] 285)) 1;have q1:decide (d<lo)=false:=by simpa using v
 have M:decide (hi<d)=false:=by simpa using w
 subst y;have O:decide (a<128)=false:=by simp;omega
 have N:decide ((a:Int)<128)=false:=by simp;omega
 have Q:decide (191<a)=false:=by simp;omega
 have P:decide ((191:Int)<a)=false:=by simp;omega
 have S:decide (b<128)=false:=by simp;omega
 have R:decide ((b:Int)<128)=false:=by simp;omega
 have U:decide (191<b)=false:=by simp;omega
 have T:decide ((191:Int)<b)=false:=by simp;omega
 go_enter func255,ntmps255;go_wp2
 go_ret2
 exact⟨⟨_,rfl⟩,n⟩
theorem eD(W:Al)(g off h n:Nat)(a:Nat)(l:firstT a=241)(b:a<256)(q:1<=n)(p:W.cell? ⟨g,off,Ak⟩=Aj (A7 Ai a))(k:U8 W):An Ao 255 #[A8 (Aj ⟨g,off,Ak⟩) n h] W λe f=>e=Ag (Ab #[A7 .i32 65533,A7 Ah 1])/\f=W:=by
 have i:=k.1 a b;rw[l]at i;have j:=Utf8W.drop_byte ⟨a,b⟩;have c:Hid (bits .or .i32 (bits .andNot .i32 (a:Int) (-1)) (bits .and .i32 65533 (-1))=65533):=j;have m:decide ((n:Int)<1)=false:=by simp;omega
 have o:decide (n<1)=false:=by simp;omega
 have d:Hid (wrap32 517543559168/2147483648 = -1):=by
  show _=_;unfold wrap32;decide
 go_enter func255,ntmps255;go_wp2
 go_ret2
 refine⟨?_,rfl⟩;show Ending.returned (Ab #[A7 .i32 (bits .or .i32 (bits .andNot .i32 (a:Int) (wrap32 517543559168/2147483648)) (bits .and .i32 65533 (wrap32 517543559168/2147483648))),A7 Ah 1])=_;rw[d.out,c.out]
theorem eE(W:Al)(g off c n:Nat)(a:Nat)(d:a<128)(l:1<=n)(k:W.cell? ⟨g,off,Ak⟩=Aj (A7 Ai a)):An Ao 248 #[A8 (Aj ⟨g,off,Ak⟩) n c] W λe b=>e=Ag (Ab #[A7 .i32 a,A7 Ah 1])/\b=W:=by
 have f:decide (0<n)=true:=by simp;omega
 have h:decide (0<(n:Int))=true:=by simp;omega
 have i:decide ((a:Int)<128)=true:=by simp;omega
 have j:decide (a<128)=true:=by simpa using d
 go_enter func248,ntmps248;go_wp2;refine wp_loop_rounds 1 ?_;rw[rounds_succ];go_wp2
 go_ret2
 exact⟨rfl,rfl⟩
theorem VJ(W:Al)(g off f n:Nat)(c:Nat)(p:128<=c)(q:1<=n)(o:W.cell? ⟨g,off,Ak⟩=Aj (A7 Ai c))(R:Int->Int->Al->Prop)(h:An Ao 255 #[A8 (Aj ⟨g,off,Ak⟩) n f] W λe d=>∃a b,e=Ag (Ab #[A7 .i32 a,A7 Ah b])/\R a b d):An Ao 248 #[A8 (Aj ⟨g,off,Ak⟩) n f] W λe d=>∃a b,e=Ag (Ab #[A7 .i32 a,A7 Ah b])/\R a b d:=by
 have j:decide (0<n)=true:=by simp;omega
 have k:decide (0<(n:Int))=true:=by simp;omega
 have l:decide ((c:Int)<128)=false:=by simp;omega
 have m:decide (c<128)=false:=by simp;omega
 go_enter func248,ntmps248;go_wp2;refine wp_loop_rounds 1 ?_;rw[rounds_succ]
 go_wp2_with(first
  |(go_at_call 255;refine h.mono ?_;rintro e r ⟨a,b,rfl,i⟩))
 go_ret2
 exact⟨a,b,rfl,i⟩
end
section
open Go.RowKit
theorem pF{ty:TypeId}(h:fn.results=#[.tmp u,.cell p ty])(b:A4)(w:Al)(g:Nat)(t:TypeId)(cs:A4)(c:Nat×Nat)(d:TypeDesc)(j:b.getD p undef=A9 (Aj ⟨g,0,Ak⟩))(i:w.heap[g]?=Aj (Af cs t c))(k:P.underlying ty=Aj d)(f:(match d with|.struct _|.array _ _=>true|_=>false)=true)(hi:(P.info? ty).map (·.size)=Aj cs.size)(v:Am)(l:b.getD u undef=v):(results fn b).run P w=.ok (Ab #[v,.agg cs]) w:=by
 have e:(results fn b).run P w=((asAddr (b.getD p undef)).run P w).andThen λa m=>((loadVar ty a).run P m).andThen λv n=>.ok (Ab #[b.getD u undef,v]) n:=by
  simp only[results,h];simp[D8,Result.andThen]
 subst l;rw[e,j];simp only[asAddr,E4,Dl,FZ w g t ty cs c d i k f hi]
def AF(bs:A2)(fm d l:Int):A4:=#[Aa ⟨bs.toArray⟩,A7 Ah fm,A7 Ah d,A7 Ah l]
def Aw(x:Int×Int):A4:=#[A7 Ah x.1,A7 Ah x.2]
theorem Kt(x:Int×Int):(Aw x).all (·.oneCell')=true:=by simp[Aw,Value.oneCell']
structure Gd(W:World)(A:A4)(N:Nat)(V:World):Prop where
 box:V.heap[W.heap.size]?=some (.cells A 102)
 flt:V.heap[N]?=some (.cells (Aw (0,0)) 64)
 below:A1 W V
 lt:W.heap.size<N
theorem Gd.next(h:Gd W A N V)(a:A1 V V'):Gd W A N V' :=
 ⟨(a.block _ (At h.box)).trans h.box,(a.block _ (At h.flt)).trans h.flt,h.below.trans (a.mono h.below.size),h.lt⟩
theorem Gd.drew(h:Gd W A N V):Gd W A N V.drew:=⟨h.box,h.flt,h.below.drew,h.lt⟩
theorem Mz(W:Al)(A:A4):Gd W A (W.heap.size+1) ((W.alloc (Af A 102)).alloc (Af (Aw (0,0)) 64)) :=
 ⟨(AL _ _ _ (by simp)).trans (Ay _ _),by have:=Ay (W.alloc (Af A 102)) (Af (Aw (0,0)) 64);simpa using this,(AH).alloc (by simp) _,by omega⟩
theorem Q9(a:TypeId)(x:Operand)(f:o.op=.load a x)(g:Nat)(i:ev x=A9 (Aj ⟨g,0,Ak⟩))(t:TypeId)(cs:A4)(b:Nat×Nat)(d:TypeDesc)(e:W.heap[g]?=Aj (Af cs t b))(h:P.underlying a=Aj d)(c:(match d with|.struct _|.array _ _=>true|_=>false)=true)(hi:(P.info? a).map (·.size)=Aj cs.size):(execOp ev o).run P W=.ok (.value (.agg cs)) W:=by
 unfold execOp;simp only[f,i,Instr.loadAt,Instr.sureAddr,D8,E4,Dl,FZ W g t a cs b d e h c hi]
theorem FW(x:Int)(h : -9223372036854775808<=x/\x<=9223372036854775807):IntKind.i64.wrap x=x:=(MW x).trans (by omega)
theorem O3:(prog.info? 102).map (·.size)=Aj (AF bs fm d l).size:=by show _=Aj 4;kernel_rfl
def MA(r:A6 Unit):Am:=match r with
 |.ok (_,q)=>Ab #[A7 Ah q,.agg (Aw (0,0))]
 |.error f=>Ab #[A7 Ah 0,.agg (Aw f)]
theorem F3(h:Gd W A N V)(a:A1 V V')(x:Int×Int):(V'.setRow N (Aw x)).heap[N]?=Aj (Af (Aw x) 64)/\A1 W (V'.setRow N (Aw x)) :=
 ⟨B4 _ _ _ _ _ _ (h.next a).flt,Bu (h.next a).below (Nat.le_of_lt h.lt) _⟩
theorem Hd(x:Int×Int):(prog.info? 64).map (·.size)=Aj (Aw x).size:=YQ
theorem BF{t:TypeId}(h:V.heap[g]?=Aj (Af (AF bs fm d l) t fr)):V.cell? ⟨g,0,Ak⟩=(#[Aa ⟨bs.toArray⟩,A7 Ah fm,A7 Ah d,A7 Ah l]:A4)[0]?/\V.cell? ⟨g,1,Ak⟩=(#[Aa ⟨bs.toArray⟩,A7 Ah fm,A7 Ah d,A7 Ah l]:A4)[1]?/\V.cell? ⟨g,2,Ak⟩=(#[Aa ⟨bs.toArray⟩,A7 Ah fm,A7 Ah d,A7 Ah l]:A4)[2]?/\V.cell? ⟨g,3,Ak⟩=(#[Aa ⟨bs.toArray⟩,A7 Ah fm,A7 Ah d,A7 Ah l]:A4)[3]? :=
 ⟨Ar h 0,Ar h 1,Ar h 2,Ar h 3⟩
theorem ck{Q:Ending->Al->Prop}(c:An P f args V λe a=>e=r/\A1 V a)(b:∀{V':Al},A1 V V'->S V')(k:∀w,Hid (S w)->Q r w):An P f args V Q :=
 c.mono λ_ _ h=>h.1▸k _ (b h.2)
theorem EG{Q:Ending->Al->Prop}(c:An P f args V λe a=>e=r/\A1 V a)(b:∀{V':Al},A1 V V'->S V')(k:∀w,A1 V w->Hid (S w)->Q r w):An P f args V Q :=
 c.mono λ_ _ h=>h.1▸k _ h.2 (b h.2)
theorem BN{Q:Ending->Al->Prop}{t:TypeId}(c:An P f args V λe a=>e=r/\A1 V a)(i:∀{V':Al},A1 V V'->S V')(b:∀w,S w->w.heap[g]?=Aj (Af (AF bs fm d l) t fr))(k:∀w,Hid (S w)->w.cell? ⟨g,0,Ak⟩=(#[Aa ⟨bs.toArray⟩,A7 Ah fm,A7 Ah d,A7 Ah l]:A4)[0]?->w.cell? ⟨g,1,Ak⟩=(#[Aa ⟨bs.toArray⟩,A7 Ah fm,A7 Ah d,A7 Ah l]:A4)[1]?->w.cell? ⟨g,2,Ak⟩=(#[Aa ⟨bs.toArray⟩,A7 Ah fm,A7 Ah d,A7 Ah l]:A4)[2]?->w.cell? ⟨g,3,Ak⟩=(#[Aa ⟨bs.toArray⟩,A7 Ah fm,A7 Ah d,A7 Ah l]:A4)[3]?->Q r w):An P f args V Q :=
 ck c i λw h=>let z:=BF (b w h);k w h z.1 z.2.1 z.2.2.1 z.2.2.2
theorem He{b:Bool}(fm d:Int)(h:Bo bs l i=b)(V:Al):An Ao 57 #[Ac #[Aa ⟨bs.toArray⟩,A7 Ah fm,A7 Ah d,A7 Ah l],A7 Ah i] V λe a=>e=Ag (Ad b)/\A1 V a:=h▸Q6 V bs fm d l i
theorem O4{en:Int}{x:Int×Int}(fm d:Int)(h:BM bs l i en=x)(V:Al):An Ao 37 #[Ac #[Aa ⟨bs.toArray⟩,A7 Ah fm,A7 Ah d,A7 Ah l],A7 Ah i,A7 Ah en] V λe a=>e=Ag (.agg (Aw x))/\A1 V a:=h▸Lk V bs fm d l i en
theorem MB(bs:A2)(fm d l:Int)(V:Al)(k:Nat):An Ao 57 #[Ac #[Aa ⟨bs.toArray⟩,A7 Ah fm,A7 Ah d,A7 Ah l],A7 Ah k] V λe a=>e=Ag (Ad (Bo bs l k))/\A1 V a:=Q6 V bs fm d l k
theorem MC(bs:A2)(fm d l:Int)(V:Al)(k:Nat)(a:Int):An Ao 37 #[Ac #[Aa ⟨bs.toArray⟩,A7 Ah fm,A7 Ah d,A7 Ah l],A7 Ah k,A7 Ah a] V λe b=>e=Ag (.agg (Aw (BM bs l k a)))/\A1 V b:=Lk V bs fm d l k a
theorem Dd{rest:List Oper}(x y:Nat)(c:o.guard=Ak)(d:o.op=.store 64 (.tmp x) (.tmp y))(g:Nat)(F:Int×Int)(e:a.eval (.tmp x)=A9 (Aj ⟨g,0,Ak⟩))(f:a.eval (.tmp y)=.agg (Aw F))(b:w.heap[g]?=Aj (Af (Aw (0,0)) 64))(h:wpList Ao ops Q rest (a.put o.dst undef) (w.setRow g (Aw F))):wpList Ao ops Q (o::rest) a w :=
 Bg c _ _ _ d g _ e f _ _ b (Hd _) rfl (Kt _) h
theorem tk(i d:Nat)(v:Am)(hi:ops[i]?=Aj oi)(b:(Region.noSelect ops&&Region.free md ops listed i&&(Region.ready md ops listed).contains i&&oi.dst==Aj d&&Region.wanted oi (yielded ops a.tmps))=true)(e:∀c a w,Q (.panic c) (a.put (Aj d) v) w->Q (.panic c) a w)(g:∀Z,S Z->(execOp a.eval oi).run P Z=.ok (.value v) Z)(f:S w)(h:wpAnyH P md ops Q S fuel (listed.setIfInBounds i true) (a.put (Aj d) v) w):wpAnyH P md ops Q S (fuel+1) listed a w:=by
 simp only[Ch]at b;exact Nd (Aj d) hi b.1.1.1.1 b.1.1.1.2 b.1.1.2 e (by simpa using b.1.2) (.inl ⟨b.2,g⟩) f h
theorem pG(i b:Nat)(v:Am)(m:(Region.noSelect ops&&Region.free md ops listed i&&(Region.ready md ops listed).contains i,ops[i]?.map λo=>(o.dst,Region.wanted o (yielded ops a.tmps),λZ=>(execOp a.eval o).run P Z))=(true,Aj (Aj b,true,λZ=>.ok (.value v) Z)))(k:∀c a w,Q (.panic c) (a.put (Aj b) v) w->Q (.panic c) a w)(l:S w)(h:wpAnyH P md ops Q S fuel (listed.setIfInBounds i true) (a.put (Aj b) v) w):wpAnyH P md ops Q S (fuel+1) listed a w:=by
 obtain⟨d,g⟩:=Eh m;obtain⟨o,n,e⟩:=MP.1 g;obtain⟨e,f⟩:=Eh e;obtain⟨f,j⟩:=Eh f;simp only[Ch]at d;exact Nd (Aj b) n d.1.1 d.1.2 d.2 k e (.inl ⟨f,λZ _=>congrFun j Z⟩) l h
theorem EH(i d:Nat)(hi:ops[i]?=Aj oi)(b:(Region.noSelect ops&&Region.free md ops listed i&&(Region.ready md ops listed).contains i&&oi.dst==Aj d && !Region.wanted oi (yielded ops a.tmps))=true)(e:∀c a w,Q (.panic c) (a.put (Aj d) undef) w->Q (.panic c) a w)(f:S w)(h:wpAnyH P md ops Q S fuel (listed.setIfInBounds i true) (a.put (Aj d) undef) w):wpAnyH P md ops Q S (fuel+1) listed a w:=by
 simp only[Ch,OD]at b;exact Nd (Aj d) hi b.1.1.1.1 b.1.1.1.2 b.1.1.2 e (by simpa using b.1.2) (.inr ⟨b.2,rfl⟩) f h
theorem yF(x:Nat)(a:W.heap[g]?=Aj (Af (Aw F) 64))(b:o.op=.load 64 (.tmp x))(c:ev (.tmp x)=A9 (Aj ⟨g,0,Ak⟩)):(execOp ev o).run Ao W=.ok (.value (.agg (Aw F))) W :=
 Q9 _ _ b g c _ _ _ _ a underlying64 rfl (Hd _)
theorem yI(x:Nat)(a:W.heap[g]?=Aj (Af (AF bs fm d l) 102))(b:o.op=.load 102 (.tmp x))(c:ev (.tmp x)=A9 (Aj ⟨g,0,Ak⟩)):(execOp ev o).run Ao W=.ok (.value (Ac #[Aa ⟨bs.toArray⟩,A7 Ah fm,A7 Ah d,A7 Ah l])) W :=
 Q9 _ _ b g c _ _ _ _ a underlying102 rfl O3
theorem pH(h:fn.results=#[.tmp u,.cell p 64])(a:w.heap[g]?=Aj (Af (Aw F) 64))(v:Am)(b:tmps.getD p undef=A9 (Aj ⟨g,0,Ak⟩))(c:tmps.getD u undef=v):(results fn tmps).run Ao w=.ok (Ab #[v,.agg (Aw F)]) w :=
 pF h _ _ g _ _ _ _ b a underlying64 rfl (Hd _) v c
theorem Is{A:Act}{B:Prop}(h:fn.results=#[.tmp u,.cell p 64])(b:w.heap[g]?=Aj (Af (Aw F) 64)/\B)(v:Am)(c:A.tmps.getD p undef=A9 (Aj ⟨g,0,Ak⟩))(d:A.tmps.getD u undef=v)(a:A.defers=[])(k:R (Ag (Ab #[v,.agg (Aw F)])) w):bodyPost Ao fn R .ret A w:=Bd (pH h b.1 v c d) a k
theorem Qa(W:Al)(bs:A2)(fm d l:Int):Hid (Gd W (AF bs fm d l) (W.heap.size+1) ((W.alloc (Af #[Aa ⟨bs.toArray⟩,A7 Ah fm,A7 Ah d,A7 Ah l] 102)).alloc (Af #[A7 Ah 0,A7 Ah 0] 64))):=Mz W _
theorem O5{c:UInt8}{v:Nat}(a:bs[i]?=Aj c)(b:c.toNat=v)(V:Al):(Instr.index 9 (Aa ⟨bs.toArray⟩) (A7 Ah (i:Int))).run Ao V=.ok (A7 Ai v) V:=b▸D6 bs i c a V
theorem Qb(W:Al)(bs:A2)(fm d l lim:Int)(i:Nat)(w:A2)(hw:w.length<=100)(hl:Lm bs l lim)(hi:AS bs lim i)(hb:bs.length<=281474976710656):An Ao 88 #[.agg (AF bs fm d l),A7 Ah i,Aa ⟨w.toArray⟩] W λe T=>e=Ag (MA (Ba bs lim w i))/\A1 W T:=by
 have af:=Ks w;obtain⟨R,B⟩:∃R,Hid (Ba bs lim w i=R):=⟨_,show _=_ from rfl⟩
 rw[B.out];have ad:=hi.1;have A:=Ap hl;have y:=Ap hi;have U:=MB bs fm d l;have C:∀(V:Al) (k:Nat) (O:Int),An Ao 37 #[Ac #[Aa ⟨bs.toArray⟩,A7 Ah fm,A7 Ah d,A7 Ah l],A7 Ah k,A7 Ah O] V λe T=>e=Ag (YP (BM bs l k O))/\A1 V T:=λV k O=>Lk V bs fm d l k O;clear hl hi;unfold AF;go_enter func88,ntmps88;go_wp2
 go_loopg[8] w.length (λg ab wr=>∃k:Nat,ab=A7 Ah k/\Hid (k+g=w.length)/\Hid (Gd W (AF bs fm d l) (W.heap.size+1) wr)/\Hid (Ba bs lim (w.drop k) (i+k)=R)/\Hid (AS bs lim (i+k)))
 case atStart=>exact⟨0,rfl,by show _=_;omega,Mz _ _,B,y⟩
 case round =>
  clear B y;obtain⟨k,rfl,E,q,B,y⟩:=hrel;have ae:=y.1;obtain⟨L,M,c2,N⟩:=BF q.box;have o:=λV=>U V (i+k);have r:((i+k:Nat):Int)=(i:Int)+(k:Int):=by omega
  rw[r]at o
  cases gk with
  |zero =>
   have v:Hid (R=.ok ((),i+w.length)):=by
    show _=_;have h1:=E.out;rw[<-B.out,J9 (by omega),Ba,show k=w.length by omega]
   have H:¬(k:Int)<(w.length:Int):=by have:=E.out;omega
   have t:=F3 q Bb (0,0);clear B U o C
   go_wp2_with(first
    |(refine Bg rfl 64 _ _ rfl (W.heap.size+1) (Aw (0,0)) rfl rfl 64 (Aw (0,0)) q.flt (Hd _) rfl (Kt _) ?_))
   refine Is results88 t _ rfl rfl rfl ⟨?_,t.2⟩;rw[v.out];simp[MA]
  |succ g =>
   have G:k<w.length:=by have:=E.out;omega
   have H:(k:Int)<(w.length:Int):=by omega
   obtain⟨x,Y⟩:∃x,x=w[k]:=⟨_,rfl⟩
   have J:w[k]?=Aj x:=by rw[Y];exact AY G
   have P:=λV=>D6 w k x J V;have j:=B.out;rw[F5 G,<-Y,Ba]at j;clear B Y U;have b:(λV:Al=>V.heap[W.heap.size]?=Aj (Af (AF bs fm d l) 102)) {wr with drawn:=wr.drawn+1}:=q.box
   cases m:bs[i+k]? with
   |none =>
    rw[m]at j;simp only[]at j;rw[Ir m]at o;have p:=λV=>C V (i+k) 9;rw[JM y.1 m,r]at p;have v:Hid (R=.error (9,(i:Int)+(k:Int))):=by show _=_;rw[<-j,r]
    clear j m C r P J;go_wp2;refine Dr (S:=λV=>V.heap[W.heap.size]?=Aj (Af (AF bs fm d l) 102)) (by kernel_rfl) ?_;refine AD 0 15 (.agg (AF bs fm d l)) rfl (λZ f=>yI 3 f rfl rfl) b ?_;refine Au 1 16 (A7 Ah i) b ?_;refine Au 2 17 (A7 Ah k) b ?_;refine AD 3 18 (A7 Ah ((i:Int)+(k:Int))) rfl (λZ f=>?y3) b ?_
    case y3=>(go_simp;exact FW _ (by omega))
    refine Bc 4 (λK s=>?_);go_simp;refine(o _).mono ?_;rintro e h ⟨rfl,n⟩;simp only[];have a:=(n.block _ (At b)).trans b;refine s.out _ _ a (λ_=>?_);clear s;refine Au 5 20 (Ad true) a ?_;refine Au 6 21 (Ad true) a ?_;refine EH 7 22 rfl (by kernel_rfl) DC a ?_;refine EH 8 23 rfl (by kernel_rfl) DC a ?_;refine EH 9 24 rfl (by kernel_rfl) DC a ?_;refine EH 10 25 rfl (by kernel_rfl) DC a ?_;refine EH 11 26 rfl (by kernel_rfl) DC a ?_;refine EH 12 27 rfl (by kernel_rfl) DC a ?_;refine EH 13 28 rfl (by kernel_rfl) DC a ?_;refine EH 14 29 rfl (by kernel_rfl) DC a ?_;refine EH 15 30 rfl (by kernel_rfl) DC a ?_;refine EH 16 31 rfl (by kernel_rfl) DC a ?_;refine Au 17 32 (Ad true) a ?_;refine Bw ?_;go_simp;clear b o E G H A L M c2 N
    go_wp2_with(first
     |(go_at_call 37;refine(p _).mono ?_;clear p;rintro e w3 ⟨rfl,D⟩)
     |(refine Bg rfl 64 _ _ rfl (W.heap.size+1) (Aw (9,(i:Int)+(k:Int))) rfl rfl 64 (Aw (0,0)) ((q.drew.next n).next D).flt (Hd _) rfl (Kt _) ?_)
     |(refine B3 rfl 102 _ rfl W.heap.size rfl _ _ _ _ a underlying102 rfl O3 ?_))
    have t:=F3 (q.drew.next n) D (9,(i:Int)+(k:Int));refine Is results88 t _ rfl rfl rfl ⟨?_,t.2⟩;rw[v.out];rfl
   |some c =>
    rw[m]at j;simp only[]at j;have Q:=λV=>D6 bs (i+k) c m V;rw[r]at Q;by_cases u:((i+k:Nat):Int)=lim
    ·rw[As u]at j;rw[Hz A m u]at o;have p:=λV=>C V (i+k) 9;rw[GB A m u,r]at p;have v:Hid (R=.error (8,(i:Int)+(k:Int))):=by show _=_;rw[<-j,r]
     clear j m u C r P J Q;go_wp2;refine Dr (S:=λV=>V.heap[W.heap.size]?=Aj (Af (AF bs fm d l) 102)) (by kernel_rfl) ?_;refine AD 0 15 (.agg (AF bs fm d l)) rfl (λZ f=>yI 3 f rfl rfl) b ?_;refine Au 1 16 (A7 Ah i) b ?_;refine Au 2 17 (A7 Ah k) b ?_;refine AD 3 18 (A7 Ah ((i:Int)+(k:Int))) rfl (λZ f=>?y3) b ?_
     case y3=>(go_simp;exact FW _ (by omega))
     refine Bc 4 (λK s=>?_);go_simp;refine(o _).mono ?_;rintro e h ⟨rfl,n⟩;simp only[];have a:=(n.block _ (At b)).trans b;refine s.out _ _ a (λ_=>?_);clear s;refine Au 5 20 (Ad true) a ?_;refine Au 6 21 (Ad true) a ?_;refine EH 7 22 rfl (by kernel_rfl) DC a ?_;refine EH 8 23 rfl (by kernel_rfl) DC a ?_;refine EH 9 24 rfl (by kernel_rfl) DC a ?_;refine EH 10 25 rfl (by kernel_rfl) DC a ?_;refine EH 11 26 rfl (by kernel_rfl) DC a ?_;refine EH 12 27 rfl (by kernel_rfl) DC a ?_;refine EH 13 28 rfl (by kernel_rfl) DC a ?_;refine EH 14 29 rfl (by kernel_rfl) DC a ?_;refine EH 15 30 rfl (by kernel_rfl) DC a ?_;refine EH 16 31 rfl (by kernel_rfl) DC a ?_;refine Au 17 32 (Ad true) a ?_;refine Bw ?_;go_simp;clear b o E G H A L M c2 N
     go_wp2_with(first
      |(go_at_call 37;refine(p _).mono ?_;clear p;rintro e w3 ⟨rfl,D⟩)
      |(refine Bg rfl 64 _ _ rfl (W.heap.size+1) (Aw (8,(i:Int)+(k:Int))) rfl rfl 64 (Aw (0,0)) ((q.drew.next n).next D).flt (Hd _) rfl (Kt _) ?_)
      |(refine B3 rfl 102 _ rfl W.heap.size rfl _ _ _ _ a underlying102 rfl O3 ?_))
     have t:=F3 (q.drew.next n) D (8,(i:Int)+(k:Int));refine Is results88 t _ rfl rfl rfl ⟨?_,t.2⟩;rw[v.out];rfl
    rw[Aq u]at j;rw[JN A y m u]at o;have p:=λV=>C V (i+k) 9;rw[Hc A y m u,r]at p;have z:Hid (AS bs lim (i+(k+1))):=DZ y m u;have ac:=B9 m;by_cases F:c=x
    ·rw[As F]at j;have I:((c.toNat:Int)==(x.toNat:Int))=true:=by rw[F];simp
     have v:Hid (Ba bs lim (w.drop (k+1)) (i+(k+1))=R):=j;have HG:Hid ((k+1)+g=w.length):=by show _=_;have:=E.out;omega
     clear j m u C p r J F;go_wp2;refine Dr (S:=λV=>V.heap[W.heap.size]?=Aj (Af (AF bs fm d l) 102)) (by kernel_rfl) ?_;refine AD 0 15 (.agg (AF bs fm d l)) rfl (λZ f=>yI 3 f rfl rfl) b ?_;refine Au 1 16 (A7 Ah i) b ?_;refine Au 2 17 (A7 Ah k) b ?_;refine AD 3 18 (A7 Ah ((i:Int)+(k:Int))) rfl (λZ f=>?y3) b ?_
     case y3=>(go_simp;exact FW _ (by omega))
     refine Bc 4 (λK s=>?_);go_simp;refine(o _).mono ?_;rintro e h ⟨rfl,n⟩;simp only[];have a:=(n.block _ (At b)).trans b;refine s.out _ _ a (λ_=>?_);clear s;refine Au 5 20 (Ad false) a ?_;refine Au 6 21 (Ad false) a ?_;refine Au 7 22 (A9 (Aj ⟨W.heap.size,0,Ak⟩)) a ?_;refine AD 8 23 (Aa ⟨bs.toArray⟩) rfl (λZ f=>?y8) a ?_
     case y8=>(have X:=Ar f 0;unfold AF at X;go_simp)
     refine Au 9 24 (A7 Ah i) a ?_;refine Au 10 25 (A7 Ah k) a ?_;refine AD 11 26 (A7 Ah ((i:Int)+(k:Int))) rfl (λZ f=>?y11) a ?_
     case y11=>(go_simp;exact FW _ (by omega))
     refine AD 12 27 (A7 Ai c.toNat) rfl (λZ f=>?y12) a ?_
     case y12=>(go_simp)
     refine Au 13 28 (Aa ⟨w.toArray⟩) a ?_;refine Au 14 29 (A7 Ah k) a ?_;refine AD 15 30 (A7 Ai x.toNat) rfl (λZ f=>?y15) a ?_
     case y15=>(go_simp)
     refine AD 16 31 (Ad (false)) rfl (λZ f=>?y16) a ?_
     case y16=>(go_simp;simpa using I)
     refine Au 17 32 (Ad (false)) a ?_;refine Bw ?_;go_simp;clear b o E H A L M c2 N Q P I;go_wp2;go_roundg g
     case measure=>omega
     case rel=>exact⟨k+1,by go_num,HG,q.drew.next n,v,z⟩
    rw[Aq F]at j;have I:((c.toNat:Int)==(x.toNat:Int))=false:=by
     have:¬c.toNat=x.toNat:=λaa=>F (K1.1 aa);simp;omega
    have v:Hid (R=.error (9,(i:Int)+(k:Int))):=by show _=_;rw[<-j];simp
    clear j m u C r J F z;go_wp2;refine Dr (S:=λV=>V.heap[W.heap.size]?=Aj (Af (AF bs fm d l) 102)) (by kernel_rfl) ?_;refine AD 0 15 (.agg (AF bs fm d l)) rfl (λZ f=>yI 3 f rfl rfl) b ?_;refine Au 1 16 (A7 Ah i) b ?_;refine Au 2 17 (A7 Ah k) b ?_;refine AD 3 18 (A7 Ah ((i:Int)+(k:Int))) rfl (λZ f=>?y3) b ?_
    case y3=>(go_simp;exact FW _ (by omega))
    refine Bc 4 (λK s=>?_);go_simp;refine(o _).mono ?_;rintro e h ⟨rfl,n⟩;simp only[];have a:=(n.block _ (At b)).trans b;refine s.out _ _ a (λ_=>?_);clear s;refine Au 5 20 (Ad false) a ?_;refine Au 6 21 (Ad false) a ?_;refine Au 7 22 (A9 (Aj ⟨W.heap.size,0,Ak⟩)) a ?_;refine AD 8 23 (Aa ⟨bs.toArray⟩) rfl (λZ f=>?y8) a ?_
    case y8=>(have X:=Ar f 0;unfold AF at X;go_simp)
    refine Au 9 24 (A7 Ah i) a ?_;refine Au 10 25 (A7 Ah k) a ?_;refine AD 11 26 (A7 Ah ((i:Int)+(k:Int))) rfl (λZ f=>?y11) a ?_
    case y11=>(go_simp;exact FW _ (by omega))
    refine AD 12 27 (A7 Ai c.toNat) rfl (λZ f=>?y12) a ?_
    case y12=>(go_simp)
    refine Au 13 28 (Aa ⟨w.toArray⟩) a ?_;refine Au 14 29 (A7 Ah k) a ?_;refine AD 15 30 (A7 Ai x.toNat) rfl (λZ f=>?y15) a ?_
    case y15=>(go_simp)
    refine AD 16 31 (Ad (true)) rfl (λZ f=>?y16) a ?_
    case y16=>(go_simp;simpa using I)
    refine Au 17 32 (Ad (true)) a ?_;refine Bw ?_;go_simp;clear Q P I;clear b o E G H A L M c2 N
    go_wp2_with(first
     |(go_at_call 37;refine(p _).mono ?_;clear p;rintro e w3 ⟨rfl,D⟩)
     |(refine Bg rfl 64 _ _ rfl (W.heap.size+1) (Aw (9,(i:Int)+(k:Int))) rfl rfl 64 (Aw (0,0)) ((q.drew.next n).next D).flt (Hd _) rfl (Kt _) ?_)
     |(refine B3 rfl 102 _ rfl W.heap.size rfl _ _ _ _ a underlying102 rfl O3 ?_))
    have t:=F3 (q.drew.next n) D (9,(i:Int)+(k:Int));refine Is results88 t _ rfl rfl rfl ⟨?_,t.2⟩;rw[v.out];rfl
theorem qa{ty ty2:TypeId}(h:fn.results=#[.cell p ty,.tmp u,.cell q ty2])(b:A4)(w:Al)(g i:Nat)(t l:TypeId)(cs c:A4)(j k:Nat×Nat)(d f:TypeDesc)(y:b.getD p undef=A9 (Aj ⟨g,0,Ak⟩))(r:w.heap[g]?=Aj (Af cs t j))(A:P.underlying ty=Aj d)(n:(match d with|.struct _|.array _ _=>true|_=>false)=true)(hi:(P.info? ty).map (·.size)=Aj cs.size)(z:b.getD q undef=A9 (Aj ⟨i,0,Ak⟩))(s:w.heap[i]?=Aj (Af c l k))(B:P.underlying ty2=Aj f)(o:(match f with|.struct _|.array _ _=>true|_=>false)=true)(x:(P.info? ty2).map (·.size)=Aj c.size)(v:Am)(C:b.getD u undef=v):(results fn b).run P w=.ok (Ab #[.agg cs,v,.agg c]) w:=by
 have e:(results fn b).run P w=((asAddr (b.getD p undef)).run P w).andThen λa E=>((loadVar ty a).run P E).andThen λv F=>((asAddr (b.getD q undef)).run P F).andThen λm G=>((loadVar ty2 m).run P G).andThen λD H=>.ok (Ab #[v,b.getD u undef,D]) H:=by
  simp only[results,h];simp[D8,Result.andThen]
 subst C;rw[e,y,z];simp only[asAddr,E4,Dl,FZ w g t ty cs j d r A n hi,FZ w i l ty2 c k f s B o x]
def AK:Am:=A8 Ak 0 0
def Ax(kind n:Int)(s:ByteArray)(ks vs:Am):A4:=#[A7 Ah kind,A7 Ah n,.string s,ks,vs]
def AR:A4:=Ax 0 0 ⟨#[]⟩ AK AK
theorem Lo:(prog.info? 62).map (·.size)=Aj 5:=by kernel_rfl
theorem Iu(k n:Int)(s:ByteArray)(ks a:Am):(prog.info? 62).map (·.size)=Aj (Ax k n s ks a).size:=Lo
structure FG(W:World)(A:A4)(V:World):Prop where
 box:V.heap[W.heap.size]?=some (.cells A 102)
 th:V.heap[W.heap.size+1]?=some (.cells AR 62)
 flt:V.heap[W.heap.size+2]?=some (.cells (Aw (0,0)) 64)
 below:A1 W V
theorem FG.next(h:FG W A V)(a:A1 V V'):FG W A V' :=
 ⟨(a.block _ (At h.box)).trans h.box,(a.block _ (At h.th)).trans h.th,(a.block _ (At h.flt)).trans h.flt,h.below.trans (a.mono h.below.size)⟩
theorem FG.drew(h:FG W A V):FG W A V.drew:=⟨h.box,h.th,h.flt,h.below.drew⟩
theorem Z3(W:Al)(A:A4):FG W A (((W.alloc (Af A 102)).alloc (Af AR 62)).alloc (Af (Aw (0,0)) 64)) :=
 ⟨((AL _ _ _ (by simp;omega)).trans (AL _ _ _ (by simp))).trans (Ay _ _),(AL _ _ _ (by simp)).trans (by have:=Ay (W.alloc (Af A 102)) (Af AR 62);simpa using this),by have:=Ay ((W.alloc (Af A 102)).alloc (Af AR 62)) (Af (Aw (0,0)) 64);simpa using this,((AH).alloc (by simp) _).alloc (by simp;omega) _⟩
theorem Dy(h:FG W A V)(b:A1 V V')(y:A4)(x:Int×Int):((V'.setRow (W.heap.size+1) y).setRow (W.heap.size+2) (Aw x)).heap[W.heap.size+1]?=Aj (Af y 62)/\((V'.setRow (W.heap.size+1) y).setRow (W.heap.size+2) (Aw x)).heap[W.heap.size+2]?=Aj (Af (Aw x) 64)/\A1 W ((V'.setRow (W.heap.size+1) y).setRow (W.heap.size+2) (Aw x)):=by
 have a:=h.next b
 refine⟨?_,?_,Bu (Bu a.below (by omega) _) (by omega) _⟩
 ·rw[BO _ _ _ _ (by omega)];exact B4 _ _ _ _ _ _ a.th
 exact B4 _ _ _ _ _ _ (sx (by omega) a.flt)
theorem EI(h:FG W A V)(a:A1 V V')(y:A4):(V'.setRow (W.heap.size+1) y).heap[W.heap.size+2]?=Aj (Af (Aw (0,0)) 64):=sx (by omega) (h.next a).flt
theorem TF(k n:Int)(s:ByteArray)(a b:A5)(i j p q:Nat):(Ax k n s (A8 a i j) (A8 b p q)).all (·.oneCell')=true:=by simp[Ax,Value.oneCell']
def Z4(r:A6 Int)(e:Ending):Prop:=match r with
 |.ok (z,q)=>e=Ag (Ab #[.agg (Ax 3 z ⟨#[]⟩ AK AK),A7 Ah q,.agg (Aw (0,0))])
 |.error f=>e=Ag (Ab #[.agg AR,A7 Ah 0,.agg (Aw f)])
theorem qb(num d:Nat)(a:d<=9):(-(num:Int)<(-9223372036854775808+(d:Int)).tdiv 10)↔(9223372036854775808-d)/10<num:=by
 have e:(-9223372036854775808+(d:Int)) = -((9223372036854775808-d:Nat):Int):=by omega
 rw[e,Int.neg_tdiv,show((10:Int))=((10:Nat):Int)from rfl,<-Int.ofNat_tdiv];omega
def Qf(T:A4):Prop:=T.size=5/\T.all (·.oneCell')=true
theorem thg{a b:A5}{j p q:Nat}:Qf (Ax k n s (A8 a i j) (A8 b p q)):=⟨rfl,TF _ _ _ _ _ _ _ _ _⟩
theorem O9{rest:List Oper}(x y:Nat)(d:o.guard=Ak)(e:o.op=.store 62 (.tmp x) (.tmp y))(g:Nat)(T:A4)(f:a.eval (.tmp x)=A9 (Aj ⟨g,0,Ak⟩))(i:a.eval (.tmp y)=.agg T)(c:w.heap[g]?=Aj (Af AR 62))(b:Qf T)(h:wpList Ao ops Q rest (a.put o.dst undef) (w.setRow g T)):wpList Ao ops Q (o::rest) a w :=
 Bg d _ _ _ e g _ f i _ _ c (by rw[b.1];exact Lo) (by rw[b.1];rfl) b.2 h
theorem qc(h:fn.results=#[.cell p 62,.tmp u,.cell q 64])(a:w.heap[g]?=Aj (Af (Ax k n s ks vs) 62))(b:w.heap[g2]?=Aj (Af (Aw F) 64))(v:Am)(c:tmps.getD p undef=A9 (Aj ⟨g,0,Ak⟩))(d:tmps.getD q undef=A9 (Aj ⟨g2,0,Ak⟩))(e:tmps.getD u undef=v):(results fn tmps).run Ao w=.ok (Ab #[.agg (Ax k n s ks vs),v,.agg (Aw F)]) w :=
 qa h _ _ g g2 _ _ _ _ _ _ _ _ c a underlying62 rfl (Iu _ _ _ _ _) d b underlying64 rfl (Hd _) v e
theorem Dz{A:Act}{B:Prop}(h:fn.results=#[.cell p 62,.tmp u,.cell q 64])(a:w.heap[g]?=Aj (Af (Ax k n s ks vs) 62)/\w.heap[g2]?=Aj (Af (Aw F) 64)/\B)(v:Am)(c:A.tmps.getD p undef=A9 (Aj ⟨g,0,Ak⟩))(d:A.tmps.getD q undef=A9 (Aj ⟨g2,0,Ak⟩))(e:A.tmps.getD u undef=v)(b:A.defers=[])(f:R (Ag (Ab #[.agg (Ax k n s ks vs),v,.agg (Aw F)])) w):bodyPost Ao fn R .ret A w:=Bd (qc h a.1 a.2.1 v c d e) b f
theorem Kv(W:Al)(bs:A2)(fm d l:Int):Hid (FG W (AF bs fm d l) (((W.alloc (Af #[Aa ⟨bs.toArray⟩,A7 Ah fm,A7 Ah d,A7 Ah l] 102)).alloc (Af AR 62)).alloc (Af (Aw (0,0)) 64))):=Z3 W _
theorem yT(x:Nat)(a:W.heap[g]?=Aj (Af (Ax k n s ks vs) 62))(b:o.op=.load 62 (.tmp x))(c:ev (.tmp x)=A9 (Aj ⟨g,0,Ak⟩)):(execOp ev o).run Ao W=.ok (.value (.agg (Ax k n s ks vs))) W :=
 Q9 _ _ b g c _ _ _ _ a underlying62 rfl (Iu _ _ _ _ _)
def qd(r:A6 Nat):Am:=match r with
 |.ok (x,_)=>Ab #[A7 Ah x,.agg (Aw (0,0))]
 |.error f=>Ab #[A7 Ah 0,.agg (Aw f)]
theorem Z5(W:Al)(bs:A2)(fm d l lim:Int)(i:Nat)(Q:Lm bs l lim)(hi:AS bs lim i)(hb:bs.length<=281474976710656):An Ao 168 #[.agg (AF bs fm d l),A7 Ah i] W λe S=>e=Ag (qd (Ce bs lim 4 i 0))/\A1 W S:=by
 obtain⟨R,x⟩:∃R,Hid (Ce bs lim 4 i 0=R):=⟨_,show _=_ from rfl⟩
 rw[x.out];have ac:=hi.1;have I:=Ap Q;have D:=Ap hi;have F:=MB bs fm d l;have E:=MC bs fm d l;clear Q hi;unfold AF;go_enter func168,ntmps168;go_wp2
 go_loopg[6,7] 4 (λg Z Y wr=>∃k o:Nat,Y=A7 Ah k/\Z=A7 Ah o/\Hid (k+g=i+4/\i<=k)/\Hid (o<=65535/\(1<=g->o*16+15<=65535)/\(2<=g->o*256+255<=65535)/\(3<=g->o*4096+4095<=65535)/\(4<=g->o=0))/\Hid (Gd W (AF bs fm d l) (W.heap.size+1) wr)/\Hid (Ce bs lim g k o=R)/\Hid (AS bs lim k))
 case atStart=>exact⟨i,0,rfl,rfl,⟨rfl,AB _⟩,⟨by omega,by omega,by omega,by omega,λ_=>rfl⟩,Mz _ _,x,D⟩
 case round =>
  clear x D;obtain⟨k,o,rfl,rfl,u,O,v,x,D⟩:=hrel;have U:=D.1;have ae:=O.out.1;obtain⟨a,b,c2,f⟩:=BF v.box;have m:=λV=>F V k
  cases gk with
  |zero =>
   have X:¬(k:Int)<(i:Int)+4:=by have:=u.out;omega
   have y:Hid (R=.ok (o,k)):=by show _=_;rw[<-x.out,Ce]
   clear x F m E u
   go_wp2_with(first
    |(refine Dd 5 72 rfl rfl (W.heap.size+1) (0,0) rfl rfl ?_ ?_;exact v.flt))
   have n:=F3 v Bb (0,0);refine Is results168 n _ rfl rfl rfl ⟨?_,n.2⟩;rw[y.out];rfl
  |succ g =>
   have X:(k:Int)<(i:Int)+4:=by have:=u.out;omega
   have s:=x.out;rw[Ce]at s
   cases t:bs[k]? with
   |none =>
    rw[t]at s;simp only[]at s;have r:=λV=>E V k 9;rw[Ir t]at m;rw[JM U t]at r;have y:=Ap s.symm;clear s t E F x u
    go_wp2_with(first
     |(go_at_call 57;refine BN (m _) v.next (λ_ h=>h.box) ?_;clear m a b c2 f;intro C p a b c2 f)
     |(go_at_call 37;refine BN (r _) p.next (λ_ h=>h.box) ?_;clear r a b c2 f;intro H q a b c2 f)
     |(refine Dd 5 22 rfl rfl (W.heap.size+1) (9,(k:Int)) rfl rfl ?_ ?_;exact q.flt))
    have n:=F3 q Bb (9,(k:Int));refine Is results168 n _ rfl rfl rfl ⟨?_,n.2⟩;rw[y.out];rfl
   |some c =>
    rw[t]at s;simp only[]at s;have T:=λV=>D6 bs k c t V;have ad:=B9 t;have r:=λV=>E V k 9;by_cases z:(k:Int)=lim
    ·rw[As z]at s;rw[Hz I t z]at m;rw[GB I t z]at r;have y:=Ap s.symm;clear s t E F x u z T
     go_wp2_with(first
      |(go_at_call 57;refine BN (m _) v.next (λ_ h=>h.box) ?_;clear m a b c2 f;intro C p a b c2 f)
      |(go_at_call 37;refine BN (r _) p.next (λ_ h=>h.box) ?_;clear r a b c2 f;intro H q a b c2 f)
      |(refine Dd 5 22 rfl rfl (W.heap.size+1) (8,(k:Int)) rfl rfl ?_ ?_;exact q.flt))
     have n:=F3 q Bb (8,(k:Int));refine Is results168 n _ rfl rfl rfl ⟨?_,n.2⟩;rw[y.out];rfl
    rw[Aq z]at s;rw[JN I D t z]at m;rw[Hc I D t z]at r;have J:=Ap (DZ D t z)
    cases j:G4 c with
    |none =>
     rw[j]at s;have y:Hid (R=.error (9,(k:Int))):=s.symm;have A:(c.toNat:Int)<48\/(57<(c.toNat:Int)/\(c.toNat:Int)<65)\/(70<(c.toNat:Int)/\(c.toNat:Int)<97)\/102<(c.toNat:Int):=by
      unfold G4 Cm at j;split at j
      ·cases j
      rename_i h1
      split at j
      ·cases j
      rename_i h2
      split at j
      ·cases j
      rename_i P
      have aa:¬(48<=(c.toNat:Int)/\(c.toNat:Int)<=57):=λh=>h1 (Bs h);omega
     clear s t j E F x u z J;rcases A with A|⟨A,K⟩|⟨A,K⟩|A
     ·go_wp2_with(first
       |(go_at_call 57;refine BN (m _) v.next (λ_ h=>h.box) ?_;clear m a b c2 f;intro C p a b c2 f)
       |(go_at_call 37;refine BN (r _) p.next (λ_ h=>h.box) ?_;clear r a b c2 f;intro H q a b c2 f)
       |(refine Dd 5 29 rfl rfl (W.heap.size+1) (9,(k:Int)) rfl rfl ?_ ?_;exact q.flt))
      have n:=F3 q Bb (9,(k:Int));refine Is results168 n _ rfl rfl rfl ⟨?_,n.2⟩;rw[y.out];rfl
     ·go_wp2_with(first
       |(go_at_call 57;refine BN (m _) v.next (λ_ h=>h.box) ?_;clear m a b c2 f;intro C p a b c2 f)
       |(go_at_call 37;refine BN (r _) p.next (λ_ h=>h.box) ?_;clear r a b c2 f;intro H q a b c2 f)
       |(refine Dd 5 29 rfl rfl (W.heap.size+1) (9,(k:Int)) rfl rfl ?_ ?_;exact q.flt))
      have n:=F3 q Bb (9,(k:Int));refine Is results168 n _ rfl rfl rfl ⟨?_,n.2⟩;rw[y.out];rfl
     ·go_wp2_with(first
       |(go_at_call 57;refine BN (m _) v.next (λ_ h=>h.box) ?_;clear m a b c2 f;intro C p a b c2 f)
       |(go_at_call 37;refine BN (r _) p.next (λ_ h=>h.box) ?_;clear r a b c2 f;intro H q a b c2 f)
       |(refine Dd 5 29 rfl rfl (W.heap.size+1) (9,(k:Int)) rfl rfl ?_ ?_;exact q.flt))
      have n:=F3 q Bb (9,(k:Int));refine Is results168 n _ rfl rfl rfl ⟨?_,n.2⟩;rw[y.out];rfl
     go_wp2_with(first
      |(go_at_call 57;refine BN (m _) v.next (λ_ h=>h.box) ?_;clear m a b c2 f;intro C p a b c2 f)
      |(go_at_call 37;refine BN (r _) p.next (λ_ h=>h.box) ?_;clear r a b c2 f;intro H q a b c2 f)
      |(refine Dd 5 29 rfl rfl (W.heap.size+1) (9,(k:Int)) rfl rfl ?_ ?_;exact q.flt))
     have n:=F3 q Bb (9,(k:Int));refine Is results168 n _ rfl rfl rfl ⟨?_,n.2⟩;rw[y.out];rfl
    |some w =>
     rw[j]at s;have M:Hid (Ce bs lim g (k+1) (o*16+w)=R):=s;have N:=Pc j;have L:Hid (o*16+w<=65535/\(1<=g->(o*16+w)*16+15<=65535)/\(2<=g->(o*16+w)*256+255<=65535)/\(3<=g->(o*16+w)*4096+4095<=65535)/\(4<=g->o*16+w=0)):=by
      have h:=O.out;have ab:g+1<=4:=by
       have:=u.out;omega
      refine⟨by omega,by omega,by omega,by omega,by omega⟩
     have P:(48<=(c.toNat:Int)/\(c.toNat:Int)<=57/\(w:Int)=(c.toNat:Int)-48)\/(97<=(c.toNat:Int)/\(c.toNat:Int)<=102/\(w:Int)=(c.toNat:Int)-87)\/(65<=(c.toNat:Int)/\(c.toNat:Int)<=70/\(w:Int)=(c.toNat:Int)-55):=by
      unfold G4 Cm at j;split at j
      ·rename_i h1
       have:=By h1;injection j with j;omega
      split at j
      ·injection j with j;omega
      split at j
      ·injection j with j;omega
      cases j
     clear s t j E r F x z O;rcases P with⟨A,K,B⟩|⟨A,K,B⟩|⟨A,K,B⟩
     ·have G:Hid _:=B;clear B N
      go_wp2_with(first
       |(go_at_call 57;refine BN (m _) v.next (λ_ h=>h.box) ?_;clear m a b c2 f;intro C p a b c2 f))
      go_roundg g
      case measure=>omega
      case rel=>exact⟨k+1,o*16+w,by go_num,congrArg (Value.int Ah) (by have:=G.out;omega),⟨by have:=u.out;omega,by have:=u.out;omega⟩,L,p,M,J⟩
     ·have G:Hid _:=B;clear B N
      go_wp2_with(first
       |(go_at_call 57;refine BN (m _) v.next (λ_ h=>h.box) ?_;clear m a b c2 f;intro C p a b c2 f))
      go_roundg g
      case measure=>omega
      case rel=>exact⟨k+1,o*16+w,by go_num,congrArg (Value.int Ah) (by have:=G.out;omega),⟨by have:=u.out;omega,by have:=u.out;omega⟩,L,p,M,J⟩
     have G:Hid _:=B;clear B N
     go_wp2_with(first
      |(go_at_call 57;refine BN (m _) v.next (λ_ h=>h.box) ?_;clear m a b c2 f;intro C p a b c2 f))
     go_roundg g
     case measure=>omega
     case rel=>exact⟨k+1,o*16+w,by go_num,congrArg (Value.int Ah) (by have:=G.out;omega),⟨by have:=u.out;omega,by have:=u.out;omega⟩,L,p,M,J⟩
end
end Go.Proofs.YtoegnhgofkhbnaaGreatDoor
