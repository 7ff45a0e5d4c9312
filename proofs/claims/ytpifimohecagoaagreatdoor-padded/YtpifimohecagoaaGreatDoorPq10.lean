import Derived.Lib.TrimUEq
import Derived.Shelf.Unicode.ValidAny
import Derived.Test.YtpifimohecagoaaGreatDoorPq07
import Derived.Test.YtpifimohecagoaaGreatDoorPq09
set_option maxRecDepth 100000
set_option maxHeartbeats 8000000
namespace Go.Proofs.YtpifimohecagoaaGreatDoor
open Go.Proofs.Tryz
variable{V W W' W0 w:World}{A N b0 base g hi i k lo m mn n size sz x:Nat}{P:Program}{a:Act}{s:ByteArray}{sv v:Value}{xs:List Value}{F:Fence}{Q:Exit->Act->World->Prop}{o:Oper}{K:Act->World->Prop}{q:Aut}{sts:List ((Nat->Nat)×Int×Int)}{f mf nf:Lit->Option Nat}
section
open Go.RowKit Go.Lib
def U8(W:World):Prop:=Utf8Tabs 4 5 W
theorem U8.below(h:U8 W)(a:Below W.heap.size W V):U8 V:=by
 refine⟨λc d=>?_,λi b=>⟨?_,?_⟩⟩
 ·have:=h.1 c d;exact(a.cell (p:=⟨_,c,none⟩) (block_lt_of_cell this)).trans this
 ·have:=(h.2 i b).1;exact(a.cell (p:=⟨_,_,none⟩) (block_lt_of_cell this)).trans this
 have:=(h.2 i b).2;exact(a.cell (p:=⟨_,_,none⟩) (block_lt_of_cell this)).trans this
theorem q0o:∀v:Fin 256,bits .and .u8 (v.val:Int) 7=((v.val%8:Nat):Int):=by decide
structure qgU(b0 x sz i lo hi:Nat):Prop where
 fx:firstT b0=x
 fsz:bits .and .u8 (x:Int) 7=(sz:Int)
 fi:x/16=i
 flt:i<16
 fxb:x<256
 flo:accLo i=lo
 fhi:accHi i=hi
theorem qgU.szlt(h:qgU b0 x sz i lo hi):sz<8:=by
 have a:=q0o ⟨x,h.fxb⟩;have b:=h.fsz;rw[a]at b;omega
theorem qxh(a x:Nat)(h:firstT a=x)(b:x<256):qgU a x (x%8) (x/16) (accLo (x/16)) (accHi (x/16)):=by
 refine⟨h,?_,rfl,by omega,b,rfl,rfl⟩;exact q0o ⟨x,b⟩
theorem qbW(W:World)(g off n f:Nat)(b x a i lo hi:Nat)(c:qgU b x a i lo hi)(j:b<256)(r:1<=n)(s:a<=n)(q:n<=4)(o:W.cell? ⟨g,off,none⟩=some (.int .u8 b))(k:U8 W):Calls prog 207 #[.slice (some ⟨g,off,none⟩) n f] W λe d=>e=.returned (.bool true)/\d=W:=by
 have h:=k.1 b j;rw[c.fx]at h;have p:=c.fsz;have t:wrap64 (a:Int)=a:=by have:=c.szlt;unfold wrap64;omega
 have l:((n:Int)==0)=false:=by simp;omega
 have m:decide (a<=n)=true:=by simp;omega
 go_enter func207,ntmps207;go_wp2;go_ret;exact⟨rfl,rfl⟩
theorem qaE(a:qgU b0 x sz i lo hi)(d:U8 W):W.cell? ⟨5,i*2,none⟩=some (.int .u8 lo)/\W.cell? ⟨5,i*2+1,none⟩=some (.int .u8 hi):=by
 obtain⟨b,c⟩:=d.2 i a.flt;rw[a.flo]at b;rw[a.fhi]at c;rw[Nat.mul_comm i 2];exact⟨b,c⟩
theorem qku(W:World)(g off k:Nat)(c x b i lo hi:Nat)(a:qgU c x b i lo hi)(m:c<256)(s:1<b)(p:W.cell? ⟨g,off,none⟩=some (.int .u8 c))(d:U8 W):Calls prog 207 #[.slice (some ⟨g,off,none⟩) 1 k] W λe f=>e=.returned (.bool false)/\Below W.heap.size W f:=by
 have l:=d.1 c m;rw[a.fx]at l;have q:=a.fsz;have t:wrap64 (b:Int)=b:=by have:=a.szlt;unfold wrap64;omega
 obtain⟨h,j⟩:=qaE a d;have r:x/16<16:=by rw[a.fi];exact a.flt
 rw[<-a.fi]at h j;have n:decide (b<=1)=false:=by simp;omega
 have o:¬b<=1:=by omega
 go_enter func207,ntmps207;go_wp2
 go_quiet (fail)
 go_wp2;go_ret;exact⟨rfl,(bwA).trans ((qao _ nq).mono (by simp))⟩
theorem qmd(W:World)(g off m:Nat)(c d x b i lo hi:Nat)(a:qgU c x b i lo hi)(o:c<256)(y:2<b)(u:W.cell? ⟨g,off,none⟩=some (.int .u8 c))(f:W.cell? ⟨g,off+1,none⟩=some (.int .u8 d))(h:U8 W)(p:d<lo):Calls prog 207 #[.slice (some ⟨g,off,none⟩) 2 m] W λe j=>e=.returned (.bool true)/\Below W.heap.size W j:=by
 have n:=h.1 c o;rw[a.fx]at n;have v:=a.fsz;have z:wrap64 (b:Int)=b:=by have:=a.szlt;unfold wrap64;omega
 obtain⟨k,l⟩:=qaE a h;have w:x/16<16:=by rw[a.fi];exact a.flt
 rw[<-a.fi]at k l;have s:decide (b<=2)=false:=by simp;omega
 have t:¬b<=2:=by omega
 have q:=(World.cell?_alloc_some W ⟨g,off+1,none⟩ (.cells #[.int .u8 lo,.int .u8 hi] 246) (by rw[f];rfl)).trans f;have c2:=qaa (qac W (.cells #[.int .u8 lo,.int .u8 hi] 246)) 0;have r:=qaa (qac W (.cells #[.int .u8 lo,.int .u8 hi] 246)) 1;have q1:decide (d<lo)=true:=by simpa using p
 go_enter func207,ntmps207;go_wp2
 go_quiet (fail)
 go_wp2;go_ret;exact⟨rfl,(bwA).trans ((qao _ nq).mono (by simp))⟩
theorem qm0(W:World)(g off m:Nat)(d c x b i lo hi:Nat)(a:qgU d x b i lo hi)(o:d<256)(z:2<b)(v:W.cell? ⟨g,off,none⟩=some (.int .u8 d))(f:W.cell? ⟨g,off+1,none⟩=some (.int .u8 c))(h:U8 W)(p:¬c<lo)(q:hi<c):Calls prog 207 #[.slice (some ⟨g,off,none⟩) 2 m] W λe j=>e=.returned (.bool true)/\Below W.heap.size W j:=by
 have n:=h.1 d o;rw[a.fx]at n;have w:=a.fsz;have A:wrap64 (b:Int)=b:=by have:=a.szlt;unfold wrap64;omega
 obtain⟨k,l⟩:=qaE a h;have y:x/16<16:=by rw[a.fi];exact a.flt
 rw[<-a.fi]at k l;have t:decide (b<=2)=false:=by simp;omega
 have u:¬b<=2:=by omega
 have r:=(World.cell?_alloc_some W ⟨g,off+1,none⟩ (.cells #[.int .u8 lo,.int .u8 hi] 246) (by rw[f];rfl)).trans f;have c2:=qaa (qac W (.cells #[.int .u8 lo,.int .u8 hi] 246)) 0;have s:=qaa (qac W (.cells #[.int .u8 lo,.int .u8 hi] 246)) 1;have q1:decide (c<lo)=false:=by simpa using p
 have B:decide (hi<c)=true:=by simpa using q
 go_enter func207,ntmps207;go_wp2
 go_quiet (fail)
 go_wp2;go_ret;exact⟨rfl,(bwA).trans ((qao _ nq).mono (by simp))⟩
theorem qkA(W:World)(g off m:Nat)(d c x b i lo hi:Nat)(a:qgU d x b i lo hi)(o:d<256)(z:2<b)(v:W.cell? ⟨g,off,none⟩=some (.int .u8 d))(f:W.cell? ⟨g,off+1,none⟩=some (.int .u8 c))(h:U8 W)(p:¬c<lo)(q:¬hi<c):Calls prog 207 #[.slice (some ⟨g,off,none⟩) 2 m] W λe j=>e=.returned (.bool false)/\Below W.heap.size W j:=by
 have n:=h.1 d o;rw[a.fx]at n;have w:=a.fsz;have A:wrap64 (b:Int)=b:=by have:=a.szlt;unfold wrap64;omega
 obtain⟨k,l⟩:=qaE a h;have y:x/16<16:=by rw[a.fi];exact a.flt
 rw[<-a.fi]at k l;have t:decide (b<=2)=false:=by simp;omega
 have u:¬b<=2:=by omega
 have r:=(World.cell?_alloc_some W ⟨g,off+1,none⟩ (.cells #[.int .u8 lo,.int .u8 hi] 246) (by rw[f];rfl)).trans f;have c2:=qaa (qac W (.cells #[.int .u8 lo,.int .u8 hi] 246)) 0;have s:=qaa (qac W (.cells #[.int .u8 lo,.int .u8 hi] 246)) 1;have q1:decide (c<lo)=false:=by simpa using p
 have B:decide (hi<c)=false:=by simpa using q
 go_enter func207,ntmps207;go_wp2
 go_quiet (fail)
 go_wp2;go_ret;exact⟨rfl,(bwA).trans ((qao _ nq).mono (by simp))⟩
theorem qjX(W:World)(g off p:Nat)(d c f x b i lo hi:Nat)(a:qgU d x b i lo hi)(r:d<256)(E:3<b)(B:W.cell? ⟨g,off,none⟩=some (.int .u8 d))(j:W.cell? ⟨g,off+1,none⟩=some (.int .u8 c))(k:W.cell? ⟨g,off+2,none⟩=some (.int .u8 f))(l:U8 W)(s:¬c<lo)(t:¬hi<c)(u:f<128):Calls prog 207 #[.slice (some ⟨g,off,none⟩) 3 p] W λe m=>e=.returned (.bool true)/\Below W.heap.size W m:=by
 have q:=l.1 d r;rw[a.fx]at q;have C:=a.fsz;have F:wrap64 (b:Int)=b:=by have:=a.szlt;unfold wrap64;omega
 obtain⟨n,o⟩:=qaE a l;have D:x/16<16:=by rw[a.fi];exact a.flt
 rw[<-a.fi]at n o;have z:decide (b<=3)=false:=by simp;omega
 have A:¬b<=3:=by omega
 have h:Hid (Below W.heap.size W (W.alloc (.cells #[.int .u8 lo,.int .u8 hi] 246))):=bwA;have v:=(World.cell?_alloc_some W ⟨g,off+1,none⟩ (.cells #[.int .u8 lo,.int .u8 hi] 246) (by rw[j];rfl)).trans j;have w:=(World.cell?_alloc_some W ⟨g,off+2,none⟩ (.cells #[.int .u8 lo,.int .u8 hi] 246) (by rw[k];rfl)).trans k;have c2:=qaa (qac W (.cells #[.int .u8 lo,.int .u8 hi] 246)) 0;have y:=qaa (qac W (.cells #[.int .u8 lo,.int .u8 hi] 246)) 1;have q1:decide (c<lo)=false:=by simpa using s
 have G:decide (hi<c)=false:=by simpa using t
 have H:decide ((f:Int)<128)=true:=by simp;omega
 have I:decide (f<128)=true:=by simpa using u
 go_enter func207,ntmps207;go_wp2
 go_quiet (fail)
 go_wp2;go_ret;exact⟨rfl,h.out.trans ((qao _ nq).mono h.out.size)⟩
theorem qkI(W:World)(g off p:Nat)(f d a x c i lo hi:Nat)(b:qgU f x c i lo hi)(r:f<256)(F:3<c)(C:W.cell? ⟨g,off,none⟩=some (.int .u8 f))(j:W.cell? ⟨g,off+1,none⟩=some (.int .u8 d))(k:W.cell? ⟨g,off+2,none⟩=some (.int .u8 a))(l:U8 W)(s:¬d<lo)(t:¬hi<d)(u:¬a<128)(v:191<a):Calls prog 207 #[.slice (some ⟨g,off,none⟩) 3 p] W λe m=>e=.returned (.bool true)/\Below W.heap.size W m:=by
 have q:=l.1 f r;rw[b.fx]at q;have D:=b.fsz;have G:wrap64 (c:Int)=c:=by have:=b.szlt;unfold wrap64;omega
 obtain⟨n,o⟩:=qaE b l;have E:x/16<16:=by rw[b.fi];exact b.flt
 rw[<-b.fi]at n o;have A:decide (c<=3)=false:=by simp;omega
 have B:¬c<=3:=by omega
 have h:Hid (Below W.heap.size W (W.alloc (.cells #[.int .u8 lo,.int .u8 hi] 246))):=bwA;have w:=(World.cell?_alloc_some W ⟨g,off+1,none⟩ (.cells #[.int .u8 lo,.int .u8 hi] 246) (by rw[j];rfl)).trans j;have y:=(World.cell?_alloc_some W ⟨g,off+2,none⟩ (.cells #[.int .u8 lo,.int .u8 hi] 246) (by rw[k];rfl)).trans k;have c2:=qaa (qac W (.cells #[.int .u8 lo,.int .u8 hi] 246)) 0;have z:=qaa (qac W (.cells #[.int .u8 lo,.int .u8 hi] 246)) 1;have q1:decide (d<lo)=false:=by simpa using s
 have H:decide (hi<d)=false:=by simpa using t
 have J:decide (a<128)=false:=by simpa using u
 have L:decide (191<a)=true:=by simpa using v
 have I:decide ((a:Int)<128)=false:=by simp;omega
 have K:decide ((191:Int)<a)=true:=by simp;omega
 go_enter func207,ntmps207;go_wp2
 go_quiet (fail)
 go_wp2;go_ret;exact⟨rfl,h.out.trans ((qao _ nq).mono h.out.size)⟩
theorem qkL(W:World)(g off p:Nat)(f d a x c i lo hi:Nat)(b:qgU f x c i lo hi)(r:f<256)(F:3<c)(C:W.cell? ⟨g,off,none⟩=some (.int .u8 f))(j:W.cell? ⟨g,off+1,none⟩=some (.int .u8 d))(k:W.cell? ⟨g,off+2,none⟩=some (.int .u8 a))(l:U8 W)(s:¬d<lo)(t:¬hi<d)(u:¬a<128)(v:¬191<a):Calls prog 207 #[.slice (some ⟨g,off,none⟩) 3 p] W λe m=>e=.returned (.bool false)/\Below W.heap.size W m:=by
 have q:=l.1 f r;rw[b.fx]at q;have D:=b.fsz;have G:wrap64 (c:Int)=c:=by have:=b.szlt;unfold wrap64;omega
 obtain⟨n,o⟩:=qaE b l;have E:x/16<16:=by rw[b.fi];exact b.flt
 rw[<-b.fi]at n o;have A:decide (c<=3)=false:=by simp;omega
 have B:¬c<=3:=by omega
 have h:Hid (Below W.heap.size W (W.alloc (.cells #[.int .u8 lo,.int .u8 hi] 246))):=bwA;have w:=(World.cell?_alloc_some W ⟨g,off+1,none⟩ (.cells #[.int .u8 lo,.int .u8 hi] 246) (by rw[j];rfl)).trans j;have y:=(World.cell?_alloc_some W ⟨g,off+2,none⟩ (.cells #[.int .u8 lo,.int .u8 hi] 246) (by rw[k];rfl)).trans k;have c2:=qaa (qac W (.cells #[.int .u8 lo,.int .u8 hi] 246)) 0;have z:=qaa (qac W (.cells #[.int .u8 lo,.int .u8 hi] 246)) 1;have q1:decide (d<lo)=false:=by simpa using s
 have H:decide (hi<d)=false:=by simpa using t
 have J:decide (a<128)=false:=by simpa using u
 have L:decide (191<a)=false:=by simpa using v
 have I:decide ((a:Int)<128)=false:=by simp;omega
 have K:decide ((191:Int)<a)=false:=by simp;omega
 go_enter func207,ntmps207;go_wp2
 go_quiet (fail)
 go_wp2;go_ret;exact⟨rfl,h.out.trans ((qao _ nq).mono h.out.size)⟩

theorem qdL(W:World)(g off l n:Nat)(c x b i lo hi:Nat)(a:qgU c x b i lo hi)(o:c<256)(B:x<240)(v:W.cell? ⟨g,off,none⟩=some (.int .u8 c))(d:U8 W)(z:1<=n)(p:n<b):Calls prog 215 #[.slice (some ⟨g,off,none⟩) n l] W λe h=>e=.returned (.tuple #[.int .i32 65533,.int .i64 1])/\Below W.heap.size W h:=by
 have m:=d.1 c o;rw[a.fx]at m;have w:=a.fsz;have A:wrap64 (b:Int)=b:=by have:=a.szlt;unfold wrap64;omega
 obtain⟨j,k⟩:=qaE a d;have y:x/16<16:=by rw[a.fi];exact a.flt
 rw[<-a.fi]at j k;have C:decide (240<=(x:Int))=false:=by simp;omega
 have D:decide (240<=x)=false:=by simp;omega
 have f:Hid (Below W.heap.size W (W.alloc (.cells #[.int .u8 lo,.int .u8 hi] 246))):=bwA;have c2:=qaa (qac W (.cells #[.int .u8 lo,.int .u8 hi] 246)) 0;have q:=qaa (qac W (.cells #[.int .u8 lo,.int .u8 hi] 246)) 1;have r:decide ((n:Int)<1)=false:=by simp;omega
 have s:decide (n<1)=false:=by simp;omega
 have t:decide (n<b)=true:=by simpa using p
 have u:decide ((n:Int)<(b:Int))=true:=by simp;omega
 go_enter func215,ntmps215;go_wp2
 go_ret2
 exact⟨rfl,f.out⟩
theorem qsk(W:World)(g off n:Nat)(b d x c i lo hi:Nat)(a:qgU b x c i lo hi)(p:b<256)(z:x<240)(u:W.cell? ⟨g,off,none⟩=some (.int .u8 b))(f:W.cell? ⟨g,off+1,none⟩=some (.int .u8 d))(h:U8 W)(r:c=2)(q:d<lo):Calls prog 215 #[.slice (some ⟨g,off,none⟩) 2 n] W λe k=>e=.returned (.tuple #[.int .i32 65533,.int .i64 1])/\Below W.heap.size W k:=by
 have o:=h.1 b p;rw[a.fx]at o;have v:=a.fsz;have y:wrap64 (c:Int)=c:=by have:=a.szlt;unfold wrap64;omega
 obtain⟨l,m⟩:=qaE a h;have w:x/16<16:=by rw[a.fi];exact a.flt
 rw[<-a.fi]at l m;have A:decide (240<=(x:Int))=false:=by simp;omega
 have B:decide (240<=x)=false:=by simp;omega
 have j:Hid (Below W.heap.size W (W.alloc (.cells #[.int .u8 lo,.int .u8 hi] 246))):=bwA;have s:=(World.cell?_alloc_some W ⟨g,off+1,none⟩ (.cells #[.int .u8 lo,.int .u8 hi] 246) (by rw[f];rfl)).trans f;have c2:=qaa (qac W (.cells #[.int .u8 lo,.int .u8 hi] 246)) 0;have t:=qaa (qac W (.cells #[.int .u8 lo,.int .u8 hi] 246)) 1;have q1:decide (d<lo)=true:=by simpa using q
 subst r;go_enter func215,ntmps215;go_wp2
 go_ret2
 exact⟨rfl,j.out⟩
theorem qsH(W:World)(g off n:Nat)(c b x d i lo hi:Nat)(a:qgU c x d i lo hi)(p:c<256)(A:x<240)(v:W.cell? ⟨g,off,none⟩=some (.int .u8 c))(f:W.cell? ⟨g,off+1,none⟩=some (.int .u8 b))(h:U8 W)(s:d=2)(q:¬b<lo)(r:hi<b):Calls prog 215 #[.slice (some ⟨g,off,none⟩) 2 n] W λe k=>e=.returned (.tuple #[.int .i32 65533,.int .i64 1])/\Below W.heap.size W k:=by
 have o:=h.1 c p;rw[a.fx]at o;have w:=a.fsz;have z:wrap64 (d:Int)=d:=by have:=a.szlt;unfold wrap64;omega
 obtain⟨l,m⟩:=qaE a h;have y:x/16<16:=by rw[a.fi];exact a.flt
 rw[<-a.fi]at l m;have C:decide (240<=(x:Int))=false:=by simp;omega
 have D:decide (240<=x)=false:=by simp;omega
 have j:Hid (Below W.heap.size W (W.alloc (.cells #[.int .u8 lo,.int .u8 hi] 246))):=bwA;have t:=(World.cell?_alloc_some W ⟨g,off+1,none⟩ (.cells #[.int .u8 lo,.int .u8 hi] 246) (by rw[f];rfl)).trans f;have c2:=qaa (qac W (.cells #[.int .u8 lo,.int .u8 hi] 246)) 0;have u:=qaa (qac W (.cells #[.int .u8 lo,.int .u8 hi] 246)) 1;have q1:decide (b<lo)=false:=by simpa using q
 have B:decide (hi<b)=true:=by simpa using r
 subst s;go_enter func215,ntmps215;go_wp2
 go_ret2
 exact⟨rfl,j.out⟩
theorem qs4(W:World)(g off n:Nat)(c b x d i lo hi:Nat)(a:qgU c x d i lo hi)(q:c<256)(B:x<240)(w:W.cell? ⟨g,off,none⟩=some (.int .u8 c))(f:W.cell? ⟨g,off+1,none⟩=some (.int .u8 b))(h:U8 W)(t:d=2)(r:¬b<lo)(s:¬hi<b):Calls prog 215 #[.slice (some ⟨g,off,none⟩) 2 n] W λe k=>(∃o,e=.returned (.tuple #[.int .i32 o,.int .i64 2]))/\Below W.heap.size W k:=by
 have p:=h.1 c q;rw[a.fx]at p;have y:=a.fsz;have A:wrap64 (d:Int)=d:=by have:=a.szlt;unfold wrap64;omega
 obtain⟨l,m⟩:=qaE a h;have z:x/16<16:=by rw[a.fi];exact a.flt
 rw[<-a.fi]at l m;have D:decide (240<=(x:Int))=false:=by simp;omega
 have E:decide (240<=x)=false:=by simp;omega
 have j:Hid (Below W.heap.size W (W.alloc (.cells #[.int .u8 lo,.int .u8 hi] 246))):=bwA;have u:=(World.cell?_alloc_some W ⟨g,off+1,none⟩ (.cells #[.int .u8 lo,.int .u8 hi] 246) (by rw[f];rfl)).trans f;have c2:=qaa (qac W (.cells #[.int .u8 lo,.int .u8 hi] 246)) 0;have v:=qaa (qac W (.cells #[.int .u8 lo,.int .u8 hi] 246)) 1;have q1:decide (b<lo)=false:=by simpa using r
 have C:decide (hi<b)=false:=by simpa using s
 subst t;go_enter func215,ntmps215;go_wp2
 go_ret2
 exact⟨⟨_,rfl⟩,j.out⟩
theorem qsv(W:World)(g off p:Nat)(c b d x f i lo hi:Nat)(a:qgU c x f i lo hi)(r:c<256)(E:x<240)(z:W.cell? ⟨g,off,none⟩=some (.int .u8 c))(h:W.cell? ⟨g,off+1,none⟩=some (.int .u8 b))(j:W.cell? ⟨g,off+2,none⟩=some (.int .u8 d))(k:U8 W)(u:f=3)(s:¬b<lo)(t:¬hi<b)(C:d<128):Calls prog 215 #[.slice (some ⟨g,off,none⟩) 3 p] W λe m=>e=.returned (.tuple #[.int .i32 65533,.int .i64 1])/\Below W.heap.size W m:=by
 have q:=k.1 c r;rw[a.fx]at q;have A:=a.fsz;have D:wrap64 (f:Int)=f:=by have:=a.szlt;unfold wrap64;omega
 obtain⟨n,o⟩:=qaE a k;have B:x/16<16:=by rw[a.fi];exact a.flt
 rw[<-a.fi]at n o;have I:decide (240<=(x:Int))=false:=by simp;omega
 have J:decide (240<=x)=false:=by simp;omega
 have l:Hid (Below W.heap.size W (W.alloc (.cells #[.int .u8 lo,.int .u8 hi] 246))):=bwA;have v:=(World.cell?_alloc_some W ⟨g,off+1,none⟩ (.cells #[.int .u8 lo,.int .u8 hi] 246) (by rw[h];rfl)).trans h;have w:=(World.cell?_alloc_some W ⟨g,off+2,none⟩ (.cells #[.int .u8 lo,.int .u8 hi] 246) (by rw[j];rfl)).trans j;have c2:=qaa (qac W (.cells #[.int .u8 lo,.int .u8 hi] 246)) 0;have y:=qaa (qac W (.cells #[.int .u8 lo,.int .u8 hi] 246)) 1;have q1:decide (b<lo)=false:=by simpa using s
 have F:decide (hi<b)=false:=by simpa using t
 subst u;have H:decide (d<128)=true:=by simp;omega
 have G:decide ((d:Int)<128)=true:=by simp;omega
 go_enter func215,ntmps215;go_wp2
 go_ret2
 exact⟨rfl,l.out⟩
theorem qtd(W:World)(g off p:Nat)(d c b x f i lo hi:Nat)(a:qgU d x f i lo hi)(r:d<256)(E:x<240)(z:W.cell? ⟨g,off,none⟩=some (.int .u8 d))(h:W.cell? ⟨g,off+1,none⟩=some (.int .u8 c))(j:W.cell? ⟨g,off+2,none⟩=some (.int .u8 b))(k:U8 W)(u:f=3)(s:¬c<lo)(t:¬hi<c)(C:191<b):Calls prog 215 #[.slice (some ⟨g,off,none⟩) 3 p] W λe m=>e=.returned (.tuple #[.int .i32 65533,.int .i64 1])/\Below W.heap.size W m:=by
 have q:=k.1 d r;rw[a.fx]at q;have A:=a.fsz;have D:wrap64 (f:Int)=f:=by have:=a.szlt;unfold wrap64;omega
 obtain⟨n,o⟩:=qaE a k;have B:x/16<16:=by rw[a.fi];exact a.flt
 rw[<-a.fi]at n o;have K:decide (240<=(x:Int))=false:=by simp;omega
 have L:decide (240<=x)=false:=by simp;omega
 have l:Hid (Below W.heap.size W (W.alloc (.cells #[.int .u8 lo,.int .u8 hi] 246))):=bwA;have v:=(World.cell?_alloc_some W ⟨g,off+1,none⟩ (.cells #[.int .u8 lo,.int .u8 hi] 246) (by rw[h];rfl)).trans h;have w:=(World.cell?_alloc_some W ⟨g,off+2,none⟩ (.cells #[.int .u8 lo,.int .u8 hi] 246) (by rw[j];rfl)).trans j;have c2:=qaa (qac W (.cells #[.int .u8 lo,.int .u8 hi] 246)) 0;have y:=qaa (qac W (.cells #[.int .u8 lo,.int .u8 hi] 246)) 1;have q1:decide (c<lo)=false:=by simpa using s
 have F:decide (hi<c)=false:=by simpa using t
 subst u;have H:decide (b<128)=false:=by simp;omega
 have G:decide ((b:Int)<128)=false:=by simp;omega
 have J:decide (191<b)=true:=by simp;omega
 have I:decide ((191:Int)<b)=true:=by simp;omega
 go_enter func215,ntmps215;go_wp2
 go_ret2
 exact⟨rfl,l.out⟩
theorem qsW(W:World)(g off p:Nat)(d c a x f i lo hi:Nat)(b:qgU d x f i lo hi)(s:d<256)(G:x<240)(A:W.cell? ⟨g,off,none⟩=some (.int .u8 d))(h:W.cell? ⟨g,off+1,none⟩=some (.int .u8 c))(j:W.cell? ⟨g,off+2,none⟩=some (.int .u8 a))(k:U8 W)(v:f=3)(t:¬c<lo)(u:¬hi<c)(D:128<=a)(E:a<=191):Calls prog 215 #[.slice (some ⟨g,off,none⟩) 3 p] W λe m=>(∃q,e=.returned (.tuple #[.int .i32 q,.int .i64 3]))/\Below W.heap.size W m:=by
 have r:=k.1 d s;rw[b.fx]at r;have B:=b.fsz;have F:wrap64 (f:Int)=f:=by have:=b.szlt;unfold wrap64;omega
 obtain⟨n,o⟩:=qaE b k;have C:x/16<16:=by rw[b.fi];exact b.flt
 rw[<-b.fi]at n o;have M:decide (240<=(x:Int))=false:=by simp;omega
 have N:decide (240<=x)=false:=by simp;omega
 have l:Hid (Below W.heap.size W (W.alloc (.cells #[.int .u8 lo,.int .u8 hi] 246))):=bwA;have w:=(World.cell?_alloc_some W ⟨g,off+1,none⟩ (.cells #[.int .u8 lo,.int .u8 hi] 246) (by rw[h];rfl)).trans h;have y:=(World.cell?_alloc_some W ⟨g,off+2,none⟩ (.cells #[.int .u8 lo,.int .u8 hi] 246) (by rw[j];rfl)).trans j;have c2:=qaa (qac W (.cells #[.int .u8 lo,.int .u8 hi] 246)) 0;have z:=qaa (qac W (.cells #[.int .u8 lo,.int .u8 hi] 246)) 1;have q1:decide (c<lo)=false:=by simpa using t
 have H:decide (hi<c)=false:=by simpa using u
 subst v;have J:decide (a<128)=false:=by simp;omega
 have I:decide ((a:Int)<128)=false:=by simp;omega
 have L:decide (191<a)=false:=by simp;omega
 have K:decide ((191:Int)<a)=false:=by simp;omega
 go_enter func215,ntmps215;go_wp2
 go_ret2
 exact⟨⟨_,rfl⟩,l.out⟩
theorem qsY(W:World)(g off r:Nat)(d c a f x h i lo hi:Nat)(b:qgU d x h i lo hi)(t:d<256)(J:x<240)(C:W.cell? ⟨g,off,none⟩=some (.int .u8 d))(j:W.cell? ⟨g,off+1,none⟩=some (.int .u8 c))(k:W.cell? ⟨g,off+2,none⟩=some (.int .u8 a))(l:W.cell? ⟨g,off+3,none⟩=some (.int .u8 f))(m:U8 W)(w:h=4)(u:¬c<lo)(v:¬hi<c)(G:128<=a)(H:a<=191)(F:f<128):Calls prog 215 #[.slice (some ⟨g,off,none⟩) 4 r] W λe o=>e=.returned (.tuple #[.int .i32 65533,.int .i64 1])/\Below W.heap.size W o:=by
 have s:=m.1 d t;rw[b.fx]at s;have D:=b.fsz;have I:wrap64 (h:Int)=h:=by have:=b.szlt;unfold wrap64;omega
 obtain⟨p,q⟩:=qaE b m;have E:x/16<16:=by rw[b.fi];exact b.flt
 rw[<-b.fi]at p q;have R:decide (240<=(x:Int))=false:=by simp;omega
 have S:decide (240<=x)=false:=by simp;omega
 have n:Hid (Below W.heap.size W (W.alloc (.cells #[.int .u8 lo,.int .u8 hi] 246))):=bwA;have y:=(World.cell?_alloc_some W ⟨g,off+1,none⟩ (.cells #[.int .u8 lo,.int .u8 hi] 246) (by rw[j];rfl)).trans j;have z:=(World.cell?_alloc_some W ⟨g,off+2,none⟩ (.cells #[.int .u8 lo,.int .u8 hi] 246) (by rw[k];rfl)).trans k;have A:=(World.cell?_alloc_some W ⟨g,off+3,none⟩ (.cells #[.int .u8 lo,.int .u8 hi] 246) (by rw[l];rfl)).trans l;have c2:=qaa (qac W (.cells #[.int .u8 lo,.int .u8 hi] 246)) 0;have B:=qaa (qac W (.cells #[.int .u8 lo,.int .u8 hi] 246)) 1;have q1:decide (c<lo)=false:=by simpa using u
 have K:decide (hi<c)=false:=by simpa using v
 subst w;have M:decide (a<128)=false:=by simp;omega
 have L:decide ((a:Int)<128)=false:=by simp;omega
 have O:decide (191<a)=false:=by simp;omega
 have N:decide ((191:Int)<a)=false:=by simp;omega
 have Q:decide (f<128)=true:=by simp;omega
 have P:decide ((f:Int)<128)=true:=by simp;omega
 go_enter func215,ntmps215;go_wp2
 go_ret2
 exact⟨rfl,n.out⟩
theorem qtT(W:World)(g off r:Nat)(f d a c x h i lo hi:Nat)(b:qgU f x h i lo hi)(t:f<256)(J:x<240)(C:W.cell? ⟨g,off,none⟩=some (.int .u8 f))(j:W.cell? ⟨g,off+1,none⟩=some (.int .u8 d))(k:W.cell? ⟨g,off+2,none⟩=some (.int .u8 a))(l:W.cell? ⟨g,off+3,none⟩=some (.int .u8 c))(m:U8 W)(w:h=4)(u:¬d<lo)(v:¬hi<d)(G:128<=a)(H:a<=191)(F:191<c):Calls prog 215 #[.slice (some ⟨g,off,none⟩) 4 r] W λe o=>e=.returned (.tuple #[.int .i32 65533,.int .i64 1])/\Below W.heap.size W o:=by
 have s:=m.1 f t;rw[b.fx]at s;have D:=b.fsz;have I:wrap64 (h:Int)=h:=by have:=b.szlt;unfold wrap64;omega
 obtain⟨p,q⟩:=qaE b m;have E:x/16<16:=by rw[b.fi];exact b.flt
 rw[<-b.fi]at p q;have T:decide (240<=(x:Int))=false:=by simp;omega
 have U:decide (240<=x)=false:=by simp;omega
 have n:Hid (Below W.heap.size W (W.alloc (.cells #[.int .u8 lo,.int .u8 hi] 246))):=bwA;have y:=(World.cell?_alloc_some W ⟨g,off+1,none⟩ (.cells #[.int .u8 lo,.int .u8 hi] 246) (by rw[j];rfl)).trans j;have z:=(World.cell?_alloc_some W ⟨g,off+2,none⟩ (.cells #[.int .u8 lo,.int .u8 hi] 246) (by rw[k];rfl)).trans k;have A:=(World.cell?_alloc_some W ⟨g,off+3,none⟩ (.cells #[.int .u8 lo,.int .u8 hi] 246) (by rw[l];rfl)).trans l;have c2:=qaa (qac W (.cells #[.int .u8 lo,.int .u8 hi] 246)) 0;have B:=qaa (qac W (.cells #[.int .u8 lo,.int .u8 hi] 246)) 1;have q1:decide (d<lo)=false:=by simpa using u
 have K:decide (hi<d)=false:=by simpa using v
 subst w;have M:decide (a<128)=false:=by simp;omega
 have L:decide ((a:Int)<128)=false:=by simp;omega
 have O:decide (191<a)=false:=by simp;omega
 have N:decide ((191:Int)<a)=false:=by simp;omega
 have Q:decide (c<128)=false:=by simp;omega
 have P:decide ((c:Int)<128)=false:=by simp;omega
 have S:decide (191<c)=true:=by simp;omega
 have R:decide ((191:Int)<c)=true:=by simp;omega
 go_enter func215,ntmps215;go_wp2
 go_ret2
 exact⟨rfl,n.out⟩
theorem qsF(W:World)(g off r:Nat)(f d a b x h i lo hi:Nat)(c:qgU f x h i lo hi)(u:f<256)(L:x<240)(D:W.cell? ⟨g,off,none⟩=some (.int .u8 f))(j:W.cell? ⟨g,off+1,none⟩=some (.int .u8 d))(k:W.cell? ⟨g,off+2,none⟩=some (.int .u8 a))(l:W.cell? ⟨g,off+3,none⟩=some (.int .u8 b))(m:U8 W)(y:h=4)(v:¬d<lo)(w:¬hi<d)(G:128<=a)(H:a<=191)(I:128<=b)(J:b<=191):Calls prog 215 #[.slice (some ⟨g,off,none⟩) 4 r] W λe o=>(∃s,e=.returned (.tuple #[.int .i32 s,.int .i64 4]))/\Below W.heap.size W o:=by
 have t:=m.1 f u;rw[c.fx]at t;have E:=c.fsz;have K:wrap64 (h:Int)=h:=by have:=c.szlt;unfold wrap64;omega
 obtain⟨p,q⟩:=qaE c m;have F:x/16<16:=by rw[c.fi];exact c.flt
 rw[<-c.fi]at p q;have V:decide (240<=(x:Int))=false:=by simp;omega
 have X:decide (240<=x)=false:=by simp;omega
 have n:Hid (Below W.heap.size W (W.alloc (.cells #[.int .u8 lo,.int .u8 hi] 246))):=bwA;have z:=(World.cell?_alloc_some W ⟨g,off+1,none⟩ (.cells #[.int .u8 lo,.int .u8 hi] 246) (by rw[j];rfl)).trans j;have A:=(World.cell?_alloc_some W ⟨g,off+2,none⟩ (.cells #[.int .u8 lo,.int .u8 hi] 246) (by rw[k];rfl)).trans k;have B:=(World.cell?_alloc_some W ⟨g,off+3,none⟩ (.cells #[.int .u8 lo,.int .u8 hi] 246) (by rw[l];rfl)).trans l;have c2:=qaa (qac W (.cells #[.int .u8 lo,.int .u8 hi] 246)) 0;have C:=qaa (qac W (.cells #[.int .u8 lo,.int .u8 hi] 246)) 1;have q1:decide (d<lo)=false:=by simpa using v
 have M:decide (hi<d)=false:=by simpa using w
 subst y;have O:decide (a<128)=false:=by simp;omega
 have N:decide ((a:Int)<128)=false:=by simp;omega
 have Q:decide (191<a)=false:=by simp;omega
 have P:decide ((191:Int)<a)=false:=by simp;omega
 have S:decide (b<128)=false:=by simp;omega
 have R:decide ((b:Int)<128)=false:=by simp;omega
 have U:decide (191<b)=false:=by simp;omega
 have T:decide ((191:Int)<b)=false:=by simp;omega
 go_enter func215,ntmps215;go_wp2
 go_ret2
 exact⟨⟨_,rfl⟩,n.out⟩
theorem qpz(W:World)(g off h n:Nat)(a:Nat)(l:firstT a=241)(b:a<256)(q:1<=n)(p:W.cell? ⟨g,off,none⟩=some (.int .u8 a))(k:U8 W):Calls prog 215 #[.slice (some ⟨g,off,none⟩) n h] W λe f=>e=.returned (.tuple #[.int .i32 65533,.int .i64 1])/\f=W:=by
 have i:=k.1 a b;rw[l]at i;have j:=Utf8W.drop_byte ⟨a,b⟩;have c:Hid (bits .or .i32 (bits .andNot .i32 (a:Int) (-1)) (bits .and .i32 65533 (-1))=65533):=j;have m:decide ((n:Int)<1)=false:=by simp;omega
 have o:decide (n<1)=false:=by simp;omega
 have d:Hid (wrap32 517543559168/2147483648 = -1):=by
  show _=_;unfold wrap32;decide
 go_enter func215,ntmps215;go_wp2
 go_ret2
 refine⟨?_,rfl⟩;show Ending.returned (.tuple #[.int .i32 (bits .or .i32 (bits .andNot .i32 (a:Int) (wrap32 517543559168/2147483648)) (bits .and .i32 65533 (wrap32 517543559168/2147483648))),.int .i64 1])=_;rw[d.out,c.out]
theorem qfT(W:World)(g off c n:Nat)(a:Nat)(d:a<128)(l:1<=n)(k:W.cell? ⟨g,off,none⟩=some (.int .u8 a)):Calls prog 208 #[.slice (some ⟨g,off,none⟩) n c] W λe b=>e=.returned (.tuple #[.int .i32 a,.int .i64 1])/\b=W:=by
 have f:decide (0<n)=true:=by simp;omega
 have h:decide (0<(n:Int))=true:=by simp;omega
 have i:decide ((a:Int)<128)=true:=by simp;omega
 have j:decide (a<128)=true:=by simpa using d
 go_enter func208,ntmps208;go_wp2;refine wp_loop_rounds 1 ?_;rw[rounds_succ];go_wp2
 go_ret2
 exact⟨rfl,rfl⟩
theorem qd1(W:World)(g off f n:Nat)(c:Nat)(p:128<=c)(q:1<=n)(o:W.cell? ⟨g,off,none⟩=some (.int .u8 c))(R:Int->Int->World->Prop)(h:Calls prog 215 #[.slice (some ⟨g,off,none⟩) n f] W λe d=>∃a b,e=.returned (.tuple #[.int .i32 a,.int .i64 b])/\R a b d):Calls prog 208 #[.slice (some ⟨g,off,none⟩) n f] W λe d=>∃a b,e=.returned (.tuple #[.int .i32 a,.int .i64 b])/\R a b d:=by
 have j:decide (0<n)=true:=by simp;omega
 have k:decide (0<(n:Int))=true:=by simp;omega
 have l:decide ((c:Int)<128)=false:=by simp;omega
 have m:decide (c<128)=false:=by simp;omega
 go_enter func208,ntmps208;go_wp2;refine wp_loop_rounds 1 ?_;rw[rounds_succ]
 go_wp2_with(first
  |(go_at_call 215;refine h.mono ?_;rintro e r ⟨a,b,rfl,i⟩))
 go_ret2
 exact⟨a,b,rfl,i⟩

end
section
open Go.RowKit Go.Shelf
theorem qg6(W:World)(N:Nat)(s:ByteArray)(pos:Nat)(b:TypeId)(a:W.heap[N]?=some (.stringIter s pos))(h:pos<s.size):(Instr.next (.pointer (some ⟨N,0,none⟩)) true b).run P W =
   .ok (.tuple #[.bool true,.int .i64 pos,.int .i32 (Utf8.decode s pos).1]) (W.putObj N (.stringIter s (pos+(Utf8.decode s pos).2))):=by
 simp only[Instr.next,getObj,setObj,Sem.run_bind,Sem.run,a,Result.andThen,h,if_true,World.putObj];simp[goInt]
theorem qeB(W:World)(N:Nat)(s:ByteArray)(pos:Nat)(b:TypeId)(a:W.heap[N]?=some (.stringIter s pos))(h:¬pos<s.size):(Instr.next (.pointer (some ⟨N,0,none⟩)) true b).run P W=.ok (.tuple #[.bool false]) W:=by
 simp[Instr.next,getObj,Sem.run,a,h]
theorem qb9{B:Nat}{a:World}(h:Below B a w)(b:B<=g)(o:Obj):Below B a (w.putObj g o) :=
 h.trans ⟨rfl,rfl,rfl,by simp[World.putObj],λk c=>World.putObj_heap_other (by omega)⟩
structure qeC(w:World)(N:Nat)(s:ByteArray)(i:Nat)(W:World):Prop where
 below:Below w.heap.size w W
 it:W.heap[N]?=some (.stringIter s i)
theorem qeC.step(h:qeC w N s i W)(a:Below W.heap.size W W'):qeC w N s i W' :=
 ⟨h.below.trans (a.mono h.below.size),(a.block _ (ltA h.it)).trans h.it⟩
theorem qeC.next(h:qeC w N s i W)(a:w.heap.size<=N)(j:Nat):qeC w N s j (W.putObj N (.stringIter s j)) :=
 ⟨qb9 h.below a _,World.putObj_heap_same (ltA h.it)⟩
theorem qot(r:Nat):qtr r=(decide ((r:Int)<=32)||qvR (r:Int)):=by
 unfold qtr qvR;rw[Bool.eq_iff_iff];simp only[Bool.or_eq_true,decide_eq_true_eq,beq_iff_eq];omega
theorem qjq(s:ByteArray)(w:World)(hs:s.size<=2000)(X:qmF w):Calls prog 96 #[.string s] w λe G=>e=.returned (.bool (qgw s.data.toList))/\Below w.heap.size w G:=by
 have Q:s.data.toList.length=s.size:=Array.length_toList;have o:Calls prog 119 #[.string s] w λe G=>e=.returned (.bool (Lib.validD s.data.toList))/\Below w.heap.size w G :=
  Any.utf8_ValidString Tryz.lays196 s w (by omega) X.tabs
 cases v:Lib.validD s.data.toList
 ·have j:Hid (qgw s.data.toList=false):=by show _=_;rw[qqA,v];rfl
  rw[v]at o;go_enter func96,ntmps96
  go_wp2_with(first|(go_at_call 119;refine o.mono ?_;rintro e f ⟨rfl,d⟩))
  go_ret;exact⟨by rw[j.out];rfl,d⟩
 obtain⟨A,H⟩:∃A,Hid (qoM s.data.toList.length s.data.toList=A):=⟨_,show _=_ from rfl⟩
 have j:Hid (qgw s.data.toList=qzm A):=by show _=_;rw[qqA,v,H.out];rfl
 rw[v]at o;go_enter func96,ntmps96
 go_wp2_with(first|(go_at_call 119;refine o.mono ?_;rintro e f ⟨rfl,d⟩))
 have b:Hid (qeC w f.heap.size s 0 (f.iter s 0)):=⟨d.alloc d.size _,World.iter_heap _ _ _⟩
 have W:=d.size;generalize f.iter s 0=W0 at *;generalize f.heap.size=N at *
 go_loopg[3,5] s.size (λg x _ wr=>∃n i:Nat,x=.int .i64 n/\Hid (n<=i)/\Hid (i<=s.size)/\Hid (s.size<=i+g)/\Hid (qeC w N s i wr)/\Hid (A=(qoM g (s.data.toList.drop i)).map (·+n)))
 case atStart =>
  refine⟨0,0,rfl,Nat.le_refl _,Nat.zero_le _,by show _<=_;omega,b,?_⟩;show _=_;rw[<-H.out,Q,List.drop_zero];cases qoM s.size s.data.toList<;>rfl
 case round =>
  obtain⟨n,i,rfl,R,E,O,b,B⟩:=hrel;by_cases p:i=s.size
  ·have c:Hid (qgw s.data.toList=decide (1<=n/\n<=16)):=by
    show _=_;have C:A=some n:=by
     rw[B.out,p,<-Q,List.drop_length];cases gk<;>simp[qoM]
    rw[j.out,C];rfl
   have S:=λF=>qeB (P:=prog) wr N s i F b.out.it (by omega);by_cases ha:(1:Int)<=n
   ·by_cases hb:(n:Int)<=16
    ·have a:Hid (qgw s.data.toList=true):=by show _=_;rw[c.out,decide_eq_true (by omega)]
     go_wp2;go_ret;exact⟨by rw[a.out];rfl,b.out.below⟩
    have a:Hid (qgw s.data.toList=false):=by show _=_;rw[c.out,decide_eq_false (by omega)]
    go_wp2;go_ret;exact⟨by rw[a.out];rfl,b.out.below⟩
   have a:Hid (qgw s.data.toList=false):=by show _=_;rw[c.out,decide_eq_false (by omega)]
   go_wp2;go_ret;exact⟨by rw[a.out];rfl,b.out.below⟩
  have Y:i<s.size:=by have:=E.out;omega
  obtain⟨g,rfl⟩:∃g,gk=g+1:=⟨gk-1,by have:=O.out;omega⟩
  have S:=λF=>qg6 (P:=prog) wr N s i F b.out.it Y;obtain⟨r,T⟩:∃r,(Utf8.decode s i).1=r:=⟨_,rfl⟩
  obtain⟨k,t⟩:∃k,(Utf8.decode s i).2=k:=⟨_,rfl⟩
  rw[T,t]at S;have J:Hid (s.data.toList.drop i=s[i]::s.data.toList.drop (i+1)):=by show _=_;rw[List.drop_eq_getElem_cons (by omega)];rfl
  have q:=Lib.decodeL_drop s i;have I:Hid (qoM (g+1) (s.data.toList.drop i)=if qtr r=true then none else(qoM g (s.data.toList.drop (i+k))).map (·+1)):=by
   show _=_;have L:(Lib.decodeL (s.data.toList.drop i)).1=r:=by rw[q];exact T
   have p:(Lib.decodeL (s.data.toList.drop i)).2=k:=by rw[q];exact t
   rw[J.out]at L p ⊢;rw[qoM,L,p,<-J.out,List.drop_drop]
  have aa:1<=k:=by have:=Lib.decodeL_width (s.data.toList.drop i);rw[q,t]at this;exact this
  have ab:k<=s.size-i:=by
   have:=Lib.decodeL_le (s.data.toList.drop i) (by intro h;have:=congrArg List.length h;rw[List.length_drop]at this;simp at this;omega);rw[q,t,List.length_drop]at this;omega
  have K:Hid (qtr r=true->qgw s.data.toList=false):=λh=>by
   have C:A=none:=by rw[B.out,I.out,if_pos h];rfl
   rw[j.out,C];rfl
  have V:Hid (qtr r=false->A=(qoM g (s.data.toList.drop (i+k))).map (·+(n+1))):=λh=>by
   rw[B.out,I.out,if_neg (by rw[h];simp),Option.map_map];congr 1;funext x;simp only[Function.comp];omega
  have y:Hid (qeC w N s (i+k) (wr.putObj N (.stringIter s (i+k)))):=b.out.next W _
  have ac:n<=2000:=by have:=R.out;have:=E.out;omega
  have l:=qot r;generalize wr.putObj N (.stringIter s (i+k))=W2 at *;by_cases M:(r:Int)<=32
  ·have c:=K.out (by rw[l,decide_eq_true M];rfl);have a:=qab c;go_wp2;go_ret;exact⟨by rw[a.out];rfl,y.out.below⟩
  have m:=qfU (r:Int) (by omega) W2;rw[decide_eq_false M,Bool.false_or]at l;cases u:qvR (r:Int)
  ·have U:=qab (V.out (by rw[l,u]));rw[u]at m
   go_wp2_with(first|(go_at_call 120;refine m.mono ?_;rintro e Z ⟨rfl,D⟩;have z:=qab (y.out.step D)))
   go_roundg g
   case measure=>omega
   case rel =>
    refine⟨n+1,i+k,by go_num,?_,?_,?_,z,U⟩
    all_goals(show _<=_;have:=R.out;have:=E.out;have:=O.out;omega)
  have a:=qab (K.out (by rw[l,u]));rw[u]at m
  go_wp2_with(first|(go_at_call 120;refine m.mono ?_;rintro e Z ⟨rfl,D⟩;have z:=qab (y.out.step D)))
  go_ret;exact⟨by rw[a.out];rfl,z.out.below⟩

section
attribute[local go_sem] Oper.semAt_some
structure Tr(N k:Nat)(W W':World):Prop where
 below:Below N W W'
 keep:KeepsOthers W W'
 mid:qcC k (k+3) W W'
theorem Tr.refl(N k:Nat)(W:World):Tr N k W W:=⟨Below.refl _ _,KeepsOthers.refl _,qcC.refl _ _ _⟩
theorem Tr.trans{A B C:World}(h:Tr N k A B)(g:Tr N k B C):Tr N k A C:=⟨h.below.trans g.below,h.keep.trans g.keep,h.mid.trans g.mid⟩
theorem Tr.alloc(N k:Nat)(W:World)(o:Obj)(a:N<=W.heap.size)(b:k+3<=W.heap.size):Tr N k W (W.alloc o) :=
 ⟨(Below.refl _ _).alloc a _,KeepsOthers.alloc _ _,⟨by simp,λi _ h=>Below.heap_alloc _ _ _ (by omega)⟩⟩
theorem Tr.set(N k:Nat)(W:World)(p:Nat)(v:Value)(c:N<=p)(e:p<k\/k+3<=p):Tr N k W (W.setCell ⟨p,0,none⟩ v) :=
 ⟨(Below.refl _ _).trans ⟨rfl,rfl,rfl,by simp[World.setCell],λi d=>heap_setCell_other W _ _ _ (by simp;omega)⟩,KeepsOthers.setCell _ _ _,⟨by simp[World.setCell],λi a b=>heap_setCell_other W _ _ _ (by simp;omega)⟩⟩
theorem Tr.below'(h:Below W.heap.size W W')(b:N<=W.heap.size)(d:k+3<=W.heap.size):Tr N k W W' :=
 ⟨h.mono b,⟨h.size,λi o a _=>(h.block i (ltA a)).trans a⟩,⟨h.size,λi _ c=>h.block i (by omega)⟩⟩
theorem Tr.grown{e:TypeId}(l:W.ownsRow base e size v n xs)(a:W.grownBy W' v.ownBlock)(w:base<=W.heap.size)(u:N<=base)(y:k+3<=base):Tr N k W W':=by
 have m:∀g,v.ownBlock=some g->base<=g:=λg h=>by
  rcases l.2 with⟨b,_⟩|⟨r,p,q,rfl,c,_⟩
  ·subst b;cases h
  cases h;exact c
 refine⟨⟨a.os,a.tape,a.output,a.size,λi x=>a.block i (by omega) (λh=>by have:=m i h.symm;omega)⟩,KeepsOthers.of_grownBy a (λj o d f=>?_),⟨a.size,λi _ t=>a.block i (by omega) (λh=>by have:=m i h.symm;omega)⟩⟩;rcases l.2 with⟨b,_⟩|⟨r,p,q,rfl,c,s,_⟩
 ·subst b;cases d
 cases d;rw[s]at f;cases f;rfl
structure qyz(w:World)(pre:List Str)(c:Code)(W:World):Prop where
 ret:c=.ret
 below:Below w.heap.size w W
 r0:Boxed W w.heap.size 144 (.slice none 0 0)
 r1:Boxed W (w.heap.size+1) 4 (.bool false)
 bad:8<pre.length\/pre.all (λx=>qg9 (lst x))=false
 size:w.heap.size+6<=W.heap.size
theorem qyz.own{pre:List Str}{c:Code}{row:Nat}(h:qyz w pre c W)(a:W.grownBy W' (some row))(b:w.heap.size+2<=row):qyz w pre c W' :=
 ⟨h.ret,h.below.trans ⟨a.os,a.tape,a.output,a.size,λi d=>a.block i (by have:=h.size;omega) (by intro e;cases e;omega)⟩,h.r0.kept a (by intro e;cases e;omega),h.r1.kept a (by intro e;cases e;omega),h.bad,Nat.le_trans h.size a.size⟩
theorem qui(w W:World):Tr w.heap.size (w.heap.size+3) W ((W.setCell ⟨w.heap.size,0,none⟩ (.slice none 0 0)).setCell ⟨w.heap.size+1,0,none⟩ (.bool false)) :=
 (Tr.set _ _ W w.heap.size _ (Nat.le_refl _) (by omega)).trans (Tr.set _ _ _ (w.heap.size+1) _ (by omega) (by omega))
def sgL:Nat->List UInt8
 |0=>[42]
 |1=>[42,42]
 |_=>[91,93]
theorem Tryz.infoSeg:(prog.info? 151).map (λi=>(i.zero,i.size,i.bytes))=some (some (.agg #[.int .i64 0,.string ByteArray.empty]),2,24):=by kernel_rfl
theorem qtc(w:World)(s:ByteArray)(a:World)(b:((((((w.alloc (.cells #[.slice none 0 0] 144)).alloc (.cells #[.bool false] 4)).alloc (.cells #[.slice none 0 0] 144)).alloc (.cells #[.string s] 9)).alloc (.cells #[.string ⟨#[47]⟩] 9)).alloc (.cells #[.int .i64 0] 3))=a):qhg (w.heap.size+3) 47 a s:=by
 subst b;generalize hA:((w.alloc (.cells #[.slice none 0 0] 144)).alloc (.cells #[.bool false] 4)).alloc (.cells #[.slice none 0 0] 144)=A;have c:w.heap.size+3=A.heap.size:=by rw[<-hA];simp
 rw[c];refine⟨?_,?_,?_⟩
 ·exact((Below.heap_alloc _ _ _ (by simp;omega)).trans (Below.heap_alloc _ _ _ (by simp))).trans (qac A _)
 ·refine(Below.heap_alloc _ _ _ (by simp)).trans ?_;have:=qac (A.alloc (.cells #[.string s] 9)) (.cells #[.string ⟨#[47]⟩] 9);rwa[World.size_alloc]at this
 have:=qac ((A.alloc (.cells #[.string s] 9)).alloc (.cells #[.string ⟨#[47]⟩] 9)) (.cells #[.int .i64 0] 3);rwa[World.size_alloc,World.size_alloc]at this
theorem qb4{e:TypeId}(c:W.ownsRow base e size v n xs)(h:v.ownBlock=some g):base<=g:=by
 rcases c.2 with⟨a,_⟩|⟨i,d,f,rfl,b,_⟩
 ·subst a;cases h
 cases h;exact b
theorem qj6{x:Str}(h:(x.1.toList==sgL i)=true):qg9 (lst x)=true:=by
 have e:lst x=sgL i:=by unfold lst;rw[<-Lib.toList_data];exact eq_of_beq h
 rw[e];unfold qg9
 match i with
 |0=>simp[sgL]
 |1=>simp[sgL]
 |_+2=>simp[sgL]
theorem quO{x:Str}(h:∀i,i<3->(x.1.toList==sgL i)=false):qg9 (lst x)=qgw x.1.data.toList:=by
 have e:lst x=x.1.toList:=by unfold lst;rw[<-Lib.toList_data]
 have a:=h 0 (by omega);have b:=h 1 (by omega);have c:=h 2 (by omega);simp only[sgL]at a b c;unfold qg9;rw[e,a,b,c,Lib.toList_data];simp
theorem qce(w:World)(o:Obj)(cs:Array Value)(t:TypeId):∀(j:Nat) (u:Value),cs.toList[j]?=some u->((w.alloc o).alloc (.cells cs t)).cell? ((⟨w.heap.size+1,0,none⟩:Addr).add j)=some u:=λj u a=>by
 have:=cell_of_row ((w.alloc o).alloc (.cells cs t)) (w.heap.size+1) j cs t (0,0) (by have:=qac (w.alloc o) (.cells cs t);rwa[World.size_alloc]at this);rw[qdg,Nat.zero_add,this];simpa using a
theorem qiW(w:World)(cs:Array Value)(t:TypeId):∀(j:Nat) (u:Value),cs.toList[j]?=some u->(w.alloc (.cells cs t)).cell? ((⟨w.heap.size,0,none⟩:Addr).add j)=some u:=λj u a=>by
 rw[qdg,Nat.zero_add,cell_of_row _ _ _ _ _ _ (qac _ _)];simpa using a
theorem qwc{hs:s.size<=2000}{xs:List Str}(d:(s.toList==[46])=false)(h:xs.map lst=qam 47 (lst ⟨s,hs⟩))(b:xs.length<=8)(c:xs.all (λx=>qg9 (lst x))=true):qfl s.data.toList=true:=by
 have a:qam 47 s.data.toList=xs.map lst:=h.symm;unfold qfl;rw[a,<-Lib.toList_data,d,List.length_map,decide_eq_true b,List.all_map];simpa[Function.comp]using c
theorem qxD{hs:s.size<=2000}{pre:List Str}{r:List (List UInt8)}(c:(s.toList==[46])=false)(h:qam 47 (lst ⟨s,hs⟩)=pre.map lst++r)(a:8<pre.length\/pre.all (λx=>qg9 (lst x))=false):qfl s.data.toList=false:=by
 have b:qam 47 s.data.toList=pre.map lst++r:=h;unfold qfl;rw[b,<-Lib.toList_data,c,List.all_append,List.all_map];rcases a with a|a
 ·rw[decide_eq_false (by rw[List.length_append,List.length_map];omega)];simp
 have:(pre.all (qg9∘lst))=false:=a;rw[this];simp
theorem qxk(V:World):(Instr.index 210 (.agg #[.string ⟨#[42]⟩,.int .i64 0,.string ⟨#[42,42]⟩,.int .i64 1,.string ⟨#[91,93]⟩,.int .i64 2]) (.int .i64 0)).run prog V=.ok (.agg #[.string ⟨#[42]⟩,.int .i64 0]) V:=by kernel_rfl
theorem qxm(V:World):(Instr.index 210 (.agg #[.string ⟨#[42]⟩,.int .i64 0,.string ⟨#[42,42]⟩,.int .i64 1,.string ⟨#[91,93]⟩,.int .i64 2]) (.int .i64 1)).run prog V=.ok (.agg #[.string ⟨#[42,42]⟩,.int .i64 1]) V:=by kernel_rfl
theorem qwn(V:World):(Instr.index 210 (.agg #[.string ⟨#[42]⟩,.int .i64 0,.string ⟨#[42,42]⟩,.int .i64 1,.string ⟨#[91,93]⟩,.int .i64 2]) (.int .i64 2)).run prog V=.ok (.agg #[.string ⟨#[91,93]⟩,.int .i64 2]) V:=by kernel_rfl
theorem qoY{md:Region.Mode}{ops:Array Oper}{fuel:Nat}{listed:Array Bool}(L:Array Bool)(b:Nat)(c:World->List (Nat×Value))(T:World->Prop)(d:World->World)(e:(∀V,T V->wpAnyIn F n P md ops Q b L ((c V).foldl (λa p=>a.put (some p.1) p.2) a) (d V))->wpAnyIn F n P md ops Q fuel listed a w)(f:∀V,T V->wpAnyIn F n P md ops Q b L ((c V).foldl (λa p=>a.put (some p.1) p.2) a) (d V)):wpAnyIn F n P md ops Q fuel listed a w:=e f
theorem qhs{nF:Nat}(s x:Operand)(t:TypeId)(p:o.op=.call {callee:=.builtin .append,args:=#[s,x],argTypes:=#[t,t]})(f:Nat)(e:TypeId)(i:TypeInfo)(z:Value)(size l:Nat)(R:P.underlying t=some (.slice e))(hi:P.info? e=some i)(T:i.zero=some z)(N:i.size=size)(D:i.bytes=l)(U:z.cells.size=size)(O:0<size)(v:Value)(n:Nat)(q:List Value)(M:a.eval s=v)(J:w.ownsRow f e size v n q)(k:Addr)(m c:Nat)(b:List Value)(S:a.eval x=.slice (some k) m c)(H:b.length=m*size)(I:∀j u,b[j]?=some u->w.cell? (k.add j)=some u)(r:∀u∈b,u.oneCell'=true)(B:n+m<=maxLen)(E:(n+m)*l<=140737488355328)(C:f<=w.heap.size)(h:∀g d,d.ownsRow f e size g (n+m) (q++b)->w.grownBy d v.ownBlock->K (a.put o.dst g) d):o.wpIn F nF P a w K Q:=by
 obtain⟨g,d,L,y,A,_⟩:=run_append_own (P:=P) w f t o.type e i z size l R hi T N D U O v n q J k m c b H I r B E C;unfold Oper.wpIn;refine⟨by simp[Oper.about,p,resolve,Target.leads,Sem.run_pure],?_⟩;rw[Oper.semAt_plain F _ _ (by rw[p];intro c G;cases G)];simp[execOp,p,resolve,invoke,builtin,M,S,L,Result.andThen];exact h g d y A
end

end
section
open Go.RowKit
def stA(Y:Nat->Nat)(x:Int×Int):Array Value:=plA Y++#[.int .i64 x.1,.int .i64 x.2]
theorem ifw{c:Prop}[Decidable c]{A B:Prop}(h:c)(a:A):if c then A else B:=by rw[if_pos h];exact a
theorem qsz(Y:Nat->Nat)(x:Int×Int)(V:World):(Instr.buildSlice 114 1 #[(0,.agg (stA Y x))]).run prog V=.ok (.slice (some ⟨V.heap.size,0,none⟩) 1 1) (V.alloc (.cells (stA Y x) 157)):=by kernel_rfl
theorem qhZ(x:Operand)(b:o.op=.buildSlice 114 1 #[(0,x)])(Y:Nat->Nat)(z:Int×Int)(c:a.eval x=.agg (stA Y z))(h:K (a.put o.dst (.slice (some ⟨w.heap.size,0,none⟩) 1 1)) (w.alloc (.cells (stA Y z) 157))):o.wp prog a w K Q:=by
 have e:(#[(0,x)].map λ(i,y)=>(i,a.eval y))=#[((0:Nat),Value.agg (stA Y z))]:=by simp[c]
 unfold Oper.wp execOp;simp only[b,Sem.run_bind,e,qsz,Result.andThen_ok];exact h
theorem qf9(s x:Operand)(t:TypeId)(H:o.op=.call {callee:=.builtin .append,args:=#[s,x],argTypes:=#[t,t]})(g:Nat)(e:TypeId)(i:TypeInfo)(z:Value)(size l:Nat)(O:P.underlying t=some (.slice e))(hi:P.info? e=some i)(S:i.zero=some z)(M:i.size=size)(D:i.bytes=l)(T:z.cells.size=size)(N:0<size)(v:Value)(n:Nat)(p:List Value)(L:a.eval s=v)(I:w.ownsRow g e size v n p)(k:Addr)(m c:Nat)(d:List Value)(R:a.eval x=.slice (some k) m c)(F:d.length=m*size)(G:∀j u,d[j]?=some u->w.cell? (k.add j)=some u)(q:∀u∈d,u.oneCell'=true)(B:n+m<=maxLen)(E:(n+m)*l<=140737488355328)(C:g<=w.heap.size)(h:∀b f,f.ownsRow g e size b (n+m) (p++d)->w.grownBy f v.ownBlock->(b.ownBlock=v.ownBlock\/b.ownBlock=some w.heap.size)->K (a.put o.dst b) f):o.wp P a w K Q:=by
 obtain⟨b,f,J,r,y,_,A⟩:=run_append_own_at (P:=P) w g t o.type e i z size l O hi S M D T N v n p I k m c d F G q B E C;unfold Oper.wp execOp;simp only[H,resolve,invoke,builtin,Sem.run_bind,Sem.run_pure,Result.andThen_ok,List.map_toArray,List.map_cons,List.map_nil,L,R,J];exact h b f r y A
theorem qka{e:TypeId}(d:W.ownsRow base e size v n xs)(h:v.ownBlock=some g):g<W.heap.size:=by
 rcases d.2 with⟨a,_⟩|⟨b,f,i,a,_,c,_⟩
 ·subst a;cases h
 subst a;have e:b=g:=by simpa[Value.ownBlock]using h
 subst e;exact ltA c
theorem Tryz.infoSt:(prog.info? 157).map (λi=>(i.zero,i.size,i.bytes))=some (some (.agg (stA zPl (0,0))),18,48):=by kernel_rfl
theorem qqJ(Y:Nat->Nat)(x:Int×Int):∀u∈(stA Y x).toList,u.oneCell'=true:=by
 intro u a;simp[stA,plA]at a;rcases a with⟨i,_,rfl⟩|rfl|rfl<;>rfl
theorem qcx.next(h:qcx W0 A q sts sv nf mn mf W)(a:Below W.heap.size W W'):qcx W0 A q sts sv nf mn mf W':=by
 have b:W.grownBy W' none:=⟨a.os,a.tape,a.output,a.size,λi c _=>a.block i c⟩
 obtain⟨e,d,f⟩:=h.takes;exact{h with
  row:=(a.block _ (ltA h.row)).trans h.row
  below:=h.below.trans (a.mono h.below.size)
  letters:=h.letters.kept b (by simp)
  takes:=⟨e,(a.block _ (ltA d)).trans d,f⟩
  states:=qju h.states (λi c=>a.block i c)
  numbers:=h.numbers.kept b (by simp)
  moves:=h.moves.kept b (by simp)}
theorem qpY(a:List ((Nat->Nat)×Int×Int))(Y:Nat->Nat)(J:Int×Int):(a++[(Y,J)]).flatMap stC=a.flatMap stC++(stA Y J).toList:=by
 simp[stC,stA]
theorem qtb(q:Aut)(b a:Value):(qyp q b).setIfInBounds 20 a=qyp q a:=rfl
theorem qdm.cell{kt:TypeId}(h:qdm W kt m n f)(A j:Nat)(v:Value)(c:m≠A):qdm (W.setCell ⟨A,j,none⟩ v) kt m n f:=by
 obtain⟨D,a,b⟩:=h;exact⟨D,a.setCell (by simpa using c) v,b⟩
theorem qdm.drew{kt:TypeId}(h:qdm W kt m n f):qdm W.drew kt m n f:=h
theorem qd9{e:TypeId}(h:W.ownsRow base e size v n xs)(k:∀g,v.ownBlock=some g->W'.heap[g]?=W.heap[g]?):W'.ownsRow base e size v n xs:=by
 refine⟨h.1,?_⟩;rcases h.2 with a|⟨b,c,d,a,f,j,i⟩
 ·exact .inl a
 exact .inr ⟨b,c,d,a,f,(k b (by rw[a];rfl)).trans j,i⟩
structure qnf(A:Nat)(q:Aut)(sv:Value)(W W':World):Prop where
 size:W.heap.size<=W'.heap.size
 block:∀i,i<W.heap.size->some i≠sv.ownBlock->i≠A->i≠q.nb->i≠q.mb->W'.heap[i]?=W.heap[i]?
theorem qyi{X:World}(h:qcx W0 A q sts sv nf mn mf X){Y:Nat->Nat}(P:∀r,Y r<512){l:Lit}(v:keyOf prog 112 (.agg (plA Y))=some l)(hi:nf l=none)(ab:sts.length<100000){v':Value}{w4:World}(B:w4.ownsRow W0.heap.size 157 18 v' (sts.length+1) (sts.flatMap stC++(stA Y (jdg q.dflt q.rs Y 0)).toList))(d:X.grownBy w4 sv.ownBlock)(S:v'.ownBlock=sv.ownBlock\/v'.ownBlock=some X.heap.size):∃f,(Instr.mapUpdate 108 (.map (some q.nb)) (.agg (plA Y)) (.int .i64 sts.length)).run prog (w4.setCell ⟨A,20,none⟩ v').drew=.ok () f/\(w4.setCell ⟨A,20,none⟩ v').drew.grownBy f (some q.nb)/\(∀i,i<X.heap.size->some i≠sv.ownBlock->i≠A->i≠q.nb->f.heap[i]?=X.heap[i]?)/\X.heap.size<=f.heap.size/\∃m,qcx W0 A q (sts++[(Y,jdg q.dflt q.rs Y 0)]) v' m mn mf f:=by
 obtain⟨F,H,y,I,a5,J,a7,K,a9,G⟩:=h.apart;obtain⟨u1,u2,u3,u4,u5⟩:=h.high;have U:some A≠sv.ownBlock:=λe=>(h.own A e.symm).1 rfl;have V:some q.lm≠sv.ownBlock:=λe=>(h.own _ e.symm).2.1 rfl;have nt:some q.tb≠sv.ownBlock:=λe=>(h.own _ e.symm).2.2.1 rfl;have Z:some q.nb≠sv.ownBlock:=λe=>(h.own _ e.symm).2.2.2.1 rfl;have W:some q.mb≠sv.ownBlock:=λe=>(h.own _ e.symm).2.2.2.2 rfl;obtain⟨L,E,t2⟩:=h.takes;have T:=ltA h.row;have lt:=ltA E;have ll:=h.letters.lt;have ln:=h.numbers.lt;have lm:=h.moves.lt;have O:=((h.numbers.kept d Z).cell A 20 v' y.symm).drew;obtain⟨f,R,Q,c⟩:=qmN O plK underlying108 (by omega) v sts.length (by omega);have w:∀g,v'.ownBlock=some g->g≠A/\g≠q.lm/\g≠q.tb/\g≠q.nb/\g≠q.mb:=by
  intro g e;rcases S with j|j
  ·exact h.own g (j.symm.trans e)
  rw[j]at e;have e:X.heap.size=g:=by simpa using e
  omega
 have t:∀i,i<X.heap.size->some i≠sv.ownBlock->i≠A->i≠q.nb->f.heap[i]?=X.heap[i]?:=by
  intro i h1 p M N;have s4:=Nat.lt_of_lt_of_le h1 d.size;have s:(w4.setCell ⟨A,20,none⟩ v').drew.heap.size=w4.heap.size:=by simp[World.setCell,World.drew]
  exact(c.block i (by rw[s];exact s4) (by simpa using N)).trans ((Below.heap_setCell w4 _ _ _ (by simpa using M)).trans (d.block i h1 p))
 obtain⟨m,e1,j⟩:∃m:Lit->Option Nat,m l=some sts.length/\∀b,b≠l->m b=nf b:=by
  have:=Classical.propDecidable;exact⟨λb=>if b=l then some sts.length else nf b,if_pos rfl,λb n=>if_neg n⟩
 have D:X.heap.size<=f.heap.size:=by
  have:=d.size;have p:=c.size;have s:(w4.setCell ⟨A,20,none⟩ v').drew.heap.size=w4.heap.size:=by simp[World.setCell,World.drew]
  omega
 refine⟨f,R,c,t,D,m,?_⟩;exact{
  row:=by
   have r4:=(d.block A T U).trans h.row;have C:(w4.setCell ⟨A,20,none⟩ v').drew.heap[A]?=some (.cells (qyp q v') 116):=by
    have:=heap_setCell_same w4 A 20 _ _ v' r4;rw[qtb]at this;exact this
   exact(c.block A (ltA C) (by simpa using y)).trans C
  rules:=h.rules
  few:=h.few
  below:=⟨by rw[c.os];exact d.os.trans h.below.os,by rw[c.tape];exact d.tape.trans h.below.tape,by rw[c.output];exact d.output.trans h.below.output,Nat.le_trans h.below.size D,λi hi=>(t i (Nat.lt_of_lt_of_le hi h.below.size) (λe=>by have:=qb4 h.states e.symm;omega) (by omega) (by omega)).trans (h.below.block i hi)⟩
  letters:=(((h.letters.kept d V).cell A 20 v' F.symm).drew).kept c (by simpa using J)
  takes:=⟨L,(t _ lt nt H.symm K).trans E,t2⟩
  states:=by
   rw[qpY,List.length_append];refine qd9 B λg e=>?_;have s:(w4.setCell ⟨A,20,none⟩ v').drew.heap.size=w4.heap.size:=by simp[World.setCell,World.drew]
   exact(c.block g (by rw[s];exact qka B e) (by have:=(w g e).2.2.2.1;simpa using this)).trans (Below.heap_setCell w4 _ _ _ (by have:=(w g e).1;simpa using this))
  numbers:=by
   rw[List.length_append];exact Q m e1 j
  moves:=(((h.moves.kept d W).cell A 20 v' I.symm).drew).kept c (by simpa using G.symm)
  high:=h.high
  apart:=h.apart
  own:=w
  bits:=h.bits
  here:=λi x a=>by
   by_cases u:i<sts.length
   ·rw[List.getElem?_append_left u]at a;exact h.here i x a
   rw[List.getElem?_append_right (by omega)]at a;obtain⟨_,rfl⟩:i-sts.length=0/\(Y,jdg q.dflt q.rs Y 0)=x:=by
    cases o:i-sts.length with
    |zero=>rw[o]at a;exact⟨rfl,by simpa using a⟩
    |succ k=>rw[o]at a;simp at a
   exact⟨rfl,P⟩
  num:=λi x a b z=>by
   by_cases u:i<sts.length
   ·rw[List.getElem?_append_left u]at a;have:=h.num i x a b z;rw[j b (λe=>by rw[e,hi]at this;cases this)];exact this
   rw[List.getElem?_append_right (by omega)]at a;obtain⟨aa,rfl⟩:i-sts.length=0/\(Y,jdg q.dflt q.rs Y 0)=x:=by
    cases o:i-sts.length with
    |zero=>rw[o]at a;exact⟨rfl,by simpa using a⟩
    |succ k=>rw[o]at a;simp at a
   have e:=Option.some.inj (z.symm.trans v);rw[e,e1,show i=sts.length by omega]
  num':=λb i n=>by
   by_cases e:b=l
   ·subst e;rw[e1]at n;have e:=Option.some.inj n;subst e;exact⟨(Y,jdg q.dflt q.rs Y 0),by simp,v⟩
   rw[j b e]at n;obtain⟨x,h1,p⟩:=h.num' b i n;exact⟨x,by rw[List.getElem?_append_left (ltL h1)];exact h1,p⟩}
def qvu(sv sv':Value)(W:World):Prop:=sv'.ownBlock=sv.ownBlock\/∃g,sv'.ownBlock=some g/\W.heap.size<=g
theorem qvu.mono{sv':Value}(h:qvu sv sv' V)(a:W.heap.size<=V.heap.size):qvu sv sv' W:=h.imp id (λ⟨g,e,h⟩=>⟨g,e,Nat.le_trans a h⟩)
theorem ql2(v:World)(A:Nat)(q:Aut)(a:List ((Nat->Nat)×Int×Int))(f:Option Addr)(i:Nat)(x:Lit->Option Nat)(D:Nat)(C:Lit->Option Nat)(W:World)(h:qcx v A q a (.slice f a.length i) x D C W)(Y:Nat->Nat)(T:∀r,Y r<512)(l:Lit)(X:keyOf prog 112 (.agg (plA Y))=some l)(hi:x l=none)(az:a.length<100000):Calls prog 45 #[.pointer (some ⟨A,0,none⟩),.agg (plA Y)] W λe R=>e=.returned (.int .i64 a.length)/\qnf A q (.slice f a.length i) W R/\∃ab ac N,qvu (.slice f a.length i) (.slice ab (a.length+1) ac) W/\qcx v A q (a++[(Y,jdg q.dflt q.rs Y 0)]) (.slice ab (a.length+1) ac) N D C R:=by
 have P:Hid ((W.alloc (.cells (plA Y) 112)).heap[W.heap.size]?=some (.cells (plA Y) 112)):=qac _ _;have E:Hid (qcx v A q a (.slice f a.length i) x D C (W.alloc (.cells (plA Y) 112))):=h.next bwA
 have a3:A≠W.heap.size:=by have:=ltA h.row;omega
 have af:=qab h.numbers.lt;have ag:Hid (∀g,(Value.slice f a.length i).ownBlock=some g->g<W.heap.size):=λg e=>qka h.states e;go_enter func45,ntmps45;go_wp2;have HW:Hid (Below W.heap.size W (W.alloc (.cells (plA Y) 112))):=bwA;generalize W.alloc (.cells (plA Y) 112)=V at *;refine rgn (S:=λZ=>Z.cell? ⟨A,21,none⟩=some (.map (some q.nb))/\Z.heap[W.heap.size]?=some (.cells (plA Y) 112)/\qdm Z 112 q.nb a.length x) (⟨qaa E.out.row 21,P.out,E.out.numbers⟩) (by kernel_rfl) ?_;intro b;refine tkp 0 10 (.pointer (some ⟨A,0,none⟩)) b ?_;refine tkp 1 11 (.pointer (some ⟨A,0,none⟩)) b ?_;refine tkp 2 12 (.pointer (some ⟨A,21,none⟩)) b ?_;refine tkq 3 13 (.map (some q.nb)) rfl (λZ d=>?y3) b ?_
 case y3=>(have z1:=d.1;go_simp)
 refine tkq 4 14 (.agg (plA Y)) rfl (λZ d=>?y4) b ?_
 case y4=>exact qja 112 (.tmp 3) rfl W.heap.size rfl _ _ _ _ d.2.1 underlying112 rfl (qbt Y)
 refine tkq 5 15 (.tuple #[.int .i64 0,.bool false]) rfl (λZ d=>?y5) b ?_
 case y5=>(have z2:=qdI d.2.2 plK underlying108 X;rw[hi]at z2;go_simp)
 refine tkp 6 9 (.tuple #[.int .i64 0,.bool false]) b ?_;refine tkp 7 16 (.int .i64 0) b ?_;refine tkp 8 17 (.bool false) b ?_;refine tkp 9 5 (.int .i64 0) b ?_;refine tkp 10 6 (.bool false) b ?_;refine wdn ?_;go_simp;have m:=qab (E.out.next (Below.refl _ _).drew);have G:Hid ((World.drew V).heap[W.heap.size]?=some (.cells (plA Y) 112)):=P.out;have Q:=qab (HW.out.drew);generalize World.drew V=V1 at *;have al:V1.cell? ⟨A,20,none⟩=some (.slice f a.length i):=qaa m.out.row 20;have cJ:=qpQ V1 A q.ra q.rc q.dflt q.rs Y (λr=>by have:=T r;omega) m.out.few.1 m.out.few.2 (ltA m.out.row) (qaa m.out.row 0) (qaa m.out.row 1) (m.out.rules.below m.out.below)
 go_wp2_with(first
  |(go_at_call 64;refine cJ.mono ?_;rintro e k ⟨rfl,M⟩;have F:=qab (m.out.next M);have H:=qab ((M.block _ (ltA G.out)).trans G.out);have y:=qab (Q.out.trans (M.mono Q.out.size));have al:k.cell? ⟨A,20,none⟩=some (.slice f a.length i):=qaa F.out.row 20)
  |(refine wpList_load_row rfl 112 (.tmp 3) rfl W.heap.size rfl _ _ _ _ G.out underlying112 rfl (qbt Y) ?_))
 obtain⟨si,ay,au,av,aw⟩:=info_parts Tryz.infoSt;have a2:=ltA F.out.row;have s:Hid (qcx v A q a (.slice f a.length i) x D C (k.drew.alloc (.cells (stA Y (jdg q.dflt q.rs Y 0)) 157))):=(F.out.next (Below.refl _ _).drew).next bwA
 have w:(λZ:World=>Z.heap[W.heap.size]?=some (.cells (plA Y) 112)) (k.drew.alloc (.cells (stA Y (jdg q.dflt q.rs Y 0)) 157)):=(Below.heap_alloc k.drew _ _ (ltA H.out)).trans H.out;have ah:Hid (∀(j:Nat) (ad:Value),(stA Y (jdg q.dflt q.rs Y 0)).toList[j]?=some ad->(k.drew.alloc (.cells (stA Y (jdg q.dflt q.rs Y 0)) 157)).cell? ((⟨k.heap.size,0,none⟩:Addr).add j)=some ad):=qd3 k.drew _ _;refine rgn (S:=λZ=>Z.heap[W.heap.size]?=some (.cells (plA Y) 112)) (H.out) (by kernel_rfl) ?_;intro b;refine tkp 0 31 (.pointer (some ⟨A,0,none⟩)) b ?_;refine tkp 1 32 (.pointer (some ⟨A,0,none⟩)) b ?_;refine tkp 2 33 (.pointer (some ⟨A,0,none⟩)) b ?_;refine tkp 3 34 (.pointer (some ⟨A,20,none⟩)) b ?_;refine tkq 5 36 (.agg (plA Y)) rfl (λZ d=>?y5) b ?_
 case y5=>exact qja 112 (.tmp 3) rfl W.heap.size rfl _ _ _ _ d underlying112 rfl (qbt Y)
 refine tkp 6 37 (.int .i64 (jdg q.dflt q.rs Y 0).1) b ?_;refine tkp 7 38 (.int .i64 (jdg q.dflt q.rs Y 0).2) b ?_;refine tkq 8 39 (.agg (stA Y (jdg q.dflt q.rs Y 0))) rfl (λZ d=>?y8) b ?_
 case y8=>kernel_rfl
 refine qll 4 9 (λK c=>?_) (λK c=>?_)
 focus
  go_simp;refine c.out _ _ b (λ_=>?_);refine rdq 9 (λK c=>?_);refine ifw (by kernel_rfl) ?_;refine qhZ (.tmp 39) rfl Y (jdg q.dflt q.rs Y 0) (by kernel_rfl) ?_;refine c.out _ _ w (λ_=>?_)
 rotate_left
 focus
  refine ifw (by kernel_rfl) ?_;refine qhZ (.tmp 39) rfl Y (jdg q.dflt q.rs Y 0) (by kernel_rfl) ?_;refine c.out _ _ w (λ_=>?_);refine rdq 4 (λK c=>?_);go_simp;refine c.out _ _ w (λ_=>?_)
 all_goals
  refine rdq 10 (λK c=>?_);refine ifw (by kernel_rfl) ?_;refine qf9 (.tmp 35) (.tmp 40) 114 rfl v.heap.size 157 si _ 18 48 underlying114 ay au av aw rfl (by decide) (.slice f a.length i) _ _ (by kernel_rfl) s.out.states ⟨k.heap.size,0,none⟩ 1 1 (stA Y (jdg q.dflt q.rs Y 0)).toList (by kernel_rfl) ?hln ah.out (qqJ _ _) (by unfold maxLen;omega) (by omega) s.out.below.size ?_
  case hln=>simp[stA,plA]
  intro v' n u ar aa;obtain⟨p,o,rfl⟩:=ownsRow_succ u;have aj:=qab u;have I:=qab ar;have ak:=qab aa;have ai:Hid (qvu (.slice f a.length i) (.slice (some ⟨p,0,none⟩) (a.length+1) o) W):=aa.imp id (λe=>⟨_,e,by have L:=y.out.size;simp;omega⟩);have an:=ltA s.out.row;have J:=qab ((I.out.block A an (λe=>(s.out.own A e.symm).1 rfl)).trans s.out.row);have z:(λZ:World=>Z.heap[W.heap.size]?=some (.cells (plA Y) 112)) n:=(I.out.block W.heap.size (ltA w) (λe=>by have:=ag.out _ e.symm;omega)).trans w;have a0:n.cell? ⟨A,20,none⟩=some (.slice f a.length i):=qaa J.out 20;have a1:=frozen_of_row n A 20 _ _ J.out;have B:(λZ:World=>Z.heap[W.heap.size]?=some (.cells (plA Y) 112)) (n.setCell ⟨A,20,none⟩ (.slice (some ⟨p,0,none⟩) (a.length+1) o)):=(Below.heap_setCell n _ _ _ (by simp;omega)).trans z;refine c.out _ _ z (λ_=>?_);refine tkp 11 42 (.pointer (some ⟨A,0,none⟩)) z ?_;refine tkp 12 43 (.pointer (some ⟨A,20,none⟩)) z ?_;refine rdq 13 (λK c=>?_);go_simp;refine c.out _ _ B (λ_=>?_);refine wdn ?_;go_simp;obtain⟨w6,a4,aq,ap,ax,N,am⟩:=qyi s.out T X hi az aj.out I.out ak.out;have O:=qab am;have ae:Hid (qnf A q (.slice f a.length i) W w6):=by
   have s3:k.heap.size<=(k.drew.alloc (.cells (stA Y (jdg q.dflt q.rs Y 0)) 157)).heap.size:=by rw[World.size_alloc];exact Nat.le_succ _
   refine⟨Nat.le_trans y.out.size (Nat.le_trans s3 ax),λj L h2 h3 h4 _=>?_⟩;have U:=Nat.lt_of_lt_of_le L y.out.size;exact(ap j (Nat.lt_of_lt_of_le U s3) h2 h3 h4).trans ((Below.heap_alloc k.drew _ _ U).trans (y.out.block j L))
  have t:(λZ:World=>Z.cell? ⟨A,21,none⟩=some (.map (some q.nb))/\Z.heap[W.heap.size]?=some (.cells (plA Y) 112)) { (n.setCell ⟨A,20,none⟩ (.slice (some ⟨p,0,none⟩) (a.length+1) o))with drawn:=(n.setCell ⟨A,20,none⟩ (.slice (some ⟨p,0,none⟩) (a.length+1) o)).drawn+1}:=⟨by have h:=heap_setCell_same n A 20 _ _ (.slice (some ⟨p,0,none⟩) (a.length+1) o) J.out;exact qaa h 21,B⟩
  have ao:(λZ:World=>Z.cell? ⟨A,21,none⟩=some (.map (some q.nb))/\Z.heap[W.heap.size]?=some (.cells (plA Y) 112)) w6:=⟨qaa O.out.row 21,(aq.block W.heap.size (ltA B) (by have:=af.out;simp;omega)).trans B⟩
  generalize n.setCell ⟨A,20,none⟩ (.slice (some ⟨p,0,none⟩) (a.length+1) o)=V5 at *;go_wp2;refine wp_region_held (S:=λZ=>Z.cell? ⟨A,21,none⟩=some (.map (some q.nb))/\Z.heap[W.heap.size]?=some (.cells (plA Y) 112)) (by kernel_rfl) ?_;refine tkp 0 44 (.pointer (some ⟨A,0,none⟩)) t ?_;refine tkp 1 45 (.pointer (some ⟨A,0,none⟩)) t ?_;refine tkp 2 46 (.pointer (some ⟨A,21,none⟩)) t ?_;refine tkq 3 47 (.map (some q.nb)) rfl (λZ d=>?y3) t ?_
  case y3=>(have z1:=d.1;go_simp)
  refine tkq 4 48 (.agg (plA Y)) rfl (λZ d=>?y4) t ?_
  case y4=>exact qja 112 (.tmp 3) rfl W.heap.size rfl _ _ _ _ d.2 underlying112 rfl (qbt Y)
  refine tkp 5 49 (.int .i64 a.length) t ?_;refine rdq 6 (λK c=>?_);go_simp;refine c.out _ _ ao (λ_=>?_);refine wdn ?_;go_simp;go_wp2;go_ret;exact⟨rfl,ae.out,some ⟨p,0,none⟩,o,N,ai.out,O.out⟩

end
end Go.Proofs.YtpifimohecagoaaGreatDoor
