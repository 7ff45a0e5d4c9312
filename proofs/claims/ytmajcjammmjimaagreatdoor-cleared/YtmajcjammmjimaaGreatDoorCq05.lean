import Derived.Shelf.Unicode.DecodeSlow
import Derived.Test.YtmajcjammmjimaaGreatDoorCq03
set_option maxRecDepth 100000
set_option maxHeartbeats 8000000
set_option linter.all false
namespace Go.Proofs.YtmajcjammmjimaaGreatDoor
open Go.Proofs.Tryz
variable{W:World}{b0 hi i lo sz x:Nat}
section
open Go.RowKit Go.Lib
def U8(W:World):Prop:=Utf8Tabs 5 6 W
theorem U8.below{V:World}(h:U8 W)(a:Below W.heap.size W V):U8 V:=by
 refine⟨λc d=>?_,λi b=>⟨?_,?_⟩⟩
 ·have:=h.1 c d;exact(a.cell (p:=⟨_,c,none⟩) (kaI this)).trans this
 ·have:=(h.2 i b).1;exact(a.cell (p:=⟨_,_,none⟩) (kaI this)).trans this
 have:=(h.2 i b).2;exact(a.cell (p:=⟨_,_,none⟩) (kaI this)).trans this
theorem q0z:∀v:Fin 256,bits .and .u8 (v.val:Int) 7=((v.val%8:Nat):Int):=by decide
structure qg6(b0 x sz i lo hi:Nat):Prop where
 fx:firstT b0=x
 fsz:bits .and .u8 (x:Int) 7=(sz:Int)
 fi:x/16=i
 flt:i<16
 fxb:x<256
 flo:accLo i=lo
 fhi:accHi i=hi
theorem qg6.szlt(h:qg6 b0 x sz i lo hi):sz<8:=by
 have a:=q0z ⟨x,h.fxb⟩;have b:=h.fsz;rw[a]at b;omega
theorem qwJ(a x:Nat)(h:firstT a=x)(b:x<256):qg6 a x (x%8) (x/16) (accLo (x/16)) (accHi (x/16)):=by
 refine⟨h,?_,rfl,by omega,b,rfl,rfl⟩;exact q0z ⟨x,b⟩
theorem qbW(W:World)(g off n f:Nat)(b x a i lo hi:Nat)(c:qg6 b x a i lo hi)(j:b<256)(r:1<=n)(s:a<=n)(q:n<=4)(o:W.cell? ⟨g,off,none⟩=some (.int .u8 b))(k:U8 W):Calls prog 209 #[.slice (some ⟨g,off,none⟩) n f] W λe d=>e=.returned (.bool true)/\d=W:=by
 have h:=k.1 b j;rw[c.fx]at h;have p:=c.fsz;have t:wrap64 (a:Int)=a:=by have:=c.szlt;unfold wrap64;omega
 have l:((n:Int)==0)=false:=by simp;omega
 have m:decide (a<=n)=true:=by simp;omega
 go_enter func209,ntmps209;go_wp2;go_ret;exact⟨rfl,rfl⟩
theorem qaE(a:qg6 b0 x sz i lo hi)(d:U8 W):W.cell? ⟨6,i*2,none⟩=some (.int .u8 lo)/\W.cell? ⟨6,i*2+1,none⟩=some (.int .u8 hi):=by
 obtain⟨b,c⟩:=d.2 i a.flt;rw[a.flo]at b;rw[a.fhi]at c;rw[kb9 i 2];exact⟨b,c⟩
theorem qkc(W:World)(g off k:Nat)(c x b i lo hi:Nat)(a:qg6 c x b i lo hi)(m:c<256)(s:1<b)(p:W.cell? ⟨g,off,none⟩=some (.int .u8 c))(d:U8 W):Calls prog 209 #[.slice (some ⟨g,off,none⟩) 1 k] W λe f=>e=.returned (.bool false)/\Below W.heap.size W f:=by
 have l:=d.1 c m;rw[a.fx]at l;have q:=a.fsz;have t:wrap64 (b:Int)=b:=by have:=a.szlt;unfold wrap64;omega
 obtain⟨h,j⟩:=qaE a d;have r:x/16<16:=by rw[a.fi];exact a.flt
 rw[<-a.fi]at h j;have n:decide (b<=1)=false:=by simp;omega
 have o:¬b<=1:=by omega
 go_enter func209,ntmps209;go_wp2
 go_quiet (fail)
 go_wp2;go_ret;exact⟨rfl,(bwA).trans ((qao _ nq).mono (by simp))⟩
theorem qm1(W:World)(g off m:Nat)(c d x b i lo hi:Nat)(a:qg6 c x b i lo hi)(o:c<256)(y:2<b)(u:W.cell? ⟨g,off,none⟩=some (.int .u8 c))(f:W.cell? ⟨g,off+1,none⟩=some (.int .u8 d))(h:U8 W)(p:d<lo):Calls prog 209 #[.slice (some ⟨g,off,none⟩) 2 m] W λe j=>e=.returned (.bool true)/\Below W.heap.size W j:=by
 have n:=h.1 c o;rw[a.fx]at n;have v:=a.fsz;have z:wrap64 (b:Int)=b:=by have:=a.szlt;unfold wrap64;omega
 obtain⟨k,l⟩:=qaE a h;have w:x/16<16:=by rw[a.fi];exact a.flt
 rw[<-a.fi]at k l;have s:decide (b<=2)=false:=by simp;omega
 have t:¬b<=2:=by omega
 have q:=(kal W ⟨g,off+1,none⟩ (.cells #[.int .u8 lo,.int .u8 hi] 259) (by rw[f];rfl)).trans f;have c2:=qaa (qac W (.cells #[.int .u8 lo,.int .u8 hi] 259)) 0;have r:=qaa (qac W (.cells #[.int .u8 lo,.int .u8 hi] 259)) 1;have q1:decide (d<lo)=true:=by simpa using p
 go_enter func209,ntmps209;go_wp2
 go_quiet (fail)
 go_wp2;go_ret;exact⟨rfl,(bwA).trans ((qao _ nq).mono (by simp))⟩
theorem qmD(W:World)(g off m:Nat)(d c x b i lo hi:Nat)(a:qg6 d x b i lo hi)(o:d<256)(z:2<b)(v:W.cell? ⟨g,off,none⟩=some (.int .u8 d))(f:W.cell? ⟨g,off+1,none⟩=some (.int .u8 c))(h:U8 W)(p:¬c<lo)(q:hi<c):Calls prog 209 #[.slice (some ⟨g,off,none⟩) 2 m] W λe j=>e=.returned (.bool true)/\Below W.heap.size W j:=by
 have n:=h.1 d o;rw[a.fx]at n;have w:=a.fsz;have A:wrap64 (b:Int)=b:=by have:=a.szlt;unfold wrap64;omega
 obtain⟨k,l⟩:=qaE a h;have y:x/16<16:=by rw[a.fi];exact a.flt
 rw[<-a.fi]at k l;have t:decide (b<=2)=false:=by simp;omega
 have u:¬b<=2:=by omega
 have r:=(kal W ⟨g,off+1,none⟩ (.cells #[.int .u8 lo,.int .u8 hi] 259) (by rw[f];rfl)).trans f;have c2:=qaa (qac W (.cells #[.int .u8 lo,.int .u8 hi] 259)) 0;have s:=qaa (qac W (.cells #[.int .u8 lo,.int .u8 hi] 259)) 1;have q1:decide (c<lo)=false:=by simpa using p
 have B:decide (hi<c)=true:=by simpa using q
 go_enter func209,ntmps209;go_wp2
 go_quiet (fail)
 go_wp2;go_ret;exact⟨rfl,(bwA).trans ((qao _ nq).mono (by simp))⟩
theorem qlc(W:World)(g off m:Nat)(d c x b i lo hi:Nat)(a:qg6 d x b i lo hi)(o:d<256)(z:2<b)(v:W.cell? ⟨g,off,none⟩=some (.int .u8 d))(f:W.cell? ⟨g,off+1,none⟩=some (.int .u8 c))(h:U8 W)(p:¬c<lo)(q:¬hi<c):Calls prog 209 #[.slice (some ⟨g,off,none⟩) 2 m] W λe j=>e=.returned (.bool false)/\Below W.heap.size W j:=by
 have n:=h.1 d o;rw[a.fx]at n;have w:=a.fsz;have A:wrap64 (b:Int)=b:=by have:=a.szlt;unfold wrap64;omega
 obtain⟨k,l⟩:=qaE a h;have y:x/16<16:=by rw[a.fi];exact a.flt
 rw[<-a.fi]at k l;have t:decide (b<=2)=false:=by simp;omega
 have u:¬b<=2:=by omega
 have r:=(kal W ⟨g,off+1,none⟩ (.cells #[.int .u8 lo,.int .u8 hi] 259) (by rw[f];rfl)).trans f;have c2:=qaa (qac W (.cells #[.int .u8 lo,.int .u8 hi] 259)) 0;have s:=qaa (qac W (.cells #[.int .u8 lo,.int .u8 hi] 259)) 1;have q1:decide (c<lo)=false:=by simpa using p
 have B:decide (hi<c)=false:=by simpa using q
 go_enter func209,ntmps209;go_wp2
 go_quiet (fail)
 go_wp2;go_ret;exact⟨rfl,(bwA).trans ((qao _ nq).mono (by simp))⟩
theorem qka(W:World)(g off p:Nat)(d c f x b i lo hi:Nat)(a:qg6 d x b i lo hi)(r:d<256)(E:3<b)(B:W.cell? ⟨g,off,none⟩=some (.int .u8 d))(j:W.cell? ⟨g,off+1,none⟩=some (.int .u8 c))(k:W.cell? ⟨g,off+2,none⟩=some (.int .u8 f))(l:U8 W)(s:¬c<lo)(t:¬hi<c)(u:f<128):Calls prog 209 #[.slice (some ⟨g,off,none⟩) 3 p] W λe m=>e=.returned (.bool true)/\Below W.heap.size W m:=by
 have q:=l.1 d r;rw[a.fx]at q;have C:=a.fsz;have F:wrap64 (b:Int)=b:=by have:=a.szlt;unfold wrap64;omega
 obtain⟨n,o⟩:=qaE a l;have D:x/16<16:=by rw[a.fi];exact a.flt
 rw[<-a.fi]at n o;have z:decide (b<=3)=false:=by simp;omega
 have A:¬b<=3:=by omega
 have h:Hid (Below W.heap.size W (W.alloc (.cells #[.int .u8 lo,.int .u8 hi] 259))):=bwA;have v:=(kal W ⟨g,off+1,none⟩ (.cells #[.int .u8 lo,.int .u8 hi] 259) (by rw[j];rfl)).trans j;have w:=(kal W ⟨g,off+2,none⟩ (.cells #[.int .u8 lo,.int .u8 hi] 259) (by rw[k];rfl)).trans k;have c2:=qaa (qac W (.cells #[.int .u8 lo,.int .u8 hi] 259)) 0;have y:=qaa (qac W (.cells #[.int .u8 lo,.int .u8 hi] 259)) 1;have q1:decide (c<lo)=false:=by simpa using s
 have G:decide (hi<c)=false:=by simpa using t
 have H:decide ((f:Int)<128)=true:=by simp;omega
 have I:decide (f<128)=true:=by simpa using u
 go_enter func209,ntmps209;go_wp2
 go_quiet (fail)
 go_wp2;go_ret;exact⟨rfl,h.out.trans ((qao _ nq).mono h.out.size)⟩
theorem qjZ(W:World)(g off p:Nat)(f d a x c i lo hi:Nat)(b:qg6 f x c i lo hi)(r:f<256)(F:3<c)(C:W.cell? ⟨g,off,none⟩=some (.int .u8 f))(j:W.cell? ⟨g,off+1,none⟩=some (.int .u8 d))(k:W.cell? ⟨g,off+2,none⟩=some (.int .u8 a))(l:U8 W)(s:¬d<lo)(t:¬hi<d)(u:¬a<128)(v:191<a):Calls prog 209 #[.slice (some ⟨g,off,none⟩) 3 p] W λe m=>e=.returned (.bool true)/\Below W.heap.size W m:=by
 have q:=l.1 f r;rw[b.fx]at q;have D:=b.fsz;have G:wrap64 (c:Int)=c:=by have:=b.szlt;unfold wrap64;omega
 obtain⟨n,o⟩:=qaE b l;have E:x/16<16:=by rw[b.fi];exact b.flt
 rw[<-b.fi]at n o;have A:decide (c<=3)=false:=by simp;omega
 have B:¬c<=3:=by omega
 have h:Hid (Below W.heap.size W (W.alloc (.cells #[.int .u8 lo,.int .u8 hi] 259))):=bwA;have w:=(kal W ⟨g,off+1,none⟩ (.cells #[.int .u8 lo,.int .u8 hi] 259) (by rw[j];rfl)).trans j;have y:=(kal W ⟨g,off+2,none⟩ (.cells #[.int .u8 lo,.int .u8 hi] 259) (by rw[k];rfl)).trans k;have c2:=qaa (qac W (.cells #[.int .u8 lo,.int .u8 hi] 259)) 0;have z:=qaa (qac W (.cells #[.int .u8 lo,.int .u8 hi] 259)) 1;have q1:decide (d<lo)=false:=by simpa using s
 have H:decide (hi<d)=false:=by simpa using t
 have J:decide (a<128)=false:=by simpa using u
 have L:decide (191<a)=true:=by simpa using v
 have I:decide ((a:Int)<128)=false:=by simp;omega
 have K:decide ((191:Int)<a)=true:=by simp;omega
 go_enter func209,ntmps209;go_wp2
 go_quiet (fail)
 go_wp2;go_ret;exact⟨rfl,h.out.trans ((qao _ nq).mono h.out.size)⟩
theorem qkd(W:World)(g off p:Nat)(f d a x c i lo hi:Nat)(b:qg6 f x c i lo hi)(r:f<256)(F:3<c)(C:W.cell? ⟨g,off,none⟩=some (.int .u8 f))(j:W.cell? ⟨g,off+1,none⟩=some (.int .u8 d))(k:W.cell? ⟨g,off+2,none⟩=some (.int .u8 a))(l:U8 W)(s:¬d<lo)(t:¬hi<d)(u:¬a<128)(v:¬191<a):Calls prog 209 #[.slice (some ⟨g,off,none⟩) 3 p] W λe m=>e=.returned (.bool false)/\Below W.heap.size W m:=by
 have q:=l.1 f r;rw[b.fx]at q;have D:=b.fsz;have G:wrap64 (c:Int)=c:=by have:=b.szlt;unfold wrap64;omega
 obtain⟨n,o⟩:=qaE b l;have E:x/16<16:=by rw[b.fi];exact b.flt
 rw[<-b.fi]at n o;have A:decide (c<=3)=false:=by simp;omega
 have B:¬c<=3:=by omega
 have h:Hid (Below W.heap.size W (W.alloc (.cells #[.int .u8 lo,.int .u8 hi] 259))):=bwA;have w:=(kal W ⟨g,off+1,none⟩ (.cells #[.int .u8 lo,.int .u8 hi] 259) (by rw[j];rfl)).trans j;have y:=(kal W ⟨g,off+2,none⟩ (.cells #[.int .u8 lo,.int .u8 hi] 259) (by rw[k];rfl)).trans k;have c2:=qaa (qac W (.cells #[.int .u8 lo,.int .u8 hi] 259)) 0;have z:=qaa (qac W (.cells #[.int .u8 lo,.int .u8 hi] 259)) 1;have q1:decide (d<lo)=false:=by simpa using s
 have H:decide (hi<d)=false:=by simpa using t
 have J:decide (a<128)=false:=by simpa using u
 have L:decide (191<a)=false:=by simpa using v
 have I:decide ((a:Int)<128)=false:=by simp;omega
 have K:decide ((191:Int)<a)=false:=by simp;omega
 go_enter func209,ntmps209;go_wp2
 go_quiet (fail)
 go_wp2;go_ret;exact⟨rfl,h.out.trans ((qao _ nq).mono h.out.size)⟩

theorem qdJ(W:World)(g off l n:Nat)(c x b i lo hi:Nat)(a:qg6 c x b i lo hi)(o:c<256)(B:x<240)(v:W.cell? ⟨g,off,none⟩=some (.int .u8 c))(d:U8 W)(z:1<=n)(p:n<b):Calls prog 217 #[.slice (some ⟨g,off,none⟩) n l] W λe h=>e=.returned (.tuple #[.int .i32 65533,.int .i64 1])/\Below W.heap.size W h:=by
 have m:=d.1 c o;rw[a.fx]at m;have w:=a.fsz;have A:wrap64 (b:Int)=b:=by have:=a.szlt;unfold wrap64;omega
 obtain⟨j,k⟩:=qaE a d;have y:x/16<16:=by rw[a.fi];exact a.flt
 rw[<-a.fi]at j k;have C:decide (240<=(x:Int))=false:=by simp;omega
 have D:decide (240<=x)=false:=by simp;omega
 have f:Hid (Below W.heap.size W (W.alloc (.cells #[.int .u8 lo,.int .u8 hi] 259))):=bwA;have c2:=qaa (qac W (.cells #[.int .u8 lo,.int .u8 hi] 259)) 0;have q:=qaa (qac W (.cells #[.int .u8 lo,.int .u8 hi] 259)) 1;have r:decide ((n:Int)<1)=false:=by simp;omega
 have s:decide (n<1)=false:=by simp;omega
 have t:decide (n<b)=true:=by simpa using p
 have u:decide ((n:Int)<(b:Int))=true:=by simp;omega
 go_enter func217,ntmps217;go_wp2
 go_ret2
 exact⟨rfl,f.out⟩
theorem qsH(W:World)(g off n:Nat)(b d x c i lo hi:Nat)(a:qg6 b x c i lo hi)(p:b<256)(z:x<240)(u:W.cell? ⟨g,off,none⟩=some (.int .u8 b))(f:W.cell? ⟨g,off+1,none⟩=some (.int .u8 d))(h:U8 W)(r:c=2)(q:d<lo):Calls prog 217 #[.slice (some ⟨g,off,none⟩) 2 n] W λe k=>e=.returned (.tuple #[.int .i32 65533,.int .i64 1])/\Below W.heap.size W k:=by
 have o:=h.1 b p;rw[a.fx]at o;have v:=a.fsz;have y:wrap64 (c:Int)=c:=by have:=a.szlt;unfold wrap64;omega
 obtain⟨l,m⟩:=qaE a h;have w:x/16<16:=by rw[a.fi];exact a.flt
 rw[<-a.fi]at l m;have A:decide (240<=(x:Int))=false:=by simp;omega
 have B:decide (240<=x)=false:=by simp;omega
 have j:Hid (Below W.heap.size W (W.alloc (.cells #[.int .u8 lo,.int .u8 hi] 259))):=bwA;have s:=(kal W ⟨g,off+1,none⟩ (.cells #[.int .u8 lo,.int .u8 hi] 259) (by rw[f];rfl)).trans f;have c2:=qaa (qac W (.cells #[.int .u8 lo,.int .u8 hi] 259)) 0;have t:=qaa (qac W (.cells #[.int .u8 lo,.int .u8 hi] 259)) 1;have q1:decide (d<lo)=true:=by simpa using q
 subst r;go_enter func217,ntmps217;go_wp2
 go_ret2
 exact⟨rfl,j.out⟩
theorem qsv(W:World)(g off n:Nat)(c b x d i lo hi:Nat)(a:qg6 c x d i lo hi)(p:c<256)(A:x<240)(v:W.cell? ⟨g,off,none⟩=some (.int .u8 c))(f:W.cell? ⟨g,off+1,none⟩=some (.int .u8 b))(h:U8 W)(s:d=2)(q:¬b<lo)(r:hi<b):Calls prog 217 #[.slice (some ⟨g,off,none⟩) 2 n] W λe k=>e=.returned (.tuple #[.int .i32 65533,.int .i64 1])/\Below W.heap.size W k:=by
 have o:=h.1 c p;rw[a.fx]at o;have w:=a.fsz;have z:wrap64 (d:Int)=d:=by have:=a.szlt;unfold wrap64;omega
 obtain⟨l,m⟩:=qaE a h;have y:x/16<16:=by rw[a.fi];exact a.flt
 rw[<-a.fi]at l m;have C:decide (240<=(x:Int))=false:=by simp;omega
 have D:decide (240<=x)=false:=by simp;omega
 have j:Hid (Below W.heap.size W (W.alloc (.cells #[.int .u8 lo,.int .u8 hi] 259))):=bwA;have t:=(kal W ⟨g,off+1,none⟩ (.cells #[.int .u8 lo,.int .u8 hi] 259) (by rw[f];rfl)).trans f;have c2:=qaa (qac W (.cells #[.int .u8 lo,.int .u8 hi] 259)) 0;have u:=qaa (qac W (.cells #[.int .u8 lo,.int .u8 hi] 259)) 1;have q1:decide (b<lo)=false:=by simpa using q
 have B:decide (hi<b)=true:=by simpa using r
 subst s;go_enter func217,ntmps217;go_wp2
 go_ret2
 exact⟨rfl,j.out⟩
theorem qtK(W:World)(g off n:Nat)(c b x d i lo hi:Nat)(a:qg6 c x d i lo hi)(q:c<256)(B:x<240)(w:W.cell? ⟨g,off,none⟩=some (.int .u8 c))(f:W.cell? ⟨g,off+1,none⟩=some (.int .u8 b))(h:U8 W)(t:d=2)(r:¬b<lo)(s:¬hi<b):Calls prog 217 #[.slice (some ⟨g,off,none⟩) 2 n] W λe k=>(∃o,e=.returned (.tuple #[.int .i32 o,.int .i64 2]))/\Below W.heap.size W k:=by
 have p:=h.1 c q;rw[a.fx]at p;have y:=a.fsz;have A:wrap64 (d:Int)=d:=by have:=a.szlt;unfold wrap64;omega
 obtain⟨l,m⟩:=qaE a h;have z:x/16<16:=by rw[a.fi];exact a.flt
 rw[<-a.fi]at l m;have D:decide (240<=(x:Int))=false:=by simp;omega
 have E:decide (240<=x)=false:=by simp;omega
 have j:Hid (Below W.heap.size W (W.alloc (.cells #[.int .u8 lo,.int .u8 hi] 259))):=bwA;have u:=(kal W ⟨g,off+1,none⟩ (.cells #[.int .u8 lo,.int .u8 hi] 259) (by rw[f];rfl)).trans f;have c2:=qaa (qac W (.cells #[.int .u8 lo,.int .u8 hi] 259)) 0;have v:=qaa (qac W (.cells #[.int .u8 lo,.int .u8 hi] 259)) 1;have q1:decide (b<lo)=false:=by simpa using r
 have C:decide (hi<b)=false:=by simpa using s
 subst t;go_enter func217,ntmps217;go_wp2
 go_ret2
 exact⟨⟨_,rfl⟩,j.out⟩
theorem qt1(W:World)(g off p:Nat)(c b d x f i lo hi:Nat)(a:qg6 c x f i lo hi)(r:c<256)(E:x<240)(z:W.cell? ⟨g,off,none⟩=some (.int .u8 c))(h:W.cell? ⟨g,off+1,none⟩=some (.int .u8 b))(j:W.cell? ⟨g,off+2,none⟩=some (.int .u8 d))(k:U8 W)(u:f=3)(s:¬b<lo)(t:¬hi<b)(C:d<128):Calls prog 217 #[.slice (some ⟨g,off,none⟩) 3 p] W λe m=>e=.returned (.tuple #[.int .i32 65533,.int .i64 1])/\Below W.heap.size W m:=by
 have q:=k.1 c r;rw[a.fx]at q;have A:=a.fsz;have D:wrap64 (f:Int)=f:=by have:=a.szlt;unfold wrap64;omega
 obtain⟨n,o⟩:=qaE a k;have B:x/16<16:=by rw[a.fi];exact a.flt
 rw[<-a.fi]at n o;have I:decide (240<=(x:Int))=false:=by simp;omega
 have J:decide (240<=x)=false:=by simp;omega
 have l:Hid (Below W.heap.size W (W.alloc (.cells #[.int .u8 lo,.int .u8 hi] 259))):=bwA;have v:=(kal W ⟨g,off+1,none⟩ (.cells #[.int .u8 lo,.int .u8 hi] 259) (by rw[h];rfl)).trans h;have w:=(kal W ⟨g,off+2,none⟩ (.cells #[.int .u8 lo,.int .u8 hi] 259) (by rw[j];rfl)).trans j;have c2:=qaa (qac W (.cells #[.int .u8 lo,.int .u8 hi] 259)) 0;have y:=qaa (qac W (.cells #[.int .u8 lo,.int .u8 hi] 259)) 1;have q1:decide (b<lo)=false:=by simpa using s
 have F:decide (hi<b)=false:=by simpa using t
 subst u;have H:decide (d<128)=true:=by simp;omega
 have G:decide ((d:Int)<128)=true:=by simp;omega
 go_enter func217,ntmps217;go_wp2
 go_ret2
 exact⟨rfl,l.out⟩
theorem quh(W:World)(g off p:Nat)(d c b x f i lo hi:Nat)(a:qg6 d x f i lo hi)(r:d<256)(E:x<240)(z:W.cell? ⟨g,off,none⟩=some (.int .u8 d))(h:W.cell? ⟨g,off+1,none⟩=some (.int .u8 c))(j:W.cell? ⟨g,off+2,none⟩=some (.int .u8 b))(k:U8 W)(u:f=3)(s:¬c<lo)(t:¬hi<c)(C:191<b):Calls prog 217 #[.slice (some ⟨g,off,none⟩) 3 p] W λe m=>e=.returned (.tuple #[.int .i32 65533,.int .i64 1])/\Below W.heap.size W m:=by
 have q:=k.1 d r;rw[a.fx]at q;have A:=a.fsz;have D:wrap64 (f:Int)=f:=by have:=a.szlt;unfold wrap64;omega
 obtain⟨n,o⟩:=qaE a k;have B:x/16<16:=by rw[a.fi];exact a.flt
 rw[<-a.fi]at n o;have K:decide (240<=(x:Int))=false:=by simp;omega
 have L:decide (240<=x)=false:=by simp;omega
 have l:Hid (Below W.heap.size W (W.alloc (.cells #[.int .u8 lo,.int .u8 hi] 259))):=bwA;have v:=(kal W ⟨g,off+1,none⟩ (.cells #[.int .u8 lo,.int .u8 hi] 259) (by rw[h];rfl)).trans h;have w:=(kal W ⟨g,off+2,none⟩ (.cells #[.int .u8 lo,.int .u8 hi] 259) (by rw[j];rfl)).trans j;have c2:=qaa (qac W (.cells #[.int .u8 lo,.int .u8 hi] 259)) 0;have y:=qaa (qac W (.cells #[.int .u8 lo,.int .u8 hi] 259)) 1;have q1:decide (c<lo)=false:=by simpa using s
 have F:decide (hi<c)=false:=by simpa using t
 subst u;have H:decide (b<128)=false:=by simp;omega
 have G:decide ((b:Int)<128)=false:=by simp;omega
 have J:decide (191<b)=true:=by simp;omega
 have I:decide ((191:Int)<b)=true:=by simp;omega
 go_enter func217,ntmps217;go_wp2
 go_ret2
 exact⟨rfl,l.out⟩
theorem qst(W:World)(g off p:Nat)(d c a x f i lo hi:Nat)(b:qg6 d x f i lo hi)(s:d<256)(G:x<240)(A:W.cell? ⟨g,off,none⟩=some (.int .u8 d))(h:W.cell? ⟨g,off+1,none⟩=some (.int .u8 c))(j:W.cell? ⟨g,off+2,none⟩=some (.int .u8 a))(k:U8 W)(v:f=3)(t:¬c<lo)(u:¬hi<c)(D:128<=a)(E:a<=191):Calls prog 217 #[.slice (some ⟨g,off,none⟩) 3 p] W λe m=>(∃q,e=.returned (.tuple #[.int .i32 q,.int .i64 3]))/\Below W.heap.size W m:=by
 have r:=k.1 d s;rw[b.fx]at r;have B:=b.fsz;have F:wrap64 (f:Int)=f:=by have:=b.szlt;unfold wrap64;omega
 obtain⟨n,o⟩:=qaE b k;have C:x/16<16:=by rw[b.fi];exact b.flt
 rw[<-b.fi]at n o;have M:decide (240<=(x:Int))=false:=by simp;omega
 have N:decide (240<=x)=false:=by simp;omega
 have l:Hid (Below W.heap.size W (W.alloc (.cells #[.int .u8 lo,.int .u8 hi] 259))):=bwA;have w:=(kal W ⟨g,off+1,none⟩ (.cells #[.int .u8 lo,.int .u8 hi] 259) (by rw[h];rfl)).trans h;have y:=(kal W ⟨g,off+2,none⟩ (.cells #[.int .u8 lo,.int .u8 hi] 259) (by rw[j];rfl)).trans j;have c2:=qaa (qac W (.cells #[.int .u8 lo,.int .u8 hi] 259)) 0;have z:=qaa (qac W (.cells #[.int .u8 lo,.int .u8 hi] 259)) 1;have q1:decide (c<lo)=false:=by simpa using t
 have H:decide (hi<c)=false:=by simpa using u
 subst v;have J:decide (a<128)=false:=by simp;omega
 have I:decide ((a:Int)<128)=false:=by simp;omega
 have L:decide (191<a)=false:=by simp;omega
 have K:decide ((191:Int)<a)=false:=by simp;omega
 go_enter func217,ntmps217;go_wp2
 go_ret2
 exact⟨⟨_,rfl⟩,l.out⟩
theorem qtm(W:World)(g off r:Nat)(d c a f x h i lo hi:Nat)(b:qg6 d x h i lo hi)(t:d<256)(J:x<240)(C:W.cell? ⟨g,off,none⟩=some (.int .u8 d))(j:W.cell? ⟨g,off+1,none⟩=some (.int .u8 c))(k:W.cell? ⟨g,off+2,none⟩=some (.int .u8 a))(l:W.cell? ⟨g,off+3,none⟩=some (.int .u8 f))(m:U8 W)(w:h=4)(u:¬c<lo)(v:¬hi<c)(G:128<=a)(H:a<=191)(F:f<128):Calls prog 217 #[.slice (some ⟨g,off,none⟩) 4 r] W λe o=>e=.returned (.tuple #[.int .i32 65533,.int .i64 1])/\Below W.heap.size W o:=by
 have s:=m.1 d t;rw[b.fx]at s;have D:=b.fsz;have I:wrap64 (h:Int)=h:=by have:=b.szlt;unfold wrap64;omega
 obtain⟨p,q⟩:=qaE b m;have E:x/16<16:=by rw[b.fi];exact b.flt
 rw[<-b.fi]at p q;have R:decide (240<=(x:Int))=false:=by simp;omega
 have S:decide (240<=x)=false:=by simp;omega
 have n:Hid (Below W.heap.size W (W.alloc (.cells #[.int .u8 lo,.int .u8 hi] 259))):=bwA;have y:=(kal W ⟨g,off+1,none⟩ (.cells #[.int .u8 lo,.int .u8 hi] 259) (by rw[j];rfl)).trans j;have z:=(kal W ⟨g,off+2,none⟩ (.cells #[.int .u8 lo,.int .u8 hi] 259) (by rw[k];rfl)).trans k;have A:=(kal W ⟨g,off+3,none⟩ (.cells #[.int .u8 lo,.int .u8 hi] 259) (by rw[l];rfl)).trans l;have c2:=qaa (qac W (.cells #[.int .u8 lo,.int .u8 hi] 259)) 0;have B:=qaa (qac W (.cells #[.int .u8 lo,.int .u8 hi] 259)) 1;have q1:decide (c<lo)=false:=by simpa using u
 have K:decide (hi<c)=false:=by simpa using v
 subst w;have M:decide (a<128)=false:=by simp;omega
 have L:decide ((a:Int)<128)=false:=by simp;omega
 have O:decide (191<a)=false:=by simp;omega
 have N:decide ((191:Int)<a)=false:=by simp;omega
 have Q:decide (f<128)=true:=by simp;omega
 have P:decide ((f:Int)<128)=true:=by simp;omega
 go_enter func217,ntmps217;go_wp2
 go_ret2
 exact⟨rfl,n.out⟩
theorem qsx(W:World)(g off r:Nat)(f d a c x h i lo hi:Nat)(b:qg6 f x h i lo hi)(t:f<256)(J:x<240)(C:W.cell? ⟨g,off,none⟩=some (.int .u8 f))(j:W.cell? ⟨g,off+1,none⟩=some (.int .u8 d))(k:W.cell? ⟨g,off+2,none⟩=some (.int .u8 a))(l:W.cell? ⟨g,off+3,none⟩=some (.int .u8 c))(m:U8 W)(w:h=4)(u:¬d<lo)(v:¬hi<d)(G:128<=a)(H:a<=191)(F:191<c):Calls prog 217 #[.slice (some ⟨g,off,none⟩) 4 r] W λe o=>e=.returned (.tuple #[.int .i32 65533,.int .i64 1])/\Below W.heap.size W o:=by
 have s:=m.1 f t;rw[b.fx]at s;have D:=b.fsz;have I:wrap64 (h:Int)=h:=by have:=b.szlt;unfold wrap64;omega
 obtain⟨p,q⟩:=qaE b m;have E:x/16<16:=by rw[b.fi];exact b.flt
 rw[<-b.fi]at p q;have T:decide (240<=(x:Int))=false:=by simp;omega
 have U:decide (240<=x)=false:=by simp;omega
 have n:Hid (Below W.heap.size W (W.alloc (.cells #[.int .u8 lo,.int .u8 hi] 259))):=bwA;have y:=(kal W ⟨g,off+1,none⟩ (.cells #[.int .u8 lo,.int .u8 hi] 259) (by rw[j];rfl)).trans j;have z:=(kal W ⟨g,off+2,none⟩ (.cells #[.int .u8 lo,.int .u8 hi] 259) (by rw[k];rfl)).trans k;have A:=(kal W ⟨g,off+3,none⟩ (.cells #[.int .u8 lo,.int .u8 hi] 259) (by rw[l];rfl)).trans l;have c2:=qaa (qac W (.cells #[.int .u8 lo,.int .u8 hi] 259)) 0;have B:=qaa (qac W (.cells #[.int .u8 lo,.int .u8 hi] 259)) 1;have q1:decide (d<lo)=false:=by simpa using u
 have K:decide (hi<d)=false:=by simpa using v
 subst w;have M:decide (a<128)=false:=by simp;omega
 have L:decide ((a:Int)<128)=false:=by simp;omega
 have O:decide (191<a)=false:=by simp;omega
 have N:decide ((191:Int)<a)=false:=by simp;omega
 have Q:decide (c<128)=false:=by simp;omega
 have P:decide ((c:Int)<128)=false:=by simp;omega
 have S:decide (191<c)=true:=by simp;omega
 have R:decide ((191:Int)<c)=true:=by simp;omega
 go_enter func217,ntmps217;go_wp2
 go_ret2
 exact⟨rfl,n.out⟩
theorem que(W:World)(g off r:Nat)(f d a b x h i lo hi:Nat)(c:qg6 f x h i lo hi)(u:f<256)(L:x<240)(D:W.cell? ⟨g,off,none⟩=some (.int .u8 f))(j:W.cell? ⟨g,off+1,none⟩=some (.int .u8 d))(k:W.cell? ⟨g,off+2,none⟩=some (.int .u8 a))(l:W.cell? ⟨g,off+3,none⟩=some (.int .u8 b))(m:U8 W)(y:h=4)(v:¬d<lo)(w:¬hi<d)(G:128<=a)(H:a<=191)(I:128<=b)(J:b<=191):Calls prog 217 #[.slice (some ⟨g,off,none⟩) 4 r] W λe o=>(∃s,e=.returned (.tuple #[.int .i32 s,.int .i64 4]))/\Below W.heap.size W o:=by
 have t:=m.1 f u;rw[c.fx]at t;have E:=c.fsz;have K:wrap64 (h:Int)=h:=by have:=c.szlt;unfold wrap64;omega
 obtain⟨p,q⟩:=qaE c m;have F:x/16<16:=by rw[c.fi];exact c.flt
 rw[<-c.fi]at p q;have V:decide (240<=(x:Int))=false:=by simp;omega
 have X:decide (240<=x)=false:=by simp;omega
 have n:Hid (Below W.heap.size W (W.alloc (.cells #[.int .u8 lo,.int .u8 hi] 259))):=bwA;have z:=(kal W ⟨g,off+1,none⟩ (.cells #[.int .u8 lo,.int .u8 hi] 259) (by rw[j];rfl)).trans j;have A:=(kal W ⟨g,off+2,none⟩ (.cells #[.int .u8 lo,.int .u8 hi] 259) (by rw[k];rfl)).trans k;have B:=(kal W ⟨g,off+3,none⟩ (.cells #[.int .u8 lo,.int .u8 hi] 259) (by rw[l];rfl)).trans l;have c2:=qaa (qac W (.cells #[.int .u8 lo,.int .u8 hi] 259)) 0;have C:=qaa (qac W (.cells #[.int .u8 lo,.int .u8 hi] 259)) 1;have q1:decide (d<lo)=false:=by simpa using v
 have M:decide (hi<d)=false:=by simpa using w
 subst y;have O:decide (a<128)=false:=by simp;omega
 have N:decide ((a:Int)<128)=false:=by simp;omega
 have Q:decide (191<a)=false:=by simp;omega
 have P:decide ((191:Int)<a)=false:=by simp;omega
 have S:decide (b<128)=false:=by simp;omega
 have R:decide ((b:Int)<128)=false:=by simp;omega
 have U:decide (191<b)=false:=by simp;omega
 have T:decide ((191:Int)<b)=false:=by simp;omega
 go_enter func217,ntmps217;go_wp2
 go_ret2
 exact⟨⟨_,rfl⟩,n.out⟩
theorem qrG(W:World)(g off h n:Nat)(a:Nat)(l:firstT a=241)(b:a<256)(q:1<=n)(p:W.cell? ⟨g,off,none⟩=some (.int .u8 a))(k:U8 W):Calls prog 217 #[.slice (some ⟨g,off,none⟩) n h] W λe f=>e=.returned (.tuple #[.int .i32 65533,.int .i64 1])/\f=W:=by
 have i:=k.1 a b;rw[l]at i;have j:=Utf8W.drop_byte ⟨a,b⟩;have c:Hid (bits .or .i32 (bits .andNot .i32 (a:Int) (-1)) (bits .and .i32 65533 (-1))=65533):=j;have m:decide ((n:Int)<1)=false:=by simp;omega
 have o:decide (n<1)=false:=by simp;omega
 have d:Hid (wrap32 517543559168/2147483648 = -1):=by
  show _=_;unfold wrap32;decide
 go_enter func217,ntmps217;go_wp2
 go_ret2
 refine⟨?_,rfl⟩;show Ending.returned (.tuple #[.int .i32 (bits .or .i32 (bits .andNot .i32 (a:Int) (wrap32 517543559168/2147483648)) (bits .and .i32 65533 (wrap32 517543559168/2147483648))),.int .i64 1])=_;rw[d.out,c.out]
theorem qgd(W:World)(g off c n:Nat)(a:Nat)(d:a<128)(l:1<=n)(k:W.cell? ⟨g,off,none⟩=some (.int .u8 a)):Calls prog 210 #[.slice (some ⟨g,off,none⟩) n c] W λe b=>e=.returned (.tuple #[.int .i32 a,.int .i64 1])/\b=W:=by
 have f:decide (0<n)=true:=by simp;omega
 have h:decide (0<(n:Int))=true:=by simp;omega
 have i:decide ((a:Int)<128)=true:=by simp;omega
 have j:decide (a<128)=true:=by simpa using d
 go_enter func210,ntmps210;go_wp2;refine wp_loop_rounds 1 ?_;rw[rounds_succ];go_wp2
 go_ret2
 exact⟨rfl,rfl⟩
theorem qdx(W:World)(g off f n:Nat)(c:Nat)(p:128<=c)(q:1<=n)(o:W.cell? ⟨g,off,none⟩=some (.int .u8 c))(R:Int->Int->World->Prop)(h:Calls prog 217 #[.slice (some ⟨g,off,none⟩) n f] W λe d=>∃a b,e=.returned (.tuple #[.int .i32 a,.int .i64 b])/\R a b d):Calls prog 210 #[.slice (some ⟨g,off,none⟩) n f] W λe d=>∃a b,e=.returned (.tuple #[.int .i32 a,.int .i64 b])/\R a b d:=by
 have j:decide (0<n)=true:=by simp;omega
 have k:decide (0<(n:Int))=true:=by simp;omega
 have l:decide ((c:Int)<128)=false:=by simp;omega
 have m:decide (c<128)=false:=by simp;omega
 go_enter func210,ntmps210;go_wp2;refine wp_loop_rounds 1 ?_;rw[rounds_succ]
 go_wp2_with(first
  |(go_at_call 217;refine h.mono ?_;rintro e r ⟨a,b,rfl,i⟩))
 go_ret2
 exact⟨a,b,rfl,i⟩

end
end Go.Proofs.YtmajcjammmjimaaGreatDoor
