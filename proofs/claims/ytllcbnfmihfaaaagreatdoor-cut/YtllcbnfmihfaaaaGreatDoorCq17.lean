import Derived.Shelf.Unicode.DecodeSlow
import Derived.Test.YtllcbnfmihfaaaaGreatDoorCq03
set_option maxRecDepth 100000
set_option maxHeartbeats 8000000
namespace Go.Proofs.YtllcbnfmihfaaaaGreatDoor
open Go.Proofs.Tryz
variable {V W:World}{b0 cap g hi i k lo n off sz x:Nat}
section
open Go.RowKit Go.Lib
def U8 (W:World):Prop:=Utf8Tabs 4 5 W
theorem U8.below (h:U8 W)(hb:Below W.heap.size W V):U8 V:=by
 refine⟨fun c hc => ?_,fun i hi=>⟨?_,?_⟩⟩
 ·have:=h.1 c hc;exact(hb.cell (p:=⟨_,c,none⟩) (block_lt_of_cell this)).trans this
 ·have:=(h.2 i hi).1;exact(hb.cell (p:=⟨_,_,none⟩) (block_lt_of_cell this)).trans this
 have:=(h.2 i hi).2;exact(hb.cell (p:=⟨_,_,none⟩) (block_lt_of_cell this)).trans this
theorem qxw:∀v:Fin 256,bits .and .u8 (v.val:Int) 7=((v.val%8:Nat):Int):=by decide
structure qgl (b0 x sz i lo hi:Nat):Prop where
 fx:firstT b0=x
 fsz:bits .and .u8 (x:Int) 7=(sz:Int)
 fi:x / 16=i
 flt:i<16
 fxb:x<256
 flo:accLo i=lo
 fhi:accHi i=hi
theorem qgl.szlt (h:qgl b0 x sz i lo hi):sz<8:=by
 have h1:=qxw ⟨x,h.fxb⟩;have h2:=h.fsz;rw[h1] at h2;omega
theorem qtH (b0 x:Nat)(h:firstT b0=x)(hx:x<256):qgl b0 x (x%8) (x / 16) (accLo (x / 16)) (accHi (x / 16)):=by
 refine⟨h,?_,rfl,by omega,hx,rfl,rfl⟩;exact qxw ⟨x,hx⟩
theorem qbK (W:World)(g off n cap:Nat)(b0 x sz i lo hi:Nat)(hL:qgl b0 x sz i lo hi)(hb:b0<256)(hn:1≤n)(hsz:sz≤n)(hm:n≤4)(h0:W.cell? ⟨g,off,none⟩=some (.int .u8 b0))(ht:U8 W):Calls prog 315 #[.slice (some ⟨g,off,none⟩) n cap] W fun e W'=>e=.returned (.bool true)∧W'=W:=by
 have h1:=ht.1 b0 hb;rw[hL.fx] at h1;have h2:=hL.fsz;have hws:wrap64 (sz:Int)=sz:=by have:=hL.szlt;unfold wrap64;omega
 have e0:((n:Int)==0)=false:=by simp;omega
 have e1:decide (sz≤n)=true:=by simp;omega
 go_enter func315,ntmps315;go_wp2;go_ret;exact⟨rfl,rfl⟩
theorem qaA (hL:qgl b0 x sz i lo hi)(ht:U8 W):W.cell? ⟨5,i*2,none⟩=some (.int .u8 lo)∧W.cell? ⟨5,i*2+1,none⟩=some (.int .u8 hi):=by
 obtain⟨h1,h2⟩:=ht.2 i hL.flt;rw[hL.flo] at h1;rw[hL.fhi] at h2;rw[Nat.mul_comm i 2];exact⟨h1,h2⟩
theorem qiR (W:World)(g off cap:Nat)(b0 x sz i lo hi:Nat)(hL:qgl b0 x sz i lo hi)(hb:b0<256)(hsz:1<sz)(h0:W.cell? ⟨g,off,none⟩=some (.int .u8 b0))(ht:U8 W):Calls prog 315 #[.slice (some ⟨g,off,none⟩) 1 cap] W fun e W'=>e=.returned (.bool false)∧Below W.heap.size W W':=by
 have h1:=ht.1 b0 hb;rw[hL.fx] at h1;have h2:=hL.fsz;have hws:wrap64 (sz:Int)=sz:=by have:=hL.szlt;unfold wrap64;omega
 obtain⟨a1,a2⟩:=qaA hL ht;have h3:x / 16<16:=by rw[hL.fi];exact hL.flt
 rw[←hL.fi] at a1 a2;have e1:decide (sz≤1)=false:=by simp;omega
 have e2:¬sz≤1:=by omega
 go_enter func315,ntmps315;go_wp2
 go_quiet (fail)
 go_wp2;go_ret;exact⟨rfl,(bwA).trans ((qam _ nq).mono (by simp))⟩
theorem qk7 (W:World)(g off cap:Nat)(b0 b1 x sz i lo hi:Nat)(hL:qgl b0 x sz i lo hi)(hb:b0<256)(hsz:2<sz)(h0:W.cell? ⟨g,off,none⟩=some (.int .u8 b0))(h01:W.cell? ⟨g,off+1,none⟩=some (.int .u8 b1))(ht:U8 W)(hq:b1<lo):Calls prog 315 #[.slice (some ⟨g,off,none⟩) 2 cap] W fun e W'=>e=.returned (.bool true)∧Below W.heap.size W W':=by
 have h1:=ht.1 b0 hb;rw[hL.fx] at h1;have h2:=hL.fsz;have hws:wrap64 (sz:Int)=sz:=by have:=hL.szlt;unfold wrap64;omega
 obtain⟨a1,a2⟩:=qaA hL ht;have h3:x / 16<16:=by rw[hL.fi];exact hL.flt
 rw[←hL.fi] at a1 a2;have e1:decide (sz≤2)=false:=by simp;omega
 have e2:¬sz≤2:=by omega
 have c1:=(World.cell?_alloc_some W ⟨g,off+1,none⟩ (.cells #[.int .u8 lo,.int .u8 hi] 364) (by rw[h01];rfl)).trans h01;have c2:=qab (qac W (.cells #[.int .u8 lo,.int .u8 hi] 364)) 0;have c3:=qab (qac W (.cells #[.int .u8 lo,.int .u8 hi] 364)) 1;have q1:decide (b1<lo)=true:=by simpa using hq
 go_enter func315,ntmps315;go_wp2
 go_quiet (fail)
 go_wp2;go_ret;exact⟨rfl,(bwA).trans ((qam _ nq).mono (by simp))⟩
theorem qk8 (W:World)(g off cap:Nat)(b0 b1 x sz i lo hi:Nat)(hL:qgl b0 x sz i lo hi)(hb:b0<256)(hsz:2<sz)(h0:W.cell? ⟨g,off,none⟩=some (.int .u8 b0))(h01:W.cell? ⟨g,off+1,none⟩=some (.int .u8 b1))(ht:U8 W)(hq1:¬b1<lo)(hq2:hi<b1):Calls prog 315 #[.slice (some ⟨g,off,none⟩) 2 cap] W fun e W'=>e=.returned (.bool true)∧Below W.heap.size W W':=by
 have h1:=ht.1 b0 hb;rw[hL.fx] at h1;have h2:=hL.fsz;have hws:wrap64 (sz:Int)=sz:=by have:=hL.szlt;unfold wrap64;omega
 obtain⟨a1,a2⟩:=qaA hL ht;have h3:x / 16<16:=by rw[hL.fi];exact hL.flt
 rw[←hL.fi] at a1 a2;have e1:decide (sz≤2)=false:=by simp;omega
 have e2:¬sz≤2:=by omega
 have c1:=(World.cell?_alloc_some W ⟨g,off+1,none⟩ (.cells #[.int .u8 lo,.int .u8 hi] 364) (by rw[h01];rfl)).trans h01;have c2:=qab (qac W (.cells #[.int .u8 lo,.int .u8 hi] 364)) 0;have c3:=qab (qac W (.cells #[.int .u8 lo,.int .u8 hi] 364)) 1;have q1:decide (b1<lo)=false:=by simpa using hq1
 have q2:decide (hi<b1)=true:=by simpa using hq2
 go_enter func315,ntmps315;go_wp2
 go_quiet (fail)
 go_wp2;go_ret;exact⟨rfl,(bwA).trans ((qam _ nq).mono (by simp))⟩
theorem qjT (W:World)(g off cap:Nat)(b0 b1 x sz i lo hi:Nat)(hL:qgl b0 x sz i lo hi)(hb:b0<256)(hsz:2<sz)(h0:W.cell? ⟨g,off,none⟩=some (.int .u8 b0))(h01:W.cell? ⟨g,off+1,none⟩=some (.int .u8 b1))(ht:U8 W)(hq1:¬b1<lo)(hq2:¬hi<b1):Calls prog 315 #[.slice (some ⟨g,off,none⟩) 2 cap] W fun e W'=>e=.returned (.bool false)∧Below W.heap.size W W':=by
 have h1:=ht.1 b0 hb;rw[hL.fx] at h1;have h2:=hL.fsz;have hws:wrap64 (sz:Int)=sz:=by have:=hL.szlt;unfold wrap64;omega
 obtain⟨a1,a2⟩:=qaA hL ht;have h3:x / 16<16:=by rw[hL.fi];exact hL.flt
 rw[←hL.fi] at a1 a2;have e1:decide (sz≤2)=false:=by simp;omega
 have e2:¬sz≤2:=by omega
 have c1:=(World.cell?_alloc_some W ⟨g,off+1,none⟩ (.cells #[.int .u8 lo,.int .u8 hi] 364) (by rw[h01];rfl)).trans h01;have c2:=qab (qac W (.cells #[.int .u8 lo,.int .u8 hi] 364)) 0;have c3:=qab (qac W (.cells #[.int .u8 lo,.int .u8 hi] 364)) 1;have q1:decide (b1<lo)=false:=by simpa using hq1
 have q2:decide (hi<b1)=false:=by simpa using hq2
 go_enter func315,ntmps315;go_wp2
 go_quiet (fail)
 go_wp2;go_ret;exact⟨rfl,(bwA).trans ((qam _ nq).mono (by simp))⟩
theorem qjj (W:World)(g off cap:Nat)(b0 b1 b2 x sz i lo hi:Nat)(hL:qgl b0 x sz i lo hi)(hb:b0<256)(hsz:3<sz)(h0:W.cell? ⟨g,off,none⟩=some (.int .u8 b0))(h01:W.cell? ⟨g,off+1,none⟩=some (.int .u8 b1))(h02:W.cell? ⟨g,off+2,none⟩=some (.int .u8 b2))(ht:U8 W)(hq1:¬b1<lo)(hq2:¬hi<b1)(hr:b2<128):Calls prog 315 #[.slice (some ⟨g,off,none⟩) 3 cap] W fun e W'=>e=.returned (.bool true)∧Below W.heap.size W W':=by
 have h1:=ht.1 b0 hb;rw[hL.fx] at h1;have h2:=hL.fsz;have hws:wrap64 (sz:Int)=sz:=by have:=hL.szlt;unfold wrap64;omega
 obtain⟨a1,a2⟩:=qaA hL ht;have h3:x / 16<16:=by rw[hL.fi];exact hL.flt
 rw[←hL.fi] at a1 a2;have e1:decide (sz≤3)=false:=by simp;omega
 have e2:¬sz≤3:=by omega
 have HB:Hid (Below W.heap.size W (W.alloc (.cells #[.int .u8 lo,.int .u8 hi] 364))):=bwA;have c1:=(World.cell?_alloc_some W ⟨g,off+1,none⟩ (.cells #[.int .u8 lo,.int .u8 hi] 364) (by rw[h01];rfl)).trans h01;have c12:=(World.cell?_alloc_some W ⟨g,off+2,none⟩ (.cells #[.int .u8 lo,.int .u8 hi] 364) (by rw[h02];rfl)).trans h02;have c2:=qab (qac W (.cells #[.int .u8 lo,.int .u8 hi] 364)) 0;have c3:=qab (qac W (.cells #[.int .u8 lo,.int .u8 hi] 364)) 1;have q1:decide (b1<lo)=false:=by simpa using hq1
 have q2:decide (hi<b1)=false:=by simpa using hq2
 have r1:decide ((b2:Int)<128)=true:=by simp;omega
 have r1n:decide (b2<128)=true:=by simpa using hr
 go_enter func315,ntmps315;go_wp2
 go_quiet (fail)
 go_wp2;go_ret;exact⟨rfl,HB.out.trans ((qam _ nq).mono HB.out.size)⟩
theorem qj5 (W:World)(g off cap:Nat)(b0 b1 b2 x sz i lo hi:Nat)(hL:qgl b0 x sz i lo hi)(hb:b0<256)(hsz:3<sz)(h0:W.cell? ⟨g,off,none⟩=some (.int .u8 b0))(h01:W.cell? ⟨g,off+1,none⟩=some (.int .u8 b1))(h02:W.cell? ⟨g,off+2,none⟩=some (.int .u8 b2))(ht:U8 W)(hq1:¬b1<lo)(hq2:¬hi<b1)(hr1:¬b2<128)(hr2:191<b2):Calls prog 315 #[.slice (some ⟨g,off,none⟩) 3 cap] W fun e W'=>e=.returned (.bool true)∧Below W.heap.size W W':=by
 have h1:=ht.1 b0 hb;rw[hL.fx] at h1;have h2:=hL.fsz;have hws:wrap64 (sz:Int)=sz:=by have:=hL.szlt;unfold wrap64;omega
 obtain⟨a1,a2⟩:=qaA hL ht;have h3:x / 16<16:=by rw[hL.fi];exact hL.flt
 rw[←hL.fi] at a1 a2;have e1:decide (sz≤3)=false:=by simp;omega
 have e2:¬sz≤3:=by omega
 have HB:Hid (Below W.heap.size W (W.alloc (.cells #[.int .u8 lo,.int .u8 hi] 364))):=bwA;have c1:=(World.cell?_alloc_some W ⟨g,off+1,none⟩ (.cells #[.int .u8 lo,.int .u8 hi] 364) (by rw[h01];rfl)).trans h01;have c12:=(World.cell?_alloc_some W ⟨g,off+2,none⟩ (.cells #[.int .u8 lo,.int .u8 hi] 364) (by rw[h02];rfl)).trans h02;have c2:=qab (qac W (.cells #[.int .u8 lo,.int .u8 hi] 364)) 0;have c3:=qab (qac W (.cells #[.int .u8 lo,.int .u8 hi] 364)) 1;have q1:decide (b1<lo)=false:=by simpa using hq1
 have q2:decide (hi<b1)=false:=by simpa using hq2
 have r1n:decide (b2<128)=false:=by simpa using hr1
 have r2n:decide (191<b2)=true:=by simpa using hr2
 have r1:decide ((b2:Int)<128)=false:=by simp;omega
 have r2:decide ((191:Int)<b2)=true:=by simp;omega
 go_enter func315,ntmps315;go_wp2
 go_quiet (fail)
 go_wp2;go_ret;exact⟨rfl,HB.out.trans ((qam _ nq).mono HB.out.size)⟩
theorem qj8 (W:World)(g off cap:Nat)(b0 b1 b2 x sz i lo hi:Nat)(hL:qgl b0 x sz i lo hi)(hb:b0<256)(hsz:3<sz)(h0:W.cell? ⟨g,off,none⟩=some (.int .u8 b0))(h01:W.cell? ⟨g,off+1,none⟩=some (.int .u8 b1))(h02:W.cell? ⟨g,off+2,none⟩=some (.int .u8 b2))(ht:U8 W)(hq1:¬b1<lo)(hq2:¬hi<b1)(hr1:¬b2<128)(hr2:¬191<b2):Calls prog 315 #[.slice (some ⟨g,off,none⟩) 3 cap] W fun e W'=>e=.returned (.bool false)∧Below W.heap.size W W':=by
 have h1:=ht.1 b0 hb;rw[hL.fx] at h1;have h2:=hL.fsz;have hws:wrap64 (sz:Int)=sz:=by have:=hL.szlt;unfold wrap64;omega
 obtain⟨a1,a2⟩:=qaA hL ht;have h3:x / 16<16:=by rw[hL.fi];exact hL.flt
 rw[←hL.fi] at a1 a2;have e1:decide (sz≤3)=false:=by simp;omega
 have e2:¬sz≤3:=by omega
 have HB:Hid (Below W.heap.size W (W.alloc (.cells #[.int .u8 lo,.int .u8 hi] 364))):=bwA;have c1:=(World.cell?_alloc_some W ⟨g,off+1,none⟩ (.cells #[.int .u8 lo,.int .u8 hi] 364) (by rw[h01];rfl)).trans h01;have c12:=(World.cell?_alloc_some W ⟨g,off+2,none⟩ (.cells #[.int .u8 lo,.int .u8 hi] 364) (by rw[h02];rfl)).trans h02;have c2:=qab (qac W (.cells #[.int .u8 lo,.int .u8 hi] 364)) 0;have c3:=qab (qac W (.cells #[.int .u8 lo,.int .u8 hi] 364)) 1;have q1:decide (b1<lo)=false:=by simpa using hq1
 have q2:decide (hi<b1)=false:=by simpa using hq2
 have r1n:decide (b2<128)=false:=by simpa using hr1
 have r2n:decide (191<b2)=false:=by simpa using hr2
 have r1:decide ((b2:Int)<128)=false:=by simp;omega
 have r2:decide ((191:Int)<b2)=false:=by simp;omega
 go_enter func315,ntmps315;go_wp2
 go_quiet (fail)
 go_wp2;go_ret;exact⟨rfl,HB.out.trans ((qam _ nq).mono HB.out.size)⟩
theorem qd0 (W:World)(g off cap n:Nat)(b0 x sz i lo hi:Nat)(hL:qgl b0 x sz i lo hi)(hb:b0<256)(hx:x<240)(h0:W.cell? ⟨g,off,none⟩=some (.int .u8 b0))(ht:U8 W)(hn:1≤n)(hs:n<sz):Calls prog 323 #[.slice (some ⟨g,off,none⟩) n cap] W fun e W'=>e=.returned (.tuple #[.int .i32 65533,.int .i64 1])∧Below W.heap.size W W':=by
 have h1:=ht.1 b0 hb;rw[hL.fx] at h1;have h2:=hL.fsz;have hws:wrap64 (sz:Int)=sz:=by have:=hL.szlt;unfold wrap64;omega
 obtain⟨a1,a2⟩:=qaA hL ht;have h3:x / 16<16:=by rw[hL.fi];exact hL.flt
 rw[←hL.fi] at a1 a2;have x1:decide (240≤(x:Int))=false:=by simp;omega
 have x2:decide (240≤x)=false:=by simp;omega
 have HB:Hid (Below W.heap.size W (W.alloc (.cells #[.int .u8 lo,.int .u8 hi] 364))):=bwA;have c2:=qab (qac W (.cells #[.int .u8 lo,.int .u8 hi] 364)) 0;have c3:=qab (qac W (.cells #[.int .u8 lo,.int .u8 hi] 364)) 1;have e0:decide ((n:Int)<1)=false:=by simp;omega
 have e0n:decide (n<1)=false:=by simp;omega
 have e1:decide (n<sz)=true:=by simpa using hs
 have e2:decide ((n:Int)<(sz:Int))=true:=by simp;omega
 go_enter func323,ntmps323;go_wp2
 go_ret2
 exact⟨rfl,HB.out⟩
theorem qq4 (W:World)(g off cap:Nat)(b0 b1 x sz i lo hi:Nat)(hL:qgl b0 x sz i lo hi)(hb:b0<256)(hx:x<240)(h0:W.cell? ⟨g,off,none⟩=some (.int .u8 b0))(h01:W.cell? ⟨g,off+1,none⟩=some (.int .u8 b1))(ht:U8 W)(hs:sz=2)(hq:b1<lo):Calls prog 323 #[.slice (some ⟨g,off,none⟩) 2 cap] W fun e W'=>e=.returned (.tuple #[.int .i32 65533,.int .i64 1])∧Below W.heap.size W W':=by
 have h1:=ht.1 b0 hb;rw[hL.fx] at h1;have h2:=hL.fsz;have hws:wrap64 (sz:Int)=sz:=by have:=hL.szlt;unfold wrap64;omega
 obtain⟨a1,a2⟩:=qaA hL ht;have h3:x / 16<16:=by rw[hL.fi];exact hL.flt
 rw[←hL.fi] at a1 a2;have x1:decide (240≤(x:Int))=false:=by simp;omega
 have x2:decide (240≤x)=false:=by simp;omega
 have HB:Hid (Below W.heap.size W (W.alloc (.cells #[.int .u8 lo,.int .u8 hi] 364))):=bwA;have c11:=(World.cell?_alloc_some W ⟨g,off+1,none⟩ (.cells #[.int .u8 lo,.int .u8 hi] 364) (by rw[h01];rfl)).trans h01;have c2:=qab (qac W (.cells #[.int .u8 lo,.int .u8 hi] 364)) 0;have c3:=qab (qac W (.cells #[.int .u8 lo,.int .u8 hi] 364)) 1;have q1:decide (b1<lo)=true:=by simpa using hq
 subst hs;go_enter func323,ntmps323;go_wp2
 go_ret2
 exact⟨rfl,HB.out⟩
theorem qrJ (W:World)(g off cap:Nat)(b0 b1 x sz i lo hi:Nat)(hL:qgl b0 x sz i lo hi)(hb:b0<256)(hx:x<240)(h0:W.cell? ⟨g,off,none⟩=some (.int .u8 b0))(h01:W.cell? ⟨g,off+1,none⟩=some (.int .u8 b1))(ht:U8 W)(hs:sz=2)(hq1:¬b1<lo)(hq2:hi<b1):Calls prog 323 #[.slice (some ⟨g,off,none⟩) 2 cap] W fun e W'=>e=.returned (.tuple #[.int .i32 65533,.int .i64 1])∧Below W.heap.size W W':=by
 have h1:=ht.1 b0 hb;rw[hL.fx] at h1;have h2:=hL.fsz;have hws:wrap64 (sz:Int)=sz:=by have:=hL.szlt;unfold wrap64;omega
 obtain⟨a1,a2⟩:=qaA hL ht;have h3:x / 16<16:=by rw[hL.fi];exact hL.flt
 rw[←hL.fi] at a1 a2;have x1:decide (240≤(x:Int))=false:=by simp;omega
 have x2:decide (240≤x)=false:=by simp;omega
 have HB:Hid (Below W.heap.size W (W.alloc (.cells #[.int .u8 lo,.int .u8 hi] 364))):=bwA;have c11:=(World.cell?_alloc_some W ⟨g,off+1,none⟩ (.cells #[.int .u8 lo,.int .u8 hi] 364) (by rw[h01];rfl)).trans h01;have c2:=qab (qac W (.cells #[.int .u8 lo,.int .u8 hi] 364)) 0;have c3:=qab (qac W (.cells #[.int .u8 lo,.int .u8 hi] 364)) 1;have q1:decide (b1<lo)=false:=by simpa using hq1
 have q2:decide (hi<b1)=true:=by simpa using hq2
 subst hs;go_enter func323,ntmps323;go_wp2
 go_ret2
 exact⟨rfl,HB.out⟩
theorem qrw (W:World)(g off cap:Nat)(b0 b1 x sz i lo hi:Nat)(hL:qgl b0 x sz i lo hi)(hb:b0<256)(hx:x<240)(h0:W.cell? ⟨g,off,none⟩=some (.int .u8 b0))(h01:W.cell? ⟨g,off+1,none⟩=some (.int .u8 b1))(ht:U8 W)(hs:sz=2)(hq1:¬b1<lo)(hq2:¬hi<b1):Calls prog 323 #[.slice (some ⟨g,off,none⟩) 2 cap] W fun e W'=>(∃ch,e=.returned (.tuple #[.int .i32 ch,.int .i64 2]))∧Below W.heap.size W W':=by
 have h1:=ht.1 b0 hb;rw[hL.fx] at h1;have h2:=hL.fsz;have hws:wrap64 (sz:Int)=sz:=by have:=hL.szlt;unfold wrap64;omega
 obtain⟨a1,a2⟩:=qaA hL ht;have h3:x / 16<16:=by rw[hL.fi];exact hL.flt
 rw[←hL.fi] at a1 a2;have x1:decide (240≤(x:Int))=false:=by simp;omega
 have x2:decide (240≤x)=false:=by simp;omega
 have HB:Hid (Below W.heap.size W (W.alloc (.cells #[.int .u8 lo,.int .u8 hi] 364))):=bwA;have c11:=(World.cell?_alloc_some W ⟨g,off+1,none⟩ (.cells #[.int .u8 lo,.int .u8 hi] 364) (by rw[h01];rfl)).trans h01;have c2:=qab (qac W (.cells #[.int .u8 lo,.int .u8 hi] 364)) 0;have c3:=qab (qac W (.cells #[.int .u8 lo,.int .u8 hi] 364)) 1;have q1:decide (b1<lo)=false:=by simpa using hq1
 have q2:decide (hi<b1)=false:=by simpa using hq2
 subst hs;go_enter func323,ntmps323;go_wp2
 go_ret2
 exact⟨⟨_,rfl⟩,HB.out⟩
theorem qqM (W:World)(g off cap:Nat)(b0 b1 b2 x sz i lo hi:Nat)(hL:qgl b0 x sz i lo hi)(hb:b0<256)(hx:x<240)(h0:W.cell? ⟨g,off,none⟩=some (.int .u8 b0))(h01:W.cell? ⟨g,off+1,none⟩=some (.int .u8 b1))(h02:W.cell? ⟨g,off+2,none⟩=some (.int .u8 b2))(ht:U8 W)(hs:sz=3)(hq1:¬b1<lo)(hq2:¬hi<b1)(hr:b2<128):Calls prog 323 #[.slice (some ⟨g,off,none⟩) 3 cap] W fun e W'=>e=.returned (.tuple #[.int .i32 65533,.int .i64 1])∧Below W.heap.size W W':=by
 have h1:=ht.1 b0 hb;rw[hL.fx] at h1;have h2:=hL.fsz;have hws:wrap64 (sz:Int)=sz:=by have:=hL.szlt;unfold wrap64;omega
 obtain⟨a1,a2⟩:=qaA hL ht;have h3:x / 16<16:=by rw[hL.fi];exact hL.flt
 rw[←hL.fi] at a1 a2;have x1:decide (240≤(x:Int))=false:=by simp;omega
 have x2:decide (240≤x)=false:=by simp;omega
 have HB:Hid (Below W.heap.size W (W.alloc (.cells #[.int .u8 lo,.int .u8 hi] 364))):=bwA;have c11:=(World.cell?_alloc_some W ⟨g,off+1,none⟩ (.cells #[.int .u8 lo,.int .u8 hi] 364) (by rw[h01];rfl)).trans h01;have c12:=(World.cell?_alloc_some W ⟨g,off+2,none⟩ (.cells #[.int .u8 lo,.int .u8 hi] 364) (by rw[h02];rfl)).trans h02;have c2:=qab (qac W (.cells #[.int .u8 lo,.int .u8 hi] 364)) 0;have c3:=qab (qac W (.cells #[.int .u8 lo,.int .u8 hi] 364)) 1;have q1:decide (b1<lo)=false:=by simpa using hq1
 have q2:decide (hi<b1)=false:=by simpa using hq2
 subst hs;have r21n:decide (b2<128)=true:=by simp;omega
 have r21:decide ((b2:Int)<128)=true:=by simp;omega
 go_enter func323,ntmps323;go_wp2
 go_ret2
 exact⟨rfl,HB.out⟩
theorem qq9 (W:World)(g off cap:Nat)(b0 b1 b2 x sz i lo hi:Nat)(hL:qgl b0 x sz i lo hi)(hb:b0<256)(hx:x<240)(h0:W.cell? ⟨g,off,none⟩=some (.int .u8 b0))(h01:W.cell? ⟨g,off+1,none⟩=some (.int .u8 b1))(h02:W.cell? ⟨g,off+2,none⟩=some (.int .u8 b2))(ht:U8 W)(hs:sz=3)(hq1:¬b1<lo)(hq2:¬hi<b1)(hr:191<b2):Calls prog 323 #[.slice (some ⟨g,off,none⟩) 3 cap] W fun e W'=>e=.returned (.tuple #[.int .i32 65533,.int .i64 1])∧Below W.heap.size W W':=by
 have h1:=ht.1 b0 hb;rw[hL.fx] at h1;have h2:=hL.fsz;have hws:wrap64 (sz:Int)=sz:=by have:=hL.szlt;unfold wrap64;omega
 obtain⟨a1,a2⟩:=qaA hL ht;have h3:x / 16<16:=by rw[hL.fi];exact hL.flt
 rw[←hL.fi] at a1 a2;have x1:decide (240≤(x:Int))=false:=by simp;omega
 have x2:decide (240≤x)=false:=by simp;omega
 have HB:Hid (Below W.heap.size W (W.alloc (.cells #[.int .u8 lo,.int .u8 hi] 364))):=bwA;have c11:=(World.cell?_alloc_some W ⟨g,off+1,none⟩ (.cells #[.int .u8 lo,.int .u8 hi] 364) (by rw[h01];rfl)).trans h01;have c12:=(World.cell?_alloc_some W ⟨g,off+2,none⟩ (.cells #[.int .u8 lo,.int .u8 hi] 364) (by rw[h02];rfl)).trans h02;have c2:=qab (qac W (.cells #[.int .u8 lo,.int .u8 hi] 364)) 0;have c3:=qab (qac W (.cells #[.int .u8 lo,.int .u8 hi] 364)) 1;have q1:decide (b1<lo)=false:=by simpa using hq1
 have q2:decide (hi<b1)=false:=by simpa using hq2
 subst hs;have r21n:decide (b2<128)=false:=by simp;omega
 have r21:decide ((b2:Int)<128)=false:=by simp;omega
 have r22n:decide (191<b2)=true:=by simp;omega
 have r22:decide ((191:Int)<b2)=true:=by simp;omega
 go_enter func323,ntmps323;go_wp2
 go_ret2
 exact⟨rfl,HB.out⟩
theorem qq1 (W:World)(g off cap:Nat)(b0 b1 b2 x sz i lo hi:Nat)(hL:qgl b0 x sz i lo hi)(hb:b0<256)(hx:x<240)(h0:W.cell? ⟨g,off,none⟩=some (.int .u8 b0))(h01:W.cell? ⟨g,off+1,none⟩=some (.int .u8 b1))(h02:W.cell? ⟨g,off+2,none⟩=some (.int .u8 b2))(ht:U8 W)(hs:sz=3)(hq1:¬b1<lo)(hq2:¬hi<b1)(hr1:128≤b2)(hr2:b2≤191):Calls prog 323 #[.slice (some ⟨g,off,none⟩) 3 cap] W fun e W'=>(∃ch,e=.returned (.tuple #[.int .i32 ch,.int .i64 3]))∧Below W.heap.size W W':=by
 have h1:=ht.1 b0 hb;rw[hL.fx] at h1;have h2:=hL.fsz;have hws:wrap64 (sz:Int)=sz:=by have:=hL.szlt;unfold wrap64;omega
 obtain⟨a1,a2⟩:=qaA hL ht;have h3:x / 16<16:=by rw[hL.fi];exact hL.flt
 rw[←hL.fi] at a1 a2;have x1:decide (240≤(x:Int))=false:=by simp;omega
 have x2:decide (240≤x)=false:=by simp;omega
 have HB:Hid (Below W.heap.size W (W.alloc (.cells #[.int .u8 lo,.int .u8 hi] 364))):=bwA;have c11:=(World.cell?_alloc_some W ⟨g,off+1,none⟩ (.cells #[.int .u8 lo,.int .u8 hi] 364) (by rw[h01];rfl)).trans h01;have c12:=(World.cell?_alloc_some W ⟨g,off+2,none⟩ (.cells #[.int .u8 lo,.int .u8 hi] 364) (by rw[h02];rfl)).trans h02;have c2:=qab (qac W (.cells #[.int .u8 lo,.int .u8 hi] 364)) 0;have c3:=qab (qac W (.cells #[.int .u8 lo,.int .u8 hi] 364)) 1;have q1:decide (b1<lo)=false:=by simpa using hq1
 have q2:decide (hi<b1)=false:=by simpa using hq2
 subst hs;have r21n:decide (b2<128)=false:=by simp;omega
 have r21:decide ((b2:Int)<128)=false:=by simp;omega
 have r22n:decide (191<b2)=false:=by simp;omega
 have r22:decide ((191:Int)<b2)=false:=by simp;omega
 go_enter func323,ntmps323;go_wp2
 go_ret2
 exact⟨⟨_,rfl⟩,HB.out⟩
theorem qqE (W:World)(g off cap:Nat)(b0 b1 b2 b3 x sz i lo hi:Nat)(hL:qgl b0 x sz i lo hi)(hb:b0<256)(hx:x<240)(h0:W.cell? ⟨g,off,none⟩=some (.int .u8 b0))(h01:W.cell? ⟨g,off+1,none⟩=some (.int .u8 b1))(h02:W.cell? ⟨g,off+2,none⟩=some (.int .u8 b2))(h03:W.cell? ⟨g,off+3,none⟩=some (.int .u8 b3))(ht:U8 W)(hs:sz=4)(hq1:¬b1<lo)(hq2:¬hi<b1)(hr1:128≤b2)(hr2:b2≤191)(hr:b3<128):Calls prog 323 #[.slice (some ⟨g,off,none⟩) 4 cap] W fun e W'=>e=.returned (.tuple #[.int .i32 65533,.int .i64 1])∧Below W.heap.size W W':=by
 have h1:=ht.1 b0 hb;rw[hL.fx] at h1;have h2:=hL.fsz;have hws:wrap64 (sz:Int)=sz:=by have:=hL.szlt;unfold wrap64;omega
 obtain⟨a1,a2⟩:=qaA hL ht;have h3:x / 16<16:=by rw[hL.fi];exact hL.flt
 rw[←hL.fi] at a1 a2;have x1:decide (240≤(x:Int))=false:=by simp;omega
 have x2:decide (240≤x)=false:=by simp;omega
 have HB:Hid (Below W.heap.size W (W.alloc (.cells #[.int .u8 lo,.int .u8 hi] 364))):=bwA;have c11:=(World.cell?_alloc_some W ⟨g,off+1,none⟩ (.cells #[.int .u8 lo,.int .u8 hi] 364) (by rw[h01];rfl)).trans h01;have c12:=(World.cell?_alloc_some W ⟨g,off+2,none⟩ (.cells #[.int .u8 lo,.int .u8 hi] 364) (by rw[h02];rfl)).trans h02;have c13:=(World.cell?_alloc_some W ⟨g,off+3,none⟩ (.cells #[.int .u8 lo,.int .u8 hi] 364) (by rw[h03];rfl)).trans h03;have c2:=qab (qac W (.cells #[.int .u8 lo,.int .u8 hi] 364)) 0;have c3:=qab (qac W (.cells #[.int .u8 lo,.int .u8 hi] 364)) 1;have q1:decide (b1<lo)=false:=by simpa using hq1
 have q2:decide (hi<b1)=false:=by simpa using hq2
 subst hs;have r21n:decide (b2<128)=false:=by simp;omega
 have r21:decide ((b2:Int)<128)=false:=by simp;omega
 have r22n:decide (191<b2)=false:=by simp;omega
 have r22:decide ((191:Int)<b2)=false:=by simp;omega
 have r31n:decide (b3<128)=true:=by simp;omega
 have r31:decide ((b3:Int)<128)=true:=by simp;omega
 go_enter func323,ntmps323;go_wp2
 go_ret2
 exact⟨rfl,HB.out⟩
theorem qrn (W:World)(g off cap:Nat)(b0 b1 b2 b3 x sz i lo hi:Nat)(hL:qgl b0 x sz i lo hi)(hb:b0<256)(hx:x<240)(h0:W.cell? ⟨g,off,none⟩=some (.int .u8 b0))(h01:W.cell? ⟨g,off+1,none⟩=some (.int .u8 b1))(h02:W.cell? ⟨g,off+2,none⟩=some (.int .u8 b2))(h03:W.cell? ⟨g,off+3,none⟩=some (.int .u8 b3))(ht:U8 W)(hs:sz=4)(hq1:¬b1<lo)(hq2:¬hi<b1)(hr1:128≤b2)(hr2:b2≤191)(hr:191<b3):Calls prog 323 #[.slice (some ⟨g,off,none⟩) 4 cap] W fun e W'=>e=.returned (.tuple #[.int .i32 65533,.int .i64 1])∧Below W.heap.size W W':=by
 have h1:=ht.1 b0 hb;rw[hL.fx] at h1;have h2:=hL.fsz;have hws:wrap64 (sz:Int)=sz:=by have:=hL.szlt;unfold wrap64;omega
 obtain⟨a1,a2⟩:=qaA hL ht;have h3:x / 16<16:=by rw[hL.fi];exact hL.flt
 rw[←hL.fi] at a1 a2;have x1:decide (240≤(x:Int))=false:=by simp;omega
 have x2:decide (240≤x)=false:=by simp;omega
 have HB:Hid (Below W.heap.size W (W.alloc (.cells #[.int .u8 lo,.int .u8 hi] 364))):=bwA;have c11:=(World.cell?_alloc_some W ⟨g,off+1,none⟩ (.cells #[.int .u8 lo,.int .u8 hi] 364) (by rw[h01];rfl)).trans h01;have c12:=(World.cell?_alloc_some W ⟨g,off+2,none⟩ (.cells #[.int .u8 lo,.int .u8 hi] 364) (by rw[h02];rfl)).trans h02;have c13:=(World.cell?_alloc_some W ⟨g,off+3,none⟩ (.cells #[.int .u8 lo,.int .u8 hi] 364) (by rw[h03];rfl)).trans h03;have c2:=qab (qac W (.cells #[.int .u8 lo,.int .u8 hi] 364)) 0;have c3:=qab (qac W (.cells #[.int .u8 lo,.int .u8 hi] 364)) 1;have q1:decide (b1<lo)=false:=by simpa using hq1
 have q2:decide (hi<b1)=false:=by simpa using hq2
 subst hs;have r21n:decide (b2<128)=false:=by simp;omega
 have r21:decide ((b2:Int)<128)=false:=by simp;omega
 have r22n:decide (191<b2)=false:=by simp;omega
 have r22:decide ((191:Int)<b2)=false:=by simp;omega
 have r31n:decide (b3<128)=false:=by simp;omega
 have r31:decide ((b3:Int)<128)=false:=by simp;omega
 have r32n:decide (191<b3)=true:=by simp;omega
 have r32:decide ((191:Int)<b3)=true:=by simp;omega
 go_enter func323,ntmps323;go_wp2
 go_ret2
 exact⟨rfl,HB.out⟩
theorem qqR (W:World)(g off cap:Nat)(b0 b1 b2 b3 x sz i lo hi:Nat)(hL:qgl b0 x sz i lo hi)(hb:b0<256)(hx:x<240)(h0:W.cell? ⟨g,off,none⟩=some (.int .u8 b0))(h01:W.cell? ⟨g,off+1,none⟩=some (.int .u8 b1))(h02:W.cell? ⟨g,off+2,none⟩=some (.int .u8 b2))(h03:W.cell? ⟨g,off+3,none⟩=some (.int .u8 b3))(ht:U8 W)(hs:sz=4)(hq1:¬b1<lo)(hq2:¬hi<b1)(hr1:128≤b2)(hr2:b2≤191)(hr3:128≤b3)(hr4:b3≤191):Calls prog 323 #[.slice (some ⟨g,off,none⟩) 4 cap] W fun e W'=>(∃ch,e=.returned (.tuple #[.int .i32 ch,.int .i64 4]))∧Below W.heap.size W W':=by
 have h1:=ht.1 b0 hb;rw[hL.fx] at h1;have h2:=hL.fsz;have hws:wrap64 (sz:Int)=sz:=by have:=hL.szlt;unfold wrap64;omega
 obtain⟨a1,a2⟩:=qaA hL ht;have h3:x / 16<16:=by rw[hL.fi];exact hL.flt
 rw[←hL.fi] at a1 a2;have x1:decide (240≤(x:Int))=false:=by simp;omega
 have x2:decide (240≤x)=false:=by simp;omega
 have HB:Hid (Below W.heap.size W (W.alloc (.cells #[.int .u8 lo,.int .u8 hi] 364))):=bwA;have c11:=(World.cell?_alloc_some W ⟨g,off+1,none⟩ (.cells #[.int .u8 lo,.int .u8 hi] 364) (by rw[h01];rfl)).trans h01;have c12:=(World.cell?_alloc_some W ⟨g,off+2,none⟩ (.cells #[.int .u8 lo,.int .u8 hi] 364) (by rw[h02];rfl)).trans h02;have c13:=(World.cell?_alloc_some W ⟨g,off+3,none⟩ (.cells #[.int .u8 lo,.int .u8 hi] 364) (by rw[h03];rfl)).trans h03;have c2:=qab (qac W (.cells #[.int .u8 lo,.int .u8 hi] 364)) 0;have c3:=qab (qac W (.cells #[.int .u8 lo,.int .u8 hi] 364)) 1;have q1:decide (b1<lo)=false:=by simpa using hq1
 have q2:decide (hi<b1)=false:=by simpa using hq2
 subst hs;have r21n:decide (b2<128)=false:=by simp;omega
 have r21:decide ((b2:Int)<128)=false:=by simp;omega
 have r22n:decide (191<b2)=false:=by simp;omega
 have r22:decide ((191:Int)<b2)=false:=by simp;omega
 have r31n:decide (b3<128)=false:=by simp;omega
 have r31:decide ((b3:Int)<128)=false:=by simp;omega
 have r32n:decide (191<b3)=false:=by simp;omega
 have r32:decide ((191:Int)<b3)=false:=by simp;omega
 go_enter func323,ntmps323;go_wp2
 go_ret2
 exact⟨⟨_,rfl⟩,HB.out⟩
theorem qoB (W:World)(g off cap n:Nat)(b0:Nat)(hx:firstT b0=241)(hb:b0<256)(hn:1≤n)(h0:W.cell? ⟨g,off,none⟩=some (.int .u8 b0))(ht:U8 W):Calls prog 323 #[.slice (some ⟨g,off,none⟩) n cap] W fun e W'=>e=.returned (.tuple #[.int .i32 65533,.int .i64 1])∧W'=W:=by
 have h1:=ht.1 b0 hb;rw[hx] at h1;have hd:=Utf8W.drop_byte ⟨b0,hb⟩;have HD:Hid (bits .or .i32 (bits .andNot .i32 (b0:Int) (-1)) (bits .and .i32 65533 (-1))=65533):=hd;have e0:decide ((n:Int)<1)=false:=by simp;omega
 have e0n:decide (n<1)=false:=by simp;omega
 have HM:Hid (wrap32 517543559168 / 2147483648 = -1):=by
  show _=_;unfold wrap32;decide
 go_enter func323,ntmps323;go_wp2
 go_ret2
 refine⟨?_,rfl⟩;show Ending.returned (.tuple #[.int .i32 (bits .or .i32 (bits .andNot .i32 (b0:Int) (wrap32 517543559168 / 2147483648)) (bits .and .i32 65533 (wrap32 517543559168 / 2147483648))),.int .i64 1])=_;rw[HM.out,HD.out]
theorem qff (W:World)(g off cap n:Nat)(b0:Nat)(hb:b0<128)(hn:1≤n)(h0:W.cell? ⟨g,off,none⟩=some (.int .u8 b0)):Calls prog 316 #[.slice (some ⟨g,off,none⟩) n cap] W fun e W'=>e=.returned (.tuple #[.int .i32 b0,.int .i64 1])∧W'=W:=by
 have e0:decide (0<n)=true:=by simp;omega
 have e0i:decide (0<(n:Int))=true:=by simp;omega
 have e1:decide ((b0:Int)<128)=true:=by simp;omega
 have e1n:decide (b0<128)=true:=by simpa using hb
 go_enter func316,ntmps316;go_wp2;refine wp_loop_rounds 1 ?_;rw[rounds_succ];go_wp2
 go_ret2
 exact⟨rfl,rfl⟩
theorem qde (W:World)(g off cap n:Nat)(b0:Nat)(hb:128≤b0)(hn:1≤n)(h0:W.cell? ⟨g,off,none⟩=some (.int .u8 b0))(R:Int→Int→World→Prop)(cS:Calls prog 323 #[.slice (some ⟨g,off,none⟩) n cap] W fun e W'=>∃ch sz,e=.returned (.tuple #[.int .i32 ch,.int .i64 sz])∧R ch sz W'):Calls prog 316 #[.slice (some ⟨g,off,none⟩) n cap] W fun e W'=>∃ch sz,e=.returned (.tuple #[.int .i32 ch,.int .i64 sz])∧R ch sz W':=by
 have e0:decide (0<n)=true:=by simp;omega
 have e0i:decide (0<(n:Int))=true:=by simp;omega
 have e1:decide ((b0:Int)<128)=false:=by simp;omega
 have e1n:decide (b0<128)=false:=by simp;omega
 go_enter func316,ntmps316;go_wp2;refine wp_loop_rounds 1 ?_;rw[rounds_succ]
 go_wp2_with (first
  |(go_at_call 323;refine cS.mono ?_;rintro e w2 ⟨ch,sz,rfl,hR⟩))
 go_ret2
 exact⟨ch,sz,rfl,hR⟩
def szU (b:UInt8):Nat:=firstT b.toNat%8
def loU (b:UInt8):Nat:=accLo (firstT b.toNat / 16)
def hiU (b:UInt8):Nat:=accHi (firstT b.toNat / 16)
def qst:List UInt8→Bool
 |[]=>true
 |[b0]=>decide (2≤szU b0)
 |[b0,b1]=>decide (3≤szU b0∧loU b0≤b1.toNat∧b1.toNat≤hiU b0)
 |[b0,b1,b2]=>decide (4≤szU b0∧(loU b0≤b1.toNat∧b1.toNat≤hiU b0)∧128≤b2.toNat∧b2.toNat≤191)
 |_=>false
def qc1 (l:List UInt8)(b:UInt8):Nat:=match l with
 |[]=>if szU b=0 then 2 else if szU b=1 then 0 else 1
 |[b0]=>if b.toNat<loU b0∨hiU b0<b.toNat then 0 else if szU b0=2 then 2 else 1
 |[b0,_]=>if b.toNat<128∨191<b.toNat then 0 else if szU b0=3 then 2 else 1
 |_=>if b.toNat<128∨191<b.toNat then 0 else 2
theorem qjB (b:UInt8):(szU b=0∧firstT b.toNat=240∧b.toNat<128)∨(szU b=1∧firstT b.toNat=241∧128≤b.toNat)∨(2≤szU b∧szU b≤4∧firstT b.toNat<240∧128≤b.toNat):=by
 unfold szU;have hf:=firstT_cases b.toNat;have h1:b.toNat<128→firstT b.toNat=240:=fun h=>by unfold firstT;rw[if_pos h]
 have h2:128≤b.toNat→firstT b.toNat≠240:=fun h=>by
  unfold firstT;rw[if_neg (by omega)]
  repeat' split
  all_goals decide
 by_cases hb:b.toNat<128
 ·left;have:=h1 hb;exact⟨by rw[this],this,hb⟩
 have h3:=h2 (by omega);rcases hf with h|h|h|h|h|h|h|h|h
 ·exact absurd h h3
 ·right;left;exact⟨by rw[h],h,by omega⟩
 all_goals (right;right;rw[h];exact⟨by decide,by decide,by decide,by omega⟩)
theorem qhF {b:UInt8}(h:2≤szU b):szU b≤4∧firstT b.toNat<240∧128≤b.toNat:=by
 rcases qjB b with h1|h1|h1
 ·omega
 ·omega
 exact h1.2
theorem qrU (b:UInt8):qgl b.toNat (firstT b.toNat) (szU b) (firstT b.toNat / 16) (loU b) (hiU b):=qtH _ _ rfl (by
 rcases firstT_cases b.toNat with h|h|h|h|h|h|h|h|h<;>rw[h]<;>decide)
def qbq (V:World)(g off n cap:Nat)(r:Bool):Prop:=Calls prog 315 #[.slice (some ⟨g,off,none⟩) n cap] V fun e W'=>e=.returned (.bool r)∧Below V.heap.size V W'
def qdp (V:World)(g off n cap:Nat)(bad:Bool):Prop:=Calls prog 316 #[.slice (some ⟨g,off,none⟩) n cap] V fun e W'=>∃ch sz,e=.returned (.tuple #[.int .i32 ch,.int .i64 sz])∧(ch==65533&&sz==1)=bad∧Below V.heap.size V W'
theorem qdc (h:Calls prog 315 #[.slice (some ⟨g,off,none⟩) n cap] V fun e W'=>e=.returned (.bool true)∧W'=V):qbq V g off n cap true :=
 h.mono fun _ _ ⟨he,hw⟩=>⟨he,hw▸Below.refl _ _⟩
theorem qcc (hb:128≤b0)(hn:1≤n)(h0:V.cell? ⟨g,off,none⟩=some (.int .u8 b0))(h:Calls prog 323 #[.slice (some ⟨g,off,none⟩) n cap] V fun e W'=>e=.returned (.tuple #[.int .i32 65533,.int .i64 1])∧Below V.heap.size V W'):qdp V g off n cap true :=
 qde V g off cap n b0 hb hn h0 (fun ch sz W'=>(ch==65533&&sz==1)=true∧Below V.heap.size V W') (h.mono fun _ _ ⟨he,hB⟩=>⟨65533,1,he,by decide,hB⟩)
theorem qtv (hk:2≤k)(ch:Int):(ch==65533&&(k:Int)==1)=false:=by
 have:((k:Int)==1)=false:=by simp;omega
 rw[this,Bool.and_false]
theorem qoi (hk:2≤k)(hb:128≤b0)(hn:1≤n)(h0:V.cell? ⟨g,off,none⟩=some (.int .u8 b0))(h:Calls prog 323 #[.slice (some ⟨g,off,none⟩) n cap] V fun e W'=>(∃ch,e=.returned (.tuple #[.int .i32 ch,.int .i64 k]))∧Below V.heap.size V W'):qdp V g off n cap false :=
 qde V g off cap n b0 hb hn h0 (fun ch sz W'=>(ch==65533&&sz==1)=false∧Below V.heap.size V W') (h.mono fun _ _ ⟨⟨ch,he⟩,hB⟩=>⟨ch,k,he,qtv hk ch,hB⟩)
theorem qrd (g off cap:Nat)(l:List UInt8)(b:UInt8)(hp:qst l=true)(V:World)(hc:∀i (hi:i<(l++[b]).length),V.cell? ⟨g,off+i,none⟩=some (.int .u8 ((l++[b])[i]'hi).toNat))(ht:U8 V):(qc1 l b=1→qbq V g off (l.length+1) cap false)∧(qc1 l b=0→qbq V g off (l.length+1) cap true∧qdp V g off (l.length+1) cap true)∧(qc1 l b=2→qbq V g off (l.length+1) cap true∧qdp V g off (l.length+1) cap false):=by
 match l,hp with
 |[],_ =>
  have h0:V.cell? ⟨g,off,none⟩=some (.int .u8 b.toNat):=hc 0 (by simp);have hL:=qrU b;have hb:=b.toNat_lt;unfold qc1;rcases qjB b with ⟨s1,s2,s3⟩|⟨s1,s2,s3⟩|⟨s1,s2,s3,s4⟩
  ·rw[if_pos s1];refine⟨by simp,by simp,fun _=>⟨qdc (qbK V g off 1 cap _ _ _ _ _ _ hL hb (by decide) (by omega) (by decide) h0 ht),?_⟩⟩;refine(qff V g off cap 1 b.toNat s3 (by decide) h0).mono fun _ _ ⟨he,hw⟩=>⟨b.toNat,1,he,?_,hw▸Below.refl _ _⟩
   have:((b.toNat:Int)==65533)=false:=by simp;omega
   rw[this,Bool.false_and]
  ·rw[if_neg (by omega),if_pos s1];refine⟨by simp,fun _=>⟨qdc (qbK V g off 1 cap _ _ _ _ _ _ hL hb (by decide) (by omega) (by decide) h0 ht),?_⟩,by simp⟩;exact qcc s3 (Nat.le_add_left _ _) h0 ((qoB V g off cap 1 _ s2 hb (by decide) h0 ht).mono fun _ _ ⟨he,hw⟩=>⟨he,hw▸Below.refl _ _⟩)
  rw[if_neg (by omega),if_neg (by omega)];exact⟨fun _=>qiR V g off cap _ _ _ _ _ _ hL hb (by omega) h0 ht,by simp,by simp⟩
 |[b0],hp =>
  have h0:V.cell? ⟨g,off,none⟩=some (.int .u8 b0.toNat):=hc 0 (by simp);have h1:V.cell? ⟨g,off+1,none⟩=some (.int .u8 b.toNat):=hc 1 (by simp);have hL:=qrU b0;have hb:=b0.toNat_lt;have hs:=of_decide_eq_true hp;obtain⟨s2,s3,s4⟩:=qhF hs;have y:szU b0=2→qbq V g off 2 cap true:=fun e=>qdc (qbK V g off 2 cap _ _ _ _ _ _ hL hb (by decide) (by omega) (by decide) h0 ht);unfold qc1;simp only[];by_cases q1:b.toNat<loU b0
  ·rw[if_pos (.inl q1)];refine⟨by simp,fun _ => ?_,by simp⟩;by_cases e2:szU b0=2
   ·exact⟨y e2,qcc s4 (Nat.le_add_left _ _) h0 (qq4 V g off cap _ _ _ _ _ _ _ hL hb s3 h0 h1 ht e2 q1)⟩
   exact⟨qk7 V g off cap _ _ _ _ _ _ _ hL hb (by omega) h0 h1 ht q1,qcc s4 (Nat.le_add_left _ _) h0 (qd0 V g off cap 2 _ _ _ _ _ _ hL hb s3 h0 ht (by decide) (by omega))⟩
  by_cases q2:hiU b0<b.toNat
  ·rw[if_pos (.inr q2)];refine⟨by simp,fun _ => ?_,by simp⟩;by_cases e2:szU b0=2
   ·exact⟨y e2,qcc s4 (Nat.le_add_left _ _) h0 (qrJ V g off cap _ _ _ _ _ _ _ hL hb s3 h0 h1 ht e2 q1 q2)⟩
   exact⟨qk8 V g off cap _ _ _ _ _ _ _ hL hb (by omega) h0 h1 ht q1 q2,qcc s4 (Nat.le_add_left _ _) h0 (qd0 V g off cap 2 _ _ _ _ _ _ hL hb s3 h0 ht (by decide) (by omega))⟩
  rw[if_neg (by omega)];by_cases e2:szU b0=2
  ·rw[if_pos e2];exact⟨by simp,by simp,fun _=>⟨y e2,qoi (by decide) s4 (Nat.le_add_left _ _) h0 (qrw V g off cap _ _ _ _ _ _ _ hL hb s3 h0 h1 ht e2 q1 q2)⟩⟩
  rw[if_neg e2];exact⟨fun _=>qjT V g off cap _ _ _ _ _ _ _ hL hb (by omega) h0 h1 ht q1 q2,by simp,by simp⟩
 |[b0,b1],hp =>
  have h0:V.cell? ⟨g,off,none⟩=some (.int .u8 b0.toNat):=hc 0 (by simp);have h1:V.cell? ⟨g,off+1,none⟩=some (.int .u8 b1.toNat):=hc 1 (by simp);have h2:V.cell? ⟨g,off+2,none⟩=some (.int .u8 b.toNat):=hc 2 (by simp);have hL:=qrU b0;have hb:=b0.toNat_lt;obtain⟨hs,hq1,hq2⟩:=of_decide_eq_true hp;obtain⟨s2,s3,s4⟩:=qhF (b:=b0) (by omega);have p1:¬b1.toNat<loU b0:=by omega
  have p2:¬hiU b0<b1.toNat:=by omega
  have y:szU b0=3→qbq V g off 3 cap true:=fun e=>qdc (qbK V g off 3 cap _ _ _ _ _ _ hL hb (by decide) (by omega) (by decide) h0 ht);unfold qc1;simp only[];by_cases q1:b.toNat<128
  ·rw[if_pos (.inl q1)];refine⟨by simp,fun _ => ?_,by simp⟩;by_cases e2:szU b0=3
   ·exact⟨y e2,qcc s4 (Nat.le_add_left _ _) h0 (qqM V g off cap _ _ _ _ _ _ _ _ hL hb s3 h0 h1 h2 ht e2 p1 p2 q1)⟩
   exact⟨qjj V g off cap _ _ _ _ _ _ _ _ hL hb (by omega) h0 h1 h2 ht p1 p2 q1,qcc s4 (Nat.le_add_left _ _) h0 (qd0 V g off cap 3 _ _ _ _ _ _ hL hb s3 h0 ht (by decide) (by omega))⟩
  by_cases q2:191<b.toNat
  ·rw[if_pos (.inr q2)];refine⟨by simp,fun _ => ?_,by simp⟩;by_cases e2:szU b0=3
   ·exact⟨y e2,qcc s4 (Nat.le_add_left _ _) h0 (qq9 V g off cap _ _ _ _ _ _ _ _ hL hb s3 h0 h1 h2 ht e2 p1 p2 q2)⟩
   exact⟨qj5 V g off cap _ _ _ _ _ _ _ _ hL hb (by omega) h0 h1 h2 ht p1 p2 q1 q2,qcc s4 (Nat.le_add_left _ _) h0 (qd0 V g off cap 3 _ _ _ _ _ _ hL hb s3 h0 ht (by decide) (by omega))⟩
  rw[if_neg (by omega)];by_cases e2:szU b0=3
  ·rw[if_pos e2];exact⟨by simp,by simp,fun _=>⟨y e2,qoi (by decide) s4 (Nat.le_add_left _ _) h0 (qq1 V g off cap _ _ _ _ _ _ _ _ hL hb s3 h0 h1 h2 ht e2 p1 p2 (by omega) (by omega))⟩⟩
  rw[if_neg e2];exact⟨fun _=>qj8 V g off cap _ _ _ _ _ _ _ _ hL hb (by omega) h0 h1 h2 ht p1 p2 q1 q2,by simp,by simp⟩
 |[b0,b1,b2],hp =>
  have h0:V.cell? ⟨g,off,none⟩=some (.int .u8 b0.toNat):=hc 0 (by simp);have h1:V.cell? ⟨g,off+1,none⟩=some (.int .u8 b1.toNat):=hc 1 (by simp);have h2:V.cell? ⟨g,off+2,none⟩=some (.int .u8 b2.toNat):=hc 2 (by simp);have h3:V.cell? ⟨g,off+3,none⟩=some (.int .u8 b.toNat):=hc 3 (by simp);have hL:=qrU b0;have hb:=b0.toNat_lt;obtain⟨hs,⟨hq1,hq2⟩,hr1,hr2⟩:=of_decide_eq_true hp;obtain⟨s2,s3,s4⟩:=qhF (b:=b0) (by omega);have e4:szU b0=4:=by omega
  have p1:¬b1.toNat<loU b0:=by omega
  have p2:¬hiU b0<b1.toNat:=by omega
  have y:=qdc (qbK V g off 4 cap _ _ _ _ _ _ hL hb (by decide) (by omega) (by decide) h0 ht);unfold qc1;simp only[];by_cases q1:b.toNat<128
  ·rw[if_pos (.inl q1)];exact⟨by simp,fun _=>⟨y,qcc s4 (Nat.le_add_left _ _) h0 (qqE V g off cap _ _ _ _ _ _ _ _ _ hL hb s3 h0 h1 h2 h3 ht e4 p1 p2 hr1 hr2 q1)⟩,by simp⟩
  by_cases q2:191<b.toNat
  ·rw[if_pos (.inr q2)];exact⟨by simp,fun _=>⟨y,qcc s4 (Nat.le_add_left _ _) h0 (qrn V g off cap _ _ _ _ _ _ _ _ _ hL hb s3 h0 h1 h2 h3 ht e4 p1 p2 hr1 hr2 q2)⟩,by simp⟩
  rw[if_neg (by omega)];exact⟨by simp,by simp,fun _=>⟨y,qoi (by decide) s4 (Nat.le_add_left _ _) h0 (qqR V g off cap _ _ _ _ _ _ _ _ _ hL hb s3 h0 h1 h2 h3 ht e4 p1 p2 hr1 hr2 (by omega) (by omega))⟩⟩
end
end Go.Proofs.YtllcbnfmihfaaaaGreatDoor
