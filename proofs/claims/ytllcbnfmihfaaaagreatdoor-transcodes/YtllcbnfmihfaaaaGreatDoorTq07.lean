import Derived.Shelf.Unicode.DecodeSlow
import Derived.Test.YtllcbnfmihfaaaaGreatDoorTq01
set_option maxRecDepth 100000
set_option maxHeartbeats 8000000
namespace Go.Proofs.YtllcbnfmihfaaaaGreatDoor
open Go.Proofs.Tryz
variable {W:World}{b0 hi i lo sz x:Nat}
section
open Go.RowKit Go.Lib
def U8 (W:World):Prop:=Utf8Tabs 4 5 W
theorem U8.below {V:World}(h:U8 W)(hb:Below W.heap.size W V):U8 V:=by
 refine⟨fun c hc => ?_,fun i hi=>⟨?_,?_⟩⟩
 ·have:=h.1 c hc;exact(hb.cell (p:=⟨_,c,none⟩) (block_lt_of_cell this)).trans this
 ·have:=(h.2 i hi).1;exact(hb.cell (p:=⟨_,_,none⟩) (block_lt_of_cell this)).trans this
 have:=(h.2 i hi).2;exact(hb.cell (p:=⟨_,_,none⟩) (block_lt_of_cell this)).trans this
theorem qxw:∀v:Fin 256,bits .and .u8 (v.val:Int) 7=((v.val%8:Nat):Int):=by decide
structure qgl (b0 x sz i lo hi:Nat):Prop where
 fx:firstT b0=x
 fsz:bits .and .u8 (x:Int) 7=(sz:Int)
 fi:x / 16=i
 flt:i<16
 fxb:x<256
 flo:accLo i=lo
 fhi:accHi i=hi
theorem qgl.szlt (h:qgl b0 x sz i lo hi):sz<8:=by
 have h1:=qxw ⟨x,h.fxb⟩;have h2:=h.fsz;rw[h1] at h2;omega
theorem qtH (b0 x:Nat)(h:firstT b0=x)(hx:x<256):qgl b0 x (x%8) (x / 16) (accLo (x / 16)) (accHi (x / 16)):=by
 refine⟨h,?_,rfl,by omega,hx,rfl,rfl⟩;exact qxw ⟨x,hx⟩
theorem qbK (W:World)(g off n cap:Nat)(b0 x sz i lo hi:Nat)(hL:qgl b0 x sz i lo hi)(hb:b0<256)(hn:1≤n)(hsz:sz≤n)(hm:n≤4)(h0:W.cell? ⟨g,off,none⟩=some (.int .u8 b0))(ht:U8 W):Calls prog 315 #[.slice (some ⟨g,off,none⟩) n cap] W fun e W'=>e=.returned (.bool true)∧W'=W:=by
 have h1:=ht.1 b0 hb;rw[hL.fx] at h1;have h2:=hL.fsz;have hws:wrap64 (sz:Int)=sz:=by have:=hL.szlt;unfold wrap64;omega
 have e0:((n:Int)==0)=false:=by simp;omega
 have e1:decide (sz≤n)=true:=by simp;omega
 go_enter func315,ntmps315;go_wp2;go_ret;exact⟨rfl,rfl⟩
theorem qaA (hL:qgl b0 x sz i lo hi)(ht:U8 W):W.cell? ⟨5,i*2,none⟩=some (.int .u8 lo)∧W.cell? ⟨5,i*2+1,none⟩=some (.int .u8 hi):=by
 obtain⟨h1,h2⟩:=ht.2 i hL.flt;rw[hL.flo] at h1;rw[hL.fhi] at h2;rw[Nat.mul_comm i 2];exact⟨h1,h2⟩
theorem qiR (W:World)(g off cap:Nat)(b0 x sz i lo hi:Nat)(hL:qgl b0 x sz i lo hi)(hb:b0<256)(hsz:1<sz)(h0:W.cell? ⟨g,off,none⟩=some (.int .u8 b0))(ht:U8 W):Calls prog 315 #[.slice (some ⟨g,off,none⟩) 1 cap] W fun e W'=>e=.returned (.bool false)∧Below W.heap.size W W':=by
 have h1:=ht.1 b0 hb;rw[hL.fx] at h1;have h2:=hL.fsz;have hws:wrap64 (sz:Int)=sz:=by have:=hL.szlt;unfold wrap64;omega
 obtain⟨a1,a2⟩:=qaA hL ht;have h3:x / 16<16:=by rw[hL.fi];exact hL.flt
 rw[←hL.fi] at a1 a2;have e1:decide (sz≤1)=false:=by simp;omega
 have e2:¬sz≤1:=by omega
 go_enter func315,ntmps315;go_wp2
 go_quiet (fail)
 go_wp2;go_ret;exact⟨rfl,(bwA).trans ((qam _ nq).mono (by simp))⟩
theorem qk7 (W:World)(g off cap:Nat)(b0 b1 x sz i lo hi:Nat)(hL:qgl b0 x sz i lo hi)(hb:b0<256)(hsz:2<sz)(h0:W.cell? ⟨g,off,none⟩=some (.int .u8 b0))(h01:W.cell? ⟨g,off+1,none⟩=some (.int .u8 b1))(ht:U8 W)(hq:b1<lo):Calls prog 315 #[.slice (some ⟨g,off,none⟩) 2 cap] W fun e W'=>e=.returned (.bool true)∧Below W.heap.size W W':=by
 have h1:=ht.1 b0 hb;rw[hL.fx] at h1;have h2:=hL.fsz;have hws:wrap64 (sz:Int)=sz:=by have:=hL.szlt;unfold wrap64;omega
 obtain⟨a1,a2⟩:=qaA hL ht;have h3:x / 16<16:=by rw[hL.fi];exact hL.flt
 rw[←hL.fi] at a1 a2;have e1:decide (sz≤2)=false:=by simp;omega
 have e2:¬sz≤2:=by omega
 have c1:=(World.cell?_alloc_some W ⟨g,off+1,none⟩ (.cells #[.int .u8 lo,.int .u8 hi] 364) (by rw[h01];rfl)).trans h01;have c2:=qab (qac W (.cells #[.int .u8 lo,.int .u8 hi] 364)) 0;have c3:=qab (qac W (.cells #[.int .u8 lo,.int .u8 hi] 364)) 1;have q1:decide (b1<lo)=true:=by simpa using hq
 go_enter func315,ntmps315;go_wp2
 go_quiet (fail)
 go_wp2;go_ret;exact⟨rfl,(bwA).trans ((qam _ nq).mono (by simp))⟩
theorem qk8 (W:World)(g off cap:Nat)(b0 b1 x sz i lo hi:Nat)(hL:qgl b0 x sz i lo hi)(hb:b0<256)(hsz:2<sz)(h0:W.cell? ⟨g,off,none⟩=some (.int .u8 b0))(h01:W.cell? ⟨g,off+1,none⟩=some (.int .u8 b1))(ht:U8 W)(hq1:¬b1<lo)(hq2:hi<b1):Calls prog 315 #[.slice (some ⟨g,off,none⟩) 2 cap] W fun e W'=>e=.returned (.bool true)∧Below W.heap.size W W':=by
 have h1:=ht.1 b0 hb;rw[hL.fx] at h1;have h2:=hL.fsz;have hws:wrap64 (sz:Int)=sz:=by have:=hL.szlt;unfold wrap64;omega
 obtain⟨a1,a2⟩:=qaA hL ht;have h3:x / 16<16:=by rw[hL.fi];exact hL.flt
 rw[←hL.fi] at a1 a2;have e1:decide (sz≤2)=false:=by simp;omega
 have e2:¬sz≤2:=by omega
 have c1:=(World.cell?_alloc_some W ⟨g,off+1,none⟩ (.cells #[.int .u8 lo,.int .u8 hi] 364) (by rw[h01];rfl)).trans h01;have c2:=qab (qac W (.cells #[.int .u8 lo,.int .u8 hi] 364)) 0;have c3:=qab (qac W (.cells #[.int .u8 lo,.int .u8 hi] 364)) 1;have q1:decide (b1<lo)=false:=by simpa using hq1
 have q2:decide (hi<b1)=true:=by simpa using hq2
 go_enter func315,ntmps315;go_wp2
 go_quiet (fail)
 go_wp2;go_ret;exact⟨rfl,(bwA).trans ((qam _ nq).mono (by simp))⟩
theorem qjT (W:World)(g off cap:Nat)(b0 b1 x sz i lo hi:Nat)(hL:qgl b0 x sz i lo hi)(hb:b0<256)(hsz:2<sz)(h0:W.cell? ⟨g,off,none⟩=some (.int .u8 b0))(h01:W.cell? ⟨g,off+1,none⟩=some (.int .u8 b1))(ht:U8 W)(hq1:¬b1<lo)(hq2:¬hi<b1):Calls prog 315 #[.slice (some ⟨g,off,none⟩) 2 cap] W fun e W'=>e=.returned (.bool false)∧Below W.heap.size W W':=by
 have h1:=ht.1 b0 hb;rw[hL.fx] at h1;have h2:=hL.fsz;have hws:wrap64 (sz:Int)=sz:=by have:=hL.szlt;unfold wrap64;omega
 obtain⟨a1,a2⟩:=qaA hL ht;have h3:x / 16<16:=by rw[hL.fi];exact hL.flt
 rw[←hL.fi] at a1 a2;have e1:decide (sz≤2)=false:=by simp;omega
 have e2:¬sz≤2:=by omega
 have c1:=(World.cell?_alloc_some W ⟨g,off+1,none⟩ (.cells #[.int .u8 lo,.int .u8 hi] 364) (by rw[h01];rfl)).trans h01;have c2:=qab (qac W (.cells #[.int .u8 lo,.int .u8 hi] 364)) 0;have c3:=qab (qac W (.cells #[.int .u8 lo,.int .u8 hi] 364)) 1;have q1:decide (b1<lo)=false:=by simpa using hq1
 have q2:decide (hi<b1)=false:=by simpa using hq2
 go_enter func315,ntmps315;go_wp2
 go_quiet (fail)
 go_wp2;go_ret;exact⟨rfl,(bwA).trans ((qam _ nq).mono (by simp))⟩
theorem qjj (W:World)(g off cap:Nat)(b0 b1 b2 x sz i lo hi:Nat)(hL:qgl b0 x sz i lo hi)(hb:b0<256)(hsz:3<sz)(h0:W.cell? ⟨g,off,none⟩=some (.int .u8 b0))(h01:W.cell? ⟨g,off+1,none⟩=some (.int .u8 b1))(h02:W.cell? ⟨g,off+2,none⟩=some (.int .u8 b2))(ht:U8 W)(hq1:¬b1<lo)(hq2:¬hi<b1)(hr:b2<128):Calls prog 315 #[.slice (some ⟨g,off,none⟩) 3 cap] W fun e W'=>e=.returned (.bool true)∧Below W.heap.size W W':=by
 have h1:=ht.1 b0 hb;rw[hL.fx] at h1;have h2:=hL.fsz;have hws:wrap64 (sz:Int)=sz:=by have:=hL.szlt;unfold wrap64;omega
 obtain⟨a1,a2⟩:=qaA hL ht;have h3:x / 16<16:=by rw[hL.fi];exact hL.flt
 rw[←hL.fi] at a1 a2;have e1:decide (sz≤3)=false:=by simp;omega
 have e2:¬sz≤3:=by omega
 have HB:Hid (Below W.heap.size W (W.alloc (.cells #[.int .u8 lo,.int .u8 hi] 364))):=bwA;have c1:=(World.cell?_alloc_some W ⟨g,off+1,none⟩ (.cells #[.int .u8 lo,.int .u8 hi] 364) (by rw[h01];rfl)).trans h01;have c12:=(World.cell?_alloc_some W ⟨g,off+2,none⟩ (.cells #[.int .u8 lo,.int .u8 hi] 364) (by rw[h02];rfl)).trans h02;have c2:=qab (qac W (.cells #[.int .u8 lo,.int .u8 hi] 364)) 0;have c3:=qab (qac W (.cells #[.int .u8 lo,.int .u8 hi] 364)) 1;have q1:decide (b1<lo)=false:=by simpa using hq1
 have q2:decide (hi<b1)=false:=by simpa using hq2
 have r1:decide ((b2:Int)<128)=true:=by simp;omega
 have r1n:decide (b2<128)=true:=by simpa using hr
 go_enter func315,ntmps315;go_wp2
 go_quiet (fail)
 go_wp2;go_ret;exact⟨rfl,HB.out.trans ((qam _ nq).mono HB.out.size)⟩
theorem qj5 (W:World)(g off cap:Nat)(b0 b1 b2 x sz i lo hi:Nat)(hL:qgl b0 x sz i lo hi)(hb:b0<256)(hsz:3<sz)(h0:W.cell? ⟨g,off,none⟩=some (.int .u8 b0))(h01:W.cell? ⟨g,off+1,none⟩=some (.int .u8 b1))(h02:W.cell? ⟨g,off+2,none⟩=some (.int .u8 b2))(ht:U8 W)(hq1:¬b1<lo)(hq2:¬hi<b1)(hr1:¬b2<128)(hr2:191<b2):Calls prog 315 #[.slice (some ⟨g,off,none⟩) 3 cap] W fun e W'=>e=.returned (.bool true)∧Below W.heap.size W W':=by
 have h1:=ht.1 b0 hb;rw[hL.fx] at h1;have h2:=hL.fsz;have hws:wrap64 (sz:Int)=sz:=by have:=hL.szlt;unfold wrap64;omega
 obtain⟨a1,a2⟩:=qaA hL ht;have h3:x / 16<16:=by rw[hL.fi];exact hL.flt
 rw[←hL.fi] at a1 a2;have e1:decide (sz≤3)=false:=by simp;omega
 have e2:¬sz≤3:=by omega
 have HB:Hid (Below W.heap.size W (W.alloc (.cells #[.int .u8 lo,.int .u8 hi] 364))):=bwA;have c1:=(World.cell?_alloc_some W ⟨g,off+1,none⟩ (.cells #[.int .u8 lo,.int .u8 hi] 364) (by rw[h01];rfl)).trans h01;have c12:=(World.cell?_alloc_some W ⟨g,off+2,none⟩ (.cells #[.int .u8 lo,.int .u8 hi] 364) (by rw[h02];rfl)).trans h02;have c2:=qab (qac W (.cells #[.int .u8 lo,.int .u8 hi] 364)) 0;have c3:=qab (qac W (.cells #[.int .u8 lo,.int .u8 hi] 364)) 1;have q1:decide (b1<lo)=false:=by simpa using hq1
 have q2:decide (hi<b1)=false:=by simpa using hq2
 have r1n:decide (b2<128)=false:=by simpa using hr1
 have r2n:decide (191<b2)=true:=by simpa using hr2
 have r1:decide ((b2:Int)<128)=false:=by simp;omega
 have r2:decide ((191:Int)<b2)=true:=by simp;omega
 go_enter func315,ntmps315;go_wp2
 go_quiet (fail)
 go_wp2;go_ret;exact⟨rfl,HB.out.trans ((qam _ nq).mono HB.out.size)⟩
theorem qj8 (W:World)(g off cap:Nat)(b0 b1 b2 x sz i lo hi:Nat)(hL:qgl b0 x sz i lo hi)(hb:b0<256)(hsz:3<sz)(h0:W.cell? ⟨g,off,none⟩=some (.int .u8 b0))(h01:W.cell? ⟨g,off+1,none⟩=some (.int .u8 b1))(h02:W.cell? ⟨g,off+2,none⟩=some (.int .u8 b2))(ht:U8 W)(hq1:¬b1<lo)(hq2:¬hi<b1)(hr1:¬b2<128)(hr2:¬191<b2):Calls prog 315 #[.slice (some ⟨g,off,none⟩) 3 cap] W fun e W'=>e=.returned (.bool false)∧Below W.heap.size W W':=by
 have h1:=ht.1 b0 hb;rw[hL.fx] at h1;have h2:=hL.fsz;have hws:wrap64 (sz:Int)=sz:=by have:=hL.szlt;unfold wrap64;omega
 obtain⟨a1,a2⟩:=qaA hL ht;have h3:x / 16<16:=by rw[hL.fi];exact hL.flt
 rw[←hL.fi] at a1 a2;have e1:decide (sz≤3)=false:=by simp;omega
 have e2:¬sz≤3:=by omega
 have HB:Hid (Below W.heap.size W (W.alloc (.cells #[.int .u8 lo,.int .u8 hi] 364))):=bwA;have c1:=(World.cell?_alloc_some W ⟨g,off+1,none⟩ (.cells #[.int .u8 lo,.int .u8 hi] 364) (by rw[h01];rfl)).trans h01;have c12:=(World.cell?_alloc_some W ⟨g,off+2,none⟩ (.cells #[.int .u8 lo,.int .u8 hi] 364) (by rw[h02];rfl)).trans h02;have c2:=qab (qac W (.cells #[.int .u8 lo,.int .u8 hi] 364)) 0;have c3:=qab (qac W (.cells #[.int .u8 lo,.int .u8 hi] 364)) 1;have q1:decide (b1<lo)=false:=by simpa using hq1
 have q2:decide (hi<b1)=false:=by simpa using hq2
 have r1n:decide (b2<128)=false:=by simpa using hr1
 have r2n:decide (191<b2)=false:=by simpa using hr2
 have r1:decide ((b2:Int)<128)=false:=by simp;omega
 have r2:decide ((191:Int)<b2)=false:=by simp;omega
 go_enter func315,ntmps315;go_wp2
 go_quiet (fail)
 go_wp2;go_ret;exact⟨rfl,HB.out.trans ((qam _ nq).mono HB.out.size)⟩
theorem qd0 (W:World)(g off cap n:Nat)(b0 x sz i lo hi:Nat)(hL:qgl b0 x sz i lo hi)(hb:b0<256)(hx:x<240)(h0:W.cell? ⟨g,off,none⟩=some (.int .u8 b0))(ht:U8 W)(hn:1≤n)(hs:n<sz):Calls prog 323 #[.slice (some ⟨g,off,none⟩) n cap] W fun e W'=>e=.returned (.tuple #[.int .i32 65533,.int .i64 1])∧Below W.heap.size W W':=by
 have h1:=ht.1 b0 hb;rw[hL.fx] at h1;have h2:=hL.fsz;have hws:wrap64 (sz:Int)=sz:=by have:=hL.szlt;unfold wrap64;omega
 obtain⟨a1,a2⟩:=qaA hL ht;have h3:x / 16<16:=by rw[hL.fi];exact hL.flt
 rw[←hL.fi] at a1 a2;have x1:decide (240≤(x:Int))=false:=by simp;omega
 have x2:decide (240≤x)=false:=by simp;omega
 have HB:Hid (Below W.heap.size W (W.alloc (.cells #[.int .u8 lo,.int .u8 hi] 364))):=bwA;have c2:=qab (qac W (.cells #[.int .u8 lo,.int .u8 hi] 364)) 0;have c3:=qab (qac W (.cells #[.int .u8 lo,.int .u8 hi] 364)) 1;have e0:decide ((n:Int)<1)=false:=by simp;omega
 have e0n:decide (n<1)=false:=by simp;omega
 have e1:decide (n<sz)=true:=by simpa using hs
 have e2:decide ((n:Int)<(sz:Int))=true:=by simp;omega
 go_enter func323,ntmps323;go_wp2
 go_ret2
 exact⟨rfl,HB.out⟩
theorem qq4 (W:World)(g off cap:Nat)(b0 b1 x sz i lo hi:Nat)(hL:qgl b0 x sz i lo hi)(hb:b0<256)(hx:x<240)(h0:W.cell? ⟨g,off,none⟩=some (.int .u8 b0))(h01:W.cell? ⟨g,off+1,none⟩=some (.int .u8 b1))(ht:U8 W)(hs:sz=2)(hq:b1<lo):Calls prog 323 #[.slice (some ⟨g,off,none⟩) 2 cap] W fun e W'=>e=.returned (.tuple #[.int .i32 65533,.int .i64 1])∧Below W.heap.size W W':=by
 have h1:=ht.1 b0 hb;rw[hL.fx] at h1;have h2:=hL.fsz;have hws:wrap64 (sz:Int)=sz:=by have:=hL.szlt;unfold wrap64;omega
 obtain⟨a1,a2⟩:=qaA hL ht;have h3:x / 16<16:=by rw[hL.fi];exact hL.flt
 rw[←hL.fi] at a1 a2;have x1:decide (240≤(x:Int))=false:=by simp;omega
 have x2:decide (240≤x)=false:=by simp;omega
 have HB:Hid (Below W.heap.size W (W.alloc (.cells #[.int .u8 lo,.int .u8 hi] 364))):=bwA;have c11:=(World.cell?_alloc_some W ⟨g,off+1,none⟩ (.cells #[.int .u8 lo,.int .u8 hi] 364) (by rw[h01];rfl)).trans h01;have c2:=qab (qac W (.cells #[.int .u8 lo,.int .u8 hi] 364)) 0;have c3:=qab (qac W (.cells #[.int .u8 lo,.int .u8 hi] 364)) 1;have q1:decide (b1<lo)=true:=by simpa using hq
 subst hs;go_enter func323,ntmps323;go_wp2
 go_ret2
 exact⟨rfl,HB.out⟩
theorem qrJ (W:World)(g off cap:Nat)(b0 b1 x sz i lo hi:Nat)(hL:qgl b0 x sz i lo hi)(hb:b0<256)(hx:x<240)(h0:W.cell? ⟨g,off,none⟩=some (.int .u8 b0))(h01:W.cell? ⟨g,off+1,none⟩=some (.int .u8 b1))(ht:U8 W)(hs:sz=2)(hq1:¬b1<lo)(hq2:hi<b1):Calls prog 323 #[.slice (some ⟨g,off,none⟩) 2 cap] W fun e W'=>e=.returned (.tuple #[.int .i32 65533,.int .i64 1])∧Below W.heap.size W W':=by
 have h1:=ht.1 b0 hb;rw[hL.fx] at h1;have h2:=hL.fsz;have hws:wrap64 (sz:Int)=sz:=by have:=hL.szlt;unfold wrap64;omega
 obtain⟨a1,a2⟩:=qaA hL ht;have h3:x / 16<16:=by rw[hL.fi];exact hL.flt
 rw[←hL.fi] at a1 a2;have x1:decide (240≤(x:Int))=false:=by simp;omega
 have x2:decide (240≤x)=false:=by simp;omega
 have HB:Hid (Below W.heap.size W (W.alloc (.cells #[.int .u8 lo,.int .u8 hi] 364))):=bwA;have c11:=(World.cell?_alloc_some W ⟨g,off+1,none⟩ (.cells #[.int .u8 lo,.int .u8 hi] 364) (by rw[h01];rfl)).trans h01;have c2:=qab (qac W (.cells #[.int .u8 lo,.int .u8 hi] 364)) 0;have c3:=qab (qac W (.cells #[.int .u8 lo,.int .u8 hi] 364)) 1;have q1:decide (b1<lo)=false:=by simpa using hq1
 have q2:decide (hi<b1)=true:=by simpa using hq2
 subst hs;go_enter func323,ntmps323;go_wp2
 go_ret2
 exact⟨rfl,HB.out⟩
theorem qrw (W:World)(g off cap:Nat)(b0 b1 x sz i lo hi:Nat)(hL:qgl b0 x sz i lo hi)(hb:b0<256)(hx:x<240)(h0:W.cell? ⟨g,off,none⟩=some (.int .u8 b0))(h01:W.cell? ⟨g,off+1,none⟩=some (.int .u8 b1))(ht:U8 W)(hs:sz=2)(hq1:¬b1<lo)(hq2:¬hi<b1):Calls prog 323 #[.slice (some ⟨g,off,none⟩) 2 cap] W fun e W'=>(∃ch,e=.returned (.tuple #[.int .i32 ch,.int .i64 2]))∧Below W.heap.size W W':=by
 have h1:=ht.1 b0 hb;rw[hL.fx] at h1;have h2:=hL.fsz;have hws:wrap64 (sz:Int)=sz:=by have:=hL.szlt;unfold wrap64;omega
 obtain⟨a1,a2⟩:=qaA hL ht;have h3:x / 16<16:=by rw[hL.fi];exact hL.flt
 rw[←hL.fi] at a1 a2;have x1:decide (240≤(x:Int))=false:=by simp;omega
 have x2:decide (240≤x)=false:=by simp;omega
 have HB:Hid (Below W.heap.size W (W.alloc (.cells #[.int .u8 lo,.int .u8 hi] 364))):=bwA;have c11:=(World.cell?_alloc_some W ⟨g,off+1,none⟩ (.cells #[.int .u8 lo,.int .u8 hi] 364) (by rw[h01];rfl)).trans h01;have c2:=qab (qac W (.cells #[.int .u8 lo,.int .u8 hi] 364)) 0;have c3:=qab (qac W (.cells #[.int .u8 lo,.int .u8 hi] 364)) 1;have q1:decide (b1<lo)=false:=by simpa using hq1
 have q2:decide (hi<b1)=false:=by simpa using hq2
 subst hs;go_enter func323,ntmps323;go_wp2
 go_ret2
 exact⟨⟨_,rfl⟩,HB.out⟩
theorem qqM (W:World)(g off cap:Nat)(b0 b1 b2 x sz i lo hi:Nat)(hL:qgl b0 x sz i lo hi)(hb:b0<256)(hx:x<240)(h0:W.cell? ⟨g,off,none⟩=some (.int .u8 b0))(h01:W.cell? ⟨g,off+1,none⟩=some (.int .u8 b1))(h02:W.cell? ⟨g,off+2,none⟩=some (.int .u8 b2))(ht:U8 W)(hs:sz=3)(hq1:¬b1<lo)(hq2:¬hi<b1)(hr:b2<128):Calls prog 323 #[.slice (some ⟨g,off,none⟩) 3 cap] W fun e W'=>e=.returned (.tuple #[.int .i32 65533,.int .i64 1])∧Below W.heap.size W W':=by
 have h1:=ht.1 b0 hb;rw[hL.fx] at h1;have h2:=hL.fsz;have hws:wrap64 (sz:Int)=sz:=by have:=hL.szlt;unfold wrap64;omega
 obtain⟨a1,a2⟩:=qaA hL ht;have h3:x / 16<16:=by rw[hL.fi];exact hL.flt
 rw[←hL.fi] at a1 a2;have x1:decide (240≤(x:Int))=false:=by simp;omega
 have x2:decide (240≤x)=false:=by simp;omega
 have HB:Hid (Below W.heap.size W (W.alloc (.cells #[.int .u8 lo,.int .u8 hi] 364))):=bwA;have c11:=(World.cell?_alloc_some W ⟨g,off+1,none⟩ (.cells #[.int .u8 lo,.int .u8 hi] 364) (by rw[h01];rfl)).trans h01;have c12:=(World.cell?_alloc_some W ⟨g,off+2,none⟩ (.cells #[.int .u8 lo,.int .u8 hi] 364) (by rw[h02];rfl)).trans h02;have c2:=qab (qac W (.cells #[.int .u8 lo,.int .u8 hi] 364)) 0;have c3:=qab (qac W (.cells #[.int .u8 lo,.int .u8 hi] 364)) 1;have q1:decide (b1<lo)=false:=by simpa using hq1
 have q2:decide (hi<b1)=false:=by simpa using hq2
 subst hs;have r21n:decide (b2<128)=true:=by simp;omega
 have r21:decide ((b2:Int)<128)=true:=by simp;omega
 go_enter func323,ntmps323;go_wp2
 go_ret2
 exact⟨rfl,HB.out⟩
theorem qq9 (W:World)(g off cap:Nat)(b0 b1 b2 x sz i lo hi:Nat)(hL:qgl b0 x sz i lo hi)(hb:b0<256)(hx:x<240)(h0:W.cell? ⟨g,off,none⟩=some (.int .u8 b0))(h01:W.cell? ⟨g,off+1,none⟩=some (.int .u8 b1))(h02:W.cell? ⟨g,off+2,none⟩=some (.int .u8 b2))(ht:U8 W)(hs:sz=3)(hq1:¬b1<lo)(hq2:¬hi<b1)(hr:191<b2):Calls prog 323 #[.slice (some ⟨g,off,none⟩) 3 cap] W fun e W'=>e=.returned (.tuple #[.int .i32 65533,.int .i64 1])∧Below W.heap.size W W':=by
 have h1:=ht.1 b0 hb;rw[hL.fx] at h1;have h2:=hL.fsz;have hws:wrap64 (sz:Int)=sz:=by have:=hL.szlt;unfold wrap64;omega
 obtain⟨a1,a2⟩:=qaA hL ht;have h3:x / 16<16:=by rw[hL.fi];exact hL.flt
 rw[←hL.fi] at a1 a2;have x1:decide (240≤(x:Int))=false:=by simp;omega
 have x2:decide (240≤x)=false:=by simp;omega
 have HB:Hid (Below W.heap.size W (W.alloc (.cells #[.int .u8 lo,.int .u8 hi] 364))):=bwA;have c11:=(World.cell?_alloc_some W ⟨g,off+1,none⟩ (.cells #[.int .u8 lo,.int .u8 hi] 364) (by rw[h01];rfl)).trans h01;have c12:=(World.cell?_alloc_some W ⟨g,off+2,none⟩ (.cells #[.int .u8 lo,.int .u8 hi] 364) (by rw[h02];rfl)).trans h02;have c2:=qab (qac W (.cells #[.int .u8 lo,.int .u8 hi] 364)) 0;have c3:=qab (qac W (.cells #[.int .u8 lo,.int .u8 hi] 364)) 1;have q1:decide (b1<lo)=false:=by simpa using hq1
 have q2:decide (hi<b1)=false:=by simpa using hq2
 subst hs;have r21n:decide (b2<128)=false:=by simp;omega
 have r21:decide ((b2:Int)<128)=false:=by simp;omega
 have r22n:decide (191<b2)=true:=by simp;omega
 have r22:decide ((191:Int)<b2)=true:=by simp;omega
 go_enter func323,ntmps323;go_wp2
 go_ret2
 exact⟨rfl,HB.out⟩
theorem qq1 (W:World)(g off cap:Nat)(b0 b1 b2 x sz i lo hi:Nat)(hL:qgl b0 x sz i lo hi)(hb:b0<256)(hx:x<240)(h0:W.cell? ⟨g,off,none⟩=some (.int .u8 b0))(h01:W.cell? ⟨g,off+1,none⟩=some (.int .u8 b1))(h02:W.cell? ⟨g,off+2,none⟩=some (.int .u8 b2))(ht:U8 W)(hs:sz=3)(hq1:¬b1<lo)(hq2:¬hi<b1)(hr1:128≤b2)(hr2:b2≤191):Calls prog 323 #[.slice (some ⟨g,off,none⟩) 3 cap] W fun e W'=>(∃ch,e=.returned (.tuple #[.int .i32 ch,.int .i64 3]))∧Below W.heap.size W W':=by
 have h1:=ht.1 b0 hb;rw[hL.fx] at h1;have h2:=hL.fsz;have hws:wrap64 (sz:Int)=sz:=by have:=hL.szlt;unfold wrap64;omega
 obtain⟨a1,a2⟩:=qaA hL ht;have h3:x / 16<16:=by rw[hL.fi];exact hL.flt
 rw[←hL.fi] at a1 a2;have x1:decide (240≤(x:Int))=false:=by simp;omega
 have x2:decide (240≤x)=false:=by simp;omega
 have HB:Hid (Below W.heap.size W (W.alloc (.cells #[.int .u8 lo,.int .u8 hi] 364))):=bwA;have c11:=(World.cell?_alloc_some W ⟨g,off+1,none⟩ (.cells #[.int .u8 lo,.int .u8 hi] 364) (by rw[h01];rfl)).trans h01;have c12:=(World.cell?_alloc_some W ⟨g,off+2,none⟩ (.cells #[.int .u8 lo,.int .u8 hi] 364) (by rw[h02];rfl)).trans h02;have c2:=qab (qac W (.cells #[.int .u8 lo,.int .u8 hi] 364)) 0;have c3:=qab (qac W (.cells #[.int .u8 lo,.int .u8 hi] 364)) 1;have q1:decide (b1<lo)=false:=by simpa using hq1
 have q2:decide (hi<b1)=false:=by simpa using hq2
 subst hs;have r21n:decide (b2<128)=false:=by simp;omega
 have r21:decide ((b2:Int)<128)=false:=by simp;omega
 have r22n:decide (191<b2)=false:=by simp;omega
 have r22:decide ((191:Int)<b2)=false:=by simp;omega
 go_enter func323,ntmps323;go_wp2
 go_ret2
 exact⟨⟨_,rfl⟩,HB.out⟩
theorem qqE (W:World)(g off cap:Nat)(b0 b1 b2 b3 x sz i lo hi:Nat)(hL:qgl b0 x sz i lo hi)(hb:b0<256)(hx:x<240)(h0:W.cell? ⟨g,off,none⟩=some (.int .u8 b0))(h01:W.cell? ⟨g,off+1,none⟩=some (.int .u8 b1))(h02:W.cell? ⟨g,off+2,none⟩=some (.int .u8 b2))(h03:W.cell? ⟨g,off+3,none⟩=some (.int .u8 b3))(ht:U8 W)(hs:sz=4)(hq1:¬b1<lo)(hq2:¬hi<b1)(hr1:128≤b2)(hr2:b2≤191)(hr:b3<128):Calls prog 323 #[.slice (some ⟨g,off,none⟩) 4 cap] W fun e W'=>e=.returned (.tuple #[.int .i32 65533,.int .i64 1])∧Below W.heap.size W W':=by
 have h1:=ht.1 b0 hb;rw[hL.fx] at h1;have h2:=hL.fsz;have hws:wrap64 (sz:Int)=sz:=by have:=hL.szlt;unfold wrap64;omega
 obtain⟨a1,a2⟩:=qaA hL ht;have h3:x / 16<16:=by rw[hL.fi];exact hL.flt
 rw[←hL.fi] at a1 a2;have x1:decide (240≤(x:Int))=false:=by simp;omega
 have x2:decide (240≤x)=false:=by simp;omega
 have HB:Hid (Below W.heap.size W (W.alloc (.cells #[.int .u8 lo,.int .u8 hi] 364))):=bwA;have c11:=(World.cell?_alloc_some W ⟨g,off+1,none⟩ (.cells #[.int .u8 lo,.int .u8 hi] 364) (by rw[h01];rfl)).trans h01;have c12:=(World.cell?_alloc_some W ⟨g,off+2,none⟩ (.cells #[.int .u8 lo,.int .u8 hi] 364) (by rw[h02];rfl)).trans h02;have c13:=(World.cell?_alloc_some W ⟨g,off+3,none⟩ (.cells #[.int .u8 lo,.int .u8 hi] 364) (by rw[h03];rfl)).trans h03;have c2:=qab (qac W (.cells #[.int .u8 lo,.int .u8 hi] 364)) 0;have c3:=qab (qac W (.cells #[.int .u8 lo,.int .u8 hi] 364)) 1;have q1:decide (b1<lo)=false:=by simpa using hq1
 have q2:decide (hi<b1)=false:=by simpa using hq2
 subst hs;have r21n:decide (b2<128)=false:=by simp;omega
 have r21:decide ((b2:Int)<128)=false:=by simp;omega
 have r22n:decide (191<b2)=false:=by simp;omega
 have r22:decide ((191:Int)<b2)=false:=by simp;omega
 have r31n:decide (b3<128)=true:=by simp;omega
 have r31:decide ((b3:Int)<128)=true:=by simp;omega
 go_enter func323,ntmps323;go_wp2
 go_ret2
 exact⟨rfl,HB.out⟩
theorem qrn (W:World)(g off cap:Nat)(b0 b1 b2 b3 x sz i lo hi:Nat)(hL:qgl b0 x sz i lo hi)(hb:b0<256)(hx:x<240)(h0:W.cell? ⟨g,off,none⟩=some (.int .u8 b0))(h01:W.cell? ⟨g,off+1,none⟩=some (.int .u8 b1))(h02:W.cell? ⟨g,off+2,none⟩=some (.int .u8 b2))(h03:W.cell? ⟨g,off+3,none⟩=some (.int .u8 b3))(ht:U8 W)(hs:sz=4)(hq1:¬b1<lo)(hq2:¬hi<b1)(hr1:128≤b2)(hr2:b2≤191)(hr:191<b3):Calls prog 323 #[.slice (some ⟨g,off,none⟩) 4 cap] W fun e W'=>e=.returned (.tuple #[.int .i32 65533,.int .i64 1])∧Below W.heap.size W W':=by
 have h1:=ht.1 b0 hb;rw[hL.fx] at h1;have h2:=hL.fsz;have hws:wrap64 (sz:Int)=sz:=by have:=hL.szlt;unfold wrap64;omega
 obtain⟨a1,a2⟩:=qaA hL ht;have h3:x / 16<16:=by rw[hL.fi];exact hL.flt
 rw[←hL.fi] at a1 a2;have x1:decide (240≤(x:Int))=false:=by simp;omega
 have x2:decide (240≤x)=false:=by simp;omega
 have HB:Hid (Below W.heap.size W (W.alloc (.cells #[.int .u8 lo,.int .u8 hi] 364))):=bwA;have c11:=(World.cell?_alloc_some W ⟨g,off+1,none⟩ (.cells #[.int .u8 lo,.int .u8 hi] 364) (by rw[h01];rfl)).trans h01;have c12:=(World.cell?_alloc_some W ⟨g,off+2,none⟩ (.cells #[.int .u8 lo,.int .u8 hi] 364) (by rw[h02];rfl)).trans h02;have c13:=(World.cell?_alloc_some W ⟨g,off+3,none⟩ (.cells #[.int .u8 lo,.int .u8 hi] 364) (by rw[h03];rfl)).trans h03;have c2:=qab (qac W (.cells #[.int .u8 lo,.int .u8 hi] 364)) 0;have c3:=qab (qac W (.cells #[.int .u8 lo,.int .u8 hi] 364)) 1;have q1:decide (b1<lo)=false:=by simpa using hq1
 have q2:decide (hi<b1)=false:=by simpa using hq2
 subst hs;have r21n:decide (b2<128)=false:=by simp;omega
 have r21:decide ((b2:Int)<128)=false:=by simp;omega
 have r22n:decide (191<b2)=false:=by simp;omega
 have r22:decide ((191:Int)<b2)=false:=by simp;omega
 have r31n:decide (b3<128)=false:=by simp;omega
 have r31:decide ((b3:Int)<128)=false:=by simp;omega
 have r32n:decide (191<b3)=true:=by simp;omega
 have r32:decide ((191:Int)<b3)=true:=by simp;omega
 go_enter func323,ntmps323;go_wp2
 go_ret2
 exact⟨rfl,HB.out⟩
theorem qqR (W:World)(g off cap:Nat)(b0 b1 b2 b3 x sz i lo hi:Nat)(hL:qgl b0 x sz i lo hi)(hb:b0<256)(hx:x<240)(h0:W.cell? ⟨g,off,none⟩=some (.int .u8 b0))(h01:W.cell? ⟨g,off+1,none⟩=some (.int .u8 b1))(h02:W.cell? ⟨g,off+2,none⟩=some (.int .u8 b2))(h03:W.cell? ⟨g,off+3,none⟩=some (.int .u8 b3))(ht:U8 W)(hs:sz=4)(hq1:¬b1<lo)(hq2:¬hi<b1)(hr1:128≤b2)(hr2:b2≤191)(hr3:128≤b3)(hr4:b3≤191):Calls prog 323 #[.slice (some ⟨g,off,none⟩) 4 cap] W fun e W'=>(∃ch,e=.returned (.tuple #[.int .i32 ch,.int .i64 4]))∧Below W.heap.size W W':=by
 have h1:=ht.1 b0 hb;rw[hL.fx] at h1;have h2:=hL.fsz;have hws:wrap64 (sz:Int)=sz:=by have:=hL.szlt;unfold wrap64;omega
 obtain⟨a1,a2⟩:=qaA hL ht;have h3:x / 16<16:=by rw[hL.fi];exact hL.flt
 rw[←hL.fi] at a1 a2;have x1:decide (240≤(x:Int))=false:=by simp;omega
 have x2:decide (240≤x)=false:=by simp;omega
 have HB:Hid (Below W.heap.size W (W.alloc (.cells #[.int .u8 lo,.int .u8 hi] 364))):=bwA;have c11:=(World.cell?_alloc_some W ⟨g,off+1,none⟩ (.cells #[.int .u8 lo,.int .u8 hi] 364) (by rw[h01];rfl)).trans h01;have c12:=(World.cell?_alloc_some W ⟨g,off+2,none⟩ (.cells #[.int .u8 lo,.int .u8 hi] 364) (by rw[h02];rfl)).trans h02;have c13:=(World.cell?_alloc_some W ⟨g,off+3,none⟩ (.cells #[.int .u8 lo,.int .u8 hi] 364) (by rw[h03];rfl)).trans h03;have c2:=qab (qac W (.cells #[.int .u8 lo,.int .u8 hi] 364)) 0;have c3:=qab (qac W (.cells #[.int .u8 lo,.int .u8 hi] 364)) 1;have q1:decide (b1<lo)=false:=by simpa using hq1
 have q2:decide (hi<b1)=false:=by simpa using hq2
 subst hs;have r21n:decide (b2<128)=false:=by simp;omega
 have r21:decide ((b2:Int)<128)=false:=by simp;omega
 have r22n:decide (191<b2)=false:=by simp;omega
 have r22:decide ((191:Int)<b2)=false:=by simp;omega
 have r31n:decide (b3<128)=false:=by simp;omega
 have r31:decide ((b3:Int)<128)=false:=by simp;omega
 have r32n:decide (191<b3)=false:=by simp;omega
 have r32:decide ((191:Int)<b3)=false:=by simp;omega
 go_enter func323,ntmps323;go_wp2
 go_ret2
 exact⟨⟨_,rfl⟩,HB.out⟩
theorem qoB (W:World)(g off cap n:Nat)(b0:Nat)(hx:firstT b0=241)(hb:b0<256)(hn:1≤n)(h0:W.cell? ⟨g,off,none⟩=some (.int .u8 b0))(ht:U8 W):Calls prog 323 #[.slice (some ⟨g,off,none⟩) n cap] W fun e W'=>e=.returned (.tuple #[.int .i32 65533,.int .i64 1])∧W'=W:=by
 have h1:=ht.1 b0 hb;rw[hx] at h1;have hd:=Utf8W.drop_byte ⟨b0,hb⟩;have HD:Hid (bits .or .i32 (bits .andNot .i32 (b0:Int) (-1)) (bits .and .i32 65533 (-1))=65533):=hd;have e0:decide ((n:Int)<1)=false:=by simp;omega
 have e0n:decide (n<1)=false:=by simp;omega
 have HM:Hid (wrap32 517543559168 / 2147483648 = -1):=by
  show _=_;unfold wrap32;decide
 go_enter func323,ntmps323;go_wp2
 go_ret2
 refine⟨?_,rfl⟩;show Ending.returned (.tuple #[.int .i32 (bits .or .i32 (bits .andNot .i32 (b0:Int) (wrap32 517543559168 / 2147483648)) (bits .and .i32 65533 (wrap32 517543559168 / 2147483648))),.int .i64 1])=_;rw[HM.out,HD.out]
theorem qff (W:World)(g off cap n:Nat)(b0:Nat)(hb:b0<128)(hn:1≤n)(h0:W.cell? ⟨g,off,none⟩=some (.int .u8 b0)):Calls prog 316 #[.slice (some ⟨g,off,none⟩) n cap] W fun e W'=>e=.returned (.tuple #[.int .i32 b0,.int .i64 1])∧W'=W:=by
 have e0:decide (0<n)=true:=by simp;omega
 have e0i:decide (0<(n:Int))=true:=by simp;omega
 have e1:decide ((b0:Int)<128)=true:=by simp;omega
 have e1n:decide (b0<128)=true:=by simpa using hb
 go_enter func316,ntmps316;go_wp2;refine wp_loop_rounds 1 ?_;rw[rounds_succ];go_wp2
 go_ret2
 exact⟨rfl,rfl⟩
theorem qde (W:World)(g off cap n:Nat)(b0:Nat)(hb:128≤b0)(hn:1≤n)(h0:W.cell? ⟨g,off,none⟩=some (.int .u8 b0))(R:Int→Int→World→Prop)(cS:Calls prog 323 #[.slice (some ⟨g,off,none⟩) n cap] W fun e W'=>∃ch sz,e=.returned (.tuple #[.int .i32 ch,.int .i64 sz])∧R ch sz W'):Calls prog 316 #[.slice (some ⟨g,off,none⟩) n cap] W fun e W'=>∃ch sz,e=.returned (.tuple #[.int .i32 ch,.int .i64 sz])∧R ch sz W':=by
 have e0:decide (0<n)=true:=by simp;omega
 have e0i:decide (0<(n:Int))=true:=by simp;omega
 have e1:decide ((b0:Int)<128)=false:=by simp;omega
 have e1n:decide (b0<128)=false:=by simp;omega
 go_enter func316,ntmps316;go_wp2;refine wp_loop_rounds 1 ?_;rw[rounds_succ]
 go_wp2_with (first
  |(go_at_call 323;refine cS.mono ?_;rintro e w2 ⟨ch,sz,rfl,hR⟩))
 go_ret2
 exact⟨ch,sz,rfl,hR⟩
end
end Go.Proofs.YtllcbnfmihfaaaaGreatDoor
