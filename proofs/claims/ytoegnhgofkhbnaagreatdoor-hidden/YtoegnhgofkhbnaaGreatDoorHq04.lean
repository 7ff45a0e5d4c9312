import Derived.Laws.CopyRow
import Derived.Laws.MakeOwn
import Derived.BigCall
import Derived.Maps.AppendAt
import Derived.RangeFuncBox
import Derived.Lib.AppendStr
import Derived.DeepKeys5
import Derived.Maps.Keyed
import Derived.Lib.IndexLaws
import Derived.Lib.IndexMore
import Derived.RangeFuncBound
import Derived.RangeFuncCalls
import Derived.RangeFuncLeaves
import Derived.Shelf.Abstract
import Derived.OwnWalkIn
import Derived.TacticsInMore
import Derived.LoopNIn
import Derived.LoopIn
import Derived.Sort.LoopGhostIn
import Derived.Lib.Strings
import Derived.Lib.IndexBytes
import Derived.Test.YtoegnhgofkhbnaaGreatDoorHq03
set_option maxRecDepth 100000
set_option maxHeartbeats 8000000
set_option linter.all false
namespace Go.Proofs.YtoegnhgofkhbnaaGreatDoor
open Go.Proofs.Tryz
open Go.Value renaming int->A7,slice->A8,pointer->A9,string->Aa,bool->Ad
open Go.Obj renaming cells->Af
open Go.Ending renaming returned->Ag
open Go.IntKind renaming i64->Ah,u8->Ai
open Option renaming some->Aj,none->Ak
open Go renaming World->Al,Value->Am,Calls->An
open Go.Proofs.Tryz renaming prog->Ao
variable{W W' W2:Al}{base e k n p:Nat}{u v v' v2:Am}{xs:List Am}{bs ys zs:A2}{b c:UInt8}{a:A5}{l lim:Int}{X Y:Nat->Nat}{r:ByteArray}
section
open Go.RowKit
def GM(L:List (Int×Int)):List Am:=L.flatMap λe=>[A7 Ah e.1,A7 Ah e.2]
theorem US:∀(L:List (Int×Int)) (i:Nat) (h:i<L.length),(GM L)[i*2]?=Aj (A7 Ah L[i].1)/\(GM L)[i*2+1]?=Aj (A7 Ah L[i].2)
 |[],i,h=>by simp at h
 |e::L,0,_=>⟨rfl,rfl⟩
 |e::L,i+1,h=>by
  have a:=US L i (by simpa using h);have b:(i+1)*2=i*2+2:=by omega
  have c:(i+1)*2+1=i*2+1+2:=by omega
  constructor
  ·show([Value.int Ah e.1,A7 Ah e.2]++GM L)[(i+1)*2]?=_;rw[b,E2 (by simp)];simpa using a.1
  show([Value.int Ah e.1,A7 Ah e.2]++GM L)[(i+1)*2+1]?=_;rw[c,E2 (by simp)];simpa using a.2
theorem aO(A B:List (Int×Int)):GM (A++B)=GM A++GM B:=by simp[GM]
theorem KQ(b off j:Nat):(⟨b,off,Ak⟩:Addr).add j=⟨b,off+j,Ak⟩:=by unfold Addr.add;split<;>simp_all
def bB(x:Nat)(w:Int):Int:=if(w==1)=true then wrap64 (IntKind.i8.wrap x)else if(w==2)=true then wrap64 (IntKind.i16.wrap x)else if(w==4)=true then wrap64 (wrap32 x)else wrap64 x
def Rl(so w:Int)(x:Nat)(pos:Int):Except (Int×Int) Int :=
 if(so==5)=true then .ok (bB x w)else if 9223372036854775807<x then .error (10,pos-1)else if(so==6)=true then .ok (-1-(x:Int))else .ok x
def Rm(bs:A2)(lim:Int):Nat->Nat->Nat->A6 Nat
 |0,p,a=>.ok (a,p)
 |k+1,p,a=>match bs[p]? with
  |none=>.error (9,p)
  |some c=>if(p:Int)=lim then .error (8,p)else Rm bs lim k (p+1) (a*256+c.toNat)
def Nl(u:Nat):Nat:=if u=0 then 4 else if u=1 then 6 else if u=2 then 7 else if u=3 then 8 else if u=4 then 9 else if u=5 then 10 else 0
def bC(c:Nat):Nat×Nat×Nat :=
 if c=244 then(2,0,0)else if c=245 then(3,0,0)else if c=246 then(1,0,0)else
 if Nl (c/32)=0\/27<c%32 then(0,0,0)else if 24<=c%32 then(Nl (c/32),2^(c%32-24),0)else(Nl (c/32),0,c%32)
def Kb:List (Nat×Nat):=[(1,0),(0,0),(2,0),(3,0),(7,1),(7,2),(7,4),(0,0),(0,0),(0,0),(0,0),(0,0),(4,1),(4,2),(4,4),(4,8),(5,1),(5,2),(5,4),(5,8),(0,0),(0,0),(0,0),(0,0),(0,0),(8,1),(8,2),(8,4),(9,2),(9,4),(10,2),(10,4)]
def bD(c:Nat):Nat×Nat×Nat :=
 if c<128 then(4,0,c)else if c<144 then(10,0,c-128)else if c<160 then(9,0,c-144)else if c<192 then(8,0,c-160)else
 if c<224 then((Kb.getD (c-192) (0,0)).1,(Kb.getD (c-192) (0,0)).2,0)else(5,0,18446744073709551360+c)
structure GP(W:World):Prop where
 cb:∀u,u<8->W.cell? ⟨1,u,none⟩=some (.int .i64 (Nl u))
 pk:∀u,u<32->W.cell? ⟨2,u*3,none⟩=some (.int .i64 (Kb.getD u (0,0)).1)/\W.cell? ⟨2,u*3+1,none⟩=some (.int .i64 (Kb.getD u (0,0)).2)/\W.cell? ⟨2,u*3+2,none⟩=some (.int .u64 0)
theorem Tryz.infoU8:(prog.info? 5).map (λi=>(i.zero,i.size,i.bytes))=Aj (Aj (A7 Ai 0),1,1):=by kernel_rfl
def B0(b:UInt8):Am:=A7 Ai b.toNat
theorem E7{e:TypeId}{size:Nat}(c:W.ownsRow base e size v n xs){g:Nat}(h:v.ownBlock=Aj g):base<=g:=by
 rcases c.2 with⟨a,_⟩|⟨i,d,f,rfl,b,_⟩
 ·subst a;cases h
 cases h;exact b
theorem Bf(w:Al)(cs:A4)(t:TypeId):∀(j:Nat) (u:Am),cs.toList[j]?=Aj u->(w.alloc (Af cs t)).cell? ((⟨w.heap.size,0,Ak⟩:Addr).add j)=Aj u:=λj u a=>by
 have e:(⟨w.heap.size,0,Ak⟩:Addr).add j=⟨w.heap.size,j,Ak⟩:=by by_cases h:j=0<;>simp[Addr.add,h]
 rw[e,DL _ _ _ _ _ _ (Ay _ _)];simpa using a
def Av(W:Al)(base:Nat)(v:Am)(bs:A2):Prop:=W.ownsRow base 5 1 v bs.length (bs.map B0)/\base<=W.heap.size/\∃a n c,v=A8 a n c
def AX(x:Nat):Nat->A2
 |0=>[]
 |k+1=>UInt8.ofNat (x/2^(8*k)%256)::AX x k
theorem Vb(x k:Nat):B0 (UInt8.ofNat (x/2^(8*k)%256))=A7 Ai ((x:Int)/2^(8*k)%256):=by
 unfold B0;have e:(UInt8.ofNat (x/2^(8*k)%256)).toNat=x/2^(8*k)%256:=by
  rw[OA];have:x/2^(8*k)%256<256:=R7 _ (by decide);omega
 rw[e];congr 1
theorem Jj(h:W'.ownsRow base 5 1 v' (ys.length+1) (ys.map B0++[u]))(a:B0 b=u):W'.ownsRow base 5 1 v' (ys++[b]).length ((ys++[b]).map B0):=by
 rw[AC,Eg];subst a;exact h
theorem G3{V:Al}{t:TypeId}{z:Nat}(b:Below base W V)(c:V.ownsRow base t z v n xs)(a:V.grownBy W' v.ownBlock)(f:base<=V.heap.size):Below base W W' :=
 b.trans ⟨a.os,a.tape,a.output,a.size,λi d=>a.block i (by omega) (λe=>by have:=E7 c e.symm;omega)⟩
theorem EM(W:Al)(b:Nat)(v:Am)(bs:A2)(x w:Nat)(_hx:x<18446744073709551616)(J:w<=8)(H:bs.length<=1000000000)(h:Av W b v bs):An Ao 166 #[v,A7 .u64 x,A7 Ah w] W λe o=>∃j,e=Ag j/\Av o b j (bs++AX x w)/\Below b W o:=by
 obtain⟨D,s,A,B,C⟩:=BH Tryz.infoU8;obtain⟨t,i,a,n,c,rfl⟩:=h;have f:=Ap t;go_enter func166,ntmps166;go_wp2
 go_loopg[0,7] w (λg y z wr=>∃(d:A2) (a n c:_),y=A8 a n c/\z=A7 Ah ((g:Int)-1)/\g<=w/\d.length<=1000000000+(w-g)/\b<=wr.heap.size/\Hid (wr.ownsRow b 5 1 (A8 a n c) d.length (d.map B0))/\Hid (Below b W wr)/\Hid (d++AX x g=bs++AX x w))
 case atStart=>exact⟨bs,a,n,c,rfl,by go_num,AB _,by omega,i,f,AT _ _,rfl⟩
 case round =>
  obtain⟨d,a,n,c,rfl,rfl,G,K,i,f,l,m⟩:=hrel
  cases gk with
  |zero =>
   go_wp2;go_ret;have e:d=bs++AX x w:=by have:=m.out;simpa[AX]using this
   subst e;exact⟨_,rfl,⟨f,i,_,_,_,rfl⟩,l⟩
  |succ k =>
   go_wp2_with(first
    |(at_builtin;refine Bz _ rfl _ _ 49 rfl b 5 D (A7 Ai 0) 1 1 underlying49 s A B C rfl (by decide) _ _ _ rfl (f.alloc _) ⟨wr.heap.size,0,Ak⟩ 1 1 [A7 Ai ((x:Int)/2^(8*k)%256)] rfl rfl (Bf _ _ _) (λu r=>by simp at r;subst r;rfl) (by unfold maxLen;omega) (by omega) (by simp;omega) ?_;intro j L q p I;obtain⟨F,E,rfl⟩:=ownsRow_succ q))
   go_roundg k
   case measure=>omega
   case rel =>
    refine⟨d++[UInt8.ofNat (x/2^(8*k)%256)],_,_,_,rfl,by go_num,by omega,by rw[AC];simp;omega,?_,Jj q (Vb x k),G3 (l.trans ((AT b wr).alloc i _)) (f.alloc _) p (by simp;omega),?_⟩
    ·have:=p.size;simp at this;omega
    show _=_;have:=m.out;rw[AX]at this;rw[CE];exact this
def Fy(x:Nat):A2 :=
 if x<128 then[UInt8.ofNat x]else if x<=255 then 204::AX x 1 else if x<=65535 then 205::AX x 2 else if x<=4294967295 then 206::AX x 4 else 207::AX x 8
def FO(z:Int):A2 :=
 if -32<=z then[UInt8.ofNat (z%256).toNat]else if -128<=z then 208::AX (z%18446744073709551616).toNat 1 else if -32768<=z then 209::AX (z%18446744073709551616).toNat 2 else if -2147483648<=z then 210::AX (z%18446744073709551616).toNat 4 else 211::AX (z%18446744073709551616).toNat 8
def AO(s x:Nat):A2 :=
 if x<24 then[UInt8.ofNat (32*s+x)]else if x<=255 then UInt8.ofNat (32*s+24)::AX x 1 else if x<=65535 then UInt8.ofNat (32*s+25)::AX x 2 else if x<=4294967295 then UInt8.ofNat (32*s+26)::AX x 4 else UInt8.ofNat (32*s+27)::AX x 8
theorem GQ(x:Nat)(h:x<256):B0 (UInt8.ofNat x)=A7 Ai (x:Int):=by
 unfold B0;rw[OA,I7 (by omega)]
theorem Ct{c:Nat}(g:base<=W.heap.size)(h:W.ownsRow base 5 1 (A8 a n c) bs.length (bs.map B0))(i:B0 b=u)(e:W'.ownsRow base 5 1 v' (bs.length+1) (bs.map B0++[u]))(d:(W.alloc (Obj.cells #[u] 5)).grownBy W' (Value.slice a n c).ownBlock):Av W' base v' (bs++[b])/\Below base W W':=by
 have f:=Jj e i;obtain⟨k,j,rfl⟩:=ownsRow_succ e;refine⟨⟨f,?_,_,_,_,rfl⟩,G3 ((AT base W).alloc g _) (h.alloc _) d (by simp;omega)⟩;have:=d.size;simp at this;omega
theorem E8(h:Av W' base v' (bs++[b])/\Below base W W')(a:Av W2 base v2 ((bs++[b])++ys))(c:Below base W' W2)(e:b::ys=zs):Av W2 base v2 (bs++zs)/\Below base W W2:=by
 subst e;refine⟨?_,h.2.trans c⟩;rw[CE]at a;exact a
theorem bR(W:Al)(b:Nat)(v:Am)(bs:A2)(x:Nat)(Q:x<18446744073709551616)(P:bs.length<=999999999)(h:Av W b v bs):An Ao 144 #[v,A7 .u64 x] W λe M=>∃y,e=Ag y/\Av M b y (bs++Fy x)/\Below b W M:=by
 obtain⟨F,B,C,D,E⟩:=BH Tryz.infoU8;obtain⟨O,A,a,n,c,rfl⟩:=h;have j:=Ap O;by_cases z:x<128
 ·have l:Hid (Fy x=UInt8.ofNat x::[]):=by show _=_;unfold Fy;rw[As z]
  go_enter func144,ntmps144
  go_wp2_with(first
    |(at_builtin;refine Bz _ rfl _ _ 49 rfl b 5 F (A7 Ai 0) 1 1 underlying49 B C D E rfl (by decide) _ _ _ rfl (j.alloc _) ⟨W.heap.size,0,Ak⟩ 1 1 [A7 Ai (x:Int)] rfl rfl (Bf _ _ _) (λu f=>by simp at f;subst f;rfl) (by unfold maxLen;omega) (by omega) (by simp;omega) ?_;intro y g d k J;obtain⟨I,H,rfl⟩:=ownsRow_succ d;have i:Hid (Av g b _ (bs++[UInt8.ofNat x])/\Below b W g):=Ct A j (GQ _ (by omega)) d k))
  go_ret;rw[l.out];exact⟨_,rfl,i⟩
 skip
 by_cases G:x<=255
 ·have l:Hid (Fy x=204::AX x 1):=by show _=_;unfold Fy;rw[Aq z];rw[As G]
  go_enter func144,ntmps144
  go_wp2_with(first
    |(at_builtin;refine Bz _ rfl _ _ 49 rfl b 5 F (A7 Ai 0) 1 1 underlying49 B C D E rfl (by decide) _ _ _ rfl (j.alloc _) ⟨W.heap.size,0,Ak⟩ 1 1 [A7 Ai 204] rfl rfl (Bf _ _ _) (λu f=>by simp at f;subst f;rfl) (by unfold maxLen;omega) (by omega) (by simp;omega) ?_;intro y g d k J;obtain⟨I,H,rfl⟩:=ownsRow_succ d;have i:Hid (Av g b _ (bs++[204])/\Below b W g):=Ct A j (rfl) d k)
    |(go_at_call 166;refine(EM _ b _ _ (x) 1 (by omega) (by omega) (by simp;omega) i.1).mono ?_;rintro e L ⟨K,rfl,q,t⟩;obtain⟨r,s,o,w,p,rfl⟩:=q;have m:=Ap (E8 i ⟨r,s,o,w,p,rfl⟩ t (l.out.symm))))
  go_ret;exact⟨_,rfl,m⟩
 skip
 by_cases c2:x<=65535
 ·have l:Hid (Fy x=205::AX x 2):=by show _=_;unfold Fy;rw[Aq z];rw[Aq G];rw[As c2]
  go_enter func144,ntmps144
  go_wp2_with(first
    |(at_builtin;refine Bz _ rfl _ _ 49 rfl b 5 F (A7 Ai 0) 1 1 underlying49 B C D E rfl (by decide) _ _ _ rfl (j.alloc _) ⟨W.heap.size,0,Ak⟩ 1 1 [A7 Ai 205] rfl rfl (Bf _ _ _) (λu f=>by simp at f;subst f;rfl) (by unfold maxLen;omega) (by omega) (by simp;omega) ?_;intro y g d k J;obtain⟨I,H,rfl⟩:=ownsRow_succ d;have i:Hid (Av g b _ (bs++[205])/\Below b W g):=Ct A j (rfl) d k)
    |(go_at_call 166;refine(EM _ b _ _ (x) 2 (by omega) (by omega) (by simp;omega) i.1).mono ?_;rintro e L ⟨K,rfl,q,t⟩;obtain⟨r,s,o,w,p,rfl⟩:=q;have m:=Ap (E8 i ⟨r,s,o,w,p,rfl⟩ t (l.out.symm))))
  go_ret;exact⟨_,rfl,m⟩
 skip
 by_cases N:x<=4294967295
 ·have l:Hid (Fy x=206::AX x 4):=by show _=_;unfold Fy;rw[Aq z];rw[Aq G];rw[Aq c2];rw[As N]
  go_enter func144,ntmps144
  go_wp2_with(first
    |(at_builtin;refine Bz _ rfl _ _ 49 rfl b 5 F (A7 Ai 0) 1 1 underlying49 B C D E rfl (by decide) _ _ _ rfl (j.alloc _) ⟨W.heap.size,0,Ak⟩ 1 1 [A7 Ai 206] rfl rfl (Bf _ _ _) (λu f=>by simp at f;subst f;rfl) (by unfold maxLen;omega) (by omega) (by simp;omega) ?_;intro y g d k J;obtain⟨I,H,rfl⟩:=ownsRow_succ d;have i:Hid (Av g b _ (bs++[206])/\Below b W g):=Ct A j (rfl) d k)
    |(go_at_call 166;refine(EM _ b _ _ (x) 4 (by omega) (by omega) (by simp;omega) i.1).mono ?_;rintro e L ⟨K,rfl,q,t⟩;obtain⟨r,s,o,w,p,rfl⟩:=q;have m:=Ap (E8 i ⟨r,s,o,w,p,rfl⟩ t (l.out.symm))))
  go_ret;exact⟨_,rfl,m⟩
 skip
 have l:Hid (Fy x=207::AX x 8):=by show _=_;unfold Fy;rw[Aq z];rw[Aq G];rw[Aq c2];rw[Aq N]
 go_enter func144,ntmps144
 go_wp2_with(first
   |(at_builtin;refine Bz _ rfl _ _ 49 rfl b 5 F (A7 Ai 0) 1 1 underlying49 B C D E rfl (by decide) _ _ _ rfl (j.alloc _) ⟨W.heap.size,0,Ak⟩ 1 1 [A7 Ai 207] rfl rfl (Bf _ _ _) (λu f=>by simp at f;subst f;rfl) (by unfold maxLen;omega) (by omega) (by simp;omega) ?_;intro y g d k J;obtain⟨I,H,rfl⟩:=ownsRow_succ d;have i:Hid (Av g b _ (bs++[207])/\Below b W g):=Ct A j (rfl) d k)
   |(go_at_call 166;refine(EM _ b _ _ (x) 8 (by omega) (by omega) (by simp;omega) i.1).mono ?_;rintro e L ⟨K,rfl,q,t⟩;obtain⟨r,s,o,w,p,rfl⟩:=q;have m:=Ap (E8 i ⟨r,s,o,w,p,rfl⟩ t (l.out.symm))))
 go_ret;exact⟨_,rfl,m⟩
theorem bS:∀(s:Fin 8) (x:Fin 32),bits .or Ai ((s.val:Int)*32) (x.val:Int)=((32*s.val+x.val:Nat):Int):=by decide
theorem Nn(s x:Nat)(a:s<8)(b:x<32):B0 (UInt8.ofNat (32*s+x))=A7 Ai (bits .or Ai ((s:Int)*32) (x:Int)):=by
 rw[GQ _ (by omega)];have:=bS ⟨s,a⟩ ⟨x,b⟩;simp only[]at this;rw[this]
theorem Jk(W:Al)(b:Nat)(v:Am)(bs:A2)(s x:Nat)(D:s<8)(S:x<18446744073709551616)(R:bs.length<=999999999)(h:Av W b v bs):An Ao 141 #[v,A7 Ai s,A7 .u64 x] W λe O=>∃z,e=Ag z/\Av O b z (bs++AO s x)/\Below b W O:=by
 obtain⟨H,C,E,F,G⟩:=BH Tryz.infoU8;obtain⟨Q,B,a,n,c,rfl⟩:=h;have j:=Ap Q;by_cases A:x<24
 ·have l:Hid (AO s x=UInt8.ofNat (32*s+x)::[]):=by show _=_;unfold AO;rw[As A]
  go_enter func141,ntmps141
  go_wp2_with(first
    |(at_builtin;refine Bz _ rfl _ _ 49 rfl b 5 H (A7 Ai 0) 1 1 underlying49 C E F G rfl (by decide) _ _ _ rfl (j.alloc _) ⟨W.heap.size,0,Ak⟩ 1 1 [A7 Ai (bits .or Ai ((s:Int)*32) (x:Int))] rfl rfl (Bf _ _ _) (λu f=>by simp at f;subst f;rfl) (by unfold maxLen;omega) (by omega) (by simp;omega) ?_;intro z g d k L;obtain⟨K,J,rfl⟩:=ownsRow_succ d;have i:Hid (Av g b _ (bs++[UInt8.ofNat (32*s+x)])/\Below b W g):=Ct B j (Nn s _ D (by omega)) d k))
  go_ret;rw[l.out];exact⟨_,rfl,i⟩
 skip
 by_cases I:x<=255
 ·have l:Hid (AO s x=UInt8.ofNat (32*s+24)::AX x 1):=by show _=_;unfold AO;rw[Aq A];rw[As I]
  go_enter func141,ntmps141
  go_wp2_with(first
    |(at_builtin;refine Bz _ rfl _ _ 49 rfl b 5 H (A7 Ai 0) 1 1 underlying49 C E F G rfl (by decide) _ _ _ rfl (j.alloc _) ⟨W.heap.size,0,Ak⟩ 1 1 [A7 Ai (bits .or Ai ((s:Int)*32) 24)] rfl rfl (Bf _ _ _) (λu f=>by simp at f;subst f;rfl) (by unfold maxLen;omega) (by omega) (by simp;omega) ?_;intro z g d k L;obtain⟨K,J,rfl⟩:=ownsRow_succ d;have i:Hid (Av g b _ (bs++[UInt8.ofNat (32*s+24)])/\Below b W g):=Ct B j (Nn s _ D (by omega)) d k)
    |(go_at_call 166;refine(EM _ b _ _ (x) 1 (by omega) (by omega) (by simp;omega) i.1).mono ?_;rintro e N ⟨M,rfl,q,w⟩;obtain⟨r,t,o,y,p,rfl⟩:=q;have m:=Ap (E8 i ⟨r,t,o,y,p,rfl⟩ w (l.out.symm))))
  go_ret;exact⟨_,rfl,m⟩
 skip
 by_cases c2:x<=65535
 ·have l:Hid (AO s x=UInt8.ofNat (32*s+25)::AX x 2):=by show _=_;unfold AO;rw[Aq A];rw[Aq I];rw[As c2]
  go_enter func141,ntmps141
  go_wp2_with(first
    |(at_builtin;refine Bz _ rfl _ _ 49 rfl b 5 H (A7 Ai 0) 1 1 underlying49 C E F G rfl (by decide) _ _ _ rfl (j.alloc _) ⟨W.heap.size,0,Ak⟩ 1 1 [A7 Ai (bits .or Ai ((s:Int)*32) 25)] rfl rfl (Bf _ _ _) (λu f=>by simp at f;subst f;rfl) (by unfold maxLen;omega) (by omega) (by simp;omega) ?_;intro z g d k L;obtain⟨K,J,rfl⟩:=ownsRow_succ d;have i:Hid (Av g b _ (bs++[UInt8.ofNat (32*s+25)])/\Below b W g):=Ct B j (Nn s _ D (by omega)) d k)
    |(go_at_call 166;refine(EM _ b _ _ (x) 2 (by omega) (by omega) (by simp;omega) i.1).mono ?_;rintro e N ⟨M,rfl,q,w⟩;obtain⟨r,t,o,y,p,rfl⟩:=q;have m:=Ap (E8 i ⟨r,t,o,y,p,rfl⟩ w (l.out.symm))))
  go_ret;exact⟨_,rfl,m⟩
 skip
 by_cases P:x<=4294967295
 ·have l:Hid (AO s x=UInt8.ofNat (32*s+26)::AX x 4):=by show _=_;unfold AO;rw[Aq A];rw[Aq I];rw[Aq c2];rw[As P]
  go_enter func141,ntmps141
  go_wp2_with(first
    |(at_builtin;refine Bz _ rfl _ _ 49 rfl b 5 H (A7 Ai 0) 1 1 underlying49 C E F G rfl (by decide) _ _ _ rfl (j.alloc _) ⟨W.heap.size,0,Ak⟩ 1 1 [A7 Ai (bits .or Ai ((s:Int)*32) 26)] rfl rfl (Bf _ _ _) (λu f=>by simp at f;subst f;rfl) (by unfold maxLen;omega) (by omega) (by simp;omega) ?_;intro z g d k L;obtain⟨K,J,rfl⟩:=ownsRow_succ d;have i:Hid (Av g b _ (bs++[UInt8.ofNat (32*s+26)])/\Below b W g):=Ct B j (Nn s _ D (by omega)) d k)
    |(go_at_call 166;refine(EM _ b _ _ (x) 4 (by omega) (by omega) (by simp;omega) i.1).mono ?_;rintro e N ⟨M,rfl,q,w⟩;obtain⟨r,t,o,y,p,rfl⟩:=q;have m:=Ap (E8 i ⟨r,t,o,y,p,rfl⟩ w (l.out.symm))))
  go_ret;exact⟨_,rfl,m⟩
 skip
 have l:Hid (AO s x=UInt8.ofNat (32*s+27)::AX x 8):=by show _=_;unfold AO;rw[Aq A];rw[Aq I];rw[Aq c2];rw[Aq P]
 go_enter func141,ntmps141
 go_wp2_with(first
   |(at_builtin;refine Bz _ rfl _ _ 49 rfl b 5 H (A7 Ai 0) 1 1 underlying49 C E F G rfl (by decide) _ _ _ rfl (j.alloc _) ⟨W.heap.size,0,Ak⟩ 1 1 [A7 Ai (bits .or Ai ((s:Int)*32) 27)] rfl rfl (Bf _ _ _) (λu f=>by simp at f;subst f;rfl) (by unfold maxLen;omega) (by omega) (by simp;omega) ?_;intro z g d k L;obtain⟨K,J,rfl⟩:=ownsRow_succ d;have i:Hid (Av g b _ (bs++[UInt8.ofNat (32*s+27)])/\Below b W g):=Ct B j (Nn s _ D (by omega)) d k)
   |(go_at_call 166;refine(EM _ b _ _ (x) 8 (by omega) (by omega) (by simp;omega) i.1).mono ?_;rintro e N ⟨M,rfl,q,w⟩;obtain⟨r,t,o,y,p,rfl⟩:=q;have m:=Ap (E8 i ⟨r,t,o,y,p,rfl⟩ w (l.out.symm))))
 go_ret;exact⟨_,rfl,m⟩
end
section
open Go.RowKit Go.Lib
theorem bT(l:A2):strCells ⟨l.toArray⟩=l.map B0:=by
 unfold strCells;simp[B0]
theorem IG{l:A2}(h:Av W base v bs)(a:W'.ownsRow base 5 1 v' (bs.length+(⟨l.toArray⟩:ByteArray).size) (bs.map B0++strCells ⟨l.toArray⟩))(d:W.grownBy W' v.ownBlock):Av W' base v' (bs++l)/\Below base W W':=by
 obtain⟨f,c,_⟩:=h;have b:=G3 (AT base W) f d c;have i:(⟨l.toArray⟩:ByteArray).size=l.length:=FY ..;rw[i,bT]at a;refine⟨⟨by rw[AC,Eg];exact a,AW c b.size,?_⟩,b⟩;rcases a.2 with⟨e,_⟩|⟨g,j,k,e,_⟩
 ·exact⟨Ak,0,0,e⟩
 exact⟨_,_,_,e⟩
theorem bU(W:Al)(b:Nat)(v:Am)(bs l:A2)(y:bs.length<=999999999)(J:l.length<=999999999)(h:Av W b v bs):An Ao 142 #[v,Aa ⟨l.toArray⟩] W λe f=>∃d,e=Ag d/\Av f b d (bs++(AO 3 l.length++l))/\Below b W f:=by
 obtain⟨D,w,A,B,C⟩:=BH Tryz.infoU8;have q:An Ao 141 #[v,A7 Ai 3,A7 .u64 l.length] W λe f=>∃d,e=Ag d/\Av f b d (bs++AO 3 l.length)/\Below b W f:=Jk W b v bs 3 l.length (by decide) (by omega) y h;have I:(AO 3 l.length).length<=9:=by
  unfold AO;have t:∀x k,(AX x k).length=k:=λx k=>by induction k with|zero=>rfl|succ k E=>rw[AX,Bq,E]
  repeat' split
  all_goals simp[t]
 have j:(⟨l.toArray⟩:ByteArray).size=l.length:=FY ..;obtain⟨_,_,a,n,c,rfl⟩:=h;go_enter func142,ntmps142
 go_wp2_with(first
  |(go_at_call 141;refine q.mono ?_;rintro e H ⟨L,rfl,r,s⟩;obtain⟨G,p,o,F,c2,rfl⟩:=r;have i:Hid (Av H b (A8 o F c2) (bs++AO 3 l.length)):=⟨G,p,_,_,_,rfl⟩;have m:=Ap s)
  |(at_builtin;refine wpList_append_own_string _ rfl _ _ 49 9 rfl b 5 D underlying49 underlying9 w A B C _ _ _ rfl i.1 ⟨l.toArray⟩ rfl (by rw[j,AC];unfold maxLen;omega) (by rw[j,AC];omega) i.2.1 ?_;intro d M z u K;have g:=Ap (IG i z u)))
 go_ret;rw[CE]at g;exact⟨_,rfl,g.1,m.trans g.2⟩
def C6(x:Nat):A2:=if x<32 then[UInt8.ofNat (160+x)]else if x<=255 then 217::AX x 1 else if x<=65535 then 218::AX x 2 else 219::AX x 4
theorem Vc:∀x:Fin 32,bits .or Ai 160 (x.val:Int)=((160+x.val:Nat):Int):=by decide
theorem bV(W:Al)(b:Nat)(v:Am)(bs:A2)(x:Nat)(S:x<4294967296)(R:bs.length<=999999999)(h:Av W b v bs):An Ao 167 #[v,A7 .u64 x] W λe K=>∃j,e=Ag j/\Av K b j (bs++C6 x)/\Below b W K:=by
 obtain⟨E,A,B,C,D⟩:=BH Tryz.infoU8;obtain⟨Q,z,a,n,c,rfl⟩:=h;have k:=Ap Q;by_cases q:x<32
 ·have m:Hid (C6 x=[UInt8.ofNat (160+x)]):=by show _=_;unfold C6;rw[As q]
  have L:=Vc ⟨x,q⟩;simp only[]at L;have O:Hid (B0 (UInt8.ofNat (160+x))=A7 Ai (bits .or Ai 160 (x:Int))):=by show _=_;rw[L,GQ _ (by omega)]
  have P:Hid (B0 (UInt8.ofNat (160+x))=A7 Ai (160+(x:Int))):=by show _=_;rw[GQ _ (by omega)];simp
  go_enter func167,ntmps167
  go_wp2_with(first
   |(at_builtin;refine Bz _ rfl _ _ 49 rfl b 5 E (A7 Ai 0) 1 1 underlying49 A B C D rfl (by decide) _ _ _ rfl (k.alloc _) ⟨W.heap.size,0,Ak⟩ 1 1 [A7 Ai (bits .or Ai 160 (x:Int))] rfl rfl (Bf _ _ _) (λu f=>by simp at f;subst f;rfl) (by unfold maxLen;omega) (by omega) (by simp;omega) ?_;intro j g d l I;have i:=Ap (Ct z k O d l);obtain⟨H,G,rfl⟩:=ownsRow_succ d)
   |(at_builtin;refine Bz _ rfl _ _ 49 rfl b 5 E (A7 Ai 0) 1 1 underlying49 A B C D rfl (by decide) _ _ _ rfl (k.alloc _) ⟨W.heap.size,0,Ak⟩ 1 1 [A7 Ai (160+(x:Int))] rfl rfl (Bf _ _ _) (λu f=>by simp at f;subst f;rfl) (by unfold maxLen;omega) (by omega) (by simp;omega) ?_;intro j g d l I;have i:Hid (Av g b j (bs++[UInt8.ofNat (160+x)])/\Below b W g):=Ct z k P d l;obtain⟨H,G,rfl⟩:=ownsRow_succ d))
  go_ret;rw[m.out];exact⟨_,rfl,i⟩
 by_cases J:x<=255
 ·have m:Hid (C6 x=217::AX x 1):=by show _=_;unfold C6;rw[Aq q];rw[As J]
  go_enter func167,ntmps167
  go_wp2_with(first
   |(at_builtin;refine Bz _ rfl _ _ 49 rfl b 5 E (A7 Ai 0) 1 1 underlying49 A B C D rfl (by decide) _ _ _ rfl (k.alloc _) ⟨W.heap.size,0,Ak⟩ 1 1 [A7 Ai 217] rfl rfl (Bf _ _ _) (λu f=>by simp at f;subst f;rfl) (by unfold maxLen;omega) (by omega) (by simp;omega) ?_;intro j g d l I;have i:Hid (Av g b j (bs++[217])/\Below b W g):=Ct z k rfl d l;obtain⟨H,G,rfl⟩:=ownsRow_succ d)
   |(go_at_call 166;refine(EM _ b _ _ x 1 (by omega) (by omega) (by simp;omega) i.1).mono ?_;rintro e N ⟨M,rfl,s,y⟩;obtain⟨t,w,p,F,r,rfl⟩:=s;have o:=Ap (E8 i ⟨t,w,p,F,r,rfl⟩ y (m.out.symm))))
  go_ret;exact⟨_,rfl,o⟩
 by_cases c2:x<=65535
 ·have m:Hid (C6 x=218::AX x 2):=by show _=_;unfold C6;rw[Aq q];rw[Aq J];rw[As c2]
  go_enter func167,ntmps167
  go_wp2_with(first
   |(at_builtin;refine Bz _ rfl _ _ 49 rfl b 5 E (A7 Ai 0) 1 1 underlying49 A B C D rfl (by decide) _ _ _ rfl (k.alloc _) ⟨W.heap.size,0,Ak⟩ 1 1 [A7 Ai 218] rfl rfl (Bf _ _ _) (λu f=>by simp at f;subst f;rfl) (by unfold maxLen;omega) (by omega) (by simp;omega) ?_;intro j g d l I;have i:Hid (Av g b j (bs++[218])/\Below b W g):=Ct z k rfl d l;obtain⟨H,G,rfl⟩:=ownsRow_succ d)
   |(go_at_call 166;refine(EM _ b _ _ x 2 (by omega) (by omega) (by simp;omega) i.1).mono ?_;rintro e N ⟨M,rfl,s,y⟩;obtain⟨t,w,p,F,r,rfl⟩:=s;have o:=Ap (E8 i ⟨t,w,p,F,r,rfl⟩ y (m.out.symm))))
  go_ret;exact⟨_,rfl,o⟩
 have m:Hid (C6 x=219::AX x 4):=by show _=_;unfold C6;rw[Aq q];rw[Aq J];rw[Aq c2]
 go_enter func167,ntmps167
 go_wp2_with(first
  |(at_builtin;refine Bz _ rfl _ _ 49 rfl b 5 E (A7 Ai 0) 1 1 underlying49 A B C D rfl (by decide) _ _ _ rfl (k.alloc _) ⟨W.heap.size,0,Ak⟩ 1 1 [A7 Ai 219] rfl rfl (Bf _ _ _) (λu f=>by simp at f;subst f;rfl) (by unfold maxLen;omega) (by omega) (by simp;omega) ?_;intro j g d l I;have i:Hid (Av g b j (bs++[219])/\Below b W g):=Ct z k rfl d l;obtain⟨H,G,rfl⟩:=ownsRow_succ d)
  |(go_at_call 166;refine(EM _ b _ _ x 4 (by omega) (by omega) (by simp;omega) i.1).mono ?_;rintro e N ⟨M,rfl,s,y⟩;obtain⟨t,w,p,F,r,rfl⟩:=s;have o:=Ap (E8 i ⟨t,w,p,F,r,rfl⟩ y (m.out.symm))))
 go_ret;exact⟨_,rfl,o⟩
theorem bW(W:Al)(b:Nat)(v:Am)(bs l:A2)(y:bs.length<=999999999)(J:l.length<=999999999)(h:Av W b v bs):An Ao 145 #[v,Aa ⟨l.toArray⟩] W λe i=>∃g,e=Ag g/\Av i b g (bs++(C6 l.length++l))/\Below b W i:=by
 obtain⟨D,w,A,B,C⟩:=BH Tryz.infoU8;have q:=bV W b v bs l.length (by omega) y h;have I:(C6 l.length).length<=9:=by
  unfold C6;have t:∀x k,(AX x k).length=k:=λx k=>by induction k with|zero=>rfl|succ k E=>rw[AX,Bq,E]
  repeat' split
  all_goals simp[t]
 have j:(⟨l.toArray⟩:ByteArray).size=l.length:=FY ..;obtain⟨_,_,a,n,c,rfl⟩:=h;go_enter func145,ntmps145
 go_wp2_with(first
  |(go_at_call 167;refine q.mono ?_;rintro e H ⟨L,rfl,r,s⟩;obtain⟨G,p,o,F,c2,rfl⟩:=r;have f:Hid (Av H b (A8 o F c2) (bs++C6 l.length)):=⟨G,p,_,_,_,rfl⟩;have m:=Ap s)
  |(at_builtin;refine wpList_append_own_string _ rfl _ _ 49 9 rfl b 5 D underlying49 underlying9 w A B C _ _ _ rfl f.1 ⟨l.toArray⟩ rfl (by rw[j,AC];unfold maxLen;omega) (by rw[j,AC];omega) f.2.1 ?_;intro g M z u K;have d:=Ap (IG f z u)))
 go_ret;rw[CE]at d;exact⟨_,rfl,d.1,m.trans d.2⟩
def DO(W:Al)(base e:Nat)(v:Am)(bs:A2):Prop:=Av W base v bs/\v.ownBlock≠Aj e/\e<W.heap.size
def E9(base e:Nat)(W W':Al):Prop:=Below base W W'/\W'.heap[e]?=W.heap[e]?
theorem E9.trans{A B C:Al}(h:E9 base e A B)(k:E9 base e B C):E9 base e A C:=⟨h.1.trans k.1,k.2.trans h.2⟩
theorem Id{c:Nat}(h:DO W base e (A8 a n c) bs)(p:B0 b=u)(m:W'.ownsRow base 5 1 v' (bs.length+1) (bs.map B0++[u]))(f:(W.alloc (Obj.cells #[u] 5)).grownBy W' (Value.slice a n c).ownBlock)(d:v'.ownBlock=(Value.slice a n c).ownBlock\/v'.ownBlock=Aj (W.alloc (Obj.cells #[u] 5)).heap.size):DO W' base e v' (bs++[b])/\E9 base e W W':=by
 obtain⟨⟨l,j,_⟩,i,k⟩:=h;have g:=Ct j l p m f;have o:=f.size;simp at o;refine⟨⟨g.1,?_,by omega⟩,g.2,?_⟩
 ·rcases d with d|d
  ·rw[d];exact i
  rw[d];simp;omega
 rw[f.block e (by simp;omega) (λx=>i x.symm)];exact((AT W.heap.size W).alloc (AB _) _).block e k
theorem LY(h:DO W' base e v' (bs++[b])/\E9 base e W W')(a:DO W2 base e v2 ((bs++[b])++ys))(c:E9 base e W' W2)(k:b::ys=zs):DO W2 base e v2 (bs++zs)/\E9 base e W W2:=by
 subst k;refine⟨?_,h.2.trans c⟩;rw[CE]at a;exact a
theorem LZ(W:Al)(d e:Nat)(v:Am)(bs:A2)(x w:Nat)(_hx:x<18446744073709551616)(L:w<=8)(J:bs.length<=1000000000)(h:DO W d e v bs):An Ao 166 #[v,A7 .u64 x,A7 Ah w] W λr o=>∃i,r=Ag i/\DO o d e i (bs++AX x w)/\E9 d e W o:=by
 obtain⟨E,A,B,C,D⟩:=BH Tryz.infoU8;obtain⟨a,n,c,rfl⟩:=h.1.2.2;have b:=Ap h;go_enter func166,ntmps166;go_wp2
 go_loopg[0,7] w (λg y z wr=>∃(f:A2) (a n c:_),y=A8 a n c/\z=A7 Ah ((g:Int)-1)/\g<=w/\f.length<=1000000000+(w-g)/\Hid (DO wr d e (A8 a n c) f)/\Hid (E9 d e W wr)/\Hid (f++AX x g=bs++AX x w))
 case atStart=>exact⟨bs,a,n,c,rfl,by go_num,AB _,by omega,b,⟨AT _ _,rfl⟩,rfl⟩
 case round =>
  obtain⟨f,a,n,c,rfl,rfl,I,M,b,j,l⟩:=hrel;have H:=b.1.2.1
  cases gk with
  |zero =>
   go_wp2;go_ret;have k:f=bs++AX x w:=by have:=l.out;simpa[AX]using this
   subst k;exact⟨_,rfl,b,j⟩
  |succ k =>
   go_wp2_with(first
    |(at_builtin;refine I5 _ rfl _ _ 49 rfl d 5 E (A7 Ai 0) 1 1 underlying49 A B C D rfl (by decide) _ _ _ rfl (b.1.1.alloc _) ⟨wr.heap.size,0,Ak⟩ 1 1 [A7 Ai ((x:Int)/2^(8*k)%256)] rfl rfl (Bf _ _ _) (λu q=>by simp at q;subst q;rfl) (by unfold maxLen;omega) (by omega) (by simp;omega) ?_;intro i N p t K s;have m:=Ap (Id b (Vb x k) p t s);obtain⟨G,F,rfl⟩:=ownsRow_succ p))
   go_roundg k
   case measure=>omega
   case rel =>
    refine⟨f++[UInt8.ofNat (x/2^(8*k)%256)],_,_,_,rfl,by go_num,by omega,by rw[AC];simp;omega,m.1,j.trans m.2,?_⟩;show _=_;have:=l.out;rw[AX]at this;rw[CE];exact this
end
section
open Go.RowKit
theorem OY(W:Al)(a:Nat)(v:Am)(bs:A2)(z:Int)(w:Nat)(f:w<=8)(d:bs.length<=1000000000)(h:Av W a v bs):An Ao 166 #[v,A7 .u64 (IntKind.u64.wrap z),A7 Ah w] W λe b=>∃c,e=Ag c/\Av b a c (bs++AX (z%18446744073709551616).toNat w)/\Below a W b:=by
 have e:IntKind.u64.wrap z=(((z%18446744073709551616).toNat:Nat):Int):=by unfold IntKind.wrap;simp[IntKind.bits,IntKind.signed];omega
 rw[e];exact EM W a v bs _ w (by omega) f d h
theorem cu(W:Al)(b:Nat)(v:Am)(bs:A2)(z:Int)(Q : -9223372036854775808<=z)(R:z<0)(P:bs.length<=999999999)(h:Av W b v bs):An Ao 143 #[v,A7 Ah z] W λe M=>∃x,e=Ag x/\Av M b x (bs++FO z)/\Below b W M:=by
 obtain⟨F,B,C,D,E⟩:=BH Tryz.infoU8;obtain⟨O,A,a,n,c,rfl⟩:=h;have j:=Ap O;by_cases y : -32<=z
 ·have l:Hid (FO z=UInt8.ofNat (z%256).toNat::[]):=by show _=_;unfold FO;rw[As y]
  go_enter func143,ntmps143
  go_wp2_with(first
    |(at_builtin;refine Bz _ rfl _ _ 49 rfl b 5 F (A7 Ai 0) 1 1 underlying49 B C D E rfl (by decide) _ _ _ rfl (j.alloc _) ⟨W.heap.size,0,Ak⟩ 1 1 [A7 Ai (z%256)] rfl rfl (Bf _ _ _) (λu f=>by simp at f;subst f;rfl) (by unfold maxLen;omega) (by omega) (by simp;omega) ?_;intro x g d k J;obtain⟨I,H,rfl⟩:=ownsRow_succ d;have i:Hid (Av g b _ (bs++[UInt8.ofNat (z%256).toNat])/\Below b W g):=Ct A j ((GQ _ (by omega)).trans (by congr 1;omega)) d k))
  go_ret;rw[l.out];exact⟨_,rfl,i⟩
 skip
 by_cases G : -128<=z
 ·have l:Hid (FO z=208::AX (z%18446744073709551616).toNat 1):=by show _=_;unfold FO;rw[Aq y];rw[As G]
  go_enter func143,ntmps143
  go_wp2_with(first
    |(at_builtin;refine Bz _ rfl _ _ 49 rfl b 5 F (A7 Ai 0) 1 1 underlying49 B C D E rfl (by decide) _ _ _ rfl (j.alloc _) ⟨W.heap.size,0,Ak⟩ 1 1 [A7 Ai 208] rfl rfl (Bf _ _ _) (λu f=>by simp at f;subst f;rfl) (by unfold maxLen;omega) (by omega) (by simp;omega) ?_;intro x g d k J;obtain⟨I,H,rfl⟩:=ownsRow_succ d;have i:Hid (Av g b _ (bs++[208])/\Below b W g):=Ct A j (rfl) d k)
    |(go_at_call 166;refine(OY _ b _ _ z 1 (by omega) (by simp;omega) i.1).mono ?_;rintro e L ⟨K,rfl,q,t⟩;obtain⟨r,s,o,w,p,rfl⟩:=q;have m:=Ap (E8 i ⟨r,s,o,w,p,rfl⟩ t (l.out.symm))))
  go_ret;exact⟨_,rfl,m⟩
 skip
 by_cases c2 : -32768<=z
 ·have l:Hid (FO z=209::AX (z%18446744073709551616).toNat 2):=by show _=_;unfold FO;rw[Aq y];rw[Aq G];rw[As c2]
  go_enter func143,ntmps143
  go_wp2_with(first
    |(at_builtin;refine Bz _ rfl _ _ 49 rfl b 5 F (A7 Ai 0) 1 1 underlying49 B C D E rfl (by decide) _ _ _ rfl (j.alloc _) ⟨W.heap.size,0,Ak⟩ 1 1 [A7 Ai 209] rfl rfl (Bf _ _ _) (λu f=>by simp at f;subst f;rfl) (by unfold maxLen;omega) (by omega) (by simp;omega) ?_;intro x g d k J;obtain⟨I,H,rfl⟩:=ownsRow_succ d;have i:Hid (Av g b _ (bs++[209])/\Below b W g):=Ct A j (rfl) d k)
    |(go_at_call 166;refine(OY _ b _ _ z 2 (by omega) (by simp;omega) i.1).mono ?_;rintro e L ⟨K,rfl,q,t⟩;obtain⟨r,s,o,w,p,rfl⟩:=q;have m:=Ap (E8 i ⟨r,s,o,w,p,rfl⟩ t (l.out.symm))))
  go_ret;exact⟨_,rfl,m⟩
 skip
 by_cases N : -2147483648<=z
 ·have l:Hid (FO z=210::AX (z%18446744073709551616).toNat 4):=by show _=_;unfold FO;rw[Aq y];rw[Aq G];rw[Aq c2];rw[As N]
  go_enter func143,ntmps143
  go_wp2_with(first
    |(at_builtin;refine Bz _ rfl _ _ 49 rfl b 5 F (A7 Ai 0) 1 1 underlying49 B C D E rfl (by decide) _ _ _ rfl (j.alloc _) ⟨W.heap.size,0,Ak⟩ 1 1 [A7 Ai 210] rfl rfl (Bf _ _ _) (λu f=>by simp at f;subst f;rfl) (by unfold maxLen;omega) (by omega) (by simp;omega) ?_;intro x g d k J;obtain⟨I,H,rfl⟩:=ownsRow_succ d;have i:Hid (Av g b _ (bs++[210])/\Below b W g):=Ct A j (rfl) d k)
    |(go_at_call 166;refine(OY _ b _ _ z 4 (by omega) (by simp;omega) i.1).mono ?_;rintro e L ⟨K,rfl,q,t⟩;obtain⟨r,s,o,w,p,rfl⟩:=q;have m:=Ap (E8 i ⟨r,s,o,w,p,rfl⟩ t (l.out.symm))))
  go_ret;exact⟨_,rfl,m⟩
 skip
 have l:Hid (FO z=211::AX (z%18446744073709551616).toNat 8):=by show _=_;unfold FO;rw[Aq y];rw[Aq G];rw[Aq c2];rw[Aq N]
 go_enter func143,ntmps143
 go_wp2_with(first
   |(at_builtin;refine Bz _ rfl _ _ 49 rfl b 5 F (A7 Ai 0) 1 1 underlying49 B C D E rfl (by decide) _ _ _ rfl (j.alloc _) ⟨W.heap.size,0,Ak⟩ 1 1 [A7 Ai 211] rfl rfl (Bf _ _ _) (λu f=>by simp at f;subst f;rfl) (by unfold maxLen;omega) (by omega) (by simp;omega) ?_;intro x g d k J;obtain⟨I,H,rfl⟩:=ownsRow_succ d;have i:Hid (Av g b _ (bs++[211])/\Below b W g):=Ct A j (rfl) d k)
   |(go_at_call 166;refine(OY _ b _ _ z 8 (by omega) (by simp;omega) i.1).mono ?_;rintro e L ⟨K,rfl,q,t⟩;obtain⟨r,s,o,w,p,rfl⟩:=q;have m:=Ap (E8 i ⟨r,s,o,w,p,rfl⟩ t (l.out.symm))))
 go_ret;exact⟨_,rfl,m⟩
theorem No(z:Int):∀w:Al,(Instr.typeAssert (.iface 254 (A7 Ah z)) 89 252 true).run Ao w=.ok (.tuple #[Ad false,Ad false]) w:=λw=>by kernel_rfl
theorem Np(z:Int):∀w:Al,(Instr.typeAssert (.iface 254 (A7 Ah z)) 89 254 true).run Ao w=.ok (.tuple #[A7 Ah z,Ad true]) w:=λw=>by kernel_rfl
def Jl(z:Int):A2:=if z<0 then FO z else Fy z.toNat
def GR(z:Int):A2:=if z<0 then AO 1 (-1-z).toNat else AO 0 z.toNat
theorem cw(W:Al)(b:Nat)(v:Am)(bs:A2)(z:Int)(w : -9223372036854775808<=z)(F:z<=9223372036854775807)(p:bs.length<=999999999)(h:Av W b v bs):An Ao 113 #[v,Nk z] W λe m=>∃q,e=Ag q/\Av m b q (bs++Jl z)/\Below b W m:=by
 unfold Nk;obtain⟨y,u,a,n,c,rfl⟩:=h;have l:Hid (Av W b (A8 a n c) bs):=⟨y,u,a,n,c,rfl⟩
 have o:Hid (Jl z=if z<0 then FO z else Fy z.toNat):=rfl;by_cases d:z<0
 ·have k:Hid (Jl z=FO z):=by show _=_;rw[o.out,As d]
  have s:decide (z<0)=true:=by simp;exact d
  have B:=No z;have C:=Np z;go_enter func113,ntmps113
  go_wp2_with(first
   |(go_at_call 143;refine(cu _ b _ bs z w d p l).mono ?_;rintro e E ⟨D,rfl,f,j⟩;obtain⟨g,i,r,A,t,rfl⟩:=f))
  go_ret;rw[k.out];exact⟨_,rfl,⟨g,i,_,_,_,rfl⟩,j⟩
 have k:Hid (Jl z=Fy z.toNat):=by show _=_;rw[o.out,Aq d]
 obtain⟨x,rfl⟩:∃x:Nat,z=x:=⟨z.toNat,by omega⟩
 have s:decide ((x:Int)<0)=false:=by simp
 have B:=No (x:Int);have C:=Np (x:Int);go_enter func113,ntmps113
 go_wp2_with(first
  |(go_at_call 144;refine(bR _ b _ bs x (by omega) p l).mono ?_;rintro e E ⟨D,rfl,f,j⟩;obtain⟨g,i,r,A,t,rfl⟩:=f))
 go_ret;rw[k.out];exact⟨_,rfl,⟨g,i,_,_,_,rfl⟩,j⟩
theorem cx(W:Al)(b:Nat)(v:Am)(bs:A2)(z:Int)(G : -9223372036854775808<=z)(H:z<=9223372036854775807)(q:bs.length<=999999999)(h:Av W b v bs):An Ao 112 #[v,Nk z] W λe d=>∃f,e=Ag f/\Av d b f (bs++GR z)/\Below b W d:=by
 unfold Nk;obtain⟨y,w,a,n,c,rfl⟩:=h;have m:Hid (Av W b (A8 a n c) bs):=⟨y,w,a,n,c,rfl⟩
 have p:Hid (GR z=if z<0 then AO 1 (-1-z).toNat else AO 0 z.toNat):=rfl;by_cases o:z<0
 ·have g:Hid (GR z=AO 1 (-1-z).toNat):=by show _=_;rw[p.out,As o]
  obtain⟨x,rfl⟩:∃x:Nat,z = -1-(x:Int):=⟨(-1-z).toNat,by omega⟩
  have t:=λV h=>Jk V b (A8 a n c) bs 1 x (by omega) (by omega) q h;have u:∀V,Av V b (A8 a n c) bs->An Ao 141 #[A8 a n c,A7 Ai 1,A7 .u64 (-1-(-1-(x:Int)))] V λe d=>∃f,e=Ag f/\Av d b f (bs++AO 1 x)/\Below b V d:=by
   rw[show(-1-(-1-(x:Int)))=x by omega];exact t
  rw[show(-1-(-1-(x:Int))).toNat=x by omega]at g;have B:=No (-1-(x:Int));have C:=Np (-1-(x:Int));go_enter func112,ntmps112
  go_wp2_with(first
   |(go_at_call 141;refine(u _ m).mono ?_;rintro e E ⟨D,rfl,i,l⟩;obtain⟨j,k,r,A,s,rfl⟩:=i))
  go_ret;rw[g.out];exact⟨_,rfl,⟨j,k,_,_,_,rfl⟩,l⟩
 have g:Hid (GR z=AO 0 z.toNat):=by show _=_;rw[p.out,Aq o]
 obtain⟨x,rfl⟩:∃x:Nat,z=x:=⟨z.toNat,by omega⟩
 have F:decide ((x:Int)<0)=false:=by simp
 have B:=No (x:Int);have C:=Np (x:Int);go_enter func112,ntmps112
 go_wp2_with(first
  |(go_at_call 141;refine(Jk _ b _ bs 0 x (by omega) (by omega) q m).mono ?_;rintro e E ⟨D,rfl,i,l⟩;obtain⟨j,k,r,A,s,rfl⟩:=i))
 go_ret;rw[g.out];exact⟨_,rfl,⟨j,k,_,_,_,rfl⟩,l⟩
theorem P4(W:Al):Av W W.heap.size (A8 Ak 0 0) []:=by
 refine⟨?_,AB _,Ak,0,0,rfl⟩;exact FK ..
theorem WF:laidOutB Ao=true:=by kernel_rfl
theorem few:prog.types.size+2<=10000:=MR (by kernel_rfl)
theorem S7:WideMaps.KeyLaw Ao 119:=deep_law_gate WF few (MR (by kernel_rfl)) (by kernel_rfl) (by kernel_rfl)
theorem WG:WideMaps.KeyLaw Ao 293:=deep_law_gate WF few (MR (by kernel_rfl)) (by kernel_rfl) (by kernel_rfl)
theorem iF(x:Nat)(h:x<65536):(Lit.int .u16 (x:Int)).wf=true:=by
 have a:IntKind.u16.min=0:=by kernel_rfl
 have b:IntKind.u16.max=65535:=by kernel_rfl
 simp[Lit.wf,a,b];omega
theorem WH{α β:Type}(f:α->Option β)(g:α->β):∀(l:List α),(∀x∈l,f x=Aj (g x))->l.mapM f=Aj (l.map g)
 |[],_=>rfl
 |x::l,h=>by
  rw[List.mapM_cons,h x (by simp),WH f g l (λy a=>h y (by simp[a]))];rfl
theorem S8(X:Nat->Nat)(j:∀r,X r<65536):∃l,keyOf Ao 119 (.agg (AG X))=Aj l:=by
 obtain⟨d,k⟩:∃d,prog.types.size+1=d+2:=⟨prog.types.size-1,by have:1<=prog.types.size:=MR (by kernel_rfl);omega⟩
 have f:prog.keyType 119=true:=by kernel_rfl
 have b:prog.cellsOf 119=16:=by kernel_rfl
 have g:prog.cellsOf 117=1:=by kernel_rfl
 have m:(Value.agg (AG X)).formed Ao 119=true:=by
  simp only[Value.formed,underlying119];rw[Ju,b];rfl
 have n:prog.keyLits (d+2) 119 (AG X).toList=Aj ((List.range 16).map λi=>[Lit.int .u16 (X i)]).flatten:=by
  have e:(AG X).toList.length=16:=by have:=Ju X;simpa using this
  unfold Program.keyLits;simp only[underlying119];rw[As (by rw[e,b]),g];rw[WH _ (λi=>[Lit.int .u16 (X i)]) _ (λi a=>?_)]
  ·rfl
  have a:i<16:=by simpa using a
  have c:((AG X).toList.drop (i*1)).take 1=[A7 .u16 (X i)]:=by
   have h:=Hv X i a;rw[OL];rw[<-Iw]at h;obtain⟨o,p⟩:=J8.1 h;rw[F5 o,p];rfl
  rw[c];unfold Program.keyLits;simp only[underlying117];rw[As ⟨trivial,iF _ (j i)⟩]
 refine⟨.string (keyBytes ((List.range 16).map λi=>[Lit.int .u16 (X i)]).flatten),?_⟩;unfold keyOf;simp only[underlying119];have e:(Value.agg (AG X)).cells=AG X:=rfl;rw[f,m,k,As (by rfl),e,n,MX]
theorem WI(h:AG X=AG Y):∀r,r<16->X r=Y r:=by
 intro r b;have a:=Hv X r b;rw[h,Hv Y r b]at a;injection a with a;injection a with _ a;omega
def L4(X Y:Nat->Nat):Bool:=(List.range 16).all λr=>X r==Y r
theorem WJ(h:L4 X Y=true):∀r,r<16->X r=Y r:=by
 intro r a;have:=D7.1 h r (by simpa using a);simpa using this
theorem WK(h:∀r,r<16->X r=Y r):L4 X Y=true:=D7.2 λr a=>by simpa using h r (by simpa using a)
theorem iG(X Y:Nat->Nat)(i:∀r,X r<65536)(j:∀r,Y r<65536)(w:Al):(Op.equalIn 10000 119 (.agg (AG X)) (.agg (AG Y))).run Ao w=.ok (L4 X Y) w:=by
 obtain⟨l,a⟩:=S8 X i;obtain⟨n,f⟩:=S8 Y j;obtain⟨b,d,g⟩:=run_equal_deep w (m:=prog.types.size+1) (by have:=few;omega) (k:=119) (by kernel_rfl) (by kernel_rfl) a f;have d:(Op.equalIn 10000 119 (.agg (AG X)) (.agg (AG Y))).run Ao w=.ok b w:=d;have e:b=L4 X Y:=by
  cases c:L4 X Y with
  |true =>
   refine g.2 ?_;rw[i7 (WJ c),f]at a;exact(CX a).symm
  |false =>
   cases b with
   |false=>rfl
   |true =>
    have e:=g.1 rfl;subst e;have h:=S7.inj a f;rw[WK (WI (Value.agg.inj h))]at c;cases c
 rw[d,e]
end
section
def B8(c:UInt8):A2->List A2
 |[]=>[[]]
 |x::r=>if x==c then[]::B8 c r else match B8 c r with
  |h::t=>(x::h)::t
  |[]=>[[x]]
theorem Sd(c:UInt8)(l:A2):B8 c l≠[]:=by
 cases l with
 |nil=>simp[B8]
 |cons x r =>
  unfold B8;split
  ·simp
  split<;>simp
theorem Se(c:UInt8):∀l:A2,(∀x,x∈l->(x==c)=false)->B8 c l=[l]
 |[],_=>rfl
 |x::r,h=>by
  have a:=h x (Gg ..);have b:=Se c r (λy d=>h y (GG _ d));simp only[B8,a,b];rfl
theorem Sf(c:UInt8):∀(a b:A2),(∀x,x∈a->(x==c)=false)->B8 c (a++c::b)=a::B8 c b
 |[],b,_=>by simp[B8]
 |x::a,b,h=>by
  have d:=h x (Gg ..);have e:=Sf c a b (λy f=>h y (GG _ f));simp only[I8,B8,d,e];rfl
theorem iW{l:A2}(h:Lib.indexByte l c = -1):B8 c l=[l]:=by
 refine Se c l (λx b=>?_);obtain⟨k,a,rfl⟩:=Iy b;have:=Lib.indexByte_none h k;rw[Dq];intro e;exact this (by rw[AY a,e])
theorem iX{l:A2}{o:Nat}(h:Lib.indexByte l c=o):o<l.length/\B8 c l=l.take o::B8 c (l.drop (o+1)):=by
 obtain⟨a,b⟩:=Lib.indexByte_some h;have i:o<l.length:=B9 a;refine⟨i,?_⟩;have e:l=l.take o++c::l.drop (o+1):=by
  have d:l[o]=c:=(J8.1 a).2;rw[<-d];simp
 conv=>lhs;rw[e]
 refine Sf c _ _ (λx j=>?_);obtain⟨k,f,rfl⟩:=Iy j;have g:k<o:=by simp at f;omega
 rw[Dq];intro e;refine b k g ?_;rw[AY (by omega)];rw[Uw]at e;rw[e]
end
section
open Go.RowKit Go.Shelf
section
attribute[local go_sem] Oper.semAt_some
theorem WV(s c:ByteArray)(w:Al):An Ao 75 #[.string s,.string c] w λe a =>
   e=Ag (.func (.func 126) #[] #[A9 (Aj ⟨w.heap.size+1,0,Ak⟩),A9 (Aj ⟨w.heap.size,0,Ak⟩),A9 (Aj ⟨w.heap.size+1+1,0,Ak⟩)]) /\
   a=((w.alloc (Af #[.string s] 9)).alloc (Af #[.string c] 9)).alloc (Af #[A7 Ah 0] 3):=by
 go_enter func75,ntmps75;go_wp2;go_ret;exact⟨rfl,rfl⟩
abbrev Ca:={s:ByteArray // s.size<=2000}
def AV(x:Ca):A2:=x.1.data.toList
structure Ii(k:Nat)(c:UInt8)(W:World)(r:ByteArray):Prop where
 rest:W.heap[k]?=some (.cells #[.string r] 9)
 sep:W.heap[k+1]?=some (.cells #[.string ⟨#[c]⟩] 9)
 save:W.heap[k+1+1]?=some (.cells #[.int .i64 0] 3)
theorem Ii.keep(h:Ii k c W r)(a:Em k (k+3) W W'):Ii k c W' r :=
 ⟨(a.same _ (by omega) (by omega)).trans h.rest,(a.same _ (by omega) (by omega)).trans h.sep,(a.same _ (by omega) (by omega)).trans h.save⟩
theorem Ii.store(h:Ii k c W r)(r':ByteArray):Ii k c (W.setCell ⟨k,0,Ak⟩ (.string r')) r' :=
 ⟨by rw[DJ W _ _ _ _ _ h.rest];rfl,(BV W _ _ _ (by simp)).trans h.sep,(BV W _ _ _ (by simp;omega)).trans h.save⟩
theorem je(W:Al)(k o:Nat)(v:Am):W.grownBy (W.setCell ⟨k,o,Ak⟩ v) (Aj k) :=
 ⟨rfl,rfl,rfl,by simp[World.setCell],λi _ a=>BV W _ _ _ (by intro e;exact a (by rw[e]))⟩
theorem jf(s:ByteArray)(o:Nat):(s.extract 0 o).data.toList=s.data.toList.take o:=by
 rw[QN];simp
theorem jg(s:ByteArray)(o:Nat):(s.extract o s.size).data.toList=s.data.toList.drop o:=by
 exact Uq s o
theorem jh(s:ByteArray)(o:Nat)(h:o<=s.size):(s.extract 0 o).size=o:=by simp[Ua];omega
theorem WW(s:ByteArray)(o:Nat):(s.extract o s.size).size=s.size-o:=by simp[Ua]
theorem WX(n:Nat)(k:Nat)(c:UInt8)(s:Ca)(w:World)(d:Ii k c w s.1):WT Fence.wide n prog 126 #[.pointer (some ⟨k+1,0,none⟩),.pointer (some ⟨k,0,none⟩),.pointer (some ⟨k+1+1,0,none⟩)]
   (λx:Ca=>#[.string x.1]) k (k+3) k (λxs=>xs.map AV=B8 c (AV s)) (λpre=>∃r,B8 c (AV s)=pre.map AV++r) w:=by
 intro aa J N W u S T U R;have ag:=At d.save;have a:Hid (Ii k c W s.1):=⟨(u.block _ (by omega)).trans d.rest,(u.block _ (by omega)).trans d.sep,(u.block _ (by omega)).trans d.save⟩
 have L:=Ap S;have ac:=Ap T;have D:Hid (∀pre x j,J pre j->YieldAt Fence.wide (n-1) prog aa #[.string x.1] j λe i =>
   (e=.returned (.bool true)/\J (pre++[x]) i/\Em k (k+3) j i)\/(e=.returned (.bool false)/\N (pre++[x]) i)):=U
 have K:=Ap R;have ad:=Ar a.out.sep 0;refine callsIn_of_wp func126 rfl trivial ?_ rfl;simp only[ntmps126,FY,Bq,CF,Nat.reduceAdd,Nat.reduceSub,Lv,Lw,LB,Lx,Jd,I8]
 gi_wp2
 gi_loopg[7,8] 2001 (λg x al wr=>∃(pre:List Ca) (r:Ca),r.1.size<g/\Hid (B8 c (AV s)=pre.map AV++B8 c (AV r))/\Hid (Ii k c wr r.1)/\Hid (J pre wr))
 case atStart=>exact⟨[],s,by have:=s.2;omega,rfl,a,K⟩
 case round =>
  obtain⟨pre,r,hg,z,a,C⟩:=hrel;have V:=Ar a.out.rest 0;have X:=Ar a.out.sep 0;have ae:=Ar a.out.save 0;rcases Int.lt_or_le (Lib.indexByte (AV r) c) 0 with ah|y
  ·have F:Lib.indexByte (AV r) c = -1:=by have:=Lib.indexByte_ge (AV r) c;omega
   have A:Hid (B8 c (AV s)=pre.map AV++[AV r]):=by show _=_;rw[z.out,iW F]
   have Y:Lib.indexByte r.1.data.toList c = -1:=F;obtain⟨Q,ab,O,P,I,t⟩:=D.out pre r wr C.out
   gi_wp2_with fail
   refine⟨trivial,(λh=>by cases h),?_⟩;refine(Hm.2 (Tryz.strings_Index_one r.1 c _)).mono ?_;rintro e w2 ⟨rfl,rfl⟩
   gi_wp2
   refine⟨(λh=>by cases h),t.mono ?_⟩;rintro e m (⟨rfl,p,E⟩|⟨rfl,q⟩)
   ·gi_wp2
    go_end0;exact⟨⟨_,rfl⟩,.inl ⟨pre++[r],by rw[A.out];simp,p⟩⟩
   gi_wp2
   go_end0;exact⟨⟨_,rfl⟩,.inr ⟨pre++[r],⟨[],by rw[A.out];simp⟩,q⟩⟩
  obtain⟨o,G⟩:=Lt y;obtain⟨Z,l⟩:=iX G;have Y:Lib.indexByte r.1.data.toList c=o:=G;have ai:o<r.1.size:=by simpa[AV]using Z
  have aj:=r.2;have M:Hid (B8 c (AV s)=pre.map AV++((AV r).take o::B8 c ((AV r).drop (o+1)))):=by show _=_;rw[z.out,l]
  have v:(r.1.extract 0 o).size<=2000:=by rw[jh _ _ (by omega)];omega
  have H:(r.1.extract (o+1) r.1.size).size<=2000:=by rw[WW];omega
  have B:Hid (B8 c (AV s)=(pre++[(⟨r.1.extract 0 o,v⟩:Ca)]).map AV++B8 c (AV (⟨r.1.extract (o+1) r.1.size,H⟩:Ca))):=by
   show _=_;rw[M.out];simp only[Eg,CT,GJ,AV];rw[jf,jg,CE];rfl
  have ak:(r.1.extract (o+1) r.1.size).size<r.1.size:=by rw[WW];omega
  obtain⟨Q,ab,O,P,I,t⟩:=D.out pre ⟨r.1.extract 0 o,v⟩ wr C.out;dsimp only at I
  gi_wp2_with fail
  refine⟨trivial,(λh=>by cases h),?_⟩;refine(Hm.2 (Tryz.strings_Index_one r.1 c _)).mono ?_;rintro e w2 ⟨rfl,rfl⟩
  gi_wp2
  refine⟨(λh=>by cases h),t.mono ?_⟩;rintro e m (⟨rfl,p,E⟩|⟨rfl,q⟩)
  ·have b:=Ap (a.out.keep E);have V:=Ar b.out.rest 0;have X:=Ar b.out.sep 0;have af:=Cx m k 0 _ _ b.out.rest;have f:=Ap p
   gi_wp2
   gi_roundg ((r.1.extract (o+1) r.1.size).size+1)
   case measure=>omega
   case rel=>exact⟨pre++[⟨r.1.extract 0 o,v⟩],⟨r.1.extract (o+1) r.1.size,H⟩,OF _,B,b.out.store _,L.out _ _ _ f.out (je m k 0 _)⟩
  have f:=Ap q
  gi_wp2
  refine Bd (results_none rfl _ _ _) rfl ?_;exact⟨⟨_,rfl⟩,.inr ⟨_,⟨_,B.out⟩,f.out⟩⟩
end
end
section
open Go.RowKit
def Ee(bs:A2)(l:Int)(i:Nat):Bool:=match bs[i]? with
 |none=>false
 |some c=>decide ((i:Int)<l)&&Cm c
theorem YR(W:Al)(bs:A2)(fm d l:Int)(i:Nat):An Ao 120 #[Kr bs fm d l,A7 Ah i] W λe n=>e=Ag (Ad (Ee bs l i))/\A1 W n:=by
 obtain⟨R,q⟩:∃R,Hid (Ee bs l i=R):=⟨_,show _=_ from rfl⟩
 rw[q.out];have f:=q.out;unfold Ee at f;have k:Hid ((W.alloc (Af #[Aa ⟨bs.toArray⟩,A7 Ah fm,A7 Ah d,A7 Ah l] 102)).heap[W.heap.size]?=Aj (Af #[Aa ⟨bs.toArray⟩,A7 Ah fm,A7 Ah d,A7 Ah l] 102)):=Ay _ _;have g:Hid (A1 W (W.alloc (Af #[Aa ⟨bs.toArray⟩,A7 Ah fm,A7 Ah d,A7 Ah l] 102))):=AH;have j:An Ao 57 #[.agg #[Aa ⟨bs.toArray⟩,A7 Ah fm,A7 Ah d,A7 Ah l],A7 Ah i] (W.alloc (Af #[Aa ⟨bs.toArray⟩,A7 Ah fm,A7 Ah d,A7 Ah l] 102)) λe n=>e=Ag (Ad (Bo bs l i))/\Below (W.alloc (Af #[Aa ⟨bs.toArray⟩,A7 Ah fm,A7 Ah d,A7 Ah l] 102)).heap.size (W.alloc (Af #[Aa ⟨bs.toArray⟩,A7 Ah fm,A7 Ah d,A7 Ah l] 102)) n:=Q6 _ bs fm d l i;have o:=At k;unfold Kr;have w:Bo bs l i=false->R=false:=λa=>by
  rw[<-f];unfold Bo at a
  cases m:bs[i]? with
  |none=>rfl
  |some c =>
   rw[Bs (B9 m),Gj]at a;simp only[];rw[a];rfl
 cases a:Bo bs l i
 ·have h:=Ap (w a);rw[a]at j;go_enter func120,ntmps120
  go_wp2_with(first
   |(go_at_call 57;refine j.mono ?_;rintro e p ⟨rfl,b⟩))
  go_ret;rw[h.out];exact⟨rfl,g.trans (b.mono g.size)⟩
 rw[a]at j;unfold Bo at a;rw[Ch]at a;have v:=By a.1;obtain⟨c,m⟩:∃c,bs[i]?=Aj c:=⟨bs[i],AY v⟩
 rw[m]at f;simp only[]at f;rw[a.2,Gj]at f;have x:=D6 bs i c m;unfold Cm at f;by_cases s:(48:Int)<=(c.toNat:Int)
 ·by_cases t:(c.toNat:Int)<=57
  ·have h:Hid (R=true):=by show _=_;rw[<-f];exact Bs ⟨s,t⟩
   go_enter func120,ntmps120
   go_wp2_with(first
    |(go_at_call 57;refine j.mono ?_;rintro e p ⟨rfl,b⟩;have r:=Ar ((b.block _ o).trans k) 0))
   go_ret;rw[h.out];exact⟨rfl,g.trans (b.mono g.size)⟩
  have h:Hid (R=false):=by show _=_;rw[<-f];exact BJ (λa=>t a.2)
  go_enter func120,ntmps120
  go_wp2_with(first
   |(go_at_call 57;refine j.mono ?_;rintro e p ⟨rfl,b⟩;have r:=Ar ((b.block _ o).trans k) 0))
  go_ret;rw[h.out];have u:decide ((c.toNat:Int)<=57)=false:=BJ (by omega);exact⟨by rw[u];rfl,g.trans (b.mono g.size)⟩
 have h:Hid (R=false):=by show _=_;rw[<-f];exact BJ (λa=>s a.1)
 go_enter func120,ntmps120
 go_wp2_with(first
  |(go_at_call 57;refine j.mono ?_;rintro e p ⟨rfl,b⟩;have r:=Ar ((b.block _ o).trans k) 0))
 go_ret;rw[h.out];exact⟨rfl,g.trans (b.mono g.size)⟩
def Lm(bs:A2)(l lim:Int):Prop:=∀p:Nat,p<bs.length->((p:Int)<l↔(p:Int)<lim)
def AS(bs:A2)(lim:Int)(p:Nat):Prop:=p<=bs.length/\(p:Int)<=lim
theorem Ir(h:bs[p]?=Ak):Bo bs l p=false:=by
 unfold Bo;rw[BJ (by have:=JV.1 h;omega)];rfl
theorem JM(b:p<=bs.length)(h:bs[p]?=Ak)(e:Int):BM bs l p e=(9,(p:Int)):=by
 have:=JV.1 h;unfold BM;rw[Aq (λa=>by omega),As (by omega),show bs.length=p by omega]
theorem Hz(b:Lm bs l lim)(h:bs[p]?=Aj c)(e:(p:Int)=lim):Bo bs l p=false:=by
 have a:=B9 h;have d:=b p a;unfold Bo;rw[BJ (p:=(p:Int)<l) (by omega),OI]
theorem GB(b:Lm bs l lim)(h:bs[p]?=Aj c)(f:(p:Int)=lim)(e:Int):BM bs l p e=(8,(p:Int)):=by
 have a:=B9 h;have d:=b p a;unfold BM;rw[As (by omega)]
theorem JN(b:Lm bs l lim)(hi:AS bs lim p)(h:bs[p]?=Aj c)(f:¬(p:Int)=lim):Bo bs l p=true:=by
 have a:=B9 h;have d:=b p a;have e:=hi.2;unfold Bo;rw[Bs a,Bs (p:=(p:Int)<l) (by omega)];rfl
theorem Hc(b:Lm bs l lim)(hi:AS bs lim p)(h:bs[p]?=Aj c)(g:¬(p:Int)=lim)(e:Int):BM bs l p e=(e,(p:Int)):=by
 have a:=B9 h;have d:=b p a;have f:=hi.2;unfold BM;rw[Aq (by omega),Aq (by omega)]
theorem DZ(hi:AS bs lim p)(h:bs[p]?=Aj c)(d:¬(p:Int)=lim):AS bs lim (p+1):=by
 have a:=B9 h;have b:=hi.2;exact⟨by omega,by omega⟩
def Ep{α:Type}(bs:A2)(lim:Int)(r r':A6 α):Prop:=r=r'\/∃q:Nat,r=.error (8,(q:Int))/\(q:Int)=lim/\q<bs.length/\∃x,r'=.ok (x,q)
theorem J2(n:Lm bs l lim):∀(g p:Nat),AS bs lim p->(∃q,Bk bs lim g p=.ok ((),q)/\CI bs l g p=q/\AS bs lim q/\p<=q/\(bs.length+1<=p+g->∀f,Bk bs lim f q=.ok ((),q)))\/(∃q:Nat,Bk bs lim g p=.error (8,(q:Int))/\CI bs l g p=q/\(q:Int)=lim/\q<bs.length)
 |0,p,hi=>.inl ⟨p,rfl,rfl,hi,AB _,λh=>absurd h (by have:=hi.1;omega)⟩
 |g+1,p,hi=>by
  rw[Bk,CI]
  cases i:bs[p]? with
  |none =>
   refine .inl ⟨p,rfl,rfl,hi,AB _,λ_ f=>?_⟩
   cases f with
   |zero=>rfl
   |succ f=>rw[Bk,i]
  |some c =>
   simp only[];by_cases j:(p:Int)=lim
   ·rw[As j];have m:=B9 i;rw[Aq (show¬(p:Int)<l by have:=n p m;omega)];exact .inr ⟨p,rfl,rfl,j,m⟩
   rw[Aq j];have m:=B9 i;rw[As (show(p:Int)<l by have:=n p m;have:=hi.2;omega)];by_cases k:IF c=true
   ·rw[As k,As k];rcases J2 n g (p+1) (DZ hi i j)with⟨q,a,b,c,d,e⟩|h
    ·exact .inl ⟨q,a,b,c,by omega,λo=>e (by omega)⟩
    exact .inr h
   rw[Aq k,Aq k];refine .inl ⟨p,rfl,rfl,hi,AB _,λ_ f=>?_⟩
   cases f with
   |zero=>rfl
   |succ f =>
    rw[Bk,i];simp only[];rw[Aq j,Aq k]
end
end Go.Proofs.YtoegnhgofkhbnaaGreatDoor
