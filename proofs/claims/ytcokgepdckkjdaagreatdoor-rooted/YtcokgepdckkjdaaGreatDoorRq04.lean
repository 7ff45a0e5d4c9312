import Derived.BigCall
import Derived.Maps.AppendAt
import Derived.Deep.OwnRows
import Derived.RangeFuncBox
import Derived.Lib.AppendStr
import Derived.Defers
import Derived.Lib.IndexLaws
import Derived.Lib.IndexMore
import Derived.Test.YtcokgepdckkjdaaGreatDoorShelf
import Derived.RangeFuncBound
import Derived.RangeFuncCalls
import Derived.RangeFuncLeaves
import Derived.Shelf.Abstract
import Derived.OwnWalkIn
import Derived.TacticsInMore
import Derived.LoopNIn
import Derived.LoopIn
import Derived.Sort.LoopGhostIn
import Derived.Lib.Strings
import Derived.Lib.IndexBytes
import Derived.Test.YtcokgepdckkjdaaGreatDoorRq02
import Derived.Test.YtcokgepdckkjdaaGreatDoorRq03
set_option maxRecDepth 100000
set_option maxHeartbeats 8000000
namespace Go.Proofs.YtcokgepdckkjdaaGreatDoor
open Go.Proofs.Tryz
variable {V V' W W' W2:World}{base e k n size:Nat}{u v v' v2:Value}{xs:List Value}{bs l ys zs:List UInt8}{b c:UInt8}{a:Option Addr}{F G:Nat->Prop}{r:ByteArray}
section
open Go.RowKit
def qws (x:Nat)(w:Int):Int:=if (w==1)=true then wrap64 (IntKind.i8.wrap x) else if (w==2)=true then wrap64 (IntKind.i16.wrap x) else if (w==4)=true then wrap64 (wrap32 x) else wrap64 x
def nbF (so w:Int)(x:Nat)(pos:Int):Except (Int×Int) Int :=
 if (so==5)=true then .ok (qws x w) else if 9223372036854775807<x then .error (10,pos-1) else if (so==6)=true then .ok (-1-(x:Int)) else .ok x

def qd9 (bs:List UInt8)(lim:Int):Nat->Nat->Nat->Except (Int×Int) (Nat×Nat)
 |0,p,a=>.ok (a,p)
 |k+1,p,a=>match bs[p]? with
  |none=>.error (9,p)
  |some c=>if (p:Int)=lim then .error (8,p) else qd9 bs lim k (p+1) (a*256+c.toNat)

def qq5 (u:Nat):Nat:=if u=0 then 4 else if u=1 then 6 else if u=2 then 7 else if u=3 then 8 else if u=4 then 9 else if u=5 then 10 else 0
def qiN (c:Nat):Nat×Nat×Nat :=
 if c=244 then (2,0,0) else if c=245 then (3,0,0) else if c=246 then (1,0,0) else
 if qq5 (c / 32)=0\/27<c%32 then (0,0,0) else if 24<=c%32 then (qq5 (c / 32),2^(c%32-24),0) else (qq5 (c / 32),0,c%32)
def qgC:List (Nat×Nat):=[(1,0),(0,0),(2,0),(3,0),(7,1),(7,2),(7,4),(0,0),(0,0),(0,0),(0,0),(0,0),(4,1),(4,2),(4,4),(4,8),(5,1),(5,2),(5,4),(5,8),(0,0),(0,0),(0,0),(0,0),(0,0),(8,1),(8,2),(8,4),(9,2),(9,4),(10,2),(10,4)]
def qfo (c:Nat):Nat×Nat×Nat :=
 if c<128 then (4,0,c) else if c<144 then (10,0,c-128) else if c<160 then (9,0,c-144) else if c<192 then (8,0,c-160) else
 if c<224 then ((qgC.getD (c-192) (0,0)).1,(qgC.getD (c-192) (0,0)).2,0) else (5,0,18446744073709551360+c)
structure qdh (W:World):Prop where
 cb:∀u,u<8->W.cell? ⟨1,u,none⟩=some (.int .i64 (qq5 u))
 pk:∀u,u<32->W.cell? ⟨2,u*3,none⟩=some (.int .i64 (qgC.getD u (0,0)).1)/\W.cell? ⟨2,u*3+1,none⟩=some (.int .i64 (qgC.getD u (0,0)).2)/\W.cell? ⟨2,u*3+2,none⟩=some (.int .u64 0)

theorem Tryz.infoU8:(prog.info? 5).map (fun i=>(i.zero,i.size,i.bytes))=some (some (.int .u8 0),1,1):=by kernel_rfl
def qav (b:UInt8):Value:=.int .u8 b.toNat
theorem qbA {e:TypeId}(c:W.ownsRow base e size v n xs){g:Nat}(h:v.ownBlock=some g):base<=g:=by
 rcases c.2 with ⟨a,_⟩|⟨i,d,f,rfl,b,_⟩
 ·subst a;cases h
 cases h;exact b
theorem qag (w:World)(cs:Array Value)(t:TypeId):∀(j:Nat) (u:Value),cs.toList[j]? = some u->(w.alloc (.cells cs t)).cell? ((⟨w.heap.size,0,none⟩:Addr).add j)=some u:=fun j u a=>by
 have e:(⟨w.heap.size,0,none⟩:Addr).add j=⟨w.heap.size,j,none⟩:=by by_cases h:j=0<;>simp[Addr.add,h]
 rw[e,cell_of_row _ _ _ _ _ _ (qac _ _)];simpa using a
def Own (W:World)(base:Nat)(v:Value)(bs:List UInt8):Prop:=W.ownsRow base 5 1 v bs.length (bs.map qav)/\base<=W.heap.size/\∃a n c,v=.slice a n c
def beF (x:Nat):Nat->List UInt8
 |0=>[]
 |k+1=>UInt8.ofNat (x / 2^(8*k)%256)::beF x k
theorem qlF (x k:Nat):qav (UInt8.ofNat (x / 2^(8*k)%256))=.int .u8 ((x:Int) / 2^(8*k)%256):=by
 unfold qav;have e:(UInt8.ofNat (x / 2^(8*k)%256)).toNat=x / 2^(8*k)%256:=by
  rw[UInt8.toNat_ofNat'];have:x / 2^(8*k)%256<256:=Nat.mod_lt _ (by decide);omega
 rw[e];congr 1
theorem qbG (h:W'.ownsRow base 5 1 v' (ys.length+1) (ys.map qav++[u]))(a:qav b=u):W'.ownsRow base 5 1 v' (ys++[b]).length ((ys++[b]).map qav):=by
 rw[List.length_append,List.map_append];subst a;exact h
theorem qaz {t:TypeId}{z:Nat}(b:Below base W V)(c:V.ownsRow base t z v n xs)(a:V.grownBy W' v.ownBlock)(f:base<=V.heap.size):Below base W W' :=
 b.trans ⟨a.os,a.tape,a.output,a.size,fun i d=>a.block i (by omega) (fun e=>by have:=qbA c e.symm;omega)⟩
theorem qaq (W:World)(b:Nat)(v:Value)(bs:List UInt8)(x w:Nat)(_hx:x<18446744073709551616)(J:w<=8)(H:bs.length<=1000000000)(h:Own W b v bs):Calls prog 168 #[v,.int .u64 x,.int .i64 w] W fun e o=>∃j,e=.returned j/\Own o b j (bs++beF x w)/\Below b W o:=by
 obtain⟨D,s,A,B,C⟩:=info_parts Tryz.infoU8;obtain⟨t,i,a,n,c,rfl⟩:=h;have f:=qaa t;go_enter func168,ntmps168;go_wp2
 go_loopg [0,7] w (fun g y z wr=>∃(d:List UInt8) (a n c:_),y=.slice a n c/\z=.int .i64 ((g:Int)-1)/\g<=w/\d.length<=1000000000+(w-g)/\b<=wr.heap.size/\Hid (wr.ownsRow b 5 1 (.slice a n c) d.length (d.map qav))/\Hid (Below b W wr)/\Hid (d++beF x g=bs++beF x w))
 case atStart=>exact⟨bs,a,n,c,rfl,by go_num,Nat.le_refl _,by omega,i,f,Below.refl _ _,rfl⟩
 case round =>
  obtain⟨d,a,n,c,rfl,rfl,G,K,i,f,l,m⟩:=hrel
  cases gk with
  |zero =>
   go_wp2;go_ret;have e:d=bs++beF x w:=by have:=m.out;simpa [beF] using this
   subst e;exact⟨_,rfl,⟨f.out,i,_,_,_,rfl⟩,l.out⟩
  |succ k =>
   go_wp2_with (first
    |(at_builtin;refine wpList_append_own _ rfl _ _ 66 rfl b 5 D (.int .u8 0) 1 1 underlying66 s A B C rfl (by decide) _ _ _ rfl (f.out.alloc _) ⟨wr.heap.size,0,none⟩ 1 1 [.int .u8 ((x:Int) / 2^(8*k)%256)] rfl rfl (qag _ _ _) (fun u r=>by simp at r;subst r;rfl) (by unfold maxLen;omega) (by omega) (by simp;omega) ?_;intro j L q p I;obtain⟨F,E,rfl⟩:=ownsRow_succ q))
   go_roundg k
   case measure=>omega
   case rel =>
    refine⟨d++[UInt8.ofNat (x / 2^(8*k)%256)],_,_,_,rfl,by go_num,by omega,by rw[List.length_append];simp;omega,?_,qbG q (qlF x k),qaz (l.out.trans ((Below.refl b wr).alloc i _)) (f.out.alloc _) p (by simp;omega),?_⟩
    ·have:=p.size;simp at this;omega
    show _=_;have:=m.out;rw[beF] at this;rw[List.append_assoc];exact this

def qbf (x:Nat):List UInt8 :=
 if x<128 then [UInt8.ofNat x] else if x<=255 then 204::beF x 1 else if x<=65535 then 205::beF x 2 else if x<=4294967295 then 206::beF x 4 else 207::beF x 8
def qbo (z:Int):List UInt8 :=
 if -32<=z then [UInt8.ofNat (z%256).toNat] else if -128<=z then 208::beF (z%18446744073709551616).toNat 1 else if -32768<=z then 209::beF (z%18446744073709551616).toNat 2 else if -2147483648<=z then 210::beF (z%18446744073709551616).toNat 4 else 211::beF (z%18446744073709551616).toNat 8
def qaj (s x:Nat):List UInt8 :=
 if x<24 then [UInt8.ofNat (32*s+x)] else if x<=255 then UInt8.ofNat (32*s+24)::beF x 1 else if x<=65535 then UInt8.ofNat (32*s+25)::beF x 2 else if x<=4294967295 then UInt8.ofNat (32*s+26)::beF x 4 else UInt8.ofNat (32*s+27)::beF x 8
theorem qaQ (x:Nat)(h:x<256):qav (UInt8.ofNat x)=.int .u8 (x:Int):=by
 unfold qav;rw[UInt8.toNat_ofNat',Nat.mod_eq_of_lt (by omega)]
theorem qax {c:Nat}(g:base<=W.heap.size)(h:W.ownsRow base 5 1 (.slice a n c) bs.length (bs.map qav))(i:qav b=u)(e:W'.ownsRow base 5 1 v' (bs.length+1) (bs.map qav++[u]))(d:(W.alloc (Obj.cells #[u] 5)).grownBy W' (Value.slice a n c).ownBlock):Own W' base v' (bs++[b])/\Below base W W':=by
 have f:=qbG e i;obtain⟨k,j,rfl⟩:=ownsRow_succ e;refine⟨⟨f,?_,_,_,_,rfl⟩,qaz ((Below.refl base W).alloc g _) (h.alloc _) d (by simp;omega)⟩;have:=d.size;simp at this;omega
theorem qaJ (h:Own W' base v' (bs++[b])/\Below base W W')(a:Own W2 base v2 ((bs++[b])++ys))(c:Below base W' W2)(e:b::ys=zs):Own W2 base v2 (bs++zs)/\Below base W W2:=by
 subst e;refine⟨?_,h.2.trans c⟩;rw[List.append_assoc] at a;exact a

theorem qtp:∀(s:Fin 8) (x:Fin 32),bits .or .u8 ((s.val:Int)*32) (x.val:Int)=((32*s.val+x.val:Nat):Int):=by decide
theorem qew (s x:Nat)(a:s<8)(b:x<32):qav (UInt8.ofNat (32*s+x))=.int .u8 (bits .or .u8 ((s:Int)*32) (x:Int)):=by
 rw[qaQ _ (by omega)];have:=qtp ⟨s,a⟩ ⟨x,b⟩;simp only[] at this;rw[this]
theorem qbl (W:World)(b:Nat)(v:Value)(bs:List UInt8)(s x:Nat)(D:s<8)(S:x<18446744073709551616)(R:bs.length<=999999999)(h:Own W b v bs):Calls prog 146 #[v,.int .u8 s,.int .u64 x] W fun e O=>∃z,e=.returned z/\Own O b z (bs++qaj s x)/\Below b W O:=by
 obtain⟨H,C,E,F,G⟩:=info_parts Tryz.infoU8;obtain⟨Q,B,a,n,c,rfl⟩:=h;have j:=qaa Q;by_cases A:x<24
 ·have l:Hid (qaj s x=UInt8.ofNat (32*s+x)::[]):=by show _=_;unfold qaj;rw[if_pos A]
  go_enter func146,ntmps146
  go_wp2_with (first
    |(at_builtin;refine wpList_append_own _ rfl _ _ 66 rfl b 5 H (.int .u8 0) 1 1 underlying66 C E F G rfl (by decide) _ _ _ rfl (j.out.alloc _) ⟨W.heap.size,0,none⟩ 1 1 [.int .u8 (bits .or .u8 ((s:Int)*32) (x:Int))] rfl rfl (qag _ _ _) (fun u f=>by simp at f;subst f;rfl) (by unfold maxLen;omega) (by omega) (by simp;omega) ?_;intro z g d k L;obtain⟨K,J,rfl⟩:=ownsRow_succ d;have i:Hid (Own g b _ (bs++[UInt8.ofNat (32*s+x)])/\Below b W g):=qax B j.out (qew s _ D (by omega)) d k))
  go_ret;rw[l.out];exact⟨_,rfl,i.out⟩
 skip
 by_cases I:x<=255
 ·have l:Hid (qaj s x=UInt8.ofNat (32*s+24)::beF x 1):=by show _=_;unfold qaj;rw[if_neg A];rw[if_pos I]
  go_enter func146,ntmps146
  go_wp2_with (first
    |(at_builtin;refine wpList_append_own _ rfl _ _ 66 rfl b 5 H (.int .u8 0) 1 1 underlying66 C E F G rfl (by decide) _ _ _ rfl (j.out.alloc _) ⟨W.heap.size,0,none⟩ 1 1 [.int .u8 (bits .or .u8 ((s:Int)*32) 24)] rfl rfl (qag _ _ _) (fun u f=>by simp at f;subst f;rfl) (by unfold maxLen;omega) (by omega) (by simp;omega) ?_;intro z g d k L;obtain⟨K,J,rfl⟩:=ownsRow_succ d;have i:Hid (Own g b _ (bs++[UInt8.ofNat (32*s+24)])/\Below b W g):=qax B j.out (qew s _ D (by omega)) d k)
    |(go_at_call 168;refine(qaq _ b _ _ (x) 1 (by omega) (by omega) (by simp;omega) i.out.1).mono ?_;rintro e N ⟨M,rfl,q,w⟩;obtain⟨r,t,o,y,p,rfl⟩:=q;have m:=qaa (qaJ i.out ⟨r,t,o,y,p,rfl⟩ w (l.out.symm))))
  go_ret;exact⟨_,rfl,m.out⟩
 skip
 by_cases c2:x<=65535
 ·have l:Hid (qaj s x=UInt8.ofNat (32*s+25)::beF x 2):=by show _=_;unfold qaj;rw[if_neg A];rw[if_neg I];rw[if_pos c2]
  go_enter func146,ntmps146
  go_wp2_with (first
    |(at_builtin;refine wpList_append_own _ rfl _ _ 66 rfl b 5 H (.int .u8 0) 1 1 underlying66 C E F G rfl (by decide) _ _ _ rfl (j.out.alloc _) ⟨W.heap.size,0,none⟩ 1 1 [.int .u8 (bits .or .u8 ((s:Int)*32) 25)] rfl rfl (qag _ _ _) (fun u f=>by simp at f;subst f;rfl) (by unfold maxLen;omega) (by omega) (by simp;omega) ?_;intro z g d k L;obtain⟨K,J,rfl⟩:=ownsRow_succ d;have i:Hid (Own g b _ (bs++[UInt8.ofNat (32*s+25)])/\Below b W g):=qax B j.out (qew s _ D (by omega)) d k)
    |(go_at_call 168;refine(qaq _ b _ _ (x) 2 (by omega) (by omega) (by simp;omega) i.out.1).mono ?_;rintro e N ⟨M,rfl,q,w⟩;obtain⟨r,t,o,y,p,rfl⟩:=q;have m:=qaa (qaJ i.out ⟨r,t,o,y,p,rfl⟩ w (l.out.symm))))
  go_ret;exact⟨_,rfl,m.out⟩
 skip
 by_cases P:x<=4294967295
 ·have l:Hid (qaj s x=UInt8.ofNat (32*s+26)::beF x 4):=by show _=_;unfold qaj;rw[if_neg A];rw[if_neg I];rw[if_neg c2];rw[if_pos P]
  go_enter func146,ntmps146
  go_wp2_with (first
    |(at_builtin;refine wpList_append_own _ rfl _ _ 66 rfl b 5 H (.int .u8 0) 1 1 underlying66 C E F G rfl (by decide) _ _ _ rfl (j.out.alloc _) ⟨W.heap.size,0,none⟩ 1 1 [.int .u8 (bits .or .u8 ((s:Int)*32) 26)] rfl rfl (qag _ _ _) (fun u f=>by simp at f;subst f;rfl) (by unfold maxLen;omega) (by omega) (by simp;omega) ?_;intro z g d k L;obtain⟨K,J,rfl⟩:=ownsRow_succ d;have i:Hid (Own g b _ (bs++[UInt8.ofNat (32*s+26)])/\Below b W g):=qax B j.out (qew s _ D (by omega)) d k)
    |(go_at_call 168;refine(qaq _ b _ _ (x) 4 (by omega) (by omega) (by simp;omega) i.out.1).mono ?_;rintro e N ⟨M,rfl,q,w⟩;obtain⟨r,t,o,y,p,rfl⟩:=q;have m:=qaa (qaJ i.out ⟨r,t,o,y,p,rfl⟩ w (l.out.symm))))
  go_ret;exact⟨_,rfl,m.out⟩
 skip
 have l:Hid (qaj s x=UInt8.ofNat (32*s+27)::beF x 8):=by show _=_;unfold qaj;rw[if_neg A];rw[if_neg I];rw[if_neg c2];rw[if_neg P]
 go_enter func146,ntmps146
 go_wp2_with (first
   |(at_builtin;refine wpList_append_own _ rfl _ _ 66 rfl b 5 H (.int .u8 0) 1 1 underlying66 C E F G rfl (by decide) _ _ _ rfl (j.out.alloc _) ⟨W.heap.size,0,none⟩ 1 1 [.int .u8 (bits .or .u8 ((s:Int)*32) 27)] rfl rfl (qag _ _ _) (fun u f=>by simp at f;subst f;rfl) (by unfold maxLen;omega) (by omega) (by simp;omega) ?_;intro z g d k L;obtain⟨K,J,rfl⟩:=ownsRow_succ d;have i:Hid (Own g b _ (bs++[UInt8.ofNat (32*s+27)])/\Below b W g):=qax B j.out (qew s _ D (by omega)) d k)
   |(go_at_call 168;refine(qaq _ b _ _ (x) 8 (by omega) (by omega) (by simp;omega) i.out.1).mono ?_;rintro e N ⟨M,rfl,q,w⟩;obtain⟨r,t,o,y,p,rfl⟩:=q;have m:=qaa (qaJ i.out ⟨r,t,o,y,p,rfl⟩ w (l.out.symm))))
 go_ret;exact⟨_,rfl,m.out⟩

end
section
open Go.RowKit Go.Lib
theorem qp3 (l:List UInt8):strCells ⟨l.toArray⟩=l.map qav:=by
 unfold strCells;simp[qav]
theorem qaL (h:Own W base v bs)(a:W'.ownsRow base 5 1 v' (bs.length+(⟨l.toArray⟩:ByteArray).size) (bs.map qav++strCells ⟨l.toArray⟩))(d:W.grownBy W' v.ownBlock):Own W' base v' (bs++l)/\Below base W W':=by
 obtain⟨f,c,_⟩:=h;have b:=qaz (Below.refl base W) f d c;have i:(⟨l.toArray⟩:ByteArray).size=l.length:=List.size_toArray ..;rw[i,qp3] at a;refine⟨⟨by rw[List.length_append,List.map_append];exact a,Nat.le_trans c b.size,?_⟩,b⟩;rcases a.2 with ⟨e,_⟩|⟨g,j,k,e,_⟩
 ·exact⟨none,0,0,e⟩
 exact⟨_,_,_,e⟩
theorem qjn (W:World)(b:Nat)(v:Value)(bs l:List UInt8)(y:bs.length<=999999999)(J:l.length<=999999999)(h:Own W b v bs):Calls prog 147 #[v,.string ⟨l.toArray⟩] W fun e f=>∃d,e=.returned d/\Own f b d (bs++(qaj 3 l.length++l))/\Below b W f:=by
 obtain⟨D,w,A,B,C⟩:=info_parts Tryz.infoU8;have q:Calls prog 146 #[v,.int .u8 3,.int .u64 l.length] W fun e f=>∃d,e=.returned d/\Own f b d (bs++qaj 3 l.length)/\Below b W f:=qbl W b v bs 3 l.length (by decide) (by omega) y h;have I:(qaj 3 l.length).length<=9:=by
  unfold qaj;have t:∀x k,(beF x k).length=k:=fun x k=>by induction k with|zero=>rfl|succ k E=>rw[beF,List.length_cons,E]
  repeat' split
  all_goals simp[t]
 have j:(⟨l.toArray⟩:ByteArray).size=l.length:=List.size_toArray ..;obtain⟨_,_,a,n,c,rfl⟩:=h;go_enter func147,ntmps147
 go_wp2_with (first
  |(go_at_call 146;refine q.mono ?_;rintro e H ⟨L,rfl,r,s⟩;obtain⟨G,p,o,F,c2,rfl⟩:=r;have i:Hid (Own H b (.slice o F c2) (bs++qaj 3 l.length)):=⟨G,p,_,_,_,rfl⟩;have m:=qaa s)
  |(at_builtin;refine wpList_append_own_string _ rfl _ _ 66 9 rfl b 5 D underlying66 underlying9 w A B C _ _ _ rfl i.out.1 ⟨l.toArray⟩ rfl (by rw[j,List.length_append];unfold maxLen;omega) (by rw[j,List.length_append];omega) i.out.2.1 ?_;intro d M z u K;have g:=qaa (qaL i.out z u)))
 go_ret;rw[List.append_assoc] at g;exact⟨_,rfl,g.out.1,m.out.trans g.out.2⟩

def qa2 (x:Nat):List UInt8:=if x<32 then [UInt8.ofNat (160+x)] else if x<=255 then 217::beF x 1 else if x<=65535 then 218::beF x 2 else 219::beF x 4

def qg2 (W:World)(base e:Nat)(v:Value)(bs:List UInt8):Prop:=Own W base v bs/\v.ownBlock≠some e/\e<W.heap.size
def qg5 (base e:Nat)(W W':World):Prop:=Below base W W'/\W'.heap[e]? = W.heap[e]?
theorem qg5.trans {A B C:World}(h:qg5 base e A B)(k:qg5 base e B C):qg5 base e A C:=⟨h.1.trans k.1,k.2.trans h.2⟩
theorem qb0 {c:Nat}(h:qg2 W base e (.slice a n c) bs)(p:qav b=u)(m:W'.ownsRow base 5 1 v' (bs.length+1) (bs.map qav++[u]))(f:(W.alloc (Obj.cells #[u] 5)).grownBy W' (Value.slice a n c).ownBlock)(d:v'.ownBlock=(Value.slice a n c).ownBlock\/v'.ownBlock=some (W.alloc (Obj.cells #[u] 5)).heap.size):qg2 W' base e v' (bs++[b])/\qg5 base e W W':=by
 obtain⟨⟨l,j,_⟩,i,k⟩:=h;have g:=qax j l p m f;have o:=f.size;simp at o;refine⟨⟨g.1,?_,by omega⟩,g.2,?_⟩
 ·rcases d with d|d
  ·rw[d];exact i
  rw[d];simp;omega
 rw[f.block e (by simp;omega) (fun x=>i x.symm)];exact((Below.refl W.heap.size W).alloc (Nat.le_refl _) _).block e k
theorem qdv (h:qg2 W' base e v' (bs++[b])/\qg5 base e W W')(a:qg2 W2 base e v2 ((bs++[b])++ys))(c:qg5 base e W' W2)(k:b::ys=zs):qg2 W2 base e v2 (bs++zs)/\qg5 base e W W2:=by
 subst k;refine⟨?_,h.2.trans c⟩;rw[List.append_assoc] at a;exact a
theorem qbT (W:World)(d e:Nat)(v:Value)(bs:List UInt8)(x w:Nat)(_hx:x<18446744073709551616)(L:w<=8)(J:bs.length<=1000000000)(h:qg2 W d e v bs):Calls prog 168 #[v,.int .u64 x,.int .i64 w] W fun r o=>∃i,r=.returned i/\qg2 o d e i (bs++beF x w)/\qg5 d e W o:=by
 obtain⟨E,A,B,C,D⟩:=info_parts Tryz.infoU8;obtain⟨a,n,c,rfl⟩:=h.1.2.2;have b:=qaa h;go_enter func168,ntmps168;go_wp2
 go_loopg [0,7] w (fun g y z wr=>∃(f:List UInt8) (a n c:_),y=.slice a n c/\z=.int .i64 ((g:Int)-1)/\g<=w/\f.length<=1000000000+(w-g)/\Hid (qg2 wr d e (.slice a n c) f)/\Hid (qg5 d e W wr)/\Hid (f++beF x g=bs++beF x w))
 case atStart=>exact⟨bs,a,n,c,rfl,by go_num,Nat.le_refl _,by omega,b,⟨Below.refl _ _,rfl⟩,rfl⟩
 case round =>
  obtain⟨f,a,n,c,rfl,rfl,I,M,b,j,l⟩:=hrel;have H:=b.out.1.2.1
  cases gk with
  |zero =>
   go_wp2;go_ret;have k:f=bs++beF x w:=by have:=l.out;simpa [beF] using this
   subst k;exact⟨_,rfl,b.out,j.out⟩
  |succ k =>
   go_wp2_with (first
    |(at_builtin;refine wpList_append_own_at _ rfl _ _ 66 rfl d 5 E (.int .u8 0) 1 1 underlying66 A B C D rfl (by decide) _ _ _ rfl (b.out.1.1.alloc _) ⟨wr.heap.size,0,none⟩ 1 1 [.int .u8 ((x:Int) / 2^(8*k)%256)] rfl rfl (qag _ _ _) (fun u q=>by simp at q;subst q;rfl) (by unfold maxLen;omega) (by omega) (by simp;omega) ?_;intro i N p t K s;have m:=qaa (qb0 b.out (qlF x k) p t s);obtain⟨G,F,rfl⟩:=ownsRow_succ p))
   go_roundg k
   case measure=>omega
   case rel =>
    refine⟨f++[UInt8.ofNat (x / 2^(8*k)%256)],_,_,_,rfl,by go_num,by omega,by rw[List.length_append];simp;omega,m.out.1,j.out.trans m.out.2,?_⟩;show _=_;have:=l.out;rw[beF] at this;rw[List.append_assoc];exact this

theorem qon:∀x:Fin 24,bits .or .u8 96 (x.val:Int)=((96+x.val:Nat):Int):=by decide
theorem qun (W:World)(b e:Nat)(v:Value)(bs:List UInt8)(x:Nat)(R:x<4294967296)(Q:bs.length<=999999999)(h:qg2 W b e v bs):Calls prog 146 #[v,.int .u8 3,.int .u64 x] W fun r G=>∃j,r=.returned j/\qg2 G b e j (bs++qaj 3 x)/\qg5 b e W G:=by
 obtain⟨B,w,y,z,A⟩:=info_parts Tryz.infoU8;have P:=h.1.2.1;obtain⟨a,n,c,rfl⟩:=h.1.2.2;have k:=qaa h;by_cases s:x<24
 ·have p:Hid (qaj 3 x=[UInt8.ofNat (96+x)]):=by show _=_;unfold qaj;rw[if_pos s]
  have J:=qon ⟨x,s⟩;simp only[] at J;have N:Hid (qav (UInt8.ofNat (96+x))=.int .u8 (bits .or .u8 96 (x:Int))):=by show _=_;rw[J,qaQ _ (by omega)]
  have O:Hid (qav (UInt8.ofNat (96+x))=.int .u8 (96+(x:Int))):=by show _=_;rw[qaQ _ (by omega)];simp
  go_enter func146,ntmps146
  go_wp2_with (first
   |(at_builtin;refine wpList_append_own_at _ rfl _ _ 66 rfl b 5 B (.int .u8 0) 1 1 underlying66 w y z A rfl (by decide) _ _ _ rfl (k.out.1.1.alloc _) ⟨W.heap.size,0,none⟩ 1 1 [.int .u8 (bits .or .u8 96 (x:Int))] rfl rfl (qag _ _ _) (fun u f=>by simp at f;subst f;rfl) (by unfold maxLen;omega) (by omega) (by simp;omega) ?_;intro j g d m E l;have i:=qaa (qb0 k.out N.out d m l);obtain⟨D,C,rfl⟩:=ownsRow_succ d)
   |(at_builtin;refine wpList_append_own_at _ rfl _ _ 66 rfl b 5 B (.int .u8 0) 1 1 underlying66 w y z A rfl (by decide) _ _ _ rfl (k.out.1.1.alloc _) ⟨W.heap.size,0,none⟩ 1 1 [.int .u8 (96+(x:Int))] rfl rfl (qag _ _ _) (fun u f=>by simp at f;subst f;rfl) (by unfold maxLen;omega) (by omega) (by simp;omega) ?_;intro j g d m E l;have i:Hid (qg2 g b e j (bs++[UInt8.ofNat (96+x)])/\qg5 b e W g):=qb0 k.out O.out d m l;obtain⟨D,C,rfl⟩:=ownsRow_succ d))
  go_ret;rw[p.out];exact⟨_,rfl,i.out⟩
 by_cases F:x<=255
 ·have p:Hid (qaj 3 x=120::beF x 1):=by show _=_;unfold qaj;rw[if_neg s];rw[if_pos F];rfl
  go_enter func146,ntmps146
  go_wp2_with (first
   |(at_builtin;refine wpList_append_own_at _ rfl _ _ 66 rfl b 5 B (.int .u8 0) 1 1 underlying66 w y z A rfl (by decide) _ _ _ rfl (k.out.1.1.alloc _) ⟨W.heap.size,0,none⟩ 1 1 [.int .u8 120] rfl rfl (qag _ _ _) (fun u f=>by simp at f;subst f;rfl) (by unfold maxLen;omega) (by omega) (by simp;omega) ?_;intro j g d m E l;have i:Hid (qg2 g b e j (bs++[120])/\qg5 b e W g):=qb0 k.out rfl d m l;obtain⟨D,C,rfl⟩:=ownsRow_succ d)
   |(go_at_call 168;refine(qbT _ b e _ _ x 1 (by omega) (by omega) (by simp;omega) i.out.1).mono ?_;rintro r M ⟨L,rfl,o,t⟩;obtain⟨H,K,I,rfl⟩:=o.1.2.2;have q:=qaa (qdv i.out o t (p.out.symm))))
  go_ret;exact⟨_,rfl,q.out⟩
 by_cases c2:x<=65535
 ·have p:Hid (qaj 3 x=121::beF x 2):=by show _=_;unfold qaj;rw[if_neg s];rw[if_neg F];rw[if_pos c2];rfl
  go_enter func146,ntmps146
  go_wp2_with (first
   |(at_builtin;refine wpList_append_own_at _ rfl _ _ 66 rfl b 5 B (.int .u8 0) 1 1 underlying66 w y z A rfl (by decide) _ _ _ rfl (k.out.1.1.alloc _) ⟨W.heap.size,0,none⟩ 1 1 [.int .u8 121] rfl rfl (qag _ _ _) (fun u f=>by simp at f;subst f;rfl) (by unfold maxLen;omega) (by omega) (by simp;omega) ?_;intro j g d m E l;have i:Hid (qg2 g b e j (bs++[121])/\qg5 b e W g):=qb0 k.out rfl d m l;obtain⟨D,C,rfl⟩:=ownsRow_succ d)
   |(go_at_call 168;refine(qbT _ b e _ _ x 2 (by omega) (by omega) (by simp;omega) i.out.1).mono ?_;rintro r M ⟨L,rfl,o,t⟩;obtain⟨H,K,I,rfl⟩:=o.1.2.2;have q:=qaa (qdv i.out o t (p.out.symm))))
  go_ret;exact⟨_,rfl,q.out⟩
 have p:Hid (qaj 3 x=122::beF x 4):=by show _=_;unfold qaj;rw[if_neg s];rw[if_neg F];rw[if_neg c2];rw[if_pos (by omega)];rfl
 go_enter func146,ntmps146
 go_wp2_with (first
  |(at_builtin;refine wpList_append_own_at _ rfl _ _ 66 rfl b 5 B (.int .u8 0) 1 1 underlying66 w y z A rfl (by decide) _ _ _ rfl (k.out.1.1.alloc _) ⟨W.heap.size,0,none⟩ 1 1 [.int .u8 122] rfl rfl (qag _ _ _) (fun u f=>by simp at f;subst f;rfl) (by unfold maxLen;omega) (by omega) (by simp;omega) ?_;intro j g d m E l;have i:Hid (qg2 g b e j (bs++[122])/\qg5 b e W g):=qb0 k.out rfl d m l;obtain⟨D,C,rfl⟩:=ownsRow_succ d)
  |(go_at_call 168;refine(qbT _ b e _ _ x 4 (by omega) (by omega) (by simp;omega) i.out.1).mono ?_;rintro r M ⟨L,rfl,o,t⟩;obtain⟨H,K,I,rfl⟩:=o.1.2.2;have q:=qaa (qdv i.out o t (p.out.symm))))
 go_ret;exact⟨_,rfl,q.out⟩
theorem qoT (W:World)(b e:Nat)(v:Value)(bs l:List UInt8)(z:bs.length<=999999999)(I:l.length<=999999999)(h:qg2 W b e v bs):Calls prog 147 #[v,.string ⟨l.toArray⟩] W fun r j=>∃g,r=.returned g/\Own j b g (bs++(qaj 3 l.length++l))/\qg5 b e W j:=by
 obtain⟨E,y,B,C,D⟩:=info_parts Tryz.infoU8;have t:=qun W b e v bs l.length (by omega) z h;have H:(qaj 3 l.length).length<=9:=by
  unfold qaj;have w:∀x k,(beF x k).length=k:=fun x k=>by induction k with|zero=>rfl|succ k F=>rw[beF,List.length_cons,F]
  repeat' split
  all_goals simp[w]
 have p:(⟨l.toArray⟩:ByteArray).size=l.length:=List.size_toArray ..;obtain⟨a,n,c,rfl⟩:=h.1.2.2;go_enter func147,ntmps147
 go_wp2_with (first
  |(go_at_call 146;refine t.mono ?_;rintro r q ⟨L,rfl,m,u⟩;obtain⟨G,K,c2,rfl⟩:=m.1.2.2;have d:=qaa m;have s:=qaa u)
  |(at_builtin;refine wpList_append_own_string _ rfl _ _ 66 9 rfl b 5 E underlying66 underlying9 y B C D _ _ _ rfl d.out.1.1 ⟨l.toArray⟩ rfl (by rw[p,List.length_append];unfold maxLen;omega) (by rw[p,List.length_append];omega) d.out.1.2.1 ?_;intro g i A o J;have f:Hid ((Own i b g ((bs++qaj 3 l.length)++l)/\Below b q i)/\i.heap[e]? = q.heap[e]?):=⟨qaL d.out.1 A o,o.block e d.out.2.2 (fun x=>d.out.2.1 x.symm)⟩))
 go_ret;rw[List.append_assoc] at f;exact⟨_,rfl,f.out.1.1,s.out.trans ⟨f.out.1.2,f.out.2⟩⟩

def qb8 (x:Nat):List UInt8:=if x<=255 then 196::beF x 1 else if x<=65535 then 197::beF x 2 else 198::beF x 4
def qbB (x:Nat):List UInt8:=if x<16 then [UInt8.ofNat (144+x)] else if x<=65535 then 220::beF x 2 else 221::beF x 4
def qb2 (x:Nat):List UInt8:=if x<16 then [UInt8.ofNat (128+x)] else if x<=65535 then 222::beF x 2 else 223::beF x 4

end
section
open Go.RowKit
theorem qad.same {b:Nat}{s0 s:Src}(c:qad W b s0)(q:s.ia=s0.ia)(o:s.bs=s0.bs)(h:qad V b s)(e:∀k,k<W.heap.size->V'.heap[k]? = V.heap[k]?):qad V' b s:=by
 have n:=ltA c.row;refine⟨(e b n).trans h.row,fun i d => ?_,h.len,h.le⟩;obtain⟨g,off,a,f,j⟩:=h.inp i d;obtain⟨m,t,f1,r,l⟩:=c.inp i (by rw[<-o];exact d);have p:g=m:=by
  rw[q,f1] at a;injection a with a;injection a with a;exact a.symm
 refine⟨g,off,a,f,?_⟩;rw[World.cell?_of_block (w:=V) (e g (by rw[p];exact block_lt_of_cell l))];exact j

def qhb (bs:List UInt8)(lim:Int):Nat->Nat->List UInt8->Except (Int×Int) (List UInt8×Nat)
 |0,p,acc=>.ok (acc,p)
 |k+1,p,acc=>match bs[p]? with
  |none=>.error (9,p)
  |some c=>if (p:Int)=lim then .error (8,p) else qhb bs lim k (p+1) (acc++[c])

def qb1 (V:World)(t:TypeId)(size:Nat)(F:Nat->Prop)(v:Value)(n:Nat)(xs:List Value):Prop :=
 xs.length=n*size/\((v=.slice none 0 0/\n=0)\/∃g cap cur,v=.slice (some ⟨g,0,none⟩) n cap/\F g/\V.heap[g]? = some (.cells cur t (0,0))/\n<=cap/\cap<=maxLen/\cur.size=cap*size/\cur.toList.take (n*size)=xs)
def qai:Nat->World->(Nat->Prop)->Value->DataW Unit->Prop
 |0,_,_,_,_=>False
 |k+1,V,F,v,d=>match d with
  |.nil=>v=.iface 187 (.agg #[])
  |.lit (.bool b)=>v=.iface 258 (.bool b)
  |.lit (.int .i64 z)=>v=.iface 260 (.int .i64 z) /\ -9223372036854775808<=z/\z<=9223372036854775807
  |.lit (.string l)=>v=.iface 220 (.string ⟨l.toArray⟩)
  |.ptr (.lit (.string l))=>∃u,v=.iface 222 u/\qb1 V 5 1 F u l.length (l.map qav)
  |.agg ds=>∃u xs,v=.iface 224 u/\qb1 V 104 1 F u ds.length xs/\∀(i:Nat) (x:Value) (d:DataW Unit),xs[i]? = some x->ds[i]? = some d->qai k V F x d
  |.map es=>∃u xs,v=.iface 226 u/\qb1 V 228 2 F u es.length xs/\∀(i:Nat) (key:Lit) (d:DataW Unit),es[i]? = some (key,d)->∃l x,key=.string l/\xs[2*i]? = some (.string ⟨l.toArray⟩)/\xs[2*i+1]? = some x/\qai k V F x d
  |_=>False
theorem qb1.same {t:TypeId}(h:qb1 V t size F v n xs)(j:∀k,F k->G k)(m:∀k,F k->V'.heap[k]? = V.heap[k]?):qb1 V' t size G v n xs:=by
 obtain⟨f,a⟩:=h;refine⟨f,?_⟩;rcases a with a|⟨g,c,d,e,b,l,i⟩
 ·exact .inl a
 exact .inr ⟨g,c,d,e,j g b,(m g b).trans l,i⟩
theorem qai.same (a:∀k,F k->G k)(b:∀k,F k->V'.heap[k]? = V.heap[k]?):∀{k:Nat} {v:Value} {d:DataW Unit},qai k V F v d->qai k V' G v d
 |0,_,_,h=>h
 |k+1,v,d,h=>by
  unfold qai at h ⊢;split at h
  ·exact h
  ·exact h
  ·exact h
  ·exact h
  ·obtain⟨u,e,c⟩:=h;exact⟨u,e,c.same a b⟩
  ·obtain⟨u,j,e,c,g⟩:=h;exact⟨u,j,e,c.same a b,fun i x d f q=>qai.same a b (g i x d f q)⟩
  ·obtain⟨u,j,e,c,g⟩:=h;refine⟨u,j,e,c.same a b,fun i key d f => ?_⟩;obtain⟨l,x,m,n,o,p⟩:=g i key d f;exact⟨l,x,m,n,o,qai.same a b p⟩
  exact h
theorem qai.more:∀{k m:Nat} {v:Value} {d:DataW Unit},k<=m->qai k V F v d->qai m V F v d
 |0,_,_,_,_,h=>h.elim
 |k+1,0,_,_,hm,_=>absurd hm (by omega)
 |k+1,m+1,v,d,hm,h=>by
  unfold qai at h ⊢;split at h
  ·exact h
  ·exact h
  ·exact h
  ·exact h
  ·exact h
  ·obtain⟨u,f,e,c,b⟩:=h;exact⟨u,f,e,c,fun i x d a p=>qai.more (by omega) (b i x d a p)⟩
  ·obtain⟨u,f,e,c,b⟩:=h;refine⟨u,f,e,c,fun i key d a => ?_⟩;obtain⟨l,x,g,j,n,o⟩:=b i key d a;exact⟨l,x,g,j,n,qai.more (by omega) o⟩
  exact h

theorem qdt (z:Int):∀w:World,(Instr.typeAssert (.iface 260 (.int .i64 z)) 104 258 true).run prog w=.ok (.tuple #[.bool false,.bool false]) w:=fun w=>by kernel_rfl
theorem qfJ (z:Int):∀w:World,(Instr.typeAssert (.iface 260 (.int .i64 z)) 104 260 true).run prog w=.ok (.tuple #[.int .i64 z,.bool true]) w:=fun w=>by kernel_rfl
def qid (z:Int):List UInt8:=if z<0 then qbo z else qbf z.toNat
def qhB (z:Int):List UInt8:=if z<0 then qaj 1 (-1-z).toNat else qaj 0 z.toNat
theorem qoW (W:World)(b:Nat)(v:Value)(bs:List UInt8)(z:Int)(G : -9223372036854775808<=z)(H:z<=9223372036854775807)(q:bs.length<=999999999)(h:Own W b v bs):Calls prog 121 #[v,qpT z] W fun e d=>∃f,e=.returned f/\Own d b f (bs++qhB z)/\Below b W d:=by
 unfold qpT;obtain⟨y,w,a,n,c,rfl⟩:=h;have m:Hid (Own W b (.slice a n c) bs):=⟨y,w,a,n,c,rfl⟩
 have p:Hid (qhB z=if z<0 then qaj 1 (-1-z).toNat else qaj 0 z.toNat):=rfl;by_cases o:z<0
 ·have g:Hid (qhB z=qaj 1 (-1-z).toNat):=by show _=_;rw[p.out,if_pos o]
  obtain⟨x,rfl⟩:∃x:Nat,z = -1-(x:Int):=⟨(-1-z).toNat,by omega⟩
  have t:=fun V h=>qbl V b (.slice a n c) bs 1 x (by omega) (by omega) q h;have u:∀V,Own V b (.slice a n c) bs->Calls prog 146 #[.slice a n c,.int .u8 1,.int .u64 (-1-(-1-(x:Int)))] V fun e d=>∃f,e=.returned f/\Own d b f (bs++qaj 1 x)/\Below b V d:=by
   rw[show(-1-(-1-(x:Int)))=x by omega];exact t
  rw[show(-1-(-1-(x:Int))).toNat=x by omega] at g;have B:=qdt (-1-(x:Int));have C:=qfJ (-1-(x:Int));go_enter func121,ntmps121
  go_wp2_with (first
   |(go_at_call 146;refine(u _ m.out).mono ?_;rintro e E ⟨D,rfl,i,l⟩;obtain⟨j,k,r,A,s,rfl⟩:=i))
  go_ret;rw[g.out];exact⟨_,rfl,⟨j,k,_,_,_,rfl⟩,l⟩
 have g:Hid (qhB z=qaj 0 z.toNat):=by show _=_;rw[p.out,if_neg o]
 obtain⟨x,rfl⟩:∃x:Nat,z=x:=⟨z.toNat,by omega⟩
 have F:decide ((x:Int)<0)=false:=by simp
 have B:=qdt (x:Int);have C:=qfJ (x:Int);go_enter func121,ntmps121
 go_wp2_with (first
  |(go_at_call 146;refine(qbl _ b _ bs 0 x (by omega) (by omega) q m.out).mono ?_;rintro e E ⟨D,rfl,i,l⟩;obtain⟨j,k,r,A,s,rfl⟩:=i))
 go_ret;rw[g.out];exact⟨_,rfl,⟨j,k,_,_,_,rfl⟩,l⟩

theorem qip (W:World):Own W W.heap.size (.slice none 0 0) []:=by
 refine⟨?_,Nat.le_refl _,none,0,0,rfl⟩;exact World.ownsRow_nil ..

def qfm (f:Int):Bool:=f==1||f==2||f==3
theorem qcX (f:Int)(w:World):Calls prog 83 #[.int .i64 f] w fun e a=>e=.returned (.bool (qfm f))/\a=w:=by
 go_enter func83,ntmps83;go_wp2
 all_goals go_ret
 all_goals exact⟨by simp[qfm, *],rfl⟩
theorem qha (f:Int)(w:World):Calls prog 16 #[.int .i64 f] w fun e a=>e=.returned (.bool (qfm f))/\a=w:=by
 go_enter func16,ntmps16;go_wp2
 all_goals go_ret
 all_goals exact⟨by simp[qfm, *],rfl⟩
def qf4 (i o d b:Int):Bool:=qfm i&&qfm o&&decide (1<=d)&&decide (d<=16)&&decide (1<=b)&&decide (b<=4096)
theorem qjH (i o d b:Int)(w:World):Calls prog 57 #[.int .i64 i,.int .i64 o,.int .i64 d,.int .i64 b] w fun e j=>e=.returned (.bool (qf4 i o d b))/\j=w:=by
 cases c:qfm i
 ·have a:Hid (qf4 i o d b=false):=by show _=_;unfold qf4;rw[c];rfl
  go_enter func57,ntmps57;have h:True:=trivial
  go_wp2_with (first
   |(go_at_call 83;clear h;refine(qcX _ _).mono ?_;rintro e g ⟨rfl,rfl⟩))
  go_ret;exact⟨by rw[a.out];rfl,rfl⟩
 cases f:qfm o
 ·have a:Hid (qf4 i o d b=false):=by show _=_;unfold qf4;rw[c,f];rfl
  go_enter func57,ntmps57
  go_wp2_with (first
   |(go_at_call 83;refine(qcX _ _).mono ?_;rintro e g ⟨rfl,rfl⟩))
  go_ret;exact⟨by rw[a.out];rfl,rfl⟩
 have a:Hid (qf4 i o d b=(decide (1<=d)&&decide (d<=16)&&decide (1<=b)&&decide (b<=4096))):=by show _=_;unfold qf4;rw[c,f];rfl
 go_enter func57,ntmps57
 go_wp2_with (first
  |(go_at_call 83;refine(qcX _ _).mono ?_;rintro e g ⟨rfl,rfl⟩))
 all_goals go_ret
 all_goals refine⟨?_,rfl⟩
 all_goals rw[a.out]
 all_goals simp[*]
 all_goals (intros;omega)

end
section
def qal (c:UInt8):List UInt8->List (List UInt8)
 |[]=>[[]]
 |x::r=>if x==c then []::qal c r else match qal c r with
  |h::t=>(x::h)::t
  |[]=>[[x]]
theorem qfD (c:UInt8)(l:List UInt8):qal c l≠[]:=by
 cases l with
 |nil=>simp[qal]
 |cons x r =>
  unfold qal;split
  ·simp
  split<;>simp
theorem qdG (c:UInt8):∀l:List UInt8,(∀x,x∈l->(x==c)=false)->qal c l=[l]
 |[],_=>rfl
 |x::r,h=>by
  have a:=h x (List.mem_cons_self ..);have b:=qdG c r (fun y d=>h y (List.mem_cons_of_mem _ d));simp only[qal,a,b];rfl
theorem qdk (c:UInt8):∀(a b:List UInt8),(∀x,x∈a->(x==c)=false)->qal c (a++c::b)=a::qal c b
 |[],b,_=>by simp[qal]
 |x::a,b,h=>by
  have d:=h x (List.mem_cons_self ..);have e:=qdk c a b (fun y f=>h y (List.mem_cons_of_mem _ f));simp only[List.cons_append,qal,d,e];rfl
theorem qfh (h:Lib.indexByte l c = -1):qal c l=[l]:=by
 refine qdG c l (fun x b => ?_);obtain⟨k,a,rfl⟩:=List.getElem_of_mem b;have:=Lib.indexByte_none h k;rw[beq_eq_false_iff_ne];intro e;exact this (by rw[List.getElem?_eq_getElem a,e])
theorem qfk {o:Nat}(h:Lib.indexByte l c=o):o<l.length/\qal c l=l.take o::qal c (l.drop (o+1)):=by
 obtain⟨a,b⟩:=Lib.indexByte_some h;have i:o<l.length:=ltL a;refine⟨i,?_⟩;have e:l=l.take o++c::l.drop (o+1):=by
  have d:l[o]=c:=(List.getElem?_eq_some_iff.1 a).2;rw[<-d];simp
 conv=>lhs;rw[e]
 refine qdk c _ _ (fun x j => ?_);obtain⟨k,f,rfl⟩:=List.getElem_of_mem j;have g:k<o:=by simp at f;omega
 rw[beq_eq_false_iff_ne];intro e;refine b k g ?_;rw[List.getElem?_eq_getElem (by omega)];rw[List.getElem_take] at e;rw[e]

end
section
open Go.RowKit Go.Shelf
section
attribute [local go_sem] Oper.semAt_some
theorem qeR (s c:ByteArray)(w:World):Calls prog 84 #[.string s,.string c] w fun e a =>
   e=.returned (.func (.func 131) #[] #[.pointer (some ⟨w.heap.size+1,0,none⟩),.pointer (some ⟨w.heap.size,0,none⟩),.pointer (some ⟨w.heap.size+1+1,0,none⟩)]) /\
   a=((w.alloc (.cells #[.string s] 9)).alloc (.cells #[.string c] 9)).alloc (.cells #[.int .i64 0] 3):=by
 go_enter func84,ntmps84;go_wp2;go_ret;exact⟨rfl,rfl⟩
abbrev Str:={s:ByteArray // s.size<=2000}
def lst (x:Str):List UInt8:=x.1.data.toList
structure qfY (k:Nat)(c:UInt8)(W:World)(r:ByteArray):Prop where
 rest:W.heap[k]? = some (.cells #[.string r] 9)
 sep:W.heap[k+1]? = some (.cells #[.string ⟨#[c]⟩] 9)
 save:W.heap[k+1+1]? = some (.cells #[.int .i64 0] 3)
theorem qfY.keep (h:qfY k c W r)(a:qc0 k (k+3) W W'):qfY k c W' r :=
 ⟨(a.same _ (by omega) (by omega)).trans h.rest,(a.same _ (by omega) (by omega)).trans h.sep,(a.same _ (by omega) (by omega)).trans h.save⟩
theorem qfY.store (h:qfY k c W r)(r':ByteArray):qfY k c (W.setCell ⟨k,0,none⟩ (.string r')) r' :=
 ⟨by rw[heap_setCell_same W _ _ _ _ _ h.rest];rfl,(heap_setCell_other W _ _ _ (by simp)).trans h.sep,(heap_setCell_other W _ _ _ (by simp;omega)).trans h.save⟩
theorem qiI (W:World)(k o:Nat)(v:Value):W.grownBy (W.setCell ⟨k,o,none⟩ v) (some k) :=
 ⟨rfl,rfl,rfl,by simp[World.setCell],fun i _ a=>heap_setCell_other W _ _ _ (by intro e;exact a (by rw[e]))⟩
theorem qr4 (s:ByteArray)(o:Nat):(s.extract 0 o).data.toList=s.data.toList.take o:=by
 rw[Lib.extract_data];simp
theorem qsf (s:ByteArray)(o:Nat):(s.extract o s.size).data.toList=s.data.toList.drop o:=by
 exact Lib.extract_to_end s o
theorem qpe (s:ByteArray)(o:Nat)(h:o<=s.size):(s.extract 0 o).size=o:=by simp[ByteArray.size_extract];omega
theorem qjr (s:ByteArray)(o:Nat):(s.extract o s.size).size=s.size-o:=by simp[ByteArray.size_extract]
theorem qiV (n:Nat)(k:Nat)(c:UInt8)(s:Str)(w:World)(d:qfY k c w s.1):qw1 Fence.wide n prog 131 #[.pointer (some ⟨k+1,0,none⟩),.pointer (some ⟨k,0,none⟩),.pointer (some ⟨k+1+1,0,none⟩)]
   (fun x:Str=>#[.string x.1]) k (k+3) k (fun xs=>xs.map lst=qal c (lst s)) (fun pre=>∃r,qal c (lst s)=pre.map lst++r) w:=by
 intro aa J N W u S T U R;have ag:=ltA d.save;have a:Hid (qfY k c W s.1):=⟨(u.block _ (by omega)).trans d.rest,(u.block _ (by omega)).trans d.sep,(u.block _ (by omega)).trans d.save⟩
 have L:=qaa S;have ac:=qaa T;have D:Hid (∀pre x j,J pre j->YieldAt Fence.wide (n-1) prog aa #[.string x.1] j fun e i =>
   (e=.returned (.bool true)/\J (pre++[x]) i/\qc0 k (k+3) j i)\/(e=.returned (.bool false)/\N (pre++[x]) i)):=U
 have K:=qaa R;have ad:=qab a.out.sep 0;refine callsIn_of_wp func131 rfl trivial ?_ rfl;simp only[ntmps131,List.size_toArray,List.length_cons,List.length_nil,Nat.reduceAdd,Nat.reduceSub,Array.replicate_succ,Array.replicate_zero,List.push_toArray,List.append_toArray,List.nil_append,List.cons_append]
 gi_wp2
 gi_loopg [7,8] 2001 (fun g x al wr=>∃(pre:List Str) (r:Str),r.1.size<g/\Hid (qal c (lst s)=pre.map lst++qal c (lst r))/\Hid (qfY k c wr r.1)/\Hid (J pre wr))
 case atStart=>exact⟨[],s,by have:=s.2;omega,rfl,a,K⟩
 case round =>
  obtain⟨pre,r,hg,z,a,C⟩:=hrel;have V:=qab a.out.rest 0;have X:=qab a.out.sep 0;have ae:=qab a.out.save 0;rcases Int.lt_or_le (Lib.indexByte (lst r) c) 0 with ah|y
  ·have F:Lib.indexByte (lst r) c = -1:=by have:=Lib.indexByte_ge (lst r) c;omega
   have A:Hid (qal c (lst s)=pre.map lst++[lst r]):=by show _=_;rw[z.out,qfh F]
   have Y:Lib.indexByte r.1.data.toList c = -1:=F;obtain⟨Q,ab,O,P,I,t⟩:=D.out pre r wr C.out
   gi_wp2_with fail
   refine⟨trivial,(fun h=>by cases h),?_⟩;refine(callsIn_wide.2 (Tryz.strings_Index_one r.1 c _)).mono ?_;rintro e w2 ⟨rfl,rfl⟩
   gi_wp2
   refine⟨(fun h=>by cases h),t.mono ?_⟩;rintro e m (⟨rfl,p,E⟩|⟨rfl,q⟩)
   ·gi_wp2
    go_end0;exact⟨⟨_,rfl⟩,.inl ⟨pre++[r],by rw[A.out];simp,p⟩⟩
   gi_wp2
   go_end0;exact⟨⟨_,rfl⟩,.inr ⟨pre++[r],⟨[],by rw[A.out];simp⟩,q⟩⟩
  obtain⟨o,G⟩:=Int.eq_ofNat_of_zero_le y;obtain⟨Z,l⟩:=qfk G;have Y:Lib.indexByte r.1.data.toList c=o:=G;have ai:o<r.1.size:=by simpa [lst] using Z
  have aj:=r.2;have M:Hid (qal c (lst s)=pre.map lst++((lst r).take o::qal c ((lst r).drop (o+1)))):=by show _=_;rw[z.out,l]
  have v:(r.1.extract 0 o).size<=2000:=by rw[qpe _ _ (by omega)];omega
  have H:(r.1.extract (o+1) r.1.size).size<=2000:=by rw[qjr];omega
  have B:Hid (qal c (lst s)=(pre++[(⟨r.1.extract 0 o,v⟩:Str)]).map lst++qal c (lst (⟨r.1.extract (o+1) r.1.size,H⟩:Str))):=by
   show _=_;rw[M.out];simp only[List.map_append,List.map_cons,List.map_nil,lst];rw[qr4,qsf,List.append_assoc];rfl
  have ak:(r.1.extract (o+1) r.1.size).size<r.1.size:=by rw[qjr];omega
  obtain⟨Q,ab,O,P,I,t⟩:=D.out pre ⟨r.1.extract 0 o,v⟩ wr C.out;dsimp only at I
  gi_wp2_with fail
  refine⟨trivial,(fun h=>by cases h),?_⟩;refine(callsIn_wide.2 (Tryz.strings_Index_one r.1 c _)).mono ?_;rintro e w2 ⟨rfl,rfl⟩
  gi_wp2
  refine⟨(fun h=>by cases h),t.mono ?_⟩;rintro e m (⟨rfl,p,E⟩|⟨rfl,q⟩)
  ·have b:=qaa (a.out.keep E);have V:=qab b.out.rest 0;have X:=qab b.out.sep 0;have af:=frozen_of_row m k 0 _ _ b.out.rest;have f:=qaa p
   gi_wp2
   gi_roundg ((r.1.extract (o+1) r.1.size).size+1)
   case measure=>omega
   case rel=>exact⟨pre++[⟨r.1.extract 0 o,v⟩],⟨r.1.extract (o+1) r.1.size,H⟩,Nat.lt_succ_self _,B,b.out.store _,L.out _ _ _ f.out (qiI m k 0 _)⟩
  have f:=qaa q
  gi_wp2
  refine bodyPost_ret (results_none rfl _ _ _) rfl ?_;exact⟨⟨_,rfl⟩,.inr ⟨_,⟨_,B.out⟩,f.out⟩⟩
end

end
end Go.Proofs.YtcokgepdckkjdaaGreatDoor
