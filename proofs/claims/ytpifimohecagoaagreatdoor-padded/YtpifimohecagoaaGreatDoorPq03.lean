import Derived.BigCall
import Derived.Maps.AppendAt
import Derived.Deep.OwnRows
import Derived.RangeFuncBox
import Derived.RangeFuncOwn
import Derived.RangeFuncFrom
import Derived.Below
import Derived.Test.YtpifimohecagoaaGreatDoorPq02
set_option maxRecDepth 100000
set_option maxHeartbeats 8000000
namespace Go.Proofs.YtpifimohecagoaaGreatDoor
open Go.Proofs.Tryz
variable{W W' w:World}{a:Option Addr}{base hi lo n:Nat}{u v v':Value}{xs:List Value}{bs ys:List UInt8}{b:UInt8}
section
open Go.RowKit
structure qcR(w:World)(a:Option Addr)(B:List Int):Prop where
 at_:∀i,i<B.length->∃b off,a=some ⟨b,off,none⟩/\b<w.heap.size/\∀j (h':j<B.length),w.cell? ⟨b,off+j,none⟩=some (.int .i64 B[j])
theorem qcR.below{w':World}{B:List Int}(h:qcR w a B)(c:Below w.heap.size w w'):qcR w' a B :=
 ⟨λi g=>by
  obtain⟨b,off,f,d,e⟩:=h.at_ i g;exact⟨b,off,f,Nat.lt_of_lt_of_le d c.size,λj k=>(c.cell (p:=⟨b,_,none⟩) d).trans (e j k)⟩⟩
theorem qcp{B:Nat}{a:World}(h:Below B a w)(n:Nat):Below B a (w.drewN n):=h.trans ⟨rfl,rfl,rfl,Nat.le_refl _,λ_ _=>rfl⟩
def qhA(B:List Int)(i:Nat):Int:=if i=0 then 0 else B.getD (i-1) 0
def pOk(B:List Int)(i:Nat):Bool:=decide (qhA B i<B.getD i 0/\B.getD i 0<=65536)
def rOk(B:List Int)(i:Nat):Bool:=decide (1<=B.getD i 0/\B.getD i 0<=65536/\(0<i->B.getD (i-1) 0<B.getD i 0))
def qaN(B:List Int):Bool:=decide (B.length<=8)&&(List.range B.length).all (pOk B)
def qaF(B:List Int):Bool:=(List.range B.length).all (rOk B)&&decide (B.length<=8)
theorem qoE(B:List Int):qaN B=qaF B:=by
 unfold qaN qaF;rw[Bool.and_comm];congr 1;rw[Bool.eq_iff_iff,List.all_eq_true,List.all_eq_true];constructor
 ·intro h i c;have d:∀k,k<B.length->pOk B k=true:=λk b=>h k (List.mem_range.2 b);have pos:∀k,k<B.length->1<=B.getD k 0:=by
   intro k
   induction k with
   |zero=>intro b;have:=of_decide_eq_true (d 0 b);unfold qhA at this;simp only[if_pos]at this;omega
   |succ k g =>
    intro b;have:=of_decide_eq_true (d (k+1) b);unfold qhA at this;rw[if_neg (by omega)]at this;have:=g (by omega);simp only[Nat.add_sub_cancel]at *;omega
  have e:=List.mem_range.1 c;have a:=of_decide_eq_true (d i e);have f:=pos i e;refine decide_eq_true ⟨f,a.2,λj=>?_⟩;unfold qhA at a;rw[if_neg (by omega)]at a;exact a.1
 intro h i c;have a:=of_decide_eq_true (h i c);refine decide_eq_true ⟨?_,a.2.1⟩;unfold qhA;split
 ·omega
 exact a.2.2 (by omega)
theorem qj9(a:Option Addr)(q:Nat)(B:List Int)(t:B.length<=maxLen)(w:World)(s:qcR w a B):Calls prog 41 #[.slice a B.length q] w λe A=>e=.returned (.bool (qaN B))/\A=w:=by
 unfold maxLen at t;have n:=qab s;by_cases m:B.length<=8
 ·have r:¬(8:Int)<B.length:=by omega
  go_enter func41,ntmps41;go_wp2
  go_loopg[11,3,5] B.length (λg x y z wr=>∃k:Nat,Hid (k+g=B.length)/\x=.int .i64 k/\y=.int .i64 (qhA B k)/\w=wr/\Hid (∀i,i<k->pOk B i=true))
  case atStart=>exact⟨0,by show _=_;omega,rfl,rfl,rfl,λi h=>by omega⟩
  case round =>
   obtain⟨k,d,rfl,rfl,rfl,l⟩:=hrel
   cases gk with
   |zero =>
    have v:¬(k:Int)<B.length:=by have:=d.out;omega
    have c:Hid (qaN B=true):=by
     show _=_;unfold qaN;rw[decide_eq_true m,Bool.true_and,List.all_eq_true];exact λi h=>l.out i (by have:=List.mem_range.1 h;have:=d.out;omega)
    go_wp2;go_ret;exact⟨by rw[c.out];rfl,rfl⟩
   |succ g =>
    have v:(k:Int)<B.length:=by have:=d.out;omega
    obtain⟨b,off,rfl,E,u⟩:=n.out.at_ k (by omega);have F:=u k (by omega);have j:Hid (B.getD k 0=B[k]):=by show _=_;rw[List.getD_eq_getElem?_getD,List.getElem?_eq_getElem (by omega)];rfl
    have o:Hid (qhA B (k+1)=B[k]):=by show _=_;unfold qhA;rw[if_neg (by omega)];exact j.out
    have f:Hid (pOk B k=decide (qhA B k<B[k]/\B[k]<=65536)):=by show _=_;unfold pOk;rw[j.out]
    generalize B[k]=x at *;generalize qhA B k=p at *;by_cases C:x<=p
    ·have c:Hid (qaN B=false):=by
      show _=_;unfold qaN;rw[Bool.and_eq_false_iff];right;rw[List.all_eq_false];exact⟨k,List.mem_range.2 (by omega),by rw[f.out,decide_eq_false (by omega)];decide⟩
     go_wp2;go_ret;exact⟨by rw[c.out];rfl,rfl⟩
    by_cases D:65536<x
    ·have c:Hid (qaN B=false):=by
      show _=_;unfold qaN;rw[Bool.and_eq_false_iff];right;rw[List.all_eq_false];exact⟨k,List.mem_range.2 (by omega),by rw[f.out,decide_eq_false (by omega)];decide⟩
     go_wp2;go_ret;exact⟨by rw[c.out];rfl,rfl⟩
    go_wp2;go_roundg g
    case measure=>omega
    case rel =>
     refine⟨k+1,by show _=_;have:=d.out;omega,by go_num,by rw[o.out],rfl,λi h=>?_⟩;by_cases e:i=k
     ·subst e;rw[f.out];exact decide_eq_true (by omega)
     exact l.out i (by omega)
 have r:(8:Int)<B.length:=by omega
 have c:Hid (qaN B=false):=by show _=_;unfold qaN;rw[decide_eq_false m];rfl
 go_enter func41,ntmps41;go_wp2;go_ret;exact⟨by rw[c.out];rfl,rfl⟩
theorem qhH(a:Option Addr)(t:Nat)(B:List Int)(D:B.length<=maxLen)(w:World)(C:qcR w a B):Calls prog 23 #[.slice a B.length t] w λe G=>e=.returned (.bool (qaF B))/\Below w.heap.size w G:=by
 unfold maxLen at D;have s:=qab C;go_enter func23,ntmps23;go_wp2
 go_loopg[3] B.length (λg x wr=>∃k:Nat,Hid (k+g=B.length)/\x=.int .i64 k/\Below w.heap.size w wr/\Hid (∀i,i<k->rOk B i=true))
 case atStart=>exact⟨0,by show _=_;omega,rfl,Below.refl _ _,λi l=>by omega⟩
 case round =>
  obtain⟨k,h,rfl,d,m⟩:=hrel
  cases gk with
  |zero =>
   have F:¬(k:Int)<B.length:=by have:=h.out;omega
   have c:Hid (qaF B=decide ((B.length:Int)<=8)):=by
    show _=_;unfold qaF;have:(List.range B.length).all (rOk B)=true:=by
     rw[List.all_eq_true];exact λi l=>m.out i (by have:=List.mem_range.1 l;have:=h.out;omega)
    rw[this,Bool.true_and];exact decide_eq_decide.2 (by omega)
   go_wp2;go_ret;exact⟨by rw[c.out];rfl,d⟩
  |succ g =>
   have F:(k:Int)<B.length:=by have:=h.out;omega
   obtain⟨b,off,rfl,I,q⟩:=(s.out.below d).at_ k (by omega);have E:=q k (by omega);have p:Hid (B.getD k 0=B[k]):=by show _=_;rw[List.getD_eq_getElem?_getD,List.getElem?_eq_getElem (by omega)];rfl
   have L:(0:Int)<=k:=by omega
   rcases Nat.eq_zero_or_pos k with r|r
   ·subst r;rw[Nat.add_zero]at E;have f:Hid (rOk B 0=decide (1<=B[0]/\B[0]<=65536)):=by show _=_;unfold rOk;rw[p.out];exact decide_eq_decide.2 (by omega)
    generalize B[0]=x at *;have K:decide ((0:Int)<0)=false:=rfl;by_cases n:x<1
    ·have c:Hid (qaF B=false):=by
      show _=_;unfold qaF;rw[Bool.and_eq_false_iff];left;rw[List.all_eq_false];exact⟨0,List.mem_range.2 (by omega),by rw[f.out,decide_eq_false (by omega)];decide⟩
     go_wp2
     go_quiet (fail)
     go_wp2;go_ret;exact⟨by rw[c.out];rfl,qcp d _⟩
    have v:=decide_eq_false n;by_cases o:65536<x
    ·have c:Hid (qaF B=false):=by
      show _=_;unfold qaF;rw[Bool.and_eq_false_iff];left;rw[List.all_eq_false];exact⟨0,List.mem_range.2 (by omega),by rw[f.out,decide_eq_false (by omega)];decide⟩
     go_wp2
     go_quiet (fail)
     go_wp2;go_ret;exact⟨by rw[c.out];rfl,qcp d _⟩
    have z:=decide_eq_false o;go_wp2
    go_quiet (fail)
    go_wp2;go_roundg g
    case measure=>omega
    case rel =>
     refine⟨0+1,by show _=_;have:=h.out;omega,by go_num,qcp d _,λi l=>?_⟩;by_cases e:i=0
     ·subst e;rw[f.out];exact decide_eq_true (by omega)
     exact m.out i (by omega)
   obtain⟨j,rfl⟩:∃j,k=j+1:=⟨k-1,by omega⟩
   have J:=q j (by omega);have f:Hid (rOk B (j+1)=decide (1<=B[j+1]/\B[j+1]<=65536/\B[j]<B[j+1])):=by
    show _=_;unfold rOk;rw[p.out];have u:B.getD (j+1-1) 0=B[j]:=by rw[List.getD_eq_getElem?_getD,Nat.add_sub_cancel,List.getElem?_eq_getElem (by omega)];rfl
    rw[u];exact decide_eq_decide.2 (by omega)
   generalize B[j+1]=x at *;generalize B[j]=y at *;have M:(0:Int)<((j+1:Nat):Int):=by omega
   by_cases n:x<1
   ·have c:Hid (qaF B=false):=by
     show _=_;unfold qaF;rw[Bool.and_eq_false_iff];left;rw[List.all_eq_false];exact⟨j+1,List.mem_range.2 (by omega),by rw[f.out,decide_eq_false (by omega)];decide⟩
    go_wp2
    go_quiet (fail)
    go_wp2;go_ret;exact⟨by rw[c.out];rfl,qcp d _⟩
   have v:=decide_eq_false n;by_cases o:65536<x
   ·have c:Hid (qaF B=false):=by
     show _=_;unfold qaF;rw[Bool.and_eq_false_iff];left;rw[List.all_eq_false];exact⟨j+1,List.mem_range.2 (by omega),by rw[f.out,decide_eq_false (by omega)];decide⟩
    go_wp2
    go_quiet (fail)
    go_wp2;go_ret;exact⟨by rw[c.out];rfl,qcp d _⟩
   have z:=decide_eq_false o;by_cases A:x<=y
   ·have c:Hid (qaF B=false):=by
     show _=_;unfold qaF;rw[Bool.and_eq_false_iff];left;rw[List.all_eq_false];exact⟨j+1,List.mem_range.2 (by omega),by rw[f.out,decide_eq_false (by omega)];decide⟩
    go_wp2
    go_quiet (fail)
    go_wp2;go_ret;exact⟨by rw[c.out];rfl,qcp d _⟩
   have H:=decide_eq_false A;go_wp2
   go_quiet (fail)
   go_wp2;go_roundg g
   case measure=>omega
   case rel =>
    refine⟨j+1+1,by show _=_;have:=h.out;omega,by go_num,qcp d _,λi l=>?_⟩;by_cases e:i=j+1
    ·subst e;rw[f.out];exact decide_eq_true (by omega)
    exact m.out i (by omega)

theorem Tryz.infoU8:(prog.info? 5).map (λi=>(i.zero,i.size,i.bytes))=some (some (.int .u8 0),1,1):=by kernel_rfl
def qax(b:UInt8):Value:=.int .u8 b.toNat
theorem qbE{e:TypeId}{size:Nat}(c:W.ownsRow base e size v n xs){g:Nat}(h:v.ownBlock=some g):base<=g:=by
 rcases c.2 with⟨a,_⟩|⟨i,d,f,rfl,b,_⟩
 ·subst a;cases h
 cases h;exact b
theorem qag(w:World)(cs:Array Value)(t:TypeId):∀(j:Nat) (u:Value),cs.toList[j]?=some u->(w.alloc (.cells cs t)).cell? ((⟨w.heap.size,0,none⟩:Addr).add j)=some u:=λj u a=>by
 have e:(⟨w.heap.size,0,none⟩:Addr).add j=⟨w.heap.size,j,none⟩:=by by_cases h:j=0<;>simp[Addr.add,h]
 rw[e,cell_of_row _ _ _ _ _ _ (qac _ _)];simpa using a
def Own(W:World)(base:Nat)(v:Value)(bs:List UInt8):Prop:=W.ownsRow base 5 1 v bs.length (bs.map qax)/\base<=W.heap.size/\∃a n c,v=.slice a n c
def beF(x:Nat):Nat->List UInt8
 |0=>[]
 |k+1=>UInt8.ofNat (x/2^(8*k)%256)::beF x k
theorem qnq(x k:Nat):qax (UInt8.ofNat (x/2^(8*k)%256))=.int .u8 ((x:Int)/2^(8*k)%256):=by
 unfold qax;have e:(UInt8.ofNat (x/2^(8*k)%256)).toNat=x/2^(8*k)%256:=by
  rw[UInt8.toNat_ofNat'];have:x/2^(8*k)%256<256:=Nat.mod_lt _ (by decide);omega
 rw[e];congr 1
theorem qbR(h:W'.ownsRow base 5 1 v' (ys.length+1) (ys.map qax++[u]))(a:qax b=u):W'.ownsRow base 5 1 v' (ys++[b]).length ((ys++[b]).map qax):=by
 rw[List.length_append,List.map_append];subst a;exact h
theorem qa3{V:World}{t:TypeId}{z:Nat}(b:Below base W V)(c:V.ownsRow base t z v n xs)(a:V.grownBy W' v.ownBlock)(f:base<=V.heap.size):Below base W W' :=
 b.trans ⟨a.os,a.tape,a.output,a.size,λi d=>a.block i (by omega) (λe=>by have:=qbE c e.symm;omega)⟩
theorem qar(W:World)(b:Nat)(v:Value)(bs:List UInt8)(x w:Nat)(_hx:x<18446744073709551616)(J:w<=8)(H:bs.length<=1000000000)(h:Own W b v bs):Calls prog 128 #[v,.int .u64 x,.int .i64 w] W λe o=>∃j,e=.returned j/\Own o b j (bs++beF x w)/\Below b W o:=by
 obtain⟨D,s,A,B,C⟩:=info_parts Tryz.infoU8;obtain⟨t,i,a,n,c,rfl⟩:=h;have f:=qab t;go_enter func128,ntmps128;go_wp2
 go_loopg[0,7] w (λg y z wr=>∃(d:List UInt8) (a n c:_),y=.slice a n c/\z=.int .i64 ((g:Int)-1)/\g<=w/\d.length<=1000000000+(w-g)/\b<=wr.heap.size/\Hid (wr.ownsRow b 5 1 (.slice a n c) d.length (d.map qax))/\Hid (Below b W wr)/\Hid (d++beF x g=bs++beF x w))
 case atStart=>exact⟨bs,a,n,c,rfl,by go_num,Nat.le_refl _,by omega,i,f,Below.refl _ _,rfl⟩
 case round =>
  obtain⟨d,a,n,c,rfl,rfl,G,K,i,f,l,m⟩:=hrel
  cases gk with
  |zero =>
   go_wp2;go_ret;have e:d=bs++beF x w:=by have:=m.out;simpa[beF]using this
   subst e;exact⟨_,rfl,⟨f.out,i,_,_,_,rfl⟩,l.out⟩
  |succ k =>
   go_wp2_with(first
    |(at_builtin;refine wpList_append_own _ rfl _ _ 35 rfl b 5 D (.int .u8 0) 1 1 underlying35 s A B C rfl (by decide) _ _ _ rfl (f.out.alloc _) ⟨wr.heap.size,0,none⟩ 1 1 [.int .u8 ((x:Int)/2^(8*k)%256)] rfl rfl (qag _ _ _) (λu r=>by simp at r;subst r;rfl) (by unfold maxLen;omega) (by omega) (by simp;omega) ?_;intro j L q p I;obtain⟨F,E,rfl⟩:=ownsRow_succ q))
   go_roundg k
   case measure=>omega
   case rel =>
    refine⟨d++[UInt8.ofNat (x/2^(8*k)%256)],_,_,_,rfl,by go_num,by omega,by rw[List.length_append];simp;omega,?_,qbR q (qnq x k),qa3 (l.out.trans ((Below.refl b wr).alloc i _)) (f.out.alloc _) p (by simp;omega),?_⟩
    ·have:=p.size;simp at this;omega
    show _=_;have:=m.out;rw[beF]at this;rw[List.append_assoc];exact this

def qbm(x:Nat):List UInt8 :=
 if x<128 then[UInt8.ofNat x]else if x<=255 then 204::beF x 1 else if x<=65535 then 205::beF x 2 else if x<=4294967295 then 206::beF x 4 else 207::beF x 8
def qbs(z:Int):List UInt8 :=
 if -32<=z then[UInt8.ofNat (z%256).toNat]else if -128<=z then 208::beF (z%18446744073709551616).toNat 1 else if -32768<=z then 209::beF (z%18446744073709551616).toNat 2 else if -2147483648<=z then 210::beF (z%18446744073709551616).toNat 4 else 211::beF (z%18446744073709551616).toNat 8
def qaj(s x:Nat):List UInt8 :=
 if x<24 then[UInt8.ofNat (32*s+x)]else if x<=255 then UInt8.ofNat (32*s+24)::beF x 1 else if x<=65535 then UInt8.ofNat (32*s+25)::beF x 2 else if x<=4294967295 then UInt8.ofNat (32*s+26)::beF x 4 else UInt8.ofNat (32*s+27)::beF x 8
theorem qbb(x:Nat)(h:x<256):qax (UInt8.ofNat x)=.int .u8 (x:Int):=by
 unfold qax;rw[UInt8.toNat_ofNat',Nat.mod_eq_of_lt (by omega)]
theorem qa0{c:Nat}(g:base<=W.heap.size)(h:W.ownsRow base 5 1 (.slice a n c) bs.length (bs.map qax))(i:qax b=u)(e:W'.ownsRow base 5 1 v' (bs.length+1) (bs.map qax++[u]))(d:(W.alloc (Obj.cells #[u] 5)).grownBy W' (Value.slice a n c).ownBlock):Own W' base v' (bs++[b])/\Below base W W':=by
 have f:=qbR e i;obtain⟨k,j,rfl⟩:=ownsRow_succ e;refine⟨⟨f,?_,_,_,_,rfl⟩,qa3 ((Below.refl base W).alloc g _) (h.alloc _) d (by simp;omega)⟩;have:=d.size;simp at this;omega
theorem qaP{W2:World}{zs:List UInt8}{v2:Value}(h:Own W' base v' (bs++[b])/\Below base W W')(a:Own W2 base v2 ((bs++[b])++ys))(c:Below base W' W2)(e:b::ys=zs):Own W2 base v2 (bs++zs)/\Below base W W2:=by
 subst e;refine⟨?_,h.2.trans c⟩;rw[List.append_assoc]at a;exact a
theorem qmo(W:World)(b:Nat)(v:Value)(bs:List UInt8)(x:Nat)(Q:x<18446744073709551616)(P:bs.length<=999999999)(h:Own W b v bs):Calls prog 110 #[v,.int .u64 x] W λe M=>∃y,e=.returned y/\Own M b y (bs++qbm x)/\Below b W M:=by
 obtain⟨F,B,C,D,E⟩:=info_parts Tryz.infoU8;obtain⟨O,A,a,n,c,rfl⟩:=h;have j:=qab O;by_cases z:x<128
 ·have l:Hid (qbm x=UInt8.ofNat x::[]):=by show _=_;unfold qbm;rw[if_pos z]
  go_enter func110,ntmps110
  go_wp2_with(first
    |(at_builtin;refine wpList_append_own _ rfl _ _ 35 rfl b 5 F (.int .u8 0) 1 1 underlying35 B C D E rfl (by decide) _ _ _ rfl (j.out.alloc _) ⟨W.heap.size,0,none⟩ 1 1 [.int .u8 (x:Int)] rfl rfl (qag _ _ _) (λu f=>by simp at f;subst f;rfl) (by unfold maxLen;omega) (by omega) (by simp;omega) ?_;intro y g d k J;obtain⟨I,H,rfl⟩:=ownsRow_succ d;have i:Hid (Own g b _ (bs++[UInt8.ofNat x])/\Below b W g):=qa0 A j.out (qbb _ (by omega)) d k))
  go_ret;rw[l.out];exact⟨_,rfl,i.out⟩
 skip
 by_cases G:x<=255
 ·have l:Hid (qbm x=204::beF x 1):=by show _=_;unfold qbm;rw[if_neg z];rw[if_pos G]
  go_enter func110,ntmps110
  go_wp2_with(first
    |(at_builtin;refine wpList_append_own _ rfl _ _ 35 rfl b 5 F (.int .u8 0) 1 1 underlying35 B C D E rfl (by decide) _ _ _ rfl (j.out.alloc _) ⟨W.heap.size,0,none⟩ 1 1 [.int .u8 204] rfl rfl (qag _ _ _) (λu f=>by simp at f;subst f;rfl) (by unfold maxLen;omega) (by omega) (by simp;omega) ?_;intro y g d k J;obtain⟨I,H,rfl⟩:=ownsRow_succ d;have i:Hid (Own g b _ (bs++[204])/\Below b W g):=qa0 A j.out (rfl) d k)
    |(go_at_call 128;refine(qar _ b _ _ (x) 1 (by omega) (by omega) (by simp;omega) i.out.1).mono ?_;rintro e L ⟨K,rfl,q,t⟩;obtain⟨r,s,o,w,p,rfl⟩:=q;have m:=qab (qaP i.out ⟨r,s,o,w,p,rfl⟩ t (l.out.symm))))
  go_ret;exact⟨_,rfl,m.out⟩
 skip
 by_cases c2:x<=65535
 ·have l:Hid (qbm x=205::beF x 2):=by show _=_;unfold qbm;rw[if_neg z];rw[if_neg G];rw[if_pos c2]
  go_enter func110,ntmps110
  go_wp2_with(first
    |(at_builtin;refine wpList_append_own _ rfl _ _ 35 rfl b 5 F (.int .u8 0) 1 1 underlying35 B C D E rfl (by decide) _ _ _ rfl (j.out.alloc _) ⟨W.heap.size,0,none⟩ 1 1 [.int .u8 205] rfl rfl (qag _ _ _) (λu f=>by simp at f;subst f;rfl) (by unfold maxLen;omega) (by omega) (by simp;omega) ?_;intro y g d k J;obtain⟨I,H,rfl⟩:=ownsRow_succ d;have i:Hid (Own g b _ (bs++[205])/\Below b W g):=qa0 A j.out (rfl) d k)
    |(go_at_call 128;refine(qar _ b _ _ (x) 2 (by omega) (by omega) (by simp;omega) i.out.1).mono ?_;rintro e L ⟨K,rfl,q,t⟩;obtain⟨r,s,o,w,p,rfl⟩:=q;have m:=qab (qaP i.out ⟨r,s,o,w,p,rfl⟩ t (l.out.symm))))
  go_ret;exact⟨_,rfl,m.out⟩
 skip
 by_cases N:x<=4294967295
 ·have l:Hid (qbm x=206::beF x 4):=by show _=_;unfold qbm;rw[if_neg z];rw[if_neg G];rw[if_neg c2];rw[if_pos N]
  go_enter func110,ntmps110
  go_wp2_with(first
    |(at_builtin;refine wpList_append_own _ rfl _ _ 35 rfl b 5 F (.int .u8 0) 1 1 underlying35 B C D E rfl (by decide) _ _ _ rfl (j.out.alloc _) ⟨W.heap.size,0,none⟩ 1 1 [.int .u8 206] rfl rfl (qag _ _ _) (λu f=>by simp at f;subst f;rfl) (by unfold maxLen;omega) (by omega) (by simp;omega) ?_;intro y g d k J;obtain⟨I,H,rfl⟩:=ownsRow_succ d;have i:Hid (Own g b _ (bs++[206])/\Below b W g):=qa0 A j.out (rfl) d k)
    |(go_at_call 128;refine(qar _ b _ _ (x) 4 (by omega) (by omega) (by simp;omega) i.out.1).mono ?_;rintro e L ⟨K,rfl,q,t⟩;obtain⟨r,s,o,w,p,rfl⟩:=q;have m:=qab (qaP i.out ⟨r,s,o,w,p,rfl⟩ t (l.out.symm))))
  go_ret;exact⟨_,rfl,m.out⟩
 skip
 have l:Hid (qbm x=207::beF x 8):=by show _=_;unfold qbm;rw[if_neg z];rw[if_neg G];rw[if_neg c2];rw[if_neg N]
 go_enter func110,ntmps110
 go_wp2_with(first
   |(at_builtin;refine wpList_append_own _ rfl _ _ 35 rfl b 5 F (.int .u8 0) 1 1 underlying35 B C D E rfl (by decide) _ _ _ rfl (j.out.alloc _) ⟨W.heap.size,0,none⟩ 1 1 [.int .u8 207] rfl rfl (qag _ _ _) (λu f=>by simp at f;subst f;rfl) (by unfold maxLen;omega) (by omega) (by simp;omega) ?_;intro y g d k J;obtain⟨I,H,rfl⟩:=ownsRow_succ d;have i:Hid (Own g b _ (bs++[207])/\Below b W g):=qa0 A j.out (rfl) d k)
   |(go_at_call 128;refine(qar _ b _ _ (x) 8 (by omega) (by omega) (by simp;omega) i.out.1).mono ?_;rintro e L ⟨K,rfl,q,t⟩;obtain⟨r,s,o,w,p,rfl⟩:=q;have m:=qab (qaP i.out ⟨r,s,o,w,p,rfl⟩ t (l.out.symm))))
 go_ret;exact⟨_,rfl,m.out⟩

theorem quR:∀(s:Fin 8) (x:Fin 32),bits .or .u8 ((s.val:Int)*32) (x.val:Int)=((32*s.val+x.val:Nat):Int):=by decide
theorem qe6(s x:Nat)(a:s<8)(b:x<32):qax (UInt8.ofNat (32*s+x))=.int .u8 (bits .or .u8 ((s:Int)*32) (x:Int)):=by
 rw[qbb _ (by omega)];have:=quR ⟨s,a⟩ ⟨x,b⟩;simp only[]at this;rw[this]
theorem qbw(W:World)(b:Nat)(v:Value)(bs:List UInt8)(s x:Nat)(D:s<8)(S:x<18446744073709551616)(R:bs.length<=999999999)(h:Own W b v bs):Calls prog 107 #[v,.int .u8 s,.int .u64 x] W λe O=>∃z,e=.returned z/\Own O b z (bs++qaj s x)/\Below b W O:=by
 obtain⟨H,C,E,F,G⟩:=info_parts Tryz.infoU8;obtain⟨Q,B,a,n,c,rfl⟩:=h;have j:=qab Q;by_cases A:x<24
 ·have l:Hid (qaj s x=UInt8.ofNat (32*s+x)::[]):=by show _=_;unfold qaj;rw[if_pos A]
  go_enter func107,ntmps107
  go_wp2_with(first
    |(at_builtin;refine wpList_append_own _ rfl _ _ 35 rfl b 5 H (.int .u8 0) 1 1 underlying35 C E F G rfl (by decide) _ _ _ rfl (j.out.alloc _) ⟨W.heap.size,0,none⟩ 1 1 [.int .u8 (bits .or .u8 ((s:Int)*32) (x:Int))] rfl rfl (qag _ _ _) (λu f=>by simp at f;subst f;rfl) (by unfold maxLen;omega) (by omega) (by simp;omega) ?_;intro z g d k L;obtain⟨K,J,rfl⟩:=ownsRow_succ d;have i:Hid (Own g b _ (bs++[UInt8.ofNat (32*s+x)])/\Below b W g):=qa0 B j.out (qe6 s _ D (by omega)) d k))
  go_ret;rw[l.out];exact⟨_,rfl,i.out⟩
 skip
 by_cases I:x<=255
 ·have l:Hid (qaj s x=UInt8.ofNat (32*s+24)::beF x 1):=by show _=_;unfold qaj;rw[if_neg A];rw[if_pos I]
  go_enter func107,ntmps107
  go_wp2_with(first
    |(at_builtin;refine wpList_append_own _ rfl _ _ 35 rfl b 5 H (.int .u8 0) 1 1 underlying35 C E F G rfl (by decide) _ _ _ rfl (j.out.alloc _) ⟨W.heap.size,0,none⟩ 1 1 [.int .u8 (bits .or .u8 ((s:Int)*32) 24)] rfl rfl (qag _ _ _) (λu f=>by simp at f;subst f;rfl) (by unfold maxLen;omega) (by omega) (by simp;omega) ?_;intro z g d k L;obtain⟨K,J,rfl⟩:=ownsRow_succ d;have i:Hid (Own g b _ (bs++[UInt8.ofNat (32*s+24)])/\Below b W g):=qa0 B j.out (qe6 s _ D (by omega)) d k)
    |(go_at_call 128;refine(qar _ b _ _ (x) 1 (by omega) (by omega) (by simp;omega) i.out.1).mono ?_;rintro e N ⟨M,rfl,q,w⟩;obtain⟨r,t,o,y,p,rfl⟩:=q;have m:=qab (qaP i.out ⟨r,t,o,y,p,rfl⟩ w (l.out.symm))))
  go_ret;exact⟨_,rfl,m.out⟩
 skip
 by_cases c2:x<=65535
 ·have l:Hid (qaj s x=UInt8.ofNat (32*s+25)::beF x 2):=by show _=_;unfold qaj;rw[if_neg A];rw[if_neg I];rw[if_pos c2]
  go_enter func107,ntmps107
  go_wp2_with(first
    |(at_builtin;refine wpList_append_own _ rfl _ _ 35 rfl b 5 H (.int .u8 0) 1 1 underlying35 C E F G rfl (by decide) _ _ _ rfl (j.out.alloc _) ⟨W.heap.size,0,none⟩ 1 1 [.int .u8 (bits .or .u8 ((s:Int)*32) 25)] rfl rfl (qag _ _ _) (λu f=>by simp at f;subst f;rfl) (by unfold maxLen;omega) (by omega) (by simp;omega) ?_;intro z g d k L;obtain⟨K,J,rfl⟩:=ownsRow_succ d;have i:Hid (Own g b _ (bs++[UInt8.ofNat (32*s+25)])/\Below b W g):=qa0 B j.out (qe6 s _ D (by omega)) d k)
    |(go_at_call 128;refine(qar _ b _ _ (x) 2 (by omega) (by omega) (by simp;omega) i.out.1).mono ?_;rintro e N ⟨M,rfl,q,w⟩;obtain⟨r,t,o,y,p,rfl⟩:=q;have m:=qab (qaP i.out ⟨r,t,o,y,p,rfl⟩ w (l.out.symm))))
  go_ret;exact⟨_,rfl,m.out⟩
 skip
 by_cases P:x<=4294967295
 ·have l:Hid (qaj s x=UInt8.ofNat (32*s+26)::beF x 4):=by show _=_;unfold qaj;rw[if_neg A];rw[if_neg I];rw[if_neg c2];rw[if_pos P]
  go_enter func107,ntmps107
  go_wp2_with(first
    |(at_builtin;refine wpList_append_own _ rfl _ _ 35 rfl b 5 H (.int .u8 0) 1 1 underlying35 C E F G rfl (by decide) _ _ _ rfl (j.out.alloc _) ⟨W.heap.size,0,none⟩ 1 1 [.int .u8 (bits .or .u8 ((s:Int)*32) 26)] rfl rfl (qag _ _ _) (λu f=>by simp at f;subst f;rfl) (by unfold maxLen;omega) (by omega) (by simp;omega) ?_;intro z g d k L;obtain⟨K,J,rfl⟩:=ownsRow_succ d;have i:Hid (Own g b _ (bs++[UInt8.ofNat (32*s+26)])/\Below b W g):=qa0 B j.out (qe6 s _ D (by omega)) d k)
    |(go_at_call 128;refine(qar _ b _ _ (x) 4 (by omega) (by omega) (by simp;omega) i.out.1).mono ?_;rintro e N ⟨M,rfl,q,w⟩;obtain⟨r,t,o,y,p,rfl⟩:=q;have m:=qab (qaP i.out ⟨r,t,o,y,p,rfl⟩ w (l.out.symm))))
  go_ret;exact⟨_,rfl,m.out⟩
 skip
 have l:Hid (qaj s x=UInt8.ofNat (32*s+27)::beF x 8):=by show _=_;unfold qaj;rw[if_neg A];rw[if_neg I];rw[if_neg c2];rw[if_neg P]
 go_enter func107,ntmps107
 go_wp2_with(first
   |(at_builtin;refine wpList_append_own _ rfl _ _ 35 rfl b 5 H (.int .u8 0) 1 1 underlying35 C E F G rfl (by decide) _ _ _ rfl (j.out.alloc _) ⟨W.heap.size,0,none⟩ 1 1 [.int .u8 (bits .or .u8 ((s:Int)*32) 27)] rfl rfl (qag _ _ _) (λu f=>by simp at f;subst f;rfl) (by unfold maxLen;omega) (by omega) (by simp;omega) ?_;intro z g d k L;obtain⟨K,J,rfl⟩:=ownsRow_succ d;have i:Hid (Own g b _ (bs++[UInt8.ofNat (32*s+27)])/\Below b W g):=qa0 B j.out (qe6 s _ D (by omega)) d k)
   |(go_at_call 128;refine(qar _ b _ _ (x) 8 (by omega) (by omega) (by simp;omega) i.out.1).mono ?_;rintro e N ⟨M,rfl,q,w⟩;obtain⟨r,t,o,y,p,rfl⟩:=q;have m:=qab (qaP i.out ⟨r,t,o,y,p,rfl⟩ w (l.out.symm))))
 go_ret;exact⟨_,rfl,m.out⟩

theorem qbS(W:World)(a:Nat)(v:Value)(bs:List UInt8)(z:Int)(w:Nat)(f:w<=8)(d:bs.length<=1000000000)(h:Own W a v bs):Calls prog 128 #[v,.int .u64 (IntKind.u64.wrap z),.int .i64 w] W λe b=>∃c,e=.returned c/\Own b a c (bs++beF (z%18446744073709551616).toNat w)/\Below a W b:=by
 have e:IntKind.u64.wrap z=(((z%18446744073709551616).toNat:Nat):Int):=by unfold IntKind.wrap;simp[IntKind.bits,IntKind.signed];omega
 rw[e];exact qar W a v bs _ w (by omega) f d h
theorem qm4(W:World)(b:Nat)(v:Value)(bs:List UInt8)(z:Int)(Q : -9223372036854775808<=z)(R:z<0)(P:bs.length<=999999999)(h:Own W b v bs):Calls prog 109 #[v,.int .i64 z] W λe M=>∃x,e=.returned x/\Own M b x (bs++qbs z)/\Below b W M:=by
 obtain⟨F,B,C,D,E⟩:=info_parts Tryz.infoU8;obtain⟨O,A,a,n,c,rfl⟩:=h;have j:=qab O;by_cases y : -32<=z
 ·have l:Hid (qbs z=UInt8.ofNat (z%256).toNat::[]):=by show _=_;unfold qbs;rw[if_pos y]
  go_enter func109,ntmps109
  go_wp2_with(first
    |(at_builtin;refine wpList_append_own _ rfl _ _ 35 rfl b 5 F (.int .u8 0) 1 1 underlying35 B C D E rfl (by decide) _ _ _ rfl (j.out.alloc _) ⟨W.heap.size,0,none⟩ 1 1 [.int .u8 (z%256)] rfl rfl (qag _ _ _) (λu f=>by simp at f;subst f;rfl) (by unfold maxLen;omega) (by omega) (by simp;omega) ?_;intro x g d k J;obtain⟨I,H,rfl⟩:=ownsRow_succ d;have i:Hid (Own g b _ (bs++[UInt8.ofNat (z%256).toNat])/\Below b W g):=qa0 A j.out ((qbb _ (by omega)).trans (by congr 1;omega)) d k))
  go_ret;rw[l.out];exact⟨_,rfl,i.out⟩
 skip
 by_cases G : -128<=z
 ·have l:Hid (qbs z=208::beF (z%18446744073709551616).toNat 1):=by show _=_;unfold qbs;rw[if_neg y];rw[if_pos G]
  go_enter func109,ntmps109
  go_wp2_with(first
    |(at_builtin;refine wpList_append_own _ rfl _ _ 35 rfl b 5 F (.int .u8 0) 1 1 underlying35 B C D E rfl (by decide) _ _ _ rfl (j.out.alloc _) ⟨W.heap.size,0,none⟩ 1 1 [.int .u8 208] rfl rfl (qag _ _ _) (λu f=>by simp at f;subst f;rfl) (by unfold maxLen;omega) (by omega) (by simp;omega) ?_;intro x g d k J;obtain⟨I,H,rfl⟩:=ownsRow_succ d;have i:Hid (Own g b _ (bs++[208])/\Below b W g):=qa0 A j.out (rfl) d k)
    |(go_at_call 128;refine(qbS _ b _ _ z 1 (by omega) (by simp;omega) i.out.1).mono ?_;rintro e L ⟨K,rfl,q,t⟩;obtain⟨r,s,o,w,p,rfl⟩:=q;have m:=qab (qaP i.out ⟨r,s,o,w,p,rfl⟩ t (l.out.symm))))
  go_ret;exact⟨_,rfl,m.out⟩
 skip
 by_cases c2 : -32768<=z
 ·have l:Hid (qbs z=209::beF (z%18446744073709551616).toNat 2):=by show _=_;unfold qbs;rw[if_neg y];rw[if_neg G];rw[if_pos c2]
  go_enter func109,ntmps109
  go_wp2_with(first
    |(at_builtin;refine wpList_append_own _ rfl _ _ 35 rfl b 5 F (.int .u8 0) 1 1 underlying35 B C D E rfl (by decide) _ _ _ rfl (j.out.alloc _) ⟨W.heap.size,0,none⟩ 1 1 [.int .u8 209] rfl rfl (qag _ _ _) (λu f=>by simp at f;subst f;rfl) (by unfold maxLen;omega) (by omega) (by simp;omega) ?_;intro x g d k J;obtain⟨I,H,rfl⟩:=ownsRow_succ d;have i:Hid (Own g b _ (bs++[209])/\Below b W g):=qa0 A j.out (rfl) d k)
    |(go_at_call 128;refine(qbS _ b _ _ z 2 (by omega) (by simp;omega) i.out.1).mono ?_;rintro e L ⟨K,rfl,q,t⟩;obtain⟨r,s,o,w,p,rfl⟩:=q;have m:=qab (qaP i.out ⟨r,s,o,w,p,rfl⟩ t (l.out.symm))))
  go_ret;exact⟨_,rfl,m.out⟩
 skip
 by_cases N : -2147483648<=z
 ·have l:Hid (qbs z=210::beF (z%18446744073709551616).toNat 4):=by show _=_;unfold qbs;rw[if_neg y];rw[if_neg G];rw[if_neg c2];rw[if_pos N]
  go_enter func109,ntmps109
  go_wp2_with(first
    |(at_builtin;refine wpList_append_own _ rfl _ _ 35 rfl b 5 F (.int .u8 0) 1 1 underlying35 B C D E rfl (by decide) _ _ _ rfl (j.out.alloc _) ⟨W.heap.size,0,none⟩ 1 1 [.int .u8 210] rfl rfl (qag _ _ _) (λu f=>by simp at f;subst f;rfl) (by unfold maxLen;omega) (by omega) (by simp;omega) ?_;intro x g d k J;obtain⟨I,H,rfl⟩:=ownsRow_succ d;have i:Hid (Own g b _ (bs++[210])/\Below b W g):=qa0 A j.out (rfl) d k)
    |(go_at_call 128;refine(qbS _ b _ _ z 4 (by omega) (by simp;omega) i.out.1).mono ?_;rintro e L ⟨K,rfl,q,t⟩;obtain⟨r,s,o,w,p,rfl⟩:=q;have m:=qab (qaP i.out ⟨r,s,o,w,p,rfl⟩ t (l.out.symm))))
  go_ret;exact⟨_,rfl,m.out⟩
 skip
 have l:Hid (qbs z=211::beF (z%18446744073709551616).toNat 8):=by show _=_;unfold qbs;rw[if_neg y];rw[if_neg G];rw[if_neg c2];rw[if_neg N]
 go_enter func109,ntmps109
 go_wp2_with(first
   |(at_builtin;refine wpList_append_own _ rfl _ _ 35 rfl b 5 F (.int .u8 0) 1 1 underlying35 B C D E rfl (by decide) _ _ _ rfl (j.out.alloc _) ⟨W.heap.size,0,none⟩ 1 1 [.int .u8 211] rfl rfl (qag _ _ _) (λu f=>by simp at f;subst f;rfl) (by unfold maxLen;omega) (by omega) (by simp;omega) ?_;intro x g d k J;obtain⟨I,H,rfl⟩:=ownsRow_succ d;have i:Hid (Own g b _ (bs++[211])/\Below b W g):=qa0 A j.out (rfl) d k)
   |(go_at_call 128;refine(qbS _ b _ _ z 8 (by omega) (by simp;omega) i.out.1).mono ?_;rintro e L ⟨K,rfl,q,t⟩;obtain⟨r,s,o,w,p,rfl⟩:=q;have m:=qab (qaP i.out ⟨r,s,o,w,p,rfl⟩ t (l.out.symm))))
 go_ret;exact⟨_,rfl,m.out⟩

structure qcC(lo hi:Nat)(W W':World):Prop where
 size:W.heap.size<=W'.heap.size
 same:∀k,lo<=k->k<hi->W'.heap[k]?=W.heap[k]?
theorem qcC.refl(lo hi:Nat)(W:World):qcC lo hi W W:=⟨Nat.le_refl _,λ_ _ _=>rfl⟩
theorem qcC.trans{A B C:World}(h:qcC lo hi A B)(k:qcC lo hi B C):qcC lo hi A C :=
 ⟨Nat.le_trans h.size k.size,λi a b=>(k.same i a b).trans (h.same i a b)⟩
theorem qcC.put(W:World)(r:Nat)(o:Obj)(h:hi<=r):qcC lo hi W (W.putObj r o) :=
 ⟨by simp,λk _ a=>World.putObj_heap_other (by omega)⟩
theorem qcC.below(h:Below hi W W'):qcC lo hi W W':=⟨h.size,λk _ a=>h.block k a⟩
def qjm{β:Type}(st:Nat)(I:β->World->Prop):Prop:=∀s W W',I s W->W.grownBy W' (some st)->I s W'
def qnl{β:Type}(B:Nat)(I:β->World->Prop):Prop:=∀s W k (o o':Obj),I s W->B<=k->W.heap[k]?=some o->o.isCells=false->I s (W.putObj k o')
def qyQ{α:Type}(F:Fence)(n:Nat)(P:Program)(g:Nat)(lb:Array Value)(encs:α->Array Value)(lo hi st:Nat)(S Sp:List α->Prop)(w:World):Prop :=
 ∀(l:Nat) (J Jx:List α->World->Prop) (W:World),Below w.heap.size w W->qjm st J->qjm st Jx ->
  (∀pre x W1,J pre W1->YieldAt F (n-1) P l (encs x) W1 λe W' =>
   (e=.returned (.bool true)/\J (pre++[x]) W'/\qcC lo hi W1 W')\/(e=.returned (.bool false)/\Jx (pre++[x]) W')) ->
  J [] W ->
  CallsIn F n P g (#[.func (.yield l) #[] #[]]++lb) W λe W'=>(∃v,e=.returned v)/\((∃xs,S xs/\J xs W')\/(∃pre,Sp pre/\Jx pre W'))
def qx1{α:Type}(lo hi:Nat)(I:List α->World->Prop)(Ix:Code->List α->World->Prop)(xs:List α)(W:World)(e:Exit)(_:Act)(W':World):Prop :=
 match e with
 |.normal=>KeepsOthers W W'/\qcC lo hi W W'/\I xs W'
 |.ret=>KeepsOthers W W'/\Ix .ret xs W'
 |.exit id=>KeepsOthers W W'/\Ix (.exit id) xs W'
 |_=>False
variable{F:Fence} {n:Nat} {P:Program}
theorem qcH{α:Type}{g:Operand}{ps:Array Tmp}{assign body:Code}{Q:Exit->Act->World->Prop}{a:Act}(al:F.round=none)(h1:1<=n){gf:Nat}{lb:Array Value}(hg:a.eval g=.func (.func gf) #[] lb)(ac:F.fn gf)(eg:∀args w,(callFunc gf args).run P w=.ok (.enter gf args) w){encs:α->Array Value}{st:Nat}(ar:st<w.heap.size)(aq:hi<=w.heap.size){S Sp:List α->Prop}{w0:World}(am:qyQ F (n-1) P gf lb encs lo hi st S Sp w0)(V:Below w0.heap.size w0 w)(ak:∀x,(encs x).size=ps.size)(I:List α->World->Prop)(z:Code->List α->World->Prop)(U:qjm st I)(ad:∀c,qjm st (z c))(L:qnl w.heap.size I)(M:∀c,qnl w.heap.size (z c))(h0:I [] w)(R:α->Act)(af:∀(l:Nat) (x:α) (W:World) (K:Act->World->Prop),K (R x) W ->
   assign.wpIn (F.inRound l) (n-1-1) P (Exit.then K (λ_ _ _=>False)) {tmps:=(ps.zip (encs x)).foldl (λap (p,v)=>ap.setIfInBounds p v) a.tmps,defers:=[]} W)(ag:∀(l:Nat) (pre:List α) (x:α) (W:World),I pre W->w.heap.size<W.heap.size->body.wpIn (F.inRound l) (n-1-1) P (qx1 lo hi I z (pre++[x]) W) (R x) W)(ah:∀(D:Nat) (H:List α) (W:World),w.heap.size<=D->S H->I H W->W.heap[D]?=some (.deferred (some []))->Q .normal {a with defers:={target:=.collected D,args:=#[]}::a.defers} W)(an:∀(D:Nat) (c:Code) (pre:List α) (W:World),w.heap.size<=D->Sp pre->z c pre W->W.heap[D]?=some (.deferred (some []))->c.wpIn F n P Q {a with defers:={target:=.collected D,args:=#[]}::a.defers} W):(Code.rangeFunc g ps assign body).wpIn F n P Q a w:=by
 refine wpIn_rangeFunc λfn ai=>?_;rw[al];generalize hD:w.heap.size=D at *;obtain⟨b,u⟩:∃b:LoopState->Option Code->Loop,b=λs p=>{state:=s,pending:=p,fn,tmps:=a.tmps,params:=ps,assign,body,defers:=D}:=⟨_,rfl⟩
 have N:=run_enterLoop_outer (P:=P) (w:=w) fn a.tmps ps assign body;rw[hD]at N;have ab:(w.alloc (.deferred (some []))).alloc (.loop {state:=.ready,pending:=none,fn,tmps:=a.tmps,params:=ps,assign,body,defers:=D})=(w.alloc (.deferred (some []))).alloc (.loop (b .ready none)):=by rw[u]
 rw[ab]at N;have T:Below D w ((w.alloc (.deferred (some []))).alloc (.loop (b .ready none))):=by
  rw[<-hD];exact((Below.refl _ w).alloc (Nat.le_refl _) _).alloc (by simp) _
 have l1:((w.alloc (.deferred (some []))).alloc (.loop (b .ready none))).heap[D+1]?=some (.loop (b .ready none)):=by
  have:=World.alloc_heap_new (w.alloc (.deferred (some []))) (.loop (b .ready none));rwa[World.size_alloc,hD]at this
 have d1:((w.alloc (.deferred (some []))).alloc (.loop (b .ready none))).heap[D]?=some (.deferred (some [])):=by
  have:=World.alloc_heap_new w (.deferred (some []));rw[hD]at this;exact(Below.heap_alloc _ _ _ (by simp;omega)).trans this
 have i1:I [] ((w.alloc (.deferred (some []))).alloc (.loop (b .ready none))):=by
  refine U _ w _ h0 ⟨rfl,rfl,rfl,by simp;omega,λk m _=>?_⟩;exact T.block k (by omega)
 generalize(w.alloc (.deferred (some []))).alloc (.loop (b .ready none))=W1 at *;refine⟨D+1,[{target:=.collected D,args:=#[]}],W1,{target:=.fn (.func gf) lb,args:=#[.func (.yield (D+1)) #[] #[]]},W1,gf,#[.func (.yield (D+1)) #[] #[]]++lb,W1,N,?_,?_,?_,λ_=>h1,?_⟩
 ·simp only[resolve,hg];simp[go_sem]
 ·intro f' X;simp[Target.leads]at X;subst X;exact ac
 ·simp[invoke,go_sem,eg]
 have keep:∀{A B:World} {k:Nat} {o:Obj},D<=k->A.grownBy B (some st)->A.heap[k]?=some o->B.heap[k]?=some o:=by
  intro A B k o m q Y;exact(q.block k (ltA Y) (by simp;omega)).trans Y
 refine(am (D+1) (λpre W=>I pre W/\W.heap[D+1]?=some (.loop (b .ready none))/\W.heap[D]?=some (.deferred (some [])))
  (λpre W=>∃c,z c pre W/\W.heap[D+1]?=some (.loop (b .done (some c)))/\W.heap[D]?=some (.deferred (some [])))
  W1 (V.trans (T.mono (by have:=V.size;omega))) (λs A B h q=>⟨U s A B h.1 q,keep (by omega) q h.2.1,keep (Nat.le_refl _) q h.2.2⟩)
  (λs A B h q=>by
   obtain⟨c,hc,f,y⟩:=h;exact⟨c,ad c s A B hc q,keep (by omega) q f,keep (Nat.le_refl _) q y⟩) ?_ ⟨i1,l1,d1⟩).mono ?_
 ·rintro pre x W ⟨E,f,y⟩;have aj:D+1<W.heap.size:=ltA f;have Z:=run_yield (P:=P) (args:=encs x) f (by rw[u];exact ak x);rw[u]at Z;refine⟨fn,_,assign,body,Z,roundIn_of_wpIn ai (af _ x W _ ⟨_,run_beginRound f (by rw[u]),?_⟩)⟩;generalize hWb:W.putObj (D+1) (.loop {b .ready none with state:=.busy})=Wb;have t:Wb.heap[D+1]?=some (.loop {b .ready none with state:=.busy}):=by rw[<-hWb];exact World.putObj_heap_same aj
  have aa:Wb.heap[D]?=some (.deferred (some [])):=by rw[<-hWb];exact(World.putObj_heap_other (by omega)).trans y
  have ao:I pre Wb:=by rw[<-hWb];exact L pre W (D+1) _ _ E (by omega) f rfl
  have kW:qcC lo hi W Wb:=by rw[<-hWb];exact qcC.put W (D+1) _ (by omega)
  refine wpIn_mono (ag _ pre x Wb ao (by have:=ltA t;omega)) ?_;have J:∀(i:Option Code) (d:World),KeepsOthers Wb d ->
    (Instr.endRound (D+1) i).run P d=.ok (.bool i.isNone) (d.putObj (D+1) (.loop (b (if i.isNone then .ready else .done) i)))/\d.heap[D+1]?=some (.loop {b .ready none with state:=.busy}) /\
    (d.putObj (D+1) (.loop (b (if i.isNone then .ready else .done) i))).heap[D+1]?=some (.loop (b (if i.isNone then .ready else .done) i)) /\
    (d.putObj (D+1) (.loop (b (if i.isNone then .ready else .done) i))).heap[D]?=some (.deferred (some [])):=by
   intro i d m;have r:=m.same _ _ t rfl;refine⟨?_,r,World.putObj_heap_same (ltA r),(World.putObj_heap_other (by omega)).trans (m.same _ _ aa rfl)⟩;have:=run_endRound (P:=P) i r;rw[u]at this ⊢;exact this
  intro e a3 d hp
  match e,hp with
  |.normal,⟨m,hr,hi3⟩ =>
   obtain⟨j,r,G,C⟩:=J none d m;exact⟨_,_,j,.inl ⟨rfl,⟨L _ d (D+1) _ _ hi3 (by omega) r rfl,G,C⟩,(kW.trans hr).trans (qcC.put d (D+1) _ (by omega))⟩⟩
  |.ret,⟨m,hi3⟩ =>
   obtain⟨j,r,G,C⟩:=J (some .ret) d m;exact⟨_,_,j,.inr ⟨rfl,.ret,M _ _ d (D+1) _ _ hi3 (by omega) r rfl,G,C⟩⟩
  |.exit id,⟨m,hi3⟩ =>
   obtain⟨j,r,G,C⟩:=J (some (.exit id)) d m;exact⟨_,_,j,.inr ⟨rfl,.exit id,M _ _ d (D+1) _ _ hi3 (by omega) r rfl,G,C⟩⟩
 rintro e O ⟨⟨v,rfl⟩,h⟩;rcases h with⟨H,hS,E,f,y⟩|⟨pre,ae,c,E,f,y⟩
 ·have j:=run_endLoop (P:=P) f (by rw[u];simp);rw[u]at j;exact⟨none,_,j,ah D H _ (Nat.le_refl _) hS (L _ O (D+1) _ _ E (by omega) f rfl) ((World.putObj_heap_other (by omega)).trans y)⟩
 have j:=run_endLoop (P:=P) f (by rw[u];simp);rw[u]at j;exact⟨some c,_,j,an D c pre _ (Nat.le_refl _) ae (M c _ O (D+1) _ _ E (by omega) f rfl) ((World.putObj_heap_other (by omega)).trans y)⟩

end
end Go.Proofs.YtpifimohecagoaaGreatDoor
