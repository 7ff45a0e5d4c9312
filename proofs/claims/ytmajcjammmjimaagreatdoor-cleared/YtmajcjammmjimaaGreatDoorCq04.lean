import Derived.Defers
import Derived.Test.YtmajcjammmjimaaGreatDoorCq03
set_option maxRecDepth 100000
set_option maxHeartbeats 8000000
set_option linter.all false
namespace Go.Proofs.YtmajcjammmjimaaGreatDoor
open Go.Proofs.Tryz
variable{V V' W W' W0:World}{N b g p so w:Nat}{fv v:Value}{s s':Src}{fn:Func}{P:Program}{R:Ending->World->Prop}{acc:List UInt8}{F G:Nat->Prop}
section
open Go.RowKit
def qkZ(x:Nat)(w:Int):Int:=if(w==1)=true then wrap64 (IntKind.i8.wrap x)else if(w==2)=true then wrap64 (IntKind.i16.wrap x)else if(w==4)=true then wrap64 (wrap32 x)else wrap64 x
theorem qhJ(x:Nat)(w:Int)(_hx:x<18446744073709551616)(W:World):Calls prog 226 #[.int .u64 x,.int .i64 w] W λe g=>e=.returned (.int .i64 (qkZ x w))/\g=W:=by
 obtain⟨R,b⟩:∃R,Hid (qkZ x w=R):=⟨_,show _=_ from rfl⟩
 rw[b.out];have a:=b.out;unfold qkZ at a;cases c:(w==1)
 ·rw[c,kac (by decide)]at a;cases d:(w==2)
  ·rw[d,kac (by decide)]at a;cases f:(w==4)
   ·rw[f,kac (by decide)]at a;have b:=qab a;go_enter func226,ntmps226;go_wp2;go_ret;rw[<-b.out];exact⟨rfl,rfl⟩
   rw[f,kag rfl]at a;have b:=qab a;go_enter func226,ntmps226;go_wp2;go_ret;rw[<-b.out];exact⟨rfl,rfl⟩
  rw[d,kag rfl]at a;have b:=qab a;go_enter func226,ntmps226;go_wp2;go_ret;rw[<-b.out];exact⟨rfl,rfl⟩
 rw[c,kag rfl]at a;have b:=qab a;go_enter func226,ntmps226;go_wp2;go_ret;rw[<-b.out];exact⟨rfl,rfl⟩
def nbF(so w:Int)(x:Nat)(pos:Int):Except (Int×Int) Int :=
 if(so==5)=true then .ok (qkZ x w)else if 9223372036854775807<x then .error (10,pos-1)else if(so==6)=true then .ok (-1-(x:Int))else .ok x
def qhy{α:Type}(W:World)(b:Nat)(s:Src)(val:α->Value)(r:Except (Int×Int) (α×Nat))(e:Ending)(W':World):Prop :=
 But b W W'/\match r with
 |.ok (x,p)=>e=.returned (val x)/\qad W' b {s with pos:=p}
 |.error (en,pl)=>qan en pl e/\∃p,qad W' b {s with pos:=p}
def quT(W:World)(b:Nat)(s:Src)(r:Except (Int×Int) Int)(e:Ending)(W':World):Prop :=
 But b W W'/\match r with
 |.ok z=>e=.returned (.int .i64 z)/\qad W' b s
 |.error (en,pl)=>qan en pl e/\∃p,qad W' b {s with pos:=p}
structure qm5(W0:World)(b N:Nat)(fv:Value)(so w:Int)(g:Nat)(s:Src)(W:World):Prop where
 src:qad W b s
 but:But b W0 W
 box:W.heap[N]?=some (.cells #[.pointer (some ⟨b,0,none⟩),fv] 117)
 hd:W.heap[N+1]?=some (.cells #[.int .i64 so,.int .i64 w,.int .u64 g] 153)
 ne:b<N
theorem qm5.step{so w:Int}(h:qm5 W0 b N fv so w g s W)(c:qad W' b s')(a:But b W W'):qm5 W0 b N fv so w g s' W' :=
 ⟨c,h.but.trans a,(a.block _ (ltA h.box) (by have:=h.ne;omega)).trans h.box,(a.block _ (ltA h.hd) (by have:=h.ne;omega)).trans h.hd,h.ne⟩
theorem qn7(a:Value)(c w:Int)(g:Nat)(h:qad W b s):qm5 W b W.heap.size a c w g s ((W.alloc (.cells #[.pointer (some ⟨b,0,none⟩),a] 117)).alloc (.cells #[.int .i64 c,.int .i64 w,.int .u64 g] 153)):=by
 have d:Below W.heap.size W ((W.alloc (.cells #[.pointer (some ⟨b,0,none⟩),a] 117)).alloc (.cells #[.int .i64 c,.int .i64 w,.int .u64 g] 153)):=(bwA).alloc (by simp) _;refine⟨h.below d,But.of_below d,?_,?_,(ltA h.row)⟩
 ·have:=qac W (.cells #[.pointer (some ⟨b,0,none⟩),a] 117);rw[<-this];exact(((kam (W.heap.size+1) (W.alloc (.cells #[.pointer (some ⟨b,0,none⟩),a] 117))).alloc (by simp) _).block _ (by omega))
 have:=qac (W.alloc (.cells #[.pointer (some ⟨b,0,none⟩),a] 117)) (.cells #[.int .i64 c,.int .i64 w,.int .u64 g] 153);rw[kad]at this;exact this
theorem qkq(W:World)(b:Nat)(s:Src)(f:Nat)(d w:Int)(g x:Nat)(p:x<18446744073709551616)(h:qad W b s):Calls prog 221 #[.agg #[.pointer (some ⟨b,0,none⟩),.func (.func f) #[] #[]],.agg #[.int .i64 d,.int .i64 w,.int .u64 g],.int .u64 x] W (quT W b s (nbF d w x s.pos)):=by
 have a:Hid (qm5 W b W.heap.size (.func (.func f) #[] #[]) d w g s ((W.alloc (.cells #[.pointer (some ⟨b,0,none⟩),.func (.func f) #[] #[]] 117)).alloc (.cells #[.int .i64 d,.int .i64 w,.int .u64 g] 153))):=qn7 _ d w g h;obtain⟨R,i⟩:∃R,Hid (nbF d w x s.pos=R):=⟨_,show _=_ from rfl⟩
 rw[i.out];have c:=i.out;unfold nbF at c;have r:=qaa a.out.box 0;have t:=qaa a.out.hd 0;have u:=qaa a.out.hd 1;cases j:(d==5)
 ·rw[j,kac (by decide)]at c;by_cases l:9223372036854775807<x
  ·rw[kag l]at c;subst c;have n:=qav _ b s 10 a.out.src;have o:decide ((9223372036854775807:Int)<x)=true:=by simp;omega
   go_enter func221,ntmps221
   go_wp2_with(first
    |(go_at_call 189;refine n.mono ?_;rintro e q ⟨hF,rfl⟩;obtain rfl:=hF))
   exact⟨rfl,a.out.but,rfl,_,a.out.src⟩
  rw[kac l]at c;have o:decide ((9223372036854775807:Int)<x)=false:=by simp;omega
  cases k:(d==6)
  ·rw[k,kac (by decide)]at c;subst c;go_enter func221,ntmps221;go_wp2;go_ret;exact⟨a.out.but,rfl,a.out.src⟩
  rw[k,kag rfl]at c;subst c;go_enter func221,ntmps221;go_wp2;go_ret;exact⟨a.out.but,rfl,a.out.src⟩
 rw[j,kag rfl]at c;subst c;have m:=λV=>qhJ x w p V;go_enter func221,ntmps221
 go_wp2_with(first
  |(go_at_call 226;refine(m _).mono ?_;rintro e q ⟨rfl,rfl⟩))
 go_ret;exact⟨a.out.but,rfl,a.out.src⟩

def qc4(bs:List UInt8)(lim:Int):Nat->Nat->Nat->Except (Int×Int) (Nat×Nat)
 |0,p,a=>.ok (a,p)
 |k+1,p,a=>match bs[p]? with
  |none=>.error (9,p)
  |some c=>if(p:Int)=lim then .error (8,p)else qc4 bs lim k (p+1) (a*256+c.toNat)
theorem qr7(a c:Nat)(g:a<72057594037927936)(h:c<256):bits .or .u64 ((a:Int)*256) (c:Int)=((a*256+c:Nat):Int):=by
 have d:BitVec.ofInt 64 ((a:Int)*256)=BitVec.ofNat 64 (a*256):=by
  rw[show((a:Int)*256)=((a*256:Nat):Int) by simp];exact kbK ..
 have e:BitVec.ofInt 64 (c:Int)=BitVec.ofNat 64 c:=kbK ..;have f:(BitVec.ofNat 64 (a*256)|||BitVec.ofNat 64 c).toNat=a*256+c:=by
  rw[BitVec.toNat_or,kbr,kbr,kaQ (by omega),kaQ (by omega)];have:=Nat.shiftLeft_add_eq_or_of_lt (b:=c) (i:=8) (by omega) a;rw[kcn]at this;exact this.symm
 show IntKind.u64.wrap ((BitVec.ofInt 64 ((a:Int)*256)|||BitVec.ofInt 64 (c:Int)).toNat:Int)=_;rw[d,e,f];unfold IntKind.wrap;simp[IntKind.bits,IntKind.signed];omega
theorem qbZ(W:World)(b:Nat)(s:Src)(f:Nat)(q:Int)(w g:Nat)(U:w<=8)(B:w=0\/g=0)(h:qad W b s):Calls prog 220 #[.agg #[.pointer (some ⟨b,0,none⟩),.func (.func f) #[] #[]],.agg #[.int .i64 q,.int .i64 w,.int .u64 g]] W (qhy W b s (λx:Nat=>.int .u64 x) (qc4 s.bs s.lim w s.pos g)):=by
 have r:Hid (qm5 W b W.heap.size (.func (.func f) #[] #[]) q w g s ((W.alloc (.cells #[.pointer (some ⟨b,0,none⟩),.func (.func f) #[] #[]] 117)).alloc (.cells #[.int .i64 q,.int .i64 w,.int .u64 g] 153))):=qn7 _ q w g h;obtain⟨R,j⟩:∃R,Hid (qc4 s.bs s.lim w s.pos g=R):=⟨_,show _=_ from rfl⟩
 rw[j.out];have N:=qaa r.out.hd 1;have O:=qaa r.out.hd 2;have u:=qab B;clear B h;go_enter func220,ntmps220;go_wp2;clear N O
 go_loopg[5,10] w (λm y z wr=>∃(k d:Nat),y=.int .u64 d/\z=.int .i64 k/\Hid (m+k=w)/\Hid (m=0\/d<256^k)/\Hid (qm5 W b W.heap.size (.func (.func f) #[] #[]) q w g {s with pos:=s.pos+k} wr)/\Hid (qc4 s.bs s.lim m (s.pos+k) d=R))
 case atStart=>exact⟨0,g,rfl,rfl,rfl,by show _\/_;rcases u.out with h|h;exact .inl h;exact .inr (by omega),r,j⟩
 case round =>
  clear r j u;obtain⟨k,d,rfl,rfl,p,t,a,j⟩:=hrel;have P:=qaa a.out.box 0
  cases gk with
  |zero =>
   have e:k=w:=by have:=p.out;omega
   subst e;have n:Hid (R=.ok (d,s.pos+k)):=j.out.symm;clear j p t P;go_wp2;go_ret;rw[n.out];exact⟨a.out.but,rfl,a.out.src⟩
  |succ m =>
   have Q:k<w:=by have:=p.out;omega
   have S:decide ((k:Int)<w)=true:=by simp;omega
   have A:d<256^k:=by rcases t.out with h|h;exact absurd h (by omega);exact h
   have J:d<72057594037927936:=kai A (kaj (kck (by decide) (show k<=7 from by omega)) (by decide));rcases qaT a.out.src with i|i|⟨c,i⟩
   ·have n:Hid (R=.error (9,((s.pos+k:Nat):Int))):=by
     show _=_;rw[<-j.out,qc4,kaC (by have:s.pos+k=s.bs.length:=i;omega)]
    have o:=qb0 _ b {s with pos:=s.pos+k} a.out.src i;clear j t p i A
    go_wp2_with(first
     |(go_at_call 188;refine o.mono ?_;rintro e C ⟨hF,l⟩;obtain rfl:=hF))
    rw[n.out];exact⟨rfl,a.out.but.trans (But.of_below l),rfl,_,a.out.src.below l⟩
   ·have n:Hid (R=.error (8,((s.pos+k:Nat):Int))):=by
     show _=_;have G:((s.pos+k:Nat):Int)=s.lim:=i.2;have H:s.pos+k<s.bs.length:=i.1;rw[<-j.out,qc4,kab H];simp only[];rw[kag G]
    have o:=qbb _ b {s with pos:=s.pos+k} a.out.src i
    go_wp2_with(first
     |(go_at_call 188;refine o.mono ?_;rintro e C ⟨hF,l⟩;obtain rfl:=hF))
    rw[n.out];exact⟨rfl,a.out.but.trans (But.of_below l),rfl,_,a.out.src.below l⟩
   have K:s.bs[s.pos+k]?=some c:=i.1;have L:¬((s.pos+k:Nat):Int)=s.lim:=i.2;have E:Hid (qc4 s.bs s.lim m (s.pos+(k+1)) (d*256+c.toNat)=R):=by
    show _=_;have:=j.out;rw[qc4,K]at this;simp only[]at this;rw[kac L]at this;exact this
   have M:c.toNat<256:=c.toNat_lt;have T:=qr7 d c.toNat J M;have D:Hid (d*256+c.toNat<256^(k+1)):=by show _<_;rw[kce];omega
   have o:Calls prog 188 #[.pointer (some ⟨b,0,none⟩)] wr λe v=>e=.returned (.int .u8 c.toNat)/\qad v b {s with pos:=s.pos+(k+1)}/\But b wr v:=qaw _ b {s with pos:=s.pos+k} c a.out.src i
   go_wp2_with(first
    |(go_at_call 188;refine o.mono ?_;rintro e C ⟨rfl,I,l⟩;have F:=qab (a.out.step I l)))
   go_roundg m
   case measure=>omega
   case rel=>exact⟨k+1,d*256+c.toNat,by simp,by go_num,by show _=_;have:=p.out;omega,.inr D.out,F,E⟩

def qnF(u:Nat):Nat:=if u=0 then 4 else if u=1 then 6 else if u=2 then 7 else if u=3 then 8 else if u=4 then 9 else if u=5 then 10 else 0
def qdM(c:Nat):Nat×Nat×Nat :=
 if c=244 then(2,0,0)else if c=245 then(3,0,0)else if c=246 then(1,0,0)else
 if qnF (c/32)=0\/27<c%32 then(0,0,0)else if 24<=c%32 then(qnF (c/32),2^(c%32-24),0)else(qnF (c/32),0,c%32)
def qhG:List (Nat×Nat):=[(1,0),(0,0),(2,0),(3,0),(7,1),(7,2),(7,4),(0,0),(0,0),(0,0),(0,0),(0,0),(4,1),(4,2),(4,4),(4,8),(5,1),(5,2),(5,4),(5,8),(0,0),(0,0),(0,0),(0,0),(0,0),(8,1),(8,2),(8,4),(9,2),(9,4),(10,2),(10,4)]
def qcb(c:Nat):Nat×Nat×Nat :=
 if c<128 then(4,0,c)else if c<144 then(10,0,c-128)else if c<160 then(9,0,c-144)else if c<192 then(8,0,c-160)else
 if c<224 then((qhG.getD (c-192) (0,0)).1,(qhG.getD (c-192) (0,0)).2,0)else(5,0,18446744073709551360+c)
structure qdu(W:World):Prop where
 cb:∀u,u<8->W.cell? ⟨0,u,none⟩=some (.int .i64 (qnF u))
 pk:∀u,u<32->W.cell? ⟨1,u*3,none⟩=some (.int .i64 (qhG.getD u (0,0)).1)/\W.cell? ⟨1,u*3+1,none⟩=some (.int .i64 (qhG.getD u (0,0)).2)/\W.cell? ⟨1,u*3+2,none⟩=some (.int .u64 0)
def hdA(x:Nat×Nat×Nat):Array Value:=#[.int .i64 x.1,.int .i64 x.2.1,.int .u64 x.2.2]
theorem qg8:(prog.info? 153).map (·.size)=some 3:=by kernel_rfl
theorem qei(W:World)(cs:Array Value)(b:cs.size=3)(a:Array Value)(c:a.getD 2 undef=.pointer (some ⟨W.heap.size,0,none⟩))(h:fn.results=#[.cell 2 153]):(results fn a).run prog (W.alloc (.cells cs 153))=.ok (.agg cs) (W.alloc (.cells cs 153)) :=
 kcb h a _ W.heap.size 153 cs (0,0) _ c (qac _ _) underlying153 rfl (by rw[b];exact qg8)
theorem qon(x:Nat)(c:x<256):bits .and .u8 (x:Int) 31=((x%32:Nat):Int):=by
 have a:BitVec.ofInt 8 (x:Int)=BitVec.ofNat 8 x:=kbK ..;have b:(BitVec.ofNat 8 x&&&BitVec.ofInt 8 31).toNat=x%32:=by
  rw[kdx,kbr,kaQ (by omega)];exact kcL x 5
 show IntKind.u8.wrap ((BitVec.ofInt 8 (x:Int)&&&BitVec.ofInt 8 31).toNat:Int)=_;rw[a,b];unfold IntKind.wrap;simp[IntKind.bits,IntKind.signed];omega
theorem qzK{u x:Nat}(b:¬u=0)(a:((u:Int)==0)=true\/(27:Int)<(x:Int)%32):27<x%32:=by
 rcases a with a|a
 ·exact absurd (by simpa using a) b
 omega
theorem qbS(W:World)(cs:Array Value):Below W.heap.size W (W.alloc (.cells cs 153)):=bwA
theorem qkt(W:World)(x:Nat)(j:x<256)(h:qdu W):Calls prog 48 #[.int .u8 x] W λe g=>e=.returned (.agg (hdA (qdM x)))/\Below W.heap.size W g:=by
 by_cases b:x=244
 ·subst b;go_enter func48,ntmps48;go_wp2;exact kaw (qei W _ rfl _ rfl results48) rfl ⟨rfl,qbS _ _⟩
 by_cases c:x=245
 ·subst c;go_enter func48,ntmps48;go_wp2;exact kaw (qei W _ rfl _ rfl results48) rfl ⟨rfl,qbS _ _⟩
 by_cases c2:x=246
 ·subst c2;go_enter func48,ntmps48;go_wp2;exact kaw (qei W _ rfl _ rfl results48) rfl ⟨rfl,qbS _ _⟩
 have k:((x:Int)==244)=false:=by simp;omega
 have l:((x:Int)==245)=false:=by simp;omega
 have m:((x:Int)==246)=false:=by simp;omega
 have n:=qon x j;have i:x/32<8:=by omega
 have d:=h.cb (x/32) i;have o:(W.alloc (.cells #[.int .i64 0,.int .i64 0,.int .u64 0] 153)).cell? ⟨0,x/32,none⟩=some (.int .i64 (qnF (x/32))):=(kal W _ _ (by rw[d];rfl)).trans d;have f:Hid (qdM x=if qnF (x/32)=0\/27<x%32 then(0,0,0)else if 24<=x%32 then(qnF (x/32),2^(x%32-24),0)else(qnF (x/32),0,x%32)):=by
  show _=_;unfold qdM;rw[kac b,kac c,kac c2]
 go_enter func48,ntmps48;go_wp2
 all_goals refine kaw (qei W _ rfl _ rfl results48) rfl ⟨?_,qbS _ _⟩
 all_goals rw[f.out]
 ·rename_i h0
  rw[kag (.inl h0)];rfl
 ·rename_i h0 h1
  rw[kag (.inr (qzK h0 h1))];rfl
 ·rename_i h0 h1 h2
  rw[kac (by have:=h1.2;omega),kag (by omega)];have e:wrap64 (2^(x%32-24))=((2^(x%32-24):Nat):Int):=by
   have a:x%32-24=0\/x%32-24=1\/x%32-24=2\/x%32-24=3:=by have:=h1.2;omega
   rcases a with a|a|a|a<;>rw[a]<;>simp[wrap64]
  rw[e];rfl
 rename_i h0 h1 h2
 rw[kac (by have:=h1.2;omega),kac (by omega)];unfold hdA;simp
theorem qyW(x:Nat)(h:224<=x)(a:x<256):IntKind.u64.wrap (IntKind.i8.wrap (x:Int))=((18446744073709551360+x:Nat):Int):=by
 have e:IntKind.i8.wrap (x:Int)=(x:Int)-256:=by
  unfold IntKind.wrap;simp only[IntKind.bits,IntKind.signed,kbB];split<;>rename_i h<;>simp at h<;>omega
 rw[e];unfold IntKind.wrap;simp only[IntKind.bits,IntKind.signed,kdC];rw[kac (by decide)];omega
theorem qkO(W:World)(x:Nat)(d:x<256)(h:qdu W):Calls prog 49 #[.int .u8 x] W λe w=>e=.returned (.agg (hdA (qcb x)))/\Below W.heap.size W w:=by
 by_cases c:x<128
 ·have b:Hid (qcb x=(4,0,x)):=by show _=_;unfold qcb;rw[kag c]
  have p:decide ((x:Int)<128)=true:=by simp;omega
  have C:IntKind.u64.wrap (x:Int)=x:=by unfold IntKind.wrap;simp[IntKind.bits,IntKind.signed];omega
  clear h c d;go_enter func49,ntmps49;go_wp2;refine kaw (qei W _ rfl _ rfl results49) rfl ⟨?_,qbS _ _⟩;rw[b.out];rfl
 by_cases g:192<=x/\x<224
 ·have b:Hid (qcb x=((qhG.getD (x-192) (0,0)).1,(qhG.getD (x-192) (0,0)).2,0)):=by
   show _=_;unfold qcb;rw[kac (by omega),kac (by omega),kac (by omega),kac (by omega),kag (by omega)]
  obtain⟨l,m,n⟩:=h.pk (x-192) (by omega);obtain⟨u,z⟩:∃u:Nat,x=192+u:=⟨x-192,by omega⟩
  subst z;have s:192+u-192=u:=by omega
  rw[s]at l m n;have D:(W.alloc (.cells #[.int .i64 0,.int .i64 0,.int .u64 0] 153)).cell? ⟨1,u*3,none⟩=_:=(kal W _ _ (by rw[l];rfl)).trans l;have E:(W.alloc (.cells #[.int .i64 0,.int .i64 0,.int .u64 0] 153)).cell? ⟨1,u*3+1,none⟩=_:=(kal W _ _ (by rw[m];rfl)).trans m;have F:(W.alloc (.cells #[.int .i64 0,.int .i64 0,.int .u64 0] 153)).cell? ⟨1,u*3+2,none⟩=_:=(kal W _ _ (by rw[n];rfl)).trans n;have B:u<32:=by omega
  clear h l m n d c g;go_enter func49,ntmps49;go_wp2
  all_goals refine kaw (qei W _ rfl _ rfl results49) rfl ⟨?_,qbS _ _⟩
  all_goals rw[b.out,s]
  all_goals rfl
 by_cases c2:x<192
 ·obtain⟨R,b⟩:∃R,Hid (qcb x=R):=⟨_,show _=_ from rfl⟩
  rw[b.out];have a:=b.out;unfold qcb at a;rw[kac c]at a;have j:Hid (128<=x/\x<192):=⟨by omega,c2⟩
  have p:decide ((x:Int)<128)=false:=by simp;omega
  by_cases i:x<144
  ·rw[kag i]at a;have q:decide ((x:Int)<144)=true:=by simp;omega
   have f:=qab a.symm;clear a b h d c g c2 i;go_enter func49,ntmps49;go_wp2;refine kaw (qei W _ rfl _ rfl results49) rfl ⟨?_,qbS _ _⟩;rw[f.out,show((x:Int)-128)%256=((x-128:Nat):Int) by have:=j.out.1;have:=j.out.2;omega];rfl
  rw[kac i]at a;have q:decide ((x:Int)<144)=false:=by simp;omega
  by_cases k:x<160
  ·rw[kag k]at a;have r:decide ((x:Int)<160)=true:=by simp;omega
   have f:=qab a.symm;have o:Hid (144<=x):=by show _<=_;omega
   clear a b h d c g c2 i k;go_enter func49,ntmps49;go_wp2;refine kaw (qei W _ rfl _ rfl results49) rfl ⟨?_,qbS _ _⟩;rw[f.out,show((x:Int)-144)%256=((x-144:Nat):Int) by have:=o.out;have:=j.out.2;omega];rfl
  rw[kac k,kag c2]at a;have r:decide ((x:Int)<160)=false:=by simp;omega
  have y:decide ((x:Int)<192)=true:=by simp;omega
  have f:=qab a.symm;have o:Hid (160<=x):=by show _<=_;omega
  clear a b h d c g c2 i k;go_enter func49,ntmps49;go_wp2;refine kaw (qei W _ rfl _ rfl results49) rfl ⟨?_,qbS _ _⟩;rw[f.out,show((x:Int)-160)%256=((x-160:Nat):Int) by have:=o.out;have:=j.out.2;omega];rfl
 have b:Hid (qcb x=(5,0,18446744073709551360+x)):=by
  show _=_;unfold qcb;rw[kac (by omega),kac (by omega),kac (by omega),kac (by omega),kac (by omega)]
 have p:decide ((x:Int)<128)=false:=by simp;omega
 have q:decide ((x:Int)<144)=false:=by simp;omega
 have r:decide ((x:Int)<160)=false:=by simp;omega
 have y:decide ((x:Int)<192)=false:=by simp;omega
 have A:decide ((x:Int)<224)=false:=by simp;omega
 have t:=qyW x (by omega) d;have v:=qab t;clear h d c g c2 t;go_enter func49,ntmps49;go_wp2;refine kaw (qei W _ rfl _ rfl results49) rfl ⟨?_,qbS _ _⟩;rw[b.out,v.out];rfl

theorem qad.same{s0:Src}(c:qad W b s0)(q:s.ia=s0.ia)(o:s.bs=s0.bs)(h:qad V b s)(e:∀k,k<W.heap.size->V'.heap[k]?=V.heap[k]?):qad V' b s:=by
 have n:=ltA c.row;refine⟨(e b n).trans h.row,λi d=>?_,h.len,h.le⟩;obtain⟨g,off,a,f,j⟩:=h.inp i d;obtain⟨m,t,f1,r,l⟩:=c.inp i (by rw[<-o];exact d);have p:g=m:=by
  rw[q,f1]at a;injection a with a;injection a with a;exact a.symm
 refine⟨g,off,a,f,?_⟩;rw[kaN (w:=V) (e g (by rw[p];exact kaI l))];exact j
theorem qeu{t t':Array Value}(h:results fn t=results fn t'):∀(a:List Deferred) (u:FrameMode) (w:World),Leaves P fn t R a u w->Leaves P fn t' R a u w
 |[],.returning,_,H=>by
  unfold Leaves at *;rw[<-h];exact H
 |[],.panicking _,_,H=>H
 |[],.run,_,H=>H
 |_::a,_,_,H=>by
  obtain⟨j,i,g,f,d,k,l,m⟩:=H;refine⟨j,i,g,f,d,k,l,m.mono λe n o b=>?_⟩
  cases e with
  |returned v=>exact qeu h a _ _ b
  |panicked c=>exact qeu h a _ _ b
  |outgrown=>exact b
theorem qbB(f:fn.results=#[.tmp 2])(d:Tmp)(b:d≠2)(v:Value)(c:List PanicEntry)(a:Act)(w:World)(h:bodyPostD P fn R (.panic c) (a.put (some d) v) w):bodyPostD P fn R (.panic c) a w:=by
 refine qeu (t:=(a.put (some d) v).tmps) ?_ _ _ _ h;unfold results;rw[f];have e:(a.put (some d) v).tmps[2]?.getD undef=a.tmps[2]?.getD undef:=by
  show(a.tmps.setIfInBounds d v)[2]?.getD undef=_;rw[Array.getElem?_setIfInBounds_ne b]
 simp[e]
theorem qeC(a:fn.results=#[.tmp 2])(t:Array Value)(w:World):(results fn t).run P w=.ok (t.getD 2 undef) w:=by
 unfold results;rw[a];simp
structure qpf(W0:World)(b N M:Nat)(fv:Value)(so w g:Nat)(s:Src)(W:World):Prop where
 src:qad W b s
 but:But b W0 W
 box:W.heap[N]?=some (.cells #[.pointer (some ⟨b,0,none⟩),fv] 117)
 hd:W.heap[M]?=some (.cells #[.int .i64 so,.int .i64 w,.int .u64 g] 153)
 ne:b<N
 nm:b<M
theorem qpf.step{M:Nat}(h:qpf W0 b N M fv so w g s W)(c:qad W' b s')(a:But b W W'):qpf W0 b N M fv so w g s' W' :=
 ⟨c,h.but.trans a,(a.block _ (ltA h.box) (by have:=h.ne;omega)).trans h.box,(a.block _ (ltA h.hd) (by have:=h.nm;omega)).trans h.hd,h.ne,h.nm⟩
theorem qfa(M:Nat)(c:qad W b s)(e:qad V b s.next)(a:But b W V)(h:V.heap[W.heap.size]?=some (.cells #[.pointer (some ⟨b,0,none⟩),fv] 117))(l:W.heap.size<M)(j:V.heap[M]?=some (.cells #[.int .i64 0,.int .i64 0,.int .u64 0] 153)):qpf W b W.heap.size M fv so w g s.next (V.setRow M #[.int .i64 so,.int .i64 w,.int .u64 g]):=by
 have f:=ltA c.row;refine⟨c.same rfl rfl e (λk d=>kb3 _ _ _ _ (by omega)),⟨a.os,a.tape,a.output,by simpa using a.size,λk d i=>sx (by omega) (a.block k d i)⟩,sx (by omega) h,kaA _ _ _ _ _ _ j,f,by omega⟩

def qgs(bs:List UInt8)(lim:Int):Nat->Nat->List UInt8->Except (Int×Int) (List UInt8×Nat)
 |0,p,acc=>.ok (acc,p)
 |k+1,p,acc=>match bs[p]? with
  |none=>.error (9,p)
  |some c=>if(p:Int)=lim then .error (8,p)else qgs bs lim k (p+1) (acc++[c])
def qib{α:Type}(W:World)(b:Nat)(s:Src)(val:World->Value->α->Prop)(r:Except (Int×Int) (α×Nat))(e:Ending)(W':World):Prop :=
 But b W W'/\match r with
 |.ok (x,p)=>(∃v,e=.returned v/\val W' v x)/\qad W' b {s with pos:=p}
 |.error (en,pl)=>qan en pl e/\∃p,qad W' b {s with pos:=p}
structure qti(W:World)(b:Nat)(fv:Value)(s:Src)(p:Nat)(v:Value)(acc:List UInt8)(V:World):Prop where
 src:qad V b {s with pos:=p}
 but:But b W V
 box:V.heap[W.heap.size]?=some (.cells #[.pointer (some ⟨b,0,none⟩),fv] 117)
 own:Own V (W.heap.size+1) v acc
theorem qv2{base:Nat}{bs:List UInt8}(h:Own W base v bs)(c:But b W W')(o:b<base):Own W' base v bs:=by
 obtain⟨⟨j,a⟩,k,l⟩:=h;refine⟨⟨j,?_⟩,kaj k c.size,l⟩;rcases a with a|⟨g,f,i,e,n,d,m⟩
 ·exact .inl a
 exact .inr ⟨g,f,i,e,n,(c.block g (ltA d) (by omega)).trans d,m⟩
theorem qti.take{q:Nat}(h:qti W b fv s p v acc V)(d:b<W.heap.size)(c:qad V' b {s with pos:=q})(a:But b V V'):qti W b fv s q v acc V' :=
 ⟨c,h.but.trans a,(a.block _ (ltA h.box) (by omega)).trans h.box,qv2 h.own a (by omega)⟩
theorem qti.grow{v':Value}{acc':List UInt8}(h:qti W b fv s p v acc V)(d:qad W b s)(a:Below (W.heap.size+1) V V')(f:Own V' (W.heap.size+1) v' acc'):qti W b fv s p v' acc' V' :=
 ⟨d.same rfl rfl h.src (λk c=>a.block k (by omega)),⟨a.os.trans h.but.os,a.tape.trans h.but.tape,a.output.trans h.but.output,kaj h.but.size a.size,λk c e=>(a.block k (by omega)).trans (h.but.block k c e)⟩,(a.block _ (by omega)).trans h.box,f⟩
theorem qv6(a:Value)(h:qad W b s):qti W b a s s.pos (.slice none 0 0) [] (W.alloc (.cells #[.pointer (some ⟨b,0,none⟩),a] 117)):=by
 have c:Below W.heap.size W (W.alloc (.cells #[.pointer (some ⟨b,0,none⟩),a] 117)):=bwA;refine⟨h.below c,But.of_below c,qac W _,kaV _ _ _ _,?_,none,0,0,rfl⟩;simp
theorem qju(W:World)(b:Nat)(s:Src)(f n:Nat)(hn:n<18446744073709551616)(h:qad W b s)(ag:s.bs.length<=200000000):Calls prog 222 #[.agg #[.pointer (some ⟨b,0,none⟩),.func (.func f) #[] #[]],.int .u64 n] W (qib W b s (λV aa z=>Own V (W.heap.size+1) aa z) (qgs s.bs s.lim n s.pos [])):=by
 obtain⟨i0,Y,l,v,y⟩:=kaF Tryz.infoU8;have F:Hid (qti W b (.func (.func f) #[] #[]) s s.pos (.slice none 0 0) [] (W.alloc (.cells #[.pointer (some ⟨b,0,none⟩),.func (.func f) #[] #[]] 117))):=qv6 _ h;have M:=qab h;have S:=ltA h.row;have u:=h.le;obtain⟨R,j⟩:∃R,Hid (qgs s.bs s.lim n s.pos []=R):=⟨_,show _=_ from rfl⟩
 rw[j.out];clear h;go_enter func222,ntmps222;go_wp2;generalize W.alloc (.cells #[.pointer (some ⟨b,0,none⟩),.func (.func f) #[] #[]] 117)=W0 at *
 go_loopg[5,7] n (λg ab ac wr=>∃(k p:Nat) (a:Option Addr) (m c:Nat) (o:List UInt8),ab=.slice a m c/\ac=.int .u64 k/\Hid (k+g=n)/\Hid (p<=s.bs.length)/\Hid (o.length<=p)/\Hid (qti W b (.func (.func f) #[] #[]) s p (.slice a m c) o wr)/\Hid (qgs s.bs s.lim g p o=R))
 case atStart=>exact⟨0,s.pos,none,0,0,[],rfl,rfl,by show _=_;omega,u,by show 0<=_;omega,F,j⟩
 case round =>
  clear F j;obtain⟨k,p,a,m,c0,o,rfl,rfl,x,hp,H,d,j⟩:=hrel;have kb:=qaa d.out.box 0
  cases gk with
  |zero =>
   have Z:k=n:=by have:=x.out;omega
   subst Z;have t:Hid (R=.ok (o,p)):=j.out.symm;clear j x;go_wp2;go_ret;rw[t.out];exact⟨d.out.but,⟨_,rfl,d.out.own⟩,d.out.src⟩
  |succ g =>
   have af:k<n:=by have:=x.out;omega
   have e1:decide ((k:Int)<(n:Int))=true:=by simp;omega
   have e2:decide (k<n)=true:=by simp;omega
   rcases qaT d.out.src with i|i|⟨c,i⟩
   ·have t:Hid (R=.error (9,(p:Int))):=by
     show _=_;rw[<-j.out,qgs,kaC (by have:p=s.bs.length:=i;omega)]
    have r:=qb0 _ b {s with pos:=p} d.out.src i;clear j i
    go_wp2_with(first
     |(go_at_call 188;refine r.mono ?_;clear r;rintro e B ⟨hF,q⟩;obtain rfl:=hF))
    rw[t.out];exact⟨rfl,d.out.but.trans (But.of_below q),rfl,_,d.out.src.below q⟩
   ·have t:Hid (R=.error (8,(p:Int))):=by
     show _=_;have O:(p:Int)=s.lim:=i.2;have P:p<s.bs.length:=i.1;rw[<-j.out,qgs,kab P];simp only[];rw[kag O]
    have r:=qbb _ b {s with pos:=p} d.out.src i;clear j i
    go_wp2_with(first
     |(go_at_call 188;refine r.mono ?_;rintro e B ⟨hF,q⟩;obtain rfl:=hF))
    rw[t.out];exact⟨rfl,d.out.but.trans (But.of_below q),rfl,_,d.out.src.below q⟩
   have T:s.bs[p]?=some c:=i.1;have U:¬(p:Int)=s.lim:=i.2;have L:Hid (p<s.bs.length):=i.lt;have A:=j.out;rw[qgs,T]at A;simp only[]at A;rw[kac U]at A;have K:=qab A;have r:Calls prog 188 #[.pointer (some ⟨b,0,none⟩)] wr λe G=>e=.returned (.int .u8 c.toNat)/\qad G b {s with pos:=p+1}/\But b wr G:=qaw _ b {s with pos:=p} c d.out.src i;have ae:o.length<=999999999:=by have:=H.out;have:=hp.out;omega
   go_wp2_with(first
    |(go_at_call 188;refine r.mono ?_;rintro e B ⟨rfl,Q,q⟩;have C:=qab (d.out.take S Q q);have E:=qab C.out.own.1;have w:=qab C.out.own.2.1)
    |(at_builtin;refine kao _ rfl _ _ 118 rfl (W.heap.size+1) 5 i0 (.int .u8 0) 1 1 underlying118 Y l v y rfl (by decide) _ _ _ rfl (E.out.alloc _) ⟨B.heap.size,0,none⟩ 1 1 [.int .u8 c.toNat] rfl rfl (qag _ _ _) (λai J=>by simp at J;subst J;rfl) (by unfold maxLen;omega) (by omega) (by simp;have:=w.out;omega) ?_;intro v' w5 I X ah;obtain⟨g5,ad,rfl⟩:=ownsRow_succ I;have D:=qab (qa4 ((kam _ B).alloc w.out _) (E.out.alloc _) X (by simp;have:=w.out;omega));have N:=qab (C.out.grow M.out D.out ⟨qbQ I rfl,kaj w.out D.out.size,_,_,_,rfl⟩)))
   go_roundg g
   case measure=>omega
   case rel=>exact⟨k+1,p+1,_,_,_,o++[c],rfl,by go_num,by show _=_;have:=x.out;omega,L,by show _<=_;rw[kaa];have:=H.out;simp;omega,N,K⟩

def qbE(V:World)(t:TypeId)(size:Nat)(F:Nat->Prop)(v:Value)(n:Nat)(xs:List Value):Prop :=
 xs.length=n*size/\((v=.slice none 0 0/\n=0)\/∃g cap cur,v=.slice (some ⟨g,0,none⟩) n cap/\F g/\V.heap[g]?=some (.cells cur t (0,0))/\n<=cap/\cap<=maxLen/\cur.size=cap*size/\cur.toList.take (n*size)=xs)
def qah:Nat->World->(Nat->Prop)->Value->DataW Unit->Prop
 |0,_,_,_,_=>False
 |k+1,V,F,v,d=>match d with
  |.nil=>v=.iface 196 (.agg #[])
  |.lit (.bool b)=>v=.iface 158 (.bool b)
  |.lit (.int .i64 z)=>v=.iface 160 (.int .i64 z) /\ -9223372036854775808<=z/\z<=9223372036854775807
  |.lit (.string l)=>v=.iface 162 (.string ⟨l.toArray⟩)
  |.ptr (.lit (.string l))=>∃u,v=.iface 118 u/\qbE V 5 1 F u l.length (l.map qax)
  |.agg ds=>∃u xs,v=.iface 120 u/\qbE V 47 1 F u ds.length xs/\∀(i:Nat) (x:Value) (d:DataW Unit),xs[i]?=some x->ds[i]?=some d->qah k V F x d
  |.map es=>∃u xs,v=.iface 122 u/\qbE V 124 2 F u es.length xs/\∀(i:Nat) (key:Lit) (d:DataW Unit),es[i]?=some (key,d)->∃l x,key=.string l/\xs[2*i]?=some (.string ⟨l.toArray⟩)/\xs[2*i+1]?=some x/\qah k V F x d
  |_=>False
theorem qbE.same{t:TypeId}{size n:Nat}{xs:List Value}(h:qbE V t size F v n xs)(j:∀k,F k->G k)(m:∀k,F k->V'.heap[k]?=V.heap[k]?):qbE V' t size G v n xs:=by
 obtain⟨f,a⟩:=h;refine⟨f,?_⟩;rcases a with a|⟨g,c,d,e,b,l,i⟩
 ·exact .inl a
 exact .inr ⟨g,c,d,e,j g b,(m g b).trans l,i⟩
theorem qah.same(a:∀k,F k->G k)(b:∀k,F k->V'.heap[k]?=V.heap[k]?):∀{k:Nat} {v:Value} {d:DataW Unit},qah k V F v d->qah k V' G v d
 |0,_,_,h=>h
 |k+1,v,d,h=>by
  unfold qah at h ⊢;split at h
  ·exact h
  ·exact h
  ·exact h
  ·exact h
  ·obtain⟨u,e,c⟩:=h;exact⟨u,e,c.same a b⟩
  ·obtain⟨u,j,e,c,g⟩:=h;exact⟨u,j,e,c.same a b,λi x d f q=>qah.same a b (g i x d f q)⟩
  ·obtain⟨u,j,e,c,g⟩:=h;refine⟨u,j,e,c.same a b,λi r d f=>?_⟩;obtain⟨l,x,m,n,o,p⟩:=g i r d f;exact⟨l,x,m,n,o,qah.same a b p⟩
  exact h
theorem qah.more:∀{k m:Nat} {v:Value} {d:DataW Unit},k<=m->qah k V F v d->qah m V F v d
 |0,_,_,_,_,h=>h.elim
 |k+1,0,_,_,hm,_=>absurd hm (by omega)
 |k+1,m+1,v,d,hm,h=>by
  unfold qah at h ⊢;split at h
  ·exact h
  ·exact h
  ·exact h
  ·exact h
  ·exact h
  ·obtain⟨u,f,e,c,b⟩:=h;exact⟨u,f,e,c,λi x d a p=>qah.more (by omega) (b i x d a p)⟩
  ·obtain⟨u,f,e,c,b⟩:=h;refine⟨u,f,e,c,λi q d a=>?_⟩;obtain⟨l,x,g,j,n,o⟩:=b i q d a;exact⟨l,x,g,j,n,qah.more (by omega) o⟩
  exact h

def qra(c:UInt8):Option Nat:=if qbO c=true then some (c.toNat-48)else if 97<=c.toNat/\c.toNat<=102 then some (c.toNat-87)else if 65<=c.toNat/\c.toNat<=70 then some (c.toNat-55)else none
theorem qry{c:UInt8}{d:Nat}(h:qra c=some d):d<16:=by
 unfold qra at h;split at h
 ·next hd=>have:=kaq hd;cases h;omega
 split at h
 ·cases h;omega
 split at h
 ·cases h;omega
 cases h
def qsg(c:UInt8):Value:=match qra c with
 |some d=>.tuple #[.int .i32 d,.bool true]
 |none=>.tuple #[.int .i32 0,.bool false]
theorem qlr(c:UInt8)(w:World):Calls prog 218 #[.int .u8 c.toNat] w λe l=>e=.returned (qsg c)/\l=w:=by
 have b:=qbt c w;have p:=c.toNat_lt;by_cases g:48<=(c.toNat:Int)/\(c.toNat:Int)<=57
 ·have a:Hid (qsg c=.tuple #[.int .i32 ((c.toNat:Int)-48),.bool true]):=by
   show _=_;unfold qsg qra;rw[kag (show qbO c=true from kax g)];simp only[];rw[show((c.toNat-48:Nat):Int)=(c.toNat:Int)-48 by omega]
  have d:=kax g;rw[d]at b;go_enter func218,ntmps218
  go_wp2_with(first|(go_at_call 196;refine b.mono ?_;rintro e i ⟨rfl,rfl⟩))
  go_ret2
  rw[a.out];exact⟨rfl,rfl⟩
 have d:=kaz g;have h:qbO c=false:=d;rw[d]at b;by_cases f:97<=c.toNat/\c.toNat<=102
 ·have a:Hid (qsg c=.tuple #[.int .i32 ((c.toNat:Int)-97+10),.bool true]):=by
   show _=_;unfold qsg qra;rw[kac (by rw[h];simp),kag f];simp only[];rw[show((c.toNat-87:Nat):Int)=(c.toNat:Int)-97+10 by omega]
  have k:decide (97<=(c.toNat:Int))=true:=by simp;omega
  have m:decide ((c.toNat:Int)<=102)=true:=by simp;omega
  go_enter func218,ntmps218
  go_wp2_with(first|(go_at_call 196;refine b.mono ?_;rintro e i ⟨rfl,rfl⟩))
  go_ret2
  rw[a.out];exact⟨rfl,rfl⟩
 by_cases j:65<=c.toNat/\c.toNat<=70
 ·have a:Hid (qsg c=.tuple #[.int .i32 ((c.toNat:Int)-65+10),.bool true]):=by
   show _=_;unfold qsg qra;rw[kac (by rw[h];simp),kac f,kag j];simp only[];rw[show((c.toNat-55:Nat):Int)=(c.toNat:Int)-65+10 by omega]
  have k:decide (97<=(c.toNat:Int))=false:=by simp;omega
  have n:decide (65<=(c.toNat:Int))=true:=by simp;omega
  have o:decide ((c.toNat:Int)<=70)=true:=by simp;omega
  go_enter func218,ntmps218
  go_wp2_with(first|(go_at_call 196;refine b.mono ?_;rintro e i ⟨rfl,rfl⟩))
  go_ret2
  rw[a.out];exact⟨rfl,rfl⟩
 have a:Hid (qsg c=.tuple #[.int .i32 0,.bool false]):=by
  show _=_;unfold qsg qra;rw[kac (by rw[h];simp),kac f,kac j]
 go_enter func218,ntmps218
 go_wp2_with(first|(go_at_call 196;refine b.mono ?_;rintro e i ⟨rfl,rfl⟩))
 all_goals first
  |(exfalso;omega)
  |(go_ret2;rw[a.out];exact⟨rfl,rfl⟩)
def qf5(bs:List UInt8)(lim:Int):Nat->Nat->Nat->Except (Int×Int) (Nat×Nat)
 |0,p,a=>.ok (a,p)
 |k+1,p,a=>match bs[p]? with
  |none=>.error (9,p)
  |some c=>if(p:Int)=lim then .error (8,p)else match qra c with
   |none=>.error (9,p)
   |some d=>qf5 bs lim k (p+1) (a*16+d)
theorem qhg(W:World)(b:Nat)(s:Src)(h:qad W b s):Calls prog 214 #[.agg #[.pointer (some ⟨b,0,none⟩)]] W (qbV W b s (λx:Nat=>.int .i32 x) (qf5 s.bs s.lim 4 s.pos 0)):=by
 have D:=qab (qaX h);obtain⟨R,j⟩:∃R,Hid (qf5 s.bs s.lim 4 s.pos 0=R):=⟨_,show _=_ from rfl⟩
 rw[j.out];go_enter func214,ntmps214;go_wp2;generalize W.alloc (.cells #[.pointer (some ⟨b,0,none⟩)] 114)=W0 at *
 go_loopg[3,6] 4 (λm y z wr=>∃(k g:Nat),y=.int .i32 g/\z=.int .i64 k/\Hid (m+k=4)/\Hid (g<16^k)/\Hid (qpe W b W.heap.size {s with pos:=s.pos+k} wr)/\Hid (qf5 s.bs s.lim m (s.pos+k) g=R))
 case atStart=>exact⟨0,0,rfl,rfl,rfl,by show 0<1;decide,D,j⟩
 case round =>
  obtain⟨k,g,rfl,rfl,t,A,a,j⟩:=hrel;have I:=a.out.cell
  cases gk with
  |zero =>
   have e:k=4:=by have:=t.out;omega
   subst e;have i:Hid (R=.ok (g,s.pos+4)):=j.out.symm;go_wp2;go_ret;rw[i.out];exact⟨a.out.but,rfl,a.out.src⟩
  |succ m =>
   have M:k<4:=by have:=t.out;omega
   have N:decide ((k:Int)<4)=true:=by simp;omega
   have K:g<4096:=kai A.out (kaj (kck (by decide) (show k<=3 from by omega)) (by decide));rcases qaT a.out.src with f|f|⟨c,f⟩
   ·have i:Hid (R=.error (9,((s.pos+k:Nat):Int))):=by
     show _=_;rw[<-j.out,qf5,kaC (by have:s.pos+k=s.bs.length:=f;omega)]
    have o:=qb0 _ b {s with pos:=s.pos+k} a.out.src f
    go_wp2_with(first
     |(go_at_call 188;refine o.mono ?_;rintro e u ⟨hF,l⟩;obtain rfl:=hF))
    rw[i.out];exact⟨rfl,a.out.but.trans (But.of_below l),rfl⟩
   ·have i:Hid (R=.error (8,((s.pos+k:Nat):Int))):=by
     show _=_;have E:((s.pos+k:Nat):Int)=s.lim:=f.2;have F:s.pos+k<s.bs.length:=f.1;rw[<-j.out,qf5,kab F];simp only[];rw[kag E]
    have o:=qbb _ b {s with pos:=s.pos+k} a.out.src f
    go_wp2_with(first
     |(go_at_call 188;refine o.mono ?_;rintro e u ⟨hF,l⟩;obtain rfl:=hF))
    rw[i.out];exact⟨rfl,a.out.but.trans (But.of_below l),rfl⟩
   have G:s.bs[s.pos+k]?=some c:=f.1;have H:¬((s.pos+k:Nat):Int)=s.lim:=f.2;have n:=j.out;rw[qf5,G]at n;simp only[]at n;rw[kac H]at n;have q:=λw=>qlr c w;unfold qsg at q;have o:Calls prog 188 #[.pointer (some ⟨b,0,none⟩)] wr λe v=>e=.returned (.int .u8 c.toNat)/\qad v b {s with pos:=s.pos+(k+1)}/\But b wr v:=qaw _ b {s with pos:=s.pos+k} c a.out.src f;rcases hv:qra c with _|d
   ·rw[hv]at n q;have i:Hid (R=.error (9,((s.pos+k:Nat):Int))):=n.symm
    go_wp2_with(first
     |(go_at_call 188;refine o.mono ?_;rintro e u ⟨rfl,r,l⟩;have p:=qab (a.out.step r l);have I:=p.out.cell)
     |(go_at_call 218;refine(q _).mono ?_;rintro e J ⟨rfl,rfl⟩)
     |(go_at_call 189;refine(qav _ b {s with pos:=s.pos+(k+1)} _ p.out.src).mono ?_;rintro e O ⟨hF,rfl⟩;obtain rfl:=hF))
    rw[i.out];exact⟨rfl,p.out.but,by show qan _ _ _;unfold qan qdB;simp;omega⟩
   rw[hv]at n q;have C:Hid (qf5 s.bs s.lim m (s.pos+(k+1)) (g*16+d)=R):=n;have L:=qry hv;have B:Hid (g*16+d<16^(k+1)):=by show _<_;rw[kce];have:=A.out;omega
   go_wp2_with(first
    |(go_at_call 188;refine o.mono ?_;rintro e u ⟨rfl,r,l⟩;have p:=qab (a.out.step r l))
    |(go_at_call 218;refine(q _).mono ?_;rintro e J ⟨rfl,rfl⟩))
   go_roundg m
   case measure=>omega
   case rel=>exact⟨k+1,g*16+d,by simp,by go_num,by show _=_;have:=t.out;omega,B,p,C⟩

end
end Go.Proofs.YtmajcjammmjimaaGreatDoor
