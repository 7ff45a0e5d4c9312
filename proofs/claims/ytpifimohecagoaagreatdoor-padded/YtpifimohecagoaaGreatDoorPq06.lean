import Derived.BigCall
import Derived.Maps.AppendAt
import Derived.Test.YtpifimohecagoaaGreatDoorPq02
import Derived.Test.YtpifimohecagoaaGreatDoorPq05
import Derived.Test.YtpifimohecagoaaGreatDoorPq01
set_option maxRecDepth 100000
set_option maxHeartbeats 8000000
namespace Go.Proofs.YtpifimohecagoaaGreatDoor
open Go.Proofs.Tryz
variable{W W' w:World}{b f g i n:Nat}{s:Src}{c:UInt8}{l:List UInt8}{ps:List ByteArray}
section
open Go.RowKit
def qkN(x:Nat)(w:Int):Int:=if(w==1)=true then wrap64 (IntKind.i8.wrap x)else if(w==2)=true then wrap64 (IntKind.i16.wrap x)else if(w==4)=true then wrap64 (wrap32 x)else wrap64 x
theorem qhB(x:Nat)(w:Int)(_hx:x<18446744073709551616)(W:World):Calls prog 224 #[.int .u64 x,.int .i64 w] W λe g=>e=.returned (.int .i64 (qkN x w))/\g=W:=by
 obtain⟨R,b⟩:∃R,Hid (qkN x w=R):=⟨_,show _=_ from rfl⟩
 rw[b.out];have a:=b.out;unfold qkN at a;cases c:(w==1)
 ·rw[c,if_neg (by decide)]at a;cases d:(w==2)
  ·rw[d,if_neg (by decide)]at a;cases f:(w==4)
   ·rw[f,if_neg (by decide)]at a;have b:=qab a;go_enter func224,ntmps224;go_wp2;go_ret;rw[<-b.out];exact⟨rfl,rfl⟩
   rw[f,if_pos rfl]at a;have b:=qab a;go_enter func224,ntmps224;go_wp2;go_ret;rw[<-b.out];exact⟨rfl,rfl⟩
  rw[d,if_pos rfl]at a;have b:=qab a;go_enter func224,ntmps224;go_wp2;go_ret;rw[<-b.out];exact⟨rfl,rfl⟩
 rw[c,if_pos rfl]at a;have b:=qab a;go_enter func224,ntmps224;go_wp2;go_ret;rw[<-b.out];exact⟨rfl,rfl⟩
def nbF(so w:Int)(x:Nat)(pos:Int):Except (Int×Int) Int :=
 if(so==5)=true then .ok (qkN x w)else if 9223372036854775807<x then .error (10,pos-1)else if(so==6)=true then .ok (-1-(x:Int))else .ok x
def qg5{α:Type}(W:World)(b:Nat)(s:Src)(val:α->Value)(r:Except (Int×Int) (α×Nat))(e:Ending)(W':World):Prop :=
 But b W W'/\match r with
 |.ok (x,p)=>e=.returned (val x)/\qad W' b {s with pos:=p}
 |.error (en,pl)=>qan en pl e/\∃p,qad W' b {s with pos:=p}
def quI(W:World)(b:Nat)(s:Src)(r:Except (Int×Int) Int)(e:Ending)(W':World):Prop :=
 But b W W'/\match r with
 |.ok z=>e=.returned (.int .i64 z)/\qad W' b s
 |.error (en,pl)=>qan en pl e/\∃p,qad W' b {s with pos:=p}
structure qme(W0:World)(b N:Nat)(fv:Value)(so w:Int)(g:Nat)(s:Src)(W:World):Prop where
 src:qad W b s
 but:But b W0 W
 box:W.heap[N]?=some (.cells #[.pointer (some ⟨b,0,none⟩),fv] 133)
 hd:W.heap[N+1]?=some (.cells #[.int .i64 so,.int .i64 w,.int .u64 g] 171)
 ne:b<N
theorem qme.step{W0:World}{N:Nat}{fv:Value}{so w:Int}{s':Src}(h:qme W0 b N fv so w g s W)(c:qad W' b s')(a:But b W W'):qme W0 b N fv so w g s' W' :=
 ⟨c,h.but.trans a,(a.block _ (ltA h.box) (by have:=h.ne;omega)).trans h.box,(a.block _ (ltA h.hd) (by have:=h.ne;omega)).trans h.hd,h.ne⟩
theorem qnB(a:Value)(c w:Int)(g:Nat)(h:qad W b s):qme W b W.heap.size a c w g s ((W.alloc (.cells #[.pointer (some ⟨b,0,none⟩),a] 133)).alloc (.cells #[.int .i64 c,.int .i64 w,.int .u64 g] 171)):=by
 have d:Below W.heap.size W ((W.alloc (.cells #[.pointer (some ⟨b,0,none⟩),a] 133)).alloc (.cells #[.int .i64 c,.int .i64 w,.int .u64 g] 171)):=(bwA).alloc (by simp) _;refine⟨h.below d,But.of_below d,?_,?_,(ltA h.row)⟩
 ·have:=qac W (.cells #[.pointer (some ⟨b,0,none⟩),a] 133);rw[<-this];exact(((Below.refl (W.heap.size+1) (W.alloc (.cells #[.pointer (some ⟨b,0,none⟩),a] 133))).alloc (by simp) _).block _ (by omega))
 have:=qac (W.alloc (.cells #[.pointer (some ⟨b,0,none⟩),a] 133)) (.cells #[.int .i64 c,.int .i64 w,.int .u64 g] 171);rw[World.size_alloc]at this;exact this
theorem qjH(W:World)(b:Nat)(s:Src)(f:Nat)(d w:Int)(g x:Nat)(p:x<18446744073709551616)(h:qad W b s):Calls prog 219 #[.agg #[.pointer (some ⟨b,0,none⟩),.func (.func f) #[] #[]],.agg #[.int .i64 d,.int .i64 w,.int .u64 g],.int .u64 x] W (quI W b s (nbF d w x s.pos)):=by
 have a:Hid (qme W b W.heap.size (.func (.func f) #[] #[]) d w g s ((W.alloc (.cells #[.pointer (some ⟨b,0,none⟩),.func (.func f) #[] #[]] 133)).alloc (.cells #[.int .i64 d,.int .i64 w,.int .u64 g] 171))):=qnB _ d w g h;obtain⟨R,i⟩:∃R,Hid (nbF d w x s.pos=R):=⟨_,show _=_ from rfl⟩
 rw[i.out];have c:=i.out;unfold nbF at c;have r:=qaa a.out.box 0;have t:=qaa a.out.hd 0;have u:=qaa a.out.hd 1;cases j:(d==5)
 ·rw[j,if_neg (by decide)]at c;by_cases l:9223372036854775807<x
  ·rw[if_pos l]at c;subst c;have n:=qau _ b s 10 a.out.src;have o:decide ((9223372036854775807:Int)<x)=true:=by simp;omega
   go_enter func219,ntmps219
   go_wp2_with(first
    |(go_at_call 187;refine n.mono ?_;rintro e q ⟨hF,rfl⟩;obtain rfl:=hF))
   exact⟨rfl,a.out.but,rfl,_,a.out.src⟩
  rw[if_neg l]at c;have o:decide ((9223372036854775807:Int)<x)=false:=by simp;omega
  cases k:(d==6)
  ·rw[k,if_neg (by decide)]at c;subst c;go_enter func219,ntmps219;go_wp2;go_ret;exact⟨a.out.but,rfl,a.out.src⟩
  rw[k,if_pos rfl]at c;subst c;go_enter func219,ntmps219;go_wp2;go_ret;exact⟨a.out.but,rfl,a.out.src⟩
 rw[j,if_pos rfl]at c;subst c;have m:=λV=>qhB x w p V;go_enter func219,ntmps219
 go_wp2_with(first
  |(go_at_call 224;refine(m _).mono ?_;rintro e q ⟨rfl,rfl⟩))
 go_ret;exact⟨a.out.but,rfl,a.out.src⟩

def qc2(bs:List UInt8)(lim:Int):Nat->Nat->Nat->Except (Int×Int) (Nat×Nat)
 |0,p,a=>.ok (a,p)
 |k+1,p,a=>match bs[p]? with
  |none=>.error (9,p)
  |some c=>if(p:Int)=lim then .error (8,p)else qc2 bs lim k (p+1) (a*256+c.toNat)
theorem qpE(a c:Nat)(g:a<72057594037927936)(h:c<256):bits .or .u64 ((a:Int)*256) (c:Int)=((a*256+c:Nat):Int):=by
 have d:BitVec.ofInt 64 ((a:Int)*256)=BitVec.ofNat 64 (a*256):=by
  rw[show((a:Int)*256)=((a*256:Nat):Int) by simp];exact BitVec.ofInt_natCast ..
 have e:BitVec.ofInt 64 (c:Int)=BitVec.ofNat 64 c:=BitVec.ofInt_natCast ..;have f:(BitVec.ofNat 64 (a*256)|||BitVec.ofNat 64 c).toNat=a*256+c:=by
  rw[BitVec.toNat_or,BitVec.toNat_ofNat,BitVec.toNat_ofNat,Nat.mod_eq_of_lt (by omega),Nat.mod_eq_of_lt (by omega)];have:=Nat.shiftLeft_add_eq_or_of_lt (b:=c) (i:=8) (by omega) a;rw[Nat.shiftLeft_eq]at this;exact this.symm
 show IntKind.u64.wrap ((BitVec.ofInt 64 ((a:Int)*256)|||BitVec.ofInt 64 (c:Int)).toNat:Int)=_;rw[d,e,f];unfold IntKind.wrap;simp[IntKind.bits,IntKind.signed];omega
theorem qbY(W:World)(b:Nat)(s:Src)(f:Nat)(q:Int)(w g:Nat)(U:w<=8)(B:w=0\/g=0)(h:qad W b s):Calls prog 218 #[.agg #[.pointer (some ⟨b,0,none⟩),.func (.func f) #[] #[]],.agg #[.int .i64 q,.int .i64 w,.int .u64 g]] W (qg5 W b s (λx:Nat=>.int .u64 x) (qc2 s.bs s.lim w s.pos g)):=by
 have r:Hid (qme W b W.heap.size (.func (.func f) #[] #[]) q w g s ((W.alloc (.cells #[.pointer (some ⟨b,0,none⟩),.func (.func f) #[] #[]] 133)).alloc (.cells #[.int .i64 q,.int .i64 w,.int .u64 g] 171))):=qnB _ q w g h;obtain⟨R,j⟩:∃R,Hid (qc2 s.bs s.lim w s.pos g=R):=⟨_,show _=_ from rfl⟩
 rw[j.out];have N:=qaa r.out.hd 1;have O:=qaa r.out.hd 2;have u:=qab B;clear B h;go_enter func218,ntmps218;go_wp2;clear N O
 go_loopg[5,10] w (λm y z wr=>∃(k d:Nat),y=.int .u64 d/\z=.int .i64 k/\Hid (m+k=w)/\Hid (m=0\/d<256^k)/\Hid (qme W b W.heap.size (.func (.func f) #[] #[]) q w g {s with pos:=s.pos+k} wr)/\Hid (qc2 s.bs s.lim m (s.pos+k) d=R))
 case atStart=>exact⟨0,g,rfl,rfl,rfl,by show _\/_;rcases u.out with h|h;exact .inl h;exact .inr (by omega),r,j⟩
 case round =>
  clear r j u;obtain⟨k,d,rfl,rfl,p,t,a,j⟩:=hrel;have P:=qaa a.out.box 0
  cases gk with
  |zero =>
   have e:k=w:=by have:=p.out;omega
   subst e;have n:Hid (R=.ok (d,s.pos+k)):=j.out.symm;clear j p t P;go_wp2;go_ret;rw[n.out];exact⟨a.out.but,rfl,a.out.src⟩
  |succ m =>
   have Q:k<w:=by have:=p.out;omega
   have S:decide ((k:Int)<w)=true:=by simp;omega
   have A:d<256^k:=by rcases t.out with h|h;exact absurd h (by omega);exact h
   have J:d<72057594037927936:=Nat.lt_of_lt_of_le A (Nat.le_trans (Nat.pow_le_pow_right (by decide) (show k<=7 from by omega)) (by decide));rcases qaR a.out.src with i|i|⟨c,i⟩
   ·have n:Hid (R=.error (9,((s.pos+k:Nat):Int))):=by
     show _=_;rw[<-j.out,qc2,List.getElem?_eq_none (by have:s.pos+k=s.bs.length:=i;omega)]
    have o:=qb1 _ b {s with pos:=s.pos+k} a.out.src i;clear j t p i A
    go_wp2_with(first
     |(go_at_call 186;refine o.mono ?_;rintro e C ⟨hF,l⟩;obtain rfl:=hF))
    rw[n.out];exact⟨rfl,a.out.but.trans (But.of_below l),rfl,_,a.out.src.below l⟩
   ·have n:Hid (R=.error (8,((s.pos+k:Nat):Int))):=by
     show _=_;have G:((s.pos+k:Nat):Int)=s.lim:=i.2;have H:s.pos+k<s.bs.length:=i.1;rw[<-j.out,qc2,List.getElem?_eq_getElem H];simp only[];rw[if_pos G]
    have o:=qbd _ b {s with pos:=s.pos+k} a.out.src i
    go_wp2_with(first
     |(go_at_call 186;refine o.mono ?_;rintro e C ⟨hF,l⟩;obtain rfl:=hF))
    rw[n.out];exact⟨rfl,a.out.but.trans (But.of_below l),rfl,_,a.out.src.below l⟩
   have K:s.bs[s.pos+k]?=some c:=i.1;have L:¬((s.pos+k:Nat):Int)=s.lim:=i.2;have E:Hid (qc2 s.bs s.lim m (s.pos+(k+1)) (d*256+c.toNat)=R):=by
    show _=_;have:=j.out;rw[qc2,K]at this;simp only[]at this;rw[if_neg L]at this;exact this
   have M:c.toNat<256:=c.toNat_lt;have T:=qpE d c.toNat J M;have D:Hid (d*256+c.toNat<256^(k+1)):=by show _<_;rw[Nat.pow_succ];omega
   have o:Calls prog 186 #[.pointer (some ⟨b,0,none⟩)] wr λe v=>e=.returned (.int .u8 c.toNat)/\qad v b {s with pos:=s.pos+(k+1)}/\But b wr v:=qaw _ b {s with pos:=s.pos+k} c a.out.src i
   go_wp2_with(first
    |(go_at_call 186;refine o.mono ?_;rintro e C ⟨rfl,I,l⟩;have F:=qab (a.out.step I l)))
   go_roundg m
   case measure=>omega
   case rel=>exact⟨k+1,d*256+c.toNat,by simp,by go_num,by show _=_;have:=p.out;omega,.inr D.out,F,E⟩

def qpc(c:UInt8):Option Nat:=if qbO c=true then some (c.toNat-48)else if 97<=c.toNat/\c.toNat<=102 then some (c.toNat-87)else if 65<=c.toNat/\c.toNat<=70 then some (c.toNat-55)else none
theorem qqx{d:Nat}(h:qpc c=some d):d<16:=by
 unfold qpc at h;split at h
 ·next hd=>have:=of_decide_eq_true hd;cases h;omega
 split at h
 ·cases h;omega
 split at h
 ·cases h;omega
 cases h
def qsd(c:UInt8):Value:=match qpc c with
 |some d=>.tuple #[.int .i32 d,.bool true]
 |none=>.tuple #[.int .i32 0,.bool false]
theorem qjJ(c:UInt8)(w:World):Calls prog 216 #[.int .u8 c.toNat] w λe l=>e=.returned (qsd c)/\l=w:=by
 have b:=qbr c w;have p:=c.toNat_lt;by_cases g:48<=(c.toNat:Int)/\(c.toNat:Int)<=57
 ·have a:Hid (qsd c=.tuple #[.int .i32 ((c.toNat:Int)-48),.bool true]):=by
   show _=_;unfold qsd qpc;rw[if_pos (show qbO c=true from decide_eq_true g)];simp only[];rw[show((c.toNat-48:Nat):Int)=(c.toNat:Int)-48 by omega]
  have d:=decide_eq_true g;rw[d]at b;go_enter func216,ntmps216
  go_wp2_with(first|(go_at_call 194;refine b.mono ?_;rintro e i ⟨rfl,rfl⟩))
  go_ret2
  rw[a.out];exact⟨rfl,rfl⟩
 have d:=decide_eq_false g;have h:qbO c=false:=d;rw[d]at b;by_cases f:97<=c.toNat/\c.toNat<=102
 ·have a:Hid (qsd c=.tuple #[.int .i32 ((c.toNat:Int)-97+10),.bool true]):=by
   show _=_;unfold qsd qpc;rw[if_neg (by rw[h];simp),if_pos f];simp only[];rw[show((c.toNat-87:Nat):Int)=(c.toNat:Int)-97+10 by omega]
  have k:decide (97<=(c.toNat:Int))=true:=by simp;omega
  have m:decide ((c.toNat:Int)<=102)=true:=by simp;omega
  go_enter func216,ntmps216
  go_wp2_with(first|(go_at_call 194;refine b.mono ?_;rintro e i ⟨rfl,rfl⟩))
  go_ret2
  rw[a.out];exact⟨rfl,rfl⟩
 by_cases j:65<=c.toNat/\c.toNat<=70
 ·have a:Hid (qsd c=.tuple #[.int .i32 ((c.toNat:Int)-65+10),.bool true]):=by
   show _=_;unfold qsd qpc;rw[if_neg (by rw[h];simp),if_neg f,if_pos j];simp only[];rw[show((c.toNat-55:Nat):Int)=(c.toNat:Int)-65+10 by omega]
  have k:decide (97<=(c.toNat:Int))=false:=by simp;omega
  have n:decide (65<=(c.toNat:Int))=true:=by simp;omega
  have o:decide ((c.toNat:Int)<=70)=true:=by simp;omega
  go_enter func216,ntmps216
  go_wp2_with(first|(go_at_call 194;refine b.mono ?_;rintro e i ⟨rfl,rfl⟩))
  go_ret2
  rw[a.out];exact⟨rfl,rfl⟩
 have a:Hid (qsd c=.tuple #[.int .i32 0,.bool false]):=by
  show _=_;unfold qsd qpc;rw[if_neg (by rw[h];simp),if_neg f,if_neg j]
 go_enter func216,ntmps216
 go_wp2_with(first|(go_at_call 194;refine b.mono ?_;rintro e i ⟨rfl,rfl⟩))
 all_goals first
  |(exfalso;omega)
  |(go_ret2;rw[a.out];exact⟨rfl,rfl⟩)
def qfK(bs:List UInt8)(lim:Int):Nat->Nat->Nat->Except (Int×Int) (Nat×Nat)
 |0,p,a=>.ok (a,p)
 |k+1,p,a=>match bs[p]? with
  |none=>.error (9,p)
  |some c=>if(p:Int)=lim then .error (8,p)else match qpc c with
   |none=>.error (9,p)
   |some d=>qfK bs lim k (p+1) (a*16+d)
theorem qgQ(W:World)(b:Nat)(s:Src)(h:qad W b s):Calls prog 212 #[.agg #[.pointer (some ⟨b,0,none⟩)]] W (qbU W b s (λx:Nat=>.int .i32 x) (qfK s.bs s.lim 4 s.pos 0)):=by
 have D:=qab (qaX h);obtain⟨R,j⟩:∃R,Hid (qfK s.bs s.lim 4 s.pos 0=R):=⟨_,show _=_ from rfl⟩
 rw[j.out];go_enter func212,ntmps212;go_wp2;generalize W.alloc (.cells #[.pointer (some ⟨b,0,none⟩)] 130)=W0 at *
 go_loopg[3,6] 4 (λm y z wr=>∃(k g:Nat),y=.int .i32 g/\z=.int .i64 k/\Hid (m+k=4)/\Hid (g<16^k)/\Hid (qoR W b W.heap.size {s with pos:=s.pos+k} wr)/\Hid (qfK s.bs s.lim m (s.pos+k) g=R))
 case atStart=>exact⟨0,0,rfl,rfl,rfl,by show 0<1;decide,D,j⟩
 case round =>
  obtain⟨k,g,rfl,rfl,t,A,a,j⟩:=hrel;have I:=a.out.cell
  cases gk with
  |zero =>
   have e:k=4:=by have:=t.out;omega
   subst e;have i:Hid (R=.ok (g,s.pos+4)):=j.out.symm;go_wp2;go_ret;rw[i.out];exact⟨a.out.but,rfl,a.out.src⟩
  |succ m =>
   have M:k<4:=by have:=t.out;omega
   have N:decide ((k:Int)<4)=true:=by simp;omega
   have K:g<4096:=Nat.lt_of_lt_of_le A.out (Nat.le_trans (Nat.pow_le_pow_right (by decide) (show k<=3 from by omega)) (by decide));rcases qaR a.out.src with f|f|⟨c,f⟩
   ·have i:Hid (R=.error (9,((s.pos+k:Nat):Int))):=by
     show _=_;rw[<-j.out,qfK,List.getElem?_eq_none (by have:s.pos+k=s.bs.length:=f;omega)]
    have o:=qb1 _ b {s with pos:=s.pos+k} a.out.src f
    go_wp2_with(first
     |(go_at_call 186;refine o.mono ?_;rintro e u ⟨hF,l⟩;obtain rfl:=hF))
    rw[i.out];exact⟨rfl,a.out.but.trans (But.of_below l),rfl⟩
   ·have i:Hid (R=.error (8,((s.pos+k:Nat):Int))):=by
     show _=_;have E:((s.pos+k:Nat):Int)=s.lim:=f.2;have F:s.pos+k<s.bs.length:=f.1;rw[<-j.out,qfK,List.getElem?_eq_getElem F];simp only[];rw[if_pos E]
    have o:=qbd _ b {s with pos:=s.pos+k} a.out.src f
    go_wp2_with(first
     |(go_at_call 186;refine o.mono ?_;rintro e u ⟨hF,l⟩;obtain rfl:=hF))
    rw[i.out];exact⟨rfl,a.out.but.trans (But.of_below l),rfl⟩
   have G:s.bs[s.pos+k]?=some c:=f.1;have H:¬((s.pos+k:Nat):Int)=s.lim:=f.2;have n:=j.out;rw[qfK,G]at n;simp only[]at n;rw[if_neg H]at n;have q:=λw=>qjJ c w;unfold qsd at q;have o:Calls prog 186 #[.pointer (some ⟨b,0,none⟩)] wr λe v=>e=.returned (.int .u8 c.toNat)/\qad v b {s with pos:=s.pos+(k+1)}/\But b wr v:=qaw _ b {s with pos:=s.pos+k} c a.out.src f;rcases hv:qpc c with _|d
   ·rw[hv]at n q;have i:Hid (R=.error (9,((s.pos+k:Nat):Int))):=n.symm
    go_wp2_with(first
     |(go_at_call 186;refine o.mono ?_;rintro e u ⟨rfl,r,l⟩;have p:=qab (a.out.step r l);have I:=p.out.cell)
     |(go_at_call 216;refine(q _).mono ?_;rintro e J ⟨rfl,rfl⟩)
     |(go_at_call 187;refine(qau _ b {s with pos:=s.pos+(k+1)} _ p.out.src).mono ?_;rintro e O ⟨hF,rfl⟩;obtain rfl:=hF))
    rw[i.out];exact⟨rfl,p.out.but,by show qan _ _ _;unfold qan qd5;simp;omega⟩
   rw[hv]at n q;have C:Hid (qfK s.bs s.lim m (s.pos+(k+1)) (g*16+d)=R):=n;have L:=qqx hv;have B:Hid (g*16+d<16^(k+1)):=by show _<_;rw[Nat.pow_succ];have:=A.out;omega
   go_wp2_with(first
    |(go_at_call 186;refine o.mono ?_;rintro e u ⟨rfl,r,l⟩;have p:=qab (a.out.step r l))
    |(go_at_call 216;refine(q _).mono ?_;rintro e J ⟨rfl,rfl⟩))
   go_roundg m
   case measure=>omega
   case rel=>exact⟨k+1,g*16+d,by simp,by go_num,by show _=_;have:=t.out;omega,B,p,C⟩

def qaQ(bs:List UInt8)(lim:Int):List UInt8->Nat->Except (Int×Int) (Unit×Nat)
 |[],p=>.ok ((),p)
 |x::xs,p=>match bs[p]? with
  |none=>.error (9,p)
  |some c=>if(p:Int)=lim then .error (8,p)else if c=x then qaQ bs lim xs (p+1)else .error (9,p)
theorem qbB(W:World)(b:Nat)(s:Src)(l:List UInt8)(hl:l.length<=100)(h:qad W b s):Calls prog 190 #[.agg #[.pointer (some ⟨b,0,none⟩)],.string ⟨l.toArray⟩] W (qbU W b s (λ_:Unit=>.tuple #[]) (qaQ s.bs s.lim l s.pos)):=by
 have H:=qab (qaX h);obtain⟨R,p⟩:∃R,Hid (qaQ s.bs s.lim l s.pos=R):=⟨_,show _=_ from rfl⟩
 rw[p.out];go_enter func190,ntmps190;go_wp2;generalize W.alloc (.cells #[.pointer (some ⟨b,0,none⟩)] 130)=W0 at *
 go_loopg[4,7] l.length (λm _ z wr=>∃(k:Nat),z=.int .i64 k/\Hid (m+k=l.length)/\Hid (qoR W b W.heap.size {s with pos:=s.pos+k} wr)/\Hid (qaQ s.bs s.lim (l.drop k) (s.pos+k)=R))
 case atStart=>exact⟨0,rfl,rfl,H,p⟩
 case round =>
  obtain⟨k,rfl,A,g,p⟩:=hrel;have Z:=g.out.cell
  cases gk with
  |zero =>
   have e:k=l.length:=by have:=A.out;omega
   have f:Hid (R=.ok ((),s.pos+k)):=by
    show _=_;rw[<-p.out,List.drop_eq_nil_of_le (by omega)];rfl
   have I:decide ((k:Int)<(l.length:Int))=false:=by simp;omega
   have J:decide (k<l.length)=false:=by simp;omega
   go_wp2;go_end0;rw[f.out];exact⟨g.out.but,rfl,g.out.src⟩
  |succ m =>
   have w:k<l.length:=by have:=A.out;omega
   have I:decide ((k:Int)<(l.length:Int))=true:=by simp;omega
   have J:decide (k<l.length)=true:=by simp;omega
   obtain⟨x,D⟩:∃x,l[k]=x:=⟨_,rfl⟩
   have X:l.drop k=x::l.drop (k+1):=by rw[List.drop_eq_getElem_cons w,D]
   have F:Hid (l[k]?=some x):=by show _=_;rw[List.getElem?_eq_getElem w,D]
   have t:{wr with drawn:=wr.drawn+1}.cell? ⟨W.heap.size,0,none⟩=some (.pointer (some ⟨b,0,none⟩)):=Z;have u:Hid (qad {wr with drawn:=wr.drawn+1} b {s with pos:=s.pos+k}):=g.out.src.drewN 1;have y:Hid (But b wr {wr with drawn:=wr.drawn+1}):=But.of_below (qao wr 1);have d:=p.out;rw[X,qaQ]at d;go_wp2;refine wp_region_held (S:=λV=>V.cell? ⟨W.heap.size,0,none⟩=some (.pointer (some ⟨b,0,none⟩))) (by kernel_rfl) ?_;refine wpAnyH_take (i:=0) (v:=.pointer (some ⟨W.heap.size,0,none⟩)) rfl (by kernel_rfl) (by kernel_rfl) (by kernel_rfl) (λ_ _ _ h=>h) (.inl ⟨rfl,λV n=>rfl⟩) t ?_;refine wpAnyH_take (i:=1) (v:=.pointer (some ⟨b,0,none⟩)) rfl (by kernel_rfl) (by kernel_rfl) (by kernel_rfl) (λ_ _ _ h=>h) (.inl ⟨rfl,λV n=>?y1⟩) t ?_
   case y1=>go_simp
   refine wpAnyH_take (i:=3) (v:=.string ⟨l.toArray⟩) rfl (by kernel_rfl) (by kernel_rfl) (by kernel_rfl) (λ_ _ _ h=>h) (.inl ⟨rfl,λV n=>rfl⟩) t ?_;refine wpAnyH_take (i:=4) (v:=.int .i64 k) rfl (by kernel_rfl) (by kernel_rfl) (by kernel_rfl) (λ_ _ _ h=>h) (.inl ⟨rfl,λV n=>rfl⟩) t ?_;refine wpAnyH_take (i:=5) (v:=.int .u8 x.toNat) rfl (by kernel_rfl) (by kernel_rfl) (by kernel_rfl) (λ_ _ _ h=>h) (.inl ⟨rfl,λV n=>?y5⟩) t ?_
   case y5 =>
    have Y:=Option.some.inj ((List.getElem?_eq_getElem w).symm.trans F.out);go_simp;show(((l.toArray)[k]'(by simpa using w)).toNat:Int)=_;rw[List.getElem_toArray,Y]
   refine rdq 2 (λK N=>?_);rcases qaR u.out with a|a|⟨c,a⟩
   ·have f:Hid (R=.error (9,((s.pos+k:Nat):Int))):=by
     show _=_;rw[<-d,List.getElem?_eq_none (by have:s.pos+k=s.bs.length:=a;omega)]
    have q:=qb1 _ b {s with pos:=s.pos+k} u.out a;go_simp;refine q.mono ?_;rintro e E ⟨hF,r⟩;obtain rfl:=hF;exact⟨rfl,(g.out.but.trans y.out).trans (But.of_below r),by rw[f.out];rfl⟩
   ·have f:Hid (R=.error (8,((s.pos+k:Nat):Int))):=by
     show _=_;have L:((s.pos+k:Nat):Int)=s.lim:=a.2;have M:s.pos+k<s.bs.length:=a.1;rw[<-d,List.getElem?_eq_getElem M];simp only[];rw[if_pos L]
    have q:=qbd _ b {s with pos:=s.pos+k} u.out a;go_simp;refine q.mono ?_;rintro e E ⟨hF,r⟩;obtain rfl:=hF;exact⟨rfl,(g.out.but.trans y.out).trans (But.of_below r),by rw[f.out];rfl⟩
   have P:s.bs[s.pos+k]?=some c:=a.1;have Q:¬((s.pos+k:Nat):Int)=s.lim:=a.2;rw[P]at d;simp only[]at d;rw[if_neg Q]at d;have q:Calls prog 186 #[.pointer (some ⟨b,0,none⟩)] {wr with drawn:=wr.drawn+1} λe B=>e=.returned (.int .u8 c.toNat)/\qad B b {s with pos:=s.pos+(k+1)}/\But b {wr with drawn:=wr.drawn+1} B:=qaw _ b {s with pos:=s.pos+k} c u.out a;go_simp;refine q.mono ?_;rintro e E ⟨rfl,O,r⟩;simp only[];have j:=qab (g.out.step O (y.out.trans r));refine N.out _ _ j.out.cell (λ_=>?_);have aa:=j.out.cell;by_cases o:c=x
   ·have T:((c.toNat:Int)==(x.toNat:Int))=true:=by rw[o];simp
    have U:c.toNat=x.toNat:=by rw[o]
    have G:Hid (qaQ s.bs s.lim (l.drop (k+1)) (s.pos+(k+1))=R):=by show _=_;rw[<-d,if_pos o];rfl
    refine wpAnyH_take (i:=6) (v:=.bool false) rfl (by kernel_rfl) (by kernel_rfl) (by kernel_rfl) (λ_ _ _ h=>h) (.inl ⟨rfl,λV n=>?y6⟩) j.out.cell ?_
    case y6=>(go_simp;first|done|omega|assumption|trace_state)
    refine wdn ?_;go_wp2;go_roundg m
    case measure=>omega
    case rel=>exact⟨k+1,by go_num,by show _=_;have:=A.out;omega,j,G⟩
   have T:((c.toNat:Int)==(x.toNat:Int))=false:=by
    simp only[beq_eq_false_iff_ne,ne_eq];intro C;exact o (UInt8.toNat_inj.1 (by omega))
   have U:¬c.toNat=x.toNat:=λC=>o (UInt8.toNat_inj.1 C);have f:Hid (R=.error (9,((s.pos+k:Nat):Int))):=by show _=_;rw[<-d,if_neg o]
   refine wpAnyH_take (i:=6) (v:=.bool true) rfl (by kernel_rfl) (by kernel_rfl) (by kernel_rfl) (λ_ _ _ h=>h) (.inl ⟨rfl,λV n=>?y6⟩) j.out.cell ?_
   case y6=>(go_simp;first|done|omega|assumption|trace_state)
   refine wdn ?_
   go_wp2_with(first
    |(go_at_call 187;refine(qau _ b {s with pos:=s.pos+(k+1)} _ j.out.src).mono ?_;rintro e w7 ⟨hF,rfl⟩;obtain rfl:=hF))
   rw[f.out];exact⟨rfl,j.out.but,by show qan _ _ _;unfold qan qd5;simp;omega⟩

theorem Tryz.infoStr:(prog.info? 9).map (λi=>(i.zero,i.size,i.bytes))=some (some (.string ByteArray.empty),1,16):=by kernel_rfl
theorem qsM(s:ByteArray)(a b:Nat):(s.extract a b).data.toList=(s.data.toList.take b).drop a:=by
 rw[Lib.extract_data];simp[List.drop_take]
structure Cut(c:UInt8)(l:List UInt8)(ps:List ByteArray)(f i:Nat):Prop where
 fi:f<=i
 il:i<=l.length
 len:ps.length<=i
 eq:qam c l=ps.map (·.data.toList)++qam c (l.drop f)
 no:∀x,x∈(l.take i).drop f->(x==c)=false
theorem Cut.next(h:Cut c l ps f i)(hi:i<l.length)(d:(l[i]==c)=false):Cut c l ps f (i+1):=by
 refine⟨by have:=h.fi;omega,hi,by have:=h.len;omega,h.eq,λx b=>?_⟩;rw[List.take_succ_eq_append_getElem hi,List.drop_append_of_le_length (by rw[List.length_take];have:=h.fi;omega),List.mem_append]at b;rcases b with a|a
 ·exact h.no x a
 rw[List.mem_singleton]at a;rw[a];exact d
theorem Cut.found(h:Cut c l ps f i)(hi:i<l.length)(d:l[i]=c)(p:ByteArray)(b:p.data.toList=(l.take i).drop f):Cut c l (ps++[p]) (i+1) (i+1):=by
 refine⟨Nat.le_refl _,hi,by rw[List.length_append];have:=h.len;simp;omega,?_,λx a=>?_⟩
 ·rw[h.eq,List.map_append,List.append_assoc];congr 1;have e:l.drop f=(l.take i).drop f++c::l.drop (i+1):=by
   conv=>lhs;rw[<-List.take_append_drop i l]
   rw[List.drop_append_of_le_length (by rw[List.length_take];have:=h.fi;omega),List.drop_eq_getElem_cons hi,d]
  rw[e,qd6 c _ _ h.no,<-b];rfl
 rw[List.drop_eq_nil_of_le (by rw[List.length_take];omega)]at a;exact absurd a (by simp)
theorem Cut.last(h:Cut c l ps f l.length)(p:ByteArray)(a:p.data.toList=l.drop f):qam c l=(ps++[p]).map (·.data.toList):=by
 rw[h.eq,List.map_append];congr 1;have:=h.no;rw[List.take_length]at this;rw[qej c _ this,<-a];rfl
theorem qhe(s:ByteArray)(c:UInt8)(m:Int)(D:m=c.toNat)(w:World)(Y:s.size<=100000):Calls prog 37 #[.string s,.int .u8 m] w λe K =>
   ∃(v:Value) (a:List ByteArray),e=.returned v/\K.ownsRow w.heap.size 9 1 v a.length (a.map Value.string)/\Below w.heap.size w K/\a.map (·.data.toList)=qam c s.data.toList:=by
 obtain⟨J,E,G,H,I⟩:=info_parts Tryz.infoStr;have V:s.data.toList.length=s.size:=Array.length_toList;have C:=qab D;clear D;go_enter func37,ntmps37;go_wp2
 go_loopg[5,6,7] s.size (λg v x y wr=>∃(a:List ByteArray) (f i:Nat) (r:Option Addr) (t:Nat),Hid (i+g=s.size)/\v=.slice r a.length t/\x=.int .i64 f/\y=.int .i64 i/\Hid (wr.ownsRow w.heap.size 9 1 v a.length (a.map Value.string))/\Hid (Below w.heap.size w wr)/\Hid (Cut c s.data.toList a f i))
 case atStart =>
  exact⟨[],0,0,none,0,by show _=_;omega,rfl,rfl,rfl,World.ownsRow_nil _ _ _ _,Below.refl _ _,⟨Nat.le_refl _,Nat.zero_le _,Nat.le_refl _,by simp,λx b=>by simp at b⟩⟩
 case round =>
  obtain⟨a,f,i,r,t,d,rfl,rfl,rfl,k,o,j⟩:=hrel;have S:=j.out.fi;have X:=j.out.len;have F:=o.out.size;have U:i<=s.size:=by have:=d.out;omega
  cases gk with
  |zero =>
   have O:¬(i:Int)<s.size:=by have:=d.out;omega
   have T:f<=s.size:=by omega
   go_wp2_with(first
    |(at_builtin;refine wpList_append_own _ rfl _ _ 96 rfl w.heap.size 9 J (.string ByteArray.empty) 1 16 underlying96 E G H I rfl (by decide) _ _ _ rfl (k.out.alloc _) ⟨wr.heap.size,0,none⟩ 1 1 [.string (s.extract f s.size)] rfl rfl (cell_one_new _ _ _) (λx b=>by simp at b;subst b;rfl) (by unfold maxLen;omega) (by omega) (by simp;omega) ?_;intro B R p z P))
   go_ret;have N:i=s.data.toList.length:=by have:=d.out;omega
   have L:=j.out;subst N;exact⟨B,rfl,a++[s.extract f s.size],by rw[List.length_append,List.map_append];exact p,(o.out.alloc F _).grown z (by simp;omega) (λq A=>(k.out.lt q A).1),(L.last _ (Lib.extract_to_end s f)).symm⟩
  |succ g =>
   have O:(i:Int)<s.size:=by have:=d.out;omega
   have W:i<s.size:=by omega
   by_cases u:(s[i].toNat:Int)=m
   ·have M:((s[i].toNat:Int)==m)=true:=by rw[beq_iff_eq];exact u
    go_wp2_with(first
     |(at_builtin;refine wpList_append_own _ rfl _ _ 96 rfl w.heap.size 9 J (.string ByteArray.empty) 1 16 underlying96 E G H I rfl (by decide) _ _ _ rfl (k.out.alloc _) ⟨wr.heap.size,0,none⟩ 1 1 [.string (s.extract f i)] rfl rfl (cell_one_new _ _ _) (λx b=>by simp at b;subst b;rfl) (by unfold maxLen;omega) (by omega) (by simp;omega) ?_;intro B R p z P))
    go_roundg g
    case measure=>omega
    case rel =>
     obtain⟨n,l,Q⟩:∃n l,B=.slice (some ⟨n,0,none⟩) (a.length+1) l:=by
      rcases p.2 with⟨_,h⟩|⟨n,l,_,h,_⟩
      ·omega
      exact⟨n,l,h⟩
     have b:s.data.toList[i]=c:=by
      have e:s[i].toNat=c.toNat:=by have:=C.out;omega
      exact UInt8.toNat_inj.1 e
     exact⟨a++[s.extract f i],i+1,i+1,some ⟨n,0,none⟩,l,by show _=_;have:=d.out;omega,by rw[Q,List.length_append];rfl,by go_num,by go_num,by show World.ownsRow _ _ _ _ _ _ _;rw[List.length_append,List.map_append];exact p,(o.out.alloc F _).grown z (by simp;omega) (λq A=>(k.out.lt q A).1),j.out.found (by omega) b _ (qsM s f i)⟩
   have M:((s[i].toNat:Int)==m)=false:=by rw[beq_eq_false_iff_ne];exact u
   go_wp2;go_roundg g
   case measure=>omega
   case rel =>
    refine⟨a,f,i+1,r,t,by show _=_;have:=d.out;omega,rfl,rfl,by go_num,k.out,o.out,j.out.next (by omega) ?_⟩;rw[beq_eq_false_iff_ne];intro e;exact u (by rw[C.out,<-e];rfl)

theorem qel{base:Nat}{v:Value}(h:w.ownsRow base 9 1 v ps.length (ps.map Value.string))(o:0<ps.length):∃g a,v=.slice (some ⟨g,0,none⟩) ps.length a/\base<=g/\g<w.heap.size/\∀j (d:j<ps.length),w.cell? ⟨g,j,none⟩=some (.string ps[j]):=by
 obtain⟨_,⟨_,l⟩|⟨g,a,b,k,f,c,n,_,m,i⟩⟩:=h
 ·omega
 refine⟨g,a,k,f,(ltA c),λj d=>?_⟩;have e:b.toList[j]?=some (.string ps[j]):=by
  have:=congrArg (·[j]?) i;simp only[List.getElem?_take,List.getElem?_map]at this;rw[if_pos (by omega),List.getElem?_eq_getElem d]at this;exact this
 rw[cell_of_row w g j b _ _ c];simpa using e
theorem qeV(c:UInt8):∀l:List UInt8,(qam c l).length<=l.length+1
 |[]=>by simp[qam]
 |x::r=>by
  have d:=qeV c r;unfold qam;split
  ·simp only[List.length_cons];omega
  cases h:qam c r with
  |nil=>simp
  |cons a b=>rw[h]at d;simp only[List.length_cons]at *;omega
theorem qb6(c:UInt8):∀(l p:List UInt8),p∈qam c l->p.length<=l.length
 |[],p,h=>by simp[qam]at h;subst h;exact Nat.le_refl _
 |x::r,p,h=>by
  have d:=λq=>qb6 c r q;unfold qam at h;split at h
  ·rcases List.mem_cons.1 h with rfl|h
   ·exact Nat.zero_le _
   exact Nat.le_succ_of_le (d p h)
  cases e:qam c r with
  |nil=>exact absurd e (qhn _ _)
  |cons a b =>
   rw[e]at h d;rcases List.mem_cons.1 h with rfl|h
   ·exact Nat.succ_le_succ (d a (List.mem_cons_self ..))
   exact Nat.le_succ_of_le (d p (List.mem_cons_of_mem _ h))
theorem qmE(h:ps.map (·.data.toList)=qam c l):0<ps.length:=by
 rcases ps with _|⟨a,b⟩
 ·exact absurd h.symm (qhn _ _)
 simp
def qg9(l:List UInt8):Bool:=qgw l||(l==[42]||(l==[42,42]||l==[91,93]))
def qfl(l:List UInt8):Bool:=l==[46]||((qam 47 l).all qg9&&decide ((qam 47 l).length<=8))
theorem qlK(s:ByteArray)(w:World)(W:s.size<=100000):Calls prog 55 #[.string s] w λe X =>
   ∃a n K,e=.returned (.tuple #[.slice a n K,.bool (qfl s.data.toList)])/\Below w.heap.size w X:=by
 cases N:(s.toList==[46])
 ·have t:Hid (qfl s.data.toList=((qam 47 s.data.toList).all qg9&&decide ((qam 47 s.data.toList).length<=8))):=by
   show _=_;unfold qfl;rw[<-Lib.toList_data,N,Bool.false_or]
  go_enter func55,ntmps55;have S:True:=trivial
  go_wp2_with(first
   |(go_at_call 37;clear S;refine(qhe s 47 47 rfl _ W).mono ?_;rintro e m ⟨ad,b,rfl,I,G,l⟩;obtain⟨g,K,rfl,hg,v,M⟩:=qel I (qmE l)))
  have ac:=qmE l;have ab:b.length<=100001:=by
   have T:=congrArg List.length l;have Y:=qeV 47 s.data.toList;have U:s.data.toList.length=s.size:=Array.length_toList;rw[List.length_map]at T;omega
  have O:∀p,p∈b->p.size<=4611686018427387904:=λp E=>by
   have:=qb6 47 s.data.toList p.data.toList (by rw[<-l];exact List.mem_map_of_mem E);have U:s.data.toList.length=s.size:=Array.length_toList;have Z:p.data.toList.length=p.size:=Array.length_toList;omega
  have R:=qab O;have P:=qab M;have J:Hid (qfl s.data.toList=(b.all (λp=>qg9 p.data.toList)&&decide (b.length<=8))):=by
   show _=_;rw[t.out,<-l,List.all_map,List.length_map];rfl
  have r:=qab G;clear G t l I M O
  go_loopg[5] b.length (λgk x wr=>∃k:Nat,Hid (k+gk=b.length)/\x=.int .i64 k/\m=wr/\Hid (∀i (h:i<b.length),i<k->qg9 b[i].data.toList=true))
  case atStart=>exact⟨0,by show _=_;omega,rfl,rfl,λi _ A=>by omega⟩
  case round =>
   obtain⟨k,j,rfl,rfl,B⟩:=hrel
   cases gk with
   |zero =>
    have V:¬(k:Int)<b.length:=by have:=j.out;omega
    have F:Hid (qfl s.data.toList=decide ((b.length:Int)<=8)):=by
     show _=_;rw[J.out,(List.all_eq_true.2 λp E=>by
      obtain⟨i,A,rfl⟩:=List.getElem_of_mem E;exact B.out i A (by have:=j.out;omega):b.all (λp=>qg9 p.data.toList)=true),Bool.true_and]
     congr 1;rw[eq_iff_iff];omega
    go_wp2
    go_ret2
    first|exact⟨_,_,_,by rw[F.out];rfl,r.out⟩|exact⟨⟨_,_,_,by rw[F.out];rfl⟩,r.out⟩
   |succ z =>
    have V:(k:Int)<b.length:=by have:=j.out;omega
    have D:k<b.length:=by omega
    have hc:=P.out k D;have q:=R.out b[k] (List.getElem_mem D);have Q:Hid (qg9 b[k].data.toList=false->qfl s.data.toList=false):=λh=>by
     rw[J.out,Bool.and_eq_false_iff];left;rw[List.all_eq_false];exact⟨b[k],List.getElem_mem D,by rw[h];decide⟩
    have u:Hid (qg9 b[k].data.toList=true->∀i (h:i<b.length),i<k+1->qg9 b[i].data.toList=true):=λh i A aa=>by
     by_cases e:i=k
     ·subst e;exact h
     exact B.out i A (by omega)
    clear B;generalize b[k]=p at *;have o:Hid (qg9 p.data.toList=(qgw p.data.toList||(p.toList==[42]||(p.toList==[42,42]||p.toList==[91,93])))):=by
     show _=_;unfold qg9;rw[Lib.toList_data]
    cases d:qgw p.data.toList
    ·cases y:(p.toList==[42])
     ·cases C:(p.toList==[42,42])
      ·cases L:(p.toList==[91,93])
       ·have H:=qab (Q.out (by rw[o.out,d,y,C,L];rfl))
        go_wp2_with(first
         |(go_at_call 71;refine(qcv p _ q).mono ?_;rintro e m ⟨rfl,rfl⟩;rw[d]))
        go_ret2
        first|exact⟨_,_,_,by rw[H.out];rfl,r.out⟩|exact⟨⟨_,_,_,by rw[H.out];rfl⟩,r.out⟩
       have c:=u.out (by rw[o.out,d,y,C,L];rfl);have f:=qab c;clear c
       go_wp2_with(first
        |(go_at_call 71;refine(qcv p _ q).mono ?_;rintro e m ⟨rfl,rfl⟩;rw[d]))
       go_roundg z
       case measure=>omega
       case rel=>exact⟨k+1,by show _=_;have:=j.out;omega,by go_num,rfl,f.out⟩
      have c:=u.out (by rw[o.out,d,y,C];rfl);have f:=qab c;clear c
      go_wp2_with(first
       |(go_at_call 71;refine(qcv p _ q).mono ?_;rintro e m ⟨rfl,rfl⟩;rw[d]))
      go_roundg z
      case measure=>omega
      case rel=>exact⟨k+1,by show _=_;have:=j.out;omega,by go_num,rfl,f.out⟩
     have c:=u.out (by rw[o.out,d,y];rfl);have f:=qab c;clear c
     go_wp2_with(first
      |(go_at_call 71;refine(qcv p _ q).mono ?_;rintro e m ⟨rfl,rfl⟩;rw[d]))
     go_roundg z
     case measure=>omega
     case rel=>exact⟨k+1,by show _=_;have:=j.out;omega,by go_num,rfl,f.out⟩
    have c:=u.out (by rw[o.out,d];rfl);have f:=qab c;clear c
    go_wp2_with(first
     |(go_at_call 71;refine(qcv p _ q).mono ?_;rintro e m ⟨rfl,rfl⟩;rw[d]))
    go_roundg z
    case measure=>omega
    case rel=>exact⟨k+1,by show _=_;have:=j.out;omega,by go_num,rfl,f.out⟩
 have t:Hid (qfl s.data.toList=true):=by
  show _=_;unfold qfl;rw[<-Lib.toList_data,N,Bool.true_or]
 go_enter func55,ntmps55;go_wp2
 go_ret2
 exact⟨none,0,0,by rw[t.out];rfl,Below.refl _ _⟩

def qcF:Array Value:=#[.slice none 0 0,.int .i64 0,.int .i64 0]
def qfX(a:Option Addr)(n cap:Nat)(x y:Int):Array Value:=#[.slice a n cap,.int .i64 x,.int .i64 y]
theorem qcX(a:Option Addr)(n b:Nat)(x y:Int):(qfX a n b x y).all (·.oneCell')=true:=by simp[qfX,Value.oneCell']
theorem qgi:qcF.all (·.oneCell')=true:=qcX none 0 0 0 0
theorem qdf:(prog.info? 99).map (·.size)=some 3:=by kernel_rfl
def qkl(n:Nat):List (List UInt8)->Bool
 |[a,b,c]=>qfl a&&(qiK b n&&qeM ⟨c.toArray⟩ != 0)
 |_=>false
def qaD(n:Nat)(l:List UInt8):Bool:=qkl n (qam 32 l)
theorem qkU{q:List (List UInt8)}(h:q.length≠3):qkl n q=false:=by
 match q,h with
 |[],_=>rfl
 |[_],_=>rfl
 |[_,_],_=>rfl
 |_::_::_::_::_,_=>rfl
structure qtq(w:World)(arr:Array Value)(W:World):Prop where
 below:Below w.heap.size w W
 box:W.heap[w.heap.size]?=some (.cells arr 25)
 res:W.heap[w.heap.size+1]?=some (.cells qcF 99)
 lo:w.heap.size+1<W.heap.size
theorem qtq.step{arr:Array Value}(h:qtq w arr W)(a:Below W.heap.size W W'):qtq w arr W':=by
 have:=h.lo;exact⟨h.below.trans (a.mono h.below.size),(a.block _ (by omega)).trans h.box,(a.block _ (by omega)).trans h.res,Nat.lt_of_lt_of_le this a.size⟩
theorem qt2(w b:World)(arr:Array Value)(a:Below (w.heap.size+1+1) ((w.alloc (.cells arr 25)).alloc (.cells qcF 99)) b):qtq w arr b:=by
 have c:=a.size;simp only[World.size_alloc]at c;refine⟨((bwA).alloc (by simp) _).trans (a.mono (by omega)),?_,?_,by omega⟩
 ·rw[a.block _ (by omega),Below.heap_alloc _ _ _ (by simp)];exact qac _ _
 rw[a.block _ (by omega)];have:=qac (w.alloc (.cells arr 25)) (.cells qcF 99);rwa[World.size_alloc]at this
theorem q06(h:ps.length=3):∃d e f,ps=[d,e,f]:=by
 match ps,h with
 |[a,b,c],_=>exact⟨a,b,c,rfl⟩
theorem qzt(p:ByteArray):(⟨p.data.toList.toArray⟩:ByteArray)=p:=by cases p;rfl
theorem qsQ(g:ps.map (·.data.toList)=qam 32 l):(ps.length≠3/\qaD n l=false)\/∃c a b,ps=[c,a,b]/\((a.size≠1/\qaD n l=false)\/∃h:a.size=1,
   ((a[0].toNat:Int)<48/\qaD n l=false)\/((57:Int)<a[0].toNat/\qaD n l=false) \/
   ((48:Int)<=a[0].toNat/\(a[0].toNat:Int)<=57/\qaD n l=(qfl c.data.toList&&(qeM b != 0&&qbM n ((a[0].toNat:Int)-48))))):=by
 by_cases f:ps.length=3
 ·right;obtain⟨c,a,b,rfl⟩:=q06 f;refine⟨c,a,b,rfl,?_⟩;have e:qaD n l=(qfl c.data.toList&&(qiK a.data.toList n&&qeM b != 0)):=by
   unfold qaD;rw[<-g];simp only[List.map_cons,List.map_nil,qkl,qzt]
  by_cases d:a.size=1
  ·right;refine⟨d,?_⟩;rw[qnv d]at e;by_cases i:(a[0].toNat:Int)<48
   ·left;refine⟨i,?_⟩;rw[e];simp only[qiK];rw[decide_eq_false (by omega)];simp
   right;by_cases j:(57:Int)<a[0].toNat
   ·left;refine⟨j,?_⟩;rw[e];simp only[qiK];rw[decide_eq_false (by omega)];simp
   right;refine⟨by omega,by omega,?_⟩;rw[e];simp only[qiK,qbM];rw[decide_eq_true (show 48<=a[0].toNat/\a[0].toNat<=57 by omega),Bool.true_and,Bool.and_comm (qeM b != 0)];congr 2;rw[decide_eq_decide];omega
  left;refine⟨d,?_⟩;rw[e,(qqu (n:=n) (by rw[Array.length_toList];exact d)).2];simp
 left;refine⟨f,?_⟩;unfold qaD;exact qkU (by rw[<-g,List.length_map];exact f)
theorem qsa{s:ByteArray}{w2:World}(q:s.size<=100000)(l:ps.map (·.data.toList)=qam 32 s.data.toList)(e:∀j (p:j<ps.length),w2.cell? ⟨g,j,none⟩=some (.string ps[j])):(¬(ps.length:Int)=3/\Hid (qaD n s.data.toList=false)) \/
  (∃b a c,ps=[b,a,c]/\w2.cell? ⟨g,1,none⟩=some (.string a)/\¬(a.size:Int)=1/\Hid (qaD n s.data.toList=false)) \/
  (∃b a c,ps=[b,a,c]/\w2.cell? ⟨g,1,none⟩=some (.string a)/\∃h:a.size=1,(a.size:Int)=1/\(a[0].toNat:Int)<48/\Hid (qaD n s.data.toList=false)) \/
  (∃b a c,ps=[b,a,c]/\w2.cell? ⟨g,1,none⟩=some (.string a)/\∃h:a.size=1,(a.size:Int)=1/\(48:Int)<=a[0].toNat/\(57:Int)<a[0].toNat/\Hid (qaD n s.data.toList=false)) \/
  (∃b a c,ps=[b,a,c]/\w2.cell? ⟨g,0,none⟩=some (.string b)/\w2.cell? ⟨g,1,none⟩=some (.string a)/\w2.cell? ⟨g,2,none⟩=some (.string c)/\∃h:a.size=1,(a.size:Int)=1/\(48:Int)<=a[0].toNat/\(a[0].toNat:Int)<=57/\Hid (b.size<=100000) /\
   Hid (qaD n s.data.toList=(qfl b.data.toList&&(qeM c != 0&&qbM n ((a[0].toNat:Int)-48))))):=by
 rcases qsQ (n:=n) l with⟨m,d⟩|⟨b,a,c,rfl,⟨f,d⟩|⟨f,⟨i,d⟩|⟨k,d⟩|⟨i,k,d⟩⟩⟩
 ·exact Or.inl ⟨by omega,d⟩
 ·exact Or.inr (Or.inl ⟨b,a,c,rfl,e 1 (by simp),by omega,d⟩)
 ·exact Or.inr (Or.inr (Or.inl ⟨b,a,c,rfl,e 1 (by simp),f,by omega,i,d⟩))
 ·exact Or.inr (Or.inr (Or.inr (Or.inl ⟨b,a,c,rfl,e 1 (by simp),f,by omega,by omega,k,d⟩)))
 refine Or.inr (Or.inr (Or.inr (Or.inr ⟨b,a,c,rfl,e 0 (by simp),e 1 (by simp),e 2 (by simp),f,by omega,i,k,?_,d⟩)));show _<=_;have:=qb6 32 s.data.toList b.data.toList (by rw[<-l];simp);have m:s.data.toList.length=s.size:=Array.length_toList;have o:b.data.toList.length=b.size:=Array.length_toList;omega
theorem qta(arr:Array Value)(n:Nat)(Q:arr[0]?=some (.int .i64 n))(U:arr.size=11)(s:ByteArray)(w:World)(J:s.size<=100000):Calls prog 38 #[.agg arr,.string s] w λe V =>
   ∃a m D x y,e=.returned (.tuple #[.agg (qfX a m D x y),.bool (qaD n s.data.toList)])/\Below w.heap.size w V:=by
 have O:=qab U;have L:=qab Q;have o:Hid ((prog.info? 99).map (·.size)=some qcF.size):=qdf;go_enter func38,ntmps38;have X:True:=trivial;have Y:True:=trivial
 go_wp2_with(first
  |(go_at_call 37;go_loud (refine(qhe s 32 32 rfl _ J).mono ?_;rintro e W ⟨ac,ps,rfl,M,C,t⟩;obtain⟨g,D,rfl,hg,I,H⟩:=qel M (qmE t);have q:=qab (qt2 w W arr (by simp only[World.size_alloc]at C;exact C));rcases qsa (n:=n) J t H with⟨Z,d⟩|⟨l,c,b,rfl,r,A,d⟩|⟨l,c,b,rfl,r,F,A,G,d⟩|⟨l,c,b,rfl,r,F,A,G,R,d⟩|⟨l,c,b,rfl,v,r,T,F,A,G,R,N,d⟩;all_goals clear t H))
  |(refine wpList_store_row rfl 99 _ _ rfl (w.heap.size+1) qcF rfl rfl 99 qcF q.out.res o.out rfl qgi ?_))
 all_goals first
  |(refine bodyPost_ret (qap results38 _ _ (w.heap.size+1) 99 qcF (0,0) _ rfl (setRow_heap _ _ qcF _ _ _ q.out.res) underlying99 rfl qdf (.bool false) rfl) rfl ⟨none,0,0,0,0,by rw[d.out];rfl,qah q.out.below (by omega) _⟩)
  |skip
 refine(qlK l _ N.out).mono ?_;rintro e w3 ⟨h,j,i,rfl,B⟩;have f:=qab (q.out.step B);have aa:=(B.cell (p:=⟨g,1,none⟩) I).trans r;have ab:=(B.cell (p:=⟨g,2,none⟩) I).trans T;cases z:qfl l.data.toList
 ·have k:Hid (qaD n s.data.toList=false):=by show _=_;rw[d.out,z];rfl
  go_wp2_with(first
   |(go_at_call 56;refine(qfk b _).mono ?_;rintro e K ⟨rfl,rfl⟩)
   |(refine wpList_store_row rfl 99 _ _ rfl (w.heap.size+1) (qfX h j i ((c[0].toNat:Int)-48) (qeM b)) rfl rfl 99 qcF f.out.res o.out rfl (qcX _ _ _ _ _) ?_))
  refine bodyPost_ret (qap results38 _ _ (w.heap.size+1) 99 (qfX h j i ((c[0].toNat:Int)-48) (qeM b)) (0,0) _ rfl (setRow_heap _ _ qcF _ _ _ f.out.res) underlying99 rfl qdf (.bool false) rfl) rfl ⟨_,_,_,_,_,by rw[k.out],qah f.out.below (by omega) _⟩
 by_cases E:qeM b=0
 ·have k:Hid (qaD n s.data.toList=false):=by show _=_;rw[d.out,z,E];rfl
  go_wp2_with(first
   |(go_at_call 56;refine(qfk b _).mono ?_;rintro e K ⟨rfl,rfl⟩)
   |(refine wpList_store_row rfl 99 _ _ rfl (w.heap.size+1) (qfX h j i ((c[0].toNat:Int)-48) 0) rfl rfl 99 qcF f.out.res o.out rfl (qcX _ _ _ _ _) ?_))
  refine bodyPost_ret (qap results38 _ _ (w.heap.size+1) 99 (qfX h j i ((c[0].toNat:Int)-48) 0) (0,0) _ rfl (setRow_heap _ _ qcF _ _ _ f.out.res) underlying99 rfl qdf (.bool false) rfl) rfl ⟨_,_,_,_,_,by rw[k.out],qah f.out.below (by omega) _⟩
 have P:(qeM b != 0)=true:=by simp[E]
 have k:Hid (qaD n s.data.toList=qbM n ((c[0].toNat:Int)-48)):=by show _=_;rw[d.out,z,P];rfl
 go_wp2_with(first
  |(go_at_call 56;refine(qfk b _).mono ?_;rintro e K ⟨rfl,rfl⟩)
  |(go_at_call 19;refine(qcQ arr n L.out _ _).mono ?_;rintro e w5 ⟨rfl,S⟩;have u:=qab (f.out.step S))
  |(refine qaf 25 _ rfl ?hw _ rfl _ _ _ _ f.out.box underlying25 rfl (qaA O.out) ?_;case hw=>simp[go_sem];done)
  |(refine wpList_store_row rfl 99 _ _ rfl (w.heap.size+1) (qfX h j i ((c[0].toNat:Int)-48) (qeM b)) rfl rfl 99 qcF u.out.res o.out rfl (qcX _ _ _ _ _) ?_))
 refine bodyPost_ret (qap results38 _ _ (w.heap.size+1) 99 (qfX h j i ((c[0].toNat:Int)-48) (qeM b)) (0,0) _ rfl (setRow_heap _ _ qcF _ _ _ u.out.res) underlying99 rfl qdf (.bool (qbM n ((c[0].toNat:Int)-48))) rfl) rfl ⟨_,_,_,_,_,by rw[k.out],qah u.out.below (by omega) _⟩

end
end Go.Proofs.YtpifimohecagoaaGreatDoor
