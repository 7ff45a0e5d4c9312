import Derived.Test.YtcokgepdckkjdaaGreatDoorRq06
import Derived.Test.YtcokgepdckkjdaaGreatDoorRq08
import Derived.Test.YtcokgepdckkjdaaGreatDoorRq07
set_option maxRecDepth 100000
set_option maxHeartbeats 8000000
namespace Go.Proofs.YtcokgepdckkjdaaGreatDoor
open Go.Proofs.Tryz
variable {c d:Int}{L:List (Int×Int)}{a b h i j k l n x:Nat}{e:Int×Int}{m:Nat->Nat->Bool}{S:Nat->Bool}
section
open Go.RowKit
theorem ok1 (l:List UInt8)(lo hi:Nat):qhZ lo hi l 1=true↔(1<l.length/\lo<=(l.getD 1 0).toNat/\(l.getD 1 0).toNat<=hi):=by
 unfold qhZ;rw[if_pos rfl,Bool.and_eq_true,decide_eq_true_eq,decide_eq_true_eq];omega
theorem ok2 (l:List UInt8)(lo hi:Int)(j:Nat)(a:j≠1):qhZ lo hi l j=true↔(j<l.length/\128<=(l.getD j 0).toNat/\(l.getD j 0).toNat<=191):=by
 unfold qhZ;rw[if_neg a,Bool.and_eq_true,decide_eq_true_eq,decide_eq_true_eq]
theorem qxj (l:List UInt8)(k lo hi:Nat)(i:k=2\/k=3\/k=4)(h:qd4 ((l.getD 0 0).toNat:Int)=((lo:Int),(hi:Int),(k:Int))):szL l=(Lib.checkN l.length (l.getD 1 0).toNat (l.getD 2 0).toNat (l.getD 3 0).toNat k lo hi).getD 0:=by
 unfold szL qzp;rw[h];simp only[];rw[if_neg (show ¬((k:Nat):Int)=0 by omega)];have d:=ok1 l lo hi;have e:=ok2 l lo hi 2 (by omega);have g:=ok2 l lo hi 3 (by omega);generalize (l.getD 0 0)=b0 at *;generalize (l.getD 1 0)=b1 at *;generalize (l.getD 2 0)=b2 at *;generalize (l.getD 3 0)=b3 at *;rcases i with rfl|rfl|rfl
 ·cases a:qhZ lo hi l 1
  ·have c:l.length<2\/b1.toNat<lo\/hi<b1.toNat:=by rw[a] at d;simp at d;omega
   simp[qyW,a,Lib.checkN,c]
  have c:¬(l.length<2\/b1.toNat<lo\/hi<b1.toNat):=by have:=d.1 a;omega
  simp[qyW,a,Lib.checkN,c]
 ·cases a:qhZ lo hi l 1
  ·have c:l.length<3\/b1.toNat<lo\/hi<b1.toNat\/b2.toNat<128\/191<b2.toNat:=by rw[a] at d;simp at d;omega
   simp[qyW,a,Lib.checkN,c]
  cases b:qhZ lo hi l 2
  ·have c:l.length<3\/b1.toNat<lo\/hi<b1.toNat\/b2.toNat<128\/191<b2.toNat:=by rw[b] at e;simp at e;omega
   simp[qyW,a,b,Lib.checkN,c]
  have c:¬(l.length<3\/b1.toNat<lo\/hi<b1.toNat\/b2.toNat<128\/191<b2.toNat):=by have:=d.1 a;have:=e.1 b;omega
  simp[qyW,a,b,Lib.checkN,c]
 cases a:qhZ lo hi l 1
 ·have c:l.length<4\/b1.toNat<lo\/hi<b1.toNat\/b2.toNat<128\/191<b2.toNat\/b3.toNat<128\/191<b3.toNat:=by rw[a] at d;simp at d;omega
  simp[qyW,a,Lib.checkN,c]
 cases b:qhZ lo hi l 2
 ·have c:l.length<4\/b1.toNat<lo\/hi<b1.toNat\/b2.toNat<128\/191<b2.toNat\/b3.toNat<128\/191<b3.toNat:=by rw[b] at e;simp at e;omega
  simp[qyW,a,b,Lib.checkN,c]
 cases f:qhZ lo hi l 3
 ·have c:l.length<4\/b1.toNat<lo\/hi<b1.toNat\/b2.toNat<128\/191<b2.toNat\/b3.toNat<128\/191<b3.toNat:=by rw[f] at g;simp at g;omega
  simp[qyW,a,b,f,Lib.checkN,c]
 have c:¬(l.length<4\/b1.toNat<lo\/hi<b1.toNat\/b2.toNat<128\/191<b2.toNat\/b3.toNat<128\/191<b3.toNat):=by have:=d.1 a;have:=e.1 b;have:=g.1 f;omega
 simp[qyW,a,b,f,Lib.checkN,c]
theorem qxn (l:List UInt8)(h:(qd4 ((l.getD 0 0).toNat:Int)).2.2=0):szL l=0:=by
 unfold szL qzp;rw[if_pos h];rfl
theorem qwY (l:List UInt8)(h:(l.getD 0 0).toNat<128):szL l=1:=by
 have e:qd4 ((l.getD 0 0).toNat:Int)=(0,0,1):=by unfold qd4;rw[if_pos (by omega)]
 unfold szL qzp;rw[e];rfl
set_option linter.unusedSimpArgs false in
theorem qnz (l:List UInt8)(t:128<=(l.getD 0 0).toNat):szL l=(Lib.checkN l.length (l.getD 1 0).toNat (l.getD 2 0).toNat (l.getD 3 0).toNat (Lib.firstT (l.getD 0 0).toNat%8) (Lib.accLo (Lib.firstT (l.getD 0 0).toNat / 16)) (Lib.accHi (Lib.firstT (l.getD 0 0).toNat / 16))).getD 0:=by
 have u:=(l.getD 0 0).toNat_lt
 have key:∀k m j,Lib.firstT (l.getD 0 0).toNat%8=k->Lib.accLo (Lib.firstT (l.getD 0 0).toNat / 16)=m->Lib.accHi (Lib.firstT (l.getD 0 0).toNat / 16)=j->(k=2\/k=3\/k=4)->qd4 ((l.getD 0 0).toNat:Int)=((m:Int),(j:Int),(k:Int)) ->
   szL l=(Lib.checkN l.length (l.getD 1 0).toNat (l.getD 2 0).toNat (l.getD 3 0).toNat (Lib.firstT (l.getD 0 0).toNat%8) (Lib.accLo (Lib.firstT (l.getD 0 0).toNat / 16)) (Lib.accHi (Lib.firstT (l.getD 0 0).toNat / 16))).getD 0:=fun k m j p q r s n=>by
  rw[p,q,r]
  exact qxj l k m j s n
 have o:Lib.firstT (l.getD 0 0).toNat=241->(qd4 ((l.getD 0 0).toNat:Int)).2.2=0 ->
   szL l=(Lib.checkN l.length (l.getD 1 0).toNat (l.getD 2 0).toNat (l.getD 3 0).toNat (Lib.firstT (l.getD 0 0).toNat%8) (Lib.accLo (Lib.firstT (l.getD 0 0).toNat / 16)) (Lib.accHi (Lib.firstT (l.getD 0 0).toNat / 16))).getD 0:=fun e n=>by
  rw[e,qxn l n]
  rfl
 generalize hb:(l.getD 0 0).toNat=b0 at *
 by_cases a:b0<194
 ·exact o (by unfold Lib.firstT;rw[if_neg (by omega),if_pos a]) (by unfold qd4;repeat (first|rw[if_neg (by omega)]|rw[if_pos (by omega)]))
 by_cases b:b0<224
 ·exact key 2 128 191 (by simp[Lib.firstT,show ¬b0<128 by omega,a,b]) (by simp[Lib.firstT,Lib.accLo,show ¬b0<128 by omega,a,b]) (by simp[Lib.firstT,Lib.accHi,show ¬b0<128 by omega,a,b]) (by omega) (by unfold qd4;(repeat (first|rw[if_neg (by omega)]|rw[if_pos (by omega)]));rfl)
 by_cases c2:b0=224
 ·exact key 3 160 191 (by simp[Lib.firstT,show ¬b0<128 by omega,a,b,c2]) (by simp[Lib.firstT,Lib.accLo,show ¬b0<128 by omega,a,b,c2]) (by simp[Lib.firstT,Lib.accHi,show ¬b0<128 by omega,a,b,c2]) (by omega) (by unfold qd4;(repeat (first|rw[if_neg (by omega)]|rw[if_pos (by omega)]));rfl)
 by_cases c:b0<237
 ·exact key 3 128 191 (by simp[Lib.firstT,show ¬b0<128 by omega,a,b,c2,c]) (by simp[Lib.firstT,Lib.accLo,show ¬b0<128 by omega,a,b,c2,c]) (by simp[Lib.firstT,Lib.accHi,show ¬b0<128 by omega,a,b,c2,c]) (by omega) (by unfold qd4;(repeat (first|rw[if_neg (by omega)]|rw[if_pos (by omega)]));rfl)
 by_cases d:b0=237
 ·exact key 3 128 159 (by simp[Lib.firstT,show ¬b0<128 by omega,a,b,c2,c,d]) (by simp[Lib.firstT,Lib.accLo,show ¬b0<128 by omega,a,b,c2,c,d]) (by simp[Lib.firstT,Lib.accHi,show ¬b0<128 by omega,a,b,c2,c,d]) (by omega) (by unfold qd4;(repeat (first|rw[if_neg (by omega)]|rw[if_pos (by omega)]));rfl)
 by_cases f:b0<240
 ·exact key 3 128 191 (by simp[Lib.firstT,show ¬b0<128 by omega,a,b,c2,c,d,f]) (by simp[Lib.firstT,Lib.accLo,show ¬b0<128 by omega,a,b,c2,c,d,f]) (by simp[Lib.firstT,Lib.accHi,show ¬b0<128 by omega,a,b,c2,c,d,f]) (by omega) (by unfold qd4;(repeat (first|rw[if_neg (by omega)]|rw[if_pos (by omega)]));rfl)
 by_cases g:b0=240
 ·exact key 4 144 191 (by simp[Lib.firstT,show ¬b0<128 by omega,a,b,c2,c,d,f,g]) (by simp[Lib.firstT,Lib.accLo,show ¬b0<128 by omega,a,b,c2,c,d,f,g]) (by simp[Lib.firstT,Lib.accHi,show ¬b0<128 by omega,a,b,c2,c,d,f,g]) (by omega) (by unfold qd4;(repeat (first|rw[if_neg (by omega)]|rw[if_pos (by omega)]));rfl)
 by_cases h:b0<244
 ·exact key 4 128 191 (by simp[Lib.firstT,show ¬b0<128 by omega,a,b,c2,c,d,f,g,h]) (by simp[Lib.firstT,Lib.accLo,show ¬b0<128 by omega,a,b,c2,c,d,f,g,h]) (by simp[Lib.firstT,Lib.accHi,show ¬b0<128 by omega,a,b,c2,c,d,f,g,h]) (by omega) (by unfold qd4;(repeat (first|rw[if_neg (by omega)]|rw[if_pos (by omega)]));rfl)
 by_cases i:b0=244
 ·exact key 4 128 143 (by simp[Lib.firstT,show ¬b0<128 by omega,a,b,c2,c,d,f,g,h,i]) (by simp[Lib.firstT,Lib.accLo,show ¬b0<128 by omega,a,b,c2,c,d,f,g,h,i]) (by simp[Lib.firstT,Lib.accHi,show ¬b0<128 by omega,a,b,c2,c,d,f,g,h,i]) (by omega) (by unfold qd4;(repeat (first|rw[if_neg (by omega)]|rw[if_pos (by omega)]));rfl)
 ·exact o (by simp[Lib.firstT,show ¬b0<128 by omega,a,b,c2,c,d,f,g,h,i]) (by unfold qd4;repeat (first|rw[if_neg (by omega)]|rw[if_pos (by omega)]))
theorem qmW (l:List UInt8)(e:l≠[]):(szL l=0/\Lib.decodeL l=(65533,1))\/(1<=szL l/\(Lib.decodeL l).2=szL l/\¬((Lib.decodeL l).1=65533/\(Lib.decodeL l).2=1)):=by
 have f:=List.length_pos_iff.2 e;by_cases h:(l.getD 0 0).toNat<128
 ·right;obtain⟨b,t,rfl⟩:∃b t,l=b::t:=List.exists_cons_of_ne_nil e;rw[qwY _ h,Lib.decodeL_ascii b t h];refine⟨Nat.le_refl _,rfl,fun d => ?_⟩;have:b.toNat=65533:=d.1;have:=b.toNat_lt;omega
 rw[qnz l (by omega),Lib.decodeL_N];rcases Lib.check_decode l.length (l.getD 0 0).toNat (l.getD 1 0).toNat (l.getD 2 0).toNat (l.getD 3 0).toNat f (by omega) (l.getD 0 0).toNat_lt (l.getD 1 0).toNat_lt (l.getD 2 0).toNat_lt (l.getD 3 0).toNat_lt with ⟨a,c⟩|⟨k,g,a,c⟩
 ·left;rw[a,c];exact⟨rfl,rfl⟩
 right;rw[a,c];exact⟨by show 1<=k;omega,rfl,fun d=>by omega⟩

def qvc (x:Nat):Bool:=decide (56320<=x/\x<=57343)
def qwL (x:Nat):Bool:=decide (55296<=x/\x<=56319)
theorem qiW (x:Nat)(w:World):Calls prog 253 #[.int .i32 x] w fun e d=>e=.returned (.bool (qvc x))/\d=w:=by
 unfold qvc;by_cases b:56320<=x
 ·by_cases c:x<=57343
  ·have a:decide ((x:Int)<=57343)=true:=by simp;omega
   rw[decide_eq_true ⟨b,c⟩];go_enter func253,ntmps253;go_wp2;go_ret;exact⟨rfl,rfl⟩
  have a:decide ((x:Int)<=57343)=false:=by simp;omega
  rw[decide_eq_false (by omega)];go_enter func253,ntmps253;go_wp2;go_ret;exact⟨rfl,rfl⟩
 rw[decide_eq_false (by omega)];go_enter func253,ntmps253;go_wp2;go_ret;exact⟨rfl,rfl⟩
theorem qmT (x:Nat)(w:World):Calls prog 254 #[.int .i32 x] w fun e d=>e=.returned (.bool (qwL x))/\d=w:=by
 unfold qwL;by_cases b:55296<=x
 ·by_cases c:x<=56319
  ·have a:decide ((x:Int)<=56319)=true:=by simp;omega
   rw[decide_eq_true ⟨b,c⟩];go_enter func254,ntmps254;go_wp2;go_ret;exact⟨rfl,rfl⟩
  have a:decide ((x:Int)<=56319)=false:=by simp;omega
  rw[decide_eq_false (by omega)];go_enter func254,ntmps254;go_wp2;go_ret;exact⟨rfl,rfl⟩
 rw[decide_eq_false (by omega)];go_enter func254,ntmps254;go_wp2;go_ret;exact⟨rfl,rfl⟩
theorem qi9 {bs:List UInt8}{lim:Int}:∀{k p a x q:Nat},qgA bs lim k p a=.ok (x,q)->x<(a+1)*16^k/\q=p+k
 |0,p,a,x,q,h=>by
  unfold qgA at h;cases h;simp
 |k+1,p,a,x,q,h=>by
  rw[qgA] at h;split at h
  ·cases h
  split at h
  ·cases h
  split at h
  ·cases h
  next d hd =>
  obtain⟨b,c⟩:=qi9 h;have e:=qnW hd;have f:(a*16+d+1)*16^k<=((a+1)*16)*16^k:=Nat.mul_le_mul_right _ (by omega);have g:((a+1)*16)*16^k=(a+1)*16^(k+1):=by rw[Nat.mul_assoc,Nat.pow_succ,Nat.mul_comm 16]
  exact⟨by omega,by omega⟩
def qgy (bs:List UInt8)(lim:Int)(p:Nat):Except (Int×Int) (Int×Nat):=match qgA bs lim 4 p 0 with
 |.error e=>.error e
 |.ok (x,q)=>if qvc x=true then .error (9,(q:Int)-1) else if qwL x=true then (match qaT bs lim [92,117] q with
  |.error e=>.error e
  |.ok (_,q2)=>match qgA bs lim 4 q2 0 with
   |.error e=>.error e
   |.ok (y,q3)=>if qvc y=true then .ok (65536+((x:Int)-55296)*1024+((y:Int)-56320),q3) else .error (9,(q3:Int)-1)) else .ok (x,q)
theorem qj3 (W:World)(b:Nat)(s:Src)(h:qad W b s):Calls prog 246 #[.agg #[.pointer (some ⟨b,0,none⟩)]] W (qbJ W b s (fun x:Int=>.int .i32 x) (qgy s.bs s.lim s.pos)):=by
 have j:=qaa (qaR h);obtain⟨R,p⟩:∃R,Hid (qgy s.bs s.lim s.pos=R):=⟨_,show _=_ from rfl⟩
 rw[p.out];have a:=p.out;unfold qgy at a;have o:=j.out.cell;have u:=qgd _ b s j.out.src;go_enter func246,ntmps246
 go_wp2_with fail
 refine u.mono ?_;rintro e D ⟨c,hF⟩;rcases hx:qgA s.bs s.lim 4 s.pos 0 with ⟨f,i⟩|⟨x,q⟩
 ·simp only[hx] at a hF;subst a;obtain rfl:=(show qao f i e from hF)
  go_wp2;exact⟨rfl,j.out.but.trans c,rfl⟩
 simp only[hx] at a hF;have C:=(qi9 hx).1;obtain⟨rfl,g⟩:=hF;obtain⟨d,o⟩:=rdK j g c
 go_wp2_with fail
 refine(qiW x _).mono ?_;rintro e w ⟨rfl,rfl⟩;cases r:qvc x
 ·rw[r,if_neg (by decide)] at a
  go_wp2_with fail
  refine(qmT x _).mono ?_;rintro e w ⟨rfl,rfl⟩;cases m:qwL x
  ·rw[m,if_neg (by decide)] at a;subst a;go_wp2;go_ret;exact⟨d.out.but,rfl,d.out.src⟩
  rw[m,if_pos rfl] at a;have A:=of_decide_eq_true (show decide (55296<=x/\x<=56319)=true from m)
  go_wp2_with fail
  refine(qbv _ b {s with pos:=q} [92,117] (by decide) d.out.src).mono ?_;rintro e E ⟨c,hF⟩;rcases hq:qaT s.bs s.lim [92,117] q with ⟨f,i⟩|⟨_,t⟩
  ·simp only[hq] at a hF;subst a;obtain rfl:=(show qao f i e from hF)
   go_wp2;exact⟨rfl,d.out.but.trans c,rfl⟩
  simp only[hq] at a hF;obtain⟨rfl,g⟩:=hF;obtain⟨l,o⟩:=rdK d g c
  go_wp2_with fail
  refine(qgd _ b {s with pos:=t} l.out.src).mono ?_;rintro e F ⟨c,hF⟩;rcases hy:qgA s.bs s.lim 4 t 0 with ⟨f,i⟩|⟨y,v⟩
  ·simp only[hy] at a hF;subst a;obtain rfl:=(show qao f i e from hF)
   go_wp2;exact⟨rfl,l.out.but.trans c,rfl⟩
  simp only[hy] at a hF;obtain⟨rfl,g⟩:=hF;obtain⟨k,o⟩:=rdK l g c
  go_wp2_with fail
  refine(qiW y _).mono ?_;rintro e G ⟨rfl,rfl⟩;cases n:qvc y
  ·rw[n,if_neg (by decide)] at a;subst a
   go_wp2_with fail
   refine(qat _ b {s with pos:=v} _ k.out.src).mono ?_;rintro e z ⟨rfl,rfl⟩;go_wp2;exact⟨rfl,k.out.but,rfl⟩
  rw[n,if_pos rfl] at a;have B:=of_decide_eq_true (show decide (56320<=y/\y<=57343)=true from n);subst a;go_wp2;go_ret;exact⟨k.out.but,by first|rfl|(simp;omega),k.out.src⟩
 rw[r,if_pos rfl] at a;subst a
 go_wp2_with fail
 refine(qat _ b {s with pos:=q} _ d.out.src).mono ?_;rintro e z ⟨rfl,rfl⟩;go_wp2;exact⟨rfl,d.out.but,rfl⟩
def qnj (bs:List UInt8)(lim:Int)(p:Nat):Except (Int×Int) (Int×Nat):=match bs[p]? with
 |none=>.error (9,p)
 |some c=>if (p:Int)=lim then .error (8,p) else if c.toNat=34 then .ok (34,p+1) else if c.toNat=92 then .ok (92,p+1) else if c.toNat=47 then .ok (47,p+1) else if c.toNat=98 then .ok (8,p+1) else if c.toNat=102 then .ok (12,p+1) else if c.toNat=110 then .ok (10,p+1) else if c.toNat=114 then .ok (13,p+1) else if c.toNat=116 then .ok (9,p+1) else if c.toNat=117 then qgy bs lim (p+1) else .error (9,p)
theorem qgJ (W:World)(b:Nat)(s:Src)(h:qad W b s):Calls prog 239 #[.agg #[.pointer (some ⟨b,0,none⟩)]] W (qbJ W b s (fun x:Int=>.int .i32 x) (qnj s.bs s.lim s.pos)):=by
 have l:=qaa (qaR h);obtain⟨R,B⟩:∃R,Hid (qnj s.bs s.lim s.pos=R):=⟨_,show _=_ from rfl⟩
 rw[B.out];have a:=B.out;unfold qnj at a;have A:=l.out.cell;clear h B;rcases qaM l.out.src with f|f|⟨c,f⟩
 ·rw[List.getElem?_eq_none (by have:s.pos=s.bs.length:=f;omega)] at a;subst a;have n:=qbm _ b s l.out.src f;clear f;go_enter func239,ntmps239
  go_wp2_with (first
   |(go_at_call 226;refine n.mono ?_;clear n;rintro e I ⟨hF,k⟩;obtain rfl:=hF))
  exact⟨rfl,l.out.but.trans (But.of_below k),rfl⟩
 ·have E:=f.2;have F:=f.1;rw[List.getElem?_eq_getElem F] at a;simp only[] at a;rw[if_pos E] at a;subst a;have n:=qaP _ b s l.out.src f;clear f E F;go_enter func239,ntmps239
  go_wp2_with (first
   |(go_at_call 226;refine n.mono ?_;clear n;rintro e I ⟨hF,k⟩;obtain rfl:=hF))
  exact⟨rfl,l.out.but.trans (But.of_below k),rfl⟩
 have G:=f.1;have H:=f.2;rw[G] at a;simp only[] at a;rw[if_neg H] at a;have n:Calls prog 226 #[.pointer (some ⟨b,0,none⟩)] _ fun e C=>e=.returned (.int .u8 c.toNat)/\qad C b {s with pos:=s.pos+1}/\But b _ C:=qau _ b s c l.out.src f;clear f G H;go_enter func239,ntmps239
 go_wp2_with fail
 refine n.mono ?_;clear n A;rintro e I ⟨rfl,y,k⟩;obtain⟨d,A⟩:=rdK l y k;clear l y k;by_cases g:c.toNat=34
 ·rw[if_pos g] at a;subst a;have O:((c.toNat:Int)==34)=true:=by simp;omega
  have t:Hid (wrap32 (c.toNat:Int)=34):=by show _=_;unfold wrap32;omega
  clear g;go_wp2;go_ret;exact⟨d.out.but,by show Ending.returned (.int .i32 (wrap32 (c.toNat:Int)))=_;rw[t.out],d.out.src⟩
 rw[if_neg g] at a;have O:=nec (c:=c) 34 (by omega);by_cases i:c.toNat=92
 ·rw[if_pos i] at a;subst a;have Q:((c.toNat:Int)==92)=true:=by simp;omega
  have t:Hid (wrap32 (c.toNat:Int)=92):=by show _=_;unfold wrap32;omega
  clear g i;go_wp2;go_ret;exact⟨d.out.but,by show Ending.returned (.int .i32 (wrap32 (c.toNat:Int)))=_;rw[t.out],d.out.src⟩
 rw[if_neg i] at a;have Q:=nec (c:=c) 92 (by omega);by_cases j:c.toNat=47
 ·rw[if_pos j] at a;subst a;have P:((c.toNat:Int)==47)=true:=by simp;omega
  have t:Hid (wrap32 (c.toNat:Int)=47):=by show _=_;unfold wrap32;omega
  clear g i j;go_wp2;go_ret;exact⟨d.out.but,by show Ending.returned (.int .i32 (wrap32 (c.toNat:Int)))=_;rw[t.out],d.out.src⟩
 rw[if_neg j] at a;have P:=nec (c:=c) 47 (by omega);by_cases m:c.toNat=98
 ·rw[if_pos m] at a;subst a;have S:((c.toNat:Int)==98)=true:=by simp;omega
  clear g i j m;go_wp2;go_ret;exact⟨d.out.but,rfl,d.out.src⟩
 rw[if_neg m] at a;have S:=nec (c:=c) 98 (by omega);by_cases o:c.toNat=102
 ·rw[if_pos o] at a;subst a;have J:((c.toNat:Int)==102)=true:=by simp;omega
  clear g i j m o;go_wp2;go_ret;exact⟨d.out.but,rfl,d.out.src⟩
 rw[if_neg o] at a;have J:=nec (c:=c) 102 (by omega);by_cases p:c.toNat=110
 ·rw[if_pos p] at a;subst a;have K:((c.toNat:Int)==110)=true:=by simp;omega
  clear g i j m o p;go_wp2;go_ret;exact⟨d.out.but,rfl,d.out.src⟩
 rw[if_neg p] at a;have K:=nec (c:=c) 110 (by omega);by_cases r:c.toNat=114
 ·rw[if_pos r] at a;subst a;have L:((c.toNat:Int)==114)=true:=by simp;omega
  clear g i j m o p r;go_wp2;go_ret;exact⟨d.out.but,rfl,d.out.src⟩
 rw[if_neg r] at a;have L:=nec (c:=c) 114 (by omega);by_cases u:c.toNat=116
 ·rw[if_pos u] at a;subst a;have M:((c.toNat:Int)==116)=true:=by simp;omega
  clear g i j m o p r u;go_wp2;go_ret;exact⟨d.out.but,rfl,d.out.src⟩
 rw[if_neg u] at a;have M:=nec (c:=c) 116 (by omega);by_cases w:c.toNat=117
 ·rw[if_pos w] at a;have N:((c.toNat:Int)==117)=true:=by simp;omega
  clear g i j m o p r u w;have D:=fun V (T:qad V b {s with pos:=s.pos+1})=>qj3 V b {s with pos:=s.pos+1} T;have v:∀V,qad V b {s with pos:=s.pos+1}->Calls prog 246 #[.agg #[.pointer (some ⟨b,0,none⟩)]] V (qbJ V b {s with pos:=s.pos+1} (fun x:Int=>.int .i32 x) R):=by rw[<-a];exact D
  clear D a;rcases R with ⟨X,Y⟩|⟨z,q⟩
  ·go_wp2_with (first
    |(go_at_call 246;refine(v _ d.out.src).mono ?_;clear v A;rintro e U ⟨k,hF⟩;obtain rfl:=hF))
   exact⟨rfl,d.out.but.trans k,rfl⟩
  go_wp2_with (first
   |(go_at_call 246;refine(v _ d.out.src).mono ?_;clear v A;rintro e U ⟨k,rfl,y⟩))
  go_ret;exact⟨d.out.but.trans k,rfl,y⟩
 rw[if_neg w] at a;have N:=nec (c:=c) 117 (by omega);subst a;clear g i j m o p r u w
 go_wp2_with (first
  |(go_at_call 227;refine(qat _ b {s with pos:=s.pos+1} _ d.out.src).mono ?_;rintro e Z ⟨hF,rfl⟩;obtain rfl:=hF))
 exact⟨rfl,d.out.but,by show qao _ _ _;unfold qao qeh;simp⟩

end
section
open Go.RowKit Go.Deep
def Rch (L:List (Int×Int))(a b:Nat):Prop:=∀S:Nat->Prop,S a->(∀e,e∈L->S e.1.toNat->S e.2.toNat)->S b
theorem Rch.refl (L:List (Int×Int))(a:Nat):Rch L a a:=fun _ h _=>h
theorem Rch.trans {c:Nat}(h:Rch L a b)(k:Rch L b c):Rch L a c:=fun S e d=>k S (h S e d) d
theorem Rch.edge (h:e∈L):Rch L e.1.toNat e.2.toNat:=fun _ a b=>b e h a
theorem qpz (h:m i j=true):qnl m e i j=true:=by
 unfold qnl upd;split<;>simp_all
theorem qpl (m:Nat->Nat->Bool)(e:Int×Int):qnl m e e.1.toNat e.2.toNat=true:=by simp[qnl,upd]
theorem qh2 (L:List (Int×Int)):∀(m:Nat->Nat->Bool) (i j:Nat),m i j=true->L.foldl qnl m i j=true:=by
 induction L with
 |nil=>intro m i j h;exact h
 |cons e L a=>intro m i j h;exact a _ i j (qpz h)
theorem qof (L:List (Int×Int)):∀(m:Nat->Nat->Bool) (e:Int×Int),e∈L->L.foldl qnl m e.1.toNat e.2.toNat=true:=by
 induction L with
 |nil=>intro m e h;cases h
 |cons x L a =>
  intro m e h
  cases List.mem_cons.1 h with
  |inl h=>subst h;exact qh2 L _ _ _ (qpl m e)
  |inr h=>exact a _ e h
theorem qlq (P:Nat->Nat->Prop)(L:List (Int×Int)):∀(m:Nat->Nat->Bool),(∀i j,m i j=true->P i j)->(∀e,e∈L->P e.1.toNat e.2.toNat)->∀i j,L.foldl qnl m i j=true->P i j:=by
 induction L with
 |nil=>intro m h _;exact h
 |cons x L f =>
  intro m h b;refine f (qnl m x) (fun i j a => ?_) (fun e d=>b e (List.mem_cons_of_mem _ d));unfold qnl upd at a;split at a
  ·rename_i c
   obtain⟨rfl,rfl⟩:=c;exact b x (List.mem_cons_self ..)
  exact h i j a
theorem qkZ (h:qer n L i j=true):Rch L i j :=
 qlq (Rch L) L (qnI n) (fun i j b=>by have:=of_decide_eq_true b;rw[this.1];exact Rch.refl _ _) (fun _ a=>Rch.edge a) i j h
theorem qeq (H:fst n k m l h i j=true):m i j=true\/(m i k=true/\m k j=true):=by
 unfold fst at H;simp only[Bool.or_eq_true,Bool.and_eq_true] at H;rcases H with H|⟨_,H⟩
 ·exact .inl H
 exact .inr H
theorem qlv (H:m i j=true):fst n k m l h i j=true:=by
 unfold fst;rw[H];rfl
theorem qfz (hi:i<n)(c:j<n)(a:m i k=true)(b:m k j=true):fst n k m n 0 i j=true:=by
 unfold fst;rw[a,b,decide_eq_true (by omega)];simp
theorem qmC:∀(k i j:Nat),qhY n k (qer n L) i j=true->Rch L i j:=by
 intro k
 induction k with
 |zero=>intro i j h;exact qkZ h
 |succ k a =>
  intro i j h;rcases qeq h with h|⟨b,c⟩
  ·exact a i j h
  exact(a i k b).trans (a k j c)
theorem qjG (h:m i j=true):∀k,qhY n k m i j=true:=by
 intro k
 induction k with
 |zero=>exact h
 |succ k a=>exact qlv a
theorem qmO:∀(k:Nat),k<=n->∀c i j,c<k->i<n->j<n->qhY n k m i c=true->qhY n k m c j=true->qhY n k m i j=true:=by
 intro k
 induction k with
 |zero=>intro _ c i j h;omega
 |succ k g =>
  intro v c i j t d f b a;have g:=g (by omega);have q:∀x,qhY n (k+1) m x k=qhY n k m x k:=fun x=>qoG n k (qhY n k m) n 0 x;have s:∀x,qhY n (k+1) m k x=qhY n k m k x:=fun x=>qlC n k (qhY n k m) n 0 x;by_cases e:c=k
  ·subst e;rw[q] at b;rw[s] at a;exact qfz d f b a
  have o:c<k:=by omega
  have u:c<n:=by omega
  have p:k<n:=by omega
  rcases qeq b with b|⟨b,r⟩
  ·rcases qeq a with a|⟨a,l⟩
   ·exact qlv (g c i j o d f b a)
   exact qfz d f (g c i k o d p b a) l
  rcases qeq a with a|⟨a,l⟩
  ·exact qfz d f b (g c k j o p f r a)
  exact qfz d f b l
theorem qkQ (c:qaO n L=true)(d:e∈L):e.1.toNat<n/\e.2.toNat<n:=by
 have:=List.all_eq_true.1 c e d;unfold qcu at this;simp only[Bool.and_eq_true] at this;obtain⟨⟨a,b⟩,_⟩:=this;have f:=of_decide_eq_true a;have g:=of_decide_eq_true b;omega
theorem qq6 (d:qaO n L=true)(f:a<n)(j:b<n):qcF n L a b=true↔Rch L a b:=by
 constructor
 ·exact qmC n a b
 intro h;have:=h (fun x=>x<n->qcF n L a x=true) (fun _=>qjG (qh2 L _ _ _ (decide_eq_true ⟨rfl,f⟩)) n)
  (fun e c g i=>qmO n (Nat.le_refl _) e.1.toNat a e.2.toNat (qkQ d c).1 f i (g (qkQ d c).1) (qjG (qof L _ e c) n))
 exact this j
theorem qpx (h:S x=true):qji S k x=true:=by unfold qji;split<;>simp_all
theorem qhs (h:S x=true):qgS S e x=true:=by
 unfold qgS;split
 ·exact qpx h
 exact h
theorem qcL (L:List (Int×Int)):∀{S:Nat->Bool} {x:Nat},S x=true->qbb L S x=true:=by
 unfold qbb
 induction L with
 |nil=>intro S x h;exact h
 |cons e L a=>intro S x h;exact a (qhs h)
theorem qkX (L:List (Int×Int)):∀{S:Nat->Bool} {e:Int×Int},e∈L->S e.1.toNat=true->qbb L S e.2.toNat=true:=by
 induction L with
 |nil=>intro S e h;cases h
 |cons x L b =>
  intro S e h a
  cases List.mem_cons.1 h with
  |inl h =>
   subst h;refine qcL L (S:=qgS S e) ?_;unfold qgS;rw[if_pos a];simp[qji]
  |inr h=>exact b (S:=qgS S x) h (qhs a)
theorem qeX (P:Nat->Prop)(L:List (Int×Int)):∀{S:Nat->Bool},(∀x,S x=true->P x)->(∀e,e∈L->P e.1.toNat->P e.2.toNat)->∀x,qbb L S x=true->P x:=by
 induction L with
 |nil=>intro S h _;exact h
 |cons e L g =>
  intro S h b;refine g (S:=qgS S e) (fun x a => ?_) (fun d f=>b d (List.mem_cons_of_mem _ f));unfold qgS at a;split at a
  ·rename_i hs
   unfold qji at a;split at a
   ·rename_i c;subst c;exact b e (List.mem_cons_self ..) (h _ hs)
   exact h x a
  exact h x a
def q0I (L:List (Int×Int))(S:Nat->Bool):Prop:=∀e,e∈L->S e.1.toNat=true->S e.2.toNat=true
theorem qfF (h:q0I L S):qbb L S=S:=by
 funext x;cases a:S x
 ·cases b:qbb L S x
  ·rfl
  have:=qeX (fun x=>S x=true) L (S:=S) (fun _ h=>h) h x b;rw[a] at this;cases this
 exact qcL L a
def cnt (n:Nat)(S:Nat->Bool):Nat:=((List.range n).filter S).length
theorem qww (n:Nat)(S:Nat->Bool):cnt n S<=n:=by
 have:=List.length_filter_le S (List.range n);simpa [cnt] using this
theorem qpM {T:Nat->Bool}(f:∀x,S x=true->T x=true):∀(l:List Nat) (y:Nat),y∈l->S y=false->T y=true->(l.filter S).length<(l.filter T).length:=by
 have g:∀l:List Nat,(l.filter S).length<=(l.filter T).length:=by
  intro l
  induction l with
  |nil=>simp
  |cons x l c =>
   cases a:S x
   ·rw[List.filter_cons_of_neg (by simp[a])];exact Nat.le_trans c (by rw[List.filter_cons];split<;>simp)
   rw[List.filter_cons_of_pos a,List.filter_cons_of_pos (f x a)];simp only[List.length_cons];omega
 intro l
 induction l with
 |nil=>intro y b;cases b
 |cons x l c =>
  intro y b d e
  cases List.mem_cons.1 b with
  |inl h =>
   subst h;rw[List.filter_cons_of_neg (by simp[d]),List.filter_cons_of_pos e];have:=g l;simp only[List.length_cons];omega
  |inr h =>
   have:=c y h d e;cases a:S x
   ·rw[List.filter_cons_of_neg (by simp[a])];exact Nat.lt_of_lt_of_le this (by rw[List.filter_cons];split<;>simp)
   rw[List.filter_cons_of_pos a,List.filter_cons_of_pos (f x a)];simp only[List.length_cons];omega
theorem qkA (g:qaO n L=true)(i:a<n):∀k,q0I L (qa0 L k (qa8 a))\/k+1<=cnt n (qa0 L k (qa8 a)):=by
 intro k
 induction k with
 |zero =>
  right;have:0<((List.range n).filter (qa8 a)).length:=List.length_pos_of_mem (a:=a) (List.mem_filter.2 ⟨List.mem_range.2 i,by simp[qa8,qji]⟩);exact this
 |succ k m =>
  rcases m with h|h
  ·left;show q0I L (qbb L (qa0 L k (qa8 a)));rw[qfF h];exact h
  by_cases f:q0I L (qa0 L k (qa8 a))
  ·left;show q0I L (qbb L (qa0 L k (qa8 a)));rw[qfF f];exact f
  right;have:∃e,e∈L/\qa0 L k (qa8 a) e.1.toNat=true/\qa0 L k (qa8 a) e.2.toNat=false:=by
   apply Classical.byContradiction;intro j;refine f (fun e b c => ?_);cases d:qa0 L k (qa8 a) e.2.toNat
   ·exact absurd ⟨e,b,c,d⟩ j
   rfl
  obtain⟨e,b,c,d⟩:=this;have o:=qpM (S:=qa0 L k (qa8 a)) (T:=qbb L (qa0 L k (qa8 a))) (fun x l=>qcL L l) (List.range n) e.2.toNat (List.mem_range.2 (qkQ g b).2) d (qkX L b c);show k+1+1<=((List.range n).filter (qbb L (qa0 L k (qa8 a)))).length;unfold cnt at h;omega
theorem qjO:∀k x,qa0 L k (qa8 a) x=true->Rch L a x:=by
 intro k
 induction k with
 |zero =>
  intro x h;have h:qa8 a x=true:=h;unfold qa8 qji at h;split at h
  ·rename_i c;subst c;exact Rch.refl _ _
  cases h
 |succ k f =>
  intro x h;exact qeX (fun x=>Rch L a x) L (S:=qa0 L k (qa8 a)) f (fun e d b=>b.trans (Rch.edge d)) x h
theorem qkV (h:S x=true):∀k,qa0 L k S x=true:=by
 intro k
 induction k with
 |zero=>exact h
 |succ k a=>exact qcL L a
theorem qlw (c:qaO n L=true)(d:a<n):qaZ n L a b=true↔Rch L a b:=by
 constructor
 ·exact qjO n b
 intro h;have e:q0I L (qa0 L n (qa8 a)):=by
  rcases qkA c d n with h|h
  ·exact h
  have:=qww n (qa0 L n (qa8 a));omega
 exact h (fun x=>qa0 L n (qa8 a) x=true) (qkV (by simp[qa8,qji]) n) e
theorem qp4 (c:qaO n L=true)(d:a<n)(e:b<n):qcF n L a b=qaZ n L a b:=by
 rw[Bool.eq_iff_iff,qq6 c d e,qlw c d]
theorem qpK (b:qaO n L=true)(c:a<n):qaZ n L a a=true:=(qlw b c).2 (Rch.refl _ _)

theorem qv5 (c:Int)(L:List (Int×Int))(a:Option Addr)(b:Nat)(i:L.length<=maxLen)(w:World)(g:qaY w a L)(h:qbx c L=false):Calls prog 79 #[.int .i64 c,.slice a L.length b] w fun e f=>e=.returned (.tuple #[.agg qaB,.bool false])/\Below w.heap.size w f:=by
 by_cases d:1<=c/\c<=6/\L.length<=30
 ·obtain⟨n,rfl⟩:=Int.eq_ofNat_of_zero_le (show 0<=c by omega);have k:qaO n L=false:=by
   unfold qbx at h;rw[decide_eq_true d,Bool.true_and] at h;exact h
  refine(qsi n (by omega) (by omega) L a b d.2.2 w g).mono ?_;rintro e f ⟨rfl,j⟩;exact⟨by rw[qhG k],j⟩
 exact quQ c L a b i w d
theorem qtw (c:Int)(L:List (Int×Int))(a:Option Addr)(b:Nat)(w:World)(g:qaY w a L)(h:qbx c L=true):Calls prog 79 #[.int .i64 c,.slice a L.length b] w fun e d=>e=.returned (.tuple #[.agg (qan c.toNat (qcF c.toNat L)),.bool true])/\Below w.heap.size w d:=by
 unfold qbx at h;rw[Bool.and_eq_true] at h;have j:=of_decide_eq_true h.1;obtain⟨n,rfl⟩:=Int.eq_ofNat_of_zero_le (show 0<=c by omega);refine(qsi n (by omega) (by omega) L a b j.2.2 w g).mono ?_;rintro e d ⟨rfl,i⟩;have f:qaO n L=true:=by have:=h.2;rwa [Int.toNat_natCast] at this
 exact⟨by rw[qlN f,Int.toNat_natCast],i⟩
def roE (c:Int)(L:List (Int×Int))(d k:Int):Int :=
 if qbx c L&&qbC c.toNat d&&qbC c.toNat k then (if qa7 c.toNat (qcF c.toNat L) then 2 else if qa6 c.toNat (qcF c.toNat L) then 0 else 3) else 1
def roA (c:Int)(L:List (Int×Int))(d k:Int):Array Value:=if roE c L d k=0 then qan c.toNat (qcF c.toNat L) else qaB
def roV (c:Int)(L:List (Int×Int))(d k:Int):Value:=.tuple #[.agg (roA c L d k),.int .i64 (roE c L d k)]
theorem qut {k:Int}(h:(qbx c L&&qbC c.toNat d&&qbC c.toNat k)=false):roV c L d k=.tuple #[.agg qaB,.int .i64 1]:=by
 have e:roE c L d k=1:=by unfold roE;rw[h];rfl
 unfold roV roA;rw[e];rfl
theorem qwT {k:Int}(h:(qbx c L&&qbC c.toNat d&&qbC c.toNat k)=true)(a:qa7 c.toNat (qcF c.toNat L)=true):roV c L d k=.tuple #[.agg qaB,.int .i64 2]:=by
 have e:roE c L d k=2:=by unfold roE;rw[h,a];rfl
 unfold roV roA;rw[e];rfl
theorem qxp {k:Int}(h:(qbx c L&&qbC c.toNat d&&qbC c.toNat k)=true)(a:qa7 c.toNat (qcF c.toNat L)=false)(b:qa6 c.toNat (qcF c.toNat L)=false):roV c L d k=.tuple #[.agg qaB,.int .i64 3]:=by
 have e:roE c L d k=3:=by unfold roE;rw[h,a,b];rfl
 unfold roV roA;rw[e];rfl
theorem qxe {k:Int}(h:(qbx c L&&qbC c.toNat d&&qbC c.toNat k)=true)(a:qa7 c.toNat (qcF c.toNat L)=false)(b:qa6 c.toNat (qcF c.toNat L)=true):roV c L d k=.tuple #[.agg (qan c.toNat (qcF c.toNat L)),.int .i64 0]:=by
 have e:roE c L d k=0:=by unfold roE;rw[h,a,b];rfl
 unfold roV roA;rw[e];rfl
structure qqk (w:World)(N:Nat)(arr A:Array Value)(W:World):Prop where
 below:Below w.heap.size w W
 box:W.heap[w.heap.size]? = some (.cells arr 25)
 res:W.heap[w.heap.size+1]? = some (.cells qaB 87)
 own:W.heap[N]? = some (.cells A 87)
 lo:w.heap.size+1<N
theorem qqk.step {w:World}{N:Nat}{arr A:Array Value}{W W':World}(h:qqk w N arr A W)(a:Below W.heap.size W W'):qqk w N arr A W':=by
 have b:=ltA h.own;have:=h.lo;exact⟨h.below.trans (a.mono h.below.size),(a.block _ (by omega)).trans h.box,(a.block _ (by omega)).trans h.res,(a.block _ b).trans h.own,h.lo⟩
theorem qpo (w b:World)(arr A:Array Value)(a:Below (w.heap.size+1+1) ((w.alloc (.cells arr 25)).alloc (.cells qaB 87)) b):qqk w b.heap.size arr A (b.alloc (.cells A 87)):=by
 have c:=a.size;simp only[World.size_alloc] at c;refine⟨(((bwA).alloc (by simp) _).trans (a.mono (by omega))).alloc (by omega) _,?_,?_,qac _ _,by omega⟩
 ·rw[Below.heap_alloc _ _ _ (by omega),a.block _ (by omega),Below.heap_alloc _ _ _ (by simp)];exact qac _ _
 rw[Below.heap_alloc _ _ _ (by omega),a.block _ (by omega)];have:=qac (w.alloc (.cells arr 25)) (.cells qaB 87);rwa [World.size_alloc] at this
theorem qiE (arr:Array Value)(c:Int)(L:List (Int×Int))(r:Option Addr)(A:Nat)(d k:Int)(T:arr[0]? = some (.int .i64 c))(f1:arr[1]? = some (.slice r L.length A))(Q:arr[2]? = some (.int .i64 d))(u:arr[4]? = some (.int .i64 k))(H:L.length<=maxLen)(w:World)(G:qaY w r L):Calls prog 56 #[.agg arr] w fun e S=>e=.returned (roV c L d k)/\Below w.heap.size w S:=by
 have E:Hid (qaY ((w.alloc (.cells arr 25)).alloc (.cells qaB 87)) r L):=G.below ((bwA).alloc (by simp) _);have J:=qaa H;clear G H;cases i:qbx c L
 ·have j:Hid (roV c L d k=.tuple #[.agg qaB,.int .i64 1]):=qut (by rw[i];rfl);have o:=qv5 c L r A J.out _ E.out i;clear i;go_enter func56,ntmps56
  go_wp2_with (first
   |(refine qas rfl rfl _ rfl (w.heap.size+1) ?hN ?_;case hN=>(simp only[World.size_alloc];done))
   |(go_at_call 79;refine o.mono ?_;clear o;rintro e h ⟨rfl,B⟩;have b:=qaa (qpo w h arr qaB (by simpa using B)))
   |(refine qas rfl rfl _ rfl h.heap.size rfl ?_)
   |(refine qak rfl 87 _ rfl _ rfl _ [] ?hl qbE ?_;case hl=>simp)
   |(refine wpList_store_row rfl 87 _ _ rfl h.heap.size qaB rfl rfl 87 qaB (qac h _) (qar (qae _ _)) rfl (qa5 _ _) ?_;rw[World.setRow_alloc_new])
   |(refine wpList_store_row rfl 87 _ _ rfl (w.heap.size+1) qaB rfl rfl 87 qaB b.out.res (qar (qae _ _)) rfl (qa5 _ _) ?_))
  refine bodyPost_ret (qap results56 _ _ (w.heap.size+1) 87 qaB (0,0) _ rfl (setRow_heap _ _ qaB _ _ _ b.out.res) underlying87 rfl (qar (qae _ _)) (.int .i64 1) rfl) rfl ⟨by rw[j.out],qah b.out.below (by omega) _⟩
 have o:=qtw c L r A _ E.out i;have F:=qaa i;have U:1<=c/\c<=6:=by
  unfold qbx at i;rw[Bool.and_eq_true] at i;have:=of_decide_eq_true i.1;omega
 clear i;obtain⟨n,rfl⟩:=Int.eq_ofNat_of_zero_le (show 0<=c by omega);have I:n<=6:=by omega
 rw[Int.toNat_natCast] at o;have b:Hid (∀x,qbC ((n:Int)).toNat x=qbC n x):=fun x=>by rw[Int.toNat_natCast]
 have K:Hid (qcF ((n:Int)).toNat L=qcF n L):=by show _=_;rw[Int.toNat_natCast]
 have s:Hid (qa7 ((n:Int)).toNat (qcF ((n:Int)).toNat L)=qa7 n (qcF n L)):=by show _=_;rw[Int.toNat_natCast]
 have y:Hid (qa6 ((n:Int)).toNat (qcF ((n:Int)).toNat L)=qa6 n (qcF n L)):=by show _=_;rw[Int.toNat_natCast]
 have D:Hid (qan ((n:Int)).toNat (qcF ((n:Int)).toNat L)=qan n (qcF n L)):=by show _=_;rw[Int.toNat_natCast]
 generalize qcF n L=M at *;have R:(qbC n d=false/\Hid (roV n L d k=.tuple #[.agg qaB,.int .i64 1]))\/(qbC n d=true/\qbC n k=false/\Hid (roV n L d k=.tuple #[.agg qaB,.int .i64 1]))\/(qbC n d=true/\qbC n k=true/\qa7 n M=true/\Hid (roV n L d k=.tuple #[.agg qaB,.int .i64 2]))\/(qbC n d=true/\qbC n k=true/\qa7 n M=false/\qa6 n M=false/\Hid (roV n L d k=.tuple #[.agg qaB,.int .i64 3]))\/(qbC n d=true/\qbC n k=true/\qa7 n M=false/\qa6 n M=true/\Hid (roV n L d k=.tuple #[.agg (qan n M),.int .i64 0])):=by
  cases m:qbC n d
  ·exact .inl ⟨rfl,qut (by rw[b.out,b.out,m];simp)⟩
  cases q:qbC n k
  ·exact .inr (.inl ⟨rfl,rfl,qut (by rw[b.out,b.out,q];simp)⟩)
  have z:(qbx n L&&qbC ((n:Int)).toNat d&&qbC ((n:Int)).toNat k)=true:=by rw[b.out,b.out,m,q,F.out];rfl
  cases p:qa7 n M
  ·cases v:qa6 n M
   ·exact .inr (.inr (.inr (.inl ⟨rfl,rfl,rfl,rfl,qxp z (s.out.trans p) (y.out.trans v)⟩)))
   exact .inr (.inr (.inr (.inr ⟨rfl,rfl,rfl,rfl,(qxe z (s.out.trans p) (y.out.trans v)).trans (by rw[D.out])⟩)))
  exact .inr (.inr (.inl ⟨rfl,rfl,rfl,qwT z (s.out.trans p)⟩))
 clear b K s y D F;have t:True:=trivial;have N:=t;have O:=t;have P:=t;rcases R with ⟨m,j⟩|⟨m,q,j⟩|⟨m,q,p,j⟩|⟨m,q,p,v,j⟩|⟨m,q,p,v,j⟩
 all_goals
  go_enter func56,ntmps56
  go_wp2_with (first
   |(refine qas rfl rfl _ rfl (w.heap.size+1) ?hN ?_;case hN=>(simp only[World.size_alloc];done))
   |(go_at_call 79;refine o.mono ?_;clear o;rintro e h ⟨rfl,B⟩;have a:Hid (qqk w h.heap.size arr (qan n M) (h.alloc (.cells (qan n M) 87))):=qpo w h arr _ (by simpa using B);have l:=(qab a.out.box 2).trans Q)
   |(refine qas rfl rfl _ rfl h.heap.size rfl ?_)
   |(refine wpList_store_row rfl 87 _ _ rfl h.heap.size (qan n M) rfl rfl 87 qaB (qac h _) (qar (qae _ _)) (by rw[qae];exact qae _ _) (qa5 _ _) ?_;rw[World.setRow_alloc_new])
   |(refine wpList_load_row rfl 87 _ rfl _ rfl _ _ _ _ a.out.own underlying87 rfl (qar (qae _ _)) ?_)
   |(refine qaf 87 _ rfl rfl _ rfl _ _ _ _ a.out.own underlying87 rfl (qar (qae _ _)) ?_)
   |(refine qak rfl 87 _ rfl _ rfl _ [] ?hl qbE ?_;case hl=>simp)
   |(go_at_call 80;clear t;refine(qe9 _ n (qaw n M).count d _).mono ?_;rintro e C ⟨rfl,g⟩;have f:=a.out.step g;clear a l;have a:=qaa f;clear f g;have l:=(qab a.out.box 4).trans u)
   |(go_at_call 80;clear N;refine(qe9 _ n (qaw n M).count k _).mono ?_;rintro e C ⟨rfl,g⟩;have f:=a.out.step g;clear a l;have a:=qaa f;clear f g;have l:=(qab a.out.box 4).trans u)
   |(go_at_call 81;clear O;refine(qjQ _ n M (qaw n M) I _).mono ?_;rintro e C ⟨rfl,g⟩;have f:=a.out.step g;clear a l;have a:=qaa f;clear f g;have l:=(qab a.out.box 4).trans u)
   |(go_at_call 82;clear P;refine(qiv _ n M (qaw n M) I _).mono ?_;rintro e C ⟨rfl,g⟩;have f:=a.out.step g;clear a l;have a:=qaa f;clear f g;have l:=(qab a.out.box 4).trans u)
   |(refine wpList_store_row rfl 87 _ _ rfl (w.heap.size+1) qaB rfl rfl 87 qaB a.out.res (qar (qae _ _)) rfl (qa5 _ _) ?_)
   |(refine wpList_store_row rfl 87 _ _ rfl (w.heap.size+1) (qan n M) rfl rfl 87 qaB a.out.res (qar (qae _ _)) (by rw[qae];exact qae _ _) (qa5 _ _) ?_))
  first
  |refine bodyPost_ret (qap results56 _ _ (w.heap.size+1) 87 qaB (0,0) _ rfl (setRow_heap _ _ qaB _ _ _ a.out.res) underlying87 rfl (qar (qae _ _)) (.int .i64 _) rfl) rfl ⟨by rw[j.out],qah a.out.below (by omega) _⟩
  |refine bodyPost_ret (qap results56 _ _ (w.heap.size+1) 87 (qan n M) (0,0) _ rfl (setRow_heap _ _ qaB _ _ _ a.out.res) underlying87 rfl (qar (qae _ _)) (.int .i64 0) rfl) rfl ⟨by rw[j.out],qah a.out.below (by omega) _⟩

end
end Go.Proofs.YtcokgepdckkjdaaGreatDoor
