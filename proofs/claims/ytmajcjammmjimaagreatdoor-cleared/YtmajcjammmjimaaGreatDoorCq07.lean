import Derived.Laws.CopyRow
import Derived.Laws.MakeOwn
import Derived.Lib.ValidLaws
import Derived.Lib.IndexLaws
import Derived.Lib.IndexMore
import Derived.Test.YtmajcjammmjimaaGreatDoorCq02
import Derived.Test.YtmajcjammmjimaaGreatDoorCq06
import Derived.Test.YtmajcjammmjimaaGreatDoorCq04
set_option maxRecDepth 100000
set_option maxHeartbeats 8000000
set_option linter.all false
namespace Go.Proofs.YtmajcjammmjimaaGreatDoor
open Go.Proofs.Tryz
variable{s:ByteArray}{l:List UInt8}{hi lo:Int}{f i n:Nat}{P:Program}{w:World}{c:UInt8}{ps:List ByteArray}
section
open Go.RowKit
def qaW(L:List (Int×Int)):List Value:=L.flatMap λe=>[.int .i64 e.1,.int .i64 e.2]
theorem qfG:∀(L:List (Int×Int)) (i:Nat) (h:i<L.length),(qaW L)[i*2]?=some (.int .i64 L[i].1)/\(qaW L)[i*2+1]?=some (.int .i64 L[i].2)
 |[],i,h=>by simp at h
 |e::L,0,_=>⟨rfl,rfl⟩
 |e::L,i+1,h=>by
  have a:=qfG L i (by simpa using h);have b:(i+1)*2=i*2+2:=by omega
  have c:(i+1)*2+1=i*2+1+2:=by omega
  constructor
  ·show([Value.int .i64 e.1,.int .i64 e.2]++qaW L)[(i+1)*2]?=_;rw[b,kas (by simp)];simpa using a.1
  show([Value.int .i64 e.1,.int .i64 e.2]++qaW L)[(i+1)*2+1]?=_;rw[c,kas (by simp)];simpa using a.2
theorem qgf(A B:List (Int×Int)):qaW (A++B)=qaW A++qaW B:=by simp[qaW]

theorem qdb(b off j:Nat):(⟨b,off,none⟩:Addr).add j=⟨b,off+j,none⟩:=by unfold Addr.add;split<;>simp_all

theorem qbR(W:World)(a:Nat)(v:Value)(bs:List UInt8)(z:Int)(w:Nat)(f:w<=8)(d:bs.length<=1000000000)(h:Own W a v bs):Calls prog 92 #[v,.int .u64 (IntKind.u64.wrap z),.int .i64 w] W λe b=>∃c,e=.returned c/\Own b a c (bs++beF (z%18446744073709551616).toNat w)/\Below a W b:=by
 have e:IntKind.u64.wrap z=(((z%18446744073709551616).toNat:Nat):Int):=by unfold IntKind.wrap;simp[IntKind.bits,IntKind.signed];omega
 rw[e];exact qar W a v bs _ w (by omega) f d h
theorem qmw(W:World)(b:Nat)(v:Value)(bs:List UInt8)(z:Int)(Q : -9223372036854775808<=z)(R:z<0)(P:bs.length<=999999999)(h:Own W b v bs):Calls prog 72 #[v,.int .i64 z] W λe M=>∃x,e=.returned x/\Own M b x (bs++qbu z)/\Below b W M:=by
 obtain⟨F,B,C,D,E⟩:=kaF Tryz.infoU8;obtain⟨O,A,a,n,c,rfl⟩:=h;have j:=qab O;by_cases y : -32<=z
 ·have l:Hid (qbu z=UInt8.ofNat (z%256).toNat::[]):=by show _=_;unfold qbu;rw[kag y]
  go_enter func72,ntmps72
  go_wp2_with(first
    |(at_builtin;refine kao _ rfl _ _ 27 rfl b 5 F (.int .u8 0) 1 1 underlying27 B C D E rfl (by decide) _ _ _ rfl (j.out.alloc _) ⟨W.heap.size,0,none⟩ 1 1 [.int .u8 (z%256)] rfl rfl (qag _ _ _) (λu f=>by simp at f;subst f;rfl) (by unfold maxLen;omega) (by omega) (by simp;omega) ?_;intro x g d k J;obtain⟨I,H,rfl⟩:=ownsRow_succ d;have i:Hid (Own g b _ (bs++[UInt8.ofNat (z%256).toNat])/\Below b W g):=qa0 A j.out ((qba _ (by omega)).trans (by congr 1;omega)) d k))
  go_ret;rw[l.out];exact⟨_,rfl,i.out⟩
 skip
 by_cases G : -128<=z
 ·have l:Hid (qbu z=208::beF (z%18446744073709551616).toNat 1):=by show _=_;unfold qbu;rw[kac y];rw[kag G]
  go_enter func72,ntmps72
  go_wp2_with(first
    |(at_builtin;refine kao _ rfl _ _ 27 rfl b 5 F (.int .u8 0) 1 1 underlying27 B C D E rfl (by decide) _ _ _ rfl (j.out.alloc _) ⟨W.heap.size,0,none⟩ 1 1 [.int .u8 208] rfl rfl (qag _ _ _) (λu f=>by simp at f;subst f;rfl) (by unfold maxLen;omega) (by omega) (by simp;omega) ?_;intro x g d k J;obtain⟨I,H,rfl⟩:=ownsRow_succ d;have i:Hid (Own g b _ (bs++[208])/\Below b W g):=qa0 A j.out (rfl) d k)
    |(go_at_call 92;refine(qbR _ b _ _ z 1 (by omega) (by simp;omega) i.out.1).mono ?_;rintro e L ⟨K,rfl,q,t⟩;obtain⟨r,s,o,w,p,rfl⟩:=q;have m:=qab (qaP i.out ⟨r,s,o,w,p,rfl⟩ t (l.out.symm))))
  go_ret;exact⟨_,rfl,m.out⟩
 skip
 by_cases c2 : -32768<=z
 ·have l:Hid (qbu z=209::beF (z%18446744073709551616).toNat 2):=by show _=_;unfold qbu;rw[kac y];rw[kac G];rw[kag c2]
  go_enter func72,ntmps72
  go_wp2_with(first
    |(at_builtin;refine kao _ rfl _ _ 27 rfl b 5 F (.int .u8 0) 1 1 underlying27 B C D E rfl (by decide) _ _ _ rfl (j.out.alloc _) ⟨W.heap.size,0,none⟩ 1 1 [.int .u8 209] rfl rfl (qag _ _ _) (λu f=>by simp at f;subst f;rfl) (by unfold maxLen;omega) (by omega) (by simp;omega) ?_;intro x g d k J;obtain⟨I,H,rfl⟩:=ownsRow_succ d;have i:Hid (Own g b _ (bs++[209])/\Below b W g):=qa0 A j.out (rfl) d k)
    |(go_at_call 92;refine(qbR _ b _ _ z 2 (by omega) (by simp;omega) i.out.1).mono ?_;rintro e L ⟨K,rfl,q,t⟩;obtain⟨r,s,o,w,p,rfl⟩:=q;have m:=qab (qaP i.out ⟨r,s,o,w,p,rfl⟩ t (l.out.symm))))
  go_ret;exact⟨_,rfl,m.out⟩
 skip
 by_cases N : -2147483648<=z
 ·have l:Hid (qbu z=210::beF (z%18446744073709551616).toNat 4):=by show _=_;unfold qbu;rw[kac y];rw[kac G];rw[kac c2];rw[kag N]
  go_enter func72,ntmps72
  go_wp2_with(first
    |(at_builtin;refine kao _ rfl _ _ 27 rfl b 5 F (.int .u8 0) 1 1 underlying27 B C D E rfl (by decide) _ _ _ rfl (j.out.alloc _) ⟨W.heap.size,0,none⟩ 1 1 [.int .u8 210] rfl rfl (qag _ _ _) (λu f=>by simp at f;subst f;rfl) (by unfold maxLen;omega) (by omega) (by simp;omega) ?_;intro x g d k J;obtain⟨I,H,rfl⟩:=ownsRow_succ d;have i:Hid (Own g b _ (bs++[210])/\Below b W g):=qa0 A j.out (rfl) d k)
    |(go_at_call 92;refine(qbR _ b _ _ z 4 (by omega) (by simp;omega) i.out.1).mono ?_;rintro e L ⟨K,rfl,q,t⟩;obtain⟨r,s,o,w,p,rfl⟩:=q;have m:=qab (qaP i.out ⟨r,s,o,w,p,rfl⟩ t (l.out.symm))))
  go_ret;exact⟨_,rfl,m.out⟩
 skip
 have l:Hid (qbu z=211::beF (z%18446744073709551616).toNat 8):=by show _=_;unfold qbu;rw[kac y];rw[kac G];rw[kac c2];rw[kac N]
 go_enter func72,ntmps72
 go_wp2_with(first
   |(at_builtin;refine kao _ rfl _ _ 27 rfl b 5 F (.int .u8 0) 1 1 underlying27 B C D E rfl (by decide) _ _ _ rfl (j.out.alloc _) ⟨W.heap.size,0,none⟩ 1 1 [.int .u8 211] rfl rfl (qag _ _ _) (λu f=>by simp at f;subst f;rfl) (by unfold maxLen;omega) (by omega) (by simp;omega) ?_;intro x g d k J;obtain⟨I,H,rfl⟩:=ownsRow_succ d;have i:Hid (Own g b _ (bs++[211])/\Below b W g):=qa0 A j.out (rfl) d k)
   |(go_at_call 92;refine(qbR _ b _ _ z 8 (by omega) (by simp;omega) i.out.1).mono ?_;rintro e L ⟨K,rfl,q,t⟩;obtain⟨r,s,o,w,p,rfl⟩:=q;have m:=qab (qaP i.out ⟨r,s,o,w,p,rfl⟩ t (l.out.symm))))
 go_ret;exact⟨_,rfl,m.out⟩

theorem qd2(z:Int):∀w:World,(Instr.typeAssert (.iface 160 (.int .i64 z)) 47 158 true).run prog w=.ok (.tuple #[.bool false,.bool false]) w:=λw=>by kernel_rfl
theorem qgJ(z:Int):∀w:World,(Instr.typeAssert (.iface 160 (.int .i64 z)) 47 160 true).run prog w=.ok (.tuple #[.int .i64 z,.bool true]) w:=λw=>by kernel_rfl
def qfy(z:Int):List UInt8:=if z<0 then qbu z else qbl z.toNat
def qfw(z:Int):List UInt8:=if z<0 then qaj 1 (-1-z).toNat else qaj 0 z.toNat
theorem qrT(W:World)(b:Nat)(v:Value)(bs:List UInt8)(z:Int)(w : -9223372036854775808<=z)(F:z<=9223372036854775807)(p:bs.length<=999999999)(h:Own W b v bs):Calls prog 52 #[v,qrR z] W λe m=>∃q,e=.returned q/\Own m b q (bs++qfy z)/\Below b W m:=by
 unfold qrR;obtain⟨y,u,a,n,c,rfl⟩:=h;have l:Hid (Own W b (.slice a n c) bs):=⟨y,u,a,n,c,rfl⟩
 have o:Hid (qfy z=if z<0 then qbu z else qbl z.toNat):=rfl;by_cases d:z<0
 ·have k:Hid (qfy z=qbu z):=by show _=_;rw[o.out,kag d]
  have s:decide (z<0)=true:=by simp;exact d
  have B:=qd2 z;have C:=qgJ z;go_enter func52,ntmps52
  go_wp2_with(first
   |(go_at_call 72;refine(qmw _ b _ bs z w d p l.out).mono ?_;rintro e E ⟨D,rfl,f,j⟩;obtain⟨g,i,r,A,t,rfl⟩:=f))
  go_ret;rw[k.out];exact⟨_,rfl,⟨g,i,_,_,_,rfl⟩,j⟩
 have k:Hid (qfy z=qbl z.toNat):=by show _=_;rw[o.out,kac d]
 obtain⟨x,rfl⟩:∃x:Nat,z=x:=⟨z.toNat,by omega⟩
 have s:decide ((x:Int)<0)=false:=by simp
 have B:=qd2 (x:Int);have C:=qgJ (x:Int);go_enter func52,ntmps52
 go_wp2_with(first
  |(go_at_call 73;refine(qmo _ b _ bs x (by omega) p l.out).mono ?_;rintro e E ⟨D,rfl,f,j⟩;obtain⟨g,i,r,A,t,rfl⟩:=f))
 go_ret;rw[k.out];exact⟨_,rfl,⟨g,i,_,_,_,rfl⟩,j⟩
theorem qr4(W:World)(b:Nat)(v:Value)(bs:List UInt8)(z:Int)(G : -9223372036854775808<=z)(H:z<=9223372036854775807)(q:bs.length<=999999999)(h:Own W b v bs):Calls prog 51 #[v,qrR z] W λe d=>∃f,e=.returned f/\Own d b f (bs++qfw z)/\Below b W d:=by
 unfold qrR;obtain⟨y,w,a,n,c,rfl⟩:=h;have m:Hid (Own W b (.slice a n c) bs):=⟨y,w,a,n,c,rfl⟩
 have p:Hid (qfw z=if z<0 then qaj 1 (-1-z).toNat else qaj 0 z.toNat):=rfl;by_cases o:z<0
 ·have g:Hid (qfw z=qaj 1 (-1-z).toNat):=by show _=_;rw[p.out,kag o]
  obtain⟨x,rfl⟩:∃x:Nat,z = -1-(x:Int):=⟨(-1-z).toNat,by omega⟩
  have t:=λV h=>qby V b (.slice a n c) bs 1 x (by omega) (by omega) q h;have u:∀V,Own V b (.slice a n c) bs->Calls prog 70 #[.slice a n c,.int .u8 1,.int .u64 (-1-(-1-(x:Int)))] V λe d=>∃f,e=.returned f/\Own d b f (bs++qaj 1 x)/\Below b V d:=by
   rw[show(-1-(-1-(x:Int)))=x by omega];exact t
  rw[show(-1-(-1-(x:Int))).toNat=x by omega]at g;have B:=qd2 (-1-(x:Int));have C:=qgJ (-1-(x:Int));go_enter func51,ntmps51
  go_wp2_with(first
   |(go_at_call 70;refine(u _ m.out).mono ?_;rintro e E ⟨D,rfl,i,l⟩;obtain⟨j,k,r,A,s,rfl⟩:=i))
  go_ret;rw[g.out];exact⟨_,rfl,⟨j,k,_,_,_,rfl⟩,l⟩
 have g:Hid (qfw z=qaj 0 z.toNat):=by show _=_;rw[p.out,kac o]
 obtain⟨x,rfl⟩:∃x:Nat,z=x:=⟨z.toNat,by omega⟩
 have F:decide ((x:Int)<0)=false:=by simp
 have B:=qd2 (x:Int);have C:=qgJ (x:Int);go_enter func51,ntmps51
 go_wp2_with(first
  |(go_at_call 70;refine(qby _ b _ bs 0 x (by omega) (by omega) q m.out).mono ?_;rintro e E ⟨D,rfl,i,l⟩;obtain⟨j,k,r,A,s,rfl⟩:=i))
 go_ret;rw[g.out];exact⟨_,rfl,⟨j,k,_,_,_,rfl⟩,l⟩

def qdW(c:Int):Int×Int×Int :=
 if c<128 then(0,0,1)else if 194<=c/\c<=223 then(128,191,2)else if c=224 then(160,191,3)else if c=237 then(128,159,3)
 else if 225<=c/\c<=239 then(128,191,3)else if c=240 then(144,191,4)else if 241<=c/\c<=243 then(128,191,4)else if c=244 then(128,143,4)else(0,0,0)
theorem qgX(c:Int)(w:World):Calls prog 138 #[.int .u8 c] w λe a=>e=.returned (.tuple #[.int .u8 (qdW c).1,.int .u8 (qdW c).2.1,.int .i64 (qdW c).2.2])/\a=w:=by
 go_enter func138,ntmps138;go_wp2
 all_goals go_ret3
 all_goals refine⟨?_,rfl⟩
 all_goals simp only[kcy,ka1]at *
 all_goals unfold qdW
 all_goals(repeat(first|rw[kag (by omega)]|rw[kac (by omega)]))
 all_goals rfl
def qeT(s:ByteArray):Int:=if s.toList==[100,114,111,112]then 1 else if s.toList==[109,97,115,107]then 2 else if s.toList==[116,97,103]then 3 else 0
theorem qfs(s:ByteArray)(w:World):Calls prog 64 #[.string s] w λe a=>e=.returned (.int .i64 (qeT s))/\a=w:=by
 go_enter func64,ntmps64;go_wp2
 all_goals go_ret
 all_goals refine⟨?_,rfl⟩
 all_goals unfold qeT
 all_goals(repeat(first|rw[kag (by assumption)]|rw[kac (by rw[kcc];assumption)]))
 all_goals rfl
theorem qcA(s:ByteArray)(w:World):Calls prog 101 #[.string s] w λe a=>e=.returned (.tuple #[.int .i64 (qeT s),.bool (qeT s != 0)])/\a=w:=by
 go_enter func101,ntmps101;go_wp2
 all_goals go_ret2
 all_goals refine⟨?_,rfl⟩
 all_goals unfold qeT
 all_goals(repeat(first|rw[kag (by assumption)]|rw[kac (by rw[kcc];assumption)]))
 all_goals rfl
def qsh(l:List UInt8):Int:=match l with
 |[b]=>if 48<=b.toNat/\b.toNat<=57 then(b.toNat:Int)-48 else 0
 |_=>0
def qjh(l:List UInt8)(n:Int):Bool:=match l with
 |[b]=>decide (48<=b.toNat/\b.toNat<=57)&&decide ((b.toNat:Int)-48<n)
 |_=>false
theorem qnk(h:s.size=1):s.data.toList=[s[0]]:=by
 obtain⟨⟨l⟩⟩:=s
 match l,h with
 |[b],_=>rfl
theorem qq2(n:Int)(h:l.length≠1):qsh l=0/\qjh l n=false:=by
 match l,h with
 |[],_=>exact⟨rfl,rfl⟩
 |_::_::_,_=>exact⟨rfl,rfl⟩
theorem qdh(s:ByteArray)(n:Int)(w:World):Calls prog 100 #[.string s,.int .i64 n] w λe d=>e=.returned (.tuple #[.int .i64 (qsh s.data.toList),.bool (qjh s.data.toList n)])/\d=w:=by
 by_cases c:s.size=1
 ·have f:(s.size:Int)=1:=by omega
  have b:=qab (qnk c);by_cases g:(s[0].toNat:Int)<48
  ·have a:Hid (qsh [s[0]]=0/\qjh [s[0]] n=false):=⟨kac (by omega),by simp only[qjh];rw[kaz (by omega)];rfl⟩
   go_enter func100,ntmps100;go_wp2
   all_goals go_ret2
   all_goals exact⟨by rw[b.out,a.out.1,a.out.2];rfl,rfl⟩
  have h:(48:Int)<=s[0].toNat:=by omega
  by_cases i:(57:Int)<s[0].toNat
  ·have a:Hid (qsh [s[0]]=0/\qjh [s[0]] n=false):=⟨kac (by omega),by simp only[qjh];rw[kaz (by omega)];rfl⟩
   go_enter func100,ntmps100;go_wp2
   all_goals go_ret2
   all_goals exact⟨by rw[b.out,a.out.1,a.out.2];rfl,rfl⟩
  have j:(s[0].toNat:Int)<=57:=by omega
  have a:Hid (qsh [s[0]]=(s[0].toNat:Int)-48/\qjh [s[0]] n=decide ((s[0].toNat:Int)-48<n)):=⟨kag (by omega),by simp only[qjh];rw[kax (by omega)];rfl⟩
  go_enter func100,ntmps100;go_wp2
  all_goals go_ret2
  all_goals exact⟨by rw[b.out,a.out.1,a.out.2];rfl,rfl⟩
 have:(s.size:Int)≠1:=by omega
 have a:=qab (qq2 n (by rw[ka8];exact c));go_enter func100,ntmps100;go_wp2
 all_goals go_ret2
 all_goals exact⟨by rw[a.out.1,a.out.2];rfl,rfl⟩

def qj6(lo hi:Int)(l:List UInt8)(j:Nat):Bool :=
 decide (j<l.length)&&(if j=1 then decide (lo<=((l.getD j 0).toNat:Int)/\((l.getD j 0).toNat:Int)<=hi)else decide (128<=(l.getD j 0).toNat/\(l.getD j 0).toNat<=191))
def qhM(lo hi:Int)(l:List UInt8):Nat->Nat->Nat×Bool
 |0,j=>(j,true)
 |g+1,j=>if qj6 lo hi l j then qhM lo hi l g (j+1)else(j,false)
def qjO(l:List UInt8):Nat×Bool :=
 if(qdW (l.getD 0 0).toNat).2.2=0 then(0,false)else qhM (qdW (l.getD 0 0).toNat).1 (qdW (l.getD 0 0).toNat).2.1 l ((qdW (l.getD 0 0).toNat).2.2.toNat-1) 1
theorem qye(c:Int):(qdW c).2.2=0\/(qdW c).2.2=1\/(qdW c).2.2=2\/(qdW c).2.2=3\/(qdW c).2.2=4:=by
 unfold qdW
 repeat(first|(split;simp)|simp)
def qbs(s:ByteArray)(i n:Nat):List UInt8:=(s.data.toList.take n).drop i
theorem qim(s:ByteArray)(i n:Nat)(h:n<=s.size):(qbs s i n).length=n-i:=by
 unfold qbs;rw[kaR,kbc];have:s.data.toList.length=s.size:=ka8;omega
theorem qhX(s:ByteArray)(i n j:Nat)(h:n<=s.size)(a:i+j<n):(qbs s i n).getD j 0=s[i+j]'(by omega):=by
 unfold qbs;rw[kbh,kdO,kcu,kag a];have:i+j<s.data.toList.length:=by
  have:s.data.toList.length=s.size:=ka8;omega
 rw[kab this];rfl
theorem qi3(s:ByteArray)(i n:Nat)(w:World)(m:n<=s.size)(hi:i<n)(M:s.size<=4611686018427387904):Calls prog 125 #[.string s,.int .i64 i,.int .i64 n] w λe D=>e=.returned (.tuple #[.int .i64 (qjO (qbs s i n)).1,.bool (qjO (qbs s i n)).2])/\D=w:=by
 have I:(i:Int)<s.size:=by omega
 have J:i<s.size:=by omega
 have r:Hid (((qbs s i n).getD 0 0)=s[i]):=qhX s i n 0 m (by omega);obtain⟨c,b,k,d⟩:∃c b k,Hid (qdW (s[i].toNat:Int)=(c,b,k)):=⟨_,_,_,show qdW _=(_,_,_)from rfl⟩
 have q:=qye (s[i].toNat:Int);rw[d.out]at q;simp only[]at q;have u:Hid (qjO (qbs s i n)=if k=0 then(0,false)else qhM c b (qbs s i n) (k.toNat-1) 1):=by
  show _=_;unfold qjO;rw[r.out,d.out]
 clear r;by_cases v:k=0
 ·subst v;have p:Hid (qjO (qbs s i n)=(0,false)):=by show _=_;rw[u.out,kag rfl]
  go_enter func125,ntmps125
  go_wp2_with(first
   |(go_at_call 138;refine(qgX _ _).mono ?_;rintro e z ⟨rfl,rfl⟩;rw[d.out]))
  go_ret2
  exact⟨by rw[p.out];rfl,rfl⟩
 obtain⟨a,rfl⟩:∃a:Nat,k=a:=⟨k.toNat,by omega⟩
 have L:1<=a/\a<=4:=by simp at q;omega
 have K:((a:Int)==0)=false:=by rw[ka1];omega
 have p:Hid (qjO (qbs s i n)=qhM c b (qbs s i n) (a-1) 1):=by show _=_;rw[u.out,kac v];rfl
 go_enter func125,ntmps125
 go_wp2_with(first
  |(go_at_call 138;refine(qgX _ _).mono ?_;rintro e z ⟨rfl,rfl⟩;rw[d.out]))
 go_loopg[11] (a-1) (λg x wr=>∃j:Nat,Hid (j+g=a)/\x=.int .i64 j/\z=wr/\Hid (1<=j)/\Hid (qjO (qbs s i n)=qhM c b (qbs s i n) g j))
 case atStart=>exact⟨1,by show _=_;omega,rfl,rfl,kaf 1,p.out⟩
 case round =>
  obtain⟨j,l,rfl,rfl,y,f⟩:=hrel
  cases gk with
  |zero =>
   have C:¬(j:Int)<a:=by have:=l.out;omega
   go_wp2
   go_ret2
   exact⟨(by rw[f.out];have:j=a:=(by have:=l.out;omega);subst this;rfl),rfl⟩
  |succ g =>
   have C:(j:Int)<a:=by have:=l.out;omega
   by_cases E:(n:Int)<=(i:Int)+j
   ·have o:Hid (qjO (qbs s i n)=(j,false)):=by
     show _=_;rw[f.out,qhM,qj6,qim _ _ _ m,kaz (by omega)];rfl
    go_wp2
    go_ret2
    exact⟨by rw[o.out];rfl,rfl⟩
   have F:(i:Int)+j<n:=by omega
   have H:(i:Int)+j<s.size:=by omega
   have G:i+j<s.size:=by omega
   have t:Hid (qj6 c b (qbs s i n) j=if j=1 then decide (c<=(s[i+j].toNat:Int)/\(s[i+j].toNat:Int)<=b)else decide (128<=s[i+j].toNat/\s[i+j].toNat<=191)):=by
    show _=_;unfold qj6;rw[qhX s i n j m (by omega),qim _ _ _ m,kax (by omega),kbB]
   have A:Hid (qj6 c b (qbs s i n) j=true->qjO (qbs s i n)=qhM c b (qbs s i n) g (j+1)):=λh=>by rw[f.out,qhM,kag h]
   have o:Hid (qj6 c b (qbs s i n) j=false->qjO (qbs s i n)=(j,false)):=λh=>by rw[f.out,qhM,kac (by rw[h];decide)]
   go_wp2
   all_goals first
    |(go_ret2;have hF:=o.out (by rw[t.out];have:=y.out;split<;>(apply kaz;omega));exact⟨by rw[hF];simp[*],rfl⟩)
    |go_roundg g
     case measure=>omega
     case rel =>
      have B:=A.out (by rw[t.out];have:=y.out;split<;>(apply kax;omega));refine⟨j+1,by show _=_;have:=l.out;omega,?_,rfl,by show _<=_;omega,B⟩
      first|go_num|(simp[*];done)
theorem qty{α β:Type}(p:α×β):p=(p.1,p.2):=rfl
def szL(l:List UInt8):Nat:=if(qjO l).2 then(qjO l).1 else 0
theorem qtf(s:ByteArray)(i:Nat)(w:World)(hi:i<s.size)(f:s.size<=4611686018427387904):Calls prog 109 #[.string s,.int .i64 i] w λe h=>e=.returned (.int .i64 (szL (s.data.toList.drop i)))/\h=w:=by
 have d:Hid (qbs s i s.size=s.data.toList.drop i):=by
  show _=_;unfold qbs;have g:s.data.toList.length=s.size:=ka8;rw[<-g,kcd]
 obtain⟨k,b,a⟩:∃k b,Hid (qjO (s.data.toList.drop i)=(k,b)):=⟨_,_,qty _⟩
 cases b
 ·have c:Hid (szL (s.data.toList.drop i)=0):=by show _=_;unfold szL;rw[a.out];rfl
  go_enter func109,ntmps109
  go_wp2_with(first
   |(go_at_call 125;refine(qi3 s i s.size _ (kaf _) hi f).mono ?_;rintro e j ⟨rfl,rfl⟩;rw[d.out,a.out]))
  go_ret;exact⟨by rw[c.out];rfl,rfl⟩
 have c:Hid (szL (s.data.toList.drop i)=k):=by show _=_;unfold szL;rw[a.out];rfl
 go_enter func109,ntmps109
 go_wp2_with(first
  |(go_at_call 125;refine(qi3 s i s.size _ (kaf _) hi f).mono ?_;rintro e j ⟨rfl,rfl⟩;rw[d.out,a.out]))
 go_ret;exact⟨by rw[c.out];rfl,rfl⟩

theorem qwj{j:Nat}(h:qj6 lo hi l j=true):j<l.length:=by
 unfold qj6 at h;rw[ka2]at h;exact kaq h.1
theorem qqi:∀{g j:Nat},(qhM lo hi l g j).2=true->j<=l.length->(qhM lo hi l g j).1<=l.length
 |0,_,_,hj=>hj
 |g+1,j,h,_=>by
  unfold qhM at h ⊢;by_cases a:qj6 lo hi l j=true
  ·rw[kag a]at h ⊢;exact qqi h (qwj a)
  rw[kac a]at h;exact absurd h (by simp)
theorem qzg(l:List UInt8)(b:0<l.length):szL l<=l.length:=by
 unfold szL;by_cases h:(qjO l).2=true
 ·rw[kag h];unfold qjO at h ⊢;by_cases a:(qdW (l.getD 0 0).toNat).2.2=0
  ·rw[kag a];exact kaY _
  rw[kac a]at h ⊢;exact qqi h b
 rw[kac h];exact kaY _
def qsk(b:UInt8):Bool:=decide (b.toNat<=32)||(b.toNat==42||(b.toNat==91||(b.toNat==93||(b.toNat==47||b.toNat==46))))
def qmI:Nat->List UInt8->Option Nat
 |_,[]=>some 0
 |0,_::_=>none
 |g+1,b::t=>if szL (b::t)=0\/qsk b=true then none else(qmI g ((b::t).drop (szL (b::t)))).map (·+1)
def qz5:Option Nat->Bool
 |some n=>decide (1<=n/\n<=16)
 |none=>false
def qhk(l:List UInt8):Bool:=qz5 (qmI l.length l)
theorem qck(s:ByteArray)(w:World)(F:s.size<=4611686018427387904):Calls prog 88 #[.string s] w λe G=>e=.returned (.bool (qhk s.data.toList))/\G=w:=by
 have t:s.data.toList.length=s.size:=ka8;obtain⟨A,o⟩:∃A,Hid (qmI s.data.toList.length s.data.toList=A):=⟨_,show _=_ from rfl⟩
 have p:Hid (qhk s.data.toList=qz5 A):=by show _=_;unfold qhk;rw[o.out]
 go_enter func88,ntmps88;go_wp2
 go_loopg[3,4] s.size (λg x y wr=>∃n i:Nat,x=.int .i64 n/\y=.int .i64 i/\w=wr/\Hid (n<=i)/\Hid (i<=s.size)/\Hid (s.size<=i+g)/\Hid (A=(qmI g (s.data.toList.drop i)).map (·+n)))
 case atStart =>
  refine⟨0,0,rfl,rfl,rfl,kaf _,kaY _,by show _<=_;omega,?_⟩;show _=_;rw[<-o.out,t,kdD];cases qmI s.size s.data.toList<;>rfl
 case round =>
  obtain⟨n,i,rfl,rfl,rfl,u,m,r,b⟩:=hrel;by_cases B:i=s.size
  ·have D:¬(i:Int)<s.size:=by omega
   have f:Hid (qhk s.data.toList=decide (1<=n/\n<=16)):=by
    show _=_;have l:A=some n:=by
     rw[b.out,B,<-t,kcp];cases gk<;>simp[qmI]
    rw[p.out,l];rfl
   by_cases H:(1:Int)<=n
   ·by_cases I:(n:Int)<=16
    ·have a:Hid (qhk s.data.toList=true):=by show _=_;rw[f.out,kax (by omega)]
     go_wp2;go_ret;exact⟨by rw[a.out];rfl,rfl⟩
    have a:Hid (qhk s.data.toList=false):=by show _=_;rw[f.out,kaz (by omega)]
    go_wp2;go_ret;exact⟨by rw[a.out];rfl,rfl⟩
   have a:Hid (qhk s.data.toList=false):=by show _=_;rw[f.out,kaz (by omega)]
   go_wp2;go_ret;exact⟨by rw[a.out];rfl,rfl⟩
  have D:(i:Int)<s.size:=by have:=m.out;omega
  have E:i<s.size:=by omega
  obtain⟨g,rfl⟩:∃g,gk=g+1:=⟨gk-1,by have:=r.out;omega⟩
  obtain⟨k,j⟩:∃k,Hid (szL (s.data.toList.drop i)=k):=⟨_,show _=_ from rfl⟩
  have d:Hid (s.data.toList.drop i=s[i]::s.data.toList.drop (i+1)):=by show _=_;rw[ka6 (by omega)];rfl
  have c:Hid (qmI (g+1) (s.data.toList.drop i)=if k=0\/qsk s[i]=true then none else(qmI g (s.data.toList.drop (i+k))).map (·+1)):=by
   show _=_;have:=j.out;rw[d.out]at this ⊢;rw[qmI,this,<-d.out,kbf]
  have J:k<=s.size-i:=by
   have:=qzg (s.data.toList.drop i) (by rw[kaR];omega);rw[j.out,kaR]at this;omega
  have v:Hid (k=0\/qsk s[i]=true->qhk s.data.toList=false):=λh=>by
   have l:A=none:=by rw[b.out,c.out,kag h];rfl
   rw[p.out,l];rfl
  have z:Hid (¬(k=0\/qsk s[i]=true)->A=(qmI g (s.data.toList.drop (i+k))).map (·+(n+1))):=λh=>by
   rw[b.out,c.out,kac h,Option.map_map];congr 1;funext x;simp only[Function.comp];omega
  have q:Hid (qsk s[i]=true↔((s[i].toNat:Int)<=32\/(s[i].toNat:Int)=42\/(s[i].toNat:Int)=91\/(s[i].toNat:Int)=93\/(s[i].toNat:Int)=47\/(s[i].toNat:Int)=46)):=by
   show _↔_;unfold qsk;simp only[kcw,kbQ,kcy];omega
  clear d c b;have K:n<=4611686018427387904:=by have:=u.out;have:=m.out;omega
  go_wp2_with(first
   |(go_at_call 109;refine(qtf s i _ E F).mono ?_;rintro e L ⟨rfl,rfl⟩;rw[j.out]))
  all_goals first
   |(go_ret;have hF:=v.out (by rw[q.out];first|omega|(simp only[kcy]at *;omega));exact⟨by rw[hF];rfl,rfl⟩)
   |go_roundg g
    case measure=>omega
    case rel =>
     have C:=z.out (by rw[q.out];first|omega|(simp only[ka1]at *;omega));refine⟨n+1,i+k,by go_num,by go_num,rfl,?_,?_,?_,C⟩
     all_goals(show _<=_;have:=u.out;have:=m.out;have:=r.out;omega)
   |skip

theorem qdl(w:World)(C:Nat)(t k e:TypeId)(i:TypeInfo)(z:Value)(size r:Nat)(q:P.underlying t=some (.slice e))(hi:P.info? e=some i)(A:i.zero=some z)(M:i.size=size)(G:i.bytes=r)(v:Value)(n:Nat)(B:List Value)(p:w.ownsRow C e size v n B)(a:Addr)(m c:Nat)(b:List Value)(h:b.length=m*size)(o:∀j u,b[j]?=some u->w.cell? (a.add j)=some u)(D:∀u∈b,u.oneCell'=true)(K:0<m)(E:n+m<=maxLen)(x:(n+m)*r<=140737488355328){v':Value}{w':World}(d:(Builtin.append_ #[t,t] k #[v,.slice (some a) m c]).run P w=.ok v' w'):v'.ownBlock=v.ownBlock\/v'.ownBlock=some w.heap.size:=by
 subst M;subst G;have R:n+m<=9223372036854775807:=by simp only[maxLen]at E;omega
 rcases p.2 with⟨rfl,rfl⟩|⟨g,l,s,rfl,N,J,Q,O,H,S⟩
 ·have f:=run_append_nil (P:=P) w t k e i z q hi A a m c b h o K (by omega) (by have F:=x;simp only[kaL]at F;omega);rw[f]at d;injection d with e1 e2;right;rw[<-e1];rfl
 by_cases y:n+m<=l
 ·have I:n*i.size+b.length<=s.size:=by rw[h,H,<-Nat.add_mul];exact kcW _ y
  have f:=run_append_room (P:=P) w t k e i q hi g n l s J a m c b h o D y I;rw[f]at d;injection d with e1 e2;left;rw[<-e1];rfl
 have L:=p.cells (g:=g) rfl;have f:=run_append_grow (P:=P) w t k e i z q hi A ⟨g,0,none⟩ n l B p.1 L a m c b h o (by omega) (by omega) (growslice_fits (by omega) x);rw[f]at d;injection d with e1 e2;right;rw[<-e1];rfl
theorem qbg(w:World){ops:Array Oper}{rest:List Oper}{o:Oper}{a:Act}{Q:Exit->Act->World->Prop}(O:o.guard=none)(s x:Operand)(t:TypeId)(S:o.op=.call {callee:=.builtin .append,args:=#[s,x],argTypes:=#[t,t]})(f:Nat)(e:TypeId)(i:TypeInfo)(z:Value)(size l:Nat)(G:P.underlying t=some (.slice e))(hi:P.info? e=some i)(H:i.zero=some z)(F:i.size=size)(y:i.bytes=l)(W:z.cells.size=size)(U:0<size)(v:Value)(n:Nat)(p:List Value)(T:a.eval s=v)(D:w.ownsRow f e size v n p)(k:Addr)(m c:Nat)(b:List Value)(V:a.eval x=.slice (some k) m c)(B:b.length=m*size)(C:∀j u,b[j]?=some u->w.cell? (k.add j)=some u)(q:∀u∈b,u.oneCell'=true)(R:0<m)(r:n+m<=maxLen)(A:(n+m)*l<=140737488355328)(N:f<=w.heap.size)(h:∀d g,g.ownsRow f e size d (n+m) (p++b)->w.grownBy g v.ownBlock->(d.ownBlock=v.ownBlock\/d.ownBlock=some w.heap.size)->wpList P ops Q rest (a.put o.dst d) g):wpList P ops Q (o::rest) a w:=by
 refine kcM O λK M=>?_;obtain⟨d,g,E,I,J,_⟩:=kcK (P:=P) w f t o.type e i z size l G hi H F y W U v n p D k m c b B C q r A N;have L:=qdl (P:=P) w f t o.type e i z size l G hi H F y v n p D k m c b B C q R r A E;unfold Oper.wp execOp;simp only[S,resolve,invoke,builtin,kbb,kby,kaJ,kco,kaH,kb8,T,V,E];exact M _ _ (h d g I J L)

def qaO(bs:List UInt8)(lim:Int):List UInt8->Nat->Except (Int×Int) (Unit×Nat)
 |[],p=>.ok ((),p)
 |x::xs,p=>match bs[p]? with
  |none=>.error (9,p)
  |some c=>if(p:Int)=lim then .error (8,p)else if c=x then qaO bs lim xs (p+1)else .error (9,p)
theorem qbA(W:World)(b:Nat)(s:Src)(l:List UInt8)(hl:l.length<=100)(h:qad W b s):Calls prog 192 #[.agg #[.pointer (some ⟨b,0,none⟩)],.string ⟨l.toArray⟩] W (qbV W b s (λ_:Unit=>.tuple #[]) (qaO s.bs s.lim l s.pos)):=by
 have H:=qab (qaX h);obtain⟨R,p⟩:∃R,Hid (qaO s.bs s.lim l s.pos=R):=⟨_,show _=_ from rfl⟩
 rw[p.out];go_enter func192,ntmps192;go_wp2;generalize W.alloc (.cells #[.pointer (some ⟨b,0,none⟩)] 114)=W0 at *
 go_loopg[4,7] l.length (λm _ z wr=>∃(k:Nat),z=.int .i64 k/\Hid (m+k=l.length)/\Hid (qpe W b W.heap.size {s with pos:=s.pos+k} wr)/\Hid (qaO s.bs s.lim (l.drop k) (s.pos+k)=R))
 case atStart=>exact⟨0,rfl,rfl,H,p⟩
 case round =>
  obtain⟨k,rfl,A,g,p⟩:=hrel;have Z:=g.out.cell
  cases gk with
  |zero =>
   have e:k=l.length:=by have:=A.out;omega
   have f:Hid (R=.ok ((),s.pos+k)):=by
    show _=_;rw[<-p.out,kbA (by omega)];rfl
   have I:decide ((k:Int)<(l.length:Int))=false:=by simp;omega
   have J:decide (k<l.length)=false:=by simp;omega
   go_wp2;go_end0;rw[f.out];exact⟨g.out.but,rfl,g.out.src⟩
  |succ m =>
   have w:k<l.length:=by have:=A.out;omega
   have I:decide ((k:Int)<(l.length:Int))=true:=by simp;omega
   have J:decide (k<l.length)=true:=by simp;omega
   obtain⟨x,D⟩:∃x,l[k]=x:=⟨_,rfl⟩
   have X:l.drop k=x::l.drop (k+1):=by rw[ka6 w,D]
   have F:Hid (l[k]?=some x):=by show _=_;rw[kab w,D]
   have t:{wr with drawn:=wr.drawn+1}.cell? ⟨W.heap.size,0,none⟩=some (.pointer (some ⟨b,0,none⟩)):=Z;have u:Hid (qad {wr with drawn:=wr.drawn+1} b {s with pos:=s.pos+k}):=g.out.src.drewN 1;have y:Hid (But b wr {wr with drawn:=wr.drawn+1}):=But.of_below (qao wr 1);have d:=p.out;rw[X,qaO]at d;go_wp2;refine kaM (S:=λV=>V.cell? ⟨W.heap.size,0,none⟩=some (.pointer (some ⟨b,0,none⟩))) (by kernel_rfl) ?_;refine kaD (i:=0) (v:=.pointer (some ⟨W.heap.size,0,none⟩)) rfl (by kernel_rfl) (by kernel_rfl) (by kernel_rfl) (λ_ _ _ h=>h) (.inl ⟨rfl,λV n=>rfl⟩) t ?_;refine kaD (i:=1) (v:=.pointer (some ⟨b,0,none⟩)) rfl (by kernel_rfl) (by kernel_rfl) (by kernel_rfl) (λ_ _ _ h=>h) (.inl ⟨rfl,λV n=>?y1⟩) t ?_
   case y1=>go_simp
   refine kaD (i:=3) (v:=.string ⟨l.toArray⟩) rfl (by kernel_rfl) (by kernel_rfl) (by kernel_rfl) (λ_ _ _ h=>h) (.inl ⟨rfl,λV n=>rfl⟩) t ?_;refine kaD (i:=4) (v:=.int .i64 k) rfl (by kernel_rfl) (by kernel_rfl) (by kernel_rfl) (λ_ _ _ h=>h) (.inl ⟨rfl,λV n=>rfl⟩) t ?_;refine kaD (i:=5) (v:=.int .u8 x.toNat) rfl (by kernel_rfl) (by kernel_rfl) (by kernel_rfl) (λ_ _ _ h=>h) (.inl ⟨rfl,λV n=>?y5⟩) t ?_
   case y5 =>
    have Y:=kaE ((kab w).symm.trans F.out);go_simp;show(((l.toArray)[k]'(by simpa using w)).toNat:Int)=_;rw[List.getElem_toArray,Y]
   refine rdq 2 (λK N=>?_);rcases qaT u.out with a|a|⟨c,a⟩
   ·have f:Hid (R=.error (9,((s.pos+k:Nat):Int))):=by
     show _=_;rw[<-d,kaC (by have:s.pos+k=s.bs.length:=a;omega)]
    have q:=qb0 _ b {s with pos:=s.pos+k} u.out a;go_simp;refine q.mono ?_;rintro e E ⟨hF,r⟩;obtain rfl:=hF;exact⟨rfl,(g.out.but.trans y.out).trans (But.of_below r),by rw[f.out];rfl⟩
   ·have f:Hid (R=.error (8,((s.pos+k:Nat):Int))):=by
     show _=_;have L:((s.pos+k:Nat):Int)=s.lim:=a.2;have M:s.pos+k<s.bs.length:=a.1;rw[<-d,kab M];simp only[];rw[kag L]
    have q:=qbb _ b {s with pos:=s.pos+k} u.out a;go_simp;refine q.mono ?_;rintro e E ⟨hF,r⟩;obtain rfl:=hF;exact⟨rfl,(g.out.but.trans y.out).trans (But.of_below r),by rw[f.out];rfl⟩
   have P:s.bs[s.pos+k]?=some c:=a.1;have Q:¬((s.pos+k:Nat):Int)=s.lim:=a.2;rw[P]at d;simp only[]at d;rw[kac Q]at d;have q:Calls prog 188 #[.pointer (some ⟨b,0,none⟩)] {wr with drawn:=wr.drawn+1} λe B=>e=.returned (.int .u8 c.toNat)/\qad B b {s with pos:=s.pos+(k+1)}/\But b {wr with drawn:=wr.drawn+1} B:=qaw _ b {s with pos:=s.pos+k} c u.out a;go_simp;refine q.mono ?_;rintro e E ⟨rfl,O,r⟩;simp only[];have j:=qab (g.out.step O (y.out.trans r));refine N.out _ _ j.out.cell (λ_=>?_);have aa:=j.out.cell;by_cases o:c=x
   ·have T:((c.toNat:Int)==(x.toNat:Int))=true:=by rw[o];simp
    have U:c.toNat=x.toNat:=by rw[o]
    have G:Hid (qaO s.bs s.lim (l.drop (k+1)) (s.pos+(k+1))=R):=by show _=_;rw[<-d,kag o];rfl
    refine kaD (i:=6) (v:=.bool false) rfl (by kernel_rfl) (by kernel_rfl) (by kernel_rfl) (λ_ _ _ h=>h) (.inl ⟨rfl,λV n=>?y6⟩) j.out.cell ?_
    case y6=>(go_simp;first|done|omega|assumption|trace_state)
    refine wdn ?_;go_wp2;go_roundg m
    case measure=>omega
    case rel=>exact⟨k+1,by go_num,by show _=_;have:=A.out;omega,j,G⟩
   have T:((c.toNat:Int)==(x.toNat:Int))=false:=by
    simp only[ka1,ne_eq];intro C;exact o (kcY.1 (by omega))
   have U:¬c.toNat=x.toNat:=λC=>o (kcY.1 C);have f:Hid (R=.error (9,((s.pos+k:Nat):Int))):=by show _=_;rw[<-d,kac o]
   refine kaD (i:=6) (v:=.bool true) rfl (by kernel_rfl) (by kernel_rfl) (by kernel_rfl) (λ_ _ _ h=>h) (.inl ⟨rfl,λV n=>?y6⟩) j.out.cell ?_
   case y6=>(go_simp;first|done|omega|assumption|trace_state)
   refine wdn ?_
   go_wp2_with(first
    |(go_at_call 189;refine(qav _ b {s with pos:=s.pos+(k+1)} _ j.out.src).mono ?_;rintro e w7 ⟨hF,rfl⟩;obtain rfl:=hF))
   rw[f.out];exact⟨rfl,j.out.but,by show qan _ _ _;unfold qan qdB;simp;omega⟩

end
section
def qam(c:UInt8):List UInt8->List (List UInt8)
 |[]=>[[]]
 |x::r=>if x==c then[]::qam c r else match qam c r with
  |h::t=>(x::h)::t
  |[]=>[[x]]
theorem qgN(c:UInt8)(l:List UInt8):qam c l≠[]:=by
 cases l with
 |nil=>simp[qam]
 |cons x r =>
  unfold qam;split
  ·simp
  split<;>simp
theorem qe2(c:UInt8):∀l:List UInt8,(∀x,x∈l->(x==c)=false)->qam c l=[l]
 |[],_=>rfl
 |x::r,h=>by
  have a:=h x (ka5 ..);have b:=qe2 c r (λy d=>h y (ka9 _ d));simp only[qam,a,b];rfl
theorem qd5(c:UInt8):∀(a b:List UInt8),(∀x,x∈a->(x==c)=false)->qam c (a++c::b)=a::qam c b
 |[],b,_=>by simp[qam]
 |x::a,b,h=>by
  have d:=h x (ka5 ..);have e:=qd5 c a b (λy f=>h y (ka9 _ f));simp only[kbo,qam,d,e];rfl
theorem qge(h:Lib.indexByte l c = -1):qam c l=[l]:=by
 refine qe2 c l (λx b=>?_);obtain⟨k,a,rfl⟩:=kbv b;have:=Lib.indexByte_none h k;rw[ka1];intro e;exact this (by rw[kab a,e])
theorem qfV{o:Nat}(h:Lib.indexByte l c=o):o<l.length/\qam c l=l.take o::qam c (l.drop (o+1)):=by
 obtain⟨a,b⟩:=Lib.indexByte_some h;have i:o<l.length:=ltL a;refine⟨i,?_⟩;have e:l=l.take o++c::l.drop (o+1):=by
  have d:l[o]=c:=(kbw.1 a).2;rw[<-d];simp
 conv=>lhs;rw[e]
 refine qd5 c _ _ (λx j=>?_);obtain⟨k,f,rfl⟩:=kbv j;have g:k<o:=by simp at f;omega
 rw[ka1];intro e;refine b k g ?_;rw[kab (by omega)];rw[kec]at e;rw[e]

end
section
open Go.RowKit
theorem Tryz.infoStr:(prog.info? 9).map (λi=>(i.zero,i.size,i.bytes))=some (some (.string ByteArray.empty),1,16):=by kernel_rfl
theorem qtM(s:ByteArray)(a b:Nat):(s.extract a b).data.toList=(s.data.toList.take b).drop a:=by
 rw[kem];simp[List.drop_take]
structure Cut(c:UInt8)(l:List UInt8)(ps:List ByteArray)(f i:Nat):Prop where
 fi:f<=i
 il:i<=l.length
 len:ps.length<=i
 eq:qam c l=ps.map (·.data.toList)++qam c (l.drop f)
 no:∀x,x∈(l.take i).drop f->(x==c)=false
theorem Cut.next(h:Cut c l ps f i)(hi:i<l.length)(d:(l[i]==c)=false):Cut c l ps f (i+1):=by
 refine⟨by have:=h.fi;omega,hi,by have:=h.len;omega,h.eq,λx b=>?_⟩;rw[kcj hi,kbW (by rw[kbc];have:=h.fi;omega),kcl]at b;rcases b with a|a
 ·exact h.no x a
 rw[kbI]at a;rw[a];exact d
theorem Cut.found(h:Cut c l ps f i)(hi:i<l.length)(d:l[i]=c)(p:ByteArray)(b:p.data.toList=(l.take i).drop f):Cut c l (ps++[p]) (i+1) (i+1):=by
 refine⟨kaf _,hi,by rw[kaa];have:=h.len;simp;omega,?_,λx a=>?_⟩
 ·rw[h.eq,kaW,kap];congr 1;have e:l.drop f=(l.take i).drop f++c::l.drop (i+1):=by
   conv=>lhs;rw[<-kbu i l]
   rw[kbW (by rw[kbc];have:=h.fi;omega),ka6 hi,d]
  rw[e,qd5 c _ _ h.no,<-b];rfl
 rw[kbA (by rw[kbc];omega)]at a;exact absurd a (by simp)
theorem Cut.last(h:Cut c l ps f l.length)(p:ByteArray)(a:p.data.toList=l.drop f):qam c l=(ps++[p]).map (·.data.toList):=by
 rw[h.eq,kaW];congr 1;have:=h.no;rw[kcd]at this;rw[qe2 c _ this,<-a];rfl
theorem qhw(s:ByteArray)(c:UInt8)(m:Int)(D:m=c.toNat)(w:World)(Y:s.size<=100000):Calls prog 46 #[.string s,.int .u8 m] w λe K =>
   ∃(v:Value) (a:List ByteArray),e=.returned v/\K.ownsRow w.heap.size 9 1 v a.length (a.map Value.string)/\Below w.heap.size w K/\a.map (·.data.toList)=qam c s.data.toList:=by
 obtain⟨J,E,G,H,I⟩:=kaF Tryz.infoStr;have V:s.data.toList.length=s.size:=ka8;have C:=qab D;clear D;go_enter func46,ntmps46;go_wp2
 go_loopg[5,6,7] s.size (λg v x y wr=>∃(a:List ByteArray) (f i:Nat) (r:Option Addr) (t:Nat),Hid (i+g=s.size)/\v=.slice r a.length t/\x=.int .i64 f/\y=.int .i64 i/\Hid (wr.ownsRow w.heap.size 9 1 v a.length (a.map Value.string))/\Hid (Below w.heap.size w wr)/\Hid (Cut c s.data.toList a f i))
 case atStart =>
  exact⟨[],0,0,none,0,by show _=_;omega,rfl,rfl,rfl,kaV _ _ _ _,kam _ _,⟨kaf _,kaY _,kaf _,by simp,λx b=>by simp at b⟩⟩
 case round =>
  obtain⟨a,f,i,r,t,d,rfl,rfl,rfl,k,o,j⟩:=hrel;have S:=j.out.fi;have X:=j.out.len;have F:=o.out.size;have U:i<=s.size:=by have:=d.out;omega
  cases gk with
  |zero =>
   have O:¬(i:Int)<s.size:=by have:=d.out;omega
   have T:f<=s.size:=by omega
   go_wp2_with(first
    |(at_builtin;refine kao _ rfl _ _ 104 rfl w.heap.size 9 J (.string ByteArray.empty) 1 16 underlying104 E G H I rfl (by decide) _ _ _ rfl (k.out.alloc _) ⟨wr.heap.size,0,none⟩ 1 1 [.string (s.extract f s.size)] rfl rfl (cell_one_new _ _ _) (λx b=>by simp at b;subst b;rfl) (by unfold maxLen;omega) (by omega) (by simp;omega) ?_;intro B R p z P))
   go_ret;have N:i=s.data.toList.length:=by have:=d.out;omega
   have L:=j.out;subst N;exact⟨B,rfl,a++[s.extract f s.size],by rw[kaa,kaW];exact p,(o.out.alloc F _).grown z (by simp;omega) (λq A=>(k.out.lt q A).1),(L.last _ (kdT s f)).symm⟩
  |succ g =>
   have O:(i:Int)<s.size:=by have:=d.out;omega
   have W:i<s.size:=by omega
   by_cases u:(s[i].toNat:Int)=m
   ·have M:((s[i].toNat:Int)==m)=true:=by rw[kcy];exact u
    go_wp2_with(first
     |(at_builtin;refine kao _ rfl _ _ 104 rfl w.heap.size 9 J (.string ByteArray.empty) 1 16 underlying104 E G H I rfl (by decide) _ _ _ rfl (k.out.alloc _) ⟨wr.heap.size,0,none⟩ 1 1 [.string (s.extract f i)] rfl rfl (cell_one_new _ _ _) (λx b=>by simp at b;subst b;rfl) (by unfold maxLen;omega) (by omega) (by simp;omega) ?_;intro B R p z P))
    go_roundg g
    case measure=>omega
    case rel =>
     obtain⟨n,l,Q⟩:∃n l,B=.slice (some ⟨n,0,none⟩) (a.length+1) l:=by
      rcases p.2 with⟨_,h⟩|⟨n,l,_,h,_⟩
      ·omega
      exact⟨n,l,h⟩
     have b:s.data.toList[i]=c:=by
      have e:s[i].toNat=c.toNat:=by have:=C.out;omega
      exact kcY.1 e
     exact⟨a++[s.extract f i],i+1,i+1,some ⟨n,0,none⟩,l,by show _=_;have:=d.out;omega,by rw[Q,kaa];rfl,by go_num,by go_num,by show World.ownsRow _ _ _ _ _ _ _;rw[kaa,kaW];exact p,(o.out.alloc F _).grown z (by simp;omega) (λq A=>(k.out.lt q A).1),j.out.found (by omega) b _ (qtM s f i)⟩
   have M:((s[i].toNat:Int)==m)=false:=by rw[ka1];exact u
   go_wp2;go_roundg g
   case measure=>omega
   case rel =>
    refine⟨a,f,i+1,r,t,by show _=_;have:=d.out;omega,rfl,rfl,by go_num,k.out,o.out,j.out.next (by omega) ?_⟩;rw[ka1];intro e;exact u (by rw[C.out,<-e];rfl)

theorem qex{base:Nat}{v:Value}(h:w.ownsRow base 9 1 v ps.length (ps.map Value.string))(o:0<ps.length):∃g a,v=.slice (some ⟨g,0,none⟩) ps.length a/\base<=g/\g<w.heap.size/\∀j (d:j<ps.length),w.cell? ⟨g,j,none⟩=some (.string ps[j]):=by
 obtain⟨_,⟨_,l⟩|⟨g,a,b,k,f,c,n,_,m,i⟩⟩:=h
 ·omega
 refine⟨g,a,k,f,(ltA c),λj d=>?_⟩;have e:b.toList[j]?=some (.string ps[j]):=by
  have:=congrArg (·[j]?) i;simp only[kcu,kbx]at this;rw[kag (by omega),kab d]at this;exact this
 rw[kbg w g j b _ _ c];simpa using e
theorem qfc(c:UInt8):∀l:List UInt8,(qam c l).length<=l.length+1
 |[]=>by simp[qam]
 |x::r=>by
  have d:=qfc c r;unfold qam;split
  ·simp only[kah];omega
  cases h:qam c r with
  |nil=>simp
  |cons a b=>rw[h]at d;simp only[kah]at *;omega
theorem qb6(c:UInt8):∀(l p:List UInt8),p∈qam c l->p.length<=l.length
 |[],p,h=>by simp[qam]at h;subst h;exact kaf _
 |x::r,p,h=>by
  have d:=λq=>qb6 c r q;unfold qam at h;split at h
  ·rcases kbR.1 h with rfl|h
   ·exact kaY _
   exact kc0 (d p h)
  cases e:qam c r with
  |nil=>exact absurd e (qgN _ _)
  |cons a b =>
   rw[e]at h d;rcases kbR.1 h with rfl|h
   ·exact Nat.succ_le_succ (d a (ka5 ..))
   exact kc0 (d p (ka9 _ h))
theorem qn3(h:ps.map (·.data.toList)=qam c l):0<ps.length:=by
 rcases ps with _|⟨a,b⟩
 ·exact absurd h.symm (qgN _ _)
 simp
def qhx(l:List UInt8):Bool:=qhk l||(l==[42]||(l==[42,42]||l==[91,93]))
def qfe(l:List UInt8):Bool:=l==[46]||((qam 47 l).all qhx&&decide ((qam 47 l).length<=8))
theorem qlM(s:ByteArray)(w:World)(W:s.size<=100000):Calls prog 63 #[.string s] w λe X =>
   ∃a n K,e=.returned (.tuple #[.slice a n K,.bool (qfe s.data.toList)])/\Below w.heap.size w X:=by
 cases N:(s.toList==[46])
 ·have t:Hid (qfe s.data.toList=((qam 47 s.data.toList).all qhx&&decide ((qam 47 s.data.toList).length<=8))):=by
   show _=_;unfold qfe;rw[<-kaX,N,kdP]
  go_enter func63,ntmps63;have S:True:=trivial
  go_wp2_with(first
   |(go_at_call 46;clear S;refine(qhw s 47 47 rfl _ W).mono ?_;rintro e m ⟨ad,b,rfl,I,G,l⟩;obtain⟨g,K,rfl,hg,v,M⟩:=qex I (qn3 l)))
  have ac:=qn3 l;have ab:b.length<=100001:=by
   have T:=congrArg List.length l;have Y:=qfc 47 s.data.toList;have U:s.data.toList.length=s.size:=ka8;rw[kaP]at T;omega
  have O:∀p,p∈b->p.size<=4611686018427387904:=λp E=>by
   have:=qb6 47 s.data.toList p.data.toList (by rw[<-l];exact kc6 E);have U:s.data.toList.length=s.size:=ka8;have Z:p.data.toList.length=p.size:=ka8;omega
  have R:=qab O;have P:=qab M;have J:Hid (qfe s.data.toList=(b.all (λp=>qhx p.data.toList)&&decide (b.length<=8))):=by
   show _=_;rw[t.out,<-l,kej,kaP];rfl
  have r:=qab G;clear G t l I M O
  go_loopg[5] b.length (λgk x wr=>∃k:Nat,Hid (k+gk=b.length)/\x=.int .i64 k/\m=wr/\Hid (∀i (h:i<b.length),i<k->qhx b[i].data.toList=true))
  case atStart=>exact⟨0,by show _=_;omega,rfl,rfl,λi _ A=>by omega⟩
  case round =>
   obtain⟨k,j,rfl,rfl,B⟩:=hrel
   cases gk with
   |zero =>
    have V:¬(k:Int)<b.length:=by have:=j.out;omega
    have F:Hid (qfe s.data.toList=decide ((b.length:Int)<=8)):=by
     show _=_;rw[J.out,(ka3.2 λp E=>by
      obtain⟨i,A,rfl⟩:=kbv E;exact B.out i A (by have:=j.out;omega):b.all (λp=>qhx p.data.toList)=true),kbB]
     congr 1;rw[eq_iff_iff];omega
    go_wp2
    go_ret2
    first|exact⟨_,_,_,by rw[F.out];rfl,r.out⟩|exact⟨⟨_,_,_,by rw[F.out];rfl⟩,r.out⟩
   |succ z =>
    have V:(k:Int)<b.length:=by have:=j.out;omega
    have D:k<b.length:=by omega
    have hc:=P.out k D;have q:=R.out b[k] (kbC D);have Q:Hid (qhx b[k].data.toList=false->qfe s.data.toList=false):=λh=>by
     rw[J.out,kbt];left;rw[kaS];exact⟨b[k],kbC D,by rw[h];decide⟩
    have u:Hid (qhx b[k].data.toList=true->∀i (h:i<b.length),i<k+1->qhx b[i].data.toList=true):=λh i A aa=>by
     by_cases e:i=k
     ·subst e;exact h
     exact B.out i A (by omega)
    clear B;generalize b[k]=p at *;have o:Hid (qhx p.data.toList=(qhk p.data.toList||(p.toList==[42]||(p.toList==[42,42]||p.toList==[91,93])))):=by
     show _=_;unfold qhx;rw[kaX]
    cases d:qhk p.data.toList
    ·cases y:(p.toList==[42])
     ·cases C:(p.toList==[42,42])
      ·cases L:(p.toList==[91,93])
       ·have H:=qab (Q.out (by rw[o.out,d,y,C,L];rfl))
        go_wp2_with(first
         |(go_at_call 88;refine(qck p _ q).mono ?_;rintro e m ⟨rfl,rfl⟩;rw[d]))
        go_ret2
        first|exact⟨_,_,_,by rw[H.out];rfl,r.out⟩|exact⟨⟨_,_,_,by rw[H.out];rfl⟩,r.out⟩
       have c:=u.out (by rw[o.out,d,y,C,L];rfl);have f:=qab c;clear c
       go_wp2_with(first
        |(go_at_call 88;refine(qck p _ q).mono ?_;rintro e m ⟨rfl,rfl⟩;rw[d]))
       go_roundg z
       case measure=>omega
       case rel=>exact⟨k+1,by show _=_;have:=j.out;omega,by go_num,rfl,f.out⟩
      have c:=u.out (by rw[o.out,d,y,C];rfl);have f:=qab c;clear c
      go_wp2_with(first
       |(go_at_call 88;refine(qck p _ q).mono ?_;rintro e m ⟨rfl,rfl⟩;rw[d]))
      go_roundg z
      case measure=>omega
      case rel=>exact⟨k+1,by show _=_;have:=j.out;omega,by go_num,rfl,f.out⟩
     have c:=u.out (by rw[o.out,d,y];rfl);have f:=qab c;clear c
     go_wp2_with(first
      |(go_at_call 88;refine(qck p _ q).mono ?_;rintro e m ⟨rfl,rfl⟩;rw[d]))
     go_roundg z
     case measure=>omega
     case rel=>exact⟨k+1,by show _=_;have:=j.out;omega,by go_num,rfl,f.out⟩
    have c:=u.out (by rw[o.out,d];rfl);have f:=qab c;clear c
    go_wp2_with(first
     |(go_at_call 88;refine(qck p _ q).mono ?_;rintro e m ⟨rfl,rfl⟩;rw[d]))
    go_roundg z
    case measure=>omega
    case rel=>exact⟨k+1,by show _=_;have:=j.out;omega,by go_num,rfl,f.out⟩
 have t:Hid (qfe s.data.toList=true):=by
  show _=_;unfold qfe;rw[<-kaX,N,Bool.true_or]
 go_enter func63,ntmps63;go_wp2
 go_ret2
 exact⟨none,0,0,by rw[t.out];rfl,kam _ _⟩

def qcI:Array Value:=#[.slice none 0 0,.int .i64 0,.int .i64 0]
def qg0(a:Option Addr)(n cap:Nat)(x y:Int):Array Value:=#[.slice a n cap,.int .i64 x,.int .i64 y]
theorem qda(a:Option Addr)(n b:Nat)(x y:Int):(qg0 a n b x y).all (·.oneCell')=true:=by simp[qg0,Value.oneCell']
theorem qgl:qcI.all (·.oneCell')=true:=qda none 0 0 0 0
theorem qcX:(prog.info? 107).map (·.size)=some 3:=by kernel_rfl
def qku(n:Nat):List (List UInt8)->Bool
 |[a,b,c]=>qfe a&&(qjh b n&&qeT ⟨c.toArray⟩ != 0)
 |_=>false
def qaC(n:Nat)(l:List UInt8):Bool:=qku n (qam 32 l)
theorem qk2{q:List (List UInt8)}(h:q.length≠3):qku n q=false:=by
 match q,h with
 |[],_=>rfl
 |[_],_=>rfl
 |[_,_],_=>rfl
 |_::_::_::_::_,_=>rfl
structure qtR(w:World)(arr:Array Value)(W:World):Prop where
 below:Below w.heap.size w W
 box:W.heap[w.heap.size]?=some (.cells arr 25)
 res:W.heap[w.heap.size+1]?=some (.cells qcI 107)
 lo:w.heap.size+1<W.heap.size
theorem qtR.step{arr:Array Value}{W W':World}(h:qtR w arr W)(a:Below W.heap.size W W'):qtR w arr W':=by
 have:=h.lo;exact⟨h.below.trans (a.mono h.below.size),(a.block _ (by omega)).trans h.box,(a.block _ (by omega)).trans h.res,kai this a.size⟩
theorem qsm(w b:World)(arr:Array Value)(a:Below (w.heap.size+1+1) ((w.alloc (.cells arr 25)).alloc (.cells qcI 107)) b):qtR w arr b:=by
 have c:=a.size;simp only[kad]at c;refine⟨((bwA).alloc (by simp) _).trans (a.mono (by omega)),?_,?_,by omega⟩
 ·rw[a.block _ (by omega),kae _ _ _ (by simp)];exact qac _ _
 rw[a.block _ (by omega)];have:=qac (w.alloc (.cells arr 25)) (.cells qcI 107);rwa[kad]at this
theorem q0F(h:ps.length=3):∃d e f,ps=[d,e,f]:=by
 match ps,h with
 |[a,b,c],_=>exact⟨a,b,c,rfl⟩
theorem qz0(p:ByteArray):(⟨p.data.toList.toArray⟩:ByteArray)=p:=by cases p;rfl
theorem qsV(g:ps.map (·.data.toList)=qam 32 l):(ps.length≠3/\qaC n l=false)\/∃c a b,ps=[c,a,b]/\((a.size≠1/\qaC n l=false)\/∃h:a.size=1,
   ((a[0].toNat:Int)<48/\qaC n l=false)\/((57:Int)<a[0].toNat/\qaC n l=false) \/
   ((48:Int)<=a[0].toNat/\(a[0].toNat:Int)<=57/\qaC n l=(qfe c.data.toList&&(qeT b != 0&&qbM n ((a[0].toNat:Int)-48))))):=by
 by_cases f:ps.length=3
 ·right;obtain⟨c,a,b,rfl⟩:=q0F f;refine⟨c,a,b,rfl,?_⟩;have e:qaC n l=(qfe c.data.toList&&(qjh a.data.toList n&&qeT b != 0)):=by
   unfold qaC;rw[<-g];simp only[kaH,kb8,qku,qz0]
  by_cases d:a.size=1
  ·right;refine⟨d,?_⟩;rw[qnk d]at e;by_cases i:(a[0].toNat:Int)<48
   ·left;refine⟨i,?_⟩;rw[e];simp only[qjh];rw[kaz (by omega)];simp
   right;by_cases j:(57:Int)<a[0].toNat
   ·left;refine⟨j,?_⟩;rw[e];simp only[qjh];rw[kaz (by omega)];simp
   right;refine⟨by omega,by omega,?_⟩;rw[e];simp only[qjh,qbM];rw[kax (show 48<=a[0].toNat/\a[0].toNat<=57 by omega),kbB,kdM (qeT b != 0)];congr 2;rw[kbn];omega
  left;refine⟨d,?_⟩;rw[e,(qq2 (n:=n) (by rw[ka8];exact d)).2];simp
 left;refine⟨f,?_⟩;unfold qaC;exact qk2 (by rw[<-g,kaP];exact f)
theorem qsc{g:Nat}{w2:World}(q:s.size<=100000)(l:ps.map (·.data.toList)=qam 32 s.data.toList)(e:∀j (p:j<ps.length),w2.cell? ⟨g,j,none⟩=some (.string ps[j])):(¬(ps.length:Int)=3/\Hid (qaC n s.data.toList=false)) \/
  (∃b a c,ps=[b,a,c]/\w2.cell? ⟨g,1,none⟩=some (.string a)/\¬(a.size:Int)=1/\Hid (qaC n s.data.toList=false)) \/
  (∃b a c,ps=[b,a,c]/\w2.cell? ⟨g,1,none⟩=some (.string a)/\∃h:a.size=1,(a.size:Int)=1/\(a[0].toNat:Int)<48/\Hid (qaC n s.data.toList=false)) \/
  (∃b a c,ps=[b,a,c]/\w2.cell? ⟨g,1,none⟩=some (.string a)/\∃h:a.size=1,(a.size:Int)=1/\(48:Int)<=a[0].toNat/\(57:Int)<a[0].toNat/\Hid (qaC n s.data.toList=false)) \/
  (∃b a c,ps=[b,a,c]/\w2.cell? ⟨g,0,none⟩=some (.string b)/\w2.cell? ⟨g,1,none⟩=some (.string a)/\w2.cell? ⟨g,2,none⟩=some (.string c)/\∃h:a.size=1,(a.size:Int)=1/\(48:Int)<=a[0].toNat/\(a[0].toNat:Int)<=57/\Hid (b.size<=100000) /\
   Hid (qaC n s.data.toList=(qfe b.data.toList&&(qeT c != 0&&qbM n ((a[0].toNat:Int)-48))))):=by
 rcases qsV (n:=n) l with⟨m,d⟩|⟨b,a,c,rfl,⟨f,d⟩|⟨f,⟨i,d⟩|⟨k,d⟩|⟨i,k,d⟩⟩⟩
 ·exact kew ⟨by omega,d⟩
 ·exact kd4 (kew ⟨b,a,c,rfl,e 1 (by simp),by omega,d⟩)
 ·exact kd4 (kd4 (kew ⟨b,a,c,rfl,e 1 (by simp),f,by omega,i,d⟩))
 ·exact kd4 (kd4 (kd4 (kew ⟨b,a,c,rfl,e 1 (by simp),f,by omega,by omega,k,d⟩)))
 refine kd4 (kd4 (kd4 (kd4 ⟨b,a,c,rfl,e 0 (by simp),e 1 (by simp),e 2 (by simp),f,by omega,i,k,?_,d⟩)));show _<=_;have:=qb6 32 s.data.toList b.data.toList (by rw[<-l];simp);have m:s.data.toList.length=s.size:=ka8;have o:b.data.toList.length=b.size:=ka8;omega
theorem qtv(arr:Array Value)(n:Nat)(Q:arr[0]?=some (.int .i64 n))(U:arr.size=11)(s:ByteArray)(w:World)(J:s.size<=100000):Calls prog 47 #[.agg arr,.string s] w λe V =>
   ∃a m D x y,e=.returned (.tuple #[.agg (qg0 a m D x y),.bool (qaC n s.data.toList)])/\Below w.heap.size w V:=by
 have O:=qab U;have L:=qab Q;have o:Hid ((prog.info? 107).map (·.size)=some qcI.size):=qcX;go_enter func47,ntmps47;have X:True:=trivial;have Y:True:=trivial
 go_wp2_with(first
  |(go_at_call 46;go_loud (refine(qhw s 32 32 rfl _ J).mono ?_;rintro e W ⟨ac,ps,rfl,M,C,t⟩;obtain⟨g,D,rfl,hg,I,H⟩:=qex M (qn3 t);have q:=qab (qsm w W arr (by simp only[kad]at C;exact C));rcases qsc (n:=n) J t H with⟨Z,d⟩|⟨l,c,b,rfl,r,A,d⟩|⟨l,c,b,rfl,r,F,A,G,d⟩|⟨l,c,b,rfl,r,F,A,G,R,d⟩|⟨l,c,b,rfl,v,r,T,F,A,G,R,N,d⟩;all_goals clear t H))
  |(refine kan rfl 107 _ _ rfl (w.heap.size+1) qcI rfl rfl 107 qcI q.out.res o.out rfl qgl ?_))
 all_goals first
  |(refine kaw (qap results47 _ _ (w.heap.size+1) 107 qcI (0,0) _ rfl (kaA _ _ qcI _ _ _ q.out.res) underlying107 rfl qcX (.bool false) rfl) rfl ⟨none,0,0,0,0,by rw[d.out];rfl,qai q.out.below (by omega) _⟩)
  |skip
 refine(qlM l _ N.out).mono ?_;rintro e w3 ⟨h,j,i,rfl,B⟩;have f:=qab (q.out.step B);have aa:=(B.cell (p:=⟨g,1,none⟩) I).trans r;have ab:=(B.cell (p:=⟨g,2,none⟩) I).trans T;cases z:qfe l.data.toList
 ·have k:Hid (qaC n s.data.toList=false):=by show _=_;rw[d.out,z];rfl
  go_wp2_with(first
   |(go_at_call 64;refine(qfs b _).mono ?_;rintro e K ⟨rfl,rfl⟩)
   |(refine kan rfl 107 _ _ rfl (w.heap.size+1) (qg0 h j i ((c[0].toNat:Int)-48) (qeT b)) rfl rfl 107 qcI f.out.res o.out rfl (qda _ _ _ _ _) ?_))
  refine kaw (qap results47 _ _ (w.heap.size+1) 107 (qg0 h j i ((c[0].toNat:Int)-48) (qeT b)) (0,0) _ rfl (kaA _ _ qcI _ _ _ f.out.res) underlying107 rfl qcX (.bool false) rfl) rfl ⟨_,_,_,_,_,by rw[k.out],qai f.out.below (by omega) _⟩
 by_cases E:qeT b=0
 ·have k:Hid (qaC n s.data.toList=false):=by show _=_;rw[d.out,z,E];rfl
  go_wp2_with(first
   |(go_at_call 64;refine(qfs b _).mono ?_;rintro e K ⟨rfl,rfl⟩)
   |(refine kan rfl 107 _ _ rfl (w.heap.size+1) (qg0 h j i ((c[0].toNat:Int)-48) 0) rfl rfl 107 qcI f.out.res o.out rfl (qda _ _ _ _ _) ?_))
  refine kaw (qap results47 _ _ (w.heap.size+1) 107 (qg0 h j i ((c[0].toNat:Int)-48) 0) (0,0) _ rfl (kaA _ _ qcI _ _ _ f.out.res) underlying107 rfl qcX (.bool false) rfl) rfl ⟨_,_,_,_,_,by rw[k.out],qai f.out.below (by omega) _⟩
 have P:(qeT b != 0)=true:=by simp[E]
 have k:Hid (qaC n s.data.toList=qbM n ((c[0].toNat:Int)-48)):=by show _=_;rw[d.out,z,P];rfl
 go_wp2_with(first
  |(go_at_call 64;refine(qfs b _).mono ?_;rintro e K ⟨rfl,rfl⟩)
  |(go_at_call 25;refine(qcP arr n L.out _ _).mono ?_;rintro e w5 ⟨rfl,S⟩;have u:=qab (f.out.step S))
  |(refine qaf 25 _ rfl ?hw _ rfl _ _ _ _ f.out.box underlying25 rfl (qaD O.out) ?_;case hw=>simp[go_sem];done)
  |(refine kan rfl 107 _ _ rfl (w.heap.size+1) (qg0 h j i ((c[0].toNat:Int)-48) (qeT b)) rfl rfl 107 qcI u.out.res o.out rfl (qda _ _ _ _ _) ?_))
 refine kaw (qap results47 _ _ (w.heap.size+1) 107 (qg0 h j i ((c[0].toNat:Int)-48) (qeT b)) (0,0) _ rfl (kaA _ _ qcI _ _ _ u.out.res) underlying107 rfl qcX (.bool (qbM n ((c[0].toNat:Int)-48))) rfl) rfl ⟨_,_,_,_,_,by rw[k.out],qai u.out.below (by omega) _⟩

end
section
open Go.RowKit Go.Shelf
theorem qpx(s:ByteArray)(w:World)(d:s.size<=1000000):Calls prog 118 #[.string s] w λe c=>e=.returned (.string s)/\Below w.heap.size w c:=by
 have a:=Tryz.stringslite_Clone s w (by omega);go_enter func118,ntmps118
 go_wp2_with(first
  |(go_at_call 134;refine a.mono ?_;clear a;rintro e f ⟨rfl,b⟩))
 go_ret;exact⟨rfl,b⟩

end
section
open Go.RowKit
theorem qua(bs:List UInt8):(⟨bs.toArray⟩:ByteArray).size=bs.length:=by
 show bs.toArray.size=_;simp

end
end Go.Proofs.YtmajcjammmjimaaGreatDoor
