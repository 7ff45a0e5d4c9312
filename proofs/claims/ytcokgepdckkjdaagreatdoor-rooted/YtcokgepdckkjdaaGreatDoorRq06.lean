import Derived.Lib.ValidLaws
import Derived.Defers
import Derived.Recover
import Derived.RangeFuncBox
import Derived.DeepKeys5
import Derived.Maps.Keyed
import Derived.Test.YtcokgepdckkjdaaGreatDoorRq02
import Derived.Test.YtcokgepdckkjdaaGreatDoorRq01
set_option maxRecDepth 100000
set_option maxHeartbeats 8000000
namespace Go.Proofs.YtcokgepdckkjdaaGreatDoor
open Go.Proofs.Tryz
variable {l:List UInt8}{hi lo:Int}{fuel n st x:Nat}{P:Program}{ops:Array Oper}{Q:Exit->Act->World->Prop}{md:Region.Mode}{S:World->Prop}{a:Act}{w:World}{X Y:Nat->Nat}
section
open Go.RowKit
def qd4 (c:Int):Int×Int×Int :=
 if c<128 then (0,0,1) else if 194<=c/\c<=223 then (128,191,2) else if c=224 then (160,191,3) else if c=237 then (128,159,3)
 else if 225<=c/\c<=239 then (128,191,3) else if c=240 then (144,191,4) else if 241<=c/\c<=243 then (128,191,4) else if c=244 then (128,143,4) else (0,0,0)
theorem qgb (c:Int)(w:World):Calls prog 126 #[.int .u8 c] w fun e a=>e=.returned (.tuple #[.int .u8 (qd4 c).1,.int .u8 (qd4 c).2.1,.int .i64 (qd4 c).2.2])/\a=w:=by
 go_enter func126,ntmps126;go_wp2
 all_goals go_ret3
 all_goals refine⟨?_,rfl⟩
 all_goals simp only[beq_iff_eq,beq_eq_false_iff_ne] at *
 all_goals unfold qd4
 all_goals (repeat (first|rw[if_pos (by omega)]|rw[if_neg (by omega)]))
 all_goals rfl
def qeu (s:ByteArray):Int:=if s.toList==[100,114,111,112] then 1 else if s.toList==[109,97,115,107] then 2 else if s.toList==[116,97,103] then 3 else 0
theorem qe7 (s:ByteArray)(w:World):Calls prog 42 #[.string s] w fun e a=>e=.returned (.int .i64 (qeu s))/\a=w:=by
 go_enter func42,ntmps42;go_wp2
 all_goals go_ret
 all_goals refine⟨?_,rfl⟩
 all_goals unfold qeu
 all_goals (repeat (first|rw[if_pos (by assumption)]|rw[if_neg (by rw[Bool.not_eq_true];assumption)]))
 all_goals rfl
theorem qcw (s:ByteArray)(w:World):Calls prog 112 #[.string s] w fun e a=>e=.returned (.tuple #[.int .i64 (qeu s),.bool (qeu s != 0)])/\a=w:=by
 go_enter func112,ntmps112;go_wp2
 all_goals go_ret2
 all_goals refine⟨?_,rfl⟩
 all_goals unfold qeu
 all_goals (repeat (first|rw[if_pos (by assumption)]|rw[if_neg (by rw[Bool.not_eq_true];assumption)]))
 all_goals rfl
def qoC (l:List UInt8):Int:=match l with
 |[b]=>if 48<=b.toNat/\b.toNat<=57 then (b.toNat:Int)-48 else 0
 |_=>0
def qh5 (l:List UInt8)(n:Int):Bool:=match l with
 |[b]=>decide (48<=b.toNat/\b.toNat<=57)&&decide ((b.toNat:Int)-48<n)
 |_=>false
theorem qmh {s:ByteArray}(h:s.size=1):s.data.toList=[s[0]]:=by
 obtain⟨⟨l⟩⟩:=s
 match l,h with
 |[b],_=>rfl
theorem qpN (n:Int)(h:l.length≠1):qoC l=0/\qh5 l n=false:=by
 match l,h with
 |[],_=>exact⟨rfl,rfl⟩
 |_::_::_,_=>exact⟨rfl,rfl⟩
theorem qcK (s:ByteArray)(n:Int)(w:World):Calls prog 111 #[.string s,.int .i64 n] w fun e d=>e=.returned (.tuple #[.int .i64 (qoC s.data.toList),.bool (qh5 s.data.toList n)])/\d=w:=by
 by_cases c:s.size=1
 ·have f:(s.size:Int)=1:=by omega
  have b:=qaa (qmh c);by_cases g:(s[0].toNat:Int)<48
  ·have a:Hid (qoC [s[0]]=0/\qh5 [s[0]] n=false):=⟨if_neg (by omega),by simp only[qh5];rw[decide_eq_false (by omega)];rfl⟩
   go_enter func111,ntmps111;go_wp2
   all_goals go_ret2
   all_goals exact⟨by rw[b.out,a.out.1,a.out.2];rfl,rfl⟩
  have h:(48:Int)<=s[0].toNat:=by omega
  by_cases i:(57:Int)<s[0].toNat
  ·have a:Hid (qoC [s[0]]=0/\qh5 [s[0]] n=false):=⟨if_neg (by omega),by simp only[qh5];rw[decide_eq_false (by omega)];rfl⟩
   go_enter func111,ntmps111;go_wp2
   all_goals go_ret2
   all_goals exact⟨by rw[b.out,a.out.1,a.out.2];rfl,rfl⟩
  have j:(s[0].toNat:Int)<=57:=by omega
  have a:Hid (qoC [s[0]]=(s[0].toNat:Int)-48/\qh5 [s[0]] n=decide ((s[0].toNat:Int)-48<n)):=⟨if_pos (by omega),by simp only[qh5];rw[decide_eq_true (by omega)];rfl⟩
  go_enter func111,ntmps111;go_wp2
  all_goals go_ret2
  all_goals exact⟨by rw[b.out,a.out.1,a.out.2];rfl,rfl⟩
 have:(s.size:Int)≠1:=by omega
 have a:=qaa (qpN n (by rw[Array.length_toList];exact c));go_enter func111,ntmps111;go_wp2
 all_goals go_ret2
 all_goals exact⟨by rw[a.out.1,a.out.2];rfl,rfl⟩

def qhZ (lo hi:Int)(l:List UInt8)(j:Nat):Bool :=
 decide (j<l.length)&&(if j=1 then decide (lo<=((l.getD j 0).toNat:Int)/\((l.getD j 0).toNat:Int)<=hi) else decide (128<=(l.getD j 0).toNat/\(l.getD j 0).toNat<=191))
def qyW (lo hi:Int)(l:List UInt8):Nat->Nat->Nat×Bool
 |0,j=>(j,true)
 |g+1,j=>if qhZ lo hi l j then qyW lo hi l g (j+1) else (j,false)
def qzp (l:List UInt8):Nat×Bool :=
 if (qd4 (l.getD 0 0).toNat).2.2=0 then (0,false) else qyW (qd4 (l.getD 0 0).toNat).1 (qd4 (l.getD 0 0).toNat).2.1 l ((qd4 (l.getD 0 0).toNat).2.2.toNat-1) 1
theorem qvJ (c:Int):(qd4 c).2.2=0\/(qd4 c).2.2=1\/(qd4 c).2.2=2\/(qd4 c).2.2=3\/(qd4 c).2.2=4:=by
 unfold qd4
 repeat (first|(split;simp)|simp)
def qbe (s:ByteArray)(i n:Nat):List UInt8:=(s.data.toList.take n).drop i
theorem qhf (s:ByteArray)(i n:Nat)(h:n<=s.size):(qbe s i n).length=n-i:=by
 unfold qbe;rw[List.length_drop,List.length_take];have:s.data.toList.length=s.size:=Array.length_toList;omega
theorem qh1 (s:ByteArray)(i n j:Nat)(h:n<=s.size)(a:i+j<n):(qbe s i n).getD j 0=s[i+j]'(by omega):=by
 unfold qbe;rw[List.getD_eq_getElem?_getD,List.getElem?_drop,List.getElem?_take,if_pos a];have:i+j<s.data.toList.length:=by
  have:s.data.toList.length=s.size:=Array.length_toList;omega
 rw[List.getElem?_eq_getElem this];rfl
theorem qgX (s:ByteArray)(i n:Nat)(w:World)(m:n<=s.size)(hi:i<n)(M:s.size<=4611686018427387904):Calls prog 98 #[.string s,.int .i64 i,.int .i64 n] w fun e D=>e=.returned (.tuple #[.int .i64 (qzp (qbe s i n)).1,.bool (qzp (qbe s i n)).2])/\D=w:=by
 have I:(i:Int)<s.size:=by omega
 have J:i<s.size:=by omega
 have r:Hid (((qbe s i n).getD 0 0)=s[i]):=qh1 s i n 0 m (by omega);obtain⟨c,b,k,d⟩:∃c b k,Hid (qd4 (s[i].toNat:Int)=(c,b,k)):=⟨_,_,_,show qd4 _=(_,_,_) from rfl⟩
 have q:=qvJ (s[i].toNat:Int);rw[d.out] at q;simp only[] at q;have u:Hid (qzp (qbe s i n)=if k=0 then (0,false) else qyW c b (qbe s i n) (k.toNat-1) 1):=by
  show _=_;unfold qzp;rw[r.out,d.out]
 clear r;by_cases v:k=0
 ·subst v;have p:Hid (qzp (qbe s i n)=(0,false)):=by show _=_;rw[u.out,if_pos rfl]
  go_enter func98,ntmps98
  go_wp2_with (first
   |(go_at_call 126;refine(qgb _ _).mono ?_;rintro e z ⟨rfl,rfl⟩;rw[d.out]))
  go_ret2
  exact⟨by rw[p.out];rfl,rfl⟩
 obtain⟨a,rfl⟩:∃a:Nat,k=a:=⟨k.toNat,by omega⟩
 have L:1<=a/\a<=4:=by simp at q;omega
 have K:((a:Int)==0)=false:=by rw[beq_eq_false_iff_ne];omega
 have p:Hid (qzp (qbe s i n)=qyW c b (qbe s i n) (a-1) 1):=by show _=_;rw[u.out,if_neg v];rfl
 go_enter func98,ntmps98
 go_wp2_with (first
  |(go_at_call 126;refine(qgb _ _).mono ?_;rintro e z ⟨rfl,rfl⟩;rw[d.out]))
 go_loopg [11] (a-1) (fun g x wr=>∃j:Nat,Hid (j+g=a)/\x=.int .i64 j/\z=wr/\Hid (1<=j)/\Hid (qzp (qbe s i n)=qyW c b (qbe s i n) g j))
 case atStart=>exact⟨1,by show _=_;omega,rfl,rfl,Nat.le_refl 1,p.out⟩
 case round =>
  obtain⟨j,l,rfl,rfl,y,f⟩:=hrel
  cases gk with
  |zero =>
   have C:¬(j:Int)<a:=by have:=l.out;omega
   go_wp2
   go_ret2
   exact⟨(by rw[f.out];have:j=a:=(by have:=l.out;omega);subst this;rfl),rfl⟩
  |succ g =>
   have C:(j:Int)<a:=by have:=l.out;omega
   by_cases E:(n:Int)<=(i:Int)+j
   ·have o:Hid (qzp (qbe s i n)=(j,false)):=by
     show _=_;rw[f.out,qyW,qhZ,qhf _ _ _ m,decide_eq_false (by omega)];rfl
    go_wp2
    go_ret2
    exact⟨by rw[o.out];rfl,rfl⟩
   have F:(i:Int)+j<n:=by omega
   have H:(i:Int)+j<s.size:=by omega
   have G:i+j<s.size:=by omega
   have t:Hid (qhZ c b (qbe s i n) j=if j=1 then decide (c<=(s[i+j].toNat:Int)/\(s[i+j].toNat:Int)<=b) else decide (128<=s[i+j].toNat/\s[i+j].toNat<=191)):=by
    show _=_;unfold qhZ;rw[qh1 s i n j m (by omega),qhf _ _ _ m,decide_eq_true (by omega),Bool.true_and]
   have A:Hid (qhZ c b (qbe s i n) j=true->qzp (qbe s i n)=qyW c b (qbe s i n) g (j+1)):=fun h=>by rw[f.out,qyW,if_pos h]
   have o:Hid (qhZ c b (qbe s i n) j=false->qzp (qbe s i n)=(j,false)):=fun h=>by rw[f.out,qyW,if_neg (by rw[h];decide)]
   go_wp2
   all_goals first
    |(go_ret2;have hF:=o.out (by rw[t.out];have:=y.out;split<;>(apply decide_eq_false;omega));exact⟨by rw[hF];simp[*],rfl⟩)
    |go_roundg g
     case measure=>omega
     case rel =>
      have B:=A.out (by rw[t.out];have:=y.out;split<;>(apply decide_eq_true;omega));refine⟨j+1,by show _=_;have:=l.out;omega,?_,rfl,by show _<=_;omega,B⟩
      first|go_num|(simp[*];done)
theorem qrQ {α β:Type}(p:α×β):p=(p.1,p.2):=rfl
def szL (l:List UInt8):Nat:=if (qzp l).2 then (qzp l).1 else 0
theorem qri (s:ByteArray)(i:Nat)(w:World)(hi:i<s.size)(f:s.size<=4611686018427387904):Calls prog 96 #[.string s,.int .i64 i] w fun e h=>e=.returned (.int .i64 (szL (s.data.toList.drop i)))/\h=w:=by
 have d:Hid (qbe s i s.size=s.data.toList.drop i):=by
  show _=_;unfold qbe;have g:s.data.toList.length=s.size:=Array.length_toList;rw[<-g,List.take_length]
 obtain⟨k,b,a⟩:∃k b,Hid (qzp (s.data.toList.drop i)=(k,b)):=⟨_,_,qrQ _⟩
 cases b
 ·have c:Hid (szL (s.data.toList.drop i)=0):=by show _=_;unfold szL;rw[a.out];rfl
  go_enter func96,ntmps96
  go_wp2_with (first
   |(go_at_call 98;refine(qgX s i s.size _ (Nat.le_refl _) hi f).mono ?_;rintro e j ⟨rfl,rfl⟩;rw[d.out,a.out]))
  go_ret;exact⟨by rw[c.out];rfl,rfl⟩
 have c:Hid (szL (s.data.toList.drop i)=k):=by show _=_;unfold szL;rw[a.out];rfl
 go_enter func96,ntmps96
 go_wp2_with (first
  |(go_at_call 98;refine(qgX s i s.size _ (Nat.le_refl _) hi f).mono ?_;rintro e j ⟨rfl,rfl⟩;rw[d.out,a.out]))
 go_ret;exact⟨by rw[c.out];rfl,rfl⟩

theorem qta {j:Nat}(h:qhZ lo hi l j=true):j<l.length:=by
 unfold qhZ at h;rw[Bool.and_eq_true] at h;exact of_decide_eq_true h.1
theorem qp1:∀{g j:Nat},(qyW lo hi l g j).2=true->j<=l.length->(qyW lo hi l g j).1<=l.length
 |0,_,_,hj=>hj
 |g+1,j,h,_=>by
  unfold qyW at h ⊢;by_cases a:qhZ lo hi l j=true
  ·rw[if_pos a] at h ⊢;exact qp1 h (qta a)
  rw[if_neg a] at h;exact absurd h (by simp)
theorem qwz (l:List UInt8)(b:0<l.length):szL l<=l.length:=by
 unfold szL;by_cases h:(qzp l).2=true
 ·rw[if_pos h];unfold qzp at h ⊢;by_cases a:(qd4 (l.getD 0 0).toNat).2.2=0
  ·rw[if_pos a];exact Nat.zero_le _
  rw[if_neg a] at h ⊢;exact qp1 h b
 rw[if_neg h];exact Nat.zero_le _
def qqm (b:UInt8):Bool:=decide (b.toNat<=32)||(b.toNat==42||(b.toNat==91||(b.toNat==93||(b.toNat==47||b.toNat==46))))
def qlV:Nat->List UInt8->Option Nat
 |_,[]=>some 0
 |0,_::_=>none
 |g+1,b::t=>if szL (b::t)=0\/qqm b=true then none else (qlV g ((b::t).drop (szL (b::t)))).map (·+1)
def qwG:Option Nat->Bool
 |some n=>decide (1<=n/\n<=16)
 |none=>false
def qgw (l:List UInt8):Bool:=qwG (qlV l.length l)
theorem qca (s:ByteArray)(w:World)(F:s.size<=4611686018427387904):Calls prog 70 #[.string s] w fun e G=>e=.returned (.bool (qgw s.data.toList))/\G=w:=by
 have t:s.data.toList.length=s.size:=Array.length_toList;obtain⟨A,o⟩:∃A,Hid (qlV s.data.toList.length s.data.toList=A):=⟨_,show _=_ from rfl⟩
 have p:Hid (qgw s.data.toList=qwG A):=by show _=_;unfold qgw;rw[o.out]
 go_enter func70,ntmps70;go_wp2
 go_loopg [3,4] s.size (fun g x y wr=>∃n i:Nat,x=.int .i64 n/\y=.int .i64 i/\w=wr/\Hid (n<=i)/\Hid (i<=s.size)/\Hid (s.size<=i+g)/\Hid (A=(qlV g (s.data.toList.drop i)).map (·+n)))
 case atStart =>
  refine⟨0,0,rfl,rfl,rfl,Nat.le_refl _,Nat.zero_le _,by show _<=_;omega,?_⟩;show _=_;rw[<-o.out,t,List.drop_zero];cases qlV s.size s.data.toList<;>rfl
 case round =>
  obtain⟨n,i,rfl,rfl,rfl,u,m,r,b⟩:=hrel;by_cases B:i=s.size
  ·have D:¬(i:Int)<s.size:=by omega
   have f:Hid (qgw s.data.toList=decide (1<=n/\n<=16)):=by
    show _=_;have l:A=some n:=by
     rw[b.out,B,<-t,List.drop_length];cases gk<;>simp[qlV]
    rw[p.out,l];rfl
   by_cases H:(1:Int)<=n
   ·by_cases I:(n:Int)<=16
    ·have a:Hid (qgw s.data.toList=true):=by show _=_;rw[f.out,decide_eq_true (by omega)]
     go_wp2;go_ret;exact⟨by rw[a.out];rfl,rfl⟩
    have a:Hid (qgw s.data.toList=false):=by show _=_;rw[f.out,decide_eq_false (by omega)]
    go_wp2;go_ret;exact⟨by rw[a.out];rfl,rfl⟩
   have a:Hid (qgw s.data.toList=false):=by show _=_;rw[f.out,decide_eq_false (by omega)]
   go_wp2;go_ret;exact⟨by rw[a.out];rfl,rfl⟩
  have D:(i:Int)<s.size:=by have:=m.out;omega
  have E:i<s.size:=by omega
  obtain⟨g,rfl⟩:∃g,gk=g+1:=⟨gk-1,by have:=r.out;omega⟩
  obtain⟨k,j⟩:∃k,Hid (szL (s.data.toList.drop i)=k):=⟨_,show _=_ from rfl⟩
  have d:Hid (s.data.toList.drop i=s[i]::s.data.toList.drop (i+1)):=by show _=_;rw[List.drop_eq_getElem_cons (by omega)];rfl
  have c:Hid (qlV (g+1) (s.data.toList.drop i)=if k=0\/qqm s[i]=true then none else (qlV g (s.data.toList.drop (i+k))).map (·+1)):=by
   show _=_;have:=j.out;rw[d.out] at this ⊢;rw[qlV,this,<-d.out,List.drop_drop]
  have J:k<=s.size-i:=by
   have:=qwz (s.data.toList.drop i) (by rw[List.length_drop];omega);rw[j.out,List.length_drop] at this;omega
  have v:Hid (k=0\/qqm s[i]=true->qgw s.data.toList=false):=fun h=>by
   have l:A=none:=by rw[b.out,c.out,if_pos h];rfl
   rw[p.out,l];rfl
  have z:Hid (¬(k=0\/qqm s[i]=true)->A=(qlV g (s.data.toList.drop (i+k))).map (·+(n+1))):=fun h=>by
   rw[b.out,c.out,if_neg h,Option.map_map];congr 1;funext x;simp only[Function.comp];omega
  have q:Hid (qqm s[i]=true↔((s[i].toNat:Int)<=32\/(s[i].toNat:Int)=42\/(s[i].toNat:Int)=91\/(s[i].toNat:Int)=93\/(s[i].toNat:Int)=47\/(s[i].toNat:Int)=46)):=by
   show _↔_;unfold qqm;simp only[Bool.or_eq_true,decide_eq_true_eq,beq_iff_eq];omega
  clear d c b;have K:n<=4611686018427387904:=by have:=u.out;have:=m.out;omega
  go_wp2_with (first
   |(go_at_call 96;refine(qri s i _ E F).mono ?_;rintro e L ⟨rfl,rfl⟩;rw[j.out]))
  all_goals first
   |(go_ret;have hF:=v.out (by rw[q.out];first|omega|(simp only[beq_iff_eq] at *;omega));exact⟨by rw[hF];rfl,rfl⟩)
   |go_roundg g
    case measure=>omega
    case rel =>
     have C:=z.out (by rw[q.out];first|omega|(simp only[beq_eq_false_iff_ne] at *;omega));refine⟨n+1,i+k,by go_num,by go_num,rfl,?_,?_,?_,C⟩
     all_goals (show _<=_;have:=u.out;have:=m.out;have:=r.out;omega)
   |skip

theorem qms (p q:Addr)(w:World):CallsD prog 89 #[.pointer (some p),.pointer (some q)] .returning w fun e c d=>e=.returned (.tuple #[])/\c=.returning/\d=w:=by
 refine callsD_of_wpS func89 rfl fun a cs b => ?_;simp only[ntmps89,List.size_toArray,List.length_cons,List.length_nil,Nat.reduceAdd,Nat.reduceSub,Array.replicate_succ,Array.replicate_zero,List.push_toArray,List.append_toArray,List.nil_append,List.cons_append];apply wpS_seq;apply wpS_region;simp[wpOpsS,go_sem,recoverD,b,Exit.thenS];refine wpS_of_wp ?_;go_wp2;cases a
 simp_all[bodyPostS,results,results89]
theorem qmS (p q:Nat)(a b x y:Int)(w:World)(c:w.cell? ⟨p,0,none⟩=some (.int .i64 x))(d:w.cell? ⟨q,0,none⟩=some (.int .i64 y))(o:w.frozen? ⟨p,0,none⟩=false)(r:w.frozen? ⟨q,0,none⟩=false)(j:p≠q):CallsD prog 89 #[.pointer (some ⟨p,0,none⟩),.pointer (some ⟨q,0,none⟩)] (.panicking [{v:=qeh a b,recovered:=false}]) w fun e D g=>e=.returned (.tuple #[])/\D=.panicking [{v:=qeh a b,recovered:=true}] /\
   (g.cell? ⟨p,0,none⟩=some (.int .i64 a)/\g.cell? ⟨q,0,none⟩=some (.int .i64 b)/\∀B,B<=p->B<=q->B<=w.heap.size->Below B w g):=by
 refine callsD_of_wpS func89 rfl fun G cs u => ?_;simp only[ntmps89,List.size_toArray,List.length_cons,List.length_nil,Nat.reduceAdd,Nat.reduceSub,Array.replicate_succ,Array.replicate_zero,List.push_toArray,List.append_toArray,List.nil_append,List.cons_append];apply wpS_seq;apply wpS_region;simp[wpOpsS,go_sem,recoverD,u,Exit.thenS,qeh];refine wpS_of_wp ?_;have N:∀w:World,(Instr.typeAssert (.iface 178 (.agg #[.int .i64 a,.int .i64 b])) 20 178 true).run prog w=.ok (.tuple #[.agg #[.int .i64 a,.int .i64 b],.bool true]) w:=fun w=>by kernel_rfl
 go_wp2;have i:w.heap.size≠p/\w.heap.size≠q:=⟨by have h:p<w.heap.size:=block_lt_of_cell c;omega,by have h:q<w.heap.size:=block_lt_of_cell d;omega⟩
 have m:(w.alloc (.cells #[.int .i64 a,.int .i64 b] 178)).cell? ⟨p,0,none⟩=some (.int .i64 x):=(World.cell?_alloc_some w _ _ (by rw[c];rfl)).trans c;have n:(w.alloc (.cells #[.int .i64 a,.int .i64 b] 178)).cell? ⟨q,0,none⟩=some (.int .i64 y):=(World.cell?_alloc_some w _ _ (by rw[d];rfl)).trans d;have f:Below w.heap.size w (w.alloc (.cells #[.int .i64 a,.int .i64 b] 178)):=bwA;have H:=(f.frozen (p:=⟨p,0,none⟩) (block_lt_of_cell c)).trans o;have I:=(f.frozen (p:=⟨q,0,none⟩) (block_lt_of_cell d)).trans r;have E:(w.alloc (.cells #[.int .i64 a,.int .i64 b] 178)).cell? ⟨w.heap.size,0,none⟩=some (.int .i64 a):=qab (qac _ _) 0;have F:(w.alloc (.cells #[.int .i64 a,.int .i64 b] 178)).cell? ⟨w.heap.size,1,none⟩=some (.int .i64 b):=qab (qac _ _) 1;have l:=qaa f;have L:=i.1;have M:=i.2;have t:q≠p:=fun e=>j e.symm;generalize w.alloc (.cells #[.int .i64 a,.int .i64 b] 178)=V at *
 go_region
 have z:((V.setCell ⟨p,0,none⟩ (.int .i64 a)).setCell ⟨q,0,none⟩ (.int .i64 b)).drew.cell? ⟨p,0,none⟩=some (.int .i64 a):=by
  show((V.setCell ⟨p,0,none⟩ (.int .i64 a)).setCell ⟨q,0,none⟩ (.int .i64 b)).cell? ⟨p,0,none⟩=_;rw[World.cell?_of_block (w:=V.setCell ⟨p,0,none⟩ (.int .i64 a)) (heap_setCell_other _ _ _ _ (by simpa using j))];exact World.cell?_setCell_same' _ _ _ (by rw[m];rfl)
 have A:((V.setCell ⟨p,0,none⟩ (.int .i64 a)).setCell ⟨q,0,none⟩ (.int .i64 b)).drew.cell? ⟨q,0,none⟩=some (.int .i64 b):=by
  show((V.setCell ⟨p,0,none⟩ (.int .i64 a)).setCell ⟨q,0,none⟩ (.int .i64 b)).cell? ⟨q,0,none⟩=_;refine World.cell?_setCell_same' _ _ _ ?_;rw[World.cell?_of_block (w:=V) (heap_setCell_other _ _ _ _ (by simpa using t)),n];rfl
 have C:∀B,B<=p->B<=q->B<=w.heap.size->Below B w ((V.setCell ⟨p,0,none⟩ (.int .i64 a)).setCell ⟨q,0,none⟩ (.int .i64 b)).drew:=fun B h J s =>
  (l.out.mono s).trans ⟨rfl,rfl,rfl,by simp[World.setCell,World.drew],fun k K=>(heap_setCell_other _ _ _ _ (by simp;omega)).trans (heap_setCell_other V _ _ _ (by simp;omega))⟩
 generalize ((V.setCell ⟨p,0,none⟩ (.int .i64 a)).setCell ⟨q,0,none⟩ (.int .i64 b)).drew=X at *;exact⟨rfl,_,rfl,_,results_none rfl _ _ _,rfl,rfl,z,A,C⟩

theorem rdS {listed:Array Bool}{o:Oper}(i:Nat)(hi:ops[i]? = some o)(c:Region.ready md ops listed=[i])(h:∀b:Act->World->Prop,Shut (∀a w,S w->(S w->wpAnyH P md ops Q S fuel (listed.setIfInBounds i true) a w)->b a w)->if Region.wanted o (yielded ops a.tmps)=true then Oper.wp P o a w b Q else b (a.put o.dst undef) w):wpAnyH P md ops Q S (fuel+1) listed a w :=
 wpAnyH_ready c (by simp) (AllReadyH.cons hi h AllReadyH.nil)
theorem tkH {oi:Oper}{listed:Array Bool}(i d:Nat)(v:Value)(hi:ops[i]? = some oi)(b:(Region.noSelect ops&&Region.free md ops listed i&&(Region.ready md ops listed).contains i&&oi.dst==some d&&Region.wanted oi (yielded ops a.tmps))=true)(e:∀c a w,Q (.panic c) (a.put (some d) v) w->Q (.panic c) a w)(j:∀Z,S Z->(execOp a.eval oi).run P Z=.ok (.value v) Z)(f:S w)(h:wpAnyH P md ops Q S fuel (listed.setIfInBounds i true) (a.put (some d) v) w):wpAnyH P md ops Q S (fuel+1) listed a w:=by
 simp only[Bool.and_eq_true] at b;have g:oi.dst=some d:=by simpa using b.1.2
 rw[<-g] at e h;exact wpAnyH_take hi b.1.1.1.1 b.1.1.1.2 b.1.1.2 e (.inl ⟨b.2,j⟩) f h
def w1 (st x:Nat):Nat:=x ||| ((x &&& st) <<< 1)
def wdB (st x:Nat):Nat->Bool
 |0=>x.testBit 0
 |k+1=>x.testBit (k+1)||(st.testBit k&&wdB st x k)
theorem qoQ (st x k:Nat):(w1 st x).testBit k=(x.testBit k||(decide (1<=k)&&(x.testBit (k-1)&&st.testBit (k-1)))):=by
 unfold w1;rw[Nat.testBit_or,Nat.testBit_shiftLeft,Nat.testBit_and]
theorem qwg (c:st<256)(d:x<512):w1 st x<512:=by
 have b:x &&& st<2^8:=Nat.and_lt_two_pow _ (by omega);have a:(x &&& st) <<< 1<2^9:=by rw[Nat.shiftLeft_eq];omega
 exact Nat.or_lt_two_pow (n:=9) (by omega) a
theorem qwX (st x:Nat):x<=w1 st x:=Nat.left_le_or
structure Mid (P st:Nat->Nat)(n:Nat)(X:Nat->Nat):Prop where
 lo:∀r,r<n->∀k,(P r).testBit k=true->(X r).testBit k=true
 hi:∀r,r<n->∀k,(X r).testBit k=true->wdB (st r) (P r) k=true
 off:∀r,n<=r->X r=P r
 lt:∀r,X r<512
theorem qvP {k:Nat}(h:x.testBit k=true):wdB st x k=true:=by
 cases k with
 |zero=>exact h
 |succ k=>rw[wdB,h];rfl
theorem qv4 (P st:Nat->Nat)(n:Nat)(a:∀r,P r<512):Mid P st n P:=⟨fun _ _ _ h=>h,fun _ _ _ h=>qvP h,fun _ _=>rfl,a⟩
def wSt (st X:Nat->Nat)(n:Nat):Nat->Nat:=fun r=>if r<n then w1 (st r) (X r) else X r
theorem Mid.step {P st:Nat->Nat}(h:Mid P st n X)(d:∀r,st r<256):Mid P st n (wSt st X n):=by
 refine⟨fun r b k a => ?_,fun r b k a => ?_,fun r b => ?_,fun r => ?_⟩
 ·unfold wSt;rw[if_pos b,qoQ,h.lo r b k a];rfl
 ·unfold wSt at a;rw[if_pos b,qoQ,Bool.or_eq_true] at a;rcases a with a|a
  ·exact h.hi r b k a
  simp only[Bool.and_eq_true,decide_eq_true_eq] at a;obtain⟨c,rfl⟩:∃c,k=c+1:=⟨k-1,by omega⟩
  rw[Nat.add_sub_cancel] at a;rw[wdB,a.2.2,h.hi r b c a.2.1];simp
 ·unfold wSt;rw[if_neg (by omega)];exact h.off r b
 unfold wSt;by_cases b:r<n
 ·rw[if_pos b];exact qwg (d r) (h.lt r)
 rw[if_neg b];exact h.lt r
theorem Mid.done {P st:Nat->Nat}(h:Mid P st n X)(e:∀r,r<n->w1 (st r) (X r)=X r):∀r,r<n->∀k,(X r).testBit k=wdB (st r) (P r) k:=by
 intro r b k;have key:∀k,wdB (st r) (P r) k=true->(X r).testBit k=true:=by
  intro k
  induction k with
  |zero=>exact fun a=>h.lo r b 0 a
  |succ k g =>
   intro a;rw[wdB,Bool.or_eq_true] at a;rcases a with a|a
   ·exact h.lo r b _ a
   rw[Bool.and_eq_true] at a;have d:(w1 (st r) (X r)).testBit (k+1)=(X r).testBit (k+1):=by rw[e r b]
   rw[qoQ,Nat.add_sub_cancel,g a.2,a.1] at d;rw[<-d];simp
 cases c:(X r).testBit k with
 |true=>exact(h.hi r b k c).symm
 |false =>
  cases f:wdB (st r) (P r) k with
  |true=>rw[key k f] at c;cases c
  |false=>rfl
def qlR (X:Nat->Nat):Nat->Nat
 |0=>0
 |n+1=>qlR X n+X n
theorem qi6 (h:∀r,X r<512):∀n,qlR X n<=n*512
 |0=>Nat.le_refl _
 |n+1=>by have:=qi6 h n;have:=h n;unfold qlR;omega
theorem qj6 (h:∀r,X r<=Y r):∀n,qlR X n<=qlR Y n
 |0=>Nat.le_refl _
 |n+1=>by have:=qj6 h n;have:=h n;unfold qlR;omega
theorem qoM (h:∀r,X r<=Y r):∀n r,r<n->X r<Y r->qlR X n<qlR Y n
 |0,_,hr,_=>absurd hr (by omega)
 |n+1,r,hr,hl=>by
  unfold qlR;by_cases e:r=n
  ·subst e;have:=qj6 h r;omega
  have:=qoM h n r (by omega) hl;have:=h n;omega
theorem qve (h:∀r,r<16->X r=Y r):plA X=plA Y:=by
 unfold plA;congr 1;apply List.map_congr_left;intro r a;rw[h r (by simpa using a)]

theorem qwe:laidOutB prog=true:=by kernel_rfl
theorem few:prog.types.size+2<=10000:=Nat.le_of_ble_eq_true (by kernel_rfl)
theorem qog:WideMaps.KeyLaw prog 129:=deep_law_gate qwe few (Nat.le_of_ble_eq_true (by kernel_rfl)) (by kernel_rfl) (by kernel_rfl)
theorem qsm:WideMaps.KeyLaw prog 293:=deep_law_gate qwe few (Nat.le_of_ble_eq_true (by kernel_rfl)) (by kernel_rfl) (by kernel_rfl)
theorem qx9 (x:Nat)(h:x<65536):(Lit.int .u16 (x:Int)).wf=true:=by
 have a:IntKind.u16.min=0:=by kernel_rfl
 have b:IntKind.u16.max=65535:=by kernel_rfl
 simp[Lit.wf,a,b];omega
theorem qlL {α β:Type}(f:α->Option β)(g:α->β):∀(l:List α),(∀x∈l,f x=some (g x))->l.mapM f=some (l.map g)
 |[],_=>rfl
 |x::l,h=>by
  rw[List.mapM_cons,h x (by simp),qlL f g l (fun y a=>h y (by simp[a]))];rfl
theorem qpJ (X:Nat->Nat)(j:∀r,X r<65536):∃l,keyOf prog 129 (.agg (plA X))=some l:=by
 obtain⟨d,k⟩:∃d,prog.types.size+1=d+2:=⟨prog.types.size-1,by have:1<=prog.types.size:=Nat.le_of_ble_eq_true (by kernel_rfl);omega⟩
 have f:prog.keyType 129=true:=by kernel_rfl
 have b:prog.cellsOf 129=16:=by kernel_rfl
 have g:prog.cellsOf 127=1:=by kernel_rfl
 have m:(Value.agg (plA X)).formed prog 129=true:=by
  simp only[Value.formed,underlying129];rw[qbR,b];rfl
 have n:prog.keyLits (d+2) 129 (plA X).toList=some ((List.range 16).map fun i=>[Lit.int .u16 (X i)]).flatten:=by
  have e:(plA X).toList.length=16:=by have:=qbR X;simpa using this
  unfold Program.keyLits;simp only[underlying129];rw[if_pos (by rw[e,b]),g];rw[qlL _ (fun i=>[Lit.int .u16 (X i)]) _ (fun i a => ?_)]
  ·rfl
  have a:i<16:=by simpa using a
  have c:((plA X).toList.drop (i*1)).take 1=[.int .u16 (X i)]:=by
   have h:=qcR X i a;rw[Nat.mul_one];rw[<-Array.getElem?_toList] at h;obtain⟨o,p⟩:=List.getElem?_eq_some_iff.1 h;rw[List.drop_eq_getElem_cons o,p];rfl
  rw[c];unfold Program.keyLits;simp only[underlying127];rw[if_pos ⟨trivial,qx9 _ (j i)⟩]
 refine⟨.string (keyBytes ((List.range 16).map fun i=>[Lit.int .u16 (X i)]).flatten),?_⟩;unfold keyOf;simp only[underlying129];have e:(Value.agg (plA X)).cells=plA X:=rfl;rw[f,m,k,if_pos (by rfl),e,n,Option.map_some]
theorem qpQ (h:plA X=plA Y):∀r,r<16->X r=Y r:=by
 intro r b;have a:=qcR X r b;rw[h,qcR Y r b] at a;injection a with a;injection a with _ a;omega
def qug (X Y:Nat->Nat):Bool:=(List.range 16).all fun r=>X r==Y r
theorem qjs (h:qug X Y=true):∀r,r<16->X r=Y r:=by
 intro r a;have:=List.all_eq_true.1 h r (by simpa using a);simpa using this
theorem qpm (h:∀r,r<16->X r=Y r):qug X Y=true:=List.all_eq_true.2 fun r a=>by simpa using h r (by simpa using a)
theorem qvw (X Y:Nat->Nat)(i:∀r,X r<65536)(j:∀r,Y r<65536)(w:World):(Op.equalIn 10000 129 (.agg (plA X)) (.agg (plA Y))).run prog w=.ok (qug X Y) w:=by
 obtain⟨l,a⟩:=qpJ X i;obtain⟨n,f⟩:=qpJ Y j;obtain⟨b,d,g⟩:=run_equal_deep w (m:=prog.types.size+1) (by have:=few;omega) (k:=129) (by kernel_rfl) (by kernel_rfl) a f;have d:(Op.equalIn 10000 129 (.agg (plA X)) (.agg (plA Y))).run prog w=.ok b w:=d;have e:b=qug X Y:=by
  cases c:qug X Y with
  |true =>
   refine g.2 ?_;rw[qve (qjs c),f] at a;exact(Option.some.inj a).symm
  |false =>
   cases b with
   |false=>rfl
   |true =>
    have e:=g.1 rfl;subst e;have h:=qog.inj a f;rw[qpm (qpQ (Value.agg.inj h))] at c;cases c
 rw[d,e]

end
end Go.Proofs.YtcokgepdckkjdaaGreatDoor
