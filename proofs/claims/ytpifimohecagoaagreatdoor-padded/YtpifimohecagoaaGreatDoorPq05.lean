import Derived.Lib.ValidU
import Derived.DeepKeys5
import Derived.Maps.Keyed
import Derived.Lib.IndexLaws
import Derived.Lib.IndexMore
import Derived.Test.YtpifimohecagoaaGreatDoorPq00
set_option maxRecDepth 100000
set_option maxHeartbeats 8000000
namespace Go.Proofs.YtpifimohecagoaaGreatDoor
open Go.Proofs.Tryz
variable{hi lo:Int}{l:List UInt8}{fuel k n st x:Nat}{ss:List (Nat×List UInt8)}{P:Program}{ops:Array Oper}{Q:Exit->Act->World->Prop}{md:Region.Mode}{listed:Array Bool}{a:Act}{w w':World}{o oi:Oper}{S:World->Prop}{X Y:Nat->Nat}{c:UInt8}
section
open Go.RowKit
def qje(lo hi:Int)(l:List UInt8)(j:Nat):Bool :=
 decide (j<l.length)&&(if j=1 then decide (lo<=((l.getD j 0).toNat:Int)/\((l.getD j 0).toNat:Int)<=hi)else decide (128<=(l.getD j 0).toNat/\(l.getD j 0).toNat<=191))
def qh9(lo hi:Int)(l:List UInt8):Nat->Nat->Nat×Bool
 |0,j=>(j,true)
 |g+1,j=>if qje lo hi l j then qh9 lo hi l g (j+1)else(j,false)
def qjA(l:List UInt8):Nat×Bool :=
 if(qdT (l.getD 0 0).toNat).2.2=0 then(0,false)else qh9 (qdT (l.getD 0 0).toNat).1 (qdT (l.getD 0 0).toNat).2.1 l ((qdT (l.getD 0 0).toNat).2.2.toNat-1) 1
theorem qx3(c:Int):(qdT c).2.2=0\/(qdT c).2.2=1\/(qdT c).2.2=2\/(qdT c).2.2=3\/(qdT c).2.2=4:=by
 unfold qdT
 repeat(first|(split;simp)|simp)
def qbq(s:ByteArray)(i n:Nat):List UInt8:=(s.data.toList.take n).drop i
theorem qis(s:ByteArray)(i n:Nat)(h:n<=s.size):(qbq s i n).length=n-i:=by
 unfold qbq;rw[List.length_drop,List.length_take];have:s.data.toList.length=s.size:=Array.length_toList;omega
theorem qie(s:ByteArray)(i n j:Nat)(h:n<=s.size)(a:i+j<n):(qbq s i n).getD j 0=s[i+j]'(by omega):=by
 unfold qbq;rw[List.getD_eq_getElem?_getD,List.getElem?_drop,List.getElem?_take,if_pos a];have:i+j<s.data.toList.length:=by
  have:s.data.toList.length=s.size:=Array.length_toList;omega
 rw[List.getElem?_eq_getElem this];rfl
theorem qhK(s:ByteArray)(i n:Nat)(w:World)(m:n<=s.size)(hi:i<n)(M:s.size<=4611686018427387904):Calls prog 116 #[.string s,.int .i64 i,.int .i64 n] w λe D=>e=.returned (.tuple #[.int .i64 (qjA (qbq s i n)).1,.bool (qjA (qbq s i n)).2])/\D=w:=by
 have I:(i:Int)<s.size:=by omega
 have J:i<s.size:=by omega
 have r:Hid (((qbq s i n).getD 0 0)=s[i]):=qie s i n 0 m (by omega);obtain⟨c,b,k,d⟩:∃c b k,Hid (qdT (s[i].toNat:Int)=(c,b,k)):=⟨_,_,_,show qdT _=(_,_,_)from rfl⟩
 have q:=qx3 (s[i].toNat:Int);rw[d.out]at q;simp only[]at q;have u:Hid (qjA (qbq s i n)=if k=0 then(0,false)else qh9 c b (qbq s i n) (k.toNat-1) 1):=by
  show _=_;unfold qjA;rw[r.out,d.out]
 clear r;by_cases v:k=0
 ·subst v;have p:Hid (qjA (qbq s i n)=(0,false)):=by show _=_;rw[u.out,if_pos rfl]
  go_enter func116,ntmps116
  go_wp2_with(first
   |(go_at_call 130;refine(qgT _ _).mono ?_;rintro e z ⟨rfl,rfl⟩;rw[d.out]))
  go_ret2
  exact⟨by rw[p.out];rfl,rfl⟩
 obtain⟨a,rfl⟩:∃a:Nat,k=a:=⟨k.toNat,by omega⟩
 have L:1<=a/\a<=4:=by simp at q;omega
 have K:((a:Int)==0)=false:=by rw[beq_eq_false_iff_ne];omega
 have p:Hid (qjA (qbq s i n)=qh9 c b (qbq s i n) (a-1) 1):=by show _=_;rw[u.out,if_neg v];rfl
 go_enter func116,ntmps116
 go_wp2_with(first
  |(go_at_call 130;refine(qgT _ _).mono ?_;rintro e z ⟨rfl,rfl⟩;rw[d.out]))
 go_loopg[11] (a-1) (λg x wr=>∃j:Nat,Hid (j+g=a)/\x=.int .i64 j/\z=wr/\Hid (1<=j)/\Hid (qjA (qbq s i n)=qh9 c b (qbq s i n) g j))
 case atStart=>exact⟨1,by show _=_;omega,rfl,rfl,Nat.le_refl 1,p.out⟩
 case round =>
  obtain⟨j,l,rfl,rfl,y,f⟩:=hrel
  cases gk with
  |zero =>
   have C:¬(j:Int)<a:=by have:=l.out;omega
   go_wp2
   go_ret2
   exact⟨(by rw[f.out];have:j=a:=(by have:=l.out;omega);subst this;rfl),rfl⟩
  |succ g =>
   have C:(j:Int)<a:=by have:=l.out;omega
   by_cases E:(n:Int)<=(i:Int)+j
   ·have o:Hid (qjA (qbq s i n)=(j,false)):=by
     show _=_;rw[f.out,qh9,qje,qis _ _ _ m,decide_eq_false (by omega)];rfl
    go_wp2
    go_ret2
    exact⟨by rw[o.out];rfl,rfl⟩
   have F:(i:Int)+j<n:=by omega
   have H:(i:Int)+j<s.size:=by omega
   have G:i+j<s.size:=by omega
   have t:Hid (qje c b (qbq s i n) j=if j=1 then decide (c<=(s[i+j].toNat:Int)/\(s[i+j].toNat:Int)<=b)else decide (128<=s[i+j].toNat/\s[i+j].toNat<=191)):=by
    show _=_;unfold qje;rw[qie s i n j m (by omega),qis _ _ _ m,decide_eq_true (by omega),Bool.true_and]
   have A:Hid (qje c b (qbq s i n) j=true->qjA (qbq s i n)=qh9 c b (qbq s i n) g (j+1)):=λh=>by rw[f.out,qh9,if_pos h]
   have o:Hid (qje c b (qbq s i n) j=false->qjA (qbq s i n)=(j,false)):=λh=>by rw[f.out,qh9,if_neg (by rw[h];decide)]
   go_wp2
   all_goals first
    |(go_ret2;have hF:=o.out (by rw[t.out];have:=y.out;split<;>(apply decide_eq_false;omega));exact⟨by rw[hF];simp[*],rfl⟩)
    |go_roundg g
     case measure=>omega
     case rel =>
      have B:=A.out (by rw[t.out];have:=y.out;split<;>(apply decide_eq_true;omega));refine⟨j+1,by show _=_;have:=l.out;omega,?_,rfl,by show _<=_;omega,B⟩
      first|go_num|(simp[*];done)
theorem qtC{α β:Type}(p:α×β):p=(p.1,p.2):=rfl
def szL(l:List UInt8):Nat:=if(qjA l).2 then(qjA l).1 else 0
theorem qsm(s:ByteArray)(i:Nat)(w:World)(hi:i<s.size)(f:s.size<=4611686018427387904):Calls prog 90 #[.string s,.int .i64 i] w λe h=>e=.returned (.int .i64 (szL (s.data.toList.drop i)))/\h=w:=by
 have d:Hid (qbq s i s.size=s.data.toList.drop i):=by
  show _=_;unfold qbq;have g:s.data.toList.length=s.size:=Array.length_toList;rw[<-g,List.take_length]
 obtain⟨k,b,a⟩:∃k b,Hid (qjA (s.data.toList.drop i)=(k,b)):=⟨_,_,qtC _⟩
 cases b
 ·have c:Hid (szL (s.data.toList.drop i)=0):=by show _=_;unfold szL;rw[a.out];rfl
  go_enter func90,ntmps90
  go_wp2_with(first
   |(go_at_call 116;refine(qhK s i s.size _ (Nat.le_refl _) hi f).mono ?_;rintro e j ⟨rfl,rfl⟩;rw[d.out,a.out]))
  go_ret;exact⟨by rw[c.out];rfl,rfl⟩
 have c:Hid (szL (s.data.toList.drop i)=k):=by show _=_;unfold szL;rw[a.out];rfl
 go_enter func90,ntmps90
 go_wp2_with(first
  |(go_at_call 116;refine(qhK s i s.size _ (Nat.le_refl _) hi f).mono ?_;rintro e j ⟨rfl,rfl⟩;rw[d.out,a.out]))
 go_ret;exact⟨by rw[c.out];rfl,rfl⟩

theorem qwK{j:Nat}(h:qje lo hi l j=true):j<l.length:=by
 unfold qje at h;rw[Bool.and_eq_true]at h;exact of_decide_eq_true h.1
theorem qpT:∀{g j:Nat},(qh9 lo hi l g j).2=true->j<=l.length->(qh9 lo hi l g j).1<=l.length
 |0,_,_,hj=>hj
 |g+1,j,h,_=>by
  unfold qh9 at h ⊢;by_cases a:qje lo hi l j=true
  ·rw[if_pos a]at h ⊢;exact qpT h (qwK a)
  rw[if_neg a]at h;exact absurd h (by simp)
theorem qzk(l:List UInt8)(b:0<l.length):szL l<=l.length:=by
 unfold szL;by_cases h:(qjA l).2=true
 ·rw[if_pos h];unfold qjA at h ⊢;by_cases a:(qdT (l.getD 0 0).toNat).2.2=0
  ·rw[if_pos a];exact Nat.zero_le _
  rw[if_neg a]at h ⊢;exact qpT h b
 rw[if_neg h];exact Nat.zero_le _
def qsc(b:UInt8):Bool:=decide (b.toNat<=32)||(b.toNat==42||(b.toNat==91||(b.toNat==93||(b.toNat==47||b.toNat==46))))
def qnD:Nat->List UInt8->Option Nat
 |_,[]=>some 0
 |0,_::_=>none
 |g+1,b::t=>if szL (b::t)=0\/qsc b=true then none else(qnD g ((b::t).drop (szL (b::t)))).map (·+1)
def qzm:Option Nat->Bool
 |some n=>decide (1<=n/\n<=16)
 |none=>false
def qgw(l:List UInt8):Bool:=qzm (qnD l.length l)
theorem qcv(s:ByteArray)(w:World)(F:s.size<=4611686018427387904):Calls prog 71 #[.string s] w λe G=>e=.returned (.bool (qgw s.data.toList))/\G=w:=by
 have t:s.data.toList.length=s.size:=Array.length_toList;obtain⟨A,o⟩:∃A,Hid (qnD s.data.toList.length s.data.toList=A):=⟨_,show _=_ from rfl⟩
 have p:Hid (qgw s.data.toList=qzm A):=by show _=_;unfold qgw;rw[o.out]
 go_enter func71,ntmps71;go_wp2
 go_loopg[3,4] s.size (λg x y wr=>∃n i:Nat,x=.int .i64 n/\y=.int .i64 i/\w=wr/\Hid (n<=i)/\Hid (i<=s.size)/\Hid (s.size<=i+g)/\Hid (A=(qnD g (s.data.toList.drop i)).map (·+n)))
 case atStart =>
  refine⟨0,0,rfl,rfl,rfl,Nat.le_refl _,Nat.zero_le _,by show _<=_;omega,?_⟩;show _=_;rw[<-o.out,t,List.drop_zero];cases qnD s.size s.data.toList<;>rfl
 case round =>
  obtain⟨n,i,rfl,rfl,rfl,u,m,r,b⟩:=hrel;by_cases B:i=s.size
  ·have D:¬(i:Int)<s.size:=by omega
   have f:Hid (qgw s.data.toList=decide (1<=n/\n<=16)):=by
    show _=_;have l:A=some n:=by
     rw[b.out,B,<-t,List.drop_length];cases gk<;>simp[qnD]
    rw[p.out,l];rfl
   by_cases H:(1:Int)<=n
   ·by_cases I:(n:Int)<=16
    ·have a:Hid (qgw s.data.toList=true):=by show _=_;rw[f.out,decide_eq_true (by omega)]
     go_wp2;go_ret;exact⟨by rw[a.out];rfl,rfl⟩
    have a:Hid (qgw s.data.toList=false):=by show _=_;rw[f.out,decide_eq_false (by omega)]
    go_wp2;go_ret;exact⟨by rw[a.out];rfl,rfl⟩
   have a:Hid (qgw s.data.toList=false):=by show _=_;rw[f.out,decide_eq_false (by omega)]
   go_wp2;go_ret;exact⟨by rw[a.out];rfl,rfl⟩
  have D:(i:Int)<s.size:=by have:=m.out;omega
  have E:i<s.size:=by omega
  obtain⟨g,rfl⟩:∃g,gk=g+1:=⟨gk-1,by have:=r.out;omega⟩
  obtain⟨k,j⟩:∃k,Hid (szL (s.data.toList.drop i)=k):=⟨_,show _=_ from rfl⟩
  have d:Hid (s.data.toList.drop i=s[i]::s.data.toList.drop (i+1)):=by show _=_;rw[List.drop_eq_getElem_cons (by omega)];rfl
  have c:Hid (qnD (g+1) (s.data.toList.drop i)=if k=0\/qsc s[i]=true then none else(qnD g (s.data.toList.drop (i+k))).map (·+1)):=by
   show _=_;have:=j.out;rw[d.out]at this ⊢;rw[qnD,this,<-d.out,List.drop_drop]
  have J:k<=s.size-i:=by
   have:=qzk (s.data.toList.drop i) (by rw[List.length_drop];omega);rw[j.out,List.length_drop]at this;omega
  have v:Hid (k=0\/qsc s[i]=true->qgw s.data.toList=false):=λh=>by
   have l:A=none:=by rw[b.out,c.out,if_pos h];rfl
   rw[p.out,l];rfl
  have z:Hid (¬(k=0\/qsc s[i]=true)->A=(qnD g (s.data.toList.drop (i+k))).map (·+(n+1))):=λh=>by
   rw[b.out,c.out,if_neg h,Option.map_map];congr 1;funext x;simp only[Function.comp];omega
  have q:Hid (qsc s[i]=true↔((s[i].toNat:Int)<=32\/(s[i].toNat:Int)=42\/(s[i].toNat:Int)=91\/(s[i].toNat:Int)=93\/(s[i].toNat:Int)=47\/(s[i].toNat:Int)=46)):=by
   show _↔_;unfold qsc;simp only[Bool.or_eq_true,decide_eq_true_eq,beq_iff_eq];omega
  clear d c b;have K:n<=4611686018427387904:=by have:=u.out;have:=m.out;omega
  go_wp2_with(first
   |(go_at_call 90;refine(qsm s i _ E F).mono ?_;rintro e L ⟨rfl,rfl⟩;rw[j.out]))
  all_goals first
   |(go_ret;have hF:=v.out (by rw[q.out];first|omega|(simp only[beq_iff_eq]at *;omega));exact⟨by rw[hF];rfl,rfl⟩)
   |go_roundg g
    case measure=>omega
    case rel =>
     have C:=z.out (by rw[q.out];first|omega|(simp only[beq_eq_false_iff_ne]at *;omega));refine⟨n+1,i+k,by go_num,by go_num,rfl,?_,?_,?_,C⟩
     all_goals(show _<=_;have:=u.out;have:=m.out;have:=r.out;omega)
   |skip

theorem ok1(l:List UInt8)(lo hi:Nat):qje lo hi l 1=true↔(1<l.length/\lo<=(l.getD 1 0).toNat/\(l.getD 1 0).toNat<=hi):=by
 unfold qje;rw[if_pos rfl,Bool.and_eq_true,decide_eq_true_eq,decide_eq_true_eq];omega
theorem ok2(l:List UInt8)(lo hi:Int)(j:Nat)(a:j≠1):qje lo hi l j=true↔(j<l.length/\128<=(l.getD j 0).toNat/\(l.getD j 0).toNat<=191):=by
 unfold qje;rw[if_neg a,Bool.and_eq_true,decide_eq_true_eq,decide_eq_true_eq]
theorem qz7(l:List UInt8)(k lo hi:Nat)(i:k=2\/k=3\/k=4)(h:qdT ((l.getD 0 0).toNat:Int)=((lo:Int),(hi:Int),(k:Int))):szL l=(Lib.checkN l.length (l.getD 1 0).toNat (l.getD 2 0).toNat (l.getD 3 0).toNat k lo hi).getD 0:=by
 unfold szL qjA;rw[h];simp only[];rw[if_neg (show¬((k:Nat):Int)=0 by omega)];have d:=ok1 l lo hi;have e:=ok2 l lo hi 2 (by omega);have g:=ok2 l lo hi 3 (by omega);generalize(l.getD 0 0)=b0 at *;generalize(l.getD 1 0)=b1 at *;generalize(l.getD 2 0)=b2 at *;generalize(l.getD 3 0)=b3 at *;rcases i with rfl|rfl|rfl
 ·cases a:qje lo hi l 1
  ·have c:l.length<2\/b1.toNat<lo\/hi<b1.toNat:=by rw[a]at d;simp at d;omega
   simp[qh9,a,Lib.checkN,c]
  have c:¬(l.length<2\/b1.toNat<lo\/hi<b1.toNat):=by have:=d.1 a;omega
  simp[qh9,a,Lib.checkN,c]
 ·cases a:qje lo hi l 1
  ·have c:l.length<3\/b1.toNat<lo\/hi<b1.toNat\/b2.toNat<128\/191<b2.toNat:=by rw[a]at d;simp at d;omega
   simp[qh9,a,Lib.checkN,c]
  cases b:qje lo hi l 2
  ·have c:l.length<3\/b1.toNat<lo\/hi<b1.toNat\/b2.toNat<128\/191<b2.toNat:=by rw[b]at e;simp at e;omega
   simp[qh9,a,b,Lib.checkN,c]
  have c:¬(l.length<3\/b1.toNat<lo\/hi<b1.toNat\/b2.toNat<128\/191<b2.toNat):=by have:=d.1 a;have:=e.1 b;omega
  simp[qh9,a,b,Lib.checkN,c]
 cases a:qje lo hi l 1
 ·have c:l.length<4\/b1.toNat<lo\/hi<b1.toNat\/b2.toNat<128\/191<b2.toNat\/b3.toNat<128\/191<b3.toNat:=by rw[a]at d;simp at d;omega
  simp[qh9,a,Lib.checkN,c]
 cases b:qje lo hi l 2
 ·have c:l.length<4\/b1.toNat<lo\/hi<b1.toNat\/b2.toNat<128\/191<b2.toNat\/b3.toNat<128\/191<b3.toNat:=by rw[b]at e;simp at e;omega
  simp[qh9,a,b,Lib.checkN,c]
 cases f:qje lo hi l 3
 ·have c:l.length<4\/b1.toNat<lo\/hi<b1.toNat\/b2.toNat<128\/191<b2.toNat\/b3.toNat<128\/191<b3.toNat:=by rw[f]at g;simp at g;omega
  simp[qh9,a,b,f,Lib.checkN,c]
 have c:¬(l.length<4\/b1.toNat<lo\/hi<b1.toNat\/b2.toNat<128\/191<b2.toNat\/b3.toNat<128\/191<b3.toNat):=by have:=d.1 a;have:=e.1 b;have:=g.1 f;omega
 simp[qh9,a,b,f,Lib.checkN,c]
theorem qzC(l:List UInt8)(h:(qdT ((l.getD 0 0).toNat:Int)).2.2=0):szL l=0:=by
 unfold szL qjA;rw[if_pos h];rfl
theorem qzA(l:List UInt8)(h:(l.getD 0 0).toNat<128):szL l=1:=by
 have e:qdT ((l.getD 0 0).toNat:Int)=(0,0,1):=by unfold qdT;rw[if_pos (by omega)]
 unfold szL qjA;rw[e];rfl
set_option linter.unusedSimpArgs false in
theorem qoX(l:List UInt8)(u:128<=(l.getD 0 0).toNat):szL l=(Lib.checkN l.length (l.getD 1 0).toNat (l.getD 2 0).toNat (l.getD 3 0).toNat (Lib.firstT (l.getD 0 0).toNat%8) (Lib.accLo (Lib.firstT (l.getD 0 0).toNat/16)) (Lib.accHi (Lib.firstT (l.getD 0 0).toNat/16))).getD 0:=by
 have v:=(l.getD 0 0).toNat_lt
 have h:∀k n m,Lib.firstT (l.getD 0 0).toNat%8=k->Lib.accLo (Lib.firstT (l.getD 0 0).toNat/16)=n->Lib.accHi (Lib.firstT (l.getD 0 0).toNat/16)=m->(k=2\/k=3\/k=4)->qdT ((l.getD 0 0).toNat:Int)=((n:Int),(m:Int),(k:Int)) ->
   szL l=(Lib.checkN l.length (l.getD 1 0).toNat (l.getD 2 0).toNat (l.getD 3 0).toNat (Lib.firstT (l.getD 0 0).toNat%8) (Lib.accLo (Lib.firstT (l.getD 0 0).toNat/16)) (Lib.accHi (Lib.firstT (l.getD 0 0).toNat/16))).getD 0:=λk n m q r s t o=>by
  rw[q,r,s]
  exact qz7 l k n m t o
 have p:Lib.firstT (l.getD 0 0).toNat=241->(qdT ((l.getD 0 0).toNat:Int)).2.2=0 ->
   szL l=(Lib.checkN l.length (l.getD 1 0).toNat (l.getD 2 0).toNat (l.getD 3 0).toNat (Lib.firstT (l.getD 0 0).toNat%8) (Lib.accLo (Lib.firstT (l.getD 0 0).toNat/16)) (Lib.accHi (Lib.firstT (l.getD 0 0).toNat/16))).getD 0:=λe o=>by
  rw[e,qzC l o]
  rfl
 generalize hb:(l.getD 0 0).toNat=b0 at *
 by_cases a:b0<194
 ·exact p (by unfold Lib.firstT;rw[if_neg (by omega),if_pos a]) (by unfold qdT;repeat(first|rw[if_neg (by omega)]|rw[if_pos (by omega)]))
 by_cases b:b0<224
 ·exact h 2 128 191 (by simp[Lib.firstT,show¬b0<128 by omega,a,b]) (by simp[Lib.firstT,Lib.accLo,show¬b0<128 by omega,a,b]) (by simp[Lib.firstT,Lib.accHi,show¬b0<128 by omega,a,b]) (by omega) (by unfold qdT;(repeat(first|rw[if_neg (by omega)]|rw[if_pos (by omega)]));rfl)
 by_cases c2:b0=224
 ·exact h 3 160 191 (by simp[Lib.firstT,show¬b0<128 by omega,a,b,c2]) (by simp[Lib.firstT,Lib.accLo,show¬b0<128 by omega,a,b,c2]) (by simp[Lib.firstT,Lib.accHi,show¬b0<128 by omega,a,b,c2]) (by omega) (by unfold qdT;(repeat(first|rw[if_neg (by omega)]|rw[if_pos (by omega)]));rfl)
 by_cases c:b0<237
 ·exact h 3 128 191 (by simp[Lib.firstT,show¬b0<128 by omega,a,b,c2,c]) (by simp[Lib.firstT,Lib.accLo,show¬b0<128 by omega,a,b,c2,c]) (by simp[Lib.firstT,Lib.accHi,show¬b0<128 by omega,a,b,c2,c]) (by omega) (by unfold qdT;(repeat(first|rw[if_neg (by omega)]|rw[if_pos (by omega)]));rfl)
 by_cases d:b0=237
 ·exact h 3 128 159 (by simp[Lib.firstT,show¬b0<128 by omega,a,b,c2,c,d]) (by simp[Lib.firstT,Lib.accLo,show¬b0<128 by omega,a,b,c2,c,d]) (by simp[Lib.firstT,Lib.accHi,show¬b0<128 by omega,a,b,c2,c,d]) (by omega) (by unfold qdT;(repeat(first|rw[if_neg (by omega)]|rw[if_pos (by omega)]));rfl)
 by_cases f:b0<240
 ·exact h 3 128 191 (by simp[Lib.firstT,show¬b0<128 by omega,a,b,c2,c,d,f]) (by simp[Lib.firstT,Lib.accLo,show¬b0<128 by omega,a,b,c2,c,d,f]) (by simp[Lib.firstT,Lib.accHi,show¬b0<128 by omega,a,b,c2,c,d,f]) (by omega) (by unfold qdT;(repeat(first|rw[if_neg (by omega)]|rw[if_pos (by omega)]));rfl)
 by_cases g:b0=240
 ·exact h 4 144 191 (by simp[Lib.firstT,show¬b0<128 by omega,a,b,c2,c,d,f,g]) (by simp[Lib.firstT,Lib.accLo,show¬b0<128 by omega,a,b,c2,c,d,f,g]) (by simp[Lib.firstT,Lib.accHi,show¬b0<128 by omega,a,b,c2,c,d,f,g]) (by omega) (by unfold qdT;(repeat(first|rw[if_neg (by omega)]|rw[if_pos (by omega)]));rfl)
 by_cases i:b0<244
 ·exact h 4 128 191 (by simp[Lib.firstT,show¬b0<128 by omega,a,b,c2,c,d,f,g,i]) (by simp[Lib.firstT,Lib.accLo,show¬b0<128 by omega,a,b,c2,c,d,f,g,i]) (by simp[Lib.firstT,Lib.accHi,show¬b0<128 by omega,a,b,c2,c,d,f,g,i]) (by omega) (by unfold qdT;(repeat(first|rw[if_neg (by omega)]|rw[if_pos (by omega)]));rfl)
 by_cases j:b0=244
 ·exact h 4 128 143 (by simp[Lib.firstT,show¬b0<128 by omega,a,b,c2,c,d,f,g,i,j]) (by simp[Lib.firstT,Lib.accLo,show¬b0<128 by omega,a,b,c2,c,d,f,g,i,j]) (by simp[Lib.firstT,Lib.accHi,show¬b0<128 by omega,a,b,c2,c,d,f,g,i,j]) (by omega) (by unfold qdT;(repeat(first|rw[if_neg (by omega)]|rw[if_pos (by omega)]));rfl)
 ·exact p (by simp[Lib.firstT,show¬b0<128 by omega,a,b,c2,c,d,f,g,i,j]) (by unfold qdT;repeat(first|rw[if_neg (by omega)]|rw[if_pos (by omega)]))
theorem qnX(l:List UInt8)(e:l≠[]):(szL l=0/\Lib.decodeL l=(65533,1))\/(1<=szL l/\(Lib.decodeL l).2=szL l/\¬((Lib.decodeL l).1=65533/\(Lib.decodeL l).2=1)):=by
 have f:=List.length_pos_iff.2 e;by_cases h:(l.getD 0 0).toNat<128
 ·right;obtain⟨b,t,rfl⟩:∃b t,l=b::t:=List.exists_cons_of_ne_nil e;rw[qzA _ h,Lib.decodeL_ascii b t h];refine⟨Nat.le_refl _,rfl,λd=>?_⟩;have:b.toNat=65533:=d.1;have:=b.toNat_lt;omega
 rw[qoX l (by omega),Lib.decodeL_N];rcases Lib.check_decode l.length (l.getD 0 0).toNat (l.getD 1 0).toNat (l.getD 2 0).toNat (l.getD 3 0).toNat f (by omega) (l.getD 0 0).toNat_lt (l.getD 1 0).toNat_lt (l.getD 2 0).toNat_lt (l.getD 3 0).toNat_lt with⟨a,c⟩|⟨k,g,a,c⟩
 ·left;rw[a,c];exact⟨rfl,rfl⟩
 right;rw[a,c];exact⟨by show 1<=k;omega,rfl,λd=>by omega⟩

theorem qwM(n a b c d:Nat)(e:128<=a):128<=(Lib.decodeN n a b c d).1:=by
 unfold Lib.decodeN
 repeat' split
 all_goals first|(simp;done)|(simp only[];omega)
def qtr(r:Nat):Bool:=decide (r<=32)||(r==42||(r==91||(r==93||(r==47||r==46))))
def qoM:Nat->List UInt8->Option Nat
 |_,[]=>some 0
 |0,_::_=>none
 |g+1,b::t=>if qtr (Lib.decodeL (b::t)).1=true then none else(qoM g ((b::t).drop (Lib.decodeL (b::t)).2)).map (·+1)
theorem qzc(b:UInt8)(t:List UInt8):qtr (Lib.decodeL (b::t)).1=qsc b:=by
 by_cases h:b.toNat<128
 ·rw[Lib.decodeL_ascii b t h];rfl
 have d:128<=(Lib.decodeL (b::t)).1:=by
  rw[Lib.decodeL_N];exact qwM _ _ _ _ _ (by show 128<=b.toNat;omega)
 have a:qtr (Lib.decodeL (b::t)).1=false:=by
  unfold qtr;simp only[Bool.or_eq_false_iff,decide_eq_false_iff_not,beq_eq_false_iff_ne];omega
 have c:qsc b=false:=by
  unfold qsc;simp only[Bool.or_eq_false_iff,decide_eq_false_iff_not,beq_eq_false_iff_ne];omega
 rw[a,c]
theorem qld:∀(g:Nat) (l:List UInt8),l.length<=g->qnD g l=if Lib.validD l then qoM g l else none
 |g,[],_=>by cases g<;>simp[qnD,qoM,Lib.validD_nil]
 |0,b::t,h=>by simp at h
 |g+1,b::t,h=>by
  rw[Lib.validD_step (b::t) (by simp)];rcases qnX (b::t) (by simp)with⟨e,d⟩|⟨e,d,f⟩
  ·simp[qnD,e,d]
  rw[if_neg f,qnD,qoM,qzc,d];by_cases a:qsc b=true
  ·rw[if_pos (Or.inr a),if_pos a];split<;>rfl
  rw[if_neg (by intro c;rcases c with c|c;omega;exact a c),if_neg a,qld g _ (by rw[List.length_drop];simp at h ⊢;omega)];split<;>rfl
theorem qqA(l:List UInt8):qgw l=(Lib.validD l&&qzm (qoM l.length l)):=by
 unfold qgw;rw[qld l.length l (Nat.le_refl _)];cases Lib.validD l
 ·rfl
 rfl

def tkS(s:Nat×List UInt8)(t:List UInt8×Bool):Bool:=if s.1=0 then true else if s.1=1 then false else if s.1=2 then t.2 else !t.2&&t.1==s.2
def rcS(s:Nat×List UInt8)(p:List (List UInt8×Bool))(f:Nat->Bool):Nat->Bool
 |0=>if s.1=1 then f 0 else false
 |k+1=>if s.1=1 then(List.range (k+2)).any f else f k&&(match p[k]? with|some t=>tkS s t|none=>false)
def rch:List (Nat×List UInt8)->List (List UInt8×Bool)->(Nat->Bool)->Nat->Bool
 |[],_,f=>f
 |s::ss,p,f=>rch ss p (rcS s p f)
def qzp(ss:List (Nat×List UInt8))(p:List (List UInt8×Bool)):Bool:=rch ss p (λk=>k==0) p.length
theorem qnt(s:Nat×List UInt8)(p:List (List UInt8×Bool)):∀(ss:List (Nat×List UInt8)) (f:Nat->Bool),rch (ss++[s]) p f=rcS s p (rch ss p f)
 |[],_=>rfl
 |x::ss,f=>by show rch (ss++[s]) p _=_;rw[qnt s p ss];rfl
def qg7(ss:List (Nat×List UInt8))(k:Nat):Bool:=match ss[k]? with
 |some s=>s.1==1
 |none=>false
def qk2(ss:List (Nat×List UInt8))(t:List UInt8×Bool)(k:Nat):Bool:=match ss[k]? with
 |some s=>tkS s t
 |none=>false
def wdP(ss:List (Nat×List UInt8))(P:Nat->Bool):Nat->Bool
 |0=>P 0
 |k+1=>P (k+1)||(qg7 ss k&&wdP ss P k)
def goP(ss:List (Nat×List UInt8))(t:List UInt8×Bool)(P:Nat->Bool):Nat->Bool
 |0=>P 0&&qg7 ss 0
 |k+1=>(P (k+1)&&qg7 ss (k+1))||(P k&&qk2 ss t k)
def plc(ss:List (Nat×List UInt8)):List (List UInt8×Bool)->Nat->Bool
 |[]=>wdP ss (λk=>k==0)
 |t::r=>wdP ss (goP ss t (plc ss r))
def rF(ss:List (Nat×List UInt8))(p:List (List UInt8×Bool))(k:Nat):Nat->Bool:=rch (ss.take k) p (λn=>n==0)
theorem qpy(a:List (Nat×List UInt8))(p:List (List UInt8×Bool))(n:Nat):rF a p 0 n=(n==0):=rfl
theorem qrp{s:Nat×List UInt8}(h:ss[k]?=some s)(p:List (List UInt8×Bool)):rF ss p (k+1)=rcS s p (rF ss p k):=by
 unfold rF;rw[List.take_add_one,h];exact qnt s p _ _
def gF(ss:List (Nat×List UInt8))(p:List (List UInt8×Bool))(k j:Nat):Bool:=if qg7 ss k then(List.range (j+1)).any (rF ss p k)else rF ss p k j
theorem qtn(f:Nat->Bool)(j:Nat):(List.range (j+1)).any f=((List.range j).any f||f j):=by
 rw[List.range_succ,List.any_append];simp
theorem qnu(a:List (Nat×List UInt8))(p:List (List UInt8×Bool)):∀(j:Nat),j<=p.length->∀k,k<=a.length->plc a (p.take j).reverse k=gF a p k j
 |0,_,k,hk=>by
  rw[List.take_zero,List.reverse_nil,plc]
  induction k with
  |zero=>unfold gF;cases qg7 a 0<;>simp[wdP,qpy]
  |succ k d =>
   have d:=d (by omega);rw[wdP,d];obtain⟨s,f⟩:∃s,a[k]?=some s:=⟨a[k],List.getElem?_eq_getElem (by omega)⟩
   have o:gF a p k 0=rF a p k 0:=by unfold gF;cases qg7 a k<;>simp
   have q:gF a p (k+1) 0=rF a p (k+1) 0:=by unfold gF;cases qg7 a (k+1)<;>simp
   have c:qg7 a k=(s.1==1):=by unfold qg7;rw[f]
   rw[o,q,qrp f,rcS,c];by_cases b:s.1=1
   ·simp[b]
   simp[b]
 |j+1,hj,k,hk=>by
  obtain⟨t,i⟩:∃t,p[j]?=some t:=⟨p[j],List.getElem?_eq_getElem (by omega)⟩
  have u:(p.take (j+1)).reverse=t::(p.take j).reverse:=by rw[List.take_add_one,i];simp
  rw[u,plc];have g:=qnu a p j (by omega);generalize hP:plc a (p.take j).reverse=P;rw[hP]at g
  induction k with
  |zero =>
   rw[wdP,goP,g 0 (by omega)];unfold gF
   cases c:qg7 a 0 with
   |true =>
    rw[if_pos rfl,if_pos rfl];have h:rF a p 0 0=true:=rfl;have m:(List.range (j+1)).any (rF a p 0)=true:=List.any_eq_true.2 ⟨0,by simp,h⟩;have n:(List.range (j+1+1)).any (rF a p 0)=true:=List.any_eq_true.2 ⟨0,by simp,h⟩;rw[m,n];rfl
   |false=>simp[qpy]
  |succ k d =>
   have d:=d (by omega);obtain⟨s,f⟩:∃s,a[k]?=some s:=⟨a[k],List.getElem?_eq_getElem (by omega)⟩
   have c:qg7 a k=(s.1==1):=by unfold qg7;rw[f]
   have l:qk2 a t k=tkS s t:=by unfold qk2;rw[f]
   rw[wdP,goP,d,g (k+1) hk,g k (by omega)];have w:((gF a p k j&&qk2 a t k)||(qg7 a k&&gF a p k (j+1)))=rF a p (k+1) (j+1):=by
    rw[qrp f,rcS,i];by_cases b:s.1=1
    ·have e:gF a p k (j+1)=(List.range (j+1+1)).any (rF a p k):=by unfold gF;rw[c];simp[b]
     have v:tkS s t=false:=by unfold tkS;simp[b]
     rw[l,v,c,e];simp[b]
    have e:gF a p k j=rF a p k j:=by unfold gF;rw[c];simp[b]
    rw[l,c,e];simp[b]
   have r:((gF a p (k+1) j&&qg7 a (k+1))||rF a p (k+1) (j+1))=gF a p (k+1) (j+1):=by
    unfold gF
    cases qg7 a (k+1)with
    |true=>rw[if_pos rfl,if_pos rfl,Bool.and_true,<-qtn]
    |false=>simp
   rw[Bool.or_assoc,w,r]
theorem qt0(a:List (Nat×List UInt8))(p:List (List UInt8×Bool)):plc a p.reverse a.length=qzp a p:=by
 have h:=qnu a p p.length (Nat.le_refl _) a.length (Nat.le_refl _);rw[List.take_length]at h;rw[h];unfold gF;have e:qg7 a a.length=false:=by unfold qg7;rw[List.getElem?_eq_none (Nat.le_refl _)]
 rw[e,if_neg (by simp)];unfold rF qzp;rw[List.take_length]

def plA(P:Nat->Nat):Array Value:=((List.range 16).map λi=>Value.int .u16 (P i)).toArray
theorem qcf(P:Nat->Nat):(plA P).size=16:=by simp[plA]
theorem qdl(P:Nat->Nat)(r:Nat)(a:r<16):(plA P)[r]?=some (.int .u16 (P r)):=by simp[plA,a]
theorem qzn(a:Nat):BitVec.ofInt 16 (a:Int)=BitVec.ofNat 16 a:=BitVec.ofInt_natCast ..
theorem qsJ(a b:Nat)(c:a<65536)(d:b<65536):bits .and .u16 (a:Int) (b:Int)=((a&&&b:Nat):Int):=by
 have h:(BitVec.ofNat 16 a&&&BitVec.ofNat 16 b).toNat=a&&&b:=by
  rw[BitVec.toNat_and,BitVec.toNat_ofNat,BitVec.toNat_ofNat,Nat.mod_eq_of_lt (by omega),Nat.mod_eq_of_lt (by omega)]
 show IntKind.u16.wrap ((BitVec.ofInt 16 (a:Int)&&&BitVec.ofInt 16 (b:Int)).toNat:Int)=_;have e:a&&&b<2^16:=Nat.and_lt_two_pow _ (by omega);rw[qzn,qzn,h];unfold IntKind.wrap;simp[IntKind.bits,IntKind.signed];omega
theorem qzU(a b:Nat)(c:a<65536)(d:b<65536):bits .or .u16 (a:Int) (b:Int)=((a|||b:Nat):Int):=by
 have h:(BitVec.ofNat 16 a|||BitVec.ofNat 16 b).toNat=a|||b:=by
  rw[BitVec.toNat_or,BitVec.toNat_ofNat,BitVec.toNat_ofNat,Nat.mod_eq_of_lt (by omega),Nat.mod_eq_of_lt (by omega)]
 show IntKind.u16.wrap ((BitVec.ofInt 16 (a:Int)|||BitVec.ofInt 16 (b:Int)).toNat:Int)=_;have e:a|||b<2^16:=Nat.or_lt_two_pow (by omega) (by omega);rw[qzn,qzn,h];unfold IntKind.wrap;simp[IntKind.bits,IntKind.signed];omega
theorem w16(x:Nat)(h:x<65536):IntKind.u16.wrap (x:Int)=(x:Int):=by
 unfold IntKind.wrap;simp[IntKind.bits,IntKind.signed];omega
theorem qzO(x k:Nat)(c:x<65536):(bits .and .u16 ((x:Int)/2^k) 1==1)=x.testBit k:=by
 have e:((x:Int)/2^k)=((x/2^k:Nat):Int):=by simp
 have b:x/2^k<65536:=Nat.lt_of_le_of_lt (Nat.div_le_self _ _) c;have:=qsJ (x/2^k) 1 b (by omega);rw[e,show(1:Int)=((1:Nat):Int)from rfl,this,Nat.testBit,Nat.shiftRight_eq_div_pow,Nat.and_comm 1];cases h:(x/2^k&&&1 != 0)
 ·simp at h;simp[h]
 have a:x/2^k&&&1=1:=by
  rw[Nat.and_one_is_mod]at h ⊢;simp at h;omega
 rw[a];rfl
theorem qz5(W:World)(P:Nat->Nat)(r k:Nat)(c:r<16)(g:k<16)(b:P r<65536):Calls prog 80 #[.agg (plA P),.int .i64 r,.int .i64 k] W λe a=>e=.returned (.bool ((P r).testBit k))/\Below W.heap.size W a:=by
 have d:=qdl P r c;have f:=qzO (P r) k b;go_enter func80,ntmps80;go_wp2;go_ret;exact⟨rfl,bwA⟩
theorem qjp(P:Nat->Nat)(r:Nat)(x:Nat):(plA P).setIfInBounds r (.int .u16 x)=plA (λi=>if i=r then x else P i):=by
 apply Array.ext
 ·simp[plA]
 intro i a c;simp[plA]at a;rw[Array.getElem_setIfInBounds (by simp[plA];exact a)];by_cases h:r=i
 ·subst h;simp[plA]
 have b:¬i=r:=λe=>h e.symm;simp[plA,h,b]
theorem rdA(i:Nat)(hi:ops[i]?=some o)(c:Region.ready md ops listed=[i])(h:(∀b:Act->World->Prop,(∀a w,wpAny P md ops Q fuel (listed.setIfInBounds i true) a w->b a w)->if Region.wanted o (yielded ops a.tmps)=true then Oper.wp P o a w b Q else b (a.put o.dst undef) w)):wpAny P md ops Q (fuel+1) listed a w:=wpAny_ready c (by simp) (AllReady.cons hi h AllReady.nil)
theorem tkA(i d:Nat)(v:Value)(hi:ops[i]?=some oi)(b:(Region.noSelect ops&&Region.free md ops listed i&&(Region.ready md ops listed).contains i&&oi.dst==some d&&Region.wanted oi (yielded ops a.tmps))=true)(e:∀c a w,Q (.panic c) (a.put (some d) v) w->Q (.panic c) a w)(g:∀Z,(execOp a.eval oi).run P Z=.ok (.value v) Z)(h:wpAny P md ops Q fuel (listed.setIfInBounds i true) (a.put (some d) v) w):wpAny P md ops Q (fuel+1) listed a w:=by
 simp only[Bool.and_eq_true]at b;have f:oi.dst=some d:=by simpa using b.1.2
 rw[<-f]at e h;exact wpAny_take hi b.1.1.1.1 b.1.1.1.2 b.1.1.2 e (.inl ⟨b.2,g⟩) h
theorem qdt(W:World)(g o:Nat)(x r k:Nat)(m:r<16)(j:k<16)(d:x<65536)(i:W.cell? ⟨g,o+r,none⟩=some (.int .u16 x))(f:W.frozen? ⟨g,o+r,none⟩=false):Calls prog 63 #[.pointer (some ⟨g,o,none⟩),.int .i64 r,.int .i64 k] W λe c=>e=.returned (.tuple #[])/\c=W.drew.setCell ⟨g,o+r,none⟩ (.int .u16 ((x|||2^k:Nat):Int)):=by
 have n:(r:Int)<16:=by omega
 have b:(2^k:Nat)<65536:=by
  have:(2^k:Nat)<=2^15:=Nat.pow_le_pow_right (by decide) (by omega);omega
 have p:IntKind.u16.wrap (2^k)=2^k:=by
  have:=w16 (2^k) b;simpa using this
 have l:bits .or .u16 (x:Int) (2^k)=((x|||2^k:Nat):Int):=by
  have:=qzU x (2^k) d b;rwa[show(((2^k:Nat):Int))=2^k by simp]at this
 go_enter func63,ntmps63;go_wp2;refine wp_region_any (by kernel_rfl) ?_;change wpAny _ _ _ _ _ _ _ (World.drew W);refine tkA 0 6 (.pointer (some ⟨g,o,none⟩)) rfl (by kernel_rfl) (λ_ _ _ h=>h) (λ_=>by kernel_rfl) ?_;refine tkA 1 7 (.int .i64 r) rfl (by kernel_rfl) (λ_ _ _ h=>h) (λ_=>by kernel_rfl) ?_;refine tkA 2 8 (.pointer (some ⟨g,o,none⟩)) rfl (by kernel_rfl) (λ_ _ _ h=>h) (λ_=>by kernel_rfl) ?_;refine tkA 3 9 (.pointer (some ⟨g,o+r,none⟩)) rfl (by kernel_rfl) (λ_ _ _ h=>h) (λ_=>?y3) ?_
 case y3=>go_simp
 refine tkA 5 11 (.int .i64 k) rfl (by kernel_rfl) (λ_ _ _ h=>h) (λ_=>by kernel_rfl) ?_;refine tkA 6 12 (.int .u16 ((2^k:Nat):Int)) rfl (by kernel_rfl) (λ_ _ _ h=>h) (λ_=>?y6) ?_
 case y6=>go_simp
 refine tkA 8 14 (.pointer (some ⟨g,o,none⟩)) rfl (by kernel_rfl) (λ_ _ _ h=>h) (λ_=>by kernel_rfl) ?_;refine rdA 4 rfl (by kernel_rfl) (λK a=>?_);go_simp;refine a _ _ ?_;refine tkA 7 13 (.int .u16 ((x|||2^k:Nat):Int)) rfl (by kernel_rfl) (λ_ _ _ h=>h) (λ_=>?y7) ?_
 case y7=>go_simp
 refine tkA 9 15 (.pointer (some ⟨g,o+r,none⟩)) rfl (by kernel_rfl) (λ_ _ _ h=>h) (λ_=>?y9) ?_
 case y9=>go_simp
 refine rdA 10 rfl (by kernel_rfl) (λK a=>?_);go_simp;refine a _ _ ?_;refine wpAny_done (by kernel_rfl) ?_ _;go_simp;go_wp2;go_end0;exact⟨rfl,rfl⟩

structure qlM(w:World)(a:Option Addr)(ss:List (Nat×List UInt8)):Prop where
 at_:∀i (h:i<ss.length),∃b off,a=some ⟨b,off,none⟩/\b<w.heap.size/\w.cell? ⟨b,off+i*2,none⟩=some (.int .i64 ss[i].1)/\w.cell? ⟨b,off+i*2+1,none⟩=some (.string ⟨ss[i].2.toArray⟩)
theorem qlM.below{a:Option Addr}(h:qlM w a ss)(c:Below w.heap.size w w'):qlM w' a ss :=
 ⟨λi j=>by
  obtain⟨b,off,g,d,e,f⟩:=h.at_ i j;exact⟨b,off,g,Nat.lt_of_lt_of_le d c.size,(c.cell (p:=⟨b,_,none⟩) d).trans e,(c.cell (p:=⟨b,_,none⟩) d).trans f⟩⟩
structure qe0(w:World)(a:Option Addr)(rs:List (List (Nat×List UInt8)×Int×Int)):Prop where
 at_:∀i (h:i<rs.length),∃b off pa pc,a=some ⟨b,off,none⟩/\b<w.heap.size/\w.cell? ⟨b,off+i*3,none⟩=some (.slice pa rs[i].1.length pc)/\w.cell? ⟨b,off+i*3+1,none⟩=some (.int .i64 rs[i].2.1)/\w.cell? ⟨b,off+i*3+2,none⟩=some (.int .i64 rs[i].2.2)/\qlM w pa rs[i].1
theorem qe0.below{a:Option Addr}{rs:List (List (Nat×List UInt8)×Int×Int)}(h:qe0 w a rs)(c:Below w.heap.size w w'):qe0 w' a rs :=
 ⟨λi l=>by
  obtain⟨b,off,m,n,k,d,e,f,g,j⟩:=h.at_ i l;exact⟨b,off,m,n,k,Nat.lt_of_lt_of_le d c.size,(c.cell (p:=⟨b,_,none⟩) d).trans e,(c.cell (p:=⟨b,_,none⟩) d).trans f,(c.cell (p:=⟨b,_,none⟩) d).trans g,j.below c⟩⟩
def jdg(dflt:Int):List (List (Nat×List UInt8)×Int×Int)->(Nat->Nat)->Nat->Int×Int
 |[],_,_=>(dflt,1)
 |x::rs,P,r=>if(P r).testBit x.1.length then x.2 else jdg dflt rs P (r+1)
theorem qbt(P:Nat->Nat):(prog.info? 112).map (·.size)=some (plA P).size:=by rw[qcf];kernel_rfl
structure qxw(W:World)(P:Nat->Nat)(V:World):Prop where
 box:V.heap[W.heap.size]?=some (.cells (plA P) 112)
 below:Below W.heap.size W V
theorem qxw.next{W V V':World}{P:Nat->Nat}(h:qxw W P V)(a:Below V.heap.size V V'):qxw W P V' :=
 ⟨(a.block _ (ltA h.box)).trans h.box,h.below.trans (a.mono h.below.size)⟩
theorem qwj(W:World)(P:Nat->Nat):qxw W P (W.alloc (.cells (plA P) 112)):=⟨qac _ _,bwA⟩
theorem qpQ(W:World)(A:Nat)(x:Option Addr)(I:Nat)(a:Int)(rs:List (List (Nat×List UInt8)×Int×Int))(P:Nat->Nat)(F:∀r,P r<65536)(R:rs.length<=16)(D:∀i (h:i<rs.length),rs[i].1.length<=8)(E:A<W.heap.size)(J:W.cell? ⟨A,0,none⟩=some (.slice x rs.length I))(C:W.cell? ⟨A,1,none⟩=some (.int .i64 a))(H:qe0 W x rs):Calls prog 64 #[.pointer (some ⟨A,0,none⟩),.agg (plA P)] W λe B=>e=.returned (.tuple #[.int .i64 (jdg a rs P 0).1,.int .i64 (jdg a rs P 0).2])/\Below W.heap.size W B:=by
 have y:=qab H;go_enter func64,ntmps64;go_wp2
 go_loopg[13] rs.length (λg z wr=>∃k:Nat,z=.int .i64 k/\Hid (k+g=rs.length)/\Hid (qxw W P wr)/\Hid (jdg a rs P 0=jdg a (rs.drop k) P k))
 case atStart=>exact⟨0,rfl,by show _=_;omega,qwj _ _,rfl⟩
 case round =>
  obtain⟨k,rfl,m,d,q⟩:=hrel;have K:=(d.out.below.cell (p:=⟨A,_,none⟩) E).trans C
  cases gk with
  |zero =>
   have G:¬(k:Int)<(rs.length:Int):=by have:=m.out;omega
   have f:Hid (jdg a rs P 0=(a,1)):=by
    have h:=q.out;rw[List.drop_eq_nil_of_le (by have:=m.out;omega)]at h;exact h
   go_wp2;refine bodyPost_ret (results_tmp2 results64 _ _ _) rfl ⟨?_,d.out.below⟩;rw[f.out];rfl
  |succ g =>
   have t:k<rs.length:=by have:=m.out;omega
   have G:(k:Int)<(rs.length:Int):=by omega
   obtain⟨b,off,v,w,rfl,O,L,M,N,_⟩:=(y.out.below d.out.below).at_ k t;have Q:=D k t;have l:=λV=>qz5 V P k rs[k].1.length (by omega) (by omega) (F k);have u:Hid (jdg a (rs.drop k) P k=if(P k).testBit rs[k].1.length then rs[k].2 else jdg a (rs.drop (k+1)) P (k+1)):=by
    show _=_;rw[List.drop_eq_getElem_cons t,jdg]
   have j:Hid (qxw W P (wr.alloc (.cells #[.slice v rs[k].1.length w,.int .i64 rs[k].2.1,.int .i64 rs[k].2.2] 146))):=d.out.next bwA
   have S:=ltA d.out.box
   cases n:(P k).testBit rs[k].1.length with
   |true =>
    rw[n]at l;have f:Hid (jdg a rs P 0=rs[k].2):=by have h:=q.out;rw[u.out,n]at h;exact h
    go_wp2_with(first
     |(refine wpList_load_row rfl 112 (.tmp 3) rfl W.heap.size rfl _ _ _ _ j.out.box underlying112 rfl (qbt P) ?_)
     |(go_at_call 80;refine(l _).mono ?_;rintro e o ⟨rfl,c⟩;have s:=qab (j.out.next c);have T:o.cell? ⟨wr.heap.size,0,none⟩=some (.slice v rs[k].1.length w):=qaa ((c.block _ (by simp)).trans (qac _ _)) 0;have U:o.cell? ⟨wr.heap.size,1,none⟩=some (.int .i64 rs[k].2.1):=qaa ((c.block _ (by simp)).trans (qac _ _)) 1;have X:o.cell? ⟨wr.heap.size,2,none⟩=some (.int .i64 rs[k].2.2):=qaa ((c.block _ (by simp)).trans (qac _ _)) 2))
    go_quiet (fail)
    go_wp2;refine bodyPost_ret (results_tmp2 results64 _ _ _) rfl ⟨?_,s.out.below.trans ⟨rfl,rfl,rfl,Nat.le_refl _,λ_ _=>rfl⟩⟩;rw[f.out];rfl
   |false =>
    rw[n]at l;have f:Hid (jdg a rs P 0=jdg a (rs.drop (k+1)) P (k+1)):=by have h:=q.out;rw[u.out,n]at h;exact h
    go_wp2_with(first
     |(refine wpList_load_row rfl 112 (.tmp 3) rfl W.heap.size rfl _ _ _ _ j.out.box underlying112 rfl (qbt P) ?_)
     |(go_at_call 80;refine(l _).mono ?_;rintro e o ⟨rfl,c⟩;have s:=qab (j.out.next c)))
    go_roundg g
    case measure=>omega
    case rel=>exact⟨k+1,by go_num,by show _=_;have:=m.out;omega,s,f⟩

theorem rdS(i:Nat)(hi:ops[i]?=some o)(c:Region.ready md ops listed=[i])(h:∀b:Act->World->Prop,Shut (∀a w,S w->(S w->wpAnyH P md ops Q S fuel (listed.setIfInBounds i true) a w)->b a w)->if Region.wanted o (yielded ops a.tmps)=true then Oper.wp P o a w b Q else b (a.put o.dst undef) w):wpAnyH P md ops Q S (fuel+1) listed a w :=
 wpAnyH_ready c (by simp) (AllReadyH.cons hi h AllReadyH.nil)
theorem tkH(i d:Nat)(v:Value)(hi:ops[i]?=some oi)(b:(Region.noSelect ops&&Region.free md ops listed i&&(Region.ready md ops listed).contains i&&oi.dst==some d&&Region.wanted oi (yielded ops a.tmps))=true)(e:∀c a w,Q (.panic c) (a.put (some d) v) w->Q (.panic c) a w)(j:∀Z,S Z->(execOp a.eval oi).run P Z=.ok (.value v) Z)(f:S w)(h:wpAnyH P md ops Q S fuel (listed.setIfInBounds i true) (a.put (some d) v) w):wpAnyH P md ops Q S (fuel+1) listed a w:=by
 simp only[Bool.and_eq_true]at b;have g:oi.dst=some d:=by simpa using b.1.2
 rw[<-g]at e h;exact wpAnyH_take hi b.1.1.1.1 b.1.1.1.2 b.1.1.2 e (.inl ⟨b.2,j⟩) f h
def w1(st x:Nat):Nat:=x|||((x&&&st)<<<1)
def wdB(st x:Nat):Nat->Bool
 |0=>x.testBit 0
 |k+1=>x.testBit (k+1)||(st.testBit k&&wdB st x k)
theorem qrQ(st x k:Nat):(w1 st x).testBit k=(x.testBit k||(decide (1<=k)&&(x.testBit (k-1)&&st.testBit (k-1)))):=by
 unfold w1;rw[Nat.testBit_or,Nat.testBit_shiftLeft,Nat.testBit_and]
theorem qyC(c:st<256)(d:x<512):w1 st x<512:=by
 have b:x&&&st<2^8:=Nat.and_lt_two_pow _ (by omega);have a:(x&&&st)<<<1<2^9:=by rw[Nat.shiftLeft_eq];omega
 exact Nat.or_lt_two_pow (n:=9) (by omega) a
theorem qzS(st x:Nat):x<=w1 st x:=Nat.left_le_or
structure Mid(P st:Nat->Nat)(n:Nat)(X:Nat->Nat):Prop where
 lo:∀r,r<n->∀k,(P r).testBit k=true->(X r).testBit k=true
 hi:∀r,r<n->∀k,(X r).testBit k=true->wdB (st r) (P r) k=true
 off:∀r,n<=r->X r=P r
 lt:∀r,X r<512
theorem qxU(h:x.testBit k=true):wdB st x k=true:=by
 cases k with
 |zero=>exact h
 |succ k=>rw[wdB,h];rfl
theorem qxM(P st:Nat->Nat)(n:Nat)(a:∀r,P r<512):Mid P st n P:=⟨λ_ _ _ h=>h,λ_ _ _ h=>qxU h,λ_ _=>rfl,a⟩
def wSt(st X:Nat->Nat)(n:Nat):Nat->Nat:=λr=>if r<n then w1 (st r) (X r)else X r
theorem Mid.step{P st:Nat->Nat}(h:Mid P st n X)(d:∀r,st r<256):Mid P st n (wSt st X n):=by
 refine⟨λr b k a=>?_,λr b k a=>?_,λr b=>?_,λr=>?_⟩
 ·unfold wSt;rw[if_pos b,qrQ,h.lo r b k a];rfl
 ·unfold wSt at a;rw[if_pos b,qrQ,Bool.or_eq_true]at a;rcases a with a|a
  ·exact h.hi r b k a
  simp only[Bool.and_eq_true,decide_eq_true_eq]at a;obtain⟨c,rfl⟩:∃c,k=c+1:=⟨k-1,by omega⟩
  rw[Nat.add_sub_cancel]at a;rw[wdB,a.2.2,h.hi r b c a.2.1];simp
 ·unfold wSt;rw[if_neg (by omega)];exact h.off r b
 unfold wSt;by_cases b:r<n
 ·rw[if_pos b];exact qyC (d r) (h.lt r)
 rw[if_neg b];exact h.lt r
theorem Mid.done{P st:Nat->Nat}(h:Mid P st n X)(e:∀r,r<n->w1 (st r) (X r)=X r):∀r,r<n->∀k,(X r).testBit k=wdB (st r) (P r) k:=by
 intro r b k;have i:∀k,wdB (st r) (P r) k=true->(X r).testBit k=true:=by
  intro k
  induction k with
  |zero=>exact λa=>h.lo r b 0 a
  |succ k g =>
   intro a;rw[wdB,Bool.or_eq_true]at a;rcases a with a|a
   ·exact h.lo r b _ a
   rw[Bool.and_eq_true]at a;have d:(w1 (st r) (X r)).testBit (k+1)=(X r).testBit (k+1):=by rw[e r b]
   rw[qrQ,Nat.add_sub_cancel,g a.2,a.1]at d;rw[<-d];simp
 cases c:(X r).testBit k with
 |true=>exact(h.hi r b k c).symm
 |false =>
  cases f:wdB (st r) (P r) k with
  |true=>rw[i k f]at c;cases c
  |false=>rfl
def qnn(X:Nat->Nat):Nat->Nat
 |0=>0
 |n+1=>qnn X n+X n
theorem qi8(h:∀r,X r<512):∀n,qnn X n<=n*512
 |0=>Nat.le_refl _
 |n+1=>by have:=qi8 h n;have:=h n;unfold qnn;omega
theorem qkZ(h:∀r,X r<=Y r):∀n,qnn X n<=qnn Y n
 |0=>Nat.le_refl _
 |n+1=>by have:=qkZ h n;have:=h n;unfold qnn;omega
theorem qrH(h:∀r,X r<=Y r):∀n r,r<n->X r<Y r->qnn X n<qnn Y n
 |0,_,hr,_=>absurd hr (by omega)
 |n+1,r,hr,hl=>by
  unfold qnn;by_cases e:r=n
  ·subst e;have:=qkZ h r;omega
  have:=qrH h n r (by omega) hl;have:=h n;omega
theorem qyW(h:∀r,r<16->X r=Y r):plA X=plA Y:=by
 unfold plA;congr 1;apply List.map_congr_left;intro r a;rw[h r (by simpa using a)]

theorem qyI:laidOutB prog=true:=by kernel_rfl
theorem few:prog.types.size+2<=10000:=Nat.le_of_ble_eq_true (by kernel_rfl)
theorem qp8:WideMaps.KeyLaw prog 112:=deep_law_gate qyI few (Nat.le_of_ble_eq_true (by kernel_rfl)) (by kernel_rfl) (by kernel_rfl)
theorem qux:WideMaps.KeyLaw prog 255:=deep_law_gate qyI few (Nat.le_of_ble_eq_true (by kernel_rfl)) (by kernel_rfl) (by kernel_rfl)
theorem q05(x:Nat)(h:x<65536):(Lit.int .u16 (x:Int)).wf=true:=by
 have a:IntKind.u16.min=0:=by kernel_rfl
 have b:IntKind.u16.max=65535:=by kernel_rfl
 simp[Lit.wf,a,b];omega
theorem qnF{α β:Type}(f:α->Option β)(g:α->β):∀(l:List α),(∀x∈l,f x=some (g x))->l.mapM f=some (l.map g)
 |[],_=>rfl
 |x::l,h=>by
  rw[List.mapM_cons,h x (by simp),qnF f g l (λy a=>h y (by simp[a]))];rfl
theorem qq9(X:Nat->Nat)(j:∀r,X r<65536):∃l,keyOf prog 112 (.agg (plA X))=some l:=by
 obtain⟨d,k⟩:∃d,prog.types.size+1=d+2:=⟨prog.types.size-1,by have:1<=prog.types.size:=Nat.le_of_ble_eq_true (by kernel_rfl);omega⟩
 have f:prog.keyType 112=true:=by kernel_rfl
 have b:prog.cellsOf 112=16:=by kernel_rfl
 have g:prog.cellsOf 110=1:=by kernel_rfl
 have m:(Value.agg (plA X)).formed prog 112=true:=by
  simp only[Value.formed,underlying112];rw[qcf,b];rfl
 have n:prog.keyLits (d+2) 112 (plA X).toList=some ((List.range 16).map λi=>[Lit.int .u16 (X i)]).flatten:=by
  have e:(plA X).toList.length=16:=by have:=qcf X;simpa using this
  unfold Program.keyLits;simp only[underlying112];rw[if_pos (by rw[e,b]),g];rw[qnF _ (λi=>[Lit.int .u16 (X i)]) _ (λi a=>?_)]
  ·rfl
  have a:i<16:=by simpa using a
  have c:((plA X).toList.drop (i*1)).take 1=[.int .u16 (X i)]:=by
   have h:=qdl X i a;rw[Nat.mul_one];rw[<-Array.getElem?_toList]at h;obtain⟨o,p⟩:=List.getElem?_eq_some_iff.1 h;rw[List.drop_eq_getElem_cons o,p];rfl
  rw[c];unfold Program.keyLits;simp only[underlying110];rw[if_pos ⟨trivial,q05 _ (j i)⟩]
 refine⟨.string (keyBytes ((List.range 16).map λi=>[Lit.int .u16 (X i)]).flatten),?_⟩;unfold keyOf;simp only[underlying112];have e:(Value.agg (plA X)).cells=plA X:=rfl;rw[f,m,k,if_pos (by rfl),e,n,Option.map_some]
theorem qpl(h:plA X=plA Y):∀r,r<16->X r=Y r:=by
 intro r b;have a:=qdl X r b;rw[h,qdl Y r b]at a;injection a with a;injection a with _ a;omega
def qxp(X Y:Nat->Nat):Bool:=(List.range 16).all λr=>X r==Y r
theorem qlh(h:qxp X Y=true):∀r,r<16->X r=Y r:=by
 intro r a;have:=List.all_eq_true.1 h r (by simpa using a);simpa using this
theorem qqE(h:∀r,r<16->X r=Y r):qxp X Y=true:=List.all_eq_true.2 λr a=>by simpa using h r (by simpa using a)
theorem qyh(X Y:Nat->Nat)(i:∀r,X r<65536)(j:∀r,Y r<65536)(w:World):(Op.equalIn 10000 112 (.agg (plA X)) (.agg (plA Y))).run prog w=.ok (qxp X Y) w:=by
 obtain⟨l,a⟩:=qq9 X i;obtain⟨n,f⟩:=qq9 Y j;obtain⟨b,d,g⟩:=run_equal_deep w (m:=prog.types.size+1) (by have:=few;omega) (k:=112) (by kernel_rfl) (by kernel_rfl) a f;have d:(Op.equalIn 10000 112 (.agg (plA X)) (.agg (plA Y))).run prog w=.ok b w:=d;have e:b=qxp X Y:=by
  cases c:qxp X Y with
  |true =>
   refine g.2 ?_;rw[qyW (qlh c),f]at a;exact(Option.some.inj a).symm
  |false =>
   cases b with
   |false=>rfl
   |true =>
    have e:=g.1 rfl;subst e;have h:=qp8.inj a f;rw[qqE (qpl (Value.agg.inj h))]at c;cases c
 rw[d,e]

end
section
def qam(c:UInt8):List UInt8->List (List UInt8)
 |[]=>[[]]
 |x::r=>if x==c then[]::qam c r else match qam c r with
  |h::t=>(x::h)::t
  |[]=>[[x]]
theorem qhn(c:UInt8)(l:List UInt8):qam c l≠[]:=by
 cases l with
 |nil=>simp[qam]
 |cons x r =>
  unfold qam;split
  ·simp
  split<;>simp
theorem qej(c:UInt8):∀l:List UInt8,(∀x,x∈l->(x==c)=false)->qam c l=[l]
 |[],_=>rfl
 |x::r,h=>by
  have a:=h x (List.mem_cons_self ..);have b:=qej c r (λy d=>h y (List.mem_cons_of_mem _ d));simp only[qam,a,b];rfl
theorem qd6(c:UInt8):∀(a b:List UInt8),(∀x,x∈a->(x==c)=false)->qam c (a++c::b)=a::qam c b
 |[],b,_=>by simp[qam]
 |x::a,b,h=>by
  have d:=h x (List.mem_cons_self ..);have e:=qd6 c a b (λy f=>h y (List.mem_cons_of_mem _ f));simp only[List.cons_append,qam,d,e];rfl
theorem qfS(h:Lib.indexByte l c = -1):qam c l=[l]:=by
 refine qej c l (λx b=>?_);obtain⟨k,a,rfl⟩:=List.getElem_of_mem b;have:=Lib.indexByte_none h k;rw[beq_eq_false_iff_ne];intro e;exact this (by rw[List.getElem?_eq_getElem a,e])
theorem qfP{o:Nat}(h:Lib.indexByte l c=o):o<l.length/\qam c l=l.take o::qam c (l.drop (o+1)):=by
 obtain⟨a,b⟩:=Lib.indexByte_some h;have i:o<l.length:=ltL a;refine⟨i,?_⟩;have e:l=l.take o++c::l.drop (o+1):=by
  have d:l[o]=c:=(List.getElem?_eq_some_iff.1 a).2;rw[<-d];simp
 conv=>lhs;rw[e]
 refine qd6 c _ _ (λx j=>?_);obtain⟨k,f,rfl⟩:=List.getElem_of_mem j;have g:k<o:=by simp at f;omega
 rw[beq_eq_false_iff_ne];intro e;refine b k g ?_;rw[List.getElem?_eq_getElem (by omega)];rw[List.getElem_take]at e;rw[e]

end
end Go.Proofs.YtpifimohecagoaaGreatDoor
