import Derived.Maps.OwnSet
import Derived.Test.YtllcbnfmihfaaaaGreatDoorCq07
import Derived.Test.YtllcbnfmihfaaaaGreatDoorCq05
set_option maxRecDepth 100000
set_option maxHeartbeats 8000000
namespace Go.Proofs.YtllcbnfmihfaaaaGreatDoor
open Go.Proofs.Tryz
variable {hi lo:Int}{l:List UInt8}{A m n rc x:Nat}{V V' W W':World}{X st:Nat→Nat}{ra:Option Addr}{f:Lit→Option Nat}{key:Value}{kl:Lit}
section
open Go.RowKit
def qhZ (lo hi:Int)(l:List UInt8)(j:Nat):Bool :=
 decide (j<l.length)&&(if j=1 then decide (lo≤((l.getD j 0).toNat:Int)∧((l.getD j 0).toNat:Int)≤hi) else decide (128≤(l.getD j 0).toNat∧(l.getD j 0).toNat≤191))
def qgB (lo hi:Int)(l:List UInt8):Nat→Nat→Nat×Bool
 |0,j=>(j,true)
 |g+1,j=>if qhZ lo hi l j then qgB lo hi l g (j+1) else (j,false)
def qiM (l:List UInt8):Nat×Bool :=
 if (qd4 (l.getD 0 0).toNat).2.2=0 then (0,false) else qgB (qd4 (l.getD 0 0).toNat).1 (qd4 (l.getD 0 0).toNat).2.1 l ((qd4 (l.getD 0 0).toNat).2.2.toNat-1) 1
theorem qvJ (c:Int):(qd4 c).2.2=0∨(qd4 c).2.2=1∨(qd4 c).2.2=2∨(qd4 c).2.2=3∨(qd4 c).2.2=4:=by
 unfold qd4
 repeat (first|(split;simp)|simp)
def qbe (s:ByteArray)(i n:Nat):List UInt8:=(s.data.toList.take n).drop i
theorem qhf (s:ByteArray)(i n:Nat)(h:n≤s.size):(qbe s i n).length=n-i:=by
 unfold qbe;rw[List.length_drop,List.length_take];have:s.data.toList.length=s.size:=Array.length_toList;omega
theorem qh1 (s:ByteArray)(i n j:Nat)(h:n≤s.size)(hj:i+j<n):(qbe s i n).getD j 0=s[i+j]'(by omega):=by
 unfold qbe;rw[List.getD_eq_getElem?_getD,List.getElem?_drop,List.getElem?_take,if_pos hj];have:i+j<s.data.toList.length:=by
  have:s.data.toList.length=s.size:=Array.length_toList;omega
 rw[List.getElem?_eq_getElem this];rfl
theorem qgX (s:ByteArray)(i n:Nat)(w:World)(hn:n≤s.size)(hi:i<n)(hs:s.size≤4611686018427387904):Calls prog 68 #[.string s,.int .i64 i,.int .i64 n] w fun e w'=>e=.returned (.tuple #[.int .i64 (qiM (qbe s i n)).1,.bool (qiM (qbe s i n)).2])∧w'=w:=by
 have hi0:(i:Int)<s.size:=by omega
 have his:i<s.size:=by omega
 have HB0:Hid (((qbe s i n).getD 0 0)=s[i]):=qh1 s i n 0 hn (by omega);obtain⟨lo,hiz,k,HK⟩:∃lo hiz k,Hid (qd4 (s[i].toNat:Int)=(lo,hiz,k)):=⟨_,_,_,show qd4 _=(_,_,_) from rfl⟩
 have hk:=qvJ (s[i].toNat:Int);rw[HK.out] at hk;simp only[] at hk;have HV:Hid (qiM (qbe s i n)=if k=0 then (0,false) else qgB lo hiz (qbe s i n) (k.toNat-1) 1):=by
  show _=_;unfold qiM;rw[HB0.out,HK.out]
 clear HB0;by_cases h0:k=0
 ·subst h0;have HV2:Hid (qiM (qbe s i n)=(0,false)):=by show _=_;rw[HV.out,if_pos rfl]
  go_enter func68,ntmps68
  go_wp2_with (first
   |(go_at_call 112;refine(qgb _ _).mono ?_;rintro e w2 ⟨rfl,rfl⟩;rw[HK.out]))
  go_ret2
  exact⟨by rw[HV2.out];rfl,rfl⟩
 obtain⟨kn,rfl⟩:∃kn:Nat,k=kn:=⟨k.toNat,by omega⟩
 have hk1:1≤kn∧kn≤4:=by simp at hk;omega
 have hk0:((kn:Int)==0)=false:=by rw[beq_eq_false_iff_ne];omega
 have HV2:Hid (qiM (qbe s i n)=qgB lo hiz (qbe s i n) (kn-1) 1):=by show _=_;rw[HV.out,if_neg h0];rfl
 go_enter func68,ntmps68
 go_wp2_with (first
  |(go_at_call 112;refine(qgb _ _).mono ?_;rintro e w2 ⟨rfl,rfl⟩;rw[HK.out]))
 go_loopg [11] (kn-1) (fun g x wr=>∃j:Nat,Hid (j+g=kn)∧x=.int .i64 j∧w2=wr∧Hid (1≤j)∧Hid (qiM (qbe s i n)=qgB lo hiz (qbe s i n) g j))
 case atStart=>exact⟨1,by show _=_;omega,rfl,rfl,Nat.le_refl 1,HV2.out⟩
 case round =>
  obtain⟨j,hj,rfl,rfl,hj1,HL⟩:=hrel
  cases gk with
  |zero =>
   have hlt:¬(j:Int)<kn:=by have:=hj.out;omega
   go_wp2
   go_ret2
   exact⟨(by rw[HL.out];have:j=kn:=(by have:=hj.out;omega);subst this;rfl),rfl⟩
  |succ g =>
   have hlt:(j:Int)<kn:=by have:=hj.out;omega
   by_cases h1:(n:Int)≤(i:Int)+j
   ·have HF:Hid (qiM (qbe s i n)=(j,false)):=by
     show _=_;rw[HL.out,qgB,qhZ,qhf _ _ _ hn,decide_eq_false (by omega)];rfl
    go_wp2
    go_ret2
    exact⟨by rw[HF.out];rfl,rfl⟩
   have h1':(i:Int)+j<n:=by omega
   have h1s:(i:Int)+j<s.size:=by omega
   have h1n:i+j<s.size:=by omega
   have HO:Hid (qhZ lo hiz (qbe s i n) j=if j=1 then decide (lo≤(s[i+j].toNat:Int)∧(s[i+j].toNat:Int)≤hiz) else decide (128≤s[i+j].toNat∧s[i+j].toNat≤191)):=by
    show _=_;unfold qhZ;rw[qh1 s i n j hn (by omega),qhf _ _ _ hn,decide_eq_true (by omega),Bool.true_and]
   have HT:Hid (qhZ lo hiz (qbe s i n) j=true→qiM (qbe s i n)=qgB lo hiz (qbe s i n) g (j+1)):=fun h=>by rw[HL.out,qgB,if_pos h]
   have HF:Hid (qhZ lo hiz (qbe s i n) j=false→qiM (qbe s i n)=(j,false)):=fun h=>by rw[HL.out,qgB,if_neg (by rw[h];decide)]
   go_wp2
   all_goals first
    |(go_ret2;have hF:=HF.out (by rw[HO.out];have:=hj1.out;split<;>(apply decide_eq_false;omega));exact⟨by rw[hF];simp[*],rfl⟩)
    |go_roundg g
     case measure=>omega
     case rel =>
      have hT:=HT.out (by rw[HO.out];have:=hj1.out;split<;>(apply decide_eq_true;omega));refine⟨j+1,by show _=_;have:=hj.out;omega,?_,rfl,by show _≤_;omega,hT⟩
      first|go_num|(simp[*];done)
theorem qrQ {α β:Type}(p:α×β):p=(p.1,p.2):=rfl
def szL (l:List UInt8):Nat:=if (qiM l).2 then (qiM l).1 else 0
theorem qri (s:ByteArray)(i:Nat)(w:World)(hi:i<s.size)(hs:s.size≤4611686018427387904):Calls prog 43 #[.string s,.int .i64 i] w fun e w'=>e=.returned (.int .i64 (szL (s.data.toList.drop i)))∧w'=w:=by
 have HE:Hid (qbe s i s.size=s.data.toList.drop i):=by
  show _=_;unfold qbe;have hl:s.data.toList.length=s.size:=Array.length_toList;rw[←hl,List.take_length]
 obtain⟨k,b,HV⟩:∃k b,Hid (qiM (s.data.toList.drop i)=(k,b)):=⟨_,_,qrQ _⟩
 cases b
 ·have HZ:Hid (szL (s.data.toList.drop i)=0):=by show _=_;unfold szL;rw[HV.out];rfl
  go_enter func43,ntmps43
  go_wp2_with (first
   |(go_at_call 68;refine(qgX s i s.size _ (Nat.le_refl _) hi hs).mono ?_;rintro e w2 ⟨rfl,rfl⟩;rw[HE.out,HV.out]))
  go_ret;exact⟨by rw[HZ.out];rfl,rfl⟩
 have HZ:Hid (szL (s.data.toList.drop i)=k):=by show _=_;unfold szL;rw[HV.out];rfl
 go_enter func43,ntmps43
 go_wp2_with (first
  |(go_at_call 68;refine(qgX s i s.size _ (Nat.le_refl _) hi hs).mono ?_;rintro e w2 ⟨rfl,rfl⟩;rw[HE.out,HV.out]))
 go_ret;exact⟨by rw[HZ.out];rfl,rfl⟩
theorem qta {j:Nat}(h:qhZ lo hi l j=true):j<l.length:=by
 unfold qhZ at h;rw[Bool.and_eq_true] at h;exact of_decide_eq_true h.1
theorem qp1:∀{g j:Nat},(qgB lo hi l g j).2=true→j≤l.length→(qgB lo hi l g j).1≤l.length
 |0,_,_,hj=>hj
 |g+1,j,h,_=>by
  unfold qgB at h ⊢;by_cases ho:qhZ lo hi l j=true
  ·rw[if_pos ho] at h ⊢;exact qp1 h (qta ho)
  rw[if_neg ho] at h;exact absurd h (by simp)
theorem qwz (l:List UInt8)(hl:0<l.length):szL l≤l.length:=by
 unfold szL;by_cases h:(qiM l).2=true
 ·rw[if_pos h];unfold qiM at h ⊢;by_cases hk:(qd4 (l.getD 0 0).toNat).2.2=0
  ·rw[if_pos hk];exact Nat.zero_le _
  rw[if_neg hk] at h ⊢;exact qp1 h hl
 rw[if_neg h];exact Nat.zero_le _
def qqm (b:UInt8):Bool:=decide (b.toNat≤32)||(b.toNat==42||(b.toNat==91||(b.toNat==93||(b.toNat==47||b.toNat==46))))
def qlV:Nat→List UInt8→Option Nat
 |_,[]=>some 0
 |0,_::_=>none
 |g+1,b::t=>if szL (b::t)=0∨qqm b=true then none else (qlV g ((b::t).drop (szL (b::t)))).map (·+1)
def qwG:Option Nat→Bool
 |some n=>decide (1≤n∧n≤16)
 |none=>false
def qgw (l:List UInt8):Bool:=qwG (qlV l.length l)
theorem qca (s:ByteArray)(w:World)(hs:s.size≤4611686018427387904):Calls prog 211 #[.string s] w fun e w'=>e=.returned (.bool (qgw s.data.toList))∧w'=w:=by
 have hl:s.data.toList.length=s.size:=Array.length_toList;obtain⟨A,HA⟩:∃A,Hid (qlV s.data.toList.length s.data.toList=A):=⟨_,show _=_ from rfl⟩
 have HB:Hid (qgw s.data.toList=qwG A):=by show _=_;unfold qgw;rw[HA.out]
 go_enter func211,ntmps211;go_wp2
 go_loopg [3,4] s.size (fun g x y wr=>∃n i:Nat,x=.int .i64 n∧y=.int .i64 i∧w=wr∧Hid (n≤i)∧Hid (i≤s.size)∧Hid (s.size≤i+g)∧Hid (A=(qlV g (s.data.toList.drop i)).map (·+n)))
 case atStart =>
  refine⟨0,0,rfl,rfl,rfl,Nat.le_refl _,Nat.zero_le _,by show _≤_;omega,?_⟩;show _=_;rw[←HA.out,hl,List.drop_zero];cases qlV s.size s.data.toList<;>rfl
 case round =>
  obtain⟨n,i,rfl,rfl,rfl,hni,his,hig,HL⟩:=hrel;by_cases h1:i=s.size
  ·have hlt:¬(i:Int)<s.size:=by omega
   have HF:Hid (qgw s.data.toList=decide (1≤n∧n≤16)):=by
    show _=_;have hA:A=some n:=by
     rw[HL.out,h1,←hl,List.drop_length];cases gk<;>simp[qlV]
    rw[HB.out,hA];rfl
   by_cases ha:(1:Int)≤n
   ·by_cases hb:(n:Int)≤16
    ·have HF2:Hid (qgw s.data.toList=true):=by show _=_;rw[HF.out,decide_eq_true (by omega)]
     go_wp2;go_ret;exact⟨by rw[HF2.out];rfl,rfl⟩
    have HF2:Hid (qgw s.data.toList=false):=by show _=_;rw[HF.out,decide_eq_false (by omega)]
    go_wp2;go_ret;exact⟨by rw[HF2.out];rfl,rfl⟩
   have HF2:Hid (qgw s.data.toList=false):=by show _=_;rw[HF.out,decide_eq_false (by omega)]
   go_wp2;go_ret;exact⟨by rw[HF2.out];rfl,rfl⟩
  have hlt:(i:Int)<s.size:=by have:=his.out;omega
  have hn:i<s.size:=by omega
  obtain⟨g,rfl⟩:∃g,gk=g+1:=⟨gk-1,by have:=hig.out;omega⟩
  obtain⟨k,HK⟩:∃k,Hid (szL (s.data.toList.drop i)=k):=⟨_,show _=_ from rfl⟩
  have HD:Hid (s.data.toList.drop i=s[i]::s.data.toList.drop (i+1)):=by show _=_;rw[List.drop_eq_getElem_cons (by omega)];rfl
  have HC:Hid (qlV (g+1) (s.data.toList.drop i)=if k=0∨qqm s[i]=true then none else (qlV g (s.data.toList.drop (i+k))).map (·+1)):=by
   show _=_;have:=HK.out;rw[HD.out] at this ⊢;rw[qlV,this,←HD.out,List.drop_drop]
  have hkl:k≤s.size-i:=by
   have:=qwz (s.data.toList.drop i) (by rw[List.length_drop];omega);rw[HK.out,List.length_drop] at this;omega
  have HN:Hid (k=0∨qqm s[i]=true→qgw s.data.toList=false):=fun h=>by
   have hA:A=none:=by rw[HL.out,HC.out,if_pos h];rfl
   rw[HB.out,hA];rfl
  have HY:Hid (¬(k=0∨qqm s[i]=true)→A=(qlV g (s.data.toList.drop (i+k))).map (·+(n+1))):=fun h=>by
   rw[HL.out,HC.out,if_neg h,Option.map_map];congr 1;funext x;simp only[Function.comp];omega
  have HBad:Hid (qqm s[i]=true↔((s[i].toNat:Int)≤32∨(s[i].toNat:Int)=42∨(s[i].toNat:Int)=91∨(s[i].toNat:Int)=93∨(s[i].toNat:Int)=47∨(s[i].toNat:Int)=46)):=by
   show _↔_;unfold qqm;simp only[Bool.or_eq_true,decide_eq_true_eq,beq_iff_eq];omega
  clear HD HC HL;have hn9:n≤4611686018427387904:=by have:=hni.out;have:=his.out;omega
  go_wp2_with (first
   |(go_at_call 43;refine(qri s i _ hn hs).mono ?_;rintro e w2 ⟨rfl,rfl⟩;rw[HK.out]))
  all_goals first
   |(go_ret;have hF:=HN.out (by rw[HBad.out];first|omega|(simp only[beq_iff_eq] at *;omega));exact⟨by rw[hF];rfl,rfl⟩)
   |go_roundg g
    case measure=>omega
    case rel =>
     have hT:=HY.out (by rw[HBad.out];first|omega|(simp only[beq_eq_false_iff_ne] at *;omega));refine⟨n+1,i+k,by go_num,by go_num,rfl,?_,?_,?_,hT⟩
     all_goals (show _≤_;have:=hni.out;have:=his.out;have:=hig.out;omega)
   |skip
theorem ok1 (l:List UInt8)(lo hi:Nat):qhZ lo hi l 1=true↔(1<l.length∧lo≤(l.getD 1 0).toNat∧(l.getD 1 0).toNat≤hi):=by
 unfold qhZ;rw[if_pos rfl,Bool.and_eq_true,decide_eq_true_eq,decide_eq_true_eq];omega
theorem ok2 (l:List UInt8)(lo hi:Int)(j:Nat)(hj:j≠1):qhZ lo hi l j=true↔(j<l.length∧128≤(l.getD j 0).toNat∧(l.getD j 0).toNat≤191):=by
 unfold qhZ;rw[if_neg hj,Bool.and_eq_true,decide_eq_true_eq,decide_eq_true_eq]
theorem qxj (l:List UInt8)(k lo hi:Nat)(hk:k=2∨k=3∨k=4)(h:qd4 ((l.getD 0 0).toNat:Int)=((lo:Int),(hi:Int),(k:Int))):szL l=(Lib.checkN l.length (l.getD 1 0).toNat (l.getD 2 0).toNat (l.getD 3 0).toNat k lo hi).getD 0:=by
 unfold szL qiM;rw[h];simp only[];rw[if_neg (show ¬((k:Nat):Int)=0 by omega)];have o1:=ok1 l lo hi;have o2:=ok2 l lo hi 2 (by omega);have o3:=ok2 l lo hi 3 (by omega);generalize (l.getD 0 0)=b0 at *;generalize (l.getD 1 0)=b1 at *;generalize (l.getD 2 0)=b2 at *;generalize (l.getD 3 0)=b3 at *;rcases hk with rfl|rfl|rfl
 ·cases e1:qhZ lo hi l 1
  ·have c:l.length<2∨b1.toNat<lo∨hi<b1.toNat:=by rw[e1] at o1;simp at o1;omega
   simp[qgB,e1,Lib.checkN,c]
  have c:¬(l.length<2∨b1.toNat<lo∨hi<b1.toNat):=by have:=o1.1 e1;omega
  simp[qgB,e1,Lib.checkN,c]
 ·cases e1:qhZ lo hi l 1
  ·have c:l.length<3∨b1.toNat<lo∨hi<b1.toNat∨b2.toNat<128∨191<b2.toNat:=by rw[e1] at o1;simp at o1;omega
   simp[qgB,e1,Lib.checkN,c]
  cases e2:qhZ lo hi l 2
  ·have c:l.length<3∨b1.toNat<lo∨hi<b1.toNat∨b2.toNat<128∨191<b2.toNat:=by rw[e2] at o2;simp at o2;omega
   simp[qgB,e1,e2,Lib.checkN,c]
  have c:¬(l.length<3∨b1.toNat<lo∨hi<b1.toNat∨b2.toNat<128∨191<b2.toNat):=by have:=o1.1 e1;have:=o2.1 e2;omega
  simp[qgB,e1,e2,Lib.checkN,c]
 cases e1:qhZ lo hi l 1
 ·have c:l.length<4∨b1.toNat<lo∨hi<b1.toNat∨b2.toNat<128∨191<b2.toNat∨b3.toNat<128∨191<b3.toNat:=by rw[e1] at o1;simp at o1;omega
  simp[qgB,e1,Lib.checkN,c]
 cases e2:qhZ lo hi l 2
 ·have c:l.length<4∨b1.toNat<lo∨hi<b1.toNat∨b2.toNat<128∨191<b2.toNat∨b3.toNat<128∨191<b3.toNat:=by rw[e2] at o2;simp at o2;omega
  simp[qgB,e1,e2,Lib.checkN,c]
 cases e3:qhZ lo hi l 3
 ·have c:l.length<4∨b1.toNat<lo∨hi<b1.toNat∨b2.toNat<128∨191<b2.toNat∨b3.toNat<128∨191<b3.toNat:=by rw[e3] at o3;simp at o3;omega
  simp[qgB,e1,e2,e3,Lib.checkN,c]
 have c:¬(l.length<4∨b1.toNat<lo∨hi<b1.toNat∨b2.toNat<128∨191<b2.toNat∨b3.toNat<128∨191<b3.toNat):=by have:=o1.1 e1;have:=o2.1 e2;have:=o3.1 e3;omega
 simp[qgB,e1,e2,e3,Lib.checkN,c]
theorem qxn (l:List UInt8)(h:(qd4 ((l.getD 0 0).toNat:Int)).2.2=0):szL l=0:=by
 unfold szL qiM;rw[if_pos h];rfl
theorem qwY (l:List UInt8)(h:(l.getD 0 0).toNat<128):szL l=1:=by
 have e:qd4 ((l.getD 0 0).toNat:Int)=(0,0,1):=by unfold qd4;rw[if_pos (by omega)]
 unfold szL qiM;rw[e];rfl
set_option linter.unusedSimpArgs false in
theorem qnz (l:List UInt8)(h0:128≤(l.getD 0 0).toNat):szL l=(Lib.checkN l.length (l.getD 1 0).toNat (l.getD 2 0).toNat (l.getD 3 0).toNat (Lib.firstT (l.getD 0 0).toNat%8) (Lib.accLo (Lib.firstT (l.getD 0 0).toNat / 16)) (Lib.accHi (Lib.firstT (l.getD 0 0).toNat / 16))).getD 0:=by
 have h256:=(l.getD 0 0).toNat_lt
 have key:∀k lo hi,Lib.firstT (l.getD 0 0).toNat%8=k→Lib.accLo (Lib.firstT (l.getD 0 0).toNat / 16)=lo→Lib.accHi (Lib.firstT (l.getD 0 0).toNat / 16)=hi→(k=2∨k=3∨k=4)→qd4 ((l.getD 0 0).toNat:Int)=((lo:Int),(hi:Int),(k:Int)) →
   szL l=(Lib.checkN l.length (l.getD 1 0).toNat (l.getD 2 0).toNat (l.getD 3 0).toNat (Lib.firstT (l.getD 0 0).toNat%8) (Lib.accLo (Lib.firstT (l.getD 0 0).toNat / 16)) (Lib.accHi (Lib.firstT (l.getD 0 0).toNat / 16))).getD 0:=fun k lo hi e1 e2 e3 hk hs=>by
  rw[e1,e2,e3]
  exact qxj l k lo hi hk hs
 have none0:Lib.firstT (l.getD 0 0).toNat=241→(qd4 ((l.getD 0 0).toNat:Int)).2.2=0 →
   szL l=(Lib.checkN l.length (l.getD 1 0).toNat (l.getD 2 0).toNat (l.getD 3 0).toNat (Lib.firstT (l.getD 0 0).toNat%8) (Lib.accLo (Lib.firstT (l.getD 0 0).toNat / 16)) (Lib.accHi (Lib.firstT (l.getD 0 0).toNat / 16))).getD 0:=fun e hs=>by
  rw[e,qxn l hs]
  rfl
 generalize hb:(l.getD 0 0).toNat=b0 at *
 by_cases c0:b0<194
 ·exact none0 (by unfold Lib.firstT;rw[if_neg (by omega),if_pos c0]) (by unfold qd4;repeat (first|rw[if_neg (by omega)]|rw[if_pos (by omega)]))
 by_cases c1:b0<224
 ·exact key 2 128 191 (by simp[Lib.firstT,show ¬b0<128 by omega,c0,c1]) (by simp[Lib.firstT,Lib.accLo,show ¬b0<128 by omega,c0,c1]) (by simp[Lib.firstT,Lib.accHi,show ¬b0<128 by omega,c0,c1]) (by omega) (by unfold qd4;(repeat (first|rw[if_neg (by omega)]|rw[if_pos (by omega)]));rfl)
 by_cases c2:b0=224
 ·exact key 3 160 191 (by simp[Lib.firstT,show ¬b0<128 by omega,c0,c1,c2]) (by simp[Lib.firstT,Lib.accLo,show ¬b0<128 by omega,c0,c1,c2]) (by simp[Lib.firstT,Lib.accHi,show ¬b0<128 by omega,c0,c1,c2]) (by omega) (by unfold qd4;(repeat (first|rw[if_neg (by omega)]|rw[if_pos (by omega)]));rfl)
 by_cases c3:b0<237
 ·exact key 3 128 191 (by simp[Lib.firstT,show ¬b0<128 by omega,c0,c1,c2,c3]) (by simp[Lib.firstT,Lib.accLo,show ¬b0<128 by omega,c0,c1,c2,c3]) (by simp[Lib.firstT,Lib.accHi,show ¬b0<128 by omega,c0,c1,c2,c3]) (by omega) (by unfold qd4;(repeat (first|rw[if_neg (by omega)]|rw[if_pos (by omega)]));rfl)
 by_cases c4:b0=237
 ·exact key 3 128 159 (by simp[Lib.firstT,show ¬b0<128 by omega,c0,c1,c2,c3,c4]) (by simp[Lib.firstT,Lib.accLo,show ¬b0<128 by omega,c0,c1,c2,c3,c4]) (by simp[Lib.firstT,Lib.accHi,show ¬b0<128 by omega,c0,c1,c2,c3,c4]) (by omega) (by unfold qd4;(repeat (first|rw[if_neg (by omega)]|rw[if_pos (by omega)]));rfl)
 by_cases c5:b0<240
 ·exact key 3 128 191 (by simp[Lib.firstT,show ¬b0<128 by omega,c0,c1,c2,c3,c4,c5]) (by simp[Lib.firstT,Lib.accLo,show ¬b0<128 by omega,c0,c1,c2,c3,c4,c5]) (by simp[Lib.firstT,Lib.accHi,show ¬b0<128 by omega,c0,c1,c2,c3,c4,c5]) (by omega) (by unfold qd4;(repeat (first|rw[if_neg (by omega)]|rw[if_pos (by omega)]));rfl)
 by_cases c6:b0=240
 ·exact key 4 144 191 (by simp[Lib.firstT,show ¬b0<128 by omega,c0,c1,c2,c3,c4,c5,c6]) (by simp[Lib.firstT,Lib.accLo,show ¬b0<128 by omega,c0,c1,c2,c3,c4,c5,c6]) (by simp[Lib.firstT,Lib.accHi,show ¬b0<128 by omega,c0,c1,c2,c3,c4,c5,c6]) (by omega) (by unfold qd4;(repeat (first|rw[if_neg (by omega)]|rw[if_pos (by omega)]));rfl)
 by_cases c7:b0<244
 ·exact key 4 128 191 (by simp[Lib.firstT,show ¬b0<128 by omega,c0,c1,c2,c3,c4,c5,c6,c7]) (by simp[Lib.firstT,Lib.accLo,show ¬b0<128 by omega,c0,c1,c2,c3,c4,c5,c6,c7]) (by simp[Lib.firstT,Lib.accHi,show ¬b0<128 by omega,c0,c1,c2,c3,c4,c5,c6,c7]) (by omega) (by unfold qd4;(repeat (first|rw[if_neg (by omega)]|rw[if_pos (by omega)]));rfl)
 by_cases c8:b0=244
 ·exact key 4 128 143 (by simp[Lib.firstT,show ¬b0<128 by omega,c0,c1,c2,c3,c4,c5,c6,c7,c8]) (by simp[Lib.firstT,Lib.accLo,show ¬b0<128 by omega,c0,c1,c2,c3,c4,c5,c6,c7,c8]) (by simp[Lib.firstT,Lib.accHi,show ¬b0<128 by omega,c0,c1,c2,c3,c4,c5,c6,c7,c8]) (by omega) (by unfold qd4;(repeat (first|rw[if_neg (by omega)]|rw[if_pos (by omega)]));rfl)
 ·exact none0 (by simp[Lib.firstT,show ¬b0<128 by omega,c0,c1,c2,c3,c4,c5,c6,c7,c8]) (by unfold qd4;repeat (first|rw[if_neg (by omega)]|rw[if_pos (by omega)]))
theorem qmW (l:List UInt8)(hne:l≠[]):(szL l=0∧Lib.decodeL l=(65533,1))∨(1≤szL l∧(Lib.decodeL l).2=szL l∧¬((Lib.decodeL l).1=65533∧(Lib.decodeL l).2=1)):=by
 have hl:=List.length_pos_iff.2 hne;by_cases h:(l.getD 0 0).toNat<128
 ·right;obtain⟨b,t,rfl⟩:∃b t,l=b::t:=List.exists_cons_of_ne_nil hne;rw[qwY _ h,Lib.decodeL_ascii b t h];refine⟨Nat.le_refl _,rfl,fun hh => ?_⟩;have:b.toNat=65533:=hh.1;have:=b.toNat_lt;omega
 rw[qnz l (by omega),Lib.decodeL_N];rcases Lib.check_decode l.length (l.getD 0 0).toNat (l.getD 1 0).toNat (l.getD 2 0).toNat (l.getD 3 0).toNat hl (by omega) (l.getD 0 0).toNat_lt (l.getD 1 0).toNat_lt (l.getD 2 0).toNat_lt (l.getD 3 0).toNat_lt with ⟨hc,hd⟩|⟨k,hk,hc,hd⟩
 ·left;rw[hc,hd];exact⟨rfl,rfl⟩
 right;rw[hc,hd];exact⟨by show 1≤k;omega,rfl,fun hh=>by omega⟩
def zPl:Nat→Nat:=fun _=>0
structure qi8 (W:World)(X:Nat→Nat)(V:World):Prop where
 box:V.heap[W.heap.size]? = some (.cells (plA X) 164)
 ret:V.heap[W.heap.size+1]? = some (.cells (plA zPl) 164)
 below:Below W.heap.size W V
theorem qi8.next (h:qi8 W X V)(hb:Below V.heap.size V V'):qi8 W X V' :=
 ⟨(hb.block _ (ltA h.box)).trans h.box,(hb.block _ (ltA h.ret)).trans h.ret,h.below.trans (hb.mono h.below.size)⟩
theorem quE (W:World)(X:Nat→Nat):qi8 W X ((W.alloc (.cells (plA X) 164)).alloc (.cells (plA zPl) 164)) :=
 ⟨(Below.heap_alloc _ _ _ (by simp)).trans (qac _ _),by have:=qac (W.alloc (.cells (plA X) 164)) (.cells (plA zPl) 164);simpa using this,(bwA).alloc (by simp) _⟩
theorem qgk (X:Nat→Nat):(plA X).all (·.oneCell')=true:=by
 rw[Array.all_eq_true];intro i h;simp[plA,Value.oneCell']
theorem qjJ (X Y:Nat→Nat):(plA X).size=(plA Y).size:=by rw[qbR,qbR]
theorem qi8.set (h:qi8 W X V)(g:Nat)(hg:W.heap.size+1<g)(cs:Array Value):qi8 W X (V.setRow g cs) :=
 ⟨sx (by omega) h.box,sx (by omega) h.ret,qah h.below (by omega) _⟩
theorem qi8.cell (h:qi8 W X V)(g j:Nat)(hg:W.heap.size+1<g)(v:Value):qi8 W X (V.setCell ⟨g,j,none⟩ v) :=
 ⟨(Below.heap_setCell _ _ _ _ (by simp;omega)).trans h.box,(Below.heap_setCell _ _ _ _ (by simp;omega)).trans h.ret,h.below.setCell (by simp;omega) _⟩
theorem qi8.drew (h:qi8 W X V):qi8 W X V.drew:=⟨h.box,h.ret,h.below.drew⟩
theorem qrW (st X:Nat→Nat)(k:Nat):(fun i=>if i=k then w1 (st k) (X k) else wSt st X k i)=wSt st X (k+1):=by
 funext r;unfold wSt;by_cases h:r=k
 ·subst h;rw[if_pos rfl,if_pos (by omega)]
 rw[if_neg h];by_cases h2:r<k
 ·rw[if_pos h2,if_pos (by omega)]
 rw[if_neg h2,if_neg (by omega)]
theorem qwt (y:Nat)(h:y<256):IntKind.u16.wrap ((y:Int)*2)=((y <<< 1:Nat):Int):=by
 have:=w16 (y*2) (by omega);rw[Nat.shiftLeft_eq];rw[show((y:Int)*2)=((y*2:Nat):Int) by simp,this]
theorem qq7 (st X:Nat→Nat):wSt st X 0=X:=by
 funext r;unfold wSt;rw[if_neg (by omega)]
theorem qk1 (W:World)(A:Nat)(ra:Option Addr)(rc n:Nat)(st:Nat→Nat)(P:Nat→Nat)(hP:∀r,P r<512)(hst:∀r,st r<256)(hn:n≤16)(hA:A<W.heap.size)(c0:W.cell? ⟨A,0,none⟩=some (.slice ra n rc))(cs:∀r,r<16→W.cell? ⟨A,3+r,none⟩=some (.int .u16 (st r))):Calls prog 139 #[.pointer (some ⟨A,0,none⟩),.agg (plA P)] W fun e W'=>(∃Y,e=.returned (.agg (plA Y))∧(∀r,r<n→∀k,(Y r).testBit k=wdB (st r) (P r) k)∧(∀r,n≤r→Y r=P r)∧∀r,Y r<512)∧Below W.heap.size W W':=by
 have HV0:Hid (qi8 W P ((W.alloc (.cells (plA P) 164)).alloc (.cells #[.int .u16 0,.int .u16 0,.int .u16 0,.int .u16 0,.int .u16 0,.int .u16 0,.int .u16 0,.int .u16 0,.int .u16 0,.int .u16 0,.int .u16 0,.int .u16 0,.int .u16 0,.int .u16 0,.int .u16 0,.int .u16 0] 164))):=quE W P;have HM0:=qaa (qv4 P st n hP);go_enter func139,ntmps139;go_wp2
 go_loopg [] (8192-qlR P 16) (fun g wr=>∃X,Hid (qi8 W X wr)∧Hid (Mid P st n X)∧Hid (qlR X 16+g=8192))
 case atStart=>exact⟨P,HV0,HM0,by show _=_;have:=qi6 hP 16;omega⟩
 case round =>
  obtain⟨X,HV,HM,HG⟩:=hrel;have d0:=(HV.out.below.cell (p:=⟨A,_,none⟩) hA).trans c0
  go_wp2_with (first
   |(refine wpList_load_row rfl 164 (.tmp 3) rfl W.heap.size rfl _ _ _ _ HV.out.box underlying164 rfl (qbh X) ?_)
   |(refine wpList_store_row rfl 164 (.tmp 5) (.tmp 7) rfl wr.heap.size (plA X) rfl rfl 164 (plA zPl) (qac wr _) (qbh X) (qjJ _ _) (qgk X) ?_;have HLT:=qaa (ltA HV.out.ret);have HV1:Hid (qi8 W X ((wr.alloc (.cells #[.int .u16 0,.int .u16 0,.int .u16 0,.int .u16 0,.int .u16 0,.int .u16 0,.int .u16 0,.int .u16 0,.int .u16 0,.int .u16 0,.int .u16 0,.int .u16 0,.int .u16 0,.int .u16 0,.int .u16 0,.int .u16 0] 164)).setRow wr.heap.size (plA X))):=(HV.out.next bwA).set _ HLT.out _;have HW1:Hid (((wr.alloc (.cells #[.int .u16 0,.int .u16 0,.int .u16 0,.int .u16 0,.int .u16 0,.int .u16 0,.int .u16 0,.int .u16 0,.int .u16 0,.int .u16 0,.int .u16 0,.int .u16 0,.int .u16 0,.int .u16 0,.int .u16 0,.int .u16 0] 164)).setRow wr.heap.size (plA X)).heap[wr.heap.size]? = some (.cells (plA (wSt st X 0)) 164)):=(by rw[qq7];exact setRow_heap _ _ _ _ _ _ (qac wr _));generalize (wr.alloc (.cells #[.int .u16 0,.int .u16 0,.int .u16 0,.int .u16 0,.int .u16 0,.int .u16 0,.int .u16 0,.int .u16 0,.int .u16 0,.int .u16 0,.int .u16 0,.int .u16 0,.int .u16 0,.int .u16 0,.int .u16 0,.int .u16 0] 164)).setRow wr.heap.size (plA X)=V1 at *;generalize wr.heap.size=M at *;have d0:=(HV1.out.below.cell (p:=⟨A,_,none⟩) hA).trans c0))
  go_loopg [13] n (fun g z V=>∃k:Nat,z=.int .i64 k∧Hid (k+g=n)∧Hid (qi8 W X V)∧Hid (V.heap[M]? = some (.cells (plA (wSt st X k)) 164)))
  case atStart=>exact⟨0,rfl,by show _=_;omega,HV1,HW1⟩
  case round =>
   obtain⟨k,rfl,hk,HV2,HW2⟩:=hrel
   cases gk with
   |zero =>
    have hlt:¬(k:Int)<(n:Int):=by have:=hk.out;omega
    have hkn:k=n:=by have:=hk.out;omega
    subst hkn;have hX5:∀r,X r<65536:=fun r=>by have:=HM.out.lt r;omega
    have hY5:∀r,wSt st X k r<65536:=fun r=>by have:=(HM.out.step hst).lt r;omega
    have hq:=qvw (wSt st X k) X hY5 hX5 wr
    cases hE:qug (wSt st X k) X with
    |true =>
     rw[hE] at hq;have he:∀r,r<k→w1 (st r) (X r)=X r:=fun r hr=>by
      have h:=qjs hE r (by omega);unfold wSt at h;rwa [if_pos hr] at h
     have HD:=qaa (HM.out.done he)
     go_wp2_with (first
      |(refine wpList_load_row rfl 164 (.tmp 5) rfl M rfl _ _ _ _ HW2.out underlying164 rfl (qbh _) ?_)
      |(refine wpList_load_row rfl 164 (.tmp 3) rfl W.heap.size rfl _ _ _ _ HV2.out.box underlying164 rfl (qbh X) ?_)
      |(refine wpList_store_row rfl 164 (.tmp 4) (.tmp 36) rfl (W.heap.size+1) (plA X) rfl rfl 164 (plA zPl) HV2.out.ret (qbh X) (qjJ _ _) (qgk X) ?_))
     refine bodyPost_ret (results_cell_row results139 _ _ (W.heap.size+1) 164 (plA X) (0,0) _ rfl (setRow_heap _ _ _ _ _ _ HV2.out.ret) underlying164 rfl (qbh X)) rfl ⟨⟨X,rfl,HD.out,HM.out.off,HM.out.lt⟩,qah HV2.out.below (by omega) _⟩
    |false =>
     rw[hE] at hq;have HN:Hid (qlR X 16<qlR (wSt st X k) 16):=by
      show _<_;have hge:∀r,X r≤wSt st X k r:=fun r=>by
       unfold wSt;by_cases hr:r<k
       ·rw[if_pos hr];exact qwX _ _
       rw[if_neg hr];exact Nat.le_refl _
      have hex:∃r,r<16∧X r<wSt st X k r:=by
       refine Classical.byContradiction fun hh => ?_;have:qug (wSt st X k) X=true:=qpm fun r hr=>by
        have h1:=hge r;have h2:¬X r<wSt st X k r:=fun h=>hh ⟨r,hr,h⟩;omega
       rw[this] at hE;cases hE
      obtain⟨r,h1,h2⟩:=hex;exact qoM hge 16 r h1 h2
     have HM2:=qaa (HM.out.step hst)
     go_wp2_with (first
      |(refine wpList_load_row rfl 164 (.tmp 5) rfl M rfl _ _ _ _ HW2.out underlying164 rfl (qbh _) ?_)
      |(refine wpList_load_row rfl 164 (.tmp 3) rfl W.heap.size rfl _ _ _ _ HV2.out.box underlying164 rfl (qbh X) ?_)
      |(refine wpList_store_row rfl 164 (.tmp 3) (.tmp 37) rfl W.heap.size (plA (wSt st X k)) rfl rfl 164 (plA X) HV2.out.box (qbh _) (qjJ _ _) (qgk _) ?_))
     have HV4:Hid (qi8 W (wSt st X k) (wr.setRow W.heap.size (plA (wSt st X k)))):=⟨setRow_heap _ _ _ _ _ _ HV2.out.box,sx (by omega) HV2.out.ret,qah HV2.out.below (Nat.le_refl _) _⟩
     go_roundg (8192-qlR (wSt st X k) 16)
     case measure=>have:=HG.out;have:=HN.out;have:=qi6 HM2.out.lt 16;omega
     case rel=>exact⟨wSt st X k,HV4,HM2,by show _=_;have:=qi6 HM2.out.lt 16;omega⟩
   |succ g =>
    have hkl:k<n:=by have:=hk.out;omega
    have hlt:(k:Int)<(n:Int):=by omega
    have hk16:(k:Int)<16:=by omega
    have hXk:=HM.out.lt k;have hsk:=hst k;have ha:=qqL (X k) (st k) (by omega) (by omega);have hal:X k &&& st k<256:=Nat.and_lt_two_pow (n:=8) _ (by omega);have hsh:=qwt (X k &&& st k) hal;have hw1:=qwg hsk hXk;have hor:bits .or .u16 (X k:Int) (((X k &&& st k) <<< 1:Nat):Int)=((w1 (st k) (X k):Nat):Int):=qxk _ _ (by omega) (by rw[Nat.shiftLeft_eq];omega);have hcw:wr.cell? ⟨M,k,none⟩=some (.int .u16 (X k)):=by
     have h:=qab HW2.out k;rw[qcR _ k (by omega)] at h;rw[h];unfold wSt;rw[if_neg (by omega)]
    have hfw:=frozen_of_row wr M k _ _ HW2.out;have HS0:Hid (wr.cell? ⟨W.heap.size,k,none⟩=some (.int .u16 (X k))∧wr.cell? ⟨A,3+k,none⟩=some (.int .u16 (st k))):=⟨by have h:=qab HV2.out.box k;rwa [qcR _ k (by omega)] at h,(HV2.out.below.cell (p:=⟨A,_,none⟩) hA).trans (cs k (by omega))⟩
    have HV3:Hid (qi8 W X (wr.drew.setCell ⟨M,k,none⟩ (.int .u16 ((w1 (st k) (X k):Nat):Int)))):=HV2.out.drew.cell _ _ HLT.out _;have HW3:Hid ((wr.drew.setCell ⟨M,k,none⟩ (.int .u16 ((w1 (st k) (X k):Nat):Int))).heap[M]? = some (.cells (plA (wSt st X (k+1))) 164)):=by
     have h:=heap_setCell_same wr.drew M k _ _ (.int .u16 ((w1 (st k) (X k):Nat):Int)) HW2.out;rw[qik,qrW] at h;exact h
    go_wp2;have hS:(fun Z:World=>Z.cell? ⟨W.heap.size,k,none⟩=some (.int .u16 (X k))∧Z.cell? ⟨A,3+k,none⟩=some (.int .u16 (st k))) {wr with drawn:=wr.drawn+1}:=HS0.out;have hS2:(fun Z:World=>Z.cell? ⟨W.heap.size,k,none⟩=some (.int .u16 (X k))∧Z.cell? ⟨A,3+k,none⟩=some (.int .u16 (st k))) (wr.drew.setCell ⟨M,k,none⟩ (.int .u16 ((w1 (st k) (X k):Nat):Int))):=⟨by have h:=qab HV3.out.box k;rwa [qcR _ k (by omega)] at h,(HV3.out.below.cell (p:=⟨A,_,none⟩) hA).trans (cs k (by omega))⟩
    refine wp_region_held (S:=fun Z=>Z.cell? ⟨W.heap.size,k,none⟩=some (.int .u16 (X k))∧Z.cell? ⟨A,3+k,none⟩=some (.int .u16 (st k))) (by kernel_rfl) ?_;refine tkH 0 16 (.int .i64 k) rfl (by kernel_rfl) (fun _ _ _ h=>h) (fun Z hZ=>by kernel_rfl) hS ?_;refine tkH 1 17 (.pointer (some ⟨M,k,none⟩)) rfl (by kernel_rfl) (fun _ _ _ h=>h) (fun Z hZ => ?y1) hS ?_
    case y1=>go_simp
    refine tkH 3 19 (.int .i64 k) rfl (by kernel_rfl) (fun _ _ _ h=>h) (fun Z hZ=>by kernel_rfl) hS ?_;refine tkH 4 20 (.pointer (some ⟨W.heap.size,k,none⟩)) rfl (by kernel_rfl) (fun _ _ _ h=>h) (fun Z hZ => ?y4) hS ?_
    case y4=>go_simp
    refine tkH 5 21 (.int .u16 (X k)) rfl (by kernel_rfl) (fun _ _ _ h=>h) (fun Z hZ => ?y5) hS ?_
    case y5=>(have z1:=hZ.1;go_simp)
    refine tkH 6 22 (.pointer (some ⟨A,0,none⟩)) rfl (by kernel_rfl) (fun _ _ _ h=>h) (fun Z hZ=>by kernel_rfl) hS ?_;refine tkH 7 23 (.int .i64 k) rfl (by kernel_rfl) (fun _ _ _ h=>h) (fun Z hZ=>by kernel_rfl) hS ?_;refine tkH 8 24 (.pointer (some ⟨A,0,none⟩)) rfl (by kernel_rfl) (fun _ _ _ h=>h) (fun Z hZ=>by kernel_rfl) hS ?_;refine tkH 9 25 (.pointer (some ⟨A,3,none⟩)) rfl (by kernel_rfl) (fun _ _ _ h=>h) (fun Z hZ=>by kernel_rfl) hS ?_;refine tkH 10 26 (.pointer (some ⟨A,3+k,none⟩)) rfl (by kernel_rfl) (fun _ _ _ h=>h) (fun Z hZ => ?y10) hS ?_
    case y10=>go_simp
    refine tkH 11 27 (.int .u16 (st k)) rfl (by kernel_rfl) (fun _ _ _ h=>h) (fun Z hZ => ?y11) hS ?_
    case y11=>(have z2:=hZ.2;go_simp)
    refine tkH 12 28 (.int .u16 ((X k &&& st k:Nat):Int)) rfl (by kernel_rfl) (fun _ _ _ h=>h) (fun Z hZ => ?y12) hS ?_
    case y12=>go_simp
    refine tkH 13 29 (.int .u16 (((X k &&& st k) <<< 1:Nat):Int)) rfl (by kernel_rfl) (fun _ _ _ h=>h) (fun Z hZ => ?y13) hS ?_
    case y13=>go_simp
    refine rdS 2 rfl (by kernel_rfl) (fun K hK => ?_);go_simp;refine hK.out _ _ hS (fun _ => ?_);refine tkH 14 30 (.int .u16 ((w1 (st k) (X k):Nat):Int)) rfl (by kernel_rfl) (fun _ _ _ h=>h) (fun Z hZ => ?y14) hS ?_
    case y14=>(go_simp;exact hor)
    refine tkH 15 31 (.pointer (some ⟨M,k,none⟩)) rfl (by kernel_rfl) (fun _ _ _ h=>h) (fun Z hZ => ?y15) hS ?_
    case y15=>go_simp
    refine rdS 16 rfl (by kernel_rfl) (fun K hK => ?_);go_simp;refine hK.out _ _ hS2 (fun _ => ?_);refine wpAnyH_done (by kernel_rfl) ?_ _;go_simp;go_wp2;go_roundg g
    case measure=>omega
    case rel=>exact⟨k+1,by go_num,by show _=_;have:=hk.out;omega,HV3,HW3⟩
structure AuR (W:World)(A:Nat)(ra:Option Addr)(rc n:Nat)(st:Nat→Nat):Prop where
 lt:A<W.heap.size
 rules:W.cell? ⟨A,0,none⟩=some (.slice ra n rc)
 stays:∀r,r<16→W.cell? ⟨A,3+r,none⟩=some (.int .u16 (st r))
theorem AuR.below (h:AuR W A ra rc n st)(hb:Below W.heap.size W W'):AuR W' A ra rc n st :=
 ⟨Nat.lt_of_lt_of_le h.lt hb.size,(hb.cell (p:=⟨A,_,none⟩) h.lt).trans h.rules,fun r hr=>(hb.cell (p:=⟨A,_,none⟩) h.lt).trans (h.stays r hr)⟩
def WdY (n:Nat)(st P Y:Nat→Nat):Prop:=(∀r,r<n→∀k,(Y r).testBit k=wdB (st r) (P r) k)∧(∀r,n≤r→Y r=P r)∧∀r,Y r<512
def qn7 (n:Nat)(st P:Nat→Nat)(e:Ending):Prop:=∃Y,e=.returned (.agg (plA Y))∧WdY n st P Y
theorem qv9 (h:AuR W A ra rc n st)(P:Nat→Nat)(hP:∀r,P r<512)(hst:∀r,st r<256)(hn:n≤16):Calls prog 139 #[.pointer (some ⟨A,0,none⟩),.agg (plA P)] W fun e W'=>qn7 n st P e∧Below W.heap.size W W' :=
 qk1 W A ra rc n st P hP hst hn h.lt h.rules h.stays
def one (k:Nat):Nat→Nat:=fun r=>if r<k then 1 else 0
theorem qqC:one 0=zPl:=by funext r;rfl
theorem qqw (k:Nat):(fun i=>if i=k then (one k k ||| 2^0:Nat) else one k i)=one (k+1):=by
 funext r;unfold one;by_cases h:r=k
 ·subst h;rw[if_pos rfl,if_neg (by omega),if_pos (by omega)];rfl
 rw[if_neg h];by_cases h2:r<k
 ·rw[if_pos h2,if_pos (by omega)]
 rw[if_neg h2,if_neg (by omega)]
theorem qsw (k r:Nat):one k r<512:=by unfold one;split<;>omega
structure quq (W:World)(X:Nat→Nat)(V:World):Prop where
 ret:V.heap[W.heap.size]? = some (.cells (plA zPl) 164)
 p:V.heap[W.heap.size+1]? = some (.cells (plA X) 164)
 below:Below W.heap.size W V
theorem quq.next (h:quq W X V)(hb:Below V.heap.size V V'):quq W X V' :=
 ⟨(hb.block _ (ltA h.ret)).trans h.ret,(hb.block _ (ltA h.p)).trans h.p,h.below.trans (hb.mono h.below.size)⟩
theorem qtC (W:World):quq W zPl ((W.alloc (.cells (plA zPl) 164)).alloc (.cells (plA zPl) 164)) :=
 ⟨(Below.heap_alloc _ _ _ (by simp)).trans (qac _ _),by have:=qac (W.alloc (.cells (plA zPl) 164)) (.cells (plA zPl) 164);simpa using this,(bwA).alloc (by simp) _⟩
theorem qok (W:World)(A:Nat)(ra:Option Addr)(rc n:Nat)(st:Nat→Nat)(hst:∀r,st r<256)(hn:n≤16)(h:AuR W A ra rc n st):Calls prog 87 #[.pointer (some ⟨A,0,none⟩)] W fun e W'=>qn7 n st (one n) e∧Below W.heap.size W W':=by
 have HA:=qaa h;have HS0:Hid (quq W zPl ((W.alloc (.cells #[.int .u16 0,.int .u16 0,.int .u16 0,.int .u16 0,.int .u16 0,.int .u16 0,.int .u16 0,.int .u16 0,.int .u16 0,.int .u16 0,.int .u16 0,.int .u16 0,.int .u16 0,.int .u16 0,.int .u16 0,.int .u16 0] 164)).alloc (.cells #[.int .u16 0,.int .u16 0,.int .u16 0,.int .u16 0,.int .u16 0,.int .u16 0,.int .u16 0,.int .u16 0,.int .u16 0,.int .u16 0,.int .u16 0,.int .u16 0,.int .u16 0,.int .u16 0,.int .u16 0,.int .u16 0] 164))):=qtC W;have c0:=h.rules;have hlt:=h.lt;go_enter func87,ntmps87;go_wp2
 go_loopg [10] n (fun g z V=>∃k:Nat,z=.int .i64 k∧Hid (k+g=n)∧Hid (quq W (one k) V))
 case atStart=>exact⟨0,rfl,by show _=_;omega,by rw[qqC];exact HS0⟩
 case round =>
  obtain⟨k,rfl,hk,HS⟩:=hrel
  cases gk with
  |zero =>
   have hl:¬(k:Int)<(n:Int):=by have:=hk.out;omega
   have hkn:k=n:=by have:=hk.out;omega
   subst hkn;have cW:=fun V hb=>qv9 (HA.out.below (W':=V) hb) (one k) (qsw k) hst hn
   go_wp2_with (first
    |(go_at_call 139;refine(cW _ HS.out.below).mono ?_;rintro e w2 ⟨⟨Y,rfl,hY⟩,hB2⟩;have HS2:=qaa (HS.out.next hB2);have HY:=qaa hY)
    |(refine wpList_load_row rfl 164 (.tmp 3) rfl (W.heap.size+1) rfl _ _ _ _ HS.out.p underlying164 rfl (qbh _) ?_)
    |(refine wpList_store_row rfl 164 (.tmp 2) (.tmp 18) rfl W.heap.size (plA Y) rfl rfl 164 (plA zPl) HS2.out.ret (qbh Y) (qjJ _ _) (qgk Y) ?_))
   refine bodyPost_ret (results_cell_row results87 _ _ W.heap.size 164 (plA Y) (0,0) _ rfl (setRow_heap _ _ _ _ _ _ HS2.out.ret) underlying164 rfl (qbh Y)) rfl ⟨⟨Y,rfl,HY.out⟩,qah HS2.out.below (Nat.le_refl _) _⟩
  |succ g =>
   have hkl:k<n:=by have:=hk.out;omega
   have hl:(k:Int)<(n:Int):=by omega
   have hc:wr.cell? ⟨W.heap.size+1,0+k,none⟩=some (.int .u16 (one k k)):=by
    have h:=qab HS.out.p (0+k);rw[qcR _ (0+k) (by omega)] at h;rw[h,Nat.zero_add]
   have hf:=frozen_of_row wr (W.heap.size+1) (0+k) _ _ HS.out.p;have cA:=qdf wr (W.heap.size+1) 0 (one k k) k 0 (by omega) (by omega) (by have:=qsw k k;omega) hc hf;have HN:Hid (quq W (one (k+1)) (wr.setCell ⟨W.heap.size+1,k,none⟩ (.int .u16 ((one k k ||| 1:Nat):Int))).drew):=by
    refine⟨(Below.heap_setCell wr _ _ _ (by simp)).trans HS.out.ret,?_,(HS.out.below.setCell (by simp) _).drew⟩;have h:=heap_setCell_same wr (W.heap.size+1) k _ _ (.int .u16 ((one k k ||| 1:Nat):Int)) HS.out.p;rw[qik,show(1:Nat)=2^0 from rfl,qqw] at h;exact h
   go_wp2_with (first
    |(go_at_call 137;refine cA.mono ?_;rintro e w2 ⟨rfl,rfl⟩))
   go_roundg g
   case measure=>omega
   case rel=>exact⟨k+1,by go_num,by show _=_;have:=hk.out;omega,HN⟩
def qq5 (u:Nat):Nat:=if u=0 then 4 else if u=1 then 6 else if u=2 then 7 else if u=3 then 8 else if u=4 then 9 else if u=5 then 10 else 0
def qiN (c:Nat):Nat×Nat×Nat :=
 if c=244 then (2,0,0) else if c=245 then (3,0,0) else if c=246 then (1,0,0) else
 if qq5 (c / 32)=0∨27<c%32 then (0,0,0) else if 24≤c%32 then (qq5 (c / 32),2^(c%32-24),0) else (qq5 (c / 32),0,c%32)
def qgC:List (Nat×Nat):=[(1,0),(0,0),(2,0),(3,0),(7,1),(7,2),(7,4),(0,0),(0,0),(0,0),(0,0),(0,0),(4,1),(4,2),(4,4),(4,8),(5,1),(5,2),(5,4),(5,8),(0,0),(0,0),(0,0),(0,0),(0,0),(8,1),(8,2),(8,4),(9,2),(9,4),(10,2),(10,4)]
def qfo (c:Nat):Nat×Nat×Nat :=
 if c<128 then (4,0,c) else if c<144 then (10,0,c-128) else if c<160 then (9,0,c-144) else if c<192 then (8,0,c-160) else
 if c<224 then ((qgC.getD (c-192) (0,0)).1,(qgC.getD (c-192) (0,0)).2,0) else (5,0,18446744073709551360+c)
structure qdh (W:World):Prop where
 cb:∀u,u<8→W.cell? ⟨0,u,none⟩=some (.int .i64 (qq5 u))
 pk:∀u,u<32→W.cell? ⟨1,u*3,none⟩=some (.int .i64 (qgC.getD u (0,0)).1)∧W.cell? ⟨1,u*3+1,none⟩=some (.int .i64 (qgC.getD u (0,0)).2)∧W.cell? ⟨1,u*3+2,none⟩=some (.int .u64 0)
def hdA (x:Nat×Nat×Nat):Array Value:=#[.int .i64 x.1,.int .i64 x.2.1,.int .u64 x.2.2]
theorem qgr:(prog.info? 273).map (·.size)=some 3:=by kernel_rfl
theorem qdD (W:World)(cs:Array Value)(hc:cs.size=3)(tmps:Array Value)(hp:tmps.getD 2 undef=.pointer (some ⟨W.heap.size,0,none⟩)){fn:Func}(h:fn.results=#[.cell 2 273]):(results fn tmps).run prog (W.alloc (.cells cs 273))=.ok (.agg cs) (W.alloc (.cells cs 273)) :=
 results_cell_row h tmps _ W.heap.size 273 cs (0,0) _ hp (qac _ _) underlying273 rfl (by rw[hc];exact qgr)
theorem qmv (x:Nat)(hx:x<256):bits .and .u8 (x:Int) 31=((x%32:Nat):Int):=by
 have e1:BitVec.ofInt 8 (x:Int)=BitVec.ofNat 8 x:=BitVec.ofInt_natCast ..;have e3:(BitVec.ofNat 8 x &&& BitVec.ofInt 8 31).toNat=x%32:=by
  rw[BitVec.toNat_and,BitVec.toNat_ofNat,Nat.mod_eq_of_lt (by omega)];exact Nat.and_two_pow_sub_one_eq_mod x 5
 show IntKind.u8.wrap ((BitVec.ofInt 8 (x:Int) &&& BitVec.ofInt 8 31).toNat:Int)=_;rw[e1,e3];unfold IntKind.wrap;simp[IntKind.bits,IntKind.signed];omega
theorem qwO {u:Nat}(h0:¬u=0)(h1:((u:Int)==0)=true∨(27:Int)<(x:Int)%32):27<x%32:=by
 rcases h1 with h1|h1
 ·exact absurd (by simpa using h1) h0
 omega
theorem qbH (W:World)(cs:Array Value):Below W.heap.size W (W.alloc (.cells cs 273)):=bwA
theorem qjL (W:World)(x:Nat)(hx:x<256)(h:qdh W):Calls prog 107 #[.int .u8 x] W fun e W'=>e=.returned (.agg (hdA (qiN x)))∧Below W.heap.size W W':=by
 by_cases c0:x=244
 ·subst c0;go_enter func107,ntmps107;go_wp2;exact bodyPost_ret (qdD W _ rfl _ rfl results107) rfl ⟨rfl,qbH _ _⟩
 by_cases c1:x=245
 ·subst c1;go_enter func107,ntmps107;go_wp2;exact bodyPost_ret (qdD W _ rfl _ rfl results107) rfl ⟨rfl,qbH _ _⟩
 by_cases c2:x=246
 ·subst c2;go_enter func107,ntmps107;go_wp2;exact bodyPost_ret (qdD W _ rfl _ rfl results107) rfl ⟨rfl,qbH _ _⟩
 have b0:((x:Int)==244)=false:=by simp;omega
 have b1:((x:Int)==245)=false:=by simp;omega
 have b2:((x:Int)==246)=false:=by simp;omega
 have ha:=qmv x hx;have hq:x / 32<8:=by omega
 have hcell:=h.cb (x / 32) hq;have hk:(W.alloc (.cells #[.int .i64 0,.int .i64 0,.int .u64 0] 273)).cell? ⟨0,x / 32,none⟩=some (.int .i64 (qq5 (x / 32))):=(World.cell?_alloc_some W _ _ (by rw[hcell];rfl)).trans hcell;have HC:Hid (qiN x=if qq5 (x / 32)=0∨27<x%32 then (0,0,0) else if 24≤x%32 then (qq5 (x / 32),2^(x%32-24),0) else (qq5 (x / 32),0,x%32)):=by
  show _=_;unfold qiN;rw[if_neg c0,if_neg c1,if_neg c2]
 go_enter func107,ntmps107;go_wp2
 all_goals refine bodyPost_ret (qdD W _ rfl _ rfl results107) rfl ⟨?_,qbH _ _⟩
 all_goals rw[HC.out]
 ·rename_i h0
  rw[if_pos (.inl h0)];rfl
 ·rename_i h0 h1
  rw[if_pos (.inr (qwO h0 h1))];rfl
 ·rename_i h0 h1 h2
  rw[if_neg (by have:=h1.2;omega),if_pos (by omega)];have e:wrap64 (2^(x%32-24))=((2^(x%32-24):Nat):Int):=by
   have h3:x%32-24=0∨x%32-24=1∨x%32-24=2∨x%32-24=3:=by have:=h1.2;omega
   rcases h3 with h3|h3|h3|h3<;>rw[h3]<;>simp[wrap64]
  rw[e];rfl
 rename_i h0 h1 h2
 rw[if_neg (by have:=h1.2;omega),if_neg (by omega)];unfold hdA;simp
theorem qwv (x:Nat)(h:224≤x)(hx:x<256):IntKind.u64.wrap (IntKind.i8.wrap (x:Int))=((18446744073709551360+x:Nat):Int):=by
 have e:IntKind.i8.wrap (x:Int)=(x:Int)-256:=by
  unfold IntKind.wrap;simp only[IntKind.bits,IntKind.signed,Bool.true_and];split<;>rename_i h<;>simp at h<;>omega
 rw[e];unfold IntKind.wrap;simp only[IntKind.bits,IntKind.signed,Bool.false_and];rw[if_neg (by decide)];omega
theorem qj7 (W:World)(x:Nat)(hx:x<256)(h:qdh W):Calls prog 108 #[.int .u8 x] W fun e W'=>e=.returned (.agg (hdA (qfo x)))∧Below W.heap.size W W':=by
 by_cases c0:x<128
 ·have HC:Hid (qfo x=(4,0,x)):=by show _=_;unfold qfo;rw[if_pos c0]
  have d0:decide ((x:Int)<128)=true:=by simp;omega
  have hxi:IntKind.u64.wrap (x:Int)=x:=by unfold IntKind.wrap;simp[IntKind.bits,IntKind.signed];omega
  clear h c0 hx;go_enter func108,ntmps108;go_wp2;refine bodyPost_ret (qdD W _ rfl _ rfl results108) rfl ⟨?_,qbH _ _⟩;rw[HC.out];rfl
 by_cases c1:192≤x∧x<224
 ·have HC:Hid (qfo x=((qgC.getD (x-192) (0,0)).1,(qgC.getD (x-192) (0,0)).2,0)):=by
   show _=_;unfold qfo;rw[if_neg (by omega),if_neg (by omega),if_neg (by omega),if_neg (by omega),if_pos (by omega)]
  obtain⟨p0,p1,p2⟩:=h.pk (x-192) (by omega);obtain⟨u,hu⟩:∃u:Nat,x=192+u:=⟨x-192,by omega⟩
  subst hu;have e0:192+u-192=u:=by omega
  rw[e0] at p0 p1 p2;have k0:(W.alloc (.cells #[.int .i64 0,.int .i64 0,.int .u64 0] 273)).cell? ⟨1,u*3,none⟩=_:=(World.cell?_alloc_some W _ _ (by rw[p0];rfl)).trans p0;have k1:(W.alloc (.cells #[.int .i64 0,.int .i64 0,.int .u64 0] 273)).cell? ⟨1,u*3+1,none⟩=_:=(World.cell?_alloc_some W _ _ (by rw[p1];rfl)).trans p1;have k2:(W.alloc (.cells #[.int .i64 0,.int .i64 0,.int .u64 0] 273)).cell? ⟨1,u*3+2,none⟩=_:=(World.cell?_alloc_some W _ _ (by rw[p2];rfl)).trans p2;have hul:u<32:=by omega
  clear h p0 p1 p2 hx c0 c1;go_enter func108,ntmps108;go_wp2
  all_goals refine bodyPost_ret (qdD W _ rfl _ rfl results108) rfl ⟨?_,qbH _ _⟩
  all_goals rw[HC.out,e0]
  all_goals rfl
 by_cases c2:x<192
 ·obtain⟨R,HC⟩:∃R,Hid (qfo x=R):=⟨_,show _=_ from rfl⟩
  rw[HC.out];have hr:=HC.out;unfold qfo at hr;rw[if_neg c0] at hr;have HX:Hid (128≤x∧x<192):=⟨by omega,c2⟩
  have d0:decide ((x:Int)<128)=false:=by simp;omega
  by_cases c3:x<144
  ·rw[if_pos c3] at hr;have d1:decide ((x:Int)<144)=true:=by simp;omega
   have HR:=qaa hr.symm;clear hr HC h hx c0 c1 c2 c3;go_enter func108,ntmps108;go_wp2;refine bodyPost_ret (qdD W _ rfl _ rfl results108) rfl ⟨?_,qbH _ _⟩;rw[HR.out,show((x:Int)-128)%256=((x-128:Nat):Int) by have:=HX.out.1;have:=HX.out.2;omega];rfl
  rw[if_neg c3] at hr;have d1:decide ((x:Int)<144)=false:=by simp;omega
  by_cases c4:x<160
  ·rw[if_pos c4] at hr;have d2:decide ((x:Int)<160)=true:=by simp;omega
   have HR:=qaa hr.symm;have HX2:Hid (144≤x):=by show _≤_;omega
   clear hr HC h hx c0 c1 c2 c3 c4;go_enter func108,ntmps108;go_wp2;refine bodyPost_ret (qdD W _ rfl _ rfl results108) rfl ⟨?_,qbH _ _⟩;rw[HR.out,show((x:Int)-144)%256=((x-144:Nat):Int) by have:=HX2.out;have:=HX.out.2;omega];rfl
  rw[if_neg c4,if_pos c2] at hr;have d2:decide ((x:Int)<160)=false:=by simp;omega
  have d3:decide ((x:Int)<192)=true:=by simp;omega
  have HR:=qaa hr.symm;have HX2:Hid (160≤x):=by show _≤_;omega
  clear hr HC h hx c0 c1 c2 c3 c4;go_enter func108,ntmps108;go_wp2;refine bodyPost_ret (qdD W _ rfl _ rfl results108) rfl ⟨?_,qbH _ _⟩;rw[HR.out,show((x:Int)-160)%256=((x-160:Nat):Int) by have:=HX2.out;have:=HX.out.2;omega];rfl
 have HC:Hid (qfo x=(5,0,18446744073709551360+x)):=by
  show _=_;unfold qfo;rw[if_neg (by omega),if_neg (by omega),if_neg (by omega),if_neg (by omega),if_neg (by omega)]
 have d0:decide ((x:Int)<128)=false:=by simp;omega
 have d1:decide ((x:Int)<144)=false:=by simp;omega
 have d2:decide ((x:Int)<160)=false:=by simp;omega
 have d3:decide ((x:Int)<192)=false:=by simp;omega
 have d4:decide ((x:Int)<224)=false:=by simp;omega
 have hw:=qwv x (by omega) hx;have HW:=qaa hw;clear h hx c0 c1 c2 hw;go_enter func108,ntmps108;go_wp2;refine bodyPost_ret (qdD W _ rfl _ rfl results108) rfl ⟨?_,qbH _ _⟩;rw[HC.out,HW.out];rfl
end
section
open Go.RowKit Go.Lib
def qa2 (x:Nat):List UInt8:=if x<32 then [UInt8.ofNat (160+x)] else if x≤255 then 217::beF x 1 else if x≤65535 then 218::beF x 2 else 219::beF x 4
theorem qh4:∀x:Fin 32,bits .or .u8 160 (x.val:Int)=((160+x.val:Nat):Int):=by decide
theorem qmX (W:World)(base:Nat)(v:Value)(bs:List UInt8)(x:Nat)(hx:x<4294967296)(hl:bs.length≤999999999)(h:Own W base v bs):Calls prog 203 #[v,.int .u64 x] W fun e W'=>∃v',e=.returned v'∧Own W' base v' (bs++qa2 x)∧Below base W W':=by
 obtain⟨i0,hi,hz0,hz1,hz2⟩:=info_parts Tryz.infoU8;obtain⟨ho,hb,a,n,c,rfl⟩:=h;have HO:=qaa ho;by_cases c0:x<32
 ·have hr:Hid (qa2 x=[UInt8.ofNat (160+x)]):=by show _=_;unfold qa2;rw[if_pos c0]
  have hor:=qh4 ⟨x,c0⟩;simp only[] at hor;have HV:Hid (qav (UInt8.ofNat (160+x))=.int .u8 (bits .or .u8 160 (x:Int))):=by show _=_;rw[hor,qaQ _ (by omega)]
  have HV2:Hid (qav (UInt8.ofNat (160+x))=.int .u8 (160+(x:Int))):=by show _=_;rw[qaQ _ (by omega)];simp
  go_enter func203,ntmps203
  go_wp2_with (first
   |(at_builtin;refine wpList_append_own _ rfl _ _ 28 rfl base 5 i0 (.int .u8 0) 1 1 underlying28 hi hz0 hz1 hz2 rfl (by decide) _ _ _ rfl (HO.out.alloc _) ⟨W.heap.size,0,none⟩ 1 1 [.int .u8 (bits .or .u8 160 (x:Int))] rfl rfl (qag _ _ _) (fun u hu=>by simp at hu;subst hu;rfl) (by unfold maxLen;omega) (by omega) (by simp;omega) ?_;intro v' w5 hown' hgrow5 hnil5;have HB:=qaa (qax hb HO.out HV.out hown' hgrow5);obtain⟨g5,cap5,rfl⟩:=ownsRow_succ hown')
   |(at_builtin;refine wpList_append_own _ rfl _ _ 28 rfl base 5 i0 (.int .u8 0) 1 1 underlying28 hi hz0 hz1 hz2 rfl (by decide) _ _ _ rfl (HO.out.alloc _) ⟨W.heap.size,0,none⟩ 1 1 [.int .u8 (160+(x:Int))] rfl rfl (qag _ _ _) (fun u hu=>by simp at hu;subst hu;rfl) (by unfold maxLen;omega) (by omega) (by simp;omega) ?_;intro v' w5 hown' hgrow5 hnil5;have HB:Hid (Own w5 base v' (bs++[UInt8.ofNat (160+x)])∧Below base W w5):=qax hb HO.out HV2.out hown' hgrow5;obtain⟨g5,cap5,rfl⟩:=ownsRow_succ hown'))
  go_ret;rw[hr.out];exact⟨_,rfl,HB.out⟩
 by_cases c1:x≤255
 ·have hr:Hid (qa2 x=217::beF x 1):=by show _=_;unfold qa2;rw[if_neg c0];rw[if_pos c1]
  go_enter func203,ntmps203
  go_wp2_with (first
   |(at_builtin;refine wpList_append_own _ rfl _ _ 28 rfl base 5 i0 (.int .u8 0) 1 1 underlying28 hi hz0 hz1 hz2 rfl (by decide) _ _ _ rfl (HO.out.alloc _) ⟨W.heap.size,0,none⟩ 1 1 [.int .u8 217] rfl rfl (qag _ _ _) (fun u hu=>by simp at hu;subst hu;rfl) (by unfold maxLen;omega) (by omega) (by simp;omega) ?_;intro v' w5 hown' hgrow5 hnil5;have HB:Hid (Own w5 base v' (bs++[217])∧Below base W w5):=qax hb HO.out rfl hown' hgrow5;obtain⟨g5,cap5,rfl⟩:=ownsRow_succ hown')
   |(go_at_call 202;refine(qaq _ base _ _ x 1 (by omega) (by omega) (by simp;omega) HB.out.1).mono ?_;rintro e w6 ⟨v6,rfl,h6,hB6⟩;obtain⟨h61,h62,a6,n6,c6,rfl⟩:=h6;have HC:=qaa (qaJ HB.out ⟨h61,h62,a6,n6,c6,rfl⟩ hB6 (hr.out.symm))))
  go_ret;exact⟨_,rfl,HC.out⟩
 by_cases c2:x≤65535
 ·have hr:Hid (qa2 x=218::beF x 2):=by show _=_;unfold qa2;rw[if_neg c0];rw[if_neg c1];rw[if_pos c2]
  go_enter func203,ntmps203
  go_wp2_with (first
   |(at_builtin;refine wpList_append_own _ rfl _ _ 28 rfl base 5 i0 (.int .u8 0) 1 1 underlying28 hi hz0 hz1 hz2 rfl (by decide) _ _ _ rfl (HO.out.alloc _) ⟨W.heap.size,0,none⟩ 1 1 [.int .u8 218] rfl rfl (qag _ _ _) (fun u hu=>by simp at hu;subst hu;rfl) (by unfold maxLen;omega) (by omega) (by simp;omega) ?_;intro v' w5 hown' hgrow5 hnil5;have HB:Hid (Own w5 base v' (bs++[218])∧Below base W w5):=qax hb HO.out rfl hown' hgrow5;obtain⟨g5,cap5,rfl⟩:=ownsRow_succ hown')
   |(go_at_call 202;refine(qaq _ base _ _ x 2 (by omega) (by omega) (by simp;omega) HB.out.1).mono ?_;rintro e w6 ⟨v6,rfl,h6,hB6⟩;obtain⟨h61,h62,a6,n6,c6,rfl⟩:=h6;have HC:=qaa (qaJ HB.out ⟨h61,h62,a6,n6,c6,rfl⟩ hB6 (hr.out.symm))))
  go_ret;exact⟨_,rfl,HC.out⟩
 have hr:Hid (qa2 x=219::beF x 4):=by show _=_;unfold qa2;rw[if_neg c0];rw[if_neg c1];rw[if_neg c2]
 go_enter func203,ntmps203
 go_wp2_with (first
  |(at_builtin;refine wpList_append_own _ rfl _ _ 28 rfl base 5 i0 (.int .u8 0) 1 1 underlying28 hi hz0 hz1 hz2 rfl (by decide) _ _ _ rfl (HO.out.alloc _) ⟨W.heap.size,0,none⟩ 1 1 [.int .u8 219] rfl rfl (qag _ _ _) (fun u hu=>by simp at hu;subst hu;rfl) (by unfold maxLen;omega) (by omega) (by simp;omega) ?_;intro v' w5 hown' hgrow5 hnil5;have HB:Hid (Own w5 base v' (bs++[219])∧Below base W w5):=qax hb HO.out rfl hown' hgrow5;obtain⟨g5,cap5,rfl⟩:=ownsRow_succ hown')
  |(go_at_call 202;refine(qaq _ base _ _ x 4 (by omega) (by omega) (by simp;omega) HB.out.1).mono ?_;rintro e w6 ⟨v6,rfl,h6,hB6⟩;obtain⟨h61,h62,a6,n6,c6,rfl⟩:=h6;have HC:=qaa (qaJ HB.out ⟨h61,h62,a6,n6,c6,rfl⟩ hB6 (hr.out.symm))))
 go_ret;exact⟨_,rfl,HC.out⟩
theorem qj4 (W:World)(base:Nat)(v:Value)(bs l:List UInt8)(hl:bs.length≤999999999)(hl2:l.length≤999999999)(h:Own W base v bs):Calls prog 167 #[v,.string ⟨l.toArray⟩] W fun e W'=>∃v',e=.returned v'∧Own W' base v' (bs++(qa2 l.length++l))∧Below base W W':=by
 obtain⟨i0,hi,hz0,hz1,hz2⟩:=info_parts Tryz.infoU8;have cH:=qmX W base v bs l.length (by omega) hl h;have hcl:(qa2 l.length).length≤9:=by
  unfold qa2;have hb:∀x k,(beF x k).length=k:=fun x k=>by induction k with|zero=>rfl|succ k ih=>rw[beF,List.length_cons,ih]
  repeat' split
  all_goals simp[hb]
 have hsz:(⟨l.toArray⟩:ByteArray).size=l.length:=List.size_toArray ..;obtain⟨_,_,a,n,c,rfl⟩:=h;go_enter func167,ntmps167
 go_wp2_with (first
  |(go_at_call 203;refine cH.mono ?_;rintro e w2 ⟨v2,rfl,h2,hB2⟩;obtain⟨o2,b2,a2,n2,c2,rfl⟩:=h2;have HO2:Hid (Own w2 base (.slice a2 n2 c2) (bs++qa2 l.length)):=⟨o2,b2,_,_,_,rfl⟩;have HB2:=qaa hB2)
  |(at_builtin;refine wpList_append_own_string _ rfl _ _ 28 9 rfl base 5 i0 underlying28 underlying9 hi hz0 hz1 hz2 _ _ _ rfl HO2.out.1 ⟨l.toArray⟩ rfl (by rw[hsz,List.length_append];unfold maxLen;omega) (by rw[hsz,List.length_append];omega) HO2.out.2.1 ?_;intro v' w5 hown' hgrow5 hnil5;have HN:=qaa (qaL HO2.out hown' hgrow5)))
 go_ret;rw[List.append_assoc] at HN;exact⟨_,rfl,HN.out.1,HB2.out.trans HN.out.2⟩
end
section
open Go.RowKit
theorem qbF (W:World)(base:Nat)(v:Value)(bs:List UInt8)(z:Int)(w:Nat)(hw:w≤8)(hl:bs.length≤1000000000)(h:Own W base v bs):Calls prog 202 #[v,.int .u64 (IntKind.u64.wrap z),.int .i64 w] W fun e W'=>∃v',e=.returned v'∧Own W' base v' (bs++beF (z%18446744073709551616).toNat w)∧Below base W W':=by
 have e:IntKind.u64.wrap z=(((z%18446744073709551616).toNat:Nat):Int):=by unfold IntKind.wrap;simp[IntKind.bits,IntKind.signed];omega
 rw[e];exact qaq W base v bs _ w (by omega) hw hl h
theorem qkE (W:World)(base:Nat)(v:Value)(bs:List UInt8)(z:Int)(hn1 : -9223372036854775808≤z)(hn2:z<0)(hl:bs.length≤999999999)(h:Own W base v bs):Calls prog 165 #[v,.int .i64 z] W fun e W'=>∃v',e=.returned v'∧Own W' base v' (bs++qbo z)∧Below base W W':=by
 obtain⟨i0,hi,hz0,hz1,hz2⟩:=info_parts Tryz.infoU8;obtain⟨ho,hb,a,n,c,rfl⟩:=h;have HO:=qaa ho;by_cases c0 : -32≤z
 ·have hr:Hid (qbo z=UInt8.ofNat (z%256).toNat::[]):=by show _=_;unfold qbo;rw[if_pos c0]
  go_enter func165,ntmps165
  go_wp2_with (first
    |(at_builtin;refine wpList_append_own _ rfl _ _ 28 rfl base 5 i0 (.int .u8 0) 1 1 underlying28 hi hz0 hz1 hz2 rfl (by decide) _ _ _ rfl (HO.out.alloc _) ⟨W.heap.size,0,none⟩ 1 1 [.int .u8 (z%256)] rfl rfl (qag _ _ _) (fun u hu=>by simp at hu;subst hu;rfl) (by unfold maxLen;omega) (by omega) (by simp;omega) ?_;intro v' w5 hown' hgrow5 hnil5;obtain⟨g5,cap5,rfl⟩:=ownsRow_succ hown';have HB:Hid (Own w5 base _ (bs++[UInt8.ofNat (z%256).toNat])∧Below base W w5):=qax hb HO.out ((qaQ _ (by omega)).trans (by congr 1;omega)) hown' hgrow5))
  go_ret;rw[hr.out];exact⟨_,rfl,HB.out⟩
 skip
 by_cases c1 : -128≤z
 ·have hr:Hid (qbo z=208::beF (z%18446744073709551616).toNat 1):=by show _=_;unfold qbo;rw[if_neg c0];rw[if_pos c1]
  go_enter func165,ntmps165
  go_wp2_with (first
    |(at_builtin;refine wpList_append_own _ rfl _ _ 28 rfl base 5 i0 (.int .u8 0) 1 1 underlying28 hi hz0 hz1 hz2 rfl (by decide) _ _ _ rfl (HO.out.alloc _) ⟨W.heap.size,0,none⟩ 1 1 [.int .u8 208] rfl rfl (qag _ _ _) (fun u hu=>by simp at hu;subst hu;rfl) (by unfold maxLen;omega) (by omega) (by simp;omega) ?_;intro v' w5 hown' hgrow5 hnil5;obtain⟨g5,cap5,rfl⟩:=ownsRow_succ hown';have HB:Hid (Own w5 base _ (bs++[208])∧Below base W w5):=qax hb HO.out (rfl) hown' hgrow5)
    |(go_at_call 202;refine(qbF _ base _ _ z 1 (by omega) (by simp;omega) HB.out.1).mono ?_;rintro e w6 ⟨v6,rfl,h6,hB6⟩;obtain⟨h61,h62,a6,n6,c6,rfl⟩:=h6;have HC:=qaa (qaJ HB.out ⟨h61,h62,a6,n6,c6,rfl⟩ hB6 (hr.out.symm))))
  go_ret;exact⟨_,rfl,HC.out⟩
 skip
 by_cases c2 : -32768≤z
 ·have hr:Hid (qbo z=209::beF (z%18446744073709551616).toNat 2):=by show _=_;unfold qbo;rw[if_neg c0];rw[if_neg c1];rw[if_pos c2]
  go_enter func165,ntmps165
  go_wp2_with (first
    |(at_builtin;refine wpList_append_own _ rfl _ _ 28 rfl base 5 i0 (.int .u8 0) 1 1 underlying28 hi hz0 hz1 hz2 rfl (by decide) _ _ _ rfl (HO.out.alloc _) ⟨W.heap.size,0,none⟩ 1 1 [.int .u8 209] rfl rfl (qag _ _ _) (fun u hu=>by simp at hu;subst hu;rfl) (by unfold maxLen;omega) (by omega) (by simp;omega) ?_;intro v' w5 hown' hgrow5 hnil5;obtain⟨g5,cap5,rfl⟩:=ownsRow_succ hown';have HB:Hid (Own w5 base _ (bs++[209])∧Below base W w5):=qax hb HO.out (rfl) hown' hgrow5)
    |(go_at_call 202;refine(qbF _ base _ _ z 2 (by omega) (by simp;omega) HB.out.1).mono ?_;rintro e w6 ⟨v6,rfl,h6,hB6⟩;obtain⟨h61,h62,a6,n6,c6,rfl⟩:=h6;have HC:=qaa (qaJ HB.out ⟨h61,h62,a6,n6,c6,rfl⟩ hB6 (hr.out.symm))))
  go_ret;exact⟨_,rfl,HC.out⟩
 skip
 by_cases c3 : -2147483648≤z
 ·have hr:Hid (qbo z=210::beF (z%18446744073709551616).toNat 4):=by show _=_;unfold qbo;rw[if_neg c0];rw[if_neg c1];rw[if_neg c2];rw[if_pos c3]
  go_enter func165,ntmps165
  go_wp2_with (first
    |(at_builtin;refine wpList_append_own _ rfl _ _ 28 rfl base 5 i0 (.int .u8 0) 1 1 underlying28 hi hz0 hz1 hz2 rfl (by decide) _ _ _ rfl (HO.out.alloc _) ⟨W.heap.size,0,none⟩ 1 1 [.int .u8 210] rfl rfl (qag _ _ _) (fun u hu=>by simp at hu;subst hu;rfl) (by unfold maxLen;omega) (by omega) (by simp;omega) ?_;intro v' w5 hown' hgrow5 hnil5;obtain⟨g5,cap5,rfl⟩:=ownsRow_succ hown';have HB:Hid (Own w5 base _ (bs++[210])∧Below base W w5):=qax hb HO.out (rfl) hown' hgrow5)
    |(go_at_call 202;refine(qbF _ base _ _ z 4 (by omega) (by simp;omega) HB.out.1).mono ?_;rintro e w6 ⟨v6,rfl,h6,hB6⟩;obtain⟨h61,h62,a6,n6,c6,rfl⟩:=h6;have HC:=qaa (qaJ HB.out ⟨h61,h62,a6,n6,c6,rfl⟩ hB6 (hr.out.symm))))
  go_ret;exact⟨_,rfl,HC.out⟩
 skip
 have hr:Hid (qbo z=211::beF (z%18446744073709551616).toNat 8):=by show _=_;unfold qbo;rw[if_neg c0];rw[if_neg c1];rw[if_neg c2];rw[if_neg c3]
 go_enter func165,ntmps165
 go_wp2_with (first
   |(at_builtin;refine wpList_append_own _ rfl _ _ 28 rfl base 5 i0 (.int .u8 0) 1 1 underlying28 hi hz0 hz1 hz2 rfl (by decide) _ _ _ rfl (HO.out.alloc _) ⟨W.heap.size,0,none⟩ 1 1 [.int .u8 211] rfl rfl (qag _ _ _) (fun u hu=>by simp at hu;subst hu;rfl) (by unfold maxLen;omega) (by omega) (by simp;omega) ?_;intro v' w5 hown' hgrow5 hnil5;obtain⟨g5,cap5,rfl⟩:=ownsRow_succ hown';have HB:Hid (Own w5 base _ (bs++[211])∧Below base W w5):=qax hb HO.out (rfl) hown' hgrow5)
   |(go_at_call 202;refine(qbF _ base _ _ z 8 (by omega) (by simp;omega) HB.out.1).mono ?_;rintro e w6 ⟨v6,rfl,h6,hB6⟩;obtain⟨h61,h62,a6,n6,c6,rfl⟩:=h6;have HC:=qaa (qaJ HB.out ⟨h61,h62,a6,n6,c6,rfl⟩ hB6 (hr.out.symm))))
 go_ret;exact⟨_,rfl,HC.out⟩
theorem qdt (z:Int):∀w:World,(Instr.typeAssert (.iface 279 (.int .i64 z)) 81 277 true).run prog w=.ok (.tuple #[.bool false,.bool false]) w:=fun w=>by kernel_rfl
theorem qfJ (z:Int):∀w:World,(Instr.typeAssert (.iface 279 (.int .i64 z)) 81 279 true).run prog w=.ok (.tuple #[.int .i64 z,.bool true]) w:=fun w=>by kernel_rfl
def qid (z:Int):List UInt8:=if z<0 then qbo z else qbf z.toNat
def qhB (z:Int):List UInt8:=if z<0 then qaj 1 (-1-z).toNat else qaj 0 z.toNat
theorem qo0 (W:World)(base:Nat)(v:Value)(bs:List UInt8)(z:Int)(hn1 : -9223372036854775808≤z)(hn2:z≤9223372036854775807)(hl:bs.length≤999999999)(h:Own W base v bs):Calls prog 111 #[v,qpT z] W fun e W'=>∃v',e=.returned v'∧Own W' base v' (bs++qid z)∧Below base W W':=by
 unfold qpT;obtain⟨ho,hb,a,n,c,rfl⟩:=h;have HO:Hid (Own W base (.slice a n c) bs):=⟨ho,hb,a,n,c,rfl⟩
 have hk:Hid (qid z=if z<0 then qbo z else qbf z.toNat):=rfl;by_cases c0:z<0
 ·have hr:Hid (qid z=qbo z):=by show _=_;rw[hk.out,if_pos c0]
  have c1:decide (z<0)=true:=by simp;exact c0
  have ta1:=qdt z;have ta2:=qfJ z;go_enter func111,ntmps111
  go_wp2_with (first
   |(go_at_call 165;refine(qkE _ base _ bs z hn1 c0 hl HO.out).mono ?_;rintro e w6 ⟨v6,rfl,h6,hB6⟩;obtain⟨h61,h62,a6,n6,c6,rfl⟩:=h6))
  go_ret;rw[hr.out];exact⟨_,rfl,⟨h61,h62,_,_,_,rfl⟩,hB6⟩
 have hr:Hid (qid z=qbf z.toNat):=by show _=_;rw[hk.out,if_neg c0]
 obtain⟨x,rfl⟩:∃x:Nat,z=x:=⟨z.toNat,by omega⟩
 have c1:decide ((x:Int)<0)=false:=by simp
 have ta1:=qdt (x:Int);have ta2:=qfJ (x:Int);go_enter func111,ntmps111
 go_wp2_with (first
  |(go_at_call 166;refine(qlh _ base _ bs x (by omega) hl HO.out).mono ?_;rintro e w6 ⟨v6,rfl,h6,hB6⟩;obtain⟨h61,h62,a6,n6,c6,rfl⟩:=h6))
 go_ret;rw[hr.out];exact⟨_,rfl,⟨h61,h62,_,_,_,rfl⟩,hB6⟩
theorem qoW (W:World)(base:Nat)(v:Value)(bs:List UInt8)(z:Int)(hn1 : -9223372036854775808≤z)(hn2:z≤9223372036854775807)(hl:bs.length≤999999999)(h:Own W base v bs):Calls prog 110 #[v,qpT z] W fun e W'=>∃v',e=.returned v'∧Own W' base v' (bs++qhB z)∧Below base W W':=by
 unfold qpT;obtain⟨ho,hb,a,n,c,rfl⟩:=h;have HO:Hid (Own W base (.slice a n c) bs):=⟨ho,hb,a,n,c,rfl⟩
 have hk:Hid (qhB z=if z<0 then qaj 1 (-1-z).toNat else qaj 0 z.toNat):=rfl;by_cases c0:z<0
 ·have hr:Hid (qhB z=qaj 1 (-1-z).toNat):=by show _=_;rw[hk.out,if_pos c0]
  obtain⟨x,rfl⟩:∃x:Nat,z = -1-(x:Int):=⟨(-1-z).toNat,by omega⟩
  have cA:=fun V h=>qbl V base (.slice a n c) bs 1 x (by omega) (by omega) hl h;have cB:∀V,Own V base (.slice a n c) bs→Calls prog 163 #[.slice a n c,.int .u8 1,.int .u64 (-1-(-1-(x:Int)))] V fun e W'=>∃v',e=.returned v'∧Own W' base v' (bs++qaj 1 x)∧Below base V W':=by
   rw[show(-1-(-1-(x:Int)))=x by omega];exact cA
  rw[show(-1-(-1-(x:Int))).toNat=x by omega] at hr;have ta1:=qdt (-1-(x:Int));have ta2:=qfJ (-1-(x:Int));go_enter func110,ntmps110
  go_wp2_with (first
   |(go_at_call 163;refine(cB _ HO.out).mono ?_;rintro e w6 ⟨v6,rfl,h6,hB6⟩;obtain⟨h61,h62,a6,n6,c6,rfl⟩:=h6))
  go_ret;rw[hr.out];exact⟨_,rfl,⟨h61,h62,_,_,_,rfl⟩,hB6⟩
 have hr:Hid (qhB z=qaj 0 z.toNat):=by show _=_;rw[hk.out,if_neg c0]
 obtain⟨x,rfl⟩:∃x:Nat,z=x:=⟨z.toNat,by omega⟩
 have c1:decide ((x:Int)<0)=false:=by simp
 have ta1:=qdt (x:Int);have ta2:=qfJ (x:Int);go_enter func110,ntmps110
 go_wp2_with (first
  |(go_at_call 163;refine(qbl _ base _ bs 0 x (by omega) (by omega) hl HO.out).mono ?_;rintro e w6 ⟨v6,rfl,h6,hB6⟩;obtain⟨h61,h62,a6,n6,c6,rfl⟩:=h6))
 go_ret;rw[hr.out];exact⟨_,rfl,⟨h61,h62,_,_,_,rfl⟩,hB6⟩
structure AuT (W:World)(A tb L tc:Nat)(tk:Nat→Nat→Nat):Prop where
 lt:A<W.heap.size
 tlt:tb<W.heap.size
 takes:W.cell? ⟨A,19,none⟩=some (.slice (some ⟨tb,0,none⟩) L tc)
 at_:∀x r,x<L→r<16→W.cell? ⟨tb,x*16+r,none⟩=some (.int .u16 (tk x r))
theorem AuT.below {tb L tc:Nat}{tk:Nat→Nat→Nat}(h:AuT W A tb L tc tk)(hb:Below W.heap.size W W'):AuT W' A tb L tc tk :=
 ⟨Nat.lt_of_lt_of_le h.lt hb.size,Nat.lt_of_lt_of_le h.tlt hb.size,(hb.cell (p:=⟨A,_,none⟩) h.lt).trans h.takes,fun x r hx hr=>(hb.cell (p:=⟨tb,_,none⟩) h.tlt).trans (h.at_ x r hx hr)⟩
def gon (st tk x:Nat):Nat:=(x &&& st) ||| ((x &&& tk) <<< 1)
def qhV (st tk P:Nat→Nat)(k:Nat):Nat→Nat:=fun r=>if r<k then gon (st r) (tk r) (P r) else 0
theorem qvH {st tk:Nat}(hs:st<256)(ht:tk<256):gon st tk x<512:=by
 have h1:x &&& st<2^8:=Nat.and_lt_two_pow _ (by omega);have h3:x &&& tk<2^8:=Nat.and_lt_two_pow _ (by omega);have h2:(x &&& tk) <<< 1<2^9:=by rw[Nat.shiftLeft_eq];omega
 exact Nat.or_lt_two_pow (n:=9) (by omega) h2
theorem qpb (st tk P:Nat→Nat):qhV st tk P 0=zPl:=by funext r;unfold qhV zPl;rw[if_neg (by omega)]
theorem qpG (st tk P:Nat→Nat)(k:Nat):(fun i=>if i=k then gon (st k) (tk k) (P k) else qhV st tk P k i)=qhV st tk P (k+1):=by
 funext r;unfold qhV;by_cases h:r=k
 ·subst h;rw[if_pos rfl,if_pos (by omega)]
 rw[if_neg h];by_cases h2:r<k
 ·rw[if_pos h2,if_pos (by omega)]
 rw[if_neg h2,if_neg (by omega)]
theorem qsY {tk:Nat→Nat}(hs:∀r,st r<256)(ht:∀r,tk r<256)(P:Nat→Nat)(k r:Nat):qhV st tk P k r<512:=by
 unfold qhV;split
 ·exact qvH (hs r) (ht r)
 omega
structure qqV (W:World)(P X:Nat→Nat)(V:World):Prop where
 box:V.heap[W.heap.size]? = some (.cells (plA P) 164)
 ret:V.heap[W.heap.size+1]? = some (.cells (plA zPl) 164)
 nx:V.heap[W.heap.size+2]? = some (.cells (plA X) 164)
 below:Below W.heap.size W V
theorem qqV.next {P:Nat→Nat}(h:qqV W P X V)(hb:Below V.heap.size V V'):qqV W P X V' :=
 ⟨(hb.block _ (ltA h.box)).trans h.box,(hb.block _ (ltA h.ret)).trans h.ret,(hb.block _ (ltA h.nx)).trans h.nx,h.below.trans (hb.mono h.below.size)⟩
theorem qtt (W:World)(P:Nat→Nat):qqV W P zPl (((W.alloc (.cells (plA P) 164)).alloc (.cells (plA zPl) 164)).alloc (.cells (plA zPl) 164)) :=
 ⟨((Below.heap_alloc _ _ _ (by simp;omega)).trans (Below.heap_alloc _ _ _ (by simp))).trans (qac _ _),(Below.heap_alloc _ _ _ (by simp)).trans (by have:=qac (W.alloc (.cells (plA P) 164)) (.cells (plA zPl) 164);simpa using this),by have:=qac ((W.alloc (.cells (plA P) 164)).alloc (.cells (plA zPl) 164)) (.cells (plA zPl) 164);simpa using this,((bwA).alloc (by simp) _).alloc (by simp;omega) _⟩
theorem qoX (W:World)(A:Nat)(ra:Option Addr)(rc n:Nat)(st:Nat→Nat)(tb L tc:Nat)(tk:Nat→Nat→Nat)(hst:∀r,st r<256)(htk:∀x r,tk x r<256)(hn:n≤16)(h:AuR W A ra rc n st)(h2:AuT W A tb L tc tk)(P:Nat→Nat)(hP:∀r,P r<512)(x:Nat)(hx:x<L):Calls prog 195 #[.pointer (some ⟨A,0,none⟩),.agg (plA P),.int .i64 x] W fun e W'=>qn7 n st (qhV st (tk x) P n) e∧Below W.heap.size W W':=by
 have HA:=qaa h;have HT:=qaa h2;have HS0:Hid (qqV W P zPl (((W.alloc (.cells (plA P) 164)).alloc (.cells #[.int .u16 0,.int .u16 0,.int .u16 0,.int .u16 0,.int .u16 0,.int .u16 0,.int .u16 0,.int .u16 0,.int .u16 0,.int .u16 0,.int .u16 0,.int .u16 0,.int .u16 0,.int .u16 0,.int .u16 0,.int .u16 0] 164)).alloc (.cells #[.int .u16 0,.int .u16 0,.int .u16 0,.int .u16 0,.int .u16 0,.int .u16 0,.int .u16 0,.int .u16 0,.int .u16 0,.int .u16 0,.int .u16 0,.int .u16 0,.int .u16 0,.int .u16 0,.int .u16 0,.int .u16 0] 164))):=qtt W P;have c0:=h.rules;have hlt:=h.lt;have hlt1:A<W.heap.size+1:=by omega
 have hlt2:A<W.heap.size+1+1:=by omega
 go_enter func195,ntmps195;go_wp2
 go_loopg [14] n (fun g z V=>∃k:Nat,z=.int .i64 k∧Hid (k+g=n)∧Hid (qqV W P (qhV st (tk x) P k) V))
 case atStart=>exact⟨0,rfl,by show _=_;omega,by rw[qpb];exact HS0⟩
 case round =>
  obtain⟨k,rfl,hk,HS⟩:=hrel
  cases gk with
  |zero =>
   have hl:¬(k:Int)<(n:Int):=by have:=hk.out;omega
   have hkn:k=n:=by have:=hk.out;omega
   subst hkn;have cW:=fun V hb=>qv9 (HA.out.below (W':=V) hb) (qhV st (tk x) P k) (qsY hst (htk x) P k) hst hn
   go_wp2_with (first
    |(go_at_call 139;refine(cW _ HS.out.below).mono ?_;rintro e w2 ⟨⟨Y,rfl,hY⟩,hB2⟩;have HS2:=qaa (HS.out.next hB2);have HY:=qaa hY)
    |(refine wpList_load_row rfl 164 (.tmp 7) rfl (W.heap.size+1+1) rfl _ _ _ _ HS.out.nx underlying164 rfl (qbh _) ?_)
    |(refine wpList_store_row rfl 164 (.tmp 6) (.tmp 47) rfl (W.heap.size+1) (plA Y) rfl rfl 164 (plA zPl) HS2.out.ret (qbh Y) (qjJ _ _) (qgk Y) ?_))
   refine bodyPost_ret (results_cell_row results195 _ _ (W.heap.size+1) 164 (plA Y) (0,0) _ rfl (setRow_heap _ _ _ _ _ _ HS2.out.ret) underlying164 rfl (qbh Y)) rfl ⟨⟨Y,rfl,HY.out⟩,qah HS2.out.below (by omega) _⟩
  |succ g =>
   have hkl:k<n:=by have:=hk.out;omega
   have hl:(k:Int)<(n:Int):=by omega
   have hk16:(k:Int)<16:=by omega
   have hxL:(x:Int)<(L:Int):=by omega
   have hPk:=hP k;have hsk:=hst k;have htk1:=htk x k;have ha:=qqL (P k) (st k) (by omega) (by omega);have hat:=qqL (P k) (tk x k) (by omega) (by omega);have hal:P k &&& st k<256:=Nat.and_lt_two_pow (n:=8) _ (by omega);have hatl:P k &&& tk x k<256:=Nat.and_lt_two_pow (n:=8) _ (by omega);have hsh:=qwt (P k &&& tk x k) hatl;have hor:bits .or .u16 ((P k &&& st k:Nat):Int) (((P k &&& tk x k) <<< 1:Nat):Int)=((gon (st k) (tk x k) (P k):Nat):Int):=qxk _ _ (by omega) (by rw[Nat.shiftLeft_eq];omega);have hcn:wr.cell? ⟨W.heap.size+1+1,k,none⟩=some (.int .u16 (qhV st (tk x) P k k)):=by
    have h:=qab HS.out.nx k;rwa [qcR _ k (by omega)] at h
   have hfw:=frozen_of_row wr (W.heap.size+1+1) k _ _ HS.out.nx;have HS3:Hid (qqV W P (qhV st (tk x) P (k+1)) (wr.drew.setCell ⟨W.heap.size+1+1,k,none⟩ (.int .u16 ((gon (st k) (tk x k) (P k):Nat):Int)))):=by
    refine⟨(Below.heap_setCell wr.drew _ _ _ (by simp;omega)).trans HS.out.box,(Below.heap_setCell wr.drew _ _ _ (by simp)).trans HS.out.ret,?_,HS.out.below.drew.setCell (by simp;omega) _⟩;have h:=heap_setCell_same wr.drew (W.heap.size+1+1) k _ _ (.int .u16 ((gon (st k) (tk x k) (P k):Nat):Int)) HS.out.nx;rw[qik,qpG] at h;exact h
   have HC:∀V,qqV W P (qhV st (tk x) P k) V∨qqV W P (qhV st (tk x) P (k+1)) V→V.cell? ⟨W.heap.size,k,none⟩=some (.int .u16 (P k))∧V.cell? ⟨A,3+k,none⟩=some (.int .u16 (st k))∧V.cell? ⟨A,19,none⟩=some (.slice (some ⟨tb,0,none⟩) L tc)∧V.cell? ⟨tb,x*16+k,none⟩=some (.int .u16 (tk x k)):=by
    intro V hV;have hb:V.heap[W.heap.size]? = some (.cells (plA P) 164)∧Below W.heap.size W V:=by rcases hV with h|h<;>exact⟨h.box,h.below⟩
    exact⟨by have h:=qab hb.1 k;rwa [qcR _ k (by omega)] at h,(HA.out.below hb.2).stays k (by omega),(HT.out.below hb.2).takes,(HT.out.below hb.2).at_ x k hx (by omega)⟩
   have HS0:Hid (_):=HC wr (.inl HS.out);have HS9:Hid (_):=HC _ (.inr HS3.out);go_wp2;have hS:(fun Z:World=>Z.cell? ⟨W.heap.size,k,none⟩=some (.int .u16 (P k))∧Z.cell? ⟨A,3+k,none⟩=some (.int .u16 (st k))∧Z.cell? ⟨A,19,none⟩=some (.slice (some ⟨tb,0,none⟩) L tc)∧Z.cell? ⟨tb,x*16+k,none⟩=some (.int .u16 (tk x k))) {wr with drawn:=wr.drawn+1}:=HS0.out;have hS2:(fun Z:World=>Z.cell? ⟨W.heap.size,k,none⟩=some (.int .u16 (P k))∧Z.cell? ⟨A,3+k,none⟩=some (.int .u16 (st k))∧Z.cell? ⟨A,19,none⟩=some (.slice (some ⟨tb,0,none⟩) L tc)∧Z.cell? ⟨tb,x*16+k,none⟩=some (.int .u16 (tk x k))) (wr.drew.setCell ⟨W.heap.size+1+1,k,none⟩ (.int .u16 ((gon (st k) (tk x k) (P k):Nat):Int))):=HS9.out;refine wp_region_held (S:=fun Z=>Z.cell? ⟨W.heap.size,k,none⟩=some (.int .u16 (P k))∧Z.cell? ⟨A,3+k,none⟩=some (.int .u16 (st k))∧Z.cell? ⟨A,19,none⟩=some (.slice (some ⟨tb,0,none⟩) L tc)∧Z.cell? ⟨tb,x*16+k,none⟩=some (.int .u16 (tk x k))) (by kernel_rfl) ?_;refine tkH 0 17 (.int .i64 k) rfl (by kernel_rfl) (fun _ _ _ h=>h) (fun Z hZ=>by kernel_rfl) hS ?_;refine tkH 1 18 (.int .i64 k) rfl (by kernel_rfl) (fun _ _ _ h=>h) (fun Z hZ=>by kernel_rfl) hS ?_;refine tkH 2 19 (.pointer (some ⟨W.heap.size,k,none⟩)) rfl (by kernel_rfl) (fun _ _ _ h=>h) (fun Z hZ => ?y2) hS ?_
   case y2=>go_simp
   refine tkH 3 20 (.int .u16 (P k)) rfl (by kernel_rfl) (fun _ _ _ h=>h) (fun Z hZ => ?y3) hS ?_
   case y3=>(have z1:=hZ.1;go_simp)
   refine tkH 4 21 (.pointer (some ⟨A,0,none⟩)) rfl (by kernel_rfl) (fun _ _ _ h=>h) (fun Z hZ=>by kernel_rfl) hS ?_;refine tkH 5 22 (.int .i64 k) rfl (by kernel_rfl) (fun _ _ _ h=>h) (fun Z hZ=>by kernel_rfl) hS ?_;refine tkH 6 23 (.pointer (some ⟨A,0,none⟩)) rfl (by kernel_rfl) (fun _ _ _ h=>h) (fun Z hZ=>by kernel_rfl) hS ?_;refine tkH 7 24 (.pointer (some ⟨A,3,none⟩)) rfl (by kernel_rfl) (fun _ _ _ h=>h) (fun Z hZ=>by kernel_rfl) hS ?_;refine tkH 8 25 (.pointer (some ⟨A,3+k,none⟩)) rfl (by kernel_rfl) (fun _ _ _ h=>h) (fun Z hZ => ?y8) hS ?_
   case y8=>go_simp
   refine tkH 9 26 (.int .u16 (st k)) rfl (by kernel_rfl) (fun _ _ _ h=>h) (fun Z hZ => ?y9) hS ?_
   case y9=>(have z2:=hZ.2.1;go_simp)
   refine tkH 10 27 (.int .u16 ((P k &&& st k:Nat):Int)) rfl (by kernel_rfl) (fun _ _ _ h=>h) (fun Z hZ => ?y10) hS ?_
   case y10=>go_simp
   refine tkH 11 28 (.int .i64 k) rfl (by kernel_rfl) (fun _ _ _ h=>h) (fun Z hZ=>by kernel_rfl) hS ?_;refine tkH 12 29 (.pointer (some ⟨W.heap.size,k,none⟩)) rfl (by kernel_rfl) (fun _ _ _ h=>h) (fun Z hZ => ?y12) hS ?_
   case y12=>go_simp
   refine tkH 13 30 (.int .u16 (P k)) rfl (by kernel_rfl) (fun _ _ _ h=>h) (fun Z hZ => ?y13) hS ?_
   case y13=>(have z1:=hZ.1;go_simp)
   refine tkH 14 31 (.pointer (some ⟨A,0,none⟩)) rfl (by kernel_rfl) (fun _ _ _ h=>h) (fun Z hZ=>by kernel_rfl) hS ?_;refine tkH 15 32 (.pointer (some ⟨A,0,none⟩)) rfl (by kernel_rfl) (fun _ _ _ h=>h) (fun Z hZ=>by kernel_rfl) hS ?_;refine tkH 16 33 (.pointer (some ⟨A,19,none⟩)) rfl (by kernel_rfl) (fun _ _ _ h=>h) (fun Z hZ=>by kernel_rfl) hS ?_;refine tkH 17 34 (.slice (some ⟨tb,0,none⟩) L tc) rfl (by kernel_rfl) (fun _ _ _ h=>h) (fun Z hZ => ?y17) hS ?_
   case y17=>(have z3:=hZ.2.2.1;go_simp)
   refine tkH 18 35 (.int .i64 x) rfl (by kernel_rfl) (fun _ _ _ h=>h) (fun Z hZ=>by kernel_rfl) hS ?_;refine tkH 19 36 (.int .i64 k) rfl (by kernel_rfl) (fun _ _ _ h=>h) (fun Z hZ=>by kernel_rfl) hS ?_;refine tkH 20 37 (.pointer (some ⟨tb,x*16,none⟩)) rfl (by kernel_rfl) (fun _ _ _ h=>h) (fun Z hZ => ?y20) hS ?_
   case y20=>go_simp
   refine tkH 21 38 (.pointer (some ⟨tb,x*16+k,none⟩)) rfl (by kernel_rfl) (fun _ _ _ h=>h) (fun Z hZ => ?y21) hS ?_
   case y21=>go_simp
   refine tkH 22 39 (.int .u16 (tk x k)) rfl (by kernel_rfl) (fun _ _ _ h=>h) (fun Z hZ => ?y22) hS ?_
   case y22=>(have z4:=hZ.2.2.2;go_simp)
   refine tkH 23 40 (.int .u16 ((P k &&& tk x k:Nat):Int)) rfl (by kernel_rfl) (fun _ _ _ h=>h) (fun Z hZ => ?y23) hS ?_
   case y23=>go_simp
   refine tkH 24 41 (.int .u16 (((P k &&& tk x k) <<< 1:Nat):Int)) rfl (by kernel_rfl) (fun _ _ _ h=>h) (fun Z hZ => ?y24) hS ?_
   case y24=>go_simp
   refine tkH 25 42 (.int .u16 ((gon (st k) (tk x k) (P k):Nat):Int)) rfl (by kernel_rfl) (fun _ _ _ h=>h) (fun Z hZ => ?y25) hS ?_
   case y25=>(go_simp;exact hor)
   refine tkH 26 43 (.pointer (some ⟨W.heap.size+1+1,k,none⟩)) rfl (by kernel_rfl) (fun _ _ _ h=>h) (fun Z hZ => ?y26) hS ?_
   case y26=>go_simp
   refine rdS 27 rfl (by kernel_rfl) (fun K hK => ?_);go_simp;refine hK.out _ _ hS2 (fun _ => ?_);refine wpAnyH_done (by kernel_rfl) ?_ _;go_simp;go_wp2;go_roundg g
   case measure=>omega
   case rel=>exact⟨k+1,by go_num,by show _=_;have:=hk.out;omega,HS3⟩
def qcW (W:World)(kt:TypeId)(m n:Nat)(f:Lit→Option Nat):Prop :=
 ∃D:DataW Unit,W.ownsMap prog kt (plainElem prog 3) m n D∧∀l,Maps.has D l=(f l).isSome∧∀v:Nat,f l=some v→D.atKey l (.lit (.int .i64 0))=.lit (.int .i64 v)
theorem qcW.kept {kt:TypeId}{row:Option Nat}(h:qcW W kt m n f)(hg:W.grownBy W' row)(hne:some m≠row):qcW W' kt m n f:=by
 obtain⟨D,h1,h2⟩:=h;exact⟨D,h1.kept hg hne,h2⟩
theorem qcW.lt {kt:TypeId}(h:qcW W kt m n f):m<W.heap.size:=by
 obtain⟨D,h1,_⟩:=h;exact h1.lt
theorem qkF (W:World)(kt:TypeId):qcW (W.alloc (.map #[] 0)) kt W.heap.size 0 (fun _=>none) :=
 ⟨_,World.ownsMap_made W prog kt _,fun l=>⟨by simp[Maps.has],fun v h=>by cases h⟩⟩
theorem qx3 (W:World):(zeroValue 3).run prog W=.ok (.int .i64 0) W:=by kernel_rfl
theorem qs4 {kt:TypeId}{D:DataW Unit}(_h1:W.ownsMap prog kt (plainElem prog 3) m n D)(h2:∀l,Maps.has D l=(f l).isSome∧∀v:Nat,f l=some v→D.atKey l (.lit (.int .i64 0))=.lit (.int .i64 v))(kl:Lit):D.atKey kl (.lit (.int .i64 0))=.lit (.int .i64 (((f kl).getD 0:Nat):Int)):=by
 cases hf:f kl with
 |some v=>exact(h2 kl).2 v hf
 |none =>
  have:=(h2 kl).1;rw[hf] at this;exact Maps.atKey_of_not_has this _
theorem qf8 {kt t:TypeId}(h:qcW W kt m n f)(K:Maps.Keyed prog kt)(ht:prog.underlying t=some (.map kt 3))(hk:keyOf prog kt key=some kl):(Instr.lookup t (.map (some m)) key false).run prog W=.ok (.int .i64 (((f kl).getD 0:Nat):Int)) W:=by
 obtain⟨D,h1,h2⟩:=h;obtain⟨c,hr,hc,_⟩:=h1.lookup_int K ht underlying3 (qx3 W) hk;rw[qs4 h1 h2 kl] at hc;have e:(((f kl).getD 0:Nat):Int)=c:=by simpa using hc
 rw[hr,e]
theorem qdz {kt t:TypeId}(h:qcW W kt m n f)(K:Maps.Keyed prog kt)(ht:prog.underlying t=some (.map kt 3))(hk:keyOf prog kt key=some kl):(Instr.lookup t (.map (some m)) key true).run prog W=.ok (.tuple #[.int .i64 (((f kl).getD 0:Nat):Int),.bool (f kl).isSome]) W:=by
 obtain⟨D,h1,h2⟩:=h;obtain⟨v,ps,hr,hv⟩:=h1.look_ok K ht (qx3 W) (plainElem_int underlying3 (by decide)) hk;rw[qs4 h1 h2 kl] at hv;obtain⟨c,rfl,hc,_⟩:=plainElem_int_inv underlying3 hv;have e:(((f kl).getD 0:Nat):Int)=c:=by
  have:=congrArg Prod.fst hc;simpa using this
 rw[hr,(h2 kl).1,e]
theorem qly {kt t:TypeId}(h:qcW W kt m n f)(K:Maps.Keyed prog kt)(ht:prog.underlying t=some (.map kt 3))(hn:n<1000000000)(hk:keyOf prog kt key=some kl)(v:Nat)(hv:v<1000000000):∃w',(Instr.mapUpdate t (.map (some m)) key (.int .i64 v)).run prog W=.ok () w'∧(∀f':Lit→Option Nat,f' kl=some v→(∀l,l≠kl→f' l=f l)→qcW w' kt m (n+1) f')∧W.grownBy w' (some m):=by
 obtain⟨D,h1,h2⟩:=h;have hw:(Lit.int .i64 (v:Int)).wf=true:=by
  have e1:IntKind.i64.min = -9223372036854775808:=by kernel_rfl
  have e2:IntKind.i64.max=9223372036854775807:=by kernel_rfl
  simp[Lit.wf,e1,e2];omega
 obtain⟨w',hr,ho,hT⟩:=h1.store K ht (by unfold maxLen;omega) hk (plainElem_int underlying3 hw);refine⟨w',hr,fun f' e1 e2=>⟨_,ho,fun l => ?_⟩,hT.grown⟩;by_cases e:l=kl
 ·subst e;refine⟨(Maps.has_put_same h1.isMap (K.key hk) _).trans (by rw[e1];rfl),fun u hu => ?_⟩;have hu2:=Option.some.inj (e1.symm.trans hu);rw[←hu2];exact Maps.atKey_put_same h1.isMap (K.key hk) _ _
 rw[e2 l e];exact⟨(Maps.has_put_other e _).trans (h2 l).1,fun u hu=>(Maps.atKey_put_other e _ _).trans ((h2 l).2 u hu)⟩
theorem plK:Maps.Keyed prog 164:=Maps.Keyed.of_law qog
theorem mvK:Maps.Keyed prog 320:=Maps.Keyed.of_law qsm
end
end Go.Proofs.YtllcbnfmihfaaaaGreatDoor
