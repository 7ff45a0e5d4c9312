import Derived.Test.YtcokgepdckkjdaaGreatDoorRq06
import Derived.Test.YtcokgepdckkjdaaGreatDoorRq04
import Derived.Test.YtcokgepdckkjdaaGreatDoorRq07
set_option maxRecDepth 100000
set_option maxHeartbeats 8000000
namespace Go.Proofs.YtcokgepdckkjdaaGreatDoor
open Go.Proofs.Tryz
variable {c:UInt8}{l:List UInt8}{ps:List ByteArray}{f i n:Nat}{w:World}
section
open Go.RowKit
theorem Tryz.infoStr:(prog.info? 9).map (fun i=>(i.zero,i.size,i.bytes))=some (some (.string ByteArray.empty),1,16):=by kernel_rfl
theorem qrD (s:ByteArray)(a b:Nat):(s.extract a b).data.toList=(s.data.toList.take b).drop a:=by
 rw[Lib.extract_data];simp[List.drop_take]
structure Cut (c:UInt8)(l:List UInt8)(ps:List ByteArray)(f i:Nat):Prop where
 fi:f<=i
 il:i<=l.length
 len:ps.length<=i
 eq:qal c l=ps.map (·.data.toList)++qal c (l.drop f)
 no:∀x,x∈(l.take i).drop f->(x==c)=false
theorem Cut.next (h:Cut c l ps f i)(hi:i<l.length)(d:(l[i]==c)=false):Cut c l ps f (i+1):=by
 refine⟨by have:=h.fi;omega,hi,by have:=h.len;omega,h.eq,fun x b => ?_⟩;rw[List.take_succ_eq_append_getElem hi,List.drop_append_of_le_length (by rw[List.length_take];have:=h.fi;omega),List.mem_append] at b;rcases b with a|a
 ·exact h.no x a
 rw[List.mem_singleton] at a;rw[a];exact d
theorem Cut.found (h:Cut c l ps f i)(hi:i<l.length)(d:l[i]=c)(p:ByteArray)(b:p.data.toList=(l.take i).drop f):Cut c l (ps++[p]) (i+1) (i+1):=by
 refine⟨Nat.le_refl _,hi,by rw[List.length_append];have:=h.len;simp;omega,?_,fun x a => ?_⟩
 ·rw[h.eq,List.map_append,List.append_assoc];congr 1;have e:l.drop f=(l.take i).drop f++c::l.drop (i+1):=by
   conv=>lhs;rw[<-List.take_append_drop i l]
   rw[List.drop_append_of_le_length (by rw[List.length_take];have:=h.fi;omega),List.drop_eq_getElem_cons hi,d]
  rw[e,qdk c _ _ h.no,<-b];rfl
 rw[List.drop_eq_nil_of_le (by rw[List.length_take];omega)] at a;exact absurd a (by simp)
theorem Cut.last (h:Cut c l ps f l.length)(p:ByteArray)(a:p.data.toList=l.drop f):qal c l=(ps++[p]).map (·.data.toList):=by
 rw[h.eq,List.map_append];congr 1;have:=h.no;rw[List.take_length] at this;rw[qdG c _ this,<-a];rfl
theorem qgv (s:ByteArray)(c:UInt8)(m:Int)(D:m=c.toNat)(w:World)(Y:s.size<=100000):Calls prog 27 #[.string s,.int .u8 m] w fun e K =>
   ∃(v:Value) (a:List ByteArray),e=.returned v/\K.ownsRow w.heap.size 9 1 v a.length (a.map Value.string)/\Below w.heap.size w K/\a.map (·.data.toList)=qal c s.data.toList:=by
 obtain⟨J,E,G,H,I⟩:=info_parts Tryz.infoStr;have V:s.data.toList.length=s.size:=Array.length_toList;have C:=qaa D;clear D;go_enter func27,ntmps27;go_wp2
 go_loopg [5,6,7] s.size (fun g v x y wr=>∃(a:List ByteArray) (f i:Nat) (r:Option Addr) (t:Nat),Hid (i+g=s.size)/\v=.slice r a.length t/\x=.int .i64 f/\y=.int .i64 i/\Hid (wr.ownsRow w.heap.size 9 1 v a.length (a.map Value.string))/\Hid (Below w.heap.size w wr)/\Hid (Cut c s.data.toList a f i))
 case atStart =>
  exact⟨[],0,0,none,0,by show _=_;omega,rfl,rfl,rfl,World.ownsRow_nil _ _ _ _,Below.refl _ _,⟨Nat.le_refl _,Nat.zero_le _,Nat.le_refl _,by simp,fun x b=>by simp at b⟩⟩
 case round =>
  obtain⟨a,f,i,r,t,d,rfl,rfl,rfl,k,o,j⟩:=hrel;have S:=j.out.fi;have X:=j.out.len;have F:=o.out.size;have U:i<=s.size:=by have:=d.out;omega
  cases gk with
  |zero =>
   have O:¬(i:Int)<s.size:=by have:=d.out;omega
   have T:f<=s.size:=by omega
   go_wp2_with (first
    |(at_builtin;refine wpList_append_own _ rfl _ _ 44 rfl w.heap.size 9 J (.string ByteArray.empty) 1 16 underlying44 E G H I rfl (by decide) _ _ _ rfl (k.out.alloc _) ⟨wr.heap.size,0,none⟩ 1 1 [.string (s.extract f s.size)] rfl rfl (cell_one_new _ _ _) (fun x b=>by simp at b;subst b;rfl) (by unfold maxLen;omega) (by omega) (by simp;omega) ?_;intro B R p z P))
   go_ret;have N:i=s.data.toList.length:=by have:=d.out;omega
   have L:=j.out;subst N;exact⟨B,rfl,a++[s.extract f s.size],by rw[List.length_append,List.map_append];exact p,(o.out.alloc F _).grown z (by simp;omega) (fun q A=>(k.out.lt q A).1),(L.last _ (Lib.extract_to_end s f)).symm⟩
  |succ g =>
   have O:(i:Int)<s.size:=by have:=d.out;omega
   have W:i<s.size:=by omega
   by_cases u:(s[i].toNat:Int)=m
   ·have M:((s[i].toNat:Int)==m)=true:=by rw[beq_iff_eq];exact u
    go_wp2_with (first
     |(at_builtin;refine wpList_append_own _ rfl _ _ 44 rfl w.heap.size 9 J (.string ByteArray.empty) 1 16 underlying44 E G H I rfl (by decide) _ _ _ rfl (k.out.alloc _) ⟨wr.heap.size,0,none⟩ 1 1 [.string (s.extract f i)] rfl rfl (cell_one_new _ _ _) (fun x b=>by simp at b;subst b;rfl) (by unfold maxLen;omega) (by omega) (by simp;omega) ?_;intro B R p z P))
    go_roundg g
    case measure=>omega
    case rel =>
     obtain⟨n,l,Q⟩:∃n l,B=.slice (some ⟨n,0,none⟩) (a.length+1) l:=by
      rcases p.2 with ⟨_,h⟩|⟨n,l,_,h,_⟩
      ·omega
      exact⟨n,l,h⟩
     have b:s.data.toList[i]=c:=by
      have e:s[i].toNat=c.toNat:=by have:=C.out;omega
      exact UInt8.toNat_inj.1 e
     exact⟨a++[s.extract f i],i+1,i+1,some ⟨n,0,none⟩,l,by show _=_;have:=d.out;omega,by rw[Q,List.length_append];rfl,by go_num,by go_num,by show World.ownsRow _ _ _ _ _ _ _;rw[List.length_append,List.map_append];exact p,(o.out.alloc F _).grown z (by simp;omega) (fun q A=>(k.out.lt q A).1),j.out.found (by omega) b _ (qrD s f i)⟩
   have M:((s[i].toNat:Int)==m)=false:=by rw[beq_eq_false_iff_ne];exact u
   go_wp2;go_roundg g
   case measure=>omega
   case rel =>
    refine⟨a,f,i+1,r,t,by show _=_;have:=d.out;omega,rfl,rfl,by go_num,k.out,o.out,j.out.next (by omega) ?_⟩;rw[beq_eq_false_iff_ne];intro e;exact u (by rw[C.out,<-e];rfl)

theorem qdQ {base:Nat}{v:Value}(h:w.ownsRow base 9 1 v ps.length (ps.map Value.string))(o:0<ps.length):∃g a,v=.slice (some ⟨g,0,none⟩) ps.length a/\base<=g/\g<w.heap.size/\∀j (d:j<ps.length),w.cell? ⟨g,j,none⟩=some (.string ps[j]):=by
 obtain⟨_,⟨_,l⟩|⟨g,a,b,k,f,c,n,_,m,i⟩⟩:=h
 ·omega
 refine⟨g,a,k,f,(ltA c),fun j d => ?_⟩;have e:b.toList[j]? = some (.string ps[j]):=by
  have:=congrArg (·[j]?) i;simp only[List.getElem?_take,List.getElem?_map] at this;rw[if_pos (by omega),List.getElem?_eq_getElem d] at this;exact this
 rw[cell_of_row w g j b _ _ c];simpa using e
theorem qeB (c:UInt8):∀l:List UInt8,(qal c l).length<=l.length+1
 |[]=>by simp[qal]
 |x::r=>by
  have d:=qeB c r;unfold qal;split
  ·simp only[List.length_cons];omega
  cases h:qal c r with
  |nil=>simp
  |cons a b=>rw[h] at d;simp only[List.length_cons] at *;omega
theorem qbr (c:UInt8):∀(l p:List UInt8),p∈qal c l->p.length<=l.length
 |[],p,h=>by simp[qal] at h;subst h;exact Nat.le_refl _
 |x::r,p,h=>by
  have d:=fun q=>qbr c r q;unfold qal at h;split at h
  ·rcases List.mem_cons.1 h with rfl|h
   ·exact Nat.zero_le _
   exact Nat.le_succ_of_le (d p h)
  cases e:qal c r with
  |nil=>exact absurd e (qfD _ _)
  |cons a b =>
   rw[e] at h d;rcases List.mem_cons.1 h with rfl|h
   ·exact Nat.succ_le_succ (d a (List.mem_cons_self ..))
   exact Nat.le_succ_of_le (d p (List.mem_cons_of_mem _ h))
theorem qlU (h:ps.map (·.data.toList)=qal c l):0<ps.length:=by
 rcases ps with _|⟨a,b⟩
 ·exact absurd h.symm (qfD _ _)
 simp
def qg3 (l:List UInt8):Bool:=qgw l||(l==[42]||(l==[42,42]||l==[91,93]))
def qe8 (l:List UInt8):Bool:=l==[46]||((qal 47 l).all qg3&&decide ((qal 47 l).length<=8))
theorem qkR (s:ByteArray)(w:World)(W:s.size<=100000):Calls prog 41 #[.string s] w fun e X =>
   ∃a n K,e=.returned (.tuple #[.slice a n K,.bool (qe8 s.data.toList)])/\Below w.heap.size w X:=by
 cases N:(s.toList==[46])
 ·have t:Hid (qe8 s.data.toList=((qal 47 s.data.toList).all qg3&&decide ((qal 47 s.data.toList).length<=8))):=by
   show _=_;unfold qe8;rw[<-Lib.toList_data,N,Bool.false_or]
  go_enter func41,ntmps41;have S:True:=trivial
  go_wp2_with (first
   |(go_at_call 27;clear S;refine(qgv s 47 47 rfl _ W).mono ?_;rintro e m ⟨ad,b,rfl,I,G,l⟩;obtain⟨g,K,rfl,hg,v,M⟩:=qdQ I (qlU l)))
  have ac:=qlU l;have ab:b.length<=100001:=by
   have T:=congrArg List.length l;have Y:=qeB 47 s.data.toList;have U:s.data.toList.length=s.size:=Array.length_toList;rw[List.length_map] at T;omega
  have O:∀p,p∈b->p.size<=4611686018427387904:=fun p E=>by
   have:=qbr 47 s.data.toList p.data.toList (by rw[<-l];exact List.mem_map_of_mem E);have U:s.data.toList.length=s.size:=Array.length_toList;have Z:p.data.toList.length=p.size:=Array.length_toList;omega
  have R:=qaa O;have P:=qaa M;have J:Hid (qe8 s.data.toList=(b.all (fun p=>qg3 p.data.toList)&&decide (b.length<=8))):=by
   show _=_;rw[t.out,<-l,List.all_map,List.length_map];rfl
  have r:=qaa G;clear G t l I M O
  go_loopg [5] b.length (fun gk x wr=>∃k:Nat,Hid (k+gk=b.length)/\x=.int .i64 k/\m=wr/\Hid (∀i (h:i<b.length),i<k->qg3 b[i].data.toList=true))
  case atStart=>exact⟨0,by show _=_;omega,rfl,rfl,fun i _ A=>by omega⟩
  case round =>
   obtain⟨k,j,rfl,rfl,B⟩:=hrel
   cases gk with
   |zero =>
    have V:¬(k:Int)<b.length:=by have:=j.out;omega
    have F:Hid (qe8 s.data.toList=decide ((b.length:Int)<=8)):=by
     show _=_;rw[J.out,(List.all_eq_true.2 fun p E=>by
      obtain⟨i,A,rfl⟩:=List.getElem_of_mem E;exact B.out i A (by have:=j.out;omega):b.all (fun p=>qg3 p.data.toList)=true),Bool.true_and]
     congr 1;rw[eq_iff_iff];omega
    go_wp2
    go_ret2
    first|exact⟨_,_,_,by rw[F.out];rfl,r.out⟩|exact⟨⟨_,_,_,by rw[F.out];rfl⟩,r.out⟩
   |succ z =>
    have V:(k:Int)<b.length:=by have:=j.out;omega
    have D:k<b.length:=by omega
    have hc:=P.out k D;have q:=R.out b[k] (List.getElem_mem D);have Q:Hid (qg3 b[k].data.toList=false->qe8 s.data.toList=false):=fun h=>by
     rw[J.out,Bool.and_eq_false_iff];left;rw[List.all_eq_false];exact⟨b[k],List.getElem_mem D,by rw[h];decide⟩
    have u:Hid (qg3 b[k].data.toList=true->∀i (h:i<b.length),i<k+1->qg3 b[i].data.toList=true):=fun h i A aa=>by
     by_cases e:i=k
     ·subst e;exact h
     exact B.out i A (by omega)
    clear B;generalize b[k]=p at *;have o:Hid (qg3 p.data.toList=(qgw p.data.toList||(p.toList==[42]||(p.toList==[42,42]||p.toList==[91,93])))):=by
     show _=_;unfold qg3;rw[Lib.toList_data]
    cases d:qgw p.data.toList
    ·cases y:(p.toList==[42])
     ·cases C:(p.toList==[42,42])
      ·cases L:(p.toList==[91,93])
       ·have H:=qaa (Q.out (by rw[o.out,d,y,C,L];rfl))
        go_wp2_with (first
         |(go_at_call 70;refine(qca p _ q).mono ?_;rintro e m ⟨rfl,rfl⟩;rw[d]))
        go_ret2
        first|exact⟨_,_,_,by rw[H.out];rfl,r.out⟩|exact⟨⟨_,_,_,by rw[H.out];rfl⟩,r.out⟩
       have c:=u.out (by rw[o.out,d,y,C,L];rfl);have f:=qaa c;clear c
       go_wp2_with (first
        |(go_at_call 70;refine(qca p _ q).mono ?_;rintro e m ⟨rfl,rfl⟩;rw[d]))
       go_roundg z
       case measure=>omega
       case rel=>exact⟨k+1,by show _=_;have:=j.out;omega,by go_num,rfl,f.out⟩
      have c:=u.out (by rw[o.out,d,y,C];rfl);have f:=qaa c;clear c
      go_wp2_with (first
       |(go_at_call 70;refine(qca p _ q).mono ?_;rintro e m ⟨rfl,rfl⟩;rw[d]))
      go_roundg z
      case measure=>omega
      case rel=>exact⟨k+1,by show _=_;have:=j.out;omega,by go_num,rfl,f.out⟩
     have c:=u.out (by rw[o.out,d,y];rfl);have f:=qaa c;clear c
     go_wp2_with (first
      |(go_at_call 70;refine(qca p _ q).mono ?_;rintro e m ⟨rfl,rfl⟩;rw[d]))
     go_roundg z
     case measure=>omega
     case rel=>exact⟨k+1,by show _=_;have:=j.out;omega,by go_num,rfl,f.out⟩
    have c:=u.out (by rw[o.out,d];rfl);have f:=qaa c;clear c
    go_wp2_with (first
     |(go_at_call 70;refine(qca p _ q).mono ?_;rintro e m ⟨rfl,rfl⟩;rw[d]))
    go_roundg z
    case measure=>omega
    case rel=>exact⟨k+1,by show _=_;have:=j.out;omega,by go_num,rfl,f.out⟩
 have t:Hid (qe8 s.data.toList=true):=by
  show _=_;unfold qe8;rw[<-Lib.toList_data,N,Bool.true_or]
 go_enter func41,ntmps41;go_wp2
 go_ret2
 exact⟨none,0,0,by rw[t.out];rfl,Below.refl _ _⟩

def qc2:Array Value:=#[.slice none 0 0,.int .i64 0,.int .i64 0]
def qf5 (a:Option Addr)(n cap:Nat)(x y:Int):Array Value:=#[.slice a n cap,.int .i64 x,.int .i64 y]
theorem qcJ (a:Option Addr)(n b:Nat)(x y:Int):(qf5 a n b x y).all (·.oneCell')=true:=by simp[qf5,Value.oneCell']
theorem qf2:qc2.all (·.oneCell')=true:=qcJ none 0 0 0 0
theorem qcI:(prog.info? 73).map (·.size)=some 3:=by kernel_rfl
def qiX (n:Nat):List (List UInt8)->Bool
 |[a,b,c]=>qe8 a&&(qh5 b n&&qeu ⟨c.toArray⟩ != 0)
 |_=>false
def qa9 (n:Nat)(l:List UInt8):Bool:=qiX n (qal 32 l)
theorem qke {q:List (List UInt8)}(h:q.length≠3):qiX n q=false:=by
 match q,h with
 |[],_=>rfl
 |[_],_=>rfl
 |[_,_],_=>rfl
 |_::_::_::_::_,_=>rfl
structure qsd (w:World)(arr:Array Value)(W:World):Prop where
 below:Below w.heap.size w W
 box:W.heap[w.heap.size]? = some (.cells arr 25)
 res:W.heap[w.heap.size+1]? = some (.cells qc2 73)
 lo:w.heap.size+1<W.heap.size
theorem qsd.step {arr:Array Value}{W W':World}(h:qsd w arr W)(a:Below W.heap.size W W'):qsd w arr W':=by
 have:=h.lo;exact⟨h.below.trans (a.mono h.below.size),(a.block _ (by omega)).trans h.box,(a.block _ (by omega)).trans h.res,Nat.lt_of_lt_of_le this a.size⟩
theorem qrZ (w b:World)(arr:Array Value)(a:Below (w.heap.size+1+1) ((w.alloc (.cells arr 25)).alloc (.cells qc2 73)) b):qsd w arr b:=by
 have c:=a.size;simp only[World.size_alloc] at c;refine⟨((bwA).alloc (by simp) _).trans (a.mono (by omega)),?_,?_,by omega⟩
 ·rw[a.block _ (by omega),Below.heap_alloc _ _ _ (by simp)];exact qac _ _
 rw[a.block _ (by omega)];have:=qac (w.alloc (.cells arr 25)) (.cells qc2 73);rwa [World.size_alloc] at this
theorem qx8 (h:ps.length=3):∃d e f,ps=[d,e,f]:=by
 match ps,h with
 |[a,b,c],_=>exact⟨a,b,c,rfl⟩
theorem qwF (p:ByteArray):(⟨p.data.toList.toArray⟩:ByteArray)=p:=by cases p;rfl
theorem qrj (g:ps.map (·.data.toList)=qal 32 l):(ps.length≠3/\qa9 n l=false)\/∃c a b,ps=[c,a,b]/\((a.size≠1/\qa9 n l=false)\/∃h:a.size=1,
   ((a[0].toNat:Int)<48/\qa9 n l=false)\/((57:Int)<a[0].toNat/\qa9 n l=false) \/
   ((48:Int)<=a[0].toNat/\(a[0].toNat:Int)<=57/\qa9 n l=(qe8 c.data.toList&&(qeu b != 0&&qbC n ((a[0].toNat:Int)-48))))):=by
 by_cases f:ps.length=3
 ·right;obtain⟨c,a,b,rfl⟩:=qx8 f;refine⟨c,a,b,rfl,?_⟩;have e:qa9 n l=(qe8 c.data.toList&&(qh5 a.data.toList n&&qeu b != 0)):=by
   unfold qa9;rw[<-g];simp only[List.map_cons,List.map_nil,qiX,qwF]
  by_cases d:a.size=1
  ·right;refine⟨d,?_⟩;rw[qmh d] at e;by_cases i:(a[0].toNat:Int)<48
   ·left;refine⟨i,?_⟩;rw[e];simp only[qh5];rw[decide_eq_false (by omega)];simp
   right;by_cases j:(57:Int)<a[0].toNat
   ·left;refine⟨j,?_⟩;rw[e];simp only[qh5];rw[decide_eq_false (by omega)];simp
   right;refine⟨by omega,by omega,?_⟩;rw[e];simp only[qh5,qbC];rw[decide_eq_true (show 48<=a[0].toNat/\a[0].toNat<=57 by omega),Bool.true_and,Bool.and_comm (qeu b != 0)];congr 2;rw[decide_eq_decide];omega
  left;refine⟨d,?_⟩;rw[e,(qpN (n:=n) (by rw[Array.length_toList];exact d)).2];simp
 left;refine⟨f,?_⟩;unfold qa9;exact qke (by rw[<-g,List.length_map];exact f)
theorem qpi {g:Nat}{s:ByteArray}{w2:World}(q:s.size<=100000)(l:ps.map (·.data.toList)=qal 32 s.data.toList)(e:∀j (p:j<ps.length),w2.cell? ⟨g,j,none⟩=some (.string ps[j])):(¬(ps.length:Int)=3/\Hid (qa9 n s.data.toList=false)) \/
  (∃b a c,ps=[b,a,c]/\w2.cell? ⟨g,1,none⟩=some (.string a)/\¬(a.size:Int)=1/\Hid (qa9 n s.data.toList=false)) \/
  (∃b a c,ps=[b,a,c]/\w2.cell? ⟨g,1,none⟩=some (.string a)/\∃h:a.size=1,(a.size:Int)=1/\(a[0].toNat:Int)<48/\Hid (qa9 n s.data.toList=false)) \/
  (∃b a c,ps=[b,a,c]/\w2.cell? ⟨g,1,none⟩=some (.string a)/\∃h:a.size=1,(a.size:Int)=1/\(48:Int)<=a[0].toNat/\(57:Int)<a[0].toNat/\Hid (qa9 n s.data.toList=false)) \/
  (∃b a c,ps=[b,a,c]/\w2.cell? ⟨g,0,none⟩=some (.string b)/\w2.cell? ⟨g,1,none⟩=some (.string a)/\w2.cell? ⟨g,2,none⟩=some (.string c)/\∃h:a.size=1,(a.size:Int)=1/\(48:Int)<=a[0].toNat/\(a[0].toNat:Int)<=57/\Hid (b.size<=100000) /\
   Hid (qa9 n s.data.toList=(qe8 b.data.toList&&(qeu c != 0&&qbC n ((a[0].toNat:Int)-48))))):=by
 rcases qrj (n:=n) l with ⟨m,d⟩|⟨b,a,c,rfl,⟨f,d⟩|⟨f,⟨i,d⟩|⟨k,d⟩|⟨i,k,d⟩⟩⟩
 ·exact Or.inl ⟨by omega,d⟩
 ·exact Or.inr (Or.inl ⟨b,a,c,rfl,e 1 (by simp),by omega,d⟩)
 ·exact Or.inr (Or.inr (Or.inl ⟨b,a,c,rfl,e 1 (by simp),f,by omega,i,d⟩))
 ·exact Or.inr (Or.inr (Or.inr (Or.inl ⟨b,a,c,rfl,e 1 (by simp),f,by omega,by omega,k,d⟩)))
 refine Or.inr (Or.inr (Or.inr (Or.inr ⟨b,a,c,rfl,e 0 (by simp),e 1 (by simp),e 2 (by simp),f,by omega,i,k,?_,d⟩)));show _<=_;have:=qbr 32 s.data.toList b.data.toList (by rw[<-l];simp);have m:s.data.toList.length=s.size:=Array.length_toList;have o:b.data.toList.length=b.size:=Array.length_toList;omega
theorem qqF (arr:Array Value)(n:Nat)(Q:arr[0]? = some (.int .i64 n))(U:arr.size=11)(s:ByteArray)(w:World)(J:s.size<=100000):Calls prog 28 #[.agg arr,.string s] w fun e V =>
   ∃a m D x y,e=.returned (.tuple #[.agg (qf5 a m D x y),.bool (qa9 n s.data.toList)])/\Below w.heap.size w V:=by
 have O:=qaa U;have L:=qaa Q;have o:Hid ((prog.info? 73).map (·.size)=some qc2.size):=qcI;go_enter func28,ntmps28;have X:True:=trivial;have Y:True:=trivial
 go_wp2_with (first
  |(go_at_call 27;go_loud (refine(qgv s 32 32 rfl _ J).mono ?_;rintro e W ⟨ac,ps,rfl,M,C,t⟩;obtain⟨g,D,rfl,hg,I,H⟩:=qdQ M (qlU t);have q:=qaa (qrZ w W arr (by simp only[World.size_alloc] at C;exact C));rcases qpi (n:=n) J t H with ⟨Z,d⟩|⟨l,c,b,rfl,r,A,d⟩|⟨l,c,b,rfl,r,F,A,G,d⟩|⟨l,c,b,rfl,r,F,A,G,R,d⟩|⟨l,c,b,rfl,v,r,T,F,A,G,R,N,d⟩;all_goals clear t H))
  |(refine wpList_store_row rfl 73 _ _ rfl (w.heap.size+1) qc2 rfl rfl 73 qc2 q.out.res o.out rfl qf2 ?_))
 all_goals first
  |(refine bodyPost_ret (qap results28 _ _ (w.heap.size+1) 73 qc2 (0,0) _ rfl (setRow_heap _ _ qc2 _ _ _ q.out.res) underlying73 rfl qcI (.bool false) rfl) rfl ⟨none,0,0,0,0,by rw[d.out];rfl,qah q.out.below (by omega) _⟩)
  |skip
 refine(qkR l _ N.out).mono ?_;rintro e w3 ⟨h,j,i,rfl,B⟩;have f:=qaa (q.out.step B);have aa:=(B.cell (p:=⟨g,1,none⟩) I).trans r;have ab:=(B.cell (p:=⟨g,2,none⟩) I).trans T;cases z:qe8 l.data.toList
 ·have k:Hid (qa9 n s.data.toList=false):=by show _=_;rw[d.out,z];rfl
  go_wp2_with (first
   |(go_at_call 42;refine(qe7 b _).mono ?_;rintro e K ⟨rfl,rfl⟩)
   |(refine wpList_store_row rfl 73 _ _ rfl (w.heap.size+1) (qf5 h j i ((c[0].toNat:Int)-48) (qeu b)) rfl rfl 73 qc2 f.out.res o.out rfl (qcJ _ _ _ _ _) ?_))
  refine bodyPost_ret (qap results28 _ _ (w.heap.size+1) 73 (qf5 h j i ((c[0].toNat:Int)-48) (qeu b)) (0,0) _ rfl (setRow_heap _ _ qc2 _ _ _ f.out.res) underlying73 rfl qcI (.bool false) rfl) rfl ⟨_,_,_,_,_,by rw[k.out],qah f.out.below (by omega) _⟩
 by_cases E:qeu b=0
 ·have k:Hid (qa9 n s.data.toList=false):=by show _=_;rw[d.out,z,E];rfl
  go_wp2_with (first
   |(go_at_call 42;refine(qe7 b _).mono ?_;rintro e K ⟨rfl,rfl⟩)
   |(refine wpList_store_row rfl 73 _ _ rfl (w.heap.size+1) (qf5 h j i ((c[0].toNat:Int)-48) 0) rfl rfl 73 qc2 f.out.res o.out rfl (qcJ _ _ _ _ _) ?_))
  refine bodyPost_ret (qap results28 _ _ (w.heap.size+1) 73 (qf5 h j i ((c[0].toNat:Int)-48) 0) (0,0) _ rfl (setRow_heap _ _ qc2 _ _ _ f.out.res) underlying73 rfl qcI (.bool false) rfl) rfl ⟨_,_,_,_,_,by rw[k.out],qah f.out.below (by omega) _⟩
 have P:(qeu b != 0)=true:=by simp[E]
 have k:Hid (qa9 n s.data.toList=qbC n ((c[0].toNat:Int)-48)):=by show _=_;rw[d.out,z,P];rfl
 go_wp2_with (first
  |(go_at_call 42;refine(qe7 b _).mono ?_;rintro e K ⟨rfl,rfl⟩)
  |(go_at_call 13;refine(qc4 arr n L.out _ _).mono ?_;rintro e w5 ⟨rfl,S⟩;have u:=qaa (f.out.step S))
  |(refine qaf 25 _ rfl ?hw _ rfl _ _ _ _ f.out.box underlying25 rfl (qaV O.out) ?_;case hw=>simp[go_sem];done)
  |(refine wpList_store_row rfl 73 _ _ rfl (w.heap.size+1) (qf5 h j i ((c[0].toNat:Int)-48) (qeu b)) rfl rfl 73 qc2 u.out.res o.out rfl (qcJ _ _ _ _ _) ?_))
 refine bodyPost_ret (qap results28 _ _ (w.heap.size+1) 73 (qf5 h j i ((c[0].toNat:Int)-48) (qeu b)) (0,0) _ rfl (setRow_heap _ _ qc2 _ _ _ u.out.res) underlying73 rfl qcI (.bool (qbC n ((c[0].toNat:Int)-48))) rfl) rfl ⟨_,_,_,_,_,by rw[k.out],qah u.out.below (by omega) _⟩

end
end Go.Proofs.YtcokgepdckkjdaaGreatDoor
