import Derived.Test.YtpifimohecagoaaGreatDoorRows
import Derived.WalkKit
import Derived.WalkSpells
import Derived.WalkLawsBesides
import Derived.WalkMore
import Derived.Deep.QuietTactic
import Derived.BigQuiet
import Derived.Deep.LoopGhost
import Derived.Great.Walk
import Derived.Great.BuildSlice
import Derived.Deep.WholeRow
import Derived.Deep.RegionHeld3
import Derived.Lib.ValidLaws
set_option maxRecDepth 100000
set_option maxHeartbeats 8000000
namespace Go.Proofs.YtpifimohecagoaaGreatDoor
open Go.Proofs.Tryz
variable{w:World}{b fuel g i j n:Nat}{cs:Array Value}{o oi p:Oper}{P:Program}{ops:Array Oper}{Q:Exit->Act->World->Prop}{S:World->Prop}{a:Act}{md:Region.Mode}{listed:Array Bool}{rest:List Oper}{m:Nat->Nat->Bool}
section
open Go.RowKit
theorem qab{p:Prop}(h:p):Hid p:=h
theorem qac(w:World)(o:Obj):(w.alloc o).heap[w.heap.size]?=some o:=by
 show(w.heap.push o)[w.heap.size]?=_;simp
theorem qaa{t:TypeId}{fr:Nat×Nat}(a:w.heap[g]?=some (.cells cs t fr))(j:Nat):w.cell? ⟨g,j,none⟩=cs[j]?:=cell_of_row w g j cs t fr a
theorem bwA{o:Obj}:Below w.heap.size w (w.alloc o):=(Below.refl _ _).alloc (Nat.le_refl _) _
theorem bwO(o:Obj):Below w.heap.size w (w.alloc o):=(Below.refl _ _).alloc (Nat.le_refl _) _
theorem bwR:Below n w w:=Below.refl _ _
theorem ltA{α:Type}{a:Array α}{x:α}(h:a[i]?=some x):i<a.size:=(Array.getElem?_eq_some_iff.1 h).1
theorem ltL{α:Type}{a:List α}{x:α}(h:a[i]?=some x):i<a.length:=(List.getElem?_eq_some_iff.1 h).1
theorem sx{y:Option Obj}(h:j≠g)(e:w.heap[j]?=y):(w.setRow g cs).heap[j]?=y:=(setRow_other _ _ _ _ h).trans e
theorem rgn{id:Nat}(b:S {w with drawn:=w.drawn+1})(c:P.follows .mixedOrders=true)(h:S {w with drawn:=w.drawn+1}->wpAnyH P .any ops Q S ops.size (Array.replicate ops.size false) a {w with drawn:=w.drawn+1}):(Code.region id ops true).wp P Q a w:=wp_region_held c (h b)
theorem rd1(i:Nat)(hi:ops[i]?=some o)(c:Region.ready md ops listed=[i])(h:(∀b:Act->World->Prop,(∀a w,wpAny P md ops Q fuel (listed.setIfInBounds i true) a w->b a w)->if Region.wanted o (yielded ops a.tmps)=true then Oper.wp P o a w b Q else b (a.put o.dst undef) w)):wpAny P md ops Q (fuel+1) listed a w:=wpAny_ready c (by simp) (AllReady.cons hi h AllReady.nil)
theorem rd2(i j:Nat)(hi:ops[i]?=some o)(c:ops[j]?=some p)(d:Region.ready md ops listed=[i,j])(h:(∀b:Act->World->Prop,(∀a w,wpAny P md ops Q fuel (listed.setIfInBounds i true) a w->b a w)->if Region.wanted o (yielded ops a.tmps)=true then Oper.wp P o a w b Q else b (a.put o.dst undef) w))(k:(∀b:Act->World->Prop,(∀a w,wpAny P md ops Q fuel (listed.setIfInBounds j true) a w->b a w)->if Region.wanted p (yielded ops a.tmps)=true then Oper.wp P p a w b Q else b (a.put p.dst undef) w)):wpAny P md ops Q (fuel+1) listed a w:=wpAny_ready d (by simp) (AllReady.cons hi h (AllReady.cons c k AllReady.nil))
theorem rdH(i:Nat)(hi:ops[i]?=some o)(c:Region.ready md ops listed=[i])(h:(∀b:Act->World->Prop,Shut (∀a w,S w->(S w->wpAnyH P md ops Q S fuel (listed.setIfInBounds i true) a w)->b a w)->if Region.wanted o (yielded ops a.tmps)=true then Oper.wp P o a w b Q else b (a.put o.dst undef) w)):wpAnyH P md ops Q S (fuel+1) listed a w:=wpAnyH_ready c (by simp) (AllReadyH.cons hi h AllReadyH.nil)
theorem q07(i j:Nat)(hi:ops[i]?=some o)(c:ops[j]?=some p)(d:Region.ready md ops listed=[i,j])(h:(∀b:Act->World->Prop,Shut (∀a w,S w->(S w->wpAnyH P md ops Q S fuel (listed.setIfInBounds i true) a w)->b a w)->if Region.wanted o (yielded ops a.tmps)=true then Oper.wp P o a w b Q else b (a.put o.dst undef) w))(k:(∀b:Act->World->Prop,Shut (∀a w,S w->(S w->wpAnyH P md ops Q S fuel (listed.setIfInBounds j true) a w)->b a w)->if Region.wanted p (yielded ops a.tmps)=true then Oper.wp P p a w b Q else b (a.put p.dst undef) w)):wpAnyH P md ops Q S (fuel+1) listed a w:=wpAnyH_ready d (by simp) (AllReadyH.cons hi h (AllReadyH.cons c k AllReadyH.nil))
theorem qwh{v:Value}(b:Option Tmp)(hi:ops[i]?=some oi)(k:Region.noSelect ops=true)(g:Region.free md ops listed i=true)(j:(Region.ready md ops listed).contains i=true)(d:∀c a w,Q (.panic c) (a.put b v) w->Q (.panic c) a w)(f:oi.dst=b)(l:YieldsIf P ops S oi v a)(e:S w)(h:wpAnyH P md ops Q S fuel (listed.setIfInBounds i true) (a.put b v) w):wpAnyH P md ops Q S (fuel+1) listed a w:=by
 subst f;exact wpAnyH_take hi k g j d l e h
theorem tkp(i b:Nat)(v:Value)(l:S w)(h:wpAnyH P md ops Q S fuel (listed.setIfInBounds i true) (a.put (some b) v) w)(m:(Region.noSelect ops&&Region.free md ops listed i&&(Region.ready md ops listed).contains i,ops[i]?.map λo=>(o.dst,Region.wanted o (yielded ops a.tmps),λZ=>(execOp a.eval o).run P Z))=(true,some (some b,true,λZ=>.ok (.value v) Z)):=by kernel_rfl)(k:∀c a w,Q (.panic c) (a.put (some b) v) w->Q (.panic c) a w:=by exact λ_ _ _ h=>h):wpAnyH P md ops Q S (fuel+1) listed a w:=by
 obtain⟨d,g⟩:=Prod.mk.inj m;obtain⟨o,n,e⟩:=Option.map_eq_some_iff.1 g;obtain⟨e,f⟩:=Prod.mk.inj e;obtain⟨f,j⟩:=Prod.mk.inj f;simp only[Bool.and_eq_true]at d;exact qwh (some b) n d.1.1 d.1.2 d.2 k e (.inl ⟨f,λZ _=>congrFun j Z⟩) l h
theorem tkq(i d:Nat)(v:Value)(hi:ops[i]?=some oi)(g:∀Z,S Z->(execOp a.eval oi).run P Z=.ok (.value v) Z)(f:S w)(h:wpAnyH P md ops Q S fuel (listed.setIfInBounds i true) (a.put (some d) v) w)(b:(Region.noSelect ops&&Region.free md ops listed i&&(Region.ready md ops listed).contains i&&oi.dst==some d&&Region.wanted oi (yielded ops a.tmps))=true:=by kernel_rfl)(e:∀c a w,Q (.panic c) (a.put (some d) v) w->Q (.panic c) a w:=by exact λ_ _ _ h=>h):wpAnyH P md ops Q S (fuel+1) listed a w:=by
 simp only[Bool.and_eq_true]at b;exact qwh (some d) hi b.1.1.1.1 b.1.1.1.2 b.1.1.2 e (by simpa using b.1.2) (.inl ⟨b.2,g⟩) f h
theorem wdn(h:Q .normal a w)(b:Region.ready md ops listed=[]:=by kernel_rfl):wpAnyH P md ops Q S fuel listed a w:=wpAnyH_done b h fuel
theorem rdq(i:Nat)(h:(∀b:Act->World->Prop,Shut (∀a w,S w->(S w->wpAnyH P md ops Q S fuel (listed.setIfInBounds i true) a w)->b a w)->if Region.wanted o (yielded ops a.tmps)=true then Oper.wp P o a w b Q else b (a.put o.dst undef) w))(hi:ops[i]?=some o:=by rfl)(c:Region.ready md ops listed=[i]:=by kernel_rfl):wpAnyH P md ops Q S (fuel+1) listed a w:=rdH i hi c h
theorem qll(i j:Nat)(h:(∀b:Act->World->Prop,Shut (∀a w,S w->(S w->wpAnyH P md ops Q S fuel (listed.setIfInBounds i true) a w)->b a w)->if Region.wanted o (yielded ops a.tmps)=true then Oper.wp P o a w b Q else b (a.put o.dst undef) w))(k:(∀b:Act->World->Prop,Shut (∀a w,S w->(S w->wpAnyH P md ops Q S fuel (listed.setIfInBounds j true) a w)->b a w)->if Region.wanted p (yielded ops a.tmps)=true then Oper.wp P p a w b Q else b (a.put p.dst undef) w))(hi:ops[i]?=some o:=by rfl)(c:ops[j]?=some p:=by rfl)(d:Region.ready md ops listed=[i,j]:=by kernel_rfl):wpAnyH P md ops Q S (fuel+1) listed a w:=q07 i j hi c d h k
theorem nec{c:UInt8}(v:Int)(h:¬(c.toNat:Int)=v):((c.toNat:Int)==v)=false:=by simpa using h
theorem qaf(b:TypeId)(x:Operand)(k:o.op=.load b x)(j:Region.wanted o (yielded ops a.tmps)=true)(g:Nat)(m:a.eval x=.pointer (some ⟨g,0,none⟩))(t:TypeId)(cs:Array Value)(c:Nat×Nat)(d:TypeDesc)(i:w.heap[g]?=some (.cells cs t c))(l:P.underlying b=some d)(f:(match d with|.struct _|.array _ _=>true|_=>false)=true)(hi:(P.info? b).map (·.size)=some cs.size)(h:wpList P ops Q rest (a.put o.dst (.agg cs)) w):wpList P ops Q (o::rest) a w :=
 wpList_step λK e=>by rw[if_pos j];exact wp_load_row b x k g m t cs c d i l f hi (e _ _ h)
theorem qal(g:o.guard=none)(t:TypeId)(c:Array (Nat×Operand))(k:o.op=.build t c)(d:Option Tmp)(e:o.dst=d)(b:Array Value)(l:List (Nat×Value))(j:(c.map λ(i,x)=>(i,a.eval x)).toList=l)(f:P.built t l=some b)(h:wpList P ops Q rest (a.put d (.agg b)) w):wpList P ops Q (o::rest) a w :=
 wpList_buildTo g t c k d e b (by rw[j];exact f) h
structure qkt(arr:Array Value)(n:Nat)(m:Nat->Nat->Bool):Prop where
 size:arr.size=37
 count:arr[0]?=some (.int .i64 n)
 at_:∀i j,i<6->j<6->arr[1+i*6+j]?=some (.bool (m i j))
def qaq(n:Nat)(m:Nat->Nat->Bool):Array Value:=(.int .i64 n::(List.range 36).map λk=>.bool (m (k/6) (k%6))).toArray
theorem qae(n:Nat)(m:Nat->Nat->Bool):(qaq n m).size=37:=by simp[qaq]
theorem qay(n:Nat)(m:Nat->Nat->Bool):qkt (qaq n m) n m:=by
 refine⟨qae n m,rfl,λi j d e=>?_⟩;have a:1+i*6+j=(i*6+j)+1:=by omega
 rw[a];simp only[qaq,List.getElem?_toArray,List.getElem?_cons_succ,List.getElem?_map];rw[List.getElem?_range (by omega)];simp only[Option.map_some];have b:(i*6+j)/6=i:=by omega
 have c:(i*6+j)%6=j:=by omega
 rw[b,c]
def upd(m:Nat->Nat->Bool)(i j:Nat)(b:Bool):Nat->Nat->Bool:=λx y=>if x=i/\y=j then b else m x y
theorem qhY(n:Nat)(m:Nat->Nat->Bool)(i j:Nat)(b:Bool)(hi:i<6)(d:j<6):(qaq n m).setIfInBounds (1+i*6+j) (.bool b)=qaq n (upd m i j b):=by
 apply Array.ext_getElem?;intro k;rw[Array.getElem?_setIfInBounds];by_cases a:1+i*6+j=k
 ·subst a;rw[if_pos rfl,(qay n (upd m i j b)).at_ i j hi d,if_pos (by rw[qae];omega)];simp[upd]
 rw[if_neg a]
 cases k with
 |zero=>rw[(qay n m).count,(qay n (upd m i j b)).count]
 |succ q =>
  by_cases e:q<36
  ·have c:q+1=1+(q/6)*6+q%6:=by omega
   rw[c,(qay n m).at_ _ _ (by omega) (by omega),(qay n (upd m i j b)).at_ _ _ (by omega) (by omega)];have:¬(q/6=i/\q%6=j):=by omega
   simp[upd,this]
  rw[Array.getElem?_eq_none (by rw[qae];omega),Array.getElem?_eq_none (by rw[qae];omega)]
theorem qa8(n:Nat)(m:Nat->Nat->Bool):(qaq n m).all (·.oneCell')=true:=by
 rw[Array.all_eq_true_iff_forall_mem];intro x a;simp only[qaq,List.mem_toArray,List.mem_cons,List.mem_map]at a;rcases a with rfl|⟨k,_,rfl⟩<;>rfl
def qaI:Array Value:=qaq 0 λ_ _=>false
theorem qli(ρ:Operand->Value)(o:Oper)(a:o.op=.alloc 67)(w:World):(execOp ρ o).run prog w=.ok (.value (.pointer (some ⟨w.heap.size,0,none⟩))) (w.alloc (.cells qaI 67)):=by
 unfold execOp;rw[a];kernel_rfl
theorem qas(e:o.guard=none)(f:o.op=.alloc 67)(d:Option Tmp)(c:o.dst=d)(N:Nat)(b:w.heap.size=N)(h:wpList prog ops Q rest (a.put d (.pointer (some ⟨N,0,none⟩))) (w.alloc (.cells qaI 67))):wpList prog ops Q (o::rest) a w:=by
 subst b;exact Great.wpList_allocTo e d c _ _ (qli _ _ f _) h
theorem qjG(n:Nat):prog.built 67 [(0,.int .i64 n)]=some (qaq n λ_ _=>false):=by kernel_rfl
theorem qbP:prog.built 67 []=some qaI:=by kernel_rfl
def ubB(m:Nat->Nat->Bool)(a b c:Nat):Bool:=m a c&&m b c
theorem qat{arr:Array Value}(h:arr.size=37):(prog.info? 67).map (·.size)=some arr.size:=by rw[h];kernel_rfl
theorem qee(arr:Array Value)(n:Nat)(m:Nat->Nat->Bool)(H:qkt arr n m)(a b c:Nat)(f:a<6)(g:b<6)(i:c<6)(w:World):Calls prog 91 #[.agg arr,.int .i64 c,.int .i64 a,.int .i64 b] w λe d=>e=.returned (.bool (ubB m a b c))/\Below w.heap.size w d:=by
 have h:=H.at_;go_enter func91,ntmps91;go_wp2
 all_goals go_ret
 all_goals exact⟨by simp[ubB, *],bwA⟩
def qbM(n:Nat)(a:Int):Bool:=decide (0<=a/\a<n)
theorem qfg(arr:Array Value)(n:Nat)(h:arr[0]?=some (.int .i64 n))(a:Int)(w:World):Calls prog 58 #[.agg arr,.int .i64 a] w λe c=>e=.returned (.bool (qbM n a))/\Below w.heap.size w c:=by
 go_enter func58,ntmps58;go_wp2
 all_goals go_ret
 ·exact⟨by simp[qbM, *],bwA⟩
 exact⟨(by have b:¬0<=a:=(by omega);simp[qbM,b]),bwA⟩
def qaS(n:Nat)(m:Nat->Nat->Bool)(a b j:Nat):Bool:=ubB m a b j&&(List.range n).all λk=>!ubB m a b k||m j k
def qa4(n:Nat)(m:Nat->Nat->Bool)(a b:Nat):Bool:=(List.range n).any λj=>qaS n m a b j
theorem qdA{a k:Nat}(d:k<n)(h:ubB m a b k=true)(c:m j k=false):qaS n m a b j=false:=by
 unfold qaS;rw[Bool.and_eq_false_iff];right;rw[List.all_eq_false];exact⟨k,List.mem_range.2 d,by simp[h,c]⟩
theorem qgk{a:Nat}(c:ubB m a b j=true)(h:∀k,k<n->ubB m a b k=true->m j k=true):qaS n m a b j=true:=by
 unfold qaS;rw[c,Bool.true_and,List.all_eq_true];intro k d;have:=h k (List.mem_range.1 d);cases e:ubB m a b k<;>simp_all
theorem qdR{a:Nat}(c:j<n)(h:qaS n m a b j=true):qa4 n m a b=true:=by
 unfold qa4;rw[List.any_eq_true];exact⟨j,List.mem_range.2 c,h⟩
theorem qfv{a:Nat}(h:∀j,j<n->qaS n m a b j=false):qa4 n m a b=false:=by
 unfold qa4;rw[List.any_eq_false];intro j c;simp[h j (List.mem_range.1 c)]
theorem qer(arr:Array Value)(n:Nat)(m:Nat->Nat->Bool)(H:qkt arr n m)(hn:n<=6)(a b:Nat)(Q:a<6)(R:b<6)(w:World):Calls prog 74 #[.agg arr,.int .i64 a,.int .i64 b] w λe w'=>e=.returned (.bool (qa4 n m a b))/\Below w.heap.size w w':=by
 have h:=H.at_;have P:=H.count;have W:=qat H.size;have L:=qab H;have r:=qab W;have V:=(Below.refl w.heap.size w).alloc (Nat.le_refl _) (.cells arr 67);have Y:=qac w (.cells arr 67);have y:(w.alloc (.cells arr 67)).heap.size=w.heap.size+1:=by simp
 have K:=qab V;have M:=qab Y;have N:=qab y;go_enter func74,ntmps74;go_wp2;go_step3;go_wp2;go_step3;go_wp2;generalize hW:w.alloc (.cells arr 67)=W1 at *
 go_loopg[11,7] n (λg x aa wr=>∃k:Nat,Hid (k+g=n)/\x=.int .i64 k/\Below (w.heap.size+1) W1 wr/\Hid (∀j,j<k->qaS n m a b j=false))
 case atStart=>exact⟨0,by show _=_;omega,rfl,Below.refl _ _,λj o=>by omega⟩
 case round =>
  obtain⟨k,u,rfl,t,D⟩:=hrel;have B:=(t.block _ (by omega)).trans M.out;have J:=(qaa B 0).trans P;have l:=t.size;rw[N.out]at l;have f:=qab B
  cases gk with
  |zero =>
   have X:¬(k:Int)<n:=by have:=u.out;omega
   go_wp2;go_ret;exact⟨by rw[qfv (λj o=>D.out j (by have:=u.out;omega))];rfl,K.out.trans (t.mono (by omega))⟩
  |succ g =>
   have X:(k:Int)<n:=by have:=u.out;omega
   have S:k<6:=by omega
   have d:=qee arr n m L.out a b k Q R S wr;cases i:ubB m a b k
   ·rw[i]at d;have G:=qab i
    go_wp2_with(first
     |(refine wpList_load_row rfl 67 _ rfl _ rfl _ arr _ _ f.out underlying67 rfl r.out ?_)
     |(go_at_call 91;refine d.mono ?_;rintro e C ⟨rfl,c⟩))
    go_roundg g
    case measure=>omega
    case rel =>
     refine⟨k+1,by show _=_;have:=u.out;omega,by go_num,t.trans (c.mono l),?_⟩;intro j o;by_cases e:j=k
     ·subst e;unfold qaS;rw[G.out];rfl
     exact D.out j (by omega)
   rw[i]at d;have G:=qab i
   go_wp2_with(first
    |(refine wpList_load_row rfl 67 _ rfl _ rfl _ arr _ _ f.out underlying67 rfl r.out ?_)
    |(go_at_call 91;refine d.mono ?_;rintro e C ⟨rfl,c⟩;have J:=(qaa (((c.block _ (by omega)).trans f.out)) 0).trans P))
   have U:=t.trans (c.mono l)
   go_loopg[22,8] n (λg x aa wq=>∃q:Nat,Hid (q+g=n)/\x=.int .i64 q/\Below (w.heap.size+1) W1 wq/\Hid (∀j,j<q->ubB m a b j=true->m k j=true))
   case atStart=>exact⟨0,by show _=_;omega,rfl,U,λj o=>by omega⟩
   case round =>
    obtain⟨q,v,rfl,p,F⟩:=hrel;have B:=(p.block _ (by omega)).trans M.out;have l:=p.size;rw[N.out]at l;have f:=qab B
    cases gk with
    |zero =>
     have Z:¬(q:Int)<n:=by have:=v.out;omega
     go_wp2;go_ret;exact⟨by rw[qdR (by omega) (qgk G.out (λj o=>F.out j (by have:=v.out;omega)))];rfl,K.out.trans (p.mono (by omega))⟩
    |succ O =>
     have Z:(q:Int)<n:=by have:=v.out;omega
     have T:q<6:=by omega
     have d:=qee arr n m L.out a b q Q R T wr;cases i:ubB m a b q
     ·rw[i]at d;have I:=qab i
      go_wp2_with(first
       |(refine wpList_load_row rfl 67 _ rfl _ rfl _ arr _ _ f.out underlying67 rfl r.out ?_)
       |(go_at_call 91;refine d.mono ?_;rintro e C ⟨rfl,c⟩))
      go_roundg O
      case measure=>omega
      case rel =>
       refine⟨q+1,by show _=_;have:=v.out;omega,by go_num,p.trans (c.mono l),?_⟩;intro j o s;by_cases e:j=q
       ·subst e;rw[I.out]at s;cases s
       exact F.out j (by omega) s
     rw[i]at d;have I:=qab i;have z:=h k q S T;cases A:m k q
     ·rw[A]at z;have E:=qab A
      go_wp2_with(first
       |(refine wpList_load_row rfl 67 _ rfl _ rfl _ arr _ _ f.out underlying67 rfl r.out ?_)
       |(go_at_call 91;refine d.mono ?_;rintro e C ⟨rfl,c⟩;have J:=(qaa (((c.block _ (by omega)).trans f.out)) (1+k*6+q)).trans z))
      go_roundg g
      case measure=>omega
      case rel =>
       refine⟨k+1,by show _=_;have:=u.out;omega,by go_num,p.trans (c.mono l),?_⟩;intro j o;by_cases e:j=k
       ·subst e;exact qdA (by omega) I.out E.out
       exact D.out j (by omega)
     rw[A]at z;have E:=qab A
     go_wp2_with(first
      |(refine wpList_load_row rfl 67 _ rfl _ rfl _ arr _ _ f.out underlying67 rfl r.out ?_)
      |(go_at_call 91;refine d.mono ?_;rintro e C ⟨rfl,c⟩;have J:=(qaa (((c.block _ (by omega)).trans f.out)) (1+k*6+q)).trans z))
     go_roundg O
     case measure=>omega
     case rel =>
      refine⟨q+1,by show _=_;have:=v.out;omega,by go_num,p.trans (c.mono l),?_⟩;intro j o s;by_cases e:j=q
      ·subst e;exact E.out
      exact F.out j (by omega) s

def qqI(m:Nat->Nat->Bool)(a b:Nat):Bool:=m a b&&m b a
def qaC(n:Nat)(m:Nat->Nat->Bool):Bool:=(List.range n).any λa=>(List.range a).any λb=>qqI m a b
theorem qd4{a:Nat}(c:a<n)(d:b<a)(h:qqI m a b=true):qaC n m=true:=by
 unfold qaC;rw[List.any_eq_true];refine⟨a,List.mem_range.2 c,?_⟩;rw[List.any_eq_true];exact⟨b,List.mem_range.2 d,h⟩
theorem qmt(h:∀a b,a<n->b<a->qqI m a b=false):qaC n m=false:=by
 unfold qaC;rw[List.any_eq_false];intro a d;rw[List.any_eq_true];rintro⟨b,e,c⟩;rw[h a b (List.mem_range.1 d) (List.mem_range.1 e)]at c;cases c
theorem qks(arr:Array Value)(n:Nat)(m:Nat->Nat->Bool)(H:qkt arr n m)(F:n<=6)(w:World):Calls prog 59 #[.agg arr] w λe D=>e=.returned (.bool (qaC n m))/\Below w.heap.size w D:=by
 have p:=qab H.at_;have E:=H.count;clear H;go_enter func59,ntmps59;go_wp2
 go_loopg[7,3] n (λg x y wr=>∃k:Nat,Hid (k+g=n)/\x=.int .i64 k/\w.alloc (.cells arr 67)=wr/\Hid (∀a b,a<k->b<a->qqI m a b=false))
 case atStart=>exact⟨0,by show _=_;omega,rfl,rfl,λa b v=>by omega⟩
 case round =>
  obtain⟨k,j,rfl,rfl,r⟩:=hrel
  cases gk with
  |zero =>
   have B:¬(k:Int)<n:=by have:=j.out;omega
   go_wp2;go_ret;exact⟨by rw[qmt (λa b v f=>r.out a b (by have:=j.out;omega) f)];rfl,bwA⟩
  |succ g =>
   have B:(k:Int)<n:=by have:=j.out;omega
   have z:k<6:=by omega
   go_wp2
   go_loopg[11,4] k (λg x y wr=>∃q:Nat,Hid (q+g=k)/\x=.int .i64 q/\w.alloc (.cells arr 67)=wr/\Hid (∀b,b<q->qqI m k b=false))
   case atStart=>exact⟨0,by show _=_;omega,rfl,rfl,λb f=>by omega⟩
   case round =>
    obtain⟨q,h,rfl,rfl,o⟩:=hrel
    cases gk with
    |zero =>
     have C:¬(q:Int)<k:=by have:=h.out;omega
     go_wp2;go_roundg g
     case measure=>omega
     case rel =>
      refine⟨k+1,by show _=_;have:=j.out;omega,by go_num,rfl,λa b v f=>?_⟩;by_cases e:a=k
      ·subst e;exact o.out b (by have:=h.out;omega)
      exact r.out a b (by omega) f
    |succ s =>
     have C:(q:Int)<k:=by have:=h.out;omega
     have A:q<6:=by omega
     have t:=p.out k q z A;have u:=p.out q k A z;cases c:m k q
     ·rw[c]at t;have i:=qab c;clear c;go_wp2;go_roundg s
      case measure=>omega
      case rel =>
       refine⟨q+1,by show _=_;have:=h.out;omega,by go_num,rfl,λb f=>?_⟩;by_cases e:b=q
       ·subst e;unfold qqI;rw[i.out];rfl
       exact o.out b (by omega)
     rw[c]at t;have i:=qab c;clear c;cases d:m q k
     ·rw[d]at u;have l:=qab d;clear d;go_wp2;go_roundg s
      case measure=>omega
      case rel =>
       refine⟨q+1,by show _=_;have:=h.out;omega,by go_num,rfl,λb f=>?_⟩;by_cases e:b=q
       ·subst e;unfold qqI;rw[i.out,l.out];rfl
       exact o.out b (by omega)
     rw[d]at u;have l:=qab d;clear d;go_wp2;go_ret;exact⟨by rw[qd4 (a:=k) (b:=q) (by omega) (by omega) (by unfold qqI;rw[i.out,l.out];rfl)];rfl,bwA⟩
theorem qor(arr:Array Value)(n:Nat)(m:Nat->Nat->Bool)(H:qkt arr n m)(x:n<=6)(a b:Nat)(t:a<n)(u:b<n)(w:World):Calls prog 82 #[.agg arr,.int .i64 a,.int .i64 b] w λe r=>e=.returned (.bool (m a b))/\Below w.heap.size w r:=by
 have h:=H.at_ a b (by omega) (by omega);have j:=H.count;have g:=qab (qat H.size);clear H;have o:qbM n a=true:=by unfold qbM;exact decide_eq_true (by omega)
 have p:qbM n b=true:=by unfold qbM;exact decide_eq_true (by omega)
 go_enter func82,ntmps82;have l:=qac w (.cells arr 67);have c:=qab l;clear l;have d:=qfg arr n j a (w.alloc (.cells arr 67));rw[o]at d
 go_wp2_with(first
  |(refine wpList_load_row rfl 67 _ rfl _ rfl _ arr _ _ c.out underlying67 rfl g.out ?_)
  |(refine qaf 67 _ rfl rfl _ rfl _ arr _ _ c.out underlying67 rfl g.out ?_)
  |(go_at_call 58;refine d.mono ?_;clear d;rintro e s ⟨rfl,f⟩;have i:=qab ((f.block _ (by simp)).trans c.out);clear c;have c:=i;clear i;have c2:=qfg arr n j b s;rw[p]at c2;have q:=f.size;rw[World.size_alloc]at q)
  |(go_at_call 58;refine c2.mono ?_;clear c2;rintro e y ⟨rfl,k⟩;have v:=(qaa ((k.block _ (by omega)).trans c.out) (1+a*6+b)).trans h))
 go_ret;exact⟨rfl,((bwA).trans (f.mono (by simp))).trans (k.mono (by omega))⟩

def qdT(c:Int):Int×Int×Int :=
 if c<128 then(0,0,1)else if 194<=c/\c<=223 then(128,191,2)else if c=224 then(160,191,3)else if c=237 then(128,159,3)
 else if 225<=c/\c<=239 then(128,191,3)else if c=240 then(144,191,4)else if 241<=c/\c<=243 then(128,191,4)else if c=244 then(128,143,4)else(0,0,0)
theorem qgT(c:Int)(w:World):Calls prog 130 #[.int .u8 c] w λe a=>e=.returned (.tuple #[.int .u8 (qdT c).1,.int .u8 (qdT c).2.1,.int .i64 (qdT c).2.2])/\a=w:=by
 go_enter func130,ntmps130;go_wp2
 all_goals go_ret3
 all_goals refine⟨?_,rfl⟩
 all_goals simp only[beq_iff_eq,beq_eq_false_iff_ne]at *
 all_goals unfold qdT
 all_goals(repeat(first|rw[if_pos (by omega)]|rw[if_neg (by omega)]))
 all_goals rfl
def qeM(s:ByteArray):Int:=if s.toList==[100,114,111,112]then 1 else if s.toList==[109,97,115,107]then 2 else if s.toList==[116,97,103]then 3 else 0
theorem qfk(s:ByteArray)(w:World):Calls prog 56 #[.string s] w λe a=>e=.returned (.int .i64 (qeM s))/\a=w:=by
 go_enter func56,ntmps56;go_wp2
 all_goals go_ret
 all_goals refine⟨?_,rfl⟩
 all_goals unfold qeM
 all_goals(repeat(first|rw[if_pos (by assumption)]|rw[if_neg (by rw[Bool.not_eq_true];assumption)]))
 all_goals rfl
theorem qcB(s:ByteArray)(w:World):Calls prog 79 #[.string s] w λe a=>e=.returned (.tuple #[.int .i64 (qeM s),.bool (qeM s != 0)])/\a=w:=by
 go_enter func79,ntmps79;go_wp2
 all_goals go_ret2
 all_goals refine⟨?_,rfl⟩
 all_goals unfold qeM
 all_goals(repeat(first|rw[if_pos (by assumption)]|rw[if_neg (by rw[Bool.not_eq_true];assumption)]))
 all_goals rfl
def qse(l:List UInt8):Int:=match l with
 |[b]=>if 48<=b.toNat/\b.toNat<=57 then(b.toNat:Int)-48 else 0
 |_=>0
def qiK(l:List UInt8)(n:Int):Bool:=match l with
 |[b]=>decide (48<=b.toNat/\b.toNat<=57)&&decide ((b.toNat:Int)-48<n)
 |_=>false
theorem qnv{s:ByteArray}(h:s.size=1):s.data.toList=[s[0]]:=by
 obtain⟨⟨l⟩⟩:=s
 match l,h with
 |[b],_=>rfl
theorem qqu{l:List UInt8}(n:Int)(h:l.length≠1):qse l=0/\qiK l n=false:=by
 match l,h with
 |[],_=>exact⟨rfl,rfl⟩
 |_::_::_,_=>exact⟨rfl,rfl⟩
theorem qda(s:ByteArray)(n:Int)(w:World):Calls prog 78 #[.string s,.int .i64 n] w λe d=>e=.returned (.tuple #[.int .i64 (qse s.data.toList),.bool (qiK s.data.toList n)])/\d=w:=by
 by_cases c:s.size=1
 ·have f:(s.size:Int)=1:=by omega
  have b:=qab (qnv c);by_cases g:(s[0].toNat:Int)<48
  ·have a:Hid (qse [s[0]]=0/\qiK [s[0]] n=false):=⟨if_neg (by omega),by simp only[qiK];rw[decide_eq_false (by omega)];rfl⟩
   go_enter func78,ntmps78;go_wp2
   all_goals go_ret2
   all_goals exact⟨by rw[b.out,a.out.1,a.out.2];rfl,rfl⟩
  have h:(48:Int)<=s[0].toNat:=by omega
  by_cases i:(57:Int)<s[0].toNat
  ·have a:Hid (qse [s[0]]=0/\qiK [s[0]] n=false):=⟨if_neg (by omega),by simp only[qiK];rw[decide_eq_false (by omega)];rfl⟩
   go_enter func78,ntmps78;go_wp2
   all_goals go_ret2
   all_goals exact⟨by rw[b.out,a.out.1,a.out.2];rfl,rfl⟩
  have j:(s[0].toNat:Int)<=57:=by omega
  have a:Hid (qse [s[0]]=(s[0].toNat:Int)-48/\qiK [s[0]] n=decide ((s[0].toNat:Int)-48<n)):=⟨if_pos (by omega),by simp only[qiK];rw[decide_eq_true (by omega)];rfl⟩
  go_enter func78,ntmps78;go_wp2
  all_goals go_ret2
  all_goals exact⟨by rw[b.out,a.out.1,a.out.2];rfl,rfl⟩
 have:(s.size:Int)≠1:=by omega
 have a:=qab (qqu n (by rw[Array.length_toList];exact c));go_enter func78,ntmps78;go_wp2
 all_goals go_ret2
 all_goals exact⟨by rw[a.out.1,a.out.2];rfl,rfl⟩

end
end Go.Proofs.YtpifimohecagoaaGreatDoor
