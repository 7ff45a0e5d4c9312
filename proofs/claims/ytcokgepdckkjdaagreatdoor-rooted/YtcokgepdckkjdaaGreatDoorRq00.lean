import Derived.Test.YtcokgepdckkjdaaGreatDoorRows
import Derived.WalkKit
import Derived.WalkSpells
import Derived.WalkLawsBesides
import Derived.WalkMore
import Derived.Deep.QuietTactic
import Derived.BigQuiet
import Derived.Deep.LoopGhost
import Derived.Great.Walk
import Derived.Great.BuildSlice
import Derived.Deep.WholeRow
import Derived.Deep.RegionHeld3
set_option maxRecDepth 100000
set_option maxHeartbeats 8000000
namespace Go.Proofs.YtcokgepdckkjdaaGreatDoor
open Go.Proofs.Tryz
variable {w:World}{b fuel g i j n:Nat}{cs:Array Value}{o p:Oper}{P:Program}{ops:Array Oper}{Q:Exit->Act->World->Prop}{rest:List Oper}{a:Act}{S:World->Prop}{md:Region.Mode}{listed:Array Bool}{m:Nat->Nat->Bool}
section
open Go.RowKit
theorem qaa {p:Prop}(h:p):Hid p:=h
theorem qac (w:World)(o:Obj):(w.alloc o).heap[w.heap.size]? = some o:=by
 show(w.heap.push o)[w.heap.size]? = _;simp
theorem qab {t:TypeId}{fr:Nat×Nat}(a:w.heap[g]? = some (.cells cs t fr))(j:Nat):w.cell? ⟨g,j,none⟩=cs[j]?:=cell_of_row w g j cs t fr a
theorem bwA {o:Obj}:Below w.heap.size w (w.alloc o):=(Below.refl _ _).alloc (Nat.le_refl _) _
theorem bwO (o:Obj):Below w.heap.size w (w.alloc o):=(Below.refl _ _).alloc (Nat.le_refl _) _
theorem bwR:Below n w w:=Below.refl _ _
theorem ltA {α:Type}{a:Array α}{x:α}(h:a[i]? = some x):i<a.size:=(Array.getElem?_eq_some_iff.1 h).1
theorem ltL {α:Type}{a:List α}{x:α}(h:a[i]? = some x):i<a.length:=(List.getElem?_eq_some_iff.1 h).1
theorem sx {y:Option Obj}(h:j≠g)(e:w.heap[j]? = y):(w.setRow g cs).heap[j]? = y:=(setRow_other _ _ _ _ h).trans e
theorem iQ3 {α β γ:Type}{p:α->β->γ->Prop}:∀a b c,p a b c->p a b c:=fun _ _ _ h=>h
theorem nmd (h:∀V,w=V->wpList P ops Q rest a V):wpList P ops Q rest a w:=h w rfl
theorem rgn {id:Nat}(b:S {w with drawn:=w.drawn+1})(c:P.follows .mixedOrders=true)(h:S {w with drawn:=w.drawn+1}->wpAnyH P .any ops Q S ops.size (Array.replicate ops.size false) a {w with drawn:=w.drawn+1}):(Code.region id ops true).wp P Q a w:=wp_region_held c (h b)
theorem rd1 (i:Nat)(hi:ops[i]? = some o)(c:Region.ready md ops listed=[i])(h:(∀b:Act->World->Prop,(∀a w,wpAny P md ops Q fuel (listed.setIfInBounds i true) a w->b a w)->if Region.wanted o (yielded ops a.tmps)=true then Oper.wp P o a w b Q else b (a.put o.dst undef) w)):wpAny P md ops Q (fuel+1) listed a w:=wpAny_ready c (by simp) (AllReady.cons hi h AllReady.nil)
theorem rd2 (i j:Nat)(hi:ops[i]? = some o)(c:ops[j]? = some p)(d:Region.ready md ops listed=[i,j])(h:(∀b:Act->World->Prop,(∀a w,wpAny P md ops Q fuel (listed.setIfInBounds i true) a w->b a w)->if Region.wanted o (yielded ops a.tmps)=true then Oper.wp P o a w b Q else b (a.put o.dst undef) w))(k:(∀b:Act->World->Prop,(∀a w,wpAny P md ops Q fuel (listed.setIfInBounds j true) a w->b a w)->if Region.wanted p (yielded ops a.tmps)=true then Oper.wp P p a w b Q else b (a.put p.dst undef) w)):wpAny P md ops Q (fuel+1) listed a w:=wpAny_ready d (by simp) (AllReady.cons hi h (AllReady.cons c k AllReady.nil))
theorem rdH (i:Nat)(hi:ops[i]? = some o)(c:Region.ready md ops listed=[i])(h:(∀b:Act->World->Prop,Shut (∀a w,S w->(S w->wpAnyH P md ops Q S fuel (listed.setIfInBounds i true) a w)->b a w)->if Region.wanted o (yielded ops a.tmps)=true then Oper.wp P o a w b Q else b (a.put o.dst undef) w)):wpAnyH P md ops Q S (fuel+1) listed a w:=wpAnyH_ready c (by simp) (AllReadyH.cons hi h AllReadyH.nil)
theorem qsx (i j:Nat)(hi:ops[i]? = some o)(c:ops[j]? = some p)(d:Region.ready md ops listed=[i,j])(h:(∀b:Act->World->Prop,Shut (∀a w,S w->(S w->wpAnyH P md ops Q S fuel (listed.setIfInBounds i true) a w)->b a w)->if Region.wanted o (yielded ops a.tmps)=true then Oper.wp P o a w b Q else b (a.put o.dst undef) w))(k:(∀b:Act->World->Prop,Shut (∀a w,S w->(S w->wpAnyH P md ops Q S fuel (listed.setIfInBounds j true) a w)->b a w)->if Region.wanted p (yielded ops a.tmps)=true then Oper.wp P p a w b Q else b (a.put p.dst undef) w)):wpAnyH P md ops Q S (fuel+1) listed a w:=wpAnyH_ready d (by simp) (AllReadyH.cons hi h (AllReadyH.cons c k AllReadyH.nil))
theorem nec {c:UInt8}(v:Int)(h:¬(c.toNat:Int)=v):((c.toNat:Int)==v)=false:=by simpa using h
theorem qaf (b:TypeId)(x:Operand)(k:o.op=.load b x)(j:Region.wanted o (yielded ops a.tmps)=true)(g:Nat)(m:a.eval x=.pointer (some ⟨g,0,none⟩))(t:TypeId)(cs:Array Value)(c:Nat×Nat)(d:TypeDesc)(i:w.heap[g]? = some (.cells cs t c))(l:P.underlying b=some d)(f:(match d with|.struct _|.array _ _=>true|_=>false)=true)(hi:(P.info? b).map (·.size)=some cs.size)(h:wpList P ops Q rest (a.put o.dst (.agg cs)) w):wpList P ops Q (o::rest) a w :=
 wpList_step fun K e=>by rw[if_pos j];exact wp_load_row b x k g m t cs c d i l f hi (e _ _ h)
theorem qak (g:o.guard=none)(t:TypeId)(c:Array (Nat×Operand))(k:o.op=.build t c)(d:Option Tmp)(e:o.dst=d)(b:Array Value)(l:List (Nat×Value))(j:(c.map fun (i,x)=>(i,a.eval x)).toList=l)(f:P.built t l=some b)(h:wpList P ops Q rest (a.put d (.agg b)) w):wpList P ops Q (o::rest) a w :=
 wpList_buildTo g t c k d e b (by rw[j];exact f) h
structure qjo (arr:Array Value)(n:Nat)(m:Nat->Nat->Bool):Prop where
 size:arr.size=37
 count:arr[0]? = some (.int .i64 n)
 at_:∀i j,i<6->j<6->arr[1+i*6+j]? = some (.bool (m i j))
def qan (n:Nat)(m:Nat->Nat->Bool):Array Value:=(.int .i64 n::(List.range 36).map fun k=>.bool (m (k / 6) (k%6))).toArray
theorem qae (n:Nat)(m:Nat->Nat->Bool):(qan n m).size=37:=by simp[qan]
theorem qaw (n:Nat)(m:Nat->Nat->Bool):qjo (qan n m) n m:=by
 refine⟨qae n m,rfl,fun i j d e => ?_⟩;have a:1+i*6+j=(i*6+j)+1:=by omega
 rw[a];simp only[qan,List.getElem?_toArray,List.getElem?_cons_succ,List.getElem?_map];rw[List.getElem?_range (by omega)];simp only[Option.map_some];have b:(i*6+j) / 6=i:=by omega
 have c:(i*6+j)%6=j:=by omega
 rw[b,c]
def upd (m:Nat->Nat->Bool)(i j:Nat)(b:Bool):Nat->Nat->Bool:=fun x y=>if x=i/\y=j then b else m x y
theorem qhg (n:Nat)(m:Nat->Nat->Bool)(i j:Nat)(b:Bool)(hi:i<6)(d:j<6):(qan n m).setIfInBounds (1+i*6+j) (.bool b)=qan n (upd m i j b):=by
 apply Array.ext_getElem?;intro k;rw[Array.getElem?_setIfInBounds];by_cases a:1+i*6+j=k
 ·subst a;rw[if_pos rfl,(qaw n (upd m i j b)).at_ i j hi d,if_pos (by rw[qae];omega)];simp[upd]
 rw[if_neg a]
 cases k with
 |zero=>rw[(qaw n m).count,(qaw n (upd m i j b)).count]
 |succ q =>
  by_cases e:q<36
  ·have c:q+1=1+(q / 6)*6+q%6:=by omega
   rw[c,(qaw n m).at_ _ _ (by omega) (by omega),(qaw n (upd m i j b)).at_ _ _ (by omega) (by omega)];have:¬(q / 6=i/\q%6=j):=by omega
   simp[upd,this]
  rw[Array.getElem?_eq_none (by rw[qae];omega),Array.getElem?_eq_none (by rw[qae];omega)]
theorem qa5 (n:Nat)(m:Nat->Nat->Bool):(qan n m).all (·.oneCell')=true:=by
 rw[Array.all_eq_true_iff_forall_mem];intro x a;simp only[qan,List.mem_toArray,List.mem_cons,List.mem_map] at a;rcases a with rfl|⟨k,_,rfl⟩<;>rfl
def qaB:Array Value:=qan 0 fun _ _=>false
theorem qjZ (ρ:Operand->Value)(o:Oper)(a:o.op=.alloc 87)(w:World):(execOp ρ o).run prog w=.ok (.value (.pointer (some ⟨w.heap.size,0,none⟩))) (w.alloc (.cells qaB 87)):=by
 unfold execOp;rw[a];kernel_rfl
theorem qas (e:o.guard=none)(f:o.op=.alloc 87)(d:Option Tmp)(c:o.dst=d)(N:Nat)(b:w.heap.size=N)(h:wpList prog ops Q rest (a.put d (.pointer (some ⟨N,0,none⟩))) (w.alloc (.cells qaB 87))):wpList prog ops Q (o::rest) a w:=by
 subst b;exact Great.wpList_allocTo e d c _ _ (qjZ _ _ f _) h
theorem qiZ (n:Nat):prog.built 87 [(0,.int .i64 n)]=some (qan n fun _ _=>false):=by kernel_rfl
theorem qbE:prog.built 87 []=some qaB:=by kernel_rfl
def ubB (m:Nat->Nat->Bool)(a b c:Nat):Bool:=m a c&&m b c
theorem qar {arr:Array Value}(h:arr.size=37):(prog.info? 87).map (·.size)=some arr.size:=by rw[h];kernel_rfl
theorem qdF (arr:Array Value)(n:Nat)(m:Nat->Nat->Bool)(H:qjo arr n m)(a b c:Nat)(f:a<6)(g:b<6)(i:c<6)(w:World):Calls prog 130 #[.agg arr,.int .i64 c,.int .i64 a,.int .i64 b] w fun e d=>e=.returned (.bool (ubB m a b c))/\Below w.heap.size w d:=by
 have h:=H.at_;go_enter func130,ntmps130;go_wp2
 all_goals go_ret
 all_goals exact⟨by simp[ubB, *],bwA⟩
def qbC (n:Nat)(a:Int):Bool:=decide (0<=a/\a<n)
theorem qe9 (arr:Array Value)(n:Nat)(h:arr[0]? = some (.int .i64 n))(a:Int)(w:World):Calls prog 80 #[.agg arr,.int .i64 a] w fun e c=>e=.returned (.bool (qbC n a))/\Below w.heap.size w c:=by
 go_enter func80,ntmps80;go_wp2
 all_goals go_ret
 ·exact⟨by simp[qbC, *],bwA⟩
 exact⟨(by have b:¬0<=a:=(by omega);simp[qbC,b]),bwA⟩
def qaK (n:Nat)(m:Nat->Nat->Bool)(a b j:Nat):Bool:=ubB m a b j&&(List.range n).all fun k => !ubB m a b k||m j k
def qa1 (n:Nat)(m:Nat->Nat->Bool)(a b:Nat):Bool:=(List.range n).any fun j=>qaK n m a b j
theorem qdu {a k:Nat}(d:k<n)(h:ubB m a b k=true)(c:m j k=false):qaK n m a b j=false:=by
 unfold qaK;rw[Bool.and_eq_false_iff];right;rw[List.all_eq_false];exact⟨k,List.mem_range.2 d,by simp[h,c]⟩
theorem qfw {a:Nat}(c:ubB m a b j=true)(h:∀k,k<n->ubB m a b k=true->m j k=true):qaK n m a b j=true:=by
 unfold qaK;rw[c,Bool.true_and,List.all_eq_true];intro k d;have:=h k (List.mem_range.1 d);cases e:ubB m a b k<;>simp_all
theorem qdy {a:Nat}(c:j<n)(h:qaK n m a b j=true):qa1 n m a b=true:=by
 unfold qa1;rw[List.any_eq_true];exact⟨j,List.mem_range.2 c,h⟩
theorem qeA {a:Nat}(h:∀j,j<n->qaK n m a b j=false):qa1 n m a b=false:=by
 unfold qa1;rw[List.any_eq_false];intro j c;simp[h j (List.mem_range.1 c)]
theorem qdL (arr:Array Value)(n:Nat)(m:Nat->Nat->Bool)(H:qjo arr n m)(hn:n<=6)(a b:Nat)(Q:a<6)(R:b<6)(w:World):Calls prog 107 #[.agg arr,.int .i64 a,.int .i64 b] w fun e w'=>e=.returned (.bool (qa1 n m a b))/\Below w.heap.size w w':=by
 have h:=H.at_;have P:=H.count;have W:=qar H.size;have L:=qaa H;have r:=qaa W;have V:=(Below.refl w.heap.size w).alloc (Nat.le_refl _) (.cells arr 87);have Y:=qac w (.cells arr 87);have y:(w.alloc (.cells arr 87)).heap.size=w.heap.size+1:=by simp
 have K:=qaa V;have M:=qaa Y;have N:=qaa y;go_enter func107,ntmps107;go_wp2;go_step3;go_wp2;go_step3;go_wp2;generalize hW:w.alloc (.cells arr 87)=W1 at *
 go_loopg [11,7] n (fun g x aa wr=>∃k:Nat,Hid (k+g=n)/\x=.int .i64 k/\Below (w.heap.size+1) W1 wr/\Hid (∀j,j<k->qaK n m a b j=false))
 case atStart=>exact⟨0,by show _=_;omega,rfl,Below.refl _ _,fun j o=>by omega⟩
 case round =>
  obtain⟨k,u,rfl,t,D⟩:=hrel;have B:=(t.block _ (by omega)).trans M.out;have J:=(qab B 0).trans P;have l:=t.size;rw[N.out] at l;have f:=qaa B
  cases gk with
  |zero =>
   have X:¬(k:Int)<n:=by have:=u.out;omega
   go_wp2;go_ret;exact⟨by rw[qeA (fun j o=>D.out j (by have:=u.out;omega))];rfl,K.out.trans (t.mono (by omega))⟩
  |succ g =>
   have X:(k:Int)<n:=by have:=u.out;omega
   have S:k<6:=by omega
   have d:=qdF arr n m L.out a b k Q R S wr;cases i:ubB m a b k
   ·rw[i] at d;have G:=qaa i
    go_wp2_with (first
     |(refine wpList_load_row rfl 87 _ rfl _ rfl _ arr _ _ f.out underlying87 rfl r.out ?_)
     |(go_at_call 130;refine d.mono ?_;rintro e C ⟨rfl,c⟩))
    go_roundg g
    case measure=>omega
    case rel =>
     refine⟨k+1,by show _=_;have:=u.out;omega,by go_num,t.trans (c.mono l),?_⟩;intro j o;by_cases e:j=k
     ·subst e;unfold qaK;rw[G.out];rfl
     exact D.out j (by omega)
   rw[i] at d;have G:=qaa i
   go_wp2_with (first
    |(refine wpList_load_row rfl 87 _ rfl _ rfl _ arr _ _ f.out underlying87 rfl r.out ?_)
    |(go_at_call 130;refine d.mono ?_;rintro e C ⟨rfl,c⟩;have J:=(qab (((c.block _ (by omega)).trans f.out)) 0).trans P))
   have U:=t.trans (c.mono l)
   go_loopg [22,8] n (fun g x aa wq=>∃q:Nat,Hid (q+g=n)/\x=.int .i64 q/\Below (w.heap.size+1) W1 wq/\Hid (∀j,j<q->ubB m a b j=true->m k j=true))
   case atStart=>exact⟨0,by show _=_;omega,rfl,U,fun j o=>by omega⟩
   case round =>
    obtain⟨q,v,rfl,p,F⟩:=hrel;have B:=(p.block _ (by omega)).trans M.out;have l:=p.size;rw[N.out] at l;have f:=qaa B
    cases gk with
    |zero =>
     have Z:¬(q:Int)<n:=by have:=v.out;omega
     go_wp2;go_ret;exact⟨by rw[qdy (by omega) (qfw G.out (fun j o=>F.out j (by have:=v.out;omega)))];rfl,K.out.trans (p.mono (by omega))⟩
    |succ O =>
     have Z:(q:Int)<n:=by have:=v.out;omega
     have T:q<6:=by omega
     have d:=qdF arr n m L.out a b q Q R T wr;cases i:ubB m a b q
     ·rw[i] at d;have I:=qaa i
      go_wp2_with (first
       |(refine wpList_load_row rfl 87 _ rfl _ rfl _ arr _ _ f.out underlying87 rfl r.out ?_)
       |(go_at_call 130;refine d.mono ?_;rintro e C ⟨rfl,c⟩))
      go_roundg O
      case measure=>omega
      case rel =>
       refine⟨q+1,by show _=_;have:=v.out;omega,by go_num,p.trans (c.mono l),?_⟩;intro j o s;by_cases e:j=q
       ·subst e;rw[I.out] at s;cases s
       exact F.out j (by omega) s
     rw[i] at d;have I:=qaa i;have z:=h k q S T;cases A:m k q
     ·rw[A] at z;have E:=qaa A
      go_wp2_with (first
       |(refine wpList_load_row rfl 87 _ rfl _ rfl _ arr _ _ f.out underlying87 rfl r.out ?_)
       |(go_at_call 130;refine d.mono ?_;rintro e C ⟨rfl,c⟩;have J:=(qab (((c.block _ (by omega)).trans f.out)) (1+k*6+q)).trans z))
      go_roundg g
      case measure=>omega
      case rel =>
       refine⟨k+1,by show _=_;have:=u.out;omega,by go_num,p.trans (c.mono l),?_⟩;intro j o;by_cases e:j=k
       ·subst e;exact qdu (by omega) I.out E.out
       exact D.out j (by omega)
     rw[A] at z;have E:=qaa A
     go_wp2_with (first
      |(refine wpList_load_row rfl 87 _ rfl _ rfl _ arr _ _ f.out underlying87 rfl r.out ?_)
      |(go_at_call 130;refine d.mono ?_;rintro e C ⟨rfl,c⟩;have J:=(qab (((c.block _ (by omega)).trans f.out)) (1+k*6+q)).trans z))
     go_roundg O
     case measure=>omega
     case rel =>
      refine⟨q+1,by show _=_;have:=v.out;omega,by go_num,p.trans (c.mono l),?_⟩;intro j o s;by_cases e:j=q
      ·subst e;exact E.out
      exact F.out j (by omega) s

end
end Go.Proofs.YtcokgepdckkjdaaGreatDoor
