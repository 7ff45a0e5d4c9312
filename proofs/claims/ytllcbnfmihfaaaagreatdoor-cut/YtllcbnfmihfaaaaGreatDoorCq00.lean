import Derived.Test.YtllcbnfmihfaaaaGreatDoorRows
import Derived.WalkKit
import Derived.WalkSpells
import Derived.WalkLawsBesides
import Derived.WalkMore
import Derived.Deep.QuietTactic
import Derived.BigQuiet
import Derived.Deep.LoopGhost
import Derived.Great.Walk
import Derived.Great.BuildSlice
import Derived.Deep.WholeRow
import Derived.Deep.RegionHeld3
set_option maxRecDepth 100000
set_option maxHeartbeats 8000000
namespace Go.Proofs.YtllcbnfmihfaaaaGreatDoor
open Go.Proofs.Tryz
variable {w:World}{b fuel g i j k n:Nat}{cs:Array Value}{o p:Oper}{P:Program}{ops:Array Oper}{Q:Exit→Act→World→Prop}{S:World→Prop}{a:Act}{md:Region.Mode}{listed:Array Bool}{rest:List Oper}{m:Nat→Nat→Bool}
section
open Go.RowKit
theorem qaa {p:Prop}(h:p):Hid p:=h
theorem qac (w:World)(o:Obj):(w.alloc o).heap[w.heap.size]? = some o:=by
 show(w.heap.push o)[w.heap.size]? = _;simp
theorem qab {t:TypeId}{fr:Nat×Nat}(hg:w.heap[g]? = some (.cells cs t fr))(j:Nat):w.cell? ⟨g,j,none⟩=cs[j]?:=cell_of_row w g j cs t fr hg
theorem bwA {o:Obj}:Below w.heap.size w (w.alloc o):=(Below.refl _ _).alloc (Nat.le_refl _) _
theorem bwO (o:Obj):Below w.heap.size w (w.alloc o):=(Below.refl _ _).alloc (Nat.le_refl _) _
theorem bwR:Below n w w:=Below.refl _ _
theorem ltA {α:Type}{a:Array α}{x:α}(h:a[i]? = some x):i<a.size:=(Array.getElem?_eq_some_iff.1 h).1
theorem ltL {α:Type}{a:List α}{x:α}(h:a[i]? = some x):i<a.length:=(List.getElem?_eq_some_iff.1 h).1
theorem sx {y:Option Obj}(h:j≠g)(e:w.heap[j]? = y):(w.setRow g cs).heap[j]? = y:=(setRow_other _ _ _ _ h).trans e
theorem rgn {id:Nat}(hS:S {w with drawn:=w.drawn+1})(hm:P.follows .mixedOrders=true)(h:S {w with drawn:=w.drawn+1}→wpAnyH P .any ops Q S ops.size (Array.replicate ops.size false) a {w with drawn:=w.drawn+1}):(Code.region id ops true).wp P Q a w:=wp_region_held hm (h hS)
theorem rd1 (i:Nat)(hi:ops[i]? = some o)(hr:Region.ready md ops listed=[i])(h:(∀K':Act→World→Prop,(∀a w,wpAny P md ops Q fuel (listed.setIfInBounds i true) a w→K' a w)→if Region.wanted o (yielded ops a.tmps)=true then Oper.wp P o a w K' Q else K' (a.put o.dst undef) w)):wpAny P md ops Q (fuel+1) listed a w:=wpAny_ready hr (by simp) (AllReady.cons hi h AllReady.nil)
theorem rd2 (i j:Nat)(hi:ops[i]? = some o)(hj:ops[j]? = some p)(hr:Region.ready md ops listed=[i,j])(h:(∀K':Act→World→Prop,(∀a w,wpAny P md ops Q fuel (listed.setIfInBounds i true) a w→K' a w)→if Region.wanted o (yielded ops a.tmps)=true then Oper.wp P o a w K' Q else K' (a.put o.dst undef) w))(k:(∀K':Act→World→Prop,(∀a w,wpAny P md ops Q fuel (listed.setIfInBounds j true) a w→K' a w)→if Region.wanted p (yielded ops a.tmps)=true then Oper.wp P p a w K' Q else K' (a.put p.dst undef) w)):wpAny P md ops Q (fuel+1) listed a w:=wpAny_ready hr (by simp) (AllReady.cons hi h (AllReady.cons hj k AllReady.nil))
theorem rdH (i:Nat)(hi:ops[i]? = some o)(hr:Region.ready md ops listed=[i])(h:(∀K':Act→World→Prop,Shut (∀a w,S w→(S w→wpAnyH P md ops Q S fuel (listed.setIfInBounds i true) a w)→K' a w)→if Region.wanted o (yielded ops a.tmps)=true then Oper.wp P o a w K' Q else K' (a.put o.dst undef) w)):wpAnyH P md ops Q S (fuel+1) listed a w:=wpAnyH_ready hr (by simp) (AllReadyH.cons hi h AllReadyH.nil)
theorem qsx (i j:Nat)(hi:ops[i]? = some o)(hj:ops[j]? = some p)(hr:Region.ready md ops listed=[i,j])(h:(∀K':Act→World→Prop,Shut (∀a w,S w→(S w→wpAnyH P md ops Q S fuel (listed.setIfInBounds i true) a w)→K' a w)→if Region.wanted o (yielded ops a.tmps)=true then Oper.wp P o a w K' Q else K' (a.put o.dst undef) w))(k:(∀K':Act→World→Prop,Shut (∀a w,S w→(S w→wpAnyH P md ops Q S fuel (listed.setIfInBounds j true) a w)→K' a w)→if Region.wanted p (yielded ops a.tmps)=true then Oper.wp P p a w K' Q else K' (a.put p.dst undef) w)):wpAnyH P md ops Q S (fuel+1) listed a w:=wpAnyH_ready hr (by simp) (AllReadyH.cons hi h (AllReadyH.cons hj k AllReadyH.nil))
theorem nec {c:UInt8}(v:Int)(h:¬(c.toNat:Int)=v):((c.toNat:Int)==v)=false:=by simpa using h
theorem qaf (ty:TypeId)(x:Operand)(ho:o.op=.load ty x)(hgd:Region.wanted o (yielded ops a.tmps)=true)(g:Nat)(hx:a.eval x=.pointer (some ⟨g,0,none⟩))(t:TypeId)(cs:Array Value)(fr:Nat×Nat)(d:TypeDesc)(hg:w.heap[g]? = some (.cells cs t fr))(hu:P.underlying ty=some d)(hd:(match d with|.struct _|.array _ _=>true|_=>false)=true)(hi:(P.info? ty).map (·.size)=some cs.size)(h:wpList P ops Q rest (a.put o.dst (.agg cs)) w):wpList P ops Q (o::rest) a w :=
 wpList_step fun K hK=>by rw[if_pos hgd];exact wp_load_row ty x ho g hx t cs fr d hg hu hd hi (hK _ _ h)
theorem qak (hg:o.guard=none)(t:TypeId)(parts:Array (Nat×Operand))(ho:o.op=.build t parts)(d:Option Tmp)(hd:o.dst=d)(cells:Array Value)(l:List (Nat×Value))(hl:(parts.map fun (i,x)=>(i,a.eval x)).toList=l)(hf:P.built t l=some cells)(h:wpList P ops Q rest (a.put d (.agg cells)) w):wpList P ops Q (o::rest) a w :=
 wpList_buildTo hg t parts ho d hd cells (by rw[hl];exact hf) h
structure qjo (arr:Array Value)(n:Nat)(m:Nat→Nat→Bool):Prop where
 size:arr.size=37
 count:arr[0]? = some (.int .i64 n)
 at_:∀i j,i<6→j<6→arr[1+i*6+j]? = some (.bool (m i j))
def qan (n:Nat)(m:Nat→Nat→Bool):Array Value:=(.int .i64 n::(List.range 36).map fun k=>.bool (m (k / 6) (k%6))).toArray
theorem qae (n:Nat)(m:Nat→Nat→Bool):(qan n m).size=37:=by simp[qan]
theorem qaw (n:Nat)(m:Nat→Nat→Bool):qjo (qan n m) n m:=by
 refine⟨qae n m,rfl,fun i j hi hj => ?_⟩;have e1:1+i*6+j=(i*6+j)+1:=by omega
 rw[e1];simp only[qan,List.getElem?_toArray,List.getElem?_cons_succ,List.getElem?_map];rw[List.getElem?_range (by omega)];simp only[Option.map_some];have e2:(i*6+j) / 6=i:=by omega
 have e3:(i*6+j)%6=j:=by omega
 rw[e2,e3]
def upd (m:Nat→Nat→Bool)(i j:Nat)(b:Bool):Nat→Nat→Bool:=fun x y=>if x=i∧y=j then b else m x y
theorem qhg (n:Nat)(m:Nat→Nat→Bool)(i j:Nat)(b:Bool)(hi:i<6)(hj:j<6):(qan n m).setIfInBounds (1+i*6+j) (.bool b)=qan n (upd m i j b):=by
 apply Array.ext_getElem?;intro k;rw[Array.getElem?_setIfInBounds];by_cases hk:1+i*6+j=k
 ·subst hk;rw[if_pos rfl,(qaw n (upd m i j b)).at_ i j hi hj,if_pos (by rw[qae];omega)];simp[upd]
 rw[if_neg hk]
 cases k with
 |zero=>rw[(qaw n m).count,(qaw n (upd m i j b)).count]
 |succ q =>
  by_cases hq:q<36
  ·have e1:q+1=1+(q / 6)*6+q%6:=by omega
   rw[e1,(qaw n m).at_ _ _ (by omega) (by omega),(qaw n (upd m i j b)).at_ _ _ (by omega) (by omega)];have:¬(q / 6=i∧q%6=j):=by omega
   simp[upd,this]
  rw[Array.getElem?_eq_none (by rw[qae];omega),Array.getElem?_eq_none (by rw[qae];omega)]
theorem qa5 (n:Nat)(m:Nat→Nat→Bool):(qan n m).all (·.oneCell')=true:=by
 rw[Array.all_eq_true_iff_forall_mem];intro x hx;simp only[qan,List.mem_toArray,List.mem_cons,List.mem_map] at hx;rcases hx with rfl|⟨k,_,rfl⟩<;>rfl
def qaB:Array Value:=qan 0 fun _ _=>false
theorem qjZ (ρ:Operand→Value)(o:Oper)(ho:o.op=.alloc 107)(w:World):(execOp ρ o).run prog w=.ok (.value (.pointer (some ⟨w.heap.size,0,none⟩))) (w.alloc (.cells qaB 107)):=by
 unfold execOp;rw[ho];kernel_rfl
theorem qas (hg:o.guard=none)(ho:o.op=.alloc 107)(d:Option Tmp)(hd:o.dst=d)(N:Nat)(hN:w.heap.size=N)(h:wpList prog ops Q rest (a.put d (.pointer (some ⟨N,0,none⟩))) (w.alloc (.cells qaB 107))):wpList prog ops Q (o::rest) a w:=by
 subst hN;exact Great.wpList_allocTo hg d hd _ _ (qjZ _ _ ho _) h
theorem qiZ (n:Nat):prog.built 107 [(0,.int .i64 n)]=some (qan n fun _ _=>false):=by kernel_rfl
theorem qbE:prog.built 107 []=some qaB:=by kernel_rfl
def ubB (m:Nat→Nat→Bool)(a b c:Nat):Bool:=m a c&&m b c
theorem qar {arr:Array Value}(h:arr.size=37):(prog.info? 107).map (·.size)=some arr.size:=by rw[h];kernel_rfl
theorem qdF (arr:Array Value)(n:Nat)(m:Nat→Nat→Bool)(H:qjo arr n m)(a b c:Nat)(ha:a<6)(hb:b<6)(hc:c<6)(w:World):Calls prog 212 #[.agg arr,.int .i64 c,.int .i64 a,.int .i64 b] w fun e w'=>e=.returned (.bool (ubB m a b c))∧Below w.heap.size w w':=by
 have h:=H.at_;go_enter func212,ntmps212;go_wp2
 all_goals go_ret
 all_goals exact⟨by simp[ubB, *],bwA⟩
def qbC (n:Nat)(a:Int):Bool:=decide (0≤a∧a<n)
theorem qe9 (arr:Array Value)(n:Nat)(h:arr[0]? = some (.int .i64 n))(a:Int)(w:World):Calls prog 132 #[.agg arr,.int .i64 a] w fun e w'=>e=.returned (.bool (qbC n a))∧Below w.heap.size w w':=by
 go_enter func132,ntmps132;go_wp2
 all_goals go_ret
 ·exact⟨by simp[qbC, *],bwA⟩
 exact⟨(by have h1:¬0≤a:=(by omega);simp[qbC,h1]),bwA⟩
def qaK (n:Nat)(m:Nat→Nat→Bool)(a b j:Nat):Bool:=ubB m a b j&&(List.range n).all fun k => !ubB m a b k||m j k
def qa1 (n:Nat)(m:Nat→Nat→Bool)(a b:Nat):Bool:=(List.range n).any fun j=>qaK n m a b j
theorem qdu {a:Nat}(hk:k<n)(h:ubB m a b k=true)(h2:m j k=false):qaK n m a b j=false:=by
 unfold qaK;rw[Bool.and_eq_false_iff];right;rw[List.all_eq_false];exact⟨k,List.mem_range.2 hk,by simp[h,h2]⟩
theorem qfw {a:Nat}(hj:ubB m a b j=true)(h:∀k,k<n→ubB m a b k=true→m j k=true):qaK n m a b j=true:=by
 unfold qaK;rw[hj,Bool.true_and,List.all_eq_true];intro k hk;have:=h k (List.mem_range.1 hk);cases hu:ubB m a b k<;>simp_all
theorem qdy {a:Nat}(hj:j<n)(h:qaK n m a b j=true):qa1 n m a b=true:=by
 unfold qa1;rw[List.any_eq_true];exact⟨j,List.mem_range.2 hj,h⟩
theorem qeA {a:Nat}(h:∀j,j<n→qaK n m a b j=false):qa1 n m a b=false:=by
 unfold qa1;rw[List.any_eq_false];intro j hj;simp[h j (List.mem_range.1 hj)]
theorem qdL (arr:Array Value)(n:Nat)(m:Nat→Nat→Bool)(H:qjo arr n m)(hn:n≤6)(a b:Nat)(ha:a<6)(hb:b<6)(w:World):Calls prog 182 #[.agg arr,.int .i64 a,.int .i64 b] w fun e w'=>e=.returned (.bool (qa1 n m a b))∧Below w.heap.size w w':=by
 have h:=H.at_;have h0:=H.count;have hi:=qar H.size;have HH:=qaa H;have HI:=qaa hi;have hbw:=(Below.refl w.heap.size w).alloc (Nat.le_refl _) (.cells arr 107);have hnew:=qac w (.cells arr 107);have hsz:(w.alloc (.cells arr 107)).heap.size=w.heap.size+1:=by simp
 have HB:=qaa hbw;have HN:=qaa hnew;have HZ:=qaa hsz;go_enter func182,ntmps182;go_wp2;go_step3;go_wp2;go_step3;go_wp2;generalize hW:w.alloc (.cells arr 107)=W1 at *
 go_loopg [11,7] n (fun g x y wr=>∃k:Nat,Hid (k+g=n)∧x=.int .i64 k∧Below (w.heap.size+1) W1 wr∧Hid (∀j,j<k→qaK n m a b j=false))
 case atStart=>exact⟨0,by show _=_;omega,rfl,Below.refl _ _,fun j hj=>by omega⟩
 case round =>
  obtain⟨k,hk,rfl,hB,HL⟩:=hrel;have hw:=(hB.block _ (by omega)).trans HN.out;have hc0:=(qab hw 0).trans h0;have hz:=hB.size;rw[HZ.out] at hz;have HW:=qaa hw
  cases gk with
  |zero =>
   have hlt:¬(k:Int)<n:=by have:=hk.out;omega
   go_wp2;go_ret;exact⟨by rw[qeA (fun j hj=>HL.out j (by have:=hk.out;omega))];rfl,HB.out.trans (hB.mono (by omega))⟩
  |succ g =>
   have hlt:(k:Int)<n:=by have:=hk.out;omega
   have hk6:k<6:=by omega
   have cBB:=qdF arr n m HH.out a b k ha hb hk6 wr;cases hu:ubB m a b k
   ·rw[hu] at cBB;have HU:=qaa hu
    go_wp2_with (first
     |(refine wpList_load_row rfl 107 _ rfl _ rfl _ arr _ _ HW.out underlying107 rfl HI.out ?_)
     |(go_at_call 212;refine cBB.mono ?_;rintro e w2 ⟨rfl,hB2⟩))
    go_roundg g
    case measure=>omega
    case rel =>
     refine⟨k+1,by show _=_;have:=hk.out;omega,by go_num,hB.trans (hB2.mono hz),?_⟩;intro j hj;by_cases e:j=k
     ·subst e;unfold qaK;rw[HU.out];rfl
     exact HL.out j (by omega)
   rw[hu] at cBB;have HU:=qaa hu
   go_wp2_with (first
    |(refine wpList_load_row rfl 107 _ rfl _ rfl _ arr _ _ HW.out underlying107 rfl HI.out ?_)
    |(go_at_call 212;refine cBB.mono ?_;rintro e w2 ⟨rfl,hB2⟩;have hc0:=(qab (((hB2.block _ (by omega)).trans HW.out)) 0).trans h0))
   have hB3:=hB.trans (hB2.mono hz)
   go_loopg [22,8] n (fun g x y wq=>∃q:Nat,Hid (q+g=n)∧x=.int .i64 q∧Below (w.heap.size+1) W1 wq∧Hid (∀j,j<q→ubB m a b j=true→m k j=true))
   case atStart=>exact⟨0,by show _=_;omega,rfl,hB3,fun j hj=>by omega⟩
   case round =>
    obtain⟨q,hq,rfl,hBq,HQ⟩:=hrel;have hw:=(hBq.block _ (by omega)).trans HN.out;have hz:=hBq.size;rw[HZ.out] at hz;have HW:=qaa hw
    cases gk with
    |zero =>
     have hql:¬(q:Int)<n:=by have:=hq.out;omega
     go_wp2;go_ret;exact⟨by rw[qdy (by omega) (qfw HU.out (fun j hj=>HQ.out j (by have:=hq.out;omega)))];rfl,HB.out.trans (hBq.mono (by omega))⟩
    |succ g2 =>
     have hql:(q:Int)<n:=by have:=hq.out;omega
     have hq6:q<6:=by omega
     have cBB:=qdF arr n m HH.out a b q ha hb hq6 wr;cases hu:ubB m a b q
     ·rw[hu] at cBB;have HV:=qaa hu
      go_wp2_with (first
       |(refine wpList_load_row rfl 107 _ rfl _ rfl _ arr _ _ HW.out underlying107 rfl HI.out ?_)
       |(go_at_call 212;refine cBB.mono ?_;rintro e w2 ⟨rfl,hB2⟩))
      go_roundg g2
      case measure=>omega
      case rel =>
       refine⟨q+1,by show _=_;have:=hq.out;omega,by go_num,hBq.trans (hB2.mono hz),?_⟩;intro j hj h2;by_cases e:j=q
       ·subst e;rw[HV.out] at h2;cases h2
       exact HQ.out j (by omega) h2
     rw[hu] at cBB;have HV:=qaa hu;have hkq:=h k q hk6 hq6;cases hm:m k q
     ·rw[hm] at hkq;have HM:=qaa hm
      go_wp2_with (first
       |(refine wpList_load_row rfl 107 _ rfl _ rfl _ arr _ _ HW.out underlying107 rfl HI.out ?_)
       |(go_at_call 212;refine cBB.mono ?_;rintro e w2 ⟨rfl,hB2⟩;have hc0:=(qab (((hB2.block _ (by omega)).trans HW.out)) (1+k*6+q)).trans hkq))
      go_roundg g
      case measure=>omega
      case rel =>
       refine⟨k+1,by show _=_;have:=hk.out;omega,by go_num,hBq.trans (hB2.mono hz),?_⟩;intro j hj;by_cases e:j=k
       ·subst e;exact qdu (by omega) HV.out HM.out
       exact HL.out j (by omega)
     rw[hm] at hkq;have HM:=qaa hm
     go_wp2_with (first
      |(refine wpList_load_row rfl 107 _ rfl _ rfl _ arr _ _ HW.out underlying107 rfl HI.out ?_)
      |(go_at_call 212;refine cBB.mono ?_;rintro e w2 ⟨rfl,hB2⟩;have hc0:=(qab (((hB2.block _ (by omega)).trans HW.out)) (1+k*6+q)).trans hkq))
     go_roundg g2
     case measure=>omega
     case rel =>
      refine⟨q+1,by show _=_;have:=hq.out;omega,by go_num,hBq.trans (hB2.mono hz),?_⟩;intro j hj h2;by_cases e:j=q
      ·subst e;exact HM.out
      exact HQ.out j (by omega) h2
def qqg (m:Nat→Nat→Bool)(a b:Nat):Bool:=m a b&&m b a
def qa7 (n:Nat)(m:Nat→Nat→Bool):Bool:=(List.range n).any fun a=>(List.range a).any fun b=>qqg m a b
theorem qdg {a:Nat}(ha:a<n)(hb:b<a)(h:qqg m a b=true):qa7 n m=true:=by
 unfold qa7;rw[List.any_eq_true];refine⟨a,List.mem_range.2 ha,?_⟩;rw[List.any_eq_true];exact⟨b,List.mem_range.2 hb,h⟩
theorem qkw (h:∀a b,a<n→b<a→qqg m a b=false):qa7 n m=false:=by
 unfold qa7;rw[List.any_eq_false];intro a ha;rw[List.any_eq_true];rintro⟨b,hb,hc⟩;rw[h a b (List.mem_range.1 ha) (List.mem_range.1 hb)] at hc;cases hc
theorem qjQ (arr:Array Value)(n:Nat)(m:Nat→Nat→Bool)(H:qjo arr n m)(hn:n≤6)(w:World):Calls prog 133 #[.agg arr] w fun e w'=>e=.returned (.bool (qa7 n m))∧Below w.heap.size w w':=by
 have HA:=qaa H.at_;have h0:=H.count;clear H;go_enter func133,ntmps133;go_wp2
 go_loopg [7,3] n (fun g x y wr=>∃k:Nat,Hid (k+g=n)∧x=.int .i64 k∧w.alloc (.cells arr 107)=wr∧Hid (∀a b,a<k→b<a→qqg m a b=false))
 case atStart=>exact⟨0,by show _=_;omega,rfl,rfl,fun a b ha=>by omega⟩
 case round =>
  obtain⟨k,hk,rfl,rfl,HL⟩:=hrel
  cases gk with
  |zero =>
   have hlt:¬(k:Int)<n:=by have:=hk.out;omega
   go_wp2;go_ret;exact⟨by rw[qkw (fun a b ha hb=>HL.out a b (by have:=hk.out;omega) hb)];rfl,bwA⟩
  |succ g =>
   have hlt:(k:Int)<n:=by have:=hk.out;omega
   have hk6:k<6:=by omega
   go_wp2
   go_loopg [11,4] k (fun g x y wr=>∃q:Nat,Hid (q+g=k)∧x=.int .i64 q∧w.alloc (.cells arr 107)=wr∧Hid (∀b,b<q→qqg m k b=false))
   case atStart=>exact⟨0,by show _=_;omega,rfl,rfl,fun b hb=>by omega⟩
   case round =>
    obtain⟨q,hq,rfl,rfl,HQ⟩:=hrel
    cases gk with
    |zero =>
     have hql:¬(q:Int)<k:=by have:=hq.out;omega
     go_wp2;go_roundg g
     case measure=>omega
     case rel =>
      refine⟨k+1,by show _=_;have:=hk.out;omega,by go_num,rfl,fun a b ha hb => ?_⟩;by_cases e:a=k
      ·subst e;exact HQ.out b (by have:=hq.out;omega)
      exact HL.out a b (by omega) hb
    |succ g2 =>
     have hql:(q:Int)<k:=by have:=hq.out;omega
     have hq6:q<6:=by omega
     have h1:=HA.out k q hk6 hq6;have h2:=HA.out q k hq6 hk6;cases e1:m k q
     ·rw[e1] at h1;have HE:=qaa e1;clear e1;go_wp2;go_roundg g2
      case measure=>omega
      case rel =>
       refine⟨q+1,by show _=_;have:=hq.out;omega,by go_num,rfl,fun b hb => ?_⟩;by_cases e:b=q
       ·subst e;unfold qqg;rw[HE.out];rfl
       exact HQ.out b (by omega)
     rw[e1] at h1;have HE:=qaa e1;clear e1;cases e2:m q k
     ·rw[e2] at h2;have HF:=qaa e2;clear e2;go_wp2;go_roundg g2
      case measure=>omega
      case rel =>
       refine⟨q+1,by show _=_;have:=hq.out;omega,by go_num,rfl,fun b hb => ?_⟩;by_cases e:b=q
       ·subst e;unfold qqg;rw[HE.out,HF.out];rfl
       exact HQ.out b (by omega)
     rw[e2] at h2;have HF:=qaa e2;clear e2;go_wp2;go_ret;exact⟨by rw[qdg (a:=k) (b:=q) (by omega) (by omega) (by unfold qqg;rw[HE.out,HF.out];rfl)];rfl,bwA⟩
theorem qmD (arr:Array Value)(n:Nat)(m:Nat→Nat→Bool)(H:qjo arr n m)(hn:n≤6)(a b:Nat)(ha:a<n)(hb:b<n)(w:World):Calls prog 151 #[.agg arr,.int .i64 a,.int .i64 b] w fun e w'=>e=.returned (.bool (m a b))∧Below w.heap.size w w':=by
 have h:=H.at_ a b (by omega) (by omega);have h0:=H.count;have HI:=qaa (qar H.size);clear H;have e1:qbC n a=true:=by unfold qbC;exact decide_eq_true (by omega)
 have e2:qbC n b=true:=by unfold qbC;exact decide_eq_true (by omega)
 go_enter func151,ntmps151;have hw:=qac w (.cells arr 107);have HW:=qaa hw;clear hw;have c1:=qe9 arr n h0 a (w.alloc (.cells arr 107));rw[e1] at c1
 go_wp2_with (first
  |(refine wpList_load_row rfl 107 _ rfl _ rfl _ arr _ _ HW.out underlying107 rfl HI.out ?_)
  |(refine qaf 107 _ rfl rfl _ rfl _ arr _ _ HW.out underlying107 rfl HI.out ?_)
  |(go_at_call 132;refine c1.mono ?_;clear c1;rintro e w2 ⟨rfl,hB2⟩;have HW2:=qaa ((hB2.block _ (by simp)).trans HW.out);clear HW;have HW:=HW2;clear HW2;have c2:=qe9 arr n h0 b w2;rw[e2] at c2;have hz:=hB2.size;rw[World.size_alloc] at hz)
  |(go_at_call 132;refine c2.mono ?_;clear c2;rintro e w3 ⟨rfl,hB3⟩;have hc3:=(qab ((hB3.block _ (by omega)).trans HW.out) (1+a*6+b)).trans h))
 go_ret;exact⟨rfl,((bwA).trans (hB2.mono (by simp))).trans (hB3.mono (by omega))⟩
def tkS (s:Nat×List UInt8)(t:List UInt8×Bool):Bool:=if s.1=0 then true else if s.1=1 then false else if s.1=2 then t.2 else !t.2&&t.1==s.2
def rcS (s:Nat×List UInt8)(p:List (List UInt8×Bool))(f:Nat→Bool):Nat→Bool
 |0=>if s.1=1 then f 0 else false
 |k+1=>if s.1=1 then (List.range (k+2)).any f else f k&&(match p[k]? with|some t=>tkS s t|none=>false)
def rch:List (Nat×List UInt8)→List (List UInt8×Bool)→(Nat→Bool)→Nat→Bool
 |[],_,f=>f
 |s::ss,p,f=>rch ss p (rcS s p f)
def qwK (ss:List (Nat×List UInt8))(p:List (List UInt8×Bool)):Bool:=rch ss p (fun k=>k==0) p.length
theorem qma (s:Nat×List UInt8)(p:List (List UInt8×Bool)):∀(ss:List (Nat×List UInt8)) (f:Nat→Bool),rch (ss++[s]) p f=rcS s p (rch ss p f)
 |[],_=>rfl
 |x::ss,f=>by show rch (ss++[s]) p _=_;rw[qma s p ss];rfl
def qgs (ss:List (Nat×List UInt8))(k:Nat):Bool:=match ss[k]? with
 |some s=>s.1==1
 |none=>false
def qju (ss:List (Nat×List UInt8))(t:List UInt8×Bool)(k:Nat):Bool:=match ss[k]? with
 |some s=>tkS s t
 |none=>false
def wdP (ss:List (Nat×List UInt8))(P:Nat→Bool):Nat→Bool
 |0=>P 0
 |k+1=>P (k+1)||(qgs ss k&&wdP ss P k)
def goP (ss:List (Nat×List UInt8))(t:List UInt8×Bool)(P:Nat→Bool):Nat→Bool
 |0=>P 0&&qgs ss 0
 |k+1=>(P (k+1)&&qgs ss (k+1))||(P k&&qju ss t k)
def plc (ss:List (Nat×List UInt8)):List (List UInt8×Bool)→Nat→Bool
 |[]=>wdP ss (fun k=>k==0)
 |t::r=>wdP ss (goP ss t (plc ss r))
def rF (ss:List (Nat×List UInt8))(p:List (List UInt8×Bool))(k:Nat):Nat→Bool:=rch (ss.take k) p (fun n=>n==0)
theorem qpH (ss:List (Nat×List UInt8))(p:List (List UInt8×Bool))(n:Nat):rF ss p 0 n=(n==0):=rfl
theorem qnA {ss:List (Nat×List UInt8)}{s:Nat×List UInt8}(h:ss[k]? = some s)(p:List (List UInt8×Bool)):rF ss p (k+1)=rcS s p (rF ss p k):=by
 unfold rF;rw[List.take_add_one,h];exact qma s p _ _
def gF (ss:List (Nat×List UInt8))(p:List (List UInt8×Bool))(k j:Nat):Bool:=if qgs ss k then (List.range (j+1)).any (rF ss p k) else rF ss p k j
theorem qrT (f:Nat→Bool)(j:Nat):(List.range (j+1)).any f=((List.range j).any f||f j):=by
 rw[List.range_succ,List.any_append];simp
theorem qmj (ss:List (Nat×List UInt8))(p:List (List UInt8×Bool)):∀(j:Nat),j≤p.length→∀k,k≤ss.length→plc ss (p.take j).reverse k=gF ss p k j
 |0,_,k,hk=>by
  rw[List.take_zero,List.reverse_nil,plc]
  induction k with
  |zero=>unfold gF;cases qgs ss 0<;>simp[wdP,qpH]
  |succ k ih =>
   have ih:=ih (by omega);rw[wdP,ih];obtain⟨s,hs⟩:∃s,ss[k]? = some s:=⟨ss[k],List.getElem?_eq_getElem (by omega)⟩
   have e0:gF ss p k 0=rF ss p k 0:=by unfold gF;cases qgs ss k<;>simp
   have e1:gF ss p (k+1) 0=rF ss p (k+1) 0:=by unfold gF;cases qgs ss (k+1)<;>simp
   have hst:qgs ss k=(s.1==1):=by unfold qgs;rw[hs]
   rw[e0,e1,qnA hs,rcS,hst];by_cases h1:s.1=1
   ·simp[h1]
   simp[h1]
 |j+1,hj,k,hk=>by
  obtain⟨t,ht⟩:∃t,p[j]? = some t:=⟨p[j],List.getElem?_eq_getElem (by omega)⟩
  have er:(p.take (j+1)).reverse=t::(p.take j).reverse:=by rw[List.take_add_one,ht];simp
  rw[er,plc];have IH:=qmj ss p j (by omega);generalize hP:plc ss (p.take j).reverse=P;rw[hP] at IH
  induction k with
  |zero =>
   rw[wdP,goP,IH 0 (by omega)];unfold gF
   cases hst:qgs ss 0 with
   |true =>
    rw[if_pos rfl,if_pos rfl];have h0:rF ss p 0 0=true:=rfl;have a1:(List.range (j+1)).any (rF ss p 0)=true:=List.any_eq_true.2 ⟨0,by simp,h0⟩;have a2:(List.range (j+1+1)).any (rF ss p 0)=true:=List.any_eq_true.2 ⟨0,by simp,h0⟩;rw[a1,a2];rfl
   |false=>simp[qpH]
  |succ k ih =>
   have ih:=ih (by omega);obtain⟨s,hs⟩:∃s,ss[k]? = some s:=⟨ss[k],List.getElem?_eq_getElem (by omega)⟩
   have hst:qgs ss k=(s.1==1):=by unfold qgs;rw[hs]
   have htk:qju ss t k=tkS s t:=by unfold qju;rw[hs]
   rw[wdP,goP,ih,IH (k+1) hk,IH k (by omega)];have key:((gF ss p k j&&qju ss t k)||(qgs ss k&&gF ss p k (j+1)))=rF ss p (k+1) (j+1):=by
    rw[qnA hs,rcS,ht];by_cases h1:s.1=1
    ·have e:gF ss p k (j+1)=(List.range (j+1+1)).any (rF ss p k):=by unfold gF;rw[hst];simp[h1]
     have ez:tkS s t=false:=by unfold tkS;simp[h1]
     rw[htk,ez,hst,e];simp[h1]
    have e:gF ss p k j=rF ss p k j:=by unfold gF;rw[hst];simp[h1]
    rw[htk,hst,e];simp[h1]
   have e2:((gF ss p (k+1) j&&qgs ss (k+1))||rF ss p (k+1) (j+1))=gF ss p (k+1) (j+1):=by
    unfold gF
    cases qgs ss (k+1) with
    |true=>rw[if_pos rfl,if_pos rfl,Bool.and_true,←qrT]
    |false=>simp
   rw[Bool.or_assoc,key,e2]
theorem qrX (ss:List (Nat×List UInt8))(p:List (List UInt8×Bool)):plc ss p.reverse ss.length=qwK ss p:=by
 have h:=qmj ss p p.length (Nat.le_refl _) ss.length (Nat.le_refl _);rw[List.take_length] at h;rw[h];unfold gF;have e:qgs ss ss.length=false:=by unfold qgs;rw[List.getElem?_eq_none (Nat.le_refl _)]
 rw[e,if_neg (by simp)];unfold rF qwK;rw[List.take_length]
end
end Go.Proofs.YtllcbnfmihfaaaaGreatDoor
