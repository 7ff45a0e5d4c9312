import Derived.Test.YtmajcjammmjimaaGreatDoorRows
import Derived.WalkKit
import Derived.WalkSpells
import Derived.WalkLawsBesides
import Derived.WalkMore
import Derived.Deep.QuietTactic
import Derived.BigQuiet
import Derived.Deep.LoopGhost
import Derived.Great.Walk
import Derived.Great.BuildSlice
import Derived.Deep.WholeRow
import Derived.Deep.RegionHeld3
set_option maxRecDepth 100000
set_option maxHeartbeats 8000000
set_option linter.all false
namespace Go.Proofs.YtmajcjammmjimaaGreatDoor
open Go.Proofs.Tryz
variable{w:World}{b fuel g i j n:Nat}{cs:Array Value}{o oi p:Oper}{P:Program}{ops:Array Oper}{Q:Exit->Act->World->Prop}{S:World->Prop}{a:Act}{md:Region.Mode}{listed:Array Bool}{rest:List Oper}{m:Nat->Nat->Bool}
section
open Go.RowKit
def kaa:=@List.length_append
def kab:=@List.getElem?_eq_getElem
def kac:=@if_neg
def kad:=@World.size_alloc
def kae:=@Below.heap_alloc
def kaf:=@Nat.le_refl
def kag:=@if_pos
def kah:=@List.length_cons
def kai:=@Nat.lt_of_lt_of_le
def kaj:=@Nat.le_trans
def kak:=@wpList_load_row
def kal:=@World.cell?_alloc_some
def kam:=@Below.refl
def kan:=@wpList_store_row
def kao:=@wpList_append_own
def kap:=@List.append_assoc
def kaq:=@of_decide_eq_true
def kar:=@AllReady.cons
def kas:=@List.getElem?_append_right
def kat:=@heap_setCell_other
def kau:=@List.getElem?_append_left
def kav:=@List.mem_range
def kaw:=@bodyPost_ret
def kax:=@decide_eq_true
def kay:=@List.length_nil
def kaz:=@decide_eq_false
def ka0:=@AllReady.nil
def ka1:=@beq_eq_false_iff_ne
def ka2:=@Bool.and_eq_true
def ka3:=@List.all_eq_true
def ka4:=@wpAny_ready
def ka5:=@List.mem_cons_self
def ka6:=@List.drop_eq_getElem_cons
def ka7:=@List.eq_nil_of_length_eq_zero
def ka8:=@Array.length_toList
def ka9:=@List.mem_cons_of_mem
def kaA:=@setRow_heap
def kaB:=@World.setRow_alloc_new
def kaC:=@List.getElem?_eq_none
def kaD:=@wpAnyH_take
def kaE:=@Option.some.inj
def kaF:=@info_parts
def kaG:=@Below.heap_setCell
def kaH:=@List.map_cons
def kaI:=@block_lt_of_cell
def kaJ:=@Result.andThen_ok
def kaK:=@frozen_of_row
def kaL:=@Nat.zero_add
def kaM:=@wp_region_held
def kaN:=@World.cell?_of_block
def kaO:=@heap_setCell_same
def kaP:=@List.length_map
def kaQ:=@Nat.mod_eq_of_lt
def kaR:=@List.length_drop
def kaS:=@List.all_eq_false
def kaT:=@List.size_toArray
def kaU:=@List.take_of_length_le
def kaV:=@World.ownsRow_nil
def kaW:=@List.map_append
def kaX:=@Lib.toList_data
def kaY:=@Nat.zero_le
def kaZ:=@List.flatMap_cons
def kba:=@List.drop_left
def kbb:=@Sem.run_bind
def kbc:=@List.length_take
def kbd:=@World.grownBy_alloc
def kbe:=@wpList_append_own_at
def kbf:=@List.drop_drop
def kbg:=@cell_of_row
def kbh:=@List.getD_eq_getElem?_getD
def kbi:=@List.any_eq_true
def kbj:=@List.append_nil
def kbk:=@Nat.le_add_left
def kbl:=@List.nil_append
def kbm:=@Nat.add_assoc
def kbn:=@decide_eq_decide
def kbo:=@List.cons_append
def kbp:=@Int.toNat_natCast
def kbq:=@DataW.trod_int
def kbr:=@BitVec.toNat_ofNat
def kbs:=@UInt8.toNat_ofNat'
def kbt:=@Bool.and_eq_false_iff
def kbu:=@List.take_append_drop
def kbv:=@List.getElem_of_mem
def kbw:=@List.getElem?_eq_some_iff
def kbx:=@List.getElem?_map
def kby:=@Sem.run_pure
def kbz:=@Array.replicate_succ
def kb0:=@Array.replicate_zero
def kb3:=@setRow_other
def kb4:=@List.append_toArray
def kb5:=@List.length_replicate
def kb6:=@Array.getElem?_append_right
def kb7:=@List.take_add_one
def kb8:=@List.map_nil
def kb9:=@Nat.mul_comm
def kbA:=@List.drop_eq_nil_of_le
def kbB:=@Bool.true_and
def kbC:=@List.getElem_mem
def kbD:=@Int.toNat_of_nonneg
def kbE:=@Array.getElem?_toList
def kbF:=@List.getElem?_take_of_lt
def kbG:=@List.push_toArray
def kbH:=@Int.eq_ofNat_of_zero_le
def kbI:=@List.mem_singleton
def kbJ:=@List.sum_cons
def kbK:=@BitVec.ofInt_natCast
def kbL:=@wp_store_row
def kbM:=@Array.toList_setIfInBounds
def kbN:=@Array.getElem?_append_left
def kbO:=@Array.getElem?_eq_none
def kbP:=@List.flatMap_append
def kbQ:=@decide_eq_true_eq
def kbR:=@List.mem_cons
def kbS:=@callsIn_wide
def kbT:=@List.foldl_cons
def kbU:=@Nat.and_lt_two_pow
def kbV:=@Nat.le_add_right
def kbW:=@List.drop_append_of_le_length
def kbX:=@List.filter_cons_of_pos
def kbY:=@results_tmp2
def kbZ:=@run_loadVar_row
def kca:=@List.drop_of_length_le
def kcb:=@results_cell_row
def kcc:=@Bool.not_eq_true
def kcd:=@List.take_length
def kce:=@Nat.pow_succ
def kcf:=@Nat.le_of_ble_eq_true
def kcg:=@List.extract_eq_take_drop
def kch:=@List.getElem?_eq_none_iff
def kci:=@World.cell?_setCell_same'
def kcj:=@List.take_succ_eq_append_getElem
def kck:=@Nat.pow_le_pow_right
def kcl:=@List.mem_append
def kcm:=@List.idxOf_lt_length_iff
def kcn:=@Nat.shiftLeft_eq
def kco:=@List.map_toArray
def kcp:=@List.drop_length
def kcq:=@True.intro
def kcr:=@ByteArray.data_extract
def kcs:=@Array.getElem?_setIfInBounds
def kct:=@Nat.add_sub_cancel
def kcu:=@List.getElem?_take
def kcv:=@List.all_append
def kcw:=@Bool.or_eq_true
def kcx:=@List.set_append_right
def kcy:=@beq_iff_eq
def kcz:=@Maps.string_keyed
def kc0:=@Nat.le_succ_of_le
def kc1:=@Great.wpList_allocTo
def kc2:=@Array.toList_extract
def kc3:=@run_underlying
def kc4:=@Classical.byContradiction
def kc5:=@List.length_pos_iff
def kc6:=@List.mem_map_of_mem
def kc7:=@List.mem_map
def kc8:=@Nat.lt_succ_iff_lt_or_eq
def kc9:=@Option.map_some
def kcA:=@Bool.eq_iff_iff
def kcB:=@World.var?_cell
def kcC:=@World.ownsMap_made
def kcD:=@wp_region_any
def kcE:=@List.filter_cons_of_neg
def kcF:=@wpAnyH_done
def kcG:=@List.foldl_append
def kcH:=@DataW.trod_struct
def kcI:=@leaves_cons
def kcJ:=@AllReadyH.cons
def kcK:=@run_append_own
def kcL:=@Nat.and_two_pow_sub_one_eq_mod
def kcM:=@wpList_plain
def kcN:=@List.map_map
def kcO:=@Nat.sub_self
def kcP:=@List.getElem?_replicate_of_lt
def kcQ:=@IntKind.wrap_i64
def kcR:=@List.getElem_map
def kcS:=@Nat.lt_succ_self
def kcT:=@Array.all_append
def kcU:=@List.mem_of_getElem?
def kcV:=@Bool.or_eq_false_iff
def kcW:=@Nat.mul_le_mul_right
def kcX:=@List.mem_iff_getElem
def kcY:=@UInt8.toNat_inj
def kcZ:=@Array.toList_append
def kda:=@Nat.le_succ
def kdb:=@Int.le_refl
def kdc:=@List.take_succ_cons
def kdd:=@Array.getElem?_eq_some_iff
def kde:=@Nat.mod_mul_right_div_self
def kdf:=@Array.ext_getElem?
def kdg:=@Maps.has_put_other
def kdh:=@Option.isSome_none
def kdi:=@setCell_eq_setRow
def kdj:=@Array.ext'
def kdk:=@Maps.has_put_same
def kdl:=@Calls.mono
def kdm:=@Nat.or_lt_two_pow
def kdn:=@run_sliceAt_slice
def kdo:=@eq_of_beq
def kdp:=@Array.size_append
def kdq:=@List.flatten_cons
def kdr:=@List.eq_of_mem_replicate
def kds:=@AllReadyH.nil
def kdt:=@List.getElem?_cons_succ
def kdu:=@decide_eq_false_iff_not
def kdv:=@callsD_of_wpS
def kdw:=@List.getElem?_cons_zero
def kdx:=@BitVec.toNat_and
def kdy:=@run_convert_bytes_back
def kdz:=@ByteArray.size_extract
def kd0:=@wpAnyH_ready
def kd1:=@List.getElem?_toArray
def kd2:=@Int.emod_nonneg
def kd3:=@run_append_owned_none
def kd4:=@Or.inr
def kd5:=@Nat.div_lt_iff_lt_mul
def kd6:=@Nat.testBit_shiftLeft
def kd7:=@Nat.testBit_and
def kd8:=@Nat.mod_lt
def kd9:=@wpAny_done
def kdA:=@Array.toArray_toList
def kdB:=@Maps.atKey_put_other
def kdC:=@Bool.false_and
def kdD:=@List.drop_zero
def kdE:=@List.take_zero
def kdF:=@Nat.testBit_or
def kdG:=@run_sliceBound
def kdH:=@List.getElem?_range
def kdI:=@Nat.mul_one
def kdJ:=@List.map_congr_left
def kdK:=@Maps.atKey_put_same
def kdL:=@Array.getElem?_push
def kdM:=@Bool.and_comm
def kdN:=@Nat.eq_zero_or_pos
def kdO:=@List.getElem?_drop
def kdP:=@Bool.false_or
def kdQ:=@ByteArray.ext
def kdR:=@Nat.mul_assoc
def kdS:=@plainElem_int
def kdT:=@Lib.extract_to_end
def kdU:=@List.getElem_idxOf
def kdV:=@Option.isSome_some
def kdW:=@Option.toList_none
def kdX:=@Option.toList_some
def kdY:=@List.any_eq_false
def kdZ:=@DataW.trod_string
def kea:=@List.getElem_drop
def keb:=@wpS_region
def kec:=@List.getElem_take
def ked:=@Maps.Keyed.of_law
def kee:=@Bool.not_eq_true'
def kef:=@wp_scope_straight
def keg:=@List.idxOf_append
def keh:=@Nat.zero_mul
def kei:=@results_none
def kej:=@List.all_map
def kek:=@Nat.le_of_eq
def kel:=@Option.bind_some
def kem:=@Lib.extract_data
def ken:=@List.filter_cons
def keo:=@List.not_mem_nil
def kep:=@if_false
def keq:=@Prod.mk.inj
def ker:=@if_true
def kes:=@unitElem_mk
def ket:=@wpS_of_wp
def keu:=@wpIn_wide
def kev:=@Nat.mod_mod
def kew:=@Or.inl
theorem qab{p:Prop}(h:p):Hid p:=h
theorem qac(w:World)(o:Obj):(w.alloc o).heap[w.heap.size]?=some o:=by
 show(w.heap.push o)[w.heap.size]?=_;simp
theorem qaa{t:TypeId}{fr:Nat×Nat}(a:w.heap[g]?=some (.cells cs t fr))(j:Nat):w.cell? ⟨g,j,none⟩=cs[j]?:=kbg w g j cs t fr a
theorem bwA{o:Obj}:Below w.heap.size w (w.alloc o):=(kam _ _).alloc (kaf _) _
theorem bwO(o:Obj):Below w.heap.size w (w.alloc o):=(kam _ _).alloc (kaf _) _
theorem bwR:Below n w w:=kam _ _
theorem ltA{α:Type}{a:Array α}{x:α}(h:a[i]?=some x):i<a.size:=(kdd.1 h).1
theorem ltL{α:Type}{a:List α}{x:α}(h:a[i]?=some x):i<a.length:=(kbw.1 h).1
theorem sx{y:Option Obj}(h:j≠g)(e:w.heap[j]?=y):(w.setRow g cs).heap[j]?=y:=(kb3 _ _ _ _ h).trans e
theorem rgn{id:Nat}(b:S {w with drawn:=w.drawn+1})(c:P.follows .mixedOrders=true)(h:S {w with drawn:=w.drawn+1}->wpAnyH P .any ops Q S ops.size (Array.replicate ops.size false) a {w with drawn:=w.drawn+1}):(Code.region id ops true).wp P Q a w:=kaM c (h b)
theorem rd1(i:Nat)(hi:ops[i]?=some o)(c:Region.ready md ops listed=[i])(h:(∀b:Act->World->Prop,(∀a w,wpAny P md ops Q fuel (listed.setIfInBounds i true) a w->b a w)->if Region.wanted o (yielded ops a.tmps)=true then Oper.wp P o a w b Q else b (a.put o.dst undef) w)):wpAny P md ops Q (fuel+1) listed a w:=ka4 c (by simp) (kar hi h ka0)
theorem rd2(i j:Nat)(hi:ops[i]?=some o)(c:ops[j]?=some p)(d:Region.ready md ops listed=[i,j])(h:(∀b:Act->World->Prop,(∀a w,wpAny P md ops Q fuel (listed.setIfInBounds i true) a w->b a w)->if Region.wanted o (yielded ops a.tmps)=true then Oper.wp P o a w b Q else b (a.put o.dst undef) w))(k:(∀b:Act->World->Prop,(∀a w,wpAny P md ops Q fuel (listed.setIfInBounds j true) a w->b a w)->if Region.wanted p (yielded ops a.tmps)=true then Oper.wp P p a w b Q else b (a.put p.dst undef) w)):wpAny P md ops Q (fuel+1) listed a w:=ka4 d (by simp) (kar hi h (kar c k ka0))
theorem rdH(i:Nat)(hi:ops[i]?=some o)(c:Region.ready md ops listed=[i])(h:(∀b:Act->World->Prop,Shut (∀a w,S w->(S w->wpAnyH P md ops Q S fuel (listed.setIfInBounds i true) a w)->b a w)->if Region.wanted o (yielded ops a.tmps)=true then Oper.wp P o a w b Q else b (a.put o.dst undef) w)):wpAnyH P md ops Q S (fuel+1) listed a w:=kd0 c (by simp) (kcJ hi h kds)
theorem q08(i j:Nat)(hi:ops[i]?=some o)(c:ops[j]?=some p)(d:Region.ready md ops listed=[i,j])(h:(∀b:Act->World->Prop,Shut (∀a w,S w->(S w->wpAnyH P md ops Q S fuel (listed.setIfInBounds i true) a w)->b a w)->if Region.wanted o (yielded ops a.tmps)=true then Oper.wp P o a w b Q else b (a.put o.dst undef) w))(k:(∀b:Act->World->Prop,Shut (∀a w,S w->(S w->wpAnyH P md ops Q S fuel (listed.setIfInBounds j true) a w)->b a w)->if Region.wanted p (yielded ops a.tmps)=true then Oper.wp P p a w b Q else b (a.put p.dst undef) w)):wpAnyH P md ops Q S (fuel+1) listed a w:=kd0 d (by simp) (kcJ hi h (kcJ c k kds))
theorem qwf{v:Value}(b:Option Tmp)(hi:ops[i]?=some oi)(k:Region.noSelect ops=true)(g:Region.free md ops listed i=true)(j:(Region.ready md ops listed).contains i=true)(d:∀c a w,Q (.panic c) (a.put b v) w->Q (.panic c) a w)(f:oi.dst=b)(l:YieldsIf P ops S oi v a)(e:S w)(h:wpAnyH P md ops Q S fuel (listed.setIfInBounds i true) (a.put b v) w):wpAnyH P md ops Q S (fuel+1) listed a w:=by
 subst f;exact kaD hi k g j d l e h
theorem tkp(i b:Nat)(v:Value)(l:S w)(h:wpAnyH P md ops Q S fuel (listed.setIfInBounds i true) (a.put (some b) v) w)(m:(Region.noSelect ops&&Region.free md ops listed i&&(Region.ready md ops listed).contains i,ops[i]?.map λo=>(o.dst,Region.wanted o (yielded ops a.tmps),λZ=>(execOp a.eval o).run P Z))=(true,some (some b,true,λZ=>.ok (.value v) Z)):=by kernel_rfl)(k:∀c a w,Q (.panic c) (a.put (some b) v) w->Q (.panic c) a w:=by exact λ_ _ _ h=>h):wpAnyH P md ops Q S (fuel+1) listed a w:=by
 obtain⟨d,g⟩:=keq m;obtain⟨o,n,e⟩:=Option.map_eq_some_iff.1 g;obtain⟨e,f⟩:=keq e;obtain⟨f,j⟩:=keq f;simp only[ka2]at d;exact qwf (some b) n d.1.1 d.1.2 d.2 k e (.inl ⟨f,λZ _=>congrFun j Z⟩) l h
theorem tkq(i d:Nat)(v:Value)(hi:ops[i]?=some oi)(g:∀Z,S Z->(execOp a.eval oi).run P Z=.ok (.value v) Z)(f:S w)(h:wpAnyH P md ops Q S fuel (listed.setIfInBounds i true) (a.put (some d) v) w)(b:(Region.noSelect ops&&Region.free md ops listed i&&(Region.ready md ops listed).contains i&&oi.dst==some d&&Region.wanted oi (yielded ops a.tmps))=true:=by kernel_rfl)(e:∀c a w,Q (.panic c) (a.put (some d) v) w->Q (.panic c) a w:=by exact λ_ _ _ h=>h):wpAnyH P md ops Q S (fuel+1) listed a w:=by
 simp only[ka2]at b;exact qwf (some d) hi b.1.1.1.1 b.1.1.1.2 b.1.1.2 e (by simpa using b.1.2) (.inl ⟨b.2,g⟩) f h
theorem wdn(h:Q .normal a w)(b:Region.ready md ops listed=[]:=by kernel_rfl):wpAnyH P md ops Q S fuel listed a w:=kcF b h fuel
theorem rdq(i:Nat)(h:(∀b:Act->World->Prop,Shut (∀a w,S w->(S w->wpAnyH P md ops Q S fuel (listed.setIfInBounds i true) a w)->b a w)->if Region.wanted o (yielded ops a.tmps)=true then Oper.wp P o a w b Q else b (a.put o.dst undef) w))(hi:ops[i]?=some o:=by rfl)(c:Region.ready md ops listed=[i]:=by kernel_rfl):wpAnyH P md ops Q S (fuel+1) listed a w:=rdH i hi c h
theorem qmU(i j:Nat)(h:(∀b:Act->World->Prop,Shut (∀a w,S w->(S w->wpAnyH P md ops Q S fuel (listed.setIfInBounds i true) a w)->b a w)->if Region.wanted o (yielded ops a.tmps)=true then Oper.wp P o a w b Q else b (a.put o.dst undef) w))(k:(∀b:Act->World->Prop,Shut (∀a w,S w->(S w->wpAnyH P md ops Q S fuel (listed.setIfInBounds j true) a w)->b a w)->if Region.wanted p (yielded ops a.tmps)=true then Oper.wp P p a w b Q else b (a.put p.dst undef) w))(hi:ops[i]?=some o:=by rfl)(c:ops[j]?=some p:=by rfl)(d:Region.ready md ops listed=[i,j]:=by kernel_rfl):wpAnyH P md ops Q S (fuel+1) listed a w:=q08 i j hi c d h k
theorem nec{c:UInt8}(v:Int)(h:¬(c.toNat:Int)=v):((c.toNat:Int)==v)=false:=by simpa using h
theorem qaf(b:TypeId)(x:Operand)(k:o.op=.load b x)(j:Region.wanted o (yielded ops a.tmps)=true)(g:Nat)(m:a.eval x=.pointer (some ⟨g,0,none⟩))(t:TypeId)(cs:Array Value)(c:Nat×Nat)(d:TypeDesc)(i:w.heap[g]?=some (.cells cs t c))(l:P.underlying b=some d)(f:(match d with|.struct _|.array _ _=>true|_=>false)=true)(hi:(P.info? b).map (·.size)=some cs.size)(h:wpList P ops Q rest (a.put o.dst (.agg cs)) w):wpList P ops Q (o::rest) a w :=
 wpList_step λK e=>by rw[kag j];exact wp_load_row b x k g m t cs c d i l f hi (e _ _ h)
theorem qal(g:o.guard=none)(t:TypeId)(c:Array (Nat×Operand))(k:o.op=.build t c)(d:Option Tmp)(e:o.dst=d)(b:Array Value)(l:List (Nat×Value))(j:(c.map λ(i,x)=>(i,a.eval x)).toList=l)(f:P.built t l=some b)(h:wpList P ops Q rest (a.put d (.agg b)) w):wpList P ops Q (o::rest) a w :=
 wpList_buildTo g t c k d e b (by rw[j];exact f) h
structure qlt(arr:Array Value)(n:Nat)(m:Nat->Nat->Bool):Prop where
 size:arr.size=37
 count:arr[0]?=some (.int .i64 n)
 at_:∀i j,i<6->j<6->arr[1+i*6+j]?=some (.bool (m i j))
def qaq(n:Nat)(m:Nat->Nat->Bool):Array Value:=(.int .i64 n::(List.range 36).map λk=>.bool (m (k/6) (k%6))).toArray
theorem qae(n:Nat)(m:Nat->Nat->Bool):(qaq n m).size=37:=by simp[qaq]
theorem qay(n:Nat)(m:Nat->Nat->Bool):qlt (qaq n m) n m:=by
 refine⟨qae n m,rfl,λi j d e=>?_⟩;have a:1+i*6+j=(i*6+j)+1:=by omega
 rw[a];simp only[qaq,kd1,kdt,kbx];rw[kdH (by omega)];simp only[kc9];have b:(i*6+j)/6=i:=by omega
 have c:(i*6+j)%6=j:=by omega
 rw[b,c]
def upd(m:Nat->Nat->Bool)(i j:Nat)(b:Bool):Nat->Nat->Bool:=λx y=>if x=i/\y=j then b else m x y
theorem qik(n:Nat)(m:Nat->Nat->Bool)(i j:Nat)(b:Bool)(hi:i<6)(d:j<6):(qaq n m).setIfInBounds (1+i*6+j) (.bool b)=qaq n (upd m i j b):=by
 apply kdf;intro k;rw[kcs];by_cases a:1+i*6+j=k
 ·subst a;rw[kag rfl,(qay n (upd m i j b)).at_ i j hi d,kag (by rw[qae];omega)];simp[upd]
 rw[kac a]
 cases k with
 |zero=>rw[(qay n m).count,(qay n (upd m i j b)).count]
 |succ q =>
  by_cases e:q<36
  ·have c:q+1=1+(q/6)*6+q%6:=by omega
   rw[c,(qay n m).at_ _ _ (by omega) (by omega),(qay n (upd m i j b)).at_ _ _ (by omega) (by omega)];have:¬(q/6=i/\q%6=j):=by omega
   simp[upd,this]
  rw[kbO (by rw[qae];omega),kbO (by rw[qae];omega)]
theorem qa9(n:Nat)(m:Nat->Nat->Bool):(qaq n m).all (·.oneCell')=true:=by
 rw[Array.all_eq_true_iff_forall_mem];intro x a;simp only[qaq,List.mem_toArray,kbR,kc7]at a;rcases a with rfl|⟨k,_,rfl⟩<;>rfl
def qaF:Array Value:=qaq 0 λ_ _=>false
theorem qkl(ρ:Operand->Value)(o:Oper)(a:o.op=.alloc 84)(w:World):(execOp ρ o).run prog w=.ok (.value (.pointer (some ⟨w.heap.size,0,none⟩))) (w.alloc (.cells qaF 84)):=by
 unfold execOp;rw[a];kernel_rfl
theorem qat(e:o.guard=none)(f:o.op=.alloc 84)(d:Option Tmp)(c:o.dst=d)(N:Nat)(b:w.heap.size=N)(h:wpList prog ops Q rest (a.put d (.pointer (some ⟨N,0,none⟩))) (w.alloc (.cells qaF 84))):wpList prog ops Q (o::rest) a w:=by
 subst b;exact kc1 e d c _ _ (qkl _ _ f _) h
theorem qki(n:Nat):prog.built 84 [(0,.int .i64 n)]=some (qaq n λ_ _=>false):=by kernel_rfl
theorem qbN:prog.built 84 []=some qaF:=by kernel_rfl
def ubB(m:Nat->Nat->Bool)(a b c:Nat):Bool:=m a c&&m b c
theorem qas{arr:Array Value}(h:arr.size=37):(prog.info? 84).map (·.size)=some arr.size:=by rw[h];kernel_rfl
theorem qec(arr:Array Value)(n:Nat)(m:Nat->Nat->Bool)(H:qlt arr n m)(a b c:Nat)(f:a<6)(g:b<6)(i:c<6)(w:World):Calls prog 112 #[.agg arr,.int .i64 c,.int .i64 a,.int .i64 b] w λe d=>e=.returned (.bool (ubB m a b c))/\Below w.heap.size w d:=by
 have h:=H.at_;go_enter func112,ntmps112;go_wp2
 all_goals go_ret
 all_goals exact⟨by simp[ubB, *],bwA⟩
def qbM(n:Nat)(a:Int):Bool:=decide (0<=a/\a<n)
theorem qfn(arr:Array Value)(n:Nat)(h:arr[0]?=some (.int .i64 n))(a:Int)(w:World):Calls prog 78 #[.agg arr,.int .i64 a] w λe c=>e=.returned (.bool (qbM n a))/\Below w.heap.size w c:=by
 go_enter func78,ntmps78;go_wp2
 all_goals go_ret
 ·exact⟨by simp[qbM, *],bwA⟩
 exact⟨(by have b:¬0<=a:=(by omega);simp[qbM,b]),bwA⟩
def qaS(n:Nat)(m:Nat->Nat->Bool)(a b j:Nat):Bool:=ubB m a b j&&(List.range n).all λk=>!ubB m a b k||m j k
def qa5(n:Nat)(m:Nat->Nat->Bool)(a b:Nat):Bool:=(List.range n).any λj=>qaS n m a b j
theorem qd0{a k:Nat}(d:k<n)(h:ubB m a b k=true)(c:m j k=false):qaS n m a b j=false:=by
 unfold qaS;rw[kbt];right;rw[kaS];exact⟨k,kav.2 d,by simp[h,c]⟩
theorem qgq{a:Nat}(c:ubB m a b j=true)(h:∀k,k<n->ubB m a b k=true->m j k=true):qaS n m a b j=true:=by
 unfold qaS;rw[c,kbB,ka3];intro k d;have:=h k (kav.1 d);cases e:ubB m a b k<;>simp_all
theorem qdS{a:Nat}(c:j<n)(h:qaS n m a b j=true):qa5 n m a b=true:=by
 unfold qa5;rw[kbi];exact⟨j,kav.2 c,h⟩
theorem qfh{a:Nat}(h:∀j,j<n->qaS n m a b j=false):qa5 n m a b=false:=by
 unfold qa5;rw[kdY];intro j c;simp[h j (kav.1 c)]
theorem qer(arr:Array Value)(n:Nat)(m:Nat->Nat->Bool)(H:qlt arr n m)(hn:n<=6)(a b:Nat)(Q:a<6)(R:b<6)(w:World):Calls prog 96 #[.agg arr,.int .i64 a,.int .i64 b] w λe w'=>e=.returned (.bool (qa5 n m a b))/\Below w.heap.size w w':=by
 have h:=H.at_;have P:=H.count;have W:=qas H.size;have L:=qab H;have r:=qab W;have V:=(kam w.heap.size w).alloc (kaf _) (.cells arr 84);have Y:=qac w (.cells arr 84);have y:(w.alloc (.cells arr 84)).heap.size=w.heap.size+1:=by simp
 have K:=qab V;have M:=qab Y;have N:=qab y;go_enter func96,ntmps96;go_wp2;go_step3;go_wp2;go_step3;go_wp2;generalize hW:w.alloc (.cells arr 84)=W1 at *
 go_loopg[11,7] n (λg x aa wr=>∃k:Nat,Hid (k+g=n)/\x=.int .i64 k/\Below (w.heap.size+1) W1 wr/\Hid (∀j,j<k->qaS n m a b j=false))
 case atStart=>exact⟨0,by show _=_;omega,rfl,kam _ _,λj o=>by omega⟩
 case round =>
  obtain⟨k,u,rfl,t,D⟩:=hrel;have B:=(t.block _ (by omega)).trans M.out;have J:=(qaa B 0).trans P;have l:=t.size;rw[N.out]at l;have f:=qab B
  cases gk with
  |zero =>
   have X:¬(k:Int)<n:=by have:=u.out;omega
   go_wp2;go_ret;exact⟨by rw[qfh (λj o=>D.out j (by have:=u.out;omega))];rfl,K.out.trans (t.mono (by omega))⟩
  |succ g =>
   have X:(k:Int)<n:=by have:=u.out;omega
   have S:k<6:=by omega
   have d:=qec arr n m L.out a b k Q R S wr;cases i:ubB m a b k
   ·rw[i]at d;have G:=qab i
    go_wp2_with(first
     |(refine kak rfl 84 _ rfl _ rfl _ arr _ _ f.out underlying84 rfl r.out ?_)
     |(go_at_call 112;refine d.mono ?_;rintro e C ⟨rfl,c⟩))
    go_roundg g
    case measure=>omega
    case rel =>
     refine⟨k+1,by show _=_;have:=u.out;omega,by go_num,t.trans (c.mono l),?_⟩;intro j o;by_cases e:j=k
     ·subst e;unfold qaS;rw[G.out];rfl
     exact D.out j (by omega)
   rw[i]at d;have G:=qab i
   go_wp2_with(first
    |(refine kak rfl 84 _ rfl _ rfl _ arr _ _ f.out underlying84 rfl r.out ?_)
    |(go_at_call 112;refine d.mono ?_;rintro e C ⟨rfl,c⟩;have J:=(qaa (((c.block _ (by omega)).trans f.out)) 0).trans P))
   have U:=t.trans (c.mono l)
   go_loopg[22,8] n (λg x aa wq=>∃q:Nat,Hid (q+g=n)/\x=.int .i64 q/\Below (w.heap.size+1) W1 wq/\Hid (∀j,j<q->ubB m a b j=true->m k j=true))
   case atStart=>exact⟨0,by show _=_;omega,rfl,U,λj o=>by omega⟩
   case round =>
    obtain⟨q,v,rfl,p,F⟩:=hrel;have B:=(p.block _ (by omega)).trans M.out;have l:=p.size;rw[N.out]at l;have f:=qab B
    cases gk with
    |zero =>
     have Z:¬(q:Int)<n:=by have:=v.out;omega
     go_wp2;go_ret;exact⟨by rw[qdS (by omega) (qgq G.out (λj o=>F.out j (by have:=v.out;omega)))];rfl,K.out.trans (p.mono (by omega))⟩
    |succ O =>
     have Z:(q:Int)<n:=by have:=v.out;omega
     have T:q<6:=by omega
     have d:=qec arr n m L.out a b q Q R T wr;cases i:ubB m a b q
     ·rw[i]at d;have I:=qab i
      go_wp2_with(first
       |(refine kak rfl 84 _ rfl _ rfl _ arr _ _ f.out underlying84 rfl r.out ?_)
       |(go_at_call 112;refine d.mono ?_;rintro e C ⟨rfl,c⟩))
      go_roundg O
      case measure=>omega
      case rel =>
       refine⟨q+1,by show _=_;have:=v.out;omega,by go_num,p.trans (c.mono l),?_⟩;intro j o s;by_cases e:j=q
       ·subst e;rw[I.out]at s;cases s
       exact F.out j (by omega) s
     rw[i]at d;have I:=qab i;have z:=h k q S T;cases A:m k q
     ·rw[A]at z;have E:=qab A
      go_wp2_with(first
       |(refine kak rfl 84 _ rfl _ rfl _ arr _ _ f.out underlying84 rfl r.out ?_)
       |(go_at_call 112;refine d.mono ?_;rintro e C ⟨rfl,c⟩;have J:=(qaa (((c.block _ (by omega)).trans f.out)) (1+k*6+q)).trans z))
      go_roundg g
      case measure=>omega
      case rel =>
       refine⟨k+1,by show _=_;have:=u.out;omega,by go_num,p.trans (c.mono l),?_⟩;intro j o;by_cases e:j=k
       ·subst e;exact qd0 (by omega) I.out E.out
       exact D.out j (by omega)
     rw[A]at z;have E:=qab A
     go_wp2_with(first
      |(refine kak rfl 84 _ rfl _ rfl _ arr _ _ f.out underlying84 rfl r.out ?_)
      |(go_at_call 112;refine d.mono ?_;rintro e C ⟨rfl,c⟩;have J:=(qaa (((c.block _ (by omega)).trans f.out)) (1+k*6+q)).trans z))
     go_roundg O
     case measure=>omega
     case rel =>
      refine⟨q+1,by show _=_;have:=v.out;omega,by go_num,p.trans (c.mono l),?_⟩;intro j o s;by_cases e:j=q
      ·subst e;exact E.out
      exact F.out j (by omega) s

end
end Go.Proofs.YtmajcjammmjimaaGreatDoor
