import Derived.Test.YtoegnhgofkhbnaaGreatDoorRows
import Derived.WalkKit
import Derived.WalkSpells
import Derived.WalkLawsBesides
import Derived.WalkMore
import Derived.Deep.QuietTactic
import Derived.BigQuiet
import Derived.Deep.LoopGhost
import Derived.Great.Walk
import Derived.Great.BuildSlice
import Derived.Deep.WholeRow
import Derived.Deep.RegionHeld3
import Derived.Lib.ValidLaws
set_option maxRecDepth 100000
set_option maxHeartbeats 8000000
set_option linter.all false
namespace Go.Proofs.YtoegnhgofkhbnaaGreatDoor
open Go.Proofs.Tryz
open Go.Value renaming int->A7,pointer->A9,tuple->Ab,bool->Ad
open Go.Obj renaming cells->Af
open Go.Ending renaming returned->Ag
open Go.IntKind renaming i64->Ah
open Option renaming some->Aj,none->Ak
open Go renaming World->Al,Value->Am,Calls->An
variable{w:Al}{b fuel g i j n:Nat}{o oi p:Oper}{P:Program}{ops:Array Oper}{Q:Exit->Act->Al->Prop}{rest:List Oper}{a:Act}{S:Al->Prop}{md:Region.Mode}{listed:Array Bool}{m:Nat->Nat->Bool}
section
open Go.RowKit
def AC:=@List.length_append
def AY:=@List.getElem?_eq_getElem
def AL:=@Below.heap_alloc
def AM:=@World.size_alloc
def AB:=@Nat.le_refl
def Aq:=@if_neg
def As:=@if_pos
def B3:=@wpList_load_row
def Br:=@Nat.lt_of_lt_of_le
def Bg:=@wpList_store_row
def AW:=@Nat.le_trans
def Bq:=@List.length_cons
def By:=@of_decide_eq_true
def Bz:=@wpList_append_own
def AT:=@Below.refl
def Ck:=@World.cell?_alloc_some
def Bd:=@bodyPost_ret
def B4:=@setRow_heap
def BV:=@heap_setCell_other
def Bs:=@decide_eq_true
def BJ:=@decide_eq_false
def E2:=@List.getElem?_append_right
def BT:=@List.mem_range
def Ch:=@Bool.and_eq_true
def E3:=@List.getElem?_append_left
def CE:=@List.append_assoc
def BO:=@setRow_other
def DI:=@List.getElem?_eq_none
def Dq:=@beq_eq_false_iff_ne
def F5:=@List.drop_eq_getElem_cons
def CF:=@List.length_nil
def DB:=@Array.length_toList
def D7:=@List.all_eq_true
def Dl:=@Result.andThen_ok
def BH:=@info_parts
def CX:=@Option.some.inj
def F6:=@World.setRow_alloc_new
def Cx:=@frozen_of_row
def De:=@List.length_map
def DJ:=@heap_setCell_same
def Ef:=@Below.heap_setCell
def FJ:=@List.take_of_length_le
def CT:=@List.map_cons
def DK:=@List.length_drop
def Dr:=@wp_region_held
def Cy:=@Nat.zero_le
def F7:=@List.all_eq_false
def Eg:=@List.map_append
def D8:=@Sem.run_bind
def Df:=@Nat.zero_add
def F8:=@block_lt_of_cell
def EJ:=@Lib.toList_data
def FK:=@World.ownsRow_nil
def GF:=@World.cell?_of_block
def GG:=@List.mem_cons_of_mem
def Gg:=@List.mem_cons_self
def FY:=@List.size_toArray
def Iv:=@List.getElem?_take_of_lt
def JU:=@List.eq_nil_of_length_eq_zero
def Fu:=@Nat.le_add_left
def Ds:=@wpAnyH_take
def J8:=@List.getElem?_eq_some_iff
def E4:=@Sem.run_pure
def Gh:=@Int.toNat_natCast
def Hh:=@World.grownBy_alloc
def I5:=@wpList_append_own_at
def DL:=@cell_of_row
def GH:=@List.getElem?_map
def FZ:=@run_loadVar_row
def Iw:=@Array.getElem?_toList
def JV:=@List.getElem?_eq_none_iff
def J9:=@List.drop_eq_nil_of_le
def GI:=@decide_eq_decide
def Eh:=@Prod.mk.inj
def Hi:=@List.take_add_one
def G0:=@DataW.trod_int
def Ja:=@Bool.and_eq_false_iff
def Jb:=@List.take_append_drop
def KC:=@List.getD_eq_getElem?_getD
def Iy:=@List.getElem_of_mem
def Hj:=@List.length_take
def Ls:=@Array.getElem?_append_right
def I6:=@List.any_eq_true
def I7:=@Nat.mod_eq_of_lt
def I8:=@List.cons_append
def Gi:=@List.mem_cons
def Gj:=@Bool.true_and
def Iz:=@List.getElem_mem
def ML:=@List.drop_append_of_le_length
def JW:=@List.flatMap_append
def JX:=@Int.toNat_of_nonneg
def Gk:=@Nat.mul_comm
def Jc:=@decide_eq_true_eq
def Gl:=@results_tmp3
def Lt:=@Int.eq_ofNat_of_zero_le
def JY:=@BitVec.toNat_ofNat
def IA:=@List.append_nil
def Hk:=@List.sum_cons
def GJ:=@List.map_nil
def MM:=@Array.toList_setIfInBounds
def MN:=@Array.getElem?_append_left
def Lu:=@Array.getElem?_eq_none
def Hl:=@results_tmp2
def Jd:=@List.nil_append
def Hm:=@callsIn_wide
def KD:=@List.getElem?_drop
def KE:=@Nat.and_lt_two_pow
def JZ:=@Nat.le_add_right
def K0:=@List.take_length
def Lv:=@Array.replicate_succ
def Lw:=@Array.replicate_zero
def MO:=@List.filter_cons_of_pos
def K1:=@UInt8.toNat_inj
def Lx:=@List.append_toArray
def K2:=@List.foldl_cons
def MP:=@Option.map_eq_some_iff
def KG:=@results_cell_row
def KH:=@Bool.not_eq_true
def Ly:=@Nat.add_sub_cancel
def MQ:=@List.length_replicate
def MR:=@Nat.le_of_ble_eq_true
def IB:=@wp_store_row
def Ol:=@List.extract_eq_take_drop
def Om:=@Go.ChangeMaps.open_string
def On:=@Go.ChangeMaps.shut_string
def Qu:=@List.take_succ_eq_append_getElem
def Lz:=@List.any_eq_false
def LA:=@List.flatMap_cons
def KI:=@Bool.or_eq_true
def LB:=@List.push_toArray
def Oo:=@List.idxOf_lt_length_iff
def Oq:=@Array.setIfInBounds_comm
def LC:=@List.map_toArray
def LD:=@List.drop_length
def Ot:=@ByteArray.data_extract
def Qv:=@Array.getElem?_setIfInBounds
def MS:=@List.getElem?_take
def LE:=@List.all_append
def Ou:=@List.set_append_right
def MT:=@Maps.string_keyed
def MU:=@Nat.le_succ_of_le
def IC:=@True.intro
def Ov:=@Great.wpList_allocTo
def Ow:=@BitVec.ofInt_natCast
def Ox:=@Array.toList_extract
def LF:=@AllReadyH.cons
def LG:=@run_underlying
def LH:=@List.drop_drop
def Qw:=@Classical.byContradiction
def MV:=@Nat.shiftLeft_eq
def MW:=@IntKind.wrap_i64
def Oy:=@List.take_succ_cons
def KJ:=@List.mem_map
def Je:=@beq_iff_eq
def Qx:=@Nat.lt_succ_iff_lt_or_eq
def MX:=@Option.map_some
def MY:=@Bool.eq_iff_iff
def Oz:=@List.mem_singleton
def MZ:=@World.var?_cell
def OA:=@UInt8.toNat_ofNat'
def LI:=@ByteArray.ext
def N0:=@List.mem_append
def Qy:=@List.filter_cons_of_neg
def Qz:=@run_convert_bytes_back
def KK:=@wpAnyH_done
def OB:=@List.foldl_append
def OC:=@DataW.trod_struct
def OD:=@Bool.not_eq_true'
def N2:=@run_append_own
def N5:=@List.drop_zero
def LJ:=@Nat.add_zero
def LK:=@wpList_plain
def LL:=@Nat.pow_succ
def LM:=@Nat.le_of_eq
def U2:=@List.getElem?_replicate_of_lt
def OE:=@List.getElem_map
def OF:=@Nat.lt_succ_self
def OG:=@Array.all_append
def OH:=@List.not_mem_nil
def QA:=@Bool.or_eq_false_iff
def QB:=@Nat.pow_le_pow_right
def QC:=@Nat.mul_le_mul_right
def N6:=@AllReadyH.nil
def N7:=@Prod.mk.injEq
def KL:=@Array.ext'
def QD:=@Array.toList_append
def LN:=@Nat.le_succ
def U3:=@Array.getElem?_eq_some_iff
def U4:=@Int.tmod_eq_emod_of_nonneg
def N9:=@wpAnyH_ready
def QE:=@Array.ext_getElem?
def Na:=@List.map_map
def QF:=@Maps.has_put_other
def QG:=@World.ownsMap_made
def Nc:=@Nat.sub_self
def QH:=@Option.isSome_none
def OI:=@Bool.and_false
def U5:=@World.cell?_setCell_same'
def QI:=@setCell_eq_setRow
def QJ:=@Maps.has_put_same
def QK:=@Nat.or_lt_two_pow
def QL:=@run_sliceAt_slice
def KM:=@eq_of_beq
def QM:=@Array.size_append
def LO:=@wpAnyH_all
def OJ:=@AllReady.cons
def U6:=@List.getElem?_cons_succ
def U7:=@decide_eq_false_iff_not
def OK:=@wp_region_any
def QN:=@Lib.extract_data
def U9:=@List.drop_of_length_le
def Ua:=@ByteArray.size_extract
def Ub:=@List.getElem?_toArray
def QO:=@Int.emod_nonneg
def Uc:=@run_append_owned_none
def Hn:=@Or.inr
def Ud:=@Nat.div_lt_iff_lt_mul
def Ue:=@Nat.testBit_shiftLeft
def QP:=@Nat.testBit_and
def Uf:=@List.mem_of_getElem?
def Ug:=@List.getElem_toArray
def Uh:=@Array.toArray_toList
def Ui:=@Maps.atKey_put_other
def Uj:=@List.mem_iff_getElem
def QQ:=@Bool.false_and
def QR:=@List.take_zero
def QS:=@Nat.testBit_or
def QT:=@run_sliceBound
def Uk:=@List.getElem?_range
def K3:=@if_true
def OL:=@Nat.mul_one
def Ul:=@List.map_congr_left
def Um:=@List.length_pos_iff
def Un:=@Maps.atKey_put_same
def Uo:=@List.mem_map_of_mem
def Up:=@Array.getElem?_push
def QU:=@Bool.and_comm
def LP:=@if_false
def QV:=@Bool.false_or
def QW:=@plainElem_int
def Uq:=@Lib.extract_to_end
def Ur:=@List.getElem_idxOf
def Us:=@Option.isSome_some
def Ut:=@Option.toList_none
def Uu:=@Option.toList_some
def Uv:=@DataW.trod_string
def Uw:=@List.getElem_take
def Ux:=@Maps.Keyed.of_law
def Uy:=@wp_scope_straight
def Uz:=@List.idxOf_append
def UA:=@List.Sublist.refl
def QX:=@AllReady.nil
def QY:=@List.all_map
def QZ:=@Nat.sub_zero
def R0:=@Int.le_trans
def UB:=@Option.bind_some
def UC:=@BitVec.toNat_and
def UD:=@List.filter_cons
def UE:=@forall_eq_or_imp
def R5:=@wpAny_ready
def R6:=@unitElem_mk
def OM:=@wpIn_wide
def ON:=@And.intro
def R7:=@Nat.mod_lt
def R8:=@wpAny_done
def OO:=@or_false
def LQ:=@Or.inl
abbrev A1(W V:Al):Prop:=Below W.heap.size W V
abbrev A2:=List UInt8
abbrev A3:=DataW Unit
abbrev A4:=Array Am
abbrev A5:=Option Addr
abbrev A6(a:Type):=Except (Int×Int) (a×Nat)
theorem Ap{p:Prop}(h:p):Hid p:=h
theorem Ay(w:Al)(o:Obj):(w.alloc o).heap[w.heap.size]?=Aj o:=by
 show(w.heap.push o)[w.heap.size]?=_;simp
theorem Ar{cs:A4}{t:TypeId}{fr:Nat×Nat}(a:w.heap[g]?=Aj (Af cs t fr))(j:Nat):w.cell? ⟨g,j,Ak⟩=cs[j]?:=DL w g j cs t fr a
theorem AH{o:Obj}:A1 w (w.alloc o):=(AT _ _).alloc (AB _) _
theorem LR(o:Obj):A1 w (w.alloc o):=(AT _ _).alloc (AB _) _
theorem Bb:Below n w w:=AT _ _
theorem At{α:Type}{a:Array α}{x:α}(h:a[i]?=Aj x):i<a.size:=(U3.1 h).1
theorem B9{α:Type}{a:List α}{x:α}(h:a[i]?=Aj x):i<a.length:=(J8.1 h).1
theorem sx{cs:A4}{y:Option Obj}(h:j≠g)(e:w.heap[j]?=y):(w.setRow g cs).heap[j]?=y:=(BO _ _ _ _ h).trans e
theorem DC{α β γ:Type}{p:α->β->γ->Prop}:∀a b c,p a b c->p a b c:=λ_ _ _ h=>h
theorem DM(h:∀V,w=V->wpList P ops Q rest a V):wpList P ops Q rest a w:=h w rfl
theorem Cp{id:Nat}(b:S {w with drawn:=w.drawn+1})(c:P.follows .mixedOrders=true)(h:S {w with drawn:=w.drawn+1}->wpAnyH P .any ops Q S ops.size (Array.replicate ops.size false) a {w with drawn:=w.drawn+1}):(Code.region id ops true).wp P Q a w:=Dr c (h b)
theorem D9(i:Nat)(hi:ops[i]?=Aj o)(c:Region.ready md ops listed=[i])(h:(∀b:Act->Al->Prop,(∀a w,wpAny P md ops Q fuel (listed.setIfInBounds i true) a w->b a w)->if Region.wanted o (yielded ops a.tmps)=true then Oper.wp P o a w b Q else b (a.put o.dst undef) w)):wpAny P md ops Q (fuel+1) listed a w:=R5 c (by simp) (OJ hi h QX)
theorem I9(i j:Nat)(hi:ops[i]?=Aj o)(c:ops[j]?=Aj p)(d:Region.ready md ops listed=[i,j])(h:(∀b:Act->Al->Prop,(∀a w,wpAny P md ops Q fuel (listed.setIfInBounds i true) a w->b a w)->if Region.wanted o (yielded ops a.tmps)=true then Oper.wp P o a w b Q else b (a.put o.dst undef) w))(k:(∀b:Act->Al->Prop,(∀a w,wpAny P md ops Q fuel (listed.setIfInBounds j true) a w->b a w)->if Region.wanted p (yielded ops a.tmps)=true then Oper.wp P p a w b Q else b (a.put p.dst undef) w)):wpAny P md ops Q (fuel+1) listed a w:=R5 d (by simp) (OJ hi h (OJ c k QX))
theorem ae(i:Nat)(hi:ops[i]?=Aj o)(c:Region.ready md ops listed=[i])(h:(∀b:Act->Al->Prop,Shut (∀a w,S w->(S w->wpAnyH P md ops Q S fuel (listed.setIfInBounds i true) a w)->b a w)->if Region.wanted o (yielded ops a.tmps)=true then Oper.wp P o a w b Q else b (a.put o.dst undef) w)):wpAnyH P md ops Q S (fuel+1) listed a w:=N9 c (by simp) (LF hi h N6)
theorem af(i j:Nat)(hi:ops[i]?=Aj o)(c:ops[j]?=Aj p)(d:Region.ready md ops listed=[i,j])(h:(∀b:Act->Al->Prop,Shut (∀a w,S w->(S w->wpAnyH P md ops Q S fuel (listed.setIfInBounds i true) a w)->b a w)->if Region.wanted o (yielded ops a.tmps)=true then Oper.wp P o a w b Q else b (a.put o.dst undef) w))(k:(∀b:Act->Al->Prop,Shut (∀a w,S w->(S w->wpAnyH P md ops Q S fuel (listed.setIfInBounds j true) a w)->b a w)->if Region.wanted p (yielded ops a.tmps)=true then Oper.wp P p a w b Q else b (a.put p.dst undef) w)):wpAnyH P md ops Q S (fuel+1) listed a w:=N9 d (by simp) (LF hi h (LF c k N6))
theorem Nd{v:Am}(b:Option Tmp)(hi:ops[i]?=Aj oi)(k:Region.noSelect ops=true)(g:Region.free md ops listed i=true)(j:(Region.ready md ops listed).contains i=true)(d:∀c a w,Q (.panic c) (a.put b v) w->Q (.panic c) a w)(f:oi.dst=b)(l:YieldsIf P ops S oi v a)(e:S w)(h:wpAnyH P md ops Q S fuel (listed.setIfInBounds i true) (a.put b v) w):wpAnyH P md ops Q S (fuel+1) listed a w:=by
 subst f;exact Ds hi k g j d l e h
theorem Au(i b:Nat)(v:Am)(l:S w)(h:wpAnyH P md ops Q S fuel (listed.setIfInBounds i true) (a.put (Aj b) v) w)(m:(Region.noSelect ops&&Region.free md ops listed i&&(Region.ready md ops listed).contains i,ops[i]?.map λo=>(o.dst,Region.wanted o (yielded ops a.tmps),λZ=>(execOp a.eval o).run P Z))=(true,Aj (Aj b,true,λZ=>.ok (.value v) Z)):=by kernel_rfl)(k:∀c a w,Q (.panic c) (a.put (Aj b) v) w->Q (.panic c) a w:=by exact λ_ _ _ h=>h):wpAnyH P md ops Q S (fuel+1) listed a w:=by
 obtain⟨d,g⟩:=Eh m;obtain⟨o,n,e⟩:=MP.1 g;obtain⟨e,f⟩:=Eh e;obtain⟨f,j⟩:=Eh f;simp only[Ch]at d;exact Nd (Aj b) n d.1.1 d.1.2 d.2 k e (.inl ⟨f,λZ _=>congrFun j Z⟩) l h
theorem AD(i d:Nat)(v:Am)(hi:ops[i]?=Aj oi)(g:∀Z,S Z->(execOp a.eval oi).run P Z=.ok (.value v) Z)(f:S w)(h:wpAnyH P md ops Q S fuel (listed.setIfInBounds i true) (a.put (Aj d) v) w)(b:(Region.noSelect ops&&Region.free md ops listed i&&(Region.ready md ops listed).contains i&&oi.dst==Aj d&&Region.wanted oi (yielded ops a.tmps))=true:=by kernel_rfl)(e:∀c a w,Q (.panic c) (a.put (Aj d) v) w->Q (.panic c) a w:=by exact λ_ _ _ h=>h):wpAnyH P md ops Q S (fuel+1) listed a w:=by
 simp only[Ch]at b;exact Nd (Aj d) hi b.1.1.1.1 b.1.1.1.2 b.1.1.2 e (by simpa using b.1.2) (.inl ⟨b.2,g⟩) f h
theorem Bw(h:Q .normal a w)(b:Region.ready md ops listed=[]:=by kernel_rfl):wpAnyH P md ops Q S fuel listed a w:=KK b h fuel
theorem Bc(i:Nat)(h:(∀b:Act->Al->Prop,Shut (∀a w,S w->(S w->wpAnyH P md ops Q S fuel (listed.setIfInBounds i true) a w)->b a w)->if Region.wanted o (yielded ops a.tmps)=true then Oper.wp P o a w b Q else b (a.put o.dst undef) w))(hi:ops[i]?=Aj o:=by rfl)(c:Region.ready md ops listed=[i]:=by kernel_rfl):wpAnyH P md ops Q S (fuel+1) listed a w:=ae i hi c h
theorem Gm(i j:Nat)(h:(∀b:Act->Al->Prop,Shut (∀a w,S w->(S w->wpAnyH P md ops Q S fuel (listed.setIfInBounds i true) a w)->b a w)->if Region.wanted o (yielded ops a.tmps)=true then Oper.wp P o a w b Q else b (a.put o.dst undef) w))(k:(∀b:Act->Al->Prop,Shut (∀a w,S w->(S w->wpAnyH P md ops Q S fuel (listed.setIfInBounds j true) a w)->b a w)->if Region.wanted p (yielded ops a.tmps)=true then Oper.wp P p a w b Q else b (a.put p.dst undef) w))(hi:ops[i]?=Aj o:=by rfl)(c:ops[j]?=Aj p:=by rfl)(d:Region.ready md ops listed=[i,j]:=by kernel_rfl):wpAnyH P md ops Q S (fuel+1) listed a w:=af i j hi c d h k
theorem AI{c:UInt8}(v:Int)(h:¬(c.toNat:Int)=v):((c.toNat:Int)==v)=false:=by simpa using h
theorem CA(b:TypeId)(x:Operand)(k:o.op=.load b x)(j:Region.wanted o (yielded ops a.tmps)=true)(g:Nat)(m:a.eval x=A9 (Aj ⟨g,0,Ak⟩))(t:TypeId)(cs:A4)(c:Nat×Nat)(d:TypeDesc)(i:w.heap[g]?=Aj (Af cs t c))(l:P.underlying b=Aj d)(f:(match d with|.struct _|.array _ _=>true|_=>false)=true)(hi:(P.info? b).map (·.size)=Aj cs.size)(h:wpList P ops Q rest (a.put o.dst (.agg cs)) w):wpList P ops Q (o::rest) a w :=
 wpList_step λK e=>by rw[As j];exact wp_load_row b x k g m t cs c d i l f hi (e _ _ h)
theorem EK(g:o.guard=Ak)(t:TypeId)(c:Array (Nat×Operand))(k:o.op=.build t c)(d:Option Tmp)(e:o.dst=d)(b:A4)(l:List (Nat×Am))(j:(c.map λ(i,x)=>(i,a.eval x)).toList=l)(f:P.built t l=Aj b)(h:wpList P ops Q rest (a.put d (.agg b)) w):wpList P ops Q (o::rest) a w :=
 wpList_buildTo g t c k d e b (by rw[j];exact f) h
structure K4(arr:A4)(n:Nat)(m:Nat->Nat->Bool):Prop where
 size:arr.size=37
 count:arr[0]?=some (.int .i64 n)
 at_:∀i j,i<6->j<6->arr[1+i*6+j]?=some (.bool (m i j))
def Bh(n:Nat)(m:Nat->Nat->Bool):A4:=(A7 Ah n::(List.range 36).map λk=>Ad (m (k/6) (k%6))).toArray
theorem Bj(n:Nat)(m:Nat->Nat->Bool):(Bh n m).size=37:=by simp[Bh]
theorem Fv(n:Nat)(m:Nat->Nat->Bool):K4 (Bh n m) n m:=by
 refine⟨Bj n m,rfl,λi j d e=>?_⟩;have a:1+i*6+j=(i*6+j)+1:=by omega
 rw[a];simp only[Bh,Ub,U6,GH];rw[Uk (by omega)];simp only[MX];have b:(i*6+j)/6=i:=by omega
 have c:(i*6+j)%6=j:=by omega
 rw[b,c]
def F9(m:Nat->Nat->Bool)(i j:Nat)(b:Bool):Nat->Nat->Bool:=λx y=>if x=i/\y=j then b else m x y
theorem UF(n:Nat)(m:Nat->Nat->Bool)(i j:Nat)(b:Bool)(hi:i<6)(d:j<6):(Bh n m).setIfInBounds (1+i*6+j) (Ad b)=Bh n (F9 m i j b):=by
 apply QE;intro k;rw[Qv];by_cases a:1+i*6+j=k
 ·subst a;rw[As rfl,(Fv n (F9 m i j b)).at_ i j hi d,As (by rw[Bj];omega)];simp[F9]
 rw[Aq a]
 cases k with
 |zero=>rw[(Fv n m).count,(Fv n (F9 m i j b)).count]
 |succ q =>
  by_cases e:q<36
  ·have c:q+1=1+(q/6)*6+q%6:=by omega
   rw[c,(Fv n m).at_ _ _ (by omega) (by omega),(Fv n (F9 m i j b)).at_ _ _ (by omega) (by omega)];have:¬(q/6=i/\q%6=j):=by omega
   simp[F9,this]
  rw[Lu (by rw[Bj];omega),Lu (by rw[Bj];omega)]
theorem FL(n:Nat)(m:Nat->Nat->Bool):(Bh n m).all (·.oneCell')=true:=by
 rw[Array.all_eq_true_iff_forall_mem];intro x a;simp only[Bh,List.mem_toArray,Gi,KJ]at a;rcases a with rfl|⟨k,_,rfl⟩<;>rfl
def AU:A4:=Bh 0 λ_ _=>false
theorem ag(ρ:Operand->Am)(o:Oper)(a:o.op=.alloc 72)(w:Al):(execOp ρ o).run prog w=.ok (.value (A9 (Aj ⟨w.heap.size,0,Ak⟩))) (w.alloc (Af AU 72)):=by
 unfold execOp;rw[a];kernel_rfl
theorem G1(e:o.guard=Ak)(f:o.op=.alloc 72)(d:Option Tmp)(c:o.dst=d)(N:Nat)(b:w.heap.size=N)(h:wpList prog ops Q rest (a.put d (A9 (Aj ⟨N,0,Ak⟩))) (w.alloc (Af AU 72))):wpList prog ops Q (o::rest) a w:=by
 subst b;exact Ov e d c _ _ (ag _ _ f _) h
theorem UG(n:Nat):prog.built 72 [(0,A7 Ah n)]=Aj (Bh n λ_ _=>false):=by kernel_rfl
theorem KN:prog.built 72 []=Aj AU:=by kernel_rfl
def C5(m:Nat->Nat->Bool)(a b c:Nat):Bool:=m a c&&m b c
theorem BP{arr:A4}(h:arr.size=37):(prog.info? 72).map (·.size)=Aj arr.size:=by rw[h];kernel_rfl
theorem UH(arr:A4)(n:Nat)(m:Nat->Nat->Bool)(H:K4 arr n m)(a b c:Nat)(f:a<6)(g:b<6)(i:c<6)(w:Al):An prog 125 #[.agg arr,A7 Ah c,A7 Ah a,A7 Ah b] w λe d=>e=Ag (Ad (C5 m a b c))/\A1 w d:=by
 have h:=H.at_;go_enter func125,ntmps125;go_wp2
 all_goals go_ret
 all_goals exact⟨by simp[C5, *],AH⟩
def Bv(n:Nat)(a:Int):Bool:=decide (0<=a/\a<n)
theorem LS(arr:A4)(n:Nat)(h:arr[0]?=Aj (A7 Ah n))(a:Int)(w:Al):An prog 71 #[.agg arr,A7 Ah a] w λe c=>e=Ag (Ad (Bv n a))/\A1 w c:=by
 go_enter func71,ntmps71;go_wp2
 all_goals go_ret
 ·exact⟨by simp[Bv, *],AH⟩
 exact⟨(by have b:¬0<=a:=(by omega);simp[Bv,b]),AH⟩
def CY(n:Nat)(m:Nat->Nat->Bool)(a b j:Nat):Bool:=C5 m a b j&&(List.range n).all λk=>!C5 m a b k||m j k
def Dm(n:Nat)(m:Nat->Nat->Bool)(a b:Nat):Bool:=(List.range n).any λj=>CY n m a b j
theorem R9{a k:Nat}(d:k<n)(h:C5 m a b k=true)(c:m j k=false):CY n m a b j=false:=by
 unfold CY;rw[Ja];right;rw[F7];exact⟨k,BT.2 d,by simp[h,c]⟩
theorem OP{a:Nat}(c:C5 m a b j=true)(h:∀k,k<n->C5 m a b k=true->m j k=true):CY n m a b j=true:=by
 unfold CY;rw[c,Gj,D7];intro k d;have:=h k (BT.1 d);cases e:C5 m a b k<;>simp_all
theorem OQ{a:Nat}(c:j<n)(h:CY n m a b j=true):Dm n m a b=true:=by
 unfold Dm;rw[I6];exact⟨j,BT.2 c,h⟩
theorem Ra{a:Nat}(h:∀j,j<n->CY n m a b j=false):Dm n m a b=false:=by
 unfold Dm;rw[Lz];intro j c;simp[h j (BT.1 c)]
theorem Rb(arr:A4)(n:Nat)(m:Nat->Nat->Bool)(H:K4 arr n m)(hn:n<=6)(a b:Nat)(Q:a<6)(R:b<6)(w:Al):An prog 98 #[.agg arr,A7 Ah a,A7 Ah b] w λe w'=>e=Ag (Ad (Dm n m a b))/\A1 w w':=by
 have h:=H.at_;have P:=H.count;have W:=BP H.size;have L:=Ap H;have r:=Ap W;have V:=(AT w.heap.size w).alloc (AB _) (Af arr 72);have Y:=Ay w (Af arr 72);have y:(w.alloc (Af arr 72)).heap.size=w.heap.size+1:=by simp
 have K:=Ap V;have M:=Ap Y;have N:=Ap y;go_enter func98,ntmps98;go_wp2;go_step3;go_wp2;go_step3;go_wp2;generalize hW:w.alloc (Af arr 72)=W1 at *
 go_loopg[11,7] n (λg x aa wr=>∃k:Nat,Hid (k+g=n)/\x=A7 Ah k/\Below (w.heap.size+1) W1 wr/\Hid (∀j,j<k->CY n m a b j=false))
 case atStart=>exact⟨0,by show _=_;omega,rfl,AT _ _,λj o=>by omega⟩
 case round =>
  obtain⟨k,u,rfl,t,D⟩:=hrel;have B:=(t.block _ (by omega)).trans M;have J:=(Ar B 0).trans P;have l:=t.size;rw[N.out]at l;have f:=Ap B
  cases gk with
  |zero =>
   have X:¬(k:Int)<n:=by have:=u.out;omega
   go_wp2;go_ret;exact⟨by rw[Ra (λj o=>D.out j (by have:=u.out;omega))];rfl,K.trans (t.mono (by omega))⟩
  |succ g =>
   have X:(k:Int)<n:=by have:=u.out;omega
   have S:k<6:=by omega
   have d:=UH arr n m L a b k Q R S wr;cases i:C5 m a b k
   ·rw[i]at d;have G:=Ap i
    go_wp2_with(first
     |(refine B3 rfl 72 _ rfl _ rfl _ arr _ _ f underlying72 rfl r ?_)
     |(go_at_call 125;refine d.mono ?_;rintro e C ⟨rfl,c⟩))
    go_roundg g
    case measure=>omega
    case rel =>
     refine⟨k+1,by show _=_;have:=u.out;omega,by go_num,t.trans (c.mono l),?_⟩;intro j o;by_cases e:j=k
     ·subst e;unfold CY;rw[G.out];rfl
     exact D j (by omega)
   rw[i]at d;have G:=Ap i
   go_wp2_with(first
    |(refine B3 rfl 72 _ rfl _ rfl _ arr _ _ f underlying72 rfl r ?_)
    |(go_at_call 125;refine d.mono ?_;rintro e C ⟨rfl,c⟩;have J:=(Ar (((c.block _ (by omega)).trans f)) 0).trans P))
   have U:=t.trans (c.mono l)
   go_loopg[22,8] n (λg x aa wq=>∃q:Nat,Hid (q+g=n)/\x=A7 Ah q/\Below (w.heap.size+1) W1 wq/\Hid (∀j,j<q->C5 m a b j=true->m k j=true))
   case atStart=>exact⟨0,by show _=_;omega,rfl,U,λj o=>by omega⟩
   case round =>
    obtain⟨q,v,rfl,p,F⟩:=hrel;have B:=(p.block _ (by omega)).trans M;have l:=p.size;rw[N.out]at l;have f:=Ap B
    cases gk with
    |zero =>
     have Z:¬(q:Int)<n:=by have:=v.out;omega
     go_wp2;go_ret;exact⟨by rw[OQ (by omega) (OP G (λj o=>F.out j (by have:=v.out;omega)))];rfl,K.trans (p.mono (by omega))⟩
    |succ O =>
     have Z:(q:Int)<n:=by have:=v.out;omega
     have T:q<6:=by omega
     have d:=UH arr n m L a b q Q R T wr;cases i:C5 m a b q
     ·rw[i]at d;have I:=Ap i
      go_wp2_with(first
       |(refine B3 rfl 72 _ rfl _ rfl _ arr _ _ f underlying72 rfl r ?_)
       |(go_at_call 125;refine d.mono ?_;rintro e C ⟨rfl,c⟩))
      go_roundg O
      case measure=>omega
      case rel =>
       refine⟨q+1,by show _=_;have:=v.out;omega,by go_num,p.trans (c.mono l),?_⟩;intro j o s;by_cases e:j=q
       ·subst e;rw[I.out]at s;cases s
       exact F j (by omega) s
     rw[i]at d;have I:=Ap i;have z:=h k q S T;cases A:m k q
     ·rw[A]at z;have E:=Ap A
      go_wp2_with(first
       |(refine B3 rfl 72 _ rfl _ rfl _ arr _ _ f underlying72 rfl r ?_)
       |(go_at_call 125;refine d.mono ?_;rintro e C ⟨rfl,c⟩;have J:=(Ar (((c.block _ (by omega)).trans f)) (1+k*6+q)).trans z))
      go_roundg g
      case measure=>omega
      case rel =>
       refine⟨k+1,by show _=_;have:=u.out;omega,by go_num,p.trans (c.mono l),?_⟩;intro j o;by_cases e:j=k
       ·subst e;exact R9 (by omega) I E
       exact D j (by omega)
     rw[A]at z;have E:=Ap A
     go_wp2_with(first
      |(refine B3 rfl 72 _ rfl _ rfl _ arr _ _ f underlying72 rfl r ?_)
      |(go_at_call 125;refine d.mono ?_;rintro e C ⟨rfl,c⟩;have J:=(Ar (((c.block _ (by omega)).trans f)) (1+k*6+q)).trans z))
     go_roundg O
     case measure=>omega
     case rel =>
      refine⟨q+1,by show _=_;have:=v.out;omega,by go_num,p.trans (c.mono l),?_⟩;intro j o s;by_cases e:j=q
      ·subst e;exact E
      exact F j (by omega) s
def Ia(m:Nat->Nat->Bool)(a b:Nat):Bool:=m a b&&m b a
def Fa(n:Nat)(m:Nat->Nat->Bool):Bool:=(List.range n).any λa=>(List.range a).any λb=>Ia m a b
theorem Rd{a:Nat}(c:a<n)(d:b<a)(h:Ia m a b=true):Fa n m=true:=by
 unfold Fa;rw[I6];refine⟨a,BT.2 c,?_⟩;rw[I6];exact⟨b,BT.2 d,h⟩
theorem ah(h:∀a b,a<n->b<a->Ia m a b=false):Fa n m=false:=by
 unfold Fa;rw[Lz];intro a d;rw[I6];rintro⟨b,e,c⟩;rw[h a b (BT.1 d) (BT.1 e)]at c;cases c
theorem aj(arr:A4)(n:Nat)(m:Nat->Nat->Bool)(H:K4 arr n m)(F:n<=6)(w:Al):An prog 72 #[.agg arr] w λe D=>e=Ag (Ad (Fa n m))/\A1 w D:=by
 have p:=Ap H.at_;have E:=H.count;clear H;go_enter func72,ntmps72;go_wp2
 go_loopg[7,3] n (λg x y wr=>∃k:Nat,Hid (k+g=n)/\x=A7 Ah k/\w.alloc (Af arr 72)=wr/\Hid (∀a b,a<k->b<a->Ia m a b=false))
 case atStart=>exact⟨0,by show _=_;omega,rfl,rfl,λa b v=>by omega⟩
 case round =>
  obtain⟨k,j,rfl,rfl,r⟩:=hrel
  cases gk with
  |zero =>
   have B:¬(k:Int)<n:=by have:=j.out;omega
   go_wp2;go_ret;exact⟨by rw[ah (λa b v f=>r.out a b (by have:=j.out;omega) f)];rfl,AH⟩
  |succ g =>
   have B:(k:Int)<n:=by have:=j.out;omega
   have z:k<6:=by omega
   go_wp2
   go_loopg[11,4] k (λg x y wr=>∃q:Nat,Hid (q+g=k)/\x=A7 Ah q/\w.alloc (Af arr 72)=wr/\Hid (∀b,b<q->Ia m k b=false))
   case atStart=>exact⟨0,by show _=_;omega,rfl,rfl,λb f=>by omega⟩
   case round =>
    obtain⟨q,h,rfl,rfl,o⟩:=hrel
    cases gk with
    |zero =>
     have C:¬(q:Int)<k:=by have:=h.out;omega
     go_wp2;go_roundg g
     case measure=>omega
     case rel =>
      refine⟨k+1,by show _=_;have:=j.out;omega,by go_num,rfl,λa b v f=>?_⟩;by_cases e:a=k
      ·subst e;exact o b (by have:=h.out;omega)
      exact r a b (by omega) f
    |succ s =>
     have C:(q:Int)<k:=by have:=h.out;omega
     have A:q<6:=by omega
     have t:=p.out k q z A;have u:=p.out q k A z;cases c:m k q
     ·rw[c]at t;have i:=Ap c;clear c;go_wp2;go_roundg s
      case measure=>omega
      case rel =>
       refine⟨q+1,by show _=_;have:=h.out;omega,by go_num,rfl,λb f=>?_⟩;by_cases e:b=q
       ·subst e;unfold Ia;rw[i.out];rfl
       exact o b (by omega)
     rw[c]at t;have i:=Ap c;clear c;cases d:m q k
     ·rw[d]at u;have l:=Ap d;clear d;go_wp2;go_roundg s
      case measure=>omega
      case rel =>
       refine⟨q+1,by show _=_;have:=h.out;omega,by go_num,rfl,λb f=>?_⟩;by_cases e:b=q
       ·subst e;unfold Ia;rw[i.out,l.out];rfl
       exact o b (by omega)
     rw[d]at u;have l:=Ap d;clear d;go_wp2;go_ret;exact⟨by rw[Rd (a:=k) (b:=q) (by omega) (by omega) (by unfold Ia;rw[i.out,l.out];rfl)];rfl,AH⟩
theorem ak(arr:A4)(n:Nat)(m:Nat->Nat->Bool)(H:K4 arr n m)(x:n<=6)(a b:Nat)(t:a<n)(u:b<n)(w:Al):An prog 108 #[.agg arr,A7 Ah a,A7 Ah b] w λe r=>e=Ag (Ad (m a b))/\A1 w r:=by
 have h:=H.at_ a b (by omega) (by omega);have j:=H.count;have g:=Ap (BP H.size);clear H;have o:Bv n a=true:=by unfold Bv;exact Bs (by omega)
 have p:Bv n b=true:=by unfold Bv;exact Bs (by omega)
 go_enter func108,ntmps108;have l:=Ay w (Af arr 72);have c:=Ap l;clear l;have d:=LS arr n j a (w.alloc (Af arr 72));rw[o]at d
 go_wp2_with(first
  |(refine B3 rfl 72 _ rfl _ rfl _ arr _ _ c underlying72 rfl g ?_)
  |(refine CA 72 _ rfl rfl _ rfl _ arr _ _ c underlying72 rfl g ?_)
  |(go_at_call 71;refine d.mono ?_;clear d;rintro e s ⟨rfl,f⟩;have i:=Ap ((f.block _ (by simp)).trans c);clear c;have c:=i;clear i;have c2:=LS arr n j b s;rw[p]at c2;have q:=f.size;rw[AM]at q)
  |(go_at_call 71;refine c2.mono ?_;clear c2;rintro e y ⟨rfl,k⟩;have v:=(Ar ((k.block _ (by omega)).trans c) (1+a*6+b)).trans h))
 go_ret;exact⟨rfl,((AH).trans (f.mono (by simp))).trans (k.mono (by omega))⟩
def CH(c:Int):Int×Int×Int :=
 if c<128 then(0,0,1)else if 194<=c/\c<=223 then(128,191,2)else if c=224 then(160,191,3)else if c=237 then(128,159,3)
 else if 225<=c/\c<=239 then(128,191,3)else if c=240 then(144,191,4)else if 241<=c/\c<=243 then(128,191,4)else if c=244 then(128,143,4)else(0,0,0)
theorem VO(c:Int)(w:Al):An prog 151 #[A7 .u8 c] w λe a=>e=Ag (Ab #[A7 .u8 (CH c).1,A7 .u8 (CH c).2.1,A7 Ah (CH c).2.2])/\a=w:=by
 go_enter func151,ntmps151;go_wp2
 all_goals go_ret3
 all_goals refine⟨?_,rfl⟩
 all_goals simp only[Je,Dq]at *
 all_goals unfold CH
 all_goals(repeat(first|rw[As (by omega)]|rw[Aq (by omega)]))
 all_goals rfl
def CZ(s:ByteArray):Int:=if s.toList==[100,114,111,112]then 1 else if s.toList==[109,97,115,107]then 2 else if s.toList==[116,97,103]then 3 else 0
theorem RO(s:ByteArray)(w:Al):An prog 56 #[.string s] w λe a=>e=Ag (A7 Ah (CZ s))/\a=w:=by
 go_enter func56,ntmps56;go_wp2
 all_goals go_ret
 all_goals refine⟨?_,rfl⟩
 all_goals unfold CZ
 all_goals(repeat(first|rw[As (by assumption)]|rw[Aq (by rw[KH];assumption)]))
 all_goals rfl
theorem RP(s:ByteArray)(w:Al):An prog 103 #[.string s] w λe a=>e=Ag (Ab #[A7 Ah (CZ s),Ad (CZ s != 0)])/\a=w:=by
 go_enter func103,ntmps103;go_wp2
 all_goals go_ret2
 all_goals refine⟨?_,rfl⟩
 all_goals unfold CZ
 all_goals(repeat(first|rw[As (by assumption)]|rw[Aq (by rw[KH];assumption)]))
 all_goals rfl
def IJ(l:A2):Int:=match l with
 |[b]=>if 48<=b.toNat/\b.toNat<=57 then(b.toNat:Int)-48 else 0
 |_=>0
def EO(l:A2)(n:Int):Bool:=match l with
 |[b]=>decide (48<=b.toNat/\b.toNat<=57)&&decide ((b.toNat:Int)-48<n)
 |_=>false
theorem VP{s:ByteArray}(h:s.size=1):s.data.toList=[s[0]]:=by
 obtain⟨⟨l⟩⟩:=s
 match l,h with
 |[b],_=>rfl
theorem VQ{l:A2}(n:Int)(h:l.length≠1):IJ l=0/\EO l n=false:=by
 match l,h with
 |[],_=>exact⟨rfl,rfl⟩
 |_::_::_,_=>exact⟨rfl,rfl⟩
theorem RQ(s:ByteArray)(n:Int)(w:Al):An prog 102 #[.string s,A7 Ah n] w λe d=>e=Ag (Ab #[A7 Ah (IJ s.data.toList),Ad (EO s.data.toList n)])/\d=w:=by
 by_cases c:s.size=1
 ·have f:(s.size:Int)=1:=by omega
  have b:=Ap (VP c);by_cases g:(s[0].toNat:Int)<48
  ·have a:Hid (IJ [s[0]]=0/\EO [s[0]] n=false):=⟨Aq (by omega),by simp only[EO];rw[BJ (by omega)];rfl⟩
   go_enter func102,ntmps102;go_wp2
   all_goals go_ret2
   all_goals exact⟨by rw[b.out,a.1,a.2];rfl,rfl⟩
  have h:(48:Int)<=s[0].toNat:=by omega
  by_cases i:(57:Int)<s[0].toNat
  ·have a:Hid (IJ [s[0]]=0/\EO [s[0]] n=false):=⟨Aq (by omega),by simp only[EO];rw[BJ (by omega)];rfl⟩
   go_enter func102,ntmps102;go_wp2
   all_goals go_ret2
   all_goals exact⟨by rw[b.out,a.1,a.2];rfl,rfl⟩
  have j:(s[0].toNat:Int)<=57:=by omega
  have a:Hid (IJ [s[0]]=(s[0].toNat:Int)-48/\EO [s[0]] n=decide ((s[0].toNat:Int)-48<n)):=⟨As (by omega),by simp only[EO];rw[Bs (by omega)];rfl⟩
  go_enter func102,ntmps102;go_wp2
  all_goals go_ret2
  all_goals exact⟨by rw[b.out,a.1,a.2];rfl,rfl⟩
 have:(s.size:Int)≠1:=by omega
 have a:=Ap (VQ n (by rw[DB];exact c));go_enter func102,ntmps102;go_wp2
 all_goals go_ret2
 all_goals exact⟨by rw[a.1,a.2];rfl,rfl⟩
end
end Go.Proofs.YtoegnhgofkhbnaaGreatDoor
