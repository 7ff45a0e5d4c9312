import Derived.Test.YtihfjkjbfaneeaaGreatDoorRows
import Derived.WalkKit
import Derived.WalkSpells
import Derived.WalkLawsBesides
import Derived.WalkMore
import Derived.Deep.QuietTactic
import Derived.BigQuiet
import Derived.Deep.LoopGhost
import Derived.Great.Walk
import Derived.Great.BuildSlice
import Derived.Deep.WholeRow
import Derived.Deep.RegionHeld3
import Derived.Laws.ResultCell
import Derived.RangeFuncRecord
set_option maxRecDepth 100000
set_option maxHeartbeats 8000000
set_option linter.all false
namespace Go.Proofs.YtihfjkjbfaneeaaGreatDoor
open Go.Proofs.Tryz
open _root_ renaming Nat->I,Int->J
open Go.Value renaming int->C,slice->T
open _root_.List renaming length->O
open Go.World renaming heap->U
open _root_.Array renaming size->K
open Go.IntKind renaming i64->Y
open Go.RowKit renaming Hid->D
open Go renaming World->X
open Option renaming some->H
open Go.Obj renaming cells->M
open Go.Value renaming int->Ab,pointer->Ad,tuple->Af,agg->Ag,bool->Ah,iface->Ai
open Go.Obj renaming cells->Aj
open Go.Ending renaming returned->Ak
open Option renaming some->An,none->Ao
open Go renaming TypeId->AN,undef->AO,World->Ap,Value->Aq,Calls->Ar
open Go.Proofs.Tryz renaming prog->As
open _root_.List renaming length->At
open _root_.Array renaming setIfInBounds->Ay
open Go.World renaming cell?->AC,setRow->AD,alloc->Az
open Go.RowKit.Hid renaming out->AE
open _root_ renaming Nat->AH,Int->AI,List->AJ,Bool->AK,Except->AS,UInt8->AU
open _root_.Bool renaming true->AP,false->AQ
open _root_.Decidable renaming decide->AR
variable{P:Program}{o oi p:Oper}{V V' W W' W0 w w':X}{N b cap dst fuel g i j k l n r st x:I}{t ty:AN}{fr:I×I}{ops:Array Oper}{Q:Exit->Act->X->Prop}{rest:AJ Oper}{a:Act}{S:X->Prop}{md:Region.Mode}{listed:Array AK}{c:AU}{d:Option Tmp}{m m':I->I->AK}{B:AJ J}{L:AJ (J×J)}
section
open Go.RowKit
def Z.{u}{a:Sort u}{b:a}:b=b:=rfl
section
variable{A B P:Prop}
def E(h:P:=by omega):P:=h
def kfl(h:P:=by have h:x=0\/x=1\/x=2\/x=3\/x=4\/x=5\/x=6\/x=7\/x=8\/x=9\/x=10\/x=11\/x=12\/x=13\/x=14\/x=15:=B5;rcases h with rfl|rfl|rfl|rfl|rfl|rfl|rfl|rfl|rfl|rfl|rfl|rfl|rfl|rfl|rfl|rfl<;>(show _=_;kernel_rfl)):P:=h
def kfn(h:P:=by grind [D4,I1]):P:=h
def kfo(h:P:=by show _<=_;simp):P:=h
def kfp(h:P:=by rw[a];omega):P:=h
def AY(a:A)(h:A->P:=by intro h;omega):P:=h a
def AZ(a:A)(h:A->P:=by intro h;show _=_;omega):P:=h a
def B0(a:A)(h:A->P:=by intro h;simp;omega):P:=h a
def B1(a:A)(h:A->P:=by intro h;simp;omega):P:=h a
def B2(a:A)(h:A->P:=by intro h;simpa using h):P:=h a
def B3(a:A)(b:B)(h:A->B->P:=by intro h g;omega):P:=h a b
def B4(a:A)(h:A->P:=by intro h;unfold maxLen;omega):P:=h a
def B5(h:P:=by omega):P:=h
def B6(h:P:=by kernel_rfl):P:=h
def B7(h:P:=by simp;omega):P:=h
def B8(h:P:=by decide):P:=h
def B9(h:P:=by grind):P:=h
def Ba(h:P:=by simp):P:=h
def Bb(h:P:=by go_num):P:=h
def Bc(h:P:=by unfold maxLen;omega):P:=h
def Bd(h:P:=by simp[World.setCell]):P:=h
def Bf(h:P:=by rw[z]):P:=h
def Bg(h:P:=by show _=_;omega):P:=h
def Bh(h:P:=by simp only[CI,A0];omega):P:=h
def Bi(h:P:=by grind [IntKind.wrap,IntKind.bits,IntKind.signed]):P:=h
def Bj(h:P:=by unfold execOp;simp only[c,hx,Instr.loadAt,Instr.sureAddr,Ig,Ga,FT,Jd W g t ty cs fr d b e a hi]):P:=h
def Bk(h:P:=by simp only[results,h];simp_all):P:=h
def Bl(h:P:=by simpa using a):P:=h
def Bm(h:P:=by have:=h.size;omega):P:=h
def Bn(h:P:=by show _=_;unfold Df;simp[d,j,k,l,m,g]):P:=h
def Bo(h:P:=by cases h):P:=h
def Bp(h:P:=by show _<=_;omega):P:=h
def Bq(h:P:=by simp[CB,Value.oneCell']):P:=h
def Br(h:P:=by simp_all):P:=h
def Bs(h:P:=by obtain⟨x2,a,c,m,r⟩:=at_ i (AY (Dh L));rw[L]at c;injection c with c;rw[c];exact r.iface):P:=h
def Bu(h:P:=by have:=g.size;simp only[CI,A0]at this ⊢;omega):P:=h
def Bv(h:P:=by have:=d.size;simp only[CI,A0]at this ⊢;omega):P:=h
def Bw(h:P:=by simpa using h):P:=h
def Bx(h:P:=by simp at h):P:=h
def By(h:P:=by grind [maxLen]):P:=h
def Bz(h:P:=by obtain⟨l,x,Q,R,S,z⟩:=q i key a c;obtain⟨t,y,rfl⟩:=z.iface;exact⟨l,t,y,Q,R,S,N _ a z⟩):P:=h
def BA(h:P:=by intro e;cases e;omega):P:=h
def BB(h:P:=by simpa using b):P:=h
def BC(h:P:=by first|(simp;done)|(simp;omega)):P:=h
def BD(h:P:=by simp at hu;rcases hu with rfl|rfl<;>rfl):P:=h
def BF(h:P:=by simp[Value.oneCell']):P:=h
def BG(h:P:=by unfold execOp;rw[a];kernel_rfl):P:=h
def BH(h:P:=by simp at b;rcases b with rfl|rfl<;>rfl):P:=h
def BI(h:P:=by grind [World.size_alloc]):P:=h
def BJ(h:P:=by rw[Dg _ _ _ _ B5,Dg _ _ _ _ B5]):P:=h
def BK(h:P:=by simp only;omega):P:=h
def BL(h:P:=by show _=_;simp):P:=h
def BM(h:P:=by grind [List.take_add_one]):P:=h
def BN(h:P:=by have:=Pv (bs:=bs) (lim:=lim) _ _ _ f.1 f.2 har;simpa using this):P:=h
def BO(h:P:=by have:=ck.dep;omega):P:=h
def BP(h:P:=by simpa using c):P:=h
def BQ(h:P:=by have:=n.size;simpa using this):P:=h
def BR(h:P:=by grind [Addr.add]):P:=h
def BS(h:P:=by obtain⟨a,b,c⟩:=h;exact⟨a,b.kept d e,c⟩):P:=h
def BT(h:P:=by simp at p;rcases p with rfl|rfl<;>rfl):P:=h
def BU(h:P:=by simpa using b.1.2):P:=h
def BV(h:P:=by rw[k];rfl):P:=h
def BW(h:P:=by grind [CF,Lib.toList_data]):P:=h
def BX(h:P:=by simpa using d):P:=h
def BY(h:P:=by simpa using o):P:=h
def BZ(h:P:=by have k:=aW V fm d hl hi hb;rw[h]at k;exact k):P:=h
def C0(h:P:=by rw[Xz (a:=k) B5 B5 l.out];rfl):P:=h
def C1(h:P:=by have:=g.size;simp only[CI,A0]at this;omega):P:=h
def C2(h:P:=by have:=d.size;simp only[CI,A0]at this;omega):P:=h
def C3(h:P:=by have:=a.size;simpa using this):P:=h
def C4(h:P:=by simpa using A):P:=h
def C5(h:P:=by simp at hx;rcases hx with rfl|rfl|rfl<;>rfl):P:=h
def C6(h:P:=by grind [CV]):P:=h
def C7(h:P:=by rw[D8];exact D8):P:=h
def C8(h:P:=by rw[h];kernel_rfl):P:=h
def kdW(h:P:=by have:=DK P.out e.symm;omega):P:=h
def kdX(h:P:=by have:=p.own.2.1;grind [World.size_alloc]):P:=h
def kdY(h:P:=by show _=_;unfold Df;simp[d,j,k,l,m,g,u,v]):P:=h
def kdZ(h:P:=by have:=ck.byt;omega):P:=h
def kea(h:P:=by grind [EM,Lib.toList_data]):P:=h
def keb(h:P:=by rw[z];rfl):P:=h
def kec(h:P:=by cases e):P:=h
def ked(h:P:=by rw[Zc B5 B5 p.out];rfl):P:=h
def kee(h:P:=by simpa using w):P:=h
def kef(h:P:=by rw[I1];omega):P:=h
def keg(h:P:=by have b:¬0<=a:=B5;simp[Dt,b]):P:=h
def keh(h:P:=by show s.within<=_;omega):P:=h
def kei(h:P:=by simpa using r):P:=h
def kej(h:P:=by grind [fst]):P:=h
def kek(h:P:=by rfl):P:=h
def kel(h:P:=by grind [List.drop_eq_getElem_cons]):P:=h
def kem(h:P:=by grind [runeCells,encodeRuneZ_one]):P:=h
def ken(h:P:=by simpa using hl):P:=h
def keo(h:P:=by grind [FP,J9,J8]):P:=h
def kep(h:P:=by simp[results,f94,go_sem,N,P,Q]):P:=h
def keq(h:P:=by grind [Hf]):P:=h
def ker(h:P:=by simpa using f):P:=h
def kes(h:P:=by rw[h];rfl):P:=h
def ket(h:P:=by have:=a.size;omega):P:=h
def keu(h:P:=by have:=L.size;omega):P:=h
def kev(h:P:=by simpa using HH.out):P:=h
def kew(h:P:=by show _=_;rw[KA B5];rfl):P:=h
def kex(h:P:=by have:=d.size;omega):P:=h
def kez(h:P:=by have:=b.size;omega):P:=h
def ke0(h:P:=by have:=F.size;omega):P:=h
def ke1(h:P:=by grind [CJ,UInt8.toNat_ofNat']):P:=h
def ke2(h:P:=by have:=f.size;simpa using this):P:=h
def ke3(h:P:=by grind [Ei,encodeRuneZ_length]):P:=h
def ke4(h:P:=by simp[go_sem]):P:=h
def ke5(h:P:=by simpa using l):P:=h
def ke6(h:P:=by rw[Dc];unfold maxLen;omega):P:=h
def ke7(h:P:=by have:=h.own.2.1;simp;omega):P:=h
def ke8(h:P:=by simp;have:=f.own.2.1;omega):P:=h
def ke9(h:P:=by simpa using y):P:=h
def keA(h:P:=by simpa using L):P:=h
def keB(h:P:=by grind [EO]):P:=h
def keC(h:P:=by grind [Cj,World.size_alloc]):P:=h
def keD(h:P:=by rw[l];omega):P:=h
def keE(h:P:=by unfold CP;rfl):P:=h
def keF(h:P:=by rw[a];rfl):P:=h
def keG(h:P:=by rw[e];rfl):P:=h
def keH(h:P:=by grind [Il]):P:=h
def keI(h:P:=by grind [CR]):P:=h
def keJ(h:P:=by grind [CH]):P:=h
def keK(h:P:=by grind [qB]):P:=h
def keL(h:P:=by cases k<;>trivial):P:=h
def keM(h:P:=by rw[Z3];have:=h.fi;omega):P:=h
def keN(h:P:=by simp[I2,L]):P:=h
def keO(h:P:=by simpa using hj):P:=h
def keP(h:P:=by simp[a]):P:=h
def keQ(h:P:=by simpa using hi):P:=h
def keR(h:P:=by simpa using t):P:=h
def keS(h:P:=by simpa using j):P:=h
def keT(h:P:=by simpa using s):P:=h
def keU(h:P:=by simpa using R):P:=h
def keV(h:P:=by simpa using e):P:=h
def keW(h:P:=by rw[c];rfl):P:=h
def keX(h:P:=by rw[f];rfl):P:=h
def keY(h:P:=by rw[D8];omega):P:=h
def keZ(h:P:=by grind [wrap64]):P:=h
def kfa(h:P:=by simp[Maps.has]):P:=h
def kfb(h:P:=by rw[CI];omega):P:=h
def kfc(h:P:=by grind [Dm]):P:=h
def kfd(h:P:=by grind [Dn]):P:=h
def kfe(h:P:=by rw[hF];rfl):P:=h
def kff(h:P:=by grind [EL]):P:=h
def kfg(h:P:=by grind [IQ]):P:=h
def kfh(h:P:=by grind [F1]):P:=h
def kfi(h:P:=by grind [GL]):P:=h
def kfj(h:P:=by rw[<-c];rfl):P:=h
def kfk(h:P:=by simp at c):P:=h
def Cx:=@Below.heap_alloc
def CI:=@World.size_alloc
def Co:=@Nat.le_refl
def D3:=@List.getElem?_eq_getElem
def CK:=@Nat.lt_of_lt_of_le
def Cy:=@Nat.le_trans
def Cq:=@Below.refl
def CY:=@heap_setCell_other
def Dc:=@List.length_append
def CT:=@wpList_load_row
def Db:=@wpList_store_row
def Dk:=@of_decide_eq_true
def CL:=@bodyPost_ret
def Ci:=@if_neg
def CM:=@setRow_heap
def Cn:=@if_pos
def DQ:=@heap_setCell_same
def Dg:=@setRow_other
def Dq:=@frozen_of_row
def KA:=@List.drop_eq_getElem_cons
def GM:=@List.getElem?_append_left
def FE:=@Array.length_toList
def Fa:=@World.ownsRow_nil
def Ef:=@wp_region_held
def IT:=@World.setRow_alloc_new
def F3:=@Bool.and_eq_true
def IU:=@List.getElem?_append_right
def Hm:=@List.getElem?_eq_none
def FT:=@Result.andThen_ok
def G9:=@Below.heap_setCell
def DD:=@info_parts
def Fg:=@Option.some.inj
def FF:=@block_lt_of_cell
def FU:=@List.length_cons
def F4:=@decide_eq_true
def JN:=@World.cell?_of_block
def Fv:=@decide_eq_false
def IV:=@World.cell?_alloc_some
def RQ:=@Lib.toList_data
def En:=@Nat.zero_le
def EA:=@wpAnyH_take
def GN:=@List.all_eq_true
def Fw:=@results_tmp2
def Q5:=@List.take_add_one
def ML:=@List.take_of_length_le
def LQ:=@Array.getElem?_eq_some_iff
def Hn:=@List.mem_range
def Ga:=@Sem.run_pure
def II:=@DataW.trod_int
def KB:=@World.grownBy_alloc
def MM:=@Array.getElem?_append_right
def GO:=@List.map_cons
def Le:=@List.mem_cons_of_mem
def JO:=@wpList_append_own
def Gw:=@Nat.zero_add
def IJ:=@cell_of_row
def NM:=@List.getElem?_eq_some_iff
def Q6:=@List.getElem_of_mem
def If:=@List.mem_cons
def Jd:=@run_loadVar_row
def Je:=@List.length_nil
def LR:=@List.mem_cons_self
def Ig:=@Sem.run_bind
def Yp:=@List.take_append_drop
def MN:=@beq_eq_false_iff_ne
def JP:=@List.map_append
def KC:=@List.size_toArray
def KD:=@List.append_assoc
def Yq:=@List.take_succ_eq_append_getElem
def KE:=@results_cell_row
def IW:=@wp_store_row
def KG:=@List.nil_append
def Lf:=@List.cons_append
def Q7:=@List.eq_nil_of_length_eq_zero
def OW:=@Int.toNat_of_nonneg
def LS:=@List.getElem?_map
def NN:=@Array.getElem?_toList
def OX:=@Int.eq_ofNat_of_zero_le
def NO:=@BitVec.ofInt_natCast
def NP:=@Nat.pow_le_pow_right
def NQ:=@Array.replicate_succ
def NR:=@Array.replicate_zero
def LT:=@List.not_mem_nil
def LU:=@Nat.mod_eq_of_lt
def LV:=@List.take_length
def Q8:=@Array.toList_setIfInBounds
def OY:=@Option.map_eq_some_iff
def OZ:=@List.drop_eq_nil_of_le
def Q9:=@run_convert_bytes_back
def NS:=@List.append_toArray
def LW:=@List.length_map
def K7:=@callsIn_wide
def Qa:=@List.getElem_append_left
def NT:=@BitVec.toNat_ofNat
def Qb:=@List.getElem?_take_of_lt
def RR:=@List.drop_append_of_le_length
def P2:=@Nat.mul_le_mul_right
def RS:=@Array.getElem?_setIfInBounds
def KI:=@List.mem_map
def NU:=@List.push_toArray
def NV:=@Int.toNat_natCast
def P3:=@UInt8.toNat_inj
def NW:=@List.map_toArray
def Lg:=@wpList_plain
def LX:=@Prod.mk.injEq
def Qc:=@Lib.run_eql_slice_nil
def Lh:=@List.map_nil
def P4:=@Nat.and_lt_two_pow
def KJ:=@Prod.mk.inj
def MO:=@run_underlying
def RT:=@Array.getElem?_eq_getElem
def Qd:=@Great.wpList_allocTo
def kK:=@List.replicate_succ'
def Qe:=@Array.toList_append
def P5:=@List.getElem_mem
def NX:=@AllReadyH.cons
def RU:=@List.drop_of_length_le
def Qf:=@Array.ext_getElem?
def MP:=@List.map_map
def Up:=@List.all_eq_false
def Qg:=@DataW.trod_struct
def Qh:=@Maps.string_keyed
def Yr:=@IntKind.wrap_i64
def Ys:=@List.map_congr_left
def NY:=@Nat.le_of_eq
def kL:=@Array.setIfInBounds_comm
def Uq:=@Nat.lt_succ_iff_lt_or_eq
def Ur:=@List.idxOf_lt_length_iff
def Qi:=@List.mem_append
def Yt:=@UInt8.toNat_ofNat'
def Yu:=@World.ownsMap_made
def Qj:=@List.append_nil
def kck:=@ByteArray.data_extract
def Yv:=@List.replicate_append_replicate
def Us:=@Nat.le_succ_of_le
def Qk:=@run_append_own
def Yw:=@Nat.and_two_pow_sub_one_eq_mod
def Ut:=@Nat.le_of_ble_eq_true
def Yx:=@List.set_append_right
def Uu:=@List.length_replicate
def RV:=@Array.all_append
def Uv:=@List.mem_of_getElem?
def kcu:=@Array.toList_extract
def Uw:=@List.reverse_reverse
def P6:=@Int.le_refl
def RW:=@List.all_append
def Ux:=@List.reverse_append
def Yy:=@Int.tmod_eq_emod_of_nonneg
def Yz:=@Array.getElem?_append_left
def Uy:=@Nat.eq_zero_or_pos
def LY:=@or_false
def kc3:=@Maps.has_put_other
def Ql:=@Nat.sub_self
def Uz:=@Option.isSome_none
def RX:=@List.take_zero
def kM:=@List.drop_drop
def YA:=@Classical.byContradiction
def kc9:=@World.cell?_setCell_same'
def YB:=@Array.size_setIfInBounds
def P7:=@Array.ext'
def YC:=@Option.isSome_iff_exists
def UA:=@World.cells?_some
def UB:=@DataW.trod_string
def UC:=@setCell_eq_setRow
def UD:=@List.ext_getElem?
def UE:=@Bool.not_eq_true'
def UF:=@Maps.has_put_same
def P8:=@Calls.mono
def NZ:=@And.intro
def UG:=@decide_eq_true_eq
def P9:=@wpAnyH_all
def UH:=@List.flatMap_cons
def UI:=@run_sliceAt_slice
def RY:=@AllReadyH.nil
def RZ:=@wp_region_any
def Qm:=@Nat.le_succ
def S0:=@List.sum_cons
def UJ:=@Nat.lt_succ_self
def kN:=@List.reverse_nil
def YD:=@Array.getElem?_eq_none
def S1:=@wpAnyH_ready
def YE:=@List.getElem?_toArray
def YF:=@run_neq_slice_nil_any
def kO:=@Int.emod_nonneg
def S2:=@Nat.zero_mul
def YG:=@World.var?_cell
def YH:=@run_append_owned_none
def UK:=@Bool.or_eq_true
def UL:=@List.foldl_cons
def UM:=@List.sum_append
def UN:=@List.range_succ
def YI:=@Nat.pow_lt_pow_right
def kdi:=@Maps.atKey_put_other
def YJ:=@Array.toArray_toList
def YK:=@List.mem_iff_getElem
def UO:=@List.drop_left
def KK:=@Or.inr
def UP:=@run_sliceBound
def S3:=@Nat.mul_one
def kP:=@List.length_pos_iff
def YL:=@Maps.atKey_put_same
def YM:=@Array.getElem?_push
def UQ:=@AllReady.cons
def UR:=@Bool.true_and
def YN:=@run_loadCells_list
def YO:=@List.getElem?_drop
def kQ:=@Nat.add_sub_cancel
def US:=@plainElem_int
def YP:=@Lib.extract_to_end
def YQ:=@Option.toList_some
def YR:=@Option.isSome_some
def kd1:=@UInt8.ofNat_toNat
def YS:=@List.flatten_cons
def YT:=@Nat.or_lt_two_pow
def YU:=@Maps.Keyed.of_law
def YV:=@run_append_own_at
def YW:=@wp_scope_straight
def UT:=@Nat.pow_succ
def UU:=@Nat.mul_comm
def YX:=@List.any_eq_true
def YY:=@List.mem_flatMap
def YZ:=@Option.bind_some
def kdF:=@Nat.shiftLeft_eq
def Z0:=@BitVec.toNat_and
def Z1:=@forall_eq_or_imp
def kR:=@Lib.extract_data
def Z2:=@List.mem_reverse
def Z3:=@List.length_take
def Z4:=@Nat.le_add_right
def Z5:=@List.flatMap_def
def UV:=@unitElem_mk
def UW:=@leaves_cons
def S4:=@wpIn_wide
def UX:=@Nat.mod_lt
def UY:=@wpAny_done
def UZ:=@beq_iff_eq
def Pa:=@Or.inl
end
abbrev A6(W:Ap)(b o:AH)(v:Aq):Prop:=AC W ⟨b,o,Ao⟩=An v
abbrev A7(W:Ap)(g:AH)(c:Array Aq)(t:AN):Prop:=W.heap[g]?=An (Aj c t)
abbrev A8(b:AH):Aq:=Ad (An ⟨b,0,Ao⟩)
abbrev A9(b o:AH):Aq:=Ad (An ⟨b,o,Ao⟩)
abbrev Aa(b:AH):Option Addr:=An ⟨b,0,Ao⟩
abbrev A0(W V:Ap):Prop:=Below (_root_.Array.size (Go.World.heap W)) W V
abbrev A1:=AJ AU
abbrev A2:=Go.DataW Unit
abbrev A3:=Array Aq
abbrev A4:=Option Addr
abbrev A5(a:Type):=AS (AI×AI) (a×AH)
theorem C9{p:Prop}(h:p):Go.RowKit.Hid p:=h
def G:=@C9
theorem Cj(w:X){o:Obj}:(Az w o).heap[K (U w)]?=H o:=by show(w.heap.push o)[K (U w)]?=_;simp
theorem Cb{cs:A3}(a:w.heap[g]?=H (M cs t fr))(j:I):AC w ⟨g,j,Ao⟩=cs[j]?:=IJ w g j cs t fr a
theorem Cl{o:Obj}:A0 w (Az w o):=(Cq _ _).alloc (Co _) _
theorem CO:Below n w w:=Cq _ _
theorem Cc{α:Type}{a:Array α}{x:α}(h:a[i]?=H x):i<a.size:=(LQ.1 h).1
theorem Dh{α:Type}{a:AJ α}{x:α}(h:a[i]?=H x):i<O a:=(NM.1 h).1
theorem sx{cs:A3}{y:Option Obj}(h:j≠g)(e:w.heap[j]?=y):(AD w g cs).heap[j]?=y:=(Dg _ _ _ _ h).trans e
theorem Gb{α β γ:Type}{p:α->β->γ->Prop}:∀a b c,p a b c->p a b c:=λ_ _ _ h=>h
theorem CA{α:Sort _}(a:α):∃x,D (a=x):=⟨a,show a=a from rfl⟩
theorem Dx{α:Sort _}(a:α):∃x,a=x:=⟨a,rfl⟩
theorem IX{α:Sort _}(a:α):∃x,x=a:=⟨a,rfl⟩
theorem Gx(h:∀V,w=V->wpList P ops Q rest a V):wpList P ops Q rest a w:=h w rfl
theorem Z6(b:S w)(h:∀V,D (S V)->wpList P ops Q rest a V):wpList P ops Q rest a w:=h w b
theorem Dl{id:I}(b:S {w with drawn:=w.drawn+1})(c:P.follows .mixedOrders=AP)(h:S {w with drawn:=w.drawn+1}->wpAnyH P .any ops Q S ops.size (Array.replicate ops.size AQ) a {w with drawn:=w.drawn+1}):(Code.region id ops AP).wp P Q a w:=Ef c (h b)
theorem EG(i:I)(hi:ops[i]?=H o)(c:Region.ready md ops listed=[i])(h:(∀b:Act->X->Prop,(∀a w,wpAny P md ops Q fuel (Ay listed i AP) a w->b a w)->if Region.wanted o (yielded ops a.tmps)=AP then Oper.wp P o a w b Q else b (a.put o.dst AO) w)):wpAny P md ops Q (fuel+1) listed a w:=wpAny_ready c Ba (UQ hi h AllReady.nil)
theorem KL(i j:I)(hi:ops[i]?=H o)(c:ops[j]?=H p)(d:Region.ready md ops listed=[i,j])(h:(∀b:Act->X->Prop,(∀a w,wpAny P md ops Q fuel (Ay listed i AP) a w->b a w)->if Region.wanted o (yielded ops a.tmps)=AP then Oper.wp P o a w b Q else b (a.put o.dst AO) w))(k:(∀b:Act->X->Prop,(∀a w,wpAny P md ops Q fuel (Ay listed j AP) a w->b a w)->if Region.wanted p (yielded ops a.tmps)=AP then Oper.wp P p a w b Q else b (a.put p.dst AO) w)):wpAny P md ops Q (fuel+1) listed a w:=wpAny_ready d Ba (UQ hi h (UQ c k AllReady.nil))
theorem kS(hi:ops[i]?=H o)(c:Region.ready md ops listed=[i])(h:(∀b:Act->X->Prop,Shut (∀a w,S w->(S w->wpAnyH P md ops Q S fuel (Ay listed i AP) a w)->b a w)->if Region.wanted o (yielded ops a.tmps)=AP then Oper.wp P o a w b Q else b (a.put o.dst AO) w)):wpAnyH P md ops Q S (fuel+1) listed a w:=S1 c Ba (NX hi h RY)
theorem kT(hi:ops[i]?=H o)(c:ops[j]?=H p)(d:Region.ready md ops listed=[i,j])(h:(∀b:Act->X->Prop,Shut (∀a w,S w->(S w->wpAnyH P md ops Q S fuel (Ay listed i AP) a w)->b a w)->if Region.wanted o (yielded ops a.tmps)=AP then Oper.wp P o a w b Q else b (a.put o.dst AO) w))(k:(∀b:Act->X->Prop,Shut (∀a w,S w->(S w->wpAnyH P md ops Q S fuel (Ay listed j AP) a w)->b a w)->if Region.wanted p (yielded ops a.tmps)=AP then Oper.wp P p a w b Q else b (a.put p.dst AO) w)):wpAnyH P md ops Q S (fuel+1) listed a w:=S1 d Ba (NX hi h (NX c k RY))
theorem Ih{v:Aq}(dst:Option Tmp)(hi:ops[i]?=H oi)(j:Region.noSelect ops=AP)(f:Region.free md ops listed i=AP)(g:(Region.ready md ops listed).contains i=AP)(b:∀c a w,Q (.panic c) (a.put dst v) w->Q (.panic c) a w)(e:oi.dst=dst)(hy:YieldsIf P ops S oi v a)(d:S w)(h:wpAnyH P md ops Q S fuel (Ay listed i AP) (a.put dst v) w):wpAnyH P md ops Q S (fuel+1) listed a w:=by subst e;exact EA hi j f g b hy d h
theorem Ca(i dst:I)(v:Aq)(l:S w)(h:wpAnyH P md ops Q S fuel (Ay listed i AP) (a.put (H dst) v) w)(m:(Region.noSelect ops&&Region.free md ops listed i&&(Region.ready md ops listed).contains i,ops[i]?.map λo=>(o.dst,Region.wanted o (yielded ops a.tmps),λb=>(execOp a.eval o).run P b))=(AP,H (H dst,AP,λb=>.ok (.value v) b)):=by kernel_rfl)(k:∀c a w,Q (.panic c) (a.put (H dst) v) w->Q (.panic c) a w:=by exact λ_ _ _ h=>h):wpAnyH P md ops Q S (fuel+1) listed a w:=by obtain⟨d,g⟩:=KJ m;obtain⟨o,n,e⟩:=OY.1 g;obtain⟨e,f⟩:=KJ e;obtain⟨f,j⟩:=KJ f;simp only[F3]at d;exact Ih _ n d.1.1 d.1.2 d.2 k e (.inl ⟨f,λb _=>congrFun j b⟩) l h
theorem Cf(i dst:I)(v:Aq)(hi:ops[i]?=H oi)(hy:∀d,S d->(execOp a.eval oi).run P d=.ok (.value v) d)(f:S w)(h:wpAnyH P md ops Q S fuel (Ay listed i AP) (a.put (H dst) v) w)(b:(Region.noSelect ops&&Region.free md ops listed i&&(Region.ready md ops listed).contains i&&oi.dst==H dst&&Region.wanted oi (yielded ops a.tmps))=AP:=by kernel_rfl)(e:∀c a w,Q (.panic c) (a.put (H dst) v) w->Q (.panic c) a w:=by exact λ_ _ _ h=>h):wpAnyH P md ops Q S (fuel+1) listed a w:=by simp only[F3]at b;exact Ih _ hi b.1.1.1.1 b.1.1.1.2 b.1.1.2 e BU (.inl ⟨b.2,hy⟩) f h
theorem CG(h:Q .normal a w)(b:Region.ready md ops listed=[]:=by kernel_rfl):wpAnyH P md ops Q S fuel listed a w:=wpAnyH_done b h fuel
theorem IY(i:I)(v:Aq)(hi:ops[i]?=H oi)(hy:∀b,S b->(execOp a.eval oi).run P b=.ok (.value v) b)(e:S w)(h:wpAnyH P md ops Q S fuel (Ay listed i AP) (a.put (H dst) v) w)(_hd:oi.dst=H dst:=by rfl)(f:(Region.noSelect ops&&Region.free md ops listed i&&(Region.ready md ops listed).contains i&&oi.dst==H dst&&Region.wanted oi (yielded ops a.tmps))=AP:=by kernel_rfl)(d:∀c a w,Q (.panic c) (a.put (H dst) v) w->Q (.panic c) a w:=by exact λ_ _ _ h=>h):wpAnyH P md ops Q S (fuel+1) listed a w:=Cf i dst v hi hy e h f d
theorem MQ(i:I)(v:Aq)(e:S w)(h:wpAnyH P md ops Q S fuel (Ay listed i AP) (a.put (H dst) v) w)(_hi:ops[i]?=H oi:=by rfl)(_hd:oi.dst=H dst:=by rfl)(f:(Region.noSelect ops&&Region.free md ops listed i&&(Region.ready md ops listed).contains i,ops[i]?.map λo=>(o.dst,Region.wanted o (yielded ops a.tmps),λb=>(execOp a.eval o).run P b))=(AP,H (H dst,AP,λb=>.ok (.value v) b)):=by kernel_rfl)(d:∀c a w,Q (.panic c) (a.put (H dst) v) w->Q (.panic c) a w:=by exact λ_ _ _ h=>h):wpAnyH P md ops Q S (fuel+1) listed a w:=Ca i dst v e h f d
theorem CC(i:I)(h:(∀b:Act->X->Prop,Shut (∀a w,S w->(S w->wpAnyH P md ops Q S fuel (Ay listed i AP) a w)->b a w)->if Region.wanted o (yielded ops a.tmps)=AP then Oper.wp P o a w b Q else b (a.put o.dst AO) w))(hi:ops[i]?=H o:=by rfl)(c:Region.ready md ops listed=[i]:=by kernel_rfl):wpAnyH P md ops Q S (fuel+1) listed a w:=kS hi c h
theorem GP(i j:I)(h:(∀b:Act->X->Prop,Shut (∀a w,S w->(S w->wpAnyH P md ops Q S fuel (Ay listed i AP) a w)->b a w)->if Region.wanted o (yielded ops a.tmps)=AP then Oper.wp P o a w b Q else b (a.put o.dst AO) w))(k:(∀b:Act->X->Prop,Shut (∀a w,S w->(S w->wpAnyH P md ops Q S fuel (Ay listed j AP) a w)->b a w)->if Region.wanted p (yielded ops a.tmps)=AP then Oper.wp P p a w b Q else b (a.put p.dst AO) w))(hi:ops[i]?=H o:=by rfl)(c:ops[j]?=H p:=by rfl)(d:Region.ready md ops listed=[i,j]:=by kernel_rfl):wpAnyH P md ops Q S (fuel+1) listed a w:=kT hi c d h k
theorem D7(v:J)(h:¬(c.toNat:J)=v):((c.toNat:J)==v)=AQ:=Bw
theorem EU{P:Program}{ops:Array Oper}{rest:AJ Oper}{o:Oper}{a:Act}{w:X}{Q:Exit->Act->X->Prop}{ty:AN}{x:Operand}(i:o.op=.load ty x)(f:Region.wanted o (yielded ops a.tmps)=AP){g:I}(hx:a.eval x=A8 g){t:AN}{cs:A3}{fr:I×I}{d:TypeDesc}(e:w.heap[g]?=H (M cs t fr))(j:P.underlying ty=H d)(c:(match d with|.struct _|.array _ _=>AP|_=>AQ)=AP)(hi:(P.info? ty).map (·.size)=H cs.size)(h:wpList P ops Q rest (a.put o.dst (.agg cs)) w):wpList P ops Q (o::rest) a w :=
 wpList_step λk b=>by rw[Cn f];exact wp_load_row ty x i g hx t cs fr d e j c hi (b _ _ h)
theorem IZ(e:o.guard=Ao){parts:Array (I×Operand)}(f:o.op=.build t parts)(b:o.dst=d){cells:A3}{l:AJ (I×Aq)}(hl:(parts.map λ(i,x)=>(i,a.eval x)).toList=l)(c:P.built t l=H cells)(h:wpList P ops Q rest (a.put d (.agg cells)) w):wpList P ops Q (o::rest) a w :=
 wpList_buildTo e t parts f d b cells (by rw[hl];exact c) h
structure MR(arr:A3)(n:Nat)(m:Nat->Nat->Bool):Prop where
 size:arr.size=37
 count:arr[0]?=some (.int .i64 n)
 at_:∀i j,i<6->j<6->arr[1+i*6+j]?=some (.bool (m i j))
def Di(n:AH)(m:AH->AH->AK):A3:=_root_.List.toArray (Ab .i64 n::(List.range 36).map λk=>Ah (m (k/6) (k%6)))
theorem D8:(Di n m).size=37:=by simp[Di]
theorem Ii(n:I)(m:I->I->AK):MR (Di n m) n m:=by refine⟨D8,rfl,λi j d e=>?_⟩;have a:1+i*6+j=(i*6+j)+1:=E;rw[a];simp only[Di,YE,List.getElem?_cons_succ,LS];rw[List.getElem?_range E];simp only[Option.map_some];have b:(i*6+j)/6=i:=E;have c:(i*6+j)%6=j:=E;rw[b,c]
def upd(m:AH->AH->AK)(i j:AH)(b:AK):AH->AH->AK:=λx y=>if x=i/\y=j then b else m x y
theorem Z7(m:I->I->AK){b:AK}(hi:i<6)(d:j<6):Ay (Di n m) (1+i*6+j) (Ah b)=Di n (upd m i j b):=by
 apply Qf;intro k;rw[RS];by_cases a:1+i*6+j=k
 .subst a;rw[Cn rfl,(Ii n _).at_ i j hi d,Cn keY];simp[upd]
 rw[Ci a];obtain _|q:=k
 .rw[(Ii n m).count,(Ii n _).count]
 by_cases e:q<36
 .have c:q+1=1+(q/6)*6+q%6:=E;rw[c,(Ii n m).at_ _ _ E E,(Ii n _).at_ _ _ E E];have:¬(q/6=i/\q%6=j):=E;simp[upd,this]
 rw[YD keY,YD keY]
theorem GQ:(Di n m).all (·.oneCell')=AP:=by rw[Array.all_eq_true_iff_forall_mem];intro x a;simp only[Di,List.mem_toArray,If,KI]at a;rcases a with rfl|⟨k,_,rfl⟩<;>rfl
def CN:A3:=Di 0 λ_ _=>AQ
theorem kU{ρ:Operand->Aq}(a:o.op=.alloc 123):(execOp ρ o).run As w=.ok (.value (A8 (K (U w)))) (Az w (M CN 123)):=BG
theorem K8(e:o.guard=Ao)(f:o.op=.alloc 123)(c:o.dst=d)(N:I)(b:K (U w)=N)(h:wpList As ops Q rest (a.put d (A8 N)) (Az w (M CN 123))):wpList As ops Q (o::rest) a w:=by subst b;exact Qd e d c _ _ (kU f) h
theorem Z8(n:I):prog.built 123 [(0,C Y n)]=H (Di n λ_ _=>AQ):=B6
theorem O0:prog.built 123 []=H CN:=B6
def EO(m:AH->AH->AK)(a b c:AH):AK:=m a c&&m b c
theorem DG{arr:A3}(h:arr.size=37):(prog.info? 123).map (·.size)=H arr.size:=C8
theorem Z9{arr:A3}(H:MR arr n m){a c:I}(f:a<6)(hb:b<6)(g:c<6)(w:X):Ar As 194 #[.agg arr,C Y c,C Y a,C Y b] w λe d=>e=Ak (Ah (EO m a b c))/\A0 w d:=by
 have h:=H.at_;go_enter func194,ntmps194;go_wp2
 all_goals go_ret
 all_goals exact⟨by simp[EO, *],Cl⟩
def Dt(n:AH)(a:AI):AK:=AR (0<=a/\a<n)
theorem Pb{arr:A3}(h:arr[0]?=H (C Y n))(a:J)(w:X):Ar As 67 #[.agg arr,C Y a] w λe c=>e=Ak (Ah (Dt n a))/\A0 w c:=by
 go_enter func67,ntmps67;go_wp2
 all_goals go_ret
 .exact⟨by simp[Dt, *],Cl⟩
 exact⟨keg,Cl⟩
def Gc(n:AH)(m:AH->AH->AK)(a b j:AH):AK:=EO m a b j&&(List.range n).all λk=>!EO m a b k||m j k
def Fh(n:AH)(m:AH->AH->AK)(a b:AH):AK:=(List.range n).any λj=>Gc n m a b j
theorem Za{a:I}(d:k<n)(h:EO m a b k=AP)(c:m j k=AQ):Gc n m a b j=AQ:=by unfold Gc;rw[Bool.and_eq_false_iff];right;rw[Up];exact⟨k,Hn.2 d,by simp[h,c]⟩
theorem V8{a:I}(c:EO m a b j=AP)(h:∀k,k<n->EO m a b k=AP->m j k=AP):Gc n m a b j=AP:=by unfold Gc;rw[c,UR,GN];intro k d;have:=h k (Hn.1 d);cases e:EO m a b k<;>simp_all
theorem Vb{a:I}(c:j<n)(h:Gc n m a b j=AP):Fh n m a b=AP:=by unfold Fh;rw[YX];exact⟨j,Hn.2 c,h⟩
theorem Zb{a:I}(h:∀j,j<n->Gc n m a b j=AQ):Fh n m a b=AQ:=by unfold Fh;rw[List.any_eq_false];intro j c;simp[h j (Hn.1 c)]
theorem Vc{arr:A3}(H:MR arr n m)(hn:n<=6){a:I}(ha:a<6)(hb:b<6)(w:X):Ar As 172 #[.agg arr,C Y a,C Y b] w λe w'=>e=Ak (Ah (Fh n m a b))/\A0 w w':=by
 have ac:=H.at_;have h0:=H.count;have hi:=DG H.size;have h:=G H;have s:=G hi;have ae:=(Cq _ w).alloc (Co _) (M arr 123);have ag:=Cj w (o:=(M arr 123));have ai:K (U (Az w (M arr 123)))=K (U w)+1:=Ba;have W:=G ae;have y:=G ag;have HZ:=G ai;go_enter func172,ntmps172;go_wp2;go_step3;go_wp2;go_step3;go_wp2;generalize hW:Az w (M arr 123)=W1 at *
 go_loopg[11,7] n (λg x aj wr=>∃k:I,D (k+g=n)/\x=C Y k/\Below (K (U w)+1) W1 wr/\D (∀j,j<k->Gc n m a b j=AQ))
 case atStart=>exact⟨0,Bg,rfl,Cq _ _,λj p=>E⟩
 case round =>
  obtain⟨k,v,rfl,u,N⟩:=hrel;have F:=(u.block _ E).trans y;have V:=(Cb F 0).trans h0;have l:=u.size;rw[AE HZ]at l;have f:=G F;obtain _|g:=gk
  .have af:¬(k:J)<n:=AY (AE v);go_wp2;go_ret;exact⟨by rw[Zb (λj p=>N.out j (AY (AE v)))];rfl,W.trans (u.mono E)⟩
  have af:(k:J)<n:=AY (AE v);have aa:k<6:=E;have d:=Z9 h ha hb aa wr;cases i:EO m a b k
  .rw[i]at d;have R:=G i
   go_wp2_with(first
    |(refine CT Z 123 _ Z _ Z _ arr _ _ f underlying123 Z s ?_)
    |(go_at_call 194;apply d.mono;rintro e L ⟨rfl,c⟩))
   go_roundg g
   case measure=>omega
   case rel =>
    refine⟨k+1,AZ (AE v),Bb,u.trans (c.mono l),?_⟩;intro j p;by_cases e:j=k
    .subst e;unfold Gc;rw[AE R];rfl
    exact N j E
  rw[i]at d;have R:=G i
  go_wp2_with(first
   |(refine CT Z 123 _ Z _ Z _ arr _ _ f underlying123 Z s ?_)
   |(go_at_call 194;apply d.mono;rintro e L ⟨rfl,c⟩;have V:=(Cb (((c.block _ E).trans f)) 0).trans h0))
  have ad:=u.trans (c.mono l)
  go_loopg[22,8] n (λg x aj wq=>∃q:I,D (q+g=n)/\x=C Y q/\Below (K (U w)+1) W1 wq/\D (∀j,j<q->EO m a b j=AP->m k j=AP))
  case atStart=>exact⟨0,Bg,rfl,ad,λj p=>E⟩
  case round =>
   obtain⟨q,z,rfl,r,Q⟩:=hrel;have F:=(r.block _ E).trans y;have l:=r.size;rw[AE HZ]at l;have f:=G F;obtain _|g2:=gk
   .have ah:¬(q:J)<n:=AY (AE z);go_wp2;go_ret;exact⟨by rw[Vb E (V8 R (λj p=>Q.out j (AY (AE z))))];rfl,W.trans (r.mono E)⟩
   have ah:(q:J)<n:=AY (AE z);have ab:q<6:=E;have d:=Z9 h ha hb ab wr;cases i:EO m a b q
   .rw[i]at d;have S:=G i
    go_wp2_with(first
     |(refine CT Z 123 _ Z _ Z _ arr _ _ f underlying123 Z s ?_)
     |(go_at_call 194;apply d.mono;rintro e L ⟨rfl,c⟩))
    go_roundg g2
    case measure=>omega
    case rel =>
     refine⟨q+1,AZ (AE z),Bb,r.trans (c.mono l),?_⟩;intro j p t;by_cases e:j=q
     .subst e;rw[AE S]at t;cases t
     exact Q j E t
   rw[i]at d;have S:=G i;have A:=ac k q aa ab;cases B:m k q
   .rw[B]at A;have P:=G B
    go_wp2_with(first
     |(refine CT Z 123 _ Z _ Z _ arr _ _ f underlying123 Z s ?_)
     |(go_at_call 194;apply d.mono;rintro e L ⟨rfl,c⟩;have V:=(Cb (((c.block _ E).trans f)) _).trans A))
    go_roundg g
    case measure=>omega
    case rel =>
     refine⟨k+1,AZ (AE v),Bb,r.trans (c.mono l),?_⟩;intro j p;by_cases e:j=k
     .subst e;exact Za E S P
     exact N j E
   rw[B]at A;have P:=G B
   go_wp2_with(first
    |(refine CT Z 123 _ Z _ Z _ arr _ _ f underlying123 Z s ?_)
    |(go_at_call 194;apply d.mono;rintro e L ⟨rfl,c⟩;have V:=(Cb (((c.block _ E).trans f)) _).trans A))
   go_roundg g2
   case measure=>omega
   case rel =>
    refine⟨q+1,AZ (AE z),Bb,r.trans (c.mono l),?_⟩;intro j p t;by_cases e:j=q
    .subst e;exact P
    exact Q j E t
def KN(m:AH->AH->AK)(a b:AH):AK:=m a b&&m b a
def Ij(n:AH)(m:AH->AH->AK):AK:=(List.range n).any λa=>(List.range a).any λb=>KN m a b
theorem Vd{a:I}(c:a<n)(hb:b<a)(h:KN m a b=AP):Ij n m=AP:=by grind [Ij]
theorem kV(h:∀a b,a<n->b<a->KN m a b=AQ):Ij n m=AQ:=by grind [Ij]
theorem kX{arr:A3}(H:MR arr n m)(P:n<=6):Ar As 136 #[.agg arr] w λe F=>e=Ak (Ah (Ij n m))/\A0 w F:=by
 have i:=G H.at_;have N:=H.count;go_enter func136,ntmps136;go_wp2
 go_loopg[7,3] n (λg x y wr=>∃k:I,D (k+g=n)/\x=C Y k/\Az w (M arr 123)=wr/\D (∀a b,a<k->b<a->KN m a b=AQ))
 case atStart=>exact⟨0,Bg,rfl,rfl,λa b p=>E⟩
 case round =>
  obtain⟨k,h,rfl,rfl,z⟩:=hrel;obtain _|g:=gk
  .have A:¬(k:J)<n:=AY (AE h);go_wp2;go_ret;exact⟨by rw[kV (λa b p f=>z.out a b (AY (AE h)) f)];rfl,Cl⟩
  have A:(k:J)<n:=AY (AE h);have r:k<6:=E;go_wp2
  go_loopg[11,4] k (λg x y wr=>∃q:I,D (q+g=k)/\x=C Y q/\Az w (M arr 123)=wr/\D (∀b,b<q->KN m k b=AQ))
  case atStart=>grind [D]
  case round =>
   obtain⟨q,s,rfl,rfl,L⟩:=hrel;obtain _|j:=gk
   .have B:¬(q:J)<k:=AY (AE s);go_wp2;go_roundg g
    case measure=>omega
    case rel =>
     refine⟨k+1,B9,Bb,Z,λa b p f=>?_⟩;grind [D]
   have B:(q:J)<k:=AY (AE s);have t:q<6:=E;have l:=i.out k q r t;have o:=i.out q k t r;cases c:m k q
   .rw[c]at l;have u:=G c;go_wp2;go_roundg j
    case measure=>omega
    case rel =>
     refine⟨q+1,B9,Bb,Z,λb f=>?_⟩;grind [D,KN]
   rw[c]at l;have u:=G c;cases d:m q k
   .rw[d]at o;have v:=G d;go_wp2;go_roundg j
    case measure=>omega
    case rel =>
     refine⟨q+1,B9,Bb,Z,λb f=>?_⟩;grind [D,KN]
   rw[d]at o;have v:=G d;go_wp2;go_ret;exact⟨by rw[Vd (a:=k) (b:=q) E E (by grind [D,KN])];rfl,Cl⟩
theorem kY{arr:A3}(H:MR arr n m)(x:n<=6){a:I}(u:a<n)(hb:b<n)(w:X):Ar As 68 #[.agg arr,C Y a,C Y b] w λe s=>e=Ak (Ah (m a b))/\A0 w s:=by
 have h:=H.at_ a b E E;have i:=H.count;have g:=G (DG H.size);have l:Dt n a=AP:=by grind [Dt]
 have p:Dt n b=AP:=by grind [Dt]
 go_enter func68,ntmps68;have q:=Cj w (o:=(M arr 123));have c:=G q;have d:=Pb i a (Az w (M arr 123));rw[l]at d
 go_wp2_with(first
  |(refine CT Z 123 _ Z _ Z _ arr _ _ c underlying123 Z g ?_)
  |(refine EU Z Z Z c underlying123 Z g ?_)
  |(go_at_call 67;refine d.mono ?_;clear d;rintro e t ⟨rfl,f⟩;have k:=G ((f.block _ Ba).trans c);have c:=k;have c2:=Pb i b t;rw[p]at c2;have r:=f.size;rw[CI]at r)
  |(go_at_call 67;apply c2.mono;rintro e y ⟨rfl,j⟩;have v:=(Cb ((j.block _ E).trans c) _).trans h))
 go_ret;exact⟨Z,((Cl).trans (f.mono Ba)).trans (j.mono E)⟩
theorem Ve{cs:A3}(h:i≠g):(AD w g cs).heap[i]?=w.heap[i]?:=Dg w g i cs h
theorem Dj{B:I}{a:X}(h:Below B a w)(b:B<=g){cs:A3}:Below B a (AD w g cs) :=
 h.trans ⟨rfl,rfl,rfl,Ba,λk c=>Dg w g k cs E⟩
structure LZ(w W:World)(arr:A3)(n:Nat)(M:Nat->Nat->Bool):Prop where
 below:A0 w W
 box:W.heap[w.heap.size]?=some (.cells arr 123)
 res:W.heap[w.heap.size+1]?=some (.cells CN 123)
 own:W.heap[w.heap.size+1+1]?=some (.cells (Di n M) 123)
theorem kZ(w:X)(arr:A3)(n:I):LZ w ((Az (Az (Az w (M arr 123)) (M CN 123)) (M CN 123)).setRow (K (U w)+1+1) (Di n λ_ _=>AQ)) arr n (λ_ _=>AQ):=by refine⟨Dj (((Cl).alloc Ba _).alloc B7 _) E,?_,?_,?_⟩<;>grind [Ve,Below.heap_alloc,Cj,World.size_alloc,setRow_heap]
theorem LZ.set{arr:A3}{M:I->I->AK}(h:LZ w W arr n M)(hi:i<6)(a:j<6)(b:AK):LZ w (Go.World.setCell W ⟨K (U w)+1+1,1+i*6+j,Ao⟩ (Ah b)) arr n (upd M i j b) :=
 ⟨h.below.setCell B7 _,(CY W _ _ _ B7).trans h.box,(CY W _ _ _ Ba).trans h.res,
  by rw[DQ W _ _ _ _ _ h.own,Z7 M hi a]⟩
theorem LZ.drew{arr:A3}{M:I->I->AK}(h:LZ w W arr n M):LZ w W.drew arr n M:=⟨h.below.drew,h.box,h.res,h.own⟩
def FV(n:AH)(m:AH->AH->AK)(k q:AH):AH->AH->AK:=λi j=>AR (j<n/\(i<k\/(i=k/\j<q)))&&m j i
theorem l5(n:I)(m:I->I->AK):FV n m 0 0=λ_ _=>AQ:=by funext i j;simp[FV]
theorem l6(n:I)(m:I->I->AK)(k q:I)(a:q<n):upd (FV n m k q) k q (m q k)=FV n m k (q+1):=by grind [upd,FV]
theorem l7(n:I)(m:I->I->AK)(k:I):FV n m k n=FV n m (k+1) 0:=by grind [FV]
theorem l8(m:I->I->AK)(hi:i<n)(a:j<n):FV n m n 0 i j=m j i:=by grind [FV]
theorem l9{arr:A3}(H:MR arr n m)(N:n<=6)(w:X):Ar As 171 #[.agg arr] w λe z=>e=Ak (.agg (Di n (FV n m n 0)))/\A0 w z:=by
 have l:=G H.at_;have j:=H.count;have c:=kZ w arr n;have p:D ((Az (Az (Az w (M arr 123)) (M CN 123)) (M CN 123)).heap[K (U w)+1+1]?=An (M CN 123)):=by grind [D,Cj,World.size_alloc]
 have r:D (CN.size=(Di n λ_ _=>AQ).size):=C7;generalize hW:(Az (Az (Az w (M arr 123)) (M CN 123)) (M CN 123)).setRow (K (U w)+1+1) (Di n λ_ _=>AQ)=W at c;have o:=G hW;have t:=(Cb c.box 0).trans j;have A:=G c;go_enter func171,ntmps171
 go_wp2_with(first
  |(refine K8 Z Z Z (K (U w)+1) ?hN ?_;case hN=>(simp only[CI,A0];done))
  |(refine K8 Z Z Z (K (U w)+1+1) ?hN ?_;case hN=>grind [World.size_alloc])
  |(refine IZ Z Z Z ?hl (Z8 n) ?_;case hl=>simp[go_sem])
  |(refine Db Z 123 _ _ Z _ _ Z Z 123 CN p (DG (D8)) r (GQ) ?_;rw[AE o]))
 go_loopg[11,4] n (λg x y wr=>∃k:I,D (k+g=n)/\x=C Y k/\D (LZ w wr arr n (FV n m k 0)))
 case atStart=>grind [l5]
 case round =>
  obtain⟨k,d,rfl,a⟩:=hrel;have t:=(Cb a.box 0).trans j;obtain _|g:=gk
  .have u:¬(k:J)<n:=AY (AE d);have e:k=n:=AY (AE d);subst e
   go_wp2_with(first
    |(refine CT Z 123 _ Z _ Z _ _ _ _ a.own underlying123 Z (DG (D8)) ?_)
    |(refine Db Z 123 _ _ Z _ _ Z Z 123 CN a.res (DG (D8)) C7 (GQ) ?_))
   refine CL (KE results171 _ _ _ _ _ _ _ Z (CM _ _ CN _ _ _ a.res) underlying123 Z (DG (D8))) Z ⟨Z,Dj a.below E⟩
  have u:(k:J)<n:=AY (AE d);have f:k<6:=E;go_wp2
  go_loopg[16,5] n (λg x y wr=>∃q:I,D (q+g=n)/\x=C Y q/\D (LZ w wr arr n (FV n m k q)))
  case atStart=>grind
  case round =>
   obtain⟨q,h,rfl,b⟩:=hrel;obtain _|s:=gk
   .have v:¬(q:J)<n:=AY (AE h);go_wp2;go_roundg g
    case measure=>omega
    case rel =>
     have e:q=n:=AY (AE h);exact⟨k+1,B9,Bb,by grind [l7]⟩
   have v:(q:J)<n:=AY (AE h);have i:q<6:=E;have B:=(Cb b.box _).trans (l q k i f);have F:=(Cb b.own _).trans ((Ii n _).at_ k q f i);have L:=Dq wr _ (1+k*6+q) _ _ b.own;go_wp2
   go_region
   all_goals go_wp2
   go_roundg s
   case measure=>omega
   case rel=>exact⟨q+1,B9,Bb,by have:=(b.set f i (m q k)).drew;grind [l6]⟩
def JQ(n:AH)(m:AH->AH->AK)(a b:AH):AK:=Fh n m a b&&Fh n (λi j=>m j i) a b
def Jf(n:AH)(m:AH->AH->AK):AK:=(List.range n).all λa=>(List.range a).all λb=>JQ n m a b
theorem Zc{a:I}(c:a<n)(hb:b<a)(h:JQ n m a b=AQ):Jf n m=AQ:=by grind [Jf,List.all_eq_false]
theorem lc(h:∀a b,a<n->b<a->JQ n m a b=AP):Jf n m=AP:=by grind [Jf]
theorem ld(h:∀i j,i<n->j<n->m i j=m' i j){a:I}(c:a<n)(hb:b<n)(d:k<n):EO m a b k=EO m' a b k:=keB
theorem lg(h:∀i j,i<n->j<n->m i j=m' i j){a:I}(c:a<n)(hb:b<n)(d:k<n):Gc n m a b k=Gc n m' a b k:=by grind [Gc,ld]
theorem Zd(h:∀i j,i<n->j<n->m i j=m' i j){a:I}(c:a<n)(hb:b<n):Fh n m a b=Fh n m' a b:=by grind [Fh,lg]
theorem lh{arr:A3}(H:MR arr n m)(t:n<=6):Ar As 137 #[.agg arr] w λe w'=>e=Ak (Ah (Jf n m))/\A0 w w':=by
 have h0:=H.count;have HO:=G H;have r:=G (DG H.size);have F:=G (Cj w (o:=(M arr 123)));have HB:=G ((Cq _ w).alloc (Co _) (M arr 123));have cT:=l9 HO t (Az w (M arr 123));go_enter func137,ntmps137
 go_wp2_with(first
  |(refine CT Z 123 _ Z _ Z _ arr _ _ F underlying123 Z r ?_)
  |(go_at_call 171;apply cT.mono;rintro e c ⟨rfl,s⟩;have u:=s.size;rw[CI]at u)
  |(refine K8 Z Z Z (K (U c)) Z ?_)
  |(refine Db Z 123 _ _ Z _ _ Z Z 123 CN (Cj c) (DG (D8)) C7 (GQ) ?_;rw[IT];have ag:(Az c (M (Di n (FV n m n 0)) 123)).cell? _=An _:=(Cb ((Cx _ _ _ E).trans ((s.block _ Ba).trans F)) 0).trans h0))
 have HX:D ((Az c (M (Di n (FV n m n 0)) 123)).heap[K (U w)]?=An _):=(Cx _ _ _ E).trans ((s.block _ Ba).trans F);have HY:D ((Az c _).heap[K (U c)]?=An (M (Di n (FV n m n 0)) 123)):=Cj _;have HZ:D (K (U (Az c (M (Di n (FV n m n 0)) 123)))=K (U c)+1):=BL;have z:D (Below _ w (Az c (M (Di n (FV n m n 0)) 123))):=(HB.trans (s.mono Ba)).alloc E _;generalize Az c (M (Di n (FV n m n 0)) 123)=W3 at *;have l:D (K (U w)<K (U c)):=by show _<_;omega
 generalize K (U c)=N3 at *
 go_loopg[10,4] n (λg x ae wr=>∃k:I,D (k+g=n)/\x=C Y k/\Below (N3+1) W3 wr/\D (∀a b,a<k->b<a->JQ n m a b=AP))
 case atStart=>grind [D,Below.refl]
 case round =>
  obtain⟨k,V,rfl,d,HL⟩:=hrel;obtain _|g:=gk
  .have ab:¬(k:J)<n:=AY (AE V);go_wp2;go_ret;exact⟨by rw[lc (λa b ha S=>HL.out a b (AY (AE V)) S)];rfl,z.trans (d.mono (AY (AE l)))⟩
  have ab:(k:J)<n:=AY (AE V);have W:k<6:=E;go_wp2
  go_loopg[14,5] k (λg x ae wr=>∃q:I,D (q+g=k)/\x=C Y q/\Below (N3+1) W3 wr/\D (∀b,b<q->JQ n m k b=AP))
  case atStart=>grind [D]
  case round =>
   obtain⟨q,hq,rfl,d,HQ⟩:=hrel;obtain _|g2:=gk
   .have ac:¬(q:J)<k:=AY (AE hq);go_wp2;go_roundg g
    case measure=>omega
    case rel =>
     refine⟨k+1,B9,Bb,d,λa b ha S=>?_⟩;grind [D]
   have ac:(q:J)<k:=AY (AE hq);have y:q<6:=E;have L:=G ((d.block _ (AY (AE l))).trans HX);have i:=G ((d.block _ E).trans HY);have u:=d.size;rw[AE HZ]at u;have h:=Vc HO t W y wr;have A:D (Fh n (FV n m n 0) k q=Fh n _ k q):=Zd (λj aa hi hj=>l8 m hi hj) E E;cases P:Fh n m k q
   .rw[P]at h;have p:D (JQ n m k q=AQ):=by grind [JQ]
    go_wp2_with(first
     |(refine CT Z 123 _ Z _ Z _ arr _ _ L underlying123 Z r ?_)
     |(go_at_call 172;apply h.mono;rintro e v ⟨rfl,f⟩))
    go_ret;exact⟨ked,z.trans ((d.mono (AY (AE l))).trans (f.mono (AY (AE l))))⟩
   rw[P]at h;have af:=G P;cases Q:Fh n (λj aa=>m aa j) k q
   .have p:D (JQ n m k q=AQ):=by grind [JQ]
    have B:=G (A.trans Q)
    go_wp2_with(first
     |(refine CT Z 123 _ Z _ Z _ arr _ _ L underlying123 Z r ?_)
     |(go_at_call 172;refine h.mono ?_;clear h;rintro e v ⟨rfl,f⟩;have c2:=Vc (Ii n (FV n m n 0)) t W y v;rw[AE B]at c2;have N:=G ((f.block _ E).trans i))
     |(refine EU Z Z Z N underlying123 Z (DG (D8)) ?_)
     |(go_at_call 172;apply c2.mono;clear c2;rintro e w5 ⟨rfl,R⟩))
    go_ret;have ad:=f.size;exact⟨ked,z.trans ((d.mono (AY (AE l))).trans ((f.mono (AY (AE l))).trans (R.mono (AY (AE l)))))⟩
   have p:D (JQ n m k q=AP):=by grind [JQ]
   have B:=G (A.trans Q);clear Q A
   go_wp2_with(first
    |(refine CT Z 123 _ Z _ Z _ arr _ _ L underlying123 Z r ?_)
    |(go_at_call 172;refine h.mono ?_;clear h;rintro e v ⟨rfl,f⟩;have c2:=Vc (Ii n (FV n m n 0)) t W y v;rw[AE B]at c2;have N:=G ((f.block _ E).trans i))
    |(refine EU Z Z Z N underlying123 Z (DG (D8)) ?_)
    |(go_at_call 172;apply c2.mono;clear c2;rintro e w5 ⟨rfl,R⟩))
   have ad:=f.size;go_roundg g2
   case measure=>omega
   case rel =>
    refine⟨q+1,B9,Bb,d.trans ((f.mono u).trans (R.mono E)),λb S=>?_⟩;grind [D]
def fst(n k:AH)(m:AH->AH->AK)(l h:AH):AH->AH->AK:=λi j=>m i j||(AR (j<n/\(i<l\/(i=l/\j<h)))&&(m i k&&m k j))
def GR(n:AH):AH->(AH->AH->AK)->AH->AH->AK
 |0,m=>m
 |k+1,m=>fst n k (GR n k m) n 0
theorem lj(n k:I)(m:I->I->AK):fst n k m 0 0=m:=by funext i j;simp[fst]
theorem lp(n k:I)(m:I->I->AK)(l:I):fst n k m l n=fst n k m (l+1) 0:=kej
theorem Ze(m:I->I->AK)(h:I):fst n k m l h i k=m i k:=kej
theorem Zf(m:I->I->AK)(h:I):fst n k m l h k j=m k j:=kej
theorem lu(n k:I)(m:I->I->AK)(l h:I)(c:h<n)(a:m l k=AP)(b:m k h=AP):upd (fst n k m l h) l h AP=fst n k m l (h+1):=by grind [upd,fst]
theorem Zg(n k:I)(m:I->I->AK)(l h:I)(e:(m l k&&m k h)=AQ):fst n k m l h=fst n k m l (h+1):=kej
structure Eo(w W:World)(b n:Nat)(M:Nat->Nat->Bool):Prop where
 below:Below b w W
 own:W.heap[b]?=some (.cells (Di n M) 123)
theorem Eo.set{M:I->I->AK}(h:Eo w W b n M)(hi:i<6)(a:j<6)(v:AK):Eo w (Go.World.setCell W ⟨b,1+i*6+j,Ao⟩ (Ah v)) b n (upd M i j v) :=
 ⟨h.below.setCell (Co _) _,by rw[DQ W _ _ _ _ _ h.own,Z7 M hi a]⟩
theorem Eo.count{M:I->I->AK}(h:Eo w W b n M):A6 W b 0 (C Y n):=(Cb h.own 0).trans (Ii n M).count
theorem Eo.at_{M:I->I->AK}(h:Eo w W b n M)(hi:i<6)(a:j<6):A6 W b (1+i*6+j) (Ah (M i j)):=(Cb h.own _).trans ((Ii n M).at_ i j hi a)
theorem Eo.frozen{M:I->I->AK}(h:Eo w W b n M)(j:I):W.frozen? ⟨b,j,Ao⟩=AQ:=Dq W b j _ _ h.own
theorem Eo.drew{M:I->I->AK}(h:Eo w W b n M):Eo w W.drew b n M:=⟨h.below.drew,h.own⟩
theorem lw(hn:n<=6)(Q:A7 w b (Di n m) 123):Ar As 170 #[A8 b] w λe R=>e=Ak (Af #[])/\Eo w R b n (GR n n m):=by
 have A:D (Eo w w b n (GR n 0 m)):=⟨Cq _ _,Q⟩
 have s:=A.count;go_enter func170,ntmps170;go_wp2
 go_loopg[9,2] n (λg x y wr=>∃k:I,D (k+g=n)/\x=C Y k/\D (Eo w wr b n (GR n k m)))
 case atStart=>grind [D]
 case round =>
  obtain⟨k,t,rfl,z⟩:=hrel;have s:=z.count;obtain _|g:=gk
  .have P:¬(k:J)<n:=AY (AE t);go_wp2;go_end0;grind [D]
  have P:(k:J)<n:=AY (AE t);have u:k<6:=E;go_wp2
  go_loopg[16,3] n (λg x y wr=>∃l:I,D (l+g=n)/\x=C Y l/\D (Eo w wr b n (fst n k (GR n k m) l 0)))
  case atStart=>grind [D,lj]
  case round =>
   obtain⟨l,p,rfl,r⟩:=hrel;have s:=r.count;obtain _|F:=gk
   .have N:¬(l:J)<n:=AY (AE p);go_wp2;go_roundg g
    case measure=>omega
    case rel =>
     have e:l=n:=AY (AE p);exact⟨k+1,B9,Bb,by have:=AE r;rw[e]at this;exact this⟩
   have N:(l:J)<n:=AY (AE p);have q:l<6:=E;go_wp2
   go_loopg[23,4] n (λg x y wr=>∃h:I,D (h+g=n)/\x=C Y h/\D (Eo w wr b n (fst n k (GR n k m) l h)))
   case atStart=>grind [D]
   case round =>
    obtain⟨h,j,rfl,a⟩:=hrel;obtain _|i:=gk
    .have L:¬(h:J)<n:=AY (AE j);go_wp2;go_roundg F
     case measure=>omega
     case rel =>
      have e:h=n:=AY (AE j);exact⟨l+1,B9,Bb,by grind [lp]⟩
    have L:(h:J)<n:=AY (AE j);have o:h<6:=E;have c:=a.at_ q u;have c2:=a.at_ u o;have B:=a.at_ q o;have W:=a.frozen (1+l*6+h);rw[Ze]at c;rw[Zf]at c2;generalize hM:GR n k m=M at *;cases d:M l k
    .rw[d]at c;have v:D ((M l k&&M k h)=AQ):=by grind [D]
     go_wp2;go_roundg i
     case measure=>omega
     case rel=>exact⟨h+1,B9,Bb,by grind [Zg]⟩
    rw[d]at c;cases f:M k h
    .rw[f]at c2;have v:D ((M l k&&M k h)=AQ):=by grind [D]
     go_wp2;go_roundg i
     case measure=>omega
     case rel=>exact⟨h+1,B9,Bb,by grind [Zg]⟩
    rw[f]at c2;have S:=G d;have V:=G f;generalize hV:fst n k M l h l h=v0 at B;go_wp2;go_roundg i
    case measure=>omega
    case rel=>exact⟨h+1,B9,Bb,by have:=a.set q o AP;grind [lu]⟩
theorem Ik{P:Program}{fn:Func}{p u:Tmp}{ty:AN}(h:fn.results=#[.cell p ty,.tmp u]){tmps:A3}{w:X}{g:I}{t:AN}{cs:A3}{fr:I×I}{d:TypeDesc}(c:tmps.getD p AO=A8 g)(b:w.heap[g]?=H (M cs t fr))(e:P.underlying ty=H d)(a:(match d with|.struct _|.array _ _=>AP|_=>AQ)=AP)(hi:(P.info? ty).map (·.size)=H cs.size)(v:Aq)(f:tmps.getD u AO=v):(results fn tmps).run P w=.ok (Af #[.agg cs,v]) w:=by subst f;rw[results_cell_tmp h,c];simp only[asAddr,Ga,FT,Jd w g t ty cs fr d b e a hi]
structure FG(w:World)(a:A4)(L:List (Int×Int)):Prop where
 at_:∀i (h:i<L.length),∃b off,a=some ⟨b,off,none⟩/\b<w.heap.size/\w.cell? ⟨b,off+i*2,none⟩=some (.int .i64 L[i].1)/\w.cell? ⟨b,off+i*2+1,none⟩=some (.int .i64 L[i].2)
theorem FG.below{a:A4}(h:FG w a L)(hb:A0 w w'):FG w' a L :=
 ⟨λi g=>by obtain⟨b,off,f,c,d,e⟩:=h.at_ i g;exact⟨b,off,f,CK c hb.size,(hb.cell c).trans d,(hb.cell c).trans e⟩⟩
def Gd(n:AH)(e:AI×AI):AK:=Dt n e.1&&Dt n e.2 && !(e.1==e.2)
def Li(k:AH):AH->AH->AK:=λi j=>AR (i=j/\i<k)
theorem lz(k:I):upd (Li k) k k AP=Li (k+1):=by
 funext i j;unfold upd Li;by_cases c:i=k/\j=k
 .obtain⟨rfl,rfl⟩:=c;simp
 rw[Ci c];exact decide_eq_decide.2 E
theorem lB:Li 0=λ_ _=>AQ:=by funext i j;simp[Li]
def K9(m:AH->AH->AK)(e:AI×AI):AH->AH->AK:=upd m e.1.toNat e.2.toNat AP
def JR(n:AH)(L:AJ (AI×AI)):AH->AH->AK:=L.foldl K9 (Li n)
theorem lC(n:I)(L:AJ (J×J))(h:k<O L):JR n (L.take (k+1))=K9 (JR n (L.take k)) L[k]:=by unfold JR;rw[Yq h,List.foldl_append];rfl
def Fb(n:AH)(L:AJ (AI×AI)):AK:=L.all (Gd n)
theorem Pc(h:k<O L)(e:Gd n L[k]=AQ):Fb n L=AQ:=by unfold Fb;rw[Up];exact⟨_,P5 h,by rw[e];decide⟩
theorem Zh(h:∀k (h:k<O L),Gd n L[k]=AP):Fb n L=AP:=by unfold Fb;rw[GN];intro x b;obtain⟨k,a,rfl⟩:=Q6 b;exact h k a
def EV(c:AI)(L:AJ (AI×AI)):AK:=AR (1<=c/\c<=6/\At L<=30)&&Fb c.toNat L
def DY(n:AH)(L:AJ (AI×AI)):AH->AH->AK:=GR n n (JR n L)
def Qn(n:AH)(L:AJ (AI×AI)):Aq:=if Fb n L then Af #[.agg (Di n (DY n L)),Ah AP]else Af #[.agg CN,Ah AQ]
theorem S5(h:Fb n L=AQ):Qn n L=Af #[.agg CN,Ah AQ]:=by unfold Qn;rw[h];rfl
theorem Zi(h:Fb n L=AP):Qn n L=Af #[.agg (Di n (DY n L)),Ah AP]:=by unfold Qn;rw[h];rfl
theorem Eo.trans{M:I->I->AK}(h:Eo w W b n M)(k:A0 W W'):Eo w W' b n M:=by have a:=Cc h.own;exact⟨h.below.trans (k.mono E),(k.block b a).trans h.own⟩
theorem Eo.lt{M:I->I->AK}(h:Eo w W b n M):b<K (U W):=Cc h.own
theorem Eo.alloc{M:I->I->AK}(h:Eo w W b n M)(o:Obj):Eo w (Az W o) b n M:=h.trans ((Cq _ _).alloc (Co _) o)
theorem lD(c:J)(L:AJ (J×J))(a:A4)(cap:I)(g:O L<=maxLen)(w:X)(k:¬(1<=c/\c<=6/\O L<=30)):Ar As 135 #[C Y c,T a (O L) cap] w λe i=>e=Ak (Af #[.agg CN,Ah AQ])/\A0 w i:=by
 unfold maxLen at g;have b:D ((Az w _).heap[K (U w)]?=H (M CN 123)):=Cj _;have d:D (CN.size=CN.size):=rfl;have key:c<1\/(1<=c/\6<c)\/(1<=c/\c<=6/\(30:J)<O L):=E;rcases key with h|⟨h,f⟩|⟨h,f,j⟩
 all_goals
  go_enter func135,ntmps135
  go_wp2_with(first
   |(refine K8 Z Z Z (K (U w)) Z ?_)
   |(refine IZ Z Z Z ?hl O0 ?_;case hl=>simp)
   |(refine Db Z 123 _ _ Z _ _ Z Z 123 CN b (DG (D8)) d (GQ) ?_;rw[IT]))
  refine CL (Ik results135 Z b underlying123 Z (DG (D8)) _ Z) Z ⟨Z,Cl⟩
theorem lE(w:X)(n:I):Eo (Az w (M CN 123)) ((Az (Az w (M CN 123)) (M CN 123)).setRow (K (U w)+1) (Di n λ_ _=>AQ)) (K (U w)+1) n (Li 0):=by refine⟨Dj ((Cq _ _).alloc Ba _) (Co _),?_⟩;rw[lB];apply CM _ _ CN _ _ _;have:=Cj (Az w (M CN 123)) (o:=(M CN 123));rwa[CI]at this
theorem Zj(h1:1<=n)(hn:n<=6){a:A4}(hL:O L<=30)(hE:FG w a L):Ar As 135 #[C Y n,T a (O L) cap] w λe w'=>e=Ak (Qn n L)/\A0 w w':=by
 have HE:=G hE;have d:D ((Az w (Aj CN 123)).heap[K (U w)]?=H (Aj CN 123)):=Cj _;have HH:D ((Az (Az w (Aj CN 123)) (Aj CN 123)).heap[K (U w)+1]?=H (Aj CN 123)):=by have:=Cj (Az w (Aj CN 123)) (o:=(Aj CN 123));rw[CI]at this;exact this
 have HZ:D (CN.size=(Di n λ_ _=>AQ).size):=C7;have HT:=lE w n;have m:D (A0 w (Az w (Aj CN 123))):=Cl;have ao:D (K (U (Az w (Aj CN 123)))=K (U w)+1):=BL;generalize hW:(Az (Az w (Aj CN 123)) (Aj CN 123)).setRow (K (U w)+1) (Di n λ_ _=>AQ)=W at HT;have HD:=G hW;have aj:=G HT;go_enter func135,ntmps135
 go_wp2_with(first
  |(refine K8 Z Z Z (K (U w)) Z ?_)
  |(refine K8 Z Z Z (K (U w)+1) ?hN ?_;case hN=>(simp only[CI,A0];done))
  |(refine IZ Z Z Z ?hl (Z8 n) ?_;case hl=>simp[go_sem])
  |(refine Db Z 123 _ _ Z _ _ Z Z 123 CN HH (DG (D8)) HZ (GQ) ?_;rw[AE HD]))
 generalize Az w (Aj CN 123)=W0 at *
 go_loopg[25,7] n (λg x y wr=>∃k:I,D (k+g=n)/\x=C Y k/\D (Eo W0 wr (K (U w)+1) n (Li k)))
 case atStart=>exact⟨0,Bg,rfl,aj⟩
 case round =>
  obtain⟨k,N,rfl,p⟩:=hrel;obtain _|g:=gk
  .have ah:¬(k:J)<n:=AY (AE N);have e:k=n:=AY (AE N);subst e;go_wp2
   go_loopg[36,9] (O L) (λg x y wr=>∃q:I,D (q+g=O L)/\x=C Y q/\D (Eo W0 wr (K (U w)+1) k (JR k (L.take q)))/\D (∀i (h:i<O L),i<q->Gd k L[i]=AP))
   case atStart=>exact⟨0,Bg,rfl,p,λi h hi=>E⟩
   case round =>
    clear p;obtain⟨q,s,rfl,v,S⟩:=hrel;obtain _|g:=gk
    .have al:¬(q:J)<O L:=AY (AE s);have HY:=G (Zh (λi h=>S.out i h (AY (AE s))));have ac:D (Eo W0 wr (K (U w)+1) k (JR k L)):=by have:=AE v;rw[ML (AY (AE s))]at this;exact this
     clear v S;have cF:=lw hn ac.own
     go_wp2_with(first
      |(go_at_call 170;refine cF.mono ?_;clear cF;rintro e w2 ⟨rfl,aa⟩;have c:D (Eo W0 w2 (K (U w)+1) k (DY k L)):=⟨ac.below.trans aa.below,aa.own⟩;clear aa)
      |(refine CT Z 123 _ Z _ Z _ _ _ _ c.own underlying123 Z (DG (D8)) ?_)
      |(refine Db Z 123 _ _ Z _ _ Z Z 123 CN ((c.below.block _ E).trans d) (DG (D8)) C7 (GQ) ?_))
     refine CL (Ik results135 Z (CM _ _ CN _ _ _ ((c.below.block _ E).trans d)) underlying123 Z (DG (D8)) (Ah AP) Z) Z ⟨by rw[Zi HY.out],Dj (m.trans (c.below.mono E)) (Co _)⟩
    have al:(q:J)<O L:=AY (AE s);obtain⟨ap,off,rfl,ah,e1,e2⟩:=(HE.below (m.trans ((v.below.mono E)))).at_ q E;have V:D ((Az wr (Aj #[C Y L[q].1,C Y L[q].2] 119)).heap[K (U wr)]?=H (Aj #[C Y L[q].1,C Y L[q].2] 119)):=Cj _;have c:D (Eo W0 (Az wr (Aj #[C Y L[q].1,C Y L[q].2] 119)) (K (U w)+1) k (JR k (L.take q))):=v.alloc _;have f:D (Gd k L[q]=Gd k (L[q].1,L[q].2)):=rfl;have u:D (JR k (L.take (q+1))=K9 (JR k (L.take q)) (L[q].1,L[q].2)):=lC k L E;have B:=Pb (Ii k (JR k (L.take q))).count L[q].1 (Az wr (Aj #[C Y L[q].1,C Y L[q].2] 119));generalize L[q].1=x at *;generalize L[q].2=y at *;generalize JR k (L.take q)=M at *
    go_wp2_with(first
     |(refine CT Z 123 _ Z _ Z _ _ _ _ c.own underlying123 Z (DG (D8)) ?_)
     |(refine EU Z Z Z c.own underlying123 Z (DG (D8)) ?_))
    refine B.mono ?_;clear B;rintro e w2 ⟨rfl,F⟩;have r:=G (c.trans F);clear c;have c:=r;clear r;have ad:=(Cb ((F.block _ Ba).trans V) 0)
    have ae:=(Cb ((F.block _ Ba).trans V) 1)
    have z:=G ((F.block _ Ba).trans V);have c2:=Pb (Ii k M).count y w2;cases Q:Dt k x
    .have l:D (Fb k L=AQ):=Pc (k:=q) E (by rw[AE f];unfold Gd;rw[Q];rfl);clear Q u f
     go_wp2_with(first
      |(refine IZ Z Z Z ?hl O0 ?_;case hl=>simp)
      |(refine Db Z 123 _ _ Z _ _ Z Z 123 CN ((c.below.block _ E).trans d) (DG (D8)) Z (GQ) ?_))
     refine CL (Ik results135 (g:=K (U w)) (t:=123) (cs:=CN) Z (CM _ _ CN _ _ _ ((c.below.block _ E).trans d)) underlying123 Z (DG (D8)) (Ah AQ) Z) Z ⟨by rw[S5 l.out],Dj (m.trans (c.below.mono E)) (Co _)⟩
    have A:=G Q;clear Q
    go_wp2_with(first
     |(refine CT Z 123 _ Z _ Z _ _ _ _ c.own underlying123 Z (DG (D8)) ?_)
     |(refine EU Z Z Z c.own underlying123 Z (DG (D8)) ?_))
    refine c2.mono ?_;clear c2;rintro e w3 ⟨rfl,j⟩;have r:=G (c.trans j);clear c;have c:=r;clear r;clear ad ae;have ad:=(Cb ((j.block _ (Cc z)).trans z) 0)
    have ae:=(Cb ((j.block _ (Cc z)).trans z) 1)
    cases R:Dt k y
    .have l:D (Fb k L=AQ):=Pc (k:=q) E (by rw[AE f];unfold Gd;rw[R,AE A];rfl);clear R u f
     go_wp2_with(first
      |(refine IZ Z Z Z ?hl O0 ?_;case hl=>simp)
      |(refine Db Z 123 _ _ Z _ _ Z Z 123 CN ((c.below.block _ E).trans d) (DG (D8)) Z (GQ) ?_))
     refine CL (Ik results135 (g:=K (U w)) (t:=123) (cs:=CN) Z (CM _ _ CN _ _ _ ((c.below.block _ E).trans d)) underlying123 Z (DG (D8)) (Ah AQ) Z) Z ⟨by rw[S5 l.out],Dj (m.trans (c.below.mono E)) (Co _)⟩
    .have b:=G R;clear R;cases ai:(x==y)
     .have l:D (Gd k L[q]=AP):=by show _=_;rw[AE f];unfold Gd;rw[AE b,AE A,ai];rfl
      clear f;obtain⟨am,au⟩:0<=x/\x<k:=Dk A;obtain⟨an,av⟩:0<=y/\y<k:=Dk b
      go_wp2_with(first
    |(refine CT Z 123 _ Z _ Z _ _ _ _ c.own underlying123 Z (DG (D8)) ?_)
    |(refine EU Z Z Z c.own underlying123 Z (DG (D8)) ?_)
    |(refine IZ Z Z Z ?hl O0 ?_;case hl=>simp)
    |(refine Db Z 123 _ _ Z _ _ Z Z 123 CN ((c.below.block _ E).trans d) (DG (D8)) Z (GQ) ?_))
      obtain⟨i,rfl⟩:=OX am;obtain⟨ab,rfl⟩:=OX an;have af:i<6:=E;have ag:ab<6:=E;have ak:=c.at_ af ag;have aq:=c.frozen (1+i*6+ab);generalize M i ab=v0 at ak
      go_region
      all_goals go_wp2
      go_roundg g
      case measure=>omega
      case rel =>
       refine⟨q+1,AZ (AE s),Bb,?_,?_⟩
       .have:=(c.set af ag AP).drew;show Eo _ _ _ _ _;rw[AE u];exact this
       intro i' h' ar;by_cases e:i'=q
       .subst e;exact l
       exact S i' h' E
     .have l:D (Fb k L=AQ):=Pc (k:=q) E (by rw[AE f];unfold Gd;rw[AE b,AE A,ai];rfl);clear u f
      go_wp2_with(first
    |(refine CT Z 123 _ Z _ Z _ _ _ _ c.own underlying123 Z (DG (D8)) ?_)
    |(refine EU Z Z Z c.own underlying123 Z (DG (D8)) ?_)
    |(refine IZ Z Z Z ?hl O0 ?_;case hl=>simp)
    |(refine Db Z 123 _ _ Z _ _ Z Z 123 CN ((c.below.block _ E).trans d) (DG (D8)) Z (GQ) ?_))
      refine CL (Ik results135 (g:=K (U w)) (t:=123) (cs:=CN) Z (CM _ _ CN _ _ _ ((c.below.block _ E).trans d)) underlying123 Z (DG (D8)) (Ah AQ) Z) Z ⟨by rw[S5 l.out],Dj (m.trans (c.below.mono E)) (Co _)⟩
  have ah:(k:J)<n:=AY (AE N);have P:k<6:=E;have B:=p.at_ P P;have c2:=p.frozen (1+k*6+k);generalize Li k k k=v0 at B;go_wp2;go_roundg g
  case measure=>omega
  case rel=>exact⟨k+1,AZ (AE N),Bb,by have:=p.set P P AP;rw[lz]at this;exact this⟩
structure FH(w:World)(a:A4)(B:List Int):Prop where
 at_:∀i,i<B.length->∃b off,a=some ⟨b,off,none⟩/\b<w.heap.size/\∀j (h':j<B.length),w.cell? ⟨b,off+j,none⟩=some (.int .i64 B[j])
theorem FH.below{a:A4}(h:FH w a B)(hb:A0 w w'):FH w' a B :=
 ⟨λi f=>by obtain⟨b,off,e,c,d⟩:=h.at_ i f;exact⟨b,off,e,CK c hb.size,λj g=>(hb.cell c).trans (d j g)⟩⟩
theorem MS{B:I}{a:X}(h:Below B a w):Below B a (w.drewN n):=h.trans ⟨rfl,rfl,rfl,Co _,λ_ _=>rfl⟩
def Lk(B:AJ AI)(i:AH):AI:=if i=0 then 0 else B.getD (i-1) 0
def S7(B:AJ AI)(i:AH):AK:=AR (Lk B i<B.getD i 0/\B.getD i 0<=65536)
def Pe(B:AJ AI)(i:AH):AK:=AR (1<=B.getD i 0/\B.getD i 0<=65536/\(0<i->B.getD (i-1) 0<B.getD i 0))
def Ho(B:AJ AI):AK:=AR (At B<=8)&&(List.range (At B)).all (S7 B)
def Il(B:AJ AI):AK:=(List.range (At B)).all (Pe B)&&AR (At B<=8)
theorem lI(B:AJ J):Ho B=Il B:=by
 unfold Ho Il;rw[Bool.and_comm];congr 1;rw[Bool.eq_iff_iff,GN,GN];constructor
 .intro h i c;have d:=λk a=>h k (Hn.2 a);have g:∀k,k<O B->1<=B.getD k 0:=by
   intro k
   induction k with
   |zero=>intro a;have:=Dk (d 0 a);grind [Lk]
   |succ k l =>
    intro a;have:=Dk (d _ a);grind [Lk]
  have e:=Hn.1 c;have b:=Dk (d i e);have f:=g i e;refine F4 ⟨f,b.2,λj=>?_⟩;grind [Lk]
 intro h i c;have b:=Dk (h i c);refine F4 ⟨?_,b.2.1⟩;grind [Lk]
theorem lJ{a:A4}(cap:I)(m:O B<=maxLen)(l:FH w a B):Ar As 93 #[T a (O B) cap] w λe r=>e=Ak (Ah (Ho B))/\r=w:=by
 unfold maxLen at m;have f:=G l;by_cases F:O B<=8
 .have j:¬(8:J)<O B:=E;go_enter func93,ntmps93;go_wp2
  go_loopg[11,3,5] (O B) (λg x y z wr=>∃k:I,D (k+g=O B)/\x=C Y k/\y=C Y (Lk B k)/\w=wr/\D (∀i,i<k->S7 B i=AP))
  case atStart=>exact⟨0,Bg,rfl,rfl,rfl,λi o=>E⟩
  case round =>
   obtain⟨k,d,rfl,rfl,rfl,t⟩:=hrel;obtain _|g:=gk
   .have q:¬(k:J)<O B:=AY (AE d);have c:D (Ho B=AP):=by grind [D,Ho]
    go_wp2;go_ret;exact⟨by rw[AE c];rfl,rfl⟩
   have q:(k:J)<O B:=AY (AE d);obtain⟨b,off,rfl,L,n⟩:=f.at_ k E;have N:=n k E;have s:D (B.getD k 0=B[k]):=B9;have h:D (Lk B (k+1)=B[k]):=by grind [Lk]
   have u:D (S7 B k=AR (Lk B k<B[k]/\B[k]<=65536)):=by grind [S7]
   generalize B[k]=x at *;generalize Lk B k=p at *;by_cases v:x<=p
   .have c:D (Ho B=AQ):=by grind [Ho]
    go_wp2;go_ret;exact⟨by rw[AE c];rfl,rfl⟩
   by_cases A:65536<x
   .have c:D (Ho B=AQ):=by grind [Ho]
    go_wp2;go_ret;exact⟨by rw[AE c];rfl,rfl⟩
   go_wp2;go_roundg g
   case measure=>omega
   case rel =>
    refine⟨k+1,B9,Bb,by rw[AE h],Z,λi o=>?_⟩;grind [D]
 have j:(8:J)<O B:=E;have c:D (Ho B=AQ):=by grind [Ho]
 go_enter func93,ntmps93;go_wp2;go_ret;exact⟨by rw[AE c];rfl,rfl⟩
theorem lK{a:A4}(cap:I)(v:O B<=maxLen)(u:FH w a B):Ar As 63 #[T a (O B) cap] w λe F=>e=Ak (Ah (Il B))/\A0 w F:=by
 unfold maxLen at v;have p:=G u;go_enter func63,ntmps63;go_wp2
 go_loopg[3] (O B) (λg x wr=>∃k:I,D (k+g=O B)/\x=C Y k/\A0 w wr/\D (∀i,i<k->Pe B i=AP))
 case atStart=>exact⟨0,Bg,rfl,Cq _ _,λi m=>E⟩
 case round =>
  obtain⟨k,n,rfl,d,N⟩:=hrel;obtain _|g:=gk
  .have A:¬(k:J)<O B:=AY (AE n);have c:D (Il B=AR ((O B:J)<=8)):=by grind [D,Il]
   go_wp2;go_ret;exact⟨by rw[AE c];rfl,d⟩
  have A:(k:J)<O B:=AY (AE n);obtain⟨b,off,rfl,Q,l⟩:=(p.below d).at_ k E;have z:=l k E;have L:D (B.getD k 0=B[k]):=B9;have S:(0:J)<=k:=E;rcases Uy k with o|o
  .subst o;rw[Nat.add_zero]at z;have q:D (Pe B 0=AR (1<=B[0]/\B[0]<=65536)):=by grind [Pe]
   generalize B[0]=x at *;by_cases f:x<1
   .have c:D (Il B=AQ):=keH;go_wp2
    go_quiet (fail)
    go_wp2;go_ret;exact⟨by rw[AE c];rfl,MS d⟩
   have r:=Fv f;by_cases h:65536<x
   .have c:D (Il B=AQ):=keH;go_wp2
    go_quiet (fail)
    go_wp2;go_ret;exact⟨by rw[AE c];rfl,MS d⟩
   have s:=Fv h;go_wp2
   go_quiet (fail)
   go_wp2;go_roundg g
   case measure=>omega
   case rel =>
    refine⟨0+1,B9,Bb,MS d,λi m=>?_⟩;grind [D]
  obtain⟨j,rfl⟩:∃j,k=j+1:=⟨k-1,E⟩
  have R:=l j E;have q:D (Pe B (j+1)=AR (1<=B[j+1]/\B[j+1]<=65536/\B[j]<B[j+1])):=by grind [Pe]
  generalize B[j+1]=x at *;generalize B[j]=y at *;by_cases f:x<1
  .have c:D (Il B=AQ):=keH;go_wp2
   go_quiet (fail)
   go_wp2;go_ret;exact⟨by rw[AE c];rfl,MS d⟩
  have r:=Fv f;by_cases h:65536<x
  .have c:D (Il B=AQ):=keH;go_wp2
   go_quiet (fail)
   go_wp2;go_ret;exact⟨by rw[AE c];rfl,MS d⟩
  have s:=Fv h;by_cases t:x<=y
  .have c:D (Il B=AQ):=keH;go_wp2
   go_quiet (fail)
   go_wp2;go_ret;exact⟨by rw[AE c];rfl,MS d⟩
  have P:=Fv t;go_wp2
  go_quiet (fail)
  go_wp2;go_roundg g
  case measure=>omega
  case rel =>
   refine⟨j+1+1,B9,Bb,MS d,λi m=>?_⟩;grind [D]
structure Cs where
 ia:A4
 bs:A1
 cap:Nat
 depth:Int
 lim:Int
 pos:Nat
 within:Nat
def Cs.arr(s:Cs):A3:=#[.slice s.ia (At s.bs) s.cap,Ab .i64 s.depth,Ab .i64 s.lim,Ab .i64 s.pos,Ab .i64 s.within]
structure Ch(W:World)(b:Nat)(s:Cs):Prop where
 row:W.heap[b]?=some (.cells s.arr 213)
 inp:∀i (h:i<s.bs.length),∃g off,s.ia=some ⟨g,off,none⟩/\g≠b/\W.cell? ⟨g,off+i,none⟩=some (.int .u8 (s.bs[i]'h).toNat)
 len:s.bs.length<=maxLen
 le:s.pos<=s.bs.length
structure Cg(b:Nat)(W W':World):Prop where
 os:W'.os=W.os
 tape:W'.tape=W.tape
 output:W'.output=W.output
 size:W.heap.size<=W'.heap.size
 block:∀k,k<W.heap.size->k≠b->W'.heap[k]?=W.heap[k]?
theorem Cg.refl(b:I)(W:X):Cg b W W:=⟨rfl,rfl,rfl,Co _,λ_ _ _=>rfl⟩
theorem Cg.trans{A B C:X}(h:Cg b A B)(k:Cg b B C):Cg b A C :=
 ⟨k.os.trans h.os,k.tape.trans h.tape,k.output.trans h.output,Cy h.size k.size,λi c a=>(k.block i Bm a).trans (h.block i c a)⟩
theorem Cg.of_below(h:A0 W W'):Cg b W W':=⟨h.os,h.tape,h.output,h.size,λk a _=>h.block k a⟩
theorem Ch.below{s:Cs}(h:Ch W b s)(hb:A0 W W'):Ch W' b s :=
 ⟨(hb.block _ (Cc h.row)).trans h.row,λi e=>by obtain⟨g,off,c,d,a⟩:=h.inp i e;exact⟨g,off,c,d,(hb.cell (FF a)).trans a⟩,h.len,h.le⟩
def Sf(e p:AI):Aq:=Ai 163 (Ag #[Ab .i64 e,Ab .i64 p])
def CV(e p:AI)(en:Ending):Prop:=en=.panicked [{v:=Sf e p,recovered:=AQ}]
theorem Ip:A0 W (W.drewN n):=⟨rfl,rfl,rfl,Co _,λ_ _=>rfl⟩
theorem Sg{s:Cs}(h:Ch W b s)(c:s.pos=O s.bs):Ar As 269 #[A8 b] W λe a=>e=Ak (Ah AQ)/\∃n,a=W.drewN n:=by
 have d:AC W _=H (T _ _ _):=Cb h.row 0;have f:AC W _=H (.int _ _):=Cb h.row 3;go_enter func269,ntmps269;go_wp2
 go_region
 go_wp2;go_ret;exact⟨Z,1,Z⟩
theorem Sh{s:Cs}(h:Ch W b s)(d:s.pos<O s.bs)(c:(s.pos:J)=s.lim):Ar As 269 #[A8 b] W λe a=>CV 8 s.pos e/\∃n,a=W.drewN n:=by
 have f:AC W _=H (T _ _ _):=Cb h.row 0;have g:AC W _=H (.int _ _):=Cb h.row 2;have i:AC W _=H (.int _ _):=Cb h.row 3;go_enter func269,ntmps269;go_wp2
 go_region
 go_wp2
 go_region
 go_wp2;exact⟨Z,keW,2,Z⟩
theorem Si{s:Cs}(h:Ch W b s)(c:s.pos<O s.bs)(f:¬(s.pos:J)=s.lim):Ar As 269 #[A8 b] W λe a=>e=Ak (Ah AP)/\∃n,a=W.drewN n:=by
 have g:AC W _=H (T _ _ _):=Cb h.row 0;have i:AC W _=H (.int _ _):=Cb h.row 2;have j:AC W _=H (.int _ _):=Cb h.row 3;have d:¬(s.pos:J)=O s.bs:=E;go_enter func269,ntmps269;go_wp2
 go_region
 go_wp2
 go_region
 go_wp2;go_ret;exact⟨Z,2,Z⟩
def Ph(s:Cs):Prop:=s.pos=At s.bs
def Qr(s:Cs):Prop:=s.pos<At s.bs/\(s.pos:AI)=s.lim
def Jh(s:Cs)(c:AU):Prop:=s.bs[s.pos]?=An c/\¬(s.pos:AI)=s.lim
theorem Ji{s:Cs}(h:Ch W b s):Ph s\/Qr s\/∃c,Jh s c:=by
 have:=h.le;by_cases d:s.pos=O s.bs
 .exact .inl d
 by_cases a:(s.pos:J)=s.lim
 .exact .inr (.inl ⟨E,a⟩)
 exact .inr (.inr ⟨s.bs[s.pos]'B5,B9,a⟩)
theorem Jh.lt{s:Cs}(h:Jh s c):s.pos<O s.bs:=Dh h.1
theorem Jh.cell{s:Cs}(h:Ch W b s)(a:Jh s c):∃g off,s.ia=H ⟨g,off,Ao⟩/\g≠b/\A6 W g (off+s.pos) (C .u8 c.toNat):=by obtain⟨g,off,d,e,f⟩:=h.inp _ a.lt;have:=(NM.1 a.1).2;grind
def Cs.next(s:Cs):Cs:={s with pos:=s.pos+1}
theorem mM{s:Cs}(h:Ch W b s)(hl:s.pos<O s.bs)(n:I):Ch ((W.drewN n).setCell ⟨b,3,Ao⟩ (C Y ((s.pos:J)+1))) b s.next/\Cg b W ((W.drewN n).setCell ⟨b,3,Ao⟩ (C Y ((s.pos:J)+1))):=by
 have j:(W.drewN n).heap[b]?=H _:=h.row;refine⟨⟨?_,λi e=>?_,h.len,?_⟩,⟨Z,Z,Z,Br,λk l f=>?_⟩⟩
 .rw[DQ _ _ _ _ _ _ j];rfl
 .obtain⟨g,off,c,a,d⟩:=h.inp i e;refine⟨g,off,c,a,?_⟩;have:((W.drewN n).setCell ⟨b,3,Ao⟩ (C Y (s.pos+1))).heap[g]?=W.heap[g]?:=CY _ _ _ _ Bl;exact(JN this).trans d
 .show s.pos+1<=O s.bs;omega
 exact CY _ _ _ _ ker
theorem Ka{s:Cs}(h:Ch W b s)(d:Ph s):Ar As 270 #[A8 b] W λe a=>CV 9 s.pos e/\A0 W a:=by
 have c:=Sg h d;have f:AC W _=H (.int _ _):=Cb h.row 3;go_enter func270,ntmps270
 go_wp2_with(first|(go_at_call 269;apply c.mono;rintro e g ⟨rfl,n,rfl⟩))
 exact⟨Z,Z,Ip⟩
theorem Kb{s:Cs}(h:Ch W b s)(a:Qr s):Ar As 270 #[A8 b] W λe c=>CV 8 s.pos e/\A0 W c:=by
 have d:=Sh h a.1 a.2;go_enter func270,ntmps270
 go_wp2_with(first|(go_at_call 269;apply d.mono;rintro e f ⟨rfl,n,rfl⟩))
 exact⟨Z,Z,Ip⟩
theorem IL{s:Cs}(h:Ch W b s)(a:Jh s c):Ar As 270 #[A8 b] W λe f=>e=Ak (C .u8 c.toNat)/\Ch f b s.next/\Cg b W f:=by
 have l:=Si h a.lt a.2;have j:=G (mM h a.lt);have x:=a.lt;have q:=h.len;unfold maxLen at q;obtain⟨g,off,m,o,v⟩:=a.cell h;have y:AC W _=H (.int _ _):=Cb h.row 3;have w:=Dq W b 3 _ _ h.row;go_enter func270,ntmps270
 go_wp2_with(first|(go_at_call 269;apply l.mono;rintro e z ⟨rfl,n,rfl⟩))
 obtain⟨d,p⟩:=j.out n;have k:=G d;have i:=G p;have r:((W.drewN n).setCell ⟨b,3,Ao⟩ (C Y (s.pos+1))).cell? ⟨b,0,Ao⟩=H (T (H ⟨g,off,Ao⟩) (O s.bs) s.cap):=by rw[<-m];exact Cb d.row 0
 have t:((W.drewN n).setCell _ _).cell? _=H (.int _ (s.pos+1)):=Cb d.row 3;have u:((W.drewN n).setCell ⟨b,3,Ao⟩ (C Y (s.pos+1))).cell? ⟨g,off+s.pos,Ao⟩=H (C .u8 c.toNat):=by have:((W.drewN n).setCell ⟨b,3,Ao⟩ (C Y (s.pos+1))).heap[g]?=W.heap[g]?:=CY _ _ _ _ BY;grind [World.cell?_of_block]
 generalize(W.drewN n).setCell ⟨b,3,Ao⟩ (C Y ((s.pos:J)+1))=V at *
 go_region
 go_wp2;go_ret;exact⟨Z,k.below (Cq _ _).drew,i.trans (Cg.of_below (Cq _ _).drew)⟩
theorem Ch.drewN{s:Cs}(h:Ch W b s)(n:I):Ch (W.drewN n) b s:=h.below (Ip)
theorem mN{s:Cs}{x:J}(h:Ch W b s)(d:Ph s):Ar As 280 #[A8 b,C .u8 x] W λe a=>e=Ak (Ah AQ)/\∃n,a=W.drewN n:=by
 have c:=λn=>Sg (h.drewN n) d;go_enter func280,ntmps280;go_wp2
 go_quiet (first|(go_at_call 269;exact(c _).quiet_of))
 go_wp2;go_ret;exact⟨Z,nq,Z⟩
theorem mO{s:Cs}{x:J}(h:Ch W b s)(a:Jh s c):Ar As 280 #[A8 b,C .u8 x] W λe d=>e=Ak (Ah ((c.toNat:J)==x))/\∃n,d=W.drewN n:=by
 have f:=λn=>Si (h.drewN n) a.lt a.2;obtain⟨g,off,i,l,m⟩:=a.cell h;have j:A6 W b 0 (T (H ⟨g,off,Ao⟩) (O s.bs) s.cap):=by rw[<-i];exact Cb h.row 0
 have k:AC W _=H (.int _ _):=Cb h.row 3;have o:=a.lt;have p:(s.pos:J)<O s.bs:=E;go_enter func280,ntmps280;go_wp2
 go_quiet (first|(go_at_call 269;exact(f _).quiet_of))
 go_wp2;go_ret;exact⟨Z,nq,Z⟩
theorem ZF{s:Cs}{x:J}(h:Ch W b s)(c:Qr s):Ar As 280 #[A8 b,C .u8 x] W λe a=>CV 8 s.pos e/\A0 W a:=by have d:Ar _ _ _ _ λe a=>CV 8 _ e/\∃m,a=W.drew.drewN m:=Sh (h.drewN 1) c.1 c.2;go_enter func280,ntmps280;go_wp2;refine Ef (S:=λ_=>True) B6 <| EA (i:=0) (v:=.pointer _) Z B6 B6 B6 (λ_ _ _ h=>h) (.inl ⟨Z,λW j=>rfl⟩) trivial <| CC 1 (λf g=>?_);go_simp;apply d.mono;rintro e k ⟨rfl,n,rfl⟩;exact⟨Z,Z,(Cq _ _).drew.trans (Ip (W:=W.drew))⟩
theorem Pi:Ar As 278 #[C .u8 c.toNat] w λe a=>e=Ak (Ah (AR (48<=(c.toNat:J)/\(c.toNat:J)<=57)))/\a=w:=by
 by_cases b:(48:J)<=c.toNat
 .by_cases d:(c.toNat:J)<=57
  .go_enter func278,ntmps278;go_wp2;go_ret;simp_all
  go_enter func278,ntmps278;go_wp2;go_ret;simp_all
 go_enter func278,ntmps278;go_wp2;go_ret;exact⟨by rw[Fv E];rfl,rfl⟩
theorem FJ{s:Cs}(e:J)(h:Ch W b s):Ar As 271 #[A8 b,C Y e] W λc a=>CV e ((s.pos:J)-1) c/\a=W:=by have f:AC W _=H (.int _ _):=Cb h.row 3;have d:=h.len;have g:=h.le;unfold maxLen at d;go_enter func271,ntmps271;go_wp2;exact⟨Z,Z,Z⟩
theorem mP{s:Cs}(h:Ch W b s)(d:Ph s):Ar As 295 #[A8 b] W λe a=>e=Ak (Ah AQ)/\∃n,a=W.drewN n:=by
 have c:=λn=>Sg (h.drewN n) d;go_enter func295,ntmps295;go_wp2
 go_quiet (first|(go_at_call 269;exact(c _).quiet_of))
 go_wp2;go_ret;exact⟨Z,nq,Z⟩
theorem mQ{s:Cs}(h:Ch W b s)(a:Jh s c):Ar As 295 #[A8 b] W λe f=>e=Ak (Ah (AR (48<=(c.toNat:J)/\(c.toNat:J)<=57)))/\∃n,f=W.drewN n:=by
 have j:=λn=>Si (h.drewN n) a.lt a.2;have i:∀n,Ar _ _ _ _ λe f=>e=Ak (Ah (AR (48<=(c.toNat:J)/\(c.toNat:J)<=57)))/\f=W.drewN n:=λn=>Pi;obtain⟨g,off,k,o,p⟩:=a.cell h;have l:A6 W b 0 (T (H ⟨g,off,Ao⟩) (O s.bs) s.cap):=by rw[<-k];exact Cb h.row 0
 have m:AC W _=H (.int _ _):=Cb h.row 3;have q:=a.lt;have r:(s.pos:J)<O s.bs:=E;generalize AR (48<=(c.toNat:J)/\(c.toNat:J)<=57)=d at *;go_enter func295,ntmps295;go_wp2
 go_quiet (first|(go_at_call 269;exact(j _).quiet_of)|(go_at_call 278;exact(i _).quiet_of_same))
 go_wp2;go_ret;exact⟨Z,nq,Z⟩
theorem mR{s:Cs}(h:Ch W b s)(c:Qr s):Ar As 295 #[A8 b] W λe a=>CV 8 s.pos e/\A0 W a:=by have d:Ar _ _ _ _ λe a=>CV 8 _ e/\∃m,a=W.drew.drewN m:=Sh (h.drewN 1) c.1 c.2;go_enter func295,ntmps295;go_wp2;refine Ef (S:=λ_=>True) B6 <| EA (i:=0) (v:=.pointer _) Z B6 B6 B6 (λ_ _ _ h=>h) (.inl ⟨Z,λW j=>rfl⟩) trivial <| CC 1 (λf g=>?_);go_simp;apply d.mono;rintro e k ⟨rfl,n,rfl⟩;exact⟨Z,Z,(Cq _ _).drew.trans (Ip (W:=W.drew))⟩
def Eh(c:AU):AK:=AR (48<=(c.toNat:AI)/\(c.toNat:AI)<=57)
def DZ(bs:A1)(lim:AI)(most:AH)(z:AK):AH->AH->AH->A5 AH
 |0,p,num=>.ok (num,p)
 |g+1,p,num=>match bs[p]? with
  |none=>.ok (num,p)
  |some c=>if(p:AI)=lim then .error (8,p)else
   if Eh c=AP then(if z=AP then .error (9,p)else if(most-(c.toNat-48))/10<num then .error (10,p)else DZ bs lim most z g (p+1) (num*10+(c.toNat-48)))
   else if c.toNat=46\/c.toNat=101\/c.toNat=69 then .error (10,p)else .ok (num,p)
def GS{α:Type}(W:Ap)(b:AH)(s:Cs)(val:α->Aq)(r:A5 α)(e:Ending)(W':Ap):Prop :=
 Cg b W W'/\match r with
 |.ok (x,p)=>e=Ak (val x)/\Ch W' b {s with pos:=p}
 |.error (en,pl)=>CV en pl e
structure Kc(W0:World)(b N:Nat)(s:Cs)(W:World):Prop where
 src:Ch W b s
 but:Cg b W0 W
 box:W.heap[N]?=some (.cells #[A8 b] 215)
 ne:N≠b
theorem Kc.step{s s':Cs}(h:Kc W0 b N s W)(a:Ch W' b s')(hb:Cg b W W'):Kc W0 b N s' W' :=
 ⟨a,h.but.trans hb,(hb.block _ (Cc h.box) h.ne).trans h.box,h.ne⟩
theorem Kc.cell{s:Cs}(h:Kc W0 b N s W):A6 W N 0 (A8 b):=Cb h.box 0
theorem Er{s s':Cs}(h:D (Kc W0 b N s W))(a:Ch W' b s')(hb:Cg b W W'):D (Kc W0 b N s' W')/\A6 W' N 0 (A8 b):=⟨h.out.step a hb,(h.out.step a hb).cell⟩
theorem KR{s:Cs}(h:Ch W b s):Kc W b (K (U W)) s (Az W (M #[A8 b] 215)) :=
 ⟨h.below Cl,Cg.of_below Cl,Cj _,AY (Cc h.row)⟩
theorem Vn{s:Cs}(x:J)(h:Ch W b s)(d:Ph s):Ar As 280 #[A8 b,C .u8 x] W λe a=>e=Ak (Ah AQ)/\Ch a b s/\Cg b W a :=
 (mN h d).mono λ_ _ ⟨f,n,c⟩=>⟨f,c▸h.drewN n,c▸Cg.of_below (Ip)⟩
theorem Sj{s:Cs}(x:J)(h:Ch W b s)(f:Jh s c):Ar As 280 #[A8 b,C .u8 x] W λe a=>e=Ak (Ah ((c.toNat:J)==x))/\Ch a b s/\Cg b W a :=
 (mO h f).mono λ_ _ ⟨g,n,d⟩=>⟨g,d▸h.drewN n,d▸Cg.of_below (Ip)⟩
theorem mS{s:Cs}(h:Ch W b s)(d:Ph s):Ar As 295 #[A8 b] W λe a=>e=Ak (Ah AQ)/\Ch a b s/\Cg b W a :=
 (mP h d).mono λ_ _ ⟨f,n,c⟩=>⟨f,c▸h.drewN n,c▸Cg.of_below (Ip)⟩
theorem mT{s:Cs}(h:Ch W b s)(f:Jh s c):Ar As 295 #[A8 b] W λe a=>e=Ak (Ah (Eh c))/\Ch a b s/\Cg b W a :=
 (mQ h f).mono λ_ _ ⟨g,n,d⟩=>⟨g,d▸h.drewN n,d▸Cg.of_below (Ip)⟩
theorem ZG{s:Cs}(first:AU)(o:I)(h:Ch W b s)(hm:o=9223372036854775807\/o=9223372036854775808)(hf:48<=first.toNat/\first.toNat<=57):Ar As 289 #[Ag #[A8 b],C .u8 first.toNat,C .u64 o] W
   (GS W b s (λx:I=>C .u64 x) (DZ s.bs s.lim o (first.toNat==48) (O s.bs+1-s.pos) s.pos (first.toNat-48))):=by
 have ac:=G (KR h);have ad:=h.le;have ae:=h.len;unfold maxLen at ae;have aj:=hf.1;have ak:=hf.2;obtain⟨R,j⟩:=CA (DZ s.bs s.lim o (first.toNat==48) (O s.bs+1-s.pos) s.pos (first.toNat-48));rw[AE j];go_enter func289,ntmps289;go_wp2;generalize Az W (M #[A8 b] 215)=W0 at *
 go_loopg[7,8] (O s.bs+1-s.pos) (λg x _ wr=>∃p q:I,x=C .u64 q/\D (p+g=O s.bs+1)/\p<=O s.bs/\q<=o/\D (Kc W b (K (U W)) {s with pos:=p} wr)/\D (DZ s.bs s.lim o (first.toNat==48) g p q=R))
 case atStart=>exact⟨_,_,Bb,Bg,ad,E,ac,j⟩
 case round =>
  obtain⟨p,q,rfl,hg,hp,al,a,j⟩:=hrel;have i:=a.cell;obtain⟨g,rfl⟩:∃g,gk=g+1:=⟨gk-1,AY (AE hg)⟩
  rcases Ji a.src with k|k|⟨c,k⟩
  .have l:D (R=.ok (q,p)):=by show _=_;rw[<-AE j,DZ,Hm (by have:p=O s.bs:=k;omega)]
   have r:=mS a.src k;have m:=λx V (w:Ch V b _)=>Vn x w k;have z:=trivial;have A:=trivial
   go_wp2_with(first
    |(go_at_call 295;apply r.mono;rintro e w2 ⟨rfl,f,d⟩;obtain⟨a,i⟩:=Er a f d;clear f d)
    |(go_at_call 280;clear z;apply (m 46 _ a.src).mono;clear i;rintro e w3 ⟨rfl,f,d⟩;obtain⟨a,i⟩:=Er a f d;clear f d)
    |(go_at_call 280;clear A;apply (m _ _ a.src).mono;clear i;rintro e w4 ⟨rfl,f,d⟩;obtain⟨a,i⟩:=Er a f d;clear f d)
    |(go_at_call 280;apply (m 69 _ a.src).mono;clear i;rintro e w5 ⟨rfl,f,d⟩;obtain⟨a,i⟩:=Er a f d;clear f d))
   go_ret;rw[AE l];exact⟨a.but,Z,a.src⟩
  .have l:D (R=.error (8,(p:J))):=by show _=_;have h2:=k.2;have h3:=k.1;grind [D,DZ]
   have r:=mR a.src k;clear k j
   go_wp2_with(first
    |(go_at_call 295;apply r.mono;clear r i;rintro e w2 ⟨rfl,d⟩))
   rw[AE l];exact⟨Z,a.but.trans (Cg.of_below d),Z⟩
  have aa:=k.1;have ab:=k.2;have r:=mT a.src k;have m:=λx V (w:Ch V b _)=>Sj x w k;have v:∀V,Ch V b _->Ar _ _ _ V λe S=>e=Ak _/\Ch S b {s with pos:=p+1}/\Cg b V S:=λV w=>IL w k;have af:=k.lt;rw[DZ,aa]at j;simp only[]at j;rw[Ci ab]at j;clear k aa ab
  go_wp2_with fail
  apply r.mono;clear r i;rintro e w2 ⟨rfl,f,d⟩;obtain⟨a,i⟩:=Er a f d;clear f d;cases y:Eh c
  .rw[y]at j;rw[Ci Ba]at j;clear y;have z:=trivial;have A:=trivial;by_cases u:c.toNat=46\/c.toNat=101\/c.toNat=69
   .have l:D (R=.error (10,(p:J))):=B9;clear j;rcases u with u|u|u
    all_goals
     first|have F:((c.toNat:J)==46)=AP:=B7|have F:=D7 (c:=c) 46 E
     first|have B:((c.toNat:J)==101)=AP:=B7|have B:=D7 (c:=c) 101 E
     first|have L:((c.toNat:J)==69)=AP:=B7|have L:=D7 (c:=c) 69 E
     clear u
     go_wp2_with(first
      |(go_at_call 280;clear z;apply (m 46 _ a.src).mono;clear i;rintro e w3 ⟨rfl,f,d⟩;rw[F];obtain⟨a,i⟩:=Er a f d;clear f d)
      |(go_at_call 280;clear A;apply (m _ _ a.src).mono;clear i;rintro e w4 ⟨rfl,f,d⟩;rw[B];obtain⟨a,i⟩:=Er a f d;clear f d)
      |(go_at_call 280;apply (m 69 _ a.src).mono;clear i;rintro e w5 ⟨rfl,f,d⟩;rw[L];obtain⟨a,i⟩:=Er a f d;clear f d)
      |(go_at_call 270;apply (v _ a.src).mono;clear i;rintro e P ⟨rfl,f,d⟩;obtain⟨a,i⟩:=Er a f d;clear f d;have n:=λt=>FJ t a.src)
      |(go_at_call 271;apply (n _).mono;clear n i;rintro e Q ⟨hF,rfl⟩;obtain rfl:=hF))
     rw[AE l];exact⟨Z,a.but,C6⟩
   have l:D (R=.ok (q,p)):=B9;clear j v;have F:=D7 (c:=c) 46 E;have B:=D7 (c:=c) 101 E;have L:=D7 (c:=c) 69 E;clear u
   go_wp2_with(first
    |(go_at_call 280;clear z;apply (m 46 _ a.src).mono;clear i;rintro e w3 ⟨rfl,f,d⟩;rw[F];obtain⟨a,i⟩:=Er a f d;clear f d)
    |(go_at_call 280;clear A;apply (m _ _ a.src).mono;clear i;rintro e w4 ⟨rfl,f,d⟩;rw[B];obtain⟨a,i⟩:=Er a f d;clear f d)
    |(go_at_call 280;apply (m 69 _ a.src).mono;clear i;rintro e w5 ⟨rfl,f,d⟩;rw[L];obtain⟨a,i⟩:=Er a f d;clear f d))
   go_ret;rw[AE l];exact⟨a.but,Z,a.src⟩
  rw[y]at j;rw[Cn rfl]at j;have N:=Dk y;have ah:=N.1;have ai:=N.2;clear y N;by_cases hz:(first.toNat:J)=48
  .have l:D (R=.error (9,(p:J))):=B9;clear j m
   go_wp2_with(first
    |(go_at_call 270;apply (v _ a.src).mono;clear i;rintro e P ⟨rfl,f,d⟩;obtain⟨a,i⟩:=Er a f d;clear f d;have n:=λt=>FJ t a.src)
    |(go_at_call 271;apply (n _).mono;clear n i;rintro e Q ⟨hF,rfl⟩;obtain rfl:=hF))
   rw[AE l];exact⟨Z,a.but,C6⟩
  have ag:D ((if(o-(c.toNat-48))/10<q then Except.error (10,(p:J))else DZ s.bs s.lim o (first.toNat==48) g (p+1) (q*10+(c.toNat-48)))=R):=B9;clear j m;by_cases am:(o-(c.toNat-48))/10<q
  .have l:D (R=.error (10,(p:J))):=B9
   go_wp2_with(first
    |(go_at_call 270;apply (v _ a.src).mono;clear i;rintro e P ⟨rfl,f,d⟩;obtain⟨a,i⟩:=Er a f d;clear f d;have n:=λt=>FJ t a.src)
    |(go_at_call 271;apply (n _).mono;clear n i;rintro e Q ⟨hF,rfl⟩;obtain rfl:=hF))
   rw[AE l];exact⟨Z,a.but,Z⟩
  have l:D (DZ s.bs s.lim o (first.toNat==48) g (p+1) (q*10+(c.toNat-48))=R):=B9
  go_wp2_with(first
   |(go_at_call 270;apply (v _ a.src).mono;clear i;rintro e P ⟨rfl,f,d⟩;obtain⟨a,i⟩:=Er a f d;clear f d;have n:=λt=>FJ t a.src)
   |(go_at_call 271;refine(n _).mono ?_;clear n i;rintro e Q ⟨hF,rfl⟩;obtain rfl:=hF))
  go_roundg g
  case measure=>omega
  case rel=>exact⟨_,_,Bb,B9,af,E,a,l⟩
theorem Qs{bs:A1}{lim:J}{most:I}{z:AK}:∀{g p num:I} {x q:I},num<=most->9<=most->DZ bs lim most z g p num=.ok (x,q)->x<=most
 |0,p,num,x,q,hn,_,h=>by grind [DZ]
 |g+1,p,num,x,q,hn,hm,h=>by
  unfold DZ at h;split at h
  .cases h;exact hn
  split at h
  .cases h
  split at h
  .next hd =>
   split at h
   .cases h
   split at h
   .cases h
   next hov =>
   have a:=Dk hd;exact Qs E hm h
  grind
def GT(s:Cs)(first:AU):A5 AI :=
 if first.toNat=45 then
  match s.bs[s.pos]? with
  |none=>.error (9,s.pos)
  |some c=>if(s.pos:AI)=s.lim then .error (8,s.pos)else if Eh c=AP then
    (match DZ s.bs s.lim 9223372036854775808 (c.toNat==48) (At s.bs+1-(s.pos+1)) (s.pos+1) (c.toNat-48)with
    |.ok (x,p)=>.ok (-(x:AI),p)
    |.error e=>.error e)
   else .error (9,s.pos)
 else match DZ s.bs s.lim 9223372036854775807 (first.toNat==48) (At s.bs+1-s.pos) s.pos (first.toNat-48)with
  |.ok (x,p)=>.ok ((x:AI),p)
  |.error e=>.error e
theorem mU(h:x<=9223372036854775808):wrap64 (IntKind.u64.wrap (-(x:J))) = -(x:J):=by grind [IntKind.wrap,IntKind.bits,wrap64]
theorem mV{s:Cs}{first:AU}(h:Ch W b s)(Q:first.toNat=45\/Eh first=AP):Ar As 279 #[Ag #[A8 b],C .u8 first.toNat] W (GS W b s (λz:J=>C Y z) (GT s first)):=by
 have g:=G (KR h);obtain⟨R,v⟩:=CA (GT s first);rw[AE v];have w:=g.cell;by_cases aa:(first.toNat:J)=45
 .have a:=AE v;unfold GT at a;rw[Cn E]at a;rcases Ji h with j|j|⟨c,j⟩
  .have f:D (R=.error (9,s.pos)):=by show _=_;rw[Hm (by have:s.pos=O s.bs:=j;omega)]at a;exact a.symm
   have l:=Ka g.src j;go_enter func279,ntmps279
   go_wp2_with(first
    |(go_at_call 270;apply l.mono;rintro e n ⟨hF,d⟩;obtain rfl:=hF))
   rw[AE f];exact⟨Z,g.but.trans (Cg.of_below d),Z⟩
  .have f:D (R=.error (8,s.pos)):=by show _=_;rw[D3 j.1]at a;simp only[]at a;rw[Cn j.2]at a;exact a.symm
   have l:=Kb g.src j;go_enter func279,ntmps279
   go_wp2_with(first
    |(go_at_call 270;apply l.mono;rintro e n ⟨hF,d⟩;obtain rfl:=hF))
   rw[AE f];exact⟨Z,g.but.trans (Cg.of_below d),Z⟩
  rw[j.1]at a;simp only[]at a;rw[Ci j.2]at a;have l:=IL g.src j;have S:=h.len;unfold maxLen at S;cases t:AR (48<=(c.toNat:J)/\(c.toNat:J)<=57)
  .have f:D (R=.error (9,s.pos)):=by grind [D,Eh]
   go_enter func279,ntmps279
   go_wp2_with(first
    |(go_at_call 270;apply l.mono;rintro e n ⟨rfl,k,d⟩;have o:=G (g.step k d);have i:=o;have w:=i.cell)
    |(go_at_call 278;apply (Pi).mono;rintro e B ⟨rfl,rfl⟩;rw[t])
    |(go_at_call 271;apply (FJ _ i.src).mono;rintro e w7 ⟨hF,rfl⟩;obtain rfl:=hF))
   rw[AE f];exact⟨rfl,i.but,by grind [CV,Cs.next]⟩
  have r:=Dk t;have N:=r.1;have P:=r.2;rw[Cn (by unfold Eh;exact t)]at a;have p:=λV (L:Ch V b s.next)=>ZG c _ L (.inr rfl) ⟨E,E⟩;obtain⟨u,m⟩:=Dx (DZ s.bs s.lim 9223372036854775808 (c.toNat==48) (O s.bs+1-(s.pos+1)) (s.pos+1) (c.toNat-48));have y:∀V,Ch V b s.next->Ar As 289 #[Ag #[A8 b],C .u8 c.toNat,C .u64 9223372036854775808] V (GS V b s.next (λx:I=>C .u64 x) u):=by rw[<-m];exact p
  rw[m]at a;rcases u with⟨F,pl⟩|⟨x,q⟩
  .have f:=G a.symm;go_enter func279,ntmps279
   go_wp2_with(first
    |(go_at_call 270;apply l.mono;rintro e n ⟨rfl,k,d⟩;have o:=G (g.step k d);have i:=o;have w:=i.cell)
    |(go_at_call 278;apply (Pi).mono;rintro e B ⟨rfl,rfl⟩;rw[t])
    |(go_at_call 289;apply (y _ i.src).mono;rintro e w4 ⟨d,hF⟩;obtain rfl:=hF))
   rw[AE f];exact⟨Z,i.but.trans d,Z⟩
  have f:=G a.symm;have A:=Qs E E m;go_enter func279,ntmps279
  go_wp2_with(first
   |(go_at_call 270;apply l.mono;rintro e n ⟨rfl,k,d⟩;have o:=G (g.step k d);have i:=o;have w:=i.cell)
   |(go_at_call 278;apply (Pi).mono;rintro e B ⟨rfl,rfl⟩;rw[t])
   |(go_at_call 289;apply (y _ i.src).mono;rintro e w4 ⟨d,rfl,k⟩))
  go_ret;rw[AE f];exact⟨i.but.trans d,congrArg (λz=>Ending.returned (Value.int _ z)) (mU A),k⟩
 have r:=Dk (Q.resolve_left E);have N:=r.1;have P:=r.2;have p:=ZG first _ g.src (.inl Z) ⟨E,E⟩
 have a:=AE v;unfold GT at a;rw[Ci E]at a;obtain⟨u,m⟩:=Dx (DZ s.bs s.lim 9223372036854775807 (first.toNat==48) (O s.bs+1-s.pos) s.pos (first.toNat-48));rw[m]at p a;rcases u with⟨F,pl⟩|⟨x,q⟩
 .have f:=G a.symm;go_enter func279,ntmps279
  go_wp2_with(first
   |(go_at_call 289;apply p.mono;rintro e n ⟨d,hF⟩;obtain rfl:=hF))
  rw[AE f];exact⟨Z,g.but.trans d,Z⟩
 have f:=G a.symm;have A:=Qs E E m;go_enter func279,ntmps279
 go_wp2_with(first
  |(go_at_call 289;apply p.mono;rintro e n ⟨d,rfl,k⟩))
 go_ret;rw[AE f];exact⟨g.but.trans d,Z,k⟩
def M3(c:AU):AK:=c.toNat==32||(c.toNat==9||(c.toNat==10||c.toNat==13))
def DL(bs:A1)(lim:AI):AH->AH->A5 Unit
 |0,p=>.ok ((),p)
 |g+1,p=>match bs[p]? with
  |none=>.ok ((),p)
  |some c=>if(p:AI)=lim then .error (8,p)else if M3 c=AP then DL bs lim g (p+1)else .ok ((),p)
theorem Qt{s:Cs}(h:Ch W b s):Ar As 273 #[Ag #[A8 b]] W (GS W b s (λ_:Unit=>Af #[]) (DL s.bs s.lim (O s.bs+1-s.pos) s.pos)):=by
 have aa:=G (KR h);have ab:=h.le;obtain⟨R,l⟩:=CA (DL s.bs s.lim (O s.bs+1-s.pos) s.pos);rw[AE l];go_enter func273,ntmps273;go_wp2;generalize Az W (M #[A8 b] 215)=W0 at *
 go_loopg[2] (O s.bs+1-s.pos) (λg _ wr=>∃p:I,D (p+g=O s.bs+1)/\p<=O s.bs/\D (Kc W b (K (U W)) {s with pos:=p} wr)/\D (DL s.bs s.lim g p=R))
 case atStart=>exact⟨_,Bg,ab,aa,l⟩
 case round =>
  obtain⟨p,hg,hp,a,l⟩:=hrel;have i:=a.cell;obtain⟨g,rfl⟩:∃g,gk=g+1:=⟨gk-1,AY (AE hg)⟩
  rcases Ji a.src with j|j|⟨c,j⟩
  .have m:D (R=.ok ((),p)):=by show _=_;rw[<-AE l,DL,Hm (by have:p=O s.bs:=j;omega)]
   have k:=λx V (n:Ch V b _)=>Vn x n j;have o:=trivial;have q:=trivial;have r:=trivial
   go_wp2_with(first
    |(go_at_call 280;clear o;apply (k 32 _ a.src).mono;clear i;rintro e z ⟨rfl,f,d⟩;obtain⟨a,i⟩:=Er a f d;clear f d)
    |(go_at_call 280;clear q;apply (k 9 _ a.src).mono;clear i;rintro e P ⟨rfl,f,d⟩;obtain⟨a,i⟩:=Er a f d;clear f d)
    |(go_at_call 280;clear r;apply (k 10 _ a.src).mono;clear i;rintro e Q ⟨rfl,f,d⟩;obtain⟨a,i⟩:=Er a f d;clear f d)
    |(go_at_call 280;apply (k 13 _ a.src).mono;clear i;rintro e S ⟨rfl,f,d⟩;obtain⟨a,i⟩:=Er a f d;clear f d))
   go_end0;rw[AE m];exact⟨a.but,Z,a.src⟩
  .have m:D (R=.error (8,p)):=by show _=_;have h2:=j.2;have h3:=j.1;grind [D,DL]
   have B:=ZF (x:=32) a.src j;clear j l
   go_wp2_with(first
    |(go_at_call 280;apply B.mono;clear B i;rintro e z ⟨rfl,d⟩))
   rw[AE m];exact⟨Z,a.but.trans (Cg.of_below d),Z⟩
  have F:=j.1;have L:=j.2;have k:=λx V (n:Ch V b _)=>Sj x n j;have cT:∀V,Ch V b _->Ar _ _ _ V λe A=>e=Ak _/\Ch A b {s with pos:=p+1}/\Cg b V A:=λV n=>IL n j;have ac:=j.lt;rw[DL,F]at l;simp only[]at l;rw[Ci L]at l;clear j F L;have o:=trivial;have q:=trivial;have r:=trivial;by_cases N:c.toNat=32\/c.toNat=9\/c.toNat=10\/c.toNat=13
  .have m:D (DL s.bs s.lim g (p+1)=R):=by grind [M3]
   clear l;rcases N with y|y|y|y
   all_goals
    first|have v:((c.toNat:J)==32)=AP:=B7|have v:=D7 (c:=c) 32 E
    first|have w:((c.toNat:J)==9)=AP:=B7|have w:=D7 (c:=c) 9 E
    first|have t:((c.toNat:J)==10)=AP:=B7|have t:=D7 (c:=c) 10 E
    first|have u:((c.toNat:J)==13)=AP:=B7|have u:=D7 (c:=c) 13 E
    clear y
    go_wp2_with(first
     |(go_at_call 280;clear o;apply (k 32 _ a.src).mono;clear i;rintro e z ⟨rfl,f,d⟩;rw[v];obtain⟨a,i⟩:=Er a f d;clear f d)
     |(go_at_call 280;clear q;apply (k 9 _ a.src).mono;clear i;rintro e P ⟨rfl,f,d⟩;rw[w];obtain⟨a,i⟩:=Er a f d;clear f d)
     |(go_at_call 280;clear r;apply (k 10 _ a.src).mono;clear i;rintro e Q ⟨rfl,f,d⟩;rw[t];obtain⟨a,i⟩:=Er a f d;clear f d)
     |(go_at_call 280;apply (k 13 _ a.src).mono;clear i;rintro e S ⟨rfl,f,d⟩;rw[u];obtain⟨a,i⟩:=Er a f d;clear f d)
     |(go_at_call 270;apply (cT _ a.src).mono;clear i;rintro e w6 ⟨rfl,f,d⟩;obtain⟨a,i⟩:=Er a f d;clear f d))
    go_roundg g
    case measure=>omega
    grind
  have m:D (R=.ok ((),p)):=by grind [M3]
  clear l;have v:=D7 (c:=c) 32 E;have w:=D7 (c:=c) 9 E;have t:=D7 (c:=c) 10 E;have u:=D7 (c:=c) 13 E;clear N
  go_wp2_with(first
   |(go_at_call 280;clear o;apply (k 32 _ a.src).mono;clear i;rintro e z ⟨rfl,f,d⟩;rw[v];obtain⟨a,i⟩:=Er a f d;clear f d)
   |(go_at_call 280;clear q;apply (k 9 _ a.src).mono;clear i;rintro e P ⟨rfl,f,d⟩;rw[w];obtain⟨a,i⟩:=Er a f d;clear f d)
   |(go_at_call 280;clear r;apply (k 10 _ a.src).mono;clear i;rintro e Q ⟨rfl,f,d⟩;rw[t];obtain⟨a,i⟩:=Er a f d;clear f d)
   |(go_at_call 280;apply (k 13 _ a.src).mono;clear i;rintro e S ⟨rfl,f,d⟩;rw[u];obtain⟨a,i⟩:=Er a f d;clear f d))
  go_end0;rw[AE m];exact⟨a.but,Z,a.src⟩
def KS(s:Cs):A5 Unit :=
 match s.bs[s.pos]? with
 |none=>.ok ((),s.pos)
 |some _=>if(s.pos:AI)=s.lim then .error (8,s.pos)else .error (9,s.pos)
theorem mW{s:Cs}(h:Ch W b s):Ar As 266 #[A8 b] W (GS W b s (λ_:Unit=>Af #[]) (KS s)):=by
 obtain⟨R,j⟩:=CA (KS s);rw[AE j];have d:=AE j;unfold KS at d;rcases Ji h with a|a|⟨c,a⟩
 .have f:D (R=.ok ((),s.pos)):=by show _=_;rw[Hm (by have:s.pos=O s.bs:=a;omega)]at d;exact d.symm
  have g:=Sg h a;have i:=G h;go_enter func266,ntmps266
  go_wp2_with(first
   |(go_at_call 269;apply g.mono;rintro e k ⟨rfl,n,rfl⟩))
  go_end0;rw[AE f];exact⟨Cg.of_below (Ip),Z,i.drewN n⟩
 .have f:D (R=.error (8,s.pos)):=by show _=_;rw[D3 a.1]at d;simp only[]at d;rw[Cn a.2]at d;exact d.symm
  have g:=Sh h a.1 a.2;go_enter func266,ntmps266
  go_wp2_with(first
   |(go_at_call 269;apply g.mono;rintro e k ⟨hF,n,rfl⟩;obtain rfl:=hF))
  rw[AE f];exact⟨Z,Cg.of_below (Ip),Z⟩
 have f:D (R=.error (9,s.pos)):=by show _=_;rw[a.1]at d;simp only[]at d;rw[Ci a.2]at d;exact d.symm
 have g:=Si h a.lt a.2;have p:=λV (t:Ch V b s)=>IL t a;have i:=G h;have u:=h.len;unfold maxLen at u;go_enter func266,ntmps266
 go_wp2_with(first
  |(go_at_call 269;apply g.mono;rintro e k ⟨rfl,n,rfl⟩;have m:=G (i.drewN n))
  |(go_at_call 270;apply (p _ m).mono;rintro e v ⟨rfl,r,q⟩;have o:=G r;have l:=G q)
  |(go_at_call 271;apply (FJ _ o).mono;rintro e w ⟨hF,rfl⟩;obtain rfl:=hF))
 rw[AE f];exact⟨rfl,(Cg.of_below (Ip)).trans l,by grind [CV,Cs.next]⟩
def Sk(z:AI):Aq:=Ai 281 (Ab .i64 z)
structure Fi(W:World)(ia:A4)(bs:A1):Prop where
 at_:∀i (h:i<bs.length),∃g off,ia=some ⟨g,off,none⟩/\g<W.heap.size/\W.cell? ⟨g,off+i,none⟩=some (.int .u8 (bs[i]'h).toNat)
 len:bs.length<=maxLen
theorem Fi.below{ia:A4}{bs:A1}(h:Fi W ia bs)(hb:A0 W W'):Fi W' ia bs :=
 ⟨λi d=>by obtain⟨g,off,b,a,c⟩:=h.at_ i d;exact⟨g,off,b,CK a hb.size,(hb.cell a).trans c⟩,h.len⟩
theorem mX{ia:A4}{bs:A1}{d l:J}(h:Fi W ia bs)(hb:A0 W W')(k:K (U W)<=b)(j:A7 W' b (Cs.arr ⟨ia,bs,cap,d,l,0,0⟩) 213):Ch W' b ⟨ia,bs,cap,d,l,0,0⟩ :=
 ⟨j,λi f=>by obtain⟨g,off,a,c,e⟩:=h.at_ i f;exact⟨g,off,a,E,(hb.cell c).trans e⟩,h.len,En _⟩
theorem Vo{ia:A4}{bs:A1}(cap:I){d l:J}(h:Fi W ia bs)(fm:J){v:I->Aq}(m:(fm=1/\v=λb=>Ai 215 (Ag #[A8 b]))\/∃f,((fm=2/\f=111)\/(fm=3/\f=112))/\v=λb=>Ai 218 (Ag #[A8 b,.func (.func f) #[] #[]])):Ar As 80 #[C Y fm,Ag #[C Y d,C Y l],T ia (O bs) cap] W λe c =>
   ∃b,e=Ak (v b)/\Ch c b ⟨ia,bs,cap,d,l,0,0⟩/\K (U W)<=b/\A0 W c:=by
 have i:=G h;have k:Below _ W (Az (Az W (M #[C Y d,C Y l] 94)) (M #[T ia (O bs) cap,C Y d,C Y l,C Y 0,C Y 0] 213)):=(Cl).alloc Ba _;have g:=Cj (Az W (M #[C Y d,C Y l] 94)) (o:=(M #[T ia (O bs) cap,C Y d,C Y l,C Y 0,C Y 0] 213));rw[CI]at g;have j:=G g;have a:=G k;rcases m with⟨rfl,rfl⟩|⟨f,⟨rfl,rfl⟩|⟨rfl,rfl⟩,rfl⟩
 all_goals
  go_enter func80,ntmps80;go_wp2;go_ret;exact⟨_,Z,mX i a E j,E,a⟩
theorem MW(h:A0 W V)(a:Cg b V V')(hb:K (U W)<=b):A0 W V' :=
 ⟨a.os.trans h.os,a.tape.trans h.tape,a.output.trans h.output,Cy h.size a.size,λk c=>(a.block k Bm E).trans (h.block k c)⟩
theorem Sl{α:Type}{K:Act->X->Prop}{x:Result α}{y:α}{k:α->X->Result Next}(h:x=.ok y w)(b:o.upon P a K Q (k y w)):o.upon P a K Q (x.andThen k):=by rw[h];exact b
def Gf(x:AH)(w:AI):AI:=if(w==1)=AP then wrap64 (IntKind.i8.wrap x)else if(w==2)=AP then wrap64 (IntKind.i16.wrap x)else if(w==4)=AP then wrap64 (wrap32 x)else wrap64 x
theorem mY(w:J)(_hx:x<18446744073709551616)(W:X):Ar As 308 #[C .u64 x,C Y w] W λe g=>e=Ak (C Y (Gf x w))/\g=W:=by
 obtain⟨R,b⟩:=CA (Gf x w);rw[AE b];have a:=AE b;unfold Gf at a;cases c:(w==1)
 .rw[c,Ci B8]at a;cases d:(w==2)
  .rw[d,Ci B8]at a;cases f:(w==4)
   .rw[f,Ci B8]at a;have b:=G a;go_enter func308,ntmps308;go_wp2;go_ret;simp_all
   rw[f,Cn rfl]at a;have b:=G a;go_enter func308,ntmps308;go_wp2;go_ret;simp_all
  rw[d,Cn rfl]at a;have b:=G a;go_enter func308,ntmps308;go_wp2;go_ret;simp_all
 rw[c,Cn rfl]at a;have b:=G a;go_enter func308,ntmps308;go_wp2;go_ret;simp_all
def Fj(so w:AI)(x:AH)(pos:AI):AS (AI×AI) AI :=
 if(so==5)=AP then .ok (Gf x w)else if 9223372036854775807<x then .error (10,pos-1)else if(so==6)=AP then .ok (-1-(x:AI))else .ok x
def Pj{α:Type}(W:Ap)(b:AH)(s:Cs)(val:α->Aq)(r:A5 α)(e:Ending)(W':Ap):Prop :=
 Cg b W W'/\match r with
 |.ok (x,p)=>e=Ak (val x)/\Ch W' b {s with pos:=p}
 |.error (en,pl)=>CV en pl e/\∃p,Ch W' b {s with pos:=p}
def mZ(W:Ap)(b:AH)(s:Cs)(r:AS (AI×AI) AI)(e:Ending)(W':Ap):Prop :=
 Cg b W W'/\match r with
 |.ok z=>e=Ak (Ab .i64 z)/\Ch W' b s
 |.error (en,pl)=>CV en pl e/\∃p,Ch W' b {s with pos:=p}
structure O4(W0:World)(b N:Nat)(fv:Value)(so w:Int)(g:Nat)(s:Cs)(W:World):Prop where
 src:Ch W b s
 but:Cg b W0 W
 box:W.heap[N]?=some (.cells #[A8 b,fv] 218)
 hd:W.heap[N+1]?=some (.cells #[.int .i64 so,.int .i64 w,.int .u64 g] 275)
 ne:b<N
theorem O4.step{fv:Aq}{so w:J}{s s':Cs}(h:O4 W0 b N fv so w g s W)(a:Ch W' b s')(hb:Cg b W W'):O4 W0 b N fv so w g s' W' :=
 ⟨a,h.but.trans hb,(hb.block _ (Cc h.box) (AY h.ne)).trans h.box,(hb.block _ (Cc h.hd) (AY h.ne)).trans h.hd,h.ne⟩
theorem ZH{s:Cs}{fv:Aq}{so w:J}(h:Ch W b s):O4 W b (K (U W)) fv so w g s (Az (Az W (M #[Ad (H ⟨b,0,Ao⟩),fv] 218)) (M #[C Y so,C Y w,C .u64 g] 275)):=by
 have a:Below _ W (Az (Az W (M #[Ad (H ⟨b,0,Ao⟩),fv] 218)) (M #[C Y so,C Y w,C .u64 g] 275)):=(Cl).alloc Ba _;refine⟨h.below a,Cg.of_below a,?_,?_,(Cc h.row)⟩
 .have:=Cj W (o:=(M #[Ad (H ⟨b,0,Ao⟩),fv] 218));rw[<-this];exact(((Cq (K (U W)+1) _).alloc Ba _).block _ E)
 grind [Cj,World.size_alloc]
theorem n8{s:Cs}(f:I)(d w:J)(g:I)(hx:x<18446744073709551616)(h:Ch W b s):Ar As 303 #[Ag #[A8 b,.func (.func f) #[] #[]],Ag #[C Y d,C Y w,C .u64 g],C .u64 x] W (mZ W b s (Fj d w x s.pos)):=by
 have a:D (O4 W b _ _ d w g s (Az (Az W (M #[.pointer _,.func (.func f) #[] #[]] _)) _)):=ZH h;obtain⟨R,i⟩:=CA (Fj d w x s.pos);rw[AE i];have c:=AE i;unfold Fj at c;have q:=Cb a.box 0;have r:=Cb a.hd 0;have t:=Cb a.hd 1;cases j:(d==5)
 .rw[j,Ci B8]at c;by_cases l:9223372036854775807<x
  .rw[Cn l]at c;subst c;have n:=FJ 10 a.src;have o:AR ((9223372036854775807:J)<x)=AP:=B7;go_enter func303,ntmps303
   go_wp2_with(first
    |(go_at_call 271;apply n.mono;rintro e p ⟨hF,rfl⟩;obtain rfl:=hF))
   exact⟨Z,a.but,Z,_,a.src⟩
  rw[Ci l]at c;have o:AR ((9223372036854775807:J)<x)=AQ:=B7;cases k:(d==6)
  .rw[k,Ci B8]at c;subst c;go_enter func303,ntmps303;go_wp2;go_ret;exact⟨a.but,Z,a.src⟩
  rw[k,Cn rfl]at c;subst c;go_enter func303,ntmps303;go_wp2;go_ret;exact⟨a.but,Z,a.src⟩
 rw[j,Cn rfl]at c;subst c;have m:=λV=>mY w hx V;go_enter func303,ntmps303
 go_wp2_with(first
  |(go_at_call 308;apply (m _).mono;rintro e p ⟨rfl,rfl⟩))
 go_ret;exact⟨a.but,Z,a.src⟩
def CR(bs:A1)(lim:AI):AH->AH->AH->A5 AH
 |0,p,a=>.ok (a,p)
 |k+1,p,a=>match bs[p]? with
  |none=>.error (9,p)
  |some c=>if(p:AI)=lim then .error (8,p)else CR bs lim k (p+1) (a*256+c.toNat)
theorem n9{a c:I}(f:a<72057594037927936)(g:c<256):bits .or .u64 ((a:J)*256) (c:J)=((a*256+c:I):J):=by
 have b:BitVec.ofInt 64 (a*256)=BitVec.ofNat 64 (a*256):=by rw[show(a*256)=((a*256:I):J) by simp];exact NO ..
 have d:BitVec.ofInt 64 _=BitVec.ofNat 64 c:=NO ..;have e:(BitVec.ofNat 64 (a*256)|||BitVec.ofNat 64 c).toNat=a*256+c:=by rw[BitVec.toNat_or,NT,NT,LU E,LU E];have:=Nat.shiftLeft_add_eq_or_of_lt (i:=8) E a;grind [Nat.shiftLeft_eq]
 show IntKind.u64.wrap ((BitVec.ofInt 64 ((a:J)*256)|||BitVec.ofInt 64 (c:J)).toNat:J)=_;grind [IntKind.wrap,IntKind.bits,IntKind.signed]
theorem Vp{s:Cs}(f:I)(q:J){w:I}(hw:w<=8)(S:w=0\/g=0)(h:Ch W b s):Ar As 302 #[Ag #[A8 b,.func (.func f) #[] #[]],Ag #[C Y q,C Y w,C .u64 g]] W (Pj W b s (λx:I=>C .u64 x) (CR s.bs s.lim w s.pos g)):=by
 have p:D (O4 W b _ _ q w g s (Az (Az W (M #[.pointer _,.func (.func f) #[] #[]] _)) _)):=ZH h;obtain⟨R,l⟩:=CA (CR s.bs s.lim w s.pos g);rw[AE l];have k1:=Cb p.hd 1;have k2:=Cb p.hd 2;have A:=G S;go_enter func302,ntmps302;go_wp2
 go_loopg[5,10] w (λm y z wr=>∃(k i:I),y=C .u64 i/\z=C Y k/\D (m+k=w)/\D (m=0\/i<256^k)/\D (O4 W b (K (U W)) (.func (.func f) #[] #[]) q w g {s with pos:=s.pos+k} wr)/\D (CR s.bs s.lim m (s.pos+k) i=R))
 case atStart=>exact⟨0,g,rfl,rfl,rfl,B9,p,l⟩
 case round =>
  clear p l A;obtain⟨k,i,rfl,rfl,t,ha,a,l⟩:=hrel;have kb:=Cb a.box 0;obtain _|m:=gk
  .have e:k=w:=AY (AE t);subst e;have n:D (R=.ok _):=l.symm;go_wp2;go_ret;rw[AE n];exact⟨a.but,Z,a.src⟩
  have ac:k<w:=AY (AE t);have N:i<256^k:=by grind [D]
  have P:i<72057594037927936:=CK N (Cy (NP B8 (show k<=7 from E)) B8);rcases Ji a.src with d|d|⟨c,d⟩
  .have n:D (R=.error (9,(s.pos+k:I))):=by show _=_;rw[<-AE l,CR,Hm (by have:s.pos+k=O s.bs:=d;omega)]
   have o:=Ka a.src d
   go_wp2_with(first
    |(go_at_call 270;apply o.mono;rintro e u ⟨hF,j⟩;obtain rfl:=hF))
   rw[AE n];exact⟨Z,a.but.trans (Cg.of_below j),Z,_,a.src.below j⟩
  .have n:D (R=.error (8,(s.pos+k:I))):=by show _=_;have V:=d.2;have h3:=d.1;grind [D,CR]
   have o:=Kb a.src d
   go_wp2_with(first
    |(go_at_call 270;apply o.mono;rintro e u ⟨hF,j⟩;obtain rfl:=hF))
   rw[AE n];exact⟨Z,a.but.trans (Cg.of_below j),Z,_,a.src.below j⟩
  have aa:=d.1;have ab:=d.2;have B:D (CR s.bs s.lim m (s.pos+(k+1)) (i*256+c.toNat)=R):=keI;have Q:=c.toNat_lt;have ho:=n9 P Q;have v:D (i*256+c.toNat<256^(k+1)):=by grind [D]
  have o:Ar _ _ _ wr λe r=>e=Ak _/\Ch r b {s with pos:=s.pos+(k+1)}/\Cg b wr r:=IL a.src d
  go_wp2_with(first
   |(go_at_call 270;apply o.mono;rintro e u ⟨rfl,L,j⟩;have F:=G (a.step L j)))
  go_roundg m
  case measure=>omega
  case rel=>exact⟨_,_,Ba,Bb,B9,.inr v,F,B⟩
def FK(u:AH):AH:=if u=0 then 4 else if u=1 then 6 else if u=2 then 7 else if u=3 then 8 else if u=4 then 9 else if u=5 then 10 else 0
def E2(c:AH):AH×AH×AH :=
 if c=244 then(2,0,0)else if c=245 then(3,0,0)else if c=246 then(1,0,0)else
 if FK (c/32)=0\/27<c%32 then(0,0,0)else if 24<=c%32 then(FK (c/32),2^(c%32-24),0)else(FK (c/32),0,c%32)
def MX:AJ (AH×AH):=[(1,0),(0,0),(2,0),(3,0),(7,1),(7,2),(7,4),(0,0),(0,0),(0,0),(0,0),(0,0),(4,1),(4,2),(4,4),(4,8),(5,1),(5,2),(5,4),(5,8),(0,0),(0,0),(0,0),(0,0),(0,0),(8,1),(8,2),(8,4),(9,2),(9,4),(10,2),(10,4)]
def Dy(c:AH):AH×AH×AH :=
 if c<128 then(4,0,c)else if c<144 then(10,0,c-128)else if c<160 then(9,0,c-144)else if c<192 then(8,0,c-160)else
 if c<224 then((MX.getD (c-192) (0,0)).1,(MX.getD (c-192) (0,0)).2,0)else(5,0,18446744073709551360+c)
structure Iq(W:World):Prop where
 cb:∀u,u<8->W.cell? ⟨0,u,none⟩=some (.int .i64 (FK u))
 pk:∀u,u<32->W.cell? ⟨1,u*3,none⟩=some (.int .i64 (MX.getD u (0,0)).1)/\W.cell? ⟨1,u*3+1,none⟩=some (.int .i64 (MX.getD u (0,0)).2)/\W.cell? ⟨1,u*3+2,none⟩=some (.int .u64 0)
def Vq(x:AH×AH×AH):A3:=#[Ab .i64 x.1,Ab .i64 x.2.1,Ab .u64 x.2.2]
theorem O5:(prog.info? 275).map (·.size)=H 3:=B6
theorem Ln{cs:A3}(a:cs.size=3){tmps:A3}(b:tmps.getD 2 AO=A8 (K (U W))){fn:Func}(h:fn.results=#[.cell 2 275]):(results fn tmps).run As (Az W (M cs 275))=.ok (.agg cs) (Az W (M cs 275)) :=
 KE h tmps _ (K (U W)) 275 cs (0,0) _ b (Cj _) underlying275 rfl (by rw[a];exact O5)
theorem na(hx:x<256):bits .and .u8 (x:J) 31=((x%32:I):J):=by
 have a:BitVec.ofInt 8 _=BitVec.ofNat 8 x:=NO ..;have b:(BitVec.ofNat 8 x&&&BitVec.ofInt 8 31).toNat=x%32:=by rw[Z0,NT,LU E];exact Yw x 5
 show IntKind.u8.wrap ((BitVec.ofInt 8 (x:J)&&&BitVec.ofInt 8 31).toNat:J)=_;grind [IntKind.wrap,IntKind.bits]
theorem nc{u:I}(a:¬u=0)(b:((u:J)==0)=AP\/(27:J)<(x:J)%32):27<x%32:=B9
theorem Lo{cs:A3}:A0 W (Az W (M cs 275)):=Cl
theorem ng(hx:x<256)(h:Iq W):Ar As 111 #[C .u8 x] W λe c=>e=Ak (.agg (Vq (E2 x)))/\A0 W c:=by
 by_cases d:x=244
 .subst d;go_enter func111,ntmps111;go_wp2;exact CL (Ln Z Z results111) Z ⟨Z,Lo⟩
 by_cases f:x=245
 .subst f;go_enter func111,ntmps111;go_wp2;exact CL (Ln Z Z results111) Z ⟨Z,Lo⟩
 by_cases c2:x=246
 .subst c2;go_enter func111,ntmps111;go_wp2;exact CL (Ln Z Z results111) Z ⟨Z,Lo⟩
 have i:((x:J)==244)=AQ:=B7;have j:((x:J)==245)=AQ:=B7;have k:((x:J)==246)=AQ:=B7;have m:=na hx;have g:x/32<8:=E;have a:=h.cb _ g;have n:(Az W (M #[C Y 0,C Y 0,C .u64 0] 275)).cell? _=H _:=(IV W _ _ keF).trans a;have b:D (E2 x=if FK (x/32)=0\/27<x%32 then(0,0,0)else if 24<=x%32 then(FK (x/32),2^(x%32-24),0)else(FK (x/32),0,x%32)):=by grind [D,E2]
 go_enter func111,ntmps111;go_wp2
 all_goals refine CL (Ln rfl rfl results111) rfl ⟨?_,Lo⟩
 all_goals rw[AE b]
 .rename_i h0;rw[Cn (.inl h0)];rfl
 .rename_i h0 h1;rw[Cn (.inr (nc h0 h1))];rfl
 .rename_i h0 h1 h2;rw[Ci (AY h1.2),Cn E];have e:wrap64 (2^(x%32-24))=(2^(x%32-24):I):=by have l:x%32-24=0\/x%32-24=1\/x%32-24=2\/x%32-24=3:=AY h1.2;grind [wrap64]
  rw[e];rfl
 grind [Vq]
theorem nh(h:224<=x)(hx:x<256):IntKind.u64.wrap (IntKind.i8.wrap (x:J))=((18446744073709551360+x:I):J):=Bi
theorem ni(hx:x<256)(h:Iq W):Ar As 112 #[C .u8 x] W λe t=>e=Ak (.agg (Vq (Dy x)))/\A0 W t:=by
 by_cases d:x<128
 .have b:D (Dy x=(4,0,x)):=by grind [D,Dy]
  have m:AR ((x:J)<128)=AP:=B7;have B:IntKind.u64.wrap (x:J)=x:=by grind [IntKind.wrap,IntKind.bits]
  go_enter func112,ntmps112;go_wp2;refine CL (Ln Z Z results112) Z ⟨?_,Lo⟩;rw[AE b];rfl
 by_cases g:192<=x/\x<224
 .have b:D (Dy x=((MX.getD (x-192) (0,0)).1,(MX.getD (x-192) (0,0)).2,0)):=by grind [D,Dy]
  obtain⟨j,k,l⟩:=h.pk (x-192) E;obtain⟨u,w⟩:∃u:I,x=192+u:=⟨x-192,E⟩
  subst w;have p:192+u-192=u:=E;rw[p]at j k l;have F:(Az W (M #[C Y 0,C Y 0,C .u64 0] 275)).cell? ⟨1,u*3,Ao⟩=_:=(IV W _ _ (by rw[j];rfl)).trans j;have L:(Az W (M #[C Y 0,C Y 0,C .u64 0] 275)).cell? ⟨1,u*3+1,Ao⟩=_:=(IV W _ _ BV).trans k;have N:(Az W (M #[C Y 0,C Y 0,C .u64 0] 275)).cell? ⟨1,u*3+2,Ao⟩=_:=(IV W _ _ (by rw[l];rfl)).trans l;have A:u<32:=E;go_enter func112,ntmps112;go_wp2
  all_goals refine CL (Ln rfl rfl results112) rfl ⟨?_,Lo⟩
  all_goals rw[AE b,p]
  all_goals rfl
 by_cases c2:x<192
 .obtain⟨R,b⟩:=CA (Dy x);rw[AE b];have a:=AE b;unfold Dy at a;rw[Ci d]at a;have y:D (128<=x/\x<192):=⟨E,c2⟩
  have m:AR ((x:J)<128)=AQ:=B7;by_cases f:x<144
  .rw[Cn f]at a;have n:AR ((x:J)<144)=AP:=B7;have c:=G a.symm;clear a b h hx d g c2 f;go_enter func112,ntmps112;go_wp2;refine CL (Ln Z Z results112) Z ⟨?_,Lo⟩;rw[AE c,show((x:J)-128)%256=((x-128:I):J) by grind];rfl
  rw[Ci f]at a;have n:AR ((x:J)<144)=AQ:=B7;by_cases i:x<160
  .rw[Cn i]at a;have o:AR ((x:J)<160)=AP:=B7;have c:=G a.symm;have s:D (144<=x):=Bp;clear a b h hx d g c2 f i;go_enter func112,ntmps112;go_wp2;refine CL (Ln Z Z results112) Z ⟨?_,Lo⟩;rw[AE c,show((x:J)-144)%256=((x-144:I):J) by grind];rfl
  rw[Ci i,Cn c2]at a;have o:AR ((x:J)<160)=AQ:=B7;have v:AR ((x:J)<192)=AP:=B7;have c:=G a.symm;have s:D (160<=x):=Bp;clear a b h hx d g c2 f i;go_enter func112,ntmps112;go_wp2;refine CL (Ln Z Z results112) Z ⟨?_,Lo⟩;rw[AE c,show((x:J)-160)%256=((x-160:I):J) by grind];rfl
 have b:D (Dy x=(5,0,18446744073709551360+x)):=by grind [D,Dy]
 have m:AR ((x:J)<128)=AQ:=B7;have n:AR ((x:J)<144)=AQ:=B7;have o:AR ((x:J)<160)=AQ:=B7;have v:AR ((x:J)<192)=AQ:=B7;have z:AR ((x:J)<224)=AQ:=B7;have q:=nh E hx;have r:=G q;clear h hx d g c2 q;go_enter func112,ntmps112;go_wp2;refine CL (Ln Z Z results112) Z ⟨?_,Lo⟩;rw[AE b,AE r];rfl
def I6(s:AH×A1)(t:A1×AK):AK:=if s.1=0 then AP else if s.1=1 then AQ else if s.1=2 then t.2 else !t.2&&t.1==s.2
def LE(s:AH×A1)(p:AJ (A1×AK))(f:AH->AK):AH->AK
 |0=>if s.1=1 then f 0 else AQ
 |k+1=>if s.1=1 then(List.range (k+2)).any f else f k&&(match p[k]? with|some t=>I6 s t|none=>AQ)
def J5:AJ (AH×A1)->AJ (A1×AK)->(AH->AK)->AH->AK
 |[],_,f=>f
 |s::ss,p,f=>J5 ss p (LE s p f)
def Nu(ss:AJ (AH×A1))(p:AJ (A1×AK)):AK:=J5 ss p (λk=>k==0) (At p)
theorem X7{s:I×A1}{p:AJ (A1×AK)}:∀(ss:AJ (I×A1)) (f:I->AK),J5 (ss++[s]) p f=LE s p (J5 ss p f)
 |[],_=>rfl
 |x::ss,f=>by show J5 (ss++[s]) p _=_;rw[X7 ss];rfl
def I7(ss:AJ (AH×A1))(k:AH):AK:=match ss[k]? with
 |some s=>s.1==1
 |none=>AQ
def Oy(ss:AJ (AH×A1))(t:A1×AK)(k:AH):AK:=match ss[k]? with
 |some s=>I6 s t
 |none=>AQ
def Mo(ss:AJ (AH×A1))(P:AH->AK):AH->AK
 |0=>P 0
 |k+1=>P (k+1)||(I7 ss k&&Mo ss P k)
def PM(ss:AJ (AH×A1))(t:A1×AK)(P:AH->AK):AH->AK
 |0=>P 0&&I7 ss 0
 |k+1=>(P (k+1)&&I7 ss (k+1))||(P k&&Oy ss t k)
def LF(ss:AJ (AH×A1)):AJ (A1×AK)->AH->AK
 |[]=>Mo ss (λk=>k==0)
 |t::r=>Mo ss (PM ss t (LF ss r))
def rF(ss:AJ (AH×A1))(p:AJ (A1×AK))(k:AH):AH->AK:=J5 (ss.take k) p (λn=>n==0)
theorem fO(a:AJ (I×A1))(p:AJ (A1×AK))(n:I):rF a p 0 n=(n==0):=rfl
theorem fP{ss:AJ (I×A1)}{s:I×A1}(h:ss[k]?=H s)(p:AJ (A1×AK)):rF ss p (k+1)=LE s p (rF ss p k):=by grind [rF,List.take_add_one,X7]
def gF(ss:AJ (AH×A1))(p:AJ (A1×AK))(k j:AH):AK:=if I7 ss k then(List.range (j+1)).any (rF ss p k)else rF ss p k j
theorem vw(f:I->AK)(j:I):(List.range (j+1)).any f=((List.range j).any f||f j):=B9
theorem fQ{ss:AJ (I×A1)}{p:AJ (A1×AK)}:∀(j:I),j<=O p->∀k,k<=O ss->LF ss (p.take j).reverse k=gF ss p k j
 |0,_,k,hk=>by
  rw[RX,kN,LF]
  induction k with
  |zero=>grind [gF,I7,Mo,fO]
  |succ k a =>
   have a:=a E;rw[Mo,a];obtain⟨s,b⟩:∃s,ss[k]?=H s:=⟨ss[k],D3 E⟩
   have e:gF ss p k 0=rF ss p k 0:=by grind [gF,I7]
   have f:gF ss p (k+1) 0=rF ss p (k+1) 0:=by grind [gF,I7]
   have d:I7 ss k=(s.1==1):=by unfold I7;rw[b]
   rw[e,f,fP b,LE,d];grind
 |j+1,hj,k,hk=>by
  obtain⟨t,h⟩:∃t,p[j]?=H t:=⟨p[j],D3 E⟩
  have g:(p.take (j+1)).reverse=t::(p.take j).reverse:=BM;rw[g,LF];have c:∀k,k<=O ss->LF ss (p.take j).reverse k=gF ss p k j:=fQ j E;generalize hP:LF ss (p.take j).reverse=P;rw[hP]at c
  induction k with
  |zero =>
   grind [Mo,PM,gF,fO]
  |succ k a =>
   have a:=a E;obtain⟨s,b⟩:∃s,ss[k]?=H s:=⟨ss[k],D3 E⟩
   have d:I7 ss k=(s.1==1):=by unfold I7;rw[b]
   have i:Oy ss t k=I6 s t:=by unfold Oy;rw[b]
   rw[Mo,PM,a,c (k+1) hk,c k E];have key:((gF ss p k j&&Oy ss t k)||(I7 ss k&&gF ss p k (j+1)))=rF ss p (k+1) (j+1):=by rw[fP b,LE,h];grind [gF]
   grind [gF]
theorem vx{ss:AJ (I×A1)}{p:AJ (A1×AK)}:LF ss p.reverse (O ss)=Nu ss p:=by
 have h:=fQ (O p) (Co _) (O ss) (Co _);rw[LV]at h;rw[h];unfold gF;have e:I7 ss (O ss)=AQ:=by grind [I7,List.getElem?_eq_none]
 rw[e,Ci Ba];unfold rF Nu;rw[LV]
def Cw(P:AH->AH):A3:=_root_.List.toArray ((List.range 16).map λi=>Value.int .u16 (P i))
theorem Mp(P:I->I):(Cw P).size=16:=by simp[Cw]
theorem L6(P:I->I)(a:r<16):(Cw P)[r]?=H (C .u16 (P r)):=by simp[Cw,a]
theorem fS(a:I):BitVec.ofInt 16 (a:J)=BitVec.ofNat 16 a:=NO ..
theorem Tx(a b:I)(c:a<65536)(hb:b<65536):bits .and .u16 (a:J) (b:J)=((a&&&b:I):J):=by have h:(BitVec.ofNat 16 a&&&BitVec.ofNat 16 b).toNat=a&&&b:=B9;show IntKind.u16.wrap ((BitVec.ofInt 16 (a:J)&&&BitVec.ofInt 16 (b:J)).toNat:J)=_;grind [fS,IntKind.wrap,IntKind.bits,IntKind.signed]
theorem X8{a:I}(c:a<65536)(hb:b<65536):bits .or .u16 (a:J) (b:J)=((a|||b:I):J):=by have h:(BitVec.ofNat 16 a|||BitVec.ofNat 16 b).toNat=a|||b:=B9;show IntKind.u16.wrap ((BitVec.ofInt 16 (a:J)|||BitVec.ofInt 16 (b:J)).toNat:J)=_;grind [fS,IntKind.wrap,IntKind.bits,IntKind.signed]
theorem Mq(x:I)(h:x<65536):IntKind.u16.wrap (x:J)=(x:J):=Bi
theorem vy(k:I)(hx:x<65536):(bits .and .u16 ((x:J)/2^k) 1==1)=x.testBit k:=by have e:((x:J)/2^k)=((x/2^k:I):J):=Ba;have a:x/2^k<65536:=Nat.lt_of_le_of_lt (Nat.div_le_self _ _) hx;have:=Tx (x/2^k) 1 a E;grind
theorem vz(W:X){P:I->I}(k:I)(c:r<16)(g:k<16)(b:P r<65536):Ar As 178 #[.agg (Cw P),C Y r,C Y k] W λe a=>e=Ak (Ah ((P r).testBit k))/\A0 W a:=by have d:=L6 P c;have f:=vy k b;go_enter func178,ntmps178;go_wp2;go_ret;exact⟨Z,Cl⟩
theorem Ty(P:I->I)(r:I)(x:I):Ay (Cw P) r (C .u16 x)=Cw (λi=>if i=r then x else P i):=by grind [Cw]
theorem Mr(i dst:I)(v:Aq)(hi:ops[i]?=H oi)(b:(Region.noSelect ops&&Region.free md ops listed i&&(Region.ready md ops listed).contains i&&oi.dst==H dst&&Region.wanted oi (yielded ops a.tmps))=AP)(e:∀c a w,Q (.panic c) (a.put (H dst) v) w->Q (.panic c) a w)(hy:∀d,(execOp a.eval oi).run P d=.ok (.value v) d)(h:wpAny P md ops Q fuel (Ay listed i AP) (a.put (H dst) v) w):wpAny P md ops Q (fuel+1) listed a w:=by simp only[F3]at b;have f:oi.dst=H dst:=BU;rw[<-f]at e h;exact wpAny_take hi b.1.1.1.1 b.1.1.1.2 b.1.1.2 e (.inl ⟨b.2,hy⟩) h
theorem Rm{o:I}(n:r<16)(l:k<16)(f:x<65536)(j:A6 W g (o+r) (C .u16 x))(i:W.frozen? ⟨g,o+r,Ao⟩=AQ):Ar As 140 #[A9 g o,C Y r,C Y k] W λe c=>e=Ak (Af #[])/\c=W.drew.setCell ⟨g,o+r,Ao⟩ (C .u16 ((x|||2^k:I):J)):=by
 have p:(r:J)<16:=E;have d:(2^k:I)<65536:=by have:(2^k:I)<=2^15:=NP B8 E;omega
 have q:IntKind.u16.wrap (2^k)=2^k:=by grind [Mq]
 have m:bits .or .u16 (x:J) (2^k)=((x|||2^k:I):J):=by have:=X8 f d;grind
 go_enter func140,ntmps140;go_wp2;refine RZ B6 ?_;change wpAny _ _ _ _ _ _ _ (World.drew W);refine Mr 0 6 (A9 g o) Z B6 (λ_ _ _ h=>h) (λ_=>B6) ?_;refine Mr 1 7 (C Y r) Z B6 (λ_ _ _ h=>h) (λ_=>B6) ?_;refine Mr 2 8 (A9 g o) Z B6 (λ_ _ _ h=>h) (λ_=>B6) ?_;refine Mr 3 9 (A9 g (o+r)) Z B6 (λ_ _ _ h=>h) (λ_=>?y3) ?_
 case y3=>go_simp
 refine Mr 5 11 (C Y k) Z B6 (λ_ _ _ h=>h) (λ_=>B6) ?_;refine Mr 6 12 (C .u16 ((2^k:I):J)) Z B6 (λ_ _ _ h=>h) (λ_=>?y6) ?_
 case y6=>go_simp
 refine Mr 8 14 (A9 g o) Z B6 (λ_ _ _ h=>h) (λ_=>B6) ?_;refine EG 4 Z B6 (λb a=>?_);go_simp;refine a _ _ ?_;refine Mr 7 13 (C .u16 ((x|||2^k:I):J)) Z B6 (λ_ _ _ h=>h) (λ_=>?y7) ?_
 case y7=>go_simp
 refine Mr 9 15 (A9 g (o+r)) Z B6 (λ_ _ _ h=>h) (λ_=>?y9) ?_
 case y9=>go_simp
 refine EG 10 Z B6 (λb a=>?_);go_simp;refine a _ _ ?_;refine UY B6 ?_ _;go_simp;go_wp2;go_end0;exact⟨Z,Z⟩
structure Oz(w:World)(a:A4)(ss:List (Nat×A1)):Prop where
 at_:∀i (h:i<ss.length),∃b off,a=some ⟨b,off,none⟩/\b<w.heap.size/\w.cell? ⟨b,off+i*2,none⟩=some (.int .i64 ss[i].1)/\w.cell? ⟨b,off+i*2+1,none⟩=some (.string ⟨ss[i].2.toArray⟩)
theorem Oz.below{a:A4}{ss:AJ (I×A1)}(h:Oz w a ss)(hb:A0 w w'):Oz w' a ss :=
 ⟨λi g=>by obtain⟨b,off,f,c,d,e⟩:=h.at_ i g;exact⟨b,off,f,CK c hb.size,(hb.cell (p:=⟨b,_,Ao⟩) c).trans d,(hb.cell (p:=⟨b,_,Ao⟩) c).trans e⟩⟩
structure J6(w:World)(a:A4)(rs:List (List (Nat×A1)×Int×Int)):Prop where
 at_:∀i (h:i<rs.length),∃b off pa pc,a=some ⟨b,off,none⟩/\b<w.heap.size/\w.cell? ⟨b,off+i*3,none⟩=some (.slice pa rs[i].1.length pc)/\w.cell? ⟨b,off+i*3+1,none⟩=some (.int .i64 rs[i].2.1)/\w.cell? ⟨b,off+i*3+2,none⟩=some (.int .i64 rs[i].2.2)/\Oz w pa rs[i].1
theorem J6.below{a:A4}{rs:AJ (AJ (I×A1)×J×J)}(h:J6 w a rs)(hb:A0 w w'):J6 w' a rs :=
 ⟨λi k=>by obtain⟨b,off,l,m,j,c,d,e,f,g⟩:=h.at_ i k;exact⟨b,off,l,m,j,CK c hb.size,(hb.cell (p:=⟨b,_,Ao⟩) c).trans d,(hb.cell (p:=⟨b,_,Ao⟩) c).trans e,(hb.cell (p:=⟨b,_,Ao⟩) c).trans f,g.below hb⟩⟩
def Eu(dflt:AI):AJ (AJ (AH×A1)×AI×AI)->(AH->AH)->AH->AI×AI
 |[],_,_=>(dflt,1)
 |x::rs,P,r=>if(P r).testBit (At x.1)then x.2 else Eu dflt rs P (r+1)
theorem FO(P:I->I):(prog.info? 183).map (·.size)=H (Cw P).size:=by rw[Mp];kernel_rfl
structure PN(W:World)(P:Nat->Nat)(V:World):Prop where
 box:V.heap[W.heap.size]?=some (.cells (Cw P) 183)
 below:A0 W V
theorem PN.next{P:I->I}(h:PN W P V)(hb:A0 V V'):PN W P V' :=
 ⟨(hb.block _ (Cc h.box)).trans h.box,h.below.trans (hb.mono h.below.size)⟩
theorem vA(W:X)(P:I->I):PN W P (Az W (M (Cw P) 183)):=⟨Cj _,Cl⟩
theorem vB{A:I}{ra:A4}{rc:I}{dflt:J}{rs:AJ (AJ (I×A1)×J×J)}(P:I->I)(y:∀r,P r<65536)(hn:O rs<=16)(w:∀i (h:i<O rs),rs[i].1.length<=8)(x:A<K (U W))(R:A6 W A 0 (T ra (O rs) rc))(v:A6 W A 1 (C Y dflt))(F:J6 W ra rs):Ar As 141 #[A8 A,.agg (Cw P)] W λe u=>e=Ak (Af #[C Y (Eu dflt rs P 0).1,C Y (Eu dflt rs P 0).2])/\A0 W u:=by
 have t:=G F;go_enter func141,ntmps141;go_wp2
 go_loopg[13] (O rs) (λg z wr=>∃k:I,z=C Y k/\D (k+g=O rs)/\D (PN W P wr)/\D (Eu dflt rs P 0=Eu dflt (rs.drop k) P k))
 case atStart=>grind [vA]
 case round =>
  obtain⟨k,rfl,m,d,s⟩:=hrel;have S:=(d.below.cell (p:=⟨A,_,Ao⟩) x).trans v;obtain _|g:=gk
  .have B:¬(k:J)<(O rs:J):=AY (AE m);have a:D (Eu dflt rs P 0=(dflt,1)):=by have h:=AE s;rw[OZ (AY (AE m))]at h;exact h
   go_wp2;refine CL (Fw results141 _ _ _) Z ⟨?_,d.below⟩;rw[AE a];rfl
  have o:k<O rs:=AY (AE m);have B:(k:J)<(O rs:J):=E;obtain⟨b,off,L,N,rfl,hb,e0,e1,e2,_⟩:=(t.below d.below).at_ k o;have aa:=w k o;have j:=λV=>vz V rs[k].1.length E E (y k);have Q:D (Eu dflt (rs.drop k) P k=if(P k).testBit rs[k].1.length then rs[k].2 else Eu dflt (rs.drop (k+1)) P (k+1)):=by grind [List.drop_eq_getElem_cons,Eu]
  have f:D (PN W P (Az wr (M #[T L rs[k].1.length N,C Y rs[k].2.1,C Y rs[k].2.2] 249))):=d.next Cl
  cases q:(P k).testBit rs[k].1.length
  .rw[q]at j;have a:D (Eu dflt rs P 0=Eu dflt (rs.drop (k+1)) P (k+1)):=by grind [D]
   go_wp2_with(first
    |(refine CT Z 183 (.tmp 3) Z (K (U W)) Z _ _ _ _ f.box underlying183 Z (FO P) ?_)
    |(go_at_call 178;refine(j _).mono ?_;rintro e n ⟨rfl,c⟩;have l:=G (f.next c)))
   go_roundg g
   case measure=>omega
   case rel=>exact⟨k+1,Bb,B9,l,a⟩
  rw[q]at j;have a:D (Eu dflt rs P 0=rs[k].2):=by grind [D]
  go_wp2_with(first
   |(refine CT Z 183 (.tmp 3) Z (K (U W)) Z _ _ _ _ f.box underlying183 Z (FO P) ?_)
   |(go_at_call 178;refine(j _).mono ?_;rintro e n ⟨rfl,c⟩;have l:=G (f.next c);have r1:A6 n (K (U wr)) 1 (C Y rs[k].2.1):=Cb ((c.block _ Ba).trans (Cj _)) 1;have r2:A6 n (K (U wr)) 2 (C Y rs[k].2.2):=Cb ((c.block _ Ba).trans (Cj _)) 2))
  go_quiet (fail)
  go_wp2;refine CL (Fw results141 _ _ _) Z ⟨?_,l.below.trans ⟨Z,Z,Z,Co _,λ_ _=>rfl⟩⟩;rw[AE a];rfl
def w1(st x:AH):AH:=x|||((x&&&st)<<<1)
def Ko(st x:AH):AH->AK
 |0=>x.testBit 0
 |k+1=>x.testBit (k+1)||(st.testBit k&&Ko st x k)
theorem X9(st x k:I):(w1 st x).testBit k=(x.testBit k||(AR (1<=k)&&(x.testBit (k-1)&&st.testBit (k-1)))):=by unfold w1;grind
theorem vC(c:st<256)(hx:x<512):w1 st x<512:=by have b:x&&&st<2^8:=P4 _ E;have a:(x&&&st)<<<1<2^9:=E;exact YT (n:=9) E a
theorem vD(st x:I):x<=w1 st x:=Nat.left_le_or
structure OA(P st:Nat->Nat)(n:Nat)(X:Nat->Nat):Prop where
 lo:∀r,r<n->∀k,(P r).testBit k=true->(X r).testBit k=true
 hi:∀r,r<n->∀k,(X r).testBit k=true->Ko (st r) (P r) k=true
 off:∀r,n<=r->X r=P r
 lt:∀r,X r<512
theorem vE(h:x.testBit k=AP):Ko st x k=AP:=by cases k<;>grind [Ko]
theorem vF{P:I->I}(st:I->I)(n:I)(a:∀r,P r<512):OA P st n P:=⟨λ_ _ _ h=>h,λ_ _ _ h=>vE h,λ_ _=>rfl,a⟩
def Ff(st X:AH->AH)(n:AH):AH->AH:=λr=>if r<n then w1 (st r) (X r)else X r
theorem OA.step{P st:I->I}{X:I->I}(h:OA P st n X)(d:∀r,st r<256):OA P st n (Ff st X n):=by
 refine⟨λr b k a=>?_,λr b k a=>?_,λr b=>?_,λr=>?_⟩
 .unfold Ff;rw[Cn b,X9,h.lo r b k a];rfl
 .unfold Ff at a;rw[Cn b,X9,UK]at a;rcases a with a|a
  .exact h.hi r b k a
  simp only[F3,UG]at a;obtain⟨c,rfl⟩:∃c,k=c+1:=⟨k-1,E⟩
  rw[kQ]at a;rw[Ko,a.2.2,h.hi r b c a.2.1];simp
 .unfold Ff;rw[Ci E];exact h.off r b
 unfold Ff;by_cases b:r<n
 .rw[Cn b];exact vC (d r) (h.lt r)
 rw[Ci b];exact h.lt r
theorem OA.done{P st:I->I}{X:I->I}(h:OA P st n X)(d:∀r,r<n->w1 (st r) (X r)=X r):∀r,r<n->∀k,(X r).testBit k=Ko (st r) (P r) k:=by
 intro r b k;have key:∀k,Ko (st r) (P r) k=AP->(X r).testBit k=AP:=by
  intro k
  induction k with
  |zero=>exact λa=>h.lo r b 0 a
  |succ k e =>
   intro a;rw[Ko,UK]at a;rcases a with a|a
   .exact h.lo r b _ a
   grind [w1,X9,Nat.add_sub_cancel]
 cases c:(X r).testBit k
 .grind
 exact(h.hi r b k c).symm
def Jy(X:AH->AH):AH->AH
 |0=>0
 |n+1=>Jy X n+X n
theorem Tz{X:I->I}(h:∀r,X r<512):∀n,Jy X n<=n*512
 |0=>Co _
 |n+1=>by have:=Tz h n;have:=h n;unfold Jy;omega
theorem fU{X Y:I->I}(h:∀r,X r<=Y r):∀n,Jy X n<=Jy Y n
 |0=>Co _
 |n+1=>by have:=fU h n;grind [Jy]
theorem fV{X Y:I->I}(h:∀r,X r<=Y r):∀n r,r<n->X r<Y r->Jy X n<Jy Y n
 |0,_,hr,_=>absurd hr E
 |n+1,r,hr,hl=>by
  unfold Jy;by_cases e:r=n
  .subst e;have:=fU h r;omega
  have:=fV h n r E hl;have:=h n;omega
theorem vG{X Y:I->I}(h:∀r,r<16->X r=Y r):Cw X=Cw Y:=by grind [Cw,List.map_congr_left]
end
end Go.Proofs.YtihfjkjbfaneeaaGreatDoor
