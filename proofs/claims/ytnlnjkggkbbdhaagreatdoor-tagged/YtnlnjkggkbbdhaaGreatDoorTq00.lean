import Derived.Test.YtnlnjkggkbbdhaaGreatDoorRows
import Derived.WalkKit
import Derived.WalkSpells
import Derived.WalkLawsBesides
import Derived.WalkMore
import Derived.Deep.QuietTactic
import Derived.BigQuiet
import Derived.Deep.LoopGhost
import Derived.Great.Walk
import Derived.Great.BuildSlice
import Derived.Deep.WholeRow
import Derived.Deep.RegionHeld3
set_option maxRecDepth 100000
set_option maxHeartbeats 8000000
set_option linter.all false
namespace Go.Proofs.YtnlnjkggkbbdhaaGreatDoor
open Go.Proofs.Tryz
open Go.Value renaming int->I
open Option renaming some->U,none->Y
open Go.IntKind renaming i64->K
open Go renaming World->O
open Go.Obj renaming cells->E
open Go.Proofs.Tryz renaming prog->X
variable{w:O}{b fuel g i j n:Nat}{o oi p:Oper}{P:Program}{ops:Array Oper}{Q:Exit->Act->O->Prop}{rest:List Oper}{a:Act}{S:O->Prop}{md:Region.Mode}{listed:Array Bool}{m:Nat->Nat->Bool}
section
open Go.RowKit
def Z.{u}{a:Sort u}{b:a}:b=b:=rfl
def J{P:Prop}(h:P:=by omega):P:=h
def M{P:Prop}(h:P:=by kernel_rfl):P:=h
def Ao{A P:Prop}(a:A)(h:A->P:=by intro h;omega):P:=h a
def Ap{A P:Prop}(a:A)(h:A->P:=by intro h;show _=_;omega):P:=h a
def Aq{A B P:Prop}(a:A)(b:B)(h:A->B->P:=by intro h g;omega):P:=h a b
def Ar{A P:Prop}(a:A)(h:A->P:=by intro h;simp;omega):P:=h a
def As{A P:Prop}(a:A)(h:A->P:=by intro h;simp;omega):P:=h a
def At{A P:Prop}(a:A)(h:A->P:=by intro h;unfold wrap64;omega):P:=h a
def Au{A P:Prop}(a:A)(h:A->P:=by intro h;simpa using h):P:=h a
def Av{P:Prop}(h:P:=by omega):P:=h
def Aw{P:Prop}(h:P:=by kernel_rfl):P:=h
def Ax{P:Prop}(h:P:=by simp;omega):P:=h
def Ay{P:Prop}(h:P:=by decide):P:=h
def Az{P:Prop}(h:P:=by simp):P:=h
def AB{P:Prop}(h:P:=by intro e;injection e with e;omega):P:=h
def AC{P:Prop}(h:P:=by unfold maxLen;omega):P:=h
def AD{P:Prop}(h:P:=by show _=_;omega):P:=h
def AE{P:Prop}(h:P:=by go_num):P:=h
def AF{P:Prop}(h:P:=by rw[z]):P:=h
def AG{P:Prop}(h:P:=by unfold DN;(repeat(first|rw[Bz Av]|rw[BA Av]));rfl):P:=h
def AH{P:Prop}(h:P:=by show _=_;unfold E5;rw[f.out];rfl):P:=h
def AI{P:Prop}(h:P:=by by_cases e:i=q;(· subst e;exact A m);(· exact N i Av m)):P:=h
def AJ{P:Prop}(h:P:=by simp[World.setCell]):P:=h
def AK{P:Prop}(h:P:=by have:=a.szlt;unfold wrap64;omega):P:=h
def AL{P:Prop}(h:P:=by show _<=_;omega):P:=h
def AM{P:Prop}(h:P:=by rw[GO Av];omega):P:=h
def AN{P:Prop}(h:P:=by have:=key _ e.symm;omega):P:=h
def AO{P:Prop}(h:P:=by simpa using a):P:=h
def AP{P:Prop}(h:P:=by rw[a.fi];exact a.flt):P:=h
def AQ{P:Prop}(h:P:=by show _=_;unfold CB;simp[d,j,k,l,m,g]):P:=h
def AR{P:Prop}(h:P:=by simp at f;subst f;rfl):P:=h
def AS{P:Prop}(h:P:=by rw[f.out,CO Av];decide):P:=h
def AT{P:Prop}(h:P:=by have:=hg.out;omega):P:=h
def AU{P:Prop}(h:P:=by cases h):P:=h
def AV{P:Prop}(h:P:=by rw[c.out];rfl):P:=h
def AW{P:Prop}(h:P:=by show d<((0:Nat):Int)+((d.toNat+1:Nat):Int);omega):P:=h
def AX{P:Prop}(h:P:=by by_cases h:j=0<;>simp[Addr.add,h]):P:=h
def AY{P:Prop}(h:P:=by simp only[BU,A0];omega):P:=h
def AZ{P:Prop}(h:P:=by show C0 _ _ _;unfold C0 Ir;simp):P:=h
def B0{P:Prop}(h:P:=by rw[k];rfl):P:=h
def B1{P:Prop}(h:P:=by have:=h.size;omega):P:=h
def B2{P:Prop}(h:P:=by rcases a with rfl|rfl|rfl|rfl|rfl|rfl<;>rfl):P:=h
def B3{P:Prop}(h:P:=by simpa using h):P:=h
def B4{P:Prop}(h:P:=by simpa using r):P:=h
def B5{P:Prop}(h:P:=by show _=_;rw[IS _ Av];simp):P:=h
def B6{P:Prop}(h:P:=by show _=_;have:=hg.out;omega):P:=h
def B7{P:Prop}(h:P:=by intro e;cases e;omega):P:=h
def B8{P:Prop}(h:P:=by have:=b.szlt;unfold wrap64;omega):P:=h
def B9{P:Prop}(h:P:=by rw[GO Av,GO Av];omega):P:=h
def Ba{P:Prop}(h:P:=by simp[Value.oneCell']):P:=h
def Bb{P:Prop}(h:P:=by rw[a.out];rfl):P:=h
def Bc{P:Prop}(h:P:=by rw[d.out];rfl):P:=h
def Bd{P:Prop}(h:P:=by simp at b;rcases b with rfl|rfl<;>rfl):P:=h
def Be{P:Prop}(h:P:=by simpa using c):P:=h
def Bf{P:Prop}(h:P:=by rw[Cr];exact Cr _ _):P:=h
def Bg{P:Prop}(h:P:=by rw[CQ _ _ _ _ Av,CQ _ _ _ _ Av]):P:=h
def Bh{P:Prop}(h:P:=by by_cases h:k=0<;>simp[Addr.add,h]):P:=h
def Bi{P:Prop}(h:P:=by simp[World.setCell,World.drew,A0]):P:=h
def Bj{P:Prop}(h:P:=by simpa using b):P:=h
def Bk{P:Prop}(h:P:=by rfl):P:=h
def Bl{P:Prop}(h:P:=by simp at hx;rcases hx with rfl|rfl|rfl<;>rfl):P:=h
def Bm{P:Prop}(h:P:=by simpa using t):P:=h
def Bn{P:Prop}(h:P:=by show s.within+1<=_;omega):P:=h
def Bo{P:Prop}(h:P:=by show DF c.dflt (Fz c) _=_;rw[a];kernel_rfl):P:=h
def Bp{P:Prop}(h:P:=by by_cases h:2*k=0<;>simp only[Addr.add,h,DY,JJ k 2,OO,if_false]):P:=h
def Bq{P:Prop}(h:P:=by unfold DN;repeat(first|rw[Bz Av]|rw[BA Av])):P:=h
def Br{P:Prop}(h:P:=by show _=_;rw[T8 (λj D=>v.out j (Ao t.out))];rfl):P:=h
def Bs{P:Prop}(h:P:=by unfold IntKind.wrap;simp[IntKind.bits,IntKind.signed];omega):P:=h
def Bu{P:Prop}(h:P:=by simp[Lib.firstT,show¬b0<128 by omega,a,b,c2,c,d,f,g,h,i]):P:=h
def Bv{P:Prop}(h:P:=by simp at hu;rcases hu with rfl|rfl<;>rfl):P:=h
def Bw{P:Prop}(h:P:=by intro h;rw[Mw h]at b;revert b;decide):P:=h
def Bx{P:Prop}(h:P:=by rw[BK];omega):P:=h
def kez{P:Prop}(h:P:=by simp at w;rcases w with rfl|rfl<;>rfl):P:=h
def ke0{P:Prop}(h:P:=by simpa using b.1.2):P:=h
def ke1{P:Prop}(h:P:=by show _=_;simp):P:=h
def ke2{P:Prop}(h:P:=by simpa using s):P:=h
def ke3{P:Prop}(h:P:=by have:=HL.out;have:=u.out;have:=B.out;have:=n.out;omega):P:=h
def ke4{P:Prop}(h:P:=by have k:=du V bs fm d l lim i a hi hb;rw[h]at k;exact k):P:=h
def ke5{P:Prop}(h:P:=by show _<=_;have:=hg.out;omega):P:=h
def ke6{P:Prop}(h:P:=by have h:=e.out;rw[C.out]at h;exact h):P:=h
def ke7{P:Prop}(h:P:=by have h:=B.out;rw[p.out]at h;exact h):P:=h
def ke8{P:Prop}(h:P:=by have:=a.out;rw[WW n k M l h o.out]at this;exact this):P:=h
def ke9{P:Prop}(h:P:=by show _=_;rw[Qw (j:=k) Av l,CO Av];rfl):P:=h
def keA{P:Prop}(h:P:=by show _<=_;have:=H.out;omega):P:=h
def keB{P:Prop}(h:P:=by simpa using d):P:=h
def keC{P:Prop}(h:P:=by rw[j];rfl):P:=h
def keD{P:Prop}(h:P:=by rw[WS (a:=k) (b:=q) Av Av r.out];rfl):P:=h
def keE{P:Prop}(h:P:=by rw[Uo (a:=k) (b:=q) Av Av o.out];rfl):P:=h
def keF{P:Prop}(h:P:=by rw[b.fi];exact b.flt):P:=h
def keG{P:Prop}(h:P:=by simpa using o):P:=h
def keH{P:Prop}(h:P:=by simpa using p):P:=h
def keI{P:Prop}(h:P:=by have:=aa.out;omega):P:=h
def keJ{P:Prop}(h:P:=by rw[HE.out];rfl):P:=h
def keK{P:Prop}(h:P:=by have:=key j e.symm;omega):P:=h
def keL{P:Prop}(h:P:=by induction k with|zero=>rfl|succ k F=>rw[BY,Cu,F]):P:=h
def keM{P:Prop}(h:P:=by induction k with|zero=>rfl|succ k H=>rw[BY,Cu,H]):P:=h
def keN{P:Prop}(h:P:=by have:=hg.out;have:=hp.out;omega):P:=h
def keO{P:Prop}(h:P:=by show s.depth<((s.within+1:Nat):Int)+g;omega):P:=h
def keP{P:Prop}(h:P:=by simpa using f):P:=h
def keQ{P:Prop}(h:P:=by have:=n.size;simpa using this):P:=h
def keR{P:Prop}(h:P:=by have:=l.size;simpa using this):P:=h
def keS{P:Prop}(h:P:=by simp[go_sem]):P:=h
def keT{P:Prop}(h:P:=by simp at h):P:=h
def keU{P:Prop}(h:P:=by show World.ownsRow _ _ _ _ _ _ _;exact aa):P:=h
def keV{P:Prop}(h:P:=by show _=_;unfold wrap32;omega):P:=h
def keW{P:Prop}(h:P:=by show((s.within+1:Nat):Int)<=s.depth;omega):P:=h
def keX{P:Prop}(h:P:=by rw[h];kernel_rfl):P:=h
def keY{P:Prop}(h:P:=by have:=Kv v.out e.symm;omega):P:=h
def keZ{P:Prop}(h:P:=by have:=a.size;omega):P:=h
def kfa{P:Prop}(h:P:=by have:=ck.dep;omega):P:=h
def kfb{P:Prop}(h:P:=by rw[a]at d;simp at d;omega):P:=h
def kfc{P:Prop}(h:P:=by simpa using(show Below _ _ _ from B)):P:=h
def kfd{P:Prop}(h:P:=by rw[j.out,m.out]):P:=h
def kfe{P:Prop}(h:P:=by rw[<-Hn,hp,I8]):P:=h
def kff{P:Prop}(h:P:=by rw[BK]at h3;omega):P:=h
def kfg{P:Prop}(h:P:=by rw[BU];omega):P:=h
def kfh{P:Prop}(h:P:=by split<;>simp):P:=h
def kfi{P:Prop}(h:P:=by simp only;omega):P:=h
def kfj{P:Prop}(h:P:=by rw[f];rfl):P:=h
def kfk{P:Prop}(h:P:=by simpa using u):P:=h
def kfl{P:Prop}(h:P:=by rw[c.out]at e;cases e):P:=h
def kfm{P:Prop}(h:P:=by rw[In];omega):P:=h
def kfn{P:Prop}(h:P:=by rw[h];rfl):P:=h
def kfo{P:Prop}(h:P:=by rw[h];decide):P:=h
def kfp{P:Prop}(h:P:=by rw[b.out,a.1,a.2];rfl):P:=h
def kfq{P:Prop}(h:P:=by rw[f.out,m.out];rfl):P:=h
def kfr{P:Prop}(h:P:=by rw[hv];rfl):P:=h
def kfs{P:Prop}(h:P:=by congr 1;omega):P:=h
def kft{P:Prop}(h:P:=by show _=_;rw[I3]):P:=h
def kfu{P:Prop}(h:P:=by have:=aj.out;omega):P:=h
def kfv{P:Prop}(h:P:=by simpa using k):P:=h
def kfw{P:Prop}(h:P:=by have:=C.size;omega):P:=h
def kfx{P:Prop}(h:P:=by rw[OS];omega):P:=h
def kfy{P:Prop}(h:P:=by show 0<=_;omega):P:=h
def kfz{P:Prop}(h:P:=by simpa using ac):P:=h
def kf0{P:Prop}(h:P:=by rw[z];rfl):P:=h
def kf1{P:Prop}(h:P:=by rw[Nk];omega):P:=h
def kf2{P:Prop}(h:P:=by rw[L.out];rfl):P:=h
def BK:=@List.length_append
def C6:=@List.getElem?_eq_getElem
def Bz:=@if_neg
def BT:=@Below.heap_alloc
def BU:=@World.size_alloc
def BA:=@if_pos
def BM:=@Nat.le_refl
def C8:=@wpList_load_row
def CA:=@Nat.lt_of_lt_of_le
def Co:=@wpList_store_row
def Cu:=@List.length_cons
def CD:=@of_decide_eq_true
def C7:=@Nat.le_trans
def Df:=@World.cell?_alloc_some
def CP:=@heap_setCell_other
def Cc:=@bodyPost_ret
def CN:=@List.append_assoc
def C5:=@Below.refl
def Ca:=@setRow_heap
def Dz:=@List.getElem?_eq_none
def CO:=@decide_eq_false
def Ez:=@List.getElem?_append_right
def CH:=@decide_eq_true
def CV:=@List.mem_range
def F6:=@List.getElem?_append_left
def Dw:=@Bool.and_eq_true
def CQ:=@setRow_other
def G7:=@List.drop_eq_getElem_cons
def EJ:=@beq_eq_false_iff_ne
def E8:=@List.all_eq_true
def ES:=@Array.length_toList
def FP:=@World.setRow_alloc_new
def Eb:=@List.length_drop
def DX:=@List.length_nil
def EA:=@Result.andThen_ok
def Dx:=@frozen_of_row
def D3:=@wpAnyH_take
def ET:=@heap_setCell_same
def Eo:=@List.length_map
def Ec:=@wp_region_held
def FB:=@Below.heap_setCell
def EB:=@Option.some.inj
def J9:=@List.eq_nil_of_length_eq_zero
def FQ:=@World.ownsRow_nil
def DY:=@Nat.zero_add
def FC:=@Nat.mod_eq_of_lt
def Ja:=@List.getElem?_eq_some_iff
def DK:=@Nat.zero_le
def I2:=@List.mem_cons_of_mem
def Gv:=@List.all_eq_false
def Ei:=@Sem.run_bind
def II:=@List.take_of_length_le
def G8:=@block_lt_of_cell
def Hl:=@List.mem_cons_self
def EU:=@List.map_cons
def Im:=@World.cell?_of_block
def G9:=@List.map_append
def Ga:=@Lib.toList_data
def Hm:=@List.size_toArray
def DZ:=@info_parts
def I3:=@Int.toNat_natCast
def Fq:=@Sem.run_pure
def I4:=@List.cons_append
def Jb:=@World.grownBy_alloc
def K9:=@List.drop_eq_nil_of_le
def KM:=@List.getElem?_take_of_lt
def JD:=@wpList_append_own_at
def F7:=@cell_of_row
def In:=@List.length_take
def I5:=@run_loadVar_row
def Ka:=@Array.getElem?_toList
def Kb:=@List.take_append_drop
def I6:=@Nat.le_add_left
def Hn:=@List.drop_drop
def LC:=@List.getElem?_eq_none_iff
def GS:=@Bool.true_and
def IJ:=@decide_eq_decide
def Jc:=@List.getElem?_map
def I7:=@DataW.trod_int
def JE:=@BitVec.toNat_ofNat
def JF:=@UInt8.toNat_ofNat'
def I8:=@List.drop_left
def KN:=@Bool.and_eq_false_iff
def Mh:=@List.getD_eq_getElem?_getD
def Ho:=@List.mem_cons
def IK:=@List.append_nil
def JG:=@wpList_append_own
def JH:=@List.take_add_one
def KO:=@List.getElem_of_mem
def Jd:=@List.nil_append
def Hp:=@wp_store_row
def Ng:=@Array.getElem?_append_right
def JI:=@List.any_eq_true
def Kc:=@List.flatMap_cons
def GT:=@Prod.mk.inj
def KP:=@List.mem_singleton
def Kd:=@List.getElem_mem
def Ot:=@List.drop_append_of_le_length
def LD:=@List.flatMap_append
def LE:=@Int.toNat_of_nonneg
def KQ:=@decide_eq_true_eq
def Nh:=@Int.eq_ofNat_of_zero_le
def Mi:=@BitVec.ofInt_natCast
def Mj:=@Array.replicate_succ
def Mk:=@Array.replicate_zero
def KR:=@List.drop_length
def IL:=@results_tmp3
def Ou:=@Array.toList_setIfInBounds
def Ov:=@Array.getElem?_append_left
def Ni:=@Array.getElem?_eq_none
def Ml:=@List.append_toArray
def Je:=@List.map_nil
def Jf:=@Nat.pow_succ
def KS:=@List.mem_append
def Jg:=@callsIn_wide
def Mm:=@List.getElem?_drop
def Mn:=@Nat.and_lt_two_pow
def LF:=@results_cell_row
def LG:=@List.take_length
def Ke:=@Nat.add_assoc
def Ow:=@List.filter_cons_of_pos
def JJ:=@Nat.mul_comm
def Mo:=@List.push_toArray
def LH:=@UInt8.toNat_inj
def Mp:=@Bool.not_eq_true
def Nj:=@Nat.add_sub_cancel
def Ox:=@Nat.le_of_ble_eq_true
def Q2:=@List.extract_eq_take_drop
def So:=@List.take_succ_eq_append_getElem
def Oy:=@Nat.pow_le_pow_right
def Oz:=@List.mem_of_getElem?
def Mq:=@Bool.or_eq_true
def Q3:=@List.idxOf_lt_length_iff
def Q4:=@Array.setIfInBounds_comm
def KT:=@results_tmp2
def Nk:=@Nat.shiftLeft_eq
def Nl:=@List.map_toArray
def Nm:=@Nat.le_add_right
def Nn:=@List.not_mem_nil
def Q5:=@Option.map_eq_some_iff
def Q6:=@ByteArray.data_extract
def Sq:=@Array.getElem?_setIfInBounds
def OA:=@List.getElem?_take
def LI:=@Nat.add_zero
def No:=@List.all_append
def Q7:=@List.set_append_right
def LJ:=@Nat.sub_self
def Mr:=@ByteArray.ext
def OB:=@Maps.string_keyed
def OC:=@Nat.le_succ_of_le
def Ms:=@List.sum_cons
def Q8:=@Great.wpList_allocTo
def Q9:=@Array.toList_extract
def Qa:=@Nat.mul_le_mul_right
def Np:=@AllReadyH.cons
def Nq:=@List.drop_zero
def Sr:=@Classical.byContradiction
def Qb:=@List.take_succ_cons
def Mt:=@List.mem_map
def KU:=@beq_iff_eq
def Ss:=@Nat.lt_succ_iff_lt_or_eq
def Su:=@List.getElem?_cons_succ
def OD:=@Bool.eq_iff_iff
def OE:=@World.var?_cell
def Qc:=@World.ownsMap_made
def Sv:=@List.filter_cons_of_neg
def Sw:=@run_convert_bytes_back
def Qd:=@DataW.trod_struct
def Qe:=@Bool.not_eq_true'
def OF:=@run_append_own
def Wf:=@Nat.and_two_pow_sub_one_eq_mod
def Qf:=@IntKind.wrap_i64
def Qg:=@List.getElem_map
def Qh:=@Nat.lt_succ_self
def Qi:=@Array.all_append
def Sy:=@Bool.or_eq_false_iff
def Sz:=@List.replicate_succ'
def OG:=@AllReadyH.nil
def OH:=@Prod.mk.injEq
def Mu:=@Array.ext'
def Mv:=@True.intro
def Qj:=@Option.map_some
def SA:=@List.length_pos_iff
def SB:=@Array.toList_append
def SC:=@List.mem_map_of_mem
def Nr:=@Nat.le_succ
def Wg:=@Array.getElem?_eq_some_iff
def Wh:=@Int.tmod_eq_emod_of_nonneg
def Wi:=@Nat.mod_mul_right_div_self
def OI:=@wpAnyH_ready
def SD:=@Array.ext_getElem?
def OJ:=@List.map_map
def SE:=@Maps.has_put_other
def OK:=@Nat.le_of_eq
def Qk:=@Bool.false_and
def Ql:=@run_underlying
def Qm:=@Bool.and_false
def Wj:=@World.cell?_setCell_same'
def SF:=@List.foldl_append
def SG:=@setCell_eq_setRow
def SH:=@Maps.has_put_same
def Ns:=@Calls.mono
def SI:=@Nat.or_lt_two_pow
def Mw:=@eq_of_beq
def SJ:=@Array.size_append
def Nt:=@wpAnyH_all
def Qn:=@AllReady.cons
def OL:=@wpAnyH_done
def Wk:=@decide_eq_false_iff_not
def Qo:=@Nat.mul_assoc
def OM:=@leaves_cons
def Qp:=@wp_region_any
def Wl:=@List.getElem?_cons_zero
def SK:=@BitVec.toNat_and
def SL:=@Lib.extract_data
def Wm:=@ByteArray.size_extract
def Wn:=@List.getElem?_toArray
def SM:=@Int.emod_nonneg
def Qq:=@Nat.zero_mul
def Wo:=@run_append_owned_none
def Jh:=@Or.inr
def Wp:=@Nat.div_lt_iff_lt_mul
def Wq:=@Nat.testBit_shiftLeft
def SN:=@Nat.testBit_and
def ON:=@Nat.mod_lt
def Wr:=@List.getElem_toArray
def Ws:=@Maps.atKey_put_other
def SO:=@Nat.testBit_or
def Wt:=@List.getElem?_range
def Qr:=@Nat.mul_one
def Wu:=@List.map_congr_left
def Wv:=@List.replicate_succ
def Ww:=@Maps.atKey_put_same
def Wx:=@Array.getElem?_push
def SP:=@Bool.and_comm
def Wy:=@Nat.eq_zero_or_pos
def SQ:=@Bool.false_or
def SR:=@plainElem_int
def Wz:=@Lib.extract_to_end
def WA:=@List.getElem_idxOf
def WB:=@Option.isSome_none
def WC:=@Option.isSome_some
def WD:=@List.mem_replicate
def WE:=@List.any_eq_false
def WF:=@DataW.trod_string
def WG:=@List.getElem_take
def WH:=@Maps.Keyed.of_law
def WI:=@wp_scope_straight
def WJ:=@List.idxOf_append
def SS:=@AllReady.nil
def ST:=@wpList_plain
def SU:=@cell_one_new
def SV:=@List.all_map
def SW:=@Nat.add_comm
def SX:=@Int.le_trans
def WK:=@Option.bind_some
def WL:=@List.filter_cons
def WM:=@forall_eq_or_imp
def WN:=@Array.toList_inj
def SY:=@wpAny_ready
def SZ:=@unitElem_mk
def Qs:=@wpIn_wide
def T5:=@Nat.mod_mod
def Qt:=@And.intro
def T6:=@wpAny_done
def OO:=@if_true
def Qu:=@or_false
def Nu:=@Or.inl
abbrev A0(W V:World):Prop:=Below W.heap.size W V
abbrev A1:=List UInt8
abbrev A2:=DataW Unit
abbrev A3:=Array Value
abbrev A4:=Option Addr
abbrev A5(a:Type):=Except (Int×Int) (a×Nat)
def By{p:Prop}(h:p):Hid p:=h
def T:=@By
def BI(w:O)(o:Obj):(w.alloc o).heap[w.heap.size]?=U o:=by
 show(w.heap.push o)[w.heap.size]?=_;simp
def BB{cs:A3}{t:TypeId}{fr:Nat×Nat}(a:w.heap[g]?=U (E cs t fr))(j:Nat):w.cell? ⟨g,j,Y⟩=cs[j]?:=F7 w g j cs t fr a
def BN{o:Obj}:A0 w (w.alloc o):=(C5 _ _).alloc (BM _) _
def OP(o:Obj):A0 w (w.alloc o):=(C5 _ _).alloc (BM _) _
def Cm:Below n w w:=C5 _ _
def BC{α:Type}{a:Array α}{x:α}(h:a[i]?=U x):i<a.size:=(Wg.1 h).1
def Cf{α:Type}{a:List α}{x:α}(h:a[i]?=U x):i<a.length:=(Ja.1 h).1
def sx{cs:A3}{y:Option Obj}(h:j≠g)(e:w.heap[j]?=y):(w.setRow g cs).heap[j]?=y:=(CQ _ _ _ _ h).trans e
def EV{α β γ:Type}{p:α->β->γ->Prop}:∀a b c,p a b c->p a b c:=λ_ _ _ h=>h
def F8(h:∀V,w=V->wpList P ops Q rest a V):wpList P ops Q rest a w:=h w rfl
def DA{id:Nat}(b:S {w with drawn:=w.drawn+1})(c:P.follows .mixedOrders=true)(h:S {w with drawn:=w.drawn+1}->wpAnyH P .any ops Q S ops.size (Array.replicate ops.size false) a {w with drawn:=w.drawn+1}):(Code.region id ops true).wp P Q a w:=Ec c (h b)
def Ej(i:Nat)(hi:ops[i]?=U o)(c:Region.ready md ops listed=[i])(h:(∀b:Act->O->Prop,(∀a w,wpAny P md ops Q fuel (listed.setIfInBounds i true) a w->b a w)->if Region.wanted o (yielded ops a.tmps)=true then Oper.wp P o a w b Q else b (a.put o.dst undef) w)):wpAny P md ops Q (fuel+1) listed a w:=SY c Az (Qn hi h SS)
def JK(i j:Nat)(hi:ops[i]?=U o)(c:ops[j]?=U p)(d:Region.ready md ops listed=[i,j])(h:(∀b:Act->O->Prop,(∀a w,wpAny P md ops Q fuel (listed.setIfInBounds i true) a w->b a w)->if Region.wanted o (yielded ops a.tmps)=true then Oper.wp P o a w b Q else b (a.put o.dst undef) w))(k:(∀b:Act->O->Prop,(∀a w,wpAny P md ops Q fuel (listed.setIfInBounds j true) a w->b a w)->if Region.wanted p (yielded ops a.tmps)=true then Oper.wp P p a w b Q else b (a.put p.dst undef) w)):wpAny P md ops Q (fuel+1) listed a w:=SY d Az (Qn hi h (Qn c k SS))
def eJ(i:Nat)(hi:ops[i]?=U o)(c:Region.ready md ops listed=[i])(h:(∀b:Act->O->Prop,Shut (∀a w,S w->(S w->wpAnyH P md ops Q S fuel (listed.setIfInBounds i true) a w)->b a w)->if Region.wanted o (yielded ops a.tmps)=true then Oper.wp P o a w b Q else b (a.put o.dst undef) w)):wpAnyH P md ops Q S (fuel+1) listed a w:=OI c Az (Np hi h OG)
def eK(i j:Nat)(hi:ops[i]?=U o)(c:ops[j]?=U p)(d:Region.ready md ops listed=[i,j])(h:(∀b:Act->O->Prop,Shut (∀a w,S w->(S w->wpAnyH P md ops Q S fuel (listed.setIfInBounds i true) a w)->b a w)->if Region.wanted o (yielded ops a.tmps)=true then Oper.wp P o a w b Q else b (a.put o.dst undef) w))(k:(∀b:Act->O->Prop,Shut (∀a w,S w->(S w->wpAnyH P md ops Q S fuel (listed.setIfInBounds j true) a w)->b a w)->if Region.wanted p (yielded ops a.tmps)=true then Oper.wp P p a w b Q else b (a.put p.dst undef) w)):wpAnyH P md ops Q S (fuel+1) listed a w:=OI d Az (Np hi h (Np c k OG))
def OQ{v:Value}(b:Option Tmp)(hi:ops[i]?=U oi)(k:Region.noSelect ops=true)(g:Region.free md ops listed i=true)(j:(Region.ready md ops listed).contains i=true)(d:∀c a w,Q (.panic c) (a.put b v) w->Q (.panic c) a w)(f:oi.dst=b)(l:YieldsIf P ops S oi v a)(e:S w)(h:wpAnyH P md ops Q S fuel (listed.setIfInBounds i true) (a.put b v) w):wpAnyH P md ops Q S (fuel+1) listed a w:=by
 subst f;exact D3 hi k g j d l e h
def BE(i d:Nat)(v:Value)(m:S w)(h:wpAnyH P md ops Q S fuel (listed.setIfInBounds i true) (a.put (U d) v) w)(n:(Region.noSelect ops&&Region.free md ops listed i&&(Region.ready md ops listed).contains i,ops[i]?.map λo=>(o.dst,Region.wanted o (yielded ops a.tmps),λb=>(execOp a.eval o).run P b))=(true,U (U d,true,λb=>.ok (.value v) b)):=by kernel_rfl)(l:∀c a w,Q (.panic c) (a.put (U d) v) w->Q (.panic c) a w:=by exact λ_ _ _ h=>h):wpAnyH P md ops Q S (fuel+1) listed a w:=by
 obtain⟨e,j⟩:=GT n;obtain⟨o,p,f⟩:=Q5.1 j;obtain⟨f,g⟩:=GT f;obtain⟨g,k⟩:=GT g;simp only[Dw]at e;exact OQ (U d) p e.1.1 e.1.2 e.2 l f (.inl ⟨g,λb _=>congrFun k b⟩) m h
def BL(i d:Nat)(v:Value)(hi:ops[i]?=U oi)(j:∀e,S e->(execOp a.eval oi).run P e=.ok (.value v) e)(g:S w)(h:wpAnyH P md ops Q S fuel (listed.setIfInBounds i true) (a.put (U d) v) w)(b:(Region.noSelect ops&&Region.free md ops listed i&&(Region.ready md ops listed).contains i&&oi.dst==U d&&Region.wanted oi (yielded ops a.tmps))=true:=by kernel_rfl)(f:∀c a w,Q (.panic c) (a.put (U d) v) w->Q (.panic c) a w:=by exact λ_ _ _ h=>h):wpAnyH P md ops Q S (fuel+1) listed a w:=by
 simp only[Dw]at b;exact OQ (U d) hi b.1.1.1.1 b.1.1.1.2 b.1.1.2 f ke0 (.inl ⟨b.2,j⟩) g h
def Cv(h:Q .normal a w)(b:Region.ready md ops listed=[]:=by kernel_rfl):wpAnyH P md ops Q S fuel listed a w:=OL b h fuel
def C9(i:Nat)(h:(∀b:Act->O->Prop,Shut (∀a w,S w->(S w->wpAnyH P md ops Q S fuel (listed.setIfInBounds i true) a w)->b a w)->if Region.wanted o (yielded ops a.tmps)=true then Oper.wp P o a w b Q else b (a.put o.dst undef) w))(hi:ops[i]?=U o:=by rfl)(c:Region.ready md ops listed=[i]:=by kernel_rfl):wpAnyH P md ops Q S (fuel+1) listed a w:=eJ i hi c h
def Hq(i j:Nat)(h:(∀b:Act->O->Prop,Shut (∀a w,S w->(S w->wpAnyH P md ops Q S fuel (listed.setIfInBounds i true) a w)->b a w)->if Region.wanted o (yielded ops a.tmps)=true then Oper.wp P o a w b Q else b (a.put o.dst undef) w))(k:(∀b:Act->O->Prop,Shut (∀a w,S w->(S w->wpAnyH P md ops Q S fuel (listed.setIfInBounds j true) a w)->b a w)->if Region.wanted p (yielded ops a.tmps)=true then Oper.wp P p a w b Q else b (a.put p.dst undef) w))(hi:ops[i]?=U o:=by rfl)(c:ops[j]?=U p:=by rfl)(d:Region.ready md ops listed=[i,j]:=by kernel_rfl):wpAnyH P md ops Q S (fuel+1) listed a w:=eK i j hi c d h k
def BS{c:UInt8}(v:Int)(h:¬(c.toNat:Int)=v):((c.toNat:Int)==v)=false:=B3
def DL(b:TypeId)(x:Operand)(k:o.op=.load b x)(j:Region.wanted o (yielded ops a.tmps)=true)(g:Nat)(m:a.eval x=.pointer (U ⟨g,0,Y⟩))(t:TypeId)(cs:A3)(c:Nat×Nat)(d:TypeDesc)(i:w.heap[g]?=U (E cs t c))(l:P.underlying b=U d)(f:(match d with|.struct _|.array _ _=>true|_=>false)=true)(hi:(P.info? b).map (·.size)=U cs.size)(h:wpList P ops Q rest (a.put o.dst (.agg cs)) w):wpList P ops Q (o::rest) a w :=
 wpList_step λn e=>by rw[BA j];exact wp_load_row b x k g m t cs c d i l f hi (e _ _ h)
def Gb(g:o.guard=Y)(t:TypeId)(c:Array (Nat×Operand))(k:o.op=.build t c)(d:Option Tmp)(e:o.dst=d)(b:A3)(l:List (Nat×Value))(j:(c.map λ(i,x)=>(i,a.eval x)).toList=l)(f:P.built t l=U b)(h:wpList P ops Q rest (a.put d (.agg b)) w):wpList P ops Q (o::rest) a w :=
 wpList_buildTo g t c k d e b (by rw[j];exact f) h
structure LK(arr:A3)(n:Nat)(m:Nat->Nat->Bool):Prop where
 size:arr.size=37
 count:arr[0]?=some (.int .i64 n)
 at_:∀i j,i<6->j<6->arr[1+i*6+j]?=some (.bool (m i j))
def Cp(n:Nat)(m:Nat->Nat->Bool):A3:=(.int .i64 n::(List.range 36).map λk=>.bool (m (k/6) (k%6))).toArray
def Cr(n:Nat)(m:Nat->Nat->Bool):(Cp n m).size=37:=by simp[Cp]
def GU(n:Nat)(m:Nat->Nat->Bool):LK (Cp n m) n m:=by
 refine⟨Cr n m,Z,λi j d e=>?_⟩;have a:1+i*6+j=(i*6+j)+1:=J
 rw[a];simp only[Cp,Wn,Su,Jc];rw[Wt J];simp only[Qj];have b:(i*6+j)/6=i:=J
 have c:(i*6+j)%6=j:=J
 rw[b,c]
def Gw(m:Nat->Nat->Bool)(i j:Nat)(b:Bool):Nat->Nat->Bool:=λx y=>if x=i/\y=j then b else m x y
def WO(n:Nat)(m:Nat->Nat->Bool)(i j:Nat)(b:Bool)(hi:i<6)(d:j<6):(Cp n m).setIfInBounds (1+i*6+j) (.bool b)=Cp n (Gw m i j b):=by
 apply SD;intro k;rw[Sq];by_cases a:1+i*6+j=k
 ·subst a;rw[BA rfl,(GU n (Gw m i j b)).at_ i j hi d,BA (by rw[Cr];omega)];simp[Gw]
 rw[Bz a]
 cases k with
 |zero=>rw[(GU n m).count,(GU n (Gw m i j b)).count]
 |succ q =>
  by_cases e:q<36
  ·have c:q+1=1+(q/6)*6+q%6:=J
   rw[c,(GU n m).at_ _ _ J J,(GU n (Gw m i j b)).at_ _ _ J J];have:¬(q/6=i/\q%6=j):=J
   simp[Gw,this]
  rw[Ni (by rw[Cr];omega),Ni (by rw[Cr];omega)]
def Hr(n:Nat)(m:Nat->Nat->Bool):(Cp n m).all (·.oneCell')=true:=by
 rw[Array.all_eq_true_iff_forall_mem];intro x a;simp only[Cp,List.mem_toArray,Ho,Mt]at a;rcases a with rfl|⟨k,_,rfl⟩<;>rfl
def C2:A3:=Cp 0 λ_ _=>false
def eM(ρ:Operand->Value)(o:Oper)(a:o.op=.alloc 84)(w:O):(execOp ρ o).run X w=.ok (.value (.pointer (U ⟨w.heap.size,0,Y⟩))) (w.alloc (E C2 84)):=by
 unfold execOp;rw[a];kernel_rfl
def I9(e:o.guard=Y)(f:o.op=.alloc 84)(d:Option Tmp)(c:o.dst=d)(N:Nat)(b:w.heap.size=N)(h:wpList X ops Q rest (a.put d (.pointer (U ⟨N,0,Y⟩))) (w.alloc (E C2 84))):wpList X ops Q (o::rest) a w:=by
 subst b;exact Q8 e d c _ _ (eM _ _ f _) h
def WP(n:Nat):prog.built 84 [(0,I K n)]=U (Cp n λ_ _=>false):=M
def Mx:prog.built 84 []=U C2:=M
def Dg(m:Nat->Nat->Bool)(a b c:Nat):Bool:=m a c&&m b c
def CW{arr:A3}(h:arr.size=37):(prog.info? 84).map (·.size)=U arr.size:=keX
def WQ(arr:A3)(n:Nat)(m:Nat->Nat->Bool)(H:LK arr n m)(a b c:Nat)(f:a<6)(hb:b<6)(g:c<6)(w:O):Calls X 143 #[.agg arr,I K c,I K a,I K b] w λe d=>e=.returned (.bool (Dg m a b c))/\A0 w d:=by
 have h:=H.at_;go_enter func143,ntmps143;go_wp2
 all_goals go_ret
 all_goals exact⟨by simp[Dg, *],BN⟩
def CE(n:Nat)(a:Int):Bool:=decide (0<=a/\a<n)
def Nv(arr:A3)(n:Nat)(h:arr[0]?=U (I K n))(a:Int)(w:O):Calls X 82 #[.agg arr,I K a] w λe c=>e=.returned (.bool (CE n a))/\A0 w c:=by
 go_enter func82,ntmps82;go_wp2
 all_goals go_ret
 ·exact⟨by simp[CE, *],BN⟩
 exact⟨(by have b:¬0<=a:=J;simp[CE,b]),BN⟩
def Ed(n:Nat)(m:Nat->Nat->Bool)(a b j:Nat):Bool:=Dg m a b j&&(List.range n).all λk=>!Dg m a b k||m j k
def EC(n:Nat)(m:Nat->Nat->Bool)(a b:Nat):Bool:=(List.range n).any λj=>Ed n m a b j
def T7{a k:Nat}(d:k<n)(h:Dg m a b k=true)(c:m j k=false):Ed n m a b j=false:=by
 unfold Ed;rw[KN];right;rw[Gv];exact⟨k,CV.2 d,by simp[h,c]⟩
def Qv{a:Nat}(c:Dg m a b j=true)(h:∀k,k<n->Dg m a b k=true->m j k=true):Ed n m a b j=true:=by
 unfold Ed;rw[c,GS,E8];intro k d;have:=h k (CV.1 d);cases e:Dg m a b k<;>simp_all
def Qw{a:Nat}(c:j<n)(h:Ed n m a b j=true):EC n m a b=true:=by
 unfold EC;rw[JI];exact⟨j,CV.2 c,h⟩
def T8{a:Nat}(h:∀j,j<n->Ed n m a b j=false):EC n m a b=false:=by
 unfold EC;rw[WE];intro j c;simp[h j (CV.1 c)]
def Ta(arr:A3)(n:Nat)(m:Nat->Nat->Bool)(H:LK arr n m)(hn:n<=6)(a b:Nat)(ha:a<6)(hb:b<6)(w:O):Calls X 116 #[.agg arr,I K a,I K b] w λe w'=>e=.returned (.bool (EC n m a b))/\A0 w w':=by
 have ac:=H.at_;have y:=H.count;have hi:=CW H.size;have S:=T H;have r:=T hi;have ae:=(C5 w.heap.size w).alloc (BM _) (E arr 84);have ag:=BI w (E arr 84);have ai:(w.alloc (E arr 84)).heap.size=w.heap.size+1:=Az
 have R:=T ae;have V:=T ag;have W:=T ai;go_enter func116,ntmps116;go_wp2;go_step3;go_wp2;go_step3;go_wp2;generalize hW:w.alloc (E arr 84)=W1 at *
 go_loopg[11,7] n (λg x aj wr=>∃k:Nat,Hid (k+g=n)/\x=I K k/\Below (w.heap.size+1) W1 wr/\Hid (∀j,j<k->Ed n m a b j=false))
 case atStart=>exact⟨0,AD,rfl,C5 _ _,λj o=>J⟩
 case round =>
  obtain⟨k,u,rfl,t,D⟩:=hrel;have B:=(t.block _ J).trans V;have Q:=(BB B 0).trans y;have l:=t.size;rw[W.out]at l;have f:=T B
  cases gk with
  |zero =>
   have af:¬(k:Int)<n:=Ao u.out
   go_wp2;go_ret;exact⟨by rw[T8 (λj o=>D.out j (Ao u.out))];rfl,R.trans (t.mono J)⟩
  |succ g =>
   have af:(k:Int)<n:=Ao u.out
   have aa:k<6:=J
   have d:=WQ arr n m S a b k ha hb aa wr;cases i:Dg m a b k
   ·rw[i]at d;have N:=T i
    go_wp2_with(first
     |(refine C8 Z 84 _ Z _ Z _ arr _ _ f underlying84 Z r ?_)
     |(go_at_call 143;refine d.mono ?_;rintro e C ⟨rfl,c⟩))
    go_roundg g
    case measure=>omega
    case rel =>
     refine⟨k+1,Ap u.out,AE,t.trans (c.mono l),?_⟩;intro j o;by_cases e:j=k
     ·subst e;unfold Ed;rw[N.out];rfl
     exact D j J
   rw[i]at d;have N:=T i
   go_wp2_with(first
    |(refine C8 Z 84 _ Z _ Z _ arr _ _ f underlying84 Z r ?_)
    |(go_at_call 143;refine d.mono ?_;rintro e C ⟨rfl,c⟩;have Q:=(BB (((c.block _ J).trans f)) 0).trans y))
   have ad:=t.trans (c.mono l)
   go_loopg[22,8] n (λg x aj wq=>∃q:Nat,Hid (q+g=n)/\x=I K q/\Below (w.heap.size+1) W1 wq/\Hid (∀j,j<q->Dg m a b j=true->m k j=true))
   case atStart=>exact⟨0,AD,rfl,ad,λj o=>J⟩
   case round =>
    obtain⟨q,v,rfl,p,L⟩:=hrel;have B:=(p.block _ J).trans V;have l:=p.size;rw[W.out]at l;have f:=T B
    cases gk with
    |zero =>
     have ah:¬(q:Int)<n:=Ao v.out
     go_wp2;go_ret;exact⟨by rw[Qw J (Qv N (λj o=>L.out j (Ao v.out)))];rfl,R.trans (p.mono J)⟩
    |succ h =>
     have ah:(q:Int)<n:=Ao v.out
     have ab:q<6:=J
     have d:=WQ arr n m S a b q ha hb ab wr;cases i:Dg m a b q
     ·rw[i]at d;have P:=T i
      go_wp2_with(first
       |(refine C8 Z 84 _ Z _ Z _ arr _ _ f underlying84 Z r ?_)
       |(go_at_call 143;refine d.mono ?_;rintro e C ⟨rfl,c⟩))
      go_roundg h
      case measure=>omega
      case rel =>
       refine⟨q+1,Ap v.out,AE,p.trans (c.mono l),?_⟩;intro j o s;by_cases e:j=q
       ·subst e;rw[P.out]at s;cases s
       exact L j J s
     rw[i]at d;have P:=T i;have z:=ac k q aa ab;cases A:m k q
     ·rw[A]at z;have F:=T A
      go_wp2_with(first
       |(refine C8 Z 84 _ Z _ Z _ arr _ _ f underlying84 Z r ?_)
       |(go_at_call 143;refine d.mono ?_;rintro e C ⟨rfl,c⟩;have Q:=(BB (((c.block _ J).trans f)) (1+k*6+q)).trans z))
      go_roundg g
      case measure=>omega
      case rel =>
       refine⟨k+1,Ap u.out,AE,p.trans (c.mono l),?_⟩;intro j o;by_cases e:j=k
       ·subst e;exact T7 J P F
       exact D j J
     rw[A]at z;have F:=T A
     go_wp2_with(first
      |(refine C8 Z 84 _ Z _ Z _ arr _ _ f underlying84 Z r ?_)
      |(go_at_call 143;refine d.mono ?_;rintro e C ⟨rfl,c⟩;have Q:=(BB (((c.block _ J).trans f)) (1+k*6+q)).trans z))
     go_roundg h
     case measure=>omega
     case rel =>
      refine⟨q+1,Ap v.out,AE,p.trans (c.mono l),?_⟩;intro j o s;by_cases e:j=q
      ·subst e;exact F
      exact L j J s
end
end Go.Proofs.YtnlnjkggkbbdhaaGreatDoor
