import Derived.Test.YtaehkdnabiccnaaGreatDoorRows
import Derived.WalkSpells
import Derived.WalkLawsBesides
import Derived.Great.Walk
import Derived.Deep.WholeRow
import Derived.Deep.RegionHeld3
import Derived.Deep.OwnRows
import Derived.RangeFuncBox
import Derived.Test.YtaehkdnabiccnaaGreatDoorShelf
set_option maxRecDepth 100000
set_option maxHeartbeats 8000000
set_option linter.all false
namespace Go.Proofs.YtaehkdnabiccnaaGreatDoor
open Go.Proofs.Tryz
open _root_ renaming Nat->I,Int->J,Nat->AH,Int->AI,List->AJ,Bool->AK,Except->AS,ByteArray->AT,UInt8->AU
open Go.Value renaming int->C,slice->G,int->Ab,slice->Ac,pointer->Ad,string->Ae,tuple->Af,agg->Ag,bool->Ah,iface->Ai,ownBlock->Ax
open Go.World renaming heap->U,setCell->AB,cell?->AC,setRow->AD,heap->Av,alloc->Az
open _root_.Array renaming size->O,size->Au,setIfInBounds->Ay
open _root_.List renaming length->K,length->At,toArray->Aw
open Go.IntKind renaming i64->Y,i64->Al,u8->Am
open Go.RowKit renaming Hid->D
open Go renaming World->X,TypeId->AN,undef->AO,World->Ap,Value->Aq,Calls->Ar
open Option renaming some->H,some->An,none->Ao
open Go.Obj renaming cells->M,cells->Aj
open Go.Ending renaming returned->Ak
open Go.Proofs.Tryz renaming prog->As
open Go.RowKit.Hid renaming out->AE
open Or renaming inl->AF,inr->AG
open _root_.Bool renaming true->AP,false->AQ
open _root_.Decidable renaming decide->AR
variable{P:Program}{o oi:Oper}{A B V V' W W' W0 w w5:X}{N b b0 b1 b2 b3 base cap cap5 dst fuel g hi i j k lo n off p q sz wh wh' x:I}{t:AN}{fr:I×I}{ops:Array Oper}{Q:Exit->Act->X->Prop}{rest:AJ Oper}{a:Act}{S:X->Prop}{md:Region.Mode}{listed:Array AK}{fv u v:Aq}{c:AU}{d:Option Tmp}{l lim r so:J}{m m':I->I->AK}{fn:Func}{R:Ending->X->Prop}{xs:AJ Aq}{s:AT}
section
open Go.RowKit Go.Lib Go.Shelf
def Z.{u}{a:Sort u}{b:a}:b=b:=rfl
section
variable{A B P:Prop}
def E(h:P:=by omega):P:=h
def kfP(h:P:=by have h:x=0\/x=1\/x=2\/x=3\/x=4\/x=5\/x=6\/x=7\/x=8\/x=9\/x=10\/x=11\/x=12\/x=13\/x=14\/x=15:=B5;rcases h with rfl|rfl|rfl|rfl|rfl|rfl|rfl|rfl|rfl|rfl|rfl|rfl|rfl|rfl|rfl|rfl<;>(show _=_;kernel_rfl)):P:=h
def kfQ(h:P:=by have j:=Cc b.h 2;go_simp):P:=h
def kfR(h:P:=by have L:=Cc f.h 2;go_simp):P:=h
def kfS(h:P:=by have o:=Cc f.2.1 1;go_simp):P:=h
def kfU(h:P:=by grind [Dd,Im]):P:=h
def kfV(h:P:=by show _<=_;simp):P:=h
def kfW(h:P:=by simpa using Q):P:=h
def kfX(h:P:=by rw[a];omega):P:=h
def AY(a:A)(h:A->P:=by intro h;omega):P:=h a
def AZ(a:A)(h:A->P:=by intro h;show _=_;omega):P:=h a
def B0(a:A)(h:A->P:=by intro h;simp;omega):P:=h a
def B1(a:A)(h:A->P:=by intro h;simp;omega):P:=h a
def B2(a:A)(h:A->P:=by intro h;simpa using h):P:=h a
def B3(a:A)(b:B)(h:A->B->P:=by intro h g;omega):P:=h a b
def B4(a:A)(h:A->P:=by intro h;unfold maxLen;omega):P:=h a
def B5(h:P:=by omega):P:=h
def B6(h:P:=by kernel_rfl):P:=h
def B7(h:P:=by simp;omega):P:=h
def B8(h:P:=by decide):P:=h
def B9(h:P:=by grind):P:=h
def Ba(h:P:=by simp):P:=h
def Bb(h:P:=by go_num):P:=h
def Bc(h:P:=by unfold maxLen;omega):P:=h
def Bd(h:P:=by simp[World.setCell]):P:=h
def Bf(h:P:=by rw[z]):P:=h
def Bg(h:P:=by show _=_;omega):P:=h
def Bh(h:P:=by go_simp):P:=h
def Bi(h:P:=by simp only[CL,A0];omega):P:=h
def Bj(h:P:=by grind [IntKind.wrap,IntKind.bits,IntKind.signed]):P:=h
def Bk(h:P:=by unfold execOp;simp only[c,hx,Instr.loadAt,Instr.sureAddr,GU,Gf,G0,Jz W g t ty cs fr d b e a hi]):P:=h
def Bl(h:P:=by simpa using a):P:=h
def Bm(h:P:=by simp only[results,h];simp_all):P:=h
def Bn(h:P:=by have:=h.size;omega):P:=h
def Bo(h:P:=by go_simp;exact If B5):P:=h
def Bp(h:P:=by show _<=_;omega):P:=h
def Bq(h:P:=by show _=_;unfold CW;simp[d,j,k,l,m,g]):P:=h
def Br(h:P:=by have l:=j.fr k R;rw[A]at l;go_simp):P:=h
def Bs(h:P:=by cases h):P:=h
def Bu(h:P:=by simpa using h):P:=h
def Bv(h:P:=by simp_all):P:=h
def Bw(h:P:=by simp[CI,Value.oneCell']):P:=h
def Bx(h:P:=by grind [World.size_alloc]):P:=h
def By(h:P:=by obtain⟨x2,a,c,m,r⟩:=at_ i<|AY<|Dk L;rw[L]at c;injection c with c;rw[c];exact r.iface):P:=h
def Bz(h:P:=by have:=g.size;simp only[CL,A0]at this ⊢;omega):P:=h
def BA(h:P:=by have:=d.size;simp only[CL,A0]at this ⊢;omega):P:=h
def BB(h:P:=by simp at h):P:=h
def BC(h:P:=by grind [maxLen]):P:=h
def BD(h:P:=by obtain⟨l,x,Q,R,S,z⟩:=q i key a c;obtain⟨t,y,rfl⟩:=z.iface;exact⟨l,t,y,Q,R,S,N _ a z⟩):P:=h
def BF(h:P:=by intro e;cases e;omega):P:=h
def BG(h:P:=by simpa using b):P:=h
def BH(h:P:=by first|(simp;done)|(simp;omega)):P:=h
def BI(h:P:=by unfold CX;go_simp;exact EX):P:=h
def BJ(h:P:=by simp at hu;rcases hu with rfl|rfl<;>rfl):P:=h
def BK(h:P:=by simp[Value.oneCell']):P:=h
def BL(h:P:=by unfold execOp;rw[a];kernel_rfl):P:=h
def BM(h:P:=by show _=_;rw[show o.ad.size=7 from rfl];kernel_rfl):P:=h
def BN(h:P:=by simp at b;rcases b with rfl|rfl<;>rfl):P:=h
def BO(h:P:=by simpa using c):P:=h
def BP(h:P:=by rw[Do _ _ _ _ B5,Do _ _ _ _ B5]):P:=h
def BQ(h:P:=by simp only;omega):P:=h
def BR(h:P:=by show _=_;simp):P:=h
def BS(h:P:=by go_simp;intro hh;omega):P:=h
def BT(h:P:=by grind [List.drop_eq_getElem_cons]):P:=h
def BU(h:P:=by exact KU (.tmp 7) rfl rfl m.2.1 underlying199 rfl B6):P:=h
def BV(h:P:=by grind [List.take_add_one]):P:=h
def BW(h:P:=by have:=Qi (bs:=bs) (lim:=lim) _ _ _ f.1 f.2 har;simpa using this):P:=h
def BX(h:P:=by exact KU (.tmp 7) rfl rfl m.2 underlying199 rfl B6):P:=h
def BY(h:P:=by have:=ck.b;omega):P:=h
def BZ(h:P:=by have:=n.size;simpa using this):P:=h
def C0(h:P:=by unfold Cv Cg Cq;go_simp):P:=h
def C1(h:P:=by simp[go_sem]):P:=h
def C2(h:P:=by grind [Addr.add]):P:=h
def C3(h:P:=by have z2:=Sk m.2.2 Sl underlying180 hl;rw[hi]at z2;go_simp):P:=h
def C4(h:P:=by exact Oe (.tmp 21) rfl rfl (an i hZ) underlying82 rfl<|Fh):P:=h
def C5(h:P:=by obtain⟨a,b,c⟩:=h;exact⟨a,b.kept d e,c⟩):P:=h
def C6(h:P:=by simp at p;rcases p with rfl|rfl<;>rfl):P:=h
def C7(h:P:=by simpa using b.1.2):P:=h
def C8(h:P:=by rw[k];rfl):P:=h
def kem(h:P:=by grind [CM,Lib.toList_data]):P:=h
def ken(h:P:=by have k:=Cc b.h 2;go_simp):P:=h
def keo(h:P:=by simpa using d):P:=h
def kep(h:P:=by simpa using o):P:=h
def keq(h:P:=by have c0:=Cc d.1 0;have c1:=Cc d.1 1;go_simp):P:=h
def ker(h:P:=by have k:=ed V fm d hl hi hb;rw[h]at k;exact k):P:=h
def kes(h:P:=by rw[YQ (a:=k) B5 B5 l.out];rfl):P:=h
def ket(h:P:=by have:=g.size;simp only[CL,A0]at this;omega):P:=h
def keu(h:P:=by have:=d.size;simp only[CL,A0]at this;omega):P:=h
def kev(h:P:=by have:=a.size;simpa using this):P:=h
def kew(h:P:=by simp at hx;rcases hx with rfl|rfl|rfl<;>rfl):P:=h
def kex(h:P:=by simpa using r):P:=h
def kez(h:P:=by grind [D4]):P:=h
def ke0(h:P:=by rw[Dc];exact Dc):P:=h
def ke1(h:P:=by rw[h];kernel_rfl):P:=h
def ke2(h:P:=by have:=DK P.out e.symm;omega):P:=h
def ke3(h:P:=by unfold Cg Cq;go_simp):P:=h
def ke4(h:P:=by have z1:=m.1;go_simp):P:=h
def ke5(h:P:=by have:=p.a0.2.1;grind [World.size_alloc]):P:=h
def ke6(h:P:=by show _=_;unfold CW;simp[d,j,k,l,m,g,u,v]):P:=h
def ke7(h:P:=by have:=ck.a;omega):P:=h
def ke8(h:P:=by grind [EZ,Lib.toList_data]):P:=h
def ke9(h:P:=by have o:=Cc f.2.1 0;go_simp):P:=h
def keA(h:P:=by simpa using m):P:=h
def keB(h:P:=by rw[z];rfl):P:=h
def keC(h:P:=by cases e):P:=h
def keD(h:P:=by rw[aP B5 B5 p.out];rfl):P:=h
def keE(h:P:=by simpa using w):P:=h
def keF(h:P:=by rw[Im];omega):P:=h
def keG(h:P:=by have b:¬0<=a:=B5;simp[Dg,b]):P:=h
def keH(h:P:=by simpa using A):P:=h
def keI(h:P:=by show s.c<=_;omega):P:=h
def keJ(h:P:=by rfl):P:=h
def keK(h:P:=by grind [runeCells,encodeRuneZ_one]):P:=h
def keL(h:P:=by simpa using hl):P:=h
def keM(h:P:=by grind [Ga,Ju,Jt]):P:=h
def keN(h:P:=by simp[results,f94,go_sem,N,P,Q]):P:=h
def keO(h:P:=by grind [FC]):P:=h
def keP(h:P:=by grind [Ev]):P:=h
def keQ(h:P:=by grind [Hz]):P:=h
def keR(h:P:=by simpa using f):P:=h
def keS(h:P:=by rw[h];rfl):P:=h
def keT(h:P:=by have:=a.size;omega):P:=h
def keU(h:P:=by have:=L.size;omega):P:=h
def keV(h:P:=by simpa using HH.out):P:=h
def keW(h:P:=by show _=_;rw[K7 B5];rfl):P:=h
def keX(h:P:=by simpa using s):P:=h
def keY(h:P:=by have:=d.size;omega):P:=h
def keZ(h:P:=by have:=b.size;omega):P:=h
def kfa(h:P:=by have:=F.size;omega):P:=h
def kfb(h:P:=by grind [CP,UInt8.toNat_ofNat']):P:=h
def kfc(h:P:=by have:=f.size;simpa using this):P:=h
def kfd(h:P:=by grind [Ez,encodeRuneZ_length]):P:=h
def kfe(h:P:=by have o:=f.1;go_simp):P:=h
def kff(h:P:=by have i:=c.1;go_simp):P:=h
def kfg(h:P:=by simpa using l):P:=h
def kfh(h:P:=by rw[Dj];unfold maxLen;omega):P:=h
def kfi(h:P:=by have:=h.a0.2.1;simp;omega):P:=h
def kfj(h:P:=by simp;have:=f.a0.2.1;omega):P:=h
def kfk(h:P:=by simpa using y):P:=h
def kfl(h:P:=by simpa using L):P:=h
def kfm(h:P:=by rw[c];rfl):P:=h
def kfn(h:P:=by grind [F1]):P:=h
def kfo(h:P:=by grind [Cj,World.size_alloc]):P:=h
def kfp(h:P:=by rw[l];omega):P:=h
def kfq(h:P:=by unfold CV;rfl):P:=h
def kfr(h:P:=by rw[a];rfl):P:=h
def kfs(h:P:=by rw[e];rfl):P:=h
def kft(h:P:=by grind [IF]):P:=h
def kfu(h:P:=by grind [CZ]):P:=h
def kfv(h:P:=by grind [CN]):P:=h
def kfw(h:P:=by grind [qB]):P:=h
def kfx(h:P:=by cases k<;>trivial):P:=h
def kfy(h:P:=by go_simp<;>exact k):P:=h
def kfz(h:P:=by rw[VZ];have:=h.fi;omega):P:=h
def kf0(h:P:=by simp[In,L]):P:=h
def kf1(h:P:=by simpa using hj):P:=h
def kf2(h:P:=by simp at c):P:=h
def kf3(h:P:=by simp[a]):P:=h
def kf4(h:P:=by simpa using hi):P:=h
def kf5(h:P:=by simpa using t):P:=h
def kf6(h:P:=by simpa using j):P:=h
def kf7(h:P:=by simpa using R):P:=h
def kf8(h:P:=by simpa using e):P:=h
def kf9(h:P:=by rw[f];rfl):P:=h
def kfA(h:P:=by rw[Dc];omega):P:=h
def kfB(h:P:=by grind [wrap64]):P:=h
def kfC(h:P:=by simp[Maps.has]):P:=h
def kfD(h:P:=by rw[CL];omega):P:=h
def kfE(h:P:=by rw[l];rfl):P:=h
def kfF(h:P:=by grind [Ds]):P:=h
def kfG(h:P:=by grind [Dt]):P:=h
def kfH(h:P:=by rw[hF];rfl):P:=h
def kfI(h:P:=by grind [EX]):P:=h
def kfJ(h:P:=by grind [J9]):P:=h
def kfK(h:P:=by grind [Fg]):P:=h
def kfL(h:P:=by grind [Er]):P:=h
def kfM(h:P:=by rw[<-c];rfl):P:=h
def kfN(h:P:=by rw[b];omega):P:=h
def kfO(h:P:=by rw[P];rfl):P:=h
def Ca:=@Eq.trans
def Ce:=@Calls.mono
def CB:=@Below.heap_alloc
def CL:=@World.size_alloc
def Co:=@Below.block
def Cr:=@Nat.le_refl
def Cs:=@Below.trans
def D7:=@List.getElem?_eq_getElem
def CQ:=@Nat.lt_of_lt_of_le
def CY:=@heap_setCell_other
def Cu:=@Below.refl
def CE:=@Nat.le_trans
def CO:=@wpList_load_row
def Dj:=@List.length_append
def D8:=@wpList_store_row
def CG:=@Below.mono
def Dr:=@of_decide_eq_true
def CS:=@bodyPost_ret
def Cl:=@if_neg
def CR:=@setRow_heap
def Cp:=@if_pos
def DX:=@heap_setCell_same
def K7:=@List.drop_eq_getElem_cons
def Do:=@setRow_other
def Dy:=@frozen_of_row
def Ge:=@World.setRow_alloc_new
def Hh:=@List.getElem?_append_left
def Fz:=@Array.length_toList
def Ei:=@wp_region_held
def Fi:=@World.ownsRow_nil
def Fj:=@Bool.and_eq_true
def Fk:=@block_lt_of_cell
def G0:=@Result.andThen_ok
def Jd:=@List.getElem?_append_right
def I7:=@List.getElem?_eq_none
def Fl:=@Option.some.inj
def GB:=@Below.heap_setCell
def FN:=@List.length_cons
def Je:=@World.cell?_of_block
def Iy:=@World.cell?_alloc_some
def DL:=@info_parts
def Fm:=@decide_eq_true
def FO:=@decide_eq_false
def Ex:=@Nat.zero_le
def SM:=@Lib.toList_data
def L7:=@Array.getElem?_eq_some_iff
def EN:=@wpAnyH_take
def Hi:=@List.all_eq_true
def FP:=@results_tmp2
def QY:=@List.take_add_one
def Hj:=@List.mem_range
def Nt:=@List.take_of_length_le
def Gf:=@Sem.run_pure
def Nu:=@List.getElem?_eq_some_iff
def Gg:=@Nat.zero_add
def J1:=@DataW.trod_int
def QZ:=@List.getElem_of_mem
def J2:=@List.length_nil
def L8:=@World.grownBy_alloc
def Nv:=@Array.getElem?_append_right
def GU:=@Sem.run_bind
def LM:=@List.mem_cons_of_mem
def Iz:=@cell_of_row
def K8:=@wpList_append_own
def K9:=@List.size_toArray
def I8:=@List.map_cons
def VA:=@List.take_succ_eq_append_getElem
def IA:=@List.mem_cons
def Jz:=@run_loadVar_row
def Mn:=@List.mem_cons_self
def Mo:=@Lib.run_eql_slice_nil
def ZK:=@List.take_append_drop
def Nw:=@beq_eq_false_iff_ne
def Ka:=@List.nil_append
def Kb:=@List.map_append
def Kw:=@List.cons_append
def L9:=@List.getElem?_map
def La:=@List.append_assoc
def Mp:=@Array.replicate_succ
def Mq:=@Array.replicate_zero
def PK:=@Array.getElem?_setIfInBounds
def Ov:=@List.getElem_append_left
def Mr:=@List.append_toArray
def Lb:=@results_cell_row
def Jf:=@wp_store_row
def Ox:=@Option.map_eq_some_iff
def Oy:=@List.drop_eq_nil_of_le
def R0:=@List.eq_nil_of_length_eq_zero
def LN:=@List.take_length
def PL:=@Int.toNat_of_nonneg
def Oz:=@Array.getElem?_toList
def Ms:=@List.push_toArray
def PM:=@Int.eq_ofNat_of_zero_le
def LO:=@List.length_map
def OA:=@BitVec.ofInt_natCast
def OB:=@Nat.pow_le_pow_right
def Mt:=@List.not_mem_nil
def Mu:=@Nat.mod_eq_of_lt
def R2:=@Array.toList_setIfInBounds
def R5:=@run_convert_bytes_back
def Kx:=@List.mem_map
def Ky:=@callsIn_wide
def OC:=@Array.ext_getElem?
def OD:=@BitVec.toNat_ofNat
def R6:=@List.getElem?_take_of_lt
def SN:=@List.drop_append_of_le_length
def PN:=@Nat.mul_le_mul_right
def LP:=@Prod.mk.injEq
def Mv:=@run_underlying
def OE:=@Int.toNat_natCast
def PO:=@UInt8.toNat_inj
def R7:=@List.drop_of_length_le
def OF:=@List.map_toArray
def LQ:=@wpList_plain
def PP:=@Nat.and_lt_two_pow
def Lc:=@Prod.mk.inj
def SO:=@Array.getElem?_eq_getElem
def ZL:=@World.cell?_setCell_same'
def R8:=@Great.wpList_allocTo
def ng:=@List.replicate_succ'
def VB:=@List.replicate_append_replicate
def PQ:=@DataW.trod_struct
def Mw:=@List.map_nil
def Mx:=@List.map_map
def R9:=@Array.toList_append
def PR:=@List.getElem_mem
def OG:=@AllReadyH.cons
def VC:=@List.all_eq_false
def Ra:=@Maps.string_keyed
def ZM:=@IntKind.wrap_i64
def ZN:=@List.map_congr_left
def SP:=@List.reverse_append
def VD:=@Array.size_setIfInBounds
def OH:=@Nat.le_of_eq
def nh:=@Array.setIfInBounds_comm
def VE:=@Nat.lt_succ_iff_lt_or_eq
def VF:=@List.idxOf_lt_length_iff
def Rb:=@List.mem_append
def ZO:=@UInt8.toNat_ofNat'
def ZP:=@World.ownsMap_made
def Rd:=@List.append_nil
def kct:=@ByteArray.data_extract
def OI:=@Int.le_refl
def SQ:=@World.cells?_some
def SR:=@DataW.trod_string
def OJ:=@leaves_cons
def OK:=@Nat.le_succ
def VG:=@Nat.le_succ_of_le
def Re:=@run_append_own
def VH:=@List.getElem?_toArray
def ZQ:=@Nat.and_two_pow_sub_one_eq_mod
def VI:=@Nat.le_of_ble_eq_true
def ZR:=@List.set_append_right
def VJ:=@List.length_replicate
def VK:=@List.length_drop
def SS:=@Array.all_append
def VL:=@List.mem_of_getElem?
def kc9:=@Array.toList_extract
def VM:=@Array.toArray_toList
def VN:=@List.reverse_reverse
def ST:=@List.all_append
def ZS:=@Int.tmod_eq_emod_of_nonneg
def ZT:=@List.getD_eq_getElem?_getD
def ZU:=@Array.getElem?_append_left
def VO:=@Nat.eq_zero_or_pos
def My:=@or_false
def VP:=@run_loadCells_list
def Rf:=@Nat.zero_mul
def kcK:=@Maps.has_put_other
def Rg:=@Nat.sub_self
def VQ:=@Option.isSome_none
def SU:=@List.take_zero
def ni:=@List.drop_drop
def ZV:=@Classical.byContradiction
def PS:=@Array.ext'
def ZW:=@Option.isSome_iff_exists
def VR:=@setCell_eq_setRow
def VS:=@List.ext_getElem?
def VT:=@Bool.not_eq_true'
def VU:=@Maps.has_put_same
def OL:=@And.intro
def VV:=@decide_eq_true_eq
def PT:=@wpAnyH_all
def VW:=@List.flatMap_cons
def VX:=@run_sliceAt_slice
def SV:=@AllReadyH.nil
def SW:=@Bool.true_and
def SX:=@wp_region_any
def SY:=@List.sum_cons
def SZ:=@callsD_of_wpS
def VY:=@Nat.lt_succ_self
def nj:=@List.reverse_nil
def VZ:=@List.length_take
def ZX:=@Array.getElem?_eq_none
def T0:=@wpAnyH_ready
def ZY:=@run_neq_slice_nil_any
def nk:=@Int.emod_nonneg
def ZZ:=@World.var?_cell
def aa:=@run_append_owned_none
def W5:=@Bool.or_eq_true
def W6:=@List.foldl_cons
def W7:=@List.sum_append
def W8:=@List.range_succ
def ab:=@Nat.pow_lt_pow_right
def kdu:=@Maps.atKey_put_other
def ae:=@List.mem_iff_getElem
def np:=@size_madeCells
def W9:=@List.drop_left
def Ld:=@Or.inr
def Wa:=@run_sliceBound
def T5:=@Nat.mul_one
def nr:=@List.length_pos_iff
def af:=@Maps.atKey_put_same
def ag:=@Array.getElem?_push
def Wc:=@AllReady.cons
def ah:=@List.getElem?_drop
def nu:=@Nat.add_sub_cancel
def Wd:=@plainElem_int
def aj:=@Lib.extract_to_end
def We:=@List.all_cons
def Wf:=@Nat.add_assoc
def ak:=@Option.toList_some
def am:=@Option.isSome_some
def kdG:=@UInt8.ofNat_toNat
def an:=@List.flatten_cons
def ap:=@Nat.or_lt_two_pow
def av:=@Maps.Keyed.of_law
def aw:=@run_append_own_at
def ax:=@wp_scope_straight
def T6:=@wpS_region
def ay:=@List.length_range
def Wg:=@Nat.pow_succ
def Wh:=@Nat.mul_comm
def Wi:=@results_none
def az:=@List.any_eq_true
def aA:=@List.mem_flatMap
def aB:=@Option.bind_some
def kdW:=@Nat.shiftLeft_eq
def aC:=@BitVec.toNat_and
def aD:=@forall_eq_or_imp
def nw:=@Lib.extract_data
def aE:=@List.mem_reverse
def aF:=@Nat.le_add_right
def aG:=@List.flatMap_def
def Wj:=@wpList_step
def Wk:=@unitElem_mk
def T7:=@wpIn_wide
def T8:=@wpS_of_wp
def Wl:=@Nat.mod_lt
def Wm:=@wpAny_done
def Wn:=@beq_iff_eq
def T9:=@run_make
def PU:=@Or.inl
end
abbrev A6(W:Ap)(b o:AH)(v:Aq):Prop:=AC W ⟨b,o,Ao⟩=An v
abbrev A7(W:Ap)(g:AH)(c:Array Aq)(t:AN):Prop:=W.heap[g]?=An (Aj c t)
abbrev A8(b:AH):Aq:=Ad (An ⟨b,0,Ao⟩)
abbrev A9(b o:AH):Aq:=Ad (An ⟨b,o,Ao⟩)
abbrev Aa(b:AH):Option Addr:=An ⟨b,0,Ao⟩
abbrev A0(W V:Ap):Prop:=Below (Au (Av W)) W V
abbrev A1:=AJ AU
abbrev A2:=Go.DataW Unit
abbrev A3:=Array Aq
abbrev A4:=Option Addr
abbrev A5(a:Type):=AS (AI×AI) (a×AH)
def C9{p:Prop}(h:p):Go.RowKit.Hid p:=h
def T:=@C9
theorem Cj(w:X){o:Obj}:(Az w o).heap[O<|U w]?=H o:=by show(w.heap.push o)[O<|U w]?=_;simp
theorem Cc{cs:A3}(a:w.heap[g]?=H (M cs t fr))(j:I):AC w ⟨g,j,Ao⟩=cs[j]?:=Iz w g j cs t fr a
theorem Cm{o:Obj}:A0 w<|Az w o:=(Cu _ _).alloc (Cr _) _
theorem CT:Below n w w:=Cu _ _
def Cd{α:Type}{a:Array α}{x:α}(h:a[i]?=H x):i<a.size:=(L7.1 h).1
theorem Dk{α:Type}{a:AJ α}{x:α}(h:a[i]?=H x):i<K a:=(Nu.1 h).1
def sx{cs:A3}{y:Option Obj}(h:j≠g)(e:w.heap[j]?=y):(AD w g cs).heap[j]?=y:=Ca (Do _ _ _ _ h) e
def GC{α β γ:Type}{p:α->β->γ->Prop}:∀a b c,p a b c->p a b c:=λ_ _ _ h=>h
def CC{α:Sort _}(a:α):∃x,D<|a=x:=⟨a,show a=a from rfl⟩
def DF{α:Sort _}(a:α):∃x,a=x:=⟨a,rfl⟩
def IB{α:Sort _}(a:α):∃x,x=a:=⟨a,rfl⟩
def FA(h:∀V,w=V->wpList P ops Q rest a V):wpList P ops Q rest a w:=h w rfl
def aI(b:S w)(h:∀V,D (S V)->wpList P ops Q rest a V):wpList P ops Q rest a w:=h w b
def Dl{id:I}(b:S {w with drawn:=w.drawn+1})(c:P.follows .mixedOrders=AP)(h:S {w with drawn:=w.drawn+1}->wpAnyH P .any ops Q S ops.size (Array.replicate ops.size AQ) a {w with drawn:=w.drawn+1}):(Code.region id ops AP).wp P Q a w:=Ei c<|h b
def ER(i:I)(hi:ops[i]?=H o)(c:Region.ready md ops listed=[i])(h:(∀b:Act->X->Prop,(∀a w,wpAny P md ops Q fuel (Ay listed i AP) a w->b a w)->if Region.wanted o (yielded ops a.tmps)=AP then Oper.wp P o a w b Q else b (a.put o.dst AO) w)):wpAny P md ops Q (fuel+1) listed a w:=wpAny_ready c Ba<|Wc hi h AllReady.nil
def Le{p:Oper}(i j:I)(hi:ops[i]?=H o)(c:ops[j]?=H p)(d:Region.ready md ops listed=[i,j])(h:(∀b:Act->X->Prop,(∀a w,wpAny P md ops Q fuel (Ay listed i AP) a w->b a w)->if Region.wanted o (yielded ops a.tmps)=AP then Oper.wp P o a w b Q else b (a.put o.dst AO) w))(k:(∀b:Act->X->Prop,(∀a w,wpAny P md ops Q fuel (Ay listed j AP) a w->b a w)->if Region.wanted p (yielded ops a.tmps)=AP then Oper.wp P p a w b Q else b (a.put p.dst AO) w)):wpAny P md ops Q (fuel+1) listed a w:=wpAny_ready d Ba<|Wc hi h<|Wc c k AllReady.nil
def ny(hi:ops[i]?=H o)(c:Region.ready md ops listed=[i])(h:(∀b:Act->X->Prop,Shut (∀a w,S w->(S w->wpAnyH P md ops Q S fuel (Ay listed i AP) a w)->b a w)->if Region.wanted o (yielded ops a.tmps)=AP then Oper.wp P o a w b Q else b (a.put o.dst AO) w)):wpAnyH P md ops Q S (fuel+1) listed a w:=T0 c Ba<|OG hi h SV
def nz{p:Oper}(hi:ops[i]?=H o)(c:ops[j]?=H p)(d:Region.ready md ops listed=[i,j])(h:(∀b:Act->X->Prop,Shut (∀a w,S w->(S w->wpAnyH P md ops Q S fuel (Ay listed i AP) a w)->b a w)->if Region.wanted o (yielded ops a.tmps)=AP then Oper.wp P o a w b Q else b (a.put o.dst AO) w))(k:(∀b:Act->X->Prop,Shut (∀a w,S w->(S w->wpAnyH P md ops Q S fuel (Ay listed j AP) a w)->b a w)->if Region.wanted p (yielded ops a.tmps)=AP then Oper.wp P p a w b Q else b (a.put p.dst AO) w)):wpAnyH P md ops Q S (fuel+1) listed a w:=T0 d Ba<|OG hi h<|OG c k SV
def IC(dst:Option Tmp)(hi:ops[i]?=H oi)(j:Region.noSelect ops=AP)(f:Region.free md ops listed i=AP)(g:(Region.ready md ops listed).contains i=AP)(b:∀c a w,Q (.panic c) (a.put dst v) w->Q (.panic c) a w)(e:oi.dst=dst)(hy:YieldsIf P ops S oi v a)(d:S w)(h:wpAnyH P md ops Q S fuel (Ay listed i AP) (a.put dst v) w):wpAnyH P md ops Q S (fuel+1) listed a w:=by subst e;exact EN hi j f g b hy d h
def Cb(i dst:I)(v:Aq)(l:S w)(h:wpAnyH P md ops Q S fuel (Ay listed i AP) (a.put (H dst) v) w)(m:(Region.noSelect ops&&Region.free md ops listed i&&(Region.ready md ops listed).contains i,ops[i]?.map λo=>(o.dst,Region.wanted o<|yielded ops a.tmps,λb=>(execOp a.eval o).run P b))=(AP,H (H dst,AP,λb=>.ok (.value v) b)):=by kernel_rfl)(k:∀c a w,Q (.panic c) (a.put (H dst) v) w->Q (.panic c) a w:=by exact λ_ _ _ h=>h):wpAnyH P md ops Q S (fuel+1) listed a w:=by obtain⟨d,g⟩:=Lc m;obtain⟨o,n,e⟩:=Ox.1 g;obtain⟨e,f⟩:=Lc e;obtain⟨f,j⟩:=Lc f;simp only[Fj]at d;exact IC _ n d.1.1 d.1.2 d.2 k e (AF ⟨f,λb _=>congrFun j b⟩) l h
def Ch(i dst:I)(v:Aq)(hi:ops[i]?=H oi)(hy:∀d,S d->(execOp a.eval oi).run P d=.ok (.value v) d)(f:S w)(h:wpAnyH P md ops Q S fuel (Ay listed i AP) (a.put (H dst) v) w)(b:(Region.noSelect ops&&Region.free md ops listed i&&(Region.ready md ops listed).contains i&&oi.dst==H dst&&Region.wanted oi (yielded ops a.tmps))=AP:=by kernel_rfl)(e:∀c a w,Q (.panic c) (a.put (H dst) v) w->Q (.panic c) a w:=by exact λ_ _ _ h=>h):wpAnyH P md ops Q S (fuel+1) listed a w:=by simp only[Fj]at b;exact IC _ hi b.1.1.1.1 b.1.1.1.2 b.1.1.2 e C7 (AF ⟨b.2,hy⟩) f h
def CK(h:Q .normal a w)(b:Region.ready md ops listed=[]:=by kernel_rfl):wpAnyH P md ops Q S fuel listed a w:=wpAnyH_done b h fuel
def Jg(i:I)(v:Aq)(hi:ops[i]?=H oi)(hy:∀b,S b->(execOp a.eval oi).run P b=.ok (.value v) b)(e:S w)(h:wpAnyH P md ops Q S fuel (Ay listed i AP) (a.put (H dst) v) w)(_hd:oi.dst=H dst:=by rfl)(f:(Region.noSelect ops&&Region.free md ops listed i&&(Region.ready md ops listed).contains i&&oi.dst==H dst&&Region.wanted oi (yielded ops a.tmps))=AP:=by kernel_rfl)(d:∀c a w,Q (.panic c) (a.put (H dst) v) w->Q (.panic c) a w:=by exact λ_ _ _ h=>h):wpAnyH P md ops Q S (fuel+1) listed a w:=Ch i dst v hi hy e h f d
def Nx(i:I)(v:Aq)(e:S w)(h:wpAnyH P md ops Q S fuel (Ay listed i AP) (a.put (H dst) v) w)(_hi:ops[i]?=H oi:=by rfl)(_hd:oi.dst=H dst:=by rfl)(f:(Region.noSelect ops&&Region.free md ops listed i&&(Region.ready md ops listed).contains i,ops[i]?.map λo=>(o.dst,Region.wanted o<|yielded ops a.tmps,λb=>(execOp a.eval o).run P b))=(AP,H (H dst,AP,λb=>.ok (.value v) b)):=by kernel_rfl)(d:∀c a w,Q (.panic c) (a.put (H dst) v) w->Q (.panic c) a w:=by exact λ_ _ _ h=>h):wpAnyH P md ops Q S (fuel+1) listed a w:=Cb i dst v e h f d
def CH(i:I)(h:(∀b:Act->X->Prop,Shut (∀a w,S w->(S w->wpAnyH P md ops Q S fuel (Ay listed i AP) a w)->b a w)->if Region.wanted o (yielded ops a.tmps)=AP then Oper.wp P o a w b Q else b (a.put o.dst AO) w))(hi:ops[i]?=H o:=by rfl)(c:Region.ready md ops listed=[i]:=by kernel_rfl):wpAnyH P md ops Q S (fuel+1) listed a w:=ny hi c h
def Hk{p:Oper}(i j:I)(h:(∀b:Act->X->Prop,Shut (∀a w,S w->(S w->wpAnyH P md ops Q S fuel (Ay listed i AP) a w)->b a w)->if Region.wanted o (yielded ops a.tmps)=AP then Oper.wp P o a w b Q else b (a.put o.dst AO) w))(k:(∀b:Act->X->Prop,Shut (∀a w,S w->(S w->wpAnyH P md ops Q S fuel (Ay listed j AP) a w)->b a w)->if Region.wanted p (yielded ops a.tmps)=AP then Oper.wp P p a w b Q else b (a.put p.dst AO) w))(hi:ops[i]?=H o:=by rfl)(c:ops[j]?=H p:=by rfl)(d:Region.ready md ops listed=[i,j]:=by kernel_rfl):wpAnyH P md ops Q S (fuel+1) listed a w:=nz hi c d h k
def Df(v:J)(h:¬(c.toNat:J)=v):((c.toNat:J)==v)=AQ:=Bu
def F0{P:Program}{ops:Array Oper}{rest:AJ Oper}{o:Oper}{a:Act}{w:X}{Q:Exit->Act->X->Prop}{ty:AN}{x:Operand}(i:o.op=.load ty x)(f:Region.wanted o (yielded ops a.tmps)=AP){g:I}(hx:a.eval x=A8 g){t:AN}{cs:A3}{fr:I×I}{d:TypeDesc}(e:w.heap[g]?=H (M cs t fr))(j:P.underlying ty=H d)(c:(match d with|.struct _|.array _ _=>AP|_=>AQ)=AP)(hi:(P.info? ty).map (·.size)=H cs.size)(h:wpList P ops Q rest (a.put o.dst<|.agg cs) w):wpList P ops Q (o::rest) a w :=
 Wj λk b=>by rw[Cp f];exact wp_load_row ty x i g hx t cs fr d e j c hi<|b _ _ h
def Jh(e:o.guard=Ao){parts:Array<|I×Operand}(f:o.op=.build t parts)(b:o.dst=d){cells:A3}{l:AJ<|I×Aq}(hl:(parts.map λ(i,x)=>(i,a.eval x)).toList=l)(c:P.built t l=H cells)(h:wpList P ops Q rest (a.put d<|.agg cells) w):wpList P ops Q (o::rest) a w :=
 wpList_buildTo e t parts f d b cells (by rw[hl];exact c) h
structure Ny(arr:A3)(n:AH)(m:AH->AH->AK):Prop where
 size:arr.size=37
 ad:arr[0]?=An (Ab Al n)
 aq:∀i j,i<6->j<6->arr[1+i*6+j]?=An (Ah (m i j))
def Dp(n:AH)(m:AH->AH->AK):A3:=Aw (Ab Al n::(List.range 36).map λk=>Ah<|m (k/6)<|k%6)
theorem Dc{n:I}{m:I->I->AK}:(Dp n m).size=37:=by simp[Dp]
def Hl(n:I)(m:I->I->AK):Ny (Dp n m) n m:=by refine⟨Dc,rfl,λi j d e=>?_⟩;have a:1+i*6+j=(i*6+j)+1:=E;rw[a];simp only[Dp,VH,List.getElem?_cons_succ,L9];rw[List.getElem?_range E];simp only[Option.map_some];have b:(i*6+j)/6=i:=E;have c:(i*6+j)%6=j:=E;rw[b,c]
def upd(m:AH->AH->AK)(i j:AH)(b:AK):AH->AH->AK:=λx y=>if x=i/\y=j then b else m x y
def aJ(m:I->I->AK){b:AK}(hi:i<6)(d:j<6):Ay (Dp n m) (1+i*6+j) (Ah b)=Dp n (upd m i j b):=by
 apply OC;intro k;rw[PK];by_cases a:1+i*6+j=k
 .subst a;rw[Cp rfl,(Hl n _).aq i j hi d,Cp kfA];simp[upd]
 rw[Cl a];obtain _|q:=k
 .rw[(Hl n m).ad,(Hl n _).ad]
 by_cases e:q<36
 .have c:q+1=1+(q/6)*6+q%6:=E;rw[c,(Hl n m).aq _ _ E E,(Hl n _).aq _ _ E E];have:¬(q/6=i/\q%6=j):=E;simp[upd,this]
 rw[ZX kfA,ZX kfA]
def Hm:(Dp n m).all (·.oneCell')=AP:=by rw[Array.all_eq_true_iff_forall_mem];intro x a;simp only[Dp,List.mem_toArray,IA,Kx]at a;rcases a with rfl|⟨k,_,rfl⟩<;>rfl
def CU:A3:=Dp 0 λ_ _=>AQ
def nB{ρ:Operand->Aq}(a:o.op=.alloc 123):(execOp ρ o).run As w=.ok (.value<|A8<|O<|U w) (Az w<|M CU 123):=BL
def Kz(e:o.guard=Ao)(f:o.op=.alloc 123)(c:o.dst=d)(N:I)(b:O (U w)=N)(h:wpList As ops Q rest (a.put d<|A8 N)<|Az w<|M CU 123):wpList As ops Q (o::rest) a w:=by subst b;exact R8 e d c _ _ (nB f) h
def aK(n:I):prog.built 123 [(0,C Y n)]=H (Dp n λ_ _=>AQ):=B6
def OM:prog.built 123 []=H CU:=B6
def F1(m:AH->AH->AK)(a b c:AH):AK:=m a c&&m b c
def DM{arr:A3}(h:arr.size=37):(prog.info? 123).map (·.size)=H arr.size:=ke1
def aL{arr:A3}(H:Ny arr n m){a c:I}(f:a<6)(hb:b<6)(g:c<6)(w:X):Ar As 194 #[.agg arr,C Y c,C Y a,C Y b] w λe d=>e=Ak (Ah<|F1 m a b c)/\A0 w d:=by
 have h:=H.aq;go_enter func194,ntmps194;go_wp2
 all_goals go_ret
 all_goals exact⟨by simp[F1, *],Cm⟩
def Dg(n:AH)(a:AI):AK:=AR<|0<=a/\a<n
def ON{arr:A3}(h:arr[0]?=H (C Y n))(a:J)(w:X):Ar As 67 #[.agg arr,C Y a] w λe c=>e=Ak (Ah<|Dg n a)/\A0 w c:=by
 go_enter func67,ntmps67;go_wp2
 all_goals go_ret
 .exact⟨by simp[Dg, *],Cm⟩
 exact⟨keG,Cm⟩
def GD(n:AH)(m:AH->AH->AK)(a b j:AH):AK:=F1 m a b j&&(List.range n).all λk=>!F1 m a b k||m j k
def FB(n:AH)(m:AH->AH->AK)(a b:AH):AK:=(List.range n).any λj=>GD n m a b j
def aM{a:I}(d:k<n)(h:F1 m a b k=AP)(c:m j k=AQ):GD n m a b j=AQ:=by unfold GD;rw[Bool.and_eq_false_iff];right;rw[VC];exact⟨k,Hj.2 d,by simp[h,c]⟩
theorem Wo{a:I}(c:F1 m a b j=AP)(h:∀k,k<n->F1 m a b k=AP->m j k=AP):GD n m a b j=AP:=by unfold GD;rw[c,SW,Hi];intro k d;have:=h k<|Hj.1 d;cases e:F1 m a b k<;>simp_all
theorem Wp{a:I}(c:j<n)(h:GD n m a b j=AP):FB n m a b=AP:=by unfold FB;rw[az];exact⟨j,Hj.2 c,h⟩
theorem aN{a:I}(h:∀j,j<n->GD n m a b j=AQ):FB n m a b=AQ:=by unfold FB;rw[List.any_eq_false];intro j c;simp[h j (Hj.1 c)]
def Wq{arr:A3}(H:Ny arr n m)(hn:n<=6){a:I}(ha:a<6)(hb:b<6)(w:X):Ar As 172 #[.agg arr,C Y a,C Y b] w λe w'=>e=Ak (Ah<|FB n m a b)/\A0 w w':=by
 have ac:=H.aq;have h0:=H.ad;have hi:=DM H.size;have h:=T H;have s:=T hi;have ae:=(Cu _ w).alloc (Cr _)<|M arr 123;have ag:=Cj w (o:=(M arr 123));have ai:O (U<|Az w<|M arr 123)=O (U w)+1:=Ba;have W:=T ae;have y:=T ag;have HZ:=T ai;go_enter func172,ntmps172;go_wp2;go_step3;go_wp2;go_step3;go_wp2;generalize hW:Az w (M arr 123)=W1 at *
 go_loopg[11,7] n (λg x aj wr=>∃k:I,D (k+g=n)/\x=C Y k/\Below (O (U w)+1) W1 wr/\D (∀j,j<k->GD n m a b j=AQ))
 exact⟨0,Bg,Z,Cu _ _,λj p=>E⟩;obtain⟨k,v,rfl,u,N⟩:=hrel;have F:=Ca (Co u _ E) y;have V:=Ca (Cc F 0) h0;have l:=u.size;rw[AE HZ]at l;have f:=T F;obtain _|g:=gk
 .have af:¬(k:J)<n:=AY<|AE v;go_wp2;go_ret;exact⟨by rw[aN λj p=>N.out j<|AY<|AE v];rfl,Cs W<|CG u E⟩
 have af:(k:J)<n:=AY<|AE v;have aa:k<6:=E;have d:=aL h ha hb aa wr;cases i:F1 m a b k
 .rw[i]at d;have R:=T i
  go_wp2_with(first
   |(refine CO Z 123 _ Z _ Z _ arr _ _ f underlying123 Z s ?_)
   |(go_at_call 194;apply d.mono;rintro e L ⟨rfl,c⟩))
  go_roundg g
  .refine⟨k+1,AZ<|AE v,Bb,Cs u<|CG c l,?_⟩;intro j p;by_cases e:j=k
   .subst e;unfold GD;rw[AE R];rfl
   exact N j E
  omega
 rw[i]at d;have R:=T i
 go_wp2_with(first
  |(refine CO Z 123 _ Z _ Z _ arr _ _ f underlying123 Z s ?_)
  |(go_at_call 194;apply d.mono;rintro e L ⟨rfl,c⟩;have V:=Ca (Cc ((Ca (Co c _ E) f)) 0) h0))
 have ad:=Cs u<|CG c l
 go_loopg[22,8] n (λg x aj wq=>∃q:I,D (q+g=n)/\x=C Y q/\Below (O (U w)+1) W1 wq/\D (∀j,j<q->F1 m a b j=AP->m k j=AP))
 exact⟨0,Bg,Z,ad,λj p=>E⟩;obtain⟨q,z,rfl,r,Q⟩:=hrel;have F:=Ca (Co r _ E) y;have l:=r.size;rw[AE HZ]at l;have f:=T F;obtain _|g2:=gk
 .have ah:¬(q:J)<n:=AY<|AE z;go_wp2;go_ret;exact⟨by rw[Wp E<|Wo R λj p=>Q.out j<|AY<|AE z];rfl,Cs W<|CG r E⟩
 have ah:(q:J)<n:=AY<|AE z;have ab:q<6:=E;have d:=aL h ha hb ab wr;cases i:F1 m a b q
 .rw[i]at d;have S:=T i
  go_wp2_with(first
   |(refine CO Z 123 _ Z _ Z _ arr _ _ f underlying123 Z s ?_)
   |(go_at_call 194;apply d.mono;rintro e L ⟨rfl,c⟩))
  go_roundg g2
  .refine⟨q+1,AZ<|AE z,Bb,Cs r<|CG c l,?_⟩;intro j p t;by_cases e:j=q
   .subst e;rw[AE S]at t;cases t
   exact Q j E t
  omega
 rw[i]at d;have S:=T i;have A:=ac k q aa ab;cases B:m k q
 .rw[B]at A;have P:=T B
  go_wp2_with(first
   |(refine CO Z 123 _ Z _ Z _ arr _ _ f underlying123 Z s ?_)
   |(go_at_call 194;apply d.mono;rintro e L ⟨rfl,c⟩;have V:=Ca (Cc ((Ca (Co c _ E) f)) _) A))
  go_roundg g
  .refine⟨k+1,AZ<|AE v,Bb,Cs r<|CG c l,?_⟩;intro j p;by_cases e:j=k
   .subst e;exact aM E S P
   exact N j E
  omega
 rw[B]at A;have P:=T B
 go_wp2_with(first
  |(refine CO Z 123 _ Z _ Z _ arr _ _ f underlying123 Z s ?_)
  |(go_at_call 194;apply d.mono;rintro e L ⟨rfl,c⟩;have V:=Ca (Cc ((Ca (Co c _ E) f)) _) A))
 go_roundg g2
 .refine⟨q+1,AZ<|AE z,Bb,Cs r<|CG c l,?_⟩;intro j p t;by_cases e:j=q
  .subst e;exact P
  exact Q j E t
 omega
def Lf(m:AH->AH->AK)(a b:AH):AK:=m a b&&m b a
def ID(n:AH)(m:AH->AH->AK):AK:=(List.range n).any λa=>(List.range a).any λb=>Lf m a b
theorem Wr{a:I}(c:a<n)(hb:b<a)(h:Lf m a b=AP):ID n m=AP:=by grind [ID]
theorem nC(h:∀a b,a<n->b<a->Lf m a b=AQ):ID n m=AQ:=by grind [ID]
theorem nD{arr:A3}(H:Ny arr n m)(P:n<=6):Ar As 136 #[.agg arr] w λe F=>e=Ak (Ah<|ID n m)/\A0 w F:=by
 have i:=T H.aq;have N:=H.ad;go_enter func136,ntmps136;go_wp2
 go_loopg[7,3] n (λg x y wr=>∃k:I,D (k+g=n)/\x=C Y k/\Az w (M arr 123)=wr/\D (∀a b,a<k->b<a->Lf m a b=AQ))
 exact⟨0,Bg,Z,Z,λa b p=>E⟩;obtain⟨k,h,rfl,rfl,z⟩:=hrel;obtain _|g:=gk
 .have A:¬(k:J)<n:=AY<|AE h;go_wp2;go_ret;exact⟨by rw[nC λa b p f=>z.out a b (AY<|AE h) f];rfl,Cm⟩
 have A:(k:J)<n:=AY<|AE h;have r:k<6:=E;go_wp2
 go_loopg[11,4] k (λg x y wr=>∃q:I,D (q+g=k)/\x=C Y q/\Az w (M arr 123)=wr/\D (∀b,b<q->Lf m k b=AQ))
 grind [D];obtain⟨q,s,rfl,rfl,L⟩:=hrel;obtain _|j:=gk
 .have B:¬(q:J)<k:=AY<|AE s;go_wp2;go_roundg g
  .refine⟨k+1,B9,Bb,Z,λa b p f=>?_⟩;grind [D]
  omega
 have B:(q:J)<k:=AY<|AE s;have t:q<6:=E;have l:=i.out k q r t;have o:=i.out q k t r;cases c:m k q
 .rw[c]at l;have u:=T c;go_wp2;go_roundg j
  .refine⟨q+1,B9,Bb,Z,λb f=>?_⟩;grind [D,Lf]
  omega
 rw[c]at l;have u:=T c;cases d:m q k
 .rw[d]at o;have v:=T d;go_wp2;go_roundg j
  .refine⟨q+1,B9,Bb,Z,λb f=>?_⟩;grind [D,Lf]
  omega
 rw[d]at o;have v:=T d;go_wp2;go_ret;exact⟨by rw[Wr (a:=k) (b:=q) E E<|by grind [D,Lf]];rfl,Cm⟩
theorem aO{arr:A3}(H:Ny arr n m)(x:n<=6){a:I}(u:a<n)(hb:b<n)(w:X):Ar As 68 #[.agg arr,C Y a,C Y b] w λe s=>e=Ak (Ah<|m a b)/\A0 w s:=by
 have h:=H.aq a b E E;have i:=H.ad;have g:=T<|DM H.size;have l:Dg n a=AP:=by grind [Dg]
 have p:Dg n b=AP:=by grind [Dg]
 go_enter func68,ntmps68;have q:=Cj w (o:=(M arr 123));have c:=T q;have d:=ON i a<|Az w<|M arr 123;rw[l]at d
 go_wp2_with(first
  |(refine CO Z 123 _ Z _ Z _ arr _ _ c underlying123 Z g ?_)
  |(refine F0 Z Z Z c underlying123 Z g ?_)
  |(go_at_call 67;refine Ce d ?_;clear d;rintro e t ⟨rfl,f⟩;have k:=T<|Ca (Co f _ Ba) c;have c:=k;have c2:=ON i b t;rw[p]at c2;have r:=f.size;rw[CL]at r)
  |(go_at_call 67;apply c2.mono;rintro e y ⟨rfl,j⟩;have v:=Ca (Cc (Ca (Co j _ E) c) _) h))
 go_ret;exact⟨Z,Cs (Cs (Cm)<|CG f Ba)<|CG j E⟩
theorem Ws{cs:A3}(h:i≠g):(AD w g cs).heap[i]?=w.heap[i]?:=Do w g i cs h
def Dq{B:I}{a:X}(h:Below B a w)(b:B<=g){cs:A3}:Below B a (AD w g cs) :=
 Cs h ⟨rfl,rfl,rfl,Ba,λk c=>Do w g k cs E⟩
structure Mz(w W:Ap)(arr:A3)(n:AH)(M:AH->AH->AK):Prop where
 ac:A0 w W
 h:W.heap[Au (Av w)]?=An (Aj arr 123)
 a:W.heap[Au (Av w)+1]?=An (Aj CU 123)
 a0:W.heap[Au (Av w)+1+1]?=An (Aj (Dp n M) 123)
theorem nE(w:X)(arr:A3)(n:I):Mz w ((Az (Az (Az w<|M arr 123)<|M CU 123)<|M CU 123).setRow (O (U w)+1+1)<|Dp n λ_ _=>AQ) arr n λ_ _=>AQ:=by refine⟨Dq (((Cm).alloc Ba _).alloc B7 _) E,?_,?_,?_⟩<;>grind [Ws,Below.heap_alloc,Cj,World.size_alloc,setRow_heap]
def Mz.set{arr:A3}{M:I->I->AK}(h:Mz w W arr n M)(hi:i<6)(a:j<6)(b:AK):Mz w (AB W ⟨O (U w)+1+1,1+i*6+j,Ao⟩<|Ah b) arr n (upd M i j b) :=
 ⟨h.ac.setCell B7 _,Ca (CY W _ _ _ B7) h.h,Ca (CY W _ _ _ Ba) h.a,
  by rw[DX W _ _ _ _ _ h.a0,aJ M hi a]⟩
theorem Mz.drew{arr:A3}{M:I->I->AK}(h:Mz w W arr n M):Mz w W.drew arr n M:=⟨h.ac.drew,h.h,h.a,h.a0⟩
def Gh(n:AH)(m:AH->AH->AK)(k q:AH):AH->AH->AK:=λi j=>AR (j<n/\(i<k\/(i=k/\j<q)))&&m j i
theorem nG(n:I)(m:I->I->AK):Gh n m 0 0=λ_ _=>AQ:=by funext i j;simp[Gh]
theorem nH(n:I)(m:I->I->AK)(k q:I)(a:q<n):upd (Gh n m k q) k q (m q k)=Gh n m k (q+1):=by grind [upd,Gh]
theorem nI(n:I)(m:I->I->AK)(k:I):Gh n m k n=Gh n m (k+1) 0:=by grind [Gh]
theorem nJ(m:I->I->AK)(hi:i<n)(a:j<n):Gh n m n 0 i j=m j i:=by grind [Gh]
theorem nK{arr:A3}(H:Ny arr n m)(N:n<=6)(w:X):Ar As 171 #[.agg arr] w λe z=>e=Ak (.agg<|Dp n<|Gh n m n 0)/\A0 w z:=by
 have l:=T H.aq;have j:=H.ad;have c:=nE w arr n;have p:D<|(Az (Az (Az w<|M arr 123)<|M CU 123)<|M CU 123).heap[O (U w)+1+1]?=An (M CU 123):=by grind [D,Cj,World.size_alloc]
 have r:D<|CU.size=(Dp n λ_ _=>AQ).size:=ke0;generalize hW:(Az (Az (Az w<|M arr 123)<|M CU 123)<|M CU 123).setRow (O (U w)+1+1) (Dp n λ_ _=>AQ)=W at c;have o:=T hW;have t:=Ca (Cc c.h 0) j;have A:=T c;go_enter func171,ntmps171
 go_wp2_with(first
  |(refine Kz Z Z Z (O (U w)+1) ?hN ?_;case hN=>(simp only[CL,A0];done))
  |(refine Kz Z Z Z (O (U w)+1+1) ?hN ?_;case hN=>grind [World.size_alloc])
  |(refine Jh Z Z Z ?hl (aK n) ?_;case hl=>simp[go_sem])
  |(refine D8 Z 123 _ _ Z _ _ Z Z 123 CU p (DM<|Dc) r (Hm) ?_;rw[AE o]))
 go_loopg[11,4] n (λg x y wr=>∃k:I,D (k+g=n)/\x=C Y k/\D (Mz w wr arr n<|Gh n m k 0))
 grind [nG];obtain⟨k,d,rfl,a⟩:=hrel;have t:=Ca (Cc a.h 0) j;obtain _|g:=gk
 .have u:¬(k:J)<n:=AY<|AE d;have e:k=n:=AY<|AE d;subst e
  go_wp2_with(first
   |(refine CO Z 123 _ Z _ Z _ _ _ _ a.a0 underlying123 Z (DM<|Dc) ?_)
   |(refine D8 Z 123 _ _ Z _ _ Z Z 123 CU a.a (DM<|Dc) ke0 (Hm) ?_))
  refine CS (Lb results171 _ _ _ _ _ _ _ Z (CR _ _ CU _ _ _ a.a) underlying123 Z<|DM<|Dc) Z ⟨Z,Dq a.ac E⟩
 have u:(k:J)<n:=AY<|AE d;have f:k<6:=E;go_wp2
 go_loopg[16,5] n (λg x y wr=>∃q:I,D (q+g=n)/\x=C Y q/\D (Mz w wr arr n<|Gh n m k q))
 grind;obtain⟨q,h,rfl,b⟩:=hrel;obtain _|s:=gk
 .have v:¬(q:J)<n:=AY<|AE h;go_wp2;go_roundg g
  .have e:q=n:=AY<|AE h;exact⟨k+1,B9,Bb,by grind [nI]⟩
  omega
 have v:(q:J)<n:=AY<|AE h;have i:q<6:=E;have B:=Ca (Cc b.h _)<|l q k i f;have F:=Ca (Cc b.a0 _)<|(Hl n _).aq k q f i;have L:=Dy wr _ (1+k*6+q) _ _ b.a0;go_wp2
 go_region
 all_goals go_wp2
 go_roundg s;exact⟨q+1,B9,Bb,by have:=(b.set f i<|m q k).drew;grind [nH]⟩;omega
def Kc(n:AH)(m:AH->AH->AK)(a b:AH):AK:=FB n m a b&&FB n (λi j=>m j i) a b
def JA(n:AH)(m:AH->AH->AK):AK:=(List.range n).all λa=>(List.range a).all λb=>Kc n m a b
theorem aP{a:I}(c:a<n)(hb:b<a)(h:Kc n m a b=AQ):JA n m=AQ:=by grind [JA,List.all_eq_false]
theorem nL(h:∀a b,a<n->b<a->Kc n m a b=AP):JA n m=AP:=by grind [JA]
theorem nM(h:∀i j,i<n->j<n->m i j=m' i j){a:I}(c:a<n)(hb:b<n)(d:k<n):F1 m a b k=F1 m' a b k:=kfn
theorem nN(h:∀i j,i<n->j<n->m i j=m' i j){a:I}(c:a<n)(hb:b<n)(d:k<n):GD n m a b k=GD n m' a b k:=by grind [GD,nM]
theorem aQ(h:∀i j,i<n->j<n->m i j=m' i j){a:I}(c:a<n)(hb:b<n):FB n m a b=FB n m' a b:=by grind [FB,nN]
theorem nO{arr:A3}(H:Ny arr n m)(t:n<=6):Ar As 137 #[.agg arr] w λe w'=>e=Ak (Ah<|JA n m)/\A0 w w':=by
 have h0:=H.ad;have HO:=T H;have r:=T<|DM H.size;have F:=T<|Cj w (o:=(M arr 123));have HB:=T<|(Cu _ w).alloc (Cr _)<|M arr 123;have cT:=nK HO t<|Az w<|M arr 123;go_enter func137,ntmps137
 go_wp2_with(first
  |(refine CO Z 123 _ Z _ Z _ arr _ _ F underlying123 Z r ?_)
  |(go_at_call 171;apply cT.mono;rintro e c ⟨rfl,s⟩;have u:=s.size;rw[CL]at u)
  |(refine Kz Z Z Z (O<|U c) Z ?_)
  |(refine D8 Z 123 _ _ Z _ _ Z Z 123 CU (Cj c) (DM<|Dc) ke0 (Hm) ?_;rw[Ge];have ag:(Az c<|M (Dp n<|Gh n m n 0) 123).cell? _=An _:=Ca (Cc (Ca (CB _ _ _ E)<|Ca (Co s _ Ba) F) 0) h0))
 have HX:D<|(Az c<|M (Dp n<|Gh n m n 0) 123).heap[O<|U w]?=An _:=Ca (CB _ _ _ E)<|Ca (Co s _ Ba) F;have HY:D<|(Az c _).heap[O<|U c]?=An (M (Dp n<|Gh n m n 0) 123):=Cj _;have HZ:D<|O (U<|Az c<|M (Dp n<|Gh n m n 0) 123)=O (U c)+1:=BR;have z:D<|Below _ w<|Az c<|M (Dp n<|Gh n m n 0) 123:=(Cs HB<|CG s Ba).alloc E _;generalize Az c (M (Dp n<|Gh n m n 0) 123)=W3 at *;have l:D<|O (U w)<O (U c):=by show _<_;omega
 generalize O (U c)=N3 at *
 go_loopg[10,4] n (λg x ae wr=>∃k:I,D (k+g=n)/\x=C Y k/\Below (N3+1) W3 wr/\D (∀a b,a<k->b<a->Kc n m a b=AP))
 grind [D,Below.refl];obtain⟨k,V,rfl,d,HL⟩:=hrel;obtain _|g:=gk
 .have ab:¬(k:J)<n:=AY<|AE V;go_wp2;go_ret;exact⟨by rw[nL λa b ha S=>HL.out a b (AY<|AE V) S];rfl,Cs z<|CG d<|AY<|AE l⟩
 have ab:(k:J)<n:=AY<|AE V;have W:k<6:=E;go_wp2
 go_loopg[14,5] k (λg x ae wr=>∃q:I,D (q+g=k)/\x=C Y q/\Below (N3+1) W3 wr/\D (∀b,b<q->Kc n m k b=AP))
 grind [D];obtain⟨q,hq,rfl,d,HQ⟩:=hrel;obtain _|g2:=gk
 .have ac:¬(q:J)<k:=AY<|AE hq;go_wp2;go_roundg g
  .refine⟨k+1,B9,Bb,d,λa b ha S=>?_⟩;grind [D]
  omega
 have ac:(q:J)<k:=AY<|AE hq;have y:q<6:=E;have L:=T<|Ca (Co d _<|AY<|AE l) HX;have i:=T<|Ca (Co d _ E) HY;have u:=d.size;rw[AE HZ]at u;have h:=Wq HO t W y wr;have A:D<|FB n (Gh n m n 0) k q=FB n _ k q:=aQ (λj aa hi hj=>nJ m hi hj) E E;cases P:FB n m k q
 .rw[P]at h;have p:D<|Kc n m k q=AQ:=by grind [Kc]
  go_wp2_with(first
   |(refine CO Z 123 _ Z _ Z _ arr _ _ L underlying123 Z r ?_)
   |(go_at_call 172;apply h.mono;rintro e v ⟨rfl,f⟩))
  go_ret;exact⟨keD,Cs z<|Cs (CG d<|AY<|AE l)<|CG f<|AY<|AE l⟩
 rw[P]at h;have af:=T P;cases Q:FB n (λj aa=>m aa j) k q
 .have p:D<|Kc n m k q=AQ:=by grind [Kc]
  have B:=T<|Ca A Q
  go_wp2_with(first
   |(refine CO Z 123 _ Z _ Z _ arr _ _ L underlying123 Z r ?_)
   |(go_at_call 172;refine Ce h ?_;clear h;rintro e v ⟨rfl,f⟩;have c2:=Wq (Hl n<|Gh n m n 0) t W y v;rw[AE B]at c2;have N:=T<|Ca (Co f _ E) i)
   |(refine F0 Z Z Z N underlying123 Z (DM<|Dc) ?_)
   |(go_at_call 172;apply c2.mono;clear c2;rintro e w5 ⟨rfl,R⟩))
  go_ret;have ad:=f.size;exact⟨keD,Cs z<|Cs (CG d<|AY<|AE l)<|Cs (CG f<|AY<|AE l)<|CG R<|AY<|AE l⟩
 have p:D<|Kc n m k q=AP:=by grind [Kc]
 have B:=T<|Ca A Q;clear Q A
 go_wp2_with(first
  |(refine CO Z 123 _ Z _ Z _ arr _ _ L underlying123 Z r ?_)
  |(go_at_call 172;refine Ce h ?_;clear h;rintro e v ⟨rfl,f⟩;have c2:=Wq (Hl n<|Gh n m n 0) t W y v;rw[AE B]at c2;have N:=T<|Ca (Co f _ E) i)
  |(refine F0 Z Z Z N underlying123 Z (DM<|Dc) ?_)
  |(go_at_call 172;apply c2.mono;clear c2;rintro e w5 ⟨rfl,R⟩))
 have ad:=f.size;go_roundg g2
 .refine⟨q+1,B9,Bb,Cs d<|Cs (CG f u)<|CG R E,λb S=>?_⟩;grind [D]
 omega
structure Cw where
 f:A4
 e:A1
 h:AH
 b:AI
 d:AI
 a:AH
 c:AH
def Cw.ad(s:Cw):A3:=#[Ac s.f (At s.e) s.h,Ab Al s.b,Ab Al s.d,Ab Al s.a,Ab Al s.c]
structure Ck(W:Ap)(b:AH)(s:Cw):Prop where
 ad:W.heap[b]?=An (Aj s.ad 213)
 c:∀i (h:i<At s.e),∃g off,s.f=An ⟨g,off,Ao⟩/\g≠b/\AC W ⟨g,off+i,Ao⟩=An (Ab Am (s.e[i]'h).toNat)
 len:At s.e<=maxLen
 a:s.a<=At s.e
structure Ci(b:AH)(W W':Ap):Prop where
 os:W'.os=W.os
 tape:W'.tape=W.tape
 output:W'.output=W.output
 size:Au (Av W)<=Au (Av W')
 block:∀k,k<Au (Av W)->k≠b->W'.heap[k]?=W.heap[k]?
theorem Ci.refl(b:I)(W:X):Ci b W W:=⟨rfl,rfl,rfl,Cr _,λ_ _ _=>rfl⟩
def Ci.trans{C:X}(h:Ci b A B)(k:Ci b B C):Ci b A C :=
 ⟨Ca k.os h.os,Ca k.tape h.tape,Ca k.output h.output,CE h.size k.size,λi c a=>Ca (k.block i Bn a)<|h.block i c a⟩
def Ci.of_below(h:A0 W W'):Ci b W W':=⟨h.os,h.tape,h.output,h.size,λk a _=>Co h k a⟩
def Ck.ac{s:Cw}(h:Ck W b s)(hb:A0 W W'):Ck W' b s :=
 ⟨Ca (Co hb _<|Cd h.ad) h.ad,λi e=>by obtain⟨g,off,c,d,a⟩:=h.c i e;exact⟨g,off,c,d,Ca (hb.cell<|Fk a) a⟩,h.len,h.a⟩
def OR(e p:AI):Aq:=Ai 163<|Ag #[Ab Al e,Ab Al p]
def D4(e p:AI)(en:Ending):Prop:=en=.panicked [{v:=OR e p,recovered:=AQ}]
def IJ:A0 W<|W.drewN n:=⟨rfl,rfl,rfl,Cr _,λ_ _=>rfl⟩
def Ti{s:Cw}(h:Ck W b s)(c:s.a=K s.e):Ar As 269 #[A8 b] W λe a=>e=Ak (Ah AQ)/\∃n,a=W.drewN n:=by
 have d:AC W _=H (G _ _ _):=Cc h.ad 0;have f:AC W _=H (.int _ _):=Cc h.ad 3;go_enter func269,ntmps269;go_wp2
 go_region
 go_wp2;go_ret;exact⟨Z,1,Z⟩
def Tj{s:Cw}(h:Ck W b s)(d:s.a<K s.e)(c:(s.a:J)=s.d):Ar As 269 #[A8 b] W λe a=>D4 8 s.a e/\∃n,a=W.drewN n:=by
 have f:AC W _=H (G _ _ _):=Cc h.ad 0;have g:AC W _=H (.int _ _):=Cc h.ad 2;have i:AC W _=H (.int _ _):=Cc h.ad 3;go_enter func269,ntmps269;go_wp2
 go_region
 go_wp2
 go_region
 go_wp2;exact⟨Z,kfm,2,Z⟩
def Tk{s:Cw}(h:Ck W b s)(c:s.a<K s.e)(f:¬(s.a:J)=s.d):Ar As 269 #[A8 b] W λe a=>e=Ak (Ah AP)/\∃n,a=W.drewN n:=by
 have g:AC W _=H (G _ _ _):=Cc h.ad 0;have i:AC W _=H (.int _ _):=Cc h.ad 2;have j:AC W _=H (.int _ _):=Cc h.ad 3;have d:¬(s.a:J)=K s.e:=E;go_enter func269,ntmps269;go_wp2
 go_region
 go_wp2
 go_region
 go_wp2;go_ret;exact⟨Z,2,Z⟩
def Q2(s:Cw):Prop:=s.a=At s.e
def Rm(s:Cw):Prop:=s.a<At s.e/\(s.a:AI)=s.d
def JC(s:Cw)(c:AU):Prop:=s.e[s.a]?=An c/\¬(s.a:AI)=s.d
theorem JD{s:Cw}(h:Ck W b s):Q2 s\/Rm s\/∃c,JC s c:=by
 have:=h.a;by_cases d:s.a=K s.e
 .exact AF d
 by_cases a:(s.a:J)=s.d
 .exact AG<|AF ⟨E,a⟩
 exact AG<|AG ⟨s.e[s.a]'B5,B9,a⟩
def JC.lt{s:Cw}(h:JC s c):s.a<K s.e:=Dk h.1
theorem JC.cell{s:Cw}(h:Ck W b s)(a:JC s c):∃g off,s.f=H ⟨g,off,Ao⟩/\g≠b/\A6 W g (off+s.a) (C Am c.toNat):=by obtain⟨g,off,d,e,f⟩:=h.c _ a.lt;have:=(Nu.1 a.1).2;grind
def Cw.next(s:Cw):Cw:={s with a:=s.a+1}
theorem pw{s:Cw}(h:Ck W b s)(hl:s.a<K s.e)(n:I):Ck ((W.drewN n).setCell ⟨b,3,Ao⟩<|C Y<|(s.a:J)+1) b s.next/\Ci b W ((W.drewN n).setCell ⟨b,3,Ao⟩<|C Y<|(s.a:J)+1):=by
 have j:(W.drewN n).heap[b]?=H _:=h.ad;refine⟨⟨?_,λi e=>?_,h.len,?_⟩,⟨Z,Z,Z,Bv,λk l f=>?_⟩⟩
 .rw[DX _ _ _ _ _ _ j];rfl
 .obtain⟨g,off,c,a,d⟩:=h.c i e;refine⟨g,off,c,a,?_⟩;have:((W.drewN n).setCell ⟨b,3,Ao⟩<|C Y<|s.a+1).heap[g]?=W.heap[g]?:=CY _ _ _ _ Bl;exact Ca (Je this) d
 .show s.a+1<=K s.e;omega
 exact CY _ _ _ _ keR
def KB{s:Cw}(h:Ck W b s)(d:Q2 s):Ar As 270 #[A8 b] W λe a=>D4 9 s.a e/\A0 W a:=by
 have c:=Ti h d;have f:AC W _=H (.int _ _):=Cc h.ad 3;go_enter func270,ntmps270
 go_wp2_with(first|(go_at_call 269;apply c.mono;rintro e g ⟨rfl,n,rfl⟩))
 exact⟨Z,Z,IJ⟩
def KC{s:Cw}(h:Ck W b s)(a:Rm s):Ar As 270 #[A8 b] W λe c=>D4 8 s.a e/\A0 W c:=by
 have d:=Tj h a.1 a.2;go_enter func270,ntmps270
 go_wp2_with(first|(go_at_call 269;apply d.mono;rintro e f ⟨rfl,n,rfl⟩))
 exact⟨Z,Z,IJ⟩
theorem J4{s:Cw}(h:Ck W b s)(a:JC s c):Ar As 270 #[A8 b] W λe f=>e=Ak (C Am c.toNat)/\Ck f b s.next/\Ci b W f:=by
 have l:=Tk h a.lt a.2;have j:=T<|pw h a.lt;have x:=a.lt;have q:=h.len;unfold maxLen at q;obtain⟨g,off,m,o,v⟩:=a.cell h;have y:AC W _=H (.int _ _):=Cc h.ad 3;have w:=Dy W b 3 _ _ h.ad;go_enter func270,ntmps270
 go_wp2_with(first|(go_at_call 269;apply l.mono;rintro e z ⟨rfl,n,rfl⟩))
 obtain⟨d,p⟩:=j.out n;have k:=T d;have i:=T p;have r:((W.drewN n).setCell ⟨b,3,Ao⟩<|C Y<|s.a+1).cell? ⟨b,0,Ao⟩=H (G (H ⟨g,off,Ao⟩) (K s.e) s.h):=by rw[<-m];exact Cc d.ad 0
 have t:((W.drewN n).setCell _ _).cell? _=H (.int _<|s.a+1):=Cc d.ad 3;have u:((W.drewN n).setCell ⟨b,3,Ao⟩<|C Y<|s.a+1).cell? ⟨g,off+s.a,Ao⟩=H (C Am c.toNat):=by have:((W.drewN n).setCell ⟨b,3,Ao⟩<|C Y<|s.a+1).heap[g]?=W.heap[g]?:=CY _ _ _ _ kep;grind [World.cell?_of_block]
 generalize(W.drewN n).setCell ⟨b,3,Ao⟩ (C Y<|(s.a:J)+1)=V at *
 go_region
 go_wp2;go_ret;exact⟨Z,k.ac (Cu _ _).drew,i.trans<|Ci.of_below (Cu _ _).drew⟩
def Ck.drewN{s:Cw}(h:Ck W b s)(n:I):Ck (W.drewN n) b s:=h.ac<|IJ
def px{s:Cw}{x:J}(h:Ck W b s)(d:Q2 s):Ar As 280 #[A8 b,C Am x] W λe a=>e=Ak (Ah AQ)/\∃n,a=W.drewN n:=by
 have c:=λn=>Ti (h.drewN n) d;go_enter func280,ntmps280;go_wp2
 go_quiet (first|(go_at_call 269;exact(c _).quiet_of))
 go_wp2;go_ret;exact⟨Z,nq,Z⟩
def py{s:Cw}{x:J}(h:Ck W b s)(a:JC s c):Ar As 280 #[A8 b,C Am x] W λe d=>e=Ak (Ah<|(c.toNat:J)==x)/\∃n,d=W.drewN n:=by
 have f:=λn=>Tk (h.drewN n) a.lt a.2;obtain⟨g,off,i,l,m⟩:=a.cell h;have j:A6 W b 0<|G (H ⟨g,off,Ao⟩) (K s.e) s.h:=by rw[<-i];exact Cc h.ad 0
 have k:AC W _=H (.int _ _):=Cc h.ad 3;have o:=a.lt;have p:(s.a:J)<K s.e:=E;go_enter func280,ntmps280;go_wp2
 go_quiet (first|(go_at_call 269;exact(f _).quiet_of))
 go_wp2;go_ret;exact⟨Z,nq,Z⟩
def bM{s:Cw}{x:J}(h:Ck W b s)(c:Rm s):Ar As 280 #[A8 b,C Am x] W λe a=>D4 8 s.a e/\A0 W a:=by have d:Ar _ _ _ _ λe a=>D4 8 _ e/\∃m,a=W.drew.drewN m:=Tj (h.drewN 1) c.1 c.2;go_enter func280,ntmps280;go_wp2;refine Ei (S:=λ_=>True) B6 <| EN (i:=0) (v:=.pointer _) Z B6 B6 B6 (λ_ _ _ h=>h) (AF ⟨Z,λW j=>rfl⟩) trivial <| CH 1 λf g=>?_;go_simp;apply d.mono;rintro e k ⟨rfl,n,rfl⟩;exact⟨Z,Z,(Cu _ _).drew.trans<|IJ (W:=W.drew)⟩
theorem Q3:Ar As 278 #[C Am c.toNat] w λe a=>e=Ak (Ah<|AR<|48<=(c.toNat:J)/\(c.toNat:J)<=57)/\a=w:=by
 by_cases b:(48:J)<=c.toNat
 .by_cases d:(c.toNat:J)<=57
  .go_enter func278,ntmps278;go_wp2;go_ret;simp_all
  go_enter func278,ntmps278;go_wp2;go_ret;simp_all
 go_enter func278,ntmps278;go_wp2;go_ret;exact⟨by rw[FO E];rfl,rfl⟩
def G5{s:Cw}(e:J)(h:Ck W b s):Ar As 271 #[A8 b,C Y e] W λc a=>D4 e ((s.a:J)-1) c/\a=W:=by have f:AC W _=H (.int _ _):=Cc h.ad 3;have d:=h.len;have g:=h.a;unfold maxLen at d;go_enter func271,ntmps271;go_wp2;exact⟨Z,Z,Z⟩
def pA{s:Cw}(h:Ck W b s)(d:Q2 s):Ar As 295 #[A8 b] W λe a=>e=Ak (Ah AQ)/\∃n,a=W.drewN n:=by
 have c:=λn=>Ti (h.drewN n) d;go_enter func295,ntmps295;go_wp2
 go_quiet (first|(go_at_call 269;exact(c _).quiet_of))
 go_wp2;go_ret;exact⟨Z,nq,Z⟩
def pC{s:Cw}(h:Ck W b s)(a:JC s c):Ar As 295 #[A8 b] W λe f=>e=Ak (Ah<|AR<|48<=(c.toNat:J)/\(c.toNat:J)<=57)/\∃n,f=W.drewN n:=by
 have j:=λn=>Tk (h.drewN n) a.lt a.2;have i:∀n,Ar _ _ _ _ λe f=>e=Ak (Ah<|AR<|48<=(c.toNat:J)/\(c.toNat:J)<=57)/\f=W.drewN n:=λn=>Q3;obtain⟨g,off,k,o,p⟩:=a.cell h;have l:A6 W b 0<|G (H ⟨g,off,Ao⟩) (K s.e) s.h:=by rw[<-k];exact Cc h.ad 0
 have m:AC W _=H (.int _ _):=Cc h.ad 3;have q:=a.lt;have r:(s.a:J)<K s.e:=E;generalize AR (48<=(c.toNat:J)/\(c.toNat:J)<=57)=d at *;go_enter func295,ntmps295;go_wp2
 go_quiet (first|(go_at_call 269;exact(j _).quiet_of)|(go_at_call 278;exact(i _).quiet_of_same))
 go_wp2;go_ret;exact⟨Z,nq,Z⟩
def pD{s:Cw}(h:Ck W b s)(c:Rm s):Ar As 295 #[A8 b] W λe a=>D4 8 s.a e/\A0 W a:=by have d:Ar _ _ _ _ λe a=>D4 8 _ e/\∃m,a=W.drew.drewN m:=Tj (h.drewN 1) c.1 c.2;go_enter func295,ntmps295;go_wp2;refine Ei (S:=λ_=>True) B6 <| EN (i:=0) (v:=.pointer _) Z B6 B6 B6 (λ_ _ _ h=>h) (AF ⟨Z,λW j=>rfl⟩) trivial <| CH 1 λf g=>?_;go_simp;apply d.mono;rintro e k ⟨rfl,n,rfl⟩;exact⟨Z,Z,(Cu _ _).drew.trans<|IJ (W:=W.drew)⟩
def Ey(c:AU):AK:=AR<|48<=(c.toNat:AI)/\(c.toNat:AI)<=57
def Ee(bs:A1)(lim:AI)(most:AH)(z:AK):AH->AH->AH->A5 AH
 |0,p,num=>.ok (num,p)
 |g+1,p,num=>match bs[p]? with
  |none=>.ok (num,p)
  |some c=>if(p:AI)=lim then .error (8,p)else
   if Ey c=AP then(if z=AP then .error (9,p)else if(most-(c.toNat-48))/10<num then .error (10,p)else Ee bs lim most z g (p+1) (num*10+(c.toNat-48)))
   else if c.toNat=46\/c.toNat=101\/c.toNat=69 then .error (10,p)else .ok (num,p)
def Hp{α:Type}(W:Ap)(b:AH)(s:Cw)(val:α->Aq)(r:A5 α)(e:Ending)(W':Ap):Prop :=
 Ci b W W'/\match r with
 |.ok (x,p)=>e=Ak (val x)/\Ck W' b {s with a:=p}
 |.error (en,pl)=>D4 en pl e
structure KD(W0:Ap)(b N:AH)(s:Cw)(W:Ap):Prop where
 e:Ck W b s
 ai:Ci b W0 W
 h:W.heap[N]?=An (Aj #[A8 b] 215)
 ne:N≠b
def KD.aq{s s':Cw}(h:KD W0 b N s W)(a:Ck W' b s')(hb:Ci b W W'):KD W0 b N s' W' :=
 ⟨a,h.ai.trans hb,Ca (hb.block _ (Cd h.h) h.ne) h.h,h.ne⟩
def KD.cell{s:Cw}(h:KD W0 b N s W):A6 W N 0<|A8 b:=Cc h.h 0
def EF{s s':Cw}(h:D<|KD W0 b N s W)(a:Ck W' b s')(hb:Ci b W W'):D (KD W0 b N s' W')/\A6 W' N 0 (A8 b):=⟨h.out.aq a hb,(h.out.aq a hb).cell⟩
def Li{s:Cw}(h:Ck W b s):KD W b (O<|U W) s (Az W<|M #[A8 b] 215) :=
 ⟨h.ac Cm,Ci.of_below Cm,Cj _,AY<|Cd h.ad⟩
def WD{s:Cw}(x:J)(h:Ck W b s)(d:Q2 s):Ar As 280 #[A8 b,C Am x] W λe a=>e=Ak (Ah AQ)/\Ck a b s/\Ci b W a :=
 Ce (px h d) λ_ _ ⟨f,n,c⟩=>⟨f,c▸h.drewN n,c▸Ci.of_below (IJ)⟩
def Tl{s:Cw}(x:J)(h:Ck W b s)(f:JC s c):Ar As 280 #[A8 b,C Am x] W λe a=>e=Ak (Ah<|(c.toNat:J)==x)/\Ck a b s/\Ci b W a :=
 Ce (py h f) λ_ _ ⟨g,n,d⟩=>⟨g,d▸h.drewN n,d▸Ci.of_below (IJ)⟩
def pE{s:Cw}(h:Ck W b s)(d:Q2 s):Ar As 295 #[A8 b] W λe a=>e=Ak (Ah AQ)/\Ck a b s/\Ci b W a :=
 Ce (pA h d) λ_ _ ⟨f,n,c⟩=>⟨f,c▸h.drewN n,c▸Ci.of_below (IJ)⟩
def pF{s:Cw}(h:Ck W b s)(f:JC s c):Ar As 295 #[A8 b] W λe a=>e=Ak (Ah<|Ey c)/\Ck a b s/\Ci b W a :=
 Ce (pC h f) λ_ _ ⟨g,n,d⟩=>⟨g,d▸h.drewN n,d▸Ci.of_below (IJ)⟩
theorem bN{s:Cw}(first:AU)(o:I)(h:Ck W b s)(hm:o=9223372036854775807\/o=9223372036854775808)(hf:48<=first.toNat/\first.toNat<=57):Ar As 289 #[Ag #[A8 b],C Am first.toNat,C .u64 o] W
   (Hp W b s (λx:I=>C .u64 x)<|Ee s.e s.d o (first.toNat==48) (K s.e+1-s.a) s.a<|first.toNat-48):=by
 have ac:=T<|Li h;have ad:=h.a;have ae:=h.len;unfold maxLen at ae;have aj:=hf.1;have ak:=hf.2;obtain⟨R,j⟩:=CC<|Ee s.e s.d o (first.toNat==48) (K s.e+1-s.a) s.a<|first.toNat-48;rw[AE j];go_enter func289,ntmps289;go_wp2;generalize Az W (M #[A8 b] 215)=W0 at *
 go_loopg[7,8] (K s.e+1-s.a) (λg x _ wr=>∃p q:I,x=C .u64 q/\D (p+g=K s.e+1)/\p<=K s.e/\q<=o/\D (KD W b (O<|U W) {s with a:=p} wr)/\D (Ee s.e s.d o (first.toNat==48) g p q=R))
 exact⟨_,_,Bb,Bg,ad,E,ac,j⟩;obtain⟨p,q,rfl,hg,hp,al,a,j⟩:=hrel;have i:=a.cell;obtain⟨g,rfl⟩:∃g,gk=g+1:=⟨gk-1,AY<|AE hg⟩
 rcases JD a.e with k|k|⟨c,k⟩
 .have l:D<|R=.ok (q,p):=by show _=_;rw[<-AE j,Ee,I7 (by have:p=K s.e:=k;omega)]
  have r:=pE a.e k;have m:=λx V (w:Ck V b _)=>WD x w k;have z:=trivial;have A:=trivial
  go_wp2_with(first
   |(go_at_call 295;apply r.mono;rintro e w2 ⟨rfl,f,d⟩;obtain⟨a,i⟩:=EF a f d;clear f d)
   |(go_at_call 280;clear z;apply (m 46 _ a.e).mono;clear i;rintro e w3 ⟨rfl,f,d⟩;obtain⟨a,i⟩:=EF a f d;clear f d)
   |(go_at_call 280;clear A;apply (m _ _ a.e).mono;clear i;rintro e w4 ⟨rfl,f,d⟩;obtain⟨a,i⟩:=EF a f d;clear f d)
   |(go_at_call 280;apply (m 69 _ a.e).mono;clear i;rintro e w5 ⟨rfl,f,d⟩;obtain⟨a,i⟩:=EF a f d;clear f d))
  go_ret;rw[AE l];exact⟨a.ai,Z,a.e⟩
 .have l:D<|R=.error (8,(p:J)):=by show _=_;have h2:=k.2;have h3:=k.1;grind [D,Ee]
  have r:=pD a.e k;clear k j
  go_wp2_with(first
   |(go_at_call 295;apply r.mono;clear r i;rintro e w2 ⟨rfl,d⟩))
  rw[AE l];exact⟨Z,a.ai.trans<|Ci.of_below d,Z⟩
 have aa:=k.1;have ab:=k.2;have r:=pF a.e k;have m:=λx V (w:Ck V b _)=>Tl x w k;have v:∀V,Ck V b _->Ar _ _ _ V λe S=>e=Ak _/\Ck S b {s with a:=p+1}/\Ci b V S:=λV w=>J4 w k;have af:=k.lt;rw[Ee,aa]at j;simp only[]at j;rw[Cl ab]at j;clear k aa ab
 go_wp2_with fail
 apply r.mono;clear r i;rintro e w2 ⟨rfl,f,d⟩;obtain⟨a,i⟩:=EF a f d;clear f d;cases y:Ey c
 .rw[y]at j;rw[Cl Ba]at j;clear y;have z:=trivial;have A:=trivial;by_cases u:c.toNat=46\/c.toNat=101\/c.toNat=69
  .have l:D<|R=.error (10,(p:J)):=B9;clear j;rcases u with u|u|u
   all_goals
    first|have F:((c.toNat:J)==46)=AP:=B7|have F:=Df (c:=c) 46 E
    first|have B:((c.toNat:J)==101)=AP:=B7|have B:=Df (c:=c) 101 E
    first|have L:((c.toNat:J)==69)=AP:=B7|have L:=Df (c:=c) 69 E
    clear u
    go_wp2_with(first
     |(go_at_call 280;clear z;apply (m 46 _ a.e).mono;clear i;rintro e w3 ⟨rfl,f,d⟩;rw[F];obtain⟨a,i⟩:=EF a f d;clear f d)
     |(go_at_call 280;clear A;apply (m _ _ a.e).mono;clear i;rintro e w4 ⟨rfl,f,d⟩;rw[B];obtain⟨a,i⟩:=EF a f d;clear f d)
     |(go_at_call 280;apply (m 69 _ a.e).mono;clear i;rintro e w5 ⟨rfl,f,d⟩;rw[L];obtain⟨a,i⟩:=EF a f d;clear f d)
     |(go_at_call 270;apply (v _ a.e).mono;clear i;rintro e P ⟨rfl,f,d⟩;obtain⟨a,i⟩:=EF a f d;clear f d;have n:=λt=>G5 t a.e)
     |(go_at_call 271;apply (n _).mono;clear n i;rintro e Q ⟨hF,rfl⟩;obtain rfl:=hF))
    rw[AE l];exact⟨Z,a.ai,kez⟩
  have l:D<|R=.ok (q,p):=B9;clear j v;have F:=Df (c:=c) 46 E;have B:=Df (c:=c) 101 E;have L:=Df (c:=c) 69 E;clear u
  go_wp2_with(first
   |(go_at_call 280;clear z;apply (m 46 _ a.e).mono;clear i;rintro e w3 ⟨rfl,f,d⟩;rw[F];obtain⟨a,i⟩:=EF a f d;clear f d)
   |(go_at_call 280;clear A;apply (m _ _ a.e).mono;clear i;rintro e w4 ⟨rfl,f,d⟩;rw[B];obtain⟨a,i⟩:=EF a f d;clear f d)
   |(go_at_call 280;apply (m 69 _ a.e).mono;clear i;rintro e w5 ⟨rfl,f,d⟩;rw[L];obtain⟨a,i⟩:=EF a f d;clear f d))
  go_ret;rw[AE l];exact⟨a.ai,Z,a.e⟩
 rw[y]at j;rw[Cp rfl]at j;have N:=Dr y;have ah:=N.1;have ai:=N.2;clear y N;by_cases hz:(first.toNat:J)=48
 .have l:D<|R=.error (9,(p:J)):=B9;clear j m
  go_wp2_with(first
   |(go_at_call 270;apply (v _ a.e).mono;clear i;rintro e P ⟨rfl,f,d⟩;obtain⟨a,i⟩:=EF a f d;clear f d;have n:=λt=>G5 t a.e)
   |(go_at_call 271;apply (n _).mono;clear n i;rintro e Q ⟨hF,rfl⟩;obtain rfl:=hF))
  rw[AE l];exact⟨Z,a.ai,kez⟩
 have ag:D<|(if(o-(c.toNat-48))/10<q then Except.error (10,(p:J))else Ee s.e s.d o (first.toNat==48) g (p+1) (q*10+(c.toNat-48)))=R:=B9;clear j m;by_cases am:(o-(c.toNat-48))/10<q
 .have l:D<|R=.error (10,(p:J)):=B9
  go_wp2_with(first
   |(go_at_call 270;apply (v _ a.e).mono;clear i;rintro e P ⟨rfl,f,d⟩;obtain⟨a,i⟩:=EF a f d;clear f d;have n:=λt=>G5 t a.e)
   |(go_at_call 271;apply (n _).mono;clear n i;rintro e Q ⟨hF,rfl⟩;obtain rfl:=hF))
  rw[AE l];exact⟨Z,a.ai,Z⟩
 have l:D<|Ee s.e s.d o (first.toNat==48) g (p+1) (q*10+(c.toNat-48))=R:=B9
 go_wp2_with(first
  |(go_at_call 270;apply (v _ a.e).mono;clear i;rintro e P ⟨rfl,f,d⟩;obtain⟨a,i⟩:=EF a f d;clear f d;have n:=λt=>G5 t a.e)
  |(go_at_call 271;refine(n _).mono ?_;clear n i;rintro e Q ⟨hF,rfl⟩;obtain rfl:=hF))
 go_roundg g;exact⟨_,_,Bb,B9,af,E,a,l⟩;omega
theorem Rn{bs:A1}{most:I}{z:AK}:∀{g p num:I} {x q:I},num<=most->9<=most->Ee bs lim most z g p num=.ok (x,q)->x<=most
 |0,p,num,x,q,hn,_,h=>by grind [Ee]
 |g+1,p,num,x,q,hn,hm,h=>by
  unfold Ee at h;split at h
  .cases h;exact hn
  split at h
  .cases h
  split at h
  .next hd =>
   split at h
   .cases h
   split at h
   .cases h
   next hov =>
   have a:=Dr hd;exact Rn E hm h
  grind
def GW(s:Cw)(first:AU):A5 AI :=
 if first.toNat=45 then
  match s.e[s.a]? with
  |none=>.error (9,s.a)
  |some c=>if(s.a:AI)=s.d then .error (8,s.a)else if Ey c=AP then
    (match Ee s.e s.d 9223372036854775808 (c.toNat==48) (At s.e+1-(s.a+1)) (s.a+1) (c.toNat-48)with
    |.ok (x,p)=>.ok (-(x:AI),p)
    |.error e=>.error e)
   else .error (9,s.a)
 else match Ee s.e s.d 9223372036854775807 (first.toNat==48) (At s.e+1-s.a) s.a (first.toNat-48)with
  |.ok (x,p)=>.ok ((x:AI),p)
  |.error e=>.error e
theorem pG(h:x<=9223372036854775808):wrap64 (IntKind.u64.wrap<|-(x:J)) = -(x:J):=by grind [IntKind.wrap,IntKind.bits,wrap64]
theorem pH{s:Cw}{first:AU}(h:Ck W b s)(Q:first.toNat=45\/Ey first=AP):Ar As 279 #[Ag #[A8 b],C Am first.toNat] W<|Hp W b s (λz:J=>C Y z)<|GW s first:=by
 have g:=T<|Li h;obtain⟨R,v⟩:=CC<|GW s first;rw[AE v];have w:=g.cell;by_cases aa:(first.toNat:J)=45
 .have a:=AE v;unfold GW at a;rw[Cp E]at a;rcases JD h with j|j|⟨c,j⟩
  .have f:D<|R=.error (9,s.a):=by show _=_;rw[I7 (by have:s.a=K s.e:=j;omega)]at a;exact a.symm
   have l:=KB g.e j;go_enter func279,ntmps279
   go_wp2_with(first
    |(go_at_call 270;apply l.mono;rintro e n ⟨hF,d⟩;obtain rfl:=hF))
   rw[AE f];exact⟨Z,g.ai.trans<|Ci.of_below d,Z⟩
  .have f:D<|R=.error (8,s.a):=by show _=_;rw[D7 j.1]at a;simp only[]at a;rw[Cp j.2]at a;exact a.symm
   have l:=KC g.e j;go_enter func279,ntmps279
   go_wp2_with(first
    |(go_at_call 270;apply l.mono;rintro e n ⟨hF,d⟩;obtain rfl:=hF))
   rw[AE f];exact⟨Z,g.ai.trans<|Ci.of_below d,Z⟩
  rw[j.1]at a;simp only[]at a;rw[Cl j.2]at a;have l:=J4 g.e j;have S:=h.len;unfold maxLen at S;cases t:AR<|48<=(c.toNat:J)/\(c.toNat:J)<=57
  .have f:D<|R=.error (9,s.a):=by grind [D,Ey]
   go_enter func279,ntmps279
   go_wp2_with(first
    |(go_at_call 270;apply l.mono;rintro e n ⟨rfl,k,d⟩;have o:=T<|g.aq k d;have i:=o;have w:=i.cell)
    |(go_at_call 278;apply (Q3).mono;rintro e B ⟨rfl,rfl⟩;rw[t])
    |(go_at_call 271;apply (G5 _ i.e).mono;rintro e w7 ⟨hF,rfl⟩;obtain rfl:=hF))
   rw[AE f];exact⟨rfl,i.ai,by grind [D4,Cw.next]⟩
  have r:=Dr t;have N:=r.1;have P:=r.2;rw[Cp<|by unfold Ey;exact t]at a;have p:=λV (L:Ck V b s.next)=>bN c _ L (AG rfl) ⟨E,E⟩;obtain⟨u,m⟩:=DF<|Ee s.e s.d 9223372036854775808 (c.toNat==48) (K s.e+1-(s.a+1)) (s.a+1)<|c.toNat-48;have y:∀V,Ck V b s.next->Ar As 289 #[Ag #[A8 b],C Am c.toNat,C .u64 9223372036854775808] V (Hp V b s.next (λx:I=>C .u64 x) u):=by rw[<-m];exact p
  rw[m]at a;rcases u with⟨F,pl⟩|⟨x,q⟩
  .have f:=T a.symm;go_enter func279,ntmps279
   go_wp2_with(first
    |(go_at_call 270;apply l.mono;rintro e n ⟨rfl,k,d⟩;have o:=T<|g.aq k d;have i:=o;have w:=i.cell)
    |(go_at_call 278;apply (Q3).mono;rintro e B ⟨rfl,rfl⟩;rw[t])
    |(go_at_call 289;apply (y _ i.e).mono;rintro e w4 ⟨d,hF⟩;obtain rfl:=hF))
   rw[AE f];exact⟨Z,i.ai.trans d,Z⟩
  have f:=T a.symm;have A:=Rn E E m;go_enter func279,ntmps279
  go_wp2_with(first
   |(go_at_call 270;apply l.mono;rintro e n ⟨rfl,k,d⟩;have o:=T<|g.aq k d;have i:=o;have w:=i.cell)
   |(go_at_call 278;apply (Q3).mono;rintro e B ⟨rfl,rfl⟩;rw[t])
   |(go_at_call 289;apply (y _ i.e).mono;rintro e w4 ⟨d,rfl,k⟩))
  go_ret;rw[AE f];exact⟨i.ai.trans d,congrArg (λz=>Ending.returned<|Value.int _ z)<|pG A,k⟩
 have r:=Dr<|Q.resolve_left E;have N:=r.1;have P:=r.2;have p:=bN first _ g.e (AF Z) ⟨E,E⟩
 have a:=AE v;unfold GW at a;rw[Cl E]at a;obtain⟨u,m⟩:=DF<|Ee s.e s.d 9223372036854775807 (first.toNat==48) (K s.e+1-s.a) s.a<|first.toNat-48;rw[m]at p a;rcases u with⟨F,pl⟩|⟨x,q⟩
 .have f:=T a.symm;go_enter func279,ntmps279
  go_wp2_with(first
   |(go_at_call 289;apply p.mono;rintro e n ⟨d,hF⟩;obtain rfl:=hF))
  rw[AE f];exact⟨Z,g.ai.trans d,Z⟩
 have f:=T a.symm;have A:=Rn E E m;go_enter func279,ntmps279
 go_wp2_with(first
  |(go_at_call 289;apply p.mono;rintro e n ⟨d,rfl,k⟩))
 go_ret;rw[AE f];exact⟨g.ai.trans d,Z,k⟩
def MC(c:AU):AK:=c.toNat==32||(c.toNat==9||(c.toNat==10||c.toNat==13))
def DW(bs:A1)(lim:AI):AH->AH->A5 Unit
 |0,p=>.ok ((),p)
 |g+1,p=>match bs[p]? with
  |none=>.ok ((),p)
  |some c=>if(p:AI)=lim then .error (8,p)else if MC c=AP then DW bs lim g (p+1)else .ok ((),p)
theorem Ro{s:Cw}(h:Ck W b s):Ar As 273 #[Ag #[A8 b]] W<|Hp W b s (λ_:Unit=>Af #[])<|DW s.e s.d (K s.e+1-s.a) s.a:=by
 have aa:=T<|Li h;have ab:=h.a;obtain⟨R,l⟩:=CC<|DW s.e s.d (K s.e+1-s.a) s.a;rw[AE l];go_enter func273,ntmps273;go_wp2;generalize Az W (M #[A8 b] 215)=W0 at *
 go_loopg[2] (K s.e+1-s.a) (λg _ wr=>∃p:I,D (p+g=K s.e+1)/\p<=K s.e/\D (KD W b (O<|U W) {s with a:=p} wr)/\D (DW s.e s.d g p=R))
 exact⟨_,Bg,ab,aa,l⟩;obtain⟨p,hg,hp,a,l⟩:=hrel;have i:=a.cell;obtain⟨g,rfl⟩:∃g,gk=g+1:=⟨gk-1,AY<|AE hg⟩
 rcases JD a.e with j|j|⟨c,j⟩
 .have m:D<|R=.ok ((),p):=by show _=_;rw[<-AE l,DW,I7 (by have:p=K s.e:=j;omega)]
  have k:=λx V (n:Ck V b _)=>WD x n j;have o:=trivial;have q:=trivial;have r:=trivial
  go_wp2_with(first
   |(go_at_call 280;clear o;apply (k 32 _ a.e).mono;clear i;rintro e z ⟨rfl,f,d⟩;obtain⟨a,i⟩:=EF a f d;clear f d)
   |(go_at_call 280;clear q;apply (k 9 _ a.e).mono;clear i;rintro e P ⟨rfl,f,d⟩;obtain⟨a,i⟩:=EF a f d;clear f d)
   |(go_at_call 280;clear r;apply (k 10 _ a.e).mono;clear i;rintro e Q ⟨rfl,f,d⟩;obtain⟨a,i⟩:=EF a f d;clear f d)
   |(go_at_call 280;apply (k 13 _ a.e).mono;clear i;rintro e S ⟨rfl,f,d⟩;obtain⟨a,i⟩:=EF a f d;clear f d))
  go_end0;rw[AE m];exact⟨a.ai,Z,a.e⟩
 .have m:D<|R=.error (8,p):=by show _=_;have h2:=j.2;have h3:=j.1;grind [D,DW]
  have B:=bM (x:=32) a.e j;clear j l
  go_wp2_with(first
   |(go_at_call 280;apply B.mono;clear B i;rintro e z ⟨rfl,d⟩))
  rw[AE m];exact⟨Z,a.ai.trans<|Ci.of_below d,Z⟩
 have F:=j.1;have L:=j.2;have k:=λx V (n:Ck V b _)=>Tl x n j;have cT:∀V,Ck V b _->Ar _ _ _ V λe A=>e=Ak _/\Ck A b {s with a:=p+1}/\Ci b V A:=λV n=>J4 n j;have ac:=j.lt;rw[DW,F]at l;simp only[]at l;rw[Cl L]at l;clear j F L;have o:=trivial;have q:=trivial;have r:=trivial;by_cases N:c.toNat=32\/c.toNat=9\/c.toNat=10\/c.toNat=13
 .have m:D<|DW s.e s.d g (p+1)=R:=by grind [MC]
  clear l;rcases N with y|y|y|y
  all_goals
   first|have v:((c.toNat:J)==32)=AP:=B7|have v:=Df (c:=c) 32 E
   first|have w:((c.toNat:J)==9)=AP:=B7|have w:=Df (c:=c) 9 E
   first|have t:((c.toNat:J)==10)=AP:=B7|have t:=Df (c:=c) 10 E
   first|have u:((c.toNat:J)==13)=AP:=B7|have u:=Df (c:=c) 13 E
   clear y
   go_wp2_with(first
    |(go_at_call 280;clear o;apply (k 32 _ a.e).mono;clear i;rintro e z ⟨rfl,f,d⟩;rw[v];obtain⟨a,i⟩:=EF a f d;clear f d)
    |(go_at_call 280;clear q;apply (k 9 _ a.e).mono;clear i;rintro e P ⟨rfl,f,d⟩;rw[w];obtain⟨a,i⟩:=EF a f d;clear f d)
    |(go_at_call 280;clear r;apply (k 10 _ a.e).mono;clear i;rintro e Q ⟨rfl,f,d⟩;rw[t];obtain⟨a,i⟩:=EF a f d;clear f d)
    |(go_at_call 280;apply (k 13 _ a.e).mono;clear i;rintro e S ⟨rfl,f,d⟩;rw[u];obtain⟨a,i⟩:=EF a f d;clear f d)
    |(go_at_call 270;apply (cT _ a.e).mono;clear i;rintro e w6 ⟨rfl,f,d⟩;obtain⟨a,i⟩:=EF a f d;clear f d))
   go_roundg g
   case measure=>omega
   grind
 have m:D<|R=.ok ((),p):=by grind [MC]
 clear l;have v:=Df (c:=c) 32 E;have w:=Df (c:=c) 9 E;have t:=Df (c:=c) 10 E;have u:=Df (c:=c) 13 E;clear N
 go_wp2_with(first
  |(go_at_call 280;clear o;apply (k 32 _ a.e).mono;clear i;rintro e z ⟨rfl,f,d⟩;rw[v];obtain⟨a,i⟩:=EF a f d;clear f d)
  |(go_at_call 280;clear q;apply (k 9 _ a.e).mono;clear i;rintro e P ⟨rfl,f,d⟩;rw[w];obtain⟨a,i⟩:=EF a f d;clear f d)
  |(go_at_call 280;clear r;apply (k 10 _ a.e).mono;clear i;rintro e Q ⟨rfl,f,d⟩;rw[t];obtain⟨a,i⟩:=EF a f d;clear f d)
  |(go_at_call 280;apply (k 13 _ a.e).mono;clear i;rintro e S ⟨rfl,f,d⟩;rw[u];obtain⟨a,i⟩:=EF a f d;clear f d))
 go_end0;rw[AE m];exact⟨a.ai,Z,a.e⟩
def Lj(s:Cw):A5 Unit :=
 match s.e[s.a]? with
 |none=>.ok ((),s.a)
 |some _=>if(s.a:AI)=s.d then .error (8,s.a)else .error (9,s.a)
theorem pI{s:Cw}(h:Ck W b s):Ar As 266 #[A8 b] W<|Hp W b s (λ_:Unit=>Af #[])<|Lj s:=by
 obtain⟨R,j⟩:=CC<|Lj s;rw[AE j];have d:=AE j;unfold Lj at d;rcases JD h with a|a|⟨c,a⟩
 .have f:D<|R=.ok ((),s.a):=by show _=_;rw[I7 (by have:s.a=K s.e:=a;omega)]at d;exact d.symm
  have g:=Ti h a;have i:=T h;go_enter func266,ntmps266
  go_wp2_with(first
   |(go_at_call 269;apply g.mono;rintro e k ⟨rfl,n,rfl⟩))
  go_end0;rw[AE f];exact⟨Ci.of_below<|IJ,Z,i.drewN n⟩
 .have f:D<|R=.error (8,s.a):=by show _=_;rw[D7 a.1]at d;simp only[]at d;rw[Cp a.2]at d;exact d.symm
  have g:=Tj h a.1 a.2;go_enter func266,ntmps266
  go_wp2_with(first
   |(go_at_call 269;apply g.mono;rintro e k ⟨hF,n,rfl⟩;obtain rfl:=hF))
  rw[AE f];exact⟨Z,Ci.of_below<|IJ,Z⟩
 have f:D<|R=.error (9,s.a):=by show _=_;rw[a.1]at d;simp only[]at d;rw[Cl a.2]at d;exact d.symm
 have g:=Tk h a.lt a.2;have p:=λV (t:Ck V b s)=>J4 t a;have i:=T h;have u:=h.len;unfold maxLen at u;go_enter func266,ntmps266
 go_wp2_with(first
  |(go_at_call 269;apply g.mono;rintro e k ⟨rfl,n,rfl⟩;have m:=T<|i.drewN n)
  |(go_at_call 270;apply (p _ m).mono;rintro e v ⟨rfl,r,q⟩;have o:=T r;have l:=T q)
  |(go_at_call 271;apply (G5 _ o).mono;rintro e w ⟨hF,rfl⟩;obtain rfl:=hF))
 rw[AE f];exact⟨rfl,(Ci.of_below<|IJ).trans l,by grind [D4,Cw.next]⟩
def Tn(z:AI):Aq:=Ai 281<|Ab Al z
structure E2(W:Ap)(ia:A4)(bs:A1):Prop where
 aq:∀i (h:i<At bs),∃g off,ia=An ⟨g,off,Ao⟩/\g<Au (Av W)/\AC W ⟨g,off+i,Ao⟩=An (Ab Am (bs[i]'h).toNat)
 len:At bs<=maxLen
def E2.ac{ia:A4}{bs:A1}(h:E2 W ia bs)(hb:A0 W W'):E2 W' ia bs :=
 ⟨λi d=>by obtain⟨g,off,b,a,c⟩:=h.aq i d;exact⟨g,off,b,CQ a hb.size,Ca (hb.cell a) c⟩,h.len⟩
def pJ{ia:A4}{bs:A1}{d:J}(h:E2 W ia bs)(hb:A0 W W')(k:O (U W)<=b)(j:A7 W' b (Cw.ad ⟨ia,bs,cap,d,l,0,0⟩) 213):Ck W' b ⟨ia,bs,cap,d,l,0,0⟩ :=
 ⟨j,λi f=>by obtain⟨g,off,a,c,e⟩:=h.aq i f;exact⟨g,off,a,E,Ca (hb.cell c) e⟩,h.len,Ex _⟩
def Q4{ia:A4}{bs:A1}(cap:I){d:J}(h:E2 W ia bs)(fm:J){v:I->Aq}(m:(fm=1/\v=λb=>Ai 215<|Ag #[A8 b])\/∃f,((fm=2/\f=111)\/(fm=3/\f=112))/\v=λb=>Ai 218<|Ag #[A8 b,.func (.func f) #[] #[]]):Ar As 80 #[C Y fm,Ag #[C Y d,C Y l],G ia (K bs) cap] W λe c =>
   ∃b,e=Ak (v b)/\Ck c b ⟨ia,bs,cap,d,l,0,0⟩/\O (U W)<=b/\A0 W c:=by
 have i:=T h;have k:Below _ W<|Az (Az W<|M #[C Y d,C Y l] 94)<|M #[G ia (K bs) cap,C Y d,C Y l,C Y 0,C Y 0] 213:=(Cm).alloc Ba _;have g:=Cj (Az W<|M #[C Y d,C Y l] 94) (o:=(M #[G ia (K bs) cap,C Y d,C Y l,C Y 0,C Y 0] 213));rw[CL]at g;have j:=T g;have a:=T k;rcases m with⟨rfl,rfl⟩|⟨f,⟨rfl,rfl⟩|⟨rfl,rfl⟩,rfl⟩
 all_goals
  go_enter func80,ntmps80;go_wp2;go_ret;exact⟨_,Z,pJ i a E j,E,a⟩
def LV(h:A0 W V)(a:Ci b V V')(hb:O (U W)<=b):A0 W V' :=
 ⟨Ca a.os h.os,Ca a.tape h.tape,Ca a.output h.output,CE h.size a.size,λk c=>Ca (a.block k Bn E)<|Co h k c⟩
def Rp{α:Type}(W:Ap)(val:α->Aq)(r:AS (AI×AI) α)(e:Ending)(W':Ap):Prop :=
 A0 W W'/\match r with
 |.ok z=>e=Ak (val z)
 |.error (en,pl)=>D4 en pl e
def Q5{α:Type}{K:Act->X->Prop}{x:Result α}{y:α}{k:α->X->Result Next}(h:x=.ok y w)(b:o.upon P a K Q<|k y w):o.upon P a K Q<|x.andThen k:=by rw[h];exact b
def GG(x:AH)(w:AI):AI:=if(w==1)=AP then wrap64 (IntKind.i8.wrap x)else if(w==2)=AP then wrap64 (IntKind.i16.wrap x)else if(w==4)=AP then wrap64 (wrap32 x)else wrap64 x
theorem pK(w:J)(_hx:x<18446744073709551616)(W:X):Ar As 308 #[C .u64 x,C Y w] W λe g=>e=Ak (C Y<|GG x w)/\g=W:=by
 obtain⟨R,b⟩:=CC<|GG x w;rw[AE b];have a:=AE b;unfold GG at a;cases c:(w==1)
 .rw[c,Cl B8]at a;cases d:(w==2)
  .rw[d,Cl B8]at a;cases f:(w==4)
   .rw[f,Cl B8]at a;have b:=T a;go_enter func308,ntmps308;go_wp2;go_ret;simp_all
   rw[f,Cp rfl]at a;have b:=T a;go_enter func308,ntmps308;go_wp2;go_ret;simp_all
  rw[d,Cp rfl]at a;have b:=T a;go_enter func308,ntmps308;go_wp2;go_ret;simp_all
 rw[c,Cp rfl]at a;have b:=T a;go_enter func308,ntmps308;go_wp2;go_ret;simp_all
def FE(so w:AI)(x:AH)(pos:AI):AS (AI×AI) AI :=
 if(so==5)=AP then .ok (GG x w)else if 9223372036854775807<x then .error (10,pos-1)else if(so==6)=AP then .ok (-1-(x:AI))else .ok x
def Q6{α:Type}(W:Ap)(b:AH)(s:Cw)(val:α->Aq)(r:A5 α)(e:Ending)(W':Ap):Prop :=
 Ci b W W'/\match r with
 |.ok (x,p)=>e=Ak (val x)/\Ck W' b {s with a:=p}
 |.error (en,pl)=>D4 en pl e/\∃p,Ck W' b {s with a:=p}
def pN(W:Ap)(b:AH)(s:Cw)(r:AS (AI×AI) AI)(e:Ending)(W':Ap):Prop :=
 Ci b W W'/\match r with
 |.ok z=>e=Ak (Ab Al z)/\Ck W' b s
 |.error (en,pl)=>D4 en pl e/\∃p,Ck W' b {s with a:=p}
structure OS(W0:Ap)(b N:AH)(fv:Aq)(so w:AI)(g:AH)(s:Cw)(W:Ap):Prop where
 e:Ck W b s
 ai:Ci b W0 W
 h:W.heap[N]?=An (Aj #[A8 b,fv] 218)
 c:W.heap[N+1]?=An (Aj #[Ab Al so,Ab Al w,Ab .u64 g] 275)
 ne:b<N
def OS.aq{w:J}{s s':Cw}(h:OS W0 b N fv so w g s W)(a:Ck W' b s')(hb:Ci b W W'):OS W0 b N fv so w g s' W' :=
 ⟨a,h.ai.trans hb,Ca (hb.block _ (Cd h.h)<|AY h.ne) h.h,Ca (hb.block _ (Cd h.c)<|AY h.ne) h.c,h.ne⟩
theorem bO{s:Cw}{w:J}(h:Ck W b s):OS W b (O<|U W) fv so w g s<|Az (Az W<|M #[Ad<|H ⟨b,0,Ao⟩,fv] 218)<|M #[C Y so,C Y w,C .u64 g] 275:=by
 have a:Below _ W<|Az (Az W<|M #[Ad<|H ⟨b,0,Ao⟩,fv] 218)<|M #[C Y so,C Y w,C .u64 g] 275:=(Cm).alloc Ba _;refine⟨h.ac a,Ci.of_below a,?_,?_,(Cd h.ad)⟩
 .have:=Cj W (o:=(M #[Ad<|H ⟨b,0,Ao⟩,fv] 218));rw[<-this];exact(Co ((Cu (O (U W)+1) _).alloc Ba _) _ E)
 grind [Cj,World.size_alloc]
def pO{s:Cw}(f:I)(d w:J)(g:I)(hx:x<18446744073709551616)(h:Ck W b s):Ar As 303 #[Ag #[A8 b,.func (.func f) #[] #[]],Ag #[C Y d,C Y w,C .u64 g],C .u64 x] W<|pN W b s<|FE d w x s.a:=by
 have a:D<|OS W b _ _ d w g s<|Az (Az W<|M #[.pointer _,.func (.func f) #[] #[]] _) _:=bO h;obtain⟨R,i⟩:=CC<|FE d w x s.a;rw[AE i];have c:=AE i;unfold FE at c;have q:=Cc a.h 0;have r:=Cc a.c 0;have t:=Cc a.c 1;cases j:(d==5)
 .rw[j,Cl B8]at c;by_cases l:9223372036854775807<x
  .rw[Cp l]at c;subst c;have n:=G5 10 a.e;have o:AR ((9223372036854775807:J)<x)=AP:=B7;go_enter func303,ntmps303
   go_wp2_with(first
    |(go_at_call 271;apply n.mono;rintro e p ⟨hF,rfl⟩;obtain rfl:=hF))
   exact⟨Z,a.ai,Z,_,a.e⟩
  rw[Cl l]at c;have o:AR ((9223372036854775807:J)<x)=AQ:=B7;cases k:(d==6)
  .rw[k,Cl B8]at c;subst c;go_enter func303,ntmps303;go_wp2;go_ret;exact⟨a.ai,Z,a.e⟩
  rw[k,Cp rfl]at c;subst c;go_enter func303,ntmps303;go_wp2;go_ret;exact⟨a.ai,Z,a.e⟩
 rw[j,Cp rfl]at c;subst c;have m:=λV=>pK w hx V;go_enter func303,ntmps303
 go_wp2_with(first
  |(go_at_call 308;apply (m _).mono;rintro e p ⟨rfl,rfl⟩))
 go_ret;exact⟨a.ai,Z,a.e⟩
def CZ(bs:A1)(lim:AI):AH->AH->AH->A5 AH
 |0,p,a=>.ok (a,p)
 |k+1,p,a=>match bs[p]? with
  |none=>.error (9,p)
  |some c=>if(p:AI)=lim then .error (8,p)else CZ bs lim k (p+1) (a*256+c.toNat)
theorem pP{a c:I}(f:a<72057594037927936)(g:c<256):bits .or .u64 ((a:J)*256) (c:J)=((a*256+c:I):J):=by
 have b:BitVec.ofInt 64 (a*256)=BitVec.ofNat 64 (a*256):=by rw[show(a*256)=((a*256:I):J) by simp];exact OA ..
 have d:BitVec.ofInt 64 _=BitVec.ofNat 64 c:=OA ..;have e:(BitVec.ofNat 64 (a*256)|||BitVec.ofNat 64 c).toNat=a*256+c:=by rw[BitVec.toNat_or,OD,OD,Mu E,Mu E];have:=Nat.shiftLeft_add_eq_or_of_lt (i:=8) E a;grind [Nat.shiftLeft_eq]
 show IntKind.u64.wrap ((BitVec.ofInt 64 ((a:J)*256)|||BitVec.ofInt 64 (c:J)).toNat:J)=_;grind [IntKind.wrap,IntKind.bits,IntKind.signed]
theorem WE{s:Cw}(f:I)(q:J){w:I}(hw:w<=8)(S:w=0\/g=0)(h:Ck W b s):Ar As 302 #[Ag #[A8 b,.func (.func f) #[] #[]],Ag #[C Y q,C Y w,C .u64 g]] W<|Q6 W b s (λx:I=>C .u64 x)<|CZ s.e s.d w s.a g:=by
 have p:D<|OS W b _ _ q w g s<|Az (Az W<|M #[.pointer _,.func (.func f) #[] #[]] _) _:=bO h;obtain⟨R,l⟩:=CC<|CZ s.e s.d w s.a g;rw[AE l];have k1:=Cc p.c 1;have k2:=Cc p.c 2;have A:=T S;go_enter func302,ntmps302;go_wp2
 go_loopg[5,10] w (λm y z wr=>∃(k i:I),y=C .u64 i/\z=C Y k/\D (m+k=w)/\D (m=0\/i<256^k)/\D (OS W b (O<|U W) (.func (.func f) #[] #[]) q w g {s with a:=s.a+k} wr)/\D (CZ s.e s.d m (s.a+k) i=R))
 exact⟨0,g,Z,Z,Z,B9,p,l⟩;clear p l A;obtain⟨k,i,rfl,rfl,t,ha,a,l⟩:=hrel;have kb:=Cc a.h 0;obtain _|m:=gk
 .have e:k=w:=AY<|AE t;subst e;have n:D<|R=.ok _:=l.symm;go_wp2;go_ret;rw[AE n];exact⟨a.ai,Z,a.e⟩
 have ac:k<w:=AY<|AE t;have N:i<256^k:=by grind [D]
 have P:i<72057594037927936:=CQ N<|CE (OB B8<|show k<=7 from E) B8;rcases JD a.e with d|d|⟨c,d⟩
 .have n:D<|R=.error (9,(s.a+k:I)):=by show _=_;rw[<-AE l,CZ,I7 (by have:s.a+k=K s.e:=d;omega)]
  have o:=KB a.e d
  go_wp2_with(first
   |(go_at_call 270;apply o.mono;rintro e u ⟨hF,j⟩;obtain rfl:=hF))
  rw[AE n];exact⟨Z,a.ai.trans<|Ci.of_below j,Z,_,a.e.ac j⟩
 .have n:D<|R=.error (8,(s.a+k:I)):=by show _=_;have V:=d.2;have h3:=d.1;grind [D,CZ]
  have o:=KC a.e d
  go_wp2_with(first
   |(go_at_call 270;apply o.mono;rintro e u ⟨hF,j⟩;obtain rfl:=hF))
  rw[AE n];exact⟨Z,a.ai.trans<|Ci.of_below j,Z,_,a.e.ac j⟩
 have aa:=d.1;have ab:=d.2;have B:D<|CZ s.e s.d m (s.a+(k+1)) (i*256+c.toNat)=R:=kfu;have Q:=c.toNat_lt;have ho:=pP P Q;have v:D<|i*256+c.toNat<256^(k+1):=by grind [D]
 have o:Ar _ _ _ wr λe r=>e=Ak _/\Ck r b {s with a:=s.a+(k+1)}/\Ci b wr r:=J4 a.e d
 go_wp2_with(first
  |(go_at_call 270;apply o.mono;rintro e u ⟨rfl,L,j⟩;have F:=T<|a.aq L j))
 go_roundg m;exact⟨_,_,Ba,Bb,B9,AG v,F,B⟩;omega
def G6(u:AH):AH:=if u=0 then 4 else if u=1 then 6 else if u=2 then 7 else if u=3 then 8 else if u=4 then 9 else if u=5 then 10 else 0
def E7(c:AH):AH×AH×AH :=
 if c=244 then(2,0,0)else if c=245 then(3,0,0)else if c=246 then(1,0,0)else
 if G6 (c/32)=0\/27<c%32 then(0,0,0)else if 24<=c%32 then(G6<|c/32,2^(c%32-24),0)else(G6<|c/32,0,c%32)
def NF:AJ<|AH×AH:=[(1,0),(0,0),(2,0),(3,0),(7,1),(7,2),(7,4),(0,0),(0,0),(0,0),(0,0),(0,0),(4,1),(4,2),(4,4),(4,8),(5,1),(5,2),(5,4),(5,8),(0,0),(0,0),(0,0),(0,0),(0,0),(8,1),(8,2),(8,4),(9,2),(9,4),(10,2),(10,4)]
def DD(c:AH):AH×AH×AH :=
 if c<128 then(4,0,c)else if c<144 then(10,0,c-128)else if c<160 then(9,0,c-144)else if c<192 then(8,0,c-160)else
 if c<224 then((NF.getD (c-192) (0,0)).1,(NF.getD (c-192) (0,0)).2,0)else(5,0,18446744073709551360+c)
structure IK(W:Ap):Prop where
 cb:∀u,u<8->AC W ⟨0,u,Ao⟩=An (Ab Al (G6 u))
 a:∀u,u<32->AC W ⟨1,u*3,Ao⟩=An (Ab Al (NF.getD u (0,0)).1)/\AC W ⟨1,u*3+1,Ao⟩=An (Ab Al (NF.getD u (0,0)).2)/\AC W ⟨1,u*3+2,Ao⟩=An (Ab .u64 0)
def WF(x:AH×AH×AH):A3:=#[Ab Al x.1,Ab Al x.2.1,Ab .u64 x.2.2]
def OT:(prog.info? 275).map (·.size)=H 3:=B6
def LW{cs:A3}(a:cs.size=3){tmps:A3}(b:tmps.getD 2 AO=A8 (O<|U W))(h:fn.results=#[.cell 2 275]):(results fn tmps).run As (Az W<|M cs 275)=.ok (.agg cs) (Az W<|M cs 275) :=
 Lb h tmps _ (O<|U W) 275 cs (0,0) _ b (Cj _) underlying275 rfl (by rw[a];exact OT)
theorem pQ(hx:x<256):bits .and Am (x:J) 31=((x%32:I):J):=by
 have a:BitVec.ofInt 8 _=BitVec.ofNat 8 x:=OA ..;have b:(BitVec.ofNat 8 x&&&BitVec.ofInt 8 31).toNat=x%32:=by rw[aC,OD,Mu E];exact ZQ x 5
 show IntKind.u8.wrap ((BitVec.ofInt 8 (x:J)&&&BitVec.ofInt 8 31).toNat:J)=_;grind [IntKind.wrap,IntKind.bits]
theorem pR{u:I}(a:¬u=0)(b:((u:J)==0)=AP\/(27:J)<(x:J)%32):27<x%32:=B9
def LX{cs:A3}:A0 W<|Az W<|M cs 275:=Cm
theorem pS(hx:x<256)(h:IK W):Ar As 111 #[C Am x] W λe c=>e=Ak (.agg<|WF<|E7 x)/\A0 W c:=by
 by_cases d:x=244
 .subst d;go_enter func111,ntmps111;go_wp2;exact CS (LW Z Z results111) Z ⟨Z,LX⟩
 by_cases f:x=245
 .subst f;go_enter func111,ntmps111;go_wp2;exact CS (LW Z Z results111) Z ⟨Z,LX⟩
 by_cases c2:x=246
 .subst c2;go_enter func111,ntmps111;go_wp2;exact CS (LW Z Z results111) Z ⟨Z,LX⟩
 have i:((x:J)==244)=AQ:=B7;have j:((x:J)==245)=AQ:=B7;have k:((x:J)==246)=AQ:=B7;have m:=pQ hx;have g:x/32<8:=E;have a:=h.cb _ g;have n:(Az W<|M #[C Y 0,C Y 0,C .u64 0] 275).cell? _=H _:=Ca (Iy W _ _ kfr) a;have b:D<|E7 x=if G6 (x/32)=0\/27<x%32 then(0,0,0)else if 24<=x%32 then(G6<|x/32,2^(x%32-24),0)else(G6<|x/32,0,x%32):=by grind [D,E7]
 go_enter func111,ntmps111;go_wp2
 all_goals refine CS (LW rfl rfl results111) rfl ⟨?_,LX⟩
 all_goals rw[AE b]
 .rename_i h0;rw[Cp<|AF h0];rfl
 .rename_i h0 h1;rw[Cp<|AG<|pR h0 h1];rfl
 .rename_i h0 h1 h2;rw[Cl<|AY h1.2,Cp E];have e:wrap64 (2^(x%32-24))=(2^(x%32-24):I):=by have l:x%32-24=0\/x%32-24=1\/x%32-24=2\/x%32-24=3:=AY h1.2;grind [wrap64]
  rw[e];rfl
 grind [WF]
theorem pU(h:224<=x)(hx:x<256):IntKind.u64.wrap (IntKind.i8.wrap (x:J))=((18446744073709551360+x:I):J):=Bj
theorem pV(hx:x<256)(h:IK W):Ar As 112 #[C Am x] W λe t=>e=Ak (.agg<|WF<|DD x)/\A0 W t:=by
 by_cases d:x<128
 .have b:D<|DD x=(4,0,x):=by grind [D,DD]
  have m:AR ((x:J)<128)=AP:=B7;have B:IntKind.u64.wrap (x:J)=x:=by grind [IntKind.wrap,IntKind.bits]
  go_enter func112,ntmps112;go_wp2;refine CS (LW Z Z results112) Z ⟨?_,LX⟩;rw[AE b];rfl
 by_cases g:192<=x/\x<224
 .have b:D<|DD x=((NF.getD (x-192) (0,0)).1,(NF.getD (x-192) (0,0)).2,0):=by grind [D,DD]
  obtain⟨j,k,l⟩:=h.a (x-192) E;obtain⟨u,w⟩:∃u:I,x=192+u:=⟨x-192,E⟩
  subst w;have p:192+u-192=u:=E;rw[p]at j k l;have F:(Az W<|M #[C Y 0,C Y 0,C .u64 0] 275).cell? ⟨1,u*3,Ao⟩=_:=Ca (Iy W _ _<|by rw[j];rfl) j;have L:(Az W<|M #[C Y 0,C Y 0,C .u64 0] 275).cell? ⟨1,u*3+1,Ao⟩=_:=Ca (Iy W _ _ C8) k;have N:(Az W<|M #[C Y 0,C Y 0,C .u64 0] 275).cell? ⟨1,u*3+2,Ao⟩=_:=Ca (Iy W _ _ kfE) l;have A:u<32:=E;go_enter func112,ntmps112;go_wp2
  all_goals refine CS (LW rfl rfl results112) rfl ⟨?_,LX⟩
  all_goals rw[AE b,p]
  all_goals rfl
 by_cases c2:x<192
 .obtain⟨R,b⟩:=CC<|DD x;rw[AE b];have a:=AE b;unfold DD at a;rw[Cl d]at a;have y:D<|128<=x/\x<192:=⟨E,c2⟩
  have m:AR ((x:J)<128)=AQ:=B7;by_cases f:x<144
  .rw[Cp f]at a;have n:AR ((x:J)<144)=AP:=B7;have c:=T a.symm;clear a b h hx d g c2 f;go_enter func112,ntmps112;go_wp2;refine CS (LW Z Z results112) Z ⟨?_,LX⟩;rw[AE c,show((x:J)-128)%256=((x-128:I):J) by grind];rfl
  rw[Cl f]at a;have n:AR ((x:J)<144)=AQ:=B7;by_cases i:x<160
  .rw[Cp i]at a;have o:AR ((x:J)<160)=AP:=B7;have c:=T a.symm;have s:D<|144<=x:=Bp;clear a b h hx d g c2 f i;go_enter func112,ntmps112;go_wp2;refine CS (LW Z Z results112) Z ⟨?_,LX⟩;rw[AE c,show((x:J)-144)%256=((x-144:I):J) by grind];rfl
  rw[Cl i,Cp c2]at a;have o:AR ((x:J)<160)=AQ:=B7;have v:AR ((x:J)<192)=AP:=B7;have c:=T a.symm;have s:D<|160<=x:=Bp;clear a b h hx d g c2 f i;go_enter func112,ntmps112;go_wp2;refine CS (LW Z Z results112) Z ⟨?_,LX⟩;rw[AE c,show((x:J)-160)%256=((x-160:I):J) by grind];rfl
 have b:D<|DD x=(5,0,18446744073709551360+x):=by grind [D,DD]
 have m:AR ((x:J)<128)=AQ:=B7;have n:AR ((x:J)<144)=AQ:=B7;have o:AR ((x:J)<160)=AQ:=B7;have v:AR ((x:J)<192)=AQ:=B7;have z:AR ((x:J)<224)=AQ:=B7;have q:=pU E hx;have r:=T q;clear h hx d g c2 q;go_enter func112,ntmps112;go_wp2;refine CS (LW Z Z results112) Z ⟨?_,LX⟩;rw[AE b,AE r];rfl
def JF(c:AU):Option AH:=if Ey c=AP then An (c.toNat-48)else if 97<=c.toNat/\c.toNat<=102 then An (c.toNat-87)else if 65<=c.toNat/\c.toNat<=70 then An (c.toNat-55)else Ao
theorem To{d:I}(h:JF c=H d):d<16:=by
 unfold JF at h;split at h
 .next hd=>have:=Dr hd;cases h;omega
 grind
def LY(c:AU):Aq:=match JF c with
 |some d=>Af #[Ab .i32 d,Ah AP]
 |none=>Af #[Ab .i32 0,Ah AQ]
theorem qe(c:AU)(w:X):Ar As 300 #[C Am c.toNat] w λe i=>e=Ak (LY c)/\i=w:=by
 have b:=Q3 (c:=c) (w:=w);have p:=c.toNat_lt;by_cases g:48<=(c.toNat:J)/\(c.toNat:J)<=57
 .have a:D<|LY c=Af #[C .i32<|c.toNat-48,Ah AP]:=by grind [D,LY,JF,Ey]
  have d:=Fm g;rw[d]at b;go_enter func300,ntmps300
  go_wp2_with(first|(go_at_call 278;apply b.mono;rintro e f ⟨rfl,rfl⟩))
  go_ret2
  rw[AE a];exact⟨Z,Z⟩
 have d:=FO g;have o:Ey c=AQ:=d;rw[d]at b;by_cases m:97<=c.toNat/\c.toNat<=102
 .have a:D<|LY c=Af #[C .i32<|c.toNat-97+10,Ah AP]:=by grind [D,LY,JF]
  have h:AR (97<=(c.toNat:J))=AP:=B7;have j:AR ((c.toNat:J)<=102)=AP:=B7;go_enter func300,ntmps300
  go_wp2_with(first|(go_at_call 278;apply b.mono;rintro e f ⟨rfl,rfl⟩))
  go_ret2
  rw[AE a];exact⟨Z,Z⟩
 by_cases n:65<=c.toNat/\c.toNat<=70
 .have a:D<|LY c=Af #[C .i32<|c.toNat-65+10,Ah AP]:=by grind [D,LY,JF]
  have h:AR (97<=(c.toNat:J))=AQ:=B7;have k:AR (65<=(c.toNat:J))=AP:=B7;have l:AR ((c.toNat:J)<=70)=AP:=B7;go_enter func300,ntmps300
  go_wp2_with(first|(go_at_call 278;apply b.mono;rintro e f ⟨rfl,rfl⟩))
  go_ret2
  rw[AE a];exact⟨Z,Z⟩
 have a:D<|LY c=Af #[C .i32 0,Ah AQ]:=by grind [D,LY,JF]
 go_enter func300,ntmps300
 go_wp2_with(first|(go_at_call 278;apply b.mono;rintro e f ⟨rfl,rfl⟩))
 all_goals first
  |(exfalso;omega)
  |(go_ret2;rw[AE a];exact⟨Z,Z⟩)
def Ef(bs:A1)(lim:AI):AH->AH->AH->A5 AH
 |0,p,a=>.ok (a,p)
 |k+1,p,a=>match bs[p]? with
  |none=>.error (9,p)
  |some c=>if(p:AI)=lim then .error (8,p)else match JF c with
   |none=>.error (9,p)
   |some d=>Ef bs lim k (p+1)<|a*16+d
theorem bS{s:Cw}(h:Ck W b s):Ar As 296 #[Ag #[A8 b]] W<|Hp W b s (λx:I=>C .i32 x)<|Ef s.e s.d 4 s.a 0:=by
 have F:=T<|Li h;obtain⟨R,l⟩:=CC<|Ef s.e s.d 4 s.a 0;rw[AE l];go_enter func296,ntmps296;go_wp2;generalize Az W (M #[A8 b] 215)=W0 at *
 go_loopg[3,6] 4 (λm y z wr=>∃(k n:I),y=C .i32 n/\z=C Y k/\D (m+k=4)/\D (n<16^k)/\D (KD W b (O<|U W) {s with a:=s.a+k} wr)/\D (Ef s.e s.d m (s.a+k) n=R))
 exact⟨0,0,Z,Z,Z,by show 0<1;decide,F,l⟩;obtain⟨k,n,rfl,rfl,v,L,a,l⟩:=hrel;have Q:=a.cell;obtain _|m:=gk
 .have e:k=4:=AY<|AE v;subst e;have g:D<|R=.ok _:=l.symm;go_wp2;go_ret;rw[AE g];exact⟨a.ai,Z,a.e⟩
 have ab:k<4:=AY<|AE v;have ac:AR ((k:J)<4)=AP:=B7;have aa:n<4096:=CQ L.out<|CE (OB B8<|show k<=3 from E) B8;rcases JD a.e with f|f|⟨c,f⟩
 .have g:D<|R=.error (9,(s.a+k:I)):=by show _=_;rw[<-AE l,Ef,I7 (by have:s.a+k=K s.e:=f;omega)]
  have o:=KB a.e f
  go_wp2_with(first
   |(go_at_call 270;apply o.mono;rintro e t ⟨hF,i⟩;obtain rfl:=hF))
  rw[AE g];exact⟨Z,a.ai.trans<|Ci.of_below i,Z⟩
 .have g:D<|R=.error (8,(s.a+k:I)):=by show _=_;have V:=f.2;have h3:=f.1;grind [D,Ef]
  have o:=KC a.e f
  go_wp2_with(first
   |(go_at_call 270;apply o.mono;rintro e t ⟨hF,i⟩;obtain rfl:=hF))
  rw[AE g];exact⟨Z,a.ai.trans<|Ci.of_below i,Z⟩
 have N:=f.1;have P:=f.2;have j:=AE l;rw[Ef,N]at j;simp only[]at j;rw[Cl P]at j;have q:=λw=>qe c w;unfold LY at q;have o:Ar _ _ _ wr λe u=>e=Ak _/\Ck u b {s with a:=s.a+(k+1)}/\Ci b wr u:=J4 a.e f;rcases hv:JF c with _|d
 .rw[hv]at j q;have g:=T j.symm
  go_wp2_with(first
   |(go_at_call 270;apply o.mono;rintro e t ⟨rfl,r,i⟩;have p:=T<|a.aq r i;have Q:=p.cell)
   |(go_at_call 300;apply (q _).mono;rintro e S ⟨rfl,rfl⟩)
   |(go_at_call 271;apply (G5 _ p.e).mono;rintro e w7 ⟨hF,rfl⟩;obtain rfl:=hF))
  rw[AE g];exact⟨Z,p.ai,kez⟩
 rw[hv]at j q;have B:D<|Ef _ _ m (s.a+(k+1)) _=R:=j;have hd:=To hv;have A:D<|n*16+d<16^(k+1):=by grind [D]
 go_wp2_with(first
  |(go_at_call 270;apply o.mono;rintro e t ⟨rfl,r,i⟩;have p:=T<|a.aq r i)
  |(go_at_call 300;apply (q _).mono;rintro e S ⟨rfl,rfl⟩))
 go_roundg m;exact⟨_,_,Ba,Bb,B9,A,p,B⟩;omega
def Dt(bs:A1)(lim:AI):A1->AH->A5 Unit
 |[],p=>.ok ((),p)
 |x::xs,p=>match bs[p]? with
  |none=>.error (9,p)
  |some c=>if(p:AI)=lim then .error (8,p)else if c=x then Dt bs lim xs (p+1)else .error (9,p)
theorem Q7{s:Cw}(l:A1)(hl:K l<=100)(h:Ck W b s):Ar As 274 #[Ag #[A8 b],Ae ⟨Aw l⟩] W<|Hp W b s (λ_:Unit=>Af #[])<|Dt s.e s.d l s.a:=by
 have P:=T<|Li h;obtain⟨R,n⟩:=CC<|Dt s.e s.d l s.a;rw[AE n];go_enter func274,ntmps274;go_wp2;generalize Az W (M #[A8 b] 215)=W0 at *
 go_loopg[4,7] (K l) (λm _ ae wr=>∃(k:I),ae=C Y k/\D (m+k=K l)/\D (KD W b (O<|U W) {s with a:=s.a+k} wr)/\D (Dt s.e s.d (l.drop k) (s.a+k)=R))
 exact⟨0,Z,Z,P,n⟩;obtain⟨k,rfl,B,f,n⟩:=hrel;have kb:=f.cell;obtain _|m:=gk
 .have e:k=K l:=AY<|AE B;have d:D<|R=.ok ((),s.a+k):=by show _=_;rw[<-AE n,Oy E];rfl
  have Q:AR (k<(K l:J))=AQ:=B7;have e3:AR (k<K l)=AQ:=B7;go_wp2;go_end0;rw[AE d];exact⟨f.ai,Z,f.e⟩
 have y:k<K l:=AY<|AE B;have Q:AR (k<(K l:J))=AP:=B7;have e3:AR (k<K l)=AP:=B7;obtain⟨x,hx⟩:=DF<|l[k];have ad:l.drop k=x::l.drop (k+1):=by rw[K7 y,hx]
 have L:D<|l[k]?=H x:=by grind [D]
 have q:{wr with drawn:=wr.drawn+1}.cell? _=H _:=kb;have t:D<|Ck {wr with drawn:=wr.drawn+1} b _:=f.e.drewN 1;have u:D<|Ci b wr {wr with drawn:=wr.drawn+1}:=Ci.of_below<|IJ;have r:=AE n;rw[ad,Dt]at r;go_wp2;refine Ei (S:=λV=>A6 V (O<|U W) 0<|A8 b) B6 <| EN (i:=0) (v:=A8 _) Z B6 B6 B6 (λ_ _ _ h=>h) (AF ⟨Z,λV j=>rfl⟩) q <| EN (i:=1) (v:=A8 b) Z B6 B6 B6 (λ_ _ _ h=>h) (AF ⟨Z,λV j=>Bh⟩) q ?_;refine EN (i:=3) (v:=.string _) Z B6 B6 B6 (λ_ _ _ h=>h) (AF ⟨Z,λV j=>rfl⟩) q <| EN (i:=4) (v:=C Y k) Z B6 B6 B6 (λ_ _ _ h=>h) (AF ⟨Z,λV j=>rfl⟩) q <| EN (i:=5) (v:=C Am x.toNat) Z B6 B6 B6 (λ_ _ _ h=>h) (AF ⟨Z,λV j=>?y5⟩) q ?_
 case y5 =>
  have ag:=Fl<|(D7 y).symm.trans L;go_simp;show(((Aw l)[k]'kfk).toNat:J)=_;grind
 refine CH 2 λaf hK=>?_;rcases JD t with a|a|⟨c,a⟩
 .have d:D<|R=.error (9,(s.a+k:I)):=by show _=_;rw[<-r,I7 (by have:s.a+k=K s.e:=a;omega)]
  have o:=KB t a;go_simp;apply o.mono;rintro e F ⟨hF,p⟩;obtain rfl:=hF;exact⟨Z,(f.ai.trans u).trans<|Ci.of_below p,by rw[AE d];rfl⟩
 .have d:D<|R=.error (8,(s.a+k:I)):=by show _=_;have h2:(s.a+k:I)=s.d:=a.2;have h3:s.a+k<K s.e:=a.1;grind
  have o:=KC t a;go_simp;apply o.mono;rintro e F ⟨hF,p⟩;obtain rfl:=hF;exact⟨Z,(f.ai.trans u).trans<|Ci.of_below p,by rw[AE d];rfl⟩
 have z:s.e[s.a+k]?=H c:=a.1;have aa:¬(s.a+k:I)=s.d:=a.2;rw[z]at r;simp only[]at r;rw[Cl aa]at r;have o:Ar _ _ _ _ λe A=>e=Ak _/\Ck A b {s with a:=s.a+(k+1)}/\Ci b _ A:=J4 t a;go_simp;apply o.mono;rintro e F ⟨rfl,hS,p⟩;simp only[];have g:=T<|f.aq hS<|u.trans p;refine hK.out _ _ g.cell λ_=>?_;have ah:=g.cell;by_cases w:c=x
 .have ab:(c.toNat==(x.toNat:J))=AP:=by rw[w];simp
  have ac:c.toNat=x.toNat:=by rw[w]
  have N:D<|Dt s.e s.d (l.drop<|k+1) (s.a+(k+1))=R:=B9;refine EN (i:=6) (v:=Ah AQ) Z B6 B6 B6 (λ_ _ _ h=>h) (AF ⟨Z,λV j=>(by go_simp;first|done|omega|assumption|trace_state)⟩) g.cell ?_;refine CK ?_;go_wp2;go_roundg m;exact⟨_,Bb,B9,g,N⟩;omega
 have ab:(c.toNat==(x.toNat:J))=AQ:=by grind [UInt8.toNat_inj]
 have ac:¬c.toNat=x.toNat:=λhh=>w<|PO.1 hh;have d:D<|R=.error (9,(s.a+k:I)):=B9;refine EN (i:=6) (v:=Ah AP) Z B6 B6 B6 (λ_ _ _ h=>h) (AF ⟨Z,λV j=>(by go_simp;omega)⟩) g.cell ?_;refine CK ?_
 go_wp2_with(first
  |(go_at_call 271;apply (G5 _ g.e).mono;rintro e w7 ⟨hF,rfl⟩;obtain rfl:=hF))
 rw[AE d];exact⟨Z,g.ai,kez⟩
def LZ(x:AH):AK:=AR<|56320<=x/\x<=57343
def Q8(x:AH):AK:=AR<|55296<=x/\x<=56319
def bT:Ar As 297 #[C .i32 x] w λe d=>e=Ak (Ah<|LZ x)/\d=w:=by
 unfold LZ;by_cases b:56320<=x
 .by_cases c:x<=57343
  .have a:AR ((x:J)<=57343)=AP:=B7;rw[Fm ⟨b,c⟩];go_enter func297,ntmps297;go_wp2;go_ret;exact⟨Z,Z⟩
  have a:AR ((x:J)<=57343)=AQ:=B7;rw[FO E];go_enter func297,ntmps297;go_wp2;go_ret;exact⟨Z,Z⟩
 rw[FO E];go_enter func297,ntmps297;go_wp2;go_ret;exact⟨Z,Z⟩
def qf:Ar As 298 #[C .i32 x] w λe d=>e=Ak (Ah<|Q8 x)/\d=w:=by
 unfold Q8;by_cases b:55296<=x
 .by_cases c:x<=56319
  .have a:AR ((x:J)<=56319)=AP:=B7;rw[Fm ⟨b,c⟩];go_enter func298,ntmps298;go_wp2;go_ret;exact⟨Z,Z⟩
  have a:AR ((x:J)<=56319)=AQ:=B7;rw[FO E];go_enter func298,ntmps298;go_wp2;go_ret;exact⟨Z,Z⟩
 rw[FO E];go_enter func298,ntmps298;go_wp2;go_ret;exact⟨Z,Z⟩
theorem Tp{bs:A1}:∀{k p a x q:I},Ef bs lim k p a=.ok (x,q)->x<(a+1)*16^k/\q=p+k
 |0,p,a,x,q,h=>by grind [Ef]
 |k+1,p,a,x,q,h=>by
  rw[Ef]at h;split at h
  .cases h
  split at h
  .cases h
  split at h
  .cases h
  next d hd =>
  obtain⟨b,c⟩:=Tp h;have e:=To hd;have f:(a*16+d+1)*16^k<=((a+1)*16)*16^k:=PN _ E;grind
def IL(bs:A1)(lim:AI)(p:AH):A5 AI:=match Ef bs lim 4 p 0 with
 |.error e=>.error e
 |.ok (x,q)=>if LZ x=AP then .error (9,(q:AI)-1)else if Q8 x=AP then(match Dt bs lim [92,117] q with
  |.error e=>.error e
  |.ok (_,q2)=>match Ef bs lim 4 q2 0 with
   |.error e=>.error e
   |.ok (y,q3)=>if LZ y=AP then .ok (65536+((x:AI)-55296)*1024+((y:AI)-56320),q3)else .error (9,(q3:AI)-1))else .ok (x,q)
theorem qg{s:Cw}(h:Ck W b s):Ar As 290 #[Ag #[A8 b]] W<|Hp W b s (λx:J=>C .i32 x)<|IL s.e s.d s.a:=by
 have j:=T<|Li h;obtain⟨R,p⟩:=CC<|IL s.e s.d s.a;rw[AE p];have a:=AE p;unfold IL at a;have o:=j.cell;have t:=bS j.e;go_enter func290,ntmps290
 go_wp2_with fail
 apply t.mono;rintro e L ⟨c,hF⟩;rcases hx:Ef s.e s.d 4 s.a 0 with⟨f,i⟩|⟨x,q⟩
 .simp only[hx]at a hF;subst a;obtain rfl:=(show D4 f i e from hF)
  go_wp2;exact⟨Z,j.ai.trans c,Z⟩
 simp only[hx]at a hF;have B:=(Tp hx).1;obtain⟨rfl,g⟩:=hF;obtain⟨d,o⟩:=EF j g c
 go_wp2_with fail
 apply (bT).mono;rintro e v ⟨rfl,rfl⟩;cases r:LZ x
 .rw[r,Cl B8]at a
  go_wp2_with fail
  apply (qf).mono;rintro e v ⟨rfl,rfl⟩;cases m:Q8 x
  .rw[m,Cl B8]at a;subst a;go_wp2;go_ret;exact⟨d.ai,Z,d.e⟩
  rw[m,Cp rfl]at a;have z:=Dr<|show decide _=AP from m
  go_wp2_with fail
  apply (Q7 _ B8 d.e).mono;rintro e N ⟨c,hF⟩;rcases hq:Dt s.e s.d [92,117] q with⟨f,i⟩|⟨_,u⟩
  .simp only[hq]at a hF;subst a;obtain rfl:=(show D4 f i e from hF)
   go_wp2;exact⟨Z,d.ai.trans c,Z⟩
  simp only[hq]at a hF;obtain⟨rfl,g⟩:=hF;obtain⟨l,o⟩:=EF d g c
  go_wp2_with fail
  apply (bS l.e).mono;rintro e P ⟨c,hF⟩;rcases hy:Ef s.e s.d 4 u 0 with⟨f,i⟩|⟨y,F⟩
  .simp only[hy]at a hF;subst a;obtain rfl:=(show D4 f i e from hF)
   go_wp2;exact⟨Z,l.ai.trans c,Z⟩
  simp only[hy]at a hF;obtain⟨rfl,g⟩:=hF;obtain⟨k,o⟩:=EF l g c
  go_wp2_with fail
  apply (bT).mono;rintro e Q ⟨rfl,rfl⟩;cases n:LZ y
  .rw[n,Cl B8]at a;subst a
   go_wp2_with fail
   apply (G5 _ k.e).mono;rintro e w ⟨rfl,rfl⟩;go_wp2;exact⟨Z,k.ai,Z⟩
  rw[n,Cp rfl]at a;have A:=Dr<|show decide _=AP from n;subst a;go_wp2;go_ret;exact⟨k.ai,Bv,k.e⟩
 rw[r,Cp rfl]at a;subst a
 go_wp2_with fail
 apply (G5 _ d.e).mono;rintro e w ⟨rfl,rfl⟩;go_wp2;exact⟨Z,d.ai,Z⟩
def Ia(bs:A1)(lim:AI)(p:AH):A5 AI:=match bs[p]? with
 |none=>.error (9,p)
 |some c=>if(p:AI)=lim then .error (8,p)else if c.toNat=34 then .ok (34,p+1)else if c.toNat=92 then .ok (92,p+1)else if c.toNat=47 then .ok (47,p+1)else if c.toNat=98 then .ok (8,p+1)else if c.toNat=102 then .ok (12,p+1)else if c.toNat=110 then .ok (10,p+1)else if c.toNat=114 then .ok (13,p+1)else if c.toNat=116 then .ok (9,p+1)else if c.toNat=117 then IL bs lim (p+1)else .error (9,p)
theorem qh{s:Cw}(h:Ck W b s):Ar As 283 #[Ag #[A8 b]] W<|Hp W b s (λx:J=>C .i32 x)<|Ia s.e s.d s.a:=by
 have l:=T<|Li h;obtain⟨R,B⟩:=CC<|Ia s.e s.d s.a;rw[AE B];have a:=AE B;unfold Ia at a;have A:=l.cell;rcases JD l.e with g|g|⟨c,g⟩
 .rw[I7 (by have:s.a=K s.e:=g;omega)]at a;subst a;have o:=KB l.e g;go_enter func283,ntmps283
  go_wp2_with(first
   |(go_at_call 270;apply o.mono;rintro e q ⟨hF,k⟩;obtain rfl:=hF))
  exact⟨Z,l.ai.trans<|Ci.of_below k,Z⟩
 .have N:=g.2;have P:=g.1;rw[D7 P]at a;simp only[]at a;rw[Cp N]at a;subst a;have o:=KC l.e g;clear g N P;go_enter func283,ntmps283
  go_wp2_with(first
   |(go_at_call 270;apply o.mono;clear o;rintro e q ⟨hF,k⟩;obtain rfl:=hF))
  exact⟨Z,l.ai.trans<|Ci.of_below k,Z⟩
 have Q:=g.1;have S:=g.2;rw[Q]at a;simp only[]at a;rw[Cl S]at a;have o:Ar _ _ _ _ λe F=>e=Ak _/\Ck F b {s with a:=s.a+1}/\Ci b _ F:=J4 l.e g;clear g Q S;go_enter func283,ntmps283
 go_wp2_with fail
 apply o.mono;clear o A;rintro e q ⟨rfl,y,k⟩;obtain⟨d,A⟩:=EF l y k;clear l y k;by_cases f:c.toNat=34
 .rw[Cp f]at a;subst a;have ae:((c.toNat:J)==34)=AP:=B7;have t:D<|wrap32 c.toNat=34:=by grind [D,wrap32]
  clear f;go_wp2;go_ret;exact⟨d.ai,by show Ending.returned (C .i32<|wrap32 (c.toNat:J))=_;rw[AE t],d.e⟩
 rw[Cl f]at a;have ae:=Df (c:=c) 34 E;by_cases i:c.toNat=92
 .rw[Cp i]at a;subst a;have ag:((c.toNat:J)==92)=AP:=B7;have t:D<|wrap32 c.toNat=92:=by grind [D,wrap32]
  clear f i;go_wp2;go_ret;exact⟨d.ai,by show Ending.returned (C .i32<|wrap32 (c.toNat:J))=_;rw[AE t],d.e⟩
 rw[Cl i]at a;have ag:=Df (c:=c) 92 E;by_cases j:c.toNat=47
 .rw[Cp j]at a;subst a;have af:((c.toNat:J)==47)=AP:=B7;have t:D<|wrap32 c.toNat=47:=by grind [D,wrap32]
  clear f i j;go_wp2;go_ret;exact⟨d.ai,by show Ending.returned (C .i32<|wrap32 (c.toNat:J))=_;rw[AE t],d.e⟩
 rw[Cl j]at a;have af:=Df (c:=c) 47 E;by_cases m:c.toNat=98
 .rw[Cp m]at a;subst a;have ah:((c.toNat:J)==98)=AP:=B7;clear f i j m;go_wp2;go_ret;exact⟨d.ai,Z,d.e⟩
 rw[Cl m]at a;have ah:=Df (c:=c) 98 E;by_cases n:c.toNat=102
 .rw[Cp n]at a;subst a;have z:((c.toNat:J)==102)=AP:=B7;clear f i j m n;go_wp2;go_ret;exact⟨d.ai,Z,d.e⟩
 rw[Cl n]at a;have z:=Df (c:=c) 102 E;by_cases p:c.toNat=110
 .rw[Cp p]at a;subst a;have aa:((c.toNat:J)==110)=AP:=B7;clear f i j m n p;go_wp2;go_ret;exact⟨d.ai,Z,d.e⟩
 rw[Cl p]at a;have aa:=Df (c:=c) 110 E;by_cases r:c.toNat=114
 .rw[Cp r]at a;subst a;have ab:((c.toNat:J)==114)=AP:=B7;clear f i j m n p r;go_wp2;go_ret;exact⟨d.ai,Z,d.e⟩
 rw[Cl r]at a;have ab:=Df (c:=c) 114 E;by_cases u:c.toNat=116
 .rw[Cp u]at a;subst a;have ac:((c.toNat:J)==116)=AP:=B7;clear f i j m n p r u;go_wp2;go_ret;exact⟨d.ai,Z,d.e⟩
 rw[Cl u]at a;have ac:=Df (c:=c) 116 E;by_cases w:c.toNat=117
 .rw[Cp w]at a;have ad:((c.toNat:J)==117)=AP:=B7;clear f i j m n p r u w;have L:=λV (hV:Ck V b {s with a:=s.a+1})=>qg hV;have v:∀V,Ck V b {s with a:=s.a+1}->Ar As 290 #[Ag #[A8 b]] V (Hp V b {s with a:=s.a+1} (λx:J=>C .i32 x) R):=by rw[<-a];exact L
  clear L a;rcases R with⟨en,pl⟩|⟨aj,ai⟩
  .go_wp2_with(first
    |(go_at_call 290;apply (v _ d.e).mono;clear v A;rintro e w3 ⟨k,hF⟩;obtain rfl:=hF))
   exact⟨Z,d.ai.trans k,Z⟩
  go_wp2_with(first
   |(go_at_call 290;apply (v _ d.e).mono;clear v A;rintro e w3 ⟨k,rfl,y⟩))
  go_ret;exact⟨d.ai.trans k,Z,y⟩
 rw[Cl w]at a;have ad:=Df (c:=c) 117 E;subst a;clear f i j m n p r u w
 go_wp2_with(first
  |(go_at_call 271;apply (G5 _ d.e).mono;rintro e w7 ⟨hF,rfl⟩;obtain rfl:=hF))
 exact⟨Z,d.ai,kez⟩
def U8(W:Ap):Prop:=Utf8Tabs 4 5 W
def U8.ac(h:U8 W)(hb:A0 W V):U8 V:=by
 refine⟨λc b=>?_,λi a=>⟨?_,?_⟩⟩
 .have:=h.1 c b;exact Ca (hb.cell (p:=⟨_,c,Ao⟩)<|Fk this) this
 .have:=(h.2 i a).1;exact Ca (hb.cell (p:=⟨_,_,Ao⟩)<|Fk this) this
 have:=(h.2 i a).2;exact Ca (hb.cell (p:=⟨_,_,Ao⟩)<|Fk this) this
def bU:∀v:Fin 256,bits .and Am (v.val:J) 7=((v.val%8:I):J):=B8
structure OU(b0 x sz i lo hi:AH):Prop where
 fx:firstT b0=x
 fsz:bits .and Am (x:AI) 7=(sz:AI)
 fi:x/16=i
 a:i<16
 fxb:x<256
 flo:accLo i=lo
 fhi:accHi i=hi
def OU.szlt(h:OU b0 x sz i lo hi):sz<8:=by have a:=bU ⟨x,h.fxb⟩;have b:=h.fsz;rw[a]at b;omega
def qi(h:firstT b0=x)(hx:x<256):OU b0 x (x%8) (x/16) (accLo<|x/16)<|accHi<|x/16:=by refine⟨h,?_,rfl,E,hx,rfl,rfl⟩;exact bU ⟨x,hx⟩
theorem bV(a:OU b0 x sz i lo hi)(d:U8 W):A6 W 5 (i*2) (C Am lo)/\A6 W 5 (i*2+1) (C Am hi):=by obtain⟨b,c⟩:=d.2 i a.a;rw[a.flo]at b;rw[a.fhi]at c;grind
def M0(n sz lo hi b1 b2:AH):AK:=AR (sz<=n)||decide (1<n)&&(AR (b1<lo)||decide (hi<b1))||decide (2<n)&&(AR (b2<128)||decide (191<b2))
def Rq{p:Addr}{o:Obj}(h:AC W p=H v):(Az W o).cell? p=H v:=Ca (Iy W p o keS) h
def Q9(a b:I):AR ((a:J)<b)=AR (a<b):=Ba
def bW(a:OU b0 x sz i lo hi)(hb:b0<256)(F:1<=n)(B:n<=3\/sz<=n/\n<=4)(y:A6 W g off<|C Am b0)(d:1<n->A6 W g (off+1) (C Am b1))(f:2<n->A6 W g (off+2) (C Am b2))(h:U8 W):Ar As 291 #[G (H ⟨g,off,Ao⟩) n cap] W λe j=>e=Ak (Ah<|M0 n sz lo hi b1 b2)/\A0 W j:=by
 have m:=h.1 b0 hb;rw[a.fx]at m;have z:=a.fsz;have L:wrap64 (sz:J)=sz:=by have:=a.szlt;unfold wrap64;omega
 obtain⟨k,l⟩:=bV a h;have A:x/16<16:=by rw[a.fi];exact a.a
 rw[<-a.fi]at k l;have c:D<|A0 W<|Az W<|M #[C Am lo,C Am hi] 349:=Cm;have c2:=Cc (Cj W (o:=(M #[C Am lo,C Am hi] 349))) 0;have u:=Cc (Cj W (o:=(M #[C Am lo,C Am hi] 349))) 1;have s:AR ((b2:J)<128)=AR (b2<128):=Q9 b2 128;have t:AR ((191:J)<b2)=AR (191<b2):=Q9 191 b2;by_cases w:sz<=n
 .have v:((n:J)==0)=AQ:=B7;have b:AR (sz<=n)=AP:=B7;go_enter func291,ntmps291;go_wp2;go_ret;exact⟨by rw[M0,b];rfl,Cu _ _⟩
 have b:AR (sz<=n)=AQ:=B7;obtain rfl|rfl|rfl:n=1\/n=2\/n=3:=E
 all_goals(try replace d:=Rq (o:=(M #[C Am lo,C Am hi] 349))<|d B8);(try replace f:=Rq (o:=(M #[C Am lo,C Am hi] 349))<|f B8)
 rotate_left
 cases q1:AR (b1<lo)<;>cases p:AR<|hi<b1
 rotate_left 4
 cases q1:AR (b1<lo)<;>cases p:AR (hi<b1)<;>cases q:AR (b2<128)<;>cases r:AR (191<b2)<;>rw[q]at s<;>rw[r]at t
 all_goals(go_enter func291,ntmps291;go_wp2;go_quiet (fail);go_wp2;go_ret;exact⟨by rw[M0,b];simp[*],Cs c<|CG (IJ (n:=nq)) c.size⟩)
def NG(n sz lo hi b1 b2 b3:AH):AK:=AR (n<sz)||(n==2&&(AR (b1<lo)||decide (hi<b1)))||(n==3&&(AR (b2<128)||decide (191<b2)))||(n==4&&(AR (b3<128)||decide (191<b3)))
theorem qj(c:OU b0 x sz i lo hi)(hb:b0<256)(hx:x<240)(hn:1<=n)(F:2<=sz/\n<=sz/\sz<=4)(V:A6 W g off<|C Am b0)(q:1<n->A6 W g (off+1) (C Am b1))(r:2<n->A6 W g (off+2) (C Am b2))(s:3<n->A6 W g (off+3) (C Am b3))(t:U8 W)(L:2<n->lo<=b1/\b1<=hi)(N:3<n->128<=b2/\b2<=191):Ar As 299 #[G (H ⟨g,off,Ao⟩) n cap] W λe w=>∃m k,e=Ak (Af #[C .i32 m,C Y k])/\(m==65533&&k==1)=NG n sz lo hi b1 b2 b3/\A0 W w:=by
 have A:=t.1 b0 hb;rw[c.fx]at A;have h2:=c.fsz;have aa:wrap64 (sz:J)=sz:=kfB;obtain⟨y,z⟩:=bV c t;have h3:x/16<16:=E;rw[<-c.fi]at y z;have x1:AR (240<=(x:J))=AQ:=B7;have l:D<|A0 W<|Az W<|M #[C Am lo,C Am hi] 349:=Cm;have c2:=Cc (Cj W (o:=(M #[C Am lo,C Am hi] 349))) 0;have R:=Cc (Cj W (o:=(M #[C Am lo,C Am hi] 349))) 1;have u:AR ((b2:J)<128)=AR (b2<128):=Q9 b2 128;have v:AR ((191:J)<b2)=AR (191<b2):=Q9 191 b2;have P:AR ((b3:J)<128)=AR (b3<128):=Q9 b3 128;have Q:AR ((191:J)<b3)=AR (191<b3):=Q9 191 b3;have f1:2<n->AR (b1<lo)=AQ:=λh=>B9;have p:2<n->AR (hi<b1)=AQ:=λh=>B9;have f:3<n->AR (b2<128)=AQ:=λh=>B9;have j:3<n->AR (191<b2)=AQ:=λh=>B9;have a:NG n sz lo hi b1 b2 b3=NG n sz lo hi b1 b2 b3:=rfl
 conv at a=>rhs;unfold NG
 by_cases B:n<sz
 .have S:AR ((n:J)<1)=AQ:=B7;have d:AR (n<sz)=AP:=B7;rw[d]at a;go_enter func299,ntmps299;go_wp2
  go_ret2
  exact⟨_,_,Z,a.symm,l⟩
 obtain rfl:n=sz:=E;clear B;have d:AR (n<n)=AQ:=Ba;rw[d]at a;obtain rfl|rfl|rfl:n=2\/n=3\/n=4:=E
 all_goals(try replace q:=Rq (o:=(M #[C Am lo,C Am hi] 349))<|q B8);(try replace r:=Rq (o:=(M #[C Am lo,C Am hi] 349))<|r B8);(try replace s:=Rq (o:=(M #[C Am lo,C Am hi] 349))<|s B8);(try replace f1:=f1 B8);(try replace p:=p B8);(try replace f:=f B8);(try replace j:=j B8)
 cases q1:AR (b1<lo)<;>cases b:AR (hi<b1)<;>rw[q1,b]at a
 rotate_left 4
 cases q1:AR (b2<128)<;>cases b:AR (191<b2)<;>rw[q1,b]at a<;>rw[q1]at u<;>rw[b]at v
 rotate_left 4
 rw[f]at u;rw[j]at v;cases q1:AR (b3<128)<;>cases b:AR (191<b3)<;>rw[q1,b]at a<;>rw[q1]at P<;>rw[b]at Q
 all_goals clear L N F
 all_goals(go_enter func299,ntmps299;go_wp2;go_ret2;exact⟨_,_,Z,by rw[a];simp,l⟩)
theorem qk(n:I)(hx:firstT b0=241)(hb:b0<256)(k:1<=n)(j:A6 W g off<|C Am b0)(h:U8 W):Ar As 299 #[G (H ⟨g,off,Ao⟩) n cap] W λe c=>e=Ak (Af #[C .i32 65533,C Y 1])/\c=W:=by
 have d:=h.1 b0 hb;rw[hx]at d;have f:=Utf8W.drop_byte ⟨b0,hb⟩;have a:=T f;have i:AR ((n:J)<1)=AQ:=B7;have b:D<|wrap32 517543559168/2147483648 = -1:=by grind [D,wrap32]
 go_enter func299,ntmps299;go_wp2
 go_ret2
 refine⟨?_,Z⟩;show Ending.returned (Af #[C .i32<|bits .or .i32 (bits .andNot .i32 (b0:J)<|wrap32 517543559168/2147483648)<|bits .and .i32 65533<|wrap32 517543559168/2147483648,C Y 1])=_;rw[AE b,AE a]
def ql(cap n:I)(hb:b0<128)(f:1<=n)(d:A6 W g off<|C Am b0):Ar As 292 #[G (H ⟨g,off,Ao⟩) n cap] W λe a=>e=Ak (Af #[C .i32 b0,C Y 1])/\a=W:=by
 have b:AR (0<n)=AP:=B7;have c:AR ((b0:J)<128)=AP:=B7;go_enter func292,ntmps292;go_wp2;refine wp_loop_rounds 1 ?_;rw[rounds_succ];go_wp2
 go_ret2
 exact⟨Z,Z⟩
def qm(hb:128<=b0)(k:1<=n)(j:A6 W g off<|C Am b0){R:J->J->X->Prop}(d:Ar As 299 #[G (H ⟨g,off,Ao⟩) n cap] W λe c=>∃a b,e=Ak (Af #[C .i32 a,C Y b])/\R a b c):Ar As 292 #[G (H ⟨g,off,Ao⟩) n cap] W λe c=>∃a b,e=Ak (Af #[C .i32 a,C Y b])/\R a b c:=by
 have h:AR (0<n)=AP:=B7;have i:AR ((b0:J)<128)=AQ:=B7;go_enter func292,ntmps292;go_wp2;refine wp_loop_rounds 1 ?_;rw[rounds_succ]
 go_wp2_with(first
  |(go_at_call 299;refine Ce d ?_;rintro e l ⟨a,b,rfl,f⟩))
 go_ret2
 exact⟨a,b,Z,f⟩
def FT(b:AU):AH:=firstT b.toNat%8
def MD(b:AU):AH:=accLo<|firstT b.toNat/16
def ME(b:AU):AH:=accHi<|firstT b.toNat/16
def Hq:A1->AK
 |[]=>AP
 |[b0]=>AR<|2<=FT b0
 |[b0,b1]=>AR<|3<=FT b0/\MD b0<=b1.toNat/\b1.toNat<=ME b0
 |[b0,b1,b2]=>AR<|4<=FT b0/\(MD b0<=b1.toNat/\b1.toNat<=ME b0)/\128<=b2.toNat/\b2.toNat<=191
 |_=>AQ
def Dh(l:A1)(b:AU):AH:=match l with
 |[]=>if FT b=0 then 2 else if FT b=1 then 0 else 1
 |[b0]=>if b.toNat<MD b0\/ME b0<b.toNat then 0 else if FT b0=2 then 2 else 1
 |[b0,_]=>if b.toNat<128\/191<b.toNat then 0 else if FT b0=3 then 2 else 1
 |_=>if b.toNat<128\/191<b.toNat then 0 else 2
theorem WG{b:AU}:(FT b=0/\firstT b.toNat=240/\b.toNat<128)\/(FT b=1/\firstT b.toNat=241/\128<=b.toNat)\/(2<=FT b/\FT b<=4/\firstT b.toNat<240/\128<=b.toNat):=by
 unfold FT;have f:=firstT_cases b.toNat;have c:b.toNat<128->firstT _=240:=λh=>by unfold firstT;rw[Cp h]
 have d:128<=b.toNat->firstT b.toNat≠240:=λh=>by
  unfold firstT;rw[Cl E]
  repeat' split
  all_goals decide
 by_cases a:b.toNat<128
 .left;have:=c a;exact⟨by rw[this],this,a⟩
 have e:=d E;rcases f with h|h|h|h|h|h|h|h|h
 .exact absurd h e
 .right;left;exact⟨by rw[h],h,E⟩
 all_goals(right;right;rw[h];exact⟨B8,B8,B8,E⟩)
def WH{b:AU}(h:2<=FT b):FT b<=4/\firstT b.toNat<240/\128<=b.toNat:=by
 rcases WG (b:=b)with a|a|a
 .omega
 .omega
 exact a.2
def WI{b:AU}:OU b.toNat (firstT b.toNat) (FT b) (firstT b.toNat/16) (MD b)<|ME b:=qi rfl (by rcases firstT_cases b.toNat with h|h|h|h|h|h|h|h|h<;>rw[h]<;>decide)
def JG(V:Ap)(g off n cap:AH)(r:AK):Prop:=Ar As 291 #[Ac (An ⟨g,off,Ao⟩) n cap] V λe W'=>e=Ak (Ah r)/\A0 V W'
def Lk(V:Ap)(g off n cap:AH)(bad:AK):Prop:=Ar As 292 #[Ac (An ⟨g,off,Ao⟩) n cap] V λe W'=>∃ch sz,e=Ak (Af #[Ab .i32 ch,Ab Al sz])/\(ch==65533&&sz==1)=bad/\A0 V W'
def bX{r:AK}(hb:128<=b0)(d:1<=n)(c:A6 V g off<|C Am b0)(h:Ar As 299 #[G (H ⟨g,off,Ao⟩) n cap] V λe b=>∃a k,e=Ak (Af #[C .i32 a,C Y k])/\(a==65533&&k==1)=r/\A0 V b):Lk V g off n cap r :=
 qm hb d c h
def Qa{F D:AK}(hF:JG V g off n cap F)(a:k≠1->Lk V g off n cap D)(h:F=(k != 1)/\(k≠1->D=(k==0))):(k=1->JG V g off n cap AQ)/\(k=0->JG V g off n cap AP/\Lk V g off n cap AP)/\(k=2->JG V g off n cap AP/\Lk V g off n cap AQ):=by
 obtain⟨rfl,h⟩:=h;refine⟨?_,?_,?_⟩
 all_goals rintro rfl
 .exact hF
 all_goals(obtain rfl:=h B8;exact⟨hF,a B8⟩)
def WJ{b0:AU}(l:2<=n/\n<=FT b0)(a:A6 V g off<|C Am b0.toNat)(c:A6 V g (off+1)<|C Am b1)(d:2<n->A6 V g (off+2) (C Am b2))(f:3<n->A6 V g (off+3) (C Am b3))(e:U8 V)(h:2<n->MD b0<=b1/\b1<=ME b0)(i:3<n->128<=b2/\b2<=191):JG V g off n cap (M0 n (FT b0) (MD b0) (ME b0) b1 b2)/\Lk V g off n cap (NG n (FT b0) (MD b0) (ME b0) b1 b2 b3):=by obtain⟨m,j,k⟩:=WH (b:=b0) E;exact⟨bW (WI) b0.toNat_lt E E a (λ_=>c) d e,bX k E a<|qj (WI) b0.toNat_lt j E E a (λ_=>c) d f e h i⟩
theorem qo(g off cap:I){l:A1}{b:AU}(c:Hq l=AP)(a:∀i (hi:i<K (l++[b])),A6 V g (off+i)<|C Am ((l++[b])[i]'hi).toNat)(e:U8 V):(Dh l b=1->JG V g off (K l+1) cap AQ)/\(Dh l b=0->JG V g off (K l+1) cap AP/\Lk V g off (K l+1) cap AP)/\(Dh l b=2->JG V g off (K l+1) cap AP/\Lk V g off (K l+1) cap AQ):=by
 match l,c with
 |[],_ =>
  have j:A6 V g off<|C Am b.toNat:=a 0 Ba;have hF:=bW (cap:=cap) (n:=1) (b1:=0) (b2:=0) (WI (b:=b)) b.toNat_lt B8 (AF B8) j Ba Ba e;rcases WG with⟨k,m,f⟩|⟨k,m,f⟩|⟨k,m,f,t⟩
  .exact Qa (D:=AQ) hF (λ_=>Ce (ql cap 1 f B8 j) λ_ _ ⟨o,r⟩=>⟨b.toNat,1,o,B7,r▸Cu _ _⟩) (by simp[Dh,M0,k])
  .exact Qa hF (λ_=>bX f B8 j<|Ce (qk 1 m b.toNat_lt B8 j e) λ_ _ ⟨o,r⟩=>⟨_,_,o,Z,r▸Cu _ _⟩) (by simp[Dh,M0,k])
  exact Qa (D:=AP) hF (λh=>by grind [Dh]) (by grind [Dh,M0])
 |[b0],c =>
  obtain⟨hF,d⟩:=WJ (b2:=0) (b3:=0) ⟨B8,Dr c⟩ (a 0 Ba) (a 1 Ba) Ba Ba e Ba Ba;exact Qa hF (λ_=>d) (by grind [Dh,M0,NG,Hq])
 |[b0,b1],c =>
  obtain⟨q,p⟩:=Dr c;obtain⟨hF,d⟩:=WJ (b3:=0) (cap:=cap) ⟨B8,q⟩ (a 0 Ba) (a 1 Ba) (λ_=>a 2 Ba) Ba e (λ_=>p) Ba;exact Qa hF (λ_=>d) (by grind [Dh,M0,NG])
 |[b0,b1,b2],c =>
  obtain⟨q,p,s⟩:=Dr c;obtain⟨m,f,t⟩:=WH (b:=b0) E;obtain⟨hF,d⟩:=WJ (cap:=cap) ⟨B8,q⟩ (a 0 Ba) (a 1 Ba) (λ_=>a 2 Ba) (λ_=>a 3 Ba) e (λ_=>p) λ_=>s;exact Qa hF (λ_=>d) (by grind [Dh,M0,NG])
def Tryz.infoU8:(prog.info? 5).map (λi=>(i.zero,i.size,i.bytes))=H (H<|C Am 0,1,1):=B6
def CP(b:AU):Aq:=Ab Am b.toNat
theorem DK{e:AN}{size:I}(c:W.ownsRow base e size v n xs)(h:Ax v=H g):base<=g:=by
 rcases c.2 with⟨a,_⟩|⟨i,d,f,rfl,b,_⟩
 .subst a;cases h
 cases h;exact b
theorem EU{cs:A3}:∀(j:I) (u:Aq),cs.toList[j]?=H u->(Az w<|M cs t).cell? ((⟨O<|U w,0,Ao⟩:Addr).add j)=H u:=λj u a=>by
 have e:(⟨O<|U w,0,Ao⟩:Addr).add j=⟨O<|U w,j,Ao⟩:=by by_cases h:j=0<;>simp[Addr.add,h]
 rw[e,Iz _ _ _ _ _ _<|Cj _];simpa using a
def Ke{s x:Operand}(z:J)(own:w.ownsRow base 5 1 v n xs)(h:∀b c,c.ownsRow base 5 1 b (n+1) (xs++[C Am z])->(Az w<|M #[C Am z] 5).grownBy c (Ax v)->(b=G Ao 0 0↔v=G Ao 0 0/\1=0)->wpList As ops Q rest (a.put o.dst b) c)(hl:n+1<=maxLen:=by unfold maxLen;omega)(hy:(n+1)*1<=140737488355328:=by omega)(hb:base<=O (U<|Az w<|M #[C Am z] 5):=by simp;omega)(e:o.guard=Ao:=by rfl)(g:o.op=.call {callee:=.builtin .append,args:=#[s,x],argTypes:=#[50,50]}:=by rfl)(i:a.eval s=v:=by rfl)(hx:a.eval x=G (Aa<|O<|U w) 1 1:=by rfl):wpList As ops Q (o::rest) a<|Az w<|M #[C Am z] 5:=by obtain⟨m,f,j,k,l⟩:=DL Tryz.infoU8;exact K8 _ e s x 50 g base 5 m _ 1 1 underlying50 f j k l Z B8 v n xs i (own.alloc _) _ 1 1 _ hx Z (EU) (λu d=>by simp at d;subst d;rfl) hl hy hb h
def Cn(W:Ap)(base:AH)(v:Aq)(bs:A1):Prop:=W.ownsRow base 5 1 v (At bs) (bs.map CP)/\base<=Au (Av W)/\∃a n c,v=Ac a n c
def CJ(x:AH):AH->A1
 |0=>[]
 |k+1=>_root_.UInt8.ofNat (x/2^(8*k)%256)::CJ x k
def qp:CP (_root_.UInt8.ofNat<|x/2^(8*k)%256)=C Am ((x:J)/2^(8*k)%256):=by
 unfold CP;have e:(_root_.UInt8.ofNat<|x/2^(8*k)%256).toNat=x/2^(8*k)%256:=by rw[ZO];have:x/2^(8*k)%256<256:=Wl _ B8;omega
 rw[e];congr 1
def MF{v':Aq}{ys:A1}{b:AU}(h:W'.ownsRow base 5 1 v' (K ys+1)<|ys.map CP++[u])(a:CP b=u):W'.ownsRow base 5 1 v' (K<|ys++[b])<|(ys++[b]).map CP:=by rw[Dj,Kb];subst a;exact h
def GX{z:I}(hb:Below base W V)(b:V.ownsRow base t z v n xs)(a:V.grownBy W'<|Ax v)(d:base<=O (U V)):Below base W W' :=
 Cs hb ⟨a.os,a.tape,a.output,a.size,λi c=>a.block i E λe=>AY<|DK b e.symm⟩
structure Gk(W:Ap)(p base:AH)(bs:A1)(wh:AH):Prop where
 ad:∃v,W.heap[p]?=An (Aj #[v,Ab Al wh] 394)/\Cn W base v bs
 lt:p<base
 a:wh<=At bs
structure Hr(p base:AH)(W W':Ap):Prop where
 os:W'.os=W.os
 tape:W'.tape=W.tape
 output:W'.output=W.output
 size:Au (Av W)<=Au (Av W')
 block:∀k,k<base->k≠p->W'.heap[k]?=W.heap[k]?
theorem Hr.refl(p base:I)(W:X):Hr p base W W:=⟨rfl,rfl,rfl,Cr _,λ_ _ _=>rfl⟩
def Hr.trans{a b c:X}(h:Hr p base a b)(d:Hr p base b c):Hr p base a c :=
 ⟨Ca d.os h.os,Ca d.tape h.tape,Ca d.output h.output,CE h.size d.size,λk e f=>Ca (d.block k e f)<|h.block k e f⟩
def Hr.of_below(h:A0 W W')(hb:base<=O (U W)):Hr p base W W' :=
 ⟨h.os,h.tape,h.output,h.size,λk a _=>Co h k E⟩
def WK{a b:Aq}(c:A7 w g #[a,b] t):(AB w ⟨g,0,Ao⟩ v).heap[g]?=H (M #[v,b] t)/\(AB w ⟨g,1,Ao⟩ v).heap[g]?=H (M #[a,v] t):=by
 constructor
 .rw[VR w g 0 _ _ _ v c,CR _ _ _ _ _ _ c];rfl
 rw[VR w g 1 _ _ _ v c,CR _ _ _ _ _ _ c];rfl
def bY:Hr p base w (AB w ⟨p,j,Ao⟩ v) :=
 ⟨rfl,rfl,rfl,Bd,λk _ a=>CY _ _ _ _ Bl⟩
theorem WL{bs:A1}(h:Cn w base v bs)(n:p<base):Cn (AB w ⟨p,j,Ao⟩ u) base v bs:=by
 obtain⟨⟨d,a⟩,m,f⟩:=h;refine⟨⟨d,?_⟩,by grind [World.setCell],f⟩;rcases a with a|⟨g,b,c,e,k,l,i⟩
 .exact AF a
 exact AG ⟨g,b,c,e,k,Ca (CY _ _ _ _ B7) l,i⟩
theorem Gk.same{bs:A1}(h:Gk W p base bs wh)(d:∀k,k<O (U W)->k=p\/base<=k->W'.heap[k]?=W.heap[k]?)(q:O (U W)<=O (U W')):Gk W' p base bs wh:=by
 obtain⟨v,f,⟨l,a⟩,o,m⟩:=h.ad;refine⟨⟨v,Ca (d p (Cd f)<|AF Z) f,⟨l,?_⟩,E,m⟩,h.lt,h.a⟩;rcases a with a|⟨g,i,j,e,b,c,n⟩
 .exact AF a
 exact AG ⟨g,i,j,e,b,Ca (d g (Cd c)<|AG b) c,n⟩
def Gk.ac{bs:A1}(h:Gk W p base bs wh)(hb:A0 W W'):Gk W' p base bs wh:=h.same (λk a _=>Co hb k a) hb.size
def Gk.ai{bs:A1}(h:Gk W p base bs wh)(hb:Ci b W W')(c:b<base)(e:b≠p):Gk W' p base bs wh:=h.same (λk a d=>hb.block k a E) hb.size
theorem bZ{bs:A1}(h:Gk W p base bs wh):Ar As 281 #[A8 p] W λe f=>e=Ak (Ah<|AR<|wh=K bs)/\A0 W f:=by
 obtain⟨v,b,⟨i,j⟩,_,a,n,c,rfl⟩:=h.ad;have g:n=K bs:=B9;subst g;have k:=Cc b 0;have l:=Cc b 1;have d:D<|(wh==(K bs:J))=AR (wh=K bs):=by grind [D]
 go_enter func281,ntmps281;go_wp2
 go_quiet (fail)
 go_wp2;go_ret;refine⟨?_,IJ⟩;show Ending.returned (Ah _)=_;rw[AE d]
theorem OV{bs:A1}(h:Cn W base (G (H ⟨g,0,Ao⟩) n cap) bs):(n=K bs/\K bs<=cap/\cap<=maxLen/\base<=g)/\∀j (a:j<K bs),AC W ⟨g,j,Ao⟩=H (C Am ((bs[j]'a).toNat:J)):=by
 obtain⟨⟨r,b⟩,_,_⟩:=h;rcases b with⟨b,_⟩|⟨q,o,p,e,k,m,d,f,s,i⟩
 .cases b
 cases e;refine⟨⟨Z,d,f,k⟩,λj a=>?_⟩;rw[Cc m j,<-Oz];have c:=congrArg (λl=>l[j]?) i;simp only[T5]at c;rw[R6 a,L9,D7 a]at c;exact c
def U8.aq(h:U8 W)(e:Hr p base W V)(j:7<p)(l:p<base):U8 V:=by have a:∀(g off:I) (v:Aq),g<=7->AC W _=H v->A6 V g off v:=λg off v k f=>Ca (Je<|e.block g E E) f;exact⟨λc d=>a _ _ _ B8<|h.1 c d,λi b=>⟨a _ _ _ B8 (h.2 i b).1,a _ _ _ B8 (h.2 i b).2⟩⟩
def cm{bs:A1}(h:Gk W p base bs wh):Gk (AB W ⟨p,1,Ao⟩<|C Y<|K bs) p base bs<|K bs:=by obtain⟨v,b,a⟩:=h.ad;exact⟨⟨v,(WK b).2,WL a h.lt⟩,h.lt,Cr _⟩
structure WM(W:Ap)(p base g cap:AH)(bs:A1)(wh:AH)(V:Ap):Prop where
 aq:Hr p base W V
 a:Gk V p base bs wh
 ad:V.heap[p]?=An (Aj #[Ac (Aa g) (At bs) cap,Ab Al wh] 394)
 cells:∀j (hj:j<At bs),AC V ⟨g,j,Ao⟩=An (Ab Am ((bs[j]'hj).toNat:AI))
 h:At bs<=cap/\cap<=maxLen
def qq{c:I}{a:A4}{bs:A1}{b:AU}(hb:base<=O (U W))(e:p<base)(A:wh<=K bs)(o:W.ownsRow base 5 1 (G a n c) (K bs)<|bs.map CP)(x:CP b=u)(w:w5.ownsRow base 5 1 (G (Aa g) (K bs+1) cap5) (K bs+1)<|bs.map CP++[u])(q:(Az W<|M #[u] 5).grownBy w5<|Ax<|Go.Value.slice a n c)(l:A7 w5 p #[G a n c,C Y wh] 394):WM W p base g cap5 (bs++[b]) wh<|AB w5 ⟨p,0,Ao⟩<|G (Aa g) (K bs+1) cap5:=by
 have d:=GX ((Cu base W).alloc hb _) (o.alloc _) q B7;have f:Cn w5 base _ _:=⟨MF w x,keY,_,_,_,Z⟩
 obtain⟨⟨y,c2,m,z⟩,cs⟩:=OV f;have h:=WL (j:=0) (u:=G (Aa g) (K bs+1) cap5) f e;have s:K (bs++[b])=K bs+1:=Ba;have i:=(WK (v:=G (Aa g) (K bs+1) cap5) l).1;refine⟨⟨d.os,d.tape,d.output,by simpa[World.setCell]using d.size,λk r t=>Ca (CY _ _ _ _ kf5)<|Co d k r⟩,⟨⟨_,i,h⟩,e,E⟩,by rw[s];exact i,(OV h).2,⟨c2,m⟩⟩
theorem co{W:World}{p base:Nat}{bs:List UInt8}{wh:Nat}(b:UInt8)(h:Gk W p base bs wh)(hp:Hq (bs.drop wh)=true)(ht:U8 W)(h7:7<p)(hl:bs.length<=999999999):Calls prog 284 #[.pointer<|some ⟨p,0,none⟩,.int .u8 b.toNat] W λe W'=>e=.returned (.bool<|Dh (bs.drop wh) b != 0)/\Hr p base W W'/\Gk W' p base (bs++[b]) (if Dh (bs.drop wh) b=2 then bs.length+1 else wh):=by
 obtain⟨rb,HRB⟩:=CC<|(Dh (bs.drop wh) b != 0);obtain⟨wf,HWF⟩:=CC<|(if Dh (bs.drop wh) b=2 then bs.length+1 else wh);rw[HRB.out,HWF.out];obtain⟨i0,hi,hz0,hz1,hz2⟩:=DL Tryz.infoU8;obtain⟨v,hr,ho,hb,a,n,c,rfl⟩:=h.ad;have hlt:=h.lt;have hle:=h.a;have hn:n=bs.length:=by rcases ho.2 with⟨h2,h3⟩|⟨g,cap,cur,e,_⟩<;>grind
 subst hn;have HO:=C9 ho;have HR:=C9 hr;have HT:=C9 ht;have k0:=Cc hr 0;go_enter func284,ntmps284
 go_wp2_with(first
  |(at_builtin;apply Ke _ HO.out;intro v' w5 hown' hgrow5 hnil5;obtain⟨g5,cap5,rfl⟩:=ownsRow_succ hown';have HR5:=C9 (Ca (hgrow5.block p (by have:=Cd HR.out;simp;omega) λe=>by have:=DK HO.out e.symm;omega)<|Ca (CB _ _ _<|Cd HR.out) HR.out);have k0:=Cc HR5.out 0;have f0:=Dy w5 p 0 _ _ HR5.out))
 have H6:=C9<|qq hb hlt hle HO.out rfl hown' hgrow5 HR5.out;generalize w5.setCell ⟨p,0,none⟩ (.slice (some ⟨g5,0,none⟩) (bs.length+1) cap5)=V at *;have k0:=Cc H6.out.ad 0;have k1:=Cc H6.out.ad 1;have f1:=Dy V p 1 _ _ H6.out.ad;have hlen:(bs++[b]).length=bs.length+1:=by simp
 rw[hlen]at k0 k1;have hcap:=H6.out.h;rw[hlen]at hcap;have hcap2:=hcap.2;unfold maxLen at hcap2;have hlen2:(bs.drop wh).length+1=bs.length+1-wh:=by grind
 have FD:Hid (∀X,Below V.heap.size V X->(Dh (bs.drop wh) b=1->JG X g5 wh (bs.length+1-wh) (cap5-wh) false)/\(Dh (bs.drop wh) b=0->JG X g5 wh (bs.length+1-wh) (cap5-wh) true/\Lk X g5 wh (bs.length+1-wh) (cap5-wh) true)/\(Dh (bs.drop wh) b=2->JG X g5 wh (bs.length+1-wh) (cap5-wh) true/\Lk X g5 wh (bs.length+1-wh) (cap5-wh) false)):=by
  show∀X,_;intro X hX;have hdr:(bs++[b]).drop wh=bs.drop wh++[b]:=SN hle;have:=qo g5 wh (cap5-wh) hp (λi hi=>by
   have hi2:wh+i<(bs++[b]).length:=by grind
   have hc:=H6.out.cells (wh+i) hi2;have e:(bs.drop wh++[b])[i]'hi=(bs++[b])[wh+i]'hi2:=by grind
   rw[e];exact Ca (hX.cell<|Fk hc) hc)<|(HT.out.aq H6.out.aq h7 hlt).ac hX
  grind
 have hk2:Dh (bs.drop wh) b=0\/Dh (bs.drop wh) b=1\/Dh (bs.drop wh) b=2:=by unfold Dh;grind
 have HBV:=C9<|CE hb H6.out.aq.size
 go_quiet (fail)
 have HQ:=C9<|IJ (W:=V) (n:=nq);rcases hk2 with h0|h1|h2
 .have HE1:Hid<|rb=false:=by grind
  have HE2:Hid<|wf=wh:=by grind
  have cF:=((FD.out _ HQ.out).2.1 h0).1;have cD:=λX hX=>((FD.out X hX).2.1 h0).2;unfold JG at cF;unfold Lk at cD
  go_wp2_with(first
   |(go_at_call 291;apply cF.mono;rintro e w7 ⟨rfl,hB7⟩;have HB7:=C9<|Cs HQ.out<|CG hB7 HQ.out.size;have cD1:=cD w7 HB7.out)
   |(go_at_call 292;apply cD1.mono;rintro e w8 ⟨ch,sz,rfl,hbad,hB8⟩;have HB8:=C9<|Cs HB7.out<|CG hB8 HB7.out.size;rw[Fj]at hbad;obtain⟨hc1,hc2⟩:=hbad))
  go_ret;rw[HE1.out,HE2.out];exact⟨rfl,H6.out.aq.trans<|Hr.of_below HB8.out HBV.out,H6.out.a.ac HB8.out⟩
 .have HE1:Hid<|rb=true:=by grind
  have HE2:Hid<|wf=wh:=by grind
  have cF:=(FD.out _ HQ.out).1 h1;unfold JG at cF
  go_wp2_with(first
   |(go_at_call 291;apply cF.mono;rintro e w7 ⟨rfl,hB7⟩;have HB7:=C9<|Cs HQ.out<|CG hB7 HQ.out.size))
  go_ret;rw[HE1.out,HE2.out];exact⟨rfl,H6.out.aq.trans<|Hr.of_below HB7.out HBV.out,H6.out.a.ac HB7.out⟩
 have HE1:Hid<|rb=true:=by grind
 have HE2:Hid<|wf=bs.length+1:=by grind
 have cF:=((FD.out _ HQ.out).2.2 h2).1;have cD:=λX hX=>((FD.out X hX).2.2 h2).2;unfold JG at cF;unfold Lk at cD
 go_wp2_with(first
  |(go_at_call 291;apply cF.mono;rintro e w7 ⟨rfl,hB7⟩;have HB7:=C9<|Cs HQ.out<|CG hB7 HQ.out.size;have cD1:=cD w7 HB7.out))
 apply cD1.mono;rintro e w8 ⟨ch,sz,rfl,hbad,hB8⟩;have HB8:=C9<|Cs HB7.out<|CG hB8 HB7.out.size;have HR8:=C9<|Ca (Co HB8.out p<|Cd H6.out.ad) H6.out.ad;have HF:Hid<|Hr p base W (w8.setCell ⟨p,1,none⟩<|.int .i64<|bs.length+1)/\Gk (w8.setCell ⟨p,1,none⟩<|.int .i64<|bs.length+1) p base (bs++[b]) (bs.length+1):=by
  have h9:=cm<|H6.out.a.ac HB8.out;rw[show(bs++[b]).length=bs.length+1 by simp]at h9;have e9:((bs.length+1:Nat))=(bs.length:Int)+1:=by omega
  rw[e9]at h9;exact⟨(H6.out.aq.trans<|Hr.of_below HB8.out HBV.out).trans bY,h9⟩
 have k0:=Cc HR8.out 0;have k1:=Cc HR8.out 1;have f1:=Dy w8 p 1 _ _ HR8.out;rw[show(bs++[b]).length=bs.length+1 by simp]at k0;cases hc1:(ch==65533)
 .clear hbad;go_wp2;go_ret;rw[HE1.out,HE2.out];exact⟨rfl,HF.out.1,HF.out.2⟩
 have hc2:(sz==1)=false:=by grind
 go_wp2;go_ret;rw[HE1.out,HE2.out];exact⟨rfl,HF.out.1,HF.out.2⟩
def Ez(r:AI):A1:=(encodeRuneZ r).map λx=>_root_.UInt8.ofNat x.toNat
theorem qr(x:J)(a:0<=x)(b:x<=255):CP (_root_.UInt8.ofNat x.toNat)=C Am x:=kfb
theorem WN(r:J):runeCells r=(Ez r).map CP:=by
 have a:∀x∈encodeRuneZ r,0<=x/\x<=255:=by grind [encodeRuneZ]
 grind [runeCells,Ez,List.map_congr_left,qr]
theorem Rr(r:J):1<=K (Ez r)/\K (Ez r)<=4:=by grind [Ez,encodeRuneZ]
theorem qs{c:I}{a:A4}{bs cs:A1}{o:Obj}(hb:base<=O (U W))(d:p<base)(z:wh<=K bs)(m:W.ownsRow base 5 1 (G a n c) (K bs)<|bs.map CP)(A:w5.ownsRow base 5 1 (G (Aa g) (K bs+K cs) cap5) (K bs+K cs)<|bs.map CP++cs.map CP)(q:(Az W o).grownBy w5<|Ax<|Go.Value.slice a n c)(i:A7 w5 p #[G a n c,C Y wh] 394):WM W p base g cap5 (bs++cs) wh<|AB w5 ⟨p,0,Ao⟩<|G (Aa g) (K bs+K cs) cap5:=by
 have b:=GX ((Cu base W).alloc hb _) (m.alloc _) q B7;have s:K (bs++cs)=K bs+K cs:=Dj;have e:Cn w5 base (G (Aa g) (K bs+K cs) cap5)<|bs++cs:=⟨B9,keZ,_,_,_,Z⟩
 obtain⟨⟨w,c2,l,x⟩,y⟩:=OV e;have f:=WL (j:=0) (u:=G (Aa g) (K bs+K cs) cap5) e d;have h:=(WK (v:=G (Aa g) (K bs+K cs) cap5) i).1;refine⟨⟨b.os,b.tape,b.output,by simpa[World.setCell]using b.size,λk r t=>Ca (CY _ _ _ _ kf5)<|Co b k r⟩,⟨⟨_,h,f⟩,d,E⟩,by rw[s];exact h,(OV f).2,⟨c2,l⟩⟩
theorem qt{bs:A1}(r:J)(L : -2147483648<=r)(N:r<=2147483647)(h:Gk W p base bs wh)(hl:K bs<=999999999):Ar As 282 #[A8 p,C .i32 r] W λe q=>e=Ak (Af #[])/\Hr p base W q/\Gk q p base (bs++Ez r) (K<|bs++Ez r):=by
 obtain⟨aa,i,f,u,a,n,c,rfl⟩:=h.ad;have A:=h.lt;have z:=h.a;have F:n=K bs:=by rcases f.2 with⟨h2,h3⟩|⟨g,S,y,e,_⟩<;>grind
 subst F;have s:Ar As 186 #[G a (K bs) c,C .i32 r] W λe k=>∃g b,e=Ak (G (Aa g) (K bs+K (Ez r)) b)/\D (WM W p base g b (bs++Ez r) wh<|AB k ⟨p,0,Ao⟩<|G (Aa g) (K bs+K (Ez r)) b)/\D (A7 k p #[G a (K bs) c,C Y wh] 394):=by
  apply (Any.utf8_AppendRune_plain Tryz.lays242 B6 base _ _ _ r L N W f E u).mono;rintro e k ⟨v',rfl,j,v,w⟩;rw[WN,LO]at j;have hk:=(Rr r).1;rcases j.2 with⟨_,h0⟩|⟨g,b,y,rfl,_⟩
  .omega
  have t:=Ca (w.block p (B0<|Cd i) λe=>AY<|DK f e.symm)<|Ca (CB _ _ _<|Cd i) i;exact⟨g,b,Z,qs u A z f j w t,t⟩
 have P:=Cc i 0;obtain⟨m,B⟩:=DF<|K<|Ez r;have x:D<|K (bs++Ez r)=K bs+m/\m<=4:=⟨B9,by grind [Rr]⟩
 rw[B]at s;go_enter func282,ntmps282
 go_wp2_with(first
  |(go_at_call 186;apply s.mono;rintro e R ⟨g5,b,rfl,d,l⟩;have P:=Cc l 0;have V:=Dy R p 0 _ _ l;have Q:=Cc d.ad 0;have f6:=Dy _ p 1 _ _ d.ad;have o:=Cc d.ad 1;rw[x.1]at Q)
  )
 go_end0;refine⟨Z,d.aq.trans bY,?_⟩;have h9:=cm d.a;grind
theorem Ck.same{s0 s:Cw}(a:Ck W b s0)(r:s.f=s0.f)(o:s.e=s0.e)(h:Ck V b s)(d:∀k,k<O (U W)->V'.heap[k]?=V.heap[k]?):Ck V' b s:=by have n:=Cd a.ad;refine⟨(d b n).trans h.ad,λi c=>?_,h.len,h.a⟩;obtain⟨g,off,e,f,j⟩:=h.c i c;obtain⟨m,t,f1,q,l⟩:=a.c i (by rw[<-o];exact c);have p:g=m:=B9;refine⟨g,off,e,f,?_⟩;rw[Je (w:=V)<|d g<|by rw[p];exact Fk l];exact j
theorem WO{t t':A3}(h:results fn t=results fn t'):∀(a:AJ Deferred) (u:FrameMode) (w:X),Leaves P fn t R a u w->Leaves P fn t' R a u w
 |[],.returning,_,k9=>by grind [Leaves]
 |[],.panicking _,_,k9=>k9
 |[],.run,_,k9=>k9
 |_::a,_,_,k9=>by
  obtain⟨j,i,g,f,d,k,l,m⟩:=k9;refine⟨j,i,g,f,d,k,l,m.mono λe n o b=>?_⟩
  cases e with
  |returned v=>exact WO h a _ _ b
  |panicked c=>exact WO h a _ _ b
  |outgrown=>exact b
theorem NH(b:fn.results=#[.tmp 2]){d:Tmp}(f:d≠2){c:AJ PanicEntry}(h:bodyPostD P fn R (.panic c) (a.put (H d) v) w):bodyPostD P fn R (.panic c) a w:=by
 refine WO ?_ _ _ _ h;unfold results;rw[b];have e:(a.put (H d) v).tmps[2]?.getD AO=a.tmps[2]?.getD AO:=by show(Ay a.tmps d v)[2]?.getD AO=_;grind
 simp[e]
def Rs(a:fn.results=#[.tmp 2]){t:A3}:(results fn t).run P w=.ok (t.getD 2 AO) w:=by unfold results;rw[a];simp
structure KE(W0:Ap)(b N M:AH)(fv:Aq)(so w g:AH)(s:Cw)(W:Ap):Prop where
 e:Ck W b s
 ai:Ci b W0 W
 h:W.heap[N]?=An (Aj #[A8 b,fv] 218)
 c:W.heap[M]?=An (Aj #[Ab Al so,Ab Al w,Ab .u64 g] 275)
 ne:b<N
 nm:b<M
def KE.aq{M:I}{so w:I}{s s':Cw}(h:KE W0 b N M fv so w g s W)(a:Ck W' b s')(hb:Ci b W W'):KE W0 b N M fv so w g s' W' :=
 ⟨a,h.ai.trans hb,(hb.block _ (Cd h.h)<|AY h.ne).trans h.h,(hb.block _ (Cd h.c)<|AY h.nm).trans h.c,h.ne,h.nm⟩
def Qb{so w:I}{s:Cw}{M:I}(c:Ck W b s)(e:Ck V b s.next)(a:Ci b W V)(h:A7 V (O<|U W) #[A8 b,fv] 218)(l:O (U W)<M)(j:A7 V M #[C Y 0,C Y 0,C .u64 0] 275):KE W b (O<|U W) M fv so w g s.next<|AD V M #[C Y so,C Y w,C .u64 g]:=by have f:=Cd c.ad;refine⟨c.same Z Z e λk d=>Do _ _ _ _ E,⟨a.os,a.tape,a.output,by simpa using a.size,λk d i=>sx E<|a.block k d i⟩,sx E h,CR _ _ _ _ _ _ j,f,E⟩
theorem qu{l:A1}(a:Hq l=AP)(h:Dh l c=1):Hq (l++[c])=AP:=by
 match l,a with
 |[],_ =>
  unfold Dh at h;simp only[]at h;split at h
  .cases h
  split at h
  .cases h
  exact Fm E
 |[b0],a =>
  have d:=Dr a;unfold Dh at h;simp only[]at h;split at h
  .cases h
  split at h
  .cases h
  exact Fm E
 |[b0,b1],a =>
  have d:=Dr a;have e:=WH (b:=b0) E;unfold Dh at h;simp only[]at h;split at h
  .cases h
  split at h
  .cases h
  exact Fm E
 |[b0,b1,b2],a =>
  grind [Dh]
def DA(bs:A1)(lim:AI):AH->AH->A1->AH->A5 A1
 |0,p,_,_=>.error (9,p)
 |g+1,p,acc,wh=>match bs[p]? with
  |none=>.error (9,p)
  |some c=>if(p:AI)=lim then .error (8,p)else
   if c.toNat=34/\wh=At acc then .ok (acc,p+1)else
   if c.toNat=92/\wh=At acc then(match Ia bs lim (p+1)with
    |.error e=>.error e
    |.ok (r,q)=>DA bs lim g q (acc++Ez r)<|At<|acc++Ez r)else
   if c.toNat<32 then .error (9,p)else if Dh (acc.drop wh) c=0 then .error (9,p)else
   DA bs lim g (p+1) (acc++[c]) (if Dh (acc.drop wh) c=2 then At acc+1 else wh)
theorem qv{bs:A1}(h:IL bs lim p=.ok (r,q)):(0<=r/\r<=1114111)/\p+4<=q:=by
 unfold IL at h;split at h
 .cases h
 next x q1 hx =>
 obtain⟨c,d⟩:=Tp hx;split at h
 .cases h
 split at h
 .next hhi =>
  have a:=Dr<|show AR (55296<=x/\x<=56319)=AP from hhi;split at h
  .cases h
  next q2 hr =>
  split at h
  .cases h
  next y q3 hy =>
  obtain⟨e,f⟩:=Tp hy;split at h
  .next hlo =>
   have b:=Dr<|show AR (56320<=y/\y<=57343)=AP from hlo;grind [Dt]
  cases h
 grind
def WP{bs:A1}(h:Ia bs lim p=.ok (r,q)):(0<=r/\r<=1114111)/\p+1<=q:=by
 unfold Ia at h;split at h
 .cases h
 split at h
 .cases h
 repeat' split at h
 all_goals first
  |(cases h;omega)
  |(have:=qv h;omega)
  |cases h
theorem Tq{acc:A1}{wf:I}(d:wh<=K acc)(e:Hq (acc.drop wh)=AP)(f:¬Dh (acc.drop wh) c=0)(a:(if Dh (acc.drop wh) c=2 then K acc+1 else wh)=wf):Hq ((acc++[c]).drop wf)=AP:=by
 by_cases b:Dh (acc.drop wh) c=2
 .rw[Cp b]at a;subst a;rw[Oy Ba];rfl
 rw[Cl b]at a;subst a;rw[SN d];refine qu e ?_;have g:Dh (acc.drop wh) c=0\/Dh (acc.drop wh) c=1\/Dh (acc.drop wh) c=2:=by unfold Dh;grind
 omega
def MG(h:Q .ret a w):Exit.noGoto Q .ret a w:=h
structure Ib(W:Ap)(b:AH)(s:Cw)(p:AH)(acc:A1)(wh:AH)(V:Ap):Prop where
 e:Ck V b {s with a:=p}
 ai:Ci b W V
 h:V.heap[Au (Av W)]?=An (Aj #[A8 b] 215)
 a:Gk V (Au (Av W)+1) (Au (Av W)+2) acc wh
def Ib.take{s:Cw}{acc:A1}(h:Ib W b s p acc wh V)(hb:b<O (U W))(c:Ck V' b {s with a:=q})(a:Ci b V V'):Ib W b s q acc wh V' :=
 ⟨c,h.ai.trans a,Ca (a.block _ (Cd h.h) E) h.h,h.a.ai a E E⟩
def Ib.ac{s:Cw}{acc:A1}(h:Ib W b s p acc wh V)(a:A0 V V'):Ib W b s p acc wh V' :=
 ⟨h.e.ac a,h.ai.trans<|Ci.of_below a,Ca (Co a _<|Cd h.h) h.h,h.a.ac a⟩
def Ib.aq{s:Cw}{acc acc':A1}(h:Ib W b s p acc wh V)(d:Ck W b s)(a:Hr (O (U W)+1) (O (U W)+2) V V')(e:Gk V' (O (U W)+1) (O (U W)+2) acc' wh'):Ib W b s p acc' wh' V' :=
 ⟨d.same rfl rfl h.e λk c=>a.block k E E,⟨Ca a.os h.ai.os,Ca a.tape h.ai.tape,Ca a.output h.ai.output,CE h.ai.size a.size,λk c f=>Ca (a.block k E E)<|h.ai.block k c f⟩,Ca (a.block _ E E) h.h,e⟩
theorem qw:∀w:X,(convert 50 9<|G Ao 0 0).run As w=.ok (Ae ⟨#[]⟩) w:=λw=>B6
theorem Rt{bs:A1}(h:Cn W base v bs):(convert 50 9 v).run As W=.ok (Ae ⟨Aw bs⟩) W:=by have a:=h;obtain⟨⟨b,c⟩,d,e⟩:=h;grind [qw,run_convert_bytes_back,underlying50,underlying5,underlying9,Addr.add,OV]
theorem qx{s:Cw}(h:Ck W b s):Ib W b s s.a [] 0<|Az (Az W<|M #[A8 b] 215)<|M #[G Ao 0 0,C Y 0] 394:=by
 have a:A0 W<|Az (Az W<|M #[A8 b] 215)<|M #[G Ao 0 0,C Y 0] 394:=(Cm).alloc Ba _;have c:=Cj (Az W<|M #[A8 b] 215) (o:=(M #[G Ao 0 0,C Y 0] 394));rw[CL]at c;refine⟨h.ac a,Ci.of_below a,?_,⟨⟨_,c,?_⟩,E,Cr _⟩⟩
 .grind [Cj,Below.heap_alloc]
 refine⟨Fi _ _ _ _,?_,Ao,0,0,Z⟩;simp
theorem cr{s:Cw}(h:Ck W b s)(ht:U8 W)(h7:7<b)(a6:K s.e<=200000000):Ar As 275 #[Ag #[A8 b]] W<|Hp W b s (λl:A1=>Ae ⟨Aw l⟩)<|DA s.e s.d (K s.e+1-s.a) s.a [] 0:=by
 have ap:=T<|qx h;have ab:=T h;have HT:=T ht;have F:=Cd h.ad;have az:=h.a;obtain⟨ad,S⟩:=CC<|DA s.e s.d (K s.e+1-s.a) s.a [] 0;rw[AE S];go_enter func275,ntmps275;go_wp2;go_step3;go_wp2;go_step3;go_wp2;generalize Az (Az W<|M #[A8 b] 215) (M #[G Ao 0 0,C Y 0] 394)=W0 at *
 go_loopg[4,8] (K s.e+1-s.a) (λg _ _ wr=>∃(p:I) (f:A1) (j:I),D (K s.e+1<=p+g)/\D (p<=K s.e)/\D (K f<=4*p)/\D (Hq (f.drop j)=AP)/\D (Ib W b s p f j wr)/\D (DA s.e s.d g p f j=ad))
 exact⟨s.a,[],0,Bp,az,by show 0<=_;omega,rfl,ap,S⟩;obtain⟨p,f,j,hg,hp,ha,an,m,S⟩:=hrel;obtain⟨g,rfl⟩:∃g,gk=g+1:=⟨gk-1,by grind [D]⟩
 have t:=Cc m.h 0;have HU:D (∀V,Ci b W V->U8 V):=by show∀V,_;intro V B;have hc:∀(q off:I) (aj:Aq),q<=7->A6 W q off aj->A6 V q off aj:=λq off aj hq hv=>Ca (Je (w:=W)<|B.block q E E) hv;exact⟨λc av=>hc _ _ _ B8<|HT.1 c av,λao hi=>⟨hc _ _ _ B8 (HT.2 ao hi).1,hc _ _ _ B8 (HT.2 ao hi).2⟩⟩
 rcases JD m.e with u|u|⟨c,u⟩
 .have HE:D<|ad=.error (9,(p:J)):=by show _=_;rw[<-AE S,DA,I7 (by have:p=K s.e:=u;omega)]
  have z:=KB m.e u
  go_wp2_with(first
   |(go_at_call 270;refine Ce z ?_;rintro e L ⟨hF,d⟩;obtain rfl:=hF))
  rw[AE HE];exact⟨Z,m.ai.trans<|Ci.of_below d,Z⟩
 .have HE:D<|ad=.error (8,(p:J)):=by show _=_;have h2:=u.2;have h3:=u.1;grind [D,DA]
  have z:=KC m.e u
  go_wp2_with(first
   |(go_at_call 270;refine Ce z ?_;rintro e L ⟨hF,d⟩;obtain rfl:=hF))
  rw[AE HE];exact⟨Z,m.ai.trans<|Ci.of_below d,Z⟩
 have aw:=u.1;have ax:=u.2;have a2:=T u.lt;have k:=AE S;rw[DA,aw]at k;simp only[]at k;rw[Cl ax]at k;have z:Ar As 270 #[A8 b] wr λe W'=>e=Ak (C Am c.toNat)/\Ck W' b {s with a:=p+1}/\Ci b wr W':=J4 m.e u;have A:=λV (B:Ib W b s (p+1) f j V)=>bZ B.a;have hC:(j=K f/\c.toNat=34)\/(j=K f/\c.toNat=92)\/(j=K f/\c.toNat≠34/\c.toNat≠92)\/(j≠K f/\c.toNat=34)\/(j≠K f/\c.toNat=92)\/(j≠K f/\c.toNat≠34/\c.toNat≠92):=E;rcases hC with⟨y,P⟩|⟨y,Q⟩|⟨y,P,Q⟩|⟨y,P⟩|⟨y,Q⟩|⟨y,P,Q⟩
 .rw[Fm y]at A;rw[Cp ⟨P,y⟩]at k;subst k;have af:((c.toNat:J)==34)=AP:=B7
  go_wp2_with(first
   |(go_at_call 270;refine Ce z ?_;rintro e L ⟨rfl,o,d⟩;have a:=T<|m.take F o d)
   |(go_at_call 281;refine Ce (A _ a) ?_;rintro e N ⟨rfl,d⟩;have n:=T<|a.ac d;obtain⟨v3,r3,o3⟩:=n.a.ad;obtain⟨_,_,a3,n3,c3,rfl⟩:=(show Cn N _ _ _ from o3);have a5:=Rt o3;have k3:=Cc r3 0))
  refine MG ?_;go_ret;exact⟨n.ai,Z,n.e⟩
 .rw[Fm y]at A;rw[Cl λhh=>E,Cp ⟨Q,y⟩]at k;have af:=Df (c:=c) 34 E;have am:((c.toNat:J)==92)=AP:=B7;have cE:=λV (B:Ib W b s (p+1) f j V)=>qh B.e;rcases he:Ia s.e s.d (p+1)with⟨en,pl⟩|⟨r,q⟩
  .rw[he]at k;have ae:∀V,Ib W b s (p+1) f j V->Ar As 283 #[Ag #[A8 b]] V (Hp V b {s with a:=p+1} (λx:J=>C .i32 x)<|.error (en,pl)):=by rw[<-he];exact cE
   subst k
   go_wp2_with(first
    |(go_at_call 270;refine Ce z ?_;rintro e L ⟨rfl,o,d⟩;have a:=T<|m.take F o d;have t:=Cc a.h 0)
    |(go_at_call 281;refine Ce (A _ a) ?_;rintro e N ⟨rfl,d⟩;have n:=T<|a.ac d;have a:=n;have t:=Cc a.h 0)
    |(go_at_call 283;refine Ce (ae _ a) ?_;rintro e w5 ⟨d,hF⟩;obtain rfl:=hF))
   exact⟨Z,a.ai.trans d,Z⟩
  rw[he]at k;simp only[]at k;have ae:∀V,Ib W b s (p+1) f j V->Ar As 283 #[Ag #[A8 b]] V (Hp V b {s with a:=p+1} (λx:J=>C .i32 x)<|.ok (r,q)):=by rw[<-he];exact cE
  have ay:=WP he;have a0:=T ay.2;have HN:=T k;have cC:=λV (B:Ib W b s q f j V)=>qt r E E B.a (by grind [D]);have a4:=T<|(Rr r).2
  go_wp2_with(first
   |(go_at_call 270;refine Ce z ?_;rintro e L ⟨rfl,o,d⟩;have a:=T<|m.take F o d;have t:=Cc a.h 0)
   |(go_at_call 281;refine Ce (A _ a) ?_;rintro e N ⟨rfl,d⟩;have n:=T<|a.ac d;have a:=n;have t:=Cc a.h 0)
   |(go_at_call 283;refine Ce (ae _ a) ?_;rintro e w5 ⟨d,rfl,o⟩;have ak:=T<|a.take F o d)
   |(go_at_call 282;refine Ce (cC _ ak) ?_;rintro e w6 ⟨rfl,au,ar⟩;have al:=T<|ak.aq ab au ar))
  go_roundg g;exact⟨q,f++Ez r,K<|f++Ez r,by grind [D],al.e.a,by grind [D],B9,al,HN⟩;omega
 all_goals
  first|rw[Fm y]at A|rw[FO y]at A
  first|have af:((c.toNat:J)==34)=AP:=B7|have af:=Df (c:=c) 34 E
  first|have am:((c.toNat:J)==92)=AP:=B7|have am:=Df (c:=c) 92 E
  rw[Cl λhh=>E,Cl λhh=>E]at k;by_cases aa:c.toNat<32
  .rw[Cp aa]at k;subst k;have aq:AR ((c.toNat:J)<32)=AP:=B7
   first
   |exact absurd aa E
   |clear aa
    try clear P
    try clear Q
    go_wp2_with(first
     |(go_at_call 270;refine Ce z ?_;rintro e L ⟨rfl,o,d⟩;have a:=T<|m.take F o d;have t:=Cc a.h 0)
     |(go_at_call 281;refine(A _ a).mono ?_;rintro e N ⟨rfl,d⟩;have n:D<|Ib W b s (p+1) f j N:=a.ac d;have a:=n;have t:=Cc a.h 0)
     |(go_at_call 271;refine Ce (G5 _ a.e) ?_;rintro e w7 ⟨hF,rfl⟩;obtain rfl:=hF))
    exact⟨Z,a.ai,kez⟩
  rw[Cl aa]at k;have aq:AR ((c.toNat:J)<32)=AQ:=B7
  try clear P
  try clear Q
  obtain⟨wf,ac⟩:=CC<|(if Dh (f.drop j) c=2 then K f+1 else j);have v:=λV (B:Ib W b s (p+1) f j V)=>co c B.a an.out (HU V B.ai) E (by grind [D]);rw[AE ac]at v;by_cases R:Dh (f.drop j) c=0
  .rw[Cp R]at k;subst k;have ai:(Dh (f.drop j) c != 0)=AQ:=by rw[R];rfl
   rw[ai]at v
   go_wp2_with(first
    |(go_at_call 270;refine Ce z ?_;rintro e L ⟨rfl,o,d⟩;have a:=T<|m.take F o d;have t:=Cc a.h 0)
    |(go_at_call 281;refine Ce (A _ a) ?_;rintro e N ⟨rfl,d⟩;have n:=T<|a.ac d;have a:=n;have t:=Cc a.h 0)
    |(go_at_call 284;refine Ce (v _ a) ?_;rintro e w4 ⟨rfl,ah,ag⟩;have i:=T<|a.aq ab ah ag;have t:=Cc i.h 0)
    |(go_at_call 271;refine Ce (G5 _ i.e) ?_;rintro e w7 ⟨hF,rfl⟩;obtain rfl:=hF))
   exact⟨Z,i.ai,kez⟩
  rw[Cl R,AE ac]at k;have HN:=T k;have ai:(Dh (f.drop j) c != 0)=AP:=kf7;rw[ai]at v;have a1:=T<|Tq m.a.a an.out R ac
  go_wp2_with(first
   |(go_at_call 270;refine Ce z ?_;rintro e L ⟨rfl,o,d⟩;have a:=T<|m.take F o d;have t:=Cc a.h 0)
   |(go_at_call 281;refine Ce (A _ a) ?_;rintro e N ⟨rfl,d⟩;have n:=T<|a.ac d;have a:=n;have t:=Cc a.h 0)
   |(go_at_call 284;refine Ce (v _ a) ?_;rintro e w4 ⟨rfl,ah,ag⟩;have i:=T<|a.aq ab ah ag;have t:=Cc i.h 0))
  go_roundg g
  case measure=>omega
  grind [D]
def Ds(bs:A1)(lim:AI):AH->AH->A1->AH->A5 A1
 |0,p,acc,wh=>if wh=At acc then .ok (acc,p)else .error (9,(p:AI)-1)
 |k+1,p,acc,wh=>match bs[p]? with
  |none=>.error (9,p)
  |some c=>if(p:AI)=lim then .error (8,p)else if Dh (acc.drop wh) c=0 then .error (9,p)else
   Ds bs lim k (p+1) (acc++[c]) (if Dh (acc.drop wh) c=2 then At acc+1 else wh)
structure Kf(W:Ap)(b:AH)(fv:Aq)(s:Cw)(p:AH)(acc:A1)(wh:AH)(V:Ap):Prop where
 e:Ck V b {s with a:=p}
 ai:Ci b W V
 h:V.heap[Au (Av W)]?=An (Aj #[A8 b,fv] 218)
 a:Gk V (Au (Av W)+1) (Au (Av W)+2) acc wh
def Kf.take{s:Cw}{acc:A1}(h:Kf W b fv s p acc wh V)(hb:b<O (U W))(c:Ck V' b {s with a:=q})(a:Ci b V V'):Kf W b fv s q acc wh V' :=
 ⟨c,h.ai.trans a,Ca (a.block _ (Cd h.h) E) h.h,h.a.ai a E E⟩
def Kf.ac{s:Cw}{acc:A1}(h:Kf W b fv s p acc wh V)(a:A0 V V'):Kf W b fv s p acc wh V' :=
 ⟨h.e.ac a,h.ai.trans<|Ci.of_below a,Ca (Co a _<|Cd h.h) h.h,h.a.ac a⟩
def Kf.aq{s:Cw}{acc acc':A1}(h:Kf W b fv s p acc wh V)(d:Ck W b s)(a:Hr (O (U W)+1) (O (U W)+2) V V')(e:Gk V' (O (U W)+1) (O (U W)+2) acc' wh'):Kf W b fv s p acc' wh' V' :=
 ⟨d.same rfl rfl h.e λk c=>a.block k E E,⟨Ca a.os h.ai.os,Ca a.tape h.ai.tape,Ca a.output h.ai.output,CE h.ai.size a.size,λk c f=>Ca (a.block k E E)<|h.ai.block k c f⟩,Ca (a.block _ E E) h.h,e⟩
theorem qR{s:Cw}(h:Ck W b s):Kf W b fv s s.a [] 0<|Az (Az W<|M #[A8 b,fv] 218)<|M #[G Ao 0 0,C Y 0] 394:=by
 have a:A0 W<|Az (Az W<|M #[A8 b,fv] 218)<|M #[G Ao 0 0,C Y 0] 394:=(Cm).alloc Ba _;have c:=Cj (Az W<|M #[A8 b,fv] 218) (o:=(M #[G Ao 0 0,C Y 0] 394));rw[CL]at c;refine⟨h.ac a,Ci.of_below a,?_,⟨⟨_,c,?_⟩,E,Cr _⟩⟩
 .grind [Cj,Below.heap_alloc]
 refine⟨Fi _ _ _ _,?_,Ao,0,0,Z⟩;simp
theorem dh{s:Cw}(f:I)(hn:n<18446744073709551616)(h:Ck W b s)(ht:U8 W)(h7:7<b)(aq:K s.e<=200000000):Ar As 305 #[Ag #[A8 b,.func (.func f) #[] #[]],C .u64 n] W<|Q6 W b s (λl:A1=>Ae ⟨Aw l⟩)<|Ds s.e s.d n s.a [] 0:=by
 have ad:D<|Kf W b (.func (.func f) #[] #[]) s s.a [] 0<|Az (Az W<|M #[A8 b,.func (.func f) #[] #[]] 218)<|M #[G Ao 0 0,C Y 0] 394:=qR h;have ac:=T h;have S:=T ht;have ae:=Cd h.ad;have am:=h.a;obtain⟨R,u⟩:=CC<|Ds s.e s.d n s.a [] 0;rw[AE u];go_enter func305,ntmps305;go_wp2;generalize Az (Az W<|M #[A8 b,.func (.func f) #[] #[]] 218) (M #[G Ao 0 0,C Y 0] 394)=W0 at *
 go_loopg[7] n (λg an wr=>∃(k p:I) (d:A1) (r:I),an=C .u64 k/\D (k+g=n)/\D (p<=K s.e)/\D (K d<=p)/\D (Hq (d.drop r)=AP)/\D (Kf W b (.func (.func f) #[] #[]) s p d r wr)/\D (Ds s.e s.d g p d r=R))
 exact⟨0,s.a,[],0,Z,Bg,am,by show 0<=_;omega,rfl,ad,u⟩;clear ad u;obtain⟨k,p,d,r,rfl,hg,hp,ha,af,a,u⟩:=hrel;have kb:=Cc a.h 0;have HU:D (∀V,Ci b W V->U8 V):=by show∀V,_;intro V N;have hc:∀(q off:I) (ab:Aq),q<=7->A6 W q off ab->A6 V q off ab:=λq off ab hq hv=>Ca (Je (w:=W)<|N.block q E E) hv;exact⟨λc aj=>hc _ _ _ B8<|S.1 c aj,λag hi=>⟨hc _ _ _ B8 (S.2 ag hi).1,hc _ _ _ B8 (S.2 ag hi).2⟩⟩
 obtain _|g:=gk
 .have hk:k=n:=AY<|AE hg;subst hk;have m:=AE u;rw[Ds]at m;have L:=bZ a.a;by_cases P:r=K d
  .rw[Cp P]at m;subst m;rw[Fm P]at L
   go_wp2_with(first
    |(go_at_call 281;refine Ce L ?_;rintro e w3 ⟨rfl,j⟩;have t:=T<|a.ac j;obtain⟨v3,r3,o3⟩:=t.a.ad;obtain⟨_,_,a3,n3,c3,rfl⟩:=(show Cn w3 _ _ _ from o3);have ao:=Rt o3;have k3:=Cc r3 0))
   go_ret;exact⟨t.ai,Z,t.e⟩
  rw[Cl P]at m;subst m;rw[FO P]at L
  go_wp2_with(first
   |(go_at_call 281;refine Ce L ?_;rintro e w3 ⟨rfl,j⟩;have t:=T<|a.ac j;have kb:=Cc t.h 0)
   |(go_at_call 271;refine Ce (G5 _ t.e) ?_;rintro e w7 ⟨hF,rfl⟩;obtain rfl:=hF))
  exact⟨Z,t.ai,Z,_,t.e⟩
 have ap:k<n:=AY<|AE hg;rcases JD a.e with o|o|⟨c,o⟩
 .have Q:D<|R=.error (9,(p:J)):=by show _=_;rw[<-AE u,Ds,I7 (by have:p=K s.e:=o;omega)]
  have y:=KB a.e o
  go_wp2_with(first
   |(go_at_call 270;refine Ce y ?_;rintro e w2 ⟨hF,j⟩;obtain rfl:=hF))
  rw[AE Q];exact⟨Z,a.ai.trans<|Ci.of_below j,Z,_,a.e.ac j⟩
 .have Q:D<|R=.error (8,(p:J)):=by show _=_;have h2:=o.2;have h3:=o.1;grind [D,Ds]
  have y:=KC a.e o
  go_wp2_with(first
   |(go_at_call 270;refine Ce y ?_;rintro e w2 ⟨hF,j⟩;obtain rfl:=hF))
  rw[AE Q];exact⟨Z,a.ai.trans<|Ci.of_below j,Z,_,a.e.ac j⟩
 have ak:=o.1;have al:=o.2;have ai:=T o.lt;have m:=AE u;rw[Ds,ak]at m;simp only[]at m;rw[Cl al]at m;have y:Ar As 270 #[A8 b] wr λe W'=>e=Ak (C Am c.toNat)/\Ck W' b {s with a:=p+1}/\Ci b wr W':=J4 a.e o;obtain⟨wf,z⟩:=CC<|(if Dh (d.drop r) c=2 then K d+1 else r);have B:=λV (N:Kf W b (.func (.func f) #[] #[]) s (p+1) d r V)=>co c N.a af.out (HU V N.ai) E (by grind [D]);rw[AE z]at B;by_cases F:Dh (d.drop r) c=0
 .rw[Cp F]at m;subst m;have aa:(Dh (d.drop r) c != 0)=AQ:=by rw[F];rfl
  rw[aa]at B
  go_wp2_with(first
   |(go_at_call 270;refine Ce y ?_;rintro e w2 ⟨rfl,hS,j⟩;have A:=T<|a.take ae hS j)
   |(go_at_call 284;refine Ce (B _ A) ?_;rintro e w4 ⟨rfl,v,i⟩;have x:=T<|A.aq ac v i;have kb:=Cc x.h 0)
   |(go_at_call 271;refine Ce (G5 _ x.e) ?_;rintro e w7 ⟨hF,rfl⟩;obtain rfl:=hF))
  exact⟨Z,x.ai,kez,_,x.e⟩
 rw[Cl F,AE z]at m;have HN:=T m;have aa:(Dh (d.drop r) c != 0)=AP:=by simpa using F
 rw[aa]at B;have ah:=T<|Tq a.a.a af.out F z
 go_wp2_with(first
  |(go_at_call 270;refine Ce y ?_;rintro e w2 ⟨rfl,hS,j⟩;have A:=T<|a.take ae hS j)
  |(go_at_call 284;refine Ce (B _ A) ?_;rintro e w4 ⟨rfl,v,i⟩;have x:=T<|A.aq ac v i))
 go_roundg g;exact⟨k+1,p+1,d++[c],wf,Bb,B9,ai,by grind [D],ah,x,HN⟩;omega
def F5(W:Ap)(m:AH)(ks:AJ A1):Prop:=∃D,W.ownsMap As 9 (unitElem (H:=Unit)) m (At ks) D/\∀l:A1,Maps.has D (.string l)=AR (l∈ks)
def F5.kept{m:I}{ks:AJ A1}{row:Option I}(h:F5 W m ks)(d:W.grownBy W' row)(e:H m≠row):F5 W' m ks:=C5
theorem NN{l:A1}(hb:K l<=1000000000):keyOf As 9 (Ae ⟨Aw l⟩)=H (.string l):=by
 have a:(⟨Aw l⟩:AT).size<=maxLen:=by show(Aw l).size<=maxLen;grind [maxLen]
 simp[keyOf,mapKey,underlying9,a]
def di{m:I}{ks:AJ A1}{l:A1}(h:F5 W m ks)(hl:l∈ks)(hb:K l<=1000000000):Ar As 294 #[.map<|H m,Ae ⟨Aw l⟩] W λe a=>e=Ak (Ah AQ)/\A0 W a:=by obtain⟨i,b,c⟩:=h;have g:(zeroValue 267).run As W=.ok (Ag #[]) W:=B6;obtain⟨v,j,d,f⟩:=b.look_ok (Ra underlying9) underlying399 g Wk<|NN hb;obtain⟨rfl,_⟩:=unitElem_inv f;rw[c l,Fm hl]at d;go_enter func294,ntmps294;go_wp2;go_ret;exact⟨Z,Cm⟩
theorem dj{m:I}{ks:AJ A1}{l:A1}(h:F5 W m ks)(hl:¬l∈ks)(w:K ks<1000000000)(hb:K l<=1000000000):Ar As 294 #[.map<|An m,Ae ⟨Aw l⟩] W λe d=>e=Ak (Ah AP)/\F5 d m (l::ks)/\Ci m W d:=by
 obtain⟨u,b,g⟩:=h;have t:(zeroValue 267).run As W=.ok (Ag #[]) W:=B6;obtain⟨v,y,r,s⟩:=b.look_ok (Ra underlying9) underlying399 t Wk<|NN hb;obtain⟨rfl,_⟩:=unitElem_inv s;rw[g l,FO hl]at r;obtain⟨f,x,o,i⟩:=(b.alloc<|M #[] 267).store (Ra underlying9) underlying399 Bc (NN hb) (val:=Ag #[])<|Wk (H:=Unit);have c:D<|F5 f m (l::ks)/\Ci m W f:=by
  refine⟨⟨_,o,λq=>?_⟩,?_⟩
  .by_cases p:q=l
   .subst p;rw[VU b.isMap<|Ra (P:=As) underlying9 |>.key (NN hb)];simp
   grind [Maps.has_put_other]
  have a:=i.grown;exact⟨a.os,a.tape,a.output,CE Ba a.size,λk j n=>Ca (a.block k B7<|by simpa using n)<|CB _ _ _ j⟩
 go_enter func294,ntmps294;go_wp2;go_ret;exact⟨Z,c.1,c.2⟩
theorem IK.of(h:IK W)(e:∀k,k<O (U W)->k<=1->V.heap[k]?=W.heap[k]?):IK V:=by have c:∀(g off:I) (v:Aq),g<=1->AC W _=H v->A6 V g off v:=λg off v d b=>Ca (Je<|e g (Fk b) d) b;refine⟨λu a=>c _ _ _ B8<|h.cb u a,λu a=>?_⟩;obtain⟨f,i,j⟩:=h.a u a;grind
def IK.lt(h:IK W):1<O (U W):=Fk (h.a 0 B8).1
def IK.ac(h:IK W)(hb:A0 W V):IK V:=h.of λk a _=>Co hb k a
def IK.ai(h:IK W)(hb:Ci b W V)(d:1<b):IK V:=h.of λk a c=>hb.block k a E
def dM(W:X)(b:I):Ar As 267 #[A8 b] W λe a=>e=Ak (Af #[])/\a=W:=by go_enter func267,ntmps267;go_wp2;go_end0;exact⟨Z,Z⟩
def Em(c:AI):AI×AI×AI :=
 if c<128 then(0,0,1)else if 194<=c/\c<=223 then(128,191,2)else if c=224 then(160,191,3)else if c=237 then(128,159,3)
 else if 225<=c/\c<=239 then(128,191,3)else if c=240 then(144,191,4)else if 241<=c/\c<=243 then(128,191,4)else if c=244 then(128,143,4)else(0,0,0)
def eA{c:J}:Ar As 190 #[C Am c] w λe a=>e=Ak (Af #[C Am (Em c).1,C Am (Em c).2.1,C Y (Em c).2.2])/\a=w:=by
 go_enter func190,ntmps190;go_wp2
 all_goals go_ret3
 all_goals refine⟨?_,rfl⟩
 all_goals simp only[Wn,Nw]at *
 all_goals unfold Em
 all_goals(repeat(first|rw[Cp E]|rw[Cl E]))
 all_goals rfl
def F6(s:AT):AI:=if s.toList==[100,114,111,112]then 1 else if s.toList==[109,97,115,107]then 2 else if s.toList==[116,97,103]then 3 else 0
theorem Xp:Ar As 144 #[.string s] w λe a=>e=Ak (C Y<|F6 s)/\a=w:=by
 go_enter func144,ntmps144;go_wp2
 all_goals go_ret
 all_goals refine⟨?_,rfl⟩
 all_goals unfold F6
 all_goals(repeat(first|rw[Cp<|by assumption]|rw[Cl B9]))
 all_goals rfl
theorem Xq(s:AT)(w:X):Ar As 177 #[.string s] w λe a=>e=Ak (Af #[C Y<|F6 s,Ah<|F6 s != 0])/\a=w:=by
 go_enter func177,ntmps177;go_wp2
 all_goals go_ret2
 all_goals refine⟨?_,rfl⟩
 all_goals unfold F6
 all_goals(repeat(first|rw[Cp<|by assumption]|rw[Cl B9]))
 all_goals rfl
def Lu(l:A1):AI:=match l with
 |[b]=>if 48<=b.toNat/\b.toNat<=57 then(b.toNat:AI)-48 else 0
 |_=>0
def IQ(l:A1)(n:AI):AK:=match l with
 |[b]=>AR (48<=b.toNat/\b.toNat<=57)&&AR ((b.toNat:AI)-48<n)
 |_=>AQ
theorem Xr(h:s.size=1):s.data.toList=[s[0]]:=by
 obtain⟨⟨l⟩⟩:=s
 match l,h with
 |[b],_=>rfl
def eB{l:A1}(n:J)(h:K l≠1):Lu l=0/\IQ l n=AQ:=by
 match l,h with
 |[],_=>exact⟨rfl,rfl⟩
 |_::_::_,_=>exact⟨rfl,rfl⟩
theorem Xs(s:AT)(n:J)(w:X):Ar As 176 #[.string s,C Y n] w λe d=>e=Ak (Af #[C Y<|Lu s.data.toList,Ah<|IQ s.data.toList n])/\d=w:=by
 by_cases c:s.size=1
 .have f:(s.size:J)=1:=E;have b:=T<|Xr c;by_cases g:(s[0].toNat:J)<48
  .have a:D<|Lu [s[0]]=0/\IQ [s[0]] n=AQ:=⟨Cl E,by grind [IQ]⟩
   go_enter func176,ntmps176;go_wp2
   all_goals go_ret2
   all_goals exact⟨by rw[AE b,a.1,a.2];rfl,rfl⟩
  have h:(48:J)<=s[0].toNat:=E;by_cases i:(57:J)<s[0].toNat
  .have a:D<|Lu [s[0]]=0/\IQ [s[0]] n=AQ:=⟨Cl E,by grind [IQ]⟩
   go_enter func176,ntmps176;go_wp2
   all_goals go_ret2
   all_goals exact⟨by rw[AE b,a.1,a.2];rfl,rfl⟩
  have j:(s[0].toNat:J)<=57:=E;have a:D<|Lu [s[0]]=s[0].toNat-48/\IQ [s[0]] n=AR (s[0].toNat-48<n):=⟨Cp E,by grind [IQ]⟩
  go_enter func176,ntmps176;go_wp2
  all_goals go_ret2
  all_goals exact⟨by rw[AE b,a.1,a.2];rfl,rfl⟩
 have:(s.size:J)≠1:=E;have a:=T (eB n<|by rw[Fz];exact c);go_enter func176,ntmps176;go_wp2
 all_goals go_ret2
 all_goals exact⟨by rw[a.1,a.2];rfl,rfl⟩
def JN(lo hi:AI)(l:A1)(j:AH):AK :=
 AR (j<At l)&&(if j=1 then AR (lo<=((l.getD j 0).toNat:AI)/\((l.getD j 0).toNat:AI)<=hi)else AR (128<=(l.getD j 0).toNat/\(l.getD j 0).toNat<=191))
def J6(lo hi:AI)(l:A1):AH->AH->AH×AK
 |0,j=>(j,AP)
 |g+1,j=>if JN lo hi l j then J6 lo hi l g (j+1)else(j,AQ)
def Hx(l:A1):AH×AK :=
 if(Em (l.getD 0 0).toNat).2.2=0 then(0,AQ)else J6 (Em (l.getD 0 0).toNat).1 (Em (l.getD 0 0).toNat).2.1 l ((Em (l.getD 0 0).toNat).2.2.toNat-1) 1
theorem sD(c:J):(Em c).2.2=0\/(Em c).2.2=1\/(Em c).2.2=2\/(Em c).2.2=3\/(Em c).2.2=4:=by grind [Em]
def FG(s:AT)(i n:AH):A1:=(s.data.toList.take n).drop i
theorem eC(s:AT)(i n:I)(h:n<=s.size):K (FG s i n)=n-i:=by unfold FG;simp_all
theorem eD(j:I)(h:n<=s.size)(a:i+j<n):(FG s i n).getD j 0=s[i+j]'B5:=by
 unfold FG;rw[ZT,ah,List.getElem?_take,Cp a];have:i+j<K s.data.toList:=by have:K s.data.toList=s.size:=Fz;omega
 rw[D7 this];rfl
theorem Xt(z:n<=s.size)(hi:i<n)(hs:s.size<=4611686018427387904):Ar As 163 #[.string s,C Y i,C Y n] w λe A=>e=Ak (Af #[C Y (Hx<|FG s i n).1,Ah (Hx<|FG s i n).2])/\A=w:=by
 have R:(i:J)<s.size:=E;have S:i<s.size:=E;have q:D<|((FG s i n).getD 0 0)=s[i]:=eD 0 z E;obtain⟨c,b,k,f⟩:∃c b k,D<|Em s[i].toNat=(c,b,k):=⟨_,_,_,show Em _=(_,_,_)from rfl⟩
 have m:=sD s[i].toNat;rw[AE f]at m;simp only[]at m;have F:D<|Hx (FG s i n)=if k=0 then(0,AQ)else J6 c b (FG s i n) (k.toNat-1) 1:=by grind [D,Hx]
 clear q;by_cases u:k=0
 .subst u;have o:D<|Hx (FG s i n)=(0,AQ):=B9;go_enter func163,ntmps163
  go_wp2_with(first
   |(go_at_call 190;apply (eA).mono;rintro e p ⟨rfl,rfl⟩;rw[AE f]))
  go_ret2
  exact⟨by rw[AE o];rfl,rfl⟩
 obtain⟨a,rfl⟩:∃a:I,k=a:=⟨k.toNat,E⟩
 have aa:1<=a/\a<=4:=by simp at m;omega
 have W:((a:J)==0)=AQ:=B9;have o:D<|Hx (FG s i n)=J6 c b (FG s i n) (a-1) 1:=B9;go_enter func163,ntmps163
 go_wp2_with(first
  |(go_at_call 190;apply (eA).mono;rintro e p ⟨rfl,rfl⟩;rw[AE f]))
 go_loopg[11] (a-1) (λg x wr=>∃j:I,D (j+g=a)/\x=C Y j/\p=wr/\D (1<=j)/\D (Hx (FG s i n)=J6 c b (FG s i n) g j))
 grind [D];obtain⟨j,l,rfl,rfl,V,r⟩:=hrel;obtain _|g:=gk
 .have y:¬(j:J)<a:=AY<|AE l;go_wp2
  go_ret2
  exact⟨(by rw[AE r];have:j=a:=(AY<|AE l);subst this;rfl),rfl⟩
 have y:(j:J)<a:=AY<|AE l;by_cases L:(n:J)<=(i:J)+j
 .have d:D<|Hx (FG s i n)=(j,AQ):=by grind [J6,JN,eC]
  go_wp2
  go_ret2
  exact⟨by rw[AE d];rfl,rfl⟩
 have N:(i:J)+j<n:=E;have Q:(i:J)+j<s.size:=E;have P:i+j<s.size:=E;have B:D<|JN c b (FG s i n) j=if j=1 then AR (c<=(s[i+j].toNat:J)/\(s[i+j].toNat:J)<=b)else AR (128<=s[i+j].toNat/\s[i+j].toNat<=191):=by grind [D,JN,eD,eC]
 have t:D<|JN c b (FG s i n) j=AP->Hx (FG s i n)=J6 c b (FG s i n) g (j+1):=λh=>by grind [D,J6]
 have d:D<|JN c b (FG s i n) j=AQ->Hx (FG s i n)=(j,AQ):=λh=>by grind [D,J6]
 go_wp2
 all_goals first
  |(go_ret2;have hF:=d.out (by grind [D]);exact⟨by rw[hF];simp[*],rfl⟩)
  |go_roundg g
   case measure=>omega
   case rel =>
    have v:=t.out (by grind [D]);refine⟨_,B9,?_,Z,Bp,v⟩
    first|go_num|(simp[*];done)
def sG{α β:Type}{p:α×β}:p=(p.1,p.2):=rfl
def Gq(l:A1):AH:=if(Hx l).2 then(Hx l).1 else 0
theorem sJ(hi:i<s.size)(f:s.size<=4611686018427387904):Ar As 201 #[.string s,C Y i] w λe g=>e=Ak (C Y<|Gq<|s.data.toList.drop i)/\g=w:=by
 have c:D<|FG s i s.size=s.data.toList.drop i:=by show _=_;unfold FG;have j:K s.data.toList=s.size:=Fz;grind
 obtain⟨k,b,d⟩:∃k b,D<|Hx (s.data.toList.drop i)=(k,b):=⟨_,_,sG⟩
 cases b
 .have a:D<|Gq (s.data.toList.drop i)=0:=by grind [D,Gq]
  go_enter func201,ntmps201
  go_wp2_with(first
   |(go_at_call 163;apply (Xt (Cr _) hi f).mono;rintro e h ⟨rfl,rfl⟩;rw[AE c,AE d]))
  go_ret;exact⟨by rw[AE a];rfl,rfl⟩
 have a:D<|Gq (s.data.toList.drop i)=k:=by grind [D,Gq]
 go_enter func201,ntmps201
 go_wp2_with(first
  |(go_at_call 163;apply (Xt (Cr _) hi f).mono;rintro e h ⟨rfl,rfl⟩;rw[AE c,AE d]))
 go_ret;exact⟨by rw[AE a];rfl,rfl⟩
def Ui{K:Act->X->Prop}(h:Q .ret a w):Exit.then K Q .ret a w:=h
def Y4(h:Q .ret a w):Exit.inBlock n Q .ret a w:=h
theorem wD(n:s.size=5)(b:∀i (h:i<s.size),(s[i]'h).toNat<128):Ar As 228 #[.string s,C .i32 65533] w λe k=>e=Ak (C Y<|-1)/\A0 w k:=by
 have c:=T b;clear b;go_enter func228,ntmps228;go_wp2
 go_loopg[5,6] 5 (λg _ _ l=>∃i:I,i+g=5/\l=w.iter s i)
 grind;obtain⟨i,m,rfl⟩:=hrel;obtain _|g:=gk
 .obtain rfl:i=5:=E;have j:=λa=>run_next_end (P:=As) w s 5 a E;go_wp2;go_ret;exact⟨Z,Cm⟩
 have f:i<s.size:=E;have d:=c.out i E;have j:=λa=>run_next_ascii (P:=As) w s i a f d;go_wp2;go_roundg g
 case measure=>omega
 grind
theorem wE(s:AT)(r:J)(c:128<=r)(d:¬r=65533)(a:Lib.validRune r=AQ)(w:X):Ar As 228 #[.string s,C .i32 r] w λe b=>e=Ak (C Y<|-1)/\A0 w b:=by
 go_enter func228,ntmps228
 go_wp2_with(first|(go_at_call 243;refine Ce (Tryz.utf8_ValidRune _ _) ?_;rintro e f ⟨rfl,rfl⟩;rw[a]))
 go_ret;exact⟨Z,Cu _ _⟩
theorem wF(z:s.size=5)(n:∀i (h:i<s.size),(s[i]'h).toNat<128)(F:128<=r)(Q:¬r=65533)(A:Lib.validRune r=AP){rs:AT}(R:Utf8.encode r=rs)(N:rs.size=k+1)(B:1<=k)(L:k<=3)(hb:128<=(rs[k]'(by omega)).toNat):Ar As 228 #[.string s,C .i32 r] w λe m=>e=Ak (C Y<|-1)/\A0 w m:=by
 have t:k<s.size:=E;have f:k<rs.size:=E;have S:=n k t;have P:¬((s[k]'t).toNat:J)=((rs[k]'f).toNat:J):=E;have v:D<|Lib.indexByte (s.extract (k+1) s.size).data.toList (rs[k]'f) = -1:=by
  show _=_;rw[<-Lib.firstIdx_eq];refine firstIdx_ascii s (k+1) s.size _ (λb x=>?_) hb;obtain⟨i,q,rfl⟩:=QZ x;have y:i<s.size:=by rw[Fz]at q;exact q
  exact n i y
 have o:(((rs[k]'f).toNat:J)).toNat.toUInt8=rs[k]'f:=Ba;clear n;obtain rfl|rfl|rfl:k=1\/k=2\/k=3:=E
 all_goals
  rw[z]at v;go_enter func228,ntmps228
  go_wp2_with(first|(go_at_call 243;refine Ce (Tryz.utf8_ValidRune _ _) ?_;rintro e p ⟨rfl,rfl⟩;rw[A]))
  go_step3;go_wp2
 .have u:Lib.indexByte (List.take 3<|List.drop 2 s.data.toList) (rs[1]'f)<0:=by grind [D,ByteArray.data_extract,Array.toList_extract]
  go_loopg[9,10,11,12] 1 (λg a b c d l=>a=C Y 1/\l=p)
  exact⟨Z,Z⟩;obtain⟨rfl,rfl⟩:=hrel;go_wp2;go_step3;go_wp2
  go_region
  go_wp2
  go_region_with(first|(go_at_call 242;refine Ce (Tryz.strings_IndexByte _ _ _) ?_;rintro e m ⟨rfl,j⟩;rw[j,o]))
  go_wp2
  all_goals repeat(first|refine Ui ?_|refine Y4 ?_|refine MG ?_)
  all_goals go_ret
  all_goals exact⟨rfl,(Cu _ _).drew.drew⟩
 .have u:Lib.indexByte (List.take 2<|List.drop 3 s.data.toList) (rs[2]'f)<0:=by grind [D,ByteArray.data_extract,Array.toList_extract]
  go_loopg[9,10,11,12] 1 (λg a b c d l=>a=C Y 2/\l=p)
  exact⟨Z,Z⟩;obtain⟨rfl,rfl⟩:=hrel;go_wp2;go_step3;go_wp2
  go_region
  go_wp2
  go_region_with(first|(go_at_call 242;refine Ce (Tryz.strings_IndexByte _ _ _) ?_;rintro e m ⟨rfl,j⟩;rw[j,o]))
  go_wp2
  all_goals repeat(first|refine Ui ?_|refine Y4 ?_|refine MG ?_)
  all_goals go_ret
  all_goals exact⟨rfl,(Cu _ _).drew.drew⟩
 have u:Lib.indexByte (List.take 1<|List.drop 4 s.data.toList) (rs[3]'f)<0:=by grind [D,ByteArray.data_extract,Array.toList_extract]
 go_loopg[9,10,11,12] 1 (λg a b c d l=>a=C Y 3/\l=p)
 exact⟨Z,Z⟩;obtain⟨rfl,rfl⟩:=hrel;go_wp2;go_step3;go_wp2
 go_region
 go_wp2
 go_region_with(first|(go_at_call 242;refine Ce (Tryz.strings_IndexByte _ _ _) ?_;rintro e m ⟨rfl,j⟩;rw[j,o]))
 go_wp2
 all_goals repeat(first|refine Ui ?_|refine Y4 ?_|refine MG ?_)
 all_goals go_ret
 all_goals exact⟨rfl,(Cu _ _).drew.drew⟩
def Pe(r:AI):AK:=r==42||(r==91||(r==93||(r==47||r==46)))
theorem wG:∀k:I,k<128->AR (0<=Lib.indexByte [42,91,93,47,46] k.toUInt8)=Pe (k:J):=B8
def ik:∀i (h:i<(⟨#[42,91,93,47,46]⟩:AT).size),((⟨#[42,91,93,47,46]⟩:AT)[i]'h).toNat<128:=B8
theorem wH(r:J)(g:0<=r)(w:X):Ar As 215 #[Ae ⟨#[42,91,93,47,46]⟩,C .i32 r] w λe a=>e=Ak (Ah<|Pe r)/\A0 w a:=by
 by_cases h:r<128
 .refine Ce (Tryz.strings_ContainsRune_ascii _ r w g h) ?_;grind [Below.refl,wG]
 have c:Pe r=AQ:=by grind [Pe]
 have f:Ar As 228 #[Ae ⟨#[42,91,93,47,46]⟩,C .i32 r] w λe a=>e=Ak (C Y<|-1)/\A0 w a:=by
  by_cases b:r=65533
  .subst b;exact wD Z ik
  cases d:Lib.validRune r
  .grind [wE]
  obtain⟨k,l,j⟩:=encode_facts r (by rw[validRune_eq];exact d) E;exact wF Z ik E b d Z E E E<|j E
 rw[c];clear c h;generalize(⟨#[42,91,93,47,46]⟩:AT)=s at *;go_enter func215,ntmps215
 go_wp2_with(first|(go_at_call 228;refine Ce f ?_;rintro e m ⟨rfl,i⟩))
 go_ret;exact⟨Z,i⟩
def yp(s:AT)(w:X)(d:s.size<=1000000):Ar As 200 #[.string s] w λe c=>e=Ak (.string s)/\A0 w c:=by
 have a:=Tryz.stringslite_Clone s w E;go_enter func200,ntmps200
 go_wp2_with(first
  |(go_at_call 216;refine Ce a ?_;rintro e f ⟨rfl,b⟩))
 go_ret;exact⟨Z,b⟩
structure Hc(lo hi:AH)(W W':Ap):Prop where
 size:Au (Av W)<=Au (Av W')
 same:∀k,lo<=k->k<hi->W'.heap[k]?=W.heap[k]?
theorem Hc.refl(lo hi:I)(W:X):Hc lo hi W W:=⟨Cr _,λ_ _ _=>rfl⟩
def Hc.trans{C:X}(h:Hc lo hi A B)(k:Hc lo hi B C):Hc lo hi A C :=
 ⟨CE h.size k.size,λi a b=>Ca (k.same i a b)<|h.same i a b⟩
theorem Hc.put(W:X)(r:I)(o:Obj)(h:hi<=r):Hc lo hi W (W.putObj r o) :=
 ⟨Ba,λk _ a=>World.putObj_heap_other E⟩
def Hc.ac(h:Below hi W W'):Hc lo hi W W':=⟨h.size,λk _ a=>Co h k a⟩
def Uy{β:Type}(st:AH)(I:β->Ap->Prop):Prop:=∀s W W',I s W->W.grownBy W' (An st)->I s W'
def jo{β:Type}(B:AH)(I:β->Ap->Prop):Prop:=∀s W k (o o':Obj),I s W->B<=k->W.heap[k]?=An o->o.isCells=AQ->I s (W.putObj k o')
def jp{α:Type}(F:Fence)(n:AH)(P:Program)(g:AH)(lb:A3)(encs:α->A3)(lo hi st:AH)(S Sp:AJ α->Prop)(w:Ap):Prop :=
 ∀(l:AH) (J Jx:AJ α->Ap->Prop) (W:Ap),A0 w W->Uy st J->Uy st Jx ->
  (∀pre x W1,J pre W1->YieldAt F (n-1) P l (encs x) W1 λe W' =>
   (e=Ak (Ah AP)/\J (pre++[x]) W'/\Hc lo hi W1 W')\/(e=Ak (Ah AQ)/\Jx (pre++[x]) W')) ->
  J [] W ->
  CallsIn F n P g (#[.func (.yield l) #[] #[]]++lb) W λe W'=>(∃v,e=Ak v)/\((∃xs,S xs/\J xs W')\/(∃pre,Sp pre/\Jx pre W'))
def yq{α:Type}(lo hi:AH)(I:AJ α->Ap->Prop)(Ix:Code->AJ α->Ap->Prop)(xs:AJ α)(W:Ap)(e:Exit)(_:Act)(W':Ap):Prop :=
 match e with
 |.normal=>KeepsOthers W W'/\Hc lo hi W W'/\I xs W'
 |.ret=>KeepsOthers W W'/\Ix .ret xs W'
 |.exit id=>KeepsOthers W W'/\Ix (.exit id) xs W'
 |_=>False
variable{F:Fence} {n:Nat} {P:Program}
theorem jq{α:Type}{g:Operand}{ps:Array Tmp}{assign body:Code}(ap:F.round=Ao)(h1:1<=n){gf:I}{lb:A3}(hg:a.eval g=.func (.func gf) #[] lb)(aw:F.fn gf)(eg:∀args w,(callFunc gf args).run P w=.ok (.enter gf args) w){encs:α->A3}{st:I}(az:st<O (U w))(ax:hi<=O (U w)){S Sp:AJ α->Prop}{w0:X}(aq:jp F (n-1) P gf lb encs lo hi st S Sp w0)(ad:A0 w0 w)(ao:∀x,(encs x).size=ps.size)(q:AJ α->X->Prop)(L:Code->AJ α->X->Prop)(hI:Uy st q)(ai:∀c,Uy st<|L c)(e:jo (O<|U w) q)(v:∀c,jo (O<|U w)<|L c)(h0:q [] w)(a₁:α->Act)(ak:∀(p:I) (x:α) (W:X) (ab:Act->X->Prop),ab (a₁ x) W ->
   assign.wpIn (F.inRound p) (n-1-1) P (Exit.then ab λ_ _ _=>False) {tmps:=(ps.zip<|encs x).foldl (λav (aa,af)=>Ay av aa af) a.tmps,defers:=[]} W)(al:∀(p:I) (pre:AJ α) (x:α) (W:X),q pre W->O (U w)<O (U W)->body.wpIn (F.inRound p) (n-1-1) P (yq lo hi q L (pre++[x]) W) (a₁ x) W)(am:∀(b:I) (t:AJ α) (W:X),O (U w)<=b->S t->q t W->W.heap[b]?=H (.deferred<|H [])->Q .normal {a with defers:={target:=.collected b,args:=#[]}::a.defers} W)(ar:∀(b:I) (c:Code) (pre:AJ α) (W:X),O (U w)<=b->Sp pre->L c pre W->W.heap[b]?=H (.deferred<|H [])->c.wpIn F n P Q {a with defers:={target:=.collected b,args:=#[]}::a.defers} W):(Code.rangeFunc g ps assign body).wpIn F n P Q a w:=by
 refine wpIn_rangeFunc λfn an=>?_;rw[ap];generalize hD:O (U w)=b at *;obtain⟨rd,y⟩:∃rd:LoopState->Option Code->Loop,rd=λs aa=>{state:=s,pending:=aa,fn,tmps:=a.tmps,params:=ps,assign,body,defers:=b}:=⟨_,rfl⟩
 have l:=run_enterLoop_outer (P:=P) (w:=w) fn a.tmps ps assign body;rw[hD]at l;have ah:Az (Az w<|.deferred<|H []) (.loop {state:=.ready,pending:=Ao,fn,tmps:=a.tmps,params:=ps,assign,body,defers:=b})=Az (Az w<|.deferred<|H []) (.loop<|rd .ready Ao):=by rw[y]
 rw[ah]at l;have b1:Below b w<|Az (Az w<|.deferred<|H [])<|.loop<|rd .ready Ao:=by rw[<-hD];exact((Cu _ w).alloc (Cr _) _).alloc Ba _
 have l1:(Az (Az w<|.deferred<|H [])<|.loop<|rd .ready Ao).heap[b+1]?=H (.loop<|rd .ready Ao):=by grind [World.alloc_heap_new,World.size_alloc]
 have d1:(Az (Az w<|.deferred<|H [])<|.loop<|rd .ready Ao).heap[b]?=H (.deferred<|H []):=by grind [World.alloc_heap_new,Below.heap_alloc]
 have i1:q []<|Az (Az w<|.deferred<|H [])<|.loop<|rd .ready Ao:=by refine hI _ w _ h0 ⟨Z,Z,Z,B7,λk m _=>?_⟩;exact Co b1 k E
 generalize Az (Az w<|.deferred<|H []) (.loop<|rd .ready Ao)=W1 at *;refine⟨b+1,[{target:=.collected b,args:=#[]}],W1,{target:=.fn (.func gf) lb,args:=#[.func (.yield<|b+1) #[] #[]]},W1,gf,#[.func (.yield<|b+1) #[] #[]]++lb,W1,l,?_,?_,?_,λ_=>h1,?_⟩
 .simp only[resolve,hg];simp[go_sem]
 .grind [Target.leads]
 .simp[invoke,go_sem,eg]
 have keep:∀{A B:X} {k:I} {o:Obj},b<=k->A.grownBy B (H st)->A.heap[k]?=H o->B.heap[k]?=H o:=by intro A B k o m r ho;exact Ca (r.block k (Cd ho) B7) ho
 refine(aq (b+1) (λpre W=>q pre W/\W.heap[b+1]?=H (.loop<|rd .ready Ao)/\W.heap[b]?=H (.deferred<|H []))
  (λpre W=>∃c,L c pre W/\W.heap[b+1]?=H (.loop<|rd .done<|H c)/\W.heap[b]?=H (.deferred<|H []))
  W1 (Cs ad<|CG b1<|AY ad.size) (λs A B h r=>⟨hI s A B h.1 r,keep E r h.2.1,keep (Cr _) r h.2.2⟩)
  (λs A B h r=>by obtain⟨c,hc,f,z⟩:=h;exact⟨c,ai c s A B hc r,keep E r f,keep (Cr _) r z⟩) ?_ ⟨i1,l1,d1⟩).mono ?_
 .rintro pre x W ⟨R,f,z⟩;have ay:=Cd f;have hy:=run_yield (P:=P) (args:=encs x) f (by rw[y];exact ao x);rw[y]at hy;refine⟨fn,_,assign,body,hy,roundIn_of_wpIn an<|ak _ x W _ ⟨_,run_beginRound f<|by rw[y],?_⟩⟩;generalize hWb:W.putObj (b+1) (.loop {rd .ready Ao with state:=.busy})=Wb;have ae:Wb.heap[b+1]?=H (.loop {rd .ready Ao with state:=.busy}):=by grind [World.putObj_heap_same]
  have ag:Wb.heap[b]?=H (.deferred<|H []):=by grind [World.putObj_heap_other]
  have au:q pre Wb:=by rw[<-hWb];exact e pre W (b+1) _ _ R E f Z
  have kW:Hc lo hi W Wb:=by grind [Hc.put]
  refine wpIn_mono (al _ pre x Wb au<|AY<|Cd ae) ?_;have fin:∀(i:Option Code) (d:X),KeepsOthers Wb d ->
    (Instr.endRound (b+1) i).run P d=.ok (Ah i.isNone) (d.putObj (b+1)<|.loop<|rd (if i.isNone then .ready else .done) i)/\d.heap[b+1]?=H (.loop {rd .ready Ao with state:=.busy}) /\
    (d.putObj (b+1)<|.loop<|rd (if i.isNone then .ready else .done) i).heap[b+1]?=H (.loop<|rd (if i.isNone then .ready else .done) i) /\
    (d.putObj (b+1)<|.loop<|rd (if i.isNone then .ready else .done) i).heap[b]?=H (.deferred<|H []):=by
   intro i d m;have u:=m.same _ _ ae Z;refine⟨?_,u,World.putObj_heap_same<|Cd u,Ca (World.putObj_heap_other E)<|m.same _ _ ag Z⟩;have:=run_endRound (P:=P) i u;grind
  intro ac a3 d hp
  match ac,hp with
  |.normal,⟨m,hr,hi3⟩ =>
   obtain⟨j,u,V,N⟩:=fin Ao d m;exact⟨_,_,j,AF ⟨Z,⟨e _ d (b+1) _ _ hi3 E u Z,V,N⟩,(kW.trans hr).trans<|Hc.put d (b+1) _ E⟩⟩
  |.ret,⟨m,hi3⟩ =>
   obtain⟨j,u,V,N⟩:=fin (H .ret) d m;exact⟨_,_,j,AG ⟨Z,.ret,v _ _ d (b+1) _ _ hi3 E u Z,V,N⟩⟩
  |.exit id,⟨m,hi3⟩ =>
   obtain⟨j,u,V,N⟩:=fin (H<|.exit id) d m;exact⟨_,_,j,AG ⟨Z,.exit id,v _ _ d (b+1) _ _ hi3 E u Z,V,N⟩⟩
 rintro ac W2 ⟨⟨af,rfl⟩,h⟩;rcases h with⟨t,hS,R,f,z⟩|⟨pre,aj,c,R,f,z⟩
 .have j:=run_endLoop (P:=P) f (by rw[y];simp);rw[y]at j;exact⟨Ao,_,j,am b t _ (Cr _) hS (e _ W2 (b+1) _ _ R E f Z)<|Ca (World.putObj_heap_other E) z⟩
 have j:=run_endLoop (P:=P) f (by rw[y];simp);rw[y]at j;exact⟨H c,_,j,ar b c pre _ (Cr _) aj (v c _ W2 (b+1) _ _ R E f Z)<|Ca (World.putObj_heap_other E) z⟩
def Na(s b:AH):AH:=((s^^^b)*1099511628211)%18446744073709551616
def QG{s:I}:Na s b<18446744073709551616:=Wl _ B8
def jK{a:I}(b:I)(e:a<18446744073709551616)(hb:b<18446744073709551616):bits .xor .u64 (a:J) (b:J)=((a^^^b:I):J):=by
 have h:(BitVec.ofNat 64 a^^^BitVec.ofNat 64 b).toNat=a^^^b:=by rw[BitVec.toNat_xor,OD,OD,Mu E,Mu E]
 have c:BitVec.ofInt 64 (a:J)=BitVec.ofNat 64 a:=OA ..;have d:BitVec.ofInt 64 (b:J)=BitVec.ofNat 64 b:=OA ..;show IntKind.u64.wrap ((BitVec.ofInt 64 (a:J)^^^BitVec.ofInt 64 (b:J)).toNat:J)=_;have f:a^^^b<2^64:=Nat.xor_lt_two_pow E E;rw[c,d,h];unfold IntKind.wrap;simp[IntKind.bits,IntKind.signed];omega
def jL(x:I):IntKind.u64.wrap ((x:J)*1099511628211)=(((x*1099511628211)%18446744073709551616:I):J):=by unfold IntKind.wrap;simp[IntKind.bits,IntKind.signed]
def YG{s:I}(c:s<18446744073709551616)(hb:b<256)(W:X):Ar As 204 #[C .u64 s,C Am b] W λe a=>e=Ak (C .u64<|Na s b)/\a=W:=by have d:=jK b c E;go_enter func204,ntmps204;go_wp2;rw[jL];go_ret;exact⟨Z,Z⟩
end
end Go.Proofs.YtaehkdnabiccnaaGreatDoor


