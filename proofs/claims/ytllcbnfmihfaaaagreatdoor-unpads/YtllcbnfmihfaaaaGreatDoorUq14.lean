import Derived.ProofKit
import Derived.OpenShut
import Derived.Deep.Slices
import Derived.SizedLaws
import Derived.Lib.BufferWrite
import Derived.Recover
import Derived.Lib.AppendIntMem
import Derived.Lib.ItoaLen
import Derived.Test.YtllcbnfmihfaaaaGreatDoorUq08
import Derived.Test.YtllcbnfmihfaaaaGreatDoorUq13
set_option maxRecDepth 100000
set_option maxHeartbeats 8000000
namespace Go.Proofs.YtllcbnfmihfaaaaGreatDoor
open Go.Proofs.Tryz
section
open Go.RowKit
structure qop (w:World):Prop where
 signs:∃t fr,w.heap[2]? = some (.cells #[.string ⟨#[42]⟩,.int .i64 0,.string ⟨#[42,42]⟩,.int .i64 1,.string ⟨#[91,93]⟩,.int .i64 2] t fr)
 tabs:Lib.Utf8Tabs 4 5 w
 mlen:∃m,w.cell? ⟨3,0,none⟩=some (.int .i64 m)
theorem qop.below {w w':World}(h:qop w)(hb:Below w.heap.size w w'):qop w':=by
 obtain⟨t,fr,h1⟩:=h.signs
 obtain⟨m,h2⟩:=h.mlen
 exact⟨⟨t,fr,(hb.block _ (ltA h1)).trans h1⟩,Utf8Tabs_below h.tabs hb,⟨m,(hb.cell (p:=⟨_,0,none⟩) (block_lt_of_cell h2)).trans h2⟩⟩
structure OpD where
 kind:Int
 a:Int
 b:Int
 c:Int
 d:Int
 s:ByteArray
 pp:Option Addr
 pl:Nat
 pc:Nat
def OpD.arr (o:OpD):Array Value:=#[.int .i64 o.kind,.int .i64 o.a,.int .i64 o.b,.int .i64 o.c,.int .i64 o.d,.string o.s,.slice o.pp o.pl o.pc]
theorem qfq {P:Program}{ops:Array Oper}{l:List Oper}{a:Act}{w w':World}{Q:Exit→Act→World→Prop}(hw:w'=w)(h:wpList P ops Q l a w'):wpList P ops Q l a w:=hw▸h
structure qij (w:World)(a:Option Addr)(n:Nat)(h:Nat→OpD):Prop where
 at_:∀k,k<n→∃b off,a=some ⟨b,off,none⟩∧b<w.heap.size∧∀k j,k<n→j<7→w.cell? ⟨b,off+k*7+j,none⟩=(h k).arr[j]?
 a1:∀k,k<n → -9223372036854775808≤(h k).a∧(h k).a≤9223372036854775807
theorem qij.below {w w':World}{a:Option Addr}{n:Nat}{g:Nat→OpD}(h:qij w a n g)(hb:Below w.heap.size w w'):qij w' a n g :=
 ⟨fun k hk=>by
  obtain⟨b,off,ha,hlt,h1⟩:=h.at_ k hk
  exact⟨b,off,ha,Nat.lt_of_lt_of_le hlt hb.size,fun k j hk hj=>(hb.cell (p:=⟨b,_,none⟩) hlt).trans (h1 k j hk hj)⟩,h.a1⟩
end
section
open Go.RowKit Go.Deep
theorem qg0:prog.cellsOf 3=1:=by kernel_rfl
theorem qi5:prog.cellsOf 9=1:=by kernel_rfl
theorem qnq:prog.cellsOf 72=1:=by kernel_rfl
theorem qlG:prog.cellsOf 74=7:=by kernel_rfl
theorem qkM {w:World}{a:Addr}{v:Value}(h:w.cell? (a.add 0)=some v):∃b off,a=⟨b,off,none⟩∧b<w.heap.size:=by
 obtain⟨b,off,spot⟩:=a
 have hspot:spot=none:=by simpa [Addr.add] using World.cell?_spot h
 subst hspot
 rw[qi4] at h
 exact⟨b,off,rfl,block_lt_of_cell h⟩
theorem qnM {α:Type}{l:List α}(h:l.length=2):∃a b,l=[a,b]:=by
 match l,h with
 |[a,b],_=>exact⟨a,b,rfl⟩
section
variable {H:Type} {enc:TypeId×Value→H} {w:World}
theorem qmZ {n:Nat}{cs:List Value}{xs:List (DataW H×List MemPlace)}{fs:Array Field}(hf:∀(i:Nat) (f:Field),fs[i]? = some f→DataW.trod enc prog w 0 (fun _=>true) true n f.type ((cs.drop f.offset).take (prog.cellsOf f.type))=xs[i]?)(i:Nat){f:Field}(h:fs[i]? = some f)(t:TypeId)(o:Nat)(ht:f.type=t)(ho:f.offset=o)(hc:prog.cellsOf t=1){v:Value}(hv:cs[o]? = some v){y:DataW H×List MemPlace}(hy:xs[i]? = some y):DataW.trod enc prog w 0 (fun _=>true) true n t [v]=some y:=by
 subst ht ho
 have g:=hf i f h
 rw[hc,hy] at g
 have e:(cs.drop f.offset).take 1=[v]:=by
  rw[List.getElem?_eq_some_iff] at hv
  obtain⟨hl,rfl⟩:=hv
  rw[List.drop_eq_getElem_cons hl]
  rfl
 rwa [e] at g
theorem qmH {t e:TypeId}(ht:prog.underlying t=some (.slice e)){fuel:Nat}{v:Value}{x:DataW H×List MemPlace}(h:DataW.trod enc prog w 0 (fun _=>true) true fuel t [v]=some x):∃(a:Option Addr) (n cap:Nat),v=.slice a n cap:=by
 rcases open_slice ht h with ⟨hv,_⟩|⟨a,len,cap,m,n,D,Pl,hv,_⟩
 ·cases hv;exact⟨none,0,0,rfl⟩
 ·cases hv;exact⟨some a,len,cap,rfl⟩
end
end
section
open Go.RowKit Go.Lib
theorem qgh (z:Value)(n:Nat):(madeCells #[z] n).size=n:=by simp[madeCells]
theorem qjp (n:Nat)(h:n+8≤281474976710656)(w:World):(Instr.makeSlice 28 (.int .i64 ((n:Int)+8)) (.int .i64 ((n:Int)+8))).run prog w=.ok (.slice (some ⟨w.heap.size,0,none⟩) (n+8) (n+8)) (w.alloc (.cells (madeCells #[.int .u8 0] (n+8)) 5)):=by
 obtain⟨i,hi,hz,hs,hb⟩:=info_parts Tryz.infoU8
 have:=run_make (P:=prog) w 28 5 i _ underlying28 hi hz .i64 .i64 ((n:Int)+8) ((n:Int)+8) (by omega) (Int.le_refl _) (by rw[hb];omega) (by omega)
 rw[this,hs]
 have e:((n:Int)+8).toNat=n+8:=by omega
 rw[e,Nat.mul_one]
 rfl
theorem qfn {P:Program}{w:World}{ops:Array Oper}{rest:List Oper}{o:Oper}{a:Act}{Q:Exit→Act→World→Prop}(d s:Operand)(dT sT:TypeId)(ho:o.op=.call {callee:=.builtin .copy,args:=#[d,s],argTypes:=#[dT,sT]})(hgd:o.guard=none)(elem:TypeId)(hu:P.underlying dT=some (.slice elem))(hsz:(P.info? elem).map (·.size)=some 1)(g dLen dCap:Nat)(b:ByteArray)(hd:a.eval d=.slice (some ⟨g,0,none⟩) dLen dCap)(hs:a.eval s=.string b)(cur:Array Value)(t:TypeId)(hg:w.heap[g]? = some (.cells cur t (0,0)))(hle:b.size≤dLen)(hfit:b.size≤cur.size)(h:wpList P ops Q rest (a.put o.dst (goInt b.size)) (w.setRow g (byteCells b.data.toList++cur.toList.drop b.size).toArray)):wpList P ops Q (o::rest) a w:=by
 refine wpList_plain hgd fun K hK => ?_
 have hrun:=run_copy_row_string (P:=P) w dT sT o.type elem g 0 dLen dCap b cur t hu hsz hg hle (by omega)
 simp only[Nat.zero_add,List.take_zero,List.nil_append] at hrun
 unfold Oper.wp
 simp[execOp,ho,resolve,invoke,builtin,hd,hs,hrun,Result.andThen]
 exact hK _ _ h
def rm8:List UInt8:=List.replicate 8 77
def qbL (l:List UInt8):Array Value:=(l.map qaX).toArray
theorem qeU (l:List UInt8):(qbL l).size=l.length:=by simp[qbL]
theorem qc4 (l:List UInt8)(j:Nat):(qbL l)[j]? = l[j]?.map qaX:=by simp[qbL]
theorem qod (s:List UInt8)(cur:Array Value)(hc:cur.size=s.length+8):(byteCells s++cur.toList.drop s.length).toArray.size=s.length+8∧∀j,j<s.length→(byteCells s++cur.toList.drop s.length).toArray[j]? = (qbL (s++rm8))[j]?:=by
 have hl:(byteCells s).length=s.length:=by simp[byteCells]
 refine⟨by simp[hl];omega,fun j hj => ?_⟩
 rw[qc4,List.getElem?_append_left (by omega),List.getElem?_toArray,List.getElem?_append_left (by omega)]
 simp[byteCells]
 rfl
theorem qlQ {cur:Array Value}{l:List UInt8}{k:Nat}{c:UInt8}(hs:cur.size=l.length)(hk:k<l.length)(hc:l[k]? = some c)(h:∀j,j<k→cur[j]? = (qbL l)[j]?):(cur.setIfInBounds k (qaX c)).size=l.length∧∀j,j<k+1→(cur.setIfInBounds k (qaX c))[j]? = (qbL l)[j]?:=by
 refine⟨by simpa using hs,fun j hj => ?_⟩
 rw[Array.getElem?_setIfInBounds]
 by_cases e:k=j
 ·subst e
  rw[if_pos rfl,if_pos (by omega),qc4,hc]
  rfl
 ·rw[if_neg e]
  exact h j (by omega)
theorem qmv {cur:Array Value}{l:List UInt8}(hs:cur.size=l.length)(h:∀j,j<l.length→cur[j]? = (qbL l)[j]?):cur=qbL l:=by
 apply Array.ext_getElem?
 intro j
 by_cases hj:j<l.length
 ·exact h j hj
 ·rw[Array.getElem?_eq_none (by omega),Array.getElem?_eq_none (by rw[qeU];omega)]
theorem qfj (W:World)(s:List UInt8)(hs:s.length≤200000000):Calls prog 91 #[.string ⟨s.toArray⟩] W fun e W'=>e=.returned (.slice (some ⟨W.heap.size,0,none⟩) s.length (s.length+8))∧W'.heap[W.heap.size]? = some (.cells (qbL (s++rm8)) 5)∧Below W.heap.size W W':=by
 have hsz:(⟨s.toArray⟩:ByteArray).size=s.length:=by simp[ByteArray.size]
 have hmk:=fun w=>qjp s.length (by omega) w
 have hcp:=qod s (madeCells #[.int .u8 0] (s.length+8)) (qgh _ _)
 have hll:(s++rm8).length=s.length+8:=by simp[rm8]
 obtain⟨cur0,hcur0⟩:∃c,c=(byteCells s++(madeCells #[.int .u8 0] (s.length+8)).toList.drop s.length).toArray:=⟨_,rfl⟩
 rw[←hcur0] at hcp
 have HB0:Hid (Below W.heap.size W ((W.alloc (.cells (madeCells #[.int .u8 0] (s.length+8)) 5)).setRow W.heap.size cur0)):=qai bwA (Nat.le_refl _) _
 have HC0:Hid (((W.alloc (.cells (madeCells #[.int .u8 0] (s.length+8)) 5)).setRow W.heap.size cur0).heap[W.heap.size]? = some (.cells cur0 5)):=setRow_heap _ _ _ _ _ _ (qab _ _)
 have HCP:Hid (cur0.size=s.length+8∧∀j,j<s.length→cur0[j]? = (qbL (s++rm8))[j]?):=hcp
 clear hcp
 go_enter func91,ntmps91
 go_wp2_with (first
  |(refine qfn _ _ 28 9 rfl rfl 5 underlying28 (by kernel_rfl) W.heap.size (s.length+8) (s.length+8) ⟨s.toArray⟩ rfl rfl (madeCells #[.int .u8 0] (s.length+8)) 5 (qab _ _) (by rw[hsz];omega) (by rw[hsz,qgh];omega) ?_;rw[hsz];rw[←hcur0];generalize (W.alloc (.cells (madeCells #[.int .u8 0] (s.length+8)) 5)).setRow W.heap.size cur0=V0 at *))
 go_loopg [5] 8 (fun g z wr=>∃k:Nat,z=.int .i64 k∧Hid (k+g=s.length+8∧s.length≤k)∧Hid (Below W.heap.size W wr)∧∃cur,Hid (wr.heap[W.heap.size]? = some (.cells cur 5))∧Hid (cur.size=s.length+8∧∀j,j<k→cur[j]? = (qbL (s++rm8))[j]?))
 case atStart=>exact⟨s.length,rfl,⟨rfl,Nat.le_refl _⟩,HB0,cur0,HC0,HCP⟩
 case round =>
  clear HB0 HC0 HCP
  obtain⟨k,rfl,hg,HB,cur,HC,HCU⟩:=hrel
  cases gk with
  |zero =>
   have hge:¬(k:Int)<(s.length:Int)+8:=by have:=hg.out;omega
   have HE:Hid (cur=qbL (s++rm8)):=qmv (by rw[hll];exact HCU.out.1) (fun j hj=>HCU.out.2 j (by have:=hg.out;omega))
   clear hg
   go_wp2
   go_ret
   refine⟨rfl,?_,HB.out⟩
   rw[←HE.out]
   exact HC.out
  |succ g =>
   have hlt:(k:Int)<(s.length:Int)+8:=by have:=hg.out;omega
   have hk8:k<s.length+8:=by omega
   have hks:¬k<s.length:=by have:=hg.out;omega
   ·have HS:=qlQ (c:=77) (cur:=cur) (l:=s++rm8) (k:=k) (by rw[hll];exact HCU.out.1) (by omega) (by unfold rm8;rw[List.getElem?_append_right (by omega),List.getElem?_replicate,if_pos (by omega)]) HCU.out.2
    have f0:wr.frozen? ⟨W.heap.size,k,none⟩=false:=frozen_of_row wr W.heap.size k _ _ HC.out
    obtain⟨v0,hv0⟩:∃v,cur[k]? = some v:=⟨_,Array.getElem?_eq_getElem (by have:=HCU.out.1;omega)⟩
    have k0:wr.cell? ⟨W.heap.size,k,none⟩=some v0:=(qaa HC.out k).trans hv0
    clear hv0
    have HN:Hid ((wr.setCell ⟨W.heap.size,k,none⟩ (.int .u8 77)).heap[W.heap.size]? = some (.cells (cur.setIfInBounds k (qaX 77)) 5)):=by
     show _=_
     rw[heap_setCell_same _ _ _ _ _ _ HC.out]
     rfl
    have HNB:Hid (Below W.heap.size W (wr.setCell ⟨W.heap.size,k,none⟩ (.int .u8 77))):=HB.out.trans ⟨rfl,rfl,rfl,by simp[World.setCell],fun j hj=>heap_setCell_other wr _ _ _ (by simp;omega)⟩
    have HSS:Hid ((cur.setIfInBounds k (qaX 77)).size=s.length+8∧∀j,j<k+1→(cur.setIfInBounds k (qaX 77))[j]? = (qbL (s++rm8))[j]?):=by rw[←hll];exact HS
    clear HS HCU
    go_wp2
    go_roundg g
    case measure=>omega
    case rel=>exact⟨k+1,by go_num,⟨by have:=hg.out;omega,by have:=hg.out;omega⟩,HNB,_,HN,HSS⟩
theorem qhM (g j:Nat):(⟨g,0,none⟩:Addr).add j=⟨g,j,none⟩:=by
 by_cases h:j=0
 ·subst h
  simp[Addr.add]
 ·simp[Addr.add,h]
theorem qlW {W V:World}{g k:Nat}{v:Value}(h:But g W V):But g W (V.setCell ⟨g,k,none⟩ v):=⟨h.os,h.tape,h.output,by have:=h.size;simpa [World.setCell] using this,fun j hj hn=>(heap_setCell_other V _ _ _ (by simpa using hn)).trans (h.block j hj hn)⟩
theorem qcb (W:World)(s:List UInt8)(g:Nat)(h:W.heap[g]? = some (.cells (qbL (s++rm8)) 5))(hs:s.length≤200000000):Calls prog 92 #[.slice (some ⟨g,0,none⟩) s.length (s.length+8),.string ⟨s.toArray⟩] W fun e W'=>e=.returned (.bool true)∧But g W W':=by
 have hsz:(⟨s.toArray⟩:ByteArray).size=s.length:=by simp[ByteArray.size]
 have hll:(s++rm8).length=s.length+8:=by simp[rm8]
 have hcv:(convert 28 9 (.slice (some ⟨g,0,none⟩) s.length (s.length+8))).run prog W=.ok (.string ⟨s.toArray⟩) W:=by
  refine run_convert_bytes_back W 28 9 5 ⟨g,0,none⟩ (s.length+8) s underlying28 underlying5 underlying9 ?_
  intro j hj
  have:=qaa h j
  rw[qc4,List.getElem?_append_left hj,List.getElem?_eq_getElem hj] at this
  rw[qhM]
  exact this
 have hse:(s==s)=true:=beq_self_eq_true s
 have HH:Hid (W.heap[g]? = some (.cells (qbL (s++rm8)) 5)):=h
 clear h
 go_enter func92,ntmps92
 go_wp2
 go_loopg [7,8] (s.length+8) (fun gh y z wr=>∃k:Nat,y=.bool true∧z=.int .i64 k∧Hid (k+gh=s.length+8)∧Hid (But g W wr)∧∃cur,Hid (wr.heap[g]? = some (.cells cur 5))∧Hid (cur.size=s.length+8∧∀j,k≤j→cur[j]? = (qbL (s++rm8))[j]?))
 case atStart=>exact⟨0,rfl,rfl,by show _=_;omega,⟨rfl,rfl,rfl,Nat.le_refl _,fun _ _ _=>rfl⟩,_,HH,by rw[qeU,hll],fun _ _=>rfl⟩
 case round =>
  clear HH hcv
  obtain⟨k,rfl,rfl,hg,HB,cur,HC,HCU⟩:=hrel
  cases gk with
  |zero =>
   have hge:¬(k:Int)<(s.length:Int)+8:=by have:=hg.out;omega
   clear hg HCU
   go_wp2
   go_ret
   exact⟨rfl,HB.out⟩
  |succ gh =>
   have hlt:(k:Int)<(s.length:Int)+8:=by have:=hg.out;omega
   have hk8:k<s.length+8:=by omega
   obtain⟨v0,hv0⟩:∃v,cur[k]? = some v:=⟨_,Array.getElem?_eq_getElem (by have:=HCU.out.1;omega)⟩
   have k0:wr.cell? ⟨g,k,none⟩=some v0:=(qaa HC.out k).trans hv0
   have f0:wr.frozen? ⟨g,k,none⟩=false:=frozen_of_row wr g k _ _ HC.out
   have HN:Hid ((wr.setCell ⟨g,k,none⟩ (.int .u8 1)).heap[g]? = some (.cells (cur.setIfInBounds k (.int .u8 1)) 5)):=by
    show _=_
    rw[heap_setCell_same _ _ _ _ _ _ HC.out]
   have HNB:Hid (But g W (wr.setCell ⟨g,k,none⟩ (.int .u8 1))):=qlW HB.out
   have HSS:Hid ((cur.setIfInBounds k (.int .u8 1)).size=s.length+8∧∀j,k+1≤j→(cur.setIfInBounds k (.int .u8 1))[j]? = (qbL (s++rm8))[j]?):=⟨by have:=HCU.out.1;simpa using this,fun j hj=>by rw[Array.getElem?_setIfInBounds,if_neg (by omega)];exact HCU.out.2 j (by omega)⟩
   by_cases hks:k<s.length
   ·have hkn:(k:Int)<(s.length:Int):=by omega
    clear hv0 HCU
    go_wp2
    go_roundg gh
    case measure=>omega
    case rel=>exact⟨k+1,rfl,by go_num,by show _=_;have:=hg.out;omega,HNB,_,HN,HSS⟩
   ·have hkn:¬(k:Int)<(s.length:Int):=by omega
    have hv:v0=.int .u8 77:=by
     have h1:=HCU.out.2 k (Nat.le_refl _)
     rw[hv0,qc4,List.getElem?_append_right (by omega)] at h1
     unfold rm8 at h1
     rw[List.getElem?_replicate,if_pos (by omega)] at h1
     injection h1
    subst hv
    clear hv0 HCU
    go_wp2
    go_roundg gh
    case measure=>omega
    case rel=>exact⟨k+1,rfl,by go_num,by show _=_;have:=hg.out;omega,HNB,_,HN,HSS⟩
def qaV (c:UInt8):Nat:=if c.toNat<128 then 1 else if c.toNat<194 then 0 else if c.toNat<224 then 2 else if c.toNat<240 then 3 else if c.toNat<245 then 4 else 0
def qbg (c:UInt8):Nat:=if c.toNat<194 then 0 else if c.toNat=224 then 160 else if c.toNat=240 then 144 else if c.toNat<245 then 128 else 0
def qbm (c:UInt8):Nat:=if c.toNat<194 then 0 else if c.toNat=237 then 159 else if c.toNat=244 then 143 else if c.toNat<245 then 191 else 0
theorem qnE:(List.range 256).all (fun x=>(let c:=UInt8.ofNat x;decide ((szU c=0↔qaV c=1)∧(szU c=1↔qaV c=0)∧(2≤qaV c→szU c=qaV c∧loU c=qbg c∧hiU c=qbm c∧128≤qbg c)∧qaV c≤4)))=true:=by kernel_rfl
theorem qgT (c:UInt8):(szU c=0↔qaV c=1)∧(szU c=1↔qaV c=0)∧(2≤qaV c→szU c=qaV c∧loU c=qbg c∧hiU c=qbm c∧128≤qbg c)∧qaV c≤4:=by
 have h:=List.all_eq_true.1 qnE c.toNat (List.mem_range.2 c.toNat_lt)
 have h2:=of_decide_eq_true h
 rw[UInt8.ofNat_toNat] at h2
 exact h2
def qcg (c0:UInt8)(j:Nat)(c:UInt8):Bool:=(j==1&&(decide (c.toNat<qbg c0)||decide (qbm c0<c.toNat)))||(decide (1<j)&&(decide (c.toNat<128)||decide (191<c.toNat)))
def qh0 (bs:List UInt8)(n p:Nat)(c0:UInt8):Nat→Nat→Nat×Bool
 |0,_=>(qaV c0,true)
 |g+1,j=>if n≤p+j then (j,false) else match bs[p+j]? with
  |none=>(j,false)
  |some c=>if qcg c0 j c=true then (j,false) else qh0 bs n p c0 g (j+1)
def qkn (bs:List UInt8)(n p:Nat)(c0:UInt8):Nat×Bool:=if qaV c0=0 then (0,false) else qh0 bs n p c0 (qaV c0-1) 1
theorem qhC (c0 c:UInt8):qcg c0 1 c=true↔(c.toNat<qbg c0∨qbm c0<c.toNat):=by
 unfold qcg
 simp
theorem qds (c0 c:UInt8)(j:Nat)(hj:1<j):qcg c0 j c=true↔(c.toNat<128∨191<c.toNat):=by
 unfold qcg
 have h1:(j==1)=false:=by simp;omega
 rw[h1,decide_eq_true hj]
 simp
theorem qmQ (c0:UInt8)(l:List UInt8)(c:UInt8)(hk:l.length+1<qaV c0):qbb (c0::l) c=if qcg c0 (l.length+1) c=true then 0 else if l.length+2=qaV c0 then 2 else 1:=by
 obtain⟨_,_,h3,h4⟩:=qgT c0
 obtain⟨h5,h6,h7,h8⟩:=h3 (by omega)
 match l,hk with
 |[],hk =>
  show qbb [c0] c=if qcg c0 1 c=true then 0 else if 2=qaV c0 then 2 else 1
  simp only[qbb,h5,h6,h7]
  by_cases hb:c.toNat<qbg c0∨qbm c0<c.toNat
  ·rw[if_pos hb,if_pos ((qhC c0 c).2 hb)]
  ·rw[if_neg hb,if_neg (fun h=>hb ((qhC c0 c).1 h))]
   by_cases he:qaV c0=2
   ·rw[if_pos he,if_pos he.symm]
   ·rw[if_neg he,if_neg (fun h=>he h.symm)]
 |[b1],hk =>
  show qbb [c0,b1] c=if qcg c0 2 c=true then 0 else if 3=qaV c0 then 2 else 1
  simp only[qbb,h5]
  by_cases hb:c.toNat<128∨191<c.toNat
  ·rw[if_pos hb,if_pos ((qds c0 c 2 (by decide)).2 hb)]
  ·rw[if_neg hb,if_neg (fun h=>hb ((qds c0 c 2 (by decide)).1 h))]
   by_cases he:qaV c0=3
   ·rw[if_pos he,if_pos he.symm]
   ·rw[if_neg he,if_neg (fun h=>he h.symm)]
 |[b1,b2],hk =>
  show qbb [c0,b1,b2] c=if qcg c0 3 c=true then 0 else if 4=qaV c0 then 2 else 1
  have h4k:4=qaV c0:=by
   have:3<qaV c0:=hk
   omega
  simp only[qbb]
  by_cases hb:c.toNat<128∨191<c.toNat
  ·rw[if_pos hb,if_pos ((qds c0 c 3 (by decide)).2 hb)]
  ·rw[if_neg hb,if_neg (fun h=>hb ((qds c0 c 3 (by decide)).1 h)),if_pos h4k]
 |_::_::_::l,hk=>simp only[List.length_cons] at hk;omega
theorem qhf (c0:UInt8):qbb [] c0=if qaV c0=0 then 0 else if qaV c0=1 then 2 else 1:=by
 obtain⟨h1,h2,h3,h4⟩:=qgT c0
 simp only[qbb]
 by_cases a:qaV c0=0
 ·rw[if_pos a]
  have:=h2.2 a
  rw[if_neg (by omega),if_pos this]
 ·rw[if_neg a]
  by_cases b:qaV c0=1
  ·rw[if_pos b,if_pos (h1.2 b)]
  ·rw[if_neg b,if_neg (fun h=>b (h1.1 h)),if_neg (fun h=>a (h2.1 h))]
theorem qnp (c0 c:UInt8)(j:Nat)(hk:2≤qaV c0)(hj:1≤j)(h:c.toNat<32):qcg c0 j c=true:=by
 obtain⟨_,_,h3,_⟩:=qgT c0
 have h8:=(h3 hk).2.2.2
 unfold qcg
 by_cases h1:j=1
 ·subst h1
  simp
  omega
 ·simp
  omega
def qaL (bs:List UInt8)(p k:Nat):List UInt8:=(bs.drop p).take k
theorem qcJ {bs:List UInt8}{p k:Nat}{c:UInt8}(h:bs[p+k]? = some c):qaL bs p (k+1)=qaL bs p k++[c]:=by
 unfold qaL
 rw[List.take_add_one,List.getElem?_drop,h]
 rfl
theorem qel {bs:List UInt8}{p k:Nat}(h:p+k≤bs.length):(qaL bs p k).length=k:=by
 unfold qaL
 rw[List.length_take,List.length_drop]
 omega
theorem ql5 {bs:List UInt8}{p:Nat}{c:UInt8}(h:bs[p]? = some c):qaL bs p 1=[c]:=by
 have:=qcJ (bs:=bs) (p:=p) (k:=0) (c:=c) (by simpa using h)
 rw[this]
 simp[qaL]
theorem qiL {bs:List UInt8}{p k:Nat}{c:UInt8}(h:bs[p]? = some c)(hk:1≤k)(hl:p+k≤bs.length):∃l,qaL bs p k=c::l∧l.length+1=k:=by
 have h1:=ltL h
 have h2:=(List.getElem?_eq_some_iff.1 h).2
 obtain⟨k,rfl⟩:∃k',k=k'+1:=⟨k-1,by omega⟩
 refine⟨(bs.drop (p+1)).take k,?_,?_⟩
 ·unfold qaL
  rw[List.drop_eq_getElem_cons h1,List.take_succ_cons,h2]
 ·rw[List.length_take,List.length_drop]
  omega
theorem qiS {bs:List UInt8}{l lim:Int}(hl:Lm bs l lim){n p:Nat}{c0:UInt8}(hn:(n:Int)=min (bs.length:Int) lim)(h0:bs[p]? = some c0)(acc:List UInt8):∀(g j f:Nat),1≤j→j+g=qaV c0→InR bs lim (p+j)→bs.length+1≤p+j+f →
  match qh0 bs n p c0 g j with
  |(k,true)=>k=qaV c0∧InR bs lim (p+k)∧qbu bs lim f (p+j) (acc++qaL bs p j) (if g=0 then acc.length+j else acc.length)=qbu bs lim (f-g) (p+k) (acc++qaL bs p k) (acc++qaL bs p k).length
  |(k,false)=>k≤qaV c0∧InR bs lim (p+k)∧qbu bs lim f (p+j) (acc++qaL bs p j) (if g=0 then acc.length+j else acc.length)=.error (qaI bs l (p+k) 9)
 |0,j,f,hj,hg,hi,_=>by
  rw[qh0]
  simp only[]
  have hj2:j=qaV c0:=by omega
  subst hj2
  refine⟨trivial,hi,?_⟩
  rw[if_pos trivial,List.length_append,qel hi.1]
  rfl
 |g+1,j,f,hj,hg,hi,hf=>by
  obtain⟨f,rfl⟩:∃f',f=f'+1:=⟨f-1,by have:=hi.1;omega⟩
  rw[qh0]
  by_cases hnj:n≤p+j
  ·rw[if_pos hnj]
   simp only[]
   refine⟨by omega,hi,?_⟩
   rw[if_neg (by omega),qbu]
   cases hc:bs[p+j]? with
   |none=>simp only[];rw[qaH hi.1 hc]
   |some c =>
    have h1:=ltL hc
    have h2:((p+j:Nat):Int)=lim:=by have:=hi.2;omega
    simp only[]
    rw[if_pos h2,qaU hl hc h2]
  ·rw[if_neg hnj]
   have h1:p+j<bs.length:=by omega
   have hc:=List.getElem?_eq_getElem h1
   obtain⟨c,hcc⟩:∃c,c=bs[p+j]:=⟨_,rfl⟩
   rw[←hcc] at hc
   rw[hc]
   simp only[]
   have h2:¬((p+j:Nat):Int)=lim:=by omega
   obtain⟨t,ht,htl⟩:=qiL h0 hj (by omega)
   have hal:=qmQ c0 t c (by omega)
   have hcut:(acc++qaL bs p j).drop acc.length=c0::t:=by rw[List.drop_left,ht]
   rw[←hcut,htl,show t.length+2=j+1 by omega] at hal
   have hlen:(acc++qaL bs p j).length=acc.length+j:=by rw[List.length_append,qel (by omega)]
   by_cases hb:qcg c0 j c=true
   ·rw[if_pos hb]
    simp only[]
    refine⟨by omega,hi,?_⟩
    rw[if_neg (by omega),qbu,hc]
    simp only[]
    rw[if_pos hb] at hal
    rw[if_neg h2,if_neg (by omega),if_neg (by omega),qa6 hl hi hc h2]
    by_cases h32:c.toNat<32
    ·rw[if_pos h32]
    ·rw[if_neg h32,if_pos hal]
   ·rw[if_neg hb]
    rw[if_neg hb] at hal
    have h32:¬c.toNat<32:=fun h=>hb (qnp c0 c j (by omega) hj h)
    have ih:=qiS hl hn h0 acc g (j+1) f (by omega) (by omega) (qav hi hc h2) (by omega)
    have hstep:qbu bs lim (f+1) (p+j) (acc++qaL bs p j) (if g+1=0 then acc.length+j else acc.length)=qbu bs lim f (p+(j+1)) (acc++qaL bs p (j+1)) (if g=0 then acc.length+(j+1) else acc.length):=by
     rw[if_neg (by omega),qbu,hc]
     simp only[]
     rw[if_neg h2,if_neg (by omega),if_neg (by omega),if_neg h32,hal,hlen]
     have h0':¬(if j+1=qaV c0 then 2 else 1)=0:=by split<;>decide
     rw[if_neg h0',qcJ hc,List.append_assoc]
     by_cases hg0:g=0
     ·rw[if_pos (show j+1=qaV c0 by omega),if_pos rfl,if_pos hg0]
      rfl
     ·rw[if_neg (show ¬j+1=qaV c0 by omega),if_neg (by decide),if_neg hg0]
      rfl
    rw[hstep,show f+1-(g+1)=f-g by omega]
    exact ih
theorem qmJ {bs:List UInt8}{l lim:Int}(hl:Lm bs l lim){n p:Nat}{c0:UInt8}(hn:(n:Int)=min (bs.length:Int) lim)(hi:InR bs lim p)(h0:bs[p]? = some c0)(hp:¬(p:Int)=lim)(h1:¬c0.toNat=34)(h2:¬c0.toNat=92)(h3:¬c0.toNat<32)(acc:List UInt8)(g:Nat)(hg:bs.length+1≤p+g):match qkn bs n p c0 with
  |(k,true)=>1≤k∧InR bs lim (p+k)∧k≤g∧qbu bs lim g p acc acc.length=qbu bs lim (g-k) (p+k) (acc++qaL bs p k) (acc++qaL bs p k).length
  |(k,false)=>InR bs lim (p+k)∧qbu bs lim g p acc acc.length=.error (qaI bs l (p+k) 9):=by
 have hlt:=ltL h0
 have hadd:qbb (acc.drop acc.length) c0=qbb [] c0:=by rw[List.drop_length]
 obtain⟨g,rfl⟩:∃g',g=g'+1:=⟨g-1,by omega⟩
 have hs:qbu bs lim (g+1) p acc acc.length=if qbb [] c0=0 then .error (9,(p:Int)) else qbu bs lim g (p+1) (acc++[c0]) (if qbb [] c0=2 then acc.length+1 else acc.length):=by
  conv=>lhs;rw[qbu,h0]
  simp only[]
  rw[if_neg hp,if_neg (fun h=>h1 h.1),if_neg (fun h=>h2 h.1),if_neg h3,hadd]
 unfold qkn
 rw[qhf] at hs
 by_cases k0:qaV c0=0
 ·rw[if_pos k0]
  simp only[]
  rw[if_pos k0] at hs
  simp only[Nat.add_zero]
  refine⟨hi,?_⟩
  rw[hs,qa6 hl hi h0 hp]
  rfl
 ·rw[if_neg k0]
  rw[if_neg k0] at hs
  have hs2:qbu bs lim (g+1) p acc acc.length=qbu bs lim g (p+1) (acc++qaL bs p 1) (if qaV c0-1=0 then acc.length+1 else acc.length):=by
   rw[hs,if_neg (by split<;>decide),ql5 h0]
   by_cases k1:qaV c0=1
   ·rw[if_pos k1,if_pos rfl,if_pos (by omega)]
   ·rw[if_neg k1,if_neg (by decide),if_neg (by omega)]
  have hkl:qaV c0≤4:=(qgT c0).2.2.2
  have hm:=qiS hl hn h0 acc (qaV c0-1) 1 g (Nat.le_refl _) (by omega) (qav hi h0 hp) (by omega)
  rw[←hs2] at hm
  generalize qh0 bs n p c0 (qaV c0-1) 1=r at hm ⊢
  obtain⟨k,b⟩:=r
  cases b
  ·exact⟨hm.2.1,hm.2.2⟩
  ·simp only[] at hm ⊢
   obtain⟨a,b,c⟩:=hm
   have:=b.1
   refine⟨by omega,b,by omega,?_⟩
   rw[c,show g-(qaV c0-1)=g+1-k by omega]
theorem qiP {bs:List UInt8}{l lim:Int}(hl:Lm bs l lim){n p m:Nat}{c0:UInt8}(hn:(n:Int)=min (min (bs.length:Int) lim) (p+m:Nat))(h0:bs[p]? = some c0)(acc:List UInt8):∀(g j:Nat),1≤j→j+g=qaV c0→InR bs lim (p+j)→j≤m →
  match qh0 bs n p c0 g j with
  |(k,true)=>k=qaV c0∧InR bs lim (p+k)∧k≤m∧qbt bs lim (m-j) (p+j) (acc++qaL bs p j) (if g=0 then acc.length+j else acc.length)=qbt bs lim (m-k) (p+k) (acc++qaL bs p k) (acc++qaL bs p k).length
  |(k,false)=>InR bs lim (p+k)∧k≤m∧qbt bs lim (m-j) (p+j) (acc++qaL bs p j) (if g=0 then acc.length+j else acc.length)=(if k=m then .error (9,((p+k:Nat):Int)-1) else .error (qaI bs l (p+k) 9))
 |0,j,hj,hg,hi,hm=>by
  rw[qh0]
  simp only[]
  have hj2:j=qaV c0:=by omega
  subst hj2
  refine⟨trivial,hi,hm,?_⟩
  rw[if_pos trivial,List.length_append,qel hi.1]
 |g+1,j,hj,hg,hi,hm=>by
  have hlen:(acc++qaL bs p j).length=acc.length+j:=by rw[List.length_append,qel hi.1]
  rw[qh0]
  by_cases hnj:n≤p+j
  ·rw[if_pos hnj]
   simp only[]
   refine⟨hi,hm,?_⟩
   rw[if_neg (by omega)]
   by_cases hjm:j=m
   ·rw[if_pos hjm,show m-j=0 by omega,qbt,if_neg (by omega)]
   ·rw[if_neg hjm]
    obtain⟨f,hf⟩:∃f',m-j=f'+1:=⟨m-j-1,by omega⟩
    rw[hf,qbt]
    cases hc:bs[p+j]? with
    |none=>simp only[];rw[qaH hi.1 hc]
    |some c =>
     have h1:=ltL hc
     have h2:((p+j:Nat):Int)=lim:=by have:=hi.2;omega
     simp only[]
     rw[if_pos h2,qaU hl hc h2]
  ·rw[if_neg hnj]
   have h1:p+j<bs.length:=by omega
   have hc:=List.getElem?_eq_getElem h1
   obtain⟨c,hcc⟩:∃c,c=bs[p+j]:=⟨_,rfl⟩
   rw[←hcc] at hc
   rw[hc]
   simp only[]
   have h2:¬((p+j:Nat):Int)=lim:=by omega
   have hjm:¬j=m:=by omega
   obtain⟨f,hf⟩:∃f',m-j=f'+1:=⟨m-j-1,by omega⟩
   obtain⟨t,ht,htl⟩:=qiL h0 hj (by omega)
   have hal:=qmQ c0 t c (by omega)
   have hcut:(acc++qaL bs p j).drop acc.length=c0::t:=by rw[List.drop_left,ht]
   rw[←hcut,htl,show t.length+2=j+1 by omega] at hal
   by_cases hb:qcg c0 j c=true
   ·rw[if_pos hb]
    simp only[]
    refine⟨hi,hm,?_⟩
    rw[if_neg (by omega),if_neg hjm,hf,qbt,hc]
    simp only[]
    rw[if_pos hb] at hal
    rw[if_neg h2,if_pos hal,qa6 hl hi hc h2]
   ·rw[if_neg hb]
    rw[if_neg hb] at hal
    have ih:=qiP hl hn h0 acc g (j+1) (by omega) (by omega) (qav hi hc h2) (by omega)
    have hstep:qbt bs lim (m-j) (p+j) (acc++qaL bs p j) (if g+1=0 then acc.length+j else acc.length)=qbt bs lim (m-(j+1)) (p+(j+1)) (acc++qaL bs p (j+1)) (if g=0 then acc.length+(j+1) else acc.length):=by
     rw[if_neg (by omega),hf,qbt,hc]
     simp only[]
     rw[if_neg h2,hal,hlen,show m-(j+1)=f by omega]
     have h0':¬(if j+1=qaV c0 then 2 else 1)=0:=by split<;>decide
     rw[if_neg h0',qcJ hc,List.append_assoc]
     by_cases hg0:g=0
     ·rw[if_pos (show j+1=qaV c0 by omega),if_pos rfl,if_pos hg0]
      rfl
     ·rw[if_neg (show ¬j+1=qaV c0 by omega),if_neg (by decide),if_neg hg0]
      rfl
    rw[hstep]
    exact ih
theorem qfL {bs:List UInt8}{l lim:Int}(hl:Lm bs l lim){n p m:Nat}{c0:UInt8}(hn:(n:Int)=min (min (bs.length:Int) lim) (p+m:Nat))(hi:InR bs lim p)(h0:bs[p]? = some c0)(hp:¬(p:Int)=lim)(hm0:0<m)(acc:List UInt8):match qkn bs n p c0 with
  |(k,true)=>1≤k∧InR bs lim (p+k)∧k≤m∧qbt bs lim m p acc acc.length=qbt bs lim (m-k) (p+k) (acc++qaL bs p k) (acc++qaL bs p k).length
  |(k,false)=>InR bs lim (p+k)∧k≤m∧qbt bs lim m p acc acc.length=(if k=m then .error (9,((p+k:Nat):Int)-1) else .error (qaI bs l (p+k) 9)):=by
 have hlt:=ltL h0
 have hadd:qbb (acc.drop acc.length) c0=qbb [] c0:=by rw[List.drop_length]
 have hs:qbt bs lim m p acc acc.length=if qbb [] c0=0 then .error (9,(p:Int)) else qbt bs lim (m-1) (p+1) (acc++[c0]) (if qbb [] c0=2 then acc.length+1 else acc.length):=by
  obtain⟨g,rfl⟩:∃g',m=g'+1:=⟨m-1,by omega⟩
  conv=>lhs;rw[qbt,h0]
  simp only[]
  rw[if_neg hp,hadd]
  rfl
 unfold qkn
 rw[qhf] at hs
 by_cases k0:qaV c0=0
 ·rw[if_pos k0]
  simp only[]
  rw[if_pos k0] at hs
  simp only[Nat.add_zero]
  refine⟨hi,by omega,?_⟩
  rw[if_neg (by omega),hs,qa6 hl hi h0 hp]
  rfl
 ·rw[if_neg k0]
  rw[if_neg k0] at hs
  have hs2:qbt bs lim m p acc acc.length=qbt bs lim (m-1) (p+1) (acc++qaL bs p 1) (if qaV c0-1=0 then acc.length+1 else acc.length):=by
   rw[hs,if_neg (by split<;>decide),ql5 h0]
   by_cases k1:qaV c0=1
   ·rw[if_pos k1,if_pos rfl,if_pos (by omega)]
   ·rw[if_neg k1,if_neg (by decide),if_neg (by omega)]
  have hm:=qiP hl hn h0 acc (qaV c0-1) 1 (Nat.le_refl _) (by omega) (qav hi h0 hp) (by omega)
  rw[←hs2] at hm
  generalize qh0 bs n p c0 (qaV c0-1) 1=r at hm ⊢
  obtain⟨k,b⟩:=r
  cases b
  ·exact hm
  ·simp only[] at hm ⊢
   obtain⟨a,b,c,d⟩:=hm
   exact⟨by omega,b,c,d⟩
theorem qkX (W:World)(c:UInt8)(h1:0≤(c.toNat:Int))(h2:(c.toNat:Int)≤127):Calls prog 112 #[.int .u8 c.toNat] W fun e W'=>e=.returned (.tuple #[.int .u8 0,.int .u8 0,.int .i64 1])∧W'=W:=by
 have e224:=nec (c:=c) 224 (by omega)
 have e237:=nec (c:=c) 237 (by omega)
 have e240:=nec (c:=c) 240 (by omega)
 have e244:=nec (c:=c) 244 (by omega)
 go_enter func112,ntmps112
 go_wp2
 refine bodyPost_ret (results_tmp3 results112 _ _ _) rfl ⟨rfl,rfl⟩
theorem qiy (W:World)(c:UInt8)(h1:128≤(c.toNat:Int))(h2:(c.toNat:Int)≤193):Calls prog 112 #[.int .u8 c.toNat] W fun e W'=>e=.returned (.tuple #[.int .u8 0,.int .u8 0,.int .i64 0])∧W'=W:=by
 have e224:=nec (c:=c) 224 (by omega)
 have e237:=nec (c:=c) 237 (by omega)
 have e240:=nec (c:=c) 240 (by omega)
 have e244:=nec (c:=c) 244 (by omega)
 go_enter func112,ntmps112
 go_wp2
 refine bodyPost_ret (results_tmp3 results112 _ _ _) rfl ⟨rfl,rfl⟩
theorem qii (W:World)(c:UInt8)(h1:194≤(c.toNat:Int))(h2:(c.toNat:Int)≤223):Calls prog 112 #[.int .u8 c.toNat] W fun e W'=>e=.returned (.tuple #[.int .u8 128,.int .u8 191,.int .i64 2])∧W'=W:=by
 have e224:=nec (c:=c) 224 (by omega)
 have e237:=nec (c:=c) 237 (by omega)
 have e240:=nec (c:=c) 240 (by omega)
 have e244:=nec (c:=c) 244 (by omega)
 go_enter func112,ntmps112
 go_wp2
 refine bodyPost_ret (results_tmp3 results112 _ _ _) rfl ⟨rfl,rfl⟩
theorem qhU (W:World)(c:UInt8)(h1:224≤(c.toNat:Int))(h2:(c.toNat:Int)≤224):Calls prog 112 #[.int .u8 c.toNat] W fun e W'=>e=.returned (.tuple #[.int .u8 160,.int .u8 191,.int .i64 3])∧W'=W:=by
 have e224:((c.toNat:Int)==224)=true:=by simp;omega
 have e237:=nec (c:=c) 237 (by omega)
 have e240:=nec (c:=c) 240 (by omega)
 have e244:=nec (c:=c) 244 (by omega)
 go_enter func112,ntmps112
 go_wp2
 refine bodyPost_ret (results_tmp3 results112 _ _ _) rfl ⟨rfl,rfl⟩
theorem qhK (W:World)(c:UInt8)(h1:225≤(c.toNat:Int))(h2:(c.toNat:Int)≤236):Calls prog 112 #[.int .u8 c.toNat] W fun e W'=>e=.returned (.tuple #[.int .u8 128,.int .u8 191,.int .i64 3])∧W'=W:=by
 have e224:=nec (c:=c) 224 (by omega)
 have e237:=nec (c:=c) 237 (by omega)
 have e240:=nec (c:=c) 240 (by omega)
 have e244:=nec (c:=c) 244 (by omega)
 go_enter func112,ntmps112
 go_wp2
 refine bodyPost_ret (results_tmp3 results112 _ _ _) rfl ⟨rfl,rfl⟩
theorem qhL (W:World)(c:UInt8)(h1:237≤(c.toNat:Int))(h2:(c.toNat:Int)≤237):Calls prog 112 #[.int .u8 c.toNat] W fun e W'=>e=.returned (.tuple #[.int .u8 128,.int .u8 159,.int .i64 3])∧W'=W:=by
 have e224:=nec (c:=c) 224 (by omega)
 have e237:((c.toNat:Int)==237)=true:=by simp;omega
 have e240:=nec (c:=c) 240 (by omega)
 have e244:=nec (c:=c) 244 (by omega)
 go_enter func112,ntmps112
 go_wp2
 refine bodyPost_ret (results_tmp3 results112 _ _ _) rfl ⟨rfl,rfl⟩
theorem qie (W:World)(c:UInt8)(h1:238≤(c.toNat:Int))(h2:(c.toNat:Int)≤239):Calls prog 112 #[.int .u8 c.toNat] W fun e W'=>e=.returned (.tuple #[.int .u8 128,.int .u8 191,.int .i64 3])∧W'=W:=by
 have e224:=nec (c:=c) 224 (by omega)
 have e237:=nec (c:=c) 237 (by omega)
 have e240:=nec (c:=c) 240 (by omega)
 have e244:=nec (c:=c) 244 (by omega)
 go_enter func112,ntmps112
 go_wp2
 refine bodyPost_ret (results_tmp3 results112 _ _ _) rfl ⟨rfl,rfl⟩
theorem qiz (W:World)(c:UInt8)(h1:240≤(c.toNat:Int))(h2:(c.toNat:Int)≤240):Calls prog 112 #[.int .u8 c.toNat] W fun e W'=>e=.returned (.tuple #[.int .u8 144,.int .u8 191,.int .i64 4])∧W'=W:=by
 have e224:=nec (c:=c) 224 (by omega)
 have e237:=nec (c:=c) 237 (by omega)
 have e240:((c.toNat:Int)==240)=true:=by simp;omega
 have e244:=nec (c:=c) 244 (by omega)
 go_enter func112,ntmps112
 go_wp2
 refine bodyPost_ret (results_tmp3 results112 _ _ _) rfl ⟨rfl,rfl⟩
theorem qhE (W:World)(c:UInt8)(h1:241≤(c.toNat:Int))(h2:(c.toNat:Int)≤243):Calls prog 112 #[.int .u8 c.toNat] W fun e W'=>e=.returned (.tuple #[.int .u8 128,.int .u8 191,.int .i64 4])∧W'=W:=by
 have e224:=nec (c:=c) 224 (by omega)
 have e237:=nec (c:=c) 237 (by omega)
 have e240:=nec (c:=c) 240 (by omega)
 have e244:=nec (c:=c) 244 (by omega)
 go_enter func112,ntmps112
 go_wp2
 refine bodyPost_ret (results_tmp3 results112 _ _ _) rfl ⟨rfl,rfl⟩
theorem qh7 (W:World)(c:UInt8)(h1:244≤(c.toNat:Int))(h2:(c.toNat:Int)≤244):Calls prog 112 #[.int .u8 c.toNat] W fun e W'=>e=.returned (.tuple #[.int .u8 128,.int .u8 143,.int .i64 4])∧W'=W:=by
 have e224:=nec (c:=c) 224 (by omega)
 have e237:=nec (c:=c) 237 (by omega)
 have e240:=nec (c:=c) 240 (by omega)
 have e244:((c.toNat:Int)==244)=true:=by simp;omega
 go_enter func112,ntmps112
 go_wp2
 refine bodyPost_ret (results_tmp3 results112 _ _ _) rfl ⟨rfl,rfl⟩
theorem qhT (W:World)(c:UInt8)(h1:245≤(c.toNat:Int))(h2:(c.toNat:Int)≤255):Calls prog 112 #[.int .u8 c.toNat] W fun e W'=>e=.returned (.tuple #[.int .u8 0,.int .u8 0,.int .i64 0])∧W'=W:=by
 have e224:=nec (c:=c) 224 (by omega)
 have e237:=nec (c:=c) 237 (by omega)
 have e240:=nec (c:=c) 240 (by omega)
 have e244:=nec (c:=c) 244 (by omega)
 go_enter func112,ntmps112
 go_wp2
 refine bodyPost_ret (results_tmp3 results112 _ _ _) rfl ⟨rfl,rfl⟩
theorem qih (W:World)(c:UInt8):Calls prog 112 #[.int .u8 c.toNat] W fun e W'=>e=.returned (.tuple #[.int .u8 (qbg c),.int .u8 (qbm c),.int .i64 (qaV c)])∧W'=W:=by
 have h:=c.toNat_lt
 by_cases h0:c.toNat≤127
 ·have:=qkX W c (by omega) (by omega)
  rw[show qbg c=0 by unfold qbg;repeat (first|rw[if_pos (by omega)]|rw[if_neg (by omega)]),show qbm c=0 by unfold qbm;repeat (first|rw[if_pos (by omega)]|rw[if_neg (by omega)]),show qaV c=1 by unfold qaV;repeat (first|rw[if_pos (by omega)]|rw[if_neg (by omega)])]
  exact this
 by_cases h128:c.toNat≤193
 ·have:=qiy W c (by omega) (by omega)
  rw[show qbg c=0 by unfold qbg;repeat (first|rw[if_pos (by omega)]|rw[if_neg (by omega)]),show qbm c=0 by unfold qbm;repeat (first|rw[if_pos (by omega)]|rw[if_neg (by omega)]),show qaV c=0 by unfold qaV;repeat (first|rw[if_pos (by omega)]|rw[if_neg (by omega)])]
  exact this
 by_cases h194:c.toNat≤223
 ·have:=qii W c (by omega) (by omega)
  rw[show qbg c=128 by unfold qbg;repeat (first|rw[if_pos (by omega)]|rw[if_neg (by omega)]),show qbm c=191 by unfold qbm;repeat (first|rw[if_pos (by omega)]|rw[if_neg (by omega)]),show qaV c=2 by unfold qaV;repeat (first|rw[if_pos (by omega)]|rw[if_neg (by omega)])]
  exact this
 by_cases h224:c.toNat≤224
 ·have:=qhU W c (by omega) (by omega)
  rw[show qbg c=160 by unfold qbg;repeat (first|rw[if_pos (by omega)]|rw[if_neg (by omega)]),show qbm c=191 by unfold qbm;repeat (first|rw[if_pos (by omega)]|rw[if_neg (by omega)]),show qaV c=3 by unfold qaV;repeat (first|rw[if_pos (by omega)]|rw[if_neg (by omega)])]
  exact this
 by_cases h225:c.toNat≤236
 ·have:=qhK W c (by omega) (by omega)
  rw[show qbg c=128 by unfold qbg;repeat (first|rw[if_pos (by omega)]|rw[if_neg (by omega)]),show qbm c=191 by unfold qbm;repeat (first|rw[if_pos (by omega)]|rw[if_neg (by omega)]),show qaV c=3 by unfold qaV;repeat (first|rw[if_pos (by omega)]|rw[if_neg (by omega)])]
  exact this
 by_cases h237:c.toNat≤237
 ·have:=qhL W c (by omega) (by omega)
  rw[show qbg c=128 by unfold qbg;repeat (first|rw[if_pos (by omega)]|rw[if_neg (by omega)]),show qbm c=159 by unfold qbm;repeat (first|rw[if_pos (by omega)]|rw[if_neg (by omega)]),show qaV c=3 by unfold qaV;repeat (first|rw[if_pos (by omega)]|rw[if_neg (by omega)])]
  exact this
 by_cases h238:c.toNat≤239
 ·have:=qie W c (by omega) (by omega)
  rw[show qbg c=128 by unfold qbg;repeat (first|rw[if_pos (by omega)]|rw[if_neg (by omega)]),show qbm c=191 by unfold qbm;repeat (first|rw[if_pos (by omega)]|rw[if_neg (by omega)]),show qaV c=3 by unfold qaV;repeat (first|rw[if_pos (by omega)]|rw[if_neg (by omega)])]
  exact this
 by_cases h240:c.toNat≤240
 ·have:=qiz W c (by omega) (by omega)
  rw[show qbg c=144 by unfold qbg;repeat (first|rw[if_pos (by omega)]|rw[if_neg (by omega)]),show qbm c=191 by unfold qbm;repeat (first|rw[if_pos (by omega)]|rw[if_neg (by omega)]),show qaV c=4 by unfold qaV;repeat (first|rw[if_pos (by omega)]|rw[if_neg (by omega)])]
  exact this
 by_cases h241:c.toNat≤243
 ·have:=qhE W c (by omega) (by omega)
  rw[show qbg c=128 by unfold qbg;repeat (first|rw[if_pos (by omega)]|rw[if_neg (by omega)]),show qbm c=191 by unfold qbm;repeat (first|rw[if_pos (by omega)]|rw[if_neg (by omega)]),show qaV c=4 by unfold qaV;repeat (first|rw[if_pos (by omega)]|rw[if_neg (by omega)])]
  exact this
 by_cases h244:c.toNat≤244
 ·have:=qh7 W c (by omega) (by omega)
  rw[show qbg c=128 by unfold qbg;repeat (first|rw[if_pos (by omega)]|rw[if_neg (by omega)]),show qbm c=143 by unfold qbm;repeat (first|rw[if_pos (by omega)]|rw[if_neg (by omega)]),show qaV c=4 by unfold qaV;repeat (first|rw[if_pos (by omega)]|rw[if_neg (by omega)])]
  exact this
 have:=qhT W c (by omega) (by omega)
 rw[show qbg c=0 by unfold qbg;repeat (first|rw[if_pos (by omega)]|rw[if_neg (by omega)]),show qbm c=0 by unfold qbm;repeat (first|rw[if_pos (by omega)]|rw[if_neg (by omega)]),show qaV c=0 by unfold qaV;repeat (first|rw[if_pos (by omega)]|rw[if_neg (by omega)])]
 exact this
theorem qnZ (c:UInt8):qbg c≤255∧qbm c≤255∧qaV c≤4:=by
 refine⟨?_,?_,(qgT c).2.2.2⟩
 ·unfold qbg
  repeat' split
  all_goals omega
 ·unfold qbm
  repeat' split
  all_goals omega
def qo5 (r:Nat×Bool):Value:=.tuple #[.int .i64 r.1,.bool r.2]
theorem qcC (W:World)(bs:List UInt8)(p n:Nat)(ch:UInt8)(hc:bs[p]? = some ch)(hb:bs.length≤200000000)(hn:n≤bs.length):Calls prog 68 #[.string ⟨bs.toArray⟩,.int .i64 p,.int .i64 n] W fun e W'=>e=.returned (qo5 (qkn bs n p ch))∧W'=W:=by
 obtain⟨R,HR⟩:∃R,Hid (qkn bs n p ch=R):=⟨_,show _=_ from rfl⟩
 rw[HR.out]
 have hpl:=ltL hc
 have hix:=fun V=>qah bs p ch hc V
 obtain⟨h1,h2,h3⟩:=qnZ ch
 have cS:=qih W ch
 have hr:=HR.out
 unfold qkn at hr
 clear hc HR
 obtain⟨lo,hlo⟩:∃lo,lo=qbg ch:=⟨_,rfl⟩
 obtain⟨hi,hhi⟩:∃hi,hi=qbm ch:=⟨_,rfl⟩
 obtain⟨kk,hkk⟩:∃kk,kk=qaV ch:=⟨_,rfl⟩
 rw[←hlo,←hhi,←hkk] at cS
 rw[←hkk] at hr h3
 rw[←hlo] at h1
 rw[←hhi] at h2
 have HLO:Hid (lo=qbg ch):=hlo
 have HHI:Hid (hi=qbm ch):=hhi
 have HKK:Hid (kk=qaV ch):=hkk
 clear hlo hhi hkk
 by_cases hk0:kk=0
 ·rw[if_pos hk0] at hr
  have HE:Hid (R=(0,false)):=hr.symm
  have hz:((kk:Int)==0)=true:=by rw[hk0];rfl
  clear hr hk0
  go_enter func68,ntmps68
  go_wp2_with (first
   |(go_at_call 112;refine cS.mono ?_;clear cS;rintro e w2 ⟨rfl,rfl⟩))
  go_ret2
  rw[HE.out]
  exact⟨rfl,rfl⟩
 ·rw[if_neg hk0] at hr
  have hz:((kk:Int)==0)=false:=by simp;omega
  have HR:Hid (qh0 bs n p ch (kk-1) 1=R):=hr
  clear hr
  go_enter func68,ntmps68
  go_wp2_with (first
   |(go_at_call 112;refine cS.mono ?_;clear cS;rintro e w2 ⟨rfl,rfl⟩))
  clear hz hix
  go_loopg [11] (kk-1) (fun g z wr=>wr=w2∧∃j:Nat,z=.int .i64 j∧Hid (j+g=kk)∧Hid (1≤j)∧Hid (qh0 bs n p ch g j=R))
  case atStart=>exact⟨rfl,1,rfl,by show _=_;omega,Nat.le_refl _,HR⟩
  case round =>
   clear HR
   obtain⟨rfl,j,rfl,hg,hj,HR⟩:=hrel
   have hr:=HR.out
   cases gk with
   |zero =>
    rw[qh0] at hr
    have HE:Hid (R=(kk,true)):=by show _=_;rw[←hr,HKK.out]
    have hlt:¬(j:Int)<(kk:Int):=by have:=hg.out;omega
    clear hr HR hg
    go_wp2
    go_ret2
    rw[HE.out]
    exact⟨rfl,rfl⟩
   |succ g =>
    rw[qh0] at hr
    have hlt:(j:Int)<(kk:Int):=by have:=hg.out;omega
    by_cases hnj:n≤p+j
    ·rw[if_pos hnj] at hr
     have HE:Hid (R=(j,false)):=hr.symm
     have hnz:(n:Int)≤(p:Int)+(j:Int):=by omega
     clear hr HR hg hnj
     go_wp2
     go_ret2
     rw[HE.out]
     exact⟨rfl,rfl⟩
    ·rw[if_neg hnj] at hr
     have hnz:¬(n:Int)≤(p:Int)+(j:Int):=by omega
     have hpj:p+j<bs.length:=by omega
     obtain⟨cc,hcc⟩:∃cc,cc=bs[p+j]:=⟨_,rfl⟩
     have hcj:bs[p+j]? = some cc:=by rw[hcc];exact List.getElem?_eq_getElem hpj
     have hixj:=fun V=>qah bs (p+j) cc hcj V
     rw[show((p+j:Nat):Int)=(p:Int)+(j:Int) by omega] at hixj
     rw[hcj] at hr
     simp only[] at hr
     have hc255:=cc.toNat_lt
     by_cases hj1:j=1
     ·have hs:=qhC ch cc
      rw[←HLO.out,←HHI.out] at hs
      have e1:((j:Int)==1)=true:=by rw[hj1];rfl
      have e2:decide (1<(j:Int))=false:=by rw[hj1];rfl
      rw[hj1] at hr
      by_cases hb1:cc.toNat<lo
      ·rw[if_pos (hs.2 (.inl hb1))] at hr
       have HE:Hid (R=(j,false)):=by show _=_;rw[←hr,hj1]
       have g1:(cc.toNat:Int)<(lo:Int):=by omega
       clear hr HR hg hj1 hs hcc hcj hnj hb1
       go_wp2
       go_ret2
       rw[HE.out]
       exact⟨rfl,rfl⟩
      ·by_cases hb2:hi<cc.toNat
       ·rw[if_pos (hs.2 (.inr hb2))] at hr
        have HE:Hid (R=(j,false)):=by show _=_;rw[←hr,hj1]
        have g1:decide ((cc.toNat:Int)<(lo:Int))=false:=by simp;omega
        have g2:(hi:Int)<(cc.toNat:Int):=by omega
        have q1:lo≤cc.toNat:=by omega
        clear hr HR hg hj1 hs hcc hcj hnj hb1 hb2
        go_wp2
        go_ret2
        rw[HE.out]
        exact⟨rfl,rfl⟩
       ·rw[if_neg (fun h=>by have:=hs.1 h;omega)] at hr
        have HN:Hid (qh0 bs n p ch g (j+1)=R):=by show _=_;rw[hj1];exact hr
        have g1:decide ((cc.toNat:Int)<(lo:Int))=false:=by simp;omega
        have g2:decide ((hi:Int)<(cc.toNat:Int))=false:=by simp;omega
        have q1:lo≤cc.toNat:=by omega
        have q2:cc.toNat≤hi:=by omega
        clear hr HR hj1 hs hcc hcj hnj hb1 hb2
        go_wp2
        go_roundg g
        case measure=>omega
        case rel=>exact⟨rfl,j+1,by go_num,by show _=_;have:=hg.out;omega,by show _≤_;omega,HN⟩
     ·have hjm:1<j:=by have:=hj.out;omega
      have hs:=qds ch cc j hjm
      have e1:((j:Int)==1)=false:=by simp;omega
      have e2:1<(j:Int):=by omega
      by_cases hb1:cc.toNat<128
      ·rw[if_pos (hs.2 (.inl hb1))] at hr
       have HE:Hid (R=(j,false)):=hr.symm
       have g1:(cc.toNat:Int)<128:=by omega
       clear hr HR hg hj1 hs hcc hcj hnj hb1 hjm
       go_wp2
       go_ret2
       rw[HE.out]
       exact⟨rfl,rfl⟩
      ·by_cases hb2:191<cc.toNat
       ·rw[if_pos (hs.2 (.inr hb2))] at hr
        have HE:Hid (R=(j,false)):=hr.symm
        have g1:decide ((cc.toNat:Int)<128)=false:=by simp;omega
        have g2:191<(cc.toNat:Int):=by omega
        clear hr HR hg hj1 hs hcc hcj hnj hb1 hb2 hjm
        go_wp2
        go_ret2
        rw[HE.out]
        exact⟨rfl,rfl⟩
       ·rw[if_neg (fun h=>by have:=hs.1 h;omega)] at hr
        have HN:Hid (qh0 bs n p ch g (j+1)=R):=hr
        have g1:decide ((cc.toNat:Int)<128)=false:=by simp;omega
        have g2:decide (191<(cc.toNat:Int))=false:=by simp;omega
        clear hr HR hj1 hs hcc hcj hnj hb1 hb2 hjm
        go_wp2
        go_roundg g
        case measure=>omega
        case rel=>exact⟨rfl,j+1,by go_num,by show _=_;have:=hg.out;omega,by show _≤_;omega,HN⟩
end
section
open Go.RowKit
theorem Own.mono {W:World}{b b':Nat}{v:Value}{bs:List UInt8}(h:Own W b v bs)(hb:b'≤b):Own W b' v bs:=by
 obtain⟨⟨h1,h2⟩,h3,h4⟩:=h
 refine⟨⟨h1,?_⟩,by omega,h4⟩
 rcases h2 with h2|⟨g,cap,cur,e,hg,h5⟩
 ·exact .inl h2
 ·exact .inr ⟨g,cap,cur,e,by omega,h5⟩
end
end Go.Proofs.YtllcbnfmihfaaaaGreatDoor
