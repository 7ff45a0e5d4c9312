import Derived.Shelf.Unicode.DecodeSlow
import Derived.Lib.ValidU
import Derived.Lib.TrimUEq
import Derived.Shelf.Unicode.ValidAny
import Derived.Lib.IndexLaws
import Derived.Lib.IndexMore
import Derived.RangeFuncBound
import Derived.RangeFuncCalls
import Derived.RangeFuncLeaves
import Derived.Shelf.Abstract
import Derived.OwnWalkIn
import Derived.TacticsInMore
import Derived.LoopNIn
import Derived.LoopIn
import Derived.Sort.LoopGhostIn
import Derived.Lib.Strings
import Derived.Lib.IndexBytes
import Derived.Test.YtllcbnfmihfaaaaGreatDoorCq09
import Derived.Test.YtllcbnfmihfaaaaGreatDoorCq08
set_option maxRecDepth 100000
set_option maxHeartbeats 8000000
namespace Go.Proofs.YtllcbnfmihfaaaaGreatDoor
open Go.Proofs.Tryz
variable {W W' w w':World}{P:Program}{N f i k:Nat}{r s:ByteArray}{c:UInt8}{l:List UInt8}{ps:List ByteArray}
section
open Go.RowKit
structure Cfg where
 labels:Int
 L:List (Int×Int)
 ea:Option Addr
 ecap:Nat
 dflt:Int
 pol:ByteArray
 clr:Int
 key:Int
 inn:Int
 out:Int
 depth:Int
 bytes:Int
 B:List Int
 ba:Option Addr
 bcap:Nat
def Cfg.arr (c:Cfg):Array Value:=#[.int .i64 c.labels,.slice c.ea c.L.length c.ecap,.int .i64 c.dflt,.string c.pol,.int .i64 c.clr,.int .i64 c.key,.int .i64 c.inn,.int .i64 c.out,.int .i64 c.depth,.int .i64 c.bytes,.slice c.ba c.B.length c.bcap]
theorem Cfg.size (c:Cfg):c.arr.size=11:=rfl
theorem Cfg.one (c:Cfg):c.arr.all (·.oneCell')=true:=by simp[Cfg.arr,Value.oneCell']
structure ql7 (w:World)(c:Cfg):Prop where
 edges:qaY w c.ea c.L
 ints:qbV w c.ba c.B
 en:c.ea=none→c.L.length=0∧c.ecap=0
 bn:c.ba=none→c.B.length=0∧c.bcap=0
 eb:(c.L.length+8)*16≤281474976710656
 bb:(c.B.length+8)*8≤281474976710656
theorem ql7.below {c:Cfg}(h:ql7 w c)(hb:Below w.heap.size w w'):ql7 w' c:=⟨h.edges.below hb,h.ints.below hb,h.en,h.bn,h.eb,h.bb⟩
structure qlZ (w:World):Prop where
 signs:∃t fr,w.heap[2]? = some (.cells #[.string ⟨#[42]⟩,.int .i64 0,.string ⟨#[42,42]⟩,.int .i64 1,.string ⟨#[91,93]⟩,.int .i64 2] t fr)
 tabs:Lib.Utf8Tabs 4 5 w
 mlen:∃m,w.cell? ⟨3,0,none⟩=some (.int .i64 m)
theorem qlZ.below (h:qlZ w)(hb:Below w.heap.size w w'):qlZ w':=by
 obtain⟨t,fr,h1⟩:=h.signs;obtain⟨m,h2⟩:=h.mlen;exact⟨⟨t,fr,(hb.block _ (ltA h1)).trans h1⟩,Utf8Tabs_below h.tabs hb,⟨m,(hb.cell (p:=⟨_,0,none⟩) (block_lt_of_cell h2)).trans h2⟩⟩
def qwN (f:Nat)(E N:Cfg→Int):Prop:=∀(c:Cfg) (w:World),ql7 w c→qlZ w→Calls prog f #[.agg c.arr] w fun e w'=>e=.returned (.tuple #[.int .i64 (E c),.int .i64 (N c)])∧Below w.heap.size w w'
theorem qux (n b0 b1 b2 b3:Nat)(h0:128≤b0):128≤(Lib.decodeN n b0 b1 b2 b3).1:=by
 unfold Lib.decodeN
 repeat' split
 all_goals first|(simp;done)|(simp only[];omega)
def qr0 (r:Nat):Bool:=decide (r≤32)||(r==42||(r==91||(r==93||(r==47||r==46))))
def qmm:Nat→List UInt8→Option Nat
 |_,[]=>some 0
 |0,_::_=>none
 |g+1,b::t=>if qr0 (Lib.decodeL (b::t)).1=true then none else (qmm g ((b::t).drop (Lib.decodeL (b::t)).2)).map (·+1)
theorem qwA (b:UInt8)(t:List UInt8):qr0 (Lib.decodeL (b::t)).1=qqm b:=by
 by_cases h:b.toNat<128
 ·rw[Lib.decodeL_ascii b t h];rfl
 have h1:128≤(Lib.decodeL (b::t)).1:=by
  rw[Lib.decodeL_N];exact qux _ _ _ _ _ (by show 128≤b.toNat;omega)
 have e1:qr0 (Lib.decodeL (b::t)).1=false:=by
  unfold qr0;simp only[Bool.or_eq_false_iff,decide_eq_false_iff_not,beq_eq_false_iff_ne];omega
 have e2:qqm b=false:=by
  unfold qqm;simp only[Bool.or_eq_false_iff,decide_eq_false_iff_not,beq_eq_false_iff_ne];omega
 rw[e1,e2]
theorem qjc:∀(g:Nat) (l:List UInt8),l.length≤g→qlV g l=if Lib.validD l then qmm g l else none
 |g,[],_=>by cases g<;>simp[qlV,qmm,Lib.validD_nil]
 |0,b::t,h=>by simp at h
 |g+1,b::t,h=>by
  rw[Lib.validD_step (b::t) (by simp)];rcases qmW (b::t) (by simp) with ⟨hz,hd⟩|⟨hz,hd,hn⟩
  ·simp[qlV,hz,hd]
  rw[if_neg hn,qlV,qmm,qwA,hd];by_cases hb:qqm b=true
  ·rw[if_pos (Or.inr hb),if_pos hb];split<;>rfl
  rw[if_neg (by intro hh;rcases hh with hh|hh;omega;exact hb hh),if_neg hb,qjc g _ (by rw[List.length_drop];simp at h ⊢;omega)];split<;>rfl
theorem qnx (l:List UInt8):qgw l=(Lib.validD l&&qwG (qmm l.length l)):=by
 unfold qgw;rw[qjc l.length l (Nat.le_refl _)];cases Lib.validD l
 ·rfl
 rfl
end
section
open Go.RowKit Go.Shelf
theorem qgz (W:World)(N:Nat)(s:ByteArray)(pos:Nat)(ty:TypeId)(hN:W.heap[N]? = some (.stringIter s pos))(h:pos<s.size):(Instr.next (.pointer (some ⟨N,0,none⟩)) true ty).run P W =
   .ok (.tuple #[.bool true,.int .i64 pos,.int .i32 (Utf8.decode s pos).1]) (W.putObj N (.stringIter s (pos+(Utf8.decode s pos).2))):=by
 simp only[Instr.next,getObj,setObj,Sem.run_bind,Sem.run,hN,Result.andThen,h,if_true,World.putObj];simp[goInt]
theorem qeb (W:World)(N:Nat)(s:ByteArray)(pos:Nat)(ty:TypeId)(hN:W.heap[N]? = some (.stringIter s pos))(h:¬pos<s.size):(Instr.next (.pointer (some ⟨N,0,none⟩)) true ty).run P W=.ok (.tuple #[.bool false]) W:=by
 simp[Instr.next,getObj,Sem.run,hN,h]
theorem qbs {B:Nat}{a:World}(h:Below B a w){g:Nat}(hg:B≤g)(o:Obj):Below B a (w.putObj g o) :=
 h.trans ⟨rfl,rfl,rfl,by simp[World.putObj],fun k hk=>World.putObj_heap_other (by omega)⟩
structure qea (w:World)(N:Nat)(s:ByteArray)(i:Nat)(W:World):Prop where
 below:Below w.heap.size w W
 it:W.heap[N]? = some (.stringIter s i)
theorem qea.step (h:qea w N s i W)(hb:Below W.heap.size W W'):qea w N s i W' :=
 ⟨h.below.trans (hb.mono h.below.size),(hb.block _ (ltA h.it)).trans h.it⟩
theorem qea.next (h:qea w N s i W)(hN:w.heap.size≤N)(j:Nat):qea w N s j (W.putObj N (.stringIter s j)) :=
 ⟨qbs h.below hN _,World.putObj_heap_same (ltA h.it)⟩
theorem qna (r:Nat):qr0 r=(decide ((r:Int)≤32)||qua (r:Int)):=by
 unfold qr0 qua;rw[Bool.eq_iff_iff];simp only[Bool.or_eq_true,decide_eq_true_eq,beq_iff_eq];omega
theorem qh7 (s:ByteArray)(w:World)(hs:s.size≤2000)(hg:qlZ w):Calls prog 217 #[.string s] w fun e w'=>e=.returned (.bool (qgw s.data.toList))∧Below w.heap.size w w':=by
 have hl:s.data.toList.length=s.size:=Array.length_toList;have cV:Calls prog 236 #[.string s] w fun e w'=>e=.returned (.bool (Lib.validD s.data.toList))∧Below w.heap.size w w' :=
  Any.utf8_ValidString Tryz.lays196 s w (by omega) hg.tabs
 cases hv:Lib.validD s.data.toList
 ·have HB:Hid (qgw s.data.toList=false):=by show _=_;rw[qnx,hv];rfl
  rw[hv] at cV;go_enter func217,ntmps217
  go_wp2_with (first|(go_at_call 236;refine cV.mono ?_;rintro e w2 ⟨rfl,hB⟩))
  go_ret;exact⟨by rw[HB.out];rfl,hB⟩
 obtain⟨A,HA⟩:∃A,Hid (qmm s.data.toList.length s.data.toList=A):=⟨_,show _=_ from rfl⟩
 have HB:Hid (qgw s.data.toList=qwG A):=by show _=_;rw[qnx,hv,HA.out];rfl
 rw[hv] at cV;go_enter func217,ntmps217
 go_wp2_with (first|(go_at_call 236;refine cV.mono ?_;rintro e w2 ⟨rfl,hB⟩))
 have HI:Hid (qea w w2.heap.size s 0 (w2.iter s 0)):=⟨hB.alloc hB.size _,World.iter_heap _ _ _⟩
 have hN:=hB.size;generalize w2.iter s 0=W0 at *;generalize w2.heap.size=N at *
 go_loopg [3,5] s.size (fun g x _ wr=>∃n i:Nat,x=.int .i64 n∧Hid (n≤i)∧Hid (i≤s.size)∧Hid (s.size≤i+g)∧Hid (qea w N s i wr)∧Hid (A=(qmm g (s.data.toList.drop i)).map (·+n)))
 case atStart =>
  refine⟨0,0,rfl,Nat.le_refl _,Nat.zero_le _,by show _≤_;omega,HI,?_⟩;show _=_;rw[←HA.out,hl,List.drop_zero];cases qmm s.size s.data.toList<;>rfl
 case round =>
  obtain⟨n,i,rfl,hni,his,hig,HI,HL⟩:=hrel;by_cases h1:i=s.size
  ·have HF:Hid (qgw s.data.toList=decide (1≤n∧n≤16)):=by
    show _=_;have hA:A=some n:=by
     rw[HL.out,h1,←hl,List.drop_length];cases gk<;>simp[qmm]
    rw[HB.out,hA];rfl
   have hnx:=fun ty=>qeb (P:=prog) wr N s i ty HI.out.it (by omega);by_cases ha:(1:Int)≤n
   ·by_cases hb:(n:Int)≤16
    ·have HF2:Hid (qgw s.data.toList=true):=by show _=_;rw[HF.out,decide_eq_true (by omega)]
     go_wp2;go_ret;exact⟨by rw[HF2.out];rfl,HI.out.below⟩
    have HF2:Hid (qgw s.data.toList=false):=by show _=_;rw[HF.out,decide_eq_false (by omega)]
    go_wp2;go_ret;exact⟨by rw[HF2.out];rfl,HI.out.below⟩
   have HF2:Hid (qgw s.data.toList=false):=by show _=_;rw[HF.out,decide_eq_false (by omega)]
   go_wp2;go_ret;exact⟨by rw[HF2.out];rfl,HI.out.below⟩
  have hn:i<s.size:=by have:=his.out;omega
  obtain⟨g,rfl⟩:∃g,gk=g+1:=⟨gk-1,by have:=hig.out;omega⟩
  have hnx:=fun ty=>qgz (P:=prog) wr N s i ty HI.out.it hn;obtain⟨r,hr⟩:∃r,(Utf8.decode s i).1=r:=⟨_,rfl⟩
  obtain⟨k,hk⟩:∃k,(Utf8.decode s i).2=k:=⟨_,rfl⟩
  rw[hr,hk] at hnx;have HD:Hid (s.data.toList.drop i=s[i]::s.data.toList.drop (i+1)):=by show _=_;rw[List.drop_eq_getElem_cons (by omega)];rfl
  have hde:=Lib.decodeL_drop s i;have HC:Hid (qmm (g+1) (s.data.toList.drop i)=if qr0 r=true then none else (qmm g (s.data.toList.drop (i+k))).map (·+1)):=by
   show _=_;have h0:(Lib.decodeL (s.data.toList.drop i)).1=r:=by rw[hde];exact hr
   have h1:(Lib.decodeL (s.data.toList.drop i)).2=k:=by rw[hde];exact hk
   rw[HD.out] at h0 h1 ⊢;rw[qmm,h0,h1,←HD.out,List.drop_drop]
  have hk1:1≤k:=by have:=Lib.decodeL_width (s.data.toList.drop i);rw[hde,hk] at this;exact this
  have hkl:k≤s.size-i:=by
   have:=Lib.decodeL_le (s.data.toList.drop i) (by intro h;have:=congrArg List.length h;rw[List.length_drop] at this;simp at this;omega);rw[hde,hk,List.length_drop] at this;omega
  have HN:Hid (qr0 r=true→qgw s.data.toList=false):=fun h=>by
   have hA:A=none:=by rw[HL.out,HC.out,if_pos h];rfl
   rw[HB.out,hA];rfl
  have HY:Hid (qr0 r=false→A=(qmm g (s.data.toList.drop (i+k))).map (·+(n+1))):=fun h=>by
   rw[HL.out,HC.out,if_neg (by rw[h];simp),Option.map_map];congr 1;funext x;simp only[Function.comp];omega
  have HI2:Hid (qea w N s (i+k) (wr.putObj N (.stringIter s (i+k)))):=HI.out.next hN _
  have hn9:n≤2000:=by have:=hni.out;have:=his.out;omega
  have HBD:=qna r;generalize wr.putObj N (.stringIter s (i+k))=W2 at *;by_cases h32:(r:Int)≤32
  ·have HF:=HN.out (by rw[HBD,decide_eq_true h32];rfl);have HF2:=qaa HF;go_wp2;go_ret;exact⟨by rw[HF2.out];rfl,HI2.out.below⟩
  have cC:=qfb (r:Int) (by omega) W2;rw[decide_eq_false h32,Bool.false_or] at HBD;cases hsg:qua (r:Int)
  ·have HT:=qaa (HY.out (by rw[HBD,hsg]));rw[hsg] at cC
   go_wp2_with (first|(go_at_call 237;refine cC.mono ?_;rintro e w3 ⟨rfl,hB3⟩;have HI3:=qaa (HI2.out.step hB3)))
   go_roundg g
   case measure=>omega
   case rel =>
    refine⟨n+1,i+k,by go_num,?_,?_,?_,HI3,HT⟩
    all_goals (show _≤_;have:=hni.out;have:=his.out;have:=hig.out;omega)
  have HF2:=qaa (HN.out (by rw[HBD,hsg]));rw[hsg] at cC
  go_wp2_with (first|(go_at_call 237;refine cC.mono ?_;rintro e w3 ⟨rfl,hB3⟩;have HI3:=qaa (HI2.out.step hB3)))
  go_ret;exact⟨by rw[HF2.out];rfl,HI3.out.below⟩
end
section
open Go.RowKit
def qfm (f:Int):Bool:=f==1||f==2||f==3
theorem qcX (f:Int)(w:World):Calls prog 63 #[.int .i64 f] w fun e w'=>e=.returned (.bool (qfm f))∧w'=w:=by
 go_enter func63,ntmps63;go_wp2
 all_goals go_ret
 all_goals exact⟨by simp[qfm, *],rfl⟩
theorem qha (f:Int)(w:World):Calls prog 44 #[.int .i64 f] w fun e w'=>e=.returned (.bool (qfm f))∧w'=w:=by
 go_enter func44,ntmps44;go_wp2
 all_goals go_ret
 all_goals exact⟨by simp[qfm, *],rfl⟩
def qf4 (i o d b:Int):Bool:=qfm i&&qfm o&&decide (1≤d)&&decide (d≤16)&&decide (1≤b)&&decide (b≤4096)
theorem qjH (i o d b:Int)(w:World):Calls prog 38 #[.int .i64 i,.int .i64 o,.int .i64 d,.int .i64 b] w fun e w'=>e=.returned (.bool (qf4 i o d b))∧w'=w:=by
 cases e1:qfm i
 ·have HF:Hid (qf4 i o d b=false):=by show _=_;unfold qf4;rw[e1];rfl
  go_enter func38,ntmps38;have T1:True:=trivial
  go_wp2_with (first
   |(go_at_call 63;clear T1;refine(qcX _ _).mono ?_;rintro e w2 ⟨rfl,rfl⟩))
  go_ret;exact⟨by rw[HF.out];rfl,rfl⟩
 cases e2:qfm o
 ·have HF:Hid (qf4 i o d b=false):=by show _=_;unfold qf4;rw[e1,e2];rfl
  go_enter func38,ntmps38
  go_wp2_with (first
   |(go_at_call 63;refine(qcX _ _).mono ?_;rintro e w2 ⟨rfl,rfl⟩))
  go_ret;exact⟨by rw[HF.out];rfl,rfl⟩
 have HF:Hid (qf4 i o d b=(decide (1≤d)&&decide (d≤16)&&decide (1≤b)&&decide (b≤4096))):=by show _=_;unfold qf4;rw[e1,e2];rfl
 go_enter func38,ntmps38
 go_wp2_with (first
  |(go_at_call 63;refine(qcX _ _).mono ?_;rintro e w2 ⟨rfl,rfl⟩))
 all_goals go_ret
 all_goals refine⟨?_,rfl⟩
 all_goals rw[HF.out]
 all_goals simp[*]
 all_goals (intros;omega)
end
section
def qal (c:UInt8):List UInt8→List (List UInt8)
 |[]=>[[]]
 |x::r=>if x==c then []::qal c r else match qal c r with
  |h::t=>(x::h)::t
  |[]=>[[x]]
theorem qfD (c:UInt8)(l:List UInt8):qal c l≠[]:=by
 cases l with
 |nil=>simp[qal]
 |cons x r =>
  unfold qal;split
  ·simp
  split<;>simp
theorem qdG (c:UInt8):∀l:List UInt8,(∀x,x∈l→(x==c)=false)→qal c l=[l]
 |[],_=>rfl
 |x::r,h=>by
  have h1:=h x (List.mem_cons_self ..);have h2:=qdG c r (fun y hy=>h y (List.mem_cons_of_mem _ hy));simp only[qal,h1,h2];rfl
theorem qdk (c:UInt8):∀(a b:List UInt8),(∀x,x∈a→(x==c)=false)→qal c (a++c::b)=a::qal c b
 |[],b,_=>by simp[qal]
 |x::a,b,h=>by
  have h1:=h x (List.mem_cons_self ..);have h2:=qdk c a b (fun y hy=>h y (List.mem_cons_of_mem _ hy));simp only[List.cons_append,qal,h1,h2];rfl
theorem qfh (h:Lib.indexByte l c = -1):qal c l=[l]:=by
 refine qdG c l (fun x hx => ?_);obtain⟨k,hk,rfl⟩:=List.getElem_of_mem hx;have:=Lib.indexByte_none h k;rw[beq_eq_false_iff_ne];intro e;exact this (by rw[List.getElem?_eq_getElem hk,e])
theorem qfk {o:Nat}(h:Lib.indexByte l c=o):o<l.length∧qal c l=l.take o::qal c (l.drop (o+1)):=by
 obtain⟨h1,h2⟩:=Lib.indexByte_some h;have ho:o<l.length:=ltL h1;refine⟨ho,?_⟩;have e:l=l.take o++c::l.drop (o+1):=by
  have h3:l[o]=c:=(List.getElem?_eq_some_iff.1 h1).2;rw[←h3];simp
 conv=>lhs;rw[e]
 refine qdk c _ _ (fun x hx => ?_);obtain⟨k,hk,rfl⟩:=List.getElem_of_mem hx;have hk':k<o:=by simp at hk;omega
 rw[beq_eq_false_iff_ne];intro e;refine h2 k hk' ?_;rw[List.getElem?_eq_getElem (by omega)];rw[List.getElem_take] at e;rw[e]
end
section
open Go.RowKit
theorem Tryz.infoStr:(prog.info? 9).map (fun i=>(i.zero,i.size,i.bytes))=some (some (.string ByteArray.empty),1,16):=by kernel_rfl
theorem qrD (s:ByteArray)(a b:Nat):(s.extract a b).data.toList=(s.data.toList.take b).drop a:=by
 rw[Lib.extract_data];simp[List.drop_take]
structure Cut (c:UInt8)(l:List UInt8)(ps:List ByteArray)(f i:Nat):Prop where
 fi:f≤i
 il:i≤l.length
 len:ps.length≤i
 eq:qal c l=ps.map (·.data.toList)++qal c (l.drop f)
 no:∀x,x∈(l.take i).drop f→(x==c)=false
theorem Cut.next (h:Cut c l ps f i)(hi:i<l.length)(hx:(l[i]==c)=false):Cut c l ps f (i+1):=by
 refine⟨by have:=h.fi;omega,hi,by have:=h.len;omega,h.eq,fun x hx' => ?_⟩;rw[List.take_succ_eq_append_getElem hi,List.drop_append_of_le_length (by rw[List.length_take];have:=h.fi;omega),List.mem_append] at hx';rcases hx' with h1|h1
 ·exact h.no x h1
 rw[List.mem_singleton] at h1;rw[h1];exact hx
theorem Cut.found (h:Cut c l ps f i)(hi:i<l.length)(hx:l[i]=c)(p:ByteArray)(hp:p.data.toList=(l.take i).drop f):Cut c l (ps++[p]) (i+1) (i+1):=by
 refine⟨Nat.le_refl _,hi,by rw[List.length_append];have:=h.len;simp;omega,?_,fun x hx' => ?_⟩
 ·rw[h.eq,List.map_append,List.append_assoc];congr 1;have e:l.drop f=(l.take i).drop f++c::l.drop (i+1):=by
   conv=>lhs;rw[←List.take_append_drop i l]
   rw[List.drop_append_of_le_length (by rw[List.length_take];have:=h.fi;omega),List.drop_eq_getElem_cons hi,hx]
  rw[e,qdk c _ _ h.no,←hp];rfl
 rw[List.drop_eq_nil_of_le (by rw[List.length_take];omega)] at hx';exact absurd hx' (by simp)
theorem Cut.last (h:Cut c l ps f l.length)(p:ByteArray)(hp:p.data.toList=l.drop f):qal c l=(ps++[p]).map (·.data.toList):=by
 rw[h.eq,List.map_append];congr 1;have:=h.no;rw[List.take_length] at this;rw[qdG c _ this,←hp];rfl
theorem qgv (s:ByteArray)(c:UInt8)(cc:Int)(hcc:cc=c.toNat)(w:World)(hs:s.size≤100000):Calls prog 129 #[.string s,.int .u8 cc] w fun e w' =>
   ∃(v:Value) (ps:List ByteArray),e=.returned v∧w'.ownsRow w.heap.size 9 1 v ps.length (ps.map Value.string)∧Below w.heap.size w w'∧ps.map (·.data.toList)=qal c s.data.toList:=by
 obtain⟨i0,hi,hz0,hz1,hz2⟩:=info_parts Tryz.infoStr;have hl:s.data.toList.length=s.size:=Array.length_toList;have HCC:=qaa hcc;clear hcc;go_enter func129,ntmps129;go_wp2
 go_loopg [5,6,7] s.size (fun g v x y wr=>∃(ps:List ByteArray) (f i:Nat) (ao:Option Addr) (cv:Nat),Hid (i+g=s.size)∧v=.slice ao ps.length cv∧x=.int .i64 f∧y=.int .i64 i∧Hid (wr.ownsRow w.heap.size 9 1 v ps.length (ps.map Value.string))∧Hid (Below w.heap.size w wr)∧Hid (Cut c s.data.toList ps f i))
 case atStart =>
  exact⟨[],0,0,none,0,by show _=_;omega,rfl,rfl,rfl,World.ownsRow_nil _ _ _ _,Below.refl _ _,⟨Nat.le_refl _,Nat.zero_le _,Nat.le_refl _,by simp,fun x hx=>by simp at hx⟩⟩
 case round =>
  obtain⟨ps,f,i,ao,cv,hig,rfl,rfl,rfl,HO,HB,HC⟩:=hrel;have hfi:=HC.out.fi;have hpl:=HC.out.len;have hsize:=HB.out.size;have his:i≤s.size:=by have:=hig.out;omega
  cases gk with
  |zero =>
   have hlt:¬(i:Int)<s.size:=by have:=hig.out;omega
   have hfs:f≤s.size:=by omega
   go_wp2_with (first
    |(at_builtin;refine wpList_append_own _ rfl _ _ 57 rfl w.heap.size 9 i0 (.string ByteArray.empty) 1 16 underlying57 hi hz0 hz1 hz2 rfl (by decide) _ _ _ rfl (HO.out.alloc _) ⟨wr.heap.size,0,none⟩ 1 1 [.string (s.extract f s.size)] rfl rfl (cell_one_new _ _ _) (fun x hx=>by simp at hx;subst hx;rfl) (by unfold maxLen;omega) (by omega) (by simp;omega) ?_;intro v' w3 hown' hgrow3 hnil3))
   go_ret;have hie:i=s.data.toList.length:=by have:=hig.out;omega
   have hC:=HC.out;subst hie;exact⟨v',rfl,ps++[s.extract f s.size],by rw[List.length_append,List.map_append];exact hown',(HB.out.alloc hsize _).grown hgrow3 (by simp;omega) (fun q hq=>(HO.out.lt q hq).1),(hC.last _ (Lib.extract_to_end s f)).symm⟩
  |succ g =>
   have hlt:(i:Int)<s.size:=by have:=hig.out;omega
   have hn:i<s.size:=by omega
   by_cases hc:(s[i].toNat:Int)=cc
   ·have hce:((s[i].toNat:Int)==cc)=true:=by rw[beq_iff_eq];exact hc
    go_wp2_with (first
     |(at_builtin;refine wpList_append_own _ rfl _ _ 57 rfl w.heap.size 9 i0 (.string ByteArray.empty) 1 16 underlying57 hi hz0 hz1 hz2 rfl (by decide) _ _ _ rfl (HO.out.alloc _) ⟨wr.heap.size,0,none⟩ 1 1 [.string (s.extract f i)] rfl rfl (cell_one_new _ _ _) (fun x hx=>by simp at hx;subst hx;rfl) (by unfold maxLen;omega) (by omega) (by simp;omega) ?_;intro v' w3 hown' hgrow3 hnil3))
    go_roundg g
    case measure=>omega
    case rel =>
     obtain⟨g3,cap3,hv3⟩:∃g3 cap3,v'=.slice (some ⟨g3,0,none⟩) (ps.length+1) cap3:=by
      rcases hown'.2 with ⟨_,h⟩|⟨g3,cap3,_,h,_⟩
      ·omega
      exact⟨g3,cap3,h⟩
     have hx:s.data.toList[i]=c:=by
      have e:s[i].toNat=c.toNat:=by have:=HCC.out;omega
      exact UInt8.toNat_inj.1 e
     exact⟨ps++[s.extract f i],i+1,i+1,some ⟨g3,0,none⟩,cap3,by show _=_;have:=hig.out;omega,by rw[hv3,List.length_append];rfl,by go_num,by go_num,by show World.ownsRow _ _ _ _ _ _ _;rw[List.length_append,List.map_append];exact hown',(HB.out.alloc hsize _).grown hgrow3 (by simp;omega) (fun q hq=>(HO.out.lt q hq).1),HC.out.found (by omega) hx _ (qrD s f i)⟩
   have hce:((s[i].toNat:Int)==cc)=false:=by rw[beq_eq_false_iff_ne];exact hc
   go_wp2;go_roundg g
   case measure=>omega
   case rel =>
    refine⟨ps,f,i+1,ao,cv,by show _=_;have:=hig.out;omega,rfl,rfl,by go_num,HO.out,HB.out,HC.out.next (by omega) ?_⟩;rw[beq_eq_false_iff_ne];intro e;exact hc (by rw[HCC.out,←e];rfl)
theorem qdQ {base:Nat}{v:Value}(h:w.ownsRow base 9 1 v ps.length (ps.map Value.string))(hne:0<ps.length):∃g cap,v=.slice (some ⟨g,0,none⟩) ps.length cap∧base≤g∧g<w.heap.size∧∀j (hj:j<ps.length),w.cell? ⟨g,j,none⟩=some (.string ps[j]):=by
 obtain⟨_,⟨_,h0⟩|⟨g,cap,cur,hv,hg,hh,hn,_,hcs,ht⟩⟩:=h
 ·omega
 refine⟨g,cap,hv,hg,(ltA hh),fun j hj => ?_⟩;have e:cur.toList[j]? = some (.string ps[j]):=by
  have:=congrArg (·[j]?) ht;simp only[List.getElem?_take,List.getElem?_map] at this;rw[if_pos (by omega),List.getElem?_eq_getElem hj] at this;exact this
 rw[cell_of_row w g j cur _ _ hh];simpa using e
theorem qeB (c:UInt8):∀l:List UInt8,(qal c l).length≤l.length+1
 |[]=>by simp[qal]
 |x::r=>by
  have ih:=qeB c r;unfold qal;split
  ·simp only[List.length_cons];omega
  cases h:qal c r with
  |nil=>simp
  |cons a b=>rw[h] at ih;simp only[List.length_cons] at *;omega
theorem qbr (c:UInt8):∀(l p:List UInt8),p∈qal c l→p.length≤l.length
 |[],p,h=>by simp[qal] at h;subst h;exact Nat.le_refl _
 |x::r,p,h=>by
  have ih:=fun q=>qbr c r q;unfold qal at h;split at h
  ·rcases List.mem_cons.1 h with rfl|h
   ·exact Nat.zero_le _
   exact Nat.le_succ_of_le (ih p h)
  cases e:qal c r with
  |nil=>exact absurd e (qfD _ _)
  |cons a b =>
   rw[e] at h ih;rcases List.mem_cons.1 h with rfl|h
   ·exact Nat.succ_le_succ (ih a (List.mem_cons_self ..))
   exact Nat.le_succ_of_le (ih p (List.mem_cons_of_mem _ h))
theorem qlU (h:ps.map (·.data.toList)=qal c l):0<ps.length:=by
 rcases ps with _|⟨a,b⟩
 ·exact absurd h.symm (qfD _ _)
 simp
def qg3 (l:List UInt8):Bool:=qgw l||(l==[42]||(l==[42,42]||l==[91,93]))
def qe8 (l:List UInt8):Bool:=l==[46]||((qal 47 l).all qg3&&decide ((qal 47 l).length≤8))
theorem qkR (s:ByteArray)(w:World)(hs:s.size≤100000):Calls prog 178 #[.string s] w fun e w' =>
   ∃a n cap,e=.returned (.tuple #[.slice a n cap,.bool (qe8 s.data.toList)])∧Below w.heap.size w w':=by
 cases hd:(s.toList==[46])
 ·have HP:Hid (qe8 s.data.toList=((qal 47 s.data.toList).all qg3&&decide ((qal 47 s.data.toList).length≤8))):=by
   show _=_;unfold qe8;rw[←Lib.toList_data,hd,Bool.false_or]
  go_enter func178,ntmps178;have T1:True:=trivial
  go_wp2_with (first
   |(go_at_call 129;clear T1;refine(qgv s 47 47 rfl _ hs).mono ?_;rintro e w2 ⟨v,ps,rfl,HO,HB,HE⟩;obtain⟨g,cap,rfl,hg,hgs,hcs⟩:=qdQ HO (qlU HE)))
  have hpl:=qlU HE;have hpb:ps.length≤100001:=by
   have h1:=congrArg List.length HE;have h2:=qeB 47 s.data.toList;have h3:s.data.toList.length=s.size:=Array.length_toList;rw[List.length_map] at h1;omega
  have hps:∀p,p∈ps→p.size≤4611686018427387904:=fun p hp=>by
   have:=qbr 47 s.data.toList p.data.toList (by rw[←HE];exact List.mem_map_of_mem hp);have h3:s.data.toList.length=s.size:=Array.length_toList;have h4:p.data.toList.length=p.size:=Array.length_toList;omega
  have HS:=qaa hps;have HCS:=qaa hcs;have HP2:Hid (qe8 s.data.toList=(ps.all (fun p=>qg3 p.data.toList)&&decide (ps.length≤8))):=by
   show _=_;rw[HP.out,←HE,List.all_map,List.length_map];rfl
  have HB2:=qaa HB;clear HB HP HE HO hcs hps
  go_loopg [5] ps.length (fun gk x wr=>∃k:Nat,Hid (k+gk=ps.length)∧x=.int .i64 k∧w2=wr∧Hid (∀i (h:i<ps.length),i<k→qg3 ps[i].data.toList=true))
  case atStart=>exact⟨0,by show _=_;omega,rfl,rfl,fun i _ hi=>by omega⟩
  case round =>
   obtain⟨k,hk,rfl,rfl,HL⟩:=hrel
   cases gk with
   |zero =>
    have hlt:¬(k:Int)<ps.length:=by have:=hk.out;omega
    have HA:Hid (qe8 s.data.toList=decide ((ps.length:Int)≤8)):=by
     show _=_;rw[HP2.out,(List.all_eq_true.2 fun p hp=>by
      obtain⟨i,hi,rfl⟩:=List.getElem_of_mem hp;exact HL.out i hi (by have:=hk.out;omega):ps.all (fun p=>qg3 p.data.toList)=true),Bool.true_and]
     congr 1;rw[eq_iff_iff];omega
    go_wp2
    go_ret2
    first|exact⟨_,_,_,by rw[HA.out];rfl,HB2.out⟩|exact⟨⟨_,_,_,by rw[HA.out];rfl⟩,HB2.out⟩
   |succ gg =>
    have hlt:(k:Int)<ps.length:=by have:=hk.out;omega
    have hkn:k<ps.length:=by omega
    have hc:=HCS.out k hkn;have hsz:=HS.out ps[k] (List.getElem_mem hkn);have HN:Hid (qg3 ps[k].data.toList=false→qe8 s.data.toList=false):=fun h=>by
     rw[HP2.out,Bool.and_eq_false_iff];left;rw[List.all_eq_false];exact⟨ps[k],List.getElem_mem hkn,by rw[h];decide⟩
    have HY:Hid (qg3 ps[k].data.toList=true→∀i (h:i<ps.length),i<k+1→qg3 ps[i].data.toList=true):=fun h i hi hik=>by
     by_cases e:i=k
     ·subst e;exact h
     exact HL.out i hi (by omega)
    clear HL;generalize ps[k]=p at *;have HG:Hid (qg3 p.data.toList=(qgw p.data.toList||(p.toList==[42]||(p.toList==[42,42]||p.toList==[91,93])))):=by
     show _=_;unfold qg3;rw[Lib.toList_data]
    cases e0:qgw p.data.toList
    ·cases e1:(p.toList==[42])
     ·cases e2:(p.toList==[42,42])
      ·cases e3:(p.toList==[91,93])
       ·have HF:=qaa (HN.out (by rw[HG.out,e0,e1,e2,e3];rfl))
        go_wp2_with (first
         |(go_at_call 211;refine(qca p _ hsz).mono ?_;rintro e w2 ⟨rfl,rfl⟩;rw[e0]))
        go_ret2
        first|exact⟨_,_,_,by rw[HF.out];rfl,HB2.out⟩|exact⟨⟨_,_,_,by rw[HF.out];rfl⟩,HB2.out⟩
       have hT:=HY.out (by rw[HG.out,e0,e1,e2,e3];rfl);have HT:=qaa hT;clear hT
       go_wp2_with (first
        |(go_at_call 211;refine(qca p _ hsz).mono ?_;rintro e w2 ⟨rfl,rfl⟩;rw[e0]))
       go_roundg gg
       case measure=>omega
       case rel=>exact⟨k+1,by show _=_;have:=hk.out;omega,by go_num,rfl,HT.out⟩
      have hT:=HY.out (by rw[HG.out,e0,e1,e2];rfl);have HT:=qaa hT;clear hT
      go_wp2_with (first
       |(go_at_call 211;refine(qca p _ hsz).mono ?_;rintro e w2 ⟨rfl,rfl⟩;rw[e0]))
      go_roundg gg
      case measure=>omega
      case rel=>exact⟨k+1,by show _=_;have:=hk.out;omega,by go_num,rfl,HT.out⟩
     have hT:=HY.out (by rw[HG.out,e0,e1];rfl);have HT:=qaa hT;clear hT
     go_wp2_with (first
      |(go_at_call 211;refine(qca p _ hsz).mono ?_;rintro e w2 ⟨rfl,rfl⟩;rw[e0]))
     go_roundg gg
     case measure=>omega
     case rel=>exact⟨k+1,by show _=_;have:=hk.out;omega,by go_num,rfl,HT.out⟩
    have hT:=HY.out (by rw[HG.out,e0];rfl);have HT:=qaa hT;clear hT
    go_wp2_with (first
     |(go_at_call 211;refine(qca p _ hsz).mono ?_;rintro e w2 ⟨rfl,rfl⟩;rw[e0]))
    go_roundg gg
    case measure=>omega
    case rel=>exact⟨k+1,by show _=_;have:=hk.out;omega,by go_num,rfl,HT.out⟩
 have HP:Hid (qe8 s.data.toList=true):=by
  show _=_;unfold qe8;rw[←Lib.toList_data,hd,Bool.true_or]
 go_enter func178,ntmps178;go_wp2
 go_ret2
 exact⟨none,0,0,by rw[HP.out];rfl,Below.refl _ _⟩
end
section
open Go.RowKit Go.Shelf
section
attribute [local go_sem] Oper.semAt_some
theorem qeR (s c:ByteArray)(w:World):Calls prog 135 #[.string s,.string c] w fun e w' =>
   e=.returned (.func (.func 213) #[] #[.pointer (some ⟨w.heap.size+1,0,none⟩),.pointer (some ⟨w.heap.size,0,none⟩),.pointer (some ⟨w.heap.size+1+1,0,none⟩)]) ∧
   w'=((w.alloc (.cells #[.string s] 9)).alloc (.cells #[.string c] 9)).alloc (.cells #[.int .i64 0] 3):=by
 go_enter func135,ntmps135;go_wp2;go_ret;exact⟨rfl,rfl⟩
abbrev Str:={s:ByteArray // s.size≤2000}
def lst (x:Str):List UInt8:=x.1.data.toList
structure qfY (k:Nat)(c:UInt8)(W:World)(r:ByteArray):Prop where
 rest:W.heap[k]? = some (.cells #[.string r] 9)
 sep:W.heap[k+1]? = some (.cells #[.string ⟨#[c]⟩] 9)
 save:W.heap[k+1+1]? = some (.cells #[.int .i64 0] 3)
theorem qfY.keep (h:qfY k c W r)(hk:qc0 k (k+3) W W'):qfY k c W' r :=
 ⟨(hk.same _ (by omega) (by omega)).trans h.rest,(hk.same _ (by omega) (by omega)).trans h.sep,(hk.same _ (by omega) (by omega)).trans h.save⟩
theorem qfY.store (h:qfY k c W r)(r':ByteArray):qfY k c (W.setCell ⟨k,0,none⟩ (.string r')) r' :=
 ⟨by rw[heap_setCell_same W _ _ _ _ _ h.rest];rfl,(heap_setCell_other W _ _ _ (by simp)).trans h.sep,(heap_setCell_other W _ _ _ (by simp;omega)).trans h.save⟩
theorem qiI (W:World)(k o:Nat)(v:Value):W.grownBy (W.setCell ⟨k,o,none⟩ v) (some k) :=
 ⟨rfl,rfl,rfl,by simp[World.setCell],fun i _ hne=>heap_setCell_other W _ _ _ (by intro e;exact hne (by rw[e]))⟩
theorem qr4 (s:ByteArray)(o:Nat):(s.extract 0 o).data.toList=s.data.toList.take o:=by
 rw[Lib.extract_data];simp
theorem qsf (s:ByteArray)(o:Nat):(s.extract o s.size).data.toList=s.data.toList.drop o:=by
 exact Lib.extract_to_end s o
theorem qpe (s:ByteArray)(o:Nat)(h:o≤s.size):(s.extract 0 o).size=o:=by simp[ByteArray.size_extract];omega
theorem qjr (s:ByteArray)(o:Nat):(s.extract o s.size).size=s.size-o:=by simp[ByteArray.size_extract]
theorem qiV (n:Nat)(k:Nat)(c:UInt8)(s:Str)(w:World)(hA:qfY k c w s.1):qw1 Fence.wide n prog 213 #[.pointer (some ⟨k+1,0,none⟩),.pointer (some ⟨k,0,none⟩),.pointer (some ⟨k+1+1,0,none⟩)]
   (fun x:Str=>#[.string x.1]) k (k+3) k (fun xs=>xs.map lst=qal c (lst s)) (fun pre=>∃r,qal c (lst s)=pre.map lst++r) w:=by
 intro l J Jx W hW hJ hJx hY h0;have hlt:=ltA hA.save;have HS:Hid (qfY k c W s.1):=⟨(hW.block _ (by omega)).trans hA.rest,(hW.block _ (by omega)).trans hA.sep,(hW.block _ (by omega)).trans hA.save⟩
 have HJ:=qaa hJ;have HJx:=qaa hJx;have HY:Hid (∀pre x W1,J pre W1→YieldAt Fence.wide (n-1) prog l #[.string x.1] W1 fun e W' =>
   (e=.returned (.bool true)∧J (pre++[x]) W'∧qc0 k (k+3) W1 W')∨(e=.returned (.bool false)∧Jx (pre++[x]) W')):=hY
 have H0:=qaa h0;have hc1:=qab HS.out.sep 0;refine callsIn_of_wp func213 rfl trivial ?_ rfl;simp only[ntmps213,List.size_toArray,List.length_cons,List.length_nil,Nat.reduceAdd,Nat.reduceSub,Array.replicate_succ,Array.replicate_zero,List.push_toArray,List.append_toArray,List.nil_append,List.cons_append]
 gi_wp2
 gi_loopg [7,8] 2001 (fun g x y wr=>∃(pre:List Str) (r:Str),r.1.size<g∧Hid (qal c (lst s)=pre.map lst++qal c (lst r))∧Hid (qfY k c wr r.1)∧Hid (J pre wr))
 case atStart=>exact⟨[],s,by have:=s.2;omega,rfl,HS,H0⟩
 case round =>
  obtain⟨pre,r,hg,HE,HS,HP⟩:=hrel;have hcr:=qab HS.out.rest 0;have hcs:=qab HS.out.sep 0;have hcv:=qab HS.out.save 0;rcases Int.lt_or_le (Lib.indexByte (lst r) c) 0 with hneg|hpos
  ·have hm1:Lib.indexByte (lst r) c = -1:=by have:=Lib.indexByte_ge (lst r) c;omega
   have HF:Hid (qal c (lst s)=pre.map lst++[lst r]):=by show _=_;rw[HE.out,qfh hm1]
   have hm2:Lib.indexByte r.1.data.toList c = -1:=hm1;obtain⟨fn,tmps,assign,body,hy,hR⟩:=HY.out pre r wr HP.out
   gi_wp2_with fail
   refine⟨trivial,(fun h=>by cases h),?_⟩;refine(callsIn_wide.2 (Tryz.strings_Index_one r.1 c _)).mono ?_;rintro e w2 ⟨rfl,rfl⟩
   gi_wp2
   refine⟨(fun h=>by cases h),hR.mono ?_⟩;rintro e W3 (⟨rfl,hJ3,hk3⟩|⟨rfl,hJx3⟩)
   ·gi_wp2
    go_end0;exact⟨⟨_,rfl⟩,.inl ⟨pre++[r],by rw[HF.out];simp,hJ3⟩⟩
   gi_wp2
   go_end0;exact⟨⟨_,rfl⟩,.inr ⟨pre++[r],⟨[],by rw[HF.out];simp⟩,hJx3⟩⟩
  obtain⟨o,ho⟩:=Int.eq_ofNat_of_zero_le hpos;obtain⟨hol,hsp⟩:=qfk ho;have hm2:Lib.indexByte r.1.data.toList c=o:=ho;have hor:o<r.1.size:=by simpa [lst] using hol
  have hr2:=r.2;have HM:Hid (qal c (lst s)=pre.map lst++((lst r).take o::qal c ((lst r).drop (o+1)))):=by show _=_;rw[HE.out,hsp]
  have hx:(r.1.extract 0 o).size≤2000:=by rw[qpe _ _ (by omega)];omega
  have hr:(r.1.extract (o+1) r.1.size).size≤2000:=by rw[qjr];omega
  have HM2:Hid (qal c (lst s)=(pre++[(⟨r.1.extract 0 o,hx⟩:Str)]).map lst++qal c (lst (⟨r.1.extract (o+1) r.1.size,hr⟩:Str))):=by
   show _=_;rw[HM.out];simp only[List.map_append,List.map_cons,List.map_nil,lst];rw[qr4,qsf,List.append_assoc];rfl
  have hsz:(r.1.extract (o+1) r.1.size).size<r.1.size:=by rw[qjr];omega
  obtain⟨fn,tmps,assign,body,hy,hR⟩:=HY.out pre ⟨r.1.extract 0 o,hx⟩ wr HP.out;dsimp only at hy
  gi_wp2_with fail
  refine⟨trivial,(fun h=>by cases h),?_⟩;refine(callsIn_wide.2 (Tryz.strings_Index_one r.1 c _)).mono ?_;rintro e w2 ⟨rfl,rfl⟩
  gi_wp2
  refine⟨(fun h=>by cases h),hR.mono ?_⟩;rintro e W3 (⟨rfl,hJ3,hk3⟩|⟨rfl,hJx3⟩)
  ·have HS3:=qaa (HS.out.keep hk3);have hcr:=qab HS3.out.rest 0;have hcs:=qab HS3.out.sep 0;have hfr:=frozen_of_row W3 k 0 _ _ HS3.out.rest;have HJ3:=qaa hJ3
   gi_wp2
   gi_roundg ((r.1.extract (o+1) r.1.size).size+1)
   case measure=>omega
   case rel=>exact⟨pre++[⟨r.1.extract 0 o,hx⟩],⟨r.1.extract (o+1) r.1.size,hr⟩,Nat.lt_succ_self _,HM2,HS3.out.store _,HJ.out _ _ _ HJ3.out (qiI W3 k 0 _)⟩
  have HJ3:=qaa hJx3
  gi_wp2
  refine bodyPost_ret (results_none rfl _ _ _) rfl ?_;exact⟨⟨_,rfl⟩,.inr ⟨_,⟨_,HM2.out⟩,HJ3.out⟩⟩
end
end
end Go.Proofs.YtllcbnfmihfaaaaGreatDoor
