import Derived.Lib.BufferWrite
import Derived.Test.YtllcbnfmihfaaaaGreatDoorTq13
import Derived.Test.YtllcbnfmihfaaaaGreatDoorTq10
set_option maxRecDepth 100000
set_option maxHeartbeats 8000000
namespace Go.Proofs.YtllcbnfmihfaaaaGreatDoor
open Go.Proofs.Tryz
variable {W W':World}{cur:Array Value}{l lim:Int}{base e k m n p:Nat}{b c c0:UInt8}{v':Value}{bs:List UInt8}
section
open Go.RowKit Go.Lib
theorem q1s (z:Value)(n:Nat):(madeCells #[z] n).size=n:=by simp[madeCells]
theorem q3c (n:Nat)(h:n+8≤281474976710656)(w:World):(Instr.makeSlice 28 (.int .i64 ((n:Int)+8)) (.int .i64 ((n:Int)+8))).run prog w=.ok (.slice (some ⟨w.heap.size,0,none⟩) (n+8) (n+8)) (w.alloc (.cells (madeCells #[.int .u8 0] (n+8)) 5)):=by
 obtain⟨i,hi,hz,hs,hb⟩:=info_parts Tryz.infoU8;have:=run_make (P:=prog) w 28 5 i _ underlying28 hi hz .i64 .i64 ((n:Int)+8) ((n:Int)+8) (by omega) (Int.le_refl _) (by rw[hb];omega) (by omega);rw[this,hs];have e:((n:Int)+8).toNat=n+8:=by omega
 rw[e,Nat.mul_one];rfl
theorem q0O {P:Program}{w:World}{ops:Array Oper}{rest:List Oper}{o:Oper}{a:Act}{Q:Exit→Act→World→Prop}(d s:Operand)(dT sT:TypeId)(ho:o.op=.call {callee:=.builtin .copy,args:=#[d,s],argTypes:=#[dT,sT]})(hgd:o.guard=none)(elem:TypeId)(hu:P.underlying dT=some (.slice elem))(hsz:(P.info? elem).map (·.size)=some 1)(g dLen dCap:Nat)(b:ByteArray)(hd:a.eval d=.slice (some ⟨g,0,none⟩) dLen dCap)(hs:a.eval s=.string b)(cur:Array Value)(t:TypeId)(hg:w.heap[g]? = some (.cells cur t (0,0)))(hle:b.size≤dLen)(hfit:b.size≤cur.size)(h:wpList P ops Q rest (a.put o.dst (goInt b.size)) (w.setRow g (byteCells b.data.toList++cur.toList.drop b.size).toArray)):wpList P ops Q (o::rest) a w:=by
 refine wpList_plain hgd fun K hK => ?_;have hrun:=run_copy_row_string (P:=P) w dT sT o.type elem g 0 dLen dCap b cur t hu hsz hg hle (by omega);simp only[Nat.zero_add,List.take_zero,List.nil_append] at hrun;unfold Oper.wp;simp[execOp,ho,resolve,invoke,builtin,hd,hs,hrun,Result.andThen];exact hK _ _ h
def rm8:List UInt8:=List.replicate 8 77
def qyZ (l:List UInt8):Array Value:=(l.map qav).toArray
theorem q06 (l:List UInt8):(qyZ l).size=l.length:=by simp[qyZ]
theorem qyN (l:List UInt8)(j:Nat):(qyZ l)[j]? = l[j]?.map qav:=by simp[qyZ]
theorem q68 (s:List UInt8)(cur:Array Value)(hc:cur.size=s.length+8):(byteCells s++cur.toList.drop s.length).toArray.size=s.length+8∧∀j,j<s.length→(byteCells s++cur.toList.drop s.length).toArray[j]? = (qyZ (s++rm8))[j]?:=by
 have hl:(byteCells s).length=s.length:=by simp[byteCells]
 refine⟨by simp[hl];omega,fun j hj => ?_⟩;rw[qyN,List.getElem?_append_left (by omega),List.getElem?_toArray,List.getElem?_append_left (by omega)];simp[byteCells];rfl
theorem q4S {l:List UInt8}(hs:cur.size=l.length)(hk:k<l.length)(hc:l[k]? = some c)(h:∀j,j<k→cur[j]? = (qyZ l)[j]?):(cur.setIfInBounds k (qav c)).size=l.length∧∀j,j<k+1→(cur.setIfInBounds k (qav c))[j]? = (qyZ l)[j]?:=by
 refine⟨by simpa using hs,fun j hj => ?_⟩;rw[Array.getElem?_setIfInBounds];by_cases e:k=j
 ·subst e;rw[if_pos rfl,if_pos (by omega),qyN,hc];rfl
 rw[if_neg e];exact h j (by omega)
theorem q4U {l:List UInt8}(hs:cur.size=l.length)(h:∀j,j<l.length→cur[j]? = (qyZ l)[j]?):cur=qyZ l:=by
 apply Array.ext_getElem?;intro j;by_cases hj:j<l.length
 ·exact h j hj
 rw[Array.getElem?_eq_none (by omega),Array.getElem?_eq_none (by rw[q06];omega)]
theorem q1d (W:World)(s:List UInt8)(hs:s.length≤200000000):Calls prog 91 #[.string ⟨s.toArray⟩] W fun e W'=>e=.returned (.slice (some ⟨W.heap.size,0,none⟩) s.length (s.length+8))∧W'.heap[W.heap.size]? = some (.cells (qyZ (s++rm8)) 5)∧Below W.heap.size W W':=by
 have hsz:(⟨s.toArray⟩:ByteArray).size=s.length:=by simp[ByteArray.size]
 have hmk:=fun w=>q3c s.length (by omega) w;have hcp:=q68 s (madeCells #[.int .u8 0] (s.length+8)) (q1s _ _);have hll:(s++rm8).length=s.length+8:=by simp[rm8]
 obtain⟨cur0,hcur0⟩:∃c,c=(byteCells s++(madeCells #[.int .u8 0] (s.length+8)).toList.drop s.length).toArray:=⟨_,rfl⟩
 rw[←hcur0] at hcp;have HB0:Hid (Below W.heap.size W ((W.alloc (.cells (madeCells #[.int .u8 0] (s.length+8)) 5)).setRow W.heap.size cur0)):=qah bwA (Nat.le_refl _) _;have HC0:Hid (((W.alloc (.cells (madeCells #[.int .u8 0] (s.length+8)) 5)).setRow W.heap.size cur0).heap[W.heap.size]? = some (.cells cur0 5)):=setRow_heap _ _ _ _ _ _ (qac _ _);have HCP:=qaa hcp;go_enter func91,ntmps91
 go_wp2_with (first
  |(refine q0O _ _ 28 9 rfl rfl 5 underlying28 (by kernel_rfl) W.heap.size (s.length+8) (s.length+8) ⟨s.toArray⟩ rfl rfl (madeCells #[.int .u8 0] (s.length+8)) 5 (qac _ _) (by rw[hsz];omega) (by rw[hsz,q1s];omega) ?_;rw[hsz];rw[←hcur0];generalize (W.alloc (.cells (madeCells #[.int .u8 0] (s.length+8)) 5)).setRow W.heap.size cur0=V0 at *))
 go_loopg [5] 8 (fun g z wr=>∃k:Nat,z=.int .i64 k∧Hid (k+g=s.length+8∧s.length≤k)∧Hid (Below W.heap.size W wr)∧∃cur,Hid (wr.heap[W.heap.size]? = some (.cells cur 5))∧Hid (cur.size=s.length+8∧∀j,j<k→cur[j]? = (qyZ (s++rm8))[j]?))
 case atStart=>exact⟨s.length,rfl,⟨rfl,Nat.le_refl _⟩,HB0,cur0,HC0,HCP⟩
 case round =>
  obtain⟨k,rfl,hg,HB,cur,HC,HCU⟩:=hrel
  cases gk with
  |zero =>
   have hge:¬(k:Int)<(s.length:Int)+8:=by have:=hg.out;omega
   have HE:=qaa (q4U (by rw[hll];exact HCU.out.1) (fun j hj=>HCU.out.2 j (by have:=hg.out;omega)));go_wp2;go_ret;refine⟨rfl,?_,HB.out⟩;rw[←HE.out];exact HC.out
  |succ g =>
   have hlt:(k:Int)<(s.length:Int)+8:=by have:=hg.out;omega
   have hk8:k<s.length+8:=by omega
   have hks:¬k<s.length:=by have:=hg.out;omega
   ·have HS:=q4S (c:=77) (cur:=cur) (l:=s++rm8) (k:=k) (by rw[hll];exact HCU.out.1) (by omega) (by unfold rm8;rw[List.getElem?_append_right (by omega),List.getElem?_replicate,if_pos (by omega)]) HCU.out.2;have f0:=frozen_of_row wr W.heap.size k _ _ HC.out;obtain⟨v0,hv0⟩:∃v,cur[k]? = some v:=⟨_,Array.getElem?_eq_getElem (by have:=HCU.out.1;omega)⟩
    have k0:=(qab HC.out k).trans hv0;have HN:Hid ((wr.setCell ⟨W.heap.size,k,none⟩ (.int .u8 77)).heap[W.heap.size]? = some (.cells (cur.setIfInBounds k (qav 77)) 5)):=by
     show _=_;rw[heap_setCell_same _ _ _ _ _ _ HC.out];rfl
    have HNB:Hid (Below W.heap.size W (wr.setCell ⟨W.heap.size,k,none⟩ (.int .u8 77))):=HB.out.trans ⟨rfl,rfl,rfl,by simp[World.setCell],fun j hj=>heap_setCell_other wr _ _ _ (by simp;omega)⟩;have HSS:Hid ((cur.setIfInBounds k (qav 77)).size=s.length+8∧∀j,j<k+1→(cur.setIfInBounds k (qav 77))[j]? = (qyZ (s++rm8))[j]?):=by rw[←hll];exact HS
    go_wp2;go_roundg g
    case measure=>omega
    case rel=>exact⟨k+1,by go_num,⟨by have:=hg.out;omega,by have:=hg.out;omega⟩,HNB,_,HN,HSS⟩
theorem q19 (g j:Nat):(⟨g,0,none⟩:Addr).add j=⟨g,j,none⟩:=by
 by_cases h:j=0
 ·subst h;simp[Addr.add]
 simp[Addr.add,h]
theorem q4F {V:World}{g:Nat}{v:Value}(h:But g W V):But g W (V.setCell ⟨g,k,none⟩ v):=⟨h.os,h.tape,h.output,by have:=h.size;simpa [World.setCell] using this,fun j hj hn=>(heap_setCell_other V _ _ _ (by simpa using hn)).trans (h.block j hj hn)⟩
theorem qzd (W:World)(s:List UInt8)(g:Nat)(h:W.heap[g]? = some (.cells (qyZ (s++rm8)) 5))(hs:s.length≤200000000):Calls prog 92 #[.slice (some ⟨g,0,none⟩) s.length (s.length+8),.string ⟨s.toArray⟩] W fun e W'=>e=.returned (.bool true)∧But g W W':=by
 have hsz:(⟨s.toArray⟩:ByteArray).size=s.length:=by simp[ByteArray.size]
 have hll:(s++rm8).length=s.length+8:=by simp[rm8]
 have hcv:(convert 28 9 (.slice (some ⟨g,0,none⟩) s.length (s.length+8))).run prog W=.ok (.string ⟨s.toArray⟩) W:=by
  refine run_convert_bytes_back W 28 9 5 ⟨g,0,none⟩ (s.length+8) s underlying28 underlying5 underlying9 ?_;intro j hj;have:=qab h j;rw[qyN,List.getElem?_append_left hj,List.getElem?_eq_getElem hj] at this;rw[q19];exact this
 have hse:=beq_self_eq_true s;have HH:=qaa h;go_enter func92,ntmps92;go_wp2
 go_loopg [7,8] (s.length+8) (fun gh y z wr=>∃k:Nat,y=.bool true∧z=.int .i64 k∧Hid (k+gh=s.length+8)∧Hid (But g W wr)∧∃cur,Hid (wr.heap[g]? = some (.cells cur 5))∧Hid (cur.size=s.length+8∧∀j,k≤j→cur[j]? = (qyZ (s++rm8))[j]?))
 case atStart=>exact⟨0,rfl,rfl,by show _=_;omega,⟨rfl,rfl,rfl,Nat.le_refl _,fun _ _ _=>rfl⟩,_,HH,by rw[q06,hll],fun _ _=>rfl⟩
 case round =>
  obtain⟨k,rfl,rfl,hg,HB,cur,HC,HCU⟩:=hrel
  cases gk with
  |zero =>
   have hge:¬(k:Int)<(s.length:Int)+8:=by have:=hg.out;omega
   go_wp2;go_ret;exact⟨rfl,HB.out⟩
  |succ gh =>
   have hlt:(k:Int)<(s.length:Int)+8:=by have:=hg.out;omega
   have hk8:k<s.length+8:=by omega
   obtain⟨v0,hv0⟩:∃v,cur[k]? = some v:=⟨_,Array.getElem?_eq_getElem (by have:=HCU.out.1;omega)⟩
   have k0:=(qab HC.out k).trans hv0;have f0:=frozen_of_row wr g k _ _ HC.out;have HN:Hid ((wr.setCell ⟨g,k,none⟩ (.int .u8 1)).heap[g]? = some (.cells (cur.setIfInBounds k (.int .u8 1)) 5)):=by
    show _=_;rw[heap_setCell_same _ _ _ _ _ _ HC.out]
   have HNB:Hid (But g W (wr.setCell ⟨g,k,none⟩ (.int .u8 1))):=q4F HB.out;have HSS:Hid ((cur.setIfInBounds k (.int .u8 1)).size=s.length+8∧∀j,k+1≤j→(cur.setIfInBounds k (.int .u8 1))[j]? = (qyZ (s++rm8))[j]?):=⟨by have:=HCU.out.1;simpa using this,fun j hj=>by rw[Array.getElem?_setIfInBounds,if_neg (by omega)];exact HCU.out.2 j (by omega)⟩
   by_cases hks:k<s.length
   ·have hkn:(k:Int)<(s.length:Int):=by omega
    go_wp2;go_roundg gh
    case measure=>omega
    case rel=>exact⟨k+1,rfl,by go_num,by show _=_;have:=hg.out;omega,HNB,_,HN,HSS⟩
   have hkn:¬(k:Int)<(s.length:Int):=by omega
   have hv:v0=.int .u8 77:=by
    have h1:=HCU.out.2 k (Nat.le_refl _);rw[hv0,qyN,List.getElem?_append_right (by omega)] at h1;unfold rm8 at h1;rw[List.getElem?_replicate,if_pos (by omega)] at h1;injection h1
   subst hv;go_wp2;go_roundg gh
   case measure=>omega
   case rel=>exact⟨k+1,rfl,by go_num,by show _=_;have:=hg.out;omega,HNB,_,HN,HSS⟩
def qxU (c:UInt8):Nat:=if c.toNat<128 then 1 else if c.toNat<194 then 0 else if c.toNat<224 then 2 else if c.toNat<240 then 3 else if c.toNat<245 then 4 else 0
def qxZ (c:UInt8):Nat:=if c.toNat<194 then 0 else if c.toNat=224 then 160 else if c.toNat=240 then 144 else if c.toNat<245 then 128 else 0
def qyd (c:UInt8):Nat:=if c.toNat<194 then 0 else if c.toNat=237 then 159 else if c.toNat=244 then 143 else if c.toNat<245 then 191 else 0
theorem q5K:(List.range 256).all (fun x=>(let c:=UInt8.ofNat x;decide ((szU c=0↔qxU c=1)∧(szU c=1↔qxU c=0)∧(2≤qxU c→szU c=qxU c∧loU c=qxZ c∧hiU c=qyd c∧128≤qxZ c)∧qxU c≤4)))=true:=by kernel_rfl
theorem qyw (c:UInt8):(szU c=0↔qxU c=1)∧(szU c=1↔qxU c=0)∧(2≤qxU c→szU c=qxU c∧loU c=qxZ c∧hiU c=qyd c∧128≤qxZ c)∧qxU c≤4:=by
 have h:=List.all_eq_true.1 q5K c.toNat (List.mem_range.2 c.toNat_lt);have h2:=of_decide_eq_true h;rw[UInt8.ofNat_toNat] at h2;exact h2
def qyB (c0:UInt8)(j:Nat)(c:UInt8):Bool:=(j==1&&(decide (c.toNat<qxZ c0)||decide (qyd c0<c.toNat)))||(decide (1<j)&&(decide (c.toNat<128)||decide (191<c.toNat)))
def q2Q (bs:List UInt8)(n p:Nat)(c0:UInt8):Nat→Nat→Nat×Bool
 |0,_=>(qxU c0,true)
 |g+1,j=>if n≤p+j then (j,false) else match bs[p+j]? with
  |none=>(j,false)
  |some c=>if qyB c0 j c=true then (j,false) else q2Q bs n p c0 g (j+1)
def qgB (bs:List UInt8)(n p:Nat)(c0:UInt8):Nat×Bool:=if qxU c0=0 then (0,false) else q2Q bs n p c0 (qxU c0-1) 1
theorem q2l (c0 c:UInt8):qyB c0 1 c=true↔(c.toNat<qxZ c0∨qyd c0<c.toNat):=by
 unfold qyB;simp
theorem qz0 (c0 c:UInt8)(j:Nat)(hj:1<j):qyB c0 j c=true↔(c.toNat<128∨191<c.toNat):=by
 unfold qyB;have h1:(j==1)=false:=by simp;omega
 rw[h1,decide_eq_true hj];simp
theorem q53 (c0:UInt8)(l:List UInt8)(c:UInt8)(hk:l.length+1<qxU c0):qc1 (c0::l) c=if qyB c0 (l.length+1) c=true then 0 else if l.length+2=qxU c0 then 2 else 1:=by
 obtain⟨_,_,h3,h4⟩:=qyw c0;obtain⟨h5,h6,h7,h8⟩:=h3 (by omega)
 match l,hk with
 |[],hk =>
  show qc1 [c0] c=if qyB c0 1 c=true then 0 else if 2=qxU c0 then 2 else 1;simp only[qc1,h5,h6,h7];by_cases hb:c.toNat<qxZ c0∨qyd c0<c.toNat
  ·rw[if_pos hb,if_pos ((q2l c0 c).2 hb)]
  rw[if_neg hb,if_neg (fun h=>hb ((q2l c0 c).1 h))];by_cases he:qxU c0=2
  ·rw[if_pos he,if_pos he.symm]
  rw[if_neg he,if_neg (fun h=>he h.symm)]
 |[b1],hk =>
  show qc1 [c0,b1] c=if qyB c0 2 c=true then 0 else if 3=qxU c0 then 2 else 1;simp only[qc1,h5];by_cases hb:c.toNat<128∨191<c.toNat
  ·rw[if_pos hb,if_pos ((qz0 c0 c 2 (by decide)).2 hb)]
  rw[if_neg hb,if_neg (fun h=>hb ((qz0 c0 c 2 (by decide)).1 h))];by_cases he:qxU c0=3
  ·rw[if_pos he,if_pos he.symm]
  rw[if_neg he,if_neg (fun h=>he h.symm)]
 |[b1,b2],hk =>
  show qc1 [c0,b1,b2] c=if qyB c0 3 c=true then 0 else if 4=qxU c0 then 2 else 1;have h4k:4=qxU c0:=by
   have:3<qxU c0:=hk;omega
  simp only[qc1];by_cases hb:c.toNat<128∨191<c.toNat
  ·rw[if_pos hb,if_pos ((qz0 c0 c 3 (by decide)).2 hb)]
  rw[if_neg hb,if_neg (fun h=>hb ((qz0 c0 c 3 (by decide)).1 h)),if_pos h4k]
 |_::_::_::l,hk=>simp only[List.length_cons] at hk;omega
theorem qzp (c0:UInt8):qc1 [] c0=if qxU c0=0 then 0 else if qxU c0=1 then 2 else 1:=by
 obtain⟨h1,h2,h3,h4⟩:=qyw c0;simp only[qc1];by_cases a:qxU c0=0
 ·rw[if_pos a];have:=h2.2 a;rw[if_neg (by omega),if_pos this]
 rw[if_neg a];by_cases b:qxU c0=1
 ·rw[if_pos b,if_pos (h1.2 b)]
 rw[if_neg b,if_neg (fun h=>b (h1.1 h)),if_neg (fun h=>a (h2.1 h))]
theorem q5W (c0 c:UInt8)(j:Nat)(hk:2≤qxU c0)(hj:1≤j)(h:c.toNat<32):qyB c0 j c=true:=by
 obtain⟨_,_,h3,_⟩:=qyw c0;have h8:=(h3 hk).2.2.2;unfold qyB;by_cases h1:j=1
 ·subst h1;simp;omega
 simp;omega
def qye (bs:List UInt8)(p k:Nat):List UInt8:=(bs.drop p).take k
theorem qyW (h:bs[p+k]? = some c):qye bs p (k+1)=qye bs p k++[c]:=by
 unfold qye;rw[List.take_add_one,List.getElem?_drop,h];rfl
theorem q0i (h:p+k≤bs.length):(qye bs p k).length=k:=by
 unfold qye;rw[List.length_take,List.length_drop];omega
theorem q4n (h:bs[p]? = some c):qye bs p 1=[c]:=by
 have:=qyW (bs:=bs) (p:=p) (k:=0) (c:=c) (by simpa using h);rw[this];simp[qye]
theorem q2t (h:bs[p]? = some c)(hk:1≤k)(hl:p+k≤bs.length):∃l,qye bs p k=c::l∧l.length+1=k:=by
 have h1:=ltL h;have h2:=(List.getElem?_eq_some_iff.1 h).2;obtain⟨k,rfl⟩:∃k',k=k'+1:=⟨k-1,by omega⟩
 refine⟨(bs.drop (p+1)).take k,?_,?_⟩
 ·unfold qye;rw[List.drop_eq_getElem_cons h1,List.take_succ_cons,h2]
 rw[List.length_take,List.length_drop];omega
theorem q2X (hl:Lm bs l lim)(hn:(n:Int)=min (bs.length:Int) lim)(h0:bs[p]? = some c0)(acc:List UInt8):∀(g j f:Nat),1≤j→j+g=qxU c0→InR bs lim (p+j)→bs.length+1≤p+j+f →
  match q2Q bs n p c0 g j with
  |(k,true)=>k=qxU c0∧InR bs lim (p+k)∧qfe bs lim f (p+j) (acc++qye bs p j) (if g=0 then acc.length+j else acc.length)=qfe bs lim (f-g) (p+k) (acc++qye bs p k) (acc++qye bs p k).length
  |(k,false)=>k≤qxU c0∧InR bs lim (p+k)∧qfe bs lim f (p+j) (acc++qye bs p j) (if g=0 then acc.length+j else acc.length)=.error (qr0 bs l (p+k) 9)
 |0,j,f,hj,hg,hi,_=>by
  rw[q2Q];simp only[];have hj2:j=qxU c0:=by omega
  subst hj2;refine⟨trivial,hi,?_⟩;rw[if_pos trivial,List.length_append,q0i hi.1];rfl
 |g+1,j,f,hj,hg,hi,hf=>by
  obtain⟨f,rfl⟩:∃f',f=f'+1:=⟨f-1,by have:=hi.1;omega⟩
  rw[q2Q];by_cases hnj:n≤p+j
  ·rw[if_pos hnj];simp only[];refine⟨by omega,hi,?_⟩;rw[if_neg (by omega),qfe]
   cases hc:bs[p+j]? with
   |none=>simp only[];rw[qxY hi.1 hc]
   |some c =>
    have h1:=ltL hc;have h2:((p+j:Nat):Int)=lim:=by have:=hi.2;omega
    simp only[];rw[if_pos h2,qxW hl hc h2]
  rw[if_neg hnj];have h1:p+j<bs.length:=by omega
  have hc:=List.getElem?_eq_getElem h1;obtain⟨c,hcc⟩:∃c,c=bs[p+j]:=⟨_,rfl⟩
  rw[←hcc] at hc;rw[hc];simp only[];have h2:¬((p+j:Nat):Int)=lim:=by omega
  obtain⟨t,ht,htl⟩:=q2t h0 hj (by omega);have hal:=q53 c0 t c (by omega);have hcut:(acc++qye bs p j).drop acc.length=c0::t:=by rw[List.drop_left,ht]
  rw[←hcut,htl,show t.length+2=j+1 by omega] at hal;have hlen:(acc++qye bs p j).length=acc.length+j:=by rw[List.length_append,q0i (by omega)]
  by_cases hb:qyB c0 j c=true
  ·rw[if_pos hb];simp only[];refine⟨by omega,hi,?_⟩;rw[if_neg (by omega),qfe,hc];simp only[];rw[if_pos hb] at hal;rw[if_neg h2,if_neg (by omega),if_neg (by omega),qxT hl hi hc h2];by_cases h32:c.toNat<32
   ·rw[if_pos h32]
   rw[if_neg h32,if_pos hal]
  rw[if_neg hb];rw[if_neg hb] at hal;have h32:¬c.toNat<32:=fun h=>hb (q5W c0 c j (by omega) hj h);have ih:=q2X hl hn h0 acc g (j+1) f (by omega) (by omega) (qxJ hi hc h2) (by omega);have hstep:qfe bs lim (f+1) (p+j) (acc++qye bs p j) (if g+1=0 then acc.length+j else acc.length)=qfe bs lim f (p+(j+1)) (acc++qye bs p (j+1)) (if g=0 then acc.length+(j+1) else acc.length):=by
   rw[if_neg (by omega),qfe,hc];simp only[];rw[if_neg h2,if_neg (by omega),if_neg (by omega),if_neg h32,hal,hlen];have h0':¬(if j+1=qxU c0 then 2 else 1)=0:=by split<;>decide
   rw[if_neg h0',qyW hc,List.append_assoc];by_cases hg0:g=0
   ·rw[if_pos (show j+1=qxU c0 by omega),if_pos rfl,if_pos hg0];rfl
   rw[if_neg (show ¬j+1=qxU c0 by omega),if_neg (by decide),if_neg hg0];rfl
  rw[hstep,show f+1-(g+1)=f-g by omega];exact ih
theorem q4W (hl:Lm bs l lim)(hn:(n:Int)=min (bs.length:Int) lim)(hi:InR bs lim p)(h0:bs[p]? = some c0)(hp:¬(p:Int)=lim)(h1:¬c0.toNat=34)(h2:¬c0.toNat=92)(h3:¬c0.toNat<32)(acc:List UInt8)(g:Nat)(hg:bs.length+1≤p+g):match qgB bs n p c0 with
  |(k,true)=>1≤k∧InR bs lim (p+k)∧k≤g∧qfe bs lim g p acc acc.length=qfe bs lim (g-k) (p+k) (acc++qye bs p k) (acc++qye bs p k).length
  |(k,false)=>InR bs lim (p+k)∧qfe bs lim g p acc acc.length=.error (qr0 bs l (p+k) 9):=by
 have hlt:=ltL h0;have hadd:qc1 (acc.drop acc.length) c0=qc1 [] c0:=by rw[List.drop_length]
 obtain⟨g,rfl⟩:∃g',g=g'+1:=⟨g-1,by omega⟩
 have hs:qfe bs lim (g+1) p acc acc.length=if qc1 [] c0=0 then .error (9,(p:Int)) else qfe bs lim g (p+1) (acc++[c0]) (if qc1 [] c0=2 then acc.length+1 else acc.length):=by
  conv=>lhs;rw[qfe,h0]
  simp only[];rw[if_neg hp,if_neg (fun h=>h1 h.1),if_neg (fun h=>h2 h.1),if_neg h3,hadd]
 unfold qgB;rw[qzp] at hs;by_cases k0:qxU c0=0
 ·rw[if_pos k0];simp only[];rw[if_pos k0] at hs;simp only[Nat.add_zero];refine⟨hi,?_⟩;rw[hs,qxT hl hi h0 hp];rfl
 rw[if_neg k0];rw[if_neg k0] at hs;have hs2:qfe bs lim (g+1) p acc acc.length=qfe bs lim g (p+1) (acc++qye bs p 1) (if qxU c0-1=0 then acc.length+1 else acc.length):=by
  rw[hs,if_neg (by split<;>decide),q4n h0];by_cases k1:qxU c0=1
  ·rw[if_pos k1,if_pos rfl,if_pos (by omega)]
  rw[if_neg k1,if_neg (by decide),if_neg (by omega)]
 have hkl:=(qyw c0).2.2.2;have hm:=q2X hl hn h0 acc (qxU c0-1) 1 g (Nat.le_refl _) (by omega) (qxJ hi h0 hp) (by omega);rw[←hs2] at hm;generalize q2Q bs n p c0 (qxU c0-1) 1=r at hm ⊢;obtain⟨k,b⟩:=r;cases b
 ·exact⟨hm.2.1,hm.2.2⟩
 simp only[] at hm ⊢;obtain⟨a,b,c⟩:=hm;have:=b.1;refine⟨by omega,b,by omega,?_⟩;rw[c,show g-(qxU c0-1)=g+1-k by omega]
theorem q2z (hl:Lm bs l lim)(hn:(n:Int)=min (min (bs.length:Int) lim) (p+m:Nat))(h0:bs[p]? = some c0)(acc:List UInt8):∀(g j:Nat),1≤j→j+g=qxU c0→InR bs lim (p+j)→j≤m →
  match q2Q bs n p c0 g j with
  |(k,true)=>k=qxU c0∧InR bs lim (p+k)∧k≤m∧qfg bs lim (m-j) (p+j) (acc++qye bs p j) (if g=0 then acc.length+j else acc.length)=qfg bs lim (m-k) (p+k) (acc++qye bs p k) (acc++qye bs p k).length
  |(k,false)=>InR bs lim (p+k)∧k≤m∧qfg bs lim (m-j) (p+j) (acc++qye bs p j) (if g=0 then acc.length+j else acc.length)=(if k=m then .error (9,((p+k:Nat):Int)-1) else .error (qr0 bs l (p+k) 9))
 |0,j,hj,hg,hi,hm=>by
  rw[q2Q];simp only[];have hj2:j=qxU c0:=by omega
  subst hj2;refine⟨trivial,hi,hm,?_⟩;rw[if_pos trivial,List.length_append,q0i hi.1]
 |g+1,j,hj,hg,hi,hm=>by
  have hlen:(acc++qye bs p j).length=acc.length+j:=by rw[List.length_append,q0i hi.1]
  rw[q2Q];by_cases hnj:n≤p+j
  ·rw[if_pos hnj];simp only[];refine⟨hi,hm,?_⟩;rw[if_neg (by omega)];by_cases hjm:j=m
   ·rw[if_pos hjm,show m-j=0 by omega,qfg,if_neg (by omega)]
   rw[if_neg hjm];obtain⟨f,hf⟩:∃f',m-j=f'+1:=⟨m-j-1,by omega⟩
   rw[hf,qfg]
   cases hc:bs[p+j]? with
   |none=>simp only[];rw[qxY hi.1 hc]
   |some c =>
    have h1:=ltL hc;have h2:((p+j:Nat):Int)=lim:=by have:=hi.2;omega
    simp only[];rw[if_pos h2,qxW hl hc h2]
  rw[if_neg hnj];have h1:p+j<bs.length:=by omega
  have hc:=List.getElem?_eq_getElem h1;obtain⟨c,hcc⟩:∃c,c=bs[p+j]:=⟨_,rfl⟩
  rw[←hcc] at hc;rw[hc];simp only[];have h2:¬((p+j:Nat):Int)=lim:=by omega
  have hjm:¬j=m:=by omega
  obtain⟨f,hf⟩:∃f',m-j=f'+1:=⟨m-j-1,by omega⟩
  obtain⟨t,ht,htl⟩:=q2t h0 hj (by omega);have hal:=q53 c0 t c (by omega);have hcut:(acc++qye bs p j).drop acc.length=c0::t:=by rw[List.drop_left,ht]
  rw[←hcut,htl,show t.length+2=j+1 by omega] at hal;by_cases hb:qyB c0 j c=true
  ·rw[if_pos hb];simp only[];refine⟨hi,hm,?_⟩;rw[if_neg (by omega),if_neg hjm,hf,qfg,hc];simp only[];rw[if_pos hb] at hal;rw[if_neg h2,if_pos hal,qxT hl hi hc h2]
  rw[if_neg hb];rw[if_neg hb] at hal;have ih:=q2z hl hn h0 acc g (j+1) (by omega) (by omega) (qxJ hi hc h2) (by omega);have hstep:qfg bs lim (m-j) (p+j) (acc++qye bs p j) (if g+1=0 then acc.length+j else acc.length)=qfg bs lim (m-(j+1)) (p+(j+1)) (acc++qye bs p (j+1)) (if g=0 then acc.length+(j+1) else acc.length):=by
   rw[if_neg (by omega),hf,qfg,hc];simp only[];rw[if_neg h2,hal,hlen,show m-(j+1)=f by omega];have h0':¬(if j+1=qxU c0 then 2 else 1)=0:=by split<;>decide
   rw[if_neg h0',qyW hc,List.append_assoc];by_cases hg0:g=0
   ·rw[if_pos (show j+1=qxU c0 by omega),if_pos rfl,if_pos hg0];rfl
   rw[if_neg (show ¬j+1=qxU c0 by omega),if_neg (by decide),if_neg hg0];rfl
  rw[hstep];exact ih
theorem q0T (hl:Lm bs l lim)(hn:(n:Int)=min (min (bs.length:Int) lim) (p+m:Nat))(hi:InR bs lim p)(h0:bs[p]? = some c0)(hp:¬(p:Int)=lim)(hm0:0<m)(acc:List UInt8):match qgB bs n p c0 with
  |(k,true)=>1≤k∧InR bs lim (p+k)∧k≤m∧qfg bs lim m p acc acc.length=qfg bs lim (m-k) (p+k) (acc++qye bs p k) (acc++qye bs p k).length
  |(k,false)=>InR bs lim (p+k)∧k≤m∧qfg bs lim m p acc acc.length=(if k=m then .error (9,((p+k:Nat):Int)-1) else .error (qr0 bs l (p+k) 9)):=by
 have hlt:=ltL h0;have hadd:qc1 (acc.drop acc.length) c0=qc1 [] c0:=by rw[List.drop_length]
 have hs:qfg bs lim m p acc acc.length=if qc1 [] c0=0 then .error (9,(p:Int)) else qfg bs lim (m-1) (p+1) (acc++[c0]) (if qc1 [] c0=2 then acc.length+1 else acc.length):=by
  obtain⟨g,rfl⟩:∃g',m=g'+1:=⟨m-1,by omega⟩
  conv=>lhs;rw[qfg,h0]
  simp only[];rw[if_neg hp,hadd];rfl
 unfold qgB;rw[qzp] at hs;by_cases k0:qxU c0=0
 ·rw[if_pos k0];simp only[];rw[if_pos k0] at hs;simp only[Nat.add_zero];refine⟨hi,by omega,?_⟩;rw[if_neg (by omega),hs,qxT hl hi h0 hp];rfl
 rw[if_neg k0];rw[if_neg k0] at hs;have hs2:qfg bs lim m p acc acc.length=qfg bs lim (m-1) (p+1) (acc++qye bs p 1) (if qxU c0-1=0 then acc.length+1 else acc.length):=by
  rw[hs,if_neg (by split<;>decide),q4n h0];by_cases k1:qxU c0=1
  ·rw[if_pos k1,if_pos rfl,if_pos (by omega)]
  rw[if_neg k1,if_neg (by decide),if_neg (by omega)]
 have hm:=q2z hl hn h0 acc (qxU c0-1) 1 (Nat.le_refl _) (by omega) (qxJ hi h0 hp) (by omega);rw[←hs2] at hm;generalize q2Q bs n p c0 (qxU c0-1) 1=r at hm ⊢;obtain⟨k,b⟩:=r;cases b
 ·exact hm
 simp only[] at hm ⊢;obtain⟨a,b,c,d⟩:=hm;exact⟨by omega,b,c,d⟩
def qg2 (W:World)(base e:Nat)(v:Value)(bs:List UInt8):Prop:=Own W base v bs∧v.ownBlock≠some e∧e<W.heap.size
def qg5 (base e:Nat)(W W':World):Prop:=Below base W W'∧W'.heap[e]? = W.heap[e]?
theorem qg5.trans {A B C:World}(h:qg5 base e A B)(k:qg5 base e B C):qg5 base e A C:=⟨h.1.trans k.1,k.2.trans h.2⟩
theorem qb0 {a:Option Addr}{c:Nat}{u:Value}(h:qg2 W base e (.slice a n c) bs)(hu:qav b=u)(hown:W'.ownsRow base 5 1 v' (bs.length+1) (bs.map qav++[u]))(hgrow:(W.alloc (Obj.cells #[u] 5)).grownBy W' (Value.slice a n c).ownBlock)(hat:v'.ownBlock=(Value.slice a n c).ownBlock∨v'.ownBlock=some (W.alloc (Obj.cells #[u] 5)).heap.size):qg2 W' base e v' (bs++[b])∧qg5 base e W W':=by
 obtain⟨⟨ho,hb,_⟩,hne,hlt⟩:=h;have h1:=qax hb ho hu hown hgrow;have hs:=hgrow.size;simp at hs;refine⟨⟨h1.1,?_,by omega⟩,h1.2,?_⟩
 ·rcases hat with hat|hat
  ·rw[hat];exact hne
  rw[hat];simp;omega
 rw[hgrow.block e (by simp;omega) (fun x=>hne x.symm)];exact((Below.refl W.heap.size W).alloc (Nat.le_refl _) _).block e hlt
theorem qdv {W2:World}{ys zs:List UInt8}{v2:Value}(h:qg2 W' base e v' (bs++[b])∧qg5 base e W W')(h2:qg2 W2 base e v2 ((bs++[b])++ys))(hB:qg5 base e W' W2)(k:b::ys=zs):qg2 W2 base e v2 (bs++zs)∧qg5 base e W W2:=by
 subst k;refine⟨?_,h.2.trans hB⟩;rw[List.append_assoc] at h2;exact h2
theorem qbT (W:World)(base e:Nat)(v:Value)(bs:List UInt8)(x w:Nat)(_hx:x<18446744073709551616)(hw:w≤8)(hl:bs.length≤1000000000)(h:qg2 W base e v bs):Calls prog 202 #[v,.int .u64 x,.int .i64 w] W fun r W'=>∃v',r=.returned v'∧qg2 W' base e v' (bs++beF x w)∧qg5 base e W W':=by
 obtain⟨i0,hi,hz0,hz1,hz2⟩:=info_parts Tryz.infoU8;obtain⟨a,n,c,rfl⟩:=h.1.2.2;have HO:=qaa h;go_enter func202,ntmps202;go_wp2
 go_loopg [0,7] w (fun g y z wr=>∃(ys:List UInt8) (a n c:_),y=.slice a n c∧z=.int .i64 ((g:Int)-1)∧g≤w∧ys.length≤1000000000+(w-g)∧Hid (qg2 wr base e (.slice a n c) ys)∧Hid (qg5 base e W wr)∧Hid (ys++beF x g=bs++beF x w))
 case atStart=>exact⟨bs,a,n,c,rfl,by go_num,Nat.le_refl _,by omega,HO,⟨Below.refl _ _,rfl⟩,rfl⟩
 case round =>
  obtain⟨ys,a,n,c,rfl,rfl,hg,hyl,HO,HB,HE⟩:=hrel;have hb:=HO.out.1.2.1
  cases gk with
  |zero =>
   go_wp2;go_ret;have k:ys=bs++beF x w:=by have:=HE.out;simpa [beF] using this
   subst k;exact⟨_,rfl,HO.out,HB.out⟩
  |succ k =>
   go_wp2_with (first
    |(at_builtin;refine wpList_append_own_at _ rfl _ _ 28 rfl base 5 i0 (.int .u8 0) 1 1 underlying28 hi hz0 hz1 hz2 rfl (by decide) _ _ _ rfl (HO.out.1.1.alloc _) ⟨wr.heap.size,0,none⟩ 1 1 [.int .u8 ((x:Int) / 2^(8*k)%256)] rfl rfl (qag _ _ _) (fun u hu=>by simp at hu;subst hu;rfl) (by unfold maxLen;omega) (by omega) (by simp;omega) ?_;intro v' w5 hown' hgrow5 hnil5 hat5;have HN:=qaa (qb0 HO.out (qlF x k) hown' hgrow5 hat5);obtain⟨g5,cap5,rfl⟩:=ownsRow_succ hown'))
   go_roundg k
   case measure=>omega
   case rel =>
    refine⟨ys++[UInt8.ofNat (x / 2^(8*k)%256)],_,_,_,rfl,by go_num,by omega,by rw[List.length_append];simp;omega,HN.out.1,HB.out.trans HN.out.2,?_⟩;show _=_;have:=HE.out;rw[beF] at this;rw[List.append_assoc];exact this
end
end Go.Proofs.YtllcbnfmihfaaaaGreatDoor
